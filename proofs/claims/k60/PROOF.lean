import PyProof.Rows.All
import Wide.All
import OpenK.AllK
import Wide.FinOn
import Lean
import PyProof.EqAt
import PyProof.EqKinds
import PyProof.TupleCall
import PyProof.ReprRoads
import KE.KRevSl
import PySem.Challenge.RW_fencerow_k60_bare_and_fenced
set_option Elab.async false
set_option linter.all false
set_option maxRecDepth 100000
set_option maxHeartbeats 4000000
abbrev Fg := PySem.W.Frag
namespace L2
open PySem PySem.Spec PyProof.Rows
noncomputable abbrev Key:=Sum Int Str
noncomputable def zO:Key->Value->Bool
 | .inl k,v=>Value.isInt k v
 | .inr x,v=>Value.isStrOf x v
noncomputable def a0t (w:World):Key->Int
 | .inl k=>hashInt k
 | .inr x=>hashStr w x
theorem gf:∀{k:Key}{v:Value},zO k v=true->(∃i t,k=Sum.inl i/\v=Value.int i t)\/(∃x t,k=Sum.inr x/\v=Value.str x t)
 | .inl i,v,h=>by
   obtain⟨t,e⟩:=Value.isInt_shape (k:=i) (v:=v) h
   exact .inl ⟨i,t,rfl,e⟩
 | .inr x,v,h=>by
   obtain⟨t,e⟩:=Value.isStrOf_shape (x:=x) (v:=v) h
   exact .inr ⟨x,t,rfl,e⟩
theorem N7 (i:Int)(t:Tok):zO (.inl i) (.int i t)=true:=by simp[zO,Value.isInt]
theorem N8 (x:Str)(t:Tok):zO (.inr x) (.str x t)=true:=by simp[zO,Value.isStrOf]
theorem WM (a b:Int):decide ((Sum.inl a:Key)=Sum.inl b)=(a==b):=by
 by_cases e:a=b
 ·subst e;simp
 ·have h:¬(Sum.inl a:Key)=Sum.inl b:=λq=>e (Sum.inl.inj q)
  rw[decide_eq_false h]
  exact(beq_eq_false_iff_ne.mpr e).symm
theorem WR (a b:Str):decide ((Sum.inr a:Key)=Sum.inr b)=decide (a=b):=by
 by_cases e:a=b
 ·subst e;simp
 ·have h:¬(Sum.inr a:Key)=Sum.inr b:=λq=>e (Sum.inr.inj q)
  rw[decide_eq_false h,decide_eq_false e]
theorem WN (a:Int)(b:Str):decide ((Sum.inl a:Key)=Sum.inr b)=false:=decide_eq_false (λq=>nomatch q)
theorem WQ (a:Str)(b:Int):decide ((Sum.inr a:Key)=Sum.inl b)=false:=decide_eq_false (λq=>nomatch q)
noncomputable def cG (prog:Program)(w:World):PySem.KeyKind prog w Key where
 is:=zO
 hash:=a0t w
 inj:=λv a b ha hb=>by
  rcases gf ha with⟨i,t,rfl,rfl⟩|⟨x,t,rfl,rfl⟩
  ·rcases gf hb with⟨j,u,rfl,e⟩|⟨y,u,rfl,e⟩
   ·injection e with e1 _;rw[e1]
   ·exact nomatch e
  ·rcases gf hb with⟨j,u,rfl,e⟩|⟨y,u,rfl,e⟩
   ·exact nomatch e
   ·injection e with e1 _;rw[e1]
 byValue:=λk v h=>by
  rcases gf h with⟨i,t,rfl,rfl⟩|⟨x,t,rfl,rfl⟩<;>rfl
 pyHash:=λhv h=>by
  rcases gf hv with⟨i,t,rfl,rfl⟩|⟨x,t,rfl,rfl⟩
  ·exact wpAny_pyHash_int h
  ·exact wpAny_pyHash_str h
 eqBool:=λhu hv h=>by
  rcases gf hu with⟨i,t,rfl,rfl⟩|⟨x,t,rfl,rfl⟩
  ·rcases gf hv with⟨j,u,rfl,rfl⟩|⟨y,u,rfl,rfl⟩
   ·rw[WM]at h;exact wpAny_eqBool_int h
   ·rw[WN]at h;exact SeqAt.EqAt.int_str i t y u _ _ _ _ h
  ·rcases gf hv with⟨j,u,rfl,rfl⟩|⟨y,u,rfl,rfl⟩
   ·rw[WQ]at h;exact SeqAt.EqAt.str_int x t j u _ _ _ _ h
   ·rw[WR]at h;exact wpAny_eqBool_str h
 «strs»:=λk x t v h=>by
  rcases gf h with⟨i,u,rfl,e⟩|⟨y,u,rfl,e⟩
  ·exact nomatch e
  ·injection e with e1 _
   subst e1
   cases v<;>rfl
theorem Jp (prog:Program)(w:World)(k:Key)(v:Value):(cG prog w).is k v=zO k v:=rfl
theorem Hs (prog:Program)(w:World)(i:Int)(t:Tok):(cG prog w).is (.inl i) (.int i t)=true:=N7 i t
theorem Ht (prog:Program)(w:World)(x:Str)(t:Tok):(cG prog w).is (.inr x) (.str x t)=true:=N8 x t
end L2
namespace L2
open PySem PySem.Spec PyProof.Rows
inductive V where
 |non|bl (b:Bool)|int (i:Int)|str (x:Str)|Og (b:Array UInt8)|flt (b:UInt64)|ref (a:Addr)|ty (n:String)
 deriving DecidableEq
noncomputable def RelV:V->Value->Prop
 | .non,u=>u=Value.none
 | .bl b,u=>u=Value.bool b
 | .int i,u=>∃t,u=Value.int i t
 | .str x,u=>∃t,u=Value.str x t
 | .Og b,u=>∃t,u=Value.bytes b t
 | .flt b,u=>∃t,u=Value.float b t
 | .ref a,u=>u=Value.ref a
 | .ty n,u=>u=Value.type n
noncomputable abbrev Vals:List V->List Value->Prop:=Paired RelV
theorem Vals.length {xs:List V}{us:List Value}(r:Vals xs us):xs.length=us.length:=Paired.length r
theorem Vals.get:∀{xs:List V}{us:List Value}{i:Nat}{x:V},Vals xs us->xs[i]?=some x->∃u,us[i]?=some u/\RelV x u
 |_,_,_,_,.nil,e=>by simp at e
 |_,_,0,_,.cons r _,e=>by simp at e;subst e;exact⟨_,rfl,r⟩
 |_,_,i+1,x,.cons _ t,e=>by
  obtain⟨u,h1,h2⟩:=Vals.get (i:=i) (x:=x) t (by simpa using e)
  exact⟨u,by simpa using h1,h2⟩
theorem Vals.set {x:V}{u:Value}(r:RelV x u):∀{xs:List V}{us:List Value} (i:Nat),Vals xs us->Vals (xs.set i x) (us.set i u)
 |_,_,_,.nil=> .nil
 |_,_,0,.cons _ t=> .cons r t
 |_,_,i+1,.cons q t=> .cons q (Vals.set r i t)
theorem Vals.append:∀{xs ys:List V}{us ws:List Value},Vals xs us->Vals ys ws->Vals (xs++ys) (us++ws)
 |_,_,_,_,.nil,s=>s
 |_,_,_,_,.cons r t,s=> .cons r (Vals.append t s)
theorem Vals.take:∀{xs:List V}{us:List Value} (n:Nat),Vals xs us->Vals (xs.take n) (us.take n)
 |_,_,0,_=> .nil
 |_,_,_+1,.nil=> .nil
 |_,_,n+1,.cons r t=> .cons r (Vals.take n t)
theorem Vals.drop:∀{xs:List V}{us:List Value} (n:Nat),Vals xs us->Vals (xs.drop n) (us.drop n)
 |_,_,0,r=>r
 |_,_,_+1,.nil=> .nil
 |_,_,n+1,.cons _ t=>Vals.drop n t
theorem Vals.none_of:∀{xs:List V}{us:List Value}{i:Nat},Vals xs us->xs[i]?=none->us[i]?=none:=λ{xs us i} r e=>by
 have h1:=r.length
 have h2:xs.length<=i:=List.getElem?_eq_none_iff.mp e
 exact List.getElem?_eq_none_iff.mpr (by omega)
noncomputable def tL:Option V->Option Value->Prop
 |some v,some u=>RelV v u
 |none,none=>True
 |_,_=>False
noncomputable def KV {κ:Type}:List (κ×V)->List (κ×Value)->Prop:=Paired λ(p:κ×V) (q:κ×Value)=>p.1=q.1/\RelV p.2 q.2
noncomputable def kV:Key->V
 | .inl i=> .int i
 | .inr x=> .str x
inductive HO where
 |lst (xs:List V)
 |tup (xs:List V)
 |dK (kvs:List (Key×V))|dT (kvs:List (List Key×V))
 |set (S:Int->Bool) (n:Nat)
 |ins (C dx:Addr) (fs:List (Str×V))
 |own (x:Addr)
 |xd (fs:List (Str×V))
 |met (f x:Addr)
 |rng (lo hi:Int)
 |tO (o:Obj) (u:HO)
 |Y5 (ps:Array Value)
 |ext (φ:Heap->Prop)
noncomputable abbrev Hp:=Addr->Option HO
noncomputable def upd (H:Hp)(a:Addr)(o:HO):Hp:=λb=>if b=a then some o else H b
theorem cM {H:Hp}{a:Addr}{o:HO}:upd H a o a=some o:=by unfold upd;rw[if_pos rfl]
theorem bM {H:Hp}{a b:Addr}{o:HO}(h:b≠a):upd H a o b=H b:=by unfold upd;rw[if_neg h]
theorem Zd {H:Hp}{a b:Addr}{o u:HO}(h:H a=some o)(h':H b=some u)(d:o≠u):a≠b:=by
 intro e;subst e;rw[h]at h';exact d (Option.some.inj h')
theorem cO {H:Hp}{a b:Addr}{o:HO}(h:H a=some o)(h':H b=none):a≠b:=by
 intro e;subst e;rw[h]at h';cases h'
noncomputable def uR (h:Heap)(a:Addr)(items:Array Value):Prop:=∃o,h.get? a=some o/\o.cls= .type "tuple"/\(∃n,o.data= .seq items n)/\o.dict=none
theorem uR.isTup {h:Heap}{a:Addr}{items:Array Value}(x:uR h a items):IsTup h a items:=let⟨o,h1,h2,h3,_⟩:=x;⟨o,h1,h2,h3⟩
theorem uR.lt {h:Heap}{a:Addr}{items:Array Value}(x:uR h a items):a<h.objs.size:=let⟨_,ho,_⟩:=x;Heap.lt_size ho
theorem uR.new (h:Heap)(items:Array Value):uR (h.push { cls:= .type "tuple",data:= .seq items }) h.objs.size items:=⟨_,Heap.get?_push_size _ rfl,rfl,⟨_,rfl⟩,rfl⟩
section
variable (P:Program)(w:World)
noncomputable def gM (H:Hp)(h:Heap)(a:Addr):HO->Prop
 | .lst xs=>xs.length<=sizeLine/\∃(its:List Value) (n:Nat),Vals xs its/\h.get? a=some { cls:= .type "list",data:= .seq its.toArray n }
 | .tup xs=>xs.length<=sizeLine/\∃its:List Value,Vals xs its/\uR h a its.toArray
 | .dK kvs=>kvs.length<=sizeLine/\(a==sysModules)=false/\∃vs,KV kvs vs/\h.DictOf (cG P w) a vs
 | .dT kvs=>kvs.length<=sizeLine/\(a==sysModules)=false/\∃xs:List (List Key×Addr×Value),
  Paired (λ(p:List Key×V) (q:List Key×Addr×Value)=>p.1=q.1/\H q.2.1=some (.tup (p.1.map kV))/\RelV p.2 q.2.2) kvs xs/\
  ∃o es ep,h.get? a=some o/\o.ExactDict/\o.data= .dict es ep/\es.toList=xs.map (entryOfKey (tupleKind (cG P w)))/\(xs.map (·.1)).Nodup
 | .set S n=>h.SetOf (intKind P w) a S n
 | .ins C dx fs=>H dx=some (.own a)/\fs.length<=1000/\dx≠a/\h.get? a=some (PySem.W.instObj C dx)/\
  ∃mA,h.Ns1 dx mA/\(∀f,tL (fs.lookup f) (mA f))/\PySem.Within mA (fs.map (·.1))
 | .own _=>∃o,h.get? a=some o
 | .xd fs=>∃mA,h.Ns1 a mA/\∀f,tL (fs.lookup f) (mA f)
 | .rng lo hi=>∃t u v,h.get? a=some { cls:= .type "range",data:= .fields #[.int lo t,.int hi u,.int 1 v] }
 | .tO o u=>h.get? a=some o/\gM H h a u
 | .Y5 ps=>h.get? a=some { cls:= .none,data:= .fields ps }
 | .met f x=>h.get? a=some (PySem.W.methodObj (.ref f) (.ref x))
 | .ext φ=>φ h/\(∃o,h.get? a=some o)/\∀h1 h2:Heap,φ h1->(∀o,h1.get? a=some o->h2.get? a=some o)->φ h2
noncomputable def tX (H:Hp)(h:Heap):Prop:=∀a o,H a=some o->gM P w H h a o
end
section
variable {P:Program}{w:World}{H H':Hp}{h h':Heap}{a:Addr}{o:HO}
theorem gM.lt (x:gM P w H h a o):a<h.objs.size:=by
 cases o with
 |lst xs=>obtain⟨_,_,_,_,e⟩:=x;exact Heap.lt_size e
 |tup xs=>obtain⟨_,_,_,p⟩:=x;exact p.lt
 |dK kvs=>obtain⟨_,_,_,_,o,_,_,e,_⟩:=x;exact Heap.lt_size e
 |dT kvs=>obtain⟨_,_,_,_,o,_,_,e,_⟩:=x;exact Heap.lt_size e
 |set S n=>obtain⟨o,_,_,_,e,_⟩:=x;exact Heap.lt_size e
 |ins C dx fs=>obtain⟨_,_,_,e,_⟩:=x;exact Heap.lt_size e
 |own y=>obtain⟨_,e⟩:=x;exact Heap.lt_size e
 |xd fs=>obtain⟨_,⟨_,_,_,e,_⟩,_⟩:=x;exact Heap.lt_size e
 |rng lo hi=>obtain⟨_,_,_,e⟩:=x;exact Heap.lt_size e
 |tO ob u=>obtain⟨e,_⟩:=x;exact Heap.lt_size e
 |Y5 ps=>exact Heap.lt_size (show h.get? a=some _ from x)
 |met f y=>exact Heap.lt_size (show h.get? a=some _ from x)
 |ext φ=>obtain⟨_,⟨_,e⟩,_⟩:=x;exact Heap.lt_size e
theorem Paired.WX {α β:Type}{F G:α->β->Prop}:∀{l₁:List α}{l₂:List β},Paired F l₁ l₂->(∀a b,F a b->G a b)->Paired G l₁ l₂
 |_,_,.nil,_=> .nil
 |_,_,.cons r t,f=> .cons (f _ _ r) (Paired.WX t f)
theorem gM.stay (x:gM P w H h a o)(k:∀b u,(b=a\/H b=some (.own a))->h.get? b=some u->h'.get? b=some u)
 (ho:∀b,H b=some (.own a)->H' b=some (.own a))(ht:∀b xs,H b=some (.tup xs)->H' b=some (.tup xs)):gM P w H' h' a o:=by
 induction o with
 |lst xs=>obtain⟨z,its,n,r,e⟩:=x;exact⟨z,its,n,r,k _ _ (.inl rfl) e⟩
 |tup xs=>obtain⟨z,its,r,ob,e,c⟩:=x;exact⟨z,its,r,ob,k _ _ (.inl rfl) e,c⟩
 |dK kvs=>obtain⟨z,y,vs,r,ob,es,ep,e,c⟩:=x;exact⟨z,y,vs,r,ob,es,ep,k _ _ (.inl rfl) e,c⟩
 |dT kvs=>
  obtain⟨z,y,xs,r,ob,es,ep,e,c⟩:=x
  exact⟨z,y,xs,Paired.WX r λp q z=>⟨z.1,ht _ _ z.2.1,z.2.2⟩,ob,es,ep,k _ _ (.inl rfl) e,c⟩
 |set S n=>obtain⟨ob,es,ep,t,e,c⟩:=x;exact⟨ob,es,ep,t,k _ _ (.inl rfl) e,c⟩
 |ins C dx fs=>
  obtain⟨d,z,ne,e,mA,⟨od,es,ep,e2,c⟩,r⟩:=x
  exact⟨ho _ d,z,ne,k _ _ (.inl rfl) e,mA,⟨od,es,ep,k _ _ (.inr d) e2,c⟩,r⟩
 |own y=>obtain⟨ob,e⟩:=x;exact⟨ob,k _ _ (.inl rfl) e⟩
 |xd fs=>obtain⟨mA,⟨od,es,ep,e,c⟩,r⟩:=x;exact⟨mA,⟨od,es,ep,k _ _ (.inl rfl) e,c⟩,r⟩
 |rng lo hi=>obtain⟨t,u,v,e⟩:=x;exact⟨t,u,v,k _ _ (.inl rfl) e⟩
 |tO ob u ih=>obtain⟨e,q⟩:=x;exact⟨k _ _ (.inl rfl) e,ih q⟩
 |Y5 ps=>
  have e:h.get? a=some { cls:= .none,data:= .fields ps }:=x
  show h'.get? a=some { cls:= .none,data:= .fields ps }
  exact k a _ (.inl rfl) e
 |met f y=>
  have e:h.get? a=some (PySem.W.methodObj (.ref f) (.ref y)):=x
  show h'.get? a=some (PySem.W.methodObj (.ref f) (.ref y))
  exact k a _ (.inl rfl) e
 |ext φ=>obtain⟨p,⟨o,e⟩,st⟩:=x;exact⟨st _ _ p λo q=>k _ _ (.inl rfl) q,⟨o,k _ _ (.inl rfl) e⟩,st⟩
theorem tX.lt (x:tX P w H h)(e:H a=some o):a<h.objs.size:=(x a o e).lt
theorem tX.fresh (x:tX P w H h)(e:h.objs.size<=a):H a=none:=by
 cases q:H a with
 |none=>rfl
 |some u=>exact absurd (Nat.lt_of_lt_of_le (x.lt q) e) (Nat.lt_irrefl _)
theorem tX.kept (x:tX P w H h)(k:∀b u,h.get? b=some u->h'.get? b=some u):tX P w H h':=λa o e=>
 (x a o e).stay (λb u _ q=>k b u q) (λ_ q=>q) λ_ _ q=>q
theorem tX.laid (x:tX P w H h)(k:∀b u,h.get? b=some u->h'.get? b=some u)(hp:h.objs.size<=a)(new:gM P w (upd H a o) h' a o):tX P w (upd H a o) h':=λb u e=>by
 have hn:=x.fresh hp
 by_cases hb:b=a
 ·subst hb;rw[cM]at e;cases e;exact new
 ·rw[bM hb]at e
  exact(x b u e).stay (λc v _ q=>k c v q) (λc q=>by rw[bM (cO q hn)];exact q) λc xs q=>by rw[bM (cO q hn)];exact q
end
noncomputable def Rd (H:Hp)(a:Addr)(u:HO):Prop:=H a=some u\/∃o,H a=some (.tO o u)
theorem Rd.ok {P:Program}{w:World}{H:Hp}{h:Heap}{a:Addr}{u:HO}(r:Rd H a u)(x:tX P w H h):gM P w H h a u:=by
 rcases r with r|⟨o,r⟩
 ·exact x a u r
 ·obtain⟨_,q⟩:=x a _ r
  exact q
noncomputable def Ym:Option HO->Prop
 |some (.lst _)=>True
 |some (.dK _)=>True
 |some (.dT _)=>True
 |some (.set _ _)=>True
 |some (.ins _ _ _)=>True
 |some (.ext _)=>True
 |_=>False
section
variable {P:Program}{w:World}{H:Hp}{h h':Heap}{x e:Addr}{o':HO}
theorem tX.write (ok:tX P w H h)(mu:Ym (H x))(he:e=x\/H e=some (.own x))(k:∀b u,b≠e->h.get? b=some u->h'.get? b=some u)(heo:∃u,h'.get? e=some u)
 (new:gM P w (upd H x o') h' x o'):tX P w (upd H x o') h':=λb u q=>by
 have Zg:∀c y,H c=some (.own y)->c≠x:=λc y r z=>by subst z;rw[r]at mu;exact mu
 have a0z:∀c xs,H c=some (.tup xs)->c≠x:=λc xs r z=>by subst z;rw[r]at mu;exact mu
 by_cases hb:b=x
 ·subst hb;rw[cM]at q;cases q;exact new
 ·rw[bM hb]at q
  by_cases hbe:b=e
  ·have q':H b=some (.own x):=by
    rcases he with z|z
    ·exact absurd (hbe.trans z) hb
    ·rw[hbe];exact z
   rw[q]at q';cases q'
   obtain⟨v,hv⟩:=heo
   exact⟨v,by rw[hbe];exact hv⟩
  ·refine(ok b u q).stay (λc v hc r=>k c v ?_ r) (λc r=>by rw[bM (Zg c b r)];exact r) λc xs r=>by rw[bM (a0z c xs r)];exact r
   rcases hc with rfl|hc
   ·exact hbe
   ·rintro rfl
    rcases he with z|z
    ·exact Zg c b hc z
    ·rw[hc]at z;cases z;exact hb rfl
end
structure Un (fs ex:List Addr)(H H':Hp)(h h':Heap):Prop where
 keep:∀b o,h.get? b=some o->H b=none->b∉fs->b∉ex->h'.get? b=some o
 slot:∀b o,h.get? b=some o->H b=none->b∈fs->b∉ex->∃sl,h'.get? b=some { o with slots:=sl }
 free:∀b o,h.get? b=some o->H b=none->b∉ex->H' b=none
 there:∀b o,h.get? b=some o->b∉ex->∃o',h'.get? b=some o'
 tups:∀b xs,H b=some (.tup xs)->H' b=some (.tup xs)
 Bm:∀b o u,H b=some (.tO o u)->H' b=some (.tO o u)
 Fp:∀b ps,H b=some (.Y5 ps)->∃more,H' b=some (.Y5 (ps++more))
section
variable {fs fs' ex ex':List Addr}{H H1 H2:Hp}{h h1 h2 h':Heap}{a x e:Addr}{o:HO}
theorem Un.any (u:Un fs ex H H1 h h1){b:Addr}{ob:Obj}(q:h.get? b=some ob)(n:H b=none)(hx:b∉ex):∃sl,h1.get? b=some { ob with slots:=sl }:=by
 by_cases hb:b∈fs
 ·exact u.slot b ob q n hb hx
 ·exact⟨ob.slots,u.keep b ob q n hb hx⟩
theorem Un.kept (k:∀b u,h.get? b=some u->h'.get? b=some u):Un fs ex H H h h':=
 ⟨λb ob q _ _ _=>k b ob q,λb ob q _ _ _=>⟨ob.slots,k b ob q⟩,λ_ _ _ n _=>n,λb ob q _=>⟨ob,k b ob q⟩,λ_ _ q=>q,λ_ _ _ q=>q,λ_ ps q=>⟨#[],by rw[q];simp⟩⟩
theorem Un.refl:Un fs ex H H h h:=Un.kept λ_ _ q=>q
theorem Un.laid (k:∀b u,h.get? b=some u->h'.get? b=some u)(hp:h.objs.size<=a)(hn:H a=none):Un fs ex H (upd H a o) h h' where
 keep:=λb u q _ _ _=>k b u q
 slot:=λb u q _ _ _=>⟨u.slots,k b u q⟩
 free:=λb u q n _=>by rw[bM (Nat.ne_of_lt (Nat.lt_of_lt_of_le (Heap.lt_size q) hp))];exact n
 there:=λb u q _=>⟨u,k b u q⟩
 tups:=λb xs q=>by rw[bM (cO q hn)];exact q
 Bm:=λb u xs q=>by rw[bM (cO q hn)];exact q
 Fp:=λb ps q=>⟨#[],by rw[bM (cO q hn),q];simp⟩
theorem Un.write (mu:Ym (H x))(he:e=x\/H e=some (.own x))(k:∀b u,b≠e->h.get? b=some u->h'.get? b=some u)(heo:∃u,h'.get? e=some u):Un fs ex H (upd H x o) h h':=by
 have hx:∀b,H b=none->b≠x:=λb n z=>by subst z;rw[n]at mu;exact mu
 have hb:∀b,H b=none->b≠e:=λb n z=>by
  subst z
  rcases he with r|r
  ·exact hx b n r
  ·rw[n]at r;cases r
 have hm:∀b u,H b=some u->¬Ym (some u)->b≠x:=λb u q nm z=>by subst z;rw[q]at mu;exact nm mu
 refine⟨λb u q n _ _=>k b u (hb b n) q,λb u q n _ _=>⟨u.slots,k b u (hb b n) q⟩,λb u q n _=>by rw[bM (hx b n)];exact n,λb u q _=>?_,
  λb xs q=>by rw[bM (hm b _ q λz=>z)];exact q,λb u xs q=>by rw[bM (hm b _ q λz=>z)];exact q,λb ps q=>⟨#[],by rw[bM (hm b _ q λz=>z),q];simp⟩⟩
 by_cases hbe:b=e
 ·subst hbe;exact heo
 ·exact⟨u,k b u hbe q⟩
end
noncomputable def trk (h:Heap)(H:Hp):List Addr:=(List.range h.objs.size).filter λa=>(H a).isSome
noncomputable def Ed (h:Heap)(H:Hp):Heap:=PySem.W.hideAll h (trk h H)
theorem MT (h:Heap)(H:Hp):(Ed h H).objs.size=h.objs.size:=PySem.W.hideAll_size _ _
theorem Q7 {h:Heap}{H:Hp}{b:Addr}{o:Obj}(e:h.get? b=some o)(n:H b=none):(Ed h H).get? b=some o:=
 PySem.W.hideAll_get _ e λhm=>by
  have q:(H b).isSome=true:=(List.mem_filter.mp hm).2
  rw[n]at q;simp at q
theorem TX {h:Heap}{H:Hp}{b:Addr}{o:Obj}(e:(Ed h H).get? b=some o):h.get? b=some o/\H b=none:=by
 have e':h.get? b=some o:=PySem.W.of_hideAll (trk h H) e
 refine⟨e',?_⟩
 cases q:H b with
 |none=>rfl
 |some x=>
  have hm:b∈trk h H:=List.mem_filter.mpr ⟨List.mem_range.mpr (Heap.lt_size e'),by simp[q]⟩
  have z:(Ed h H).get? b=none:=PySem.W.hideAll_none (trk h H) hm
  rw[z]at e;cases e
end L2
namespace L2
open PySem PySem.Spec PyProof.Rows
structure Mod (K:Fg)(mg:Str->Option Value)(base:Heap):Prop where
 kin:K.In base
 glob:base.Ns mainGlobals mg
 blt:∃mb,base.Ns builtinsNs mb/\∀x:Str,x≠"__name__"->mb x=bootBuiltins x
 nolimit:base.NoLimit
structure Cx where
 prog:Program
 w:World
 K:Fg
 mg:Str->Option Value
 base:Heap
 A:Around
 N:List Str
 s₀:Shared
 H₀:Hp
 env:Env
 outer:List Env
 stack:List Env
 ex:List Addr
 fn:Str->Bool
 calm:Bool
 pn:List (Addr×Obj)
 xe:Value->Shared->Prop
noncomputable def frs (l:List Env):List Addr:=l.filterMap (·.frame)
noncomputable abbrev Cx.fs (X:Cx):List Addr:=frs X.outer
noncomputable def Yr (sc:Scope)(x:Str):Prop:=sc.names.lookup x=some .local\/sc.names.lookup x=some .cell\/sc.names.lookup x=some .free
noncomputable def Loc (sc:Scope)(x:Str):Prop:=sc.names.lookup x=some .local\/sc.names.lookup x=some .cell
noncomputable def Look (env:Env)(h:Heap)(m:Str->Option Value)(x:Str)(u:Value):Prop:=
 (env.kindOf x=some .local/\m x=some u)\/((env.kindOf x=some .cell\/env.kindOf x=some .free)/\∃c,env.cells.lookup x=some c/\h.IsCell c (some u))
structure Cx.Ok (X:Cx):Prop where
 mod:Mod X.K X.mg X.base
 kind:X.env.scope.kind= .function
 glob:X.env.globals=mainGlobals
 blt:X.env.builtins=builtinsNs
 above:X.s₀.heap.objs.size<=X.env.locals
 inj:∀x y c,X.env.cells.lookup x=some c->X.env.cells.lookup y=some c->x=y
 has:∀x,(X.env.kindOf x=some .cell\/X.env.kindOf x=some .free)->∃c,X.env.cells.lookup x=some c
 cab:∀x c,X.fn x=true->X.env.cells.lookup x=some c->X.s₀.heap.objs.size<=c
 hd:X.calm=true->X.A.handled=none
 frames:X.A.frames=some X.stack
 stk:X.stack=X.outer\/(X.stack=X.env::X.outer/\X.env.frame=some X.env.locals)
 exf:∀b∈X.ex,b≠X.env.locals/\∀x c,X.env.cells.lookup x=some c->c≠b
 bs:∀b o,X.base.get? b=some o->X.s₀.heap.get? b=some o/\X.H₀ b=none
 S7:X.base.objs.size<=X.s₀.heap.objs.size
 Qp:∀b o,X.base.get? b=some o->b∉X.ex
 Py:∀b∈X.ex,b∉X.fs
 yF:X.s₀.heap.FunFrames X.base X.outer
 Wo:∀b∈X.fs,X.H₀ b=none
structure Inv (X:Cx)(pins:List (Addr×Obj))(σ:List (Option V))(H:Hp)(s:Shared):Prop where
 ok:X.Ok
 os:s.os=X.s₀.os
 bare:AllBare s.gens
 base:Un X.fs X.ex X.H₀ H X.s₀.heap s.heap
 loc:∃m,s.heap.Ns X.env.locals m/\∀(i:Nat) (x:Str) (v:V),X.N[i]?=some x->σ[i]?=some (some v)->Yr X.env.scope x->∃u,RelV v u/\Look X.env s.heap m x u
 cell:∀x c,X.env.cells.lookup x=some c->∃v,s.heap.IsCell c v
 free:H X.env.locals=none
 rD:∀x c,X.env.cells.lookup x=some c->H c=none
 pin:∀p∈X.pn++pins,s.heap.get? p.1=some p.2/\H p.1=none/\p.1≠X.env.locals/\p.1∉X.fs/\∀v,p.2.data≠ .cell v
 hok:tX X.prog X.w H s.heap
 len:σ.length=X.N.length
section
variable {X:Cx}{pins:List (Addr×Obj)}{σ:List (Option V)}{H H':Hp}{s:Shared}{h':Heap}
theorem Cx.Ok.a0x (ok:X.Ok){b:Addr}{o:Obj}(e:X.base.get? b=some o):b∉X.fs:=λhb=>by
 have:=(ok.yF.mem hb).1
 rw[e]at this;cases this
theorem Inv.bs (I:Inv X pins σ H s):∀b o,X.base.get? b=some o->s.heap.get? b=some o/\H b=none:=λb o e=>
 ⟨I.base.keep b o (I.ok.bs b o e).1 (I.ok.bs b o e).2 (I.ok.a0x e) (I.ok.Qp b o e),I.base.free b o (I.ok.bs b o e).1 (I.ok.bs b o e).2 (I.ok.Qp b o e)⟩
theorem Inv.bk (I:Inv X pins σ H s):∀b o,X.base.get? b=some o->s.heap.get? b=some o:=λb o e=>(I.bs b o e).1
theorem Inv.mod (I:Inv X pins σ H s):Mod X.K X.mg X.base:=I.ok.mod
theorem Inv.wC (I:Inv X pins σ H s):X.K.In s.heap:=I.ok.mod.kin.keeps I.bk
theorem Inv.lt (I:Inv X pins σ H s):X.env.locals<s.heap.objs.size:=let⟨_,hn,_⟩:=I.loc;hn.lt
theorem Inv.sz (I:Inv X pins σ H s):X.s₀.heap.objs.size<=s.heap.objs.size:=Nat.le_trans I.ok.above (Nat.le_of_lt I.lt)
theorem Inv.a0y (I:Inv X pins σ H s){a:Addr}(h:s.heap.objs.size<=a):a∉X.fs:=λhb=>by
 obtain⟨_,o,ho,_⟩:=I.ok.yF.mem hb
 exact absurd (Nat.lt_of_lt_of_le (Heap.lt_size ho) (Nat.le_trans I.sz h)) (Nat.lt_irrefl _)
theorem Inv.W4 (I:Inv X pins σ H s):∀x c,X.env.cells.lookup x=some c->c≠X.env.locals:=λx c e z=>by
 obtain⟨v,o,ho,hd⟩:=I.cell x c e
 obtain⟨m,⟨o',es,ep,ho',hd',_⟩,_⟩:=I.loc
 rw[z,ho']at ho;cases ho;rw[hd']at hd;cases hd
theorem Inv.yF (I:Inv X pins σ H s):s.heap.FunFrames X.base X.outer:=by
 have all:∀(l:List Env),(∀b∈frs l,b∈X.fs)->X.s₀.heap.FunFrames X.base l->s.heap.FunFrames X.base l:=by
  intro l
  induction l with
  |nil=>intro _ _;trivial
  |cons env r ih=>
   intro hs hl
   obtain⟨hk,⟨L,o,hf,hn,ho,hd⟩,hr⟩:=hl
   have hL:L∈X.fs:=hs L (by unfold frs;rw[List.filterMap_cons,hf];exact List.mem_cons_self)
   obtain⟨sl,e⟩:=I.base.slot L o ho (I.ok.Wo L hL) hL λz=>I.ok.Py L z hL
   exact⟨hk,⟨L,_,hf,hn,e,hd⟩,ih (λb hb=>hs b (by unfold frs;rw[List.filterMap_cons,hf];exact List.mem_cons_of_mem _ hb)) hr⟩
 exact all X.outer (λ_ hb=>hb) I.ok.yF
theorem Inv.stack (I:Inv X pins σ H s):s.heap.FunFrames X.base X.stack:=by
 rcases I.ok.stk with e|⟨e,hf⟩
 ·rw[e];exact I.yF
 ·rw[e]
  obtain⟨m,hn,_⟩:=I.loc
  refine .cons (by rw[I.ok.kind];decide) hf hn ?_ I.yF
  exact Heap.get?_none_of_le (Nat.le_trans I.ok.S7 I.ok.above)
theorem Inv.JM (I:Inv X pins σ H s):∀b∈frs X.stack,b∈X.env.locals::X.fs:=λb hb=>by
 rcases I.ok.stk with e|⟨e,hf⟩
 ·rw[e]at hb;exact List.mem_cons_of_mem _ hb
 ·rw[e]at hb
  unfold frs at hb
  rw[List.filterMap_cons,hf]at hb
  exact hb
theorem Inv.Lq (I:Inv X pins σ H s):∀b∈frs X.stack,H b=none:=λb hb=>by
 rcases List.mem_cons.mp (I.JM b hb)with e|hb
 ·rw[e];exact I.free
 ·obtain⟨_,o,ho,_⟩:=I.ok.yF.mem hb
  exact I.base.free b o ho (I.ok.Wo b hb) λz=>I.ok.Py b z hb
theorem Inv.step {g':Array GenState}{t':Nat}{d':Drawn}{ch:List Addr}(I:Inv X pins σ H s)
 (hch:∀b∈ch,(b∈X.ex\/X.s₀.heap.objs.size<=b)/\b≠X.env.locals/\(∀x c,X.env.cells.lookup x=some c->c≠b)/\∀p∈X.pn++pins,p.1≠b)
 (keep:∀b o,b≠X.env.locals->b∉X.fs->b∉ch->s.heap.get? b=some o->H b=none->h'.get? b=some o)
 (slot:∀b o,b≠X.env.locals->b∈X.fs->b∉ch->s.heap.get? b=some o->H b=none->∃sl,h'.get? b=some { o with slots:=sl })(free:∀b o,b∉ch->s.heap.get? b=some o->H b=none->H' b=none)
 (there:∀b o,b∉ch->s.heap.get? b=some o->∃o',h'.get? b=some o')
 (tups:∀b xs,H b=some (.tup xs)->H' b=some (.tup xs))(Bm:∀b o u,H b=some (.tO o u)->H' b=some (.tO o u))(Fp:∀b ps,H b=some (.Y5 ps)->∃more,H' b=some (.Y5 (ps++more)))
 (ns:∀m,s.heap.Ns X.env.locals m->h'.Ns X.env.locals m)(hok:tX X.prog X.w H' h')(hg:AllBare g'):
 Inv X pins σ H' { s with heap:=h',gens:=g',drawn:=d',toks:=t' }:=by
 have neL:∀b o,X.s₀.heap.get? b=some o->b≠X.env.locals:=λb o e=>Nat.ne_of_lt (Nat.lt_of_lt_of_le (Heap.lt_size e) I.ok.above)
 have RD:∀b o,X.s₀.heap.get? b=some o->b∉X.ex->b∉ch:=λb o e hx hb=>by
  rcases(hch b hb).1 with z|z
  ·exact hx z
  ·exact absurd (Nat.lt_of_lt_of_le (Heap.lt_size e) z) (Nat.lt_irrefl _)
 have cellK:∀x c,X.env.cells.lookup x=some c->∀v,s.heap.IsCell c v->h'.IsCell c v:=λx c e v ⟨o,ho,hd⟩=>by
  have Zc:c∉ch:=λz=>(hch c z).2.2.1 x c e rfl
  by_cases hc:c∈X.fs
  ·obtain⟨sl,q⟩:=slot c o (I.W4 x c e) hc Zc ho (I.rD x c e)
   exact⟨_,q,hd⟩
  ·exact⟨o,keep c o (I.W4 x c e) hc Zc ho (I.rD x c e),hd⟩
 refine⟨I.ok,I.os,hg,⟨λb o e n hb hx=>?_,λb o e n hb hx=>?_,λb o e n hx=>?_,λb o e hx=>?_,λb xs e=>tups b xs (I.base.tups b xs e),λb o xs e=>Bm b o xs (I.base.Bm b o xs e),λb ps e=>?_⟩,?_,λx c e=>?_,?_,λx c e=>?_,λp hp=>?_,hok,I.len⟩
 ·exact keep b o (neL b o e) hb (RD b o e hx) (I.base.keep b o e n hb hx) (I.base.free b o e n hx)
 ·obtain⟨sl,e1⟩:=I.base.slot b o e n hb hx
  obtain⟨sl',e2⟩:=slot b _ (neL b o e) hb (RD b o e hx) e1 (I.base.free b o e n hx)
  exact⟨sl',e2⟩
 ·obtain⟨o',e1⟩:=I.base.there b o e hx
  exact free b o' (RD b o e hx) e1 (I.base.free b o e n hx)
 ·obtain⟨o',e1⟩:=I.base.there b o e hx
  exact there b o' (RD b o e hx) e1
 ·obtain⟨m1,e1⟩:=I.base.Fp b ps e
  obtain⟨m2,e2⟩:=Fp b _ e1
  exact⟨m1++m2,by rw[e2,Array.append_assoc]⟩
 ·obtain⟨m,hn,hl⟩:=I.loc
  refine⟨m,ns m hn,λi x v e1 e2 e3=>?_⟩
  obtain⟨u,r,l⟩:=hl i x v e1 e2 e3
  refine⟨u,r,?_⟩
  rcases l with l|⟨k,c,e,z⟩
  ·exact .inl l
  ·exact .inr ⟨k,c,e,cellK x c e _ z⟩
 ·obtain⟨v,z⟩:=I.cell x c e
  exact⟨v,cellK x c e v z⟩
 ·obtain⟨m,⟨o,_,_,ho,_⟩,_⟩:=I.loc
  exact free _ o (λz=>(hch _ z).2.1 rfl) ho I.free
 ·obtain⟨v,o,ho,hd⟩:=I.cell x c e
  exact free c o (λz=>(hch c z).2.2.1 x c e rfl) ho (I.rD x c e)
 ·obtain⟨e,n,ne,nf,d⟩:=I.pin p hp
  have Zc:p.1∉ch:=λz=>(hch p.1 z).2.2.2 p hp rfl
  exact⟨keep p.1 p.2 ne nf Zc e n,free p.1 p.2 Zc e n,ne,nf,d⟩
theorem Inv.un {t':Nat}(I:Inv X pins σ H s)(u:Un X.fs [] H H' s.heap h')(hok:tX X.prog X.w H' h'):Inv X pins σ H' { s with heap:=h',toks:=t' }:=by
 obtain⟨m,⟨o,es,ep,ho,r⟩,_⟩:=id I.loc
 obtain⟨sl,hL⟩:=u.any ho I.free (by simp)
 exact I.step (g':=s.gens) (d':=s.drawn) (ch:=[]) (λ_ z=>nomatch z) (λb o _ hb _ e n=>u.keep b o e n hb (by simp)) (λb o _ hb _ e n=>u.slot b o e n hb (by simp)) (λb o _ e n=>u.free b o e n (by simp)) (λb o _ e=>u.there b o e (by simp)) u.tups u.Bm u.Fp (λm' hm=>by
  obtain⟨o',es',ep',ho',r'⟩:=hm
  rw[ho]at ho';cases ho'
  exact⟨_,es',ep',hL,r'⟩) hok I.bare
theorem Inv.call {g':Array GenState}{t':Nat}{d':Drawn}{ch:List Addr}(I:Inv X pins σ H s)(u:Un (frs X.stack) ch H H' s.heap h')(hok:tX X.prog X.w H' h')(hg:AllBare g')
 (hch:∀b∈ch,(b∈X.ex\/X.s₀.heap.objs.size<=b)/\b≠X.env.locals/\(∀x c,X.env.cells.lookup x=some c->c≠b)/\∀p∈X.pn++pins,p.1≠b):
 Inv X pins σ H' { s with heap:=h',gens:=g',drawn:=d',toks:=t' }:=by
 obtain⟨m,⟨o,es,ep,ho,r⟩,_⟩:=id I.loc
 obtain⟨sl,hL⟩:=u.any ho I.free λz=>(hch _ z).2.1 rfl
 exact I.step (ch:=ch) hch (λb o hL hb hc e n=>u.keep b o e n (λz=>(List.mem_cons.mp (I.JM b z)).elim hL hb) hc) (λb o _ _ hc e n=>u.any e n hc) (λb o hc e n=>u.free b o e n hc) (λb o hc e=>u.there b o e hc) u.tups u.Bm u.Fp (λm' hm=>by
  obtain⟨o',es',ep',ho',r'⟩:=hm
  rw[ho]at ho';cases ho'
  exact⟨_,es',ep',hL,r'⟩) hok hg
theorem Inv.turned {t':Nat}{it:Addr}(I:Inv X pins σ H s)(k:∀b o,b≠it->s.heap.get? b=some o->h'.get? b=some o)(hn:H it=none)(hL:it≠X.env.locals)
 (h1:it∈X.ex\/X.s₀.heap.objs.size<=it)(h2:∀x c,X.env.cells.lookup x=some c->c≠it)(h3:∀p∈X.pn++pins,p.1≠it):Inv X pins σ H { s with heap:=h',toks:=t' }:=by
 have nit:∀b u,H b=some u->b≠it:=λb u e z=>by rw[z,hn]at e;cases e
 refine I.step (g':=s.gens) (d':=s.drawn) (ch:=[it]) (λb hb=>?_) (λb o _ _ hc e _=>k b o (λz=>hc (by simp[z])) e) (λb o _ _ hc e _=>⟨o.slots,k b o (λz=>hc (by simp[z])) e⟩) (λ_ _ _ _ n=>n)
  (λb o hc e=>⟨o,k b o (λz=>hc (by simp[z])) e⟩) (λ_ _ e=>e) (λ_ _ _ e=>e) (λb ps e=>⟨#[],by rw[e];simp⟩) (λm hm=>?_) (λb u e=>?_) I.bare
 ·have e:b=it:=by simpa using hb
  subst e
  exact⟨h1,hL,h2,h3⟩
 ·obtain⟨o,es,ep,ho,r⟩:=hm
  exact⟨o,es,ep,k _ o (Ne.symm hL) ho,r⟩
 ·refine(I.hok b u e).stay (λc v hc q=>k c v ?_ q) (λ_ q=>q) λ_ _ q=>q
  rcases hc with z|z
  ·rw[z];exact nit b u e
  ·exact nit c _ z
theorem Inv.tok (I:Inv X pins σ H s)(t:Nat):Inv X pins σ H { s with toks:=t }:=I.un (h':=s.heap) (t':=t) Un.refl I.hok
theorem Inv.kept {t':Nat}(I:Inv X pins σ H s)(k:∀b u,s.heap.get? b=some u->h'.get? b=some u):Inv X pins σ H { s with heap:=h',toks:=t' }:=I.un (Un.kept k) (I.hok.kept k)
theorem Inv.laid {a:Addr}{o:HO}{t':Nat}(I:Inv X pins σ H s)(k:∀b u,s.heap.get? b=some u->h'.get? b=some u)(hp:s.heap.objs.size<=a)(new:gM X.prog X.w (upd H a o) h' a o):
 Inv X pins σ (upd H a o) { s with heap:=h',toks:=t' }:=I.un (Un.laid k hp (I.hok.fresh hp)) (I.hok.laid k hp new)
theorem Inv.write {x e:Addr}{o:HO}{t':Nat}(I:Inv X pins σ H s)(mu:Ym (H x))(he:e=x\/H e=some (.own x))(k:∀b u,b≠e->s.heap.get? b=some u->h'.get? b=some u)(heo:∃u,h'.get? e=some u)
 (new:gM X.prog X.w (upd H x o) h' x o):Inv X pins σ (upd H x o) { s with heap:=h',toks:=t' }:=I.un (Un.write mu he k heo) (I.hok.write mu he k heo new)
theorem Inv.weak {σ':List (Option V)}(I:Inv X pins σ H s)(hl:σ'.length=σ.length)(w:∀(i:Nat) v,σ'[i]?=some (some v)->σ[i]?=some (some v)):Inv X pins σ' H s:=
 ⟨I.ok,I.os,I.bare,I.base,let⟨m,hn,hl'⟩:=I.loc;⟨m,hn,λi x v e1 e2 e3=>hl' i x v e1 (w i v e2) e3⟩,I.cell,I.free,I.rD,I.pin,I.hok,hl.trans I.len⟩
theorem Inv.La {Vo:List (Addr×Obj)}(I:Inv X pins σ H s)(h:∀p∈Vo,s.heap.get? p.1=some p.2/\H p.1=none/\p.1≠X.env.locals/\p.1∉X.fs/\∀v,p.2.data≠ .cell v):Inv X Vo σ H s:=
 ⟨I.ok,I.os,I.bare,I.base,I.loc,I.cell,I.free,I.rD,λp hp=>(List.mem_append.mp hp).elim (λz=>I.pin p (List.mem_append_left _ z)) (h p),I.hok,I.len⟩
theorem Hw {N:List Str}(hN:N.Nodup){i j:Nat}{x:Str}(a:N[i]?=some x)(b:N[j]?=some x):i=j:=by
 obtain⟨h1,e1⟩:=List.getElem?_eq_some_iff.mp a
 obtain⟨h2,e2⟩:=List.getElem?_eq_some_iff.mp b
 exact(List.getElem_inj hN).mp (e1.trans e2.symm)
theorem Dk {M:Model}{A:Around}{E:Value->Shared->Prop}{i:Nat}{x:Str}{v:V}{u:Value}{Q:Unit->Shared->Prop}(I:Inv X pins σ H s)(hN:X.N.Nodup)(hi:X.N[i]?=some x)(hx:Loc X.env.scope x)(r:RelV v u)
 (h:∀s',Inv X pins (σ.set i (some v)) H s'->(∃a,Heap.SameBut a s.heap s'.heap/\(a=X.env.locals\/X.env.cells.lookup x=some a))->Q () s')(hf:X.fn x=true\/X.env.scope.names.lookup x=some .local:=by first|exact .inl rfl|exact .inr rfl|assumption):wpAny M A (storeName X.env x u) Q E s:=by
 obtain⟨m,hn,hl⟩:=id I.loc
 have hcls:(X.env.scope.kind== .class||(X.env.scope.kind== .module&&X.env.locals !=X.env.globals))=false:=by rw[I.ok.kind];rfl
 have YX:i<σ.length:=by rw[I.len];exact(List.getElem?_eq_some_iff.mp hi).1
 have W4:=I.W4
 have tracked:∀{a:Addr}{h':Heap},(∃o,s.heap.get? a=some o/\H a=none)->Heap.SameBut a s.heap h'->tX X.prog X.w H h':=λ{a h'} ha hs b ob e=>by
  obtain⟨_,_,hfree⟩:=ha
  refine(I.hok b ob e).stay (λc w' hc q=>(hs.2 c ?_).trans q) (λ_ q=>q) λ_ _ q=>q
  rintro rfl
  rcases hc with rfl|hc
  ·rw[hfree]at e;cases e
  ·rw[hfree]at hc;cases hc
 rcases hx with hk|hk
 ·refine wpAny_storeName_local hk hn (λh' hn' hs=>?_) hcls
  obtain⟨oL,_,_,hoL,_⟩:=id hn
  refine h _ ⟨I.ok,I.os,I.bare,⟨λb o e n hb hx=>?_,λb o e n hb hx=>?_,I.base.free,λb o e hx=>?_,I.base.tups,I.base.Bm,I.base.Fp⟩,⟨_,hn',λj y v' e1 e2 e3=>?_⟩,λy c e=>?_,I.free,I.rD,λp hp=>?_,tracked ⟨oL,hoL,I.free⟩ hs,by simpa using I.len⟩ ⟨_,hs,.inl rfl⟩
  ·exact(hs.2 b (Nat.ne_of_lt (Nat.lt_of_lt_of_le (Heap.lt_size e) I.ok.above))).trans (I.base.keep b o e n hb hx)
  ·obtain⟨sl,e1⟩:=I.base.slot b o e n hb hx
   exact⟨sl,(hs.2 b (Nat.ne_of_lt (Nat.lt_of_lt_of_le (Heap.lt_size e) I.ok.above))).trans e1⟩
  ·obtain⟨o',e1⟩:=I.base.there b o e hx
   exact⟨o',(hs.2 b (Nat.ne_of_lt (Nat.lt_of_lt_of_le (Heap.lt_size e) I.ok.above))).trans e1⟩
  ·by_cases hj:j=i
   ·subst hj
    rw[hi]at e1;cases e1
    rw[List.getElem?_set_self YX]at e2
    cases e2
    exact⟨u,r,.inl ⟨hk,by simp⟩⟩
   ·rw[List.getElem?_set_ne (Ne.symm hj)]at e2
    obtain⟨u',r',q⟩:=hl j y v' e1 e2 e3
    refine⟨u',r',?_⟩
    rcases q with⟨k,e⟩|⟨k,c,e,z⟩
    ·refine .inl ⟨k,?_⟩
     have:y≠x:=λe=>hj (Hw hN e1 (e▸hi))
     simp[this,e]
    ·exact .inr ⟨k,c,e,z.sameBut hs (W4 y c e)⟩
  ·obtain⟨w',z⟩:=I.cell y c e
   exact⟨w',z.sameBut hs (W4 y c e)⟩
  ·obtain⟨e,n,ne,nf,d⟩:=I.pin p hp
   exact⟨(hs.2 p.1 ne).trans e,n,ne,nf,d⟩
 ·have hfn:X.fn x=true:=by
   rcases hf with z|z
   ·exact z
   ·rw[z]at hk;cases hk
  obtain⟨c,hc⟩:=I.ok.has x (.inl hk)
  obtain⟨w',z⟩:=I.cell x c hc
  refine wpAny_storeName_cell I.ok.kind hk hc z (λh' hc' hs=>?_)
  obtain⟨oc,hoc,a0o⟩:=id z
  refine h { s with heap:=h' } ⟨I.ok,I.os,I.bare,⟨λb o e n hb hx=>?_,λb o e n hb hx=>?_,I.base.free,λb o e hx=>?_,I.base.tups,I.base.Bm,I.base.Fp⟩,⟨m,hn.sameBut hs (Ne.symm (W4 x c hc)),λj y v' e1 e2 e3=>?_⟩,λy c' e=>?_,I.free,I.rD,λp hp=>?_,tracked ⟨oc,hoc,I.rD x c hc⟩ hs,by simpa using I.len⟩ ⟨c,hs,.inr hc⟩
  ·exact(hs.2 b (Nat.ne_of_lt (Nat.lt_of_lt_of_le (Heap.lt_size e) (I.ok.cab x c hfn hc)))).trans (I.base.keep b o e n hb hx)
  ·obtain⟨sl,e1⟩:=I.base.slot b o e n hb hx
   exact⟨sl,(hs.2 b (Nat.ne_of_lt (Nat.lt_of_lt_of_le (Heap.lt_size e) (I.ok.cab x c hfn hc)))).trans e1⟩
  ·obtain⟨o',e1⟩:=I.base.there b o e hx
   exact⟨o',(hs.2 b (Nat.ne_of_lt (Nat.lt_of_lt_of_le (Heap.lt_size e) (I.ok.cab x c hfn hc)))).trans e1⟩
  ·by_cases hj:j=i
   ·subst hj
    rw[hi]at e1;cases e1
    rw[List.getElem?_set_self YX]at e2
    cases e2
    exact⟨u,r,.inr ⟨.inl hk,c,hc,hc'⟩⟩
   ·rw[List.getElem?_set_ne (Ne.symm hj)]at e2
    obtain⟨u',r',q⟩:=hl j y v' e1 e2 e3
    refine⟨u',r',?_⟩
    rcases q with q|⟨k,c',e,z'⟩
    ·exact .inl q
    ·refine .inr ⟨k,c',e,z'.sameBut hs ?_⟩
     rintro rfl
     exact hj (Hw hN e1 (I.ok.inj _ _ _ e hc▸hi))
  ·by_cases hcc:c'=c
   ·subst hcc;exact⟨_,hc'⟩
   ·obtain⟨w2,z2⟩:=I.cell y c' e
    exact⟨w2,z2.sameBut hs hcc⟩
  ·obtain⟨e,n,ne,nf,d⟩:=I.pin p hp
   refine⟨(hs.2 p.1 ?_).trans e,n,ne,nf,d⟩
   intro q
   rw[q,hoc]at e
   have q':oc=p.2:=Option.some.inj e
   exact d w' (by rw[<-q'];exact a0o)
theorem Ij {M:Model}{A:Around}{E:Value->Shared->Prop}{i:Nat}{x:Str}{v:V}{u:Value}{Q:Unit->Shared->Prop}(I:Inv X pins σ H s)(hN:X.N.Nodup)(hi:X.N[i]?=some x)(hx:Loc X.env.scope x)(r:RelV v u)
 (h:∀s',Inv X pins (σ.set i (some v)) H s'->Q () s')(hf:X.fn x=true\/X.env.scope.names.lookup x=some .local:=by first|exact .inl rfl|exact .inr rfl|assumption):wpAny M A (storeName X.env x u) Q E s:=
 Dk I hN hi hx r (λs' I' _=>h s' I') hf
theorem Inv.call' {s':Shared}{ch:List Addr}(I:Inv X pins σ H s)(ho:s'.os=s.os)(u:Un (frs X.stack) ch H H' s.heap s'.heap)(hok:tX X.prog X.w H' s'.heap)(hg:AllBare s'.gens)
 (hch:∀b∈ch,(b∈X.ex\/X.s₀.heap.objs.size<=b)/\b≠X.env.locals/\(∀x c,X.env.cells.lookup x=some c->c≠b)/\∀p∈X.pn++pins,p.1≠b):Inv X pins σ H' s':=by
 obtain⟨h',g',d',t',o'⟩:=s'
 have e:o'=s.os:=ho
 subst e
 exact I.call (g':=g') (t':=t') (d':=d') u hok hg hch
end
noncomputable abbrev XK:=Value->Option Addr->Hp->Prop
noncomputable abbrev St:=List (Option V)
noncomputable abbrev VK:=V->Hp->Prop
noncomputable abbrev TE:=St->Hp->VK->Prop
noncomputable abbrev TT:=St->Hp->(Bool->Hp->Prop)->Prop
noncomputable abbrev TA:=St->Hp->(List V->Hp->Prop)->Prop
structure Ends where
 nx:St->Hp->Prop
 rt:VK
 bk:St->Hp->Prop:=λ_ _=>False
 ct:St->Hp->Prop:=λ_ _=>False
noncomputable abbrev TS:=Ends->St->Hp->Prop
noncomputable def EP (X:Cx)(pins:List (Addr×Obj))(σ:St)(Q:VK)(u:Value)(s':Shared):Prop:=∃v H',Inv X pins σ H' s'/\RelV v u/\Q v H'
noncomputable def TP (X:Cx)(pins:List (Addr×Obj))(σ:St)(Q:Bool->Hp->Prop)(b:Bool)(s':Shared):Prop:=∃H',Inv X pins σ H' s'/\Q b H'
noncomputable def AP (X:Cx)(pins:List (Addr×Obj))(σ:St)(Q:List V->Hp->Prop)(us:List Value)(s':Shared):Prop:=∃vs H',Inv X pins σ H' s'/\Vals vs us/\Q vs H'
noncomputable def SP (X:Cx)(pins:List (Addr×Obj))(D:Ends)(f:Flow)(s':Shared):Prop:=
 match f with
 | .next=>∃σ' H',Inv X pins σ' H' s'/\D.nx σ' H'
 | .brk=>∃σ' H',Inv X pins σ' H' s'/\D.bk σ' H'
 | .cont=>∃σ' H',Inv X pins σ' H' s'/\D.ct σ' H'
 | .ret u=>∃v σ' H',Inv X pins σ' H' s'/\RelV v u/\D.rt v H'
noncomputable def PE (X:Cx)(e:Expr)(t:TE):Prop:=
 ∀(pins:List (Addr×Obj)) (s:Shared) (σ:St) (H:Hp) (Q:VK),Inv X pins σ H s->t σ H Q->wpAny (model X.prog X.w) X.A (eval e X.env) (EP X pins σ Q) X.xe s
noncomputable def PT (X:Cx)(e:Expr)(t:TT):Prop:=
 ∀(pins:List (Addr×Obj)) (s:Shared) (σ:St) (H:Hp) (Q:Bool->Hp->Prop),Inv X pins σ H s->t σ H Q->wpAny (model X.prog X.w) X.A (isTrue e X.env (eval e X.env)) (TP X pins σ Q) X.xe s
noncomputable def PW (X:Cx)(e:Expr)(t:TT):Prop:=
 ∀(whole:Sem Value) (pins:List (Addr×Obj)) (s:Shared) (σ:St) (H:Hp) (Q:Bool->Hp->Prop),Inv X pins σ H s->t σ H Q->wpAny (model X.prog X.w) X.A (isTrue e X.env whole) (TP X pins σ Q) X.xe s
theorem PW.pt {X:Cx}{e:Expr}{t:TT}(h:PW X e t):PT X e t:=h _
noncomputable def PA (X:Cx)(es:List Expr)(t:TA):Prop:=
 ∀(pos:Pos) (pins:List (Addr×Obj)) (s:Shared) (σ:St) (H:Hp) (Q:List V->Hp->Prop),Inv X pins σ H s->t σ H Q->wpAny (model X.prog X.w) X.A (spliced (backTo pos (starEach es X.env))) (AP X pins σ Q) X.xe s
noncomputable def PS (X:Cx)(st:Stmt)(t:TS):Prop:=
 ∀(pins:List (Addr×Obj)) (s:Shared) (σ:St) (H:Hp) (D:Ends),Inv X pins σ H s->t D σ H->wpAny (model X.prog X.w) X.A (exec st X.env) (SP X pins D) X.xe s
noncomputable def wR (X:Cx)(st:List Stmt)(t:TS):Prop:=
 ∀(pins:List (Addr×Obj)) (s:Shared) (σ:St) (H:Hp) (D:Ends),Inv X pins σ H s->t D σ H->wpAny (model X.prog X.w) X.A (execs st X.env) (SP X pins D) X.xe s
theorem iK {α:Type}{t:Sem α}{Q Q':α->Shared->Prop}{M:Model}{A:Around}{E:Value->Shared->Prop}{s:Shared}(h:wpAny M A t Q E s)(hQ:∀a s,Q a s->Q' a s):wpAny M A t Q' E s:=wpAny_mono h hQ λ_ _ x=>x
end L2
namespace L2
open PySem PySem.Spec PyProof.Rows
section
variable {X:Cx}
noncomputable def Ba (i:Nat):TE:=λσ H Q=>∃v,σ[i]?=some (some v)/\Q v H
noncomputable def tC (v:V):TE:=λ_ H Q=>Q v H
theorem Xm {i:Nat}{x:Str}{pos:Pos}(hN:X.N[i]?=some x)(hv:Yr X.env.scope x)(hd:(x==("__debug__":Str))=false:=by decide)(hcd:(x==("__classdict__":Str))=false:=by decide):PE X (.Name x pos) (Ba i):=by
 intro pins s σ H Q I h
 obtain⟨v,e,h⟩:=h
 obtain⟨m,hn,hl⟩:=I.loc
 obtain⟨u,r,l⟩:=hl i x v hN e hv
 have fin:EP X pins σ Q u s:=⟨v,H,I,r,h⟩
 rcases l with⟨hk,hm⟩|⟨hk,c,hc,hcell⟩
 ·exact wpAny_Name (wpAny_loadName_local I.ok.kind hk hn hm fin) hd
 ·rcases hk with hk|hk
  ·exact wpAny_Name (wpAny_loadName_cell I.ok.kind hk hc hcell fin) hd
  ·exact wpAny_Name (wpAny_loadName_free I.ok.kind hk hc hcell fin hcd) hd
theorem Xi {i j pos}:PE X (.Constant (.int i) j pos) (tC (.int i)):=λ_ _ _ H _ I h=>wpAny_Constant_int ⟨.int i,H,I.tok _,⟨_,rfl⟩,h⟩
theorem Zq {b j pos}:PE X (.Constant (.bool b) j pos) (tC (.bl b)):=λ_ _ _ H _ I h=>Constant_bool ⟨.bl b,H,I,rfl,h⟩
theorem Xk {x j pos}:PE X (.Constant (.str x) j pos) (tC (.str x)):=λ_ _ _ H _ I h=>Calls.Constant_str ⟨.str x,H,I.tok _,⟨_,rfl⟩,h⟩
noncomputable def Gl (X:Cx)(x:Str):Prop:=X.env.kindOf x=some .globalImplicit
theorem yX {E:Value->Shared->Prop}{pins:List (Addr×Obj)}{s:Shared}{σ:St}{H:Hp}{x:Str}{u:Value}{pos:Pos}{Q:Value->Shared->Prop}(I:Inv X pins σ H s)(hg:Gl X x)(hm:X.mg x=some u)(h:Q u s)
 (hd:(x==("__debug__":Str))=false:=by decide):wpAny (model X.prog X.w) X.A (eval (.Name x pos) X.env) Q E s:=
 Calls.Name_function_global I.ok.kind hg (Calls.loadGlobal_global (by rw[I.ok.glob];exact I.mod.glob.keeps I.bk) hm h) hd
theorem uD {E:Value->Shared->Prop}{pins:List (Addr×Obj)}{s:Shared}{σ:St}{H:Hp}{x:Str}{u:Value}{pos:Pos}{Q:Value->Shared->Prop}(I:Inv X pins σ H s)(hg:Gl X x)(hm:X.mg x=none)(hv:bootBuiltins x=some u)(h:Q u s)
 (hn:x≠"__name__":=by decide)(hd:(x==("__debug__":Str))=false:=by decide):wpAny (model X.prog X.w) X.A (eval (.Name x pos) X.env) Q E s:=by
 obtain⟨mb,h1,h2⟩:=I.mod.blt
 exact Calls.Name_function_global I.ok.kind hg (Calls.loadGlobal_builtin (by rw[I.ok.glob];exact I.mod.glob.keeps I.bk) hm (by rw[I.ok.blt];exact h1.keeps I.bk) ((h2 x hn).trans hv) h) hd
theorem KN {x:Str}{v:V}{u:Value}{pos:Pos}(hg:Gl X x)(hm:X.mg x=some u)(r:RelV v u)(hd:(x==("__debug__":Str))=false:=by decide):PE X (.Name x pos) (tC v):=
 λ_ _ _ H _ I h=>yX I hg hm ⟨v,H,I,r,h⟩ hd
theorem U8 {x:Str}{v:V}{u:Value}{pos:Pos}(hg:Gl X x)(hm:X.mg x=none)(hv:bootBuiltins x=some u)(r:RelV v u)(hn:x≠"__name__":=by decide)(hd:(x==("__debug__":Str))=false:=by decide):PE X (.Name x pos) (tC v):=
 λ_ _ _ H _ I h=>uD I hg hm hv ⟨v,H,I,r,h⟩ hn hd
variable {a b:Expr}{ta tb:TE}{pos:Pos}
noncomputable def tB (t:TE):TT:=λσ H Q=>t σ H λx H1=>∃c,x= .bl c/\Q c H1
theorem Xv {e:Expr}{t:TE}(h:PE X e t)(he:∀whole,isTrue e X.env whole=(do let v<-whole;standAt e.pos;holding [v] (truthy v)):=by intro _;rfl):PT X e (tB t):=by
 intro pins s σ H Q I hw
 refine isTrue_plain (iK (h pins s σ H _ I hw) λv s1 ⟨x,H1,I1,r1,q1⟩=>?_) (he _)
 obtain⟨d,rfl,q⟩:=q1
 cases r1
 exact wpAny_truthy_bool ⟨H1,I1,q⟩
variable {tA tB':TT}{rest:List Expr}
noncomputable def wQ (t u:TT):TT:=λσ H Q=>t σ H λc H1=>if c=true then u σ H1 Q else Q false H1
noncomputable def yt (t u:TT):TT:=λσ H Q=>t σ H λc H1=>if c=true then Q true H1 else u σ H1 Q
noncomputable def mO (t:TT):TT:=λσ H Q=>t σ H λc H1=>Q (!c) H1
theorem Up (ha:PT X a tA):PW X (.BoolOp .And [a] pos) tA:=by
 intro wh pins s σ H Q I h
 refine isTrue_and (iK (ha pins s σ H Q I h) λc s1 e=>?_)
 cases c with
 |true=>exact isTrue_and_nil e
 |false=>exact e
theorem Xx (ha:PT X a tA):PW X (.BoolOp .Or [a] pos) tA:=by
 intro wh pins s σ H Q I h
 refine isTrue_or (iK (ha pins s σ H Q I h) λc s1 e=>?_)
 cases c with
 |false=>exact isTrue_or_nil e
 |true=>exact e
theorem Xw (ha:PT X a tA)(hb:PW X (.BoolOp .And (b::rest) pos) tB'):PW X (.BoolOp .And (a::b::rest) pos) (wQ tA tB'):=by
 intro wh pins s σ H Q I h
 refine isTrue_and (iK (ha pins s σ H _ I h) λc s1 ⟨H1,I1,q1⟩=>?_)
 cases c with
 |true=>exact hb wh pins s1 σ H1 Q I1 q1
 |false=>exact⟨H1,I1,q1⟩
theorem Zz (ha:PT X a tA)(hb:PW X (.BoolOp .Or (b::rest) pos) tB'):PW X (.BoolOp .Or (a::b::rest) pos) (yt tA tB'):=by
 intro wh pins s σ H Q I h
 refine isTrue_or (iK (ha pins s σ H _ I h) λc s1 ⟨H1,I1,q1⟩=>?_)
 cases c with
 |true=>exact⟨H1,I1,q1⟩
 |false=>exact hb wh pins s1 σ H1 Q I1 q1
theorem Xu (ha:PT X a tA):PT X (.UnaryOp .Not a pos) (mO tA):=by
 intro pins s σ H Q I h
 exact isTrue_not (ha pins s σ H (λc H1=>Q (!c) H1) I h)
noncomputable def ZW (ta tb:TE):TE:=λσ H Q=>ta σ H λx H1=>∃c,x= .bl c/\if c=true then tb σ H1 Q else Q (.bl false) H1
noncomputable def a0T (ta tb:TE):TE:=λσ H Q=>ta σ H λx H1=>∃c,x= .bl c/\if c=true then Q (.bl true) H1 else tb σ H1 Q
theorem Xj {op}{t:TE}(h:PE X a t):PE X (.BoolOp op [a] pos) t:=λpins s σ H Q I hw=>BoolOp_one (h pins s σ H Q I hw)
theorem Xe (ha:PE X a ta)(hb:PE X (.BoolOp .And (b::rest) pos) tb):PE X (.BoolOp .And (a::b::rest) pos) (ZW ta tb):=by
 intro pins s σ H Q I h
 refine BoolOp_and (iK (ha pins s σ H _ I h) λv s1 ⟨x,H1,I1,r1,q1⟩=>?_)
 obtain⟨c,rfl,q1⟩:=q1
 cases r1
 refine wpAny_truthy_bool ?_
 cases c with
 |true=>exact hb pins s1 σ H1 Q I1 q1
 |false=>exact⟨.bl false,H1,I1,rfl,q1⟩
theorem Zu (ha:PE X a ta)(hb:PE X (.BoolOp .Or (b::rest) pos) tb):PE X (.BoolOp .Or (a::b::rest) pos) (a0T ta tb):=by
 intro pins s σ H Q I h
 refine BoolOp_or (iK (ha pins s σ H _ I h) λv s1 ⟨x,H1,I1,r1,q1⟩=>?_)
 obtain⟨c,rfl,q1⟩:=q1
 cases r1
 refine wpAny_truthy_bool ?_
 cases c with
 |false=>exact hb pins s1 σ H1 Q I1 q1
 |true=>exact⟨.bl true,H1,I1,rfl,q1⟩
noncomputable def tIf (t:TT)(ta tb:TE):TE:=λσ H Q=>t σ H λc H1=>if c=true then ta σ H1 Q else tb σ H1 Q
theorem Qy {c:Expr}(hc:PT X c tA)(ha:PE X a ta)(hb:PE X b tb):PE X (.IfExp c a b pos) (tIf tA ta tb):=by
 intro pins s σ H Q I h
 refine wpAny_IfExp (iK (hc pins s σ H _ I h) λd s1 ⟨H1,I1,q1⟩=>?_)
 cases d with
 |true=>exact ha pins s1 σ H1 Q I1 q1
 |false=>exact hb pins s1 σ H1 Q I1 q1
end
end L2
namespace L2
open PySem PySem.Spec PyProof.Rows
noncomputable def oF (K:Fg)(H:Hp)(a:Addr)(xs:List V):Prop:=
 Rd H a (.lst xs)\/
  ∃(o:Obj) (its:Array Value) (n:Nat),K.lookup a=some o/\o.cls= .type "list"/\o.dict=none/\o.data= .seq its n/\its.size<=sizeLine/\Vals xs its.toList
noncomputable def uN (K:Fg)(H:Hp)(a:Addr)(xs:List V):Prop:=
 Rd H a (.tup xs)\/
  ∃(o:Obj) (its:Array Value) (n:Nat),K.lookup a=some o/\o.cls= .type "tuple"/\o.dict=none/\o.data= .seq its n/\its.size<=sizeLine/\Vals xs its.toList
noncomputable def a0e:Value->Option V
 | .none=>some .non
 | .bool b=>some (.bl b)
 | .int i _=>some (.int i)
 | .str x _=>some (.str x)
 | .bytes b _=>some (.Og b)
 | .float b _=>some (.flt b)
 | .ref a=>some (.ref a)
 | .type n=>some (.ty n)
 |_=>none
theorem RelV.abs {x:V}{u:Value}(r:RelV x u):a0e u=some x:=by
 cases x with
 |non=>cases r;rfl
 |bl _=>cases r;rfl
 |int _=>obtain⟨t,rfl⟩:=r;rfl
 |str _=>obtain⟨t,rfl⟩:=r;rfl
 |Og _=>obtain⟨t,rfl⟩:=r;rfl
 |flt _=>obtain⟨t,rfl⟩:=r;rfl
 |ref _=>cases r;rfl
 |ty _=>cases r;rfl
theorem RelV.inj {x y:V}{u:Value}(r:RelV x u)(q:RelV y u):x=y:=Option.some.inj (r.abs.symm.trans q.abs)
theorem Vals.inj:∀{xs ys:List V}{us:List Value},Vals xs us->Vals ys us->xs=ys
 |_,_,_,.nil,.nil=>rfl
 |_,_,_,.cons r t,.cons r' t'=>by rw[r.inj r',Vals.inj t t']
section
variable {X:Cx}{pins:List (Addr×Obj)}{σ:St}{H:Hp}{s:Shared}{a:Addr}{xs ys:List V}
theorem oF.of {K:Fg}(h:H a=some (.lst xs)):oF K H a xs:= .inl (.inl h)
theorem uN.of {K:Fg}(h:H a=some (.tup xs)):uN K H a xs:= .inl (.inl h)
theorem Inv.list (I:Inv X pins σ H s)(h:oF X.K H a xs):∃its:List Value,Vals xs its/\PlainL s.heap a its.toArray/\xs.length<=sizeLine:=by
 rcases h with h|⟨o,its,n,hk,hc,hd,hs,hz,r⟩
 ·obtain⟨z,its,n,r,e⟩:=h.ok I.hok
  exact⟨its,r,⟨_,n,e,rfl,rfl,rfl⟩,z⟩
 ·refine⟨its.toList,r,⟨o,n,I.wC a o hk,hc,hd,by simpa using hs⟩,?_⟩
  have e:=r.length
  simp only[Array.length_toList]at e
  omega
theorem Inv.tuple (I:Inv X pins σ H s)(h:uN X.K H a xs):∃its:List Value,Vals xs its/\IsTup s.heap a its.toArray/\xs.length<=sizeLine:=by
 rcases h with h|⟨o,its,n,hk,hc,hdn,hs,hz,r⟩
 ·obtain⟨z,its,r,p⟩:=h.ok I.hok
  exact⟨its,r,p.isTup,z⟩
 ·refine⟨its.toList,r,⟨o,I.wC a o hk,hc,n,by simpa using hs⟩,?_⟩
  have e:=r.length
  simp only[Array.length_toList]at e
  omega
theorem Inv.Ho (I:Inv X pins σ H s)(h:oF X.K H a xs)(h':oF X.K H a ys):xs=ys:=by
 obtain⟨its,r,⟨o,n,e,_,_,d⟩,_⟩:=I.list h
 obtain⟨its',r',⟨o',n',e',_,_,d'⟩,_⟩:=I.list h'
 rw[e]at e';cases e'
 rw[d]at d'
 injection d' with d1 _
 have:its=its':=by simpa using congrArg Array.toList d1
 subst this
 exact r.inj r'
theorem Inv.Dl (I:Inv X pins σ H s)(h:uN X.K H a xs)(h':uN X.K H a ys):xs=ys:=by
 obtain⟨its,r,⟨o,e,_,n,d⟩,_⟩:=I.tuple h
 obtain⟨its',r',⟨o',e',_,n',d'⟩,_⟩:=I.tuple h'
 rw[e]at e';cases e'
 rw[d]at d'
 injection d' with d1 _
 have:its=its':=by simpa using congrArg Array.toList d1
 subst this
 exact r.inj r'
end
noncomputable abbrev Cx.wish (X:Cx)(E:Value->Shared->Prop):Cx:={ X with xe:=E }
noncomputable abbrev Cx.X4 (X:Cx):Cx:=X.wish λ_ _=>False
theorem Cx.Ok.wish {X:Cx}(ok:X.Ok)(E:Value->Shared->Prop):(X.wish E).Ok:=
 ⟨ok.mod,ok.kind,ok.glob,ok.blt,ok.above,ok.inj,ok.has,ok.cab,ok.hd,ok.frames,ok.stk,ok.exf,ok.bs,ok.S7,ok.Qp,ok.Py,ok.yF,ok.Wo⟩
theorem Cx.Ok.sr {X:Cx}{E:Value->Shared->Prop}(ok:(X.wish E).Ok):X.Ok:=
 ⟨ok.mod,ok.kind,ok.glob,ok.blt,ok.above,ok.inj,ok.has,ok.cab,ok.hd,ok.frames,ok.stk,ok.exf,ok.bs,ok.S7,ok.Qp,ok.Py,ok.yF,ok.Wo⟩
section
variable {X:Cx}{pins:List (Addr×Obj)}{σ:St}{H:Hp}{s:Shared}{E:Value->Shared->Prop}
theorem Inv.wish (I:Inv X pins σ H s)(E:Value->Shared->Prop):Inv (X.wish E) pins σ H s:=⟨I.ok.wish E,I.os,I.bare,I.base,I.loc,I.cell,I.free,I.rD,I.pin,I.hok,I.len⟩
theorem Inv.sr (I:Inv (X.wish E) pins σ H s):Inv X pins σ H s:=⟨I.ok.sr,I.os,I.bare,I.base,I.loc,I.cell,I.free,I.rD,I.pin,I.hok,I.len⟩
theorem SP.sr {D:Ends}{f:Flow}{s':Shared}(h:SP (X.wish E) pins D f s'):SP X pins D f s':=by
 cases f with
 |next=>obtain⟨σ',H',I,q⟩:=h;exact⟨σ',H',I.sr,q⟩
 |brk=>obtain⟨σ',H',I,q⟩:=h;exact⟨σ',H',I.sr,q⟩
 |cont=>obtain⟨σ',H',I,q⟩:=h;exact⟨σ',H',I.sr,q⟩
 |ret u=>obtain⟨v,σ',H',I,r,q⟩:=h;exact⟨v,σ',H',I.sr,r,q⟩
theorem wR.X4 {st:List Stmt}{t:TS}(h:wR X.X4 st t):wR X st t:=λpins s σ H D I hw=>
 wpAny_mono (h pins s σ H D (I.wish _) hw) (λ_ _ q=>q.sr) λ_ _ z=>False.elim z
end
section
variable {X:Cx}{st:Stmt}{rest:List Stmt}{t u:TS}{e:Expr}{te:TE}{pos:Pos}
noncomputable def a06:TS:=λD σ H=>D.nx σ H
noncomputable def a0V (t u:TS):TS:=λD σ H=>t { D with nx:=u D } σ H
theorem Ld:wR X [] a06:=λ_ _ σ H _ I h=>wpAny_execs_nil ⟨σ,H,I,h⟩
theorem HW (h1:PS X st t)(h2:wR X rest u):wR X (st::rest) (a0V t u):=by
 intro pins s σ H D I h
 refine wpAny_execs_cons (iK (h1 pins s σ H { D with nx:=u D } I h) λf s1 q=>?_)
 cases f with
 |next=>
  obtain⟨σ',H',I',q⟩:=q
  exact h2 pins s1 σ' H' D I' q
 |ret v=>exact q
 |brk=>exact q
 |cont=>exact q
theorem Um (h1:PS X st t):wR X [st] t:=by
 intro pins s σ H D I h
 refine wpAny_execs_cons (iK (h1 pins s σ H D I h) λf s1 q=>?_)
 cases f with
 |next=>exact wpAny_execs_nil q
 |ret v=>exact q
 |brk=>exact q
 |cont=>exact q
theorem Inv.quiet {pins:List (Addr×Obj)}{σ:St}{H:Hp}{s:Shared}(I:Inv X pins σ H s):interactive X.env=false:=by simp[interactive,I.ok.kind]
noncomputable def a03 (te:TE):TS:=λD σ H=>te σ H λ_ H1=>D.nx σ H1
theorem zc (he:PE X e te)(hs:swapsWith e none pos.line X.env=pure false:=by rfl):PS X (.Expr e pos) (a03 te):=by
 intro pins s σ H D I h
 exact wpAny_Expr_any (iK (he pins s σ H _ I h) λv s1 ⟨x,H1,I1,r1,q1⟩=>⟨σ,H1,I1,q1⟩) I.quiet hs
noncomputable def a0U (te:TE):TS:=λD σ H=>te σ H D.rt
theorem Eo (he:PE X e te):PS X (.Return (some e) pos) (a0U te):=by
 intro pins s σ H D I h
 exact wpAny_Return_some (iK (he pins s σ H _ I h) λv s1 ⟨x,H1,I1,r1,q1⟩=>⟨x,σ,H1,I1,r1,q1⟩)
noncomputable def a0R (c:TT)(t u:TS):TS:=λD σ H=>c σ H λb H1=>if b=true then t D σ H1 else u D σ H1
theorem Zx {c:Expr}{a b:List Stmt}{tc:TT}(hc:PT X c tc)(ha:wR X a t)(hb:wR X b u):PS X (.If c a b pos) (a0R tc t u):=by
 intro pins s σ H D I h
 refine wpAny_If (iK (hc pins s σ H _ I h) λd s1 ⟨H1,I1,q1⟩=>?_)
 cases d with
 |true=>exact ha pins s1 σ H1 D I1 q1
 |false=>exact hb pins s1 σ H1 D I1 q1
end
noncomputable abbrev TG:=V->St->Hp->(St->Hp->Prop)->Prop
noncomputable abbrev Rz:=List V->St->Hp->(St->Hp->Prop)->Prop
noncomputable def PG (X:Cx)(target:Expr)(t:TG):Prop:=
 ∀(pins:List (Addr×Obj)) (s:Shared) (σ:St) (H:Hp) (v:V) (u:Value) (Q:St->Hp->Prop),Inv X pins σ H s->RelV v u->t v σ H Q->
  wpAny (model X.prog X.w) X.A (assign target X.env u) (λ_ s'=>∃σ' H',Inv X pins σ' H' s'/\Q σ' H') X.xe s
noncomputable def Ma (X:Cx)(ts:List Expr)(t:Rz):Prop:=
 ∀(pins:List (Addr×Obj)) (s:Shared) (σ:St) (H:Hp) (vs:List V) (us:List Value) (Q:St->Hp->Prop),Inv X pins σ H s->Vals vs us->t vs σ H Q->
  wpAny (model X.prog X.w) X.A (assignInOrder ((assignEach ts X.env).map (·.2)) us) (λ_ s'=>∃σ' H',Inv X pins σ' H' s'/\Q σ' H') X.xe s
noncomputable abbrev VM:=V->V->V->Hp->(Hp->Prop)->Prop
noncomputable def Yo (X:Cx)(t:VM):Prop:=
 ∀(pins:List (Addr×Obj)) (s:Shared) (σ:St) (H:Hp) (o i v:V) (ov iv u:Value) (Q:Hp->Prop),Inv X pins σ H s->RelV o ov->RelV i iv->RelV v u->t o i v H Q->
  wpAny (model X.prog X.w) X.A (setItem ov iv u) (λ_ s'=>∃H',Inv X pins σ H' s'/\Q H') X.xe s
section
variable {X:Cx}{pos:Pos}
noncomputable def Q4 (i:Nat):TG:=λv σ H Q=>Q (σ.set i (some v)) H
theorem KR {i:Nat}{x:Str}(hN:X.N.Nodup)(hi:X.N[i]?=some x)(hx:Loc X.env.scope x)(hf:X.fn x=true\/X.env.scope.names.lookup x=some .local:=by first|exact .inl rfl|exact .inr rfl|assumption):PG X (.Name x pos) (Q4 i):=by
 intro pins s σ H v u Q I r h
 exact wpAny_assign_Name (Ij I hN hi hx r (λs' I'=>⟨_,H,I',h⟩) hf)
noncomputable def a0i:Rz:=λvs σ H Q=>vs=[]/\Q σ H
noncomputable def YT (t:TG)(u:Rz):Rz:=λvs σ H Q=>∃v r,vs=v::r/\t v σ H λσ' H'=>u r σ' H' Q
theorem KY:Ma X [] a0i:=by
 intro pins s σ H vs us Q I r h
 obtain⟨e,h⟩:=h
 subst e
 cases r
 exact assignInOrder_nil ⟨σ,H,I,h⟩
theorem HR {e:Expr}{es:List Expr}{t:TG}{u:Rz}(h1:PG X e t)(h2:Ma X es u)
 (hs:(assignEach (e::es) X.env).map (·.2)=assign e X.env::(assignEach es X.env).map (·.2):=by rfl):Ma X (e::es) (YT t u):=by
 intro pins s σ H vs us Q I r h
 obtain⟨v,vr,e1,h⟩:=h
 subst e1
 cases r with
 |cons r rr=>
  rw[hs]
  refine assignInOrder_cons (iK (h1 pins s σ H _ _ _ I r h) λ_ s1 ⟨σ1,H1,I1,q1⟩=>?_)
  exact h2 pins s1 σ1 H1 _ _ Q I1 rr q1
noncomputable def a0k (K:Fg)(n:Nat)(t:Rz):TG:=λv σ H Q=>∃a xs,v= .ref a/\uN K H a xs/\xs.length=n/\t xs σ H Q
theorem QD {es:List Expr}{k:Nat}{t:Rz}{n:Nat}(hc:X.calm=true)(h:Ma X es t)
 (hn:(assignEach es X.env).length=n:=by rfl)(hst:(assignEach es X.env).findIdx? (·.1)=none:=by rfl):PG X (.Tuple es k pos) (a0k X.K n t):=by
 intro pins s σ H v u Q I r hw
 obtain⟨a,xs,e1,hq,hl,hw⟩:=hw
 subst e1
 cases r
 obtain⟨its,rv,ht,hz⟩:=I.tuple hq
 refine assign_Tuple_tuple (I.ok.hd hc) ht (by simp[hn,<-hl,rv.length]) hst λh' hx=>?_
 have I1:Inv X pins σ H { s with heap:=h' }:=I.kept (t':=s.toks) λb o e=>hx b o (Nat.ne_of_lt (Heap.lt_size e)) e
 exact h pins _ σ H xs _ Q I1 (by simpa using rv) hw
noncomputable def a0j (to ti:TE)(t:VM):TG:=λv σ H Q=>to σ H λo H1=>ti σ H1 λi H2=>t o i v H2 λH3=>Q σ H3
theorem Xn {o i:Expr}{to ti:TE}{t:VM}(ho:PE X o to)(hi:PE X i ti)(hs:Yo X t)
 (ha:∀v,assign (.Subscript o i pos) X.env v=(do
  let ov<-holding [v] (eval o X.env)
  let iv<-holding [v,ov] (eval i X.env)
  standAt pos
  holding [v,ov,iv] (setItem ov iv v)
  release [v,ov,iv] []):=by intro _;rfl):PG X (.Subscript o i pos) (a0j to ti t):=by
 intro pins s σ H v u Q I r h
 rw[ha]
 refine wpAny_bind (wpAny_holding (iK (ho pins s σ H _ I h) λov s1 ⟨x,H1,I1,r1,q1⟩=>?_))
 refine wpAny_bind (wpAny_holding (iK (hi pins s1 σ H1 _ I1 q1) λiv s2 ⟨y,H2,I2,r2,q2⟩=>?_))
 refine wpAny_bind (wpAny_standAt (wpAny_bind (wpAny_holding (iK (hs pins s2 σ H2 x y v ov iv u _ I2 r1 r2 r q2) λ_ s3 ⟨H3,I3,q3⟩=>?_))))
 exact wpAny_release ⟨σ,H3,I3,q3⟩
noncomputable def Y0 (te:TE)(g:TG):TS:=λD σ H=>te σ H λx H1=>g x σ H1 D.nx
theorem Xq {tg e:Expr}{te:TE}{g:TG}(he:PE X e te)(hg:PG X tg g)(hs:swapsWithSole [tg] e pos.line X.env=pure false:=by rfl)(hw:swappedStores [tg] e X.env=pure none:=by rfl)
 (h1:(assignEach [tg] X.env).map (·.2)=[assign tg X.env]:=by rfl):PS X (.Assign [tg] e pos) (Y0 te g):=by
 intro pins s σ H D I h
 refine wpAny_Assign_stores (iK (he pins s σ H _ I h) λv s1 ⟨x,H1,I1,r1,q1⟩=>?_) hs hw
 rw[h1]
 exact iK (hg pins s1 σ H1 x v _ I1 r1 q1) λ_ s2 q=>q
theorem Ep {i:Nat}{x:Str}{e:Expr}{te:TE}{pos':Pos}(hN:X.N.Nodup)(hi:X.N[i]?=some x)(hx:Loc X.env.scope x)(he:PE X e te)(hs:swapsWith e (some (.Name x pos')) pos.line X.env=pure false:=by rfl)(hf:X.fn x=true\/X.env.scope.names.lookup x=some .local:=by first|exact .inl rfl|exact .inr rfl|assumption):
 PS X (.Assign [.Name x pos'] e pos) (Y0 te (Q4 i)):=by
 intro pins s σ H D I h
 refine wpAny_Assign_Name (iK (he pins s σ H _ I h) λv s1 ⟨y,H1,I1,r1,q1⟩=>?_) hs
 exact Ij I1 hN hi hx r1 (λs2 I2=>⟨_,H1,I2,q1⟩) hf
end
section
variable {X:Cx}{pos:Pos}
end
structure It where
 go:Nat->Hp->Prop
 yld:Nat->Hp->V->Hp->Prop
 stop:Nat->Hp->Prop
noncomputable def yz (X:Cx)(pins:List (Addr×Obj))(H:Hp)(b:Addr):Prop:=
 H b=none/\b≠X.env.locals/\b∉X.fs/\(b∈X.ex\/X.s₀.heap.objs.size<=b)/\(∀x c,X.env.cells.lookup x=some c->c≠b)/\∀p∈X.pn++pins,p.1≠b
theorem Inv.MJ {X:Cx}{pins:List (Addr×Obj)}{σ:St}{H H':Hp}{s:Shared}{b:Addr}(I:Inv X pins σ H s)(hb:s.heap.objs.size<=b)(hn:H' b=none):yz X pins H' b:=by
 refine⟨hn,Nat.ne_of_gt (Nat.lt_of_lt_of_le I.lt hb),I.a0y hb,.inr (Nat.le_trans I.sz hb),λx c e z=>?_,λp hp z=>?_⟩
 ·obtain⟨v,q⟩:=I.cell x c e
  exact absurd (Nat.lt_of_lt_of_le q.lt (by rw[z];exact hb)) (Nat.lt_irrefl _)
 ·exact absurd (Nat.lt_of_lt_of_le (Heap.lt_size (I.pin p hp).1) (by rw[z];exact hb)) (Nat.lt_irrefl _)
structure Turn (P:Program)(w:World)(K:Fg)(tg:Expr)(J:It)(fp:List Addr)(it:Addr)(tn:Nat->Heap->Prop):Prop where
 mem:it∈fp
 obj:∀i h,tn i h->∀b∈fp,∃o,h.get? b=some o/\∀v,o.data≠ .cell v
 keep:∀i h h',tn i h->(∀b∈fp,∀o,h.get? b=some o->h'.get? b=some o)->tn i h'
 item:∀(X:Cx),X.prog=P->X.w=w->X.K=K->X.calm=true->∀(i:Nat) (pins:List (Addr×Obj)) (s:Shared) (σ:St) (H:Hp) (E:Value->Shared->Prop),Inv X pins σ H s->(∀b∈fp,yz X pins H b)->tn i s.heap->J.go i H->
  wpAny (model P w) X.A (pyNext (.ref it)) (λr s1=>∃u,r=some u/\
   wpAny (model P w) X.A (letOwnedTupleGo tg (.ref it) u) (λ_ s2=>∃x H',Inv X pins σ H' s2/\RelV x u/\J.yld i H x H'/\tn (i+1) s2.heap/\∀b∈fp,H' b=none) E s1) E s
 done:∀(X:Cx),X.prog=P->X.w=w->X.K=K->X.calm=true->∀(i:Nat) (pins:List (Addr×Obj)) (s:Shared) (σ:St) (H:Hp) (E:Value->Shared->Prop),Inv X pins σ H s->(∀b∈fp,yz X pins H b)->tn i s.heap->J.stop i H->
  wpAny (model P w) X.A (pyNext (.ref it)) (λr s1=>r=none/\Inv X pins σ H s1) E s
 self:∀(A:Around) (i:Nat) (s:Shared) (Q:Value->Shared->Prop) (E:Value->Shared->Prop),tn i s.heap->Q (.ref it) s->wpAny (model P w) A (pyIter (.ref it)) Q E s
noncomputable abbrev TI:=St->Hp->(It->Hp->Prop)->Prop
noncomputable def PIE (X:Cx)(pins:List (Addr×Obj))(σ:St)(tg:Expr)(R:It->Hp->Prop)(itv:Value)(s2:Shared):Prop:=
 ∃(it:Addr) (fp:List Addr) (tn:Nat->Heap->Prop) (J:It) (H':Hp),itv= .ref it/\Inv X pins σ H' s2/\Turn X.prog X.w X.K tg J fp it tn/\tn 0 s2.heap/\(∀b∈fp,yz X pins H' b)/\R J H'
noncomputable def PI (X:Cx)(tg iter:Expr)(wi:TI):Prop:=
 ∀(pins:List (Addr×Obj)) (s:Shared) (σ:St) (H:Hp) (R:It->Hp->Prop),Inv X pins σ H s->wi σ H R->
  wpAny (model X.prog X.w) X.A (eval iter X.env) (λv s1=>wpAny (model X.prog X.w) X.A (pyIter v) (PIE X pins σ tg R) X.xe s1) X.xe s
theorem Cz {M:Model}{A:Around}{E:Value->Shared->Prop}{s:Shared}{tg:Expr}{it:Addr}{u:Value}{o:Obj}{n:String}{vs:Array Value}{Q:Unit->Shared->Prop}(ho:s.heap.get? it=some o)(hc:o.cls= .type n)(hd:o.data= .fields vs)
 (hn:["enumerate","zip","dict_itemiterator","dict_reverseitemiterator","odict_iterator","itertools.zip_longest","itertools.pairwise"].contains n=false)(hQ:Q () s):wpAny M A (letOwnedTupleGo tg (.ref it) u) Q E s:=by
 unfold letOwnedTupleGo
 cases tg<;>first
  |exact wpAny_pure hQ
  |(cases u<;>first
   |exact wpAny_pure hQ
   |(refine wpAny_bind (wpAny_load ho ?_)
     rw[hc,hd]
     show wpAny M A (if(["enumerate","zip","dict_itemiterator","dict_reverseitemiterator","odict_iterator","itertools.zip_longest","itertools.pairwise"].contains n&&vs[0]?==some (rawInt _))=true then _ else _) Q E s
     rw[if_neg (by intro h;rw[hn,Bool.false_and]at h;cases h)]
     exact wpAny_pure hQ))
noncomputable def Itl (K:Fg)(a:Addr):It:=
 ⟨λi H=>∃xs x,oF K H a xs/\xs[i]?=some x,λi H x H'=>H'=H/\∀xs,oF K H a xs->xs[i]?=some x,λi H=>∃xs,oF K H a xs/\xs.length<=i⟩
noncomputable def Itt (K:Fg)(a:Addr):It:=
 ⟨λi H=>∃xs x,uN K H a xs/\xs[i]?=some x,λi H x H'=>H'=H/\∀xs,uN K H a xs->xs[i]?=some x,λi H=>∃xs,uN K H a xs/\xs.length<=i⟩
noncomputable def Yk (lo:Int)(n:Nat):It:=⟨λi _=>i<n,λi H x H'=>H'=H/\x= .int (lo+i),λi _=>n<=i⟩
theorem O8 {P:Program}{w:World}{K:Fg}{tg:Expr}(a it:Addr):Turn P w K tg (Itl K a) [it] it (λi h=>h.IsListIter it a i) where
 mem:=by simp
 obj:=λi h st b hb=>by
  have e:b=it:=by simpa using hb
  subst e
  obtain⟨o,e,c,d⟩:=st
  exact⟨o,e,λv z=>by rw[d]at z;cases z⟩
 keep:=λi h h' st k=>st.at λo e=>k it (by simp) o e
 item:=by
  intro X hP hw hK hc i pins s σ H E I hf st hg
  subst hP hw hK
  obtain⟨xs,x,hq,hx⟩:=hg
  obtain⟨its,rv,p,hz⟩:=I.list hq
  obtain⟨u,hu,ru⟩:=rv.get hx
  obtain⟨f0,f1,f2,f3,f4,f5⟩:=hf it (by simp)
  refine wpAny_pyNext_list_item st p.isList (x:=u) (by simpa using hu) λh' st' sb=>?_
  have I1:Inv X pins σ H { s with heap:=h' }:=I.turned (t':=s.toks) (λb o hb e=>(sb.2 b hb).trans e) f0 f1 f3 f4 f5
  obtain⟨o,e,c,d⟩:=id st'
  exact⟨u,rfl,Cz (s:={ s with heap:=h' }) e c d (by decide) ⟨x,H,I1,ru,⟨rfl,λys hy=>by rw[I.Ho hy hq];exact hx⟩,st',λb hb=>(hf b hb).1⟩⟩
 done:=by
  intro X hP hw hK hc i pins s σ H E I hf st hg
  subst hP hw hK
  obtain⟨xs,hq,hx⟩:=hg
  obtain⟨its,rv,p,hz⟩:=I.list hq
  obtain⟨f0,f1,f2,f3,f4,f5⟩:=hf it (by simp)
  have hl:=rv.length
  exact wpAny_pyNext_list_end (I.ok.hd hc) st p.isList (by simp;omega) λh' eb=>⟨rfl,I.turned (t':=s.toks) (λb o hb e=>eb b o hb e) f0 f1 f3 f4 f5⟩
 self:=λ_ _ _ _ _ st h=>wpAny_pyIter_listiter st h
theorem JQ {P:Program}{w:World}{K:Fg}{tg:Expr}(a it:Addr):Turn P w K tg (Itt K a) [it] it (λi h=>h.IsTupleIter it a i) where
 mem:=by simp
 obj:=λi h st b hb=>by
  have e:b=it:=by simpa using hb
  subst e
  obtain⟨o,e,c,d⟩:=st
  exact⟨o,e,λv z=>by rw[d]at z;cases z⟩
 keep:=λi h h' st k=>st.at λo e=>k it (by simp) o e
 item:=by
  intro X hP hw hK hc i pins s σ H E I hf st hg
  subst hP hw hK
  obtain⟨xs,x,hq,hx⟩:=hg
  obtain⟨its,rv,p,hz⟩:=I.tuple hq
  obtain⟨u,hu,ru⟩:=rv.get hx
  obtain⟨f0,f1,f2,f3,f4,f5⟩:=hf it (by simp)
  refine wpAny_pyNext_tuple_item st (show s.heap.IsTuple a its.toArray from p) (x:=u) (by simpa using hu) λh' st' sb=>?_
  have I1:Inv X pins σ H { s with heap:=h' }:=I.turned (t':=s.toks) (λb o hb e=>(sb.2 b hb).trans e) f0 f1 f3 f4 f5
  obtain⟨o,e,c,d⟩:=id st'
  exact⟨u,rfl,Cz (s:={ s with heap:=h' }) e c d (by decide) ⟨x,H,I1,ru,⟨rfl,λys hy=>by rw[I.Dl hy hq];exact hx⟩,st',λb hb=>(hf b hb).1⟩⟩
 done:=by
  intro X hP hw hK hc i pins s σ H E I hf st hg
  subst hP hw hK
  obtain⟨xs,hq,hx⟩:=hg
  obtain⟨its,rv,p,hz⟩:=I.tuple hq
  obtain⟨f0,f1,f2,f3,f4,f5⟩:=hf it (by simp)
  have hl:=rv.length
  exact wpAny_pyNext_tuple_end (I.ok.hd hc) st (show s.heap.IsTuple a its.toArray from p) (by simp;omega) λh' eb=>⟨rfl,I.turned (t':=s.toks) (λb o hb e=>eb b o hb e) f0 f1 f3 f4 f5⟩
 self:=λ_ _ _ _ _ st h=>wpAny_pyIter_tupleiter st h
theorem JP {P:Program}{w:World}{K:Fg}{tg:Expr}(it:Addr)(lo:Int)(n:Nat):Turn P w K tg (Yk lo n) [it] it (λi h=>IsRangeIter h it (lo+(i:Nat)*1) ((n:Int) - (i:Nat)) 1) where
 mem:=by simp
 obj:=λi h st b hb=>by
  have e:b=it:=by simpa using hb
  subst e
  exact⟨_,st,λv z=>by
   have z':Data.fields _=Data.cell v:=z
   cases z'⟩
 keep:=λi h h' st k=>k it (by simp) _ st
 item:=by
  intro X hP hw hK hc i pins s σ H E I hf st hg
  subst hP hw hK
  obtain⟨f0,f1,f2,f3,f4,f5⟩:=hf it (by simp)
  have W:=Walks.range (prog:=X.prog) (w:=X.w) (I.ok.hd hc) it lo 1 n
  refine W.item i s _ _ hg st λv h' tk hv st' kk=>?_
  obtain⟨t,rfl⟩:=hv
  have I1:Inv X pins σ H { s with heap:=h',toks:=tk }:=I.turned (λb o hb e=>kk b o (by simpa using hb) e) f0 f1 f3 f4 f5
  refine⟨_,rfl,Cz (s:={ s with heap:=h',toks:=tk }) (n:="range_iterator") st' rfl rfl (by decide) ⟨.int (lo+i),H,I1,⟨t,?_⟩,⟨rfl,rfl⟩,st',λb hb=>(hf b hb).1⟩⟩
  rw[Int.mul_one]
 done:=by
  intro X hP hw hK hc i pins s σ H E I hf st hg
  subst hP hw hK
  obtain⟨f0,f1,f2,f3,f4,f5⟩:=hf it (by simp)
  exact wpAny_pyNext_range_end (I.ok.hd hc) st (by have:n<=i:=hg;omega) λh' eb=>⟨rfl,I.turned (t':=s.toks) (λb o hb e=>eb b o hb e) f0 f1 f3 f4 f5⟩
 self:=λ_ _ _ _ _ st h=>wpAny_pyIter_rangeiter st h
end L2
namespace L2
open PySem PySem.Spec PyProof.Rows
section
variable {X:Cx}{tg:Expr}
noncomputable def Z0 (K:Fg)(tl:TE):TI:=λσ H R=>tl σ H λx H1=>∃a,x= .ref a/\(∃xs,oF K H1 a xs)/\R (Itl K a) H1
noncomputable def a0q (K:Fg)(tl:TE):TI:=λσ H R=>tl σ H λx H1=>∃a,x= .ref a/\(∃xs,uN K H1 a xs)/\R (Itt K a) H1
theorem Ug {l:Expr}{tl:TE}(hl:PE X l tl):PI X tg l (Z0 X.K tl):=by
 intro pins s σ H R I h
 refine iK (hl pins s σ H _ I h) λv s1 ⟨x,H1,I1,r1,q1⟩=>?_
 obtain⟨a,e,⟨xs,hq⟩,q⟩:=q1
 subst e
 cases r1
 obtain⟨its,rv,p,hz⟩:=I1.list hq
 refine wpAny_pyIter_list p.isList ?_
 refine⟨s1.heap.objs.size,[s1.heap.objs.size],_,_,H1,rfl,I1.kept (t':=s1.toks) λb o e=>Heap.get?_push_of_some _ e,O8 a _,⟨_,Heap.get?_push_size _ rfl,rfl,rfl⟩,λb hb=>?_,q⟩
 have e:b=s1.heap.objs.size:=by simpa using hb
 subst e
 exact I1.MJ (Nat.le_refl _) (I1.hok.fresh (Nat.le_refl _))
theorem Xo {l:Expr}{tl:TE}(hl:PE X l tl):PI X tg l (a0q X.K tl):=by
 intro pins s σ H R I h
 refine iK (hl pins s σ H _ I h) λv s1 ⟨x,H1,I1,r1,q1⟩=>?_
 obtain⟨a,e,⟨xs,hq⟩,q⟩:=q1
 subst e
 cases r1
 obtain⟨its,rv,p,hz⟩:=I1.tuple hq
 refine wpAny_pyIter_tuple (show s1.heap.IsTuple a its.toArray from p) ?_
 refine⟨s1.heap.objs.size,[s1.heap.objs.size],_,_,H1,rfl,I1.kept (t':=s1.toks) λb o e=>Heap.get?_push_of_some _ e,JQ a _,⟨_,Heap.get?_push_size _ rfl,rfl,rfl⟩,λb hb=>?_,q⟩
 have e:b=s1.heap.objs.size:=by simpa using hb
 subst e
 exact I1.MJ (Nat.le_refl _) (I1.hok.fresh (Nat.le_refl _))
theorem Ia {pins:List (Addr×Obj)}{σ:St}{H:Hp}{s:Shared}{R:It->Hp->Prop}{E:Value->Shared->Prop}{lo hi:Int}{t u v:Tok}{tk:Nat}(I:Inv X pins σ H s)(h1: -(2 ^ 62)<=lo)(h2:lo<2 ^ 62)(h3: -(2 ^ 62)<=hi)(h4:hi<2 ^ 62)
 (q:R (Yk lo (hi - lo).toNat) H):wpAny (model X.prog X.w) X.A (pyIter (.ref s.heap.objs.size)) (PIE X pins σ tg R) E { s with heap:=s.heap.push { cls:= .type "range",data:= .fields #[.int lo t,.int hi u,.int 1 v] },toks:=tk }:=by
 refine wpAny_pyIter_range (IsRange.new ..) (small_one h1 h2 h3 h4) ?_
 have I1:Inv X pins σ H { s with heap:=s.heap.push { cls:= .type "range",data:= .fields #[.int lo t,.int hi u,.int 1 v] },toks:=tk }:=I.kept λb o e=>Heap.get?_push_of_some _ e
 refine⟨(s.heap.push { cls:= .type "range",data:= .fields #[.int lo t,.int hi u,.int 1 v] }).objs.size,[(s.heap.push { cls:= .type "range",data:= .fields #[.int lo t,.int hi u,.int 1 v] }).objs.size],_,_,H,rfl,
  I1.kept (t':=tk) λb o e=>Heap.get?_push_of_some _ e,JP _ lo (hi - lo).toNat,?_,λb hb=>?_,q⟩
 ·have e1:lo+((0:Nat):Int)*1=lo:=by simp
  have e2:(((hi - lo).toNat:Nat):Int) - ((0:Nat):Int)=Builtin.Range.rangeSize lo hi 1:=by rw[rangeSize_one];split<;>omega
  show IsRangeIter _ _ (lo+((0:Nat):Int)*1) ((((hi - lo).toNat:Nat):Int) - ((0:Nat):Int)) 1
  rw[e1,e2]
  exact Heap.get?_push_size _ rfl
 ·have e:b=(s.heap.push { cls:= .type "range",data:= .fields #[.int lo t,.int hi u,.int 1 v] }).objs.size:=by simpa using hb
  subst e
  exact I1.MJ (Nat.le_refl _) (I1.hok.fresh (Nat.le_refl _))
noncomputable def Z1 (ta:TA):TI:=λσ H R=>ta σ H λvs H1=>∃j:Int,vs=[.int j]/\ -(2 ^ 62)<=j/\j<2 ^ 62/\R (Yk 0 j.toNat) H1
noncomputable def Z2 (ta:TA):TI:=λσ H R=>ta σ H λvs H1=>∃i j:Int,vs=[.int i,.int j]/\(-(2 ^ 62)<=i/\i<2 ^ 62/\ -(2 ^ 62)<=j/\j<2 ^ 62)/\R (Yk i (j - i).toNat) H1
theorem Nz {a:Expr}{ta:TA}{p pos:Pos}(hg:Gl X "range")(hm:X.mg "range"=none)(ha:PA X [a] ta)(hs:starEach [a] X.env=[(false,eval a X.env)]:=by rfl):PI X tg (.Call (.Name "range" p) [a] [] pos) (Z1 ta):=by
 intro pins s σ H R I h
 refine Call_ (uD I hg hm boot_range (PyProof.Rows.callWith_type1 (iK (ha pos pins s σ H _ I h) λus s1 ⟨vs,H1,I1,r1,q1⟩=>?_) hs rfl))
 obtain⟨j,e,q1,q2,q⟩:=q1
 subst e
 cases r1 with
 |cons r rr=>
  cases rr
  obtain⟨t,rfl⟩:=r
  exact call_range_1 (Ia I1 (by omega) (by omega) q1 q2 (by simpa using q))
theorem NB {a b:Expr}{ta:TA}{p pos:Pos}(hg:Gl X "range")(hm:X.mg "range"=none)(ha:PA X [a,b] ta)(hs:starEach [a,b] X.env=[(false,eval a X.env),(false,eval b X.env)]:=by rfl)(hs2:starEach [b] X.env=[(false,eval b X.env)]:=by rfl):
 PI X tg (.Call (.Name "range" p) [a,b] [] pos) (Z2 ta):=by
 intro pins s σ H R I h
 refine Call_ (uD I hg hm boot_range (PyProof.Rows.callWith_type1 (iK (ha pos pins s σ H _ I h) λus s1 ⟨vs,H1,I1,r1,q1⟩=>?_) (by rw[hs,hs2]) (by rw[hs2];rfl)))
 obtain⟨i,j,e,⟨q1,q2,q3,q4⟩,q⟩:=q1
 subst e
 cases r1 with
 |cons r rr=>
  cases rr with
  |cons r' rr=>
   cases rr
   obtain⟨t,rfl⟩:=r
   obtain⟨t',rfl⟩:=r'
   exact call_range_2 (Ia I1 q1 q2 q3 q4 q)
noncomputable def a0P (wi:TI)(g:TG)(tb:TS):TS:=λD σ H=>wi σ H λJ H1=>∃W:Nat->Nat->St->Hp->Prop,(∃m,W 0 m σ H1)/\∀i m σ H,W i m σ H->
 (J.stop i H/\D.nx σ H)\/(J.go i H/\∃N:St->Hp->Prop,(∀σ' H',N σ' H'->∃m',m'<m/\W (i+1) m' σ' H')/\∀x H',J.yld i H x H'->g x σ H' λσ2 H2=>tb { D with nx:=N,ct:=N,bk:=D.nx } σ2 H2)
noncomputable def Ag (fp:List Addr)(h:Heap):List (Addr×Obj):=fp.filterMap λb=>(h.get? b).map λo=>(b,o)
theorem qt {fp:List Addr}{h:Heap}{b:Addr}{o:Obj}(hb:b∈fp)(e:h.get? b=some o):(b,o)∈Ag fp h:=List.mem_filterMap.mpr ⟨b,hb,by rw[e];rfl⟩
theorem Nr {fp:List Addr}{h:Heap}{p:Addr×Obj}(hp:p∈Ag fp h):p.1∈fp/\h.get? p.1=some p.2:=by
 obtain⟨b,hb,e⟩:=List.mem_filterMap.mp hp
 cases q:h.get? b with
 |none=>rw[q]at e;cases e
 |some o=>
  rw[q]at e
  have e':(b,o)=p:=Option.some.inj e
  subst e'
  exact⟨hb,q⟩
theorem Inv.pinned {pins:List (Addr×Obj)}{σ:St}{H:Hp}{s:Shared}{fp:List Addr}(I:Inv X pins σ H s)(hf:∀b∈fp,yz X pins H b)(ho:∀b∈fp,∃o,s.heap.get? b=some o/\∀v,o.data≠ .cell v):Inv X (pins++Ag fp s.heap) σ H s:=
 I.La λp hp=>(List.mem_append.mp hp).elim (λz=>I.pin p (List.mem_append_right _ z)) λz=>by
  obtain⟨hb,e⟩:=Nr z
  obtain⟨f0,f1,f2,_⟩:=hf p.1 hb
  obtain⟨o,e',d⟩:=ho p.1 hb
  rw[e]at e';cases e'
  exact⟨e,f0,f1,f2,d⟩
theorem Inv.vN {pins pl:List (Addr×Obj)}{σ:St}{H:Hp}{s:Shared}(I:Inv X (pins++pl) σ H s):Inv X pins σ H s:=I.La λp hp=>I.pin p (List.mem_append_right _ (List.mem_append_left _ hp))
theorem QK {iter:Expr}{body:List Stmt}{wi:TI}{g:TG}{tb:TS}{pos:Pos}(hp:PassesOwn (model X.prog X.w) X.A X.env X.xe)(hc:X.calm=true)(hi:PI X tg iter wi)(hg:PG X tg g)(hb:wR X body tb)
 (hs:∀x,foldedSetIterable iter X.env x=pure x:=by intro _;rfl):PS X (.For tg iter body [] pos) (a0P wi g tb):=by
 intro pins s σ H D I h
 refine wpAny_For (iK (hi pins s σ H _ I h) λv s1 h1=>iK h1 λitv s2 h2=>?_) hs
 obtain⟨it,fp,tn,J,H2,e,I2,T,st2,f2,W,⟨m0,w0⟩,turn⟩:=h2
 subst e
 have stat:∀{H':Hp},(∀b∈fp,H' b=none)->∀b∈fp,yz X pins H' b:=λhn b hb=>⟨hn b hb,(f2 b hb).2⟩
 refine codeAny_forLoop_any (λn s'=>∃i σ' H',Inv X pins σ' H' s'/\tn i s'.heap/\(∀b∈fp,H' b=none)/\W i n σ' H') ?_ m0 ⟨0,σ,H2,I2,st2,λb hb=>(f2 b hb).1,w0⟩
 rintro n s3 ⟨i,σ3,H3,I3,st3,fr3,w3⟩
 rcases turn i n σ3 H3 w3 with⟨stop,qn⟩|⟨go,N,hN,step⟩
 ·refine wpAny_passesOwn hp (iK (T.done X rfl rfl rfl hc i pins s3 σ3 H3 X.xe I3 (stat fr3) st3 stop) λr s4 ⟨hr,I4⟩=>?_)
  subst hr
  exact wpAny_execs_nil ⟨σ3,H3,I4,qn⟩
 ·refine wpAny_passesOwn hp (iK (T.item X rfl rfl rfl hc i pins s3 σ3 H3 X.xe I3 (stat fr3) st3 go) λr s4 ⟨u,hr,h4⟩=>?_)
  subst hr
  refine wpAny_passesOwn hp (iK h4 λ_ s5 ⟨x,H5,I5,r5,y5,Yb,fr5⟩=>?_)
  have I5':=I5.pinned (stat fr5) (T.obj _ _ Yb)
  refine wpAny_passesOwn hp (iK (hg _ s5 σ3 H5 x u _ I5' r5 (step x H5 y5)) λ_ s6 ⟨σ6,H6,I6,q6⟩=>?_)
  refine wpAny_passesOwn hp (iK (hb _ s6 σ6 H6 _ I6 q6) λf s7 q7=>?_)
  have again:∀{Rv:St}{H7:Hp},Inv X (pins++Ag fp s5.heap) Rv H7 s7->N Rv H7->∃m,m<n/\∃i σ' H',Inv X pins σ' H' s7/\tn i s7.heap/\(∀b∈fp,H' b=none)/\W i m σ' H':=λ{Rv H7} I7 n7=>by
   obtain⟨m',hm,w7⟩:=hN Rv H7 n7
   refine⟨m',hm,i+1,Rv,H7,I7.vN,T.keep _ _ _ Yb λb hb o e=>(I7.pin (b,o) (List.mem_append_right _ (List.mem_append_right _ (qt hb e)))).1,λb hb=>?_,w7⟩
   obtain⟨o,e,d⟩:=T.obj _ _ Yb b hb
   exact(I7.pin (b,o) (List.mem_append_right _ (List.mem_append_right _ (qt hb e)))).2.1
  cases f with
  |next=>obtain⟨Rv,H7,I7,n7⟩:=q7;exact again I7 n7
  |cont=>obtain⟨Rv,H7,I7,n7⟩:=q7;exact again I7 n7
  |brk=>obtain⟨Rv,H7,I7,q7⟩:=q7;exact⟨Rv,H7,I7.vN,q7⟩
  |ret v=>obtain⟨x7,Rv,H7,I7,r7,q7⟩:=q7;exact⟨x7,Rv,H7,I7.vN,r7,q7⟩
end
end L2
namespace L2
open PySem PySem.Spec PyProof.Rows
noncomputable abbrev R2:=V->V->Hp->VK->Prop
noncomputable def tY (X:Cx)(f:Value->Value->Sem Value)(r:R2):Prop:=
 ∀(pins:List (Addr×Obj)) (s:Shared) (σ:St) (H:Hp) (x y:V) (v u:Value) (Q:VK),Inv X pins σ H s->RelV x v->RelV y u->r x y H Q->
  wpAny (model X.prog X.w) X.A (f v u) (EP X pins σ Q) X.xe s
noncomputable def UnR (X:Cx)(f:Value->Sem Value)(r:V->Hp->VK->Prop):Prop:=
 ∀(pins:List (Addr×Obj)) (s:Shared) (σ:St) (H:Hp) (x:V) (v:Value) (Q:VK),Inv X pins σ H s->RelV x v->r x H Q->
  wpAny (model X.prog X.w) X.A (f v) (EP X pins σ Q) X.xe s
noncomputable def jB (X:Cx)(f:Value)(r:List V->Hp->VK->Prop):Prop:=
 ∀(pins:List (Addr×Obj)) (s:Shared) (σ:St) (H:Hp) (xs:List V) (us:List Value) (Q:VK),Inv X pins σ H s->Vals xs us->r xs H Q->
  wpAny (model X.prog X.w) X.A (call f us) (EP X pins σ Q) X.xe s
noncomputable def tOp (r:R2)(ta tb:TE):TE:=λσ H Q=>ta σ H λx H1=>tb σ H1 λy H2=>r x y H2 Q
noncomputable def tUn (r:V->Hp->VK->Prop)(ta:TE):TE:=λσ H Q=>ta σ H λx H1=>r x H1 Q
noncomputable def rI (C:Int->Int->Prop)(g:Int->Int->V):R2:=λx y H Q=>∃i j,x= .int i/\y= .int j/\C i j/\Q (g i j) H
noncomputable def Ur (g:Int->Int->V):R2:=λx y H Q=>∃i j,x= .int i/\y= .int j/\Q (g i j) H
noncomputable def rU (g:Int->V):V->Hp->VK->Prop:=λx H Q=>∃i,x= .int i/\Q (g i) H
section
variable {X:Cx}{a b c:Expr}{ta tb tc:TE}{pos:Pos}
theorem VP (ha:PE X a ta)(hb:PE X b tb){pins:List (Addr×Obj)}{s:Shared}{σ:St}{H:Hp}{R:V->V->Hp->Prop}(I:Inv X pins σ H s)
 (h:ta σ H λx H1=>tb σ H1 λy H2=>R x y H2){Q:Value->Shared->Prop}{f:Value->Value->Sem Value}
 (hf:∀v u s2 x y H2,Inv X pins σ H2 s2->RelV x v->RelV y u->R x y H2->wpAny (model X.prog X.w) X.A (f v u) Q X.xe s2):
 wpAny (model X.prog X.w) X.A (eval a X.env) (λv s₁=>wpAny (model X.prog X.w) X.A (eval b X.env) (λu s₂=>wpAny (model X.prog X.w) X.A (f v u) Q X.xe s₂) X.xe s₁) X.xe s:=by
 refine iK (ha pins s σ H _ I h) λv s1 ⟨x,H1,I1,r1,q1⟩=>?_
 refine iK (hb pins s1 σ H1 _ I1 q1) λu s2 ⟨y,H2,I2,r2,q2⟩=>?_
 exact hf v u s2 x y H2 I2 r1 r2 q2
theorem Zt {op:Operator}{r:R2}(ho:tY X (binaryOp op) r)(ha:PE X a ta)(hb:PE X b tb):PE X (.BinOp a op b pos) (tOp r ta tb):=by
 intro pins s σ H Q I h
 exact wpAny_BinOp (VP ha hb I h λv u s2 x y H2 I2 rx ry q=>ho pins s2 σ H2 x y v u Q I2 rx ry q)
theorem Zv {op:UnaryOp}{r:V->Hp->VK->Prop}(ho:UnR X (unaryOp op) r)(ha:PE X a ta):PE X (.UnaryOp op a pos) (tUn r ta):=by
 intro pins s σ H Q I h
 exact UnaryOp_ (iK (ha pins s σ H _ I h) λv s1 ⟨x,H1,I1,r1,q1⟩=>ho pins s1 σ H1 x v Q I1 r1 q1)
theorem opI {f:Value->Value->Sem Value}{C:Int->Int->Prop}{g:Int->Int->Int}
 (rule:∀(i j:Int) (t u:Tok) (s:Shared) (Q:Value->Shared->Prop) (E:Value->Shared->Prop),C i j->Q (.int (g i j) s.toks) { s with toks:=s.toks+1 }->wpAny (model X.prog X.w) X.A (f (.int i t) (.int j u)) Q E s):
 tY X f (rI C λi j=> .int (g i j)):=by
 intro pins s σ H x y v u Q I rx ry h
 obtain⟨i,j,rfl,rfl,hc,q⟩:=h
 obtain⟨t,rfl⟩:=rx
 obtain⟨t',rfl⟩:=ry
 exact rule i j t t' s _ _ hc ⟨.int (g i j),H,I.tok _,⟨_,rfl⟩,q⟩
theorem Zn {f:Value->Value->Sem Value}{g:Int->Int->Int}
 (rule:∀(i j:Int) (t u:Tok) (s:Shared) (Q:Value->Shared->Prop) (E:Value->Shared->Prop),Q (.int (g i j) s.toks) { s with toks:=s.toks+1 }->wpAny (model X.prog X.w) X.A (f (.int i t) (.int j u)) Q E s):
 tY X f (Ur λi j=> .int (g i j)):=by
 intro pins s σ H x y v u Q I rx ry h
 obtain⟨i,j,rfl,rfl,q⟩:=h
 obtain⟨t,rfl⟩:=rx
 obtain⟨t',rfl⟩:=ry
 exact rule i j t t' s _ _ ⟨.int (g i j),H,I.tok _,⟨_,rfl⟩,q⟩
theorem Zm {f:Value->Value->Sem Value}{g:Int->Int->Bool}
 (rule:∀(i j:Int) (t u:Tok) (s:Shared) (Q:Value->Shared->Prop) (E:Value->Shared->Prop),Q (.bool (g i j)) s->wpAny (model X.prog X.w) X.A (f (.int i t) (.int j u)) Q E s):
 tY X f (Ur λi j=> .bl (g i j)):=by
 intro pins s σ H x y v u Q I rx ry h
 obtain⟨i,j,rfl,rfl,q⟩:=h
 obtain⟨t,rfl⟩:=rx
 obtain⟨t',rfl⟩:=ry
 exact rule i j t t' s _ _ ⟨.bl (g i j),H,I,rfl,q⟩
noncomputable def Yg (i j:Int):Prop:=0<j/\j<1073741824
noncomputable def RM (i j:Int):Prop:=(-(2 ^ 64)<i/\i<2 ^ 64)\/(-(2 ^ 64)<j/\j<2 ^ 64)
theorem RM.ok {i j:Int}(h:RM i j):IntMulOk i j:=by
 rcases h with⟨h1,h2⟩|⟨h1,h2⟩
 ·exact .of_left (intBits_le_64 h1 h2)
 ·exact .of_right (intBits_le_64 h1 h2)
theorem Xa:tY X (binaryOp .Add) (Ur λi j=> .int (i+j)):=Zn λ_ _ _ _ _ _ _ q=>add_int q
theorem qx:tY X (binaryOp .Sub) (Ur λi j=> .int (i - j)):=Zn λ_ _ _ _ _ _ _ q=>sub_int q
theorem Xc:tY X (binaryOp .Mult) (rI RM λi j=> .int (i*j)):=opI λ_ _ _ _ _ _ _ hc q=>mul_int q hc.ok
theorem fO:tY X (binaryOp .FloorDiv) (rI Yg λi j=> .int (i/j)):=opI λi j _ _ _ _ _ hc q=>by
 have h1:(0:Int)<j:=hc.1
 have h2:j<1073741824:=hc.2
 exact floordiv_int (by omega) (by rw[Int.fdiv_eq_ediv_of_nonneg i (by omega)];exact q) (.inl (PyProof.noPylong_small (by omega)))
theorem cX:tY X (binaryOp .Mod) (rI (λ_ j=>0<j) λi j=> .int (i % j)):=opI λi j _ _ _ _ _ hc q=>by
 have h1:(0:Int)<j:=hc
 exact mod_int' (by omega) (by rw[Int.fmod_eq_emod_of_nonneg i (by omega)];exact q)
theorem unI {f:Value->Sem Value}{g:Int->Int}
 (rule:∀(i:Int) (t:Tok) (s:Shared) (Q:Value->Shared->Prop) (E:Value->Shared->Prop),Q (.int (g i) s.toks) { s with toks:=s.toks+1 }->wpAny (model X.prog X.w) X.A (f (.int i t)) Q E s):
 UnR X f (rU λi=> .int (g i)):=by
 intro pins s σ H x v Q I rx h
 obtain⟨i,rfl,q⟩:=h
 obtain⟨t,rfl⟩:=rx
 exact rule i t s _ _ ⟨.int (g i),H,I.tok _,⟨_,rfl⟩,q⟩
theorem Y7:UnR X (unaryOp .USub) (rU λi=> .int (-i)):=unI λ_ _ _ _ _ q=>neg_int q
end
noncomputable def a0H:V->V->Bool
 | .non,.non=>true| .non,.int _=>true| .int _,.non=>true| .non,.bl _=>true| .bl _,.non=>true| .non,.str _=>true| .str _,.non=>true
 | .int _,.int _=>true| .bl _,.bl _=>true| .str _,.str _=>true| .Og _,.Og _=>true
 | .int _,.str _=>true| .str _,.int _=>true| .bl _,.str _=>true| .str _,.bl _=>true
 |_,_=>false
noncomputable def rEq:R2:=λx y H Q=>a0H x y=true/\Q (.bl (decide (x=y))) H
theorem Ss {i j:Int}:decide (V.int i=V.int j)=(i==j):=by
 rw[Bool.eq_iff_iff]
 simp
theorem W8 {i j:Bool}:decide (V.bl i=V.bl j)=(i==j):=by
 rw[Bool.eq_iff_iff]
 simp
theorem Su {i j:Str}:decide (V.str i=V.str j)=(i==j):=by
 rw[Bool.eq_iff_iff]
 simp
theorem Sq {i j:Array UInt8}:decide (V.Og i=V.Og j)=(i.toList==j.toList):=by
 rw[Bool.eq_iff_iff]
 cases i
 cases j
 simp
section
variable {X:Cx}{a b c:Expr}{ta tb tc:TE}{pos:Pos}
theorem jR {pins:List (Addr×Obj)}{σ:St}{H:Hp}{s:Shared}{Q:VK}{k k':Bool}(I:Inv X pins σ H s)(q:Q (.bl k) H)(e:k=k'):EP X pins σ Q (.bool k') s:=by
 subst e
 exact⟨.bl k,H,I,rfl,q⟩
theorem Zo:tY X (compareOp .Eq) rEq:=by
 intro pins s σ H x y v u Q I rx ry h
 obtain⟨hs,q⟩:=h
 cases x with
 |non=>
  cases rx
  cases y with
  |non=>cases ry;exact PySem.EqNone.eq_none_none (jR I q (by simp))
  |bl j=>cases ry;exact PySem.EqNone.eq_none_bool (jR I q (by simp))
  |int j=>obtain⟨t',rfl⟩:=ry;exact PySem.EqNone.eq_none_int (jR I q (by simp))
  |str j=>obtain⟨t',rfl⟩:=ry;exact PySem.EqNone.eq_none_str (jR I q (by simp))
  |_=>exact absurd (show false=true from hs) Bool.false_ne_true
 |bl i=>
  cases rx
  cases y with
  |non=>cases ry;exact PySem.EqNone.eq_bool_none (jR I q (by simp))
  |bl j=>cases ry;exact eq_bool (jR I q W8)
  |str j=>obtain⟨t',rfl⟩:=ry;exact PySem.EqMixed.eq_bool_str (jR I q (by simp))
  |_=>exact absurd (show false=true from hs) Bool.false_ne_true
 |int i=>
  obtain⟨t,rfl⟩:=rx
  cases y with
  |non=>cases ry;exact PySem.EqNone.eq_int_none (jR I q (by simp))
  |int j=>obtain⟨t',rfl⟩:=ry;exact eq_int (jR I q Ss)
  |str j=>obtain⟨t',rfl⟩:=ry;exact PySem.EqMixed.eq_int_str (jR I q (by simp))
  |_=>exact absurd (show false=true from hs) Bool.false_ne_true
 |str i=>
  obtain⟨t,rfl⟩:=rx
  cases y with
  |non=>cases ry;exact PySem.EqNone.eq_str_none (jR I q (by simp))
  |bl j=>cases ry;exact PySem.EqMixed.eq_str_bool (jR I q (by simp))
  |int j=>obtain⟨t',rfl⟩:=ry;exact PySem.EqMixed.eq_str_int (jR I q (by simp))
  |str j=>obtain⟨t',rfl⟩:=ry;exact eq_str (jR I q Su)
  |_=>exact absurd (show false=true from hs) Bool.false_ne_true
 |Og i=>
  obtain⟨t,rfl⟩:=rx
  cases y with
  |Og j=>obtain⟨t',rfl⟩:=ry;exact PySem.W.eq_bytes (jR I q Sq)
  |_=>exact absurd (show false=true from hs) Bool.false_ne_true
 |_=>cases y<;>exact absurd (show false=true from hs) Bool.false_ne_true
theorem Ad:tY X (compareOp .Lt) (Ur λi j=> .bl (decide (i<j))):=Zm λ_ _ _ _ _ _ _ q=>lt_int q
theorem Vn:tY X (compareOp .Gt) (Ur λi j=> .bl (decide (j<i))):=Zm λ_ _ _ _ _ _ _ q=>gt_int q
theorem tY.or {f:Value->Value->Sem Value}{r r':R2}(h:tY X f r)(h':tY X f r'):tY X f (λx y H Q=>r x y H Q\/r' x y H Q):=by
 intro pins s σ H x y v u Q I rx ry q
 rcases q with q|q
 ·exact h pins s σ H x y v u Q I rx ry q
 ·exact h' pins s σ H x y v u Q I rx ry q
theorem Js (b:Expr){op:CmpOp}(h:op≠ .In:=by decide)(h2:op≠ .NotIn:=by decide):behindInMarks op b=false:=by
 have e1:(op==CmpOp.In)=false:=by cases op<;>first|rfl|exact absurd rfl h
 have e2:(op==CmpOp.NotIn)=false:=by cases op<;>first|rfl|exact absurd rfl h2
 cases b<;>simp[behindInMarks,e1,e2]
theorem KJ {op:CmpOp}{r:R2}(ho:tY X (compareOp op) r)(ha:PE X a ta)(hb:PE X b tb)(hm:behindInMarks op b=false):PE X (.Compare a [op] [b] pos) (tOp r ta tb):=by
 intro pins s σ H Q I h
 exact wpAny_Compare1 (VP ha hb I h λv u s2 x y H2 I2 rx ry q=>ho pins s2 σ H2 x y v u Q I2 rx ry q) hm
noncomputable def a09 (t:TE):TT:=λσ H Q=>t σ H λx H'=>∃k,x= .bl k/\Q k H'
theorem Uo {op:CmpOp}{r:R2}(ho:tY X (compareOp op) r)(ha:PE X a ta)(hb:PE X b tb)(hm:behindInMarks op b=false):PT X (.Compare a [op] [b] pos) (a09 (tOp r ta tb)):=by
 intro pins s σ H Q I h
 refine wpAny_isTrue_Compare1 (iK (ha pins s σ H _ I h) λv s1 ⟨x,H1,I1,r1,q1⟩=>iK (hb pins s1 σ H1 _ I1 q1) λu s2 ⟨y,H2,I2,r2,q2⟩=>
  iK (ho pins s2 σ H2 x y v u _ I2 r1 r2 q2) λc s3 ⟨z,H3,I3,r3,k,e,q3⟩=>?_) hm
 subst e
 cases r3
 exact wpAny_truthy_bool ⟨H3,I3,q3⟩
theorem rH:(sizeLine:Nat)<2 ^ 63:=by rw[sizeLine_eq];decide
theorem Jy:tY X (binaryOp .Add) (λx y H Q=>∃i j,x= .str i/\y= .str j/\i.length+j.length<=sizeLine/\Q (.str (i++j)) H):=by
 intro pins s σ H x y v u Q I rx ry h
 obtain⟨i,j,rfl,rfl,hz,q⟩:=h
 obtain⟨t,rfl⟩:=rx
 obtain⟨t',rfl⟩:=ry
 exact add_str (λt' tk=>⟨.str (i++j),H,I.tok _,⟨_,rfl⟩,q⟩) hz
theorem vals1 {x:V}{us:List Value}(r:Vals [x] us):∃u,us=[u]/\RelV x u:=by
 cases r with
 |cons r1 r2=>cases r2;exact⟨_,rfl,r1⟩
theorem vals2 {x y:V}{us:List Value}(r:Vals [x,y] us):∃u w',us=[u,w']/\RelV x u/\RelV y w':=by
 cases r with
 |cons r1 r2=>
  cases r2 with
  |cons r3 r4=>cases r4;exact⟨_,_,rfl,r1,r3⟩
theorem vY (hc:X.calm=true):jB X (.builtin "min") (λxs H Q=>∃i j,xs=[.int i,.int j]/\Q (.int (if j<i then j else i)) H):=by
 intro pins s σ H xs us Q I r h
 obtain⟨i,j,rfl,q⟩:=h
 obtain⟨u,w',rfl,⟨t,rfl⟩,⟨t',rfl⟩⟩:=vals2 r
 refine min_two_ints (I.ok.hd hc) λh' tk k=>⟨_,H,I.kept k,?_,q⟩
 by_cases hj:j<i
 ·rw[if_pos hj,if_pos hj];exact⟨_,rfl⟩
 ·rw[if_neg hj,if_neg hj];exact⟨_,rfl⟩
theorem sG:jB X (.type "int") (λxs H Q=>(∃i,xs=[.int i]/\Q (.int i) H)\/∃k,xs=[.bl k]/\Q (.int (if k then 1 else 0)) H):=by
 intro pins s σ H xs us Q I r h
 rcases h with⟨i,rfl,q⟩|⟨k,rfl,q⟩
 ·obtain⟨u,rfl,t,rfl⟩:=vals1 r
  exact call_int_int ⟨.int i,H,I,⟨_,rfl⟩,q⟩
 ·obtain⟨u,rfl,r1⟩:=vals1 r
  cases r1
  exact call_int_bool ⟨.int (if k then 1 else 0),H,I.tok _,⟨_,rfl⟩,q⟩
noncomputable def Yl (K:Fg)(x:V)(H:Hp)(n:Nat):Prop:=
 match x with
 | .str y=>y.length<=sizeLine/\n=y.length
 | .Og y=>y.size<=sizeLine/\n=y.size
 | .ref p=>(∃xs,oF K H p xs/\n=xs.length)\/∃xs,uN K H p xs/\n=xs.length
 |_=>False
theorem iM:jB X (.builtin "len") (λxs H Q=>∃x n,xs=[x]/\Yl X.K x H n/\Q (.int n) H):=by
 intro pins s σ H xs us Q I r h
 obtain⟨x,n,rfl,e,q⟩:=h
 obtain⟨u,rfl,rx⟩:=vals1 r
 have hl:=rH
 have hs:sizeLine=16777216:=sizeLine_eq
 cases x with
 |str y=>
  obtain⟨t,rfl⟩:=rx
  obtain⟨hy,e'⟩:y.length<=sizeLine/\n=y.length:=e
  subst e'
  exact len_str (by omega) ⟨.int _,H,I.tok _,⟨_,rfl⟩,q⟩
 |Og y=>
  obtain⟨t,rfl⟩:=rx
  obtain⟨hy,e'⟩:y.size<=sizeLine/\n=y.size:=e
  subst e'
  exact PySem.W.len_bytes (by omega) ⟨.int _,H,I.tok _,⟨_,rfl⟩,q⟩
 |ref p=>
  cases rx
  have e':(∃xs,oF X.K H p xs/\n=xs.length)\/∃xs,uN X.K H p xs/\n=xs.length:=e
  rcases e' with⟨xs,hx,e'⟩|⟨xs,hx,e'⟩
  ·subst e'
   obtain⟨its,r',pl,hz⟩:=I.list hx
   have hlen:=r'.length
   exact Calls.call_len_list pl.isList (by simp only[List.size_toArray];omega) ⟨.int xs.length,H,I.tok _,⟨_,by simp only[List.size_toArray];rw[hlen]⟩,q⟩
  ·subst e'
   obtain⟨its,r',pl,hz⟩:=I.tuple hx
   have hlen:=r'.length
   exact len_tuple pl (by simp only[List.size_toArray];omega) ⟨.int xs.length,H,I.tok _,⟨_,by simp only[List.size_toArray];rw[hlen]⟩,q⟩
 |_=>exact(show False from e).elim
end
end L2
namespace L2
open PySem PySem.Spec PyProof.Rows
structure IV (h:Heap)(x dx C:Addr)(mA:Str->Option Value):Prop where
 obj:h.get? x=some (PySem.W.instObj C dx)
 ns:h.Ns1 dx mA
 ne:dx≠x
theorem Nf {h:Heap}{dx:Addr}{mA:Str->Option Value}(n:h.Ns1 dx mA):∃od,h.get? dx=some od/\∀name,PySem.W.lookIn name od=some (mA name):=by
 obtain⟨o,es,ep,ho,hd,hk,_,hm⟩:=n
 refine⟨o,ho,λname=>?_⟩
 have e:=hm name
 unfold nsFind findBy at e
 rw[<-Array.find?_toList]at e
 unfold PySem.W.lookIn
 rw[hd]
 dsimp only
 split
 ·rename_i y q
  rw[q]at e
  exact congrArg some e
 ·rename_i q
  rw[q]at e
  have a:es.toList.any (·.refKey)=false:=by
   rw[List.any_eq_false]
   intro y hy
   obtain⟨z,t,hkey⟩:=hk y (Array.mem_toList_iff.mp hy)
   simp[DictEntry.refKey,hkey]
  have a':¬es.toList.any (·.refKey)=true:=by rw[a];exact Bool.false_ne_true
  rw[if_neg a']
  exact congrArg some e
theorem IV.look {h:Heap}{x dx C:Addr}{mA:Str->Option Value}(I:IV h x dx C mA):∃od,PySem.W.InstAt h x (PySem.W.instObj C dx) C (some od)/\∀name,PySem.W.lookIn name od=some (mA name):=
 let⟨od,ho,hl⟩:=Nf I.ns
 ⟨od,⟨I.obj,rfl,rfl,ho⟩,hl⟩
section
variable {prog:Program}{w:World}{A:Around}{E:Value->Shared->Prop}{s:Shared}{K:Fg}{x dx C f:Addr}{mA:Str->Option Value}{name:Str}{v:Value}
theorem get_map {expr:Bool}{Q:Value->Shared->Prop}(X:K.In s.heap)(I:IV s.heap x dx C mA)(hg:PySem.W.plainGet K C name=true)(hh:PySem.W.hasDictIn K C=true)
 (ha:PySem.W.findIn K (.ref C) name=some none)(hv:mA name=some v)(hv':PySem.W.handedIn v=true)(h:Q v { s with toks:=s.toks+1 }):
 wpAny (model prog w) A (getAttr (.ref x) name expr) Q E s:=by
 obtain⟨od,J,hl⟩:=I.look
 exact PySem.W.get_value X J (PySem.W.plainGet_of hg).1 (PySem.W.findObj_own hh ha rfl (by rw[hl,hv])) hv' h
theorem Q6 {pl:Sem Bool}{Q:Value×List Value->Shared->Prop}(X:K.In s.heap)(I:IV s.heap x dx C mA)(hg:PySem.W.plainGet K C name=true)
 (hf:PySem.W.findIn K (.ref C) name=some (some (.ref f)))(ht:PySem.W.isFn K (.ref f)=true)(hv:mA name=none)(h:Q (.ref f,[.ref x]) s):
 wpAny (model prog w) A (getMethod (.ref x) name pl) Q E s:=by
 obtain⟨od,J,hl⟩:=I.look
 exact PySem.W.method_fn X J (PySem.W.plainGet_of hg).1 (PySem.W.plainGet_of hg).2 hf (beq_iff_eq.mp ht) (by show(PySem.W.lookIn name od).map (·.isSome)=some false;rw[hl,hv];rfl) h
theorem Uz {ns:List Str}{Q:Unit->Shared->Prop}(X:K.In s.heap)(I:IV s.heap x dx C mA)
 (hs:PySem.W.findIn K (.ref C) "__setattr__"=some (some (.builtin "object.__setattr__")))(hp:PySem.W.plainOver K C=true)(ht:PySem.W.takerIn K C name=some none)(hh:PySem.W.hasDictIn K C=true)
 (hw:PySem.Within mA ns)(hsz:ns.length<=sizeLine)
 (h:∀h',IV h' x dx C (λy=>if y=name then some v else mA y)->Heap.SameBut dx s.heap h'->Q () { s with heap:=h',toks:=s.toks+2 }):
 wpAny (model prog w) A (setAttr (.ref x) name v) Q E s:=by
 obtain⟨od,J,hl⟩:=I.look
 refine PySem.W.set_plain X J hs (PySem.W.osa_open (s:={ s with toks:=s.toks+1 }) (r:=none) X J hp ht λb=>?_)
 obtain⟨cd,hc,hd'⟩:=PySem.W.any_some hh
 have hx:s.heap.get? x=some ⟨.ref C,some dx,.plain,#[]⟩:=I.obj
 refine wpAny_bind (wpAny_pure (wpAny_bind (wpAny_bind (wpAny_loadPart hx (wpAny_bind (PySem.W.Looks.here (s:={ s with toks:=s.toks+1 }) (PySem.W.looks_clsIn X hc) ?_))))))
 rw[hd']
 refine wpAny_pure (a:=some dx) (wpAny_bind (wpAny_pure (wpAny_bind ?_)))
 refine wpAny_nsSet1 (s:={ s with toks:=s.toks+1 }) I.ns λh' hn2 hs2=>?_
 obtain⟨oD,esD,epD,hoD,hdD,hcD⟩:=hn2.count (PySem.Within.cons name v hw)
 refine wpAny_bind (wpAny_lookBehind hoD (by rw[hdD];exact pastItsLine_dict (Nat.le_trans hcD (by rw[List.length_cons];omega))) ?_)
 exact wpAny_pure (h _ ⟨(hs2.2 _ (Ne.symm I.ne)).trans I.obj,hn2,I.ne⟩ hs2)
theorem Qj {R:Result->Shared->Prop}{vs:List Value}{kw:List (Str×Value)}(X:K.In s.heap)(hm:PySem.W.makesIn K C=true)
 (hi:PySem.W.findIn K (.ref C) "__init__"=some (some (.ref f)))(hf:PySem.W.typeIn K (.ref f)=some (.type "function"))
 (h:codeAny (model prog w) (A.under (.builtin "type.__call__" ⟨.ref C::vs,kw⟩)) (.call (.ref f) ⟨.ref (s.heap.objs.size+1)::vs,kw⟩) (PySem.W.InitBack (s.heap.objs.size+1) R)
  { s with heap:=(s.heap.push PySem.W.emptyDict).push (PySem.W.instObj C s.heap.objs.size) }):
 codeAny (model prog w) A (.call (.ref C) ⟨vs,kw⟩) R s:=by
 obtain⟨hh,g,d,t,os⟩:=s
 exact PySem.W.make_core (PySem.W.makes_of X hm) (PySem.W.looks_findIn X hi) (λself=>PySem.W.bind_fn X self hf) (.inl rfl) h
end
noncomputable def qz (f:Str)(v:V):List (Str×V)->List (Str×V)
 |[]=>[(f,v)]
 |(g,x)::r=>if g=f then(g,v)::r else(g,x)::qz f v r
theorem ym (f g:Str)(v:V):∀fs:List (Str×V),(qz f v fs).lookup g=if g=f then some v else fs.lookup g
 |[]=>by
  show List.lookup g [(f,v)]=_
  by_cases h:g=f
  ·have hb:(g==f)=true:=beq_iff_eq.mpr h
   simp only[List.lookup,hb,if_pos h]
  ·have hb:(g==f)=false:=beq_eq_false_iff_ne.mpr h
   simp only[List.lookup,hb,if_neg h]
 |(k,x)::r=>by
  have ih:=ym f g v r
  rw[show qz f v ((k,x)::r)=(if k=f then(k,v)::r else(k,x)::qz f v r) from rfl]
  by_cases hk:k=f
  ·rw[if_pos hk]
   by_cases h:g=k
   ·have hb:(g==k)=true:=beq_iff_eq.mpr h
    simp only[List.lookup,hb,if_pos (h.trans hk)]
   ·have hb:(g==k)=false:=beq_eq_false_iff_ne.mpr h
    simp only[List.lookup,hb,if_neg (λe:g=f=>h (e.trans hk.symm))]
  ·rw[if_neg hk]
   by_cases h:g=k
   ·have hb:(g==k)=true:=beq_iff_eq.mpr h
    simp only[List.lookup,hb,if_neg (λe:g=f=>hk (h.symm.trans e))]
   ·have hb:(g==k)=false:=beq_eq_false_iff_ne.mpr h
    simp only[List.lookup,hb]
    exact ih
theorem wD (f:Str)(v:V):∀fs:List (Str×V),f∈(qz f v fs).map (·.1)/\∀g,g∈fs.map (·.1)->g∈(qz f v fs).map (·.1)
 |[]=>⟨by simp[qz],λg h=>by simp at h⟩
 |(k,x)::r=>by
  obtain⟨i1,i2⟩:=wD f v r
  rw[show qz f v ((k,x)::r)=(if k=f then(k,v)::r else(k,x)::qz f v r) from rfl]
  by_cases hk:k=f
  ·rw[if_pos hk]
   subst hk
   exact⟨by simp,λg h=>by simpa using h⟩
  ·rw[if_neg hk]
   refine⟨?_,λg h=>?_⟩
   ·rw[List.map_cons]
    exact List.mem_cons_of_mem _ i1
   ·rw[List.map_cons]at h ⊢
    rcases List.mem_cons.mp h with e|e
    ·exact List.mem_cons.mpr (.inl e)
    ·exact List.mem_cons_of_mem _ (i2 g e)
theorem wZ (f:Str)(v:V):∀fs:List (Str×V),(qz f v fs).length<=fs.length+1
 |[]=>by simp[qz]
 |(k,x)::r=>by
  have ih:=wZ f v r
  rw[show qz f v ((k,x)::r)=(if k=f then(k,v)::r else(k,x)::qz f v r) from rfl]
  by_cases hk:k=f
  ·rw[if_pos hk,List.length_cons,List.length_cons];omega
  ·rw[if_neg hk,List.length_cons,List.length_cons];omega
theorem tL.some_of {v:V}{o:Option Value}(r:tL (some v) o):∃u,o=some u/\RelV v u:=by
 cases o with
 |none=>exact(show False from r).elim
 |some u=>exact⟨u,rfl,r⟩
theorem tL.none_of {o:Option Value}(r:tL none o):o=none:=by
 cases o with
 |none=>rfl
 |some u=>exact(show False from r).elim
theorem MP {v:V}{u:Value}(r:RelV v u):PySem.W.handedIn u=true:=by
 cases v with
 |non=>cases(show u=Value.none from r);rfl
 |bl b=>cases(show u=Value.bool b from r);rfl
 |int i=>obtain⟨t,e⟩:=(show ∃t,u=Value.int i t from r);cases e;rfl
 |str x=>obtain⟨t,e⟩:=(show ∃t,u=Value.str x t from r);cases e;rfl
 |Og b=>obtain⟨t,e⟩:=(show ∃t,u=Value.bytes b t from r);cases e;rfl
 |flt b=>obtain⟨t,e⟩:=(show ∃t,u=Value.float b t from r);cases e;rfl
 |ref a=>cases(show u=Value.ref a from r);rfl
 |ty n=>cases(show u=Value.type n from r);rfl
section
variable {P:Program}{w:World}{H H':Hp}{h h':Heap}{a C dx:Addr}{fs fs':List (Str×V)}
theorem yW (hok:tX P w H h)(e:H a=some (.ins C dx fs)):∃mA,IV h a dx C mA/\(∀f,tL (fs.lookup f) (mA f))/\PySem.Within mA (fs.map (·.1))/\fs.length<=1000/\H dx=some (.own a):=by
 obtain⟨d,z,ne,ob,mA,n,r,q⟩:=(show gM P w H h a (.ins C dx fs) from hok a _ e)
 exact⟨mA,⟨ob,n,ne⟩,r,q,z,d⟩
end
structure BK (K:Fg)(C:Addr):Prop where
 pg:PySem.W.plainGet K C Str.empty=true
 hd:PySem.W.hasDictIn K C=true
 po:PySem.W.plainOver K C=true
 sa:PySem.W.findIn K (.ref C) "__setattr__"=some (some (.builtin "object.__setattr__"))
theorem BK.get {K:Fg}{C:Addr}(c:BK K C)(f:Str):PySem.W.plainGet K C f=true:=c.pg
noncomputable def j8 (K:Fg)(C:Addr)(f:Str):Prop:=PySem.W.findIn K (.ref C) f=some none
theorem j8.taker {K:Fg}{C:Addr}{f:Str}(n:j8 K C f):PySem.W.takerIn K C f=some none:=by
 unfold PySem.W.takerIn
 rw[show PySem.W.findIn K (.ref C) f=some none from n]
 rfl
structure Meth (K:Fg)(C:Addr)(m:Str)(f:Addr):Prop where
 at_:PySem.W.findIn K (.ref C) m=some (some (.ref f))
 fn:PySem.W.isFn K (.ref f)=true
 kp:PySem.W.keepIn K (.ref f)=true
section
variable {X:Cx}{pins:List (Addr×Obj)}{σ:St}{H:Hp}{s:Shared}{a C dx:Addr}{fs:List (Str×V)}{f:Str}{v:V}{A:Around}{E:Value->Shared->Prop}
theorem Je {b:Bool}{Q:Value->Shared->Prop}(I:Inv X pins σ H s)(e:H a=some (.ins C dx fs))(c:BK X.K C)(n:j8 X.K C f)(l:fs.lookup f=some v)
 (h:∀u s',Inv X pins σ H s'->RelV v u->Q u s'):wpAny (model X.prog X.w) A (getAttr (.ref a) f b) Q E s:=by
 obtain⟨mA,O,r,_,_,_⟩:=yW I.hok e
 obtain⟨u,hu,ru⟩:=tL.some_of (v:=v) (o:=mA f) (by rw[<-l];exact r f)
 exact get_map I.wC O (c.get f) c.hd n hu (MP ru) (h u _ (I.tok _) ru)
theorem Jf {m:Str}{g:Addr}{pl:Sem Bool}{Q:Value×List Value->Shared->Prop}(I:Inv X pins σ H s)(e:H a=some (.ins C dx fs))(c:BK X.K C)(k:Meth X.K C m g)(l:fs.lookup m=none)
 (h:Q (.ref g,[.ref a]) s):wpAny (model X.prog X.w) A (getMethod (.ref a) m pl) Q E s:=by
 obtain⟨mA,O,r,_,_,_⟩:=yW I.hok e
 have hn:mA m=none:=tL.none_of (by rw[<-l];exact r m)
 exact Q6 I.wC O (c.get m) k.at_ k.fn hn h
theorem JK {y:V}{u:Value}{Q:Unit->Shared->Prop}(I:Inv X pins σ H s)(e:H a=some (.ins C dx fs))(c:BK X.K C)(n:j8 X.K C f)(hl:fs.length<1000)(ry:RelV y u)
 (h:∀s',Inv X pins σ (upd H a (.ins C dx (qz f y fs))) s'->Q () s'):wpAny (model X.prog X.w) A (setAttr (.ref a) f u) Q E s:=by
 obtain⟨mA,O,r,wi,_,ho⟩:=yW I.hok e
 have hz:(fs.map (·.1)).length<=sizeLine:=by rw[List.length_map,sizeLine_eq];omega
 refine Uz I.wC O c.sa c.po n.taker c.hd wi hz λh' O' sb=>h _ ?_
 have hd:∃o,h'.get? dx=some o:=let⟨o,_,_,e',_⟩:=O'.ns;⟨o,e'⟩
 refine I.write (x:=a) (e:=dx) (by rw[e];exact True.intro) (.inr ho) (λb q hb z=>(sb.2 b hb).trans z) hd ?_
 refine⟨by rw[bM O.ne];exact ho,?_,O.ne,O'.obj,_,O'.ns,λg=>?_,λg hg=>?_⟩
 ·have:=wZ f y fs;omega
 ·show tL ((qz f y fs).lookup g) (if g=f then some u else mA g)
  rw[ym]
  by_cases q:g=f
  ·rw[if_pos q,if_pos q];exact ry
  ·rw[if_neg q,if_neg q];exact r g
 ·by_cases q:g=f
  ·rw[q];exact(wD f y fs).1
  ·refine(wD f y fs).2 g (wi g λz=>hg ?_)
   show(if g=f then some u else mA g)=none
   rw[if_neg q];exact z
theorem Inv.made (I:Inv X pins σ H s):Inv X pins σ (upd (upd H s.heap.objs.size (.own (s.heap.objs.size+1))) (s.heap.objs.size+1) (.ins C s.heap.objs.size []))
 { s with heap:=(s.heap.push PySem.W.emptyDict).push (PySem.W.instObj C s.heap.objs.size) }:=by
 have e1:(s.heap.push PySem.W.emptyDict).get? s.heap.objs.size=some PySem.W.emptyDict:=Heap.get?_push_size s.heap rfl
 have e2:((s.heap.push PySem.W.emptyDict).push (PySem.W.instObj C s.heap.objs.size)).get? (s.heap.objs.size+1)=some (PySem.W.instObj C s.heap.objs.size):=by
  have:=Heap.get?_push_size (s.heap.push PySem.W.emptyDict) (o:=PySem.W.instObj C s.heap.objs.size) rfl
  rwa[Heap.size_push]at this
 have e3:(s.heap.push PySem.W.emptyDict).Ns s.heap.objs.size (λ_=>none):=⟨PySem.W.emptyDict,#[],_,e1,rfl,(λe he=>absurd he (by simp)),λ_=>rfl⟩
 have I1:=I.laid (a:=s.heap.objs.size) (o:= .own (s.heap.objs.size+1)) (h':=s.heap.push PySem.W.emptyDict) (t':=s.toks) (λb u q=>Heap.get?_push_of_some _ q) (Nat.le_refl _) ⟨_,e1⟩
 refine I1.laid (a:=s.heap.objs.size+1) (o:= .ins C s.heap.objs.size []) (t':=s.toks) (λb u q=>Heap.get?_push_of_some _ q) (Nat.le_of_eq (Heap.size_push _ _)) ?_
 have ne:s.heap.objs.size≠s.heap.objs.size+1:=Nat.ne_of_lt (Nat.lt_succ_self _)
 refine⟨by rw[bM ne,cM],Nat.zero_le _,ne,e2,λ_=>none,(Heap.Ns1.of_empty e3).at λo q=>Heap.get?_push_of_some _ q,λ_=>True.intro,λy hy=>absurd rfl hy⟩
theorem RZ {prog:Program}{w:World}{env:Env}{e:Expr}{f:Str}{pos:Pos}{s:Shared}{Q:Value->Shared->Prop}(hb:attributeBase e f env (eval e env)=eval e env)
 (h:wpAny (model prog w) A (eval e env) (λo s₁=>wpAny (model prog w) A (getAttr o f true) Q E s₁) E s):wpAny (model prog w) A (eval (.Attribute e f pos) env) Q E s:=
 Attribute_any_ h (by rw[arm_eval_Attribute,hb])
end
noncomputable def a0O (K:Fg)(ta:TE)(f:Str):TE:=λσ H Q=>ta σ H λx H1=>∃a C dx fs v,x= .ref a/\H1 a=some (.ins C dx fs)/\BK K C/\j8 K C f/\fs.lookup f=some v/\Q v H1
noncomputable def a0G (K:Fg)(ta tv:TE)(f:Str):TS:=λD σ H=>tv σ H λy H1=>ta σ H1 λx H2=>∃a C dx fs,x= .ref a/\H2 a=some (.ins C dx fs)/\BK K C/\j8 K C f/\fs.length<1000/\
 D.nx σ (upd H2 a (.ins C dx (qz f y fs)))
section
variable {X:Cx}{o e value:Expr}{f:Str}{pos pos' tpos:Pos}{ta tv:TE}
theorem Xh (he:PE X e ta)(hb:attributeBase e f X.env (eval e X.env)=eval e X.env):PE X (.Attribute e f pos) (a0O X.K ta f):=by
 intro pins s σ H Q I h
 refine RZ hb (iK (he pins s σ H _ I h) λu s1 ⟨x,H1,I1,rx,a,C,dx,fs,v,ex,ea,c,n,l,q⟩=>?_)
 subst ex
 obtain rfl:u=Value.ref a:=rx
 exact Je I1 ea c n l λu' s2 I2 ru=>⟨v,H1,I2,ru,q⟩
theorem Xr (ha:PE X o ta)(hv:PE X value tv)(hs:swapsWith value (some (.Attribute o f pos')) pos.line X.env=pure false):PS X (.Assign [.Attribute o f pos'] value pos) (a0G X.K ta tv f):=by
 intro pins s σ H D I h
 refine plainObj_wpAny_Assign_Attribute (iK (hv pins s σ H _ I h) λu s1 ⟨y,H1,I1,ry,q⟩=>iK (ha pins s1 σ H1 _ I1 q) λov s2 ⟨x,H2,I2,rx,a,C,dx,fs,ex,ea,c,n,l,q2⟩=>?_) hs
 subst ex
 obtain rfl:ov=Value.ref a:=rx
 exact JK I2 ea c n l ry λs3 I3=>⟨σ,_,I3,q2⟩
end
section
variable {X:Cx}{pins:List (Addr×Obj)}{σ:St}{H:Hp}{s:Shared}{A:Around}{E:Value->Shared->Prop}{Q:Value->Shared->Prop}{c:Value}{b:Bool}
inductive yC (K:Fg)(H:Hp):V->Value->Prop where
 |non:yC K H .non (.type "NoneType")
 |bl (x:Bool):yC K H (.bl x) (.type "bool")
 |int (i:Int):yC K H (.int i) (.type "int")
 |str (x:Str):yC K H (.str x) (.type "str")
 |flt (x:UInt64):yC K H (.flt x) (.type "float")
 |lst {a:Addr}{xs:List V} (e:H a=some (.lst xs)):yC K H (.ref a) (.type "list")
 |tO {a:Addr}{o:Obj}{xs:List V} (e:H a=some (.tO o (.lst xs))):yC K H (.ref a) (.type "list")
 |tup {a:Addr}{xs:List V} (e:H a=some (.tup xs)):yC K H (.ref a) (.type "tuple")
 |dK {a:Addr}{kvs:List (Key×V)} (e:H a=some (.dK kvs)):yC K H (.ref a) (.type "dict")
 |dT {a:Addr}{kvs:List (List Key×V)} (e:H a=some (.dT kvs)):yC K H (.ref a) (.type "dict")
 |ins {a C dx:Addr}{fs:List (Str×V)} (e:H a=some (.ins C dx fs)) (cl:BK K C) (ha:PySem.W.findIn K (.ref C) "__class__"=some (some (.builtin "object.__class__")))
  (hn:PySem.W.specialIn K (.builtin "object.__class__") "__get__"=some (some (.builtin "getset_descriptor.__get__"))) (htk:PySem.W.takesIn K (.builtin "object.__class__")=some true)
  (hm:PySem.W.mroIn K C (.type "object")=some true):yC K H (.ref a) (.ref C)
theorem lJ {x:V}{u t:Value}(I:Inv X pins σ H s)(rx:RelV x u)(ty:yC X.K H x t)(e:PySem.W.kitOne X.K t c=some b)(h:∀tk,Q (.bool b) { s with toks:=tk }):
 wpAny (model X.prog X.w) A (call (.builtin "isinstance") [u,c]) Q E s:=by
 cases ty with
 |non=>cases(show u=Value.none from rx);exact PySem.W.kia_one PySem.W.kitx_none I.wC True.intro e (λz=>nomatch z) h
 |bl y=>cases(show u=Value.bool y from rx);exact PySem.W.kia_one PySem.W.kitx_bool I.wC True.intro e (λz=>nomatch z) h
 |int i=>obtain⟨t,q⟩:=(show ∃t,u=Value.int i t from rx);cases q;exact PySem.W.kia_one PySem.W.kitx_int I.wC True.intro e (λz=>nomatch z) h
 |str y=>obtain⟨t,q⟩:=(show ∃t,u=Value.str y t from rx);cases q;exact PySem.W.kia_one PySem.W.kitx_str I.wC True.intro e (λz=>nomatch z) h
 |flt y=>obtain⟨t,q⟩:=(show ∃t,u=Value.float y t from rx);cases q;exact PySem.W.kia_one PySem.W.kitx_float I.wC True.intro e (λz=>nomatch z) h
 |@lst a xs ea=>
  cases(show u=Value.ref a from rx)
  obtain⟨_,_,n,_,h1⟩:=(show gM X.prog X.w H s.heap a (.lst xs) from I.hok a _ ea)
  exact PySem.W.kia_one PySem.W.kitx_list I.wC ⟨_,h1,rfl⟩ e (λz=>nomatch z) h
 |@tO a ob xs ea=>
  cases(show u=Value.ref a from rx)
  obtain⟨_,_,_,n,_,h1⟩:=(show gM X.prog X.w H s.heap a (.tO ob (.lst xs)) from I.hok a _ ea)
  exact PySem.W.kia_one PySem.W.kitx_list I.wC ⟨_,h1,rfl⟩ e (λz=>nomatch z) h
 |@tup a xs ea=>
  cases(show u=Value.ref a from rx)
  obtain⟨_,_,_,p⟩:=(show gM X.prog X.w H s.heap a (.tup xs) from I.hok a _ ea)
  obtain⟨o,h1,h2,_⟩:=p
  exact PySem.W.kia_one PySem.W.kitx_tuple I.wC ⟨o,h1,h2⟩ e (λz=>nomatch z) h
 |@dK a kvs ea=>
  cases(show u=Value.ref a from rx)
  obtain⟨_,_,vs,_,p⟩:=(show gM X.prog X.w H s.heap a (.dK kvs) from I.hok a _ ea)
  obtain⟨o,es,ep,h1,h2,_⟩:=p
  exact PySem.W.kia_one PySem.W.kitx_dict I.wC ⟨o,h1,h2.1⟩ e (λz=>nomatch z) h
 |@dT a kvs ea=>
  cases(show u=Value.ref a from rx)
  obtain⟨_,_,xs,_,o,es,ep,h1,h2,_⟩:=(show gM X.prog X.w H s.heap a (.dT kvs) from I.hok a _ ea)
  exact PySem.W.kia_one PySem.W.kitx_dict I.wC ⟨o,h1,h2.1⟩ e (λz=>nomatch z) h
 |@ins a C dx fs ea cl ha hn htk hm=>
  cases(show u=Value.ref a from rx)
  obtain⟨mA,O,_⟩:=yW I.hok ea
  obtain⟨od,J,_⟩:=O.look
  exact PySem.W.kia_one (PySem.W.kitx_own (cl.get _) cl.hd ha hn htk hm) I.wC J e (λz=>nomatch z) h
end
end L2
namespace L2
open PySem PySem.Spec PyProof.Rows
structure j9 (k:Nat)(A:Around):Prop where
 hd:A.handled=none
 dp:A.depth+3*k+5<recursionLimit
 un:A.units+16*k+200<cLine
 gu:A.guards=some []
theorem j9.mono {j k:Nat}{A:Around}(r:j9 k A)(h:j<=k):j9 j A:=⟨r.hd,by have:=r.dp;omega,by have:=r.un;omega,r.gu⟩
theorem j9.deeper {k:Nat}{A:Around}(r:j9 (k+1) A)(env:Env):j9 k (A.deeper env):=
 ⟨r.hd,by have:=r.dp;show A.depth+1+3*k+5<_;omega,by have:=r.un;show A.units+3+16*k+200<_;omega,r.gu⟩
theorem Jk {A:Around}{C:Addr}{us:List Value}{kw:List (Str×Value)}:(A.under (.builtin "type.__call__" ⟨.ref C::us,kw⟩)).depth=A.depth+1:=by
 first|rfl|simp[Around.under,Code.weight,Code.isCreation,Code.isGuard,Code.isCaller,Code.frames,Code.isFrame,guardIds]
theorem Jl {A:Around}{C:Addr}{us:List Value}{kw:List (Str×Value)}:(A.under (.builtin "type.__call__" ⟨.ref C::us,kw⟩)).units=A.units+1:=by
 first|rfl|simp[Around.under,Code.cUnits,Code.frames,Code.isFrame]
theorem j9.make {k:Nat}{A:Around}(r:j9 (k+1) A)(C:Addr)(us:List Value)(kw:List (Str×Value)):j9 k (A.under (.builtin "type.__call__" ⟨.ref C::us,kw⟩)):=
 ⟨r.hd,by have:=r.dp;rw[Jk];omega,by have:=r.un;rw[Jl];omega,r.gu⟩
theorem j9.depth {k:Nat}{A:Around}(r:j9 k A):A.depth<recursionLimit:=by have:=r.dp;omega
noncomputable def a07:TA:=λ_ H Q=>Q [] H
noncomputable def a00 (ta:TE)(tr:TA):TA:=λσ H Q=>ta σ H λx H1=>tr σ H1 λxs H2=>Q (x::xs) H2
section
variable {X:Cx}{e:Expr}{es:List Expr}{te:TE}{t:TA}{pos:Pos}
theorem oZ:PA X [] a07:=λ_ _ _ _ H Q I h=>Calls.spliced_nil ⟨[],H,I,.nil,h⟩
theorem jo (ha:PE X e te)(hr:PA X es t)(hs:starEach (e::es) X.env=(false,eval e X.env)::starEach es X.env:=by rfl):PA X (e::es) (a00 te t):=by
 intro pos pins s σ H Q I h
 rw[hs]
 show wpAny _ _ (spliced ((false,eval e X.env)::backTo pos (starEach es X.env))) _ _ s
 refine Calls.spliced_cons (iK (ha pins s σ H _ I h) λu s1 ⟨x,H1,I1,r1,q1⟩=>?_)
 exact iK (hr pos pins s1 σ H1 _ I1 q1) λus s2 ⟨xs,H2,I2,r2,q2⟩=>⟨x::xs,H2,I2,.cons r1 r2,q2⟩
noncomputable def a0W (t:TA):TE:=λσ H Q=>t σ H λxs H1=>xs.length<=sizeLine/\∀p,H1 p=none->Q (.ref p) (upd H1 p (.tup xs))
noncomputable def a0S (t:TA):TE:=λσ H Q=>t σ H λxs H1=>xs.length<=sizeLine/\∀p,H1 p=none->Q (.ref p) (upd H1 p (.lst xs))
theorem Xl {x1}(h:PA X es t):PE X (.Tuple es x1 pos) (a0W t):=by
 intro pins s σ H Q I hq
 refine wpAny_Tuple_spliced (iK (h pos pins s σ H _ I hq) λus s1 ⟨xs,H1,I1,r,z,q⟩=>⟨by rw[<-r.length];exact z,?_⟩)
 have hf:H1 s1.heap.objs.size=none:=I1.hok.fresh (Nat.le_refl _)
 refine⟨.ref s1.heap.objs.size,upd H1 s1.heap.objs.size (.tup xs),I1.laid (t':=s1.toks) (λb u e=>Heap.get?_push_of_some _ e) (Nat.le_refl _) ?_,rfl,q _ hf⟩
 exact⟨z,us,r,⟨_,Heap.get?_push_size _ rfl,rfl,⟨_,rfl⟩,rfl⟩⟩
theorem Qz (h:PA X es t):PE X (.List es pos) (a0S t):=by
 intro pins s σ H Q I hq
 refine wpAny_List_spliced (iK (h pos pins s σ H _ I hq) λus s1 ⟨xs,H1,I1,r,z,q⟩=>⟨by rw[<-r.length];exact z,?_⟩)
 have hf:H1 s1.heap.objs.size=none:=I1.hok.fresh (Nat.le_refl _)
 refine⟨.ref s1.heap.objs.size,upd H1 s1.heap.objs.size (.lst xs),I1.laid (t':=s1.toks) (λb u e=>Heap.get?_push_of_some _ e) (Nat.le_refl _) ?_,rfl,q _ hf⟩
 exact⟨z,us,0,r,Heap.get?_push_size _ rfl⟩
end
noncomputable abbrev Sp:=List V->Hp->VK->XK->Prop
noncomputable abbrev JW:=List Env->Hp->Shared->XK->Value->Shared->Prop
structure IK (P:Program)(w:World)(K:Fg)(mg:Str->Option Value)(base:Heap)(A:Around)(outer:List Env)(s:Shared)(H:Hp):Prop where
 frames:A.frames=some outer
 mod:Mod K mg base
 bs:∀b o,base.get? b=some o->s.heap.get? b=some o/\H b=none
 S7:base.objs.size<=s.heap.objs.size
 yF:s.heap.FunFrames base outer
 Wo:∀b∈frs outer,H b=none
 hok:tX P w H s.heap
 bare:AllBare s.gens
noncomputable def CE (outer:List Env)(P:Program)(w:World)(H:Hp)(s:Shared)(Q:VK)(u:Value)(s':Shared):Prop:=
 ∃v H',s'.os=s.os/\AllBare s'.gens/\Un (frs outer) [] H H' s.heap s'.heap/\tX P w H' s'.heap/\RelV v u/\Q v H'
noncomputable def CR (CX:JW)(outer:List Env)(P:Program)(w:World)(H:Hp)(s:Shared)(Q:VK)(E:XK)(r:Result)(s':Shared):Prop:=
 match r with
 | .ok (.ret u)=>CE outer P w H s Q u s'
 | .ok _=>False
 | .error e=>CX outer H s E e s'
structure eZ (P:Program)(w:World)(K:Fg)(mg:Str->Option Value)(base:Heap)(CX:JW)(k:Nat)(f:Addr)(fd:FuncData)(ps:List Str)(sp:Sp):Prop where
 len:∀vs H Q E,sp vs H Q E->vs.length=ps.length
 run:∀(A:Around) (outer:List Env) (s:Shared) (H:Hp) (args:Args) (us:List Value) (vs:List V) (Q:VK) (E:XK),j9 k A->IK P w K mg base A outer s H->BindsTo s fd args (ps.zip us)->Vals vs us->sp vs H Q E->
  codeAny (model P w) A (.call (.ref f) args) (CR CX outer P w H s Q E) s
theorem eZ.imp {P:Program}{w:World}{K:Fg}{mg:Str->Option Value}{base:Heap}{CX:JW}{k:Nat}{f:Addr}{fd:FuncData}{ps:List Str}{sp sp':Sp}(F:eZ P w K mg base CX k f fd ps sp)
 (h:∀vs H Q E,sp' vs H Q E->sp vs H Q E):eZ P w K mg base CX k f fd ps sp':=
 ⟨λvs H Q E q=>F.len vs H Q E (h _ _ _ _ q),λA outer s H args us vs Q E hr he hb hv hs=>F.run A outer s H args us vs Q E hr he hb hv (h _ _ _ _ hs)⟩
theorem IK.make {P:Program}{w:World}{K:Fg}{mg:Str->Option Value}{base:Heap}{A:Around}{outer:List Env}{s:Shared}{H:Hp}(e:IK P w K mg base A outer s H)(C:Addr)(us:List Value)(kw:List (Str×Value)):
 IK P w K mg base (A.under (.builtin "type.__call__" ⟨.ref C::us,kw⟩)) outer s H:=⟨by first|exact e.frames|(simpa[Around.under,Code.envs,Code.isFrame,pushEnvs]using e.frames),e.mod,e.bs,e.S7,e.yF,e.Wo,e.hok,e.bare⟩
section
variable {X:Cx}{pins:List (Addr×Obj)}{σ:St}{H:Hp}{s s':Shared}
theorem Inv.env0 (I:Inv X pins σ H s):IK X.prog X.w X.K X.mg X.base X.A X.stack s H:=
 ⟨I.ok.frames,I.ok.mod,I.bs,Nat.le_trans I.ok.S7 I.sz,I.stack,I.Lq,I.hok,I.bare⟩
theorem Inv.after {Q:VK}{u:Value}(I:Inv X pins σ H s)(h:CE X.stack X.prog X.w H s Q u s'):EP X pins σ Q u s':=by
 obtain⟨v,H',os,bare,un,hok,r,q⟩:=h
 obtain⟨hh,g,d,t,os'⟩:=s'
 obtain rfl:os'=s.os:=os
 exact⟨v,H',I.call (h':=hh) (g':=g) (d':=d) (t':=t) (ch:=[]) un hok bare (λb z=>absurd z (by simp)),r,q⟩
end
noncomputable def ZZ (sp:Sp)(ur:List V)(E:XK)(t:TA):TE:=λσ H Q=>t σ H λvs H1=>sp (vs++ur) H1 Q E
noncomputable def a05 (C:Addr)(m:Str)(sp:Sp)(ur:List V)(E:XK)(ta:TE)(t:TA):TE:=λσ H Q=>ta σ H λx H1=>∃a dx fs,x= .ref a/\H1 a=some (.ins C dx fs)/\fs.lookup m=none/\
 t σ H1 λvs H2=>sp (x::(vs++ur)) H2 Q E
noncomputable def a04 (C:Addr)(sp:Sp)(ur:List V)(E:XK)(t:TA):TE:=λσ H Q=>t σ H λvs H1=>∀x dx,H1 x=none->H1 dx=none->dx≠x->
 sp (.ref x::(vs++ur)) (upd (upd H1 dx (.own x)) x (.ins C dx [])) (λv H2=>v= .non/\Q (.ref x) H2) E
noncomputable def Binds (K:Fg)(fd:FuncData)(ps:List Str)(ds:List Value):Prop:=
 ∀(s:Shared) (us:List Value),K.In s.heap->(us++ds).length=ps.length->BindsTo s fd ⟨us,[]⟩ (ps.zip (us++ds))
theorem Binds.all {K:Fg}{fd:FuncData}{ps:List Str}(h:∀us:List Value,us.length=ps.length->bindArgs fd ⟨us,[]⟩=pure (ps.zip us)):Binds K fd ps []:=λs us _ hl=>by
 rw[List.append_nil]at hl ⊢
 exact .of_eq (h us hl)
noncomputable def Passes (CX:JW)(X:Cx)(E:XK):Prop:=∀(pins:List (Addr×Obj)) (σ:St) (H:Hp) (s:Shared) (e:Value) (s':Shared),Inv X pins σ H s->CX X.stack H s E e s'->X.xe e s'
section
variable {X:Cx}{CX:JW}{k:Nat}{f C:Addr}{fd:FuncData}{ps:List Str}{sp:Sp}{ur:List V}{ds:List Value}{E:XK}{x m:Str}{p pos apos:Pos}{e o:Expr}{es:List Expr}{ta:TE}{t:TA}
theorem QW {pins:List (Addr×Obj)}{σ:St}{H:Hp}{s:Shared}{Q:VK}{us:List Value}{vs:List V}(F:eZ X.prog X.w X.K X.mg X.base CX k f fd ps sp)(hr:j9 k X.A)(hb:Binds X.K fd ps ds)(hd:Vals ur ds)(hx:Passes CX X E)
 (I:Inv X pins σ H s)(r:Vals vs us)(h:sp (vs++ur) H Q E):wpAny (model X.prog X.w) X.A (call (.ref f) us) (EP X pins σ Q) X.xe s:=by
 have r2:Vals (vs++ur) (us++ds):=r.append hd
 have hl:(us++ds).length=ps.length:=by rw[<-r2.length];exact F.len _ _ _ _ h
 refine wpAny_call (codeAny_mono (F.run X.A X.stack s H ⟨us,[]⟩ (us++ds) (vs++ur) Q E hr I.env0 (hb s us I.wC hl) r2 h) λr s' hq=>?_)
 cases r with
 |error e=>exact hx pins σ H s e s' I hq
 |ok fl=>
  cases fl with
  |ret u=>exact I.after hq
  |next=>exact False.elim hq
  |brk=>exact False.elim hq
  |cont=>exact False.elim hq
theorem En (F:eZ X.prog X.w X.K X.mg X.base CX k f fd ps sp)(hr:j9 k X.A)(hg:Gl X x)(hm:X.mg x=some (.ref f))(hk:PySem.W.keepIn X.K (.ref f)=true)(hb:Binds X.K fd ps ds)(hd:Vals ur ds)(hx:Passes CX X E)
 (ha:PA X (e::es) t)(hdb:(x==("__debug__":Str))=false:=by decide)(he:starEach (e::es) X.env=(false,eval e X.env)::starEach es X.env:=by rfl)(hpl:(backTo pos (starEach es X.env)).any (·.1)=false:=by rfl):
 PE X (.Call (.Name x p) (e::es) [] pos) (ZZ sp ur E t):=by
 intro pins s σ H Q I h
 refine wpAny_Call_Name_kw (yX I hg hm ?_ hdb)
 refine PySem.W.callWith_K (h₀:=X.base) I.ok.mod.kin hk (iK (ha pos pins s σ H _ I h) λus s1 ⟨vs,H1,I1,r,q⟩=>⟨I1.wC,?_⟩) he hpl
 exact QW F hr hb hd hx I1 r q
theorem QB {pl:Sem Bool}(he:PE X o ta)(c:BK X.K C)(hm:Meth X.K C m f)(F:eZ X.prog X.w X.K X.mg X.base CX k f fd ps sp)(hr:j9 k X.A)(hb:Binds X.K fd ps ds)(hd:Vals ur ds)(hx:Passes CX X E)
 (ht:eval (.Call (.Attribute o m apos) [] [] pos) X.env=(do
  let ov<-eval o X.env
  standAt apos.atName
  let(f,first)<-holding [ov] (getMethod ov m pl)
  callWith pos f first (backTo pos (starEach [] X.env)) (backToKw pos (keywordEach [] X.env))):=by rfl):
 PE X (.Call (.Attribute o m apos) [] [] pos) (a05 C m sp ur E ta a07):=by
 intro pins s σ H Q I h
 refine PySem.W.methodCall_KW (pl:=pl) (iK (he pins s σ H _ I h) λu s1 ⟨x,H1,I1,rx,a,dx,fs,ex,ea,l,q⟩=>?_) ht
 subst ex
 obtain rfl:u=Value.ref a:=rx
 refine Jf I1 ea c hm l ?_
 exact PySem.W.callWith_K0 (first:=[.ref a]) I1.wC hm.kp (QW (us:=[.ref a]) (vs:=[.ref a]) F hr hb hd hx I1 (.cons rfl .nil) q)
structure Mk (K:Fg)(C f:Addr):Prop where
 makes:PySem.W.makesIn K C=true
 init:PySem.W.findIn K (.ref C) "__init__"=some (some (.ref f))
 fn:PySem.W.isFn K (.ref f)=true
 kp:PySem.W.keepIn K (.ref C)=true
theorem QX {pins:List (Addr×Obj)}{σ:St}{H:Hp}{s:Shared}{Q:VK}{us:List Value}{vs:List V}(M:Mk X.K C f)(F:eZ X.prog X.w X.K X.mg X.base CX k f fd ps sp)(hr:j9 (k+1) X.A)(hb:Binds X.K fd ps ds)(hd:Vals ur ds)
 (hx:Passes CX X E)(I:Inv X pins σ H s)(r:Vals vs us)
 (h:∀x dx,H x=none->H dx=none->dx≠x->sp (.ref x::(vs++ur)) (upd (upd H dx (.own x)) x (.ins C dx [])) (λv H2=>v= .non/\Q (.ref x) H2) E):
 wpAny (model X.prog X.w) X.A (call (.ref C) us) (EP X pins σ Q) X.xe s:=by
 have hq:=h (s.heap.objs.size+1) s.heap.objs.size (I.hok.fresh (Nat.le_succ _)) (I.hok.fresh (Nat.le_refl _)) (Nat.ne_of_lt (Nat.lt_succ_self _))
 have I2:=Inv.made (C:=C) I
 have r2:Vals (V.ref (s.heap.objs.size+1)::(vs++ur)) (Value.ref (s.heap.objs.size+1)::(us++ds)):= .cons rfl (r.append hd)
 have hl:(Value.ref (s.heap.objs.size+1)::us++ds).length=ps.length:=by
  have e:=r2.length
  rw[F.len _ _ _ _ hq]at e
  exact e.symm
 refine wpAny_call (Qj (f:=f) I.wC M.makes M.init (beq_iff_eq.mp M.fn) (codeAny_mono (F.run _ X.stack _ _ ⟨Value.ref (s.heap.objs.size+1)::us,[]⟩ (Value.ref (s.heap.objs.size+1)::(us++ds)) _ _ E (hr.make C us [])
  (I2.env0.make C us []) (hb _ (Value.ref (s.heap.objs.size+1)::us) I2.wC hl) r2 hq) λr s' hq'=>?_))
 cases r with
 |error e=>exact hx pins σ _ _ e s' I2 hq'
 |ok fl=>
  cases fl with
  |ret u=>
   obtain⟨v,H',I3,rv,ev,q3⟩:=I2.after hq'
   subst ev
   exact⟨rv,⟨V.ref (s.heap.objs.size+1),H',I3,rfl,q3⟩⟩
  |next=>exact False.elim hq'
  |brk=>exact False.elim hq'
  |cont=>exact False.elim hq'
theorem Ud (M:Mk X.K C f)(F:eZ X.prog X.w X.K X.mg X.base CX k f fd ps sp)(hr:j9 (k+1) X.A)(hg:Gl X x)(hm:X.mg x=some (.ref C))(hb:Binds X.K fd ps ds)(hd:Vals ur ds)(hx:Passes CX X E)
 (ha:PA X (e::es) t)(hdb:(x==("__debug__":Str))=false:=by decide)(he:starEach (e::es) X.env=(false,eval e X.env)::starEach es X.env:=by rfl)(hpl:(backTo pos (starEach es X.env)).any (·.1)=false:=by rfl):
 PE X (.Call (.Name x p) (e::es) [] pos) (a04 C sp ur E t):=by
 intro pins s σ H Q I h
 refine wpAny_Call_Name_kw (yX I hg hm ?_ hdb)
 refine PySem.W.callWith_K (h₀:=X.base) I.ok.mod.kin M.kp (iK (ha pos pins s σ H _ I h) λus s1 ⟨vs,H1,I1,r,q⟩=>⟨I1.wC,?_⟩) he hpl
 exact QX M F hr hb hd hx I1 r q
end
section
variable {X:Cx}{CX:JW}{k:Nat}{f C:Addr}{fd:FuncData}{ps ks:List Str}{sp:Sp}{E:XK}{x m:Str}{p pos apos kpos:Pos}{e o:Expr}{es:List Expr}{kws:List Keyword}{te ta:TE}{t tk:TA}{nm:Option Str}
variable {g:List Value->List Value->List Value}{gV:List V->List V->List V}
end
structure bQ (N P:List Str)(sc:Scope):Prop where
 kind:sc.kind= .function
 co:sc.isCoroutine=false
 gen:sc.isGenerator=false
 nd:N.Nodup
 pre:N.take P.length=P
 par:∀x∈P,sc.names.lookup x=some .local\/sc.names.lookup x=some .cell
 X3:∀y∈sc.names,y.2≠ .free
theorem Ce {kindOf:Str->Option NameKind}{x:Str}:∀{binds:List (Str×Value)}{m:Str->Option Value},(∀v,(x,v)∉binds)->bindL kindOf binds m x=m x
 |[],_,_=>rfl
 |(n,v)::r,m,h=>by
  unfold bindL
  rw[Ce λw hw=>h w (List.mem_cons_of_mem _ hw)]
  split
  ·have:x≠n:=by rintro rfl;exact h v List.mem_cons_self
   simp[this]
  ·rfl
theorem Ca {kindOf:Str->Option NameKind}{x:Str}:∀{binds:List (Str×Value)}{m:Str->Option Value},(∀v,(x,v)∉binds)->bindC kindOf binds m x=m x
 |[],_,_=>rfl
 |(n,v)::r,m,h=>by
  unfold bindC
  rw[Ca λw hw=>h w (List.mem_cons_of_mem _ hw)]
  split
  ·rfl
  ·have:x≠n:=by rintro rfl;exact h v List.mem_cons_self
   simp[this]
theorem Cd {kindOf:Str->Option NameKind}{x:Str}{v:Value}:∀{P:List Str}{vs:List Value}{i:Nat}{m:Str->Option Value},P.Nodup->P[i]?=some x->vs[i]?=some v->kindOf x=some .local->
 bindL kindOf (P.zip vs) m x=some v
 |[],_,_,_,_,h,_,_=>by simp at h
 |_::_,[],_,_,_,_,h,_=>by simp at h
 |p::P,w::vs,0,m,nd,h1,h2,hk=>by
  simp at h1 h2;subst h1;subst h2
  show bindL kindOf ((p,w)::P.zip vs) m p=_
  unfold bindL
  rw[Ce λv hv=>(List.nodup_cons.mp nd).1 (List.of_mem_zip hv).1,if_pos hk]
  simp
 |p::P,w::vs,i+1,m,nd,h1,h2,hk=>by
  show bindL kindOf ((p,w)::P.zip vs) m x=_
  unfold bindL
  exact Cd (i:=i) (List.nodup_cons.mp nd).2 (by simpa using h1) (by simpa using h2) hk
theorem BZ {kindOf:Str->Option NameKind}{x:Str}{v:Value}:∀{P:List Str}{vs:List Value}{i:Nat}{m:Str->Option Value},P.Nodup->P[i]?=some x->vs[i]?=some v->kindOf x≠some .local->
 bindC kindOf (P.zip vs) m x=some v
 |[],_,_,_,_,h,_,_=>by simp at h
 |_::_,[],_,_,_,_,h,_=>by simp at h
 |p::P,w::vs,0,m,nd,h1,h2,hk=>by
  simp at h1 h2;subst h1;subst h2
  show bindC kindOf ((p,w)::P.zip vs) m p=_
  unfold bindC
  rw[Ca λv hv=>(List.nodup_cons.mp nd).1 (List.of_mem_zip hv).1,if_neg hk]
  simp
 |p::P,w::vs,i+1,m,nd,h1,h2,hk=>by
  show bindC kindOf ((p,w)::P.zip vs) m x=_
  unfold bindC
  exact BZ (i:=i) (List.nodup_cons.mp nd).2 (by simpa using h1) (by simpa using h2) hk
noncomputable def start (N:List Str)(vs:List V):St:=vs.map some++List.replicate (N.length - vs.length) none
noncomputable def DK (CX:JW)(P:Program)(w:World)(K:Fg)(mg:Str->Option Value)(base:Heap)(N:List Str)(qual:Str)(scope:Scope)(f:Addr)(cd:Value)(A:Around)(outer:List Env)(s:Shared)(H:Hp)(E:XK):Cx where
 prog:=P
 w:=w
 K:=K
 mg:=mg
 base:=base
 A:=A.deeper (envOfC qual scope s.heap.objs.size f cd)
 N:=N
 s₀:=s
 H₀:=H
 env:=envOfC qual scope s.heap.objs.size f cd
 outer:=outer
 stack:=envOfC qual scope s.heap.objs.size f cd::outer
 ex:=[]
 calm:=true
 fn:=λ_=>true
 pn:=[]
 xe:=λe s'=>wpAny (model P w) (A.deeper (envOfC qual scope s.heap.objs.size f cd)) (leaving (envOfC qual scope s.heap.objs.size f cd) e) (λ_ s''=>CX outer H s E e s'') (λe' s''=>CX outer H s E e' s'') s'
theorem G9 {sc:Scope}{n:Nat}{x:Str}(h:sc.names.lookup x=some .cell):∃c,(cellsFrom n sc.names []).lookup x=some c:=by
 have q:=PySem.W.cellsFrom_some sc.names n [] (.inl h)
 exact Option.isSome_iff_exists.mp q
theorem N5 {CX:JW}{P:Program}{w:World}{K:Fg}{mg:Str->Option Value}{base:Heap}{N ps:List Str}{qual:Str}{scope:Scope}{f:Addr}{cd:Value}{A:Around}{outer:List Env}{s s1:Shared}{H:Hp}{E:XK}{us:List Value}{vs:List V}
 (S:bQ N ps scope)(hd:A.handled=none)(e0:IK P w K mg base A outer s H)(hl:vs.length=ps.length)(r:Vals vs us)
 (x:InCallC s s.heap.objs.size (bindL (envOfC qual scope s.heap.objs.size f cd).kindOf (ps.zip us) λ_=>none) (cellsFrom (s.heap.objs.size+1) scope.names []) (bindC (envOfC qual scope s.heap.objs.size f cd).kindOf (ps.zip us) λ_=>none) s1):
 Inv (DK CX P w K mg base N qual scope f cd A outer s H E) [] (start N vs) H s1:=by
 have hpl:ps.length<=N.length:=by have:=congrArg List.length S.pre;rw[List.length_take]at this;omega
 obtain⟨h1,tk,rfl,hk⟩:=x.done
 have Zf:∀b:Addr,b∉(DK CX P w K mg base N qual scope f cd A outer s H E).ex:=λb z=>absurd (show b∈([]:List Addr) from z) (by simp)
 refine⟨⟨e0.mod,S.kind,rfl,rfl,Nat.le_refl _,λy z c h1 h2=>?_,λy hy=>?_,λy c _ h=>?_,λ_=>hd,Around.frames_deeper e0.frames,.inr ⟨rfl,rfl⟩,λb z=>absurd z (Zf b),e0.bs,e0.S7,λb _ _=>Zf b,λb z=>absurd z (Zf b),e0.yF,e0.Wo⟩,
  rfl,e0.bare,Un.kept hk,⟨_,x.toInCall.ns,λi y v h1 h2 h3=>?_⟩,λy c h=>⟨_,x.cell y c h⟩,e0.hok.fresh (Nat.le_refl _),λy c h=>?_,λp hp=>absurd (show p∈([]:List (Addr×Obj)) from hp) (by simp),e0.hok.kept hk,?_⟩
 ·exact name_of_addr x.apart (PySem.mem_of_lookup h1) (PySem.mem_of_lookup h2)
 ·have hy:scope.names.lookup y=some .cell\/scope.names.lookup y=some .free:=hy
  rcases hy with hy|hy
  ·exact G9 hy
  ·exact absurd rfl (S.X3 _ (PySem.mem_of_lookup hy))
 ·exact Nat.le_of_lt (x.above y c (PySem.mem_of_lookup h))
 ·have hi:i<vs.length:=by
   unfold start at h2
   by_cases hi:i<vs.length
   ·exact hi
   ·rw[List.getElem?_append_right (by simpa using hi)]at h2
    rw[List.getElem?_replicate]at h2
    split at h2<;>cases h2
  have ha:vs[i]?=some v:=by
   unfold start at h2
   rw[List.getElem?_append_left (by simpa using hi),List.getElem?_map]at h2
   cases e:vs[i]? with
   |none=>rw[e]at h2;cases h2
   |some a=>rw[e]at h2;cases h2;rfl
  obtain⟨u,hu,rv⟩:=r.get ha
  have hp:ps[i]?=some y:=by
   rw[<-S.pre,List.getElem?_take_of_lt (by omega)];exact h1
  have ndP:ps.Nodup:=by rw[<-S.pre];exact S.nd.sublist (List.take_sublist _ _)
  refine⟨u,rv,?_⟩
  rcases S.par y (List.mem_of_getElem? hp)with k|k
  ·exact .inl ⟨k,Cd ndP hp hu k⟩
  ·obtain⟨c,e⟩:=G9 (n:=s.heap.objs.size+1) k
   refine .inr ⟨.inl k,c,e,?_⟩
   have q:=x.cell y c e
   rw[BZ ndP hp hu (by show scope.names.lookup y≠_;rw[k];decide)]at q
   exact q
 ·exact e0.hok.fresh (Nat.le_of_lt (x.above y c (PySem.mem_of_lookup h)))
 ·unfold start
  show _=N.length
  rw[List.length_append,List.length_map,List.length_replicate]
  omega
theorem YL {CX:JW}{P:Program}{w:World}{K:Fg}{mg:Str->Option Value}{base:Heap}{k:Nat}{f:Addr}{name qual:Str}{params:Arguments}{body:List Stmt}{scope:Scope}{dV kV doc pm cdv ct oc:Value}{an od:Option Addr}
 {osl:Array (Option Value)}{N ps:List Str}{sp:Sp}(lk:K.lookup f=some ⟨oc,od,.func (PySem.W.fnOf name qual params body scope dV kV doc pm an cdv ct),osl⟩)(hcd:PySem.W.codeIn K cdv qual=true)(S:bQ N ps scope)
 (len:∀vs H Q E,sp vs H Q E->vs.length=ps.length)
 (hbody:∀(A:Around) (outer:List Env) (s:Shared) (H:Hp) (vs:List V) (Q:VK) (E:XK),j9 k (A.deeper (envOfC qual scope s.heap.objs.size f cdv))->sp vs H Q E->
  ∃t,wR (DK CX P w K mg base N qual scope f cdv A outer s H E) body t/\t { nx:=λ_ H'=>Q .non H',rt:=Q } (start N vs) H):
 eZ P w K mg base CX (k+1) f (PySem.W.fnOf name qual params body scope dV kV doc pm an cdv ct) ps sp:=by
 refine⟨len,λA outer s H args us vs Q E hr e0 hb r hsp=>?_⟩
 have hl:=len _ _ _ _ hsp
 have KX:K.In s.heap:=e0.mod.kin.keeps λb o e=>(e0.bs b o e).1
 have lim:s.heap.NoLimit:=e0.mod.nolimit.keeps λb o e=>(e0.bs b o e).1
 have hkind:∀y∈ps.zip us,scope.names.lookup y.1=some .local\/(scope.names.lookup y.1=some .cell/\((cellsFrom (s.heap.objs.size+1) scope.names []).lookup y.1).isSome=true):=λ⟨n,v⟩ hy=>by
  rcases S.par n (List.of_mem_zip hy).1 with q|q
  ·exact .inl q
  ·exact .inr ⟨q,PySem.W.cellsFrom_some _ _ _ (.inl q)⟩
 refine codeAny_call_function hr.depth (KX _ _ lk) rfl S.co S.gen rfl (PySem.W.codeRec_of KX hcd) (hb _ _ _ _ ?_)
 refine wpAny_newFunctionEnv_cells S.kind hkind λenv he s1 x=>?_
 subst he
 refine⟨lim.keeps x.toInCall.keep,codeAny_func ?_⟩
 obtain⟨t,ht,hq⟩:=hbody A outer s H vs Q E (hr.deeper _) hsp
 have I:Inv (DK CX P w K mg base N qual scope f cdv A outer s H E) [] (start N vs) H s1:=N5 S hr.hd e0 hl r x
 refine wpAny_mono (ht [] s1 (start N vs) H _ I hq) (λfl s' hs=>?_) λe s' hs=>hs
 have fin:∀{σ':St}{H':Hp}{v:V}{u:Value},Inv (DK CX P w K mg base N qual scope f cdv A outer s H E) [] σ' H' s'->RelV v u->Q v H'->CE outer P w H s Q u s':=
  λ{σ' H' v u} J rv q=>⟨v,H',J.os,J.bare,J.base,J.hok,rv,q⟩
 cases fl with
 |ret u=>
  obtain⟨v,σ',H',J,rv,q⟩:=hs
  exact fin J rv q
 |next=>
  obtain⟨σ',H',J,q⟩:=hs
  exact fin (v:=V.non) (u:=Value.none) J rfl q
 |brk=>
  obtain⟨_,_,_,q⟩:=hs
  exact False.elim q
 |cont=>
  obtain⟨_,_,_,q⟩:=hs
  exact False.elim q
end L2
namespace L2
open PySem PySem.Spec PyProof.Rows
section
variable {X:Cx}{x:Str}{p pos:Pos}{e:Expr}{es:List Expr}{t:TA}{id T:String}{r:List V->Hp->VK->Prop}
noncomputable def tCB (r:List V->Hp->VK->Prop)(t:TA):TE:=λσ H Q=>t σ H λvs H1=>r vs H1 Q
theorem pM (hc:jB X (.builtin id) r)(hg:Gl X x)(hm:X.mg x=none)(hv:bootBuiltins x=some (.builtin id))(ha:PA X (e::es) t)(hn:x≠"__name__":=by decide)(hdb:(x==("__debug__":Str))=false:=by decide)
 (he:starEach (e::es) X.env=(false,eval e X.env)::starEach es X.env:=by rfl)(hpl:(backTo pos (starEach es X.env)).any (·.1)=false:=by rfl):PE X (.Call (.Name x p) (e::es) [] pos) (tCB r t):=by
 intro pins s σ H Q I h
 refine wpAny_Call_Name_kw (uD I hg hm hv ?_ hn hdb)
 exact PyProof.Rows.callWith_builtin1 (iK (ha pos pins s σ H _ I h) λus s1 ⟨vs,H1,I1,r1,q1⟩=>hc pins s1 σ H1 vs us Q I1 r1 q1) he hpl
theorem wL (hc:jB X (.type T) r)(hg:Gl X x)(hm:X.mg x=none)(hv:bootBuiltins x=some (.type T))(ha:PA X (e::es) t)(hn:x≠"__name__":=by decide)(hdb:(x==("__debug__":Str))=false:=by decide)
 (he:starEach (e::es) X.env=(false,eval e X.env)::starEach es X.env:=by rfl)(hpl:(backTo pos (starEach es X.env)).any (·.1)=false:=by rfl):PE X (.Call (.Name x p) (e::es) [] pos) (tCB r t):=by
 intro pins s σ H Q I h
 refine wpAny_Call_Name_kw (uD I hg hm hv ?_ hn hdb)
 exact PyProof.Rows.callWith_type1 (iK (ha pos pins s σ H _ I h) λus s1 ⟨vs,H1,I1,r1,q1⟩=>hc pins s1 σ H1 vs us Q I1 r1 q1) he hpl
end
end L2
namespace HT
open PySem PyProof.Rows
section
open PySem.SeqAt
open PySem.AutoSeq1 (wpAny_loadPart')
open PySem.MeetsSeq PySem.MeetsSeq2 PySem.MeetsSeq3
end
section
variable {prog:Program}{w:World}{A:Around}{E:Value->Shared->Prop}{s:Shared}
theorem Sd {t b:Addr}{vs ws:List Value}{Q:Value->Shared->Prop}(ht:IsTup s.heap t vs.toArray)(hb:IsTup s.heap b ws.toArray)(hv:vs≠[])
 (h1:ws=[]->Q (.ref t) s)(h2:ws≠[]->Q (.ref s.heap.objs.size) { s with heap:=s.heap.push { cls:= .type "tuple",data:= .seq (vs++ws).toArray } })
 (hsz:vs.length+ws.length<=sizeLine):wpAny (model prog w) A (binaryOp .Add (.ref t) (.ref b)) Q E s:=by
 obtain⟨⟨cls,dd,data,sl⟩,ho,hc,n,hd⟩:=id ht
 obtain⟨⟨cls2,dd2,data2,sl2⟩,ho2,hc2,n2,hd2⟩:=id hb
 simp only at hc hd hc2 hd2
 subst hc hd hc2 hd2
 have e:vs.toArray++ws.toArray=(vs++ws).toArray:=by simp
 by_cases hw:ws=[]
 ·exact concat_meets ⟨_,ho,rfl⟩ ⟨_,ho2,rfl⟩ noFill_tuple_add seq_tuple_add PySem.F.slot_tuple_add PySem.F.entry_tuple_add (PySem.F.args_tuple_add_2 _ _)
   (tuple_addW1 t b vs.toArray ws.toArray n n2 dd dd2 sl sl2 (by simpa using hv) (by simp[hw])) ⟨ho,ho2,h1 hw⟩
 ·refine concat_meets ⟨_,ho,rfl⟩ ⟨_,ho2,rfl⟩ noFill_tuple_add seq_tuple_add PySem.F.slot_tuple_add PySem.F.entry_tuple_add (PySem.F.args_tuple_add_2 _ _)
   (tuple_addW2 t b vs.toArray ws.toArray n n2 dd dd2 sl sl2 (by simpa using hv) (by simpa using hw) (by rw[List.size_toArray,List.size_toArray];exact hsz)) ⟨ho,ho2,?_⟩
  rw[e]
  exact h2 hw
noncomputable def jh (n d:Nat):Option Int->Nat
 |none=>d
 |some v=>if v<0 then(v+(n:Int)).toNat else min v.toNat n
theorem XF (n d:Nat)(hd:d<=n)(o:Option Int):jh n d o<=n:=by
 cases o with
 |none=>exact hd
 |some v=>
  show(if v<0 then(v+(n:Int)).toNat else min v.toNat n)<=n
  by_cases hv:v<0
  ·rw[if_pos hv];omega
  ·rw[if_neg hv];exact Nat.min_le_right _ _
theorem K6 (v:Int)(n d:Nat):(if v<0 then max (v+(n:Int)) 0 else min v (n:Int))=((jh n d (some v):Nat):Int):=by
 show(if v<0 then max (v+(n:Int)) 0 else min v (n:Int))=(((if v<0 then(v+(n:Int)).toNat else min v.toNat n):Nat):Int)
 by_cases hv:v<0
 ·simp only[if_pos hv];omega
 ·simp only[if_neg hv];omega
theorem J2 (lo hi:Option Int)(n:Nat):Builtin.Slice.sliceAdjust lo hi 1 (n:Int)=(((jh n 0 lo:Nat):Int),((jh n n hi:Nat):Int)):=by
 have h1:¬((1:Int)<0):=by omega
 unfold Builtin.Slice.sliceAdjust
 simp only[h1,if_false]
 refine Prod.ext ?_ ?_
 ·cases lo with
  |none=>rfl
  |some v=>exact K6 v n 0
 ·cases hi with
  |none=>rfl
  |some v=>exact K6 v n n
theorem JB (i j:Nat):Builtin.Slice.slicePlaces (i:Int) (j:Int) 1=j - i:=by
 unfold Builtin.Slice.slicePlaces
 have h1:(1:Int)>0:=by omega
 simp only[h1,if_true,Int.ediv_one]
 split<;>omega
theorem Av {v:Value}{o:Option Int}{Q:Option Int->Shared->Prop}(p:IsPart v o)(h:Q o s):wpAny (model prog w) A (Builtin.Slice.slicePartIndex v) Q E s:=by
 cases p with
 |none=>exact slicePart_none h
 |int i t=>exact slicePart_int h
theorem pW {sl:Addr}{vl vu:Value}{lo hi:Option Int}{n:Nat}{Q:Int×Int×Nat->Shared->Prop}(hs:s.heap.IsSliceOf sl vl vu .none)(pl:IsPart vl lo)(pu:IsPart vu hi)
 (h:Q (((jh n 0 lo:Nat):Int),1,jh n n hi - jh n 0 lo) s):wpAny (model prog w) A (Builtin.Slice.sliceApplied (.ref sl) (pure (n:Int))) Q E s:=by
 obtain⟨os,hos,hcs,hds⟩:=id hs
 unfold Builtin.Slice.sliceApplied Builtin.Slice.sliceFields
 refine wpAny_bind (wpAny_bind (wpAny_field hos hds (x:=vl) rfl (wpAny_bind (wpAny_field hos hds (x:=vu) rfl (wpAny_bind (wpAny_field hos hds (x:= .none) rfl (wpAny_pure ?_)))))))
 refine wpAny_bind (slicePart_none ?_)
 show wpAny _ _ (if((1:Int)==0)=true then _ else _) _ _ s
 rw[if_neg (by decide)]
 refine wpAny_bind (Av pl (wpAny_bind (Av pu (wpAny_bind (wpAny_pure ?_)))))
 show wpAny _ _ (match Builtin.Slice.sliceAdjust lo hi 1 (n:Int)with|(lo,hi)=>pure (lo,(1:Int),Builtin.Slice.slicePlaces lo hi 1)) _ _ s
 rw[J2 lo hi n]
 show wpAny _ _ (pure (((jh n 0 lo:Nat):Int),(1:Int),Builtin.Slice.slicePlaces ((jh n 0 lo:Nat):Int) ((jh n n hi:Nat):Int) 1)) _ _ s
 rw[JB]
 exact wpAny_pure h
theorem QF (xs:Array Value)(i k:Nat):((List.range k).filterMap λ(m:Nat)=>xs[((i:Int)+(m:Int)*1).toNat]?).toArray=((xs.toList.drop i).take k).toArray:=by
 have e:(λ(m:Nat)=>xs[((i:Int)+(m:Int)*1).toNat]?)=λm=>xs[i+m]?:=by
  funext m
  have:((i:Int)+(m:Int)*1).toNat=i+m:=by omega
  rw[this]
 rw[e]
 have:=pick_run xs i k
 rw[List.filterMap_map]at this
 have e2:((λx=>xs[x]?)∘λx=>i+x)=λm=>xs[i+m]?:=rfl
 rw[e2]at this
 rw[this]
theorem v5 {t sl:Addr}{items:Array Value}{vl vu:Value}{lo hi:Option Int}{Q:Value->Shared->Prop}(ht:IsTup s.heap t items)(hs:s.heap.IsSliceOf sl vl vu .none)(pl:IsPart vl lo)(pu:IsPart vu hi)
 (hw:¬(jh items.size 0 lo=0/\jh items.size items.size hi=items.size))
 (h:Q (.ref s.heap.objs.size) { s with heap:=s.heap.push { cls:= .type "tuple",data:= .seq ((items.toList.drop (jh items.size 0 lo)).take (jh items.size items.size hi - jh items.size 0 lo)).toArray } })
 (hsz:items.size<=sizeLine):wpAny (model prog w) A (getItem (.ref t) (.ref sl)) Q E s:=by
 have Ko:sizeOk (.seq ((items.toList.drop (jh items.size 0 lo)).take (jh items.size items.size hi - jh items.size 0 lo)).toArray):=by
  show((items.toList.drop (jh items.size 0 lo)).take (jh items.size items.size hi - jh items.size 0 lo)).toArray.size<=sizeLine
  rw[List.size_toArray,List.length_take,List.length_drop,Array.length_toList]
  omega
 have hj:jh items.size items.size hi<=items.size:=XF _ _ (Nat.le_refl _) hi
 obtain⟨os,hos,hcs,hds⟩:=id hs
 have hTs:s.TypeIs (.ref sl) "slice":=⟨os,hos,hcs⟩
 unfold getItem
 try with_reducible refine wpAny_holding ?_
 first|refine wpAny_bind (wpAny_pure ?_)|skip
 refine wpAny_bind (wpAny_sequenceKey ht.typeIs (by decide) ?_)
 refine wpAny_bind (wpAny_callSpecial?_slot (name:=Str.ofString "__getitem__") ht.typeIs PyProof.Rows.slot_tuple_getitem
  (wpAny_call_entry PyProof.Rows.slot_tuple_getitem ht.typeIs entry_tuple_getitem ?_ (args_tuple_getitem _ _)))
 show wpAny _ _ (Builtin.Tuple.tupleItemsOf (.ref t)>>=_) _ _ s
 refine wpAny_bind (tupleItemsOf_ ht ?_)
 refine wpAny_bind (wpAny_typeOf hTs ?_)
 rw[if_pos (by decide)]
 refine wpAny_bind (pW hs pl pu ?_)
 have hno:¬((((jh items.size 0 lo:Nat):Int)==0&&(1:Int)==1&&(jh items.size items.size hi - jh items.size 0 lo)==items.size)=true):=by
  intro q
  rw[Bool.and_eq_true,Bool.and_eq_true]at q
  have q1:((jh items.size 0 lo:Nat):Int)=0:=eq_of_beq q.1.1
  have q2:jh items.size items.size hi - jh items.size 0 lo=items.size:=eq_of_beq q.2
  exact hw ⟨by omega,by omega⟩
 show wpAny _ _ (if(((jh items.size 0 lo:Nat):Int)==0&&(1:Int)==1&&(jh items.size items.size hi - jh items.size 0 lo)==items.size)=true then _ else _) _ _ s
 rw[if_neg hno,QF]
 first
  |exact wpAny_bind (m:=Builtin.Tuple.tupleExact _) (wpAny_newObj_type (wpAny_pure ⟨_,rfl,wpAny_pure h⟩) Ko)
  |exact wpAny_bind (m:=Builtin.Tuple.tupleExact _) (wpAny_newObj_type (wpAny_bind (wpAny_pure (wpAny_pure ⟨_,rfl,wpAny_pure h⟩))) Ko)
  |exact wpAny_bind (wpAny_bind (m:=Builtin.Tuple.tupleExact _) (wpAny_newObj_type (wpAny_pure (wpAny_pure ⟨_,rfl,wpAny_pure h⟩)) Ko))
  |exact wpAny_bind (wpAny_bind (m:=Builtin.Tuple.tupleExact _) (wpAny_newObj_type (wpAny_pure ⟨_,rfl,wpAny_pure h⟩) Ko))
end
end HT
namespace L2
open PySem PySem.Spec PyProof.Rows
noncomputable abbrev TO:=St->Hp->(Option Int->Hp->Prop)->Prop
noncomputable def PO (X:Cx)(e:Option Expr)(t:TO):Prop:=
 ∀(pins:List (Addr×Obj)) (s:Shared) (σ:St) (H:Hp) (Q:Option Int->Hp->Prop),Inv X pins σ H s->t σ H Q->
  wpAny (model X.prog X.w) X.A (evalPart e X.env) (λu s'=>∃o H',Inv X pins σ H' s'/\IsPart u o/\Q o H') X.xe s
noncomputable def UW:TO:=λ_ H Q=>Q none H
noncomputable def a08 (t:TE):TO:=λσ H Q=>t σ H λx H1=>∃i,x= .int i/\Q (some i) H1
section
variable {X:Cx}{e:Expr}{te:TE}{lo hi:Option Expr}{tl th:TO}{pos p2:Pos}
theorem Uh:PO X none UW:=by
 intro pins s σ H Q I h
 rw[evalPart_none]
 exact wpAny_pure ⟨none,H,I,.none,h⟩
theorem Ui (h:PE X e te):PO X (some e) (a08 te):=by
 intro pins s σ H Q I hw
 rw[evalPart_some]
 refine iK (h pins s σ H _ I hw) λu s1 ⟨x,H1,I1,r1,q1⟩=>?_
 obtain⟨i,rfl,q⟩:=q1
 obtain⟨t,rfl⟩:=r1
 exact⟨some i,H1,I1,.int i t,q⟩
noncomputable def RQ (X:Cx)(r:V->Option Int->Option Int->Hp->VK->Prop):Prop:=
 ∀(pins:List (Addr×Obj)) (s:Shared) (σ:St) (H:Hp) (x:V) (v vl vu:Value) (lo hi:Option Int) (sl:Addr) (Q:VK),Inv X pins σ H s->RelV x v->s.heap.IsSliceOf sl vl vu .none->IsPart vl lo->IsPart vu hi->r x lo hi H Q->
  ∃T id,typeLookup (.type T) "__getitem__"=pure (some (.builtin id))/\s.TypeIs v T/\wpAny (model X.prog X.w) X.A (getItem v (.ref sl)) (EP X pins σ Q) X.xe s
theorem RQ.or {r r':V->Option Int->Option Int->Hp->VK->Prop}(h:RQ X r)(h':RQ X r'):RQ X (λx lo hi H Q=>r x lo hi H Q\/r' x lo hi H Q):=by
 intro pins s σ H x v vl vu lo hi sl Q I rx hs pl pu q
 rcases q with q|q
 ·exact h pins s σ H x v vl vu lo hi sl Q I rx hs pl pu q
 ·exact h' pins s σ H x v vl vu lo hi sl Q I rx hs pl pu q
noncomputable def tSl (r:V->Option Int->Option Int->Hp->VK->Prop)(te:TE)(tl th:TO):TE:=λσ H Q=>te σ H λx H1=>tl σ H1 λl H2=>th σ H2 λu H3=>r x l u H3 Q
theorem QC {r:V->Option Int->Option Int->Hp->VK->Prop}(hr:RQ X r)(he:PE X e te)(hl:PO X lo tl)(hu:PO X hi th):PE X (.Subscript e (.Slice lo hi none p2) pos) (tSl r te tl th):=by
 intro pins s σ H Q I h
 refine Subscript_ (iK (he pins s σ H _ I h) λv s1 ⟨x,H1,I1,r1,q1⟩=>?_)
 refine wpAny_Slice (iK (hl pins s1 σ H1 _ I1 q1) λvl s2 ⟨l,H2,I2,pl,q2⟩=>iK (hu pins s2 σ H2 _ I2 q2) λvu s3 ⟨u,H3,I3,pu,q3⟩=>?_)
 rw[evalPart_none]
 refine wpAny_pure ?_
 have I4:Inv X pins σ H3 { s3 with heap:=s3.heap.push { cls:= .type "slice",data:= .fields #[vl,vu,.none] } }:=I3.kept (t':=s3.toks) λb ob q=>Heap.get?_push_of_some _ q
 obtain⟨T,id,hT,ht,hg⟩:=hr pins { s3 with heap:=s3.heap.push { cls:= .type "slice",data:= .fields #[vl,vu,.none] } } σ H3 x v vl vu l u s3.heap.objs.size Q I4 r1 (Heap.IsSliceOf.new ..) pl pu q3
 show wpAny (model X.prog X.w) X.A (subscriptTail e (.Slice lo hi none p2) v (.ref s3.heap.objs.size)) (EP X pins σ Q) X.xe { s3 with heap:=s3.heap.push { cls:= .type "slice",data:= .fields #[vl,vu,.none] } }
 exact tail_any (ops:=[.ref s3.heap.objs.size,v]) ht hT hg (by with_unfolding_all rfl)
noncomputable def Ge (xs:List V)(lo hi:Option Int):List V:=(xs.drop (HT.jh xs.length 0 lo)).take (HT.jh xs.length xs.length hi - HT.jh xs.length 0 lo)
theorem wU (xs:List V)(lo hi:Option Int):(Ge xs lo hi).length<=xs.length:=by
 unfold Ge
 rw[List.length_take,List.length_drop]
 omega
noncomputable def ZP (K:Fg):V->Option Int->Option Int->Hp->VK->Prop:=λx lo hi H Q=>∃a xs,x= .ref a/\uN K H a xs/\
 ¬(HT.jh xs.length 0 lo=0/\HT.jh xs.length xs.length hi=xs.length)/\∀p,H p=none->Q (.ref p) (upd H p (.tup (Ge xs lo hi)))
theorem XX:RQ X (ZP X.K):=by
 intro pins s σ H x v vl vu lo hi sl Q I rx hs pl pu h
 obtain⟨a,xs,rfl,hx,hw,q⟩:=h
 cases rx
 obtain⟨its,r,ht,hz⟩:=I.tuple hx
 have hlen:its.toArray.size=xs.length:=by rw[List.size_toArray];exact r.length.symm
 refine⟨"tuple",_,PyProof.Rows.slot_tuple_getitem.lookup,ht.typeIs,?_⟩
 refine HT.v5 ht hs pl pu (by rw[hlen];exact hw) ?_ (by rw[hlen];exact hz)
 rw[hlen]
 refine⟨.ref s.heap.objs.size,_,I.laid (t':=s.toks) (o:= .tup (Ge xs lo hi)) (λb ob q=>Heap.get?_push_of_some _ q) (Nat.le_refl _) ?_,rfl,q _ (I.hok.fresh (Nat.le_refl _))⟩
 exact⟨Nat.le_trans (wU xs lo hi) hz,_,(r.drop (HT.jh xs.length 0 lo)).take (HT.jh xs.length xs.length hi - HT.jh xs.length 0 lo),uR.new _ _⟩
noncomputable def Vr (K:Fg):R2:=λx y H Q=>∃a b xs ys,x= .ref a/\y= .ref b/\uN K H a xs/\uN K H b ys/\xs≠[]/\xs.length+ys.length<=sizeLine/\
 (ys=[]->Q (.ref a) H)/\(ys≠[]->∀p,H p=none->Q (.ref p) (upd H p (.tup (xs++ys))))
theorem Vals.qw {xs:List V}{us:List Value}(r:Vals xs us):us=[]↔xs=[]:=by
 cases r with
 |nil=>simp
 |cons _ _=>simp
theorem U6:tY X (binaryOp .Add) (Vr X.K):=by
 intro pins s σ H x y v u Q I rx ry h
 obtain⟨a,b,xs,ys,rfl,rfl,ha,hb,hx,hz,q1,q2⟩:=h
 cases rx
 cases ry
 obtain⟨its,r1,p1,_⟩:=I.tuple ha
 obtain⟨its2,r2,p2,_⟩:=I.tuple hb
 refine HT.Sd p1 p2 (λz=>hx (r1.qw.mp z)) (λz=>⟨.ref a,H,I,rfl,q1 (r2.qw.mp z)⟩) (λz=>?_) (by rw[<-r1.length,<-r2.length];exact hz)
 refine⟨.ref s.heap.objs.size,_,I.laid (t':=s.toks) (o:= .tup (xs++ys)) (λb ob q=>Heap.get?_push_of_some _ q) (Nat.le_refl _) ?_,rfl,q2 (λw=>z (r2.qw.mpr w)) _ (I.hok.fresh (Nat.le_refl _))⟩
 exact⟨by rw[List.length_append];exact hz,_,r1.append r2,uR.new _ _⟩
end
end L2
namespace L2
open PySem PySem.Spec PyProof.Rows
noncomputable def Kr (n:Nat)(i:Int):Option Nat:=if 0<=i then(if i<n then some i.toNat else none)else if -(n:Int)<=i then some (i+n).toNat else none
noncomputable def yD {α:Type}(xs:List α)(i:Int):Option α:=(Kr xs.length i).bind λj=>xs[j]?
theorem Ks {n:Nat}{i:Int}{j:Nat}(h:Kr n i=some j):seqIndex? i n=some j/\j<n/\ -(n:Int)<=i/\i<n:=by
 unfold Kr at h
 by_cases h0:0<=i
 ·rw[if_pos h0]at h
  by_cases h1:i<n
  ·rw[if_pos h1]at h
   have e:i.toNat=j:=Option.some.inj h
   exact⟨by rw[seqIndex_of h0 h1,e],by omega,by omega,h1⟩
  ·rw[if_neg h1]at h;cases h
 ·rw[if_neg h0]at h
  by_cases h1: -(n:Int)<=i
  ·rw[if_pos h1]at h
   have e:(i+n).toNat=j:=Option.some.inj h
   exact⟨by rw[seqIndex_neg (by omega) h1,e],by omega,h1,by omega⟩
  ·rw[if_neg h1]at h;cases h
theorem Dy {α:Type}{xs:List α}{i:Int}{v:α}(h:yD xs i=some v):∃j,seqIndex? i xs.length=some j/\xs[j]?=some v/\j<xs.length/\ -(xs.length:Int)<=i/\i<xs.length:=by
 unfold yD at h
 cases e:Kr xs.length i with
 |none=>rw[e]at h;cases h
 |some j=>
  rw[e]at h
  obtain⟨h1,h2,h3,h4⟩:=Ks e
  exact⟨j,h1,h,h2,h3,h4⟩
noncomputable def Dt (b:Expr):Prop:=∀o i,subscripted b false o i=operate [o,i] (getItem o i)
noncomputable def Rx (X:Cx)(r:R2):Prop:=
 ∀(value slice:Expr) (pins:List (Addr×Obj)) (s:Shared) (σ:St) (H:Hp) (x y:V) (v u:Value) (Q:VK),Inv X pins σ H s->RelV x v->RelV y u->r x y H Q->
  subscripted slice false v u=operate [v,u] (getItem v u)->wpAny (model X.prog X.w) X.A (subscriptTail value slice v u) (EP X pins σ Q) X.xe s
noncomputable def M9 (X:Cx)(id:String)(r:V->List V->Hp->VK->Prop):Prop:=
 ∀(pins:List (Addr×Obj)) (s:Shared) (σ:St) (H:Hp) (x:V) (xs:List V) (v:Value) (us:List Value) (Q:VK),Inv X pins σ H s->RelV x v->Vals xs us->r x xs H Q->
  wpAny (model X.prog X.w) X.A (call (.builtin id) (v::us)) (EP X pins σ Q) X.xe s
section
variable {X:Cx}{a b:Expr}{ta tb:TE}{pos:Pos}
theorem Rx.or {r r':R2}(h:Rx X r)(h':Rx X r'):Rx X (λx y H Q=>r x y H Q\/r' x y H Q):=by
 intro value slice pins s σ H x y v u Q I rx ry q hs
 rcases q with q|q
 ·exact h value slice pins s σ H x y v u Q I rx ry q hs
 ·exact h' value slice pins s σ H x y v u Q I rx ry q hs
theorem Zr {r:R2}(hr:Rx X r)(ha:PE X a ta)(hb:PE X b tb)(hs:Dt b):PE X (.Subscript a b pos) (tOp r ta tb):=by
 intro pins s σ H Q I h
 exact Subscript_ (VP ha hb I h λv u s2 x y H2 I2 rx ry q=>hr a b pins s2 σ H2 x y v u Q I2 rx ry q (hs _ _))
noncomputable def ZF (K:Fg):R2:=λx y H Q=>∃p xs i v,x= .ref p/\y= .int i/\oF K H p xs/\yD xs i=some v/\Q v H
noncomputable def ZJ (K:Fg):R2:=λx y H Q=>∃p xs i v,x= .ref p/\y= .int i/\uN K H p xs/\yD xs i=some v/\Q v H
noncomputable def ZG:R2:=λx y H Q=>∃z i c,x= .str z/\y= .int i/\z.length<=sizeLine/\yD z.cps.toList i=some c/\Q (.str ⟨#[c]⟩) H
theorem Th:Rx X (ZF X.K):=by
 intro value slice pins s σ H x y v u Q I rx ry h hs
 obtain⟨p,xs,i,z,rfl,rfl,hq,he,q⟩:=h
 cases rx
 obtain⟨t,rfl⟩:=ry
 obtain⟨its,r,pl,hz⟩:=I.list hq
 obtain⟨j,h1,h2,h3,h4,h5⟩:=Dy he
 obtain⟨w,ew,rw'⟩:=r.get h2
 have hl:=r.length
 have hn:=rH
 have fin:EP X pins σ Q w s:=⟨z,H,I,rw',q⟩
 by_cases h0:0<=i
 ·have hj:i.toNat=j:=by
   rw[seqIndex_of h0 h5]at h1
   exact Option.some.inj h1
  exact item_listR pl.isList h0 (by omega) (by rw[hj];simpa using ew) fin hs
 ·have hj:(i+(its.toArray.size:Int)).toNat=j:=by
   rw[seqIndex_neg (by omega) h4]at h1
   rw[List.size_toArray,<-hl]
   exact Option.some.inj h1
  exact subscriptTail_builtinR (x:=w) pl.isList.typeIs slot_list_getitem.lookup
   (wpAny_getItem_list_neg (Q:=λr s'=>r=w/\EP X pins σ Q r s') pl.isList (by omega) (by rw[List.size_toArray]<;>omega) (by omega) (by rw[hj];simpa using ew) ⟨rfl,fin⟩) hs
theorem WL:Rx X (ZJ X.K):=by
 intro value slice pins s σ H x y v u Q I rx ry h hs
 obtain⟨p,xs,i,z,rfl,rfl,hq,he,q⟩:=h
 cases rx
 obtain⟨t,rfl⟩:=ry
 obtain⟨its,r,pl,hz⟩:=I.tuple hq
 obtain⟨j,h1,h2,h3,h4,h5⟩:=Dy he
 obtain⟨w,ew,rw'⟩:=r.get h2
 have hl:=r.length
 have hn:=rH
 have fin:EP X pins σ Q w s:=⟨z,H,I,rw',q⟩
 exact subscriptTail_builtinR (x:=w) pl.typeIs slot_tuple_getitem.lookup
  (getItem_tuple (j:=j) (Q:=λr s'=>r=w/\EP X pins σ Q r s') pl (by omega) (by omega) (by rw[List.size_toArray,<-hl];exact h1) (by simpa using ew) ⟨rfl,fin⟩) hs
theorem WK:Rx X ZG:=by
 intro value slice pins s σ H x y v u Q I rx ry h hs
 obtain⟨z,i,c,rfl,rfl,hz,he,q⟩:=h
 obtain⟨t,rfl⟩:=rx
 obtain⟨t',rfl⟩:=ry
 obtain⟨j,h1,h2,h3,h4,h5⟩:=Dy he
 have hl:z.cps.toList.length=z.length:=by simp[Str.length]
 rw[hl]at h1 h4 h5
 have hn:=rH
 exact tail_any (typeIs_str s z t) slot_str_getitem.lookup (getItem_str (c:=c) (by
  have e1:decide (i< -(2 ^ 63:Int))=false:=decide_eq_false (by omega)
  have e2:decide (i≥2 ^ 63)=false:=decide_eq_false (by omega)
  rw[e1,e2,Bool.or_false]) (by rw[h1];simpa using h2) ⟨.str ⟨#[c]⟩,H,I.tok _,⟨_,rfl⟩,q⟩) hs
noncomputable def rIx (K:Fg):R2:=λx y H Q=>ZF K x y H Q\/ZJ K x y H Q\/ZG x y H Q
theorem WD:Rx X (rIx X.K):=Th.or (WL.or WK)
theorem Jm (its:List Value)(n j:Nat)(u:Value):Obj.mapSeq (·.setIfInBounds j u) { cls:= .type "list",data:= .seq its.toArray n }={ cls:= .type "list",data:= .seq (its.set j u).toArray n }:=by
 simp[Obj.mapSeq]
theorem Inv.lst {pins:List (Addr×Obj)}{σ:St}{H:Hp}{s:Shared}{p:Addr}{xs:List V}(I:Inv X pins σ H s)(h:H p=some (.lst xs)):
 ∃(its:List Value) (n:Nat),Vals xs its/\s.heap.get? p=some { cls:= .type "list",data:= .seq its.toArray n }/\xs.length<=sizeLine:=by
 obtain⟨z,its,n,r,e⟩:=I.hok p _ h
 exact⟨its,n,r,e,z⟩
theorem Inv.WW {pins:List (Addr×Obj)}{σ:St}{H:Hp}{s:Shared}{p:Addr}{xs ys:List V}{its its':List Value}{n n':Nat}{f:Obj->Obj}(I:Inv X pins σ H s)(h:H p=some (.lst xs))
 (ho:s.heap.get? p=some { cls:= .type "list",data:= .seq its.toArray n })(hf:f { cls:= .type "list",data:= .seq its.toArray n }={ cls:= .type "list",data:= .seq its'.toArray n' })(r:Vals ys its')(hz:ys.length<=sizeLine)(t:Nat):
 Inv X pins σ (upd H p (.lst ys)) { s with heap:=s.heap.update p f,toks:=t }:=by
 have e:(s.heap.update p f).get? p=some { cls:= .type "list",data:= .seq its'.toArray n' }:=by
  rw[Heap.get?_update_self f ho (by rw[hf]<;>rfl),hf]
 refine I.write (x:=p) (e:=p) (by rw[h];trivial) (.inl rfl) (λb u hb q=>(Heap.get?_update_other _ _ (Ne.symm hb)).trans q) ⟨_,e⟩ ?_
 exact⟨hz,its',n',r,e⟩
noncomputable def ZL:V->V->V->Hp->(Hp->Prop)->Prop:=λo i v H Q=>∃p xs k j,o= .ref p/\i= .int k/\H p=some (.lst xs)/\Kr xs.length k=some j/\Q (upd H p (.lst (xs.set j v)))
theorem set_list:Yo X ZL:=by
 intro pins s σ H o i v ov iv u Q I ro ri rv h
 obtain⟨p,xs,k,j,rfl,rfl,hp,hj,q⟩:=h
 cases ro
 obtain⟨t,rfl⟩:=ri
 obtain⟨its,n,r,ho,hz⟩:=I.lst hp
 obtain⟨h1,h2,h3,h4⟩:=Ks hj
 have hl:=r.length
 have hn:=rH
 have I':Inv X pins σ (upd H p (.lst (xs.set j v))) { s with heap:=s.heap.update p (Obj.mapSeq (·.setIfInBounds j u)) }:=
  I.WW hp ho (Jm its n j u) (r.set rv j) (by rw[List.length_set];exact hz) s.toks
 by_cases h0:0<=k
 ·have hk:k.toNat=j:=by
   rw[seqIndex_of h0 h4]at h1
   exact Option.some.inj h1
  exact PySem.W.ki_setAt ho h0 (by omega) (by rw[List.size_toArray,<-hl];exact h4) (by rw[hk];exact⟨_,I',q⟩)
 ·have hk:(k+(its.toArray.size:Int)).toNat=j:=by
   rw[seqIndex_neg (by omega) h3]at h1
   rw[List.size_toArray,<-hl]
   exact Option.some.inj h1
  exact PySem.W.ki_setBack ho (by omega) (by rw[List.size_toArray,<-hl];exact h3) (by omega) (by rw[hk];exact⟨_,I',q⟩)
theorem Ex (lo hi:Option Int)(n:Nat):(sliceBounds lo hi none n).1=((HT.jh n 0 lo:Nat):Int)/\(sliceBounds lo hi none n).2.1=((HT.jh n n hi:Nat):Int)/\(sliceBounds lo hi none n).2.2=1:=by
 refine⟨?_,?_,rfl⟩
 ·cases lo with
  |none=>simp[sliceBounds,HT.jh]
  |some i=>
   simp only[sliceBounds,HT.jh,Option.getD_none,show(1:Int)>0 by decide,if_true]
   by_cases h:i<0
   ·simp only[h,if_true]<;>omega
   ·simp only[h,if_false]<;>omega
 ·cases hi with
  |none=>simp[sliceBounds,HT.jh]
  |some i=>
   simp only[sliceBounds,HT.jh,Option.getD_none,show(1:Int)>0 by decide,if_true]
   by_cases h:i<0
   ·simp only[h,if_true]<;>omega
   ·simp only[h,if_false]<;>omega
theorem Bx (its:List Value)(lo hi:Option Int):slicePick its.toArray lo hi none=((its.drop (HT.jh its.length 0 lo)).take (HT.jh its.length its.length hi - HT.jh its.length 0 lo)).toArray:=by
 obtain⟨h1,h2,h3⟩:=Ex lo hi its.toArray.size
 unfold slicePick
 rw[h1,h2,h3]
 simp only[sliceRange_one,pick_run,List.size_toArray]<;>rfl
noncomputable def ZM (K:Fg):V->Option Int->Option Int->Hp->VK->Prop:=λx lo hi H Q=>∃a xs,x= .ref a/\oF K H a xs/\∀p,H p=none->Q (.ref p) (upd H p (.lst (Ge xs lo hi)))
theorem UJ:RQ X (ZM X.K):=by
 intro pins s σ H x v vl vu lo hi sl Q I rx hs pl pu h
 obtain⟨a,xs,rfl,hx,q⟩:=h
 cases rx
 obtain⟨its,r,ht,hz⟩:=I.list hx
 have hlen:=r.length
 refine⟨"list",_,slot_list_getitem.lookup,ht.isList.typeIs,?_⟩
 refine wpAny_getItem_list_slice ht.isList hs pl pu .none (by simp) ?_ (by rw[List.size_toArray]<;>omega)
 rw[Bx,<-hlen]
 refine⟨.ref s.heap.objs.size,_,I.laid (t':=s.toks) (o:= .lst (Ge xs lo hi)) (λb ob q=>Heap.get?_push_of_some _ q) (Nat.le_refl _) ?_,rfl,q _ (I.hok.fresh (Nat.le_refl _))⟩
 exact⟨Nat.le_trans (wU xs lo hi) hz,_,0,(r.drop (HT.jh xs.length 0 lo)).take (HT.jh xs.length xs.length hi - HT.jh xs.length 0 lo),Heap.get?_push_size _ rfl⟩
theorem jB.or {f:Value}{r r':List V->Hp->VK->Prop}(h:jB X f r)(h':jB X f r'):jB X f (λxs H Q=>r xs H Q\/r' xs H Q):=by
 intro pins s σ H xs us Q I rs q
 rcases q with q|q
 ·exact h pins s σ H xs us Q I rs q
 ·exact h' pins s σ H xs us Q I rs q
theorem DG:jB X (.type "list") (λxs H Q=>∃p ys,xs=[.ref p]/\(oF X.K H p ys\/uN X.K H p ys)/\∀l,H l=none->Q (.ref l) (upd H l (.lst ys))):=by
 intro pins s σ H xs us Q I r h
 obtain⟨p,ys,rfl,hq,q⟩:=h
 obtain⟨u,rfl,rx⟩:=vals1 r
 cases rx
 have fin:∀(its:List Value),Vals ys its->ys.length<=sizeLine->∀(h':Heap) (c':Nat),(∀b o',s.heap.get? b=some o'->h'.get? b=some o')->
  h'.get? s.heap.objs.size=some { cls:= .type "list",dict:=none,data:= .seq its.toArray c',slots:=#[] }->EP X pins σ Q (.ref s.heap.objs.size) { s with heap:=h' }:=λits r' hz h' c' kp e=>
  ⟨.ref s.heap.objs.size,_,I.laid (t':=s.toks) kp (Nat.le_refl _) (show gM X.prog X.w _ h' _ (.lst ys) from⟨hz,its,c',r',e⟩),rfl,q _ (I.hok.fresh (Nat.le_refl _))⟩
 rcases hq with hq|hq
 ·obtain⟨its,r',pl,hz⟩:=I.list hq
  have hlen:=r'.length
  obtain⟨o,ho,hc,n,hd⟩:=pl.isList
  exact call_list_seq p (.inl rfl) ho hc hd (λh' c' kp e=>fin its r' hz h' c' kp e) (by simp only[List.size_toArray]<;>omega)
 ·obtain⟨its,r',pl,hz⟩:=I.tuple hq
  have hlen:=r'.length
  obtain⟨o,ho,hc,n,hd⟩:=pl
  exact call_list_seq p (.inr rfl) ho hc hd (λh' c' kp e=>fin its r' hz h' c' kp e) (by simp only[List.size_toArray]<;>omega)
theorem bR:jB X (.type "tuple") (λxs H Q=>∃p ys,xs=[.ref p]/\((oF X.K H p ys/\∀l,H l=none->Q (.ref l) (upd H l (.tup ys)))\/(uN X.K H p ys/\Q (.ref p) H))):=by
 intro pins s σ H xs us Q I r h
 obtain⟨p,ys,rfl,h⟩:=h
 obtain⟨u,rfl,rx⟩:=vals1 r
 cases rx
 rcases h with⟨hq,q⟩|⟨hq,q⟩
 ·obtain⟨its,r',pl,hz⟩:=I.list hq
  have hlen:=r'.length
  refine call_tuple_list pl.isList (λh' kp=>?_) (by simp only[List.size_toArray]<;>omega)
  have I1:Inv X pins σ H { s with heap:=h' }:=I.kept (t':=s.toks) kp
  have I2:Inv X pins σ (upd H h'.objs.size (.tup ys)) { s with heap:=h'.push { cls:= .type "tuple",data:= .seq its.toArray } }:=
   I1.laid (t':=s.toks) (λb o e=>Heap.get?_push_of_some _ e) (Nat.le_refl _) (show gM X.prog X.w _ _ _ (.tup ys) from⟨hz,its,r',uR.new _ _⟩)
  exact⟨.ref h'.objs.size,_,I2,rfl,q _ (I1.hok.fresh (Nat.le_refl _))⟩
 ·obtain⟨its,r',pl,hz⟩:=I.tuple hq
  exact call_tuple_same pl ⟨.ref p,H,I,rfl,q⟩
noncomputable def tyV (K:Fg)(T:String)(x:V)(H:Hp):Prop:=match x with
 | .str _=>T="str"
 | .int _=>T="int"
 | .ref p=>(T="list"/\∃xs,oF K H p xs)\/(T="tuple"/\∃o,K.lookup p=some o/\o.cls= .type "tuple"/\o.dict=none)\/
  (T="dict"/\((∃kvs,H p=some (.dK kvs))\/∃kvs,H p=some (.dT kvs)))\/(T="set"/\∃S n,H p=some (.set S n))
 |_=>False
theorem JR {pins:List (Addr×Obj)}{σ:St}{H:Hp}{s:Shared}{T:String}{x:V}{v:Value}(I:Inv X pins σ H s)(r:RelV x v)(ty:tyV X.K T x H):
 s.TypeIs v T/\∀a,v= .ref a->∃ob,s.heap.get? a=some ob/\ob.dict=none:=by
 cases x with
 |str z=>
  obtain⟨t,rfl⟩:=r
  cases(show T="str" from ty)
  exact⟨typeIs_str s z t,λ_ e=>nomatch e⟩
 |int i=>
  obtain⟨t,rfl⟩:=r
  cases(show T="int" from ty)
  exact⟨typeIs_int s i t,λ_ e=>nomatch e⟩
 |ref p=>
  cases r
  rcases ty with⟨rfl,xs,hq⟩|⟨rfl,o,hk,hc,hd⟩|⟨rfl,hk⟩|⟨rfl,S,n,hk⟩
  ·obtain⟨its,_,pl,_⟩:=I.list hq
   refine⟨pl.isList.typeIs,λa e=>?_⟩
   cases e
   obtain⟨o,n,e,c,hd,_⟩:=pl
   exact⟨o,e,hd⟩
  ·refine⟨⟨o,I.wC p o hk,hc⟩,λa e=>?_⟩
   cases e
   exact⟨o,I.wC _ o hk,hd⟩
  ·have z:∃o,s.heap.get? p=some o/\o.ExactDict:=by
    rcases hk with⟨kvs,hk⟩|⟨kvs,hk⟩
    ·obtain⟨_,_,_,_,o,_,_,e,ex,_⟩:=I.hok p _ hk
     exact⟨o,e,ex⟩
    ·obtain⟨_,_,_,_,o,_,_,e,ex,_⟩:=I.hok p _ hk
     exact⟨o,e,ex⟩
   obtain⟨o,e,ex⟩:=z
   refine⟨⟨o,e,ex.1⟩,λa e2=>?_⟩
   cases e2
   exact⟨o,e,ex.2.1⟩
  ·obtain⟨o,_,_,_,e,ex,_⟩:=I.hok p _ hk
   refine⟨⟨o,e,ex.1⟩,λa e2=>?_⟩
   cases e2
   exact⟨o,e,ex.2.1⟩
 |_=>exact False.elim ty
noncomputable def a0M (K:Fg)(T:String)(r:V->List V->Hp->VK->Prop)(to:TE):TE:=λσ H Q=>to σ H λx H1=>tyV K T x H1/\r x [] H1 Q
noncomputable def tBM (K:Fg)(T:String)(r:V->List V->Hp->VK->Prop)(to:TE)(t:TA):TE:=λσ H Q=>to σ H λx H1=>tyV K T x H1/\t σ H1 λxs H2=>r x xs H2 Q
variable {o e:Expr}{es:List Expr}{to:TE}{t:TA}{name:Str}{apos cpos:Pos}{T id:String}{r:V->List V->Hp->VK->Prop}
theorem Xf (pa:PlainAttrs T)(slot:Slot T name id)(hty:typeOf (.builtin id)=pure (.type "method_descriptor"))(hm:M9 X id r)(ho:PE X o to)
 (hbase:attributeBase o name X.env (eval o X.env)=eval o X.env:=by rfl)(hline:(apos.endLine==cpos.line)=true:=by rfl):PE X (.Call (.Attribute o name apos) [] [] cpos) (a0M X.K T r to):=by
 intro pins s σ H Q I h
 refine wpAny_Call_method0_late hbase hline (iK (ho pins s σ H _ I h) λv s1 ⟨x,H1,I1,r1,ty,q1⟩=>?_)
 obtain⟨h1,h2⟩:=JR I1 r1 ty
 exact⟨T,id,pa,slot,hty,h1,h2,Calls.callWith_builtin rfl (PySem.evalArgs_none (hm pins s1 σ H1 x [] v [] Q I1 r1 .nil q1))⟩
theorem KH (pa:PlainAttrs T)(slot:Slot T name id)(hty:typeOf (.builtin id)=pure (.type "method_descriptor"))(hm:M9 X id r)(ho:PE X o to)(ha:PA X (e::es) t)
 (hbase:attributeBase o name X.env (eval o X.env)=eval o X.env:=by rfl)
 (hfew:((backTo cpos (starEach (e::es) X.env)).all (λx=>!x.1)&&(backToKw cpos (keywordEach [] X.env)).all (λx=>x.1.isSome)
  &&decide ((e::es).length+([]:List Keyword).length+(if([]:List Keyword).isEmpty then 0 else 1)<30))=true:=by rfl)
 (hline:(apos.endLine==cpos.line)=true:=by rfl)(hs:starEach (e::es) X.env=(false,eval e X.env)::starEach es X.env:=by rfl)(hplain:(backTo cpos (starEach es X.env)).any (·.1)=false:=by rfl):
 PE X (.Call (.Attribute o name apos) (e::es) [] cpos) (tBM X.K T r to t):=by
 intro pins s σ H Q I h
 refine wpAny_Call_method_late hbase hfew hline rfl (iK (ho pins s σ H _ I h) λv s1 ⟨x,H1,I1,r1,ty,q1⟩=>?_)
 obtain⟨h1,h2⟩:=JR I1 r1 ty
 refine⟨T,id,pa,slot,hty,h1,h2,?_⟩
 have hA:=ha cpos pins s1 σ H1 _ I1 q1
 rw[hs]at hA ⊢
 refine Calls.callWith_builtin (by show(false||(backTo cpos (starEach es X.env)).any (·.1))=false;rw[hplain]<;>rfl) (Calls.evalArgs_plain ?_)
 exact iK hA λus s2 ⟨vs,H2,I2,r2,q2⟩=>hm pins s2 σ H2 x vs v us Q I2 r1 r2 q2
end
end L2
namespace L2
open PySem PySem.Spec PyProof.Rows
noncomputable def MtM (X:Cx)(id:String)(r:V->List V->Hp->VK->Prop):Prop:=
 ∀(pins:List (Addr×Obj)) (s:Shared) (σ:St) (H:Hp) (x:V) (xs:List V) (v:Value) (us:List Value) (Q:VK),Inv X pins σ H s->RelV x v->Vals xs us->r x xs H Q->
  wpAny (model X.prog X.w) X.A (call (.builtin id) (v::us)) (EP X pins σ Q) X.xe s
theorem Vals.one:∀{x:V}{us:List Value},Vals [x] us->∃u,us=[u]/\RelV x u
 |_,_,.cons r .nil=>⟨_,rfl,r⟩
theorem Vals.zero:∀{us:List Value},Vals [] us->us=[]
 |_,.nil=>rfl
theorem Vals.reverse {xs:List V}{us:List Value}(h:Vals xs us):Vals xs.reverse us.reverse:=by
 induction h with
 |nil=>exact .nil
 |cons r t ih=>rw[List.reverse_cons,List.reverse_cons];exact Vals.append ih (.cons r .nil)
theorem Vals.rep {xs:List V}{us:List Value}(h:Vals xs us):∀k:Nat,Vals (List.replicate k xs).flatten (List.replicate k us).flatten
 |0=> .nil
 |k+1=>by
  rw[List.replicate_succ,List.replicate_succ,List.flatten_cons,List.flatten_cons]
  exact Vals.append h (Vals.rep h k)
theorem foldl_rep (its:List Value):∀(k:Nat) (acc:List Value),
 List.foldl (λx1 x2=>x1++x2) acc.toArray (List.replicate k its.toArray)=(acc++(List.replicate k its).flatten).toArray
 |0,acc=>by simp
 |k+1,acc=>by
  have e:acc.toArray++its.toArray=(acc++its).toArray:=by simp
  have e2:(acc++its)++(List.replicate k its).flatten=acc++(List.replicate (k+1) its).flatten:=by
   rw[List.replicate_succ,List.flatten_cons,List.append_assoc]
  rw[<-e2,<-foldl_rep its k (acc++its),<-e,List.replicate_succ,List.foldl_cons]
section
variable {X:Cx}{pins:List (Addr×Obj)}{σ:St}{H:Hp}{s:Shared}{l b:Addr}{xs ys zs:List V}
theorem Inv.Tu {its its':List Value}{n:Nat}{f:Array Value->Array Value}{t':Nat}(I:Inv X pins σ H s)(hH:H l=some (.lst xs))
 (e:s.heap.get? l=some { cls:= .type "list",data:= .seq its.toArray n })(hf:f its.toArray=its'.toArray)(hv:Vals ys its')(hz:ys.length<=sizeLine):
 Inv X pins σ (upd H l (.lst ys)) { s with heap:=s.heap.update l (Obj.mapSeq f),toks:=t' }:=by
 have q:=PySem.IsL.update e f
 rw[hf]at q
 refine I.write (x:=l) (e:=l) (by rw[hH];exact trivial) (.inl rfl) (λb' u hb hu=>(Heap.get?_update_other s.heap (Obj.mapSeq f) (Ne.symm hb)).trans hu) ⟨_,q⟩ ?_
 exact⟨hz,its',_,hv,q⟩
theorem Inv.WT {its:List Value}{t':Nat}(I:Inv X pins σ H s)(hv:Vals ys its)(hz:ys.length<=sizeLine):
 Inv X pins σ (upd H s.heap.objs.size (.lst ys)) { s with heap:=s.heap.push { cls:= .type "list",data:= .seq its.toArray },toks:=t' }:=
 I.laid (λ_ _ q=>Heap.get?_push_of_some _ q) (Nat.le_refl _) ⟨hz,its,0,hv,Heap.get?_push_size _ rfl⟩
theorem Inv.fresh (I:Inv X pins σ H s):H s.heap.objs.size=none:=I.hok.fresh (Nat.le_refl _)
theorem Inv.Hq (I:Inv X pins σ H s)(hH:H l=some (.lst xs)):xs.length<=sizeLine/\∃(its:List Value) (n:Nat),Vals xs its/\xs.length=its.length/\s.heap.get? l=some { cls:= .type "list",data:= .seq its.toArray n }:=by
 obtain⟨z,its,n,r,e⟩:=I.hok l _ hH
 exact⟨z,its,n,r,r.length,e⟩
theorem Hx {n:Nat}(h:n<=sizeLine):Builtin.List.listTooLong n=false:=by
 unfold Builtin.List.listTooLong
 exact decide_eq_false (by omega)
end
section
variable {X:Cx}
noncomputable def Lf:V->List V->Hp->VK->Prop:=λx vs H Q=>∃l xs y,x= .ref l/\vs=[y]/\H l=some (.lst xs)/\xs.length<sizeLine/\Q .non (upd H l (.lst (xs++[y])))
theorem CZ:MtM X "list.append" Lf:=by
 intro pins s σ H x vs v us Q I rx rv h
 obtain⟨l,xs,y,rfl,rfl,hH,hz,q⟩:=h
 cases rx
 obtain⟨u,rfl,ru⟩:=rv.one
 obtain⟨z,its,n,r,hl,e⟩:=I.Hq hH
 refine call_meets F.slot_list_append ⟨_,e,rfl⟩ F.entry_list_append (F.args_list_append_2 _ _) (PySem.list_append l its.toArray n u (by rw[List.size_toArray];omega)) ⟨e,?_⟩
 refine⟨.non,_,I.Tu (its':=its++[u]) hH e (by simp) (r.append (.cons ru .nil)) ?_,rfl,q⟩
 rw[List.length_append,List.length_singleton]
 omega
noncomputable def Uq:V->List V->Hp->VK->Prop:=λx vs H Q=>∃l b xs zs,x= .ref l/\vs=[.ref b]/\H l=some (.lst xs)/\H b=some (.lst zs)/\xs.length+zs.length<=sizeLine/\Q .non (upd H l (.lst (xs++zs)))
theorem Nm:MtM X "list.extend" Uq:=by
 intro pins s σ H x vs v us Q I rx rv h
 obtain⟨l,b,xs,zs,rfl,rfl,hH,hB,hz,q⟩:=h
 cases rx
 obtain⟨u,rfl,ru⟩:=rv.one
 cases ru
 obtain⟨z,its,n,r,hl,e⟩:=I.Hq hH
 obtain⟨z2,its2,n2,r2,hl2,e2⟩:=I.Hq hB
 have hsz:its.toArray.size+its2.toArray.size<=sizeLine:=by rw[List.size_toArray,List.size_toArray];omega
 have Q8:¬(!its.toArray.isEmpty&&Builtin.List.listTooLong (its.toArray.size+its2.toArray.size))=true:=by
  rw[Hx hsz,Bool.and_false]
  exact Bool.false_ne_true
 refine call_meets F.slot_list_extend ⟨_,e,rfl⟩ F.entry_list_extend (F.args_list_extend_2 _ _)
  (AutoSeq1.list_extend_list_list_0 l its.toArray n b its2.toArray n2 Q8 (by rw[List.size_toArray];omega) (by omega)) ⟨e,e2,?_⟩
 refine⟨.non,_,I.Tu (its':=its++its2) hH e (by simp) (r.append r2) ?_,rfl,q⟩
 rw[List.length_append]
 omega
noncomputable def Xy:V->List V->Hp->VK->Prop:=λx vs H Q=>∃l xs,x= .ref l/\vs=[]/\H l=some (.lst xs)/\Q .non (upd H l (.lst []))
theorem Qm:MtM X "list.clear" Xy:=by
 intro pins s σ H x vs v us Q I rx rv h
 obtain⟨l,xs,rfl,rfl,hH,q⟩:=h
 cases rx
 have hus:=rv.zero
 subst hus
 obtain⟨z,its,n,r,hl,e⟩:=I.Hq hH
 refine call_meets F.slot_list_clear ⟨_,e,rfl⟩ F.entry_list_clear (F.args_list_clear_1 _) (AutoSeq1.list_clear_list_0 l its.toArray n (by rw[List.size_toArray];omega)) ⟨e,?_⟩
 exact⟨.non,_,I.Tu (its':=[]) (ys:=[]) hH e rfl .nil (Nat.zero_le _),rfl,q⟩
noncomputable def ZC:R2:=λx y H Q=>∃l b xs zs,x= .ref l/\y= .ref b/\H l=some (.lst xs)/\H b=some (.lst zs)/\xs.length+zs.length<=sizeLine/\∀p,H p=none->Q (.ref p) (upd H p (.lst (xs++zs)))
theorem Xb:tY X (binaryOp .Add) ZC:=by
 intro pins s σ H x y v u Q I rx ry h
 obtain⟨l,b,xs,zs,rfl,rfl,hH,hB,hz,q⟩:=h
 cases rx
 cases ry
 obtain⟨z,its,n,r,hl,e⟩:=I.Hq hH
 obtain⟨z2,its2,n2,r2,hl2,e2⟩:=I.Hq hB
 refine PySem.P.add_list e e2 ?_ (by rw[List.size_toArray,List.size_toArray];omega)
 have ea:its.toArray++its2.toArray=(its++its2).toArray:=by simp
 rw[ea]
 exact⟨.ref _,_,I.WT (t':=s.toks) (r.append r2) (by rw[List.length_append];omega),rfl,q _ I.fresh⟩
noncomputable def ZK:R2:=λx y H Q=>∃l k xs,x= .ref l/\y= .int k/\H l=some (.lst xs)/\ -(2 ^ 63)<=k/\k<2 ^ 63/\xs.length*k.toNat<=sizeLine/\
 ∀p,H p=none->Q (.ref p) (upd H p (.lst (List.replicate k.toNat xs).flatten))
theorem len_rep {α:Type}(xs:List α)(k:Nat):(List.replicate k xs).flatten.length=k*xs.length:=by
 induction k with
 |zero=>simp
 |succ k ih=>rw[List.replicate_succ,List.flatten_cons,List.length_append,ih,Nat.succ_mul,Nat.add_comm]
theorem Xd:tY X (binaryOp .Mult) ZK:=by
 intro pins s σ H x y v u Q I rx ry h
 obtain⟨l,k,xs,rfl,rfl,hH,h1,h2,hz,q⟩:=h
 cases rx
 obtain⟨t,rfl⟩:=ry
 obtain⟨z,its,n,r,hl,e⟩:=I.Hq hH
 have hlen:its.toArray.size*k.toNat<=sizeLine:=by rw[List.size_toArray,<-hl];exact hz
 have hcap:¬its.toArray.size*k.toNat>(2 ^ 63 - 1)/8:=by
  have:(sizeLine:Nat)<=(2 ^ 63 - 1)/8:=by decide
  omega
 have hfit:¬(!Builtin.List.listFitsIndex k)=true:=by
  rw[fitsIndex_both h1 h2]
  exact Bool.false_ne_true
 have Q8:¬Builtin.List.listTooLong (its.toArray.size*k.toNat)=true:=by
  rw[Hx hlen]
  exact Bool.false_ne_true
 have hnew:List.foldl (λx1 x2=>x1++x2) #[] (List.replicate (if its.toArray.isEmpty=true then 0 else k.toNat) its.toArray)=(List.replicate k.toNat its).flatten.toArray:=by
  have f0:∀m:Nat,List.foldl (λx1 x2=>x1++x2) #[] (List.replicate m its.toArray)=(List.replicate m its).flatten.toArray:=λm=>by
   have:=foldl_rep its m []
   rw[List.nil_append]at this
   exact this
  rw[f0]
  cases its with
  |nil=>simp
  |cons a r'=>rw[if_neg (by simp)]
 refine wpAny_binaryOp_repeat_ref (T:="list") (U:="int") (by decide) ⟨_,e,rfl⟩ (λs'=>typeIs_int s' k t) noFill_list_mul F.fills_int_mul F.slot_int_rmul repeat_list F.slot_int_index.lookup
  (call_meets F.slot_int_rmul (typeIs_int s k t) F.entry_int_rmul (F.args_int_rmul_2 _ _) (int___rmul___int_list k t l its.toArray n)
   ⟨e,rfl,⟨_,e,rfl⟩,call_meets F.slot_list_mul ⟨_,e,rfl⟩ F.entry_list_mul (F.args_list_mul_2 _ _) (AutoListH.list___mul___list_int_3 l its.toArray n k t hfit hcap Q8) ⟨e,?_⟩⟩)
 rw[hnew]
 exact⟨.ref _,_,I.WT (t':=s.toks) (r.rep k.toNat) (by rw[len_rep,Nat.mul_comm];exact hz),rfl,q _ I.fresh⟩
end
section
variable {prog:Program}{w:World}{A:Around}{E:Value->Shared->Prop}{s:Shared}
end
section
variable {X:Cx}
end
end L2
namespace L2
open PySem PySem.Spec PyProof.Rows
section
variable {κ:Type} [DecidableEq κ]
noncomputable def yP (kvs:List (κ×V))(k:κ):Option V:=(kvs.find? λkv=>decide (kv.1=k)).map (·.2)
noncomputable def putK (kvs:List (κ×V))(k:κ)(v:V):List (κ×V):=
 if(kvs.any λkv=>decide (kv.1=k))=true then kvs.map (λkv=>if kv.1=k then(kv.1,v)else kv)else kvs++[(k,v)]
theorem vQ {p:κ×V}{r:List (κ×V)}{k:κ}(e:p.1=k):yP (p::r) k=some p.2:=by simp[yP,List.find?_cons,e]
theorem vP {p:κ×V}{r:List (κ×V)}{k:κ}(e:¬p.1=k):yP (p::r) k=yP r k:=by simp[yP,List.find?_cons,e]
theorem Ip (k:κ):∀kvs:List (κ×V),(kvs.any λkv=>decide (kv.1=k))=(yP kvs k).isSome
 |[]=>rfl
 |p::r=>by
  rw[List.any_cons]
  by_cases e:p.1=k
  ·simp only[vQ e,decide_eq_true e,Bool.true_or,Option.isSome_some]
  ·rw[vP e,decide_eq_false e,Bool.false_or];exact Ip k r
theorem rG (kvs:List (κ×V))(k:κ)(v:V):(putK kvs k v).length<=kvs.length+1:=by
 unfold putK
 split
 ·rw[List.length_map];omega
 ·rw[List.length_append,List.length_cons,List.length_nil];omega
theorem tL.N6 {o:Option V}{u:Option Value}(r:tL o u):o.isSome=u.isSome:=by
 cases o with
 |none=>cases u with
  |none=>rfl
  |some _=>exact(show False from r).elim
 |some _=>cases u with
  |none=>exact(show False from r).elim
  |some _=>rfl
theorem KV.val {kvs:List (κ×V)}{vs:List (κ×Value)}(r:KV kvs vs)(k:κ):tL (yP kvs k) (valueAt vs k):=by
 unfold KV at r
 induction r with
 |nil=>exact True.intro
 |@cons p q ps qs h t ih=>
  obtain⟨h1,h2⟩:=h
  by_cases e:p.1=k
  ·have e':q.1=k:=h1.symm.trans e
   have b:valueAt (q::qs) k=some q.2:=by simp[valueAt,List.find?_cons,e']
   rw[vQ e,b];exact h2
  ·have e':¬q.1=k:=λz=>e (h1.trans z)
   have b:valueAt (q::qs) k=valueAt qs k:=by simp[valueAt,List.find?_cons,e']
   rw[vP e,b];exact ih
theorem KV.any {kvs:List (κ×V)}{vs:List (κ×Value)}(r:KV kvs vs)(k:κ):(kvs.any λkv=>decide (kv.1=k))=vs.any λkv=>decide (kv.1=k):=by
 unfold KV at r
 induction r with
 |nil=>rfl
 |cons h t ih=>rw[List.any_cons,List.any_cons,ih,h.1]
theorem KV.repl {kvs:List (κ×V)}{vs:List (κ×Value)}(r:KV kvs vs)(k:κ){y:V}{u:Value}(ry:RelV y u):
 KV (kvs.map λkv=>if kv.1=k then(kv.1,y)else kv) (vs.map λkv=>if kv.1=k then(kv.1,u)else kv):=by
 unfold KV at r ⊢
 induction r with
 |nil=>exact .nil
 |@cons p q ps qs h t ih=>
  rw[List.map_cons,List.map_cons]
  refine .cons ?_ ih
  obtain⟨h1,h2⟩:=h
  by_cases e:p.1=k
  ·rw[if_pos e,if_pos (h1.symm.trans e)];exact⟨h1,ry⟩
  ·rw[if_neg e,if_neg (λz=>e (h1.trans z))];exact⟨h1,h2⟩
theorem KV.put {kvs:List (κ×V)}{vs:List (κ×Value)}(r:KV kvs vs)(k:κ){y:V}{u:Value}(ry:RelV y u):KV (putK kvs k y) (stored vs k u):=by
 unfold putK stored
 rw[r.any k]
 by_cases e:(vs.any λkv=>decide (kv.1=k))=true
 ·rw[if_pos e,if_pos e];exact r.repl k ry
 ·rw[if_neg e,if_neg e];exact Paired.snoc r ⟨rfl,ry⟩
theorem KV.length {kvs:List (κ×V)}{vs:List (κ×Value)}(r:KV kvs vs):kvs.length=vs.length:=Paired.length r
end
theorem Hh {P:Program}{w:World}{k:Key}{u:Value}(r:RelV (kV k) u):(cG P w).is k u=true:=by
 cases k with
 |inl i=>obtain⟨t,e⟩:=(show ∃t,u=Value.int i t from r);subst e;exact Hs P w i t
 |inr x=>obtain⟨t,e⟩:=(show ∃t,u=Value.str x t from r);subst e;exact Ht P w x t
theorem CK {P:Program}{w:World}:∀{ks:List Key}{us:List Value},Vals (ks.map kV) us->ItemsAre (cG P w) ks us
 |[],_,r=>by rw[List.map_nil]at r;cases r;exact .nil
 |k::ks,_,r=>by
  rw[List.map_cons]at r
  cases r with
  |cons h t=>exact .cons (Hh h) (CK t)
noncomputable abbrev KT (H:Hp):List (List Key×V)->List (List Key×Addr×Value)->Prop:=Paired λp q=>p.1=q.1/\H q.2.1=some (.tup (p.1.map kV))/\RelV p.2 q.2.2
theorem KT.val {H:Hp}{kvs:List (List Key×V)}{xs:List (List Key×Addr×Value)}(r:KT H kvs xs)(k:List Key):tL (yP kvs k) ((atKey xs k).map (·.2)):=by
 induction r with
 |nil=>exact True.intro
 |@cons p q ps qs h t ih=>
  obtain⟨h1,_,h2⟩:=h
  by_cases e:p.1=k
  ·have e':q.1=k:=h1.symm.trans e
   have b:atKey (q::qs) k=some q.2:=by simp[atKey,List.find?_cons,e']
   rw[vQ e,b];exact h2
  ·have e':¬q.1=k:=λz=>e (h1.trans z)
   have b:atKey (q::qs) k=atKey qs k:=by simp[atKey,List.find?_cons,e']
   rw[vP e,b];exact ih
theorem KT.repl {H:Hp}{kvs:List (List Key×V)}{xs:List (List Key×Addr×Value)}(r:KT H kvs xs)(k:List Key){y:V}{u:Value}(ry:RelV y u):
 KT H (kvs.map λkv=>if kv.1=k then(kv.1,y)else kv) (xs.map (putAt k u)):=by
 induction r with
 |nil=>exact .nil
 |@cons p q ps qs h t ih=>
  rw[List.map_cons,List.map_cons]
  refine .cons ?_ ih
  obtain⟨h1,h2,h3⟩:=h
  unfold putAt
  by_cases e:p.1=k
  ·rw[if_pos e,if_pos (h1.symm.trans e)];exact⟨h1,h2,ry⟩
  ·rw[if_neg e,if_neg (λz=>e (h1.trans z))];exact⟨h1,h2,h3⟩
theorem KT.put {H:Hp}{kvs:List (List Key×V)}{xs:List (List Key×Addr×Value)}(r:KT H kvs xs)(k:List Key){b:Addr}{y:V}{u:Value}(hb:H b=some (.tup (k.map kV)))(ry:RelV y u):
 KT H (putK kvs k y) (storedH xs k b u):=by
 have e:(kvs.any λkv=>decide (kv.1=k))=(atKey xs k).isSome:=by
  rw[Ip,(r.val k).N6,Option.isSome_map]
 unfold putK storedH
 rw[e]
 by_cases q:(atKey xs k).isSome=true
 ·rw[if_pos q,if_pos q];exact r.repl k ry
 ·rw[if_neg q,if_neg q];exact Paired.snoc r ⟨rfl,hb,ry⟩
theorem KT.keeps {H H':Hp}{kvs:List (List Key×V)}{xs:List (List Key×Addr×Value)}(r:KT H kvs xs)(ht:∀b ys,H b=some (.tup ys)->H' b=some (.tup ys)):KT H' kvs xs:=
 Paired.WX r λ_ _ z=>⟨z.1,ht _ _ z.2.1,z.2.2⟩
section
variable {P:Program}{w:World}{H:Hp}{h:Heap}{a:Addr}
theorem Vy {u:HO}(ok:tX P w H h)(e:Rd H a u):gM P w H h a u:=e.ok ok
theorem Pk {kvs:List (Key×V)}(ok:tX P w H h)(e:Rd H a (.dK kvs)):kvs.length<=sizeLine/\(a==sysModules)=false/\∃vs,KV kvs vs/\h.DictOf (cG P w) a vs:=
 show gM P w H h a (.dK kvs) from Vy ok e
theorem Pj {kvs:List (Key×V)}(ok:tX P w H h)(e:H a=some (.dK kvs)):kvs.length<=sizeLine/\(a==sysModules)=false/\∃vs,KV kvs vs/\h.DictOf (cG P w) a vs:=Pk ok (.inl e)
theorem Jj {ks:List Key}(ok:tX P w H h)(e:H a=some (.tup (ks.map kV))):(tupleKind (cG P w)).is h ks a:=by
 obtain⟨_,its,r,o,h1,h2,⟨n,h3⟩,_⟩:=(show gM P w H h a (.tup (ks.map kV)) from ok a _ e)
 exact⟨o,its.toArray,n,h1,h2,h3,by simpa using CK r⟩
theorem Pn {kvs:List (List Key×V)}(ok:tX P w H h)(e:Rd H a (.dT kvs)):kvs.length<=sizeLine/\(a==sysModules)=false/\
 ∃xs,KT H kvs xs/\h.DictOfH (tupleKind (cG P w)) a xs:=by
 obtain⟨z,y,xs,r,o,es,ep,h1,h2,h3,h4,h5⟩:=(show gM P w H h a (.dT kvs) from Vy ok e)
 refine⟨z,y,xs,r,o,es,ep,h1,h2,h3,h4,λx hx=>?_,h5⟩
 have all:∀{l:List (List Key×V)}{m:List (List Key×Addr×Value)},KT H l m->∀x∈m,(tupleKind (cG P w)).is h x.1 x.2.1:=by
  intro l m q
  induction q with
  |nil=>intro x hx;exact nomatch hx
  |@cons p q ps qs hq t ih=>
   intro x hx
   rcases List.mem_cons.mp hx with e|hx
   ·subst e
    exact Jj ok (by rw[<-hq.1];exact hq.2.1)
   ·exact ih x hx
 exact all r x hx
theorem YB {kvs:List (List Key×V)}(ok:tX P w H h)(e:H a=some (.dT kvs)):kvs.length<=sizeLine/\(a==sysModules)=false/\
 ∃xs,KT H kvs xs/\h.DictOfH (tupleKind (cG P w)) a xs:=Pn ok (.inl e)
end
noncomputable def M8 (H:Hp)(a:Addr)(y:V)(r:Option V):Prop:=
 (∃kvs k,Rd H a (.dK kvs)/\y=kV k/\r=yP kvs k)\/∃kvs k b,Rd H a (.dT kvs)/\y= .ref b/\H b=some (.tup (k.map kV))/\r=yP kvs k
noncomputable def Oi (H:Hp)(a:Addr)(y v:V)(H':Hp):Prop:=
 (∃kvs k,H a=some (.dK kvs)/\y=kV k/\kvs.length<sizeLine/\H'=upd H a (.dK (putK kvs k v)))\/
 ∃kvs k b,H a=some (.dT kvs)/\y= .ref b/\H b=some (.tup (k.map kV))/\kvs.length<sizeLine/\H'=upd H a (.dT (putK kvs k v))
theorem M8.k {H:Hp}{a:Addr}{kvs:List (Key×V)}{k:Key}(e:H a=some (.dK kvs)):M8 H a (kV k) (yP kvs k):= .inl ⟨kvs,k,.inl e,rfl,rfl⟩
theorem Oi.k {H:Hp}{a:Addr}{kvs:List (Key×V)}{k:Key}{v:V}(e:H a=some (.dK kvs))(hl:kvs.length<sizeLine):Oi H a (kV k) v (upd H a (.dK (putK kvs k v))):= .inl ⟨kvs,k,e,rfl,hl,rfl⟩
section
variable {X:Cx}{pins:List (Addr×Obj)}{σ:St}{H:Hp}{s:Shared}{a:Addr}{y v:V}{u r:Value}{o:Option V}{A:Around}{E:Value->Shared->Prop}
theorem Inv.big (I:Inv X pins σ H s):sysModules<s.heap.objs.size:=by
 have h:mainGlobals<s.heap.objs.size:=(I.mod.glob.keeps I.bk).lt
 exact Nat.lt_trans (by decide) h
theorem Mu {Q:Value->Shared->Prop}(hu:A.units+1<cLine)(I:Inv X pins σ H s)(g:M8 H a y (some v))(ry:RelV y u)(h:∀w' s',Inv X pins σ H s'->RelV v w'->Q w' s'):
 wpAny (model X.prog X.w) A (getItem (.ref a) u) Q E s:=by
 rcases g with⟨kvs,k,e,ey,l⟩|⟨kvs,k,b,e,ey,eb,l⟩
 ·subst ey
  obtain⟨z,hd,vs,rel,dd⟩:=Pk I.hok e
  obtain⟨w',hw,rw'⟩:=tL.some_of (v:=v) (o:=valueAt vs k) (by rw[l];exact rel.val k)
  exact wpAny_getItem_of (Hh ry) dd.mapOf hw (h w' _ (I.tok _) rw')
 ·subst ey
  cases(show u=Value.ref b from ry)
  obtain⟨z,hd,xs,rel,dd⟩:=Pn I.hok e
  obtain⟨w',hw,rw'⟩:=tL.some_of (v:=v) (o:=(atKey xs k).map (·.2)) (by rw[l];exact rel.val k)
  obtain⟨p,hp,hp2⟩:=Option.map_eq_some_iff.mp hw
  refine wpAny_getItem_heap (tupleKind_room_in1 hu) (Jj I.hok eb) dd hp ?_
  rw[hp2]
  exact h w' _ (I.tok _) rw'
theorem DN {h':Heap}{t':Nat}{ob:HO}(I:Inv X pins σ H s)(mu:Ym (H a))(hs:Heap.SameBut a s.heap h')(he:∃q,h'.get? a=some q)(new:gM X.prog X.w (upd H a ob) h' a ob):
 Inv X pins σ (upd H a ob) { s with heap:=h',toks:=t' }:=
 I.write (x:=a) (e:=a) mu (.inl rfl) (λb q hb z=>(hs.2 b hb).trans z) he new
theorem Ph {P:Program}{w:World}{H':Hp}{h':Heap}{kvs:List (Key×V)}{vs:List (Key×Value)}(z:kvs.length<=sizeLine)(hd:(a==sysModules)=false)(rel:KV kvs vs)(dd:h'.DictOf (cG P w) a vs):
 gM P w H' h' a (.dK kvs):=⟨z,hd,vs,rel,dd⟩
theorem Mv {H':Hp}{Q:Unit->Shared->Prop}(hu:A.units+1<cLine)(I:Inv X pins σ H s)(g:Oi H a y v H')(ry:RelV y u)(rv:RelV v r)(h:∀s',Inv X pins σ H' s'->Q () s'):
 wpAny (model X.prog X.w) A (setItem (.ref a) u r) Q E s:=by
 rcases g with⟨kvs,k,e,ey,l,eH⟩|⟨kvs,k,b,e,ey,eb,l,eH⟩
 ·subst ey eH
  obtain⟨z,hd,vs,rel,dd⟩:=Pj I.hok e
  have hz:vs.length<=sizeLine:=by rw[<-rel.length];exact z
  have hl:(putK kvs k v).length<=sizeLine:=by have:=rG kvs k v;omega
  refine wpAny_setItem_pairs (hsz:=hz) (Hh ry) dd λh' W7 hs=>h _ ?_
  have he:∃q,h'.get? a=some q:=let⟨q,_,_,hq,_⟩:=W7;⟨q,hq⟩
  exact DN I (by rw[e];exact True.intro) hs he (Ph hl hd (rel.put k rv) W7)
 ·subst ey eH
  cases(show u=Value.ref b from ry)
  obtain⟨z,hd,xs,rel,dd⟩:=YB I.hok e
  have hz:xs.length<=sizeLine:=by rw[<-Paired.length rel];exact z
  have hl:(putK kvs k v).length<=sizeLine:=by have:=rG kvs k v;omega
  refine wpAny_setItem_heap (hsz:=hz) (tupleKind_room_in1 hu) (Jj I.hok eb) dd λh' W7 hs=>h _ ?_
  obtain⟨q,es,ep,hq,h2,h3,h4,_,h5⟩:=W7
  refine DN I (by rw[e];exact True.intro) hs ⟨q,hq⟩ ⟨hl,hd,_,(rel.put k eb rv).keeps λc ys ec=>?_,q,es,ep,hq,h2,h3,h4,h5⟩
  rw[bM (Zd ec e (λz=>nomatch z))]
  exact ec
end
section
variable {X:Cx}{pins:List (Addr×Obj)}{σ:St}{H:Hp}{s:Shared}{a:Addr}{kvs:List (Key×V)}{k:Key}{u:Value}{A:Around}{E:Value->Shared->Prop}
end
noncomputable def RP (i:Expr):Prop:=∀ov iv,subscripted i false ov iv=operate [ov,iv] (getItem ov iv)
theorem Lr {prog:Program}{w:World}{A:Around}{E:Value->Shared->Prop}{s:Shared}{env:Env}{value slice:Expr}{pos:Pos}{T id:String}{Q:Value->Shared->Prop}
 (hl:typeLookup (.type T) "__getitem__"=pure (some (.builtin id)))(hs:RP slice)
 (h:wpAny (model prog w) A (eval value env) (λo s₁=>wpAny (model prog w) A (eval slice env) (λi s₂=>s₂.TypeIs o T/\wpAny (model prog w) A (getItem o i) Q E s₂) E s₁) E s):
 wpAny (model prog w) A (eval (.Subscript value slice pos) env) Q E s:=by
 refine Subscript_ (wpAny_mono h (λo s₁ h₁=>wpAny_mono h₁ (λi s₂ h₂=>?_) λ_ _ x=>x) λ_ _ x=>x)
 obtain⟨hT,h₂⟩:=h₂
 unfold subscriptTail
 refine wpAny_bind ?_
 rw[getitemInPython_of_ne hT.not_modules]
 refine wpAny_bind (wpAny_specialOf hT hl ?_)
 have fin:wpAny (model prog w) A (subscripted slice false o i) (λr s₃=>wpAny (model prog w) A (letTemporaryGo value o r>>=λ_=>pure r) Q E s₃) E s₂:=by
  rw[hs o i]
  exact wpAny_operating (wpAny_mono h₂ (λr s₃ h₃=>wpAny_bind (wpAny_letTemporaryGo (wpAny_pure h₃))) λ_ _ x=>x)
 first
  |exact wpAny_pure (wpAny_bind fin)
  |exact wpAny_bind (wpAny_pure (wpAny_bind fin))
  |exact wpAny_bind fin
theorem Gk {X:Cx}{pins:List (Addr×Obj)}{σ:St}{H:Hp}{s:Shared}{a:Addr}{y:V}{o:Option V}(I:Inv X pins σ H s)(g:M8 H a y o):s.TypeIs (.ref a) "dict":=by
 rcases g with⟨kvs,k,e,_,_⟩|⟨kvs,k,b,e,_,_,_⟩
 ·obtain⟨_,_,vs,_,dd⟩:=Pk I.hok e
  exact dd.typeIs
 ·obtain⟨_,_,xs,_,dd⟩:=Pn I.hok e
  exact dd.typeIs
noncomputable def a01 (td ty:TE):TE:=λσ H Q=>td σ H λx H1=>ty σ H1 λy H2=>∃a v,x= .ref a/\M8 H2 a y (some v)/\Q v H2
noncomputable def ZS (td ty tv:TE):TS:=λD σ H=>tv σ H λv H1=>td σ H1 λx H2=>ty σ H2 λy H3=>∃a H4,x= .ref a/\Oi H3 a y v H4/\D.nx σ H4
section
variable {X:Cx}{o i e value:Expr}{pos pos' tpos:Pos}{td ty tv:TE}
theorem Ub (hu:X.A.units+1<cLine)(ho:PE X o td)(hi:PE X i ty)(hs:RP i):PE X (.Subscript o i pos) (a01 td ty):=by
 intro pins s σ H Q I h
 refine Lr PySem.F.slot_dict_getitem.lookup hs (iK (ho pins s σ H _ I h) λu s1 ⟨x,H1,I1,rx,q1⟩=>iK (hi pins s1 σ H1 _ I1 q1) λiv s2 ⟨y,H2,I2,ry,a,v,ex,g,q2⟩=>?_)
 subst ex
 obtain rfl:u=Value.ref a:=rx
 exact⟨Gk I2 g,Mu hu I2 g ry λw' s3 I3 rw'=>⟨v,H2,I3,rw',q2⟩⟩
theorem Ul (hu:X.A.units+1<cLine)(ho:PE X o td)(hi:PE X i ty)(hv:PE X value tv)(hs:swapsWith value (some (.Subscript o i pos')) pos.line X.env=pure false):
 PS X (.Assign [.Subscript o i pos'] value pos) (ZS td ty tv):=by
 intro pins s σ H D I h
 refine wpAny_Assign_Subscript (iK (hv pins s σ H _ I h) λr s1 ⟨v,H1,I1,rv,q1⟩=>iK (ho pins s1 σ H1 _ I1 q1) λu s2 ⟨x,H2,I2,rx,q2⟩=>iK (hi pins s2 σ H2 _ I2 q2) λiv s3 ⟨y,H3,I3,ry,a,H4,ex,g,q3⟩=>?_) hs
 subst ex
 obtain rfl:u=Value.ref a:=rx
 exact Mv hu I3 g ry rv λs4 I4=>⟨σ,H4,I4,q3⟩
end
theorem Gm {P:Program}{w:World}{H:Hp}(h:Heap)(hb:sysModules<h.objs.size):gM P w H (h.push { cls:= .type "dict",data:= .dict #[] }) h.objs.size (.dK []):=
 ⟨Nat.zero_le _,beq_eq_false_iff_ne.mpr (Ne.symm (Nat.ne_of_lt hb)),[],.nil,Heap.DictOf.new h⟩
noncomputable def Y4:TE:=λ_ H Q=>∀p,H p=none->Q (.ref p) (upd H p (.dK []))
section
variable {X:Cx}{pos:Pos}
theorem Qx:PE X (.Dict [] [] pos) Y4:=λpins s σ H Q I h=>
 wpAny_Dict_empty ⟨.ref s.heap.objs.size,_,I.laid (a:=s.heap.objs.size) (o:= .dK []) (t':=s.toks) (λ_ _ q=>Heap.get?_push_of_some _ q) (Nat.le_refl _) (Gm s.heap I.big),rfl,h _ (I.hok.fresh (Nat.le_refl _))⟩
end
noncomputable def Fj:List (TE×TE)->St->Hp->(List (V×V)->Hp->Prop)->Prop
 |[],_,H,Q=>Q [] H
 |(tk,tv)::r,σ,H,Q=>tk σ H λx H1=>tv σ H1 λy H2=>Fj r σ H2 λps H3=>Q ((x,y)::ps) H3
noncomputable abbrev VV:List (V×V)->List (Value×Value)->Prop:=Paired λp q=>RelV p.1 q.1/\RelV p.2 q.2
noncomputable def Yn (X:Cx)(pos:Pos)(keys:List (Option Expr))(values:List Expr)(V3:List (TE×TE)):Prop:=
 ∀(pins:List (Addr×Obj)) (s:Shared) (σ:St) (H:Hp) (Q:List (V×V)->Hp->Prop),Inv X pins σ H s->Fj V3 σ H Q->
  wpAny (model X.prog X.w) X.A (evalPairs (pairTrees keys values X.env pos)) (λvs s'=>∃ps H',Inv X pins σ H' s'/\VV ps vs/\Q ps H') X.xe s
theorem Uj {X:Cx}{pos:Pos}:Yn X pos [] [] []:=λpins s σ H Q I h=>pairTrees_nil_walk ⟨[],H,I,.nil,h⟩
theorem QJ {X:Cx}{pos:Pos}{k v:Expr}{ks:List (Option Expr)}{vs:List Expr}{tk tv:TE}{V3:List (TE×TE)}(hk:PE X k tk)(hv:PE X v tv)(hr:Yn X pos ks vs V3):
 Yn X pos (some k::ks) (v::vs) ((tk,tv)::V3):=λpins s σ H Q I h=>
 pairTrees_cons_walk (iK (hk pins s σ H _ I h) λu s1 ⟨x,H1,I1,rx,q1⟩=>iK (hv pins s1 σ H1 _ I1 q1) λw2 s2 ⟨y,H2,I2,ry,q2⟩=>
  iK (hr pins s2 σ H2 _ I2 q2) λws s3 ⟨ps,H3,I3,rel,q3⟩=>⟨(x,y)::ps,H3,I3,.cons ⟨rx,ry⟩ rel,q3⟩)
noncomputable def qu (kvs more:List (Key×V)):List (Key×V):=more.foldl (λacc kv=>putK acc kv.1 kv.2) kvs
theorem KV.merge:∀{more:List (Key×V)}{rs:List (Key×Value)}{kvs:List (Key×V)}{vs:List (Key×Value)},KV more rs->KV kvs vs->KV (qu kvs more) (merged vs rs):=by
 intro more rs kvs vs r
 unfold KV at r
 induction r generalizing kvs vs with
 |nil=>intro q;exact q
 |@cons p q ps qs h t ih=>
  intro r0
  have e:KV (putK kvs p.1 p.2) (stored vs q.1 q.2):=by
   have:=r0.put p.1 h.2
   rw[<-h.1];exact this
  exact ih e
theorem u9:∀(more kvs:List (Key×V)),(qu kvs more).length<=kvs.length+more.length
 |[],kvs=>by show kvs.length<=kvs.length+0;omega
 |p::r,kvs=>by
  have h1:=u9 r (putK kvs p.1 p.2)
  have h2:=rG kvs p.1 p.2
  show(qu (putK kvs p.1 p.2) r).length<=_
  rw[List.length_cons];omega
theorem zx {P:Program}{w:World}:∀{kvs:List (Key×V)}{ws:List (Value×Value)},VV (kvs.map λkv=>(kV kv.1,kv.2)) ws->∃rs,Carries (cG P w) ws rs/\KV kvs rs
 |[],_,r=>by rw[List.map_nil]at r;cases r;exact⟨[],True.intro,.nil⟩
 |p::kvs,_,r=>by
  rw[List.map_cons]at r
  cases r with
  |@cons a b as bs h t=>
   obtain⟨rs,c,q⟩:=zx (P:=P) (w:=w) t
   obtain⟨b1,b2⟩:=b
   exact⟨(p.1,b2)::rs,⟨Hh h.1,rfl,c⟩,.cons ⟨rfl,h.2⟩ q⟩
noncomputable def a02 (V3:List (TE×TE)):TE:=λσ H Q=>∀p,H p=none->Fj V3 σ (upd H p (.dK [])) λps H2=>H2 p=some (.dK [])/\∃kvs:List (Key×V),ps=kvs.map (λkv=>(kV kv.1,kv.2))/\kvs.length<=15/\Q (.ref p) (upd H2 p (.dK (qu [] kvs)))
theorem Uc {X:Cx}{pos:Pos}{keys:List (Option Expr)}{values:List Expr}{V3:List (TE×TE)}(h:Yn X pos keys values V3)(hall:keys.all (·.isSome)=true)(hl:keys.length=values.length)(h0:keys≠[])
 (h15:keys.length<=15):PE X (.Dict keys values pos) (a02 V3):=by
 intro pins s σ H Q I q
 have hn:=I.hok.fresh (Nat.le_refl s.heap.objs.size)
 have I1:=I.laid (a:=s.heap.objs.size) (o:= .dK []) (h':=s.heap.push { cls:= .type "dict",data:= .dict #[] }) (t':=s.toks) (λ_ _ q=>Heap.get?_push_of_some _ q) (Nat.le_refl _) (Gm s.heap I.big)
 refine wpAny_Dict_walk (knd:=cG X.prog X.w) hall hl h0 h15 (iK (h pins _ σ _ _ I1 (q _ hn)) λws s2 ⟨ps,H2,I2,rel,e,kvs,ep,lk,q2⟩=>?_)
 subst ep
 obtain⟨rs,c,rk⟩:=zx (P:=X.prog) (w:=X.w) rel
 obtain⟨z,hd,vs0,r0,dd⟩:=Pj I2.hok e
 cases r0
 refine⟨rs,c,dd,λh' W7 hs=>⟨.ref s.heap.objs.size,_,?_,rfl,q2⟩⟩
 have hz:(qu [] kvs).length<=sizeLine:=by
  have h1:=u9 kvs []
  rw[List.length_nil]at h1
  rw[sizeLine_eq];omega
 have he:∃q,h'.get? s.heap.objs.size=some q:=let⟨q,_,_,hq,_⟩:=W7;⟨q,hq⟩
 exact DN I2 (by rw[e];exact True.intro) hs he (Ph hz hd (rk.merge .nil) W7)
section
variable {X:Cx}{pins:List (Addr×Obj)}{σ:St}{H:Hp}{s:Shared}{a:Addr}{y d:V}{u r:Value}{o:Option V}{A:Around}{E:Value->Shared->Prop}
end
section
variable {X:Cx}{o e f:Expr}{apos cpos:Pos}{td ty tx:TE}
end
section
variable {X:Cx}{pins:List (Addr×Obj)}{σ:St}{H:Hp}{s:Shared}{a:Addr}{kvs:List (Key×V)}{A:Around}{E:Value->Shared->Prop}
end
section
variable {X:Cx}{pins:List (Addr×Obj)}{σ:St}{H:Hp}{s:Shared}{a:Addr}{y:V}{u:Value}{A:Around}{E:Value->Shared->Prop}
end
end L2
namespace Att
open PySem PySem.W PySem.Calls PyProof.Rows
theorem yG {P:Params}{h:Heap}:∀(ns:List Int) (vs:List Value),WellAll P h vs (ns.map WData.int)->IntsAre vs ns:=by
 intro ns
 induction ns with
 |nil=>
  intro vs w
  rw[List.map_nil]at w
  cases w
  exact .nil
 |cons n ns ih=>
  intro vs w
  rw[List.map_cons]at w
  cases w with
  |cons a b=>
   cases a
   exact .cons _ _ (ih _ b)
theorem NQ {l:OpenLaw}{n:Nat}(hn:l.most=some n){P:Params}{h:Heap}{args:List WData}{vals:List Value}
 (hpre:l.row.toRowW.claim.pre args=true)(hwl:WellAll P h vals args):
 ∃a vs ns,vals=[Value.ref a]/\args=[WData.list (ns.map WData.int)]/\h.get? a=some { cls:= .type "list",data:= .seq vs.toArray }/\IntsAre vs ns/\ns.length<=n:=by
 have hsh:WShape.hasAll [] args [.list .int]=true:=(pre_splitW hpre).1
 have hc:l.pre.holds [] { args:=args }=true:=(pre_splitW hpre).2
 obtain⟨d,r,rfl,h1,h2⟩:=hasAllW_cons hsh
 obtain rfl:=hasAllW_nil h2
 obtain⟨xs,rfl,h3⟩:=hasW_list h1
 obtain⟨ns,rfl⟩:=items_int h3
 have hlen:ns.length<=n:=by
  unfold OpenLaw.pre at hc
  have h4:(WTm.not (.lt (.lit (.int (n:Int))) (.len (.arg 0)))).holds [] { args:=[.list (ns.map .int)] }=true:=by
   have h4:=(holds_andW hc).1
   rw[hn]at h4
   exact h4
  have h5:=condW_of h4 (w_not (w_lt w_lit (w_len_list (w_arg rfl))))
  rw[List.length_map]at h5
  refine Nat.le_of_not_lt λq=>?_
  have q':(n:Int)<((ns.length:Nat):Int):=by omega
  first
   |(rw[decide_eq_true q']at h5;exact absurd h5 (by decide))
   |(simp at h5;omega)
 cases hwl with
 |cons w1 w2=>
  cases w2
  cases w1 with
  |list ho hall=>exact⟨_,_,ns,rfl,rfl,ho,yG ns _ hall,hlen⟩
theorem NK (l:OpenLaw)(args:List WData):l.row.toRowW.claim.post args (.bool true) args=true:=
 postW_of (r:=l.row.toRowW) (X:=(true==true))
  (show WShape.has [] (.bool true) .bool=true by first|rfl|decide|simp[WShape.has,WShape.arms,WShape.armsAll])
  (show(WTm.eq .res (.lit (.bool true))).value [] { args:=args,res:=some (.bool true),after:=args }=some (.bool (true==true)) from w_eq_bool (w_res rfl) w_lit) rfl
theorem FW {l:OpenLaw}{n:Nat}{q:Program}{loose:List Str}{XP:(Str->Option Value)->Heap->Prop}{YP:World->Heap->Prop}{d:DefRec}
 (hn:l.most=some n)(hdf:d.params.defaults=[])
 (call:∀(w:World) (s₀ s₁:Shared) (mg mb:Str->Option Value) (fa:Addr) (o:Obj) (pm cd doc:Value) (a:Addr) (vs:List Value) (ns:List Int),
  Ground q loose [] XP w s₀ mg mb s₁.heap->YP w s₁.heap->
  s₁.heap.get? fa=some o->o.data= .func (docDef d.name d.params d.body d.scope pm cd doc)->s₁.heap.CodeRec cd d.name->mg d.name=some (.ref fa)->
  s₁.heap.get? a=some { cls:= .type "list",data:= .seq vs.toArray }->IntsAre vs ns->ns.length<=n->s₁.gens=#[]->
  codeAny (model l.prog w) callerA (.call (.ref fa) ⟨[.ref a],[]⟩) (λr s'=>r= .ok (.ret (.bool true))/\OldK s₁.heap s'.heap/\s'.os=s₁.os/\AllBare s'.gens) s₁):
 WalkO q loose XP YP l.row.toRowW d [] (λf vs=>PySem.call f vs):=by
 intro w s₀ s₁ mg mb G Y fa o pm cd doc dV kV ho hd hcd hD hmg hg args vals as hpre hlay hrd hwl hlo
 obtain rfl:dV= .none:=Dflts.none hD hdf
 obtain rfl:kV= .none:=Dflts.noKw hD
 obtain⟨a,vs,ns,rfl,rfl,hobj,hints,hlen⟩:=NQ hn hpre hwl
 refine enter_call (codeAny_mono (call w s₀ s₁ mg mb fa o pm cd doc a vs ns G Y ho (fd_plain hd) hcd hmg hobj hints hlen hg) λr s' hq=>?_)
 obtain⟨rfl,h2,h3,h4⟩:=hq
 exact⟨.inl ⟨.bool true,.bool true,[],rfl,λ_=>rfl,.bool true,NK l _,λ_=>⟨List.Pairwise.nil,λ_ hm=>(nomatch hm)⟩⟩,h2,h3,h4⟩
section
variable {prog:Program}{w:World}{A:Around}{E:Value->Shared->Prop}{s:Shared}{K:Frag}
end
end Att
namespace L2
open PySem PySem.Spec PyProof.Rows
theorem Dm:∀{vs:List Value}{ns:List Int},IntsAre vs ns->Vals (ns.map V.int) vs
 |_,_,.nil=> .nil
 |_,_,.cons n t h=> .cons ⟨t,rfl⟩ (Dm h)
noncomputable def Only (H:Hp):Prop:=∀b,H b=none\/∃o xs,H b=some (.tO o (.lst xs))
theorem Qg {P:Program}{w:World}{K:Fg}{mg mb:Str->Option Value}{CX:JW}{k:Nat}{fa a:Addr}{fd:FuncData}{x:Str}{sp:Sp}{s₁:Shared}{vs:List Value}{ns:List Int}
 (KX:K.In s₁.heap)(hns:s₁.heap.Ns mainGlobals mg)(hb:s₁.heap.Ns builtinsNs mb)(hbb:∀x:Str,x≠"__name__"->mb x=bootBuiltins x)(hlim:s₁.heap.NoLimit)(hg:s₁.gens=#[])
 (ha:s₁.heap.get? a=some { cls:= .type "list",data:= .seq vs.toArray })(hi:IntsAre vs ns)(hl:ns.length<=sizeLine)(hr:j9 k callerA)
 (F:∀base:Heap,K.In base->base.Ns mainGlobals mg->eZ P w K mg base CX k fa fd [x] sp)(hbind:∀(s:Shared) (u:Value),BindsTo s fd ⟨[u],[]⟩ [(x,u)])
 (hsp:∀H:Hp,Only H->oF K H a (ns.map V.int)->sp [.ref a] H (λv _=>v= .bl true) λ_ _ _=>False)
 (hCX:∀H e s',CX [] H s₁ (λ_ _ _=>False) e s'->False):
 codeAny (model P w) callerA (.call (.ref fa) ⟨[.ref a],[]⟩) (λr s'=>r= .ok (.ret (.bool true))/\OldK s₁.heap s'.heap/\s'.os=s₁.os/\AllBare s'.gens) s₁:=by
 have rv:=Dm hi
 have lenV:=hi.length
 have core:∀H:Hp,Only H->oF K H a (ns.map V.int)->tX P w H s₁.heap->(∀b,H b≠none->b=a)->(H a≠none->K.lookup a=none)->
  codeAny (model P w) callerA (.call (.ref fa) ⟨[.ref a],[]⟩) (λr s'=>r= .ok (.ret (.bool true))/\OldK s₁.heap s'.heap/\s'.os=s₁.os/\AllBare s'.gens) s₁:=by
  intro H hO hS hok hA hK
  have K3:∀{b:Addr}{o:Obj},s₁.heap.get? b=some o->H b=none->(Ed s₁.heap H).get? b=some o:=λe n=>Q7 e n
  have Zf:∀{b:Addr}{o:Obj}{es:Array DictEntry}{ep:Nat},s₁.heap.get? b=some o->o.data= .dict es ep->H b=none:=λ{b o es ep} e d=>by
   cases q:H b with
   |none=>rfl
   |some u=>
    have e':b=a:=hA b (by rw[q];simp)
    subst e'
    rw[ha]at e;cases e
    have d':Data.seq vs.toArray _=Data.dict es ep:=d
    cases d'
  have nsK:∀{b:Addr}{m:Str->Option Value},s₁.heap.Ns b m->(Ed s₁.heap H).Ns b m:=λ{b m} ⟨o,es,ep,e,d,r⟩=>⟨o,es,ep,K3 e (Zf e d),d,r⟩
  have hKb:K.In (Ed s₁.heap H):=λb o e=>K3 (KX b o e) (by
   cases q:H b with
   |none=>rfl
   |some u=>
    have e':b=a:=hA b (by rw[q];simp)
    subst e'
    rw[hK (by rw[q];simp)]at e;cases e)
  have hM:Mod K mg (Ed s₁.heap H):=⟨hKb,nsK hns,⟨mb,nsK hb,hbb⟩,let⟨mc,h1,h2⟩:=hlim;⟨mc,nsK h1,h2⟩⟩
  have e0:IK P w K mg (Ed s₁.heap H) callerA [] s₁ H:=⟨rfl,hM,λb o e=>TX e,Nat.le_of_eq (MT _ _),trivial,λb hb=>absurd (show b∈([]:List Addr) from hb) (by simp),hok,.of_eq hg⟩
  refine codeAny_mono ((F _ hKb (nsK hns)).run callerA [] s₁ H ⟨[.ref a],[]⟩ [.ref a] [.ref a] _ _ hr e0 (hbind s₁ (.ref a)) (.cons rfl .nil) (hsp H hO hS)) λr s' h=>?_
  cases r with
  |error e=>exact(hCX H e s' h).elim
  |ok fl=>
   cases fl with
   |next=>exact False.elim h
   |brk=>exact False.elim h
   |cont=>exact False.elim h
   |ret u=>
    obtain⟨v,H',os,bare,un,hok',r',q⟩:=h
    have q':v= .bl true:=q
    subst q'
    obtain rfl:u=Value.bool true:=r'
    refine⟨rfl,OldK.of_keep λb o e=>?_,os,bare⟩
    cases q:H b with
    |none=>exact un.keep b o e q (by intro z;exact absurd (show b∈([]:List Addr) from z) (by simp)) (by simp)
    |some u=>
     rcases hO b with z|⟨ob,xs,z⟩
     ·rw[q]at z;cases z
     ·have z2:=un.Bm b ob _ z
      obtain⟨e1,_⟩:=hok b _ z
      obtain⟨e2,_⟩:=hok' b _ z2
      rw[e]at e1;cases e1
      exact e2
 cases hk:K.lookup a with
 |some o=>
  have e:=KX a o hk
  rw[ha]at e
  cases e
  refine core (λ_=>none) (λ_=> .inl rfl) (.inr ⟨_,vs.toArray,_,hk,rfl,rfl,rfl,by rw[List.size_toArray,lenV];exact hl,by simpa using rv⟩) (λb u z=>by have z':(none:Option HO)=some u:=z;cases z') (λb z=>absurd rfl z) λz=>absurd rfl z
 |none=>
  refine core (λb=>if b=a then some (.tO { cls:= .type "list",data:= .seq vs.toArray } (.lst (ns.map V.int)))else none) (λb=>?_) (.inl (.inr ⟨{ cls:= .type "list",data:= .seq vs.toArray },if_pos rfl⟩)) (λb u z=>?_) (λb z=>?_) λ_=>hk
  ·by_cases hb:b=a
   ·exact .inr ⟨_,_,if_pos hb⟩
   ·exact .inl (if_neg hb)
  ·by_cases hb:b=a
   ·have z':=(if_pos hb).symm.trans z
    cases z'
    subst hb
    exact⟨ha,by rw[List.length_map];exact hl,vs,_,rv,ha⟩
   ·have z':=(if_neg hb).symm.trans z
    cases z'
  ·by_cases hb:b=a
   ·exact hb
   ·exact absurd (if_neg hb) z
end L2
namespace L2
open PySem PySem.Spec PyProof.Rows
theorem V9 {l:PySem.W.OpenLaw}{n k:Nat}{q:Program}{loose:List Str}{XP:(Str->Option Value)->Heap->Prop}{YP:World->Heap->Prop}{d:DefRec}{K:Params->Fg}{CX:World->JW}{sp:World->Sp}{x:Str}
 (hn:l.most=some n)(hn2:n<=sizeLine)(hdf:d.params.defaults=[])(hr:j9 k callerA)
 (hY:∀(w:World) (h:Heap),YP w h->(K w.params).In h)
 (F:∀(w:World) (mg:Str->Option Value) (fa:Addr) (h:Heap),(K w.params).In h->h.Ns mainGlobals mg->mg d.name=some (.ref fa)->
  ∃fd:FuncData,(∀(s:Shared) (u:Value),BindsTo s fd ⟨[u],[]⟩ [(x,u)])/\
   ∀base:Heap,(K w.params).In base->base.Ns mainGlobals mg->eZ l.prog w (K w.params) mg base (CX w) k fa fd [x] (sp w))
 (hsp:∀(w:World) (H:Hp) (a:Addr) (ns:List Int),ns.length<=n->Only H->oF (K w.params) H a (ns.map V.int)->sp w [.ref a] H (λv _=>v= .bl true) λ_ _ _=>False)
 (hCX:∀(w:World) (H:Hp) (s:Shared) (e:Value) (s':Shared),CX w [] H s (λ_ _ _=>False) e s'->False):
 PySem.W.WalkO q loose XP YP l.row.toRowW d [] (λf vs=>PySem.call f vs):=by
 refine Att.FW hn hdf λw s₀ s₁ mg mb fa o pm cd doc a vs ns G Y ho hd hcd hmg hobj hints hlen hg=>?_
 have KX:=hY w _ Y
 obtain⟨fd,hb,hF⟩:=F w mg fa _ KX G.T.g hmg
 exact Qg KX G.T.g G.T.b G.T.builtins G.T.nolimit hg hobj hints (Nat.le_trans hlen hn2) hr hF hb (λH hO hS=>hsp w H a ns hlen hO hS) λH e s'=>hCX w H s₁ e s'
end L2
namespace L2
open PySem PySem.Spec PyProof.Rows
noncomputable def inClass (s:Stmt)(j:Nat):Stmt:=match s with
 | .ClassDef _ _ _ body _ _ _ _ _ _ _=>body.getD j (.Pass ⟨0,0,0,0⟩)
 |_=> .Pass ⟨0,0,0,0⟩
noncomputable def bV (s:Stmt):Arguments:=match s with
 | .FunctionDef _ a _ _ _ _ _ _ _ _=>a
 |_=>{ posonlyargs:=[],args:=[],vararg:=none,kwonlyargs:=[],kw_defaults:=[],kwarg:=none,defaults:=[] }
noncomputable def bL (s:Stmt):List Stmt:=match s with
 | .FunctionDef _ _ b _ _ _ _ _ _ _=>b
 |_=>[]
noncomputable def aJ (s:Stmt):Scope:=match s with
 | .FunctionDef _ _ _ _ _ _ sc _ _ _=>sc
 |_=>{ kind:= .function,names:=[],isGenerator:=false,isCoroutine:=false }
noncomputable abbrev mD:JW:=λ_ _ _ _ _ _=>False
noncomputable abbrev E0:XK:=λ_ _ _=>False
theorem HQ {X:Cx}:Passes mD X E0:=λ_ _ _ _ _ _ _ h=>h.elim
structure pZ (K:Fg)(x qual:Str)(st:Stmt)(f:Addr)(fd:FuncData):Prop where
 ex:∃(oc:Value) (od:Option Addr) (kV doc pm:Value) (an:Option Addr) (cdv ct:Value) (osl:Array (Option Value)),
  fd=PySem.W.fnOf x qual (bV st) (bL st) (aJ st) .none kV doc pm an cdv ct/\K.lookup f=some ⟨oc,od,.func fd,osl⟩/\PySem.W.codeIn K cdv qual=true
 kp:PySem.W.keepIn K (.ref f)=true
section
variable {P:Program}{w:World}{K:Fg}{mg:Str->Option Value}{base:Heap}
theorem pZ.ok {x qual:Str}{st:Stmt}{f:Addr}{fd:FuncData}{N ps:List Str}{k:Nat}{sp:Sp}(F:pZ K x qual st f fd)(S:bQ N ps (aJ st))(len:∀vs H Q E,sp vs H Q E->vs.length=ps.length)
 (hbody:∀(cdv:Value) (A:Around) (outer:List Env) (s:Shared) (H:Hp) (vs:List V) (Q:VK) (E:XK),j9 k (A.deeper (envOfC qual (aJ st) s.heap.objs.size f cdv))->sp vs H Q E->
  ∃t,wR (DK mD P w K mg base N qual (aJ st) f cdv A outer s H E).X4 (bL st) t/\t { nx:=λ_ H'=>Q .non H',rt:=Q } (start N vs) H):eZ P w K mg base mD (k+1) f fd ps sp:=by
 obtain⟨oc,od,kV,doc,pm,an,cdv,ct,osl,rfl,lk,hcd⟩:=F.ex
 refine YL lk hcd S len λA outer s H vs Q E hr hsp=>?_
 obtain⟨t,h,q⟩:=hbody cdv A outer s H vs Q E hr hsp
 exact⟨t,h.X4,q⟩
theorem pZ.binds {x qual:Str}{st:Stmt}{f:Addr}{fd:FuncData}{ps:List Str}(F:pZ K x qual st f fd)
 (h:∀(kV doc pm:Value) (an:Option Addr) (cdv ct:Value) (us:List Value),us.length=ps.length->bindArgs (PySem.W.fnOf x qual (bV st) (bL st) (aJ st) .none kV doc pm an cdv ct) ⟨us,[]⟩=pure (ps.zip us)):Binds K fd ps []:=by
 obtain⟨oc,od,kV,doc,pm,an,cdv,ct,osl,rfl,lk,hcd⟩:=F.ex
 exact .all (h kV doc pm an cdv ct)
theorem dH {x qual:Str}{st:Stmt}{f:Addr}{oc:Value}{od an:Option Addr}{osl:Array (Option Value)}{kV doc pm cdv ct:Value}(l:K.lookup f=some ⟨oc,od,.func (PySem.W.fnOf x qual (bV st) (bL st) (aJ st) .none kV doc pm an cdv ct),osl⟩)
 (c:PySem.W.codeIn K cdv qual=true)(k:PySem.W.keepIn K (.ref f)=true):pZ K x qual st f (PySem.W.fnOf x qual (bV st) (bL st) (aJ st) .none kV doc pm an cdv ct):=⟨⟨oc,od,kV,doc,pm,an,cdv,ct,osl,rfl,l,c⟩,k⟩
end
section
variable {X:Cx}
theorem pv (i:Nat){x:Str}{pos:Pos}(hN:X.N[i]?=some x:=by rfl)(hv:Yr X.env.scope x:=by first|exact Or.inl rfl|exact Or.inr (Or.inl rfl)|exact Or.inr (Or.inr rfl))(hd:(x==("__debug__":Str))=false:=by decide)
 (hcd:(x==("__classdict__":Str))=false:=by decide):PE X (.Name x pos) (Ba i):=Xm hN hv hd hcd
end
theorem Jh {A B:Prop}(h:B):if false=true then A else B:=by
 rw[if_neg Bool.false_ne_true]
 exact h
theorem Ji {A B:Prop}(h:A):if true=true then A else B:=by
 rw[if_pos rfl]
 exact h
noncomputable def bN (H H':Hp):Prop:=∀b o,H b=some o->H' b=some o
theorem bN.refl (H:Hp):bN H H:=λ_ _ h=>h
theorem bN.trans {H H1 H2:Hp}(a:bN H H1)(b:bN H1 H2):bN H H2:=λc o h=>b c o (a c o h)
theorem bN.free {H H':Hp}(e:bN H H'){l:Addr}(h:H' l=Option.none):H l=Option.none:=by
 cases q:H l with
 |none=>rfl
 |some o=>
  rw[e l o q]at h
  cases h
section
variable {κ:Type} [DecidableEq κ]
end
end L2
namespace DL
open PySem PySem.Spec PyProof.Rows L2
inductive D where
 |non
 |bl (b:Bool)
 |int (i:Int)
 |str (x:Str)
 |tup (l:List D)
 |lst (l:List D)
 |dct (ks:List Key) (l:List D)
 |ins (C:Addr) (ks:List Str) (l:List D)
 |tu (l:List Int)
noncomputable abbrev KL (K:Fg)(a:Addr)(xs:List V):Prop:=
 ∃(o:Obj) (its:Array Value) (n:Nat),K.lookup a=some o/\o.cls= .type "list"/\o.dict=none/\o.data= .seq its n/\its.size<=sizeLine/\Vals xs its.toList
noncomputable def Yq (K:Fg)(H:Hp)(a:Addr)(xs:List V):Prop:=(∃o,H a=some (.tO o (.lst xs)))\/KL K a xs
theorem Yq.sq {K:Fg}{H:Hp}{a:Addr}{xs:List V}(h:Yq K H a xs):oF K H a xs:=by
 rcases h with h|h
 ·exact .inl (.inr h)
 ·exact .inr h
mutual
noncomputable def Rep (O:Addr->Prop)(K:Fg)(H:Hp):D->V->Prop
 | .non,v=>v= .non
 | .bl b,v=>v= .bl b
 | .int i,v=>v= .int i
 | .str x,v=>v= .str x
 | .tup l,v=>∃a vs,v= .ref a/\uN K H a vs/\aU O K H l vs
 | .lst l,v=>∃a vs,v= .ref a/\(H a=some (.lst vs)/\¬O a)/\aU O K H l vs
 | .dct ks l,v=>∃a vs,v= .ref a/\(H a=some (.dK (ks.zip vs))/\¬O a)/\ks.length=vs.length/\aU O K H l vs
 | .ins C ks l,v=>∃a dx vs,v= .ref a/\H a=some (.ins C dx (ks.zip vs))/\ks.length=vs.length/\aU O K H l vs
 | .tu l,v=>∃a,v= .ref a/\Yq K H a (l.map V.int)
noncomputable def aU (O:Addr->Prop)(K:Fg)(H:Hp):List D->List V->Prop
 |[],vs=>vs=[]
 |d::l,vs=>∃v r,vs=v::r/\Rep O K H d v/\aU O K H l r
end
noncomputable def pF (O:Addr->Prop)(H H':Hp):Prop:=∀b u,H b=some u->H' b=some u\/(O b/\((∃xs,u= .lst xs)\/∃kvs,u= .dK kvs))
theorem bN.keep {O:Addr->Prop}{H H':Hp}(h:bN H H'):pF O H H':=λb u e=> .inl (h b u e)
theorem pF.M4 {O:Addr->Prop}{H:Hp}{p:Addr}{xs:List V}{o:HO}(hO:O p)(h:H p=some (.lst xs)):pF O H (upd H p o):=λb u e=>by
 by_cases hb:b=p
 ·subst hb
  rw[h]at e
  cases e
  exact .inr ⟨hO,.inl ⟨_,rfl⟩⟩
 ·exact .inl (by rw[bM hb];exact e)
theorem pF.LR {O:Addr->Prop}{H:Hp}{p:Addr}{xs:List (Key×V)}{o:HO}(hO:O p)(h:H p=some (.dK xs)):pF O H (upd H p o):=λb u e=>by
 by_cases hb:b=p
 ·subst hb
  rw[h]at e
  cases e
  exact .inr ⟨hO,.inr ⟨_,rfl⟩⟩
 ·exact .inl (by rw[bM hb];exact e)
section
variable {O O':Addr->Prop}{K:Fg}{H H':Hp}
theorem pF.a0X {a:Addr}{vs:List V}(k:pF O H H')(h:uN K H a vs):uN K H' a vs:=by
 rcases h with(h|⟨o,h⟩)|h
 ·rcases k a _ h with z|⟨_,⟨_,z⟩|⟨_,z⟩⟩
  ·exact .inl (.inl z)
  ·cases z
  ·cases z
 ·rcases k a _ h with z|⟨_,⟨_,z⟩|⟨_,z⟩⟩
  ·exact .inl (.inr ⟨o,z⟩)
  ·cases z
  ·cases z
 ·exact .inr h
theorem pF.Zb {a:Addr}{u:HO}(k:pF O H H')(h:H a=some u/\¬O a):H' a=some u:=by
 rcases k a _ h.1 with z|⟨z,_⟩
 ·exact z
 ·exact absurd z h.2
theorem pF.tu {a:Addr}{xs:List V}(k:pF O H H')(h:Yq K H a xs):Yq K H' a xs:=by
 rcases h with⟨o,h⟩|h
 ·rcases k a _ h with z|⟨_,⟨_,z⟩|⟨_,z⟩⟩
  ·exact .inl ⟨o,z⟩
  ·cases z
  ·cases z
 ·exact .inr h
mutual
theorem Rep.keep (hO:∀a,O' a->O a)(k:pF O H H'):∀(d:D) {v:V},Rep O K H d v->Rep O' K H' d v
 | .non,_,h=>h
 | .bl _,_,h=>h
 | .int _,_,h=>h
 | .str _,_,h=>h
 | .tup l,_,h=>by
   obtain⟨a,vs,e,h1,h2⟩:=h
   exact⟨a,vs,e,k.a0X h1,aU.keep hO k l h2⟩
 | .lst l,_,h=>by
   obtain⟨a,vs,e,h1,h2⟩:=h
   exact⟨a,vs,e,⟨k.Zb h1,λz=>h1.2 (hO a z)⟩,aU.keep hO k l h2⟩
 | .dct ks l,_,h=>by
   obtain⟨a,vs,e,h1,h3,h2⟩:=h
   exact⟨a,vs,e,⟨k.Zb h1,λz=>h1.2 (hO a z)⟩,h3,aU.keep hO k l h2⟩
 | .ins C ks l,_,h=>by
   obtain⟨a,dx,vs,e,h1,h3,h2⟩:=h
   refine⟨a,dx,vs,e,?_,h3,aU.keep hO k l h2⟩
   rcases k a _ h1 with z|⟨_,⟨_,z⟩|⟨_,z⟩⟩
   ·exact z
   ·cases z
   ·cases z
 | .tu l,_,h=>by
   obtain⟨a,e,h1⟩:=h
   exact⟨a,e,k.tu h1⟩
theorem aU.keep (hO:∀a,O' a->O a)(k:pF O H H'):∀(l:List D) {vs:List V},aU O K H l vs->aU O' K H' l vs
 |[],_,h=>h
 |d::l,_,h=>by
  obtain⟨v,r,e,h1,h2⟩:=h
  exact⟨v,r,e,Rep.keep hO k d h1,aU.keep hO k l h2⟩
end
theorem Rep.mono {d:D}{v:V}(hs:bN H H')(h:Rep O K H d v):Rep O K H' d v:=Rep.keep (λ_ z=>z) (bN.keep hs) d h
theorem aU.mono {l:List D}{vs:List V}(hs:bN H H')(h:aU O K H l vs):aU O K H' l vs:=aU.keep (λ_ z=>z) (bN.keep hs) l h
theorem Rep.weak {d:D}{v:V}(hO:∀a,O' a->O a)(h:Rep O K H d v):Rep O' K H d v:=Rep.keep hO (bN.keep (bN.refl H)) d h
theorem aU.weak {l:List D}{vs:List V}(hO:∀a,O' a->O a)(h:aU O K H l vs):aU O' K H l vs:=aU.keep hO (bN.keep (bN.refl H)) l h
noncomputable def flat:D->Bool
 | .tup l=>flats l
 | .lst _=>false
 | .dct _ _=>false
 | .ins _ _ _=>false
 | .tu _=>false
 |_=>true
where
 flats:List D->Bool
 |[]=>true
 |d::l=>flat d&&flats l
mutual
theorem Rep.dJ:∀(d:D) {v:V},flat d=true->Rep O K H d v->Rep O' K H d v
 | .non,_,_,h=>h
 | .bl _,_,_,h=>h
 | .int _,_,_,h=>h
 | .str _,_,_,h=>h
 | .tup l,_,f,h=>by
   obtain⟨a,vs,e,h1,h2⟩:=h
   exact⟨a,vs,e,h1,aU.dJ l (by simpa only[flat]using f) h2⟩
 | .lst l,_,f,h=>by simp[flat]at f
 | .dct ks l,_,f,h=>by simp[flat]at f
 | .ins C ks l,_,f,h=>by simp[flat]at f
 | .tu l,_,f,h=>by simp[flat]at f
theorem aU.dJ:∀(l:List D) {vs:List V},flat.flats l=true->aU O K H l vs->aU O' K H l vs
 |[],_,_,h=>h
 |d::l,_,f,h=>by
  obtain⟨v,r,e,h1,h2⟩:=h
  simp only[flat.flats,Bool.and_eq_true]at f
  exact⟨v,r,e,Rep.dJ d f.1 h1,aU.dJ l f.2 h2⟩
end
mutual
theorem Rep.join {p:Addr}(hp:H p=none):∀(d:D) {v:V},Rep O K H d v->Rep (λa=>O a\/a=p) K H d v
 | .non,_,h=>h
 | .bl _,_,h=>h
 | .int _,_,h=>h
 | .str _,_,h=>h
 | .tup l,_,h=>by
   obtain⟨a,vs,e,h1,h2⟩:=h
   exact⟨a,vs,e,h1,aU.join hp l h2⟩
 | .lst l,_,h=>by
   obtain⟨a,vs,e,h1,h2⟩:=h
   refine⟨a,vs,e,⟨h1.1,λz=>z.elim h1.2 λz=>?_⟩,aU.join hp l h2⟩
   rw[<-z,h1.1]at hp;cases hp
 | .dct ks l,_,h=>by
   obtain⟨a,vs,e,h1,h3,h2⟩:=h
   refine⟨a,vs,e,⟨h1.1,λz=>z.elim h1.2 λz=>?_⟩,h3,aU.join hp l h2⟩
   rw[<-z,h1.1]at hp;cases hp
 | .ins C ks l,_,h=>by
   obtain⟨a,dx,vs,e,h1,h3,h2⟩:=h
   exact⟨a,dx,vs,e,h1,h3,aU.join hp l h2⟩
 | .tu l,_,h=>h
theorem aU.join {p:Addr}(hp:H p=none):∀(l:List D) {vs:List V},aU O K H l vs->aU (λa=>O a\/a=p) K H l vs
 |[],_,h=>h
 |d::l,_,h=>by
  obtain⟨v,r,e,h1,h2⟩:=h
  exact⟨v,r,e,Rep.join hp d h1,aU.join hp l h2⟩
end
theorem aU.length:∀{l:List D}{vs:List V},aU O K H l vs->l.length=vs.length
 |[],_,h=>by subst h;rfl
 |d::l,_,h=>by
  obtain⟨v,r,rfl,_,h2⟩:=h
  simp[aU.length h2]
theorem aU.get:∀{l:List D}{vs:List V}{i:Nat}{d:D},aU O K H l vs->l[i]?=some d->∃v,vs[i]?=some v/\Rep O K H d v
 |[],_,_,_,_,e=>by simp at e
 |d::l,_,0,_,h,e=>by
  obtain⟨v,r,rfl,h1,h2⟩:=h
  simp at e;subst e
  exact⟨v,rfl,h1⟩
 |d::l,_,i+1,_,h,e=>by
  obtain⟨v,r,rfl,h1,h2⟩:=h
  obtain⟨w,a,b⟩:=aU.get (i:=i) h2 (by simpa using e)
  exact⟨w,by simpa using a,b⟩
theorem aU.MN:∀{l:List D}{vs:List V}{i:Nat}{v:V},aU O K H l vs->vs[i]?=some v->∃d,l[i]?=some d/\Rep O K H d v
 |[],_,_,_,h,e=>by subst h;simp at e
 |d::l,_,0,_,h,e=>by
  obtain⟨v,r,rfl,h1,h2⟩:=h
  simp at e;subst e
  exact⟨d,rfl,h1⟩
 |d::l,_,i+1,_,h,e=>by
  obtain⟨v,r,rfl,h1,h2⟩:=h
  obtain⟨w,a,b⟩:=aU.MN (i:=i) h2 (by simpa using e)
  exact⟨w,by simpa using a,b⟩
theorem aU.append:∀{l l':List D}{vs vs':List V},aU O K H l vs->aU O K H l' vs'->aU O K H (l++l') (vs++vs')
 |[],_,_,_,h,h'=>by subst h;exact h'
 |d::l,_,_,_,h,h'=>by
  obtain⟨v,r,rfl,h1,h2⟩:=h
  exact⟨v,_,rfl,h1,aU.append h2 h'⟩
theorem aU.one {d:D}{v:V}(h:Rep O K H d v):aU O K H [d] [v]:=⟨v,[],rfl,h,rfl⟩
theorem aU.take:∀{l:List D}{vs:List V} (n:Nat),aU O K H l vs->aU O K H (l.take n) (vs.take n)
 |[],_,n,h=>by subst h;simp[aU]
 |d::l,_,0,h=>by simp[aU]
 |d::l,_,n+1,h=>by
  obtain⟨v,r,rfl,h1,h2⟩:=h
  exact⟨v,_,rfl,h1,aU.take n h2⟩
theorem aU.drop:∀{l:List D}{vs:List V} (n:Nat),aU O K H l vs->aU O K H (l.drop n) (vs.drop n)
 |[],_,n,h=>by subst h;simp[aU]
 |d::l,_,0,h=>h
 |d::l,_,n+1,h=>by
  obtain⟨v,r,rfl,h1,h2⟩:=h
  exact aU.drop n h2
theorem aU.set:∀{l:List D}{vs:List V}{d:D}{v:V} (i:Nat),aU O K H l vs->Rep O K H d v->aU O K H (l.set i d) (vs.set i v)
 |[],_,_,_,i,h,_=>by subst h;simp[aU]
 |d::l,_,_,_,0,h,h'=>by
  obtain⟨v,r,rfl,h1,h2⟩:=h
  exact⟨_,_,rfl,h',h2⟩
 |d::l,_,_,_,i+1,h,h'=>by
  obtain⟨v,r,rfl,h1,h2⟩:=h
  exact⟨v,_,rfl,h1,aU.set i h2 h'⟩
theorem aU.reverse:∀{l:List D}{vs:List V},aU O K H l vs->aU O K H l.reverse vs.reverse
 |[],_,h=>by subst h;simp[aU]
 |d::l,_,h=>by
  obtain⟨v,r,rfl,h1,h2⟩:=h
  rw[List.reverse_cons,List.reverse_cons]
  exact aU.append (aU.reverse h2) (aU.one h1)
theorem aU.rep {l:List D}{vs:List V}(h:aU O K H l vs):∀k:Nat,aU O K H (List.replicate k l).flatten (List.replicate k vs).flatten
 |0=>by simp[aU]
 |k+1=>by
  rw[List.replicate_succ,List.replicate_succ,List.flatten_cons,List.flatten_cons]
  exact aU.append h (aU.rep h k)
theorem aU.yD {l:List D}{vs:List V}{i:Int}{d:D}(h:aU O K H l vs)(e:L2.yD l i=some d):∃v,L2.yD vs i=some v/\Rep O K H d v:=by
 unfold L2.yD at e ⊢
 rw[h.length]at e
 cases q:Kr vs.length i with
 |none=>rw[q]at e;cases e
 |some j=>
  rw[q]at e
  obtain⟨v,a,b⟩:=h.get (i:=j) e
  exact⟨v,a,b⟩
end
noncomputable abbrev aH:=List (Option D)
noncomputable def lZ (O:Addr->Prop)(K:Fg)(H:Hp)(σ:L2.St)(ρ:aH):Prop:=∀(i:Nat) (d:D),ρ[i]?=some (some d)->∃v,σ[i]?=some (some v)/\Rep O K H d v
theorem lZ.mono {O:Addr->Prop}{K:Fg}{H H':Hp}{σ:L2.St}{ρ:aH}(hs:bN H H')(h:lZ O K H σ ρ):lZ O K H' σ ρ:=λi d e=>
 let⟨v,a,b⟩:=h i d e
 ⟨v,a,b.mono hs⟩
noncomputable def at? (ρ:aH)(i:Nat):Option D:=match ρ[i]? with
 |some (some d)=>some d
 |_=>none
theorem Ot {ρ:aH}{i:Nat}{d:D}(h:at? ρ i=some d):ρ[i]?=some (some d):=by
 unfold at? at h
 split at h
 ·rename_i e;cases h;exact e
 ·cases h
noncomputable def Within (O:Addr->Prop)(H:Hp):Prop:=∀a,O a->H a≠none
theorem Within.mono {O:Addr->Prop}{H H':Hp}(hs:bN H H')(h:Within O H):Within O H':=λa z e=>by
 cases q:H a with
 |none=>exact h a z q
 |some u=>rw[hs a u q]at e;cases e
theorem Within.new {O:Addr->Prop}{H:Hp}{p:Addr}(h:Within O H)(hp:H p=none):¬O p:=λz=>h p z hp
noncomputable def tD (K:Fg)(F:aH->Option D):TE:=λσ H Q=>∃(O:Addr->Prop) (ρ:aH) (d:D),Within O H/\lZ O K H σ ρ/\F ρ=some d/\∀v H',bN H H'->Rep O K H' d v->Q v H'
structure ED (X:Cx)(e:Expr)(F:aH->Option D):Prop where
 mk::(h:PE X e (tD X.K F))
noncomputable def tDs (K:Fg)(F:aH->Option (List D)):TA:=λσ H Q=>∃(O:Addr->Prop) (ρ:aH) (l:List D),Within O H/\lZ O K H σ ρ/\F ρ=some l/\∀vs H',bN H H'->aU O K H' l vs->Q vs H'
structure Dr (X:Cx)(es:List Expr)(F:aH->Option (List D)):Prop where
 mk::(h:PA X es (tDs X.K F))
noncomputable def JN (K:Fg)(F:aH->Option Bool):TT:=λσ H Q=>∃(O:Addr->Prop) (ρ:aH) (b:Bool),Within O H/\lZ O K H σ ρ/\F ρ=some b/\∀H',bN H H'->Q b H'
structure Od (X:Cx)(e:Expr)(F:aH->Option Bool):Prop where
 mk::(h:PT X e (JN X.K F))
theorem _root_.L2.PE.imp {X:Cx}{e:Expr}{t t':TE}(h:PE X e t)(k:∀σ H Q,t' σ H Q->t σ H Q):PE X e t':=λpins s σ H Q I q=>h pins s σ H Q I (k σ H Q q)
theorem _root_.L2.PT.imp {X:Cx}{e:Expr}{t t':TT}(h:PT X e t)(k:∀σ H Q,t' σ H Q->t σ H Q):PT X e t':=λpins s σ H Q I q=>h pins s σ H Q I (k σ H Q q)
theorem _root_.L2.PA.imp {X:Cx}{es:List Expr}{t t':TA}(h:PA X es t)(k:∀σ H Q,t' σ H Q->t σ H Q):PA X es t':=λpos pins s σ H Q I q=>h pos pins s σ H Q I (k σ H Q q)
theorem bind_some {α β:Type}{o:Option α}{f:α->Option β}{b:β}(h:o.bind f=some b):∃a,o=some a/\f a=some b:=by
 cases o with
 |none=>cases h
 |some a=>exact⟨a,rfl,h⟩
section
variable {X:Cx}{a b c:Expr}{Fa Fb Fc:aH->Option D}{pos:Pos}
theorem ao (i:Nat){x:Str}(h:PE X (.Name x pos) (Ba i):=by exact pv _):ED X (.Name x pos) (λρ=>at? ρ i):= .mk<|h.imp λσ H Q ⟨O,ρ,d,w,r,e,q⟩=>by
 obtain⟨v,e1,e2⟩:=r i d (Ot e)
 exact⟨v,e1,q v H (bN.refl H) e2⟩
theorem zF {e:Expr}{v:V}{d:D}(h:PE X e (tC v))(r:∀O K H,Rep O K H d v):ED X e (λ_=>some d):= .mk<|h.imp λσ H Q ⟨O,ρ,d',w,rr,e1,q⟩=>by
 cases e1
 exact q v H (bN.refl H) (r O X.K H)
theorem az {i j}:ED X (.Constant (.int i) j pos) (λ_=>some (.int i)):=zF Xi λ_ _ _=>rfl
theorem Gp {i j}:ED X (.Constant (.bool i) j pos) (λ_=>some (.bl i)):=zF Zq λ_ _ _=>rfl
theorem bf {i j}:ED X (.Constant (.str i) j pos) (λ_=>some (.str i)):=zF Xk λ_ _ _=>rfl
noncomputable def Du (K:Fg)(r:R2)(g:D->D->Option D):Prop:=∀(O:Addr->Prop) (H:Hp) (x y:V) (dx dy d:D) (Q:VK),Within O H->Rep O K H dx x->Rep O K H dy y->g dx dy=some d->
 (∀v H',bN H H'->Rep O K H' d v->Q v H')->r x y H Q
theorem J5 {t:TE->TE->TE}{r:R2}{g:D->D->Option D}{e:Expr}(h:PE X e (tOp r (tD X.K Fa) (tD X.K Fb)))(ho:Du X.K r g):ED X e (λρ=>(Fa ρ).bind λx=>(Fb ρ).bind λy=>g x y):= .mk<|h.imp λσ H Q ⟨O,ρ,d,w,r,e,q⟩=>by
 obtain⟨dx,e1,e⟩:=bind_some e
 obtain⟨dy,e2,e⟩:=bind_some e
 refine⟨O,ρ,dx,w,r,e1,λx H1 s1 r1=>?_⟩
 refine⟨O,ρ,dy,w.mono s1,r.mono s1,e2,λy H2 s2 r2=>?_⟩
 exact ho O H2 x y dx dy d Q ((w.mono s1).mono s2) (r1.mono s2) r2 e λv H' s3 r3=>q v H' ((s1.trans s2).trans s3) r3
theorem aK {op:Operator}{r:R2}{g:D->D->Option D}(ho:tY X (binaryOp op) r)(hg:Du X.K r g)(ha:ED X a Fa)(hb:ED X b Fb):ED X (.BinOp a op b pos) (λρ=>(Fa ρ).bind λx=>(Fb ρ).bind λy=>g x y):=have ha:=ha.1;have hb:=hb.1;J5 (t:=λ_ u=>u) (Zt ho ha hb) hg
theorem uv {op:CmpOp}{r:R2}{g:D->D->Option D}(ho:tY X (compareOp op) r)(hg:Du X.K r g)(ha:ED X a Fa)(hb:ED X b Fb)(hm:behindInMarks op b=false:=by exact Js _):ED X (.Compare a [op] [b] pos) (λρ=>(Fa ρ).bind λx=>(Fb ρ).bind λy=>g x y):=have ha:=ha.1;have hb:=hb.1;J5 (t:=λ_ u=>u) (KJ ho ha hb hm) hg
theorem YF {r:R2}{g:D->D->Option D}(ho:Rx X r)(hg:Du X.K r g)(ha:ED X a Fa)(hb:ED X b Fb)(hs:Dt b):ED X (.Subscript a b pos) (λρ=>(Fa ρ).bind λx=>(Fb ρ).bind λy=>g x y):=have ha:=ha.1;have hb:=hb.1;J5 (t:=λ_ u=>u) (Zr ho ha hb hs) hg
noncomputable def Dv:D->Option Bool
 | .bl b=>some b
 |_=>none
theorem Dw {d:D}{b:Bool}(h:Dv d=some b):d= .bl b:=by
 cases d<;>simp[Dv]at h
 rw[h]
theorem bH {op:CmpOp}{r:R2}{g:D->D->Option D}(ho:tY X (compareOp op) r)(hg:Du X.K r g)(ha:ED X a Fa)(hb:ED X b Fb)(hm:behindInMarks op b=false:=by exact Js _):Od X (.Compare a [op] [b] pos) (λρ=>(Fa ρ).bind λx=>(Fb ρ).bind λy=>(g x y).bind Dv):=have ha:=ha.1;have hb:=hb.1; .mk<|(Uo ho ha hb hm).imp λσ H Q ⟨O,ρ,d,w,r,e,q⟩=>by
 obtain⟨dx,e1,e⟩:=bind_some e
 obtain⟨dy,e2,e⟩:=bind_some e
 obtain⟨dz,e3,e⟩:=bind_some e
 refine⟨O,ρ,dx,w,r,e1,λx H1 s1 r1=>?_⟩
 refine⟨O,ρ,dy,w.mono s1,r.mono s1,e2,λy H2 s2 r2=>?_⟩
 refine hg O H2 x y dx dy dz _ ((w.mono s1).mono s2) (r1.mono s2) r2 e3 λv H' s3 r3=>?_
 rw[Dw e]at r3
 exact⟨d,r3,q H' ((s1.trans s2).trans s3)⟩
variable {Ta Tb Tc:aH->Option Bool}{rest:List Expr}
theorem zH (ha:Od X a Ta):PW X (.BoolOp .And [a] pos) (JN X.K Ta):=have ha:=ha.1;Up ha
theorem qg (ha:Od X a Ta):PW X (.BoolOp .Or [a] pos) (JN X.K Ta):=have ha:=ha.1;Xx ha
theorem _root_.L2.PW.imp {X:Cx}{e:Expr}{t t':TT}(h:PW X e t)(k:∀σ H Q,t' σ H Q->t σ H Q):PW X e t':=λwh pins s σ H Q I q=>h wh pins s σ H Q I (k σ H Q q)
theorem DX (ha:Od X a Ta)(hb:PW X (.BoolOp .And (b::rest) pos) (JN X.K Tb)):PW X (.BoolOp .And (a::b::rest) pos) (JN X.K λρ=>(Ta ρ).bind λx=>if x=true then Tb ρ else some false):=have ha:=ha.1;(Xw ha hb).imp λσ H Q ⟨O,ρ,d,w,r,e,q⟩=>by
 obtain⟨x,e1,e⟩:=bind_some e
 refine⟨O,ρ,x,w,r,e1,λH1 s1=>?_⟩
 cases x with
 |true=>exact Ji ⟨O,ρ,d,w.mono s1,r.mono s1,e,λH2 s2=>q H2 (s1.trans s2)⟩
 |false=>cases e;exact Jh (q H1 s1)
theorem uw (ha:Od X a Ta)(hb:PW X (.BoolOp .Or (b::rest) pos) (JN X.K Tb)):PW X (.BoolOp .Or (a::b::rest) pos) (JN X.K λρ=>(Ta ρ).bind λx=>if x=true then some true else Tb ρ):=have ha:=ha.1;(Zz ha hb).imp λσ H Q ⟨O,ρ,d,w,r,e,q⟩=>by
 obtain⟨x,e1,e⟩:=bind_some e
 refine⟨O,ρ,x,w,r,e1,λH1 s1=>?_⟩
 cases x with
 |true=>cases e;exact Ji (q H1 s1)
 |false=>exact Jh ⟨O,ρ,d,w.mono s1,r.mono s1,e,λH2 s2=>q H2 (s1.trans s2)⟩
theorem u5 (h:PW X a (JN X.K Ta)):Od X a Ta:= .mk<|h.pt
theorem qe (ha:Od X a Ta):Od X (.UnaryOp .Not a pos) (λρ=>(Ta ρ).map λx=>!x):=have ha:=ha.1; .mk<|(Xu ha).imp λσ H Q ⟨O,ρ,d,w,r,e,q⟩=>by
 dsimp only at e
 cases e1:Ta ρ with
 |none=>rw[e1]at e;cases e
 |some x=>
  rw[e1]at e
  cases e
  exact⟨O,ρ,x,w,r,e1,λH1 s1=>q H1 s1⟩
theorem mY (ha:ED X a Fa)(he:∀whole,isTrue a X.env whole=(do let v<-whole;standAt a.pos;holding [v] (truthy v)):=by intro _;rfl):Od X a (λρ=>(Fa ρ).bind Dv):=have ha:=ha.1; .mk<|(Xv ha he).imp λσ H Q ⟨O,ρ,d,w,r,e,q⟩=>by
 obtain⟨x,e1,e⟩:=bind_some e
 refine⟨O,ρ,x,w,r,e1,λv H1 s1 r1=>?_⟩
 rw[Dw e]at r1
 exact⟨d,r1,q H1 s1⟩
theorem DW {op}(ha:ED X a Fa):ED X (.BoolOp op [a] pos) Fa:=have ha:=ha.1; .mk<|Xj ha
theorem DP (ha:ED X a Fa)(hb:ED X (.BoolOp .And (b::rest) pos) Fb):ED X (.BoolOp .And (a::b::rest) pos) (λρ=>(Fa ρ).bind λx=>(Dv x).bind λy=>if y=true then Fb ρ else some (.bl false)):=have ha:=ha.1;have hb:=hb.1; .mk<|(Xe ha hb).imp λσ H Q ⟨O,ρ,d,w,r,e,q⟩=>by
 obtain⟨x,e1,e⟩:=bind_some e
 obtain⟨y,e2,e⟩:=bind_some e
 refine⟨O,ρ,x,w,r,e1,λv H1 s1 r1=>?_⟩
 rw[Dw e2]at r1
 refine⟨y,r1,?_⟩
 cases y with
 |true=>exact Ji ⟨O,ρ,d,w.mono s1,r.mono s1,e,λv H2 s2=>q v H2 (s1.trans s2)⟩
 |false=>cases e;exact Jh (q _ H1 s1 rfl)
theorem YG (ha:ED X a Fa)(hb:ED X (.BoolOp .Or (b::rest) pos) Fb):ED X (.BoolOp .Or (a::b::rest) pos) (λρ=>(Fa ρ).bind λx=>(Dv x).bind λy=>if y=true then some (.bl true)else Fb ρ):=have ha:=ha.1;have hb:=hb.1; .mk<|(Zu ha hb).imp λσ H Q ⟨O,ρ,d,w,r,e,q⟩=>by
 obtain⟨x,e1,e⟩:=bind_some e
 obtain⟨y,e2,e⟩:=bind_some e
 refine⟨O,ρ,x,w,r,e1,λv H1 s1 r1=>?_⟩
 rw[Dw e2]at r1
 refine⟨y,r1,?_⟩
 cases y with
 |true=>cases e;exact Ji (q _ H1 s1 rfl)
 |false=>exact Jh ⟨O,ρ,d,w.mono s1,r.mono s1,e,λv H2 s2=>q v H2 (s1.trans s2)⟩
theorem Pq (hc:Od X c Tc)(ha:ED X a Fa)(hb:ED X b Fb):ED X (.IfExp c a b pos) (λρ=>(Tc ρ).bind λx=>if x=true then Fa ρ else Fb ρ):=have hc:=hc.1;have ha:=ha.1;have hb:=hb.1; .mk<|(Qy hc ha hb).imp λσ H Q ⟨O,ρ,d,w,r,e,q⟩=>by
 obtain⟨x,e1,e⟩:=bind_some e
 refine⟨O,ρ,x,w,r,e1,λH1 s1=>?_⟩
 cases x with
 |true=>exact Ji ⟨O,ρ,d,w.mono s1,r.mono s1,e,λv H2 s2=>q v H2 (s1.trans s2)⟩
 |false=>exact Jh ⟨O,ρ,d,w.mono s1,r.mono s1,e,λv H2 s2=>q v H2 (s1.trans s2)⟩
variable {es:List Expr}{Fs:aH->Option (List D)}
theorem au:Dr X [] (λ_=>some []):= .mk<|PA.imp oZ λσ H Q ⟨O,ρ,l,w,r,e,q⟩=>by
 cases e
 exact q [] H (bN.refl H) rfl
theorem ak (ha:ED X a Fa)(hr:Dr X es Fs)(hs:starEach (a::es) X.env=(false,eval a X.env)::starEach es X.env:=by rfl):Dr X (a::es) (λρ=>(Fa ρ).bind λx=>(Fs ρ).map λl=>x::l):=have ha:=ha.1;have hr:=hr.1; .mk<|PA.imp (jo ha hr hs) λσ H Q ⟨O,ρ,l,w,r,e,q⟩=>by
 obtain⟨x,e1,e⟩:=bind_some e
 cases e2:Fs ρ with
 |none=>rw[e2]at e;cases e
 |some l'=>
  rw[e2]at e
  cases e
  exact⟨O,ρ,x,w,r,e1,λv H1 s1 r1=>⟨O,ρ,l',w.mono s1,r.mono s1,e2,λvs H2 s2 r2=>q (v::vs) H2 (s1.trans s2) ⟨v,vs,rfl,r1.mono s2,r2⟩⟩⟩
theorem bT {H:Hp}{p:Addr}{o:HO}(h:H p=none):bN H (upd H p o):=λb u q=>by rw[bM (cO q h)];exact q
noncomputable def CW (l:List D):Option D:=if l.length<=sizeLine then some (.tup l)else none
noncomputable def oK (l:List D):Option D:=if l.length<=sizeLine then some (.lst l)else none
theorem Ql {l:List D}{d:D}(h:CW l=some d):l.length<=sizeLine/\d= .tup l:=by
 unfold CW at h
 split at h
 ·cases h;exact⟨by assumption,rfl⟩
 ·cases h
theorem Qk {l:List D}{d:D}(h:oK l=some d):l.length<=sizeLine/\d= .lst l:=by
 unfold oK at h
 split at h
 ·cases h;exact⟨by assumption,rfl⟩
 ·cases h
theorem oO {O:Addr->Prop}{K:Fg}{H:Hp}{p:Addr}{l:List D}{vs:List V}(hp:H p=none)(h:aU O K H l vs):Rep O K (upd H p (.tup vs)) (.tup l) (.ref p):=
 ⟨p,vs,rfl,uN.of cM,h.mono (bT hp)⟩
theorem vA {O:Addr->Prop}{K:Fg}{H:Hp}{p:Addr}{l:List D}{vs:List V}(w:Within O H)(hp:H p=none)(h:aU O K H l vs):Rep O K (upd H p (.lst vs)) (.lst l) (.ref p):=
 ⟨p,vs,rfl,⟨cM,w.new hp⟩,h.mono (bT hp)⟩
theorem dm {k}(h:Dr X es Fs):ED X (.Tuple es k pos) (λρ=>(Fs ρ).bind CW):=have h:=h.1; .mk<|(Xl h).imp λσ H Q ⟨O,ρ,d,w,r,e,q⟩=>by
 obtain⟨l,e1,e⟩:=bind_some e
 obtain⟨z,rfl⟩:=Ql e
 exact⟨O,ρ,l,w,r,e1,λvs H1 s1 r1=>⟨by rw[<-r1.length];exact z,λp hp=>q _ _ (s1.trans (bT hp)) (oO hp r1)⟩⟩
theorem gr (h:Dr X es Fs):ED X (.List es pos) (λρ=>(Fs ρ).bind oK):=have h:=h.1; .mk<|(Qz h).imp λσ H Q ⟨O,ρ,d,w,r,e,q⟩=>by
 obtain⟨l,e1,e⟩:=bind_some e
 obtain⟨z,rfl⟩:=Qk e
 exact⟨O,ρ,l,w,r,e1,λvs H1 s1 r1=>⟨by rw[<-r1.length];exact z,λp hp=>q _ _ (s1.trans (bT hp)) (vA (w.mono s1) hp r1)⟩⟩
end
section
variable {X:Cx}
noncomputable def Vq (K:Fg):R2:=λx y H Q=>∃a b ys,x= .ref a/\y= .ref b/\uN K H a []/\uN K H b ys/\Q (.ref b) H
theorem U5:tY X (binaryOp .Add) (Vq X.K):=by
 intro pins s σ H x y v u Q I rx ry h
 obtain⟨a,b,ys,rfl,rfl,ha,hb,q⟩:=h
 cases rx
 cases ry
 obtain⟨its,r1,p1,_⟩:=I.tuple ha
 obtain⟨its2,r2,p2,_⟩:=I.tuple hb
 cases r1
 obtain⟨⟨cls,dd,data,sl⟩,ho,hc,n,hd⟩:=id p1
 obtain⟨⟨cls2,dd2,data2,sl2⟩,ho2,hc2,n2,hd2⟩:=id p2
 simp only at hc hd hc2 hd2
 subst hc hd hc2 hd2
 exact concat_meets ⟨_,ho,rfl⟩ ⟨_,ho2,rfl⟩ noFill_tuple_add seq_tuple_add PySem.F.slot_tuple_add PySem.F.entry_tuple_add (PySem.F.args_tuple_add_2 _ _)
  (tuple_addW0 a b _ _ n n2 dd dd2 sl sl2 (by simp)) ⟨ho,ho2,⟨.ref b,H,I,rfl,q⟩⟩
noncomputable def Vp (K:Fg):R2:=λx y H Q=>(Ur λi j=> .int (i+j)) x y H Q\/(∃i j,x= .str i/\y= .str j/\i.length+j.length<=sizeLine/\Q (.str (i++j)) H)\/ZC x y H Q\/Vr K x y H Q\/Vq K x y H Q
theorem aX:tY X (binaryOp .Add) (Vp X.K):=Xa.or (Jy.or (Xb.or (U6.or U5)))
noncomputable def aP:D->D->Option D
 | .int a,.int b=>some (.int (a+b))
 | .str a,.str b=>if a.length+b.length<=sizeLine then some (.str (a++b))else none
 | .tup a,.tup b=>if a.length+b.length<=sizeLine then some (.tup (a++b))else none
 | .lst a,.lst b=>if a.length+b.length<=sizeLine then some (.lst (a++b))else none
 |_,_=>none
theorem mV {α:Type}{c:Prop} [Decidable c]{a b:α}(h:(if c then some a else none)=some b):c/\a=b:=by
 split at h
 ·cases h;exact⟨by assumption,rfl⟩
 ·cases h
theorem aU.qw {O:Addr->Prop}{K:Fg}{H:Hp}{l:List D}{vs:List V}(h:aU O K H l vs):l=[]↔vs=[]:=by
 have:=h.length
 constructor
 ·rintro rfl;exact List.eq_nil_of_length_eq_zero this.symm
 ·rintro rfl;exact List.eq_nil_of_length_eq_zero this
theorem aY {K:Fg}:Du K (Vp K) aP:=by
 intro O H x y dx dy d Q w rx ry e q
 cases dx<;>cases dy<;>simp only[aP]at e<;>try (cases e;done)
 case int.int i j=>
  cases rx;cases ry;cases e
  exact .inl ⟨i,j,rfl,rfl,q _ H (bN.refl H) rfl⟩
 case str.str i j=>
  cases rx;cases ry
  obtain⟨z,rfl⟩:=mV e
  exact .inr (.inl ⟨i,j,rfl,rfl,z,q _ H (bN.refl H) rfl⟩)
 case tup.tup l m=>
  obtain⟨a,vs,rfl,h1,h2⟩:=rx
  obtain⟨b,us,rfl,h3,h4⟩:=ry
  obtain⟨z,rfl⟩:=mV e
  by_cases hl:l=[]
  ·subst hl
   cases h2
   exact .inr (.inr (.inr (.inr ⟨a,b,us,rfl,rfl,h1,h3,q _ H (bN.refl H) ⟨b,us,rfl,h3,h4⟩⟩)))
  ·refine .inr (.inr (.inr (.inl ⟨a,b,vs,us,rfl,rfl,h1,h3,λz=>hl (h2.qw.mpr z),by rw[<-h2.length,<-h4.length];exact z,λz=>?_,λz p hp=>?_⟩)))
   ·have:m=[]:=h4.qw.mpr z
    subst this
    rw[List.append_nil]at q
    exact q _ H (bN.refl H) ⟨a,vs,rfl,h1,h2⟩
   ·exact q _ _ (bT hp) (oO hp (h2.append h4))
 case lst.lst l m=>
  obtain⟨a,vs,rfl,h1,h2⟩:=rx
  obtain⟨b,us,rfl,h3,h4⟩:=ry
  obtain⟨z,rfl⟩:=mV e
  exact .inr (.inr (.inl ⟨a,b,vs,us,rfl,rfl,h1.1,h3.1,by rw[<-h2.length,<-h4.length];exact z,λp hp=>q _ _ (bT hp) (vA w hp (h2.append h4))⟩))
noncomputable def kE:D->D->Option D
 | .int a,.int b=>some (.int (a - b))
 |_,_=>none
theorem nj {K:Fg}:Du K (Ur λi j=> .int (i - j)) kE:=by
 intro O H x y dx dy d Q w rx ry e q
 cases dx<;>cases dy<;>simp only[kE]at e<;>try (cases e;done)
 cases rx;cases ry;cases e
 exact⟨_,_,rfl,rfl,q _ H (bN.refl H) rfl⟩
noncomputable def cQ:D->D->Option D
 | .int a,.int b=>if(-(2 ^ 64)<a/\a<2 ^ 64)\/(-(2 ^ 64)<b/\b<2 ^ 64)then some (.int (a*b))else none
 | .lst l,.int k=>if(-(2 ^ 63)<=k/\k<2 ^ 63)/\l.length*k.toNat<=sizeLine then some (.lst (List.replicate k.toNat l).flatten)else none
 |_,_=>none
noncomputable def Vv:R2:=λx y H Q=>(rI RM λi j=> .int (i*j)) x y H Q\/ZK x y H Q
theorem cY:tY X (binaryOp .Mult) Vv:=Xc.or Xd
theorem dh {K:Fg}:Du K Vv cQ:=by
 intro O H x y dx dy d Q w rx ry e q
 cases dx<;>cases dy<;>simp only[cQ]at e<;>try (cases e;done)
 case int.int i j=>
  cases rx;cases ry
  obtain⟨z,rfl⟩:=mV e
  exact .inl ⟨_,_,rfl,rfl,z,q _ H (bN.refl H) rfl⟩
 case lst.int l k=>
  obtain⟨a,vs,rfl,h1,h2⟩:=rx
  cases ry
  obtain⟨⟨⟨z1,z2⟩,z3⟩,rfl⟩:=mV e
  exact .inr ⟨a,k,vs,rfl,rfl,h1.1,z1,z2,by rw[<-h2.length];exact z3,λp hp=>q _ _ (bT hp) (vA w hp (h2.rep _))⟩
noncomputable def cj:D->D->Option D
 | .int a,.int b=>if 0<b then some (.int (a % b))else none
 |_,_=>none
theorem bY {K:Fg}:Du K (rI (λ_ j=>0<j) λi j=> .int (i % j)) cj:=by
 intro O H x y dx dy d Q w rx ry e q
 cases dx<;>cases dy<;>simp only[cj]at e<;>try (cases e;done)
 cases rx;cases ry
 obtain⟨z,rfl⟩:=mV e
 exact⟨_,_,rfl,rfl,z,q _ H (bN.refl H) rfl⟩
noncomputable def gA:D->D->Option D
 | .int a,.int b=>if 0<b/\b<1073741824 then some (.int (a/b))else none
 |_,_=>none
theorem fP {K:Fg}:Du K (rI Yg λi j=> .int (i/j)) gA:=by
 intro O H x y dx dy d Q w rx ry e q
 cases dx<;>cases dy<;>simp only[gA]at e<;>try (cases e;done)
 cases rx;cases ry
 obtain⟨z,rfl⟩:=mV e
 exact⟨_,_,rfl,rfl,z,q _ H (bN.refl H) rfl⟩
noncomputable def mX (p:Int->Int->Bool):D->D->Option D
 | .int a,.int b=>some (.bl (p a b))
 |_,_=>none
theorem ni {K:Fg}{p:Int->Int->Bool}:Du K (Ur λi j=> .bl (p i j)) (mX p):=by
 intro O H x y dx dy d Q w rx ry e q
 cases dx<;>cases dy<;>simp only[mX]at e<;>try (cases e;done)
 cases rx;cases ry;cases e
 exact⟨_,_,rfl,rfl,q _ H (bN.refl H) rfl⟩
noncomputable def Ve:D->D->Option D
 | .tup l,.int i=>yD l i
 | .lst l,.int i=>yD l i
 | .tu l,.int i=>(yD l i).map .int
 | .str x,.int i=>if x.length<=sizeLine then(yD x.cps.toList i).map λc=> .str ⟨#[c]⟩else none
 |_,_=>none
theorem RX {α β:Type}{f:α->β}{l:List α}{i:Int}:yD (l.map f) i=(yD l i).map f:=by
 unfold yD
 rw[List.length_map]
 cases Kr l.length i with
 |none=>rfl
 |some j=>simp[List.getElem?_map]
theorem XD {K:Fg}:Du K (rIx K) Ve:=by
 intro O H x y dx dy d Q w rx ry e q
 cases dx<;>cases dy<;>simp only[Ve]at e<;>try (cases e;done)
 case tup.int l i=>
  obtain⟨a,vs,rfl,h1,h2⟩:=rx
  cases ry
  obtain⟨v,e1,r1⟩:=h2.yD e
  exact .inr (.inl ⟨a,vs,i,v,rfl,rfl,h1,e1,q v H (bN.refl H) r1⟩)
 case lst.int l i=>
  obtain⟨a,vs,rfl,h1,h2⟩:=rx
  cases ry
  obtain⟨v,e1,r1⟩:=h2.yD e
  exact .inl ⟨a,vs,i,v,rfl,rfl,oF.of h1.1,e1,q v H (bN.refl H) r1⟩
 case tu.int l i=>
  obtain⟨a,rfl,h1⟩:=rx
  cases ry
  cases e1:yD l i with
  |none=>rw[e1]at e;cases e
  |some n=>
   rw[e1]at e
   cases e
   exact .inl ⟨a,_,i,.int n,rfl,rfl,h1.sq,by rw[RX,e1];rfl,q _ H (bN.refl H) rfl⟩
 case str.int z i=>
  cases rx;cases ry
  split at e
  ·cases e1:yD z.cps.toList i with
   |none=>rw[e1]at e;cases e
   |some c=>
    rw[e1]at e
    cases e
    exact .inr (.inr ⟨z,i,c,rfl,rfl,by assumption,e1,q _ H (bN.refl H) rfl⟩)
  ·cases e
noncomputable def cutD (l:List D)(lo hi:Option Int):List D:=(l.drop (HT.jh l.length 0 lo)).take (HT.jh l.length l.length hi - HT.jh l.length 0 lo)
theorem aU.cut {O:Addr->Prop}{K:Fg}{H:Hp}{l:List D}{vs:List V}(h:aU O K H l vs)(lo hi:Option Int):aU O K H (cutD l lo hi) (Ge vs lo hi):=by
 unfold cutD Ge
 rw[h.length]
 exact(h.drop _).take _
end
section
variable {prog:Program}{w:World}{A:Around}{R:Result->Shared->Prop}{s:Shared}
theorem Ng {elt target iter:Expr}{ifs:List Expr}{scope:Scope}{pos:Pos}{it acc:Value}{env:Env}(I:Nat->Shared->Prop)
 (turn:∀n s,I n s->wpAny (model prog w) A (pyNext it) (λr s₁=>match r with
  |none=>R (.ok .next) s₁
  |some v=>wpAny (model prog w) A (letOwnedTupleGo target it v) (λ_ s₂=>wpAny (model prog w) A (assign target env v) (λ_ s₃=>
   wpAny (model prog w) A (forIn ifs true λc r=>if r=true then do let ok<-isTrue c env (eval c env);pure (ForInStep.yield ok)else pure (ForInStep.yield r)) (λok s₄=>
    if ok=true then wpAny (model prog w) A (eval elt env) (λx s₅=>
     wpAny (model prog w) A (call (.builtin "list.append") [acc,x]) (λ_ s₆=>∃m,m<n/\I m s₆) (notedBy (model prog w) A env λe s'=>R (.error e) s') s₅) (notedBy (model prog w) A env λe s'=>R (.error e) s') s₄
    else ∃m,m<n/\I m s₄) (notedBy (model prog w) A env λe s'=>R (.error e) s') s₃) (notedBy (model prog w) A env λe s'=>R (.error e) s') s₂) (notedBy (model prog w) A env λe s'=>R (.error e) s') s₁) (notedBy (model prog w) A env λe s'=>R (.error e) s') s)
 (n:Nat)(h:I n s):
 codeAny (model prog w) A (.compLoop (.ListComp elt [⟨target,iter,ifs,0⟩] scope pos) 0 it acc env) R s:=by
 refine codeAny_loop rfl I (λn s hI=>?_) n h
 show wpAny _ A ((compTurn (.ListComp elt [⟨target,iter,ifs,0⟩] scope pos) 0 it acc env).onRaise (λx=>do noteFrame x env;theTreesLotGoes x)) _ _ s
 refine wpAny_noted ?_
 rw[compTurn_list]
 refine wpAny_bind (wpAny_standAt (wpAny_bind (wpAny_mono (turn n s hI) (λr s₁ h₁=>?_) λ_ _ h'=>h')))
 cases r with
 |none=>exact wpAny_pure h₁
 |some v=>
  refine wpAny_bind (wpAny_mono h₁ (λ_ s₂ h₂=>?_) λ_ _ h'=>h')
  refine wpAny_bind (wpAny_mono h₂ (λ_ s₃ h₃=>wpAny_bind (wpAny_mono h₃ (λok s₄ h₄=>?_) λ_ _ h'=>h')) λ_ _ h'=>h')
  cases ok with
  |false=>exact wpAny_pure ⟨rfl,h₄⟩
  |true=>
   exact wpAny_bind (wpAny_bind (wpAny_mono h₄ (λx s₅ h₅=>wpAny_bind (wpAny_mono h₅ (λ_ s₆ h₆=>wpAny_pure (wpAny_pure ⟨rfl,h₆⟩)) λ_ _ h'=>h')) λ_ _ h'=>h'))
end
noncomputable def lg (X:Cx)(scope:Scope)(jg:List Str)(cl:List (Str×Addr))(s:Shared)(H:Hp)(C:Addr)(fp:List Addr):Cx:=
 { X with N:=jg,s₀:=s,H₀:=H,env:=compEnvC scope cl C X.env,outer:=X.stack,stack:=X.stack,ex:=fp,fn:=λ_=>false,pn:=[],xe:=λ_ _=>False }
structure Yh (scope:Scope)(env:Env)(cl:List (Str×Addr)):Prop where
 run:closureFor scope env=pure cl
 sub:∀x c,cl.lookup x=some c->env.cells.lookup x=some c
 has:∀x,(x,NameKind.free)∈scope.names->∃c,cl.lookup x=some c
theorem vZ (env:Env):∀(names:List (Str×NameKind)) (cs:List (Str×Addr)),(∀y∈names,y.2= .free->∃c,env.cells.lookup y.1=some c)->
 (∀x c,cs.lookup x=some c->env.cells.lookup x=some c)->
 ∃cl,(forIn (m:=Sem) names cs λ(y:Str×NameKind) (r:List (Str×Addr))=>(if(y.2==NameKind.free)=true then do let a<-cellOf env y.1;pure (ForInStep.yield ((y.1,a)::r))else pure (ForInStep.yield r)))=pure cl/\
  (∀x c,cl.lookup x=some c->env.cells.lookup x=some c)/\(∀x,(x,NameKind.free)∈names->∃c,cl.lookup x=some c)/\(∀x c,cs.lookup x=some c->∃c',cl.lookup x=some c')
 |[],cs,_,hs=>⟨cs,by simp,hs,λ_ h=>by simp at h,λx c h=>⟨c,h⟩⟩
 |(n,k)::r,cs,hf,hs=>by
  by_cases hk:k= .free
  ·subst hk
   obtain⟨c,hc⟩:=hf (n,.free) List.mem_cons_self rfl
   have hs':∀x d,List.lookup x ((n,c)::cs)=some d->env.cells.lookup x=some d:=λx d h=>by
    rw[List.lookup_cons]at h
    cases hx:x==n with
    |true=>
     rw[hx]at h
     have e:x=n:=by simpa using hx
     subst e
     cases h
     exact hc
    |false=>rw[hx]at h;exact hs x d h
   obtain⟨cl,h1,h2,h3,h4⟩:=vZ env r ((n,c)::cs) (λy hy=>hf y (List.mem_cons_of_mem _ hy)) hs'
   refine⟨cl,?_,h2,λx hx=>?_,λx d h=>?_⟩
   ·rw[List.forIn_cons]
    have e:cellOf env n=pure c:=by unfold cellOf;rw[hc]
    simp only[beq_self_eq_true,if_true,e,pure_bind]
    exact h1
   ·rcases List.mem_cons.mp hx with e|hx
    ·cases e
     exact h4 _ c (by simp)
    ·exact h3 x hx
   ·by_cases hx:x=n
    ·subst hx;exact h4 x c (by simp)
    ·refine h4 x d ?_
     rw[List.lookup_cons]
     have:(x==n)=false:=by simpa using hx
     rw[this];exact h
  ·obtain⟨cl,h1,h2,h3,h4⟩:=vZ env r cs (λy hy=>hf y (List.mem_cons_of_mem _ hy)) hs
   refine⟨cl,?_,h2,λx hx=>?_,h4⟩
   ·rw[List.forIn_cons]
    have e:(k==NameKind.free)=false:=by simpa using hk
    simp only[e,Bool.false_eq_true,if_false,pure_bind]
    exact h1
   ·rcases List.mem_cons.mp hx with e|hx
    ·cases e;exact absurd rfl hk
    ·exact h3 x hx
theorem Sg {scope:Scope}{env:Env}(hf:∀y∈scope.names,y.2= .free->∃c,env.cells.lookup y.1=some c):∃cl,Yh scope env cl:=by
 obtain⟨cl,h1,h2,h3,_⟩:=vZ env scope.names [] hf (λx c h=>by simp at h)
 refine⟨cl,?_,h2,h3⟩
 unfold closureFor
 show(do let r<-forIn scope.names [] _;pure r)=pure cl
 rw[h1]
 rfl
noncomputable def uA (cap:List (Option Nat))(σ:L2.St):L2.St:=cap.map λo=>match o with
 |some i=>match σ[i]? with
  |some (some v)=>some v
  |_=>none
 |none=>none
theorem GP {cap:List (Option Nat)}{σ:L2.St}{j:Nat}{v:V}(h:(uA cap σ)[j]?=some (some v)):∃i:Nat,cap[j]?=some (some i)/\σ[i]?=some (some v):=by
 unfold uA at h
 rw[List.getElem?_map]at h
 cases e:cap[j]? with
 |none=>rw[e]at h;cases h
 |some o=>
  rw[e]at h
  cases o with
  |none=>cases h
  |some i=>
   simp only[Option.map_some,Option.some.injEq]at h
   refine⟨i,rfl,?_⟩
   cases e2:σ[i]? with
   |none=>rw[e2]at h;cases h
   |some u=>
    rw[e2]at h
    cases u with
    |none=>cases h
    |some z=>cases h;rfl
noncomputable def Ds (X:Cx)(ifs:List Expr)(t:TT):Prop:=
 ∀(pins:List (Addr×Obj)) (s:Shared) (σ:L2.St) (H:Hp) (Q:Bool->Hp->Prop),Inv X pins σ H s->t σ H Q->
  wpAny (model X.prog X.w) X.A (forIn ifs true λc r=>if r=true then do let ok<-isTrue c X.env (eval c X.env);pure (ForInStep.yield ok)else pure (ForInStep.yield r)) (TP X pins σ Q) X.xe s
theorem QG {X:Cx}:Ds X [] (λ_ H Q=>Q true H):=λpins s σ H Q I h=>wpAny_tests_nil ⟨H,I,h⟩
theorem QH {X:Cx}{c:Expr}{t:TT}(h:PT X c t):Ds X [c] t:=λpins s σ H Q I q=>wpAny_tests_one (h pins s σ H Q I q)
noncomputable def Lx (cap:List (Option Nat))(wi:TI)(g:TG)(tt:TT)(te:TE):TE:=λσ H Q=>wi σ H λJ H1=>∀p,H1 p=none->∃W:Nat->Nat->List V->Hp->Prop,(∃m,W 0 m [] (upd H1 p (.lst [])))/\
 ∀i m ys H2,W i m ys H2->H2 p=some (.lst ys)/\((J.stop i H2/\Q (.ref p) H2)\/(J.go i H2/\∃N:List V->Hp->Prop,(∀ys' H',N ys' H'->∃m',m'<m/\W (i+1) m' ys' H')/\
  ∀x H3,J.yld i H2 x H3->g x (uA cap σ) H3 λσ2 H4=>(∀(j:Nat) v,(uA cap σ)[j]?=some (some v)->σ2[j]?=some (some v))/\tt σ2 H4 λb H5=>
   if b=true then te σ2 H5 λy H6=>H6 p=some (.lst ys)/\ys.length<sizeLine/\N (ys++[y]) (upd H6 p (.lst (ys++[y])))else N ys H5))
section
variable {X:Cx}{elt tg iter:Expr}{ifs:List Expr}{scope:Scope}{pos:Pos}{wi:TI}{jg:List Str}{cap:List (Option Nat)}{g:TG}{tt:TT}{te:TE}
structure uq (X:Cx)(scope:Scope)(jg:List Str)(cap:List (Option Nat)):Prop where
 kind:scope.kind= .function
 cell:∀y∈scope.names,y.2≠ .cell
 names:∀y∈scope.names,y.2= .local->scope.names.lookup y.1=some .local
 free:∀y∈scope.names,y.2= .free->X.env.kindOf y.1=some .cell\/X.env.kindOf y.1=some .free
 excl:∀x,(x,NameKind.free)∈scope.names->scope.names.lookup x=some .free
 len:cap.length=jg.length
 cap:∀(j i:Nat) (x:Str),cap[j]?=some (some i)->jg[j]?=some x->X.N[i]?=some x/\(x,NameKind.free)∈scope.names
theorem lq {env:Env}:∀{names:List (Str×NameKind)}{x:Str}{k:NameKind},(names.map λ(n,k)=>if(k==NameKind.free&&env.scope.kind== .function&&env.kindOf n==some .cell)then(n,NameKind.cell)else(n,k)).lookup x=some k->
 names.lookup x=some k\/(k= .cell/\names.lookup x=some .free)
 |[],_,_,h=>by simp at h
 |(n,k)::r,x,k',h=>by
  have ih:=@lq env r x k'
  rw[List.map_cons]at h
  by_cases hc:(k==NameKind.free&&env.scope.kind== .function&&env.kindOf n==some .cell)=true
  ·have hk:k= .free:=by
    simp only[Bool.and_eq_true,beq_iff_eq]at hc
    exact hc.1.1
   subst hk
   dsimp only at h
   rw[if_pos hc,List.lookup_cons]at h
   rw[List.lookup_cons]
   cases hx:x==n with
   |true=>rw[hx]at h;cases h;exact .inr ⟨rfl,rfl⟩
   |false=>rw[hx]at h;exact ih h
  ·dsimp only at h
   rw[if_neg hc,List.lookup_cons]at h
   rw[List.lookup_cons]
   cases hx:x==n with
   |true=>rw[hx]at h;cases h;exact .inl rfl
   |false=>rw[hx]at h;exact ih h
theorem wG {names:List (Str×NameKind)}{x:Str}{k:NameKind}(h:names.lookup x=some k):(x,k)∈names:=PySem.mem_of_lookup h
theorem Q9 {pins:List (Addr×Obj)}{σ:L2.St}{H:Hp}{s s':Shared}{cl:List (Str×Addr)}{C:Addr}{fp:List Addr}{m:Str->Option Value}(ok:uq X scope jg cap)(I:Inv X pins σ H s)(hcl:Yh scope X.env cl)(hf:∀b∈fp,yz X pins H b)
 (ho:∀b∈fp,∃o,s.heap.get? b=some o)(hC:C=s.heap.objs.size)(hn:s'.heap.Ns C m)(hk:∀b o,s.heap.get? b=some o->s'.heap.get? b=some o)(hos:s'.os=s.os)(hg:s'.gens=s.gens):
 Inv (lg X scope jg cl s H C fp) [] (uA cap σ) H s':=by
 subst hC
 have hH:H s.heap.objs.size=none:=I.hok.fresh (Nat.le_refl _)
 have sub:∀x c,(lg X scope jg cl s H s.heap.objs.size fp).env.cells.lookup x=some c->X.env.cells.lookup x=some c:=λx c h=>hcl.sub x c h
 have T7:∀x,(lg X scope jg cl s H s.heap.objs.size fp).env.kindOf x=some .cell\/(lg X scope jg cl s H s.heap.objs.size fp).env.kindOf x=some .free->(x,NameKind.free)∈scope.names:=λx h=>by
  rcases h with h|h
  ·rcases lq (env:=X.env) (names:=scope.names) (x:=x) h with z|⟨_,z⟩
   ·exact absurd rfl (ok.cell _ (wG z))
   ·exact wG z
  ·rcases lq (env:=X.env) (names:=scope.names) (x:=x) h with z|⟨z,_⟩
   ·exact wG z
   ·cases z
 have Wn:∀b∈fp,b<s.heap.objs.size:=λb hb=>let⟨o,e⟩:=ho b hb;Heap.lt_size e
 refine⟨⟨I.ok.mod,ok.kind,I.ok.glob,I.ok.blt,Nat.le_refl _,λx y c h1 h2=>I.ok.inj x y c (sub x c h1) (sub y c h2),λx h=>hcl.has x (T7 x h),λx c h _=>(by cases h),I.ok.hd,I.ok.frames,.inl rfl,
  λb hb=>⟨Nat.ne_of_lt (Wn b hb),λx c h=>(hf b hb).2.2.2.2.1 x c (sub x c h)⟩,I.bs,Nat.le_trans I.ok.S7 I.sz,λb o e hb=>?_,λb hb=>?_,I.stack,I.Lq⟩,
  hos,by rw[hg];exact I.bare,Un.kept hk,⟨m,hn,λj x v e1 e2 e3=>?_⟩,λx c h=>?_,hH,λx c h=>I.rD x c (sub x c h),λp hp=>?_,I.hok.kept hk,?_⟩
 ·obtain⟨f0,f1,f2,f3,_⟩:=hf b hb
  rcases f3 with f3|f3
  ·exact I.ok.Qp b o e f3
  ·exact absurd (Nat.lt_of_lt_of_le (Heap.lt_size e) (Nat.le_trans I.ok.S7 f3)) (Nat.lt_irrefl _)
 ·intro hz
  obtain⟨f0,f1,f2,_⟩:=hf b hb
  rcases List.mem_cons.mp (I.JM b hz)with e|e
  ·exact f1 e
  ·exact f2 e
 ·obtain⟨i,e4,e5⟩:=GP e2
  obtain⟨e6,e7⟩:=ok.cap j i x e4 e1
  obtain⟨m0,hn0,hl⟩:=I.loc
  have hkind:=ok.free _ e7 rfl
  have vis:Yr X.env.scope x:=by
   rcases hkind with z|z
   ·exact .inr (.inl z)
   ·exact .inr (.inr z)
  obtain⟨u,r,l⟩:=hl i x v e6 e5 vis
  refine⟨u,r,?_⟩
  rcases l with⟨l,_⟩|⟨_,c,hc,z⟩
  ·rcases hkind with z|z
   ·rw[z]at l;cases l
   ·rw[z]at l;cases l
  ·obtain⟨c',hc'⟩:=hcl.has x e7
   have:c'=c:=by
    have:=hcl.sub x c' hc'
    rw[hc]at this
    exact(Option.some.inj this).symm
   subst this
   have k2:(lg X scope jg cl s H s.heap.objs.size fp).env.kindOf x=some .cell\/(lg X scope jg cl s H s.heap.objs.size fp).env.kindOf x=some .free:=by
    have e3':Yr (relabel scope X.env) x:=e3
    rcases e3' with z1|z1|z1
    ·exfalso
     rcases lq (env:=X.env) (names:=scope.names) (x:=x) z1 with z2|⟨z2,_⟩
     ·rw[ok.excl x e7]at z2;cases z2
     ·cases z2
    ·exact .inl z1
    ·exact .inr z1
   obtain⟨o,ho1,hd1⟩:=z
   exact .inr ⟨k2,c',hc',o,hk _ _ ho1,hd1⟩
 ·obtain⟨v,o,ho1,hd1⟩:=I.cell x c (sub x c h)
  exact⟨v,o,hk _ _ ho1,hd1⟩
 ·exact absurd (show p∈([]:List (Addr×Obj)) from hp) (by simp)
 ·unfold uA
  show _=jg.length
  rw[List.length_map]
  exact ok.len
theorem Te {P:Program}{w:World}{H:Hp}{h h':Heap}{C:Addr}(x:tX P w H h)(hC:H C=none)(hs:Heap.SameBut C h h'):tX P w H h':=λb ob e=>by
 refine(x b ob e).stay (λc w' hc q=>(hs.2 c ?_).trans q) (λ_ q=>q) λ_ _ q=>q
 rintro rfl
 rcases hc with rfl|hc
 ·rw[hC]at e;cases e
 ·rw[hC]at hc;cases hc
theorem Cg {Q':Value->Shared->Prop}{use:Option (Value->Sem Unit)}{pins:List (Addr×Obj)}{s:Shared}{σ:L2.St}{H:Hp}{Q:VK}(hc:X.calm=true)(ok:uq X scope jg cap)(hi:PI X tg iter wi)
 (hin:∀cl s H C fp,PG (lg X scope jg cl s H C fp) tg g/\Ds (lg X scope jg cl s H C fp) ifs tt/\PE (lg X scope jg cl s H C fp) elt te)
 (hs:∀x,foldedSetIterable iter X.env x=pure x)(I:Inv X pins σ H s)(h:Lx cap wi g tt te σ H Q)
 (fin:∀(s6:Shared) (H5:Hp) (p C:Addr) (m:Str->Option Value),Inv X pins σ H5 s6->yz X pins H5 C->s6.heap.Ns C m->(∀h',Heap.SameBut C s6.heap h'->Inv X pins σ H5 { s6 with heap:=h' })->Q (.ref p) H5->
  compPost (model X.prog X.w) X.A X.xe use Q' (.ref p) C (.ok .next) s6):
 wpAny (model X.prog X.w) X.A (comprehension (.ListComp elt [⟨tg,iter,ifs,0⟩] scope pos) scope X.env (firstIterPos [⟨tg,iter,ifs,0⟩] pos) (newList []) false (eval iter X.env) use) Q' X.xe s:=by
 obtain⟨cl,hcl⟩:=Sg (scope:=scope) (env:=X.env) λy hy hk=>I.ok.has y.1 (ok.free y hy hk)
 refine wpAny_comprehension_free (use:=use) rfl hs hcl.run ok.kind ok.names ?_
 refine iK (hi pins s σ H _ I h) λv s1 h1=>iK h1 λitv s2 h2=>?_
 obtain⟨it,fp,tn,J,H2,e,I2,T,st2,f2,R⟩:=h2
 subst e
 refine wpAny_newObj_type (wpAny_newFunctionEnv ok.cell (by intro y hy;simp at hy) (λh₁ hns₁ hsb₁=>?_) ok.kind)
 have hp2:H2 s2.heap.objs.size=none:=I2.hok.fresh (Nat.le_refl _)
 have I3:Inv X pins σ (upd H2 s2.heap.objs.size (.lst [])) { s2 with heap:=s2.heap.push { cls:= .type "list",dict:=none,data:= .seq ([]:List Value).toArray } }:=
  I2.laid (t':=s2.toks) (λb u e=>Heap.get?_push_of_some _ e) (Nat.le_refl _) ⟨Nat.zero_le _,[],0,.nil,Heap.get?_push_size _ rfl⟩
 obtain⟨W,⟨m0,w0⟩,turn⟩:=R _ hp2
 have fpo:∀b∈fp,∃o,s2.heap.get? b=some o:=λb hb=>let⟨o,e,_⟩:=T.obj _ _ st2 b hb;⟨o,e⟩
 have YM:∀b∈fp,b≠s2.heap.objs.size:=λb hb=>let⟨o,e⟩:=fpo b hb;Nat.ne_of_lt (Heap.lt_size e)
 have f3:∀b∈fp,yz X pins (upd H2 s2.heap.objs.size (.lst [])) b:=λb hb=>⟨by rw[bM (YM b hb)];exact(f2 b hb).1,(f2 b hb).2⟩
 generalize hS:({ s2 with heap:=s2.heap.push { cls:= .type "list",dict:=none,data:= .seq ([]:List Value).toArray } }:Shared)=s3 at I3 hns₁ hsb₁ ⊢
 have h3:∀b o,s2.heap.get? b=some o->s3.heap.get? b=some o:=λb o e=>by rw[<-hS];exact Heap.get?_push_of_some _ e
 have YQ:∀b∈fp,∃o,s3.heap.get? b=some o:=λb hb=>let⟨o,e⟩:=fpo b hb;⟨o,h3 b o e⟩
 have hk3:∀b o,s3.heap.get? b=some o->h₁.get? b=some o:=λb o e=>hsb₁.extBut b o (Nat.ne_of_lt (Heap.lt_size e)) (Heap.get?_push_of_some _ e)
 have hH3:(upd H2 s2.heap.objs.size (.lst [])) s3.heap.objs.size=none:=I3.hok.fresh (Nat.le_refl _)
 have I4:Inv (lg X scope jg cl s3 (upd H2 s2.heap.objs.size (.lst [])) s3.heap.objs.size fp) [] (uA cap σ) (upd H2 s2.heap.objs.size (.lst [])) { s3 with heap:=h₁,toks:=s3.toks+([]:List (Str×Value)).length }:=
  Q9 ok I3 hcl f3 YQ rfl hns₁ hk3 rfl rfl
 have st4:tn 0 h₁:=T.keep _ _ _ st2 λb hb o e=>hk3 b o (h3 b o e)
 have Wn:∀b∈fp,b≠s3.heap.objs.size:=λb hb=>let⟨o,e⟩:=YQ b hb;Nat.ne_of_lt (Heap.lt_size e)
 have Wm:∀{H':Hp},(∀b∈fp,H' b=none)->∀b∈fp,yz (lg X scope jg cl s3 (upd H2 s2.heap.objs.size (.lst [])) s3.heap.objs.size fp) [] H' b:=λhn b hb=>
  ⟨hn b hb,Wn b hb,I4.ok.Py b hb,.inl hb,λx c e=>(I4.ok.exf b hb).2 x c e,λp hp=>absurd (show p∈([]:List (Addr×Obj)) from hp) (by simp)⟩
 obtain⟨hg,ht,he⟩:=hin cl s3 (upd H2 s2.heap.objs.size (.lst [])) s3.heap.objs.size fp
 have loop:codeAny (model X.prog X.w) X.A (.compLoop (.ListComp elt [⟨tg,iter,ifs,0⟩] scope pos) 0 (.ref it) (.ref s2.heap.objs.size) (compEnvC scope cl s3.heap.objs.size X.env))
  (compPost (model X.prog X.w) X.A X.xe use Q' (.ref s2.heap.objs.size) s3.heap.objs.size) { s3 with heap:=h₁,toks:=s3.toks+([]:List (Str×Value)).length }:=by
  refine Ng (λn s'=>∃i ys H',Inv (lg X scope jg cl s3 (upd H2 s2.heap.objs.size (.lst [])) s3.heap.objs.size fp) [] (uA cap σ) H' s'/\tn i s'.heap/\(∀b∈fp,H' b=none)/\W i n ys H') ?_ m0
   ⟨0,[],_,I4,st4,λb hb=>by rw[bM (YM b hb)];exact(f2 b hb).1,w0⟩
  rintro n s5 ⟨i,ys,H5,I5,Yb,fr5,w5⟩
  obtain⟨hp5,alt⟩:=turn i n ys H5 w5
  rcases alt with⟨stop,q⟩|⟨go,N,hN,step⟩
  ·refine iK (T.done (lg X scope jg cl s3 (upd H2 s2.heap.objs.size (.lst [])) s3.heap.objs.size fp) rfl rfl rfl hc i [] s5 (uA cap σ) H5 _ I5 (Wm fr5) Yb stop) λr s6 ⟨hr,I6⟩=>?_
   subst hr
   obtain⟨m,hn,_⟩:=id I6.loc
   have hC6:H5 s3.heap.objs.size=none:=I6.free
   have bu:Un (frs X.stack) fp (upd H2 s2.heap.objs.size (.lst [])) H5 s3.heap s6.heap:=I6.base
   have RD:∀b o,s3.heap.get? b=some o->b≠s3.heap.objs.size:=λb o e=>Nat.ne_of_lt (Heap.lt_size e)
   have out:∀h',Heap.SameBut s3.heap.objs.size s6.heap h'->Inv X pins σ H5 { s6 with heap:=h' }:=λh' hs'=>by
    have bu':Un (frs X.stack) fp (upd H2 s2.heap.objs.size (.lst [])) H5 s3.heap h':=⟨λb o e n1 n2 n3=>(hs'.2 b (RD b o e)).trans (bu.keep b o e n1 n2 n3),
     λb o e n1 n2 n3=>let⟨sl,q⟩:=bu.slot b o e n1 n2 n3;⟨sl,(hs'.2 b (RD b o e)).trans q⟩,bu.free,λb o e n1=>let⟨o',q⟩:=bu.there b o e n1;⟨o',(hs'.2 b (RD b o e)).trans q⟩,bu.tups,bu.Bm,bu.Fp⟩
    exact I3.call' (s':={ s6 with heap:=h' }) (ch:=fp) I6.os bu' (Te I6.hok hC6 hs') I6.bare (λb hb=>⟨(f3 b hb).2.2.2.1,(f3 b hb).2.1,(f3 b hb).2.2.2.2.1,(f3 b hb).2.2.2.2.2⟩)
   exact fin s6 H5 s2.heap.objs.size s3.heap.objs.size m (out s6.heap (Heap.SameBut.refl ..)) (I3.MJ (Nat.le_refl _) hC6) hn out q
  ·refine iK (T.item (lg X scope jg cl s3 (upd H2 s2.heap.objs.size (.lst [])) s3.heap.objs.size fp) rfl rfl rfl hc i [] s5 (uA cap σ) H5 _ I5 (Wm fr5) Yb go) λr s6 ⟨u,hr,h6⟩=>?_
   subst hr
   refine iK h6 λ_ s7 ⟨x,H7,I7,r7,y7,st7,fr7⟩=>?_
   have I7':=I7.pinned (Wm fr7) (T.obj _ _ st7)
   refine wpAny_mono (hg _ s7 _ H7 x u _ I7' r7 (step x H7 y7)) (λ_ s8 ⟨σ8,H8,I8,Z6,q8⟩=>?_) λ_ _ z=>False.elim z
   refine wpAny_mono (ht _ s8 σ8 H8 _ I8 q8) (λokb s9 ⟨H9,I9,q9⟩=>?_) λ_ _ z=>False.elim z
   have again:∀{H':Hp}{ys':List V}{s':Shared},Inv (lg X scope jg cl s3 (upd H2 s2.heap.objs.size (.lst [])) s3.heap.objs.size fp) ([]++Ag fp s7.heap) σ8 H' s'->N ys' H'->
    ∃m,m<n/\∃i ys H',Inv (lg X scope jg cl s3 (upd H2 s2.heap.objs.size (.lst [])) s3.heap.objs.size fp) [] (uA cap σ) H' s'/\tn i s'.heap/\(∀b∈fp,H' b=none)/\W i m ys H':=λ{H' ys' s'} I' n'=>by
    obtain⟨m',hm,w'⟩:=hN ys' H' n'
    refine⟨m',hm,i+1,ys',H',(I'.vN).weak (I4.len.trans I'.len.symm) Z6,T.keep _ _ _ st7 λb hb o e=>(I'.pin (b,o) (List.mem_append_right _ (List.mem_append_right _ (qt hb e)))).1,λb hb=>?_,w'⟩
    obtain⟨o,e,d⟩:=T.obj _ _ st7 b hb
    exact(I'.pin (b,o) (List.mem_append_right _ (List.mem_append_right _ (qt hb e)))).2.1
   cases okb with
   |false=>
    rw[if_neg Bool.false_ne_true]at q9 ⊢
    exact again I9 q9
   |true=>
    rw[if_pos rfl]at q9 ⊢
    refine wpAny_mono (he _ s9 σ8 H9 _ I9 q9) (λyv s10 ⟨y,H10,I10,r10,a0p,hz,n10⟩=>?_) λ_ _ z=>False.elim z
    refine wpAny_mono (CZ (X:=lg X scope jg cl s3 (upd H2 s2.heap.objs.size (.lst [])) s3.heap.objs.size fp) _ s10 σ8 H10 (.ref s2.heap.objs.size) [y] (.ref s2.heap.objs.size) [yv] (λ_ H'=>N (ys++[y]) H') I10 rfl (.cons r10 .nil) ⟨_,ys,y,rfl,rfl,a0p,hz,n10⟩) (λ_ s11 ⟨_,H11,I11,_,n11⟩=>?_) λ_ _ z=>False.elim z
    exact again I11 n11
 exact codeAny_compStart_list loop (T.self _ 0 _ _ _ st4 loop)
theorem Ua (hc:X.calm=true)(ok:uq X scope jg cap)(hi:PI X tg iter wi)
 (hin:∀cl s H C fp,PG (lg X scope jg cl s H C fp) tg g/\Ds (lg X scope jg cl s H C fp) ifs tt/\PE (lg X scope jg cl s H C fp) elt te)
 (hs:∀x,foldedSetIterable iter X.env x=pure x:=by intro _;rfl):PE X (.ListComp elt [⟨tg,iter,ifs,0⟩] scope pos) (Lx cap wi g tt te):=by
 intro pins s σ H Q I h
 rw[eval_ListComp]
 refine Cg (use:=none) hc ok hi hin hs I h λs6 H5 p C m I6 hC hn out q=>?_
 exact⟨m,hn,λh' hs'=>⟨.ref p,H5,out h' hs',rfl,q⟩⟩
theorem Uk {i:Nat}{x:Str}{spos pos':Pos}(hc:X.calm=true)(ok:uq X scope jg cap)(hi:PI X tg iter wi)
 (hin:∀cl s H C fp,PG (lg X scope jg cl s H C fp) tg g/\Ds (lg X scope jg cl s H C fp) ifs tt/\PE (lg X scope jg cl s H C fp) elt te)
 (hN:X.N.Nodup)(hix:X.N[i]?=some x)(hx:X.env.scope.names.lookup x=some .local)
 (hsw:swapsWith (.ListComp elt [⟨tg,iter,ifs,0⟩] scope pos) (some (.Name x pos')) spos.line X.env=pure true)
 (hs:∀x,foldedSetIterable iter X.env x=pure x:=by intro _;rfl):
 PS X (.Assign [.Name x pos'] (.ListComp elt [⟨tg,iter,ifs,0⟩] scope pos) spos) (Y0 (Lx cap wi g tt te) (Q4 i)):=by
 intro pins s σ H E I h
 rw[exec_Assign_Name_used _ _ _ _ hsw]
 refine wpAny_bind (wpAny_standAt (wpAny_bind ?_))
 show wpAny _ X.A (do let _<-comprehension (.ListComp elt [⟨tg,iter,ifs,0⟩] scope pos) scope X.env _ (newList []) false (eval iter X.env) (some (assign (.Name x pos') X.env))) _ _ s
 refine wpAny_bind (wpAny_mono (Cg (Q':=λ_ s'=>SP X pins E .next s') (use:=some (assign (.Name x pos') X.env)) hc ok hi hin hs I h ?_) (λ_ s' hq=>wpAny_pure (wpAny_pure hq)) λ_ _ e=>e)
 intro s6 H5 p C m I6 hC hn out q
 show wpAny (model X.prog X.w) X.A (assign (.Name x pos') X.env (.ref p)) _ _ s6
 refine wpAny_assign_Name (Dk (v:= .ref p) I6 hN hix (.inl hx) rfl (λs7 I7 sb=>?_) (.inr hx))
 obtain⟨a,sb,ha⟩:=sb
 have RD:a≠C:=by
  rcases ha with rfl|ha
  ·exact Ne.symm hC.2.1
  ·exact hC.2.2.2.2.1 x a ha
 refine⟨m,hn.sameBut sb (Ne.symm RD),λh' hs'=>⟨σ.set i (some (.ref p)),H5,?_,q⟩⟩
 exact I7.turned (t':=s7.toks) (λb o hb e=>(hs'.2 b hb).trans e) hC.1 hC.2.1 hC.2.2.2.1 hC.2.2.2.2.1 hC.2.2.2.2.2
end
inductive L where
 |val (d:D) (fr:Bool)
 |own (l:List D) (fr:Bool) (tg:Option Nat)
 |m9 (ks:List Key) (l:List D) (fr:Bool)
noncomputable abbrev bw:=List (Option L)
structure Gh where
 d:D
 fr:Bool
 v:V
 tag:Option Nat:=none
noncomputable def L.isOwn:L->Bool
 | .val _ _=>false
 |_=>true
noncomputable def L.toD:L->D
 | .val d _=>d
 | .own l _ _=> .lst l
 | .m9 ks l _=> .dct ks l
noncomputable def AV (fr:Bool)(O:Addr->Prop)(H₀:Hp):Addr->Prop:=λa=>O a\/(fr=true/\H₀ a≠none)
noncomputable def RL (O:Addr->Prop)(K:Fg)(H₀ H:Hp):L->V->Prop
 | .val d fr,v=>Rep (AV fr O H₀) K H d v
 | .own l fr _,v=>∃p vs,v= .ref p/\O p/\H p=some (.lst vs)/\aU (AV fr O H₀) K H l vs
 | .m9 ks l fr,v=>∃p vs,v= .ref p/\O p/\H p=some (.dK (ks.zip vs))/\ks.length=vs.length/\aU (AV fr O H₀) K H l vs
structure gC (O:Addr->Prop)(K:Fg)(H₀ H:Hp)(σ:L2.St)(ρ:bw)(γ:List Gh):Prop where
 same:bN H₀ H
 wi:Within O H
 new:∀a,O a->H₀ a=none
 rel:∀(i:Nat) (l:L),ρ[i]?=some (some l)->∃v,σ[i]?=some (some v)/\RL O K H₀ H l v
 apart:∀(i j:Nat) (l m:L) (p:Addr),ρ[i]?=some (some l)->l.isOwn=true->σ[i]?=some (some (.ref p))->ρ[j]?=some (some m)->m.isOwn=true->σ[j]?=some (some (.ref p))->i=j
 len:σ.length=ρ.length
 gh:∀g∈γ,g.tag=none->Rep (AV g.fr O H₀) K H g.d g.v
 tag:∀(i:Nat) (l:List D) (fr:Bool) (t:Nat),ρ[i]?=some (some (.own l fr (some t)))->∃g∈γ,g.tag=some t/\σ[i]?=some (some g.v)
noncomputable def VJ (K:Fg)(H₀ H:Hp)(σ:L2.St)(ρ:bw)(γ:List Gh):Prop:=∃O,gC O K H₀ H σ ρ γ
section
variable {O O':Addr->Prop}{K:Fg}{H₀ H H':Hp}{σ:L2.St}{ρ:bw}{γ:List Gh}
theorem AV.within {fr:Bool}(w:Within O H)(s:bN H₀ H):Within (AV fr O H₀) H:=λa z e=>by
 rcases z with z|⟨_,z⟩
 ·exact w a z e
 ·exact z (s.free e)
theorem RL.mono {l:L}{v:V}(s:bN H H')(h:RL O K H₀ H l v):RL O K H₀ H' l v:=by
 cases l with
 |val d fr=>exact Rep.mono s h
 |own l fr tg=>
  obtain⟨p,vs,e,o,h1,h2⟩:=h
  exact⟨p,vs,e,o,s _ _ h1,h2.mono s⟩
 |m9 ks l fr=>
  obtain⟨p,vs,e,o,h1,h3,h2⟩:=h
  exact⟨p,vs,e,o,s _ _ h1,h3,h2.mono s⟩
theorem gC.mono (s:bN H H')(h:gC O K H₀ H σ ρ γ):gC O K H₀ H' σ ρ γ:=
 ⟨h.same.trans s,h.wi.mono s,h.new,λi l e=>let⟨v,a,b⟩:=h.rel i l e;⟨v,a,b.mono s⟩,h.apart,h.len,λg hg ht=>(h.gh g hg ht).mono s,h.tag⟩
noncomputable def vis (ρ:bw):aH:=ρ.map λo=>o.map L.toD
noncomputable def cL:Addr->Prop:=λ_=>False
theorem gC.vis (h:gC O K H₀ H σ ρ γ):lZ cL K H σ (vis ρ):=λi d e=>by
 unfold DL.vis at e
 rw[List.getElem?_map]at e
 cases e1:ρ[i]? with
 |none=>rw[e1]at e;cases e
 |some o=>
  rw[e1]at e
  cases o with
  |none=>cases e
  |some l=>
   simp only[Option.map_some,Option.some.injEq]at e
   subst e
   obtain⟨v,a,b⟩:=h.rel i l e1
   refine⟨v,a,?_⟩
   cases l with
   |val d fr=>exact Rep.weak (λ_ z=>z.elim) b
   |own l fr tg=>
    obtain⟨p,vs,rfl,o,h1,h2⟩:=b
    exact⟨p,vs,rfl,⟨h1,λz=>z⟩,h2.weak λ_ z=>z.elim⟩
   |m9 ks l fr=>
    obtain⟨p,vs,rfl,o,h1,h3,h2⟩:=b
    exact⟨p,vs,rfl,⟨h1,λz=>z⟩,h3,h2.weak λ_ z=>z.elim⟩
theorem dj:Within cL H:=λ_ z=>z.elim
noncomputable def pick (fr:Bool):Option L->Option D
 |some (.val d f)=>if !fr||f||flat d then some d else none
 |_=>none
noncomputable def vals (fr:Bool)(ρ:bw):aH:=ρ.map (pick fr)
theorem gC.vals {fr:Bool}(h:gC O K H₀ H σ ρ γ):lZ (AV fr O H₀) K H σ (vals fr ρ):=λi d e=>by
 unfold DL.vals at e
 rw[List.getElem?_map]at e
 cases e1:ρ[i]? with
 |none=>rw[e1]at e;cases e
 |some o=>
  rw[e1]at e
  simp only[Option.map_some,Option.some.injEq]at e
  cases o with
  |none=>cases e
  |some l=>
   cases l with
   |own l f tg=>cases e
   |m9 ks l f=>cases e
   |val d' f=>
    simp only[pick]at e
    split at e
    ·rename_i hc
     cases e
     obtain⟨v,a,b⟩:=h.rel i _ e1
     refine⟨v,a,?_⟩
     have b':Rep (AV f O H₀) K H d v:=b
     simp only[Bool.or_eq_true,Bool.not_eq_true']at hc
     rcases hc with(hc|hc)|hc
     ·subst hc
      exact b'.weak λa z=>z.elim .inl λz=>by cases z.1
     ·subst hc
      exact b'.weak λa z=>z.elim .inl λz=> .inr ⟨rfl,z.2⟩
     ·exact Rep.dJ d hc b'
    ·cases e
theorem di {α:Type}{l:List α}{i j:Nat}{a b:α}(h:(l.set i a)[j]?=some b):(j=i/\a=b/\i<l.length)\/(j≠i/\l[j]?=some b):=by
 by_cases e:i=j
 ·subst e
  by_cases hl:i<l.length
  ·rw[List.getElem?_set_self hl]at h
   exact .inl ⟨rfl,Option.some.inj h,hl⟩
  ·rw[List.getElem?_eq_none (by rw[List.length_set];omega)]at h
   cases h
 ·rw[List.getElem?_set_ne e]at h
  exact .inr ⟨λz=>e z.symm,h⟩
theorem gC.JH {i:Nat}{d:D}{fr:Bool}{v:V}(h:gC O K H₀ H σ ρ γ)(r:Rep (AV fr O H₀) K H d v):gC O K H₀ H (σ.set i (some v)) (ρ.set i (some (.val d fr))) γ:=by
 refine⟨h.same,h.wi,h.new,λj l e=>?_,λj k l m p e1 o1 e2 e3 o2 e4=>?_,by rw[List.length_set,List.length_set];exact h.len,h.gh,λj l fr t e=>?_⟩
 rotate_left 2
 ·rcases di e with⟨rfl,e,hl⟩|⟨hj,e⟩
  ·cases e
  ·obtain⟨g,a,b,c⟩:=h.tag j l fr t e
   exact⟨g,a,b,by rw[List.getElem?_set_ne (Ne.symm hj)];exact c⟩
 ·rcases di e with⟨rfl,e,hl⟩|⟨hj,e⟩
  ·cases e
   exact⟨v,List.getElem?_set_self (by rw[h.len];exact hl),r⟩
  ·obtain⟨w,a,b⟩:=h.rel j l e
   exact⟨w,by rw[List.getElem?_set_ne (Ne.symm hj)];exact a,b⟩
 ·rcases di e1 with⟨rfl,e,_⟩|⟨hj,e1⟩
  ·cases e;cases o1
  ·rcases di e3 with⟨rfl,e,_⟩|⟨hk,e3⟩
   ·cases e;cases o2
   ·rw[List.getElem?_set_ne (Ne.symm hj)]at e2
    rw[List.getElem?_set_ne (Ne.symm hk)]at e4
    exact h.apart j k l m p e1 o1 e2 e3 o2 e4
theorem gC.R5 {i:Nat}{l:List D}{fr:Bool}{p:Addr}{vs:List V}(h:gC O K H₀ H σ ρ γ)(s:bN H H')(hp:H p=none)(hl:H' p=some (.lst vs))(r:aU (λa=>AV fr O H₀ a\/a=p) K H' l vs):
 gC (λa=>O a\/a=p) K H₀ H' (σ.set i (some (.ref p))) (ρ.set i (some (.own l fr none))) γ:=by
 have up:∀(f:Bool) a,AV f (λa=>O a\/a=p) H₀ a->(AV f O H₀ a\/a=p):=λf a z=>by
  rcases z with(z|z)|z
  ·exact .inl (.inl z)
  ·exact .inr z
  ·exact .inl (.inr z)
 have old:∀(m:L) (v:V),RL O K H₀ H m v->RL (λa=>O a\/a=p) K H₀ H' m v:=λm v b=>by
  cases m with
  |val d f=>
   have b':Rep (AV f O H₀) K H d v:=b
   exact((Rep.join hp d b').mono s).weak (up f)
  |own l f tg=>
   obtain⟨q,us,e,o,h1,h2⟩:=b
   exact⟨q,us,e,.inl o,s _ _ h1,((aU.join hp l h2).mono s).weak (up f)⟩
  |m9 ks l f=>
   obtain⟨q,us,e,o,h1,h3,h2⟩:=b
   exact⟨q,us,e,.inl o,s _ _ h1,h3,((aU.join hp l h2).mono s).weak (up f)⟩
 refine⟨h.same.trans s,λa z=>?_,λa z=>?_,λj m e=>?_,λj k m n q e1 o1 e2 e3 o2 e4=>?_,by rw[List.length_set,List.length_set];exact h.len,λg hg ht=>((Rep.join hp _ (h.gh g hg ht)).mono s).weak (up g.fr),λj l fr t e=>?_⟩
 rotate_left 4
 ·rcases di e with⟨rfl,e,hl'⟩|⟨hj,e⟩
  ·cases e
  ·obtain⟨g,a,b,c⟩:=h.tag j l fr t e
   exact⟨g,a,b,by rw[List.getElem?_set_ne (Ne.symm hj)];exact c⟩
 ·rcases z with z|rfl
  ·exact(h.wi.mono s) a z
  ·rw[hl];simp
 ·rcases z with z|rfl
  ·exact h.new a z
  ·exact h.same.free hp
 ·rcases di e with⟨rfl,e,hl'⟩|⟨hj,e⟩
  ·cases e
   exact⟨.ref p,List.getElem?_set_self (by rw[h.len];exact hl'),p,vs,rfl,.inr rfl,hl,r.weak (up fr)⟩
  ·obtain⟨w,a,b⟩:=h.rel j m e
   exact⟨w,by rw[List.getElem?_set_ne (Ne.symm hj)];exact a,old m w b⟩
 ·have Qq:∀(j:Nat) (m:L),ρ[j]?=some (some m)->m.isOwn=true->σ[j]?=some (some (.ref p))->False:=λj m e o e'=>by
   obtain⟨w,a,b⟩:=h.rel j m e
   rw[e']at a
   cases a
   cases m with
   |val d f=>cases o
   |own l f tg=>obtain⟨q,us,e5,_,h1,_⟩:=b;cases e5;rw[hp]at h1;cases h1
   |m9 ks l f=>obtain⟨q,us,e5,_,h1,_⟩:=b;cases e5;rw[hp]at h1;cases h1
  have hlt:∀{x:Option L}{y:Option L}{j:Nat},(ρ.set i x)[j]?=some y->j<σ.length:=λe=>by
   have:=(List.getElem?_eq_some_iff.mp e).1
   rw[List.length_set]at this
   rw[h.len];exact this
  rcases di e1 with⟨rfl,e,hi⟩|⟨hj,f1⟩
  ·rcases di e3 with⟨rfl,e',_⟩|⟨hk,f3⟩
   ·rfl
   ·rw[List.getElem?_set_self (by rw[h.len];exact hi)]at e2
    cases e2
    rw[List.getElem?_set_ne (Ne.symm hk)]at e4
    exact(Qq k n f3 o2 e4).elim
  ·rw[List.getElem?_set_ne (Ne.symm hj)]at e2
   rcases di e3 with⟨rfl,e',hi⟩|⟨hk,f3⟩
   ·rw[List.getElem?_set_self (by rw[h.len];exact hi)]at e4
    cases e4
    exact(Qq j m f1 o1 e2).elim
   ·rw[List.getElem?_set_ne (Ne.symm hk)]at e4
    exact h.apart j k m n q f1 o1 e2 f3 o2 e4
theorem gC.turn {i:Nat}{l l':List D}{fr:Bool}{tg:Option Nat}{p:Addr}{vs vs':List V}(h:gC O K H₀ H σ ρ γ)(e:ρ[i]?=some (some (.own l fr tg)))(e2:σ[i]?=some (some (.ref p)))(hp:H p=some (.lst vs))(hO:O p)
 (r:aU (AV fr O H₀) K H l' vs'):gC O K H₀ (upd H p (.lst vs')) σ (ρ.set i (some (.own l' fr tg))) γ:=by
 have hi:i<ρ.length:=(List.getElem?_eq_some_iff.mp e).1
 have kp:∀f,pF (AV f O H₀) H (upd H p (.lst vs')):=λf=>pF.M4 (.inl hO) hp
 have sm:bN H₀ (upd H p (.lst vs')):=λb u z=>by
  rw[bM (cO z (h.new p hO))]
  exact h.same b u z
 refine⟨sm,λa z q=>?_,h.new,λj m e3=>?_,λj k m n q e3 o1 e4 e5 o2 e6=>?_,by rw[List.length_set];exact h.len,λg hg ht=>Rep.keep (λ_ z=>z) (kp g.fr) _ (h.gh g hg ht),λj l2 YS t e3=>?_⟩
 rotate_left 3
 ·rcases di e3 with⟨rfl,e3,_⟩|⟨hj,e3⟩
  ·cases e3
   exact h.tag _ _ _ _ e
  ·exact h.tag j l2 YS t e3
 ·by_cases ha:a=p
  ·subst ha;rw[cM]at q;cases q
  ·rw[bM ha]at q;exact h.wi a z q
 ·rcases di e3 with⟨rfl,e3,_⟩|⟨hj,e3⟩
  ·cases e3
   exact⟨.ref p,e2,p,vs',rfl,hO,cM,aU.keep (λ_ z=>z) (kp fr) l' r⟩
  ·obtain⟨w,a,b⟩:=h.rel j m e3
   refine⟨w,a,?_⟩
   cases m with
   |val d f=>exact Rep.keep (λ_ z=>z) (kp f) d b
   |own l2 f tg2=>
    obtain⟨q,us,rfl,o,h1,h2⟩:=b
    have hq:q≠p:=λz=>by
     subst z
     exact hj (h.apart j i _ _ q e3 rfl a e rfl e2)
    exact⟨q,us,rfl,o,by rw[bM hq];exact h1,aU.keep (λ_ z=>z) (kp f) l2 h2⟩
   |m9 ks l2 f=>
    obtain⟨q,us,rfl,o,h1,h3,h2⟩:=b
    have hq:q≠p:=λz=>by
     subst z
     rw[hp]at h1;cases h1
    exact⟨q,us,rfl,o,by rw[bM hq];exact h1,h3,aU.keep (λ_ z=>z) (kp f) l2 h2⟩
 ·have back:∀{j:Nat}{m:L},(ρ.set i (some (.own l' fr tg)))[j]?=some (some m)->m.isOwn=true->∃m',ρ[j]?=some (some m')/\m'.isOwn=true:=λ{j m} z o=>by
   rcases di z with⟨rfl,_,_⟩|⟨_,z⟩
   ·exact⟨_,e,rfl⟩
   ·exact⟨m,z,o⟩
  obtain⟨m',e7,o3⟩:=back e3 o1
  obtain⟨n',e8,o4⟩:=back e5 o2
  exact h.apart j k m' n' q e7 o3 e4 e8 o4 e6
theorem gC.freeze {i:Nat}{l:List D}{fr:Bool}{tg:Option Nat}(h:gC O K H₀ H σ ρ γ)(e:ρ[i]?=some (some (.own l fr tg))):∃O',gC O' K H₀ H σ (ρ.set i (some (.val (.lst l) fr))) γ:=by
 have hi:i<ρ.length:=(List.getElem?_eq_some_iff.mp e).1
 obtain⟨v,e2,p,vs,rfl,hO,hp,r⟩:=h.rel i _ e
 have dn:∀(f:Bool) a,AV f (λa=>O a/\a≠p) H₀ a->AV f O H₀ a:=λf a z=>z.imp (λz=>z.1) id
 refine⟨λa=>O a/\a≠p,h.same,λa z=>h.wi a z.1,λa z=>h.new a z.1,λj m e3=>?_,λj k m n q e3 o1 e4 e5 o2 e6=>?_,by rw[List.length_set];exact h.len,λg hg ht=>(h.gh g hg ht).weak (dn g.fr),λj l2 YS t e3=>?_⟩
 rotate_left 2
 ·rcases di e3 with⟨rfl,e3,_⟩|⟨hj,e3⟩
  ·cases e3
  ·exact h.tag j l2 YS t e3
 ·rcases di e3 with⟨rfl,e3,_⟩|⟨hj,e3⟩
  ·cases e3
   refine⟨.ref p,e2,p,vs,rfl,⟨hp,λz=>?_⟩,r.weak (dn fr)⟩
   rcases z with z|z
   ·exact z.2 rfl
   ·exact z.2 (h.new p hO)
  ·obtain⟨w,a,b⟩:=h.rel j m e3
   refine⟨w,a,?_⟩
   cases m with
   |val d f=>exact Rep.weak (dn f) b
   |own l2 f tg2=>
    obtain⟨q,us,rfl,o,h1,h2⟩:=b
    exact⟨q,us,rfl,⟨o,λz=>by subst z;exact hj (h.apart j i _ _ q e3 rfl a e rfl e2)⟩,h1,h2.weak (dn f)⟩
   |m9 ks l2 f=>
    obtain⟨q,us,rfl,o,h1,h3,h2⟩:=b
    exact⟨q,us,rfl,⟨o,λz=>by subst z;rw[hp]at h1;cases h1⟩,h1,h3,h2.weak (dn f)⟩
 ·have back:∀{j:Nat}{m:L},(ρ.set i (some (.val (.lst l) fr)))[j]?=some (some m)->m.isOwn=true->ρ[j]?=some (some m):=λ{j m} z o=>by
   rcases di z with⟨rfl,z,_⟩|⟨_,z⟩
   ·cases z;cases o
   ·exact z
  exact h.apart j k m n q (back e3 o1) o1 e4 (back e5 o2) o2 e6
end
inductive RK where
 |any|new|own
noncomputable def VL (K:Fg)(H₀ H:Hp)(d:D):RK->V->Prop
 | .any,v=>Rep cL K H d v
 | .new,v=>Rep (λa=>H₀ a≠none) K H d v
 | .own,v=>∃l p vs,d= .lst l/\v= .ref p/\H₀ p=none/\H p=some (.lst vs)/\aU (λa=>H₀ a≠none\/a=p) K H l vs
inductive DR where
 |nx (ρ:bw)|bk (ρ:bw)|ct (ρ:bw)|rt (d:D) (k:RK) (ρ:bw)
noncomputable def Yj (K:Fg)(H₀:Hp)(γ:List Gh)(E:Ends):DR->Prop
 | .nx ρ=>∀σ H,VJ K H₀ H σ ρ γ->E.nx σ H
 | .bk ρ=>∀σ H,VJ K H₀ H σ ρ γ->E.bk σ H
 | .ct ρ=>∀σ H,VJ K H₀ H σ ρ γ->E.ct σ H
 | .rt d k ρ=>∀v σ H,VJ K H₀ H σ ρ γ->VL K H₀ H d k v->E.rt v H
noncomputable def tS (K:Fg)(H₀:Hp)(G:bw->Option DR):TS:=λE σ H=>∃ρ γ r,VJ K H₀ H σ ρ γ/\G ρ=some r/\Yj K H₀ γ E r
structure SD (X:Cx)(st:Stmt)(H₀:Hp)(G:bw->Option DR):Prop where
 mk::(h:PS X st (tS X.K H₀ G))
structure Ry (X:Cx)(st:List Stmt)(H₀:Hp)(G:bw->Option DR):Prop where
 mk::(h:wR X st (tS X.K H₀ G))
theorem _root_.L2.PS.imp {X:Cx}{st:Stmt}{t t':TS}(h:PS X st t)(k:∀E σ H,t' E σ H->t E σ H):PS X st t':=λpins s σ H E I q=>h pins s σ H E I (k E σ H q)
theorem _root_.L2.wR.imp {X:Cx}{st:List Stmt}{t t':TS}(h:wR X st t)(k:∀E σ H,t' E σ H->t E σ H):wR X st t':=λpins s σ H E I q=>h pins s σ H E I (k E σ H q)
section
variable {X:Cx}{H₀:Hp}{st:Stmt}{rest a b:List Stmt}{G G1 G2:bw->Option DR}{pos:Pos}
noncomputable def cg:bw->Option DR:=λρ=>some (.nx ρ)
noncomputable def aO (G1 G2:bw->Option DR):bw->Option DR:=λρ=>(G1 ρ).bind λr=>match r with
 | .nx ρ'=>G2 ρ'
 |r=>some r
theorem dD:Ry X [] H₀ cg:= .mk<|wR.imp Ld λE σ H ⟨ρ,γ,r,R,e,q⟩=>by
 cases e
 exact q σ H R
theorem aA (h1:SD X st H₀ G1)(h2:Ry X rest H₀ G2):Ry X (st::rest) H₀ (aO G1 G2):=have h1:=h1.1;have h2:=h2.1; .mk<|wR.imp (HW h1 h2) λE σ H ⟨ρ,γ,r,R,e,q⟩=>by
 obtain⟨r1,e1,e2⟩:=bind_some e
 refine⟨ρ,γ,r1,R,e1,?_⟩
 cases r1 with
 |nx ρ'=>exact λσ' H' R'=>⟨ρ',γ,r,R',e2,q⟩
 |bk ρ'=>cases e2;exact q
 |ct ρ'=>cases e2;exact q
 |rt d k ρ'=>cases e2;exact q
theorem aN (h1:SD X st H₀ G):Ry X [st] H₀ G:=have h1:=h1.1; .mk<|Um h1
noncomputable def jM (T:aH->Option Bool)(G1 G2:bw->Option DR):bw->Option DR:=λρ=>(T (vis ρ)).bind λx=>if x=true then G1 ρ else G2 ρ
theorem iG {c:Expr}{T:aH->Option Bool}(hc:Od X c T)(ha:Ry X a H₀ G1)(hb:Ry X b H₀ G2):SD X (.If c a b pos) H₀ (jM T G1 G2):=have hc:=hc.1;have ha:=ha.1;have hb:=hb.1; .mk<|PS.imp (Zx hc ha hb) λE σ H ⟨ρ,γ,r,⟨O,R⟩,e,q⟩=>by
 obtain⟨x,e1,e2⟩:=bind_some e
 refine⟨cL,vis ρ,x,dj,R.vis,e1,λH1 s1=>?_⟩
 cases x with
 |true=>exact Ji ⟨ρ,γ,r,⟨O,R.mono s1⟩,e2,q⟩
 |false=>exact Jh ⟨ρ,γ,r,⟨O,R.mono s1⟩,e2,q⟩
noncomputable def three {α β:Type}(F:aH->Option α)(fl:α->Bool)(k:α->Bool->β)(ρ:bw):Option β:=(F (vis ρ)).bind λd=>
 if fl d=true then some (k d true)else match F (vals true ρ)with
  |some d'=>some (k d' true)
  |none=>(F (vals false ρ)).map λd'=>k d' false
theorem vM {α β:Type}{F:aH->Option α}{fl:α->Bool}{k:α->Bool->β}{ρ:bw}{r:β}(h:three F fl k ρ=some r):
 (∃d,F (vis ρ)=some d/\fl d=true/\r=k d true)\/∃fr d,F (vals fr ρ)=some d/\r=k d fr:=by
 unfold three at h
 obtain⟨d,e1,e2⟩:=bind_some h
 split at e2
 ·rename_i hc
  cases e2
  exact .inl ⟨d,e1,hc,rfl⟩
 ·split at e2
  ·rename_i d' e3
   cases e2
   exact .inr ⟨true,d',e3,rfl⟩
  ·cases e3:F (vals false ρ)with
   |none=>rw[e3]at e2;cases e2
   |some d'=>rw[e3]at e2;cases e2;exact .inr ⟨false,d',e3,rfl⟩
variable {e:Expr}{F:aH->Option D}
noncomputable def bF (i:Nat)(F:aH->Option D):bw->Option DR:=λρ=>three F flat (λd fr=> .nx (ρ.set i (some (.val d fr)))) ρ
theorem Oq {σ:L2.St}{H:Hp}{O:Addr->Prop}{ρ:bw}{γ:List Gh}{β:Type}{k:D->Bool->β}{r:β}{Q:VK}(R:gC O X.K H₀ H σ ρ γ)(h:three F flat k ρ=some r)
 (q:∀d fr v H',r=k d fr->bN H H'->gC O X.K H₀ H' σ ρ γ->Rep (AV fr O H₀) X.K H' d v->Q v H'):tD X.K F σ H Q:=by
 rcases vM h with⟨d,e1,hf,e2⟩|⟨fr,d,e1,e2⟩
 ·exact⟨cL,vis ρ,d,dj,R.vis,e1,λv H' s1 r1=>q d true v H' e2 s1 (R.mono s1) (Rep.dJ d hf r1)⟩
 ·exact⟨AV fr O H₀,vals fr ρ,d,AV.within R.wi R.same,R.vals,e1,λv H' s1 r1=>q d fr v H' e2 s1 (R.mono s1) r1⟩
theorem bO {i:Nat}{x:Str}{pos':Pos}(hN:X.N.Nodup)(hi:X.N[i]?=some x)(hx:Loc X.env.scope x)(he:ED X e F)(hs:swapsWith e (some (.Name x pos')) pos.line X.env=pure false:=by rfl)
 (hf:X.fn x=true\/X.env.scope.names.lookup x=some .local:=by first|exact .inl rfl|exact .inr rfl|assumption):SD X (.Assign [.Name x pos'] e pos) H₀ (bF i F):=have he:=he.1; .mk<|PS.imp (Ep hN hi hx he hs hf) λE σ H ⟨ρ,γ,r,⟨O,R⟩,e,q⟩=>Oq R e λd fr v H' e2 s1 R1 r1=>by
 subst e2
 exact q _ _ ⟨O,R1.JH r1⟩
noncomputable def tN (K:Fg)(F:aH->Option (List D)):TE:=λσ H Q=>∃(O:Addr->Prop) (ρ:aH) (l:List D),Within O H/\lZ O K H σ ρ/\F ρ=some l/\
 ∀p vs H',bN H H'->H p=none->H' p=some (.lst vs)->aU (λa=>O a\/a=p) K H' l vs->Q (.ref p) H'
structure EN (X:Cx)(e:Expr)(F:aH->Option (List D)):Prop where
 mk::(h:PE X e (tN X.K F))
variable {Fl:aH->Option (List D)}
noncomputable def gR (i:Nat)(F:aH->Option (List D)):bw->Option DR:=λρ=>three F flat.flats (λl fr=> .nx (ρ.set i (some (.own l fr none)))) ρ
theorem Jz {σ:L2.St}{H:Hp}{O:Addr->Prop}{ρ:bw}{γ:List Gh}{β:Type}{k:List D->Bool->β}{r:β}{Q:VK}(R:gC O X.K H₀ H σ ρ γ)(h:three Fl flat.flats k ρ=some r)
 (q:∀l fr p vs H',r=k l fr->bN H H'->H p=none->H' p=some (.lst vs)->aU (λa=>AV fr O H₀ a\/a=p) X.K H' l vs->Q (.ref p) H'):tN X.K Fl σ H Q:=by
 rcases vM h with⟨l,e1,hf,e2⟩|⟨fr,l,e1,e2⟩
 ·exact⟨cL,vis ρ,l,dj,R.vis,e1,λp vs H' s1 hp hl r1=>q l true p vs H' e2 s1 hp hl (aU.dJ l hf r1)⟩
 ·exact⟨AV fr O H₀,vals fr ρ,l,AV.within R.wi R.same,R.vals,e1,λp vs H' s1 hp hl r1=>q l fr p vs H' e2 s1 hp hl r1⟩
theorem jm {i:Nat}{x:Str}{pos':Pos}(hN:X.N.Nodup)(hi:X.N[i]?=some x)(hx:Loc X.env.scope x)(he:EN X e Fl)(hs:swapsWith e (some (.Name x pos')) pos.line X.env=pure false:=by rfl)
 (hf:X.fn x=true\/X.env.scope.names.lookup x=some .local:=by first|exact .inl rfl|exact .inr rfl|assumption):SD X (.Assign [.Name x pos'] e pos) H₀ (gR i Fl):=have he:=he.1; .mk<|PS.imp (Ep hN hi hx he hs hf) λE σ H ⟨ρ,γ,r,⟨O,R⟩,e,q⟩=>Jz R e λl fr p vs H' e2 s1 hp hl r1=>by
 subst e2
 exact q _ _ ⟨_,R.R5 s1 hp hl r1⟩
theorem jQ {es:List Expr}{Fs:aH->Option (List D)}(h:Dr X es Fs):EN X (.List es pos) (λρ=>(Fs ρ).bind λl=>if l.length<=sizeLine then some l else none):=have h:=h.1; .mk<|PE.imp (Qz h) λσ H Q ⟨O,ρ,l,w,r,e,q⟩=>by
 obtain⟨l',e1,e2⟩:=bind_some e
 split at e2
 case isFalse=>cases e2
 rename_i z
 cases e2
 exact⟨O,ρ,l,w,r,e1,λvs H1 s1 r1=>⟨by rw[<-r1.length];exact z,λp hp=>q p vs _ (s1.trans (bT hp)) (s1.free hp) cM ((aU.join hp l r1).mono (bT hp))⟩⟩
noncomputable def fc (F:aH->Option D):bw->Option DR:=λρ=>three F flat (λd fr=> .rt d (if fr=true then .new else .any) ρ) ρ
theorem eX (he:ED X e F):SD X (.Return (some e) pos) H₀ (fc F):=have he:=he.1; .mk<|PS.imp (Eo he) λE σ H ⟨ρ,γ,r,⟨O,R⟩,e,q⟩=>Oq R e λd fr v H' e2 s1 R1 r1=>by
 subst e2
 refine q v σ H' ⟨O,R1⟩ ?_
 cases fr with
 |true=>exact Rep.weak (λa z=> .inr ⟨rfl,z⟩) r1
 |false=>exact Rep.weak (λ_ z=>z.elim) r1
noncomputable def oH (F:aH->Option (List D)):bw->Option DR:=λρ=>three F flat.flats (λl fr=> .rt (.lst l) (if fr=true then .own else .any) ρ) ρ
theorem tH (he:EN X e Fl):SD X (.Return (some e) pos) H₀ (oH Fl):=have he:=he.1; .mk<|PS.imp (Eo he) λE σ H ⟨ρ,γ,r,⟨O,R⟩,e,q⟩=>Jz R e λl fr p vs H' e2 s1 hp hl r1=>by
 subst e2
 refine q (.ref p) σ H' ⟨O,R.mono s1⟩ ?_
 cases fr with
 |true=>exact⟨l,p,vs,rfl,rfl,R.same.free hp,hl,r1.weak λa z=>z.imp (λz=> .inr ⟨rfl,z⟩) id⟩
 |false=>exact⟨p,vs,rfl,⟨hl,λz=>z⟩,r1.weak λ_ z=>z.elim⟩
noncomputable def jf (i:Nat):bw->Option DR:=λρ=>match ρ[i]? with
 |some (some (.own l fr _))=>some (.rt (.lst l) (if fr||flat.flats l then .own else .any) ρ)
 |some (some (.val d fr))=>some (.rt d (if fr||flat d then .new else .any) ρ)
 |_=>none
theorem kj (i:Nat){x:Str}{p:Pos}(h:PE X (.Name x p) (Ba i)):SD X (.Return (some (.Name x p)) pos) H₀ (jf i):= .mk<|PS.imp (Eo h) λE σ H ⟨ρ,γ,r,⟨O,R⟩,e,q⟩=>by
 unfold jf at e
 split at e
 ·rename_i l fr tg e1
  cases e
  obtain⟨v,e2,p,vs,rfl,hO,hp,r1⟩:=R.rel i _ e1
  refine⟨_,e2,q _ σ H ⟨O,R⟩ ?_⟩
  split
  ·rename_i hc
   refine⟨l,p,vs,rfl,rfl,R.new p hO,hp,?_⟩
   rw[Bool.or_eq_true]at hc
   rcases hc with hc|hc
   ·subst hc
    exact r1.weak λa z=>z.elim (λz=> .inr ⟨rfl,z⟩) λz=> .inl (by rw[z];exact hO)
   ·exact aU.dJ l hc r1
  ·exact⟨p,vs,rfl,⟨hp,λz=>z⟩,r1.weak λ_ z=>z.elim⟩
 ·rename_i d fr e1
  cases e
  obtain⟨v,e2,r1⟩:=R.rel i _ e1
  have r1':Rep (AV fr O H₀) X.K H d v:=r1
  refine⟨_,e2,q _ σ H ⟨O,R⟩ ?_⟩
  split
  ·rename_i hc
   rw[Bool.or_eq_true]at hc
   rcases hc with hc|hc
   ·subst hc
    exact Rep.weak (λa z=> .inr ⟨rfl,z⟩) r1'
   ·exact Rep.dJ d hc r1'
  ·exact Rep.weak (λ_ z=>z.elim) r1'
 ·cases e
noncomputable def eF (i:Nat)(F:aH->Option D):bw->Option DR:=λρ=>match ρ[i]? with
 |some (some (.own l fr tg))=>if l.length<sizeLine then(F (vis ρ)).bind λd=>if flat d=true then some (.nx (ρ.set i (some (.own (l++[d]) fr tg))))else(F (vals fr ρ)).map λd'=> .nx (ρ.set i (some (.own (l++[d']) fr tg)))else none
 |_=>none
theorem jk (i:Nat){x:Str}{p apos cpos:Pos}(h:PE X (.Name x p) (Ba i))(he:ED X e F)(hbase:attributeBase (.Name x p) "append" X.env (eval (.Name x p) X.env)=eval (.Name x p) X.env:=by rfl)
 (hfew:((backTo cpos (starEach (e::[]) X.env)).all (λx=>!x.1)&&(backToKw cpos (keywordEach [] X.env)).all (λx=>x.1.isSome)
  &&decide ((e::[]).length+([]:List Keyword).length+(if([]:List Keyword).isEmpty then 0 else 1)<30))=true:=by rfl)
 (hline:(apos.endLine==cpos.line)=true:=by rfl)(hs:starEach (e::[]) X.env=(false,eval e X.env)::starEach [] X.env:=by rfl)(hsw:swapsWith (.Call (.Attribute (.Name x p) "append" apos) [e] [] cpos) none pos.line X.env=pure false:=by rfl):
 SD X (.Expr (.Call (.Attribute (.Name x p) "append" apos) [e] [] cpos) pos) H₀ (eF i F):=have he:=he.1; .mk<|PS.imp (zc (KH PySem.F.plainAttrs_list PySem.F.slot_list_append PySem.F.type_list_append CZ h (jo he oZ hs) hbase hfew hline hs rfl) hsw) λE σ H ⟨ρ,γ,r,⟨O,R⟩,e,q⟩=>by
 unfold eF at e
 split at e
 ·rename_i l fr tg e1
  split at e
  ·rename_i hz
   obtain⟨v,e2,p,vs,rfl,hO,hp,r1⟩:=id (R.rel i _ e1)
   refine⟨_,e2,.inl ⟨rfl,vs,oF.of hp⟩,?_⟩
   have fin:∀{H1:Hp}{d:D}{u:V},bN H H1->Rep (AV fr O H₀) X.K H1 d u->r= .nx (ρ.set i (some (.own (l++[d]) fr tg)))->Lf (.ref p) [u] H1 (λ_ H3=>E.nx σ H3):=λ{H1 d u} s1 ru er=>by
    subst er
    refine⟨p,vs,u,rfl,rfl,s1 _ _ hp,by rw[<-r1.length];exact hz,?_⟩
    exact q σ _ ⟨O,(R.mono s1).turn e1 e2 (s1 _ _ hp) hO ((r1.mono s1).append (aU.one ru))⟩
   obtain⟨d,e3,e4⟩:=bind_some e
   split at e4
   ·rename_i hf
    cases e4
    exact⟨cL,vis ρ,d,dj,R.vis,e3,λu H1 s1 ru=>fin s1 (Rep.dJ d hf ru) rfl⟩
   ·cases e5:F (vals fr ρ)with
    |none=>rw[e5]at e4;cases e4
    |some d'=>
     rw[e5]at e4
     cases e4
     exact⟨AV fr O H₀,vals fr ρ,d',AV.within R.wi R.same,R.vals,e5,λu H1 s1 ru=>fin s1 ru rfl⟩
  ·cases e
 ·cases e
noncomputable def tO (i:Nat)(G:bw->Option DR):bw->Option DR:=λρ=>match ρ[i]? with
 |some (some (.own l fr _))=>G (ρ.set i (some (.val (.lst l) fr)))
 |_=>G ρ
theorem Eu (i:Nat)(h:SD X st H₀ G):SD X st H₀ (tO i G):=have h:=h.1; .mk<|PS.imp h λE σ H ⟨ρ,γ,r,⟨O,R⟩,e,q⟩=>by
 unfold tO at e
 split at e
 ·rename_i l fr tg e1
  obtain⟨O',R'⟩:=R.freeze e1
  exact⟨_,γ,r,⟨O',R'⟩,e,q⟩
 ·exact⟨ρ,γ,r,⟨O,R⟩,e,q⟩
noncomputable def Walk (K:Fg)(ds:List D)(J:It)(γ:List (D×V)):Prop:=∀H2,(∀g∈γ,Rep cL K H2 g.1 g.2)->
 (∀i,i<ds.length->J.go i H2)/\J.stop ds.length H2/\∀i x H3,i<ds.length->J.yld i H2 x H3->bN H2 H3/\∀O,Within O H2->(∀g∈γ,Rep O K H2 g.1 g.2)->∃d,ds[i]?=some d/\Rep O K H3 d x
noncomputable def tI (K:Fg)(F:aH->Option (List D×List D)):TI:=λσ H R=>∃(O:Addr->Prop) (ρ:aH) (ds gs:List D),Within O H/\lZ O K H σ ρ/\F ρ=some (ds,gs)/\
 ∀J H1 γ,bN H H1->γ.map (·.1)=gs->(∀g∈γ,Rep O K H1 g.1 g.2)->Walk K ds J γ->R J H1
structure EI (X:Cx)(tg iter:Expr)(F:aH->Option (List D×List D)):Prop where
 mk::(h:PI X tg iter (tI X.K F))
noncomputable def tG (K:Fg)(H₀:Hp)(T:D->Bool->bw->Option bw):TG:=λv σ H Q=>∃(O:Addr->Prop) (ρ ρ':bw) (γ:List Gh) (d:D) (fr:Bool),gC O K H₀ H σ ρ γ/\Rep (AV fr O H₀) K H d v/\T d fr ρ=some ρ'/\∀σ',gC O K H₀ H σ' ρ' γ->Q σ' H
structure EG (X:Cx)(H₀:Hp)(tg:Expr)(T:D->Bool->bw->Option bw):Prop where
 mk::(h:PG X tg (tG X.K H₀ T))
theorem _root_.L2.PG.imp {X:Cx}{e:Expr}{t t':TG}(h:PG X e t)(k:∀v σ H Q,t' v σ H Q->t v σ H Q):PG X e t':=λpins s σ H v u Q I r q=>h pins s σ H v u Q I r (k v σ H Q q)
noncomputable def aF (i:Nat):D->Bool->bw->Option bw:=λd fr ρ=>some (ρ.set i (some (.val d fr)))
theorem cW {i:Nat}{x:Str}(hN:X.N.Nodup)(hi:X.N[i]?=some x)(hx:Loc X.env.scope x)(hf:X.fn x=true\/X.env.scope.names.lookup x=some .local:=by first|exact .inl rfl|exact .inr rfl|assumption):EG X H₀ (.Name x pos) (aF i):= .mk<|PG.imp (KR hN hi hx hf) λv σ H Q ⟨O,ρ,ρ',γ,d,fr,R,r,e,q⟩=>by
 cases e
 exact q _ (R.JH r)
noncomputable def tGs (K:Fg)(H₀:Hp)(T:List D->Bool->bw->Option bw):Rz:=λvs σ H Q=>∃(O:Addr->Prop) (ρ ρ':bw) (γ:List Gh) (l:List D) (fr:Bool),gC O K H₀ H σ ρ γ/\aU (AV fr O H₀) K H l vs/\T l fr ρ=some ρ'/\∀σ',gC O K H₀ H σ' ρ' γ->Q σ' H
structure EGs (X:Cx)(H₀:Hp)(ts:List Expr)(T:List D->Bool->bw->Option bw):Prop where
 mk::(h:Ma X ts (tGs X.K H₀ T))
theorem _root_.L2.Ma.imp {X:Cx}{e:List Expr}{t t':Rz}(h:Ma X e t)(k:∀v σ H Q,t' v σ H Q->t v σ H Q):Ma X e t':=λpins s σ H v u Q I r q=>h pins s σ H v u Q I r (k v σ H Q q)
noncomputable def dM:List D->Bool->bw->Option bw:=λl _ ρ=>match l with
 |[]=>some ρ
 |_=>none
theorem oG:EGs X H₀ [] dM:= .mk<|Ma.imp KY λvs σ H Q ⟨O,ρ,ρ',γ,l,fr,R,r,e,q⟩=>by
 cases l with
 |nil=>cases e;exact⟨r,q σ R⟩
 |cons d l=>cases e
noncomputable def aZ (T:D->Bool->bw->Option bw)(U:List D->Bool->bw->Option bw):List D->Bool->bw->Option bw:=λl fr ρ=>match l with
 |d::l=>(T d fr ρ).bind λρ'=>U l fr ρ'
 |[]=>none
theorem fV {tg:Expr}{Fq:List Expr}{T:D->Bool->bw->Option bw}{U:List D->Bool->bw->Option bw}(h1:EG X H₀ tg T)(h2:EGs X H₀ Fq U)
 (hs:(assignEach (tg::Fq) X.env).map (·.2)=assign tg X.env::(assignEach Fq X.env).map (·.2):=by rfl):EGs X H₀ (tg::Fq) (aZ T U):=have h1:=h1.1;have h2:=h2.1; .mk<|Ma.imp (HR h1 h2 hs) λvs σ H Q ⟨O,ρ,ρ',γ,l,fr,R,r,e,q⟩=>by
 cases l with
 |nil=>cases e
 |cons d l=>
  obtain⟨uo,e1,e2⟩:=bind_some e
  obtain⟨v,us,rfl,r1,r2⟩:=r
  exact⟨v,us,rfl,O,ρ,uo,γ,d,fr,R,r1,e1,λσ' R'=>⟨O,uo,ρ',γ,l,fr,R',r2,e2,q⟩⟩
noncomputable def dF (n:Nat)(T:List D->Bool->bw->Option bw):D->Bool->bw->Option bw:=λd fr ρ=>match d with
 | .tup l=>if l.length=n then T l fr ρ else none
 |_=>none
theorem rB {Fq:List Expr}{k n:Nat}{T:List D->Bool->bw->Option bw}(hc:X.calm=true)(h:EGs X H₀ Fq T)(hn:(assignEach Fq X.env).length=n:=by rfl)(hst:(assignEach Fq X.env).findIdx? (·.1)=none:=by rfl):
 EG X H₀ (.Tuple Fq k pos) (dF n T):=have h:=h.1; .mk<|PG.imp (QD hc h hn hst) λv σ H Q ⟨O,ρ,ρ',γ,d,fr,R,r,e,q⟩=>by
 cases d with
 |tup l=>
  simp only[dF]at e
  split at e
  ·rename_i hl
   obtain⟨a,vs,rfl,h1,h2⟩:=r
   exact⟨a,vs,rfl,h1,by rw[<-h2.length];exact hl,O,ρ,ρ',γ,l,fr,R,h2,e,q⟩
  ·cases e
 |_=>cases e
noncomputable def cT (T:D->Bool->bw->Option bw)(G:bw->Option DR)(fr:Bool):List D->bw->Option DR
 |[],ρ=>some (.nx ρ)
 |d::ds,ρ=>(T d fr ρ).bind λuo=>(G uo).bind λr=>match r with
  | .nx Bk=>cT T G fr ds Bk
  | .ct Bk=>cT T G fr ds Bk
  | .bk Bk=>some (.nx Bk)
  | .rt d k Bk=>some (.rt d k Bk)
noncomputable def f9 (F:aH->Option (List D×List D))(T:D->Bool->bw->Option bw)(G:bw->Option DR):bw->Option DR:=λρ=>
 (three F (λr=>flat.flats r.1&&flat.flats r.2) (λr fr=>(r.1,fr)) ρ).bind λr=>cT T G r.2 r.1 ρ
theorem wA:∀{l:List D}{d:D},flat.flats l=true->d∈l->flat d=true
 |x::l,d,h,hm=>by
  simp only[flat.flats,Bool.and_eq_true]at h
  rcases List.mem_cons.mp hm with rfl|hm
  ·exact h.1
  ·exact wA h.2 hm
theorem gC.more {O:Addr->Prop}{K:Fg}{H:Hp}{σ:L2.St}{ρ:bw}{γ γ':List Gh}(h:gC O K H₀ H σ ρ γ)(hg:∀g∈γ',Rep (AV g.fr O H₀) K H g.d g.v):gC O K H₀ H σ ρ (γ'++γ):=
 ⟨h.same,h.wi,h.new,h.rel,h.apart,h.len,λg hm ht=>(List.mem_append.mp hm).elim (hg g) (λz=>h.gh g z ht),λi l fr t e=>let⟨g,a,b,c⟩:=h.tag i l fr t e;⟨g,List.mem_append_right _ a,b,c⟩⟩
theorem gC.less {O:Addr->Prop}{K:Fg}{H:Hp}{σ:L2.St}{ρ:bw}{γ γ':List Gh}(h:gC O K H₀ H σ ρ (γ'++γ))(hn:∀g∈γ',g.tag=none):gC O K H₀ H σ ρ γ:=
 ⟨h.same,h.wi,h.new,h.rel,h.apart,h.len,λg hm ht=>h.gh g (List.mem_append_right _ hm) ht,λi l fr t e=>by
  obtain⟨g,a,b,c⟩:=h.tag i l fr t e
  rcases List.mem_append.mp a with a|a
  ·rw[hn g a]at b;cases b
  ·exact⟨g,a,b,c⟩⟩
theorem zL {T:D->Bool->bw->Option bw}{E:Ends}{ds:List D}{fr:Bool}{r:DR}{ρ:bw}{γ:List Gh}{O:Addr->Prop}{σ:L2.St}{H:Hp}(R:gC O X.K H₀ H σ ρ γ)(q:Yj X.K H₀ γ E r)(e2:cT T G fr ds ρ=some r)
 (J:It)(H1:Hp)(γ':List (D×V))(s1:bN H H1)(Wq:∀g∈γ',Rep (AV fr O H₀) X.K H1 g.1 g.2)(wk:Walk X.K ds J γ'):
  ∃W:Nat->Nat->L2.St->Hp->Prop,(∃m,W 0 m σ H1)/\∀i m σ H,W i m σ H->(J.stop i H/\E.nx σ H)\/(J.go i H/\∃N:L2.St->Hp->Prop,(∀σ' H',N σ' H'->∃m',m'<m/\W (i+1) m' σ' H')/\
   ∀x H',J.yld i H x H'->tG X.K H₀ T x σ H' λσ2 H2=>tS X.K H₀ G { E with nx:=N,ct:=N,bk:=E.nx } σ2 H2):=by
 have gm:∀{O:Addr->Prop}{H:Hp}{σ:L2.St}{ρ:bw},gC O X.K H₀ H σ ρ (γ'.map (λg=>(⟨g.1,fr,g.2,none⟩:Gh))++γ)->∀g∈γ',Rep (AV fr O H₀) X.K H g.1 g.2:=λR g hg=>R.gh ⟨g.1,fr,g.2,none⟩ (List.mem_append_left _ (List.mem_map.mpr ⟨g,hg,rfl⟩)) rfl
 have gn:∀g∈γ'.map (λg=>(⟨g.1,fr,g.2,none⟩:Gh)),g.tag=none:=λg hm=>by
  obtain⟨g',_,rfl⟩:=List.mem_map.mp hm
  rfl
 refine⟨λi m σ H=>m=ds.length - i/\i<=ds.length/\∃ρi,VJ X.K H₀ H σ ρi (γ'.map (λg=>(⟨g.1,fr,g.2,none⟩:Gh))++γ)/\cT T G fr (ds.drop i) ρi=some r,⟨ds.length,by simp,Nat.zero_le _,ρ,⟨O,(R.mono s1).more λg hm=>?_⟩,e2⟩,?_⟩
 ·obtain⟨g',hg',rfl⟩:=List.mem_map.mp hm
  exact Wq g' hg'
 ·rintro i m σ2 H2 ⟨rfl,hi,ρi,⟨O2,R2⟩,e3⟩
  obtain⟨w1,w2,w3⟩:=wk H2 λg hg=>Rep.weak (λ_ z=>z.elim) (gm R2 g hg)
  by_cases hlt:i<ds.length
  ·rw[List.drop_eq_getElem_cons hlt]at e3
   obtain⟨uo,e4,e5⟩:=bind_some e3
   obtain⟨r1,e6,e7⟩:=bind_some e5
   refine .inr ⟨w1 i hlt,λσ' H'=>∃Bk,VJ X.K H₀ H' σ' Bk (γ'.map (λg=>(⟨g.1,fr,g.2,none⟩:Gh))++γ)/\cT T G fr (ds.drop (i+1)) Bk=some r,λσ' H' ⟨Bk,R',e8⟩=>⟨ds.length - (i+1),by omega,rfl,hlt,Bk,R',e8⟩,λx H' y=>?_⟩
   obtain⟨s2,w4⟩:=w3 i x H' hlt y
   obtain⟨d,e8,r8⟩:=w4 (AV fr O2 H₀) (AV.within R2.wi R2.same) (gm R2)
   rw[List.getElem?_eq_getElem hlt]at e8
   cases e8
   refine⟨O2,ρi,uo,_,_,fr,R2.mono s2,r8,e4,λσ3 R3=>⟨uo,_,r1,⟨O2,R3⟩,e6,?_⟩⟩
   cases r1 with
   |nx Bk=>exact λσ' H' R'=>⟨Bk,R',e7⟩
   |ct Bk=>exact λσ' H' R'=>⟨Bk,R',e7⟩
   |bk Bk=>cases e7;exact λσ' H' ⟨O',R'⟩=>q σ' H' ⟨O',R'.less gn⟩
   |rt d k Bk=>cases e7;exact λv σ' H' ⟨O',R'⟩ hr=>q v σ' H' ⟨O',R'.less gn⟩ hr
  ·have:i=ds.length:=by omega
   subst this
   rw[List.drop_length]at e3
   cases e3
   exact .inl ⟨w2,q σ2 H2 ⟨O2,R2.less gn⟩⟩
theorem iJ {tg iter:Expr}{body:List Stmt}{FI:aH->Option (List D×List D)}{T:D->Bool->bw->Option bw}(hp:PassesOwn (model X.prog X.w) X.A X.env X.xe)(hc:X.calm=true)(hi:EI X tg iter FI)(hg:EG X H₀ tg T)(hb:Ry X body H₀ G)
 (hs:∀x,foldedSetIterable iter X.env x=pure x:=by intro _;rfl):SD X (.For tg iter body [] pos) H₀ (f9 FI T G):=have hi:=hi.1;have hg:=hg.1;have hb:=hb.1; .mk<|PS.imp (QK hp hc hi hg hb hs) λE σ H ⟨ρ,γ,r,⟨O,R⟩,e,q⟩=>by
 obtain⟨⟨ds,fr⟩,e1,e2⟩:=bind_some e
 rcases vM e1 with⟨⟨ds',gs⟩,e3,hf,e4⟩|⟨fr',⟨ds',gs⟩,e3,e4⟩
 ·cases e4
  refine⟨cL,vis ρ,_,gs,dj,R.vis,e3,λJ H1 γ' s1 eg Wq wk=>zL R q e2 J H1 γ' s1 (λg hg=>?_) wk⟩
  rw[Bool.and_eq_true]at hf
  exact Rep.dJ _ (wA hf.2 (by rw[<-eg];exact List.mem_map.mpr ⟨g,hg,rfl⟩)) (Wq g hg)
 ·cases e4
  exact⟨AV _ O H₀,vals _ ρ,_,gs,AV.within R.wi R.same,R.vals,e3,λJ H1 γ' s1 eg Wq wk=>zL R q e2 J H1 γ' s1 Wq wk⟩
noncomputable def pX (K:Fg)(F:List D->Option (D×RK)):Sp:=λvs H Q _=>∃ds d k,aU cL K H ds vs/\F ds=some (d,k)/\∀v H',bN H H'->VL K H H' d k v->Q v H'
noncomputable def aW (n:Nat)(ds:List D):bw:=ds.map (λd=>some (.val d false))++List.replicate (n - ds.length) none
noncomputable def fW:Option DR->Option (D×RK)
 |some (.rt d k _)=>some (d,k)
 |some (.nx _)=>some (.non,.new)
 |_=>none
theorem NZ {K:Fg}{H:Hp}{N:List Str}{ds:List D}{vs:List V}(h:aU cL K H ds vs):gC cL K H H (L2.start N vs) (aW N.length ds) []:=by
 have hl:=h.length
 refine⟨bN.refl H,dj,λ_ z=>z.elim,λi l e=>?_,λi j l m p e o=>?_,?_,λg hg=>(nomatch hg),λi l fr t e=>?_⟩
 rotate_left 3
 ·exfalso
  unfold aW at e
  by_cases hi:i<ds.length
  ·rw[List.getElem?_append_left (by simpa using hi),List.getElem?_map]at e
   cases e1:ds[i]? with
   |none=>rw[e1]at e;cases e
   |some d=>rw[e1]at e;cases e
  ·rw[List.getElem?_append_right (by simpa using hi),List.getElem?_replicate]at e
   split at e<;>cases e
 ·unfold aW at e
  by_cases hi:i<ds.length
  ·rw[List.getElem?_append_left (by simpa using hi),List.getElem?_map]at e
   cases e1:ds[i]? with
   |none=>rw[e1]at e;cases e
   |some d=>
    rw[e1]at e
    cases e
    obtain⟨v,e2,r⟩:=h.get e1
    refine⟨v,?_,Rep.weak (λa z=>z.elim id λz=>by cases z.1) r⟩
    unfold L2.start
    rw[List.getElem?_append_left (by simpa using(by omega:i<vs.length)),List.getElem?_map,e2]
    rfl
  ·rw[List.getElem?_append_right (by simpa using hi),List.getElem?_replicate]at e
   split at e<;>cases e
 ·exfalso
  unfold aW at e
  by_cases hi:i<ds.length
  ·rw[List.getElem?_append_left (by simpa using hi),List.getElem?_map]at e
   cases e1:ds[i]? with
   |none=>rw[e1]at e;cases e
   |some d=>rw[e1]at e;cases e;cases o
  ·rw[List.getElem?_append_right (by simpa using hi),List.getElem?_replicate]at e
   split at e<;>cases e
 ·unfold L2.start aW
  simp[hl]
theorem a0g {P:Program}{w:World}{K:Fg}{mg:Str->Option Value}{base:Heap}{x qual:Str}{st:Stmt}{f:Addr}{fd:FuncData}{N ps:List Str}{k:Nat}{Gb:bw->Option DR}(F:pZ K x qual st f fd)(S:bQ N ps (aJ st))
 (hb:∀(cdv:Value) (A:Around) (outer:List Env) (s:Shared) (H:Hp) (E:XK),j9 k (A.deeper (envOfC qual (aJ st) s.heap.objs.size f cdv))->wR (DK mD P w K mg base N qual (aJ st) f cdv A outer s H E).X4 (bL st) (tS K H Gb)):
 eZ P w K mg base mD (k+1) f fd ps (pX K λds=>if ds.length=ps.length then fW (Gb (aW N.length ds))else none):=by
 refine F.ok S (λvs H Q E h=>?_) λcdv A outer s H vs Q E hr h=>⟨_,hb cdv A outer s H E hr,?_⟩
 ·obtain⟨ds,d,k',r,e,q⟩:=h
  dsimp only at e
  split at e
  ·rename_i hl
   rw[<-r.length];exact hl
  ·cases e
 ·obtain⟨ds,d,k',r,e,q⟩:=h
  dsimp only at e
  split at e
  ·cases eg:Gb (aW N.length ds)with
   |none=>rw[eg]at e;cases e
   |some r1=>
    rw[eg]at e
    refine⟨aW N.length ds,[],r1,⟨cL,NZ r⟩,eg,?_⟩
    cases r1 with
    |nx ρ=>cases e;exact λσ H' ⟨O,R⟩=>q .non H' R.same rfl
    |bk ρ=>cases e
    |ct ρ=>cases e
    |rt d' k2 Bk=>cases e;exact λv σ H' ⟨O,R⟩ r1=>q v H' R.same r1
  ·cases e
noncomputable def rF:D×RK->Option D
 |(d,.any)=>if flat d=true then some d else none
 |(d,_)=>some d
theorem zf {O:Addr->Prop}{K:Fg}{H H':Hp}{d d':D}{k:RK}{v:V}(w:Within O H)(h:VL K H H' d k v)(e:rF (d,k)=some d'):d'=d/\Rep O K H' d v:=by
 cases k with
 |any=>
  simp only[rF]at e
  split at e
  ·rename_i hf
   cases e
   exact⟨rfl,Rep.dJ d hf h⟩
  ·cases e
 |new=>cases e;exact⟨rfl,Rep.weak w h⟩
 |own=>
  cases e
  obtain⟨l,p,vs,rfl,rfl,h0,h1,h2⟩:=h
  exact⟨rfl,p,vs,rfl,⟨h1,w.new h0⟩,h2.weak λa z=> .inl (w a z)⟩
section
variable {CX:JW}{k:Nat}{f C:Addr}{fd:FuncData}{ps:List Str}{ur:List V}{yE:List D}{ds:List Value}{x m:Str}{p apos:Pos}{o:Expr}{es:List Expr}{Fs:aH->Option (List D)}{Ff:List D->Option (D×RK)}
theorem S8 {σ:L2.St}{H:Hp}{Q:VK}{E:XK}(hdd:∀H,aU cL X.K H yE ur)(h:tD X.K (λρ=>(Fs ρ).bind λl=>(Ff (l++yE)).bind rF) σ H Q):tDs X.K Fs σ H λvs H1=>pX X.K Ff (vs++ur) H1 Q E:=by
 obtain⟨O,ρ,d,w,r,e,q⟩:=h
 obtain⟨l,e1,e2⟩:=bind_some e
 obtain⟨⟨d',k'⟩,e3,e4⟩:=bind_some e2
 refine⟨O,ρ,l,w,r,e1,λvs H1 s1 r1=>⟨l++yE,d',k',(r1.weak λ_ z=>z.elim).append (hdd H1),e3,λv H' s2 r2=>?_⟩⟩
 obtain⟨rfl,r3⟩:=zf (w.mono s1) r2 e4
 exact q v H' (s1.trans s2) r3
theorem Sy (F:eZ X.prog X.w X.K X.mg X.base mD k f fd ps (pX X.K Ff))(hr:j9 k X.A)(hg:Gl X x)(hm:X.mg x=some (.ref f))(hk:PySem.W.keepIn X.K (.ref f)=true)(hb:Binds X.K fd ps ds)(hd:Vals ur ds)(hdd:∀H,aU cL X.K H yE ur)
 (ha:Dr X (e::es) Fs)(hdb:(x==("__debug__":Str))=false:=by decide)(he:starEach (e::es) X.env=(false,eval e X.env)::starEach es X.env:=by rfl)(hpl:(backTo pos (starEach es X.env)).any (·.1)=false:=by rfl):
 ED X (.Call (.Name x p) (e::es) [] pos) (λρ=>(Fs ρ).bind λl=>(Ff (l++yE)).bind rF):=have ha:=ha.1; .mk<|PE.imp (En (E:=E0) F hr hg hm hk hb hd HQ ha hdb he hpl) λσ H Q h=>S8 hdd h
noncomputable def Hi:D×RK->Option (List D)
 |(.lst l,.own)=>some l
 |_=>none
theorem Ov {σ:L2.St}{H:Hp}{Q:VK}{E:XK}(hdd:∀H,aU cL X.K H yE ur)(h:tN X.K (λρ=>(Fs ρ).bind λl=>(Ff (l++yE)).bind Hi) σ H Q):tDs X.K Fs σ H λvs H1=>pX X.K Ff (vs++ur) H1 Q E:=by
 obtain⟨O,ρ,d,w,r,e,q⟩:=h
 obtain⟨l,e1,e2⟩:=bind_some e
 obtain⟨⟨d',k'⟩,e3,e4⟩:=bind_some e2
 refine⟨O,ρ,l,w,r,e1,λvs H1 s1 r1=>⟨l++yE,d',k',(r1.weak λ_ z=>z.elim).append (hdd H1),e3,λv H' s2 r2=>?_⟩⟩
 cases d'<;>cases k'<;>simp only[Hi]at e4<;>try (cases e4;done)
 cases e4
 obtain⟨l',p,vs',el,rfl,h0,h1,h2⟩:=r2
 cases el
 exact q p vs' H' (s1.trans s2) (s1.free h0) h1 (h2.weak λa z=>z.imp ((w.mono s1) a) id)
theorem SQ (F:eZ X.prog X.w X.K X.mg X.base mD k f fd ps (pX X.K Ff))(hr:j9 k X.A)(hg:Gl X x)(hm:X.mg x=some (.ref f))(hk:PySem.W.keepIn X.K (.ref f)=true)(hb:Binds X.K fd ps ds)(hd:Vals ur ds)(hdd:∀H,aU cL X.K H yE ur)
 (ha:Dr X (e::es) Fs)(hdb:(x==("__debug__":Str))=false:=by decide)(he:starEach (e::es) X.env=(false,eval e X.env)::starEach es X.env:=by rfl)(hpl:(backTo pos (starEach es X.env)).any (·.1)=false:=by rfl):
 EN X (.Call (.Name x p) (e::es) [] pos) (λρ=>(Fs ρ).bind λl=>(Ff (l++yE)).bind Hi):=have ha:=ha.1; .mk<|PE.imp (En (E:=E0) F hr hg hm hk hb hd HQ ha hdb he hpl) λσ H Q h=>Ov hdd h
end
theorem dZ {Fl:aH->Option (List D)}(h:EN X e Fl):ED X e (λρ=>(Fl ρ).map .lst):=have h:=h.1; .mk<|PE.imp h λσ H Q ⟨O,ρ,d,w,r,e1,q⟩=>by
 dsimp only at e1
 cases e2:Fl ρ with
 |none=>rw[e2]at e1;cases e1
 |some l=>
  rw[e2]at e1
  cases e1
  exact⟨O,ρ,l,w,r,e2,λp vs H' s1 hp hl r1=>q _ H' s1 ⟨p,vs,rfl,⟨hl,w.new hp⟩,r1.weak λ_ z=> .inl z⟩⟩
end
section
variable {X:Cx}{tg e:Expr}{F:aH->Option D}{pos:Pos}
noncomputable def itL:D->Option (List D×List D)
 | .lst l=>some (l,[.lst l])
 |_=>none
noncomputable def Z4:D->Option (List D×List D)
 | .tup l=>some (l,[.tup l])
 |_=>none
theorem _root_.L2.PI.imp {X:Cx}{tg e:Expr}{t t':TI}(h:PI X tg e t)(k:∀σ H R,t' σ H R->t σ H R):PI X tg e t':=λpins s σ H R I q=>h pins s σ H R I (k σ H R q)
theorem Rm {K:Fg}{a:Addr}{l:List D}:Walk K l (Itl K a) [(.lst l,.ref a)]:=λH2 h=>by
 obtain⟨a',vs,ea,⟨h1,_⟩,h2⟩:=h _ (List.mem_singleton.mpr rfl)
 cases ea
 have hl:=h2.length
 refine⟨λi hi=>⟨vs,vs[i],oF.of h1,by simp⟩,⟨vs,oF.of h1,by omega⟩,λi x H3 hi y=>?_⟩
 obtain⟨rfl,y⟩:=y
 refine⟨bN.refl _,λO w hg=>?_⟩
 obtain⟨a',us,ea,⟨h3,_⟩,h4⟩:=hg _ (List.mem_singleton.mpr rfl)
 cases ea
 exact h4.MN (y us (oF.of h3))
theorem Rn {K:Fg}{a:Addr}{l:List D}:Walk K l (Itt K a) [(.tup l,.ref a)]:=λH2 h=>by
 obtain⟨a',vs,ea,h1,h2⟩:=h _ (List.mem_singleton.mpr rfl)
 cases ea
 have hl:=h2.length
 refine⟨λi hi=>⟨vs,vs[i],h1,by simp⟩,⟨vs,h1,by omega⟩,λi x H3 hi y=>?_⟩
 obtain⟨rfl,y⟩:=y
 refine⟨bN.refl _,λO w hg=>?_⟩
 obtain⟨a',us,ea,h3,h4⟩:=hg _ (List.mem_singleton.mpr rfl)
 cases ea
 exact h4.MN (y us h3)
theorem Wf (h:ED X e F):EI X tg e (λρ=>(F ρ).bind itL):=have h:=h.1; .mk<|PI.imp (Ug h) λσ H R ⟨O,ρ,ds,gs,w,r,e,q⟩=>by
 obtain⟨d,e1,e2⟩:=bind_some e
 cases d<;>simp only[itL]at e2<;>try (cases e2;done)
 cases e2
 refine⟨O,ρ,.lst ds,w,r,e1,λv H1 s1 r1=>?_⟩
 obtain⟨a,vs,rfl,h1,h2⟩:=id r1
 exact⟨a,rfl,⟨vs,oF.of h1.1⟩,q _ H1 [(.lst ds,.ref a)] s1 rfl (λg hg=>by rw[List.mem_singleton.mp hg];exact r1) Rm⟩
theorem Wg (h:ED X e F):EI X tg e (λρ=>(F ρ).bind Z4):=have h:=h.1; .mk<|PI.imp (Xo h) λσ H R ⟨O,ρ,ds,gs,w,r,e,q⟩=>by
 obtain⟨d,e1,e2⟩:=bind_some e
 cases d<;>simp only[Z4]at e2<;>try (cases e2;done)
 cases e2
 refine⟨O,ρ,.tup ds,w,r,e1,λv H1 s1 r1=>?_⟩
 obtain⟨a,vs,rfl,h1,h2⟩:=id r1
 exact⟨a,rfl,⟨vs,h1⟩,q _ H1 [(.tup ds,.ref a)] s1 rfl (λg hg=>by rw[List.mem_singleton.mp hg];exact r1) Rn⟩
noncomputable def lN (lo:Int)(n:Nat):List D:=(List.range n).map λi=> .int (lo+(i:Nat))
noncomputable def itR:D->Option (List D×List D)
 | .int j=>if -(2 ^ 62)<=j/\j<2 ^ 62 then some (lN 0 j.toNat,[])else none
 |_=>none
theorem QT {lo:Int}{n i:Nat}(h:i<n):(lN lo n)[i]?=some (.int (lo+(i:Nat))):=by
 unfold lN
 rw[List.getElem?_map,List.getElem?_range h]
 rfl
theorem rN {lo:Int}{n:Nat}:(lN lo n).length=n:=by simp[lN]
theorem Iu {K:Fg}{lo:Int}{n:Nat}:Walk K (lN lo n) (Yk lo n) []:=λH2 h=>by
 refine⟨λi hi=>by rw[rN]at hi;exact hi,by rw[rN];exact Nat.le_refl _,λi x H3 hi y=>?_⟩
 obtain⟨rfl,rfl⟩:=y
 rw[rN]at hi
 exact⟨bN.refl _,λO w hg=>⟨_,QT hi,rfl⟩⟩
theorem jD {a:Expr}{Fa:aH->Option D}{p:Pos}(hg:Gl X "range")(hm:X.mg "range"=none)(ha:ED X a Fa)(hs:starEach [a] X.env=[(false,eval a X.env)]:=by rfl):
 EI X tg (.Call (.Name "range" p) [a] [] pos) (λρ=>(Fa ρ).bind itR):=have ha:=ha.1; .mk<|PI.imp (Nz hg hm (ak ⟨ha⟩ au hs).1 hs) λσ H R ⟨O,ρ,ds,gs,w,r,e,q⟩=>by
 obtain⟨d,e1,e2⟩:=bind_some e
 cases d<;>simp only[itR]at e2<;>try (cases e2;done)
 rename_i j
 split at e2
 ·rename_i hj
  cases e2
  refine⟨O,ρ,[.int j],w,r,by simp only[e1];rfl,λvs H1 s1 r1=>?_⟩
  obtain⟨v,us,rfl,r2,r3⟩:=r1
  cases r2
  cases r3
  exact⟨j,rfl,hj.1,hj.2,q _ H1 [] s1 rfl (λg hg=>by cases hg) Iu⟩
 ·cases e2
variable {elt iter:Expr}{ifs:List Expr}{scope:Scope}{jg:List Str}{cap:List (Option Nat)}
noncomputable def inD (cap:List (Option Nat))(ρ:aH):aH:=cap.map λo=>match o with
 |some i=>at? ρ i
 |none=>none
theorem Tf {O:Addr->Prop}{K:Fg}{H:Hp}{σ:L2.St}{ρ:aH}(h:lZ O K H σ ρ):lZ O K H (uA cap σ) (inD cap ρ):=λj d e=>by
 unfold inD at e
 rw[List.getElem?_map]at e
 cases e1:cap[j]? with
 |none=>rw[e1]at e;cases e
 |some o=>
  rw[e1]at e
  cases o with
  |none=>cases e
  |some i=>
   simp only[Option.map_some,Option.some.injEq]at e
   obtain⟨v,a,b⟩:=h i d (Ot e)
   refine⟨v,?_,b⟩
   unfold uA
   rw[List.getElem?_map,e1]
   simp[a]
noncomputable def tGD (K:Fg)(js:List Nat)(T:D->aH->Option aH):TG:=λv σ H Q=>∃(O:Addr->Prop) (ρ ρ':aH) (d:D),lZ O K H σ ρ/\σ.length=ρ.length/\Rep O K H d v/\T d ρ=some ρ'/\
 ∀σ',lZ O K H σ' ρ'->σ'.length=ρ'.length->(∀j,j∉js->σ'[j]?=σ[j]?)->Q σ' H
structure Yi (X:Cx)(tg:Expr)(js:List Nat)(T:D->aH->Option aH):Prop where
 mk::(h:PG X tg (tGD X.K js T))
noncomputable def aV (i:Nat):D->aH->Option aH:=λd ρ=>some (ρ.set i (some d))
theorem lZ.set {O:Addr->Prop}{K:Fg}{H:Hp}{σ:L2.St}{ρ:aH}{i:Nat}{d:D}{v:V}(h:lZ O K H σ ρ)(hl:σ.length=ρ.length)(r:Rep O K H d v):lZ O K H (σ.set i (some v)) (ρ.set i (some d)):=λj d' e=>by
 rcases di e with⟨rfl,e,hi⟩|⟨hj,e⟩
 ·cases e
  exact⟨v,List.getElem?_set_self (by rw[hl];exact hi),r⟩
 ·obtain⟨u,a,b⟩:=h j d' e
  exact⟨u,by rw[List.getElem?_set_ne (Ne.symm hj)];exact a,b⟩
theorem bW {i:Nat}{x:Str}(hN:X.N.Nodup)(hi:X.N[i]?=some x)(hx:Loc X.env.scope x)(hf:X.fn x=true\/X.env.scope.names.lookup x=some .local:=by first|exact .inl rfl|exact .inr rfl|assumption):Yi X (.Name x pos) [i] (aV i):= .mk<|PG.imp (KR hN hi hx hf) λv σ H Q ⟨O,ρ,ρ',d,R,hl,r,e,q⟩=>by
 cases e
 exact q _ (R.set hl r) (by rw[List.length_set,List.length_set];exact hl) λj hj=>List.getElem?_set_ne (λz=>hj (by rw[z];exact List.mem_singleton.mpr rfl))
noncomputable def a0Q (K:Fg)(js:List Nat)(T:List D->aH->Option aH):Rz:=λvs σ H Q=>∃(O:Addr->Prop) (ρ ρ':aH) (l:List D),lZ O K H σ ρ/\σ.length=ρ.length/\aU O K H l vs/\T l ρ=some ρ'/\
 ∀σ',lZ O K H σ' ρ'->σ'.length=ρ'.length->(∀j,j∉js->σ'[j]?=σ[j]?)->Q σ' H
structure RN (X:Cx)(ts:List Expr)(js:List Nat)(T:List D->aH->Option aH):Prop where
 mk::(h:Ma X ts (a0Q X.K js T))
noncomputable def jX:List D->aH->Option aH:=λl ρ=>match l with
 |[]=>some ρ
 |_=>none
theorem pI:RN X [] [] jX:= .mk<|Ma.imp KY λvs σ H Q ⟨O,ρ,ρ',l,R,hl,r,e,q⟩=>by
 cases l with
 |nil=>cases e;exact⟨r,q σ R hl λ_ _=>rfl⟩
 |cons d l=>cases e
noncomputable def cJ (T:D->aH->Option aH)(U:List D->aH->Option aH):List D->aH->Option aH:=λl ρ=>match l with
 |d::l=>(T d ρ).bind λρ'=>U l ρ'
 |[]=>none
theorem gH {Fq:List Expr}{js ks:List Nat}{T:D->aH->Option aH}{U:List D->aH->Option aH}(h1:Yi X tg js T)(h2:RN X Fq ks U)
 (hs:(assignEach (tg::Fq) X.env).map (·.2)=assign tg X.env::(assignEach Fq X.env).map (·.2):=by rfl):RN X (tg::Fq) (js++ks) (cJ T U):=have h1:=h1.1;have h2:=h2.1; .mk<|Ma.imp (HR h1 h2 hs) λvs σ H Q ⟨O,ρ,ρ',l,R,hl,r,e,q⟩=>by
 cases l with
 |nil=>cases e
 |cons d l=>
  obtain⟨uo,e1,e2⟩:=bind_some e
  obtain⟨v,us,rfl,r1,r2⟩:=r
  exact⟨v,us,rfl,O,ρ,uo,d,R,hl,r1,e1,λσ' R' hl' k1=>⟨O,uo,ρ',l,R',hl',r2,e2,λσ2 R2 hl2 k2=>q σ2 R2 hl2 λj hj=>(k2 j λz=>hj (List.mem_append_right _ z)).trans (k1 j λz=>hj (List.mem_append_left _ z))⟩⟩
noncomputable def jG (n:Nat)(T:List D->aH->Option aH):D->aH->Option aH:=λd ρ=>match d with
 | .tup l=>if l.length=n then T l ρ else none
 |_=>none
theorem sJ {Fq:List Expr}{k n:Nat}{js:List Nat}{T:List D->aH->Option aH}(hc:X.calm=true)(h:RN X Fq js T)(hn:(assignEach Fq X.env).length=n:=by rfl)(hst:(assignEach Fq X.env).findIdx? (·.1)=none:=by rfl):
 Yi X (.Tuple Fq k pos) js (jG n T):=have h:=h.1; .mk<|PG.imp (QD hc h hn hst) λv σ H Q ⟨O,ρ,ρ',d,R,hl,r,e,q⟩=>by
 cases d with
 |tup l=>
  simp only[jG]at e
  split at e
  ·rename_i hn
   obtain⟨a,vs,rfl,h1,h2⟩:=r
   exact⟨a,vs,rfl,h1,by rw[<-h2.length];exact hn,O,ρ,ρ',l,R,hl,h2,e,q⟩
  ·cases e
 |_=>cases e
noncomputable def fH (T:D->aH->Option aH)(Tt:aH->Option Bool)(Fe:aH->Option D)(ρ:aH):List D->Option (List D)
 |[]=>some []
 |d::ds=>(T d ρ).bind λuo=>(Tt uo).bind λb=>if b=true then(Fe uo).bind λx=>(fH T Tt Fe ρ ds).map λl=>x::l else fH T Tt Fe ρ ds
noncomputable def cI (cap:List (Option Nat))(FI:aH->Option (List D×List D))(T:D->aH->Option aH)(Tt:aH->Option Bool)(Fe:aH->Option D):aH->Option (List D):=λρ=>(FI ρ).bind λr=>if r.1.length<=sizeLine then fH T Tt Fe (inD cap ρ) r.1 else none
variable {FI:aH->Option (List D×List D)}{T:D->aH->Option aH}{Tt:aH->Option Bool}{Fe:aH->Option D}{js:List Nat}
theorem K7 {K:Fg}{σ:L2.St}{H:Hp}{Q:VK}(hcap:∀j∈js,cap[j]?=some none\/cap[j]?=none)(h:tN K (cI cap FI T Tt Fe) σ H Q):Lx cap (tI K FI) (tGD K js T) (JN K Tt) (tD K Fe) σ H Q:=by
 obtain⟨O,ρ,l,w,r,e,q⟩:=h
 obtain⟨⟨ds,gs⟩,e1,e2⟩:=bind_some e
 dsimp only at e2
 split at e2
 ·rename_i hz
  refine⟨O,ρ,ds,gs,w,r,e1,λJ H1 γ s1 eg Wq wk p hp=>?_⟩
  have w1:Within O H1:=w.mono s1
  have Tj:∀(j:Nat) (v:V),(uA cap σ)[j]?=some (some v)->j∉js:=λj v e hj=>by
   obtain⟨i,e5,_⟩:=GP e
   rcases hcap j hj with z|z
   ·rw[e5]at z;cases z
   ·rw[e5]at z;cases z
  refine⟨λi m ys H2=>m=ds.length - i/\i<=ds.length/\bN H1 H2/\Within (λa=>O a\/a=p) H2/\lZ (λa=>O a\/a=p) K H2 σ ρ/\(∀g∈γ,Rep (λa=>O a\/a=p) K H2 g.1 g.2)/\H2 p=some (.lst ys)/\ys.length<=i/\
   ∃ls rs,aU (λa=>O a\/a=p) K H2 ls ys/\fH T Tt Fe (inD cap ρ) (ds.drop i)=some rs/\l=ls++rs,⟨ds.length,by simp,Nat.zero_le _,bT hp,λa z=>?_,λi d e5=>?_,λg hg=>?_,cM,Nat.le_refl _,[],l,rfl,e2,rfl⟩,?_⟩
  ·rcases z with z|rfl
   ·exact(w1.mono (bT hp)) a z
   ·rw[cM];simp
  ·obtain⟨v,a,b⟩:=r i d e5
   exact⟨v,a,(Rep.join hp d (b.mono s1)).mono (bT hp)⟩
  ·exact(Rep.join hp _ (Wq g hg)).mono (bT hp)
  ·rintro i m ys H2 ⟨rfl,hi,s2,w2,r2,g2,hp2,hy,ls,rs,q1,q2,q3⟩
   refine⟨hp2,?_⟩
   obtain⟨k1,k2,k3⟩:=wk H2 λg hg=>Rep.weak (λ_ z=>z.elim) (g2 g hg)
   by_cases hlt:i<ds.length
   ·rw[List.drop_eq_getElem_cons hlt]at q2
    obtain⟨uo,e5,q2⟩:=bind_some q2
    obtain⟨b,e6,q2⟩:=bind_some q2
    refine .inr ⟨k1 i hlt,λys' H'=>ys'.length<=i+1/\bN H1 H'/\Within (λa=>O a\/a=p) H'/\lZ (λa=>O a\/a=p) K H' σ ρ/\(∀g∈γ,Rep (λa=>O a\/a=p) K H' g.1 g.2)/\H' p=some (.lst ys')/\
     ∃ls rs,aU (λa=>O a\/a=p) K H' ls ys'/\fH T Tt Fe (inD cap ρ) (ds.drop (i+1))=some rs/\l=ls++rs,λys' H' ⟨z0,z1,z2,z3,z4,z5,z6⟩=>⟨ds.length - (i+1),by omega,rfl,hlt,z1,z2,z3,z4,z5,z0,z6⟩,λx H3 y=>?_⟩
    obtain⟨s3,k4⟩:=k3 i x H3 hlt y
    obtain⟨d,e7,r7⟩:=k4 _ w2 g2
    rw[List.getElem?_eq_getElem hlt]at e7
    cases e7
    refine⟨λa=>O a\/a=p,inD cap ρ,uo,_,(Tf r2).mono s3,by simp[uA,inD],r7,e5,λσ2 R2 hl2 kp=>⟨λj v e8=>by rw[kp j (Tj j v e8)];exact e8,?_⟩⟩
    have w3:=w2.mono s3
    refine⟨λa=>O a\/a=p,uo,b,w3,R2,e6,λH4 s4=>?_⟩
    cases b with
    |false=>
     rw[if_neg Bool.false_ne_true]at q2
     exact Jh ⟨Nat.le_succ_of_le hy,(s2.trans s3).trans s4,(w3.mono s4),(r2.mono s3).mono s4,λg hg=>((g2 g hg).mono s3).mono s4,s4 _ _ (s3 _ _ hp2),ls,rs,(q1.mono s3).mono s4,q2,q3⟩
    |true=>
     rw[if_pos rfl]at q2
     obtain⟨dx,e8,q2⟩:=bind_some q2
     cases e9:fH T Tt Fe (inD cap ρ) (ds.drop (i+1))with
     |none=>rw[e9]at q2;cases q2
     |some rs'=>
      rw[e9]at q2
      cases q2
      refine Ji ⟨λa=>O a\/a=p,uo,dx,w3.mono s4,R2.mono s4,e8,λv H5 s5 r5=>?_⟩
      have hp5:H5 p=some (.lst ys):=s5 _ _ (s4 _ _ (s3 _ _ hp2))
      have ZR:=(s3.trans s4).trans s5
      have kp5:pF (λa=>O a\/a=p) H5 (upd H5 p (.lst (ys++[v]))):=pF.M4 (.inr rfl) hp5
      have id1:∀a,(O a\/a=p)->(O a\/a=p):=λ_ z=>z
      refine⟨hp5,by omega,by rw[List.length_append,List.length_singleton];omega,λb u z=>?_,λa z z2=>?_,λi d z=>?_,λg hg=>Rep.keep id1 kp5 _ ((g2 g hg).mono ZR),cM,ls++[dx],rs',aU.keep id1 kp5 _ ((q1.mono ZR).append (aU.one r5)),rfl,?_⟩
      ·rw[bM (cO z hp)]
       exact(s2.trans ZR) b u z
      ·by_cases ha:a=p
       ·subst ha;rw[cM]at z2;cases z2
       ·rw[bM ha]at z2;exact(w2.mono ZR) a z z2
      ·obtain⟨v',a,b⟩:=(r2.mono ZR) i d z
       exact⟨v',a,Rep.keep id1 kp5 _ b⟩
      ·rw[q3,List.append_assoc];rfl
   ·have:i=ds.length:=by omega
    subst this
    rw[List.drop_length]at q2
    cases q2
    rw[List.append_nil]at q3
    subst q3
    exact .inl ⟨k2,q p ys H2 (s1.trans s2) (s1.free hp) hp2 q1⟩
 ·cases e2
theorem gQ (hc:X.calm=true)(ok:uq X scope jg cap)(hcap:∀j∈js,cap[j]?=some none\/cap[j]?=none)(hi:EI X tg iter FI)
 (hin:∀cl s H C fp,Yi (lg X scope jg cl s H C fp) tg js T/\Ds (lg X scope jg cl s H C fp) ifs (JN X.K Tt)/\ED (lg X scope jg cl s H C fp) elt Fe)
 (hs:∀x,foldedSetIterable iter X.env x=pure x:=by intro _;rfl):EN X (.ListComp elt [⟨tg,iter,ifs,0⟩] scope pos) (cI cap FI T Tt Fe):=have hi:=hi.1; .mk<|PE.imp (Ua (g:=tGD X.K js T) (tt:=JN X.K Tt) (te:=tD X.K Fe) hc ok hi (λcl s H C fp=>let⟨a,b,c⟩:=hin cl s H C fp;⟨a.1,b,c.1⟩) hs) λσ H Q h=>K7 hcap h
theorem tE {H₀:Hp}{i:Nat}{x:Str}{spos pos':Pos}(hc:X.calm=true)(ok:uq X scope jg cap)(hcap:∀j∈js,cap[j]?=some none\/cap[j]?=none)(hi:EI X tg iter FI)
 (hin:∀cl s H C fp,Yi (lg X scope jg cl s H C fp) tg js T/\Ds (lg X scope jg cl s H C fp) ifs (JN X.K Tt)/\ED (lg X scope jg cl s H C fp) elt Fe)
 (hN:X.N.Nodup)(hix:X.N[i]?=some x)(hx:X.env.scope.names.lookup x=some .local)
 (hsw:swapsWith (.ListComp elt [⟨tg,iter,ifs,0⟩] scope pos) (some (.Name x pos')) spos.line X.env=pure true)
 (hs:∀x,foldedSetIterable iter X.env x=pure x:=by intro _;rfl):SD X (.Assign [.Name x pos'] (.ListComp elt [⟨tg,iter,ifs,0⟩] scope pos) spos) H₀ (gR i (cI cap FI T Tt Fe)):=have hi:=hi.1; .mk<|PS.imp (Uk (g:=tGD X.K js T) (tt:=JN X.K Tt) (te:=tD X.K Fe) hc ok hi (λcl s H C fp=>let⟨a,b,c⟩:=hin cl s H C fp;⟨a.1,b,c.1⟩) hN hix hx hsw hs) λE σ H ⟨ρ,γ,r,⟨O,R⟩,e,q⟩=>K7 hcap (Jz R e λl fr p vs H' e2 s1 hp hl r1=>by
 subst e2
 exact q _ _ ⟨_,R.R5 s1 hp hl r1⟩)
end
mutual
noncomputable def mC:D->PyData
 | .non=> .none
 | .bl b=> .bool b
 | .int i=> .int i
 | .str x=> .str x
 | .tup l=> .tuple (iT l)
 | .lst l=> .list (iT l)
 | .dct _ _=> .none
 | .ins _ _ _=> .none
 | .tu _=> .none
noncomputable def iT:List D->List PyData
 |[]=>[]
 |d::l=>mC d::iT l
end
mutual
noncomputable def Ju:D->Bool
 | .tup l=>Br l
 | .lst l=>Br l
 | .dct _ _=>false
 | .ins _ _ _=>false
 | .tu _=>false
 |_=>true
noncomputable def Br:List D->Bool
 |[]=>true
 |d::l=>Ju d&&Br l
end
section
variable {X:Cx}{pins:List (Addr×Obj)}{σ:L2.St}{H:Hp}{s:Shared}{O:Addr->Prop}
mutual
theorem lA (I:Inv X pins σ H s):∀(d:D) {v:V}{u:Value},Ju d=true->Rep O X.K H d v->RelV v u->∃as,Reads s.heap u (mC d) as
 | .non,_,_,_,h,r=>by cases h;cases r;exact⟨_,.none⟩
 | .bl b,_,_,_,h,r=>by cases h;cases r;exact⟨_,.bool b⟩
 | .int i,_,_,_,h,r=>by cases h;obtain⟨t,rfl⟩:=r;exact⟨_,.int i t⟩
 | .str x,_,_,_,h,r=>by cases h;obtain⟨t,rfl⟩:=r;exact⟨_,.str x t⟩
 | .tup l,_,_,k,h,r=>by
   obtain⟨a,vs,rfl,h1,h2⟩:=h
   cases r
   obtain⟨its,rv,⟨o,ho,hc,n,hd⟩,_⟩:=I.tuple h1
   obtain⟨as,q⟩:=t7 I l (by simpa only[Ju]using k) h2 rv
   exact⟨as,.tuple ho hc hd (by simpa using q)⟩
 | .lst l,_,_,k,h,r=>by
   obtain⟨a,vs,rfl,h1,h2⟩:=h
   cases r
   obtain⟨its,rv,⟨o,n,ho,hc,_,hd⟩,_⟩:=I.list (oF.of h1.1)
   obtain⟨as,q⟩:=t7 I l (by simpa only[Ju]using k) h2 rv
   exact⟨_,.list ho hc hd (by simpa using q)⟩
 | .dct _ _,_,_,k,_,_=>by simp[Ju]at k
 | .ins _ _ _,_,_,k,_,_=>by simp[Ju]at k
 | .tu _,_,_,k,_,_=>by simp[Ju]at k
theorem t7 (I:Inv X pins σ H s):∀(l:List D) {vs:List V}{us:List Value},Br l=true->aU O X.K H l vs->Vals vs us->∃as,ReadsAll s.heap us (iT l) as
 |[],_,_,_,h,r=>by
  cases h
  cases r
  exact⟨_,.nil⟩
 |d::l,_,_,k,h,r=>by
  obtain⟨v,vs,rfl,h1,h2⟩:=h
  simp only[Br,Bool.and_eq_true]at k
  cases r with
  |cons r1 r2=>
   obtain⟨as,q1⟩:=lA I d k.1 h1 r1
   obtain⟨bs,q2⟩:=t7 I l k.2 h2 r2
   exact⟨_,.cons q1 q2⟩
end
end
noncomputable def qP (d:D):Bool:=Ju d&&SeqAt.shaped (mC d)
noncomputable def qN (a b:D):Bool:=PyData.eqv (mC a) (mC b)
noncomputable def dN (neg:Bool)(a b:D):Option D:=if qP a&&qP b then some (.bl (if neg then !qN a b else qN a b))else none
noncomputable def Xz (K:Fg)(neg:Bool):R2:=λx y H Q=>∃(O:Addr->Prop) (a b:D),Rep O K H a x/\Rep O K H b y/\qP a=true/\qP b=true/\Q (.bl (if neg then !qN a b else qN a b)) H
theorem dg {K:Fg}{neg:Bool}:Du K (Xz K neg) (dN neg):=by
 intro O H x y dx dy d Q w rx ry e q
 unfold dN at e
 obtain⟨z,rfl⟩:=mV e
 rw[Bool.and_eq_true]at z
 exact⟨O,dx,dy,rx,ry,z.1,z.2,q _ H (bN.refl H) rfl⟩
section
variable {X:Cx}
theorem fu (hu:X.A.units+64<cLine):tY X (compareOp .Eq) (Xz X.K false):=by
 intro pins s σ H x y v u Q I rx ry h
 obtain⟨O,a,b,ra,rb,za,zb,q⟩:=h
 unfold qP at za zb
 rw[Bool.and_eq_true]at za zb
 obtain⟨as,q1⟩:=lA I a za.1 ra rx
 obtain⟨bs,q2⟩:=lA I b zb.1 rb ry
 exact eq_dataH q1 q2 za.2 zb.2 hu ⟨.bl _,H,I,rfl,q⟩
theorem uH (hu:X.A.units+64<cLine):tY X (compareOp .NotEq) (Xz X.K true):=by
 intro pins s σ H x y v u Q I rx ry h
 obtain⟨O,a,b,ra,rb,za,zb,q⟩:=h
 unfold qP at za zb
 rw[Bool.and_eq_true]at za zb
 obtain⟨as,q1⟩:=lA I a za.1 ra rx
 obtain⟨bs,q2⟩:=lA I b zb.1 rb ry
 exact ne_dataH q1 q2 za.2 zb.2 hu ⟨.bl _,H,I,rfl,q⟩
noncomputable def uB:D->Option (List D)
 | .lst l=>some l
 | .tup l=>some l
 |_=>none
noncomputable def tZ (neg:Bool)(a b:D):Option D:=(uB b).bind λl=>if qP a&&qP b then some (.bl (if neg then !(l.any λy=>qN y a)else l.any λy=>qN y a))else none
noncomputable def ZD (K:Fg)(neg:Bool):R2:=λx y H Q=>∃(O:Addr->Prop) (a b:D) (l:List D),Rep O K H a x/\Rep O K H b y/\uB b=some l/\qP a=true/\qP b=true/\Q (.bl (if neg then !(l.any λy=>qN y a)else l.any λy=>qN y a)) H
theorem wN {K:Fg}{neg:Bool}:Du K (ZD K neg) (tZ neg):=by
 intro O H x y dx dy d Q w rx ry e q
 unfold tZ at e
 obtain⟨l,e1,e⟩:=bind_some e
 obtain⟨z,rfl⟩:=mV e
 rw[Bool.and_eq_true]at z
 exact⟨O,dx,dy,l,rx,ry,e1,z.1,z.2,q _ H (bN.refl H) rfl⟩
theorem zm (a:D):∀l:List D,((iT l).any λy=>PyData.eqv y (mC a))=l.any λy=>qN y a
 |[]=>by simp[iT]
 |d::l=>by simp only[iT,List.any_cons,zm a l,qN]
theorem uK {l:List PyData}(h:SeqAt.shaped (.list l)=true\/SeqAt.shaped (.tuple l)=true):PyData.canLayAll0 l=true/\PyData.depthAll l<=64:=by
 rcases h with h|h
 ·unfold SeqAt.shaped at h
  rw[Bool.and_eq_true]at h
  refine⟨by simpa only[PyData.canLay0]using h.1,?_⟩
  have:=of_decide_eq_true h.2
  simp only[PyData.depth]at this
  omega
 ·unfold SeqAt.shaped at h
  rw[Bool.and_eq_true]at h
  refine⟨by simpa only[PyData.canLay0]using h.1,?_⟩
  have:=of_decide_eq_true h.2
  simp only[PyData.depth]at this
  omega
theorem wK (hu:X.A.units+200<cLine):tY X (compareOp .In) (ZD X.K false):=by
 intro pins s σ H x y v u Q I rx ry h
 obtain⟨O,a,b,l,ra,rb,el,za,zb,q⟩:=h
 unfold qP at za zb
 rw[Bool.and_eq_true]at za zb
 obtain⟨as,q1⟩:=lA I a za.1 ra rx
 obtain⟨bs,q2⟩:=lA I b zb.1 rb ry
 have da:=SeqAt.depth_of_shaped za.2
 have ca:=SeqAt.canLay_of_shaped za.2
 cases b<;>simp only[uB]at el<;>try (cases el;done)
 case tup l'=>
  cases el
  simp only[mC]at q2 zb
  obtain⟨c1,c2⟩:=uK (.inr zb.2)
  exact SeqAt.in_tuple_reads q2 q1 c1 ca (by have:=Nat.min_le_right (PyData.depthAll (iT l)) (mC a).depth;omega) ⟨.bl _,H,I,by rw[zm];rfl,q⟩
 case lst l'=>
  cases el
  simp only[mC]at q2 zb
  obtain⟨c1,c2⟩:=uK (.inl zb.2)
  exact SeqAt.in_list_reads q2 q1 c1 ca (by have:=Nat.min_le_right (PyData.depthAll (iT l)) (mC a).depth;omega) ⟨.bl _,H,I,by rw[zm];rfl,q⟩
noncomputable def uQ (K:Fg)(r:List V->Hp->VK->Prop)(g:List D->Option D):Prop:=∀(O:Addr->Prop) (H:Hp) (xs:List V) (l:List D) (d:D) (Q:VK),Within O H->aU O K H l xs->g l=some d->
 (∀v H',bN H H'->Rep O K H' d v->Q v H')->r xs H Q
variable {x:Str}{p pos:Pos}{e:Expr}{es:List Expr}{Fs:aH->Option (List D)}{id T:String}{r:List V->Hp->VK->Prop}{g:List D->Option D}
theorem Ou {K:Fg}{σ:L2.St}{H:Hp}{Q:VK}(hr:uQ K r g)(h:tD K (λρ=>(Fs ρ).bind g) σ H Q):tCB r (tDs K Fs) σ H Q:=by
 obtain⟨O,ρ,d,w,rr,e,q⟩:=h
 obtain⟨l,e1,e2⟩:=bind_some e
 exact⟨O,ρ,l,w,rr,e1,λvs H1 s1 r1=>hr O H1 vs l d Q (w.mono s1) r1 e2 λv H' s2 r2=>q v H' (s1.trans s2) r2⟩
theorem fU (hc:jB X (.builtin id) r)(hr:uQ X.K r g)(hg:Gl X x)(hm:X.mg x=none)(hv:bootBuiltins x=some (.builtin id))(ha:Dr X (e::es) Fs)(hn:x≠"__name__":=by decide)(hdb:(x==("__debug__":Str))=false:=by decide)
 (he:starEach (e::es) X.env=(false,eval e X.env)::starEach es X.env:=by rfl)(hpl:(backTo pos (starEach es X.env)).any (·.1)=false:=by rfl):ED X (.Call (.Name x p) (e::es) [] pos) (λρ=>(Fs ρ).bind g):=have ha:=ha.1; .mk<|PE.imp (pM hc hg hm hv ha hn hdb he hpl) λσ H Q h=>Ou hr h
theorem cU (hc:jB X (.type T) r)(hr:uQ X.K r g)(hg:Gl X x)(hm:X.mg x=none)(hv:bootBuiltins x=some (.type T))(ha:Dr X (e::es) Fs)(hn:x≠"__name__":=by decide)(hdb:(x==("__debug__":Str))=false:=by decide)
 (he:starEach (e::es) X.env=(false,eval e X.env)::starEach es X.env:=by rfl)(hpl:(backTo pos (starEach es X.env)).any (·.1)=false:=by rfl):ED X (.Call (.Name x p) (e::es) [] pos) (λρ=>(Fs ρ).bind g):=have ha:=ha.1; .mk<|PE.imp (wL hc hg hm hv ha hn hdb he hpl) λσ H Q h=>Ou hr h
theorem jJ {O:Addr->Prop}{K:Fg}{H:Hp}{d:D}{xs:List V}(h:aU O K H [d] xs):∃v,xs=[v]/\Rep O K H d v:=by
 obtain⟨v,r,rfl,h1,h2⟩:=h
 cases h2
 exact⟨v,rfl,h1⟩
theorem Vz {O:Addr->Prop}{K:Fg}{H:Hp}{d d':D}{xs:List V}(h:aU O K H [d,d'] xs):∃v u,xs=[v,u]/\Rep O K H d v/\Rep O K H d' u:=by
 obtain⟨v,r,rfl,h1,h2⟩:=h
 obtain⟨u,rfl,h3⟩:=jJ h2
 exact⟨v,u,rfl,h1,h3⟩
noncomputable def kY:List D->Option D
 |[.tup l]=>some (.int l.length)
 |[.lst l]=>some (.int l.length)
 |[.tu l]=>some (.int l.length)
 |[.str z]=>if z.length<=sizeLine then some (.int z.length)else none
 |_=>none
theorem jN {K:Fg}:uQ K (λxs H Q=>∃x n,xs=[x]/\Yl K x H n/\Q (.int n) H) kY:=by
 intro O H xs l d Q w h e q
 unfold kY at e
 split at e
 ·cases e
  obtain⟨v,rfl,a,vs,rfl,h1,h2⟩:=jJ h
  exact⟨_,_,rfl,.inr ⟨vs,h1,h2.length⟩,q _ H (bN.refl H) rfl⟩
 ·cases e
  obtain⟨v,rfl,a,vs,rfl,h1,h2⟩:=jJ h
  exact⟨_,_,rfl,.inl ⟨vs,oF.of h1.1,h2.length⟩,q _ H (bN.refl H) rfl⟩
 ·cases e
  obtain⟨v,rfl,a,rfl,h1⟩:=jJ h
  exact⟨_,_,rfl,.inl ⟨_,h1.sq,by rw[List.length_map]⟩,q _ H (bN.refl H) rfl⟩
 ·obtain⟨hz,rfl⟩:=mV e
  obtain⟨v,rfl,rfl⟩:=jJ h
  exact⟨_,_,rfl,⟨hz,rfl⟩,q _ H (bN.refl H) rfl⟩
 ·cases e
noncomputable def Gi:List D->Option D
 |[.int i,.int j]=>some (.int (if j<i then j else i))
 |_=>none
theorem Em {K:Fg}:uQ K (λxs H Q=>∃i j,xs=[.int i,.int j]/\Q (.int (if j<i then j else i)) H) Gi:=by
 intro O H xs l d Q w h e q
 first|unfold Gi at e|unfold a0Y at e
 split at e
 ·cases e
  obtain⟨v,u,rfl,rfl,rfl⟩:=Vz h
  exact⟨_,_,rfl,q _ H (bN.refl H) rfl⟩
 ·cases e
noncomputable def qM:List D->Option D
 |[.int i]=>some (.int i)
 |[.bl k]=>some (.int (if k then 1 else 0))
 |_=>none
theorem z8 {K:Fg}:uQ K (λxs H Q=>(∃i,xs=[.int i]/\Q (.int i) H)\/∃k,xs=[.bl k]/\Q (.int (if k then 1 else 0)) H) qM:=by
 intro O H xs l d Q w h e q
 unfold qM at e
 split at e
 ·cases e
  obtain⟨v,rfl,rfl⟩:=jJ h
  exact .inl ⟨_,rfl,q _ H (bN.refl H) rfl⟩
 ·cases e
  obtain⟨v,rfl,rfl⟩:=jJ h
  exact .inr ⟨_,rfl,q _ H (bN.refl H) rfl⟩
 ·cases e
noncomputable def cu:List D->Option D
 |[.lst l]=>some (.tup l)
 |[.tup l]=>some (.tup l)
 |_=>none
theorem eN {K:Fg}:uQ K (λxs H Q=>∃p ys,xs=[.ref p]/\((oF K H p ys/\∀l,H l=none->Q (.ref l) (upd H l (.tup ys)))\/(uN K H p ys/\Q (.ref p) H))) cu:=by
 intro O H xs l d Q w h e q
 unfold cu at e
 split at e
 ·cases e
  obtain⟨v,rfl,a,vs,rfl,h1,h2⟩:=jJ h
  exact⟨a,vs,rfl,.inl ⟨oF.of h1.1,λp hp=>q _ _ (bT hp) (oO hp h2)⟩⟩
 ·cases e
  obtain⟨v,rfl,a,vs,rfl,h1,h2⟩:=jJ h
  exact⟨a,vs,rfl,.inr ⟨h1,q _ H (bN.refl H) ⟨a,vs,rfl,h1,h2⟩⟩⟩
 ·cases e
noncomputable def nList:List D->Option (List D)
 |[.lst l]=>some l
 |[.tup l]=>some l
 |_=>none
theorem yR {pt:Pos}{a:Expr}{Fa:aH->Option (List D)}(hg:Gl X "list")(hm:X.mg "list"=none)(ha:Dr X [a] Fa)(he:starEach [a] X.env=(false,eval a X.env)::starEach [] X.env:=by rfl):
 EN X (.Call (.Name "list" p) [a] [] pos) (λρ=>(Fa ρ).bind nList):=have ha:=ha.1; .mk<|PE.imp (wL DG hg hm (by decide+kernel) ha (by decide) (by decide) he rfl) λσ H Q ⟨O,ρ,l,w,r,e,q⟩=>by
 obtain⟨as,e1,e2⟩:=bind_some e
 refine⟨O,ρ,as,w,r,e1,λvs H1 s1 r1=>?_⟩
 unfold nList at e2
 split at e2
 ·cases e2
  obtain⟨v,rfl,a,vs,rfl,h1,h2⟩:=jJ r1
  exact⟨a,vs,rfl,.inl (oF.of h1.1),λp hp=>q p vs _ (s1.trans (bT hp)) (s1.free hp) cM ((aU.join hp _ h2).mono (bT hp))⟩
 ·cases e2
  obtain⟨v,rfl,a,vs,rfl,h1,h2⟩:=jJ r1
  exact⟨a,vs,rfl,.inr h1,λp hp=>q p vs _ (s1.trans (bT hp)) (s1.free hp) cM ((aU.join hp _ h2).mono (bT hp))⟩
 ·cases e2
end
section
variable {X:Cx}{o e:Expr}{es:List Expr}{Fo:aH->Option D}{Fs:aH->Option (List D)}{name:Str}{apos cpos:Pos}{T id:String}{r:V->List V->Hp->VK->Prop}{g:D->List D->Option D}
noncomputable def VD (T:String):D->Bool
 | .str _=>T=="str"
 | .int _=>T=="int"
 | .lst _=>T=="list"
 | .tup _=>T=="tuple"
 | .dct _ _=>T=="dict"
 |_=>false
theorem Inv.Y6 {pins:List (Addr×Obj)}{σ:L2.St}{H:Hp}{s:Shared}{a:Addr}{xs:List V}(I:Inv X pins σ H s)(h:uN X.K H a xs):∃its:List Value,Vals xs its/\uR s.heap a its.toArray/\xs.length<=sizeLine:=by
 rcases h with h|⟨o,its,n,hk,hc,hdn,hs,hz,r⟩
 ·obtain⟨z,its,r,p⟩:=h.ok I.hok
  exact⟨its,r,p,z⟩
 ·refine⟨its.toList,r,⟨o,I.wC a o hk,hc,⟨n,by simpa using hs⟩,hdn⟩,?_⟩
  have e:=r.length
  simp only[Array.length_toList]at e
  omega
noncomputable def V5 (K:Fg)(T:String)(x:V)(H:Hp):Prop:=tyV K T x H\/(T="tuple"/\∃p xs,x= .ref p/\uN K H p xs)
theorem LQ {pins:List (Addr×Obj)}{σ:L2.St}{H:Hp}{s:Shared}{T:String}{x:V}{v:Value}(I:Inv X pins σ H s)(r:RelV x v)(ty:V5 X.K T x H):
 s.TypeIs v T/\∀a,v= .ref a->∃ob,s.heap.get? a=some ob/\ob.dict=none:=by
 rcases ty with ty|⟨rfl,p,xs,rfl,h⟩
 ·exact JR I r ty
 ·cases r
  obtain⟨its,_,⟨o,h1,h2,_,h3⟩,_⟩:=Inv.Y6 I h
  exact⟨⟨o,h1,h2⟩,λa e=>by cases e;exact⟨o,h1,h3⟩⟩
noncomputable def ZX (K:Fg)(T:String)(r:V->List V->Hp->VK->Prop)(to:TE):TE:=λσ H Q=>to σ H λx H1=>V5 K T x H1/\r x [] H1 Q
noncomputable def a0N (K:Fg)(T:String)(r:V->List V->Hp->VK->Prop)(to:TE)(t:TA):TE:=λσ H Q=>to σ H λx H1=>V5 K T x H1/\t σ H1 λxs H2=>r x xs H2 Q
theorem U9 {to:TE}(pa:PlainAttrs T)(slot:Slot T name id)(hty:typeOf (.builtin id)=pure (.type "method_descriptor"))(hm:M9 X id r)(ho:PE X o to)
 (hbase:attributeBase o name X.env (eval o X.env)=eval o X.env:=by rfl)(hline:(apos.endLine==cpos.line)=true:=by rfl):PE X (.Call (.Attribute o name apos) [] [] cpos) (ZX X.K T r to):=by
 intro pins s σ H Q I h
 refine wpAny_Call_method0_late hbase hline (iK (ho pins s σ H _ I h) λv s1 ⟨x,H1,I1,r1,ty,q1⟩=>?_)
 obtain⟨h1,h2⟩:=LQ I1 r1 ty
 exact⟨T,id,pa,slot,hty,h1,h2,Calls.callWith_builtin rfl (PySem.evalArgs_none (hm pins s1 σ H1 x [] v [] Q I1 r1 .nil q1))⟩
theorem Xg {to:TE}{t:TA}(pa:PlainAttrs T)(slot:Slot T name id)(hty:typeOf (.builtin id)=pure (.type "method_descriptor"))(hm:M9 X id r)(ho:PE X o to)(ha:PA X (e::es) t)
 (hbase:attributeBase o name X.env (eval o X.env)=eval o X.env:=by rfl)
 (hfew:((backTo cpos (starEach (e::es) X.env)).all (λx=>!x.1)&&(backToKw cpos (keywordEach [] X.env)).all (λx=>x.1.isSome)
  &&decide ((e::es).length+([]:List Keyword).length+(if([]:List Keyword).isEmpty then 0 else 1)<30))=true:=by rfl)
 (hline:(apos.endLine==cpos.line)=true:=by rfl)(hs:starEach (e::es) X.env=(false,eval e X.env)::starEach es X.env:=by rfl)(hplain:(backTo cpos (starEach es X.env)).any (·.1)=false:=by rfl):
 PE X (.Call (.Attribute o name apos) (e::es) [] cpos) (a0N X.K T r to t):=by
 intro pins s σ H Q I h
 refine wpAny_Call_method_late hbase hfew hline rfl (iK (ho pins s σ H _ I h) λv s1 ⟨x,H1,I1,r1,ty,q1⟩=>?_)
 obtain⟨h1,h2⟩:=LQ I1 r1 ty
 refine⟨T,id,pa,slot,hty,h1,h2,?_⟩
 have hA:=ha cpos pins s1 σ H1 _ I1 q1
 rw[hs]at hA ⊢
 refine Calls.callWith_builtin (by show(false||(backTo cpos (starEach es X.env)).any (·.1))=false;rw[hplain]<;>rfl) (Calls.evalArgs_plain ?_)
 exact iK hA λus s2 ⟨vs,H2,I2,r2,q2⟩=>hm pins s2 σ H2 x vs v us Q I2 r1 r2 q2
theorem VF {O:Addr->Prop}{K:Fg}{H:Hp}{d:D}{v:V}(h:Rep O K H d v)(t:VD T d=true):V5 K T v H:=by
 cases d<;>simp only[VD,beq_iff_eq]at t<;>try (cases t;done)
 case int i=>cases h;exact .inl t
 case str x=>cases h;exact .inl t
 case lst l=>
  obtain⟨a,vs,rfl,h1,_⟩:=h
  exact .inl (.inl ⟨t,vs,oF.of h1.1⟩)
 case tup l=>
  obtain⟨a,vs,rfl,h1,_⟩:=h
  exact .inr ⟨t,a,vs,rfl,h1⟩
 case dct ks l=>
  obtain⟨a,vs,rfl,h1,_⟩:=h
  exact .inl (.inr (.inr (.inl ⟨t,.inl ⟨_,h1.1⟩⟩)))
noncomputable def VH (K:Fg)(r:V->List V->Hp->VK->Prop)(g:D->List D->Option D):Prop:=∀(O:Addr->Prop) (H:Hp) (x:V) (xs:List V) (dx:D) (l:List D) (d:D) (Q:VK),Within O H->Rep O K H dx x->aU O K H l xs->g dx l=some d->
 (∀v H',bN H H'->Rep O K H' d v->Q v H')->r x xs H Q
theorem wV (pa:PlainAttrs T)(slot:Slot T name id)(hty:typeOf (.builtin id)=pure (.type "method_descriptor"))(hm:M9 X id r)(hg:VH X.K r g)(ho:ED X o Fo)(ha:Dr X (e::es) Fs)
 (hbase:attributeBase o name X.env (eval o X.env)=eval o X.env:=by rfl)
 (hfew:((backTo cpos (starEach (e::es) X.env)).all (λx=>!x.1)&&(backToKw cpos (keywordEach [] X.env)).all (λx=>x.1.isSome)
  &&decide ((e::es).length+([]:List Keyword).length+(if([]:List Keyword).isEmpty then 0 else 1)<30))=true:=by rfl)
 (hline:(apos.endLine==cpos.line)=true:=by rfl)(hs:starEach (e::es) X.env=(false,eval e X.env)::starEach es X.env:=by rfl)(hplain:(backTo cpos (starEach es X.env)).any (·.1)=false:=by rfl):
 ED X (.Call (.Attribute o name apos) (e::es) [] cpos) (λρ=>(Fo ρ).bind λx=>if VD T x=true then(Fs ρ).bind λl=>g x l else none):=have ho:=ho.1;have ha:=ha.1; .mk<|PE.imp (Xg pa slot hty hm ho ha hbase hfew hline hs hplain) λσ H Q ⟨O,ρ,d,w,rr,e,q⟩=>by
 obtain⟨dx,e1,e⟩:=bind_some e
 split at e
 ·rename_i ht
  obtain⟨l,e2,e⟩:=bind_some e
  refine⟨O,ρ,dx,w,rr,e1,λx H1 s1 r1=>⟨VF r1 ht,O,ρ,l,w.mono s1,rr.mono s1,e2,λvs H2 s2 r2=>?_⟩⟩
  exact hg O H2 x vs dx l d Q ((w.mono s1).mono s2) (r1.mono s2) r2 e λv H' s3 r3=>q v H' ((s1.trans s2).trans s3) r3
 ·cases e
theorem Wa (pa:PlainAttrs T)(slot:Slot T name id)(hty:typeOf (.builtin id)=pure (.type "method_descriptor"))(hm:M9 X id r)(hg:VH X.K r g)(ho:ED X o Fo)
 (hbase:attributeBase o name X.env (eval o X.env)=eval o X.env:=by rfl)(hline:(apos.endLine==cpos.line)=true:=by rfl):
 ED X (.Call (.Attribute o name apos) [] [] cpos) (λρ=>(Fo ρ).bind λx=>if VD T x=true then g x [] else none):=have ho:=ho.1; .mk<|PE.imp (U9 pa slot hty hm ho hbase hline) λσ H Q ⟨O,ρ,d,w,rr,e,q⟩=>by
 obtain⟨dx,e1,e⟩:=bind_some e
 split at e
 ·rename_i ht
  refine⟨O,ρ,dx,w,rr,e1,λx H1 s1 r1=>⟨VF r1 ht,?_⟩⟩
  exact hg O H1 x [] dx [] d Q (w.mono s1) r1 rfl e λv H' s3 r3=>q v H' (s1.trans s3) r3
 ·cases e
noncomputable def HY:V->List V->Hp->VK->Prop:=λx xs H Q=>∃z,x= .str z/\xs=[]/\Q (.bl (Txt.isdigit z)) H
theorem Jq:M9 X "str.isdigit" HY:=by
 intro pins s σ H x xs v us Q I rx rs h
 obtain⟨z,rfl,rfl,q⟩:=h
 obtain⟨t,rfl⟩:=rx
 cases rs
 exact SC.isdigit ⟨.bl _,H,I,rfl,q⟩
noncomputable def rm:D->List D->Option D
 | .str z,[]=>some (.bl (Txt.isdigit z))
 |_,_=>none
theorem Ib {K:Fg}:VH K HY rm:=by
 intro O H x xs dx l d Q w rx rs e q
 unfold rm at e
 split at e
 ·cases e;cases rx;cases rs
  exact⟨_,rfl,rfl,q _ H (bN.refl H) rfl⟩
 ·cases e
noncomputable def Vs:V->List V->Hp->VK->Prop:=λx xs H Q=>∃z y,x= .str z/\xs=[.str y]/\Q (.int (Txt.find z y)) H
theorem Tz:M9 X "str.find" Vs:=by
 intro pins s σ H x xs v us Q I rx rs h
 obtain⟨z,y,rfl,rfl,q⟩:=h
 obtain⟨t,rfl⟩:=rx
 obtain⟨u,rfl,t',rfl⟩:=vals1 rs
 exact SC.find ⟨.int _,H,I.tok _,⟨_,rfl⟩,q⟩
noncomputable def Ci:D->List D->Option D
 | .str z,[.str y]=>some (.int (Txt.find z y))
 |_,_=>none
theorem QS {K:Fg}:VH K Vs Ci:=by
 intro O H x xs dx l d Q w rx rs e q
 unfold Ci at e
 split at e
 ·cases e;cases rx
  obtain⟨v,rfl,rfl⟩:=jJ rs
  exact⟨_,_,rfl,rfl,q _ H (bN.refl H) rfl⟩
 ·cases e
noncomputable def yr:List D->Option (List Str)
 |[]=>some []
 | .str x::l=>(yr l).map λr=>x::r
 |_=>none
theorem Ik {O:Addr->Prop}{K:Fg}{H:Hp}:∀{l:List D}{xs:List Str}{vs:List V}{us:List Value},yr l=some xs->aU O K H l vs->Vals vs us->StrsAre us xs
 |[],_,_,_,e,h,r=>by cases e;cases h;cases r;exact .nil
 | .str x::l,_,_,_,e,h,r=>by
   obtain⟨v,vs,rfl,h1,h2⟩:=h
   cases h1
   simp only[yr]at e
   cases e1:yr l with
   |none=>rw[e1]at e;cases e
   |some xs=>
    rw[e1]at e
    cases e
    cases r with
    |cons r1 r2=>
     obtain⟨t,rfl⟩:=r1
     exact .cons x t (Ik e1 h2 r2)
noncomputable def rJoin (K:Fg):V->List V->Hp->VK->Prop:=λx xs H Q=>∃(O:Addr->Prop) (z:Str) (v:V) (l:List D) (ys:List Str),x= .str z/\xs=[v]/\Rep O K H (.lst l) v/\yr l=some ys/\(ys.map (·.length)).sum+ys.length*z.length<=16777216/\Q (.str (Txt.join z ys)) H
theorem Ef:M9 X "str.join" (rJoin X.K):=by
 intro pins s σ H x xs v us Q I rx rs h
 obtain⟨O,z,w,l,ys,rfl,rfl,rl,es,hz,q⟩:=h
 obtain⟨t,rfl⟩:=rx
 obtain⟨u,rfl,ru⟩:=vals1 rs
 obtain⟨a,vs,rfl,h1,h2⟩:=rl
 cases ru
 obtain⟨its,rv,pl,_⟩:=I.list (oF.of h1.1)
 exact join_list pl.isList (by simpa using Ik es h2 rv) hz λt' k=>⟨.str _,H,I.tok _,⟨_,rfl⟩,q⟩
noncomputable def m5:D->List D->Option D
 | .str z,[.lst l]=>(yr l).bind λys=>if(ys.map (·.length)).sum+ys.length*z.length<=16777216 then some (.str (Txt.join z ys))else none
 |_,_=>none
theorem Ak {K:Fg}:VH K (rJoin K) m5:=by
 intro O H x xs dx l d Q w rx rs e q
 unfold m5 at e
 split at e
 ·obtain⟨ys,e1,e⟩:=bind_some e
  obtain⟨hz,rfl⟩:=mV e
  cases rx
  obtain⟨v,rfl,rv⟩:=jJ rs
  exact⟨O,_,v,_,ys,rfl,rfl,rv,e1,hz,q _ H (bN.refl H) rfl⟩
 ·cases e
end
section
variable {X:Cx}
theorem Dn:∀(l:List (Str×Tok)),Vals ((l.map (·.1)).map V.str) (strValues l)
 |[]=> .nil
 |(x,t)::l=> .cons ⟨t,rfl⟩ (Dn l)
noncomputable def XC:V->List V->Hp->VK->Prop:=λx xs H Q=>∃z y,x= .str z/\xs=[.str y]/\(y.length==0)=false/\z.length<=sizeLine/\(Builtin.Str.partsBetween z (Builtin.Str.occurrences z y 0 z.length (z.length+1)) y.length).length<=sizeLine/\
 (Txt.split z y).length<=sizeLine/\∀p,H p=none->Q (.ref p) (upd H p (.lst ((Txt.split z y).map V.str)))
theorem Qn:M9 X "str.split" XC:=by
 intro pins s σ H x xs v us Q I rx rs h
 obtain⟨x,y,rfl,rfl,hy,hsz,hsz2,hsz3,q⟩:=h
 obtain⟨t,rfl⟩:=rx
 obtain⟨_,rfl,u,rfl⟩:=vals1 rs
 have fin:∀(l:List (Str×Tok)) (tk:Nat),l.map (·.1)=Txt.split x y->EP X pins σ Q (.ref s.heap.objs.size) { s with heap:=s.heap.push { cls:= .type "list",data:= .seq (strValues l).toArray },toks:=tk }:=λl tk e=>
  ⟨.ref _,_,I.WT (by rw[<-e];exact Dn l) (by rw[List.length_map];exact hsz3),rfl,q _ I.fresh⟩
 cases h1:(decide (x.length<y.length)||decide (PySem.Builtin.Str.strKind x<PySem.Builtin.Str.strKind y))
 ·cases hf:(Builtin.Str.occurrences x y 0 x.length (x.length+1)).isEmpty
  ·refine call_meets F.slot_str_split (typeIs_str _ _ _) F.entry_str_split (F.args_str_split_2 _ _) (meets_str_split_sep x y t u h1 hy hf hsz hsz2) ?_
   show EP X pins σ Q _ { s with toks:=_,heap:=s.heap.push { cls:= .type "list",data:= .seq (strsFrom s.toks (Builtin.Str.partsBetween x (Builtin.Str.occurrences x y 0 x.length (x.length+1)) y.length)).toArray } }
   rw[strsFrom_eq]
   exact fin (numbered s.toks _) _ ((numbered_texts _ _).trans ((if_neg (ne_true_of_eq_false h1)).trans (if_neg (ne_true_of_eq_false hf))).symm)
  ·exact call_meets F.slot_str_split (typeIs_str _ _ _) F.entry_str_split (F.args_str_split_2 _ _) (meets_str_split_not_found x y t u h1 hy hf)
    (fin [(x,t)] s.toks ((if_neg (ne_true_of_eq_false h1)).trans (if_pos hf)).symm)
 ·exact call_meets F.slot_str_split (typeIs_str _ _ _) F.entry_str_split (F.args_str_split_2 _ _) (meets_str_split_cannot_occur x y t u h1)
   (fin [(x,t)] s.toks (if_pos h1).symm)
theorem Dc {O:Addr->Prop}{K:Fg}{H:Hp}:∀(l:List Str),aU O K H (l.map D.str) (l.map V.str)
 |[]=>rfl
 |x::l=>⟨_,_,rfl,rfl,Dc l⟩
noncomputable def oX (z y:Str):Option (List D):=if(y.length==0)=false/\z.length<=sizeLine/\(Builtin.Str.partsBetween z (Builtin.Str.occurrences z y 0 z.length (z.length+1)) y.length).length<=sizeLine/\(Txt.split z y).length<=sizeLine then some ((Txt.split z y).map .str)else none
variable {o e:Expr}{Fo:aH->Option D}{Fs:aH->Option (List D)}{apos cpos:Pos}
theorem uX (ho:ED X o Fo)(ha:Dr X [e] Fs)
 (hbase:attributeBase o "split" X.env (eval o X.env)=eval o X.env:=by rfl)
 (hfew:((backTo cpos (starEach (e::[]) X.env)).all (λx=>!x.1)&&(backToKw cpos (keywordEach [] X.env)).all (λx=>x.1.isSome)
  &&decide ((e::[]).length+([]:List Keyword).length+(if([]:List Keyword).isEmpty then 0 else 1)<30))=true:=by rfl)
 (hline:(apos.endLine==cpos.line)=true:=by rfl)(hs:starEach (e::[]) X.env=(false,eval e X.env)::starEach [] X.env:=by rfl)(hplain:(backTo cpos (starEach [] X.env)).any (·.1)=false:=by rfl):
 EN X (.Call (.Attribute o "split" apos) [e] [] cpos) (λρ=>(Fo ρ).bind λx=>(Fs ρ).bind λl=>match x,l with
  | .str z,[.str y]=>oX z y
  |_,_=>none):=have ho:=ho.1;have ha:=ha.1; .mk<|PE.imp (KH PySem.F.plainAttrs_str PySem.F.slot_str_split PySem.F.type_str_split Qn ho ha hbase hfew hline hs hplain) λσ H Q ⟨O,ρ,d,w,rr,e,q⟩=>by
 obtain⟨dx,e1,e⟩:=bind_some e
 obtain⟨l,e2,e⟩:=bind_some e
 split at e
 ·unfold oX at e
  obtain⟨⟨z1,z2,z3,z4⟩,rfl⟩:=mV e
  refine⟨O,ρ,_,w,rr,e1,λx H1 s1 r1=>?_⟩
  cases r1
  refine⟨rfl,O,ρ,_,w.mono s1,rr.mono s1,e2,λvs H2 s2 r2=>?_⟩
  obtain⟨v,rfl,rfl⟩:=jJ r2
  exact⟨_,_,rfl,rfl,z1,z2,z3,z4,λp hp=>q p _ _ ((s1.trans s2).trans (bT hp)) ((s1.trans s2).free hp) cM (Dc _)⟩
 ·cases e
noncomputable def Lj (x:D)(l:List D):Bool:=qP x&&qP (.lst l)
theorem NT {l:List D}(h:qP (.lst l)=true):Br l=true/\PyData.canLayAll0 (iT l)=true/\PyData.depthAll (iT l)<=64:=by
 unfold qP at h
 rw[Bool.and_eq_true]at h
 have h1:Br l=true:=by simpa only[Ju]using h.1
 have h2:SeqAt.shaped (.list (iT l))=true:=by simpa only[mC]using h.2
 exact⟨h1,uK (.inl h2)⟩
noncomputable def DY (h:Heap)(x:D)(u:Value):Bool:=PyData.eqv (SeqAt.readOf h u) (mC x)
theorem Hf {pins:List (Addr×Obj)}{σ:L2.St}{H:Hp}{s:Shared}{O:Addr->Prop}{l:List D}{x:D}{vs:List V}{us:List Value}{v:V}{u:Value}{A:Around}(I:Inv X pins σ H s)(hl:qP (.lst l)=true)(hx:qP x=true)(rl:aU O X.K H l vs)(rv:Vals vs us)
 (rx:Rep O X.K H x v)(ru:RelV v u)(hu:A.units+66<cLine):(∀y,y∈us.toArray->SeqAt.EqAt A.in1 s y u (DY s.heap x y))/\us.map (DY s.heap x)=l.map λy=>qN y x:=by
 obtain⟨k1,k2,k3⟩:=NT hl
 unfold qP at hx
 rw[Bool.and_eq_true]at hx
 obtain⟨as,q1⟩:=t7 I l k1 rl rv
 obtain⟨bs,q2⟩:=lA I x hx.1 rx ru
 have dx:=SeqAt.depth_of_shaped hx.2
 refine⟨SeqAt.items_eqAt (vs:=us.toArray) (by simpa using q1) q2 k2 (SeqAt.canLay_of_shaped hx.2) (by have:=Nat.min_le_right (PyData.depthAll (iT l)) (mC x).depth;omega),?_⟩
 have e1:=SeqAt.readsAll_map (iT l) us as k2 q1
 have e2:us.map (DY s.heap x)=(us.map (SeqAt.readOf s.heap)).map λy=>PyData.eqv y (mC x):=by rw[List.map_map];rfl
 rw[e2,e1]
 have:∀l:List D,(iT l).map (λy=>PyData.eqv y (mC x))=l.map λy=>qN y x:=λl=>by
  induction l with
  |nil=>rfl
  |cons d l ih=>simp only[iT,List.map_cons,ih,qN]
 exact this l
noncomputable def QL (K:Fg):V->List V->Hp->VK->Prop:=λx xs H Q=>∃(O:Addr->Prop) (l:List D) (y:D) (v:V),xs=[v]/\Rep O K H (.lst l) x/\Rep O K H y v/\Lj y l=true/\Q (.int ((l.countP λz=>qN z y):Nat)) H
theorem countP_map {α β:Type}(f:α->β)(p:β->Bool)(l:List α):l.countP (λa=>p (f a))=(l.map f).countP p:=by
 rw[List.countP_map];rfl
theorem Hu (hu:X.A.units+66<cLine):M9 X "list.count" (QL X.K):=by
 intro pins s σ H x xs v us Q I rx rs h
 obtain⟨O,l,y,w,rfl,rl,ry,hs,q⟩:=h
 unfold Lj at hs
 rw[Bool.and_eq_true]at hs
 obtain⟨u,rfl,ru⟩:=vals1 rs
 obtain⟨a,vs,rfl,h1,h2⟩:=rl
 cases rx
 obtain⟨its,n,rv,ho,_⟩:=I.lst h1.1
 obtain⟨q1,q2⟩:=Hf (A:=X.A) I hs.2 hs.1 h2 rv ry ru hu
 refine call_meets F.slot_list_count ⟨_,ho,rfl⟩ F.entry_list_count (F.args_list_count_2 _ _) (SeqAt.list_countAt a its.toArray n none #[] u (DY s.heap y)) ⟨ho,q1,?_⟩
 have e:its.toArray.toList.countP (DY s.heap y)=l.countP λz=>qN z y:=by
  have e1:=countP_map (DY s.heap y) id its
  have e2:=countP_map (λz=>qN z y) id l
  simp only[id]at e1 e2
  rw[List.toList_toArray,e1,q2,<-e2]
 show EP X pins σ Q (.int ((its.toArray.toList.countP (DY s.heap y):Nat):Int) s.toks) _
 rw[e]
 exact⟨.int _,H,I.tok _,⟨_,rfl⟩,q⟩
noncomputable def nU:D->List D->Option D
 | .lst l,[y]=>if Lj y l=true then some (.int ((l.countP λz=>qN z y):Nat))else none
 |_,_=>none
theorem Dd {K:Fg}:VH K (QL K) nU:=by
 intro O H x xs dx l d Q w rx rs e q
 unfold nU at e
 split at e
 ·obtain⟨hz,rfl⟩:=mV e
  obtain⟨v,rfl,rv⟩:=jJ rs
  exact⟨O,_,_,v,rfl,rx,rv,hz,q _ H (bN.refl H) rfl⟩
 ·cases e
noncomputable def Qe (y:D)(l:List D):Option Nat:=l.findIdx? λz=>qN z y
noncomputable def QM (K:Fg):V->List V->Hp->VK->Prop:=λx xs H Q=>∃(O:Addr->Prop) (l:List D) (y:D) (v:V) (j:Nat),xs=[v]/\Rep O K H (.lst l) x/\Rep O K H y v/\Lj y l=true/\Qe y l=some j/\Q (.int (j:Nat)) H
theorem Hv (hu:X.A.units+66<cLine):M9 X "list.index" (QM X.K):=by
 intro pins s σ H x xs v us Q I rx rs h
 obtain⟨O,l,y,w,j,rfl,rl,ry,hs,hj,q⟩:=h
 unfold Lj at hs
 rw[Bool.and_eq_true]at hs
 obtain⟨u,rfl,ru⟩:=vals1 rs
 obtain⟨a,vs,rfl,h1,h2⟩:=rl
 cases rx
 obtain⟨its,n,rv,ho,hz⟩:=I.lst h1.1
 obtain⟨q1,q2⟩:=Hf (A:=X.A) I hs.2 hs.1 h2 rv ry ru hu
 have hlen:its.length=l.length:=by rw[<-rv.length,<-h2.length]
 obtain⟨hlt,hit,hno⟩:=List.findIdx?_eq_some_iff_getElem.mp hj
 have at_:∀(m:Nat) (hm:m<its.length),DY s.heap y its[m]=qN (l[m]'(by omega)) y:=λm hm=>by
  have e:=congrArg (λr=>r[m]?) q2
  simp only[List.getElem?_map]at e
  rw[List.getElem?_eq_getElem hm,List.getElem?_eq_getElem (by omega)]at e
  exact Option.some.inj e
 have hn:=rH
 refine call_meets F.slot_list_index ⟨_,ho,rfl⟩ F.entry_list_index (F.args_list_index_2 _ _) (SeqAt.list_indexAt a its.toArray n none #[] u (DY s.heap y) j (by rw[List.size_toArray];omega) (by have:=h2.length;omega)
  (by have:=at_ j (by omega);simp only[List.getElem_toArray];rw[this];exact hit) λm hm hmj=>?_) ⟨ho,q1,⟨.int _,H,I.tok _,⟨_,rfl⟩,q⟩⟩
 rw[List.size_toArray]at hm
 have:=at_ m hm
 simp only[List.getElem_toArray]
 rw[this]
 exact Bool.eq_false_iff.mpr (hno m hmj)
noncomputable def mG:D->List D->Option D
 | .lst l,[y]=>if Lj y l=true then(Qe y l).map λj=> .int (j:Nat)else none
 |_,_=>none
theorem De {K:Fg}:VH K (QM K) mG:=by
 intro O H x xs dx l d Q w rx rs e q
 unfold mG at e
 split at e
 ·split at e
  ·rename_i l' y hz
   cases e1:Qe y l' with
   |none=>rw[e1]at e;cases e
   |some j=>
    rw[e1]at e
    cases e
    obtain⟨v,rfl,rv⟩:=jJ rs
    exact⟨O,_,_,v,j,rfl,rx,rv,hz,e1,q _ H (bN.refl H) rfl⟩
  ·cases e
 ·cases e
end
section
variable {X:Cx}
noncomputable def By:D->Option String
 | .non=>some "NoneType"
 | .bl _=>some "bool"
 | .int _=>some "int"
 | .str _=>some "str"
 | .lst _=>some "list"
 | .tup _=>some "tuple"
 | .dct _ _=>some "dict"
 |_=>none
noncomputable def O4 (n T:String):Bool:=n==T||(n=="bool"&&T=="int")
theorem Tp {K:Fg}{T:String}(hT:T∈["tuple","int","bool","str","list"]):∀n∈["NoneType","bool","int","str","list","tuple","dict"],PySem.W.kitOne K (.type n) (.type T)=some (O4 n T):=by
 intro n hn
 simp only[List.mem_cons,List.not_mem_nil,or_false]at hT hn
 rcases hT with rfl|rfl|rfl|rfl|rfl<;>rcases hn with rfl|rfl|rfl|rfl|rfl|rfl|rfl<;>first|rfl|decide+kernel
theorem Rb {d:D}{n:String}(h:By d=some n):n∈["NoneType","bool","int","str","list","tuple","dict"]:=by
 cases d<;>simp only[By]at h<;>cases h<;>simp
theorem Wy {pins:List (Addr×Obj)}{σ:L2.St}{H:Hp}{s:Shared}{A:Around}{E:Value->Shared->Prop}{Q:Value->Shared->Prop}{O:Addr->Prop}{d:D}{v:V}{u c:Value}{n:String}{b:Bool}(I:Inv X pins σ H s)(h:Rep O X.K H d v)(ru:RelV v u)(ht:By d=some n)
 (e:PySem.W.kitOne X.K (.type n) c=some b)(hq:∀tk,Q (.bool b) { s with toks:=tk }):wpAny (model X.prog X.w) A (call (.builtin "isinstance") [u,c]) Q E s:=by
 cases d<;>simp only[By]at ht<;>cases ht
 case non=>cases h;exact lJ I ru .non e hq
 case bl b=>cases h;exact lJ I ru (.bl _) e hq
 case int i=>cases h;exact lJ I ru (.int _) e hq
 case str x=>cases h;exact lJ I ru (.str _) e hq
 case tup l=>
  obtain⟨a,vs,rfl,h1,h2⟩:=h
  cases ru
  obtain⟨its,_,⟨o,ho,hc,_⟩,_⟩:=I.tuple h1
  exact PySem.W.kia_one PySem.W.kitx_tuple I.wC ⟨o,ho,hc⟩ e (λz=>nomatch z) hq
 case lst l=>
  obtain⟨a,vs,rfl,h1,h2⟩:=h
  exact lJ I ru (.lst h1.1) e hq
 case dct ks l=>
  obtain⟨a,vs,rfl,h1,h2⟩:=h
  exact lJ I ru (.dK h1.1) e hq
theorem Wb {e:Expr}{F:aH->Option D}{Tn:Str}{T:String}{p p2 pos:Pos}(hT:T∈["tuple","int","bool","str","list"])(hg:Gl X "isinstance")(hm:X.mg "isinstance"=none)(hgT:Gl X Tn)(hmT:X.mg Tn=none)(hvT:bootBuiltins Tn=some (.type T))(he:ED X e F)
 (hn:Tn≠"__name__":=by decide)(hdb:(Tn==("__debug__":Str))=false:=by decide)(hs:starEach [e,.Name Tn p2] X.env=(false,eval e X.env)::starEach [.Name Tn p2] X.env:=by rfl)(hs2:starEach [.Name Tn p2] X.env=(false,eval (.Name Tn p2) X.env)::starEach [] X.env:=by rfl)
 (hpl:(backTo pos (starEach [.Name Tn p2] X.env)).any (·.1)=false:=by rfl):
 ED X (.Call (.Name "isinstance" p) [e,.Name Tn p2] [] pos) (λρ=>(F ρ).bind λd=>(By d).map λn=> .bl (O4 n T)):=have he:=he.1; .mk<|by
 have hc:jB X (.builtin "isinstance") (λxs H Q=>∃(O:Addr->Prop) (d:D) (v:V) (n:String),xs=[v,.ty T]/\Rep O X.K H d v/\By d=some n/\Q (.bl (O4 n T)) H):=by
  intro pins s σ H xs us Q I r h
  obtain⟨O,d,v,n,rfl,rd,ht,q⟩:=h
  obtain⟨u,c,rfl,ru,rc⟩:=vals2 r
  cases rc
  exact Wy I rd ru ht (Tp hT n (Rb ht)) λtk=>⟨.bl _,H,I.tok tk,rfl,q⟩
 refine PE.imp (pM hc hg hm (by decide+kernel) (jo he (jo (U8 (v:= .ty T) hgT hmT hvT rfl hn hdb) oZ hs2) hs) (by decide) (by decide) hs hpl) λσ H Q ⟨O,ρ,d,w,r,e,q⟩=>?_
 obtain⟨d',e1,e2⟩:=bind_some e
 cases e3:By d' with
 |none=>rw[e3]at e2;cases e2
 |some n=>
  rw[e3]at e2
  cases e2
  exact⟨O,ρ,d',w,r,e1,λv H1 s1 r1=>⟨O,d',v,n,rfl,r1,e3,q _ H1 s1 rfl⟩⟩
structure POD (X:Cx)(e:Option Expr)(F:aH->Option (Option Int)):Prop where
 mk::(h:PO X e (λσ H Q=>∃(O:Addr->Prop) (ρ:aH) (i:Option Int),Within O H/\lZ O X.K H σ ρ/\F ρ=some i/\∀H',bN H H'->Q i H'))
theorem jH:POD X none (λ_=>some none):= .mk<|λpins s σ H Q I ⟨O,ρ,i,w,r,e,q⟩=>by
 cases e
 exact Uh pins s σ H Q I (q H (bN.refl H))
noncomputable def VN:D->Option Int
 | .int i=>some i
 |_=>none
theorem iy {e:Expr}{F:aH->Option D}(h:ED X e F):POD X (some e) (λρ=>(F ρ).bind λd=>(VN d).map some):=have h:=h.1; .mk<|λpins s σ H Q I ⟨O,ρ,i,w,r,e,q⟩=>by
 obtain⟨d,e1,e2⟩:=bind_some e
 cases d<;>simp only[VN]at e2<;>cases e2
 exact Ui h pins s σ H Q I ⟨O,ρ,_,w,r,e1,λv H1 s1 r1=>⟨_,r1,q H1 s1⟩⟩
theorem O5 {t sl:Addr}{items:Array Value}{vl vu:Value}{lo hi:Option Int}{Q:Value->Shared->Prop}{prog:Program}{w:World}{A:Around}{E:Value->Shared->Prop}{s:Shared}(ht:IsTup s.heap t items)(hs:s.heap.IsSliceOf sl vl vu .none)(pl:IsPart vl lo)(pu:IsPart vu hi)
 (hw:HT.jh items.size 0 lo=0/\HT.jh items.size items.size hi=items.size)(h:Q (.ref t) s):wpAny (model prog w) A (getItem (.ref t) (.ref sl)) Q E s:=by
 obtain⟨os,hos,hcs,hds⟩:=id hs
 have hTs:s.TypeIs (.ref sl) "slice":=⟨os,hos,hcs⟩
 unfold getItem
 try with_reducible refine wpAny_holding ?_
 first|refine wpAny_bind (wpAny_pure ?_)|skip
 refine wpAny_bind (wpAny_sequenceKey ht.typeIs (by decide) ?_)
 refine wpAny_bind (wpAny_callSpecial?_slot (name:=Str.ofString "__getitem__") ht.typeIs PyProof.Rows.slot_tuple_getitem
  (wpAny_call_entry PyProof.Rows.slot_tuple_getitem ht.typeIs entry_tuple_getitem ?_ (args_tuple_getitem _ _)))
 show wpAny _ _ (Builtin.Tuple.tupleItemsOf (.ref t)>>=_) _ _ s
 refine wpAny_bind (tupleItemsOf_ ht ?_)
 refine wpAny_bind (wpAny_typeOf hTs ?_)
 rw[if_pos (by decide)]
 refine wpAny_bind (HT.pW hs pl pu ?_)
 show wpAny _ _ (if(((HT.jh items.size 0 lo:Nat):Int)==0&&(1:Int)==1&&(HT.jh items.size items.size hi - HT.jh items.size 0 lo)==items.size)=true then _ else _) _ _ s
 rw[hw.1,hw.2,if_pos (by simp)]
 obtain⟨o,ho,hc,n,hd⟩:=id ht
 obtain⟨hp,g,dd,tk,oss⟩:=s
 unfold Builtin.Tuple.tupleIsExact
 wp_walk using wpAny_typeOf ht.typeIs
 exact⟨_,rfl,wpAny_pure h⟩
noncomputable def ZQ (K:Fg):V->Option Int->Option Int->Hp->VK->Prop:=λx lo hi H Q=>∃a xs,x= .ref a/\uN K H a xs/\(HT.jh xs.length 0 lo=0/\HT.jh xs.length xs.length hi=xs.length)/\Q (.ref a) H
theorem R7:RQ X (ZQ X.K):=by
 intro pins s σ H x v vl vu lo hi sl Q I rx hs pl pu h
 obtain⟨a,xs,rfl,hx,hw,q⟩:=h
 cases rx
 obtain⟨its,r,ht,hz⟩:=I.tuple hx
 have hlen:its.toArray.size=xs.length:=by rw[List.size_toArray];exact r.length.symm
 exact⟨"tuple",_,PyProof.Rows.slot_tuple_getitem.lookup,ht.typeIs,O5 ht hs pl pu (by rw[hlen];exact hw) ⟨.ref a,H,I,rfl,q⟩⟩
noncomputable def a0F (K:Fg):V->Option Int->Option Int->Hp->VK->Prop:=λx lo hi H Q=>ZM K x lo hi H Q\/ZP K x lo hi H Q\/ZQ K x lo hi H Q
theorem a0I:RQ X (a0F X.K):=UJ.or (XX.or R7)
theorem Ms {α:Type}{l:List α}{lo hi:Option Int}(h:HT.jh l.length 0 lo=0/\HT.jh l.length l.length hi=l.length):(l.drop (HT.jh l.length 0 lo)).take (HT.jh l.length l.length hi - HT.jh l.length 0 lo)=l:=by
 rw[h.1,h.2];simp
noncomputable def Gj (d:D)(lo hi:Option Int):Option D:=match d with
 | .lst l=>some (.lst (cutD l lo hi))
 | .tup l=>some (.tup (cutD l lo hi))
 |_=>none
theorem ji {e:Expr}{lo hi:Option Expr}{F:aH->Option D}{Fl Fh:aH->Option (Option Int)}{pos p2:Pos}(he:ED X e F)(hl:POD X lo Fl)(hu:POD X hi Fh):
 ED X (.Subscript e (.Slice lo hi none p2) pos) (λρ=>(F ρ).bind λd=>(Fl ρ).bind λa=>(Fh ρ).bind λb=>Gj d a b):=have he:=he.1;have hl:=hl.1;have hu:=hu.1; .mk<|PE.imp (QC a0I he hl hu) λσ H Q ⟨O,ρ,d,w,r,e,q⟩=>by
 obtain⟨dx,e1,e⟩:=bind_some e
 obtain⟨a,e2,e⟩:=bind_some e
 obtain⟨b,e3,e⟩:=bind_some e
 refine⟨O,ρ,dx,w,r,e1,λv H1 s1 r1=>⟨O,ρ,a,w.mono s1,r.mono s1,e2,λH2 s2=>⟨O,ρ,b,(w.mono s1).mono s2,(r.mono s1).mono s2,e3,λH3 s3=>?_⟩⟩⟩
 have s13:=(s1.trans s2).trans s3
 have r3:=(r1.mono s2).mono s3
 unfold Gj at e
 split at e
 ·cases e
  obtain⟨p,vs,rfl,h1,h2⟩:=r3
  exact .inl ⟨p,vs,rfl,oF.of h1.1,λz hz=>q _ _ (s13.trans (bT hz)) (vA (w.mono s13) hz (h2.cut a b))⟩
 ·cases e
  obtain⟨p,vs,rfl,h1,h2⟩:=r3
  by_cases hw:HT.jh vs.length 0 a=0/\HT.jh vs.length vs.length b=vs.length
  ·refine .inr (.inr ⟨p,vs,rfl,h1,hw,q _ _ s13 ⟨p,vs,rfl,h1,?_⟩⟩)
   have:cutD _ a b=_:=Ms (by rw[h2.length];exact hw)
   rw[this];exact h2
  ·exact .inr (.inl ⟨p,vs,rfl,h1,hw,λz hz=>q _ _ (s13.trans (bT hz)) (oO hz (h2.cut a b))⟩)
 ·cases e
theorem wI:fillsNumberSlot (.type "tuple") "mul"=pure false:=
 PySem.fillsNumberSlot_seq (id:="tuple.__mul__") (r:=some (.builtin "tuple.__rmul__")) PySem.F.slot_tuple_mul.lookup (by decide+kernel) PySem.F.slot_tuple_rmul.lookup (by decide+kernel)
theorem Er:seqRepeat? (.type "tuple")=pure (some (.builtin "tuple.__mul__")):=by
 unfold seqRepeat?
 rw[PySem.seqSlot_of (T:="tuple") (name:="__mul__") (id:="tuple.__mul__") PySem.F.slot_tuple_mul.lookup (by decide+kernel),PySem.seqSlot_of (T:="tuple") (name:="__rmul__") (id:="tuple.__rmul__") PySem.F.slot_tuple_rmul.lookup (by decide+kernel)]
 rfl
theorem Al (a:Int)(t:Tok)(l:Addr)(items:Array Value)(n:Nat)(dd:Option Addr)(sl:Array (Option Value)):
 Meets (Builtin.«int.__rmul__» ⟨[.int a t,.ref l],[]⟩) (λ_ R s=>s.heap.get? l=some { cls:= .type "tuple",dict:=dd,data:= .seq items n,slots:=sl }/\R (.ok (.ret Value.notImplemented)) s):=
 .of_wp λprog w A R s h=>by obtain⟨hp,g,d,tk,os⟩:=s;obtain⟨hl,h⟩:=h;wp_walk;exact⟨_,rfl,h⟩
theorem Bf (l:Addr)(items:Array Value)(n:Nat)(dd:Option Addr)(sl:Array (Option Value))(x:Int)(u:Tok)(h0:¬(decide (x< -(2 ^ 63))||decide (x≥2 ^ 63))=true)(h1:(items.isEmpty||x==1)=true):
 Meets (Builtin.«tuple.__mul__» ⟨[.ref l,.int x u],[]⟩) (λ_ R s=>s.heap.get? l=some { cls:= .type "tuple",dict:=dd,data:= .seq items n,slots:=sl }/\R (.ok (.ret (.ref l))) s):=
 .of_wp λprog w A R s h=>by
  obtain⟨hp,g,d,tk,os⟩:=s;obtain⟨hl,h⟩:=h
  have f1:=AutoSeq1.idx_int
  wp_walk
  rw[if_neg h0]
  wp_walk using AutoSeq1.wpAny_loadPart' hl
  exact⟨_,rfl,h⟩
theorem Be (l:Addr)(items:Array Value)(n:Nat)(dd:Option Addr)(sl:Array (Option Value))(x:Int)(u:Tok)(h0:¬(decide (x< -(2 ^ 63))||decide (x≥2 ^ 63))=true)(h1:¬(items.isEmpty||x==1)=true)(h2:(decide (x<=0)||items.isEmpty)=true):
 Meets (Builtin.«tuple.__mul__» ⟨[.ref l,.int x u],[]⟩) (λ_ R s=>s.heap.get? l=some { cls:= .type "tuple",dict:=dd,data:= .seq items n,slots:=sl }/\R (.ok (.ret (.ref s.heap.objs.size))) { s with heap:=s.heap.push { cls:= .type "tuple",data:= .seq #[] } }):=
 .of_wp λprog w A R s h=>by
  obtain⟨hp,g,d,tk,os⟩:=s;obtain⟨hl,h⟩:=h
  have f1:=AutoSeq1.idx_int
  wp_walk
  rw[if_neg h0]
  wp_walk using AutoSeq1.wpAny_loadPart' hl
  exact⟨_,rfl,h⟩
theorem Bd (l:Addr)(items:Array Value)(n:Nat)(dd:Option Addr)(sl:Array (Option Value))(x:Int)(u:Tok)(h0:¬(decide (x< -(2 ^ 63))||decide (x≥2 ^ 63))=true)(h1:¬(items.isEmpty||x==1)=true)(h2:¬(decide (x<=0)||items.isEmpty)=true)
 (h3:¬(items.size:Int)*x>(2 ^ 63 - 1)/8)(h4:¬Builtin.Tuple.tupleTooMany ((items.size:Int)*x)=true)(h5:(List.foldl (λx1 x2=>x1++x2) #[] (List.replicate x.toNat items)).size<=sizeLine):
 Meets (Builtin.«tuple.__mul__» ⟨[.ref l,.int x u],[]⟩) (λ_ R s=>s.heap.get? l=some { cls:= .type "tuple",dict:=dd,data:= .seq items n,slots:=sl }/\
  R (.ok (.ret (.ref s.heap.objs.size))) { s with heap:=s.heap.push { cls:= .type "tuple",data:= .seq (List.foldl (λx1 x2=>x1++x2) #[] (List.replicate x.toNat items)) } }):=
 .of_wp λprog w A R s h=>by
  obtain⟨hp,g,d,tk,os⟩:=s;obtain⟨hl,h⟩:=h
  have f1:=AutoSeq1.idx_int
  wp_walk
  rw[if_neg h0]
  wp_walk using AutoSeq1.wpAny_loadPart' hl
  rw[if_neg h3]
  wp_walk
  exact⟨_,rfl,h⟩
noncomputable def Vw (K:Fg):R2:=λx y H Q=>∃a k xs,x= .ref a/\y= .int k/\uN K H a xs/\ -(2 ^ 63)<=k/\k<2 ^ 63/\xs.length*k.toNat<=sizeLine/\((xs=[]\/k=1)->Q (.ref a) H)/\
 (¬(xs=[]\/k=1)->∀p,H p=none->Q (.ref p) (upd H p (.tup (List.replicate k.toNat xs).flatten)))
theorem cZ:tY X (binaryOp .Mult) (Vw X.K):=by
 intro pins s σ H x y v u Q I rx ry h
 obtain⟨a,k,xs,rfl,rfl,ha,k1,k2,hz,q1,q2⟩:=h
 cases rx
 obtain⟨t,rfl⟩:=ry
 obtain⟨its,r1,p1,_⟩:=I.tuple ha
 obtain⟨⟨cls,dd,data,sl⟩,ho,hc,n,hd⟩:=id p1
 simp only at hc hd
 subst hc hd
 have hlen:=r1.length
 have h0:¬(decide (k< -(2 ^ 63))||decide (k≥2 ^ 63))=true:=by simp;omega
 have emp:its.toArray.isEmpty=decide (xs=[]):=by
  cases r1<;>simp
 refine wpAny_binaryOp_repeat_ref (T:="tuple") (U:="int") (by decide) ⟨_,ho,rfl⟩ (λs'=>typeIs_int s' k t) wI PySem.F.fills_int_mul PySem.F.slot_int_rmul Er PySem.F.slot_int_index.lookup
  (call_meets PySem.F.slot_int_rmul (typeIs_int s k t) PySem.F.entry_int_rmul (PySem.F.args_int_rmul_2 _ _) (Al k t a its.toArray n dd sl)
   ⟨ho,rfl,⟨_,ho,rfl⟩,?_⟩)
 by_cases hs:xs=[]\/k=1
 ·exact call_meets PySem.F.slot_tuple_mul ⟨_,ho,rfl⟩ PySem.F.entry_tuple_mul (PySem.F.args_tuple_mul_2 _ _) (Bf a its.toArray n dd sl k t h0 (by rw[emp];simpa using hs)) ⟨ho,⟨.ref a,H,I,rfl,q1 hs⟩⟩
 ·have h1:¬(its.toArray.isEmpty||k==1)=true:=by rw[emp];simpa using hs
  have fin:∀(arr:List Value),Vals (List.replicate k.toNat xs).flatten arr->EP X pins σ Q (.ref s.heap.objs.size) { s with heap:=s.heap.push { cls:= .type "tuple",data:= .seq arr.toArray } }:=λarr rv=>
   ⟨.ref _,_,I.laid (t':=s.toks) (o:= .tup (List.replicate k.toNat xs).flatten) (λb ob q=>Heap.get?_push_of_some _ q) (Nat.le_refl _) ⟨by rw[len_rep,Nat.mul_comm];exact hz,arr,rv,uR.new _ _⟩,rfl,q2 hs _ I.fresh⟩
  have rv:=r1.rep k.toNat
  have f0:List.foldl (λx1 x2=>x1++x2) #[] (List.replicate k.toNat its.toArray)=(List.replicate k.toNat its).flatten.toArray:=by
   have:=foldl_rep its k.toNat []
   rw[List.nil_append]at this
   exact this
  by_cases hn:k<=0
  ·have e0:k.toNat=0:=by omega
   refine call_meets PySem.F.slot_tuple_mul ⟨_,ho,rfl⟩ PySem.F.entry_tuple_mul (PySem.F.args_tuple_mul_2 _ _) (Be a its.toArray n dd sl k t h0 h1 (by simp[hn])) ⟨ho,?_⟩
   exact fin [] (by rw[e0];exact .nil)
  ·have e1:((its.toArray.size:Nat):Int)*k=((its.length*k.toNat:Nat):Int):=by
    rw[List.size_toArray,Int.natCast_mul]
    congr 1
    omega
   have hz':its.length*k.toNat<=sizeLine:=by rw[<-hlen];exact hz
   have a1b:=rH
   have h63:¬((its.toArray.size:Nat):Int)*k>(2 ^ 63 - 1)/8:=by
    rw[e1]
    have:(sizeLine:Nat)<=(2 ^ 63 - 1)/8:=by decide
    omega
   have hne:¬(decide (k<=0)||its.toArray.isEmpty)=true:=by
    rw[emp]
    simp only[Bool.or_eq_true,decide_eq_true_eq,not_or]
    exact⟨hn,λz=>hs (.inl z)⟩
   refine call_meets PySem.F.slot_tuple_mul ⟨_,ho,rfl⟩ PySem.F.entry_tuple_mul (PySem.F.args_tuple_mul_2 _ _) (Bd a its.toArray n dd sl k t h0 h1 hne h63
    (by rw[e1];unfold Builtin.Tuple.tupleTooMany;intro z;have z:=of_decide_eq_true z;omega) (by rw[f0,List.size_toArray,len_rep,Nat.mul_comm];exact hz')) ⟨ho,?_⟩
   show EP X pins σ Q (.ref s.heap.objs.size) { s with heap:=s.heap.push { cls:= .type "tuple",data:= .seq (List.foldl (λx1 x2=>x1++x2) #[] (List.replicate k.toNat its.toArray)) } }
   rw[f0]
   exact fin _ rv
noncomputable def bG:D->D->Option D
 | .tup l,.int k=>if(-(2 ^ 63)<=k/\k<2 ^ 63)/\l.length*k.toNat<=sizeLine then some (.tup (List.replicate k.toNat l).flatten)else none
 |_,_=>none
theorem cz {K:Fg}:Du K (Vw K) bG:=by
 intro O H x y dx dy d Q w rx ry e q
 unfold bG at e
 split at e
 ·obtain⟨⟨⟨z1,z2⟩,z3⟩,rfl⟩:=mV e
  obtain⟨a,vs,rfl,h1,h2⟩:=rx
  cases ry
  refine⟨a,_,vs,rfl,rfl,h1,z1,z2,by rw[<-h2.length];exact z3,λhs=>?_,λhs p hp=>q _ _ (bT hp) (oO hp (h2.rep _))⟩
  refine q _ H (bN.refl H) ⟨a,vs,rfl,h1,?_⟩
  rcases hs with rfl|rfl
  ·have:_=[]:=h2.qw.mpr rfl
   rw[this]
   simp[aU]
  ·simpa using h2
 ·cases e
end
section
variable {prog:Program}{w:World}{A:Around}{E:Value->Shared->Prop}{s:Shared}
theorem vm {it l:Addr}{i:Nat}{items}{x:Value}{Q:Value->Shared->Prop}(hit:s.heap.IsTupleIter it l i)(hl:s.heap.IsTuple l items)(hx:items[i]?=some x)
 (hQ:∀h',h'.IsTupleIter it l (i+1)->Heap.SameBut it s.heap h'->Q x { s with heap:=h' }):wpAny (model prog w) A (Builtin.SmallTypes.nextOf (.ref it)) Q E s:=by
 obtain⟨o,ho,hc,hd⟩:=id hit
 obtain⟨ol,hol,_,nl,hdl⟩:=hl
 unfold Builtin.SmallTypes.nextOf
 refine wpAny_bind (wpAny_callSpecial?_slot (name:=Str.ofString "__next__") hit.typeIs PySem.F.slot_tuple_iterator_next
  (wpAny_call_entry PySem.F.slot_tuple_iterator_next hit.typeIs PySem.F.entry_tuple_iterator_next ?_ (PySem.F.args_tuple_iterator_next_1 _)))
 show wpAny _ _ (field (.ref it) 0>>=_) _ _ s
 refine wpAny_bind (wpAny_field ho hd (x:= .ref l) rfl ?_)
 show wpAny _ _ (if(Value.ref l==Value.none)=true then _ else _) _ _ s
 rw[if_neg (show ¬((Value.ref l==Value.none)=true) from Bool.false_ne_true)]
 show wpAny _ _ (field (.ref it) 1>>=_) _ _ s
 refine wpAny_bind (wpAny_field ho hd (x:= .int i 0) rfl ?_)
 show wpAny _ _ (seqItems? (.ref l)>>=_) _ _ s
 refine wpAny_bind (wpAny_seqItems hol hdl ?_)
 simp only[Int.toNat_natCast,hx]
 refine wpAny_bind (wpAny_setField ho hd (by simp) (wpAny_pure ⟨x,rfl,wpAny_pure (hQ _ ?_ (Heap.SameBut.update ..))⟩))
 exact⟨_,Heap.get?_update_self _ ho (Obj.isFreed_of_fields (Obj.data_mapFields hd _)),(Obj.cls_mapFields ..).trans hc,by
  rw[Obj.data_mapFields hd];simp[rawInt]⟩
theorem wH {it l:Addr}{i:Nat}{items}{Q:Value->Shared->Prop}(hh:A.handled=none)(hit:s.heap.IsTupleIter it l i)(hl:s.heap.IsTuple l items)(hx:items[i]?=none)
 (hE:∀h' e,Heap.ExtBut it s.heap h'->(∃o,h'.get? e=some o/\o.cls= .type "StopIteration")->E (.ref e) { s with heap:=h' }):wpAny (model prog w) A (Builtin.SmallTypes.nextOf (.ref it)) Q E s:=by
 obtain⟨o,ho,hc,hd⟩:=id hit
 obtain⟨ol,hol,_,nl,hdl⟩:=hl
 unfold Builtin.SmallTypes.nextOf
 refine wpAny_bind (wpAny_callSpecial?_slot (name:=Str.ofString "__next__") hit.typeIs PySem.F.slot_tuple_iterator_next
  (wpAny_call_entry PySem.F.slot_tuple_iterator_next hit.typeIs PySem.F.entry_tuple_iterator_next ?_ (PySem.F.args_tuple_iterator_next_1 _)))
 show wpAny _ _ (field (.ref it) 0>>=_) _ _ s
 refine wpAny_bind (wpAny_field ho hd (x:= .ref l) rfl ?_)
 show wpAny _ _ (if(Value.ref l==Value.none)=true then _ else _) _ _ s
 rw[if_neg (show ¬((Value.ref l==Value.none)=true) from Bool.false_ne_true)]
 show wpAny _ _ (field (.ref it) 1>>=_) _ _ s
 refine wpAny_bind (wpAny_field ho hd (x:= .int i 0) rfl ?_)
 show wpAny _ _ (seqItems? (.ref l)>>=_) _ _ s
 refine wpAny_bind (wpAny_seqItems hol hdl ?_)
 simp only[Int.toNat_natCast,hx]
 refine wpAny_bind (wpAny_rule (wpAny_bind (wpAny_setField ho hd (by simp) ?_)))
 show wpAny _ _ (newExc (.type "StopIteration") []>>=_) _ _ _
 refine wpAny_bind ?_
 simp only[newExc,newTuple]
 refine wpAny_bind (wpAny_newObj_type ?_ (by size_fits))
 refine wpAny_bind (m:=firstArgMember _ _) (wpAny_of_eq (a:=Value.none) (by first|rfl|(simp only[firstArgMember];rfl)) ?_)
 refine wpAny_newObj_type ?_ (by size_fits)
 simp only[raiseNew]
 refine wpAny_bind (wpAny_handled ?_)
 first|rw[show A.in1.handled=none from hh]|rw[hh]
 refine wpAny_bind (wpAny_pure (wpAny_throw ?_))
 exact hE _ _ (((Heap.SameBut.update ..).extBut.push _).push _) ⟨_,Heap.get?_push_size _ rfl,rfl⟩
end
theorem Gn {prog:Program}{w:World}{A:Around}(hh:A.handled=none)(it l:Addr)(hne:l≠it)(items:Array Value):
 Draws prog w A it [it,l] items.size (λi v=>items[i]?=some v) (λi h=>h.IsTupleIter it l i/\h.IsTuple l items) where
 live:=λ_ _ st=>let⟨o,ho,_⟩:=st.1;⟨o,ho⟩
 frame:=λ_ _ _ st hk=>⟨let⟨o,ho,r⟩:=st.1;⟨o,hk it (by simp) o ho,r⟩,let⟨o,ho,r⟩:=st.2;⟨o,hk l (by simp) o ho,r⟩⟩
 item:=λi s Q E hi st hQ=>by
  refine vm st.1 st.2 (x:=items[i]) (by simp[hi]) λh' hit' hs'=>?_
  exact hQ _ h' s.toks (by simp[hi]) ⟨hit',st.2.extBut hs'.extBut hne⟩ hs'
 done:=λs Q E st hE=>wH hh st.1 st.2 (by simp) hE
section
variable {prog:Program}{w:World}{A:Around}{E:Value->Shared->Prop}{s:Shared}
structure vX (z TI TO i1 i2:Addr)(Ja Jb:List Addr):Prop where
 TIz:TI≠z
 TOz:TO≠z
 i1z:i1≠z
 i2z:i2≠z
 TITO:TI≠TO
 TIi1:TI≠i1
 TIi2:TI≠i2
 TOi1:TO≠i1
 TOi2:TO≠i2
 i12:i1≠i2
 f1z:z∉Ja
 f1T:TO∉Ja
 f1i:i2∉Ja
 f2z:z∉Jb
 f2T:TO∉Jb
 f2i:i1∉Jb
variable {z TI TO i1 i2:Addr}{Ja Jb:List Addr}{n1 n2 k:Nat}{P1 P2:Nat->Value->Prop}{S1 S2:Nat->Heap->Prop}{a b:Value}
theorem gj {it c:Addr}{fp:List Addr}{n:Nat}{P:Nat->Value->Prop}{St:Nat->Heap->Prop}{i:Nat}{h h':Heap}(D:Draws prog w A it fp n P St)(hs:Heap.SameBut c h h')(hc:c∉fp)(st:St i h):St i h':=
 D.frame i h h' st λb hb o e=>(hs.2 b λq=>hc (q▸hb)).trans e
theorem Oc {Q:Value->Shared->Prop}(D1:Draws prog w A i1 Ja n1 P1 S1)(D2:Draws prog w A i2 Jb n2 P2 S2)(D:vX z TI TO i1 i2 Ja Jb)
 (hz:IsZip s.heap z TI TO .none)(hTI:IsPair s.heap TI (.ref i1) (.ref i2))(hTO:IsPair s.heap TO a b)(h1:S1 k s.heap)(h2:S2 k s.heap)(hk1:k<n1)(hk2:k<n2)
 (hQ:∀x y h' tk,P1 k x->P2 k y->IsZip h' z TI TO (rawInt s.heap.objs.size)->IsPair h' TO x y->S1 (k+1) h'->S2 (k+1) h'->IsPair h' s.heap.objs.size x y->h'.objs.size=s.heap.objs.size+1->
  (∀c o,c≠z->c≠TO->c≠i1->c≠i2->s.heap.get? c=some o->h'.get? c=some o)->Q (.ref s.heap.objs.size) { s with heap:=h',toks:=tk }):
 wpAny (model prog w) A (Builtin.«zip.__next__» ⟨[.ref z],[]⟩) (λfin s'=>∃v,fin= .done (.ret v)/\Q v s') E s:=by
 obtain⟨hp,g,dr,tk₀,os⟩:=s
 show wpAny _ _ (field (.ref z) 2>>=_) _ _ _
 refine wpAny_bind (wpAny_field hz rfl (x:= .bool false) rfl ?_)
 show wpAny _ _ (field (.ref z) 3>>=_) _ _ _
 refine wpAny_bind (wpAny_field hz rfl (x:= .ref TI) rfl ?_)
 refine wpAny_bind (wpAny_seqItems hTI rfl ?_)
 show wpAny _ _ (Builtin.SmallTypes.ownedTupleIsFree (.ref z)>>=_) _ _ _
 refine wpAny_bind ?_
 unfold Builtin.SmallTypes.ownedTupleIsFree
 refine wpAny_bind (wpAny_field hz rfl (x:= .none) rfl (wpAny_pure ?_))
 simp only[if_true]
 refine wpAny_bind (wpAny_rule ?_)
 refine wpAny_bind (wpAny_field hz rfl (x:= .ref TO) rfl ?_)
 refine wpAny_bind (wpAny_setField_rec hz (by simp) λh₁ hz₁ hs₁=>?_)
 replace hs₁:Heap.SameBut z hp h₁:=hs₁
 replace hz₁:IsZip h₁ z TI TO .ellipsis:=hz₁
 refine wpAny_bind ?_
 simp only[List.zipIdx_cons,List.zipIdx_nil,List.forIn_cons,List.forIn_nil]
 refine wpAny_bind (wpAny_bind (wpAny_onRaise ?_))
 show wpAny _ _ (Builtin.SmallTypes.nextOf (.ref i1)>>=_) _ _ _
 refine wpAny_bind (D1.item k _ _ _ hk1 (gj D1 hs₁ D.f1z h1) λx h₂ tk₂ hx h1₂ hs₂=>wpAny_pure ?_)
 replace hs₂:Heap.SameBut i1 h₁ h₂:=hs₂
 have hTO₂:IsPair h₂ TO a b:=hs₂.extBut _ _ D.TOi1 (hs₁.extBut _ _ D.TOz hTO)
 refine wpAny_bind (wpAny_seqItems hTO₂ rfl ?_)
 refine wpAny_bind (wpAny_updateSeq_pair hTO₂ λh₃ hTO₃ hs₃=>?_)
 replace hs₃:Heap.SameBut TO h₂ h₃:=hs₃
 replace hTO₃:IsPair h₃ TO x b:=hTO₃
 refine wpAny_bind (wpAny_letGo (wpAny_pure ?_))
 refine wpAny_bind (wpAny_bind (wpAny_onRaise ?_))
 show wpAny _ _ (Builtin.SmallTypes.nextOf (.ref i2)>>=_) _ _ _
 refine wpAny_bind (D2.item k _ _ _ hk2 (gj D2 hs₃ D.f2T (gj D2 hs₂ D.f2i (gj D2 hs₁ D.f2z h2))) λy h₄ tk₄ hy h2₄ hs₄=>wpAny_pure ?_)
 replace hs₄:Heap.SameBut i2 h₃ h₄:=hs₄
 have hTO₄:IsPair h₄ TO x b:=hs₄.extBut _ _ D.TOi2 hTO₃
 refine wpAny_bind (wpAny_seqItems hTO₄ rfl ?_)
 refine wpAny_bind (wpAny_updateSeq_pair hTO₄ λh₅ hTO₅ hs₅=>?_)
 replace hs₅:Heap.SameBut TO h₄ h₅:=hs₅
 replace hTO₅:IsPair h₅ TO x y:=hTO₅
 refine wpAny_bind (wpAny_letGo (wpAny_pure (wpAny_pure ?_)))
 refine wpAny_bind (wpAny_seqItems hTO₅ rfl ?_)
 refine wpAny_bind (wpAny_newTuple ?_)
 have hsz:h₅.objs.size=hp.objs.size:=by rw[hs₅.1,hs₄.1,hs₃.1,hs₂.1,hs₁.1]
 have hz₅:IsZip h₅ z TI TO .ellipsis:=hs₅.extBut _ _ D.TOz.symm (hs₄.extBut _ _ D.i2z.symm (hs₃.extBut _ _ D.TOz.symm (hs₂.extBut _ _ D.i1z.symm hz₁)))
 have hk₅:∀c o,c≠z->c≠TO->c≠i1->c≠i2->hp.get? c=some o->h₅.get? c=some o:=λc o c1 c2 c3 c4 e=>
  hs₅.extBut _ _ c2 (hs₄.extBut _ _ c4 (hs₃.extBut _ _ c2 (hs₂.extBut _ _ c3 (hs₁.extBut _ _ c1 e))))
 have h1₅:S1 (k+1) h₅:=gj D1 hs₅ D.f1T (gj D1 hs₄ D.f1i (gj D1 hs₃ D.f1T h1₂))
 have h2₅:S2 (k+1) h₅:=gj D2 hs₅ D.f2T h2₄
 have hzlt:z<h₅.objs.size:=Heap.lt_size hz₅
 show wpAny _ _ (Builtin.SmallTypes.ownedTupleHandOut (.ref z) (.ref h₅.objs.size)>>=_) _ _ _
 refine wpAny_bind ?_
 unfold Builtin.SmallTypes.ownedTupleHandOut
 have hz₆:IsZip (h₅.push { cls:= .type "tuple",data:= .seq #[x,y] }) z TI TO .ellipsis:=Heap.get?_push_of_some _ hz₅
 refine wpAny_bind (wpAny_setField_rec hz₆ (by simp) λh₇ hz₇ hs₇=>?_)
 replace hz₇:IsZip h₇ z TI TO (rawInt h₅.objs.size):=hz₇
 refine wpAny_setField_rec hz₇ (by simp) λh₈ hz₈ hs₈=>?_
 replace hz₈:IsZip h₈ z TI TO (rawInt h₅.objs.size):=hz₈
 have up:∀c o,c≠z->h₅.get? c=some o->h₈.get? c=some o:=λc o c1 e=>hs₈.extBut _ _ c1 (hs₇.extBut _ _ c1 (Heap.get?_push_of_some _ e))
 have hT₈:IsPair h₈ h₅.objs.size x y:=hs₈.extBut _ _ (Nat.ne_of_gt hzlt) (hs₇.extBut _ _ (Nat.ne_of_gt hzlt) (Heap.get?_push_size _ rfl))
 have hz8:h₈.objs.size=h₅.objs.size+1:=by rw[hs₈.1,hs₇.1,Heap.size_push]
 rw[hsz]at hz₈ hT₈ hz8
 refine wpAny_pure ⟨_,rfl,?_⟩
 show Q (.ref h₅.objs.size) _
 rw[hsz]
 exact hQ x y h₈ _ hx hy hz₈ (up _ _ D.TOz hTO₅) (D1.frame _ _ _ h1₅ λc hc o e=>up c o (λq=>D.f1z (q▸hc)) e) (D2.frame _ _ _ h2₅ λc hc o e=>up c o (λq=>D.f2z (q▸hc)) e) hT₈ hz8 λc o c1 c2 c3 c4 e=>up c o c1 (hk₅ c o c1 c2 c3 c4 e)
theorem Ru {Q:PySem.Fin->Shared->Prop}(D1:Draws prog w A i1 Ja n1 P1 S1)(D2:Draws prog w A i2 Jb n2 P2 S2)(D:vX z TI TO i1 i2 Ja Jb)
 (hz:IsZip s.heap z TI TO .none)(hTI:IsPair s.heap TI (.ref i1) (.ref i2))(hTO:IsPair s.heap TO a b)(h1:S1 k s.heap)(h2:S2 k s.heap)(hend:k=n1\/(k<n1/\k=n2))
 (hE:∀h' e tk,(∀c o,c≠z->c≠TO->c≠i1->c≠i2->s.heap.get? c=some o->h'.get? c=some o)->(∃o,h'.get? e=some o/\o.cls= .type "StopIteration")->E (.ref e) { s with heap:=h',toks:=tk }):
 wpAny (model prog w) A (Builtin.«zip.__next__» ⟨[.ref z],[]⟩) Q E s:=by
 obtain⟨hp,g,dr,tk₀,os⟩:=s
 show wpAny _ _ (field (.ref z) 2>>=_) _ _ _
 refine wpAny_bind (wpAny_field hz rfl (x:= .bool false) rfl ?_)
 show wpAny _ _ (field (.ref z) 3>>=_) _ _ _
 refine wpAny_bind (wpAny_field hz rfl (x:= .ref TI) rfl ?_)
 refine wpAny_bind (wpAny_seqItems hTI rfl ?_)
 show wpAny _ _ (Builtin.SmallTypes.ownedTupleIsFree (.ref z)>>=_) _ _ _
 refine wpAny_bind ?_
 unfold Builtin.SmallTypes.ownedTupleIsFree
 refine wpAny_bind (wpAny_field hz rfl (x:= .none) rfl (wpAny_pure ?_))
 simp only[if_true]
 refine wpAny_bind (wpAny_rule ?_)
 refine wpAny_bind (wpAny_field hz rfl (x:= .ref TO) rfl ?_)
 refine wpAny_bind (wpAny_setField_rec hz (by simp) λh₁ hz₁ hs₁=>?_)
 replace hs₁:Heap.SameBut z hp h₁:=hs₁
 replace hz₁:IsZip h₁ z TI TO .ellipsis:=hz₁
 refine wpAny_bind ?_
 simp only[List.zipIdx_cons,List.zipIdx_nil,List.forIn_cons,List.forIn_nil]
 refine wpAny_bind (wpAny_bind (wpAny_onRaise ?_))
 show wpAny _ _ (Builtin.SmallTypes.nextOf (.ref i1)>>=_) _ _ _
 rcases hend with rfl|⟨hk1,rfl⟩
 ·refine wpAny_bind (D1.done _ _ _ (gj D1 hs₁ D.f1z h1) λh₂ e hs₂ he=>?_)
  replace hs₂:Heap.ExtBut i1 h₁ h₂:=hs₂
  obtain⟨oe,hoe,hce⟩:=he
  have hz₂:IsZip h₂ z TI TO .ellipsis:=hs₂ _ _ D.i1z.symm hz₁
  have hez:e≠z:=λx=>by subst x;rw[hz₂]at hoe;cases hoe;simp at hce
  refine wpAny_setField_rec hz₂ (by simp) λh₃ _ hs₃=>hE h₃ e _ (λc o c1 _ c3 _ x=>hs₃.extBut _ _ c1 (hs₂ _ _ c3 (hs₁.extBut _ _ c1 x))) ⟨oe,hs₃.extBut _ _ hez hoe,hce⟩
 ·refine wpAny_bind (D1.item k _ _ _ hk1 (gj D1 hs₁ D.f1z h1) λx h₂ tk₂ hx h1₂ hs₂=>wpAny_pure ?_)
  replace hs₂:Heap.SameBut i1 h₁ h₂:=hs₂
  have hTO₂:IsPair h₂ TO a b:=hs₂.extBut _ _ D.TOi1 (hs₁.extBut _ _ D.TOz hTO)
  refine wpAny_bind (wpAny_seqItems hTO₂ rfl ?_)
  refine wpAny_bind (wpAny_updateSeq_pair hTO₂ λh₃ hTO₃ hs₃=>?_)
  replace hs₃:Heap.SameBut TO h₂ h₃:=hs₃
  refine wpAny_bind (wpAny_letGo (wpAny_pure ?_))
  refine wpAny_bind (wpAny_bind (wpAny_onRaise ?_))
  show wpAny _ _ (Builtin.SmallTypes.nextOf (.ref i2)>>=_) _ _ _
  refine wpAny_bind (D2.done _ _ _ (gj D2 hs₃ D.f2T (gj D2 hs₂ D.f2i (gj D2 hs₁ D.f2z h2))) λh₄ e hs₄ he=>?_)
  replace hs₄:Heap.ExtBut i2 h₃ h₄:=hs₄
  obtain⟨oe,hoe,hce⟩:=he
  have hz₄:IsZip h₄ z TI TO .ellipsis:=hs₄ _ _ D.i2z.symm (hs₃.extBut _ _ D.TOz.symm (hs₂.extBut _ _ D.i1z.symm hz₁))
  have hez:e≠z:=λx=>by subst x;rw[hz₄]at hoe;cases hoe;simp at hce
  refine wpAny_setField_rec hz₄ (by simp) λh₅ _ hs₅=>hE h₅ e _ (λc o c1 c2 c3 c4 x=>hs₅.extBut _ _ c1 (hs₄ _ _ c4 (hs₃.extBut _ _ c2 (hs₂.extBut _ _ c3 (hs₁.extBut _ _ c1 x))))) ⟨oe,hs₅.extBut _ _ hez hoe,hce⟩
theorem wM {Q:Option Value->Shared->Prop}(D1:Draws prog w A.in1 i1 Ja n1 P1 S1)(D2:Draws prog w A.in1 i2 Jb n2 P2 S2)(D:vX z TI TO i1 i2 Ja Jb)
 (hz:IsZip s.heap z TI TO .none)(hTI:IsPair s.heap TI (.ref i1) (.ref i2))(hTO:IsPair s.heap TO a b)(h1:S1 k s.heap)(h2:S2 k s.heap)(hk1:k<n1)(hk2:k<n2)
 (hQ:∀x y h' tk,P1 k x->P2 k y->IsZip h' z TI TO (rawInt s.heap.objs.size)->IsPair h' TO x y->S1 (k+1) h'->S2 (k+1) h'->IsPair h' s.heap.objs.size x y->h'.objs.size=s.heap.objs.size+1->
  (∀c o,c≠z->c≠TO->c≠i1->c≠i2->s.heap.get? c=some o->h'.get? c=some o)->Q (some (.ref s.heap.objs.size)) { s with heap:=h',toks:=tk }):
 wpAny (model prog w) A (pyNext (.ref z)) Q E s:=by
 have hT:s.TypeIs (.ref z) "zip":=⟨_,hz,rfl⟩
 unfold pyNext
 exact wpAny_bind (wpAny_attempt (wpAny_callSpecial?_slot (name:=Str.ofString "__next__") hT PySem.F.slot_zip_next
  (wpAny_call_entry PySem.F.slot_zip_next hT PySem.F.entry_zip_next
   (Oc D1 D2 D hz hTI hTO h1 h2 hk1 hk2 λx y h' tk b1 b2 a1 a2 a3 a4 a5 a6 a7=>wpAny_pure (hQ x y h' tk b1 b2 a1 a2 a3 a4 a5 a6 a7)) (PySem.F.args_zip_next_1 _))))
theorem yN {Q:Option Value->Shared->Prop}(D1:Draws prog w A.in1 i1 Ja n1 P1 S1)(D2:Draws prog w A.in1 i2 Jb n2 P2 S2)(D:vX z TI TO i1 i2 Ja Jb)
 (hz:IsZip s.heap z TI TO .none)(hTI:IsPair s.heap TI (.ref i1) (.ref i2))(hTO:IsPair s.heap TO a b)(h1:S1 k s.heap)(h2:S2 k s.heap)(hend:k=n1\/(k<n1/\k=n2))
 (hQ:∀h' tk,(∀c o,c≠z->c≠TO->c≠i1->c≠i2->s.heap.get? c=some o->h'.get? c=some o)->Q none { s with heap:=h',toks:=tk }):wpAny (model prog w) A (pyNext (.ref z)) Q E s:=by
 have hT:s.TypeIs (.ref z) "zip":=⟨_,hz,rfl⟩
 unfold pyNext
 refine wpAny_bind (wpAny_attempt (wpAny_callSpecial?_slot (name:=Str.ofString "__next__") hT PySem.F.slot_zip_next
  (wpAny_call_entry PySem.F.slot_zip_next hT PySem.F.entry_zip_next (Ru D1 D2 D hz hTI hTO h1 h2 hend λh' e tk hk he=>?_) (PySem.F.args_zip_next_1 _))))
 obtain⟨o,ho,hc⟩:=he
 refine wpAny_bind (wpAny_isInstance (T:="StopIteration") (b:=true) ⟨o,ho,hc⟩ isSubtype_stop ?_)
 exact wpAny_pure (hQ _ _ hk)
end
inductive fG where
 |lst (a:Addr)
 |tup (a:Addr)
 |str (x:Str) (t:Tok)
noncomputable def fG.val:fG->Value
 | .lst a=> .ref a
 | .tup a=> .ref a
 | .str x t=> .str x t
noncomputable def fG.obj:fG->Obj
 | .lst a=>{ cls:= .type "list_iterator",data:= .fields #[.ref a,.int 0 0] }
 | .tup a=>{ cls:= .type "tuple_iterator",data:= .fields #[.ref a,.int 0 0] }
 | .str x t=>{ cls:= .type (strIterType x),data:= .fields #[.str x t,.int 0 0] }
noncomputable def fG.src (k:fG)(its:Array Value)(h:Heap):Prop:=match k with
 | .lst a=>h.IsList a its
 | .tup a=>h.IsTuple a its
 | .str x _=>its.size=x.cps.size
noncomputable def fG.tn (k:fG)(it:Addr)(i:Nat)(h:Heap):Prop:=match k with
 | .lst a=>h.IsListIter it a i
 | .tup a=>h.IsTupleIter it a i
 | .str x t=>h.IsStrIter it (strIterType x) x t i
noncomputable def fG.fp (k:fG)(it:Addr):List Addr:=match k with
 | .lst a=>[it,a]
 | .tup a=>[it,a]
 | .str _ _=>[it]
noncomputable def fG.P (k:fG)(its:Array Value)(i:Nat)(v:Value):Prop:=match k with
 | .str x _=>∃c u,x.cps[i]?=some c/\v= .str ⟨#[c]⟩ u
 |_=>its[i]?=some v
theorem fG.iter {prog:Program}{w:World}{A:Around}{E:Value->Shared->Prop}{s:Shared}{Q:Value->Shared->Prop}(k:fG){its:Array Value}(h:k.src its s.heap)(hQ:Q (.ref s.heap.objs.size) { s with heap:=s.heap.push k.obj }):wpAny (model prog w) A (pyIter k.val) Q E s:=by
 cases k with
 |lst a=>exact wpAny_pyIter_list h hQ
 |tup a=>exact wpAny_pyIter_tuple h hQ
 |str x t=>exact wpAny_pyIter_strU hQ
theorem fG.push {k:fG}{its:Array Value}{h:Heap}(x:k.src its h)(o:Obj):k.src its (h.push o):=by
 cases k with
 |lst a=>exact Heap.IsList.push x o
 |tup a=>exact Heap.IsTuple.push x o
 |str x' t=>exact x
theorem fG.start {k:fG}{it:Addr}{h:Heap}(e:h.get? it=some k.obj):k.tn it 0 h:=by
 cases k with
 |lst a=>exact⟨_,e,rfl,rfl⟩
 |tup a=>exact⟨_,e,rfl,rfl⟩
 |str x t=>exact⟨_,e,rfl,rfl⟩
theorem fG.keep {k:fG}{it:Addr}{i:Nat}{h h':Heap}(x:k.tn it i h)(f:∀o,h.get? it=some o->h'.get? it=some o):k.tn it i h':=by
 cases k with
 |lst a=>exact x.at f
 |tup a=>obtain⟨o,ho,r⟩:=x;exact⟨o,f o ho,r⟩
 |str y t=>obtain⟨o,ho,r⟩:=x;exact⟨o,f o ho,r⟩
theorem fG.live {k:fG}{it:Addr}{i:Nat}{h:Heap}(x:k.tn it i h):∃o,h.get? it=some o/\∀v,o.data≠ .cell v:=by
 cases k with
 |lst a=>obtain⟨o,ho,c,d⟩:=x;exact⟨o,ho,λv z=>by rw[d]at z;cases z⟩
 |tup a=>obtain⟨o,ho,c,d⟩:=x;exact⟨o,ho,λv z=>by rw[d]at z;cases z⟩
 |str y t=>obtain⟨o,ho,c,d⟩:=x;exact⟨o,ho,λv z=>by rw[d]at z;cases z⟩
theorem fG.draws {prog:Program}{w:World}{A:Around}(hh:A.handled=none)(k:fG)(it:Addr)(its:Array Value)(hne:∀a,k.val= .ref a->a≠it)(h0:∃h,k.src its h):
 ∃St,Draws prog w A it (k.fp it) its.size (k.P its) St/\(∀i h,k.tn it i h->k.src its h->St i h)/\∀i h,St i h->k.tn it i h:=by
 cases k with
 |lst a=>exact⟨_,Draws.list hh it a (hne a rfl) its,λi h x y=>⟨x,y⟩,λi h x=>x.1⟩
 |tup a=>exact⟨_,Gn hh it a (hne a rfl) its,λi h x y=>⟨x,y⟩,λi h x=>x.1⟩
 |str x t=>
  obtain⟨_,e⟩:=h0
  have e':its.size=x.cps.size:=e
  rw[e']
  by_cases ha:x.cps.all (·<128)=true
  ·have es:strIterType x="str_ascii_iterator":=by unfold strIterType;rw[if_pos ha]
   refine⟨_,Draws.strAscii hh it x t,λi h y _=>?_,λi h y=>?_⟩
   ·have y':h.IsStrIter it (strIterType x) x t i:=y
    rw[es]at y';exact y'
   ·show h.IsStrIter it (strIterType x) x t i
    rw[es];exact y
  ·have es:strIterType x="str_iterator":=by unfold strIterType;rw[if_neg ha]
   refine⟨_,Draws.strWide hh it x t,λi h y _=>?_,λi h y=>?_⟩
   ·have y':h.IsStrIter it (strIterType x) x t i:=y
    rw[es]at y';exact y'
   ·show h.IsStrIter it (strIterType x) x t i
    rw[es];exact y
noncomputable def fG.o8 (K:Fg)(H:Hp)(xs:List V):fG->Prop
 | .lst a=>oF K H a xs
 | .tup a=>uN K H a xs
 | .str x _=>xs=x.cps.toList.map λc=>V.str ⟨#[c]⟩
section
variable {X:Cx}{pins:List (Addr×Obj)}{σ:L2.St}{H:Hp}{s:Shared}
theorem fG.of {k:fG}{xs:List V}(I:Inv X pins σ H s)(h:k.o8 X.K H xs):∃its:Array Value,k.src its s.heap/\its.size=xs.length/\∀i v,k.P its i v->∃x,xs[i]?=some x/\RelV x v:=by
 cases k with
 |lst a=>
  obtain⟨its,r,p,z⟩:=I.list h
  exact⟨its.toArray,p.isList,by rw[List.size_toArray,r.length],λi v e=>by
   have e':its[i]?=some v:=by simpa[fG.P]using e
   cases q:xs[i]? with
   |none=>rw[r.none_of q]at e';cases e'
   |some x=>obtain⟨u,e1,e2⟩:=r.get q;rw[e1]at e';cases e';exact⟨x,rfl,e2⟩⟩
 |tup a=>
  obtain⟨its,r,p,z⟩:=I.tuple h
  exact⟨its.toArray,p,by rw[List.size_toArray,r.length],λi v e=>by
   have e':its[i]?=some v:=by simpa[fG.P]using e
   cases q:xs[i]? with
   |none=>rw[r.none_of q]at e';cases e'
   |some x=>obtain⟨u,e1,e2⟩:=r.get q;rw[e1]at e';cases e';exact⟨x,rfl,e2⟩⟩
 |str x t=>
  have h':xs=x.cps.toList.map λc=>V.str ⟨#[c]⟩:=h
  subst h'
  refine⟨x.cps.map λ_=> .none,by simp[fG.src],by simp,λi v e=>?_⟩
  obtain⟨c,u,e1,rfl⟩:=e
  exact⟨.str ⟨#[c]⟩,by rw[List.getElem?_map];simp[e1],⟨u,rfl⟩⟩
theorem fG.Ay {k:fG}{xs ys:List V}(I:Inv X pins σ H s)(h:k.o8 X.K H xs)(h':k.o8 X.K H ys):xs=ys:=by
 cases k with
 |lst a=>exact I.Ho h h'
 |tup a=>exact I.Dl h h'
 |str x t=>exact Eq.trans (show xs=_ from h) (show ys=_ from h').symm
theorem Inv.LK {t':Nat}{h':Heap}{ch:List Addr}{p:Addr}{xs:List V}{us:List Value}(I:Inv X pins σ H s)(hp:p=s.heap.objs.size)(k:∀b o,b∉ch->s.heap.get? b=some o->h'.get? b=some o)(hc:∀b∈ch,yz X pins H b)(ho:∀b∈ch,∃o,h'.get? b=some o)
 (e:uR h' p us.toArray)(r:Vals xs us)(hz:xs.length<=sizeLine):Inv X pins σ (upd H p (.tup xs)) { s with heap:=h',toks:=t' }:=by
 subst hp
 have hn:H s.heap.objs.size=none:=I.hok.fresh (Nat.le_refl _)
 have nc:∀b u,H b=some u->b∉ch:=λb u q hb=>by rw[(hc b hb).1]at q;cases q
 have old:∀b o,s.heap.get? b=some o->b≠s.heap.objs.size:=λb o q=>Nat.ne_of_lt (Heap.lt_size q)
 refine I.step (g':=s.gens) (d':=s.drawn) (ch:=ch) (λb hb=>?_) (λb o _ _ hb q _=>k b o hb q) (λb o _ _ hb q _=>⟨o.slots,k b o hb q⟩) (λb o _ q n=>by rw[bM (old b o q)];exact n)
  (λb o hb q=>⟨o,k b o hb q⟩) (λb ys q=>by rw[bM (cO q hn)];exact q) (λb o u q=>by rw[bM (cO q hn)];exact q) (λb ps q=>⟨#[],by rw[bM (cO q hn),q];simp⟩) (λm hm=>?_) (λb u q=>?_) I.bare
 ·obtain⟨f0,f1,f2,f3,f4,f5⟩:=hc b hb
  exact⟨f3,f1,f4,f5⟩
 ·obtain⟨o,es,ep,hl,r'⟩:=hm
  exact⟨o,es,ep,k _ o (λz=>(hc _ z).2.1 rfl) hl,r'⟩
 ·by_cases hb:b=s.heap.objs.size
  ·subst hb
   rw[cM]at q
   cases q
   exact⟨hz,us,r,e⟩
  ·rw[bM hb]at q
   refine(I.hok b u q).stay (λc v hc' q'=>k c v ?_ q') (λc z=>by rw[bM (cO z hn)];exact z) λc ys z=>by rw[bM (cO z hn)];exact z
   rcases hc' with rfl|hc'
   ·exact nc _ _ q
   ·exact nc _ _ hc'
theorem Inv.Fx {t':Nat}{h':Heap}{ch:List Addr}(I:Inv X pins σ H s)(k:∀b o,b∉ch->s.heap.get? b=some o->h'.get? b=some o)(hc:∀b∈ch,yz X pins H b):Inv X pins σ H { s with heap:=h',toks:=t' }:=by
 have nc:∀b u,H b=some u->b∉ch:=λb u q hb=>by rw[(hc b hb).1]at q;cases q
 refine I.step (g':=s.gens) (d':=s.drawn) (ch:=ch) (λb hb=>?_) (λb o _ _ hb q _=>k b o hb q) (λb o _ _ hb q _=>⟨o.slots,k b o hb q⟩) (λb o _ q n=>n)
  (λb o hb q=>⟨o,k b o hb q⟩) (λb ys q=>q) (λb o u q=>q) (λb ps q=>⟨#[],by rw[q];simp⟩) (λm hm=>?_) (λb u q=>?_) I.bare
 ·obtain⟨f0,f1,f2,f3,f4,f5⟩:=hc b hb
  exact⟨f3,f1,f4,f5⟩
 ·obtain⟨o,es,ep,hl,r'⟩:=hm
  exact⟨o,es,ep,k _ o (λz=>(hc _ z).2.1 rfl) hl,r'⟩
 ·refine(I.hok b u q).stay (λc v hc' q'=>k c v ?_ q') (λc z=>z) λc ys z=>z
  rcases hc' with rfl|hc'
  ·exact nc _ _ q
  ·exact nc _ _ hc'
noncomputable def Itz (K:Fg)(k1 k2:fG):It:=
 ⟨λi H=>∃xs ys,k1.o8 K H xs/\k2.o8 K H ys/\i<xs.length/\i<ys.length,
  λi H x H'=>∃p x1 x2,H p=none/\x= .ref p/\H'=upd H p (.tup [x1,x2])/\(∀xs,k1.o8 K H xs->xs[i]?=some x1)/\∀ys,k2.o8 K H ys->ys[i]?=some x2,
  λi H=>∃xs ys,k1.o8 K H xs/\k2.o8 K H ys/\(i=xs.length\/(i<xs.length/\i=ys.length))⟩
theorem Ra {P:Program}{w:World}{K:Fg}{es:List Expr}{kt:Nat}{tp:Pos}(k1 k2:fG)(z TI TO i1 i2:Addr)(d1:TI≠z)(d2:TO≠z)(d3:i1≠z)(d4:i2≠z)(d5:TI≠TO)(d6:TI≠i1)(d7:TI≠i2)(d8:TO≠i1)(d9:TO≠i2)(RC:i1≠i2)
 (h1:∀a,k1.val= .ref a->a≠z/\a≠TO/\a≠i1/\a≠i2)(h2:∀a,k2.val= .ref a->a≠z/\a≠TO/\a≠i1/\a≠i2):
 Turn P w K (.Tuple es kt tp) (Itz K k1 k2) [z,TI,TO,i1,i2] z (λi h=>IsZip h z TI TO .none/\IsPair h TI (.ref i1) (.ref i2)/\(∃a b,IsPair h TO a b)/\k1.tn i1 i h/\k2.tn i2 i h) where
 mem:=by simp
 obj:=λi h st b hb=>by
  obtain⟨hz,hTI,⟨a,b',hTO⟩,t1,t2⟩:=st
  simp only[List.mem_cons,List.not_mem_nil,or_false]at hb
  rcases hb with rfl|rfl|rfl|rfl|rfl
  ·exact⟨_,hz,λv q=>by cases q⟩
  ·exact⟨_,hTI,λv q=>by cases q⟩
  ·exact⟨_,hTO,λv q=>by cases q⟩
  ·exact fG.live t1
  ·exact fG.live t2
 keep:=λi h h' st k=>by
  obtain⟨hz,hTI,⟨a,b',hTO⟩,t1,t2⟩:=st
  exact⟨k z (by simp) _ hz,k TI (by simp) _ hTI,⟨a,b',k TO (by simp) _ hTO⟩,fG.keep t1 λo e=>k i1 (by simp) o e,fG.keep t2 λo e=>k i2 (by simp) o e⟩
 item:=by
  intro X hP hw hK hc i pins s σ H E I hf st hg
  subst hP hw hK
  obtain⟨hz,hTI,⟨a,b',hTO⟩,t1,t2⟩:=st
  obtain⟨xs,ys,q1,q2,l1,l2⟩:=hg
  obtain⟨uC,r1,n1,p1⟩:=fG.of I q1
  obtain⟨its2,r2,n2,p2⟩:=fG.of I q2
  have hh:X.A.in1.handled=none:=I.ok.hd hc
  obtain⟨S1,D1,a1,b1⟩:=fG.draws (prog:=X.prog) (w:=X.w) hh k1 i1 uC (λa e=>(h1 a e).2.2.1) ⟨_,r1⟩
  obtain⟨S2,D2,a2,b2⟩:=fG.draws (prog:=X.prog) (w:=X.w) hh k2 i2 its2 (λa e=>(h2 a e).2.2.2) ⟨_,r2⟩
  have ap:vX z TI TO i1 i2 (k1.fp i1) (k2.fp i2):=by
   refine⟨d1,d2,d3,d4,d5,d6,d7,d8,d9,RC,?_,?_,?_,?_,?_,?_⟩
   ·cases k1<;>simp only[fG.fp,List.mem_cons,List.not_mem_nil,or_false,not_or]<;>first|exact⟨d3.symm,(h1 _ rfl).1.symm⟩|exact d3.symm
   ·cases k1<;>simp only[fG.fp,List.mem_cons,List.not_mem_nil,or_false,not_or]<;>first|exact⟨d8,(h1 _ rfl).2.1.symm⟩|exact d8
   ·cases k1<;>simp only[fG.fp,List.mem_cons,List.not_mem_nil,or_false,not_or]<;>first|exact⟨RC.symm,(h1 _ rfl).2.2.2.symm⟩|exact RC.symm
   ·cases k2<;>simp only[fG.fp,List.mem_cons,List.not_mem_nil,or_false,not_or]<;>first|exact⟨d4.symm,(h2 _ rfl).1.symm⟩|exact d4.symm
   ·cases k2<;>simp only[fG.fp,List.mem_cons,List.not_mem_nil,or_false,not_or]<;>first|exact⟨d9,(h2 _ rfl).2.1.symm⟩|exact d9
   ·cases k2<;>simp only[fG.fp,List.mem_cons,List.not_mem_nil,or_false,not_or]<;>first|exact⟨RC,(h2 _ rfl).2.2.1.symm⟩|exact RC
  refine wM D1 D2 ap hz hTI hTO (a1 _ _ t1 r1) (a2 _ _ t2 r2) (by omega) (by omega) λx y h' tk e1 e2 z1 z2 z3 z4 z5 z6 kk=>⟨_,rfl,?_⟩
  obtain⟨x1,u1,v1⟩:=p1 i x e1
  obtain⟨x2,u2,v2⟩:=p2 i y e2
  have zlt:z≠s.heap.objs.size:=Nat.ne_of_lt (Heap.lt_size hz)
  refine wpAny_letOwnedTupleGo_zip (s:={ s with heap:=h',toks:=tk }) z1 λh2' y1 y2=>?_
  replace y2:Heap.SameBut z h' h2':=y2
  have fin:Inv X pins σ (upd H s.heap.objs.size (.tup [x1,x2])) { s with heap:=h2',toks:=tk }:=by
   refine Inv.LK (us:=[x,y]) (ch:=[z,TI,TO,i1,i2]) I rfl (λb o hb q=>?_) hf (λb hb=>?_) ⟨_,y2.extBut _ _ (Ne.symm zlt) z5,rfl,⟨_,rfl⟩,rfl⟩ (.cons v1 (.cons v2 .nil)) (by show 2<=sizeLine;decide)
   ·simp only[List.mem_cons,List.not_mem_nil,or_false,not_or]at hb
    exact y2.extBut b o hb.1 (kk b o hb.1 hb.2.2.1 hb.2.2.2.1 hb.2.2.2.2 q)
   ·simp only[List.mem_cons,List.not_mem_nil,or_false]at hb
    rcases hb with rfl|rfl|rfl|rfl|rfl
    ·exact⟨_,y1⟩
    ·exact⟨_,y2.extBut _ _ d1 (kk _ _ d1 d5 d6 d7 hTI)⟩
    ·exact⟨_,y2.extBut _ _ d2 z2⟩
    ·obtain⟨o,q,_⟩:=fG.live (b1 _ _ z3)
     exact⟨o,y2.extBut _ _ d3 q⟩
    ·obtain⟨o,q,_⟩:=fG.live (b2 _ _ z4)
     exact⟨o,y2.extBut _ _ d4 q⟩
  refine⟨.ref s.heap.objs.size,_,fin,rfl,⟨_,x1,x2,I.hok.fresh (Nat.le_refl _),rfl,rfl,λxs' q=>by rw[fG.Ay I q q1];exact u1,λys' q=>by rw[fG.Ay I q q2];exact u2⟩,
   ⟨y1,y2.extBut _ _ d1 (kk _ _ d1 d5 d6 d7 hTI),⟨x,y,y2.extBut _ _ d2 z2⟩,fG.keep (b1 _ _ z3) λo q=>y2.extBut _ _ d3 q,fG.keep (b2 _ _ z4) λo q=>y2.extBut _ _ d4 q⟩,λb hb=>?_⟩
  rw[bM ?_]
  ·exact(hf b hb).1
  ·have hobj:∃o,s.heap.get? b=some o:=by
    simp only[List.mem_cons,List.not_mem_nil,or_false]at hb
    rcases hb with rfl|rfl|rfl|rfl|rfl
    ·exact⟨_,hz⟩
    ·exact⟨_,hTI⟩
    ·exact⟨_,hTO⟩
    ·obtain⟨o,q,_⟩:=fG.live t1;exact⟨o,q⟩
    ·obtain⟨o,q,_⟩:=fG.live t2;exact⟨o,q⟩
   obtain⟨o,q⟩:=hobj
   exact Nat.ne_of_lt (Heap.lt_size q)
 done:=by
  intro X hP hw hK hc i pins s σ H E I hf st hg
  subst hP hw hK
  obtain⟨hz,hTI,⟨a,b',hTO⟩,t1,t2⟩:=st
  obtain⟨xs,ys,q1,q2,hend⟩:=hg
  obtain⟨uC,r1,n1,p1⟩:=fG.of I q1
  obtain⟨its2,r2,n2,p2⟩:=fG.of I q2
  have hh:X.A.in1.handled=none:=I.ok.hd hc
  obtain⟨S1,D1,a1,b1⟩:=fG.draws (prog:=X.prog) (w:=X.w) hh k1 i1 uC (λa e=>(h1 a e).2.2.1) ⟨_,r1⟩
  obtain⟨S2,D2,a2,b2⟩:=fG.draws (prog:=X.prog) (w:=X.w) hh k2 i2 its2 (λa e=>(h2 a e).2.2.2) ⟨_,r2⟩
  have ap:vX z TI TO i1 i2 (k1.fp i1) (k2.fp i2):=by
   refine⟨d1,d2,d3,d4,d5,d6,d7,d8,d9,RC,?_,?_,?_,?_,?_,?_⟩
   ·cases k1<;>simp only[fG.fp,List.mem_cons,List.not_mem_nil,or_false,not_or]<;>first|exact⟨d3.symm,(h1 _ rfl).1.symm⟩|exact d3.symm
   ·cases k1<;>simp only[fG.fp,List.mem_cons,List.not_mem_nil,or_false,not_or]<;>first|exact⟨d8,(h1 _ rfl).2.1.symm⟩|exact d8
   ·cases k1<;>simp only[fG.fp,List.mem_cons,List.not_mem_nil,or_false,not_or]<;>first|exact⟨RC.symm,(h1 _ rfl).2.2.2.symm⟩|exact RC.symm
   ·cases k2<;>simp only[fG.fp,List.mem_cons,List.not_mem_nil,or_false,not_or]<;>first|exact⟨d4.symm,(h2 _ rfl).1.symm⟩|exact d4.symm
   ·cases k2<;>simp only[fG.fp,List.mem_cons,List.not_mem_nil,or_false,not_or]<;>first|exact⟨d9,(h2 _ rfl).2.1.symm⟩|exact d9
   ·cases k2<;>simp only[fG.fp,List.mem_cons,List.not_mem_nil,or_false,not_or]<;>first|exact⟨RC,(h2 _ rfl).2.2.1.symm⟩|exact RC
  refine yN D1 D2 ap hz hTI hTO (a1 _ _ t1 r1) (a2 _ _ t2 r2) (by rw[n1,n2];exact hend) λh' tk kk=>⟨rfl,?_⟩
  refine Inv.Fx (ch:=[z,TI,TO,i1,i2]) I (λb o hb q=>?_) hf
  simp only[List.mem_cons,List.not_mem_nil,or_false,not_or]at hb
  exact kk b o hb.1 hb.2.2.1 hb.2.2.2.1 hb.2.2.2.2 q
 self:=λ_ _ _ _ _ st h=>wpAny_pyIter_zip st.1 h
end
noncomputable abbrev zS1 (h:Heap)(k1:fG):Heap:=h.push k1.obj
noncomputable abbrev zS2 (h:Heap)(k1 k2:fG):Heap:=(zS1 h k1).push k2.obj
noncomputable abbrev zS3 (h:Heap)(k1 k2:fG):Heap:=(zS2 h k1 k2).push { cls:= .type "tuple",data:= .seq #[.ref h.objs.size,.ref (zS1 h k1).objs.size] }
noncomputable abbrev zS4 (h:Heap)(k1 k2:fG):Heap:=(zS3 h k1 k2).push { cls:= .type "tuple",data:= .seq #[.none,.none] }
noncomputable abbrev zS5 (h:Heap)(k1 k2:fG):Heap:=(zS4 h k1 k2).push { cls:= .type "zip",data:= .fields #[.none,.bool false,.bool false,.ref (zS2 h k1 k2).objs.size,.ref (zS3 h k1 k2).objs.size] }
theorem zR (k1 k2:fG)(uC its2:Array Value):
 Meets (Builtin.«zip.__new__» ⟨[.type "zip",k1.val,k2.val],[]⟩) (λ_ R s=>k1.src uC s.heap/\k2.src its2 s.heap/\R (.ok (.ret (.ref (zS4 s.heap k1 k2).objs.size))) { s with heap:=zS5 s.heap k1 k2 }):=
 .of_wp λprog w A R s h=>by
  obtain⟨hp,g,d,tk,os⟩:=s;obtain⟨hl1,hl2,h⟩:=h
  have hsub:=sub_zip
  have hL1:k1.src uC (Shared.heap ⟨hp,g,d,tk,os⟩):=hl1
  have hL2:k2.src its2 (Shared.heap ⟨hp.push k1.obj,g,d,tk,os⟩):=fG.push hl2 _
  wp_walk using fG.iter k1 hL1,fG.iter k2 hL2
  exact⟨_,rfl,h⟩
section
variable {prog:Program}{w:World}{A:Around}{E:Value->Shared->Prop}{s:Shared}
theorem Mp {k1 k2:fG}{uC its2:Array Value}{Q:Value->Shared->Prop}(hl1:k1.src uC s.heap)(hl2:k2.src its2 s.heap)
 (h:∀h',IsZip h' (s.heap.objs.size+4) (s.heap.objs.size+2) (s.heap.objs.size+3) .none->IsPair h' (s.heap.objs.size+2) (.ref s.heap.objs.size) (.ref (s.heap.objs.size+1))->
  IsPair h' (s.heap.objs.size+3) .none .none->h'.get? s.heap.objs.size=some k1.obj->h'.get? (s.heap.objs.size+1)=some k2.obj->h'.objs.size=s.heap.objs.size+5->
  (∀c o,s.heap.get? c=some o->h'.get? c=some o)->Q (.ref (s.heap.objs.size+4)) { s with heap:=h' }):
 wpAny (model prog w) A (call (.type "zip") [k1.val,k2.val]) Q E s:=by
 refine callType_new PySem.F.called_zip (by decide) (PySem.F.typeCall_zip_2 _ _) (PySem.F.newCall_zip_2 _ _) (λobj=>PySem.F.args_object_init_3 obj _ _) PySem.F.entry_zip_new
  (zR k1 k2 uC its2) ⟨hl1,hl2,?_⟩
 have fr:∀k:fG,k.obj.isFreed=false:=λk=>by cases k<;>rfl
 show(∃o,(zS5 s.heap k1 k2).get? (zS4 s.heap k1 k2).objs.size=some o/\_)/\_
 unfold zS5 zS4 zS3 zS2 zS1
 generalize e1:s.heap.push k1.obj=g1
 have z1:g1.objs.size=s.heap.objs.size+1:=by rw[<-e1];exact Heap.size_push ..
 have p1:∀c o,s.heap.get? c=some o->g1.get? c=some o:=λc o x=>by rw[<-e1];exact Heap.get?_push_of_some _ x
 have q1:g1.get? s.heap.objs.size=some k1.obj:=by rw[<-e1];exact Heap.get?_push_size _ (fr k1)
 generalize e2:g1.push k2.obj=g2
 have z2:g2.objs.size=s.heap.objs.size+2:=by rw[<-e2,Heap.size_push,z1]
 have p2:∀c o,g1.get? c=some o->g2.get? c=some o:=λc o x=>by rw[<-e2];exact Heap.get?_push_of_some _ x
 have q2:g2.get? (s.heap.objs.size+1)=some k2.obj:=by rw[<-e2,<-z1];exact Heap.get?_push_size _ (fr k2)
 generalize e3:g2.push { cls:= .type "tuple",data:= .seq #[.ref s.heap.objs.size,.ref g1.objs.size] }=g3
 have z3:g3.objs.size=s.heap.objs.size+3:=by rw[<-e3,Heap.size_push,z2]
 have p3:∀c o,g2.get? c=some o->g3.get? c=some o:=λc o x=>by rw[<-e3];exact Heap.get?_push_of_some _ x
 have q3:IsPair g3 (s.heap.objs.size+2) (.ref s.heap.objs.size) (.ref (s.heap.objs.size+1)):=by
  show g3.get? _=_
  rw[<-e3,<-z2,<-z1];exact Heap.get?_push_size _ rfl
 generalize e4:g3.push { cls:= .type "tuple",data:= .seq #[.none,.none] }=g4
 have z4:g4.objs.size=s.heap.objs.size+4:=by rw[<-e4,Heap.size_push,z3]
 have p4:∀c o,g3.get? c=some o->g4.get? c=some o:=λc o x=>by rw[<-e4];exact Heap.get?_push_of_some _ x
 have q4:IsPair g4 (s.heap.objs.size+3) .none .none:=by
  show g4.get? _=_
  rw[<-e4,<-z3];exact Heap.get?_push_size _ rfl
 generalize e5:g4.push { cls:= .type "zip",data:= .fields #[.none,.bool false,.bool false,.ref g2.objs.size,.ref g3.objs.size] }=g5
 have z5:g5.objs.size=s.heap.objs.size+5:=by rw[<-e5,Heap.size_push,z4]
 have p5:∀c o,g4.get? c=some o->g5.get? c=some o:=λc o x=>by rw[<-e5];exact Heap.get?_push_of_some _ x
 have q5:IsZip g5 (s.heap.objs.size+4) (s.heap.objs.size+2) (s.heap.objs.size+3) .none:=by
  show g5.get? _=_
  rw[<-e5,<-z4,<-z2,<-z3];exact Heap.get?_push_size _ rfl
 rw[z4]
 exact⟨⟨_,q5,rfl⟩,h g5 q5 (p5 _ _ (p4 _ _ q3)) (p5 _ _ q4) (p5 _ _ (p4 _ _ (p3 _ _ (p2 _ _ q1)))) (p5 _ _ (p4 _ _ (p3 _ _ q2))) z5 λc o x=>p5 _ _ (p4 _ _ (p3 _ _ (p2 _ _ (p1 _ _ x))))⟩
end
inductive SK where
 |lst (a:Addr)
 |tup (a:Addr)
 |str (z:Str)
noncomputable def SK.v:SK->V
 | .lst a=> .ref a
 | .tup a=> .ref a
 | .str z=> .str z
noncomputable def SK.FP (t:Tok):SK->fG
 | .lst a=> .lst a
 | .tup a=> .tup a
 | .str z=> .str z t
noncomputable def SK.o8 (K:Fg)(H:Hp)(xs:List V)(k:SK):Prop:=(k.FP 0).o8 K H xs
theorem SK.iR {K:Fg}{H:Hp}{xs:List V}{k:SK}{t:Tok}:(k.FP t).o8 K H xs↔k.o8 K H xs:=by cases k<;>exact Iff.rfl
theorem SK.rel {k:SK}{u:Value}(r:RelV k.v u):∃t,u=(k.FP t).val:=by
 cases k with
 |lst a=>cases r;exact⟨0,rfl⟩
 |tup a=>cases r;exact⟨0,rfl⟩
 |str z=>obtain⟨t,rfl⟩:=r;exact⟨t,rfl⟩
theorem fG.lt {k:fG}{its:Array Value}{h:Heap}{a:Addr}(x:k.src its h)(e:k.val= .ref a):a<h.objs.size:=by
 cases k with
 |lst b=>cases e;obtain⟨o,ho,_⟩:=x;exact Heap.lt_size ho
 |tup b=>cases e;obtain⟨o,ho,_⟩:=x;exact Heap.lt_size ho
 |str z t=>cases e
section
variable {X:Cx}{es:List Expr}{kt:Nat}{tp p pos:Pos}{a b:Expr}
noncomputable def a0r (K:Fg)(ta:TA):TI:=λσ H R=>ta σ H λvs H1=>∃k1 k2:SK,vs=[k1.v,k2.v]/\(∃xs,k1.o8 K H1 xs)/\(∃ys,k2.o8 K H1 ys)/\∀t1 t2,R (Itz K (k1.FP t1) (k2.FP t2)) H1
theorem Xp {ta:TA}(hg:Gl X "zip")(hm:X.mg "zip"=none)(ha:PA X [a,b] ta)(hs:starEach [a,b] X.env=(false,eval a X.env)::starEach [b] X.env:=by rfl)(hpl:(backTo pos (starEach [b] X.env)).any (·.1)=false:=by rfl):
 PI X (.Tuple es kt tp) (.Call (.Name "zip" p) [a,b] [] pos) (a0r X.K ta):=by
 intro pins s σ H R I h
 refine Call_ (uD I hg hm boot_zip (PyProof.Rows.callWith_type1 (iK (ha pos pins s σ H _ I h) λus s1 ⟨vs,H1,I1,r1,q1⟩=>?_) hs hpl))
 obtain⟨k1,k2,rfl,⟨xs,x1⟩,⟨ys,y1⟩,q⟩:=q1
 obtain⟨u1,u2,rfl,ru1,ru2⟩:=vals2 r1
 obtain⟨t1,rfl⟩:=SK.rel ru1
 obtain⟨t2,rfl⟩:=SK.rel ru2
 obtain⟨uC,z1,n1,_⟩:=fG.of I1 (SK.iR.mpr x1:(k1.FP t1).o8 X.K H1 xs)
 obtain⟨its2,z2,n2,_⟩:=fG.of I1 (SK.iR.mpr y1:(k2.FP t2).o8 X.K H1 ys)
 refine Mp z1 z2 λh' a1 a2 a3 a4 a5 a6 kk=>?_
 have I2:Inv X pins σ H1 { s1 with heap:=h' }:=I1.kept (t':=s1.toks) kk
 refine wpAny_pyIter_zip (s:={ s1 with heap:=h' }) a1 ?_
 have lt1:∀a,(k1.FP t1).val= .ref a->a<s1.heap.objs.size:=λa e=>fG.lt z1 e
 have lt2:∀a,(k2.FP t2).val= .ref a->a<s1.heap.objs.size:=λa e=>fG.lt z2 e
 have nz:∀(j k:Nat),j≠k->s1.heap.objs.size+j≠s1.heap.objs.size+k:=λj k h z=>h (by omega)
 refine⟨s1.heap.objs.size+4,[s1.heap.objs.size+4,s1.heap.objs.size+2,s1.heap.objs.size+3,s1.heap.objs.size,s1.heap.objs.size+1],_,_,H1,rfl,I2,
  Ra (k1.FP t1) (k2.FP t2) (s1.heap.objs.size+4) (s1.heap.objs.size+2) (s1.heap.objs.size+3) s1.heap.objs.size (s1.heap.objs.size+1) (nz _ _ (by decide)) (nz _ _ (by decide)) (nz 0 _ (by decide)) (nz _ _ (by decide)) (nz _ _ (by decide)) (nz _ 0 (by decide)) (nz _ _ (by decide)) (nz _ 0 (by decide)) (nz _ _ (by decide)) (nz 0 _ (by decide))
   (λa e=>?_) (λa e=>?_),⟨a1,a2,⟨_,_,a3⟩,fG.start a4,fG.start a5⟩,λb hb=>?_,q t1 t2⟩
 ·have:=lt1 a e
  exact⟨Nat.ne_of_lt (Nat.lt_of_lt_of_le this (Nat.le_add_right _ _)),Nat.ne_of_lt (Nat.lt_of_lt_of_le this (Nat.le_add_right _ _)),Nat.ne_of_lt this,Nat.ne_of_lt (Nat.lt_of_lt_of_le this (Nat.le_add_right _ _))⟩
 ·have:=lt2 a e
  exact⟨Nat.ne_of_lt (Nat.lt_of_lt_of_le this (Nat.le_add_right _ _)),Nat.ne_of_lt (Nat.lt_of_lt_of_le this (Nat.le_add_right _ _)),Nat.ne_of_lt this,Nat.ne_of_lt (Nat.lt_of_lt_of_le this (Nat.le_add_right _ _))⟩
 ·have hb':s1.heap.objs.size<=b:=by
   simp only[List.mem_cons,List.not_mem_nil,or_false]at hb
   rcases hb with rfl|rfl|rfl|rfl|rfl<;>omega
  exact I1.MJ hb' (I1.hok.fresh hb')
noncomputable def Yy (z:Str):List D:=z.cps.toList.map λc=> .str ⟨#[c]⟩
noncomputable def vI:D->Option (List D)
 | .lst l=>some l
 | .tup l=>some l
 | .str z=>some (Yy z)
 |_=>none
noncomputable def skD:D->V->Option SK
 | .lst _,.ref a=>some (.lst a)
 | .tup _,.ref a=>some (.tup a)
 | .str z,_=>some (.str z)
 |_,_=>none
theorem vL {O:Addr->Prop}{K:Fg}{H:Hp}{d:D}{v:V}{l:List D}(h:Rep O K H d v)(e:vI d=some l):∃k,skD d v=some k/\k.v=v/\∃xs,k.o8 K H xs/\aU O K H l xs:=by
 cases d<;>simp only[vI]at e<;>try (cases e;done)
 case lst m=>
  cases e
  obtain⟨a,vs,rfl,h1,h2⟩:=h
  exact⟨.lst a,rfl,rfl,vs,oF.of h1.1,h2⟩
 case tup m=>
  cases e
  obtain⟨a,vs,rfl,h1,h2⟩:=h
  exact⟨.tup a,rfl,rfl,vs,h1,h2⟩
 case str z=>
  cases e
  cases h
  refine⟨.str z,rfl,rfl,_,rfl,?_⟩
  unfold Yy
  have:∀l:List Nat,aU O K H (l.map λc=> .str ⟨#[c]⟩) (l.map λc=>V.str ⟨#[c]⟩):=λl=>by
   induction l with
   |nil=>rfl
   |cons c l ih=>exact⟨_,_,rfl,rfl,ih⟩
  exact this _
noncomputable def yQ (l m:List D):List D:=(l.zip m).map λp=> .tup [p.1,p.2]
theorem Ro {K:Fg}{d1 d2:D}{v1 v2:V}{l m:List D}{k1 k2:SK}(e1:vI d1=some l)(e2:vI d2=some m)(s1:skD d1 v1=some k1)(s2:skD d2 v2=some k2)(t1 t2:Tok):
 Walk K (yQ l m) (Itz K (k1.FP t1) (k2.FP t2)) [(d1,v1),(d2,v2)]:=λH2 h=>by
 obtain⟨k1',q1,_,xs,x1,r1⟩:=vL (h (d1,v1) (by simp)) e1
 obtain⟨k2',q2,_,ys,y1,r2⟩:=vL (h (d2,v2) (by simp)) e2
 rw[s1]at q1
 rw[s2]at q2
 cases q1
 cases q2
 have n1:=r1.length
 have n2:=r2.length
 have nz:(yQ l m).length=min l.length m.length:=by simp[yQ]
 refine⟨λi hi=>⟨xs,ys,SK.iR.mpr x1,SK.iR.mpr y1,by omega,by omega⟩,⟨xs,ys,SK.iR.mpr x1,SK.iR.mpr y1,by omega⟩,λi x H3 hi y=>?_⟩
 obtain⟨p,x1',x2',hp,rfl,rfl,f1,f2⟩:=y
 refine⟨bT hp,λO w hg=>?_⟩
 obtain⟨k1',q1,_,xs',a1,b1⟩:=vL (hg (d1,v1) (by simp)) e1
 obtain⟨k2',q2,_,ys',a2,b2⟩:=vL (hg (d2,v2) (by simp)) e2
 rw[s1]at q1
 rw[s2]at q2
 cases q1
 cases q2
 obtain⟨c1,g1,w1⟩:=b1.MN (f1 xs' (SK.iR.mpr a1))
 obtain⟨c2,g2,w2⟩:=b2.MN (f2 ys' (SK.iR.mpr a2))
 refine⟨.tup [c1,c2],?_,oO hp ⟨_,_,rfl,w1,aU.one w2⟩⟩
 unfold yQ
 rw[List.getElem?_map,List.getElem?_zip_eq_some (z:=(c1,c2))|>.mpr ⟨g1,g2⟩]
 rfl
theorem Pr {Fs:aH->Option (List D)}(hg:Gl X "zip")(hm:X.mg "zip"=none)(ha:Dr X [a,b] Fs)(hs:starEach [a,b] X.env=(false,eval a X.env)::starEach [b] X.env:=by rfl)(hpl:(backTo pos (starEach [b] X.env)).any (·.1)=false:=by rfl):
 EI X (.Tuple es kt tp) (.Call (.Name "zip" p) [a,b] [] pos) (λρ=>(Fs ρ).bind λl=>match l with
  |[d1,d2]=>(vI d1).bind λl=>(vI d2).map λm=>(yQ l m,[d1,d2])
  |_=>none):=have ha:=ha.1; .mk<|PI.imp (Xp hg hm ha hs hpl) λσ H R ⟨O,ρ,ds,gs,w,r,e,q⟩=>by
 obtain⟨l,e1,e2⟩:=bind_some e
 split at e2
 ·rename_i d1 d2
  obtain⟨l1,e3,e4⟩:=bind_some e2
  cases e5:vI d2 with
  |none=>rw[e5]at e4;cases e4
  |some l2=>
   rw[e5]at e4
   cases e4
   refine⟨O,ρ,[d1,d2],w,r,e1,λvs H1 s1 r1=>?_⟩
   obtain⟨v,u,rfl,rv,ru⟩:=Vz r1
   obtain⟨k1,q1,f1,xs,x1,_⟩:=vL rv e3
   obtain⟨k2,q2,f2,ys,y1,_⟩:=vL ru e5
   exact⟨k1,k2,by rw[f1,f2],⟨xs,x1⟩,⟨ys,y1⟩,λt1 t2=>q _ H1 [(d1,v),(d2,u)] s1 rfl (λg hg=>by
    simp only[List.mem_cons,List.not_mem_nil,or_false]at hg
    rcases hg with rfl|rfl
    ·exact rv
    ·exact ru) (Ro e3 e5 q1 q2 t1 t2)⟩
 ·cases e2
end
noncomputable abbrev eS1 (h:Heap)(k:fG):Heap:=h.push k.obj
noncomputable abbrev eS2 (h:Heap)(k:fG):Heap:=(eS1 h k).push { cls:= .type "enumerate",data:= .fields #[.none,.bool false,.ref h.objs.size,rawInt 0,.none,.none] }
theorem yH (k:fG)(its:Array Value):
 Meets (Builtin.«enumerate.__new__» ⟨[.type "enumerate",k.val],[]⟩) (λ_ R s=>k.src its s.heap/\R (.ok (.ret (.ref (eS1 s.heap k).objs.size))) { s with heap:=eS2 s.heap k }):=
 .of_wp λprog w A R s h=>by
  obtain⟨hp,g,d,tk,os⟩:=s
  obtain⟨hl,h⟩:=h
  have hL:k.src its (Shared.heap ⟨hp,g,d,tk,os⟩):=hl
  have hsub:=sub_enumerate
  wp_walk
  refine wpAny_stack_any λst=>wpAny_pure ?_
  split
  ·rename_i c _ _ _ _ _
   cases(c==Value.type "enumerate")
   ·wp_walk using fG.iter k hL
    exact⟨_,rfl,h⟩
   ·wp_walk using fG.iter k hL
    exact⟨_,rfl,h⟩
  ·wp_walk using fG.iter k hL
   exact⟨_,rfl,h⟩
section
variable {prog:Program}{w:World}{A:Around}{E:Value->Shared->Prop}{s:Shared}
theorem J4 {k:fG}{its:Array Value}{Q:Value->Shared->Prop}(hl:k.src its s.heap)
 (h:∀h',IsEnum h' (s.heap.objs.size+1) s.heap.objs.size 0 .none->h'.get? s.heap.objs.size=some k.obj->(∀b o,s.heap.get? b=some o->h'.get? b=some o)->Q (.ref (s.heap.objs.size+1)) { s with heap:=h' }):
 wpAny (model prog w) A (call (.type "enumerate") [k.val]) Q E s:=by
 refine callType_new PySem.F.called_enumerate (by decide) (PySem.F.typeCall_enumerate_1 _) (PySem.F.newCall_enumerate_1 _) (λobj=>PySem.F.args_object_init_2 obj _) PySem.F.entry_enumerate_new
  (yH k its) ⟨hl,?_⟩
 have fr:k.obj.isFreed=false:=by cases k<;>rfl
 show(∃o,(eS2 s.heap k).get? (eS1 s.heap k).objs.size=some o/\_)/\_
 unfold eS2 eS1
 generalize e1:s.heap.push k.obj=g1
 have z1:g1.objs.size=s.heap.objs.size+1:=by rw[<-e1];exact Heap.size_push ..
 have p1:∀c o,s.heap.get? c=some o->g1.get? c=some o:=λc o x=>by rw[<-e1];exact Heap.get?_push_of_some _ x
 have q1:g1.get? s.heap.objs.size=some k.obj:=by rw[<-e1];exact Heap.get?_push_size _ fr
 generalize e2:g1.push { cls:= .type "enumerate",data:= .fields #[.none,.bool false,.ref s.heap.objs.size,rawInt 0,.none,.none] }=g2
 have p2:∀c o,g1.get? c=some o->g2.get? c=some o:=λc o x=>by rw[<-e2];exact Heap.get?_push_of_some _ x
 have q2:IsEnum g2 (s.heap.objs.size+1) s.heap.objs.size 0 .none:=by
  show g2.get? _=_
  rw[<-e2,<-z1];exact Heap.get?_push_size _ rfl
 rw[z1]
 exact⟨⟨_,q2,rfl⟩,h g2 q2 (p2 _ _ q1) λc o x=>p2 _ _ (p1 _ _ x)⟩
end
section
variable {X:Cx}
noncomputable def Ite (K:Fg)(k:fG):It:=
 ⟨λi H=>∃xs,k.o8 K H xs/\i<xs.length,
  λi H x H'=>∃p x1,H p=none/\x= .ref p/\H'=upd H p (.tup [.int (i:Nat),x1])/\∀xs,k.o8 K H xs->xs[i]?=some x1,
  λi H=>∃xs,k.o8 K H xs/\i=xs.length⟩
theorem O7 {P:Program}{w:World}{K:Fg}{es:List Expr}{kt:Nat}{tp:Pos}(k:fG)(e it:Addr)(d1:e≠it)(h1:∀a,k.val= .ref a->a≠e/\a≠it):
 Turn P w K (.Tuple es kt tp) (Ite K k) [e,it] e (λi h=>(∃old,IsEnum h e it i old)/\k.tn it i h) where
 mem:=by simp
 obj:=λi h st b hb=>by
  obtain⟨⟨old,he⟩,t1⟩:=st
  simp only[List.mem_cons,List.not_mem_nil,or_false]at hb
  rcases hb with rfl|rfl
  ·exact⟨_,he,λv q=>by cases q⟩
  ·exact fG.live t1
 keep:=λi h h' st f=>by
  obtain⟨⟨old,he⟩,t1⟩:=st
  exact⟨⟨old,f e (by simp) _ he⟩,fG.keep t1 λo q=>f it (by simp) o q⟩
 item:=by
  intro X hP hw hK hc i pins s σ H E I hf st hg
  subst hP hw hK
  obtain⟨⟨old,he⟩,t1⟩:=st
  obtain⟨xs,q1,l1⟩:=hg
  obtain⟨uC,r1,n1,p1⟩:=fG.of I q1
  have hh:X.A.in1.handled=none:=I.ok.hd hc
  obtain⟨S1,D1,a1,b1⟩:=fG.draws (prog:=X.prog) (w:=X.w) hh k it uC (λa e=>(h1 a e).2) ⟨_,r1⟩
  have hef:e∉k.fp it:=by
   cases k<;>simp only[fG.fp,List.mem_cons,List.not_mem_nil,or_false,not_or]<;>first|exact⟨d1,(h1 _ rfl).1.symm⟩|exact d1
  refine wpAny_pyNext_enum_itemD D1 he (a1 _ _ t1 r1) (by omega) d1 hef λx h' tk e1 z1 z2 z3 z4 kk=>⟨_,rfl,?_⟩
  obtain⟨x1,u1,v1⟩:=p1 i x e1
  have elt:e≠s.heap.objs.size:=Nat.ne_of_lt (Heap.lt_size he)
  refine wpAny_letOwnedTupleGo_enum (s:={ s with heap:=h',toks:=tk+1 }) z1 λh2' y1 y2=>?_
  replace y2:Heap.SameBut e h' h2':=y2
  have fin:Inv X pins σ (upd H s.heap.objs.size (.tup [.int (i:Nat),x1])) { s with heap:=h2',toks:=tk+1 }:=by
   refine Inv.LK (us:=[.int i tk,x]) (ch:=[e,it]) I rfl (λb o hb q=>?_) hf (λb hb=>?_) ⟨_,y2.extBut _ _ (Ne.symm elt) z3,rfl,⟨_,rfl⟩,rfl⟩ (.cons ⟨tk,rfl⟩ (.cons v1 .nil)) (by show 2<=sizeLine;decide)
   ·simp only[List.mem_cons,List.not_mem_nil,or_false,not_or]at hb
    exact y2.extBut b o hb.1 (kk b o hb.1 hb.2 q)
   ·simp only[List.mem_cons,List.not_mem_nil,or_false]at hb
    rcases hb with rfl|rfl
    ·exact⟨_,y1⟩
    ·obtain⟨o,q,_⟩:=fG.live (b1 _ _ z2)
     exact⟨o,y2.extBut _ _ d1.symm q⟩
  refine⟨.ref s.heap.objs.size,_,fin,rfl,⟨_,x1,I.hok.fresh (Nat.le_refl _),rfl,rfl,λxs' q=>by rw[fG.Ay I q q1];exact u1⟩,
   ⟨⟨x,by simpa using y1⟩,fG.keep (b1 _ _ z2) λo q=>y2.extBut _ _ d1.symm q⟩,λb hb=>?_⟩
  rw[bM ?_]
  ·exact(hf b hb).1
  ·have hobj:∃o,s.heap.get? b=some o:=by
    simp only[List.mem_cons,List.not_mem_nil,or_false]at hb
    rcases hb with rfl|rfl
    ·exact⟨_,he⟩
    ·obtain⟨o,q,_⟩:=fG.live t1;exact⟨o,q⟩
   obtain⟨o,q⟩:=hobj
   exact Nat.ne_of_lt (Heap.lt_size q)
 done:=by
  intro X hP hw hK hc i pins s σ H E I hf st hg
  subst hP hw hK
  obtain⟨⟨old,he⟩,t1⟩:=st
  obtain⟨xs,q1,rfl⟩:=hg
  obtain⟨uC,r1,n1,p1⟩:=fG.of I q1
  have hh:X.A.in1.handled=none:=I.ok.hd hc
  obtain⟨S1,D1,a1,b1⟩:=fG.draws (prog:=X.prog) (w:=X.w) hh k it uC (λa e=>(h1 a e).2) ⟨_,r1⟩
  refine wpAny_pyNext_enum_endD D1 he (by rw[n1];exact a1 _ _ t1 r1) λh' kk=>⟨rfl,?_⟩
  refine Inv.Fx (t':=s.toks) (ch:=[e,it]) I (λb o hb q=>?_) hf
  simp only[List.mem_cons,List.not_mem_nil,or_false,not_or]at hb
  exact kk b o hb.2 q
 self:=λ_ _ _ _ _ st h=>wpAny_pyIter_enum st.1.choose_spec h
noncomputable def YZ (K:Fg)(ta:TA):TI:=λσ H R=>ta σ H λvs H1=>∃k:SK,vs=[k.v]/\(∃xs,k.o8 K H1 xs)/\∀t,R (Ite K (k.FP t)) H1
variable {es:List Expr}{kt:Nat}{tp p pos:Pos}{a:Expr}
theorem Mi:bootBuiltins "enumerate"=some (.type "enumerate"):=by decide+kernel
theorem KZ {ta:TA}(hg:Gl X "enumerate")(hm:X.mg "enumerate"=none)(ha:PA X [a] ta)(hs:starEach [a] X.env=(false,eval a X.env)::starEach [] X.env:=by rfl)(hpl:(backTo pos (starEach [] X.env)).any (·.1)=false:=by rfl):
 PI X (.Tuple es kt tp) (.Call (.Name "enumerate" p) [a] [] pos) (YZ X.K ta):=by
 intro pins s σ H R I h
 refine Call_ (uD I hg hm Mi (PyProof.Rows.callWith_type1 (iK (ha pos pins s σ H _ I h) λus s1 ⟨vs,H1,I1,r1,q1⟩=>?_) hs hpl))
 obtain⟨k1,rfl,⟨xs,x1⟩,q⟩:=q1
 obtain⟨u1,rfl,ru1⟩:=vals1 r1
 obtain⟨t1,rfl⟩:=SK.rel ru1
 obtain⟨uC,z1,n1,_⟩:=fG.of I1 (SK.iR.mpr x1:(k1.FP t1).o8 X.K H1 xs)
 refine J4 z1 λh' a1 a4 kk=>?_
 have I2:Inv X pins σ H1 { s1 with heap:=h' }:=I1.kept (t':=s1.toks) kk
 refine wpAny_pyIter_enum (s:={ s1 with heap:=h' }) a1 ?_
 have lt1:∀a,(k1.FP t1).val= .ref a->a<s1.heap.objs.size:=λa e=>fG.lt z1 e
 refine⟨s1.heap.objs.size+1,[s1.heap.objs.size+1,s1.heap.objs.size],_,_,H1,rfl,I2,
  O7 (k1.FP t1) (s1.heap.objs.size+1) s1.heap.objs.size (Nat.ne_of_gt (Nat.lt_succ_self _)) (λa e=>?_),⟨⟨_,a1⟩,fG.start a4⟩,λb hb=>?_,q t1⟩
 ·have:=lt1 a e
  exact⟨Nat.ne_of_lt (Nat.lt_of_lt_of_le this (Nat.le_add_right _ _)),Nat.ne_of_lt this⟩
 ·have hb':s1.heap.objs.size<=b:=by
   simp only[List.mem_cons,List.not_mem_nil,or_false]at hb
   rcases hb with rfl|rfl
   ·exact Nat.le_succ _
   ·exact Nat.le_refl _
  exact I1.MJ hb' (I1.hok.fresh hb')
noncomputable def eE (i:Nat):List D->List D
 |[]=>[]
 |d::l=> .tup [.int (i:Nat),d]::eE (i+1) l
theorem qj:∀(i:Nat) (l:List D),(eE i l).length=l.length
 |_,[]=>rfl
 |i,d::l=>by simp[eE,qj (i+1) l]
theorem Ck:∀{l:List D}{i j:Nat}{d:D},l[j]?=some d->(eE i l)[j]?=some (.tup [.int ((i+j:Nat):Int),d])
 |[],_,_,_,h=>by simp at h
 |x::l,i,0,d,h=>by simp at h;subst h;rfl
 |x::l,i,j+1,d,h=>by
  have:=Ck (l:=l) (i:=i+1) (j:=j) (d:=d) (by simpa using h)
  show(eE (i+1) l)[j]?=_
  rw[this]
  congr 4
  omega
theorem Dp {K:Fg}{d1:D}{v1:V}{l:List D}{k1:SK}(e1:vI d1=some l)(s1:skD d1 v1=some k1)(t1:Tok):Walk K (eE 0 l) (Ite K (k1.FP t1)) [(d1,v1)]:=λH2 h=>by
 obtain⟨k1',q1,_,xs,x1,r1⟩:=vL (h (d1,v1) (by simp)) e1
 rw[s1]at q1
 cases q1
 have n1:=r1.length
 refine⟨λi hi=>⟨xs,SK.iR.mpr x1,by rw[qj]at hi;omega⟩,⟨xs,SK.iR.mpr x1,by rw[qj];exact n1⟩,λi x H3 hi y=>?_⟩
 obtain⟨p,x1',hp,rfl,rfl,f1⟩:=y
 refine⟨bT hp,λO w hg=>?_⟩
 obtain⟨k1',q1,_,xs',a1,b1⟩:=vL (hg (d1,v1) (by simp)) e1
 rw[s1]at q1
 cases q1
 obtain⟨c1,g1,w1⟩:=b1.MN (f1 xs' (SK.iR.mpr a1))
 exact⟨_,Ck g1,oO hp ⟨_,_,rfl,by rw[Nat.zero_add];rfl,aU.one w1⟩⟩
theorem qi {F:aH->Option D}(hg:Gl X "enumerate")(hm:X.mg "enumerate"=none)(ha:ED X a F)(hs:starEach [a] X.env=(false,eval a X.env)::starEach [] X.env:=by rfl)(hpl:(backTo pos (starEach [] X.env)).any (·.1)=false:=by rfl):
 EI X (.Tuple es kt tp) (.Call (.Name "enumerate" p) [a] [] pos) (λρ=>(F ρ).bind λd=>(vI d).map λl=>(eE 0 l,[d])):=have ha:=ha.1; .mk<|PI.imp (KZ hg hm (ak ⟨ha⟩ au hs).1 hs hpl) λσ H R ⟨O,ρ,ds,gs,w,r,e,q⟩=>by
 obtain⟨d1,e1,e2⟩:=bind_some e
 cases e5:vI d1 with
 |none=>rw[e5]at e2;cases e2
 |some l=>
  rw[e5]at e2
  cases e2
  refine⟨O,ρ,[d1],w,r,by simp only[e1];rfl,λvs H1 s1 r1=>?_⟩
  obtain⟨v,rfl,rv⟩:=jJ r1
  obtain⟨k1,q1,f1,xs,x1,_⟩:=vL rv e5
  exact⟨k1,by rw[f1],⟨xs,x1⟩,λt1=>q _ H1 [(d1,v)] s1 rfl (λg hg=>by rw[List.mem_singleton.mp hg];exact rv) (Dp e5 q1 t1)⟩
end
section
variable {X:Cx}
noncomputable def GX:List D->Option (List Int)
 |[]=>some []
 | .int b::l=>(GX l).map λr=>b::r
 |_=>none
theorem Kq {O:Addr->Prop}{K:Fg}{H:Hp}:∀{l:List D}{xs:List Int}{vs:List V}{us:List Value},GX l=some xs->aU O K H l vs->Vals vs us->IntsAre us xs
 |[],_,_,_,e,h,r=>by cases e;cases h;cases r;exact .nil
 | .int x::l,_,_,_,e,h,r=>by
   obtain⟨v,vs,rfl,h1,h2⟩:=h
   cases h1
   simp only[GX]at e
   cases e1:GX l with
   |none=>rw[e1]at e;cases e
   |some xs=>
    rw[e1]at e
    cases e
    cases r with
    |cons r1 r2=>
     obtain⟨t,rfl⟩:=r1
     exact .cons x t (Kq e1 h2 r2)
noncomputable def Nj:List Int->Option Int
 |[]=>none
 |a::l=>some (l.foldl max a)
theorem Tv:∀{ns:List Int}{M:Int},M∈ns->(∀a,a∈ns->a<=M)->Nj ns=some M:=by
 intro ns M hm hle
 cases ns with
 |nil=>cases hm
 |cons a l=>
  have key:∀(l:List Int) (a:Int),(M=a\/M∈l)->a<=M->(∀b∈l,b<=M)->l.foldl max a=M:=by
   intro l
   induction l with
   |nil=>intro a h _ _;rcases h with h|h
         ·exact h.symm
         ·cases h
   |cons b l ih=>
    intro a h ha hl
    simp only[List.foldl_cons]
    have hb:=hl b (List.mem_cons_self)
    refine ih (max a b) ?_ (by omega) λc hc=>hl c (List.mem_cons_of_mem _ hc)
    rcases h with h|h
    ·left;omega
    ·rcases List.mem_cons.mp h with h|h
     ·left;omega
     ·right;exact h
  simp only[Nj,Option.some.injEq]
  exact key l a (by rcases List.mem_cons.mp hm with h|h<;>simp[h]) (hle a List.mem_cons_self) λb hb=>hle b (List.mem_cons_of_mem _ hb)
noncomputable def Vu (K:Fg):List V->Hp->VK->Prop:=λxs H Q=>∃(O:Addr->Prop) (l:List D) (v:V) (ns:List Int) (m:Int),xs=[v]/\Rep O K H (.lst l) v/\GX l=some ns/\Nj ns=some m/\Q (.int m) H
theorem Mj (hc:X.calm=true):jB X (.builtin "max") (Vu X.K):=by
 intro pins s σ H xs us Q I r h
 obtain⟨O,l,v,ns,m,rfl,rl,eb,em,q⟩:=h
 obtain⟨u,rfl,ru⟩:=vals1 r
 obtain⟨a,vs,rfl,h1,h2⟩:=rl
 cases ru
 obtain⟨its,rv,pl,_⟩:=I.list (oF.of h1.1)
 have hl:=pl.isList
 have hi:=Kq eb h2 rv
 have hne:0<ns.length:=by
  cases ns with
  |nil=>cases em
  |cons _ _=>simp
 obtain⟨xs,e⟩:=hi.allInts.items
 have hns:ns=xs.toList.map (·.1):=by
  rw[<-hi.numsOf,<-nums_intItems,<-e]
 have hsz:0<xs.size:=by
  have h3:=hne;rw[hns,List.length_map,Array.length_toList]at h3;exact h3
 rw[e]at hl
 refine max_intList (I.ok.hd hc) hl hsz λv h' tk hv hk=>?_
 obtain⟨t,rfl⟩:=intItems_at hv
 obtain⟨h1,h2⟩:=argBest_gt (numAt xs) (xs.size - 1)
 have e3:=Tv (ns:=ns) (M:=numAt xs (argBest (λi j=>decide (numAt xs i>numAt xs j)) (xs.size - 1))) (by rw[hns,numAt_eq];exact getD_mem (by rw[List.length_map,Array.length_toList];omega)) λa ha=>by
  rw[hns]at ha
  obtain⟨j,hj,rfl⟩:=mem_getD ha
  rw[List.length_map,Array.length_toList]at hj
  rw[<-numAt_eq];exact h2 j (by omega)
 rw[em]at e3
 have e4:=Option.some.inj e3
 exact⟨.int m,H,Inv.Fx (ch:=[]) I (λb o _ q=>hk b o q) (λb hb=>by cases hb),⟨t,by rw[e4]⟩,q⟩
noncomputable def uV:List D->Option D
 |[.lst l]=>(GX l).bind λns=>(Nj ns).map .int
 |_=>none
theorem Qw {K:Fg}:uQ K (Vu K) uV:=by
 intro O H xs l d Q w h e q
 unfold uV at e
 split at e
 ·rename_i l'
  obtain⟨ns,e1,e⟩:=bind_some e
  cases e2:Nj ns with
  |none=>rw[e2]at e;cases e
  |some m=>
   rw[e2]at e
   cases e
   obtain⟨v,rfl,h1⟩:=jJ h
   exact⟨O,_,v,ns,m,rfl,h1,e1,e2,q _ H (bN.refl H) rfl⟩
 ·cases e
end
noncomputable def Bj (l:List Key)(v:Key):Bool:=l.any λx=>decide (x=v)
theorem yV {l:List Key}{v:Key}:Bj l v=true↔v∈l:=by
 unfold Bj
 rw[List.any_eq_true]
 constructor
 ·rintro⟨x,h,e⟩
  rw[<-of_decide_eq_true e];exact h
 ·intro h
  exact⟨v,h,decide_eq_true rfl⟩
noncomputable def rA (l:List Key)(v:Key):List Key:=if Bj l v=true then l else l++[v]
noncomputable def dedup (l:List Key):List Key:=l.foldl rA []
theorem Jo {l:List Key}{v k:Key}:Bj (rA l v) k=(Bj l k||decide (k=v)):=by
 rw[Bool.eq_iff_iff,yV,Bool.or_eq_true,yV,decide_eq_true_iff]
 unfold rA
 split
 ·rename_i h
  rw[yV]at h
  constructor
  ·exact .inl
  ·rintro(h'|rfl)
   ·exact h'
   ·exact h
 ·simp
theorem Ig {prog:Program}{w:World}{h:Heap}{a:Addr}{S S':Key->Bool}{n n':Nat}(hS:h.SetOf (cG prog w) a S n)(e:∀k,S k=S' k)(en:n=n'):h.SetOf (cG prog w) a S' n':=by
 have:S=S':=funext e
 subst this;subst en;exact hS
theorem zE (l:List Key){i:Nat}{k:Key}(h:l[i]?=some k):dedup (l.take (i+1))=rA (dedup (l.take i)) k:=by
 unfold dedup
 rw[List.take_add_one,h]
 simp[List.foldl_append]
theorem zB (l:List Key)(v:Key):(rA l v).length=if Bj l v=true then l.length else l.length+1:=by
 unfold rA
 by_cases h:Bj l v=true<;>simp[h]
theorem Mw:∀(l:List Key),(dedup l).length<=l.length:=by
 have key:∀(l acc:List Key),(l.foldl rA acc).length<=acc.length+l.length:=by
  intro l
  induction l with
  |nil=>intro acc;simp
  |cons a l ih=>
   intro acc
   have:=ih (rA acc a)
   have h2:=zB acc a
   simp only[List.foldl_cons,List.length_cons]
   split at h2<;>omega
 intro l
 have:=key l []
 simpa[dedup]using this
section
variable {prog:Program}{w:World}{A:Around}{R:Result->Shared->Prop}{I:Addr}{fp wr:List Addr}{G:Array GenState->Array GenState->Prop}{n:Nat}{P:Nat->Value->Prop}{St:Nat->Shared->Prop}
theorem wF (W:WalksS prog w A.in1 I fp wr G n P St)(S:Addr)(hSf:S∉fp)(ks:List Key)(hn:n=ks.length)
 (hval:∀i v,P i v->∃k,ks[i]?=some k/\(cG prog w).is k v=true/\v.scannable=true)(hb:n+1<scanBound):
 ∀(k i:Nat) (s:Shared),n - i=k->i<=n->St i s->
  s.heap.SetOf (cG prog w) S (λk'=>Bj (dedup (ks.take i)) k') (dedup (ks.take i)).length->
  (∀s',Moved (S::wr) G s s'->s'.heap.SetOf (cG prog w) S (λk'=>Bj (dedup ks) k') (dedup ks).length->R (.ok (.ret .none)) s')->
  codeAny (model prog w) A (.builtin "set.update.loop" ⟨[.ref S,.ref I],[]⟩) R s:=by
 have hSw:S∉wr:=λh=>hSf (W.sub _ h)
 have hsub:∀b∈wr,b∈S::wr:=λb hb=>List.mem_cons_of_mem _ hb
 intro k
 induction k with
 |zero=>
  intro i s hk hi hst hS hR
  have hin:i=n:=by omega
  subst hin
  refine codeAny_builtin PyProof.Rows.F.entry_set_update_loop ?_
  rw[Around.under_plainId PyProof.Rows.F.plain_set_update_loop _]
  show wpAny _ A.in1 (pyNext (.ref I)>>=_) _ _ s
  refine wpAny_bind (W.done s _ _ hst λs' hm=>?_)
  show wpAny _ A.in1 (ret Value.none) _ _ s'
  rw[List.take_of_length_le (by omega)]at hS
  exact wpAny_pure (hR s' (hm.mono hsub) (by
   obtain⟨o,es,ep,t,ho,rest⟩:=hS
   exact⟨o,es,ep,t,hm.heap S _ hSw ho,rest⟩))
 |succ k ih=>
  intro i s hk hi hst hS hR
  have hlt:i<n:=by omega
  refine codeAny_builtin PyProof.Rows.F.entry_set_update_loop ?_
  rw[Around.under_plainId PyProof.Rows.F.plain_set_update_loop _]
  show wpAny _ A.in1 (pyNext (.ref I)>>=_) _ _ s
  refine wpAny_bind (W.item i s _ _ hlt hst λv s' hP hst' hm=>?_)
  obtain⟨key,hkey,YW,hsc⟩:=hval i v hP
  have hS':s'.heap.SetOf (cG prog w) S (λk'=>Bj (dedup (ks.take i)) k') (dedup (ks.take i)).length:=by
   obtain⟨o,es,ep,tb,ho,rest⟩:=hS
   exact⟨o,es,ep,tb,hm.heap S _ hSw ho,rest⟩
  show wpAny _ A.in1 (holding [v] (setAdd S v)>>=_) _ _ s'
  refine wpAny_bind (wpAny_holding ?_)
  unfold setAdd
  refine wpAny_holding ?_
  refine wpAny_bind ((cG prog w).pyHash (k:=key) YW ?_)
  have hroom:(dedup (ks.take i)).length+1<scanBound:=by
   have:=Mw (ks.take i)
   rw[List.length_take]at this
   omega
  refine wpAny_setAddHashed_of (knd:=cG prog w) (s:={ s' with toks:=s'.toks+1 }) YW hsc hS' hroom λh' hsb hS2=>?_
  have hSi:h'.SetOf (cG prog w) S (λk'=>Bj (dedup (ks.take (i+1))) k') (dedup (ks.take (i+1))).length:=
   Ig hS2 (λk'=>by rw[zE ks hkey,Jo]) (by rw[zE ks hkey,zB])
  refine wpAny_pure ⟨plainId_quiet PyProof.Rows.F.plain_set_update_loop _,ih (i+1) _ (by omega) hlt (W.frame _ s' _ _ hst' (Nat.le_succ _) λb hb o e=>?_) hSi λs'' hm'' hS''=>?_⟩
  ·rw[hsb.2 b (λh:b=S=>hSf (by rw[<-h];exact hb))];exact e
  ·refine hR s'' (Moved.trans W.gtrans ((hm.mono hsub).then_heap (Nat.le_succ _) λb o hb e=>?_) hm'') hS''
   rw[hsb.2 b (λh:b=S=>hb (by rw[h];exact List.mem_cons_self))];exact e
end
section
variable {prog:Program}{w:World}{A:Around}{E:Value->Shared->Prop}{s:Shared}
set_option maxHeartbeats 3200000 in
theorem Bl {l:Addr}{items:Array Value}{ks:List Key}{Q:Value->Shared->Prop}
 (hh:A.handled=none)(hl:s.heap.IsList l items)(hn:items.size=ks.length)(hi:∀(i:Nat) (v:Value),items[i]?=some v->∃k,ks[i]?=some k/\(cG prog w).is k v=true/\v.scannable=true)(hb:items.size+1<scanBound)
 (h:∀(h':Heap) (tk:Nat),h'.SetOf (cG prog w) s.heap.objs.size (λk'=>Bj (dedup ks) k') (dedup ks).length->
  (∀b o,b<s.heap.objs.size->s.heap.get? b=some o->h'.get? b=some o)->Q (.ref s.heap.objs.size) { s with heap:=h',toks:=tk }):
 wpAny (model prog w) A (call (.type "set") [.ref l]) Q E s:=by
 obtain⟨c,tl,hmro⟩:=PySem.F.called_set.mro
 have hmade:=PySem.F.called_set.made
 have hsub:=PySem.F.called_set.sub
 refine wpAny_call (codeAny_of_tree ?_)
 show wpAny _ _ (callAny (.type "set") _) _ _ _
 refine wpAny_pure ⟨Code.quiet_builtin _ (by decide+kernel),codeAny_builtin PySem.F.entry_type_call ?_⟩
 rw[Around.under_plain (weight_type_call_type "set" [.ref l] []) rfl]
 have h1:=PySem.F.called_set.notType
 have h2:=PySem.F.called_set.canCreate
 have hct:=PySem.F.typeCall_set_1 (.ref l)
 repeat (any_goals (first|assumption|wp_step))
 refine codeAny_mono (code_set_new_1 (.ref l) (E:=E) (Q₁:=λobj s₁=>∃led:Bool,obj= .ref s.heap.objs.size/\s₁={ s with heap:=s.heap.push { cls:= .type "set",dict:=none,data:= .set #[] 0 (.fresh 0 0 led) } }) λled=>⟨led,rfl,rfl⟩) λr s₁ hr=>?_
 cases r with
 |error e=>exact hr
 |ok fl=>
  cases fl with
  |ret obj=>
   obtain⟨led,rfl,rfl⟩:=hr
   have hS:(s.heap.push { cls:= .type "set",dict:=none,data:= .set #[] 0 (.fresh 0 0 led) }).get? s.heap.objs.size=some { cls:= .type "set",dict:=none,data:= .set #[] 0 (.fresh 0 0 led) }:=Heap.get?_push_size _ rfl
   have hT:Shared.TypeIs { s with heap:=s.heap.push { cls:= .type "set",dict:=none,data:= .set #[] 0 (.fresh 0 0 led) } } (.ref s.heap.objs.size) "set":=⟨_,hS,rfl⟩
   have hli:=PySem.F.called_set.init.lookup
   have hbi:=PySem.F.called_set.init.bind (.ref s.heap.objs.size)
   repeat (any_goals (first|assumption|wp_step))
   refine codeAny_mono (codeAny_call_builtin (R:=wants (λr s₂=>r= .none/\∃h' tk,s₂={ s with heap:=h',toks:=tk }/\
    h'.SetOf (cG prog w) s.heap.objs.size (λk'=>Bj (dedup ks) k') (dedup ks).length/\
    (∀b o,b<s.heap.objs.size->s.heap.get? b=some o->h'.get? b=some o)) E) PySem.F.called_set.init.plain PySem.F.entry_set_init (check_set_init_1 hT ?_)) λr₂ s₂ hr₂=>?_
   ·obtain⟨ol,hol,hcl,nl,hdl⟩:=hl
    obtain⟨ocls,odict,odata,oslots⟩:=ol
    simp only at hcl hdl
    subst hcl;subst hdl
    have hol':(s.heap.push { cls:= .type "set",dict:=none,data:= .set #[] 0 (.fresh 0 0 led) }).get? l=some { cls:= .type "list",dict:=odict,data:= .seq items nl,slots:=oslots }:=Heap.get?_push_of_some _ hol
    have hsls:=PySem.F.sub_list_set
    have hslf:=PySem.F.sub_list_frozenset
    have hne:(Value.type "list"==Value.type "dict")=false:=by decide
    have hl1:(s.heap.push { cls:= .type "set",dict:=none,data:= .set #[] 0 (.fresh 0 0 led) }).IsList l items:=⟨_,hol',rfl,nl,rfl⟩
    unfold Builtin.«set.__init__» noKeywords Builtin.Frozenset.updateFrom
    generalize hPI:pyIter=PI
    wp_walk
    subst hPI
    refine wpAny_pyIter_list hl1 ?_
    refine wpAny_bind (wpAny_runValue ?_)
    have hlS:l<s.heap.objs.size:=Heap.lt_size hol
    have hh3:A.in1.in1.in1.handled=none:=by simp[hh]
    have hneI:l≠(s.heap.push { cls:= .type "set",dict:=none,data:= .set #[] 0 (.fresh 0 0 led) }).objs.size:=by
     rw[Heap.size_push];exact Nat.ne_of_lt (Nat.lt_succ_of_lt hlS)
    have hSf:s.heap.objs.size∉[(s.heap.push { cls:= .type "set",dict:=none,data:= .set #[] 0 (.fresh 0 0 led) }).objs.size,l]:=by
     rw[Heap.size_push];simp only[List.mem_cons,List.mem_singleton,List.not_mem_nil,or_false,not_or]
     exact⟨Nat.ne_of_lt (Nat.lt_succ_self _),Nat.ne_of_gt hlS⟩
    refine wF ((Walks.list hh3 _ l hneI items).toS) s.heap.objs.size
     hSf ks hn (λi v hv=>hi i v hv) hb (items.size - 0) 0 _ (by omega) (Nat.zero_le _)
     ⟨⟨_,Heap.get?_push_size _ rfl,rfl,rfl⟩,(hl1.push _)⟩ ?hS0 ?hR
    case hS0=>
     have hget:((s.heap.push { cls:= .type "set",dict:=none,data:= .set #[] 0 (.fresh 0 0 led) }).push { cls:= .type "list_iterator",data:= .fields #[.ref l,.int 0 0] }).get? s.heap.objs.size
      =some { cls:= .type "set",dict:=none,data:= .set #[] 0 (.fresh 0 0 led) }:=Heap.get?_push_of_some _ hS
     exact⟨_,#[],0,_,hget,⟨rfl,rfl,rfl⟩,rfl,λe he=>by simp at he,λk=>by simp[dedup,Bj],by decide,by rfl,rfl⟩
    case hR=>
     intro s' hm hS'
     obtain⟨h',g',d',tk',os'⟩:=s'
     have eg:g'=s.gens:=hm.gens
     have ed:d'=s.drawn:=hm.drawn
     have eo:os'=s.os:=hm.os
     subst eg;subst ed;subst eo
     show wpAny _ _ _ _ _ _
     refine wpAny_pure ?_
     show wpAny _ _ (ret Value.none) _ _ _
     refine wpAny_pure ⟨rfl,h',tk',rfl,hS',λb o hb e=>?_⟩
     have hb1:b≠s.heap.objs.size:=Nat.ne_of_lt hb
     have hb2:b≠(s.heap.push { cls:= .type "set",dict:=none,data:= .set #[] 0 (.fresh 0 0 led) }).objs.size:=by
      rw[Heap.size_push];exact Nat.ne_of_lt (Nat.lt_succ_of_lt hb)
     exact hm.heap b o (by simp only[List.mem_cons,List.mem_singleton,List.not_mem_nil,or_false,not_or];exact⟨hb1,hb2⟩) (Heap.get?_push_of_some _ (Heap.get?_push_of_some _ e))
   ·cases r₂ with
    |error e=>exact hr₂
    |ok fl₂=>
     cases fl₂ with
     |ret r=>
      obtain⟨rfl,h',tk,rfl,hS',hk'⟩:=hr₂
      repeat (any_goals (first|assumption|wp_step))
      exact h _ _ hS' hk'
     |_=>exact hr₂.elim
  |_=>exact hr.elim
end
noncomputable def Bq:D->Option Key
 | .int i=>some (.inl i)
 | .str x=>some (.inr x)
 |_=>none
noncomputable def wX:List D->Option (List Key)
 |[]=>some []
 |d::l=>(Bq d).bind λk=>(wX l).map λr=>k::r
theorem vd {O:Addr->Prop}{K:Fg}{H:Hp}{d:D}{k:Key}{v:V}(e:Bq d=some k)(h:Rep O K H d v):v=kV k:=by
 cases d<;>simp only[Bq]at e<;>try (cases e;done)
 all_goals (cases e;cases h;rfl)
theorem CP {O:Addr->Prop}{K:Fg}{H:Hp}:∀{l:List D}{ks:List Key}{vs:List V},wX l=some ks->aU O K H l vs->vs=ks.map kV
 |[],_,_,e,h=>by cases e;cases h;rfl
 |d::l,_,_,e,h=>by
  obtain⟨v,vs,rfl,h1,h2⟩:=h
  simp only[wX]at e
  obtain⟨k,e1,e⟩:=bind_some e
  cases e2:wX l with
  |none=>rw[e2]at e;cases e
  |some ks=>
   rw[e2]at e
   cases e
   rw[vd e1 h1,CP e2 h2]
   rfl
theorem Qf {k:Key}{u:Value}(r:RelV (kV k) u):u.scannable=true:=by
 cases k with
 |inl i=>obtain⟨t,rfl⟩:=r;rfl
 |inr x=>obtain⟨t,rfl⟩:=r;rfl
theorem Ir:∀{vs:List V}{us:List Value}{i:Nat}{u:Value},Vals vs us->us[i]?=some u->∃v,vs[i]?=some v/\RelV v u
 |_,_,i,_,.nil,e=>by simp at e
 |_,_,0,_,.cons r _,e=>by simp at e;subst e;exact⟨_,rfl,r⟩
 |_,_,i+1,_,.cons _ t,e=>by
  simp only[List.getElem?_cons_succ]at e
  obtain⟨v,e1,r⟩:=Ir t e
  exact⟨v,by simpa using e1,r⟩
section
variable {X:Cx}
noncomputable def isSet (X:Cx)(p:Addr)(ks:List Key):HO:= .ext λh=>h.SetOf (cG X.prog X.w) p (λk'=>Bj (dedup ks) k') (dedup ks).length
noncomputable def a0E (X:Cx):List V->Hp->VK->Prop:=λxs H Q=>∃(O:Addr->Prop) (l:List D) (v:V) (ks:List Key),xs=[v]/\Rep O X.K H (.lst l) v/\wX l=some ks/\l.length+1<scanBound/\∀p,H p=none->Q (.ref p) (upd H p (isSet X p ks))
theorem Mm (hc:X.calm=true):jB X (.type "set") (a0E X):=by
 intro pins s σ H xs us Q I r h
 obtain⟨O,l,v,ks,rfl,rl,eb,hb,q⟩:=h
 obtain⟨u,rfl,ru⟩:=vals1 r
 obtain⟨a,vs,rfl,h1,h2⟩:=rl
 cases ru
 obtain⟨its,rv,pl,_⟩:=I.list (oF.of h1.1)
 have ek:=CP eb h2
 have e1:=h2.length
 have e2:=rv.length
 have e3:ks.length=vs.length:=by rw[ek,List.length_map]
 refine Bl (ks:=ks) (I.ok.hd hc) pl.isList (by rw[List.size_toArray];omega) (λi v hv=>?_) (by rw[List.size_toArray];omega) λh' tk hS hk=>?_
 ·have hv':its[i]?=some v:=by simpa using hv
  obtain⟨w,e4,r4⟩:=Ir rv hv'
  rw[ek,List.getElem?_map]at e4
  cases e5:ks[i]? with
  |none=>rw[e5]at e4;cases e4
  |some k=>
   rw[e5]at e4
   cases e4
   exact⟨k,rfl,Hh r4,Qf r4⟩
 ·refine⟨.ref _,_,I.laid (h':=h') (t':=tk) (o:=isSet X s.heap.objs.size ks) (λb o e=>hk b o (Heap.lt_size e) e) (Nat.le_refl _) ⟨hS,?_,λg1 g2 z k=>?_⟩,rfl,q _ I.fresh⟩
  ·obtain⟨o,_,_,_,ho,_⟩:=hS
   exact⟨o,ho⟩
  ·obtain⟨o,es,ep,t,ho,rest⟩:=z
   exact⟨o,es,ep,t,k o ho,rest⟩
noncomputable def Ut (X:Cx):List V->Hp->VK->Prop:=λxs H Q=>∃p ks,xs=[.ref p]/\H p=some (isSet X p ks)/\Q (.int ((dedup ks).length:Nat)) H
theorem G8:jB X (.builtin "len") (Ut X):=by
 intro pins s σ H xs us Q I r h
 obtain⟨p,ks,rfl,hp,q⟩:=h
 obtain⟨u,rfl,ru⟩:=vals1 r
 cases ru
 obtain⟨hS,_,_⟩:=(show gM X.prog X.w H s.heap p (isSet X p ks) from I.hok p _ hp)
 obtain⟨o,es,ep,t,ho,hex,hd,_,_,hsz,hf,hn⟩:=hS
 refine call_len_set ho hex hd hf ?_ ?_
 ·have:scanBound=4096:=rfl
  omega
 ·rw[hn]
  exact⟨.int _,H,I.tok _,⟨_,rfl⟩,q⟩
noncomputable def qd:List D->Option D
 |[.lst l]=>(wX l).bind λks=>if l.length+1<scanBound then some (.int ((dedup ks).length:Nat))else none
 |_=>none
variable {p p2 pos pos2:Pos}{e:Expr}{Fs:aH->Option (List D)}
theorem Mx (hc:X.calm=true)(hg:Gl X "len")(hm:X.mg "len"=none)(hg2:Gl X "set")(hm2:X.mg "set"=none)(ha:Dr X [e] Fs)
 (he:starEach [.Call (.Name "set" p2) [e] [] pos2] X.env=(false,eval (.Call (.Name "set" p2) [e] [] pos2) X.env)::starEach [] X.env:=by rfl)(he2:starEach [e] X.env=(false,eval e X.env)::starEach [] X.env:=by rfl):
 ED X (.Call (.Name "len" p) [.Call (.Name "set" p2) [e] [] pos2] [] pos) (λρ=>(Fs ρ).bind qd):=have ha:=ha.1; .mk<|PE.imp (pM G8 hg hm (by decide+kernel) (jo (wL (Mm hc) hg2 hm2 (by decide+kernel) ha (by decide) (by decide) he2 rfl) oZ he) (by decide) (by decide) he rfl) λσ H Q ⟨O,ρ,d,w,rr,e,q⟩=>by
 obtain⟨l,e1,e2⟩:=bind_some e
 unfold qd at e2
 split at e2
 ·obtain⟨ks,e3,e2⟩:=bind_some e2
  obtain⟨hz,rfl⟩:=mV e2
  refine⟨O,ρ,_,w,rr,e1,λvs H1 s1 r1=>?_⟩
  obtain⟨v,rfl,h1⟩:=jJ r1
  refine⟨O,_,v,ks,rfl,h1,e3,hz,λp' hp'=>?_⟩
  exact⟨p',ks,rfl,cM,q _ _ (s1.trans (bT hp')) rfl⟩
 ·cases e2
end
section
variable {prog:Program}{w:World}{A:Around}{E:Value->Shared->Prop}{s:Shared}
variable {z TI TO i1 i2 p:Addr}{fl:Bool}{Ja Jb:List Addr}{n1 n2 k:Nat}{P1 P2:Nat->Value->Prop}{S1 S2:Nat->Heap->Prop}{a b:Value}{oa:Obj}
end
section
variable {prog:Program}{w:World}{A:Around}{E:Value->Shared->Prop}{s:Shared}
variable {z TI TO i1 i2 d:Addr}{Ja Jb:List Addr}{n1 n2:Nat}{P1 P2:Nat->Value->Prop}{S1 S2:Nat->Heap->Prop}
end
section
variable {O O':Addr->Prop}{K:Fg}{H₀ H H':Hp}{σ:L2.St}{ρ:bw}{γ:List Gh}
theorem gC.Li {i:Nat}{ks:List Key}{l:List D}{fr:Bool}{p:Addr}{vs:List V}(h:gC O K H₀ H σ ρ γ)(s:bN H H')(hp:H p=none)(hl:H' p=some (.dK (ks.zip vs)))(hk:ks.length=vs.length)(r:aU (λa=>AV fr O H₀ a\/a=p) K H' l vs):
 gC (λa=>O a\/a=p) K H₀ H' (σ.set i (some (.ref p))) (ρ.set i (some (.m9 ks l fr))) γ:=by
 have up:∀(f:Bool) a,AV f (λa=>O a\/a=p) H₀ a->(AV f O H₀ a\/a=p):=λf a z=>by
  rcases z with(z|z)|z
  ·exact .inl (.inl z)
  ·exact .inr z
  ·exact .inl (.inr z)
 have old:∀(m:L) (v:V),RL O K H₀ H m v->RL (λa=>O a\/a=p) K H₀ H' m v:=λm v b=>by
  cases m with
  |val d f=>
   have b':Rep (AV f O H₀) K H d v:=b
   exact((Rep.join hp d b').mono s).weak (up f)
  |own l f tg=>
   obtain⟨q,us,e,o,h1,h2⟩:=b
   exact⟨q,us,e,.inl o,s _ _ h1,((aU.join hp l h2).mono s).weak (up f)⟩
  |m9 ks l f=>
   obtain⟨q,us,e,o,h1,h3,h2⟩:=b
   exact⟨q,us,e,.inl o,s _ _ h1,h3,((aU.join hp l h2).mono s).weak (up f)⟩
 refine⟨h.same.trans s,λa z=>?_,λa z=>?_,λj m e=>?_,λj k m n q e1 o1 e2 e3 o2 e4=>?_,by rw[List.length_set,List.length_set];exact h.len,λg hg ht=>((Rep.join hp _ (h.gh g hg ht)).mono s).weak (up g.fr),λj l fr t e=>?_⟩
 rotate_left 4
 ·rcases di e with⟨rfl,e,hl'⟩|⟨hj,e⟩
  ·cases e
  ·obtain⟨g,a,b,c⟩:=h.tag j l fr t e
   exact⟨g,a,b,by rw[List.getElem?_set_ne (Ne.symm hj)];exact c⟩
 ·rcases z with z|rfl
  ·exact(h.wi.mono s) a z
  ·rw[hl];simp
 ·rcases z with z|rfl
  ·exact h.new a z
  ·exact h.same.free hp
 ·rcases di e with⟨rfl,e,hl'⟩|⟨hj,e⟩
  ·cases e
   exact⟨.ref p,List.getElem?_set_self (by rw[h.len];exact hl'),p,vs,rfl,.inr rfl,hl,hk,r.weak (up fr)⟩
  ·obtain⟨w,a,b⟩:=h.rel j m e
   exact⟨w,by rw[List.getElem?_set_ne (Ne.symm hj)];exact a,old m w b⟩
 ·have Qq:∀(j:Nat) (m:L),ρ[j]?=some (some m)->m.isOwn=true->σ[j]?=some (some (.ref p))->False:=λj m e o e'=>by
   obtain⟨w,a,b⟩:=h.rel j m e
   rw[e']at a
   cases a
   cases m with
   |val d f=>cases o
   |own l f tg=>obtain⟨q,us,e5,_,h1,_⟩:=b;cases e5;rw[hp]at h1;cases h1
   |m9 ks l f=>obtain⟨q,us,e5,_,h1,_⟩:=b;cases e5;rw[hp]at h1;cases h1
  have hlt:∀{x:Option L}{y:Option L}{j:Nat},(ρ.set i x)[j]?=some y->j<σ.length:=λe=>by
   have:=(List.getElem?_eq_some_iff.mp e).1
   rw[List.length_set]at this
   rw[h.len];exact this
  rcases di e1 with⟨rfl,e,hi⟩|⟨hj,f1⟩
  ·rcases di e3 with⟨rfl,e',_⟩|⟨hk,f3⟩
   ·rfl
   ·rw[List.getElem?_set_self (by rw[h.len];exact hi)]at e2
    cases e2
    rw[List.getElem?_set_ne (Ne.symm hk)]at e4
    exact(Qq k n f3 o2 e4).elim
  ·rw[List.getElem?_set_ne (Ne.symm hj)]at e2
   rcases di e3 with⟨rfl,e',hi⟩|⟨hk,f3⟩
   ·rw[List.getElem?_set_self (by rw[h.len];exact hi)]at e4
    cases e4
    exact(Qq j m f1 o1 e2).elim
   ·rw[List.getElem?_set_ne (Ne.symm hk)]at e4
    exact h.apart j k m n q f1 o1 e2 f3 o2 e4
theorem gC.a0b {i:Nat}{ks ks':List Key}{l l':List D}{fr:Bool}{p:Addr}{vs vs':List V}(h:gC O K H₀ H σ ρ γ)(e:ρ[i]?=some (some (.m9 ks l fr)))(e2:σ[i]?=some (some (.ref p)))(hp:H p=some (.dK (ks.zip vs)))(hk:ks'.length=vs'.length)(hO:O p)
 (r:aU (AV fr O H₀) K H l' vs'):gC O K H₀ (upd H p (.dK (ks'.zip vs'))) σ (ρ.set i (some (.m9 ks' l' fr))) γ:=by
 have hi:i<ρ.length:=(List.getElem?_eq_some_iff.mp e).1
 have kp:∀f,pF (AV f O H₀) H (upd H p (.dK (ks'.zip vs'))):=λf=>pF.LR (.inl hO) hp
 have sm:bN H₀ (upd H p (.dK (ks'.zip vs'))):=λb u z=>by
  rw[bM (cO z (h.new p hO))]
  exact h.same b u z
 refine⟨sm,λa z q=>?_,h.new,λj m e3=>?_,λj k m n q e3 o1 e4 e5 o2 e6=>?_,by rw[List.length_set];exact h.len,λg hg ht=>Rep.keep (λ_ z=>z) (kp g.fr) _ (h.gh g hg ht),λj l2 YS t e3=>?_⟩
 rotate_left 3
 ·rcases di e3 with⟨rfl,e3,_⟩|⟨hj,e3⟩
  ·cases e3
  ·exact h.tag j l2 YS t e3
 ·by_cases ha:a=p
  ·subst ha;rw[cM]at q;cases q
  ·rw[bM ha]at q;exact h.wi a z q
 ·rcases di e3 with⟨rfl,e3,_⟩|⟨hj,e3⟩
  ·cases e3
   exact⟨.ref p,e2,p,vs',rfl,hO,cM,hk,aU.keep (λ_ z=>z) (kp fr) l' r⟩
  ·obtain⟨w,a,b⟩:=h.rel j m e3
   refine⟨w,a,?_⟩
   cases m with
   |val d f=>exact Rep.keep (λ_ z=>z) (kp f) d b
   |own l2 f tg2=>
    obtain⟨q,us,rfl,o,h1,h2⟩:=b
    have hq:q≠p:=λz=>by
     subst z
     rw[hp]at h1;cases h1
    exact⟨q,us,rfl,o,by rw[bM hq];exact h1,aU.keep (λ_ z=>z) (kp f) l2 h2⟩
   |m9 ks2 l2 f=>
    obtain⟨q,us,rfl,o,h1,h3,h2⟩:=b
    have hq:q≠p:=λz=>by
     subst z
     exact hj (h.apart j i _ _ q e3 rfl a e rfl e2)
    exact⟨q,us,rfl,o,by rw[bM hq];exact h1,h3,aU.keep (λ_ z=>z) (kp f) l2 h2⟩
 ·have back:∀{j:Nat}{m:L},(ρ.set i (some (.m9 ks' l' fr)))[j]?=some (some m)->m.isOwn=true->∃m',ρ[j]?=some (some m')/\m'.isOwn=true:=λ{j m} z o=>by
   rcases di z with⟨rfl,_,_⟩|⟨_,z⟩
   ·exact⟨_,e,rfl⟩
   ·exact⟨m,z,o⟩
  obtain⟨m',e7,o3⟩:=back e3 o1
  obtain⟨n',e8,o4⟩:=back e5 o2
  exact h.apart j k m' n' q e7 o3 e4 e8 o4 e6
end
noncomputable def v7 (ks:List Key)(l:List D)(k:Key):Option D:=((ks.zip l).find? λp=>decide (p.1=k)).map (·.2)
noncomputable def rY (ks:List Key)(l:List D)(k:Key)(d:D):List D:=(ks.zip l).map λp=>if p.1=k then d else p.2
noncomputable def yo (ks:List Key)(l:List D)(k:Key)(d:D):List Key×List D:=if Bj ks k=true then(ks,rY ks l k d)else(ks++[k],l++[d])
section
variable {O O':Addr->Prop}{K:Fg}{H H':Hp}
theorem Cy:∀{ks:List Key}{l:List D}{vs:List V}{k:Key}{d:D},aU O K H l vs->v7 ks l k=some d->∃v,yP (ks.zip vs) k=some v/\Rep O K H d v
 |[],_,_,_,_,_,e=>by simp[v7]at e
 |_::_,[],_,_,_,_,e=>by simp[v7]at e
 |k0::ks,d0::l,_,k,d,h,e=>by
  obtain⟨v,vs,rfl,h1,h2⟩:=h
  rw[List.zip_cons_cons]
  by_cases hk:k0=k
  ·have e':v7 (k0::ks) (d0::l) k=some d0:=by simp[v7,List.find?_cons,hk]
   rw[e']at e
   cases e
   exact⟨v,vQ hk,h1⟩
  ·have e':v7 (k0::ks) (d0::l) k=v7 ks l k:=by simp[v7,List.find?_cons,hk]
   rw[e']at e
   obtain⟨u,q1,q2⟩:=Cy h2 e
   exact⟨u,by rw[vP hk];exact q1,q2⟩
theorem Dj {d:D}{u:V}{k:Key}(hd:Rep O K H d u):∀{ks:List Key}{l:List D}{vs:List V},ks.length=vs.length->aU O K H l vs->
 ∃vs',(ks.zip vs).map (λkv=>if kv.1=k then(kv.1,u)else kv)=ks.zip vs'/\ks.length=vs'.length/\aU O K H (rY ks l k d) vs'
 |[],l,vs,hl,h=>⟨[],by simp,rfl,by simp[rY,aU]⟩
 |k0::ks,[],_,hl,h=>by cases h;simp at hl
 |k0::ks,d0::l,_,hl,h=>by
  obtain⟨v,vs,rfl,h1,h2⟩:=h
  obtain⟨vs',e1,e2,r⟩:=Dj (k:=k) hd (ks:=ks) (by simpa using hl) h2
  by_cases hk:k0=k
  ·refine⟨u::vs',?_,by simp[e2],?_⟩
   ·rw[List.zip_cons_cons,List.zip_cons_cons,List.map_cons,e1,if_pos hk]
   ·have:rY (k0::ks) (d0::l) k d=d::rY ks l k d:=by simp[rY,hk]
    rw[this]
    exact⟨u,vs',rfl,hd,r⟩
  ·refine⟨v::vs',?_,by simp[e2],?_⟩
   ·rw[List.zip_cons_cons,List.zip_cons_cons,List.map_cons,e1,if_neg hk]
   ·have:rY (k0::ks) (d0::l) k d=d0::rY ks l k d:=by simp[rY,hk]
    rw[this]
    exact⟨v,vs',rfl,h1,r⟩
theorem JZ {k:Key}:∀{ks:List Key}{vs:List V},ks.length=vs.length->((ks.zip vs).any λkv=>decide (kv.1=k))=Bj ks k
 |[],[],_=>rfl
 |_::_,[],h=>by simp at h
 |[],_::_,h=>by simp at h
 |a::ks,v::vs,h=>by
  have:=JZ (k:=k) (ks:=ks) (vs:=vs) (by simpa using h)
  unfold Bj at this ⊢
  rw[List.zip_cons_cons,List.any_cons,List.any_cons,this]
theorem NP {d:D}{u:V}{k:Key}{ks:List Key}{l:List D}{vs:List V}(hd:Rep O K H d u)(hl:ks.length=vs.length)(h:aU O K H l vs):
 ∃vs',putK (ks.zip vs) k u=(yo ks l k d).1.zip vs'/\(yo ks l k d).1.length=vs'.length/\aU O K H (yo ks l k d).2 vs':=by
 unfold putK yo
 rw[JZ hl]
 by_cases hk:Bj ks k=true
 ·rw[if_pos hk,if_pos hk]
  exact Dj hd hl h
 ·rw[if_neg hk,if_neg hk]
  exact⟨vs++[u],by rw[List.zip_append hl];rfl,by simp[hl],h.append (aU.one hd)⟩
end
section
variable {X:Cx}{H₀:Hp}{o i e:Expr}{pos pos':Pos}{Fo Fi Fe:aH->Option D}
noncomputable def W6 (x y:D):Option D:=match x with
 | .dct ks l=>(Bq y).bind (v7 ks l)
 |_=>none
theorem SJ (hu:X.A.units+1<cLine)(ho:ED X o Fo)(hi:ED X i Fi)(hs:RP i):ED X (.Subscript o i pos) (λρ=>(Fo ρ).bind λx=>(Fi ρ).bind λy=>W6 x y):=have ho:=ho.1;have hi:=hi.1; .mk<|PE.imp (Ub hu ho hi hs) λσ H Q ⟨O,ρ,d,w,r,e,q⟩=>by
 obtain⟨dx,e1,e⟩:=bind_some e
 obtain⟨dy,e2,e⟩:=bind_some e
 refine⟨O,ρ,dx,w,r,e1,λx H1 s1 r1=>⟨O,ρ,dy,w.mono s1,r.mono s1,e2,λy H2 s2 r2=>?_⟩⟩
 unfold W6 at e
 split at e
 ·rename_i ks l
  obtain⟨k,e3,e4⟩:=bind_some e
  obtain⟨a,vs,rfl,⟨ha,_⟩,hl,rs⟩:=r1.mono s2
  obtain⟨v,e5,rv⟩:=Cy rs e4
  rw[vd e3 r2]
  exact⟨a,v,rfl,by rw[<-e5];exact M8.k ha,q v H2 (s1.trans s2) rv⟩
 ·cases e
noncomputable def tND (K:Fg)(F:aH->Option (List Key×List D)):TE:=λσ H Q=>∃(O:Addr->Prop) (ρ:aH) (r:List Key×List D),Within O H/\lZ O K H σ ρ/\F ρ=some r/\
 ∀p vs H',bN H H'->H p=none->H' p=some (.dK (r.1.zip vs))->r.1.length=vs.length->aU (λa=>O a\/a=p) K H' r.2 vs->Q (.ref p) H'
structure END (X:Cx)(e:Expr)(F:aH->Option (List Key×List D)):Prop where
 mk::(h:PE X e (tND X.K F))
variable {Fl:aH->Option (List Key×List D)}
noncomputable def Vk (i:Nat)(F:aH->Option (List Key×List D)):bw->Option DR:=λρ=>three F (λr=>flat.flats r.2) (λr fr=> .nx (ρ.set i (some (.m9 r.1 r.2 fr)))) ρ
theorem Uw {i:Nat}{x:Str}{pos':Pos}(hN:X.N.Nodup)(hi:X.N[i]?=some x)(hx:Loc X.env.scope x)(he:END X e Fl)(hs:swapsWith e (some (.Name x pos')) pos.line X.env=pure false:=by rfl)
 (hf:X.fn x=true\/X.env.scope.names.lookup x=some .local:=by first|exact .inl rfl|exact .inr rfl|assumption):SD X (.Assign [.Name x pos'] e pos) H₀ (Vk i Fl):=have he:=he.1; .mk<|PS.imp (Ep hN hi hx he hs hf) λE σ H ⟨ρ,γ,r,⟨O,R⟩,e,q⟩=>by
 rcases vM e with⟨l,e1,hf,rfl⟩|⟨fr,l,e1,rfl⟩
 ·exact⟨cL,vis ρ,l,dj,R.vis,e1,λp vs H' s1 hp hl hk r1=>q _ _ ⟨_,R.Li s1 hp hl hk (aU.dJ _ hf r1)⟩⟩
 ·exact⟨AV fr O H₀,vals fr ρ,l,AV.within R.wi R.same,R.vals,e1,λp vs H' s1 hp hl hk r1=>q _ _ ⟨_,R.Li s1 hp hl hk r1⟩⟩
theorem SX:END X (.Dict [] [] pos) (λ_=>some ([],[])):= .mk<|PE.imp Qx λσ H Q ⟨O,ρ,r,w,rr,e,q⟩ p hp=>by
 cases e
 exact q p [] _ (bT hp) hp cM rfl rfl
noncomputable def Cv (i:Nat)(Fk Fv:aH->Option D):bw->Option DR:=λρ=>match ρ[i]? with
 |some (some (.m9 ks l fr))=>if ks.length<sizeLine then(Fv (vis ρ)).bind λd=>if flat d=true then(Fk (vis ρ)).bind λy=>(Bq y).map λk=> .nx (ρ.set i (some (.m9 (yo ks l k d).1 (yo ks l k d).2 fr)))else none else none
 |_=>none
theorem Ux (hu:X.A.units+1<cLine)(j:Nat){x:Str}{p:Pos}(h:PE X (.Name x p) (Ba j))(hi:ED X i Fi)(he:ED X e Fe)(hs:swapsWith e (some (.Subscript (.Name x p) i pos')) pos.line X.env=pure false:=by rfl):
 SD X (.Assign [.Subscript (.Name x p) i pos'] e pos) H₀ (Cv j Fi Fe):=have hi:=hi.1;have he:=he.1; .mk<|PS.imp (Ul hu h hi he hs) λE σ H ⟨ρ,γ,r,⟨O,R⟩,e,q⟩=>by
 unfold Cv at e
 split at e
 ·rename_i ks l fr e1
  split at e
  ·rename_i hz
   obtain⟨d,e2,e⟩:=bind_some e
   split at e
   ·rename_i hf
    obtain⟨y,e3,e⟩:=bind_some e
    cases e4:Bq y with
    |none=>rw[e4]at e;cases e
    |some k=>
     rw[e4]at e
     cases e
     refine⟨cL,vis ρ,d,dj,R.vis,e2,λu H1 s1 ru=>?_⟩
     have R1:=R.mono s1
     obtain⟨v,e5,a,vs,rfl,hO,hp,hl,r1⟩:=R1.rel j _ e1
     refine⟨_,e5,cL,vis ρ,y,dj,R1.vis,e3,λw H2 s2 rw'=>?_⟩
     rw[vd e4 rw']
     obtain⟨vs',z1,z2,z3⟩:=NP (k:=k) (Rep.dJ (O':=AV fr O H₀) d hf (ru.mono s2)) hl (r1.mono s2)
     refine⟨a,_,rfl,Oi.k (s2 _ _ hp) (by rw[List.length_zip];omega),?_⟩
     rw[z1]
     exact q σ _ ⟨O,(R1.mono s2).a0b e1 e5 (s2 _ _ hp) z2 hO z3⟩
   ·cases e
  ·cases e
 ·cases e
noncomputable def Px (FN:List ((aH->Option D)×(aH->Option D)))(ρ:aH):Option (List Key×List D):=match FN with
 |[]=>some ([],[])
 |p::r=>(p.1 ρ).bind λx=>(Bq x).bind λk=>(p.2 ρ).bind λy=>(Px r ρ).map λq=>(k::q.1,y::q.2)
structure PDs (X:Cx)(pos:Pos)(keys:List (Option Expr))(values:List Expr)(FN:List ((aH->Option D)×(aH->Option D))):Prop where
 mk::(h:Yn X pos keys values (FN.map λp=>(tD X.K p.1,tD X.K p.2)))
theorem U7:PDs X pos [] [] []:= .mk<|Uj
theorem pL {k v:Expr}{ks:List (Option Expr)}{vs:List Expr}{Fk Fv:aH->Option D}{FN:List ((aH->Option D)×(aH->Option D))}(hk:ED X k Fk)(hv:ED X v Fv)(hr:PDs X pos ks vs FN):PDs X pos (some k::ks) (v::vs) ((Fk,Fv)::FN):=have hk:=hk.1;have hv:=hv.1;have hr:=hr.1; .mk<|QJ hk hv hr
theorem HN {K:Fg}{σ:L2.St}{O:Addr->Prop}{ρ:aH}:∀(FN:List ((aH->Option D)×(aH->Option D))) {H:Hp}{Q:List (V×V)->Hp->Prop}{r:List Key×List D},Within O H->lZ O K H σ ρ->Px FN ρ=some r->
 (∀vs H',bN H H'->r.1.length=vs.length->aU O K H' r.2 vs->Q ((r.1.zip vs).map λkv=>(kV kv.1,kv.2)) H')->Fj (FN.map λp=>(tD K p.1,tD K p.2)) σ H Q
 |[],H,Q,r,w,R,e,q=>by
  cases e
  exact q [] H (bN.refl H) rfl rfl
 |p::FN,H,Q,r,w,R,e,q=>by
  simp only[Px]at e
  obtain⟨x,e1,e⟩:=bind_some e
  obtain⟨k,e2,e⟩:=bind_some e
  obtain⟨y,e3,e⟩:=bind_some e
  cases e4:Px FN ρ with
  |none=>rw[e4]at e;cases e
  |some r'=>
   rw[e4]at e
   cases e
   refine⟨O,ρ,x,w,R,e1,λv H1 s1 r1=>⟨O,ρ,y,w.mono s1,R.mono s1,e3,λu H2 s2 r2=>?_⟩⟩
   refine HN FN ((w.mono s1).mono s2) ((R.mono s1).mono s2) e4 λvs H3 s3 hl r3=>?_
   rw[vd e2 r1]
   exact q (u::vs) H3 ((s1.trans s2).trans s3) (by simp[hl]) ⟨u,vs,rfl,r2.mono s3,r3⟩
noncomputable def Eh:List Key->Bool
 |[]=>true
 |k::l=>!Bj l k&&Eh l
theorem JC {kvs:List (Key×V)}{k:Key}{v:V}(h:∀kv∈kvs,kv.1≠k):putK kvs k v=kvs++[(k,v)]:=by
 unfold putK
 rw[if_neg]
 rw[List.any_eq_true]
 rintro⟨kv,hm,e⟩
 exact h kv hm (of_decide_eq_true e)
theorem vh:∀(ks:List Key) (vs:List V) (acc:List (Key×V)),Eh ks=true->(∀kv∈acc,∀k∈ks,kv.1≠k)->qu acc (ks.zip vs)=acc++ks.zip vs
 |[],_,acc,_,_=>by simp[qu]
 |_::_,[],acc,_,_=>by simp[qu]
 |k::ks,v::vs,acc,hn,ha=>by
  simp only[Eh,Bool.and_eq_true,Bool.not_eq_true']at hn
  rw[List.zip_cons_cons]
  show qu (putK acc k v) (ks.zip vs)=_
  rw[JC λkv hm=>ha kv hm k List.mem_cons_self,vh ks vs _ hn.2]
  ·simp
  ·intro kv hm k' hk'
   rcases List.mem_append.mp hm with hm|hm
   ·exact ha kv hm k' (List.mem_cons_of_mem _ hk')
   ·rw[List.mem_singleton.mp hm]
    intro z
    subst z
    rw[yV.mpr hk']at hn
    cases hn.1
noncomputable def Gq (FN:List ((aH->Option D)×(aH->Option D))):aH->Option D:=λρ=>(Px FN ρ).bind λr=>if Eh r.1=true/\r.1.length<=15 then some (.dct r.1 r.2)else none
theorem SM {keys:List (Option Expr)}{values:List Expr}{FN:List ((aH->Option D)×(aH->Option D))}(h:PDs X pos keys values FN)(hall:keys.all (·.isSome)=true:=by rfl)(hl:keys.length=values.length:=by rfl)(h0:keys≠[]:=by exact List.cons_ne_nil _ _)
 (h15:keys.length<=15:=by decide):ED X (.Dict keys values pos) (Gq FN):=have h:=h.1; .mk<|PE.imp (Uc h hall hl h0 h15) λσ H Q ⟨O,ρ,d,w,R,e,q⟩ p hp=>by
 obtain⟨r,e1,e⟩:=bind_some e
 obtain⟨⟨hn,hz⟩,rfl⟩:=mV e
 have w':Within (λa=>O a\/a=p) (upd H p (.dK [])):=λa z q=>by
  rcases z with z|rfl
  ·exact(w.mono (bT hp)) a z q
  ·rw[cM]at q;cases q
 refine HN (O:=λa=>O a\/a=p) FN w' (λi d e=>?_) e1 λvs H2 s2 hlen r2=>?_
 ·obtain⟨v,a1,a2⟩:=R i d e
  exact⟨v,a1,(Rep.join hp d a2).mono (bT hp)⟩
 ·have hp2:H2 p=some (.dK []):=s2 _ _ cM
  refine⟨hp2,r.1.zip vs,rfl,by rw[List.length_zip];omega,?_⟩
  rw[vh r.1 vs [] hn (λkv hm=>nomatch hm),List.nil_append]
  refine q _ _ (λb u z=>?_) ⟨p,vs,rfl,⟨cM,w.new hp⟩,hlen,aU.keep (λa z=> .inl z) (pF.LR (.inr rfl) hp2) r.2 r2⟩
  have hb:b≠p:=cO z hp
  rw[bM hb]
  exact s2 b u (by rw[bM hb];exact z)
end
section
variable {prog:Program}{w:World}{A:Around}{E:Value->Shared->Prop}{s:Shared}
variable {z TI TO i1 i2:Addr}{Ja Jb:List Addr}{n1 n2:Nat}{P1 P2:Nat->Value->Prop}{S1 S2:Nat->Heap->Prop}
end
section
variable {X:Cx}{p p2 pos pos2:Pos}{a b:Expr}{Fs:aH->Option (List D)}
end
open PySem.W (KdlSrc kdl_extend kdl_dict kdl_values)
section
variable {prog:Program}{w:World}{A:Around}{E:Value->Shared->Prop}{s:Shared}{T:String}{r d:Addr}{n:Nat}{P:Nat->Value->Prop}{OK:Heap->Prop}
theorem vR {Q:List Value->Shared->Prop}(K:KdlSrc prog w T r d n P OK)(hh:A.handled=none)(hok:OK s.heap)(hn:n<=sizeLine)
 (hQ:∀h' tk (acc:Array Value),(∀b o,s.heap.get? b=some o->h'.get? b=some o)->ItemsOf P acc n->Q acc.toList { s with heap:=h',toks:=tk }):
 wpAny (model prog w) A (collect (.ref r)) Q E s:=by
 unfold collect
 refine wpAny_bind (wpAny_runValue (codeAny_builtin PySem.F.entry_proto_collect ?_))
 rw[Around.under_plainId PySem.F.plain_proto_collect _]
 show wpAny _ A.in1 (newList []>>=λl=>again (.builtin "list.__iadd__" ⟨[l,.ref r],[]⟩)) _ _ s
 refine wpAny_bind (wpAny_newObj_type ?_)
 refine wpAny_pure ⟨plainId_quiet PySem.F.plain_list_iadd _,codeAny_builtin PySem.F.entry_list_iadd ?_⟩
 rw[Around.under_plainId PySem.F.plain_list_iadd _]
 show wpAny _ A.in1 (Builtin.List.listExtendWith (.ref s.heap.objs.size) (.ref r) (.ref s.heap.objs.size)) _ _ _
 have hS:(s.heap.push { cls:= .type "list",data:= .seq ([]:List Value).toArray }).get? s.heap.objs.size=some { cls:= .type "list",data:= .seq #[] 0 }:=Heap.get?_push_size _ rfl
 have hlt:=K.there _ hok
 have fin':∀s2:Shared,(∃h' tk acc' c',s2={ s with heap:=h',toks:=tk }/\(∀b o,s.heap.get? b=some o->h'.get? b=some o)/\h'.get? s.heap.objs.size=some { cls:= .type "list",dict:=none,data:= .seq acc' c',slots:=#[] }/\ItemsOf P acc' n)->
  wpAny (model prog w) A (match Value.ref s.heap.objs.size with
  |Value.ref a=>do
   match(<-load a).data with
    |Data.seq xs _=>pure xs.toList
    |_=>unsupported "internal:collect"
  |_=>unsupported "internal:collect") Q E s2:=by
  rintro _ ⟨h',tk,acc',c',rfl,hk,hS',hacc⟩
  show wpAny _ A (load s.heap.objs.size>>=_) _ _ _
  exact wpAny_bind (wpAny_load hS' (wpAny_pure (hQ h' tk acc' hk hacc)))
 refine wpAny_mono (kdl_extend (A:=A) (R:=λq s2=>q= .ok (.ret (.ref s.heap.objs.size))/\∃h' tk acc' c',s2={ s with heap:=h',toks:=tk }/\(∀b o,s.heap.get? b=some o->h'.get? b=some o)/\h'.get? s.heap.objs.size=some { cls:= .type "list",dict:=none,data:= .seq acc' c',slots:=#[] }/\ItemsOf P acc' n) (s:={ s with heap:=s.heap.push { cls:= .type "list",data:= .seq ([]:List Value).toArray } }) K hh (K.keep _ _ hok λb _ o e=>Heap.get?_push_of_some _ e) _ (Nat.ne_of_gt hlt.1) (Nat.ne_of_gt hlt.2) _ 0 hS (λh' tk acc' c' hk hS' hacc=>⟨rfl,h',tk,acc',c',rfl,λb o e=>hk b o (Nat.ne_of_lt (Heap.lt_size e)) (Heap.get?_push_of_some _ e),hS',hacc⟩) hn) (λfin s' h=>?_) (λe s' h=>?_)
 ·cases fin with
  |done f=>
   obtain⟨e,h⟩:=h
   cases e
   exact fin' _ h
  |again c'=>exact⟨h.1,codeAny_mono h.2 λr s'' hr=>by obtain⟨rfl,hr⟩:=hr;exact fin' _ hr⟩
 ·exact absurd h.1 (by simp)
theorem yI (K:KdlSrc prog w T r d n P OK)(hn:n<=sizeLine):
 MeetsIn prog w (Builtin.«tuple.__new__» ⟨[.type "tuple",.ref r],[]⟩)
  (λA R s=>A.handled=none/\OK s.heap/\∀(h':Heap) tk (acc:Array Value),(∀b o',s.heap.get? b=some o'->h'.get? b=some o')->ItemsOf P acc n->R (.ok (.ret (.ref h'.objs.size))) { s with heap:=h'.push { cls:= .type "tuple",data:= .seq acc },toks:=tk }):=
 .of_wp λA R s h=>by
  obtain⟨hp,g,dr,tk,os⟩:=s;obtain⟨hh,hok,h⟩:=h
  have hsub:=sub_tuple_self
  have hinit:=init_tuple_lookup
  have hmh:=madeHere_tuple
  have hT:=K.type _ hok
  have hnt:=K.notTuple
  obtain⟨o,ho,hc⟩:=hT
  have hT:Shared.TypeIs ⟨hp,g,dr,tk,os⟩ (.ref r) T:=⟨o,ho,hc⟩
  wp_walk using AutoSeq1.wpAny_loadPart' ho,wpAny_typeOf hT,vR K (by simpa using hh) hok hn
  intro h' tk' acc hk hacc
  show wpAny _ _ (Builtin.Tuple.tupleExact acc.toList.toArray>>=λv=>ret v) _ _ _
  unfold Builtin.Tuple.tupleExact
  refine wpAny_bind (wpAny_newObj_type ?_ (by show acc.toList.toArray.size<=sizeLine;simpa using(by rw[hacc.1];exact hn)))
  refine wpAny_pure ⟨_,rfl,?_⟩
  have e:acc.toList.toArray=acc:=by simp
  rw[e]
  exact h h' tk' acc hk hacc
theorem zq {Q:Value->Shared->Prop}(K:KdlSrc prog w T r d n P OK)(hh:A.handled=none)(hok:OK s.heap)(hn:n<=sizeLine)
 (h:∀(h':Heap) tk (acc:Array Value),(∀b o',s.heap.get? b=some o'->h'.get? b=some o')->ItemsOf P acc n->Q (.ref h'.objs.size) { s with heap:=h'.push { cls:= .type "tuple",data:= .seq acc },toks:=tk }):
 wpAny (model prog w) A (call (.type "tuple") [.ref r]) Q E s:=by
 refine callType_newIn PySem.F.called_tuple (by decide) (PySem.F.typeCall_tuple_1 _) (PySem.F.newCall_tuple_1 _) (λobj=>PySem.F.args_object_init_2 obj _) PySem.F.entry_tuple_new
  (yI K hn) ⟨hh,hok,λh' tk acc hk hacc=>⟨⟨_,Heap.get?_push_size _ rfl,rfl⟩,h h' tk acc hk hacc⟩⟩
end
theorem M6:∀{vs:List V}{us:List Value},vs.length=us.length->(∀(i:Nat) (u:Value),us[i]?=some u->∃v,vs[i]?=some v/\RelV v u)->Vals vs us
 |[],[],_,_=> .nil
 |[],_::_,h,_=>by simp at h
 |_::_,[],h,_=>by simp at h
 |v::vs,u::us,h,k=>by
  obtain⟨v',e,r⟩:=k 0 u rfl
  simp at e
  subst e
  exact .cons r (M6 (by simpa using h) λi u e=>by
   obtain⟨w,e1,r1⟩:=k (i+1) u (by simpa using e)
   exact⟨w,by simpa using e1,r1⟩)
theorem Wx {P:Program}{w:World}{k:Key}{u:Value}(h:(cG P w).is k u=true):RelV (kV k) u:=by
 rw[Jp]at h
 rcases gf h with⟨i,t,rfl,rfl⟩|⟨x,t,rfl,rfl⟩
 ·exact⟨t,rfl⟩
 ·exact⟨t,rfl⟩
theorem Ae {α β:Type}{R:α->β->Prop}:∀{xs:List α}{ys:List β}{i:Nat}{y:β},Paired R xs ys->ys[i]?=some y->∃x,xs[i]?=some x/\R x y
 |_,_,_,_,.nil,e=>by simp at e
 |_,_,0,_,.cons r _,e=>by simp at e;subst e;exact⟨_,rfl,r⟩
 |_,_,i+1,_,.cons _ t,e=>by
  simp only[List.getElem?_cons_succ]at e
  obtain⟨x,e1,r⟩:=Ae t e
  exact⟨x,by simpa using e1,r⟩
section
variable {X:Cx}
noncomputable def Vx:List V->Hp->VK->Prop:=λxs H Q=>∃a kvs,xs=[.ref a]/\H a=some (.dK kvs)/\∀p,H p=none->Q (.ref p) (upd H p (.tup (kvs.map λkv=>kV kv.1)))
theorem eG (hc:X.calm=true):jB X (.type "tuple") Vx:=by
 intro pins s σ H xs us Q I r h
 obtain⟨a,kvs,rfl,ha,q⟩:=h
 obtain⟨u,rfl,ru⟩:=vals1 r
 cases ru
 obtain⟨z,lo,vs,rel,o,es,ep,h1,h2,h3,h4,h5,h6⟩:=Pj I.hok ha
 have hl:=rel.length
 refine zq (kdl_dict (knd:=cG X.prog X.w) (kvs:=vs) (ep:=ep) lo) (I.ok.hd hc) ⟨o,es,h1,h2,h3,h4,h5,h6⟩ (by omega) λh' tk acc hk hacc=>?_
 have I1:Inv X pins σ H { s with heap:=h',toks:=tk }:=I.kept (t':=tk) hk
 have hv:Vals (kvs.map λkv=>kV kv.1) acc.toList:=M6 (by have e:=hacc.1;simp only[List.length_map,Array.length_toList];omega) λi u e=>by
  obtain⟨k,x,e1,e2⟩:=hacc.2 i u (by simpa using e)
  obtain⟨p,e3,e4,_⟩:=Ae rel e1
  exact⟨kV k,by rw[List.getElem?_map,e3,Option.map_some,e4],Wx e2⟩
 have I2:Inv X pins σ (upd H h'.objs.size (.tup (kvs.map λkv=>kV kv.1))) { s with heap:=h'.push { cls:= .type "tuple",data:= .seq acc },toks:=tk }:=
  I1.laid (t':=tk) (λb o e=>Heap.get?_push_of_some _ e) (Nat.le_refl _) (show gM X.prog X.w _ _ _ (.tup (kvs.map λkv=>kV kv.1)) from⟨by rw[List.length_map];exact z,acc.toList,hv,by simpa using uR.new h' acc⟩)
 exact⟨.ref h'.objs.size,_,I2,rfl,q _ (I1.hok.fresh (Nat.le_refl _))⟩
noncomputable def kD:Key->D
 | .inl i=> .int i
 | .inr x=> .str x
theorem M7:∀{ks:List Key}{vs:List V},ks.length=vs.length->(ks.zip vs).map (λkv=>kV kv.1)=ks.map kV
 |[],[],_=>rfl
 |[],_::_,h=>by simp at h
 |_::_,[],h=>by simp at h
 |k::ks,v::vs,h=>by simp[M7 (ks:=ks) (vs:=vs) (by simpa using h)]
theorem Es {O:Addr->Prop}{K:Fg}{H:Hp}:∀(ks:List Key),aU O K H (ks.map kD) (ks.map kV)
 |[]=>rfl
 | .inl i::ks=>⟨_,_,rfl,rfl,Es ks⟩
 | .inr x::ks=>⟨_,_,rfl,rfl,Es ks⟩
noncomputable def eO:List D->Option D
 |[.dct ks _]=>some (.tup (ks.map kD))
 |_=>none
theorem fX {K:Fg}:uQ K Vx eO:=by
 intro O H xs l d Q w h e q
 unfold eO at e
 split at e
 ·cases e
  obtain⟨v,rfl,a,vs,rfl,⟨h1,_⟩,hl,h2⟩:=jJ h
  refine⟨a,_,rfl,h1,λp hp=>?_⟩
  rw[M7 hl]
  exact q _ _ (bT hp) (oO hp (Es _))
 ·cases e
variable {o:Expr}{Fo:aH->Option D}{p pos apos cpos:Pos}
end
mutual
noncomputable def iw (K:Fg):D->Value->Bool
 | .non,.none=>true
 | .bl b,.bool c=>b==c
 | .int i,.int j _=>i==j
 | .str x,.str y _=>x==y
 | .tup l,.ref a=>match K.lookup a with
   |some o=>o.cls== .type "tuple"&&o.dict.isNone&&(match o.data with
    | .seq its _=>decide (its.size<=sizeLine)&&vf K l its.toList
    |_=>false)
   |none=>false
 |_,_=>false
noncomputable def vf (K:Fg):List D->List Value->Bool
 |[],[]=>true
 |d::l,v::vs=>iw K d v&&vf K l vs
 |_,_=>false
end
mutual
theorem uE {K:Fg}:∀(d:D) {u:Value},iw K d u=true->∃v,L2.RelV v u/\∀O H,Rep O K H d v
 | .non,u,h=>by
   cases u<;>simp only[iw]at h<;>try (cases h;done)
   exact⟨.non,rfl,λ_ _=>rfl⟩
 | .bl b,u,h=>by
   cases u<;>simp only[iw,beq_iff_eq]at h<;>try (cases h;done)
   subst h
   exact⟨.bl _,rfl,λ_ _=>rfl⟩
 | .int i,u,h=>by
   cases u<;>simp only[iw,beq_iff_eq]at h<;>try (cases h;done)
   subst h
   exact⟨.int _,⟨_,rfl⟩,λ_ _=>rfl⟩
 | .str x,u,h=>by
   cases u<;>simp only[iw,beq_iff_eq]at h<;>try (cases h;done)
   subst h
   exact⟨.str _,⟨_,rfl⟩,λ_ _=>rfl⟩
 | .tup l,u,h=>by
   cases u<;>simp only[iw]at h<;>try (cases h;done)
   rename_i a
   split at h
   ·rename_i o ho
    simp only[Bool.and_eq_true]at h
    obtain⟨⟨h1,h2⟩,h3⟩:=h
    split at h3
    ·rename_i its n hd
     simp only[Bool.and_eq_true,decide_eq_true_eq]at h3
     obtain⟨vs,r,k⟩:=yl l h3.2
     exact⟨.ref a,rfl,λO H=>⟨a,vs,rfl,.inr ⟨o,its,n,ho,by simpa using h1,by simpa using h2,hd,h3.1,r⟩,k O H⟩⟩
    ·cases h3
   ·cases h
 | .lst l,u,h=>by cases u<;>simp[iw]at h
 | .dct ks l,u,h=>by cases u<;>simp[iw]at h
 | .ins C ks l,u,h=>by cases u<;>simp[iw]at h
 | .tu l,u,h=>by cases u<;>simp[iw]at h
theorem yl {K:Fg}:∀(l:List D) {us:List Value},vf K l us=true->∃vs,Vals vs us/\∀O H,aU O K H l vs
 |[],us,h=>by
  cases us<;>simp only[vf]at h<;>try (cases h;done)
  exact⟨[],.nil,λ_ _=>rfl⟩
 |d::l,us,h=>by
  cases us<;>simp only[vf]at h<;>try (cases h;done)
  rw[Bool.and_eq_true]at h
  obtain⟨v,r1,k1⟩:=uE d h.1
  obtain⟨vs,r2,k2⟩:=yl l h.2
  exact⟨v::vs,.cons r1 r2,λO H=>⟨v,vs,rfl,k1 O H,k2 O H⟩⟩
end
section
variable {prog:Program}{w:World}{A:Around}{E:Value->Shared->Prop}{s:Shared}{a:Addr}{δ:Type}{R:δ->Value->Prop}{T:List (Str×δ)}{k:Str}{tk:Tok}
theorem getItem_tab {Q:Value->Shared->Prop}{d:δ}(h0:KTD.TabOf R s.heap a T)(hd:KTD.datumAt k T=some d)(h:∀v,R d v->Q v { s with toks:=s.toks+1 }):wpAny (model prog w) A (getItem (.ref a) (.str k tk)) Q E s:=by
 obtain⟨_,o,es,ep,ho,hc,hdd,hr⟩:=h0
 have hT:s.TypeIs (.ref a) "dict":=⟨o,ho,hc.1⟩
 unfold getItem
 try with_reducible refine wpAny_holding ?_
 refine wpAny_bind (wpAny_sequenceKey hT (by decide) ?_)
 refine wpAny_bind (wpAny_callSpecial?_slot (name:=Str.ofString "__getitem__") hT PySem.F.slot_dict_getitem
  (wpAny_call_entry PySem.F.slot_dict_getitem hT PySem.F.entry_dict_getitem ?_ (PySem.F.args_dict_getitem_2 _ _)))
 show wpAny _ _ (dictGet a (.str k tk)>>=_) _ _ s
 obtain⟨v,hv,hR⟩:=hr.find_some hd
 refine wpAny_bind ?_
 unfold dictGet
 try with_reducible refine wpAny_holding ?_
 refine wpAny_bind (wpAny_pyHash_str (wpAny_bind (KTD.kt_dictFind_strs (s:={ s with toks:=s.toks+1 }) ho hdd (by obtain⟨l⟩:=es;simpa using hr.exact) ?_)))
 have hf:findBy (λk v=>v.isStr k) es k=some v:=by
  have e:findBy (λk v=>v.isStr k) es k=(es.toList.find? λe=>e.key.isStr k).map (·.val):=by
   obtain⟨l⟩:=es
   simp[findBy]
  rw[e,hv]
 rw[findBy_of_findIdx?]at hf
 cases hi:es.findIdx? λe=>e.key.isStr k with
 |none=>rw[hi]at hf;cases hf
 |some i=>
  rw[hi]at hf
  refine wpAny_bind (wpAny_dictEntries (s:={ s with toks:=s.toks+1 }) ho hdd (wpAny_pure ?_))
  have hf':es[i]?.map (·.val)=some v:=by simpa using hf
  rw[hf']
  exact wpAny_pure ⟨v,rfl,wpAny_pure (h v hR)⟩
end
section
variable {X:Cx}{i:Expr}{Fi:aH->Option D}{p pos:Pos}{x:Str}{a:Addr}
noncomputable def V1 (T:List (Str×D)):D->Option D
 | .str k=>KTD.datumAt k T
 |_=>none
theorem We (T:List (Str×D))(hg:Gl X x)(hm:X.mg x=some (.ref a))(ht:KTD.tabLook (iw X.K) (λb=>X.K.lookup b) a T=true)(hi:ED X i Fi)(hs:RP i)(hd:(x==("__debug__":Str))=false:=by decide):
 ED X (.Subscript (.Name x p) i pos) (λρ=>(Fi ρ).bind (V1 T)):=have hi:=hi.1; .mk<|by
 intro pins s σ H Q I h
 obtain⟨O,ρ,d,w,R,e,q⟩:=h
 obtain⟨y,e1,e2⟩:=bind_some e
 refine Lr PySem.F.slot_dict_getitem.lookup hs (yX I hg hm (iK (hi pins s σ H (λv H1=>bN H H1/\Rep O X.K H1 y v) I ⟨O,ρ,y,w,R,e1,λv H1 s1 r1=>⟨s1,r1⟩⟩) λiv s1 ⟨v,H1,I1,rv,s1',r1⟩=>?_) hd)
 have tb:KTD.TabOf (λd v=>iw X.K d v=true) s1.heap a T:=KTD.tab_of_look (λd v z=>z) (λb o z=>I1.wC b o z) ht
 refine⟨?_,?_⟩
 ·obtain⟨_,o,es,ep,ho,hc,_⟩:=tb
  exact⟨o,ho,hc.1⟩
 ·unfold V1 at e2
  split at e2
  ·cases r1
   obtain⟨t,rfl⟩:=rv
   refine getItem_tab tb e2 λu hu=>?_
   obtain⟨v,r2,k2⟩:=uE d hu
   exact⟨v,H1,I1.tok _,r2,q v H1 s1' (k2 O H1)⟩
  ·cases e2
noncomputable def Vt:List V->Hp->VK->Prop:=λxs H Q=>∃z n,xs=[.str z]/\PySem.intText? z=some n/\z.length<=640/\Q (.int n) H
theorem sH:jB X (.type "int") Vt:=by
 intro pins s σ H xs us Q I r h
 obtain⟨z,n,rfl,hn,hl,q⟩:=h
 obtain⟨u,rfl,ru⟩:=vals1 r
 obtain⟨t,rfl⟩:=ru
 exact PySem.W.KIN.call_text hn hl ⟨.int n,H,I.tok _,⟨_,rfl⟩,q⟩
noncomputable def mU:List D->Option D
 |[.str z]=>if z.length<=640 then(PySem.intText? z).map .int else none
 |_=>none
theorem vz {K:Fg}:uQ K Vt mU:=by
 intro O H xs l d Q w h e q
 unfold mU at e
 split at e
 ·rename_i z
  obtain⟨v,rfl,rfl⟩:=jJ h
  split at e
  ·rename_i hl
   cases e1:PySem.intText? z with
   |none=>rw[e1]at e;cases e
   |some n=>
    rw[e1]at e
    cases e
    exact⟨z,n,rfl,e1,hl,q _ H (bN.refl H) rfl⟩
  ·cases e
 ·cases e
end
section
variable {X:Cx}{H₀:Hp}{o i e:Expr}{pos pos':Pos}{Fo Fi Fe:aH->Option D}
noncomputable def Hg (n:Nat)(y:D):Option Nat:=match y with
 | .int i=>Kr n i
 |_=>none
noncomputable def Cw (j:Nat)(Fi Fv:aH->Option D):bw->Option DR:=λρ=>match ρ[j]? with
 |some (some (.own l fr tg))=>(Fv (vis ρ)).bind λd=>if flat d=true then(Fi (vis ρ)).bind λy=>(Hg l.length y).map λk=> .nx (ρ.set j (some (.own (l.set k d) fr tg)))else none
 |_=>none
theorem Uy (j:Nat){x:Str}{p:Pos}(h:PE X (.Name x p) (Ba j))(hi:ED X i Fi)(he:ED X e Fe)
 (hs:swapsWithSole [.Subscript (.Name x p) i pos'] e pos.line X.env=pure false:=by rfl)(hw:swappedStores [.Subscript (.Name x p) i pos'] e X.env=pure none:=by rfl)
 (h1:(assignEach [.Subscript (.Name x p) i pos'] X.env).map (·.2)=[assign (.Subscript (.Name x p) i pos') X.env]:=by rfl)
 (ha:∀v,assign (.Subscript (.Name x p) i pos') X.env v=(do
  let ov<-holding [v] (eval (.Name x p) X.env)
  let iv<-holding [v,ov] (eval i X.env)
  standAt pos'
  holding [v,ov,iv] (setItem ov iv v)
  release [v,ov,iv] []):=by intro _;rfl):
 SD X (.Assign [.Subscript (.Name x p) i pos'] e pos) H₀ (Cw j Fi Fe):=have hi:=hi.1;have he:=he.1; .mk<|PS.imp (Xq he (Xn h hi set_list ha) hs hw h1) λE σ H ⟨ρ,γ,r,⟨O,R⟩,e,q⟩=>by
 unfold Cw at e
 split at e
 ·rename_i l fr tg e1
  obtain⟨d,e2,e⟩:=bind_some e
  split at e
  ·rename_i hf
   obtain⟨y,e3,e⟩:=bind_some e
   cases e4:Hg l.length y with
   |none=>rw[e4]at e;cases e
   |some k=>
    rw[e4]at e
    cases e
    refine⟨cL,vis ρ,d,dj,R.vis,e2,λu H1 s1 ru=>?_⟩
    have R1:=R.mono s1
    obtain⟨v,e5,a,vs,rfl,hO,hp,r1⟩:=R1.rel j _ e1
    refine⟨_,e5,cL,vis ρ,y,dj,R1.vis,e3,λw H2 s2 rw'=>?_⟩
    unfold Hg at e4
    split at e4
    ·cases rw'
     refine⟨a,vs,_,k,rfl,rfl,s2 _ _ hp,by rw[<-r1.length];exact e4,?_⟩
     exact q σ _ ⟨O,(R1.mono s2).turn e1 e5 (s2 _ _ hp) hO (aU.set k (r1.mono s2) (Rep.dJ (O':=AV fr O H₀) d hf (ru.mono s2)))⟩
    ·cases e4
  ·cases e
 ·cases e
noncomputable def Bo (ks:List Str)(l:List D)(f:Str):Option D:=(ks.zip l).lookup f
theorem GD {O:Addr->Prop}{K:Fg}{H:Hp}:∀{ks:List Str}{l:List D}{vs:List V}{f:Str}{d:D},aU O K H l vs->Bo ks l f=some d->∃v,(ks.zip vs).lookup f=some v/\Rep O K H d v
 |[],_,_,_,_,_,e=>by simp[Bo]at e
 |_::_,[],_,_,_,_,e=>by simp[Bo]at e
 |k0::ks,d0::l,_,f,d,h,e=>by
  obtain⟨v,vs,rfl,h1,h2⟩:=h
  rw[List.zip_cons_cons,List.lookup_cons]
  unfold Bo at e
  rw[List.zip_cons_cons,List.lookup_cons]at e
  cases hk:f==k0 with
  |true=>
   rw[hk]at e
   cases e
   exact⟨v,rfl,h1⟩
  |false=>
   rw[hk]at e
   exact GD h2 e
noncomputable def P0 (C:Addr)(f:Str):D->Option D
 | .ins C' ks l=>if C'=C then Bo ks l f else none
 |_=>none
theorem wg {C:Addr}{f:Str}(c:BK X.K C)(n:j8 X.K C f)(he:ED X o Fo)(hb:attributeBase o f X.env (eval o X.env)=eval o X.env:=by rfl):ED X (.Attribute o f pos) (λρ=>(Fo ρ).bind (P0 C f)):=have he:=he.1; .mk<|PE.imp (Xh he hb) λσ H Q ⟨O,ρ,d,w,R,e,q⟩=>by
 obtain⟨x,e1,e2⟩:=bind_some e
 refine⟨O,ρ,x,w,R,e1,λv H1 s1 r1=>?_⟩
 unfold P0 at e2
 split at e2
 ·rename_i C' ks l
  by_cases hC:C'=C
  case neg=>rw[if_neg hC]at e2;cases e2
  subst hC
  rw[if_pos rfl]at e2
  obtain⟨a,dx,vs,rfl,h1,hl,h2⟩:=r1
  obtain⟨u,e3,r3⟩:=GD h2 e2
  exact⟨a,_,dx,_,u,rfl,h1,c,n,e3,q u H1 s1 r3⟩
 ·cases e2
end
section
variable {O O':Addr->Prop}{K:Fg}{H H':Hp}{a:Addr}
noncomputable def sE (H H':Hp):Prop:=∀b xs,Rd H b (.tup xs)->Rd H' b (.tup xs)
mutual
theorem Rep.qm (k:sE H H'):∀(d:D) {v:V},flat d=true->Rep O K H d v->Rep O' K H' d v
 | .non,_,_,h=>h
 | .bl _,_,_,h=>h
 | .int _,_,_,h=>h
 | .str _,_,_,h=>h
 | .tup l,_,f,h=>by
   obtain⟨a,vs,e,h1,h2⟩:=h
   exact⟨a,vs,e,h1.imp (k _ _) id,aU.qm k l (by simpa only[flat]using f) h2⟩
 | .lst l,_,f,h=>by simp[flat]at f
 | .dct ks l,_,f,h=>by simp[flat]at f
 | .ins C ks l,_,f,h=>by simp[flat]at f
 | .tu l,_,f,h=>by simp[flat]at f
theorem aU.qm (k:sE H H'):∀(l:List D) {vs:List V},flat.flats l=true->aU O K H l vs->aU O' K H' l vs
 |[],_,_,h=>h
 |d::l,_,f,h=>by
  obtain⟨v,r,e,h1,h2⟩:=h
  simp only[flat.flats,Bool.and_eq_true]at f
  exact⟨v,r,e,Rep.qm k d f.1 h1,aU.qm k l f.2 h2⟩
end
theorem sE.upd {C dx:Addr}{fs:List (Str×V)}{o:HO}(h:H a=some (.ins C dx fs)):sE H (upd H a o):=λb xs z=>by
 have hb:b≠a:=λq=>by
  subst q
  rcases z with z|⟨_,z⟩<;>· rw[h]at z;cases z
 rcases z with z|⟨ob,z⟩
 ·exact .inl (by rw[bM hb];exact z)
 ·exact .inr ⟨ob,by rw[bM hb];exact z⟩
end
theorem HX:∀{ks:List Str}{vs:List V}{f:Str}{v:V},ks.length=vs.length->(ks.any λk=>decide (k=f))=false->qz f v (ks.zip vs)=(ks++[f]).zip (vs++[v])
 |[],[],_,_,_,_=>rfl
 |[],_::_,_,_,h,_=>by simp at h
 |_::_,[],_,_,h,_=>by simp at h
 |k::ks,u::vs,f,v,h,n=>by
  simp only[List.any_cons,Bool.or_eq_false_iff,decide_eq_false_iff_not]at n
  simp only[List.zip_cons_cons,List.cons_append,qz]
  rw[if_neg n.1,HX (by simpa using h) n.2]
noncomputable def yS (ρ:aH):Bool:=ρ.all λo=>match o with
 |some d=>flat d
 |none=>true
theorem J9 {ρ:aH}{i:Nat}{d:D}(h:yS ρ=true)(e:ρ[i]?=some (some d)):flat d=true:=by
 unfold yS at h
 exact List.all_eq_true.mp h (some d) (List.mem_of_getElem? e)
noncomputable def runInit:List (Str×(aH->Option D))->aH->List Str->List D->Option (List Str×List D)
 |[],_,ks,l=>some (ks,l)
 |(f,F)::r,ρ,ks,l=>(F ρ).bind λd=>if flat d=true/\(ks.any λk=>decide (k=f))=false/\ks.length<1000 then runInit r ρ (ks++[f]) (l++[d])else none
noncomputable def Ly (K:Fg)(C:Addr)(steps:List (Str×(aH->Option D))):TS:=λE σ H=>∃(ρ:aH) (a dx:Addr) (ks:List Str) (l:List D) (vs:List V) (r:List Str×List D),
 σ[0]?=some (some (.ref a))/\H a=some (.ins C dx (ks.zip vs))/\ks.length=vs.length/\lZ cL K H σ ρ/\yS ρ=true/\aU cL K H l vs/\flat.flats l=true/\runInit steps ρ ks l=some r/\
 ∀H' vs',H' a=some (.ins C dx (r.1.zip vs'))->r.1.length=vs'.length->aU cL K H' r.2 vs'->flat.flats r.2=true->(∀b u,b≠a->H b=some u->H' b=some u)->E.nx σ H'
theorem Cr {d:D}:∀{l:List D},flat.flats l=true->flat d=true->flat.flats (l++[d])=true
 |[],_,h=>by simp[flat.flats,h]
 |x::l,h,hd=>by
  simp only[flat.flats,List.cons_append,Bool.and_eq_true]at h ⊢
  exact⟨h.1,Cr h.2 hd⟩
section
variable {X:Cx}{C:Addr}{e o:Expr}{pos pos':Pos}{F:aH->Option D}{rest:List Stmt}{steps:List (Str×(aH->Option D))}{f:Str}
theorem Qa:wR X [] (Ly X.K C []):=wR.imp Ld λE σ H ⟨ρ,a,dx,ks,l,vs,r,h0,h1,h2,h3,h4,h5,h6,h7,q⟩=>by
 cases h7
 exact q H vs h1 h2 h5 h6 λb u _ z=>z
theorem sX (c:BK X.K C)(n:j8 X.K C f)(ho:PE X o (Ba 0))(he:ED X e F)(hr:wR X rest (Ly X.K C steps))(hs:swapsWith e (some (.Attribute o f pos')) pos.line X.env=pure false:=by rfl):
 wR X (.Assign [.Attribute o f pos'] e pos::rest) (Ly X.K C ((f,F)::steps)):=have he:=he.1;wR.imp (HW (Xr ho he hs) hr) λE σ H ⟨ρ,a,dx,ks,l,vs,r,h0,h1,h2,h3,h4,h5,h6,h7,q⟩=>by
 simp only[runInit]at h7
 obtain⟨d,e1,h7⟩:=bind_some h7
 split at h7
 ·rename_i hz
  obtain⟨z1,z2,z3⟩:=hz
  refine⟨cL,ρ,d,dj,h3,e1,λy H1 s1 r1=>⟨_,h0,a,C,dx,_,rfl,s1 _ _ h1,c,n,by rw[List.length_zip];omega,?_⟩⟩
  have tk:sE H1 (upd H1 a (.ins C dx (qz f y (ks.zip vs)))):=sE.upd (s1 _ _ h1)
  refine⟨ρ,a,dx,ks++[f],l++[d],vs++[y],r,h0,?_,by simp[h2],λi d' e'=>?_,h4,?_,Cr h6 z1,h7,λH' vs' k1 k2 k3 k4 k5=>q H' vs' k1 k2 k3 k4 λb u hb z=>k5 b u hb (by rw[bM hb];exact s1 _ _ z)⟩
  ·rw[cM,HX h2 z2]
  ·obtain⟨v,a1,a2⟩:=h3 i d' e'
   exact⟨v,a1,Rep.qm tk d' (J9 h4 e') (a2.mono s1)⟩
  ·exact(aU.qm tk l h6 (h5.mono s1)).append (aU.one (Rep.qm tk d z1 r1))
 ·cases h7
end
noncomputable def Ey (K:Fg)(C:Addr)(F:List D->Option (List Str×List D)):Sp:=λvs H Q _=>∃a dx v' ds r,vs= .ref a::v'/\H a=some (.ins C dx [])/\aU cL K H ds v'/\flat.flats ds=true/\F ds=some r/\
 ∀H' vs',H' a=some (.ins C dx (r.1.zip vs'))->r.1.length=vs'.length->aU cL K H' r.2 vs'->flat.flats r.2=true->(∀b u,b≠a->H b=some u->H' b=some u)->Q .non H'
noncomputable def J6 (n:Nat)(ds:List D):aH:=none::(ds.map some++List.replicate (n - 1 - ds.length) none)
theorem T4 {P:Program}{w:World}{K:Fg}{mg:Str->Option Value}{base:Heap}{x qual:Str}{st:Stmt}{f C:Addr}{fd:FuncData}{N ps:List Str}{k:Nat}{steps:List (Str×(aH->Option D))}(Fu:pZ K x qual st f fd)(S:bQ N ps (aJ st))
 (hb:∀(cdv:Value) (A:Around) (outer:List Env) (s:Shared) (H:Hp) (E:XK),j9 k (A.deeper (envOfC qual (aJ st) s.heap.objs.size f cdv))->wR (DK mD P w K mg base N qual (aJ st) f cdv A outer s H E).X4 (bL st) (Ly K C steps)):
 eZ P w K mg base mD (k+1) f fd ps (Ey K C λds=>if ds.length+1=ps.length then runInit steps (J6 N.length ds) [] [] else none):=by
 refine Fu.ok S (λvs H Q E h=>?_) λcdv A outer s H vs Q E hr h=>⟨_,hb cdv A outer s H E hr,?_⟩
 ·obtain⟨a,dx,v',ds,r,rfl,h1,h2,h3,h4,q⟩:=h
  dsimp only at h4
  split at h4
  ·rename_i hl
   rw[List.length_cons,<-h2.length];exact hl
  ·cases h4
 ·obtain⟨a,dx,v',ds,r,rfl,h1,h2,h3,h4,q⟩:=h
  dsimp only at h4
  split at h4
  ·refine⟨J6 N.length ds,a,dx,[],[],[],r,rfl,h1,rfl,λi d e=>?_,?_,rfl,rfl,h4,λH' vs' k1 k2 k3 k4 k5=>q H' vs' k1 k2 k3 k4 k5⟩
   ·cases i with
    |zero=>simp[J6]at e
    |succ i=>
     unfold J6 at e
     rw[List.getElem?_cons_succ]at e
     by_cases hi:i<ds.length
     ·rw[List.getElem?_append_left (by simpa using hi),List.getElem?_map]at e
      cases e1:ds[i]? with
      |none=>rw[e1]at e;cases e
      |some d'=>
       rw[e1]at e
       cases e
       obtain⟨v,e2,r2⟩:=h2.get e1
       refine⟨v,?_,r2⟩
       have hlt:=(List.getElem?_eq_some_iff.mp e2).1
       unfold L2.start
       rw[List.getElem?_append_left (by simpa using hlt),List.getElem?_map,List.getElem?_cons_succ,e2]
       rfl
     ·rw[List.getElem?_append_right (by simpa using hi),List.getElem?_replicate]at e
      split at e<;>cases e
   ·unfold yS J6
    rw[List.all_cons,List.all_append,Bool.true_and,Bool.and_eq_true,List.all_eq_true,List.all_eq_true]
    refine⟨λo ho=>?_,λo ho=>?_⟩
    ·obtain⟨d,hd,rfl⟩:=List.mem_map.mp ho
     exact wA h3 hd
    ·rw[List.eq_of_mem_replicate ho]
  ·cases h4
section
variable {X:Cx}{k:Nat}{f C:Addr}{fd:FuncData}{ps:List Str}{ds:List Value}{x:Str}{p pos:Pos}{e:Expr}{es:List Expr}{Fs:aH->Option (List D)}{F:List D->Option (List Str×List D)}
end
section
variable {O:Addr->Prop}{K:Fg}{H₀ H H':Hp}{σ:L2.St}{ρ:bw}{γ:List Gh}{cs:List (Nat×List D)}
end
section
variable {X:Cx}{e:Expr}{es:List Expr}{as:List Arg}{F:aH->Option D}
end
section
variable {X:Cx}{H₀:Hp}{k:Nat}{f:Addr}{fd:FuncData}{ps:List Str}{x:Str}{p pos cpos:Pos}{e tg:Expr}{es:List Expr}{as:List Arg}{io:List Nat}{F:List D->Option (D×List (List D))}{T:D->Bool->bw->Option bw}
end
section
variable {X:Cx}{k:Nat}{f C:Addr}{fd:FuncData}{ps:List Str}{m:Str}{pos apos:Pos}{o:Expr}{Fo:aH->Option D}{Ff:List D->Option (D×RK)}
theorem lookup_none:∀{ks:List Str}{vs:List V}{f:Str},(ks.any λk=>decide (k=f))=false->(ks.zip vs).lookup f=none
 |[],_,_,_=>by simp
 |_::_,[],_,_=>by simp
 |k::ks,v::vs,f,h=>by
  simp only[List.any_cons,Bool.or_eq_false_iff,decide_eq_false_iff_not]at h
  rw[List.zip_cons_cons,List.lookup_cons]
  have:(f==k)=false:=by
   rw[beq_eq_false_iff_ne]
   exact λz=>h.1 z.symm
  rw[this]
  exact lookup_none h.2
noncomputable def K9 (C:Addr)(m:Str)(Ff:List D->Option (D×RK))(x:D):Option D:=match x with
 | .ins C' ks _=>if C'=C/\(ks.any λk=>decide (k=m))=false then(Ff [x]).bind rF else none
 |_=>none
theorem zG {pl:Sem Bool}(he:ED X o Fo)(c:BK X.K C)(hm:Meth X.K C m f)(F:eZ X.prog X.w X.K X.mg X.base mD k f fd ps (pX X.K Ff))(hr:j9 k X.A)(hb:Binds X.K fd ps [])
 (ht:eval (.Call (.Attribute o m apos) [] [] pos) X.env=(do
  let ov<-eval o X.env
  standAt apos.atName
  let(f,first)<-holding [ov] (getMethod ov m pl)
  callWith pos f first (backTo pos (starEach [] X.env)) (backToKw pos (keywordEach [] X.env))):=by rfl):
 ED X (.Call (.Attribute o m apos) [] [] pos) (λρ=>(Fo ρ).bind (K9 C m Ff)):=have he:=he.1; .mk<|PE.imp (QB (E:=E0) (pl:=pl) he c hm F hr hb .nil HQ ht) λσ H Q ⟨O,ρ,d,w,R,e,q⟩=>by
 obtain⟨x,e1,e2⟩:=bind_some e
 refine⟨O,ρ,x,w,R,e1,λv H1 s1 r1=>?_⟩
 unfold K9 at e2
 split at e2
 ·rename_i C' ks l
  split at e2
  case isFalse=>cases e2
  rename_i hc
  obtain⟨rfl,hn⟩:=hc
  obtain⟨⟨d',k'⟩,e3,e4⟩:=bind_some e2
  obtain⟨a,dx,vs,rfl,h1,hl,h2⟩:=id r1
  refine⟨a,dx,_,rfl,h1,lookup_none hn,[.ins C' ks l],d',k',aU.one (Rep.weak (λ_ z=>z.elim) r1),e3,λv' H' s2 r2=>?_⟩
  obtain⟨rfl,r3⟩:=zf (w.mono s1) r2 e4
  exact q v' H' (s1.trans s2) r3
 ·cases e2
end
section
variable {X:Cx}{o i e tg:Expr}{pos:Pos}{Fo Fi F:aH->Option D}
noncomputable def aG (x y:D):Option D:=match x with
 | .dct ks l=>W6 (.dct ks l) y
 |x=>Ve x y
theorem bD (hu:X.A.units+1<cLine)(ho:ED X o Fo)(hi:ED X i Fi)(hs:Dt i:=by exact λ_ _=>rfl):ED X (.Subscript o i pos) (λρ=>(Fo ρ).bind λx=>(Fi ρ).bind λy=>aG x y):=have ho:=ho.1;have hi:=hi.1; .mk<|by
 intro pins s σ H Q I h
 obtain⟨O,ρ,d,w,r,e,q⟩:=h
 obtain⟨x,e1,e⟩:=bind_some e
 obtain⟨y,e2,e⟩:=bind_some e
 unfold aG at e
 split at e
 ·exact(SJ hu ⟨ho⟩ ⟨hi⟩ hs).1 pins s σ H Q I ⟨O,ρ,d,w,r,by dsimp only;rw[e1,e2];exact e,q⟩
 ·exact(YF WD XD ⟨ho⟩ ⟨hi⟩ hs).1 pins s σ H Q I ⟨O,ρ,d,w,r,by dsimp only;rw[e1,e2];exact e,q⟩
noncomputable def Vl:D->Option (List D×List D)
 | .lst l=>itL (.lst l)
 | .tup l=>Z4 (.tup l)
 |_=>none
theorem gU (h:ED X e F):EI X tg e (λρ=>(F ρ).bind Vl):=have h:=h.1; .mk<|by
 intro pins s σ H R I q
 obtain⟨O,ρ,ds,gs,w,r,e',q⟩:=q
 obtain⟨x,e1,e2⟩:=bind_some e'
 unfold Vl at e2
 split at e2
 ·exact(Wf ⟨h⟩).1 pins s σ H R I ⟨O,ρ,ds,gs,w,r,by dsimp only;rw[e1];exact e2,q⟩
 ·exact(Wg ⟨h⟩).1 pins s σ H R I ⟨O,ρ,ds,gs,w,r,by dsimp only;rw[e1];exact e2,q⟩
 ·cases e2
noncomputable def lC (g g':List D->Option D):List D->Option D:=λl=>match g l with
 |some d=>some d
 |none=>g' l
noncomputable def jc (g g':D->D->Option D):D->D->Option D:=λa b=>match g a b with
 |some d=>some d
 |none=>g' a b
theorem uQ.or {K:Fg}{r r':List V->Hp->VK->Prop}{g g':List D->Option D}(h:uQ K r g)(h':uQ K r' g'):uQ K (λxs H Q=>r xs H Q\/r' xs H Q) (lC g g'):=by
 intro O H xs l d Q w hr e q
 dsimp only[lC]at e
 cases e1:g l with
 |some d'=>
  rw[e1]at e
  cases e
  exact .inl (h O H xs l d Q w hr e1 q)
 |none=>
  rw[e1]at e
  exact .inr (h' O H xs l d Q w hr e q)
theorem Du.or {K:Fg}{r r':R2}{g g':D->D->Option D}(h:Du K r g)(h':Du K r' g'):Du K (λx y H Q=>r x y H Q\/r' x y H Q) (jc g g'):=by
 intro O H x y dx dy d Q w rx ry e q
 dsimp only[jc]at e
 cases e1:g dx dy with
 |some d'=>
  rw[e1]at e
  cases e
  exact .inl (h O H x y dx dy d Q w rx ry e1 q)
 |none=>
  rw[e1]at e
  exact .inr (h' O H x y dx dy d Q w rx ry e q)
theorem lu:Ds X [] (JN X.K λ_=>some true):=λpins s σ H Q I ⟨O,ρ,b,w,r,e,q⟩=>by
 cases e
 exact QG pins s σ H Q I (q H (bN.refl H))
theorem O9 {k:Nat}{A:Around}(r:j9 k A):A.units+200<cLine:=by have:=r.un;omega
theorem u66 {k:Nat}{A:Around}(r:j9 k A):A.units+66<cLine:=by have:=r.un;omega
theorem tK {k:Nat}{A:Around}(r:j9 k A):A.units+64<cLine:=by have:=r.un;omega
theorem u1 {k:Nat}{A:Around}(r:j9 k A):A.units+1<cLine:=by have:=r.un;omega
end
section
variable {X:Cx}{H₀:Hp}{e:Expr}{pos:Pos}{F:aH->Option D}
theorem Wc {F:aH->Option D}(h:ED X e F):ED X (.UnaryOp .USub e pos) (λρ=>(F ρ).bind λd=>(VN d).map λi=> .int (-i)):=have h:=h.1; .mk<|PE.imp (Zv Y7 h) λσ H Q ⟨O,ρ,d,w,r,e,q⟩=>by
 obtain⟨x,e1,e2⟩:=bind_some e
 refine⟨O,ρ,x,w,r,e1,λv H1 s1 r1=>?_⟩
 cases x<;>simp only[VN]at e2<;>cases e2
 cases r1
 exact⟨_,rfl,q _ H1 s1 rfl⟩
noncomputable def Vd (names:List (Str×NameKind))(kind:Str->Option NameKind)(N jg:List Str)(cap:List (Option Nat)):Bool:=
 (names.all λy=>(!decide (y.2= .cell))&&(!decide (y.2= .local)||decide (names.lookup y.1=some .local))&&(!decide (y.2= .free)||((decide (kind y.1=some .cell)||decide (kind y.1=some .free))&&decide (names.lookup y.1=some .free))))&&
 decide (cap.length=jg.length)&&((cap.zip jg).all λp=>match p.1 with
  |some i=>decide (N[i]?=some p.2)&&(names.any λy=>decide (y.1=p.2)&&decide (y.2= .free))
  |none=>true)
theorem dY {scope:Scope}{jg:List Str}{cap:List (Option Nat)}(kind:scope.kind= .function)(h:Vd scope.names (λx=>X.env.kindOf x) X.N jg cap=true):uq X scope jg cap:=by
 unfold Vd at h
 simp only[Bool.and_eq_true,decide_eq_true_eq]at h
 obtain⟨⟨h1,h2⟩,h3⟩:=h
 have at_:=λy (hy:y∈scope.names)=>List.all_eq_true.mp h1 y hy
 simp only[Bool.and_eq_true,Bool.or_eq_true,Bool.not_eq_true',decide_eq_true_eq,decide_eq_false_iff_not]at at_
 refine⟨kind,λy hy=>(at_ y hy).1.1,λy hy hl=>?_,λy hy hf=>?_,λx hx=>?_,h2,λj i x e1 e2=>?_⟩
 ·rcases(at_ y hy).1.2 with z|z
  ·exact absurd hl z
  ·exact z
 ·rcases(at_ y hy).2 with z|z
  ·exact absurd hf z
  ·exact z.1
 ·rcases(at_ _ hx).2 with z|z
  ·exact absurd rfl z
  ·exact z.2
 ·have e3:(cap.zip jg)[j]?=some (some i,x):=by rw[List.getElem?_zip_eq_some];exact⟨e1,e2⟩
  have:=List.all_eq_true.mp h3 _ (List.mem_of_getElem? e3)
  simp only[Bool.and_eq_true,decide_eq_true_eq,List.any_eq_true]at this
  obtain⟨z1,y,hy,z2,z3⟩:=this
  refine⟨z1,?_⟩
  have:y=(x,NameKind.free):=by rw[<-z2,<-z3]
  rw[<-this]
  exact hy
end
section
variable {X:Cx}{H₀:Hp}{a b:Expr}{pos:Pos}{Fs:aH->Option (List D)}
end
section
variable {X:Cx}{H₀:Hp}{st:Stmt}{G G1 G2:bw->Option DR}
theorem gC.loose {O:Addr->Prop}{K:Fg}{H:Hp}{σ:L2.St}{ρ:bw}{γ:List Gh}{i:Nat}{l:List D}{fr:Bool}{tg:Option Nat}(h:gC O K H₀ H σ ρ γ)(e0:ρ[i]?=some (some (.own l fr tg))):
 gC O K H₀ H σ (ρ.set i (some (.own l false tg))) γ:=by
 have back:∀{j:Nat}{m:L},(ρ.set i (some (.own l false tg)))[j]?=some (some m)->m.isOwn=true->∃m',ρ[j]?=some (some m')/\m'.isOwn=true:=λ{j m} e o=>by
  rcases di e with⟨rfl,e,_⟩|⟨_,e⟩
  ·exact⟨_,e0,rfl⟩
  ·exact⟨m,e,o⟩
 refine⟨h.same,h.wi,h.new,λj m e=>?_,λj k m n p e1 o1 e2 e3 o2 e4=>?_,by rw[List.length_set];exact h.len,h.gh,λj m fr' t e=>?_⟩
 ·rcases di e with⟨rfl,e,_⟩|⟨_,e⟩
  ·cases e
   obtain⟨v,a,p,vs,e1,o,h1,h2⟩:=h.rel _ _ e0
   exact⟨v,a,p,vs,e1,o,h1,h2.weak λa z=>z.elim .inl λz=>by cases z.1⟩
  ·exact h.rel j m e
 ·obtain⟨m',e5,o3⟩:=back e1 o1
  obtain⟨n',e6,o4⟩:=back e3 o2
  exact h.apart j k m' n' p e5 o3 e2 e6 o4 e4
 ·rcases di e with⟨rfl,e,_⟩|⟨_,e⟩
  ·cases e
   exact h.tag _ _ _ t e0
  ·exact h.tag j m fr' t e
noncomputable def Pg (i:Nat)(G:bw->Option DR):bw->Option DR:=λρ=>match ρ[i]? with
 |some (some (.own l _ tg))=>G (ρ.set i (some (.own l false tg)))
 |_=>none
theorem JF (i:Nat)(h:SD X st H₀ G):SD X st H₀ (Pg i G):=have h:=h.1; .mk<|PS.imp h λE σ H ⟨ρ,γ,r,⟨O,R⟩,e,q⟩=>by
 unfold Pg at e
 split at e
 ·rename_i l fr tg e1
  exact⟨_,γ,r,⟨O,R.loose e1⟩,e,q⟩
 ·cases e
noncomputable def Ny (G1 G2:bw->Option DR):bw->Option DR:=λρ=>match G1 ρ with
 |some r=>some r
 |none=>G2 ρ
theorem R4 (h1:SD X st H₀ G1)(h2:SD X st H₀ G2):SD X st H₀ (Ny G1 G2):=have h1:=h1.1;have h2:=h2.1; .mk<|by
 intro pins s σ H E I h
 obtain⟨ρ,γ,r,R,e,q⟩:=h
 unfold Ny at e
 split at e
 ·rename_i r' e1
  cases e
  exact h1 pins s σ H E I ⟨ρ,γ,r,R,e1,q⟩
 ·exact h2 pins s σ H E I ⟨ρ,γ,r,R,e,q⟩
end
noncomputable abbrev FD:=aH->Option D
noncomputable abbrev FL:=aH->Option (List D)
noncomputable abbrev FT:=aH->Option Bool
noncomputable abbrev GS:=bw->Option DR
noncomputable abbrev FI:=aH->Option (List D×List D)
noncomputable abbrev FF:=List D->Option (D×RK)
noncomputable abbrev aj (i:Nat):FD:=λρ=>at? ρ i
noncomputable abbrev fC (d:D):FD:=λ_=>some d
noncomputable abbrev f2 (g:D->D->Option D)(a b:FD):FD:=λρ=>(a ρ).bind λx=>(b ρ).bind λy=>g x y
noncomputable abbrev t2 (g:D->D->Option D)(a b:FD):FT:=λρ=>(a ρ).bind λx=>(b ρ).bind λy=>(g x y).bind Dv
noncomputable abbrev wQ (a b:FT):FT:=λρ=>(a ρ).bind λx=>if x=true then b ρ else some false
noncomputable abbrev yt (a b:FT):FT:=λρ=>(a ρ).bind λx=>if x=true then some true else b ρ
noncomputable abbrev mO (a:FT):FT:=λρ=>(a ρ).map λx=>!x
noncomputable abbrev tV (a:FD):FT:=λρ=>(a ρ).bind Dv
noncomputable abbrev tT:FT:=λ_=>some true
noncomputable abbrev Ea (a b:FD):FD:=λρ=>(a ρ).bind λx=>(Dv x).bind λy=>if y=true then b ρ else some (.bl false)
noncomputable abbrev fOr (a b:FD):FD:=λρ=>(a ρ).bind λx=>(Dv x).bind λy=>if y=true then some (.bl true)else b ρ
noncomputable abbrev Ka (t:FT)(a b:FD):FD:=λρ=>(t ρ).bind λx=>if x=true then a ρ else b ρ
noncomputable abbrev aq:FL:=λ_=>some []
noncomputable abbrev aa (a:FD)(s:FL):FL:=λρ=>(a ρ).bind λx=>(s ρ).map λl=>x::l
noncomputable abbrev cF (s:FL):FD:=λρ=>(s ρ).bind CW
noncomputable abbrev gB (s:FL):FD:=λρ=>(s ρ).bind oK
noncomputable abbrev fB (g:List D->Option D)(s:FL):FD:=λρ=>(s ρ).bind g
noncomputable abbrev vU (T:String)(g:D->List D->Option D)(o:FD)(s:FL):FD:=λρ=>(o ρ).bind λx=>if VD T x=true then(s ρ).bind λl=>g x l else none
noncomputable abbrev Wj (T:String)(g:D->List D->Option D)(o:FD):FD:=λρ=>(o ρ).bind λx=>if VD T x=true then g x [] else none
noncomputable abbrev Wl (T:String)(a:FD):FD:=λρ=>(a ρ).bind λd=>(By d).map λn=> .bl (O4 n T)
noncomputable abbrev gW:aH->Option (Option Int):=λ_=>some none
noncomputable abbrev fL (a:FD):aH->Option (Option Int):=λρ=>(a ρ).bind λd=>(VN d).map some
noncomputable abbrev u6 (a:FD)(lo hi:aH->Option (Option Int)):FD:=λρ=>(a ρ).bind λd=>(lo ρ).bind λx=>(hi ρ).bind λy=>Gj d x y
noncomputable abbrev aC (Ff:FF)(yE:List D)(s:FL):FD:=λρ=>(s ρ).bind λl=>(Ff (l++yE)).bind rF
noncomputable abbrev zT (Ff:FF)(yE:List D)(s:FL):FL:=λρ=>(s ρ).bind λl=>(Ff (l++yE)).bind Hi
noncomputable abbrev fZ (n:FL):FD:=λρ=>(n ρ).map .lst
noncomputable abbrev tM (C:Addr)(f:Str)(a:FD):FD:=λρ=>(a ρ).bind (P0 C f)
noncomputable abbrev Cm (C:Addr)(m:Str)(Ff:FF)(a:FD):FD:=λρ=>(a ρ).bind (K9 C m Ff)
noncomputable abbrev YK (T:List (Str×D))(a:FD):FD:=λρ=>(a ρ).bind (V1 T)
noncomputable abbrev Vi (C:Addr)(F:List D->Option (List Str×List D))(s:FL):FD:=λρ=>(s ρ).bind λl=>if flat.flats l=true then(F l).map λr=> .ins C r.1 r.2 else none
noncomputable abbrev oE (s:FL):FL:=λρ=>(s ρ).bind λl=>if l.length<=sizeLine then some l else none
noncomputable abbrev nB (g:List D->Option (List D))(s:FL):FL:=λρ=>(s ρ).bind g
noncomputable abbrev yJ (o:FD)(s:FL):FL:=λρ=>(o ρ).bind λx=>(s ρ).bind λl=>match x,l with
 | .str z,[.str y]=>oX z y
 |_,_=>none
noncomputable abbrev a0s:aH->Option (List Key×List D):=λ_=>some ([],[])
noncomputable abbrev gw (a:FD):FI:=λρ=>(a ρ).bind itR
noncomputable abbrev fj (a:FD):FI:=λρ=>(a ρ).bind Vl
noncomputable abbrev CG (s:FL):FI:=λρ=>(s ρ).bind λl=>match l with
 |[d1,d2]=>(vI d1).bind λl=>(vI d2).map λm=>(yQ l m,[d1,d2])
 |_=>none
noncomputable abbrev jb (a:FD):FI:=λρ=>(a ρ).bind λd=>(vI d).map λl=>(eE 0 l,[d])
theorem unS {X:Cx}{sts:List Stmt}{H₀:Hp}{G:GS}(h:Ry X sts H₀ G):wR X sts (tS X.K H₀ G):=h.1
theorem mK {X:Cx}{c:Expr}{T:FT}(h:Od X c T):Ds X [c] (JN X.K T):=QH h.1
section
variable {P:Program}{w:World}{K:Fg}{mg:Str->Option Value}{base:Heap}
theorem gD {x qual:Str}{st:Stmt}{f:Addr}{fd:FuncData}{N ps:List Str}{k:Nat}{Gb:bw->Option DR}(F:pZ K x qual st f fd)(S:bQ N ps (aJ st))
 (hb:∀(cdv:Value) (A:Around) (outer:List Env) (s:Shared) (H:Hp) (E:XK),j9 k (A.deeper (envOfC qual (aJ st) s.heap.objs.size f cdv))->Ry (DK mD P w K mg base N qual (aJ st) f cdv A outer s H E).X4 (bL st) H Gb):
 eZ P w K mg base mD (k+1) f fd ps (pX K λds=>if ds.length=ps.length then fW (Gb (aW N.length ds))else none):=a0g F S λa b c d e f g=>(hb a b c d e f g).1
structure jx (P:Program)(w:World)(K:Fg)(mg:Str->Option Value)(base:Heap)(x:Str)(k:Nat)(F:FF)(ds:List Value):Prop where
 ex:∃ps f fd,eZ P w K mg base mD k f fd ps (pX K F)/\mg x=some (.ref f)/\PySem.W.keepIn K (.ref f)=true/\Binds K fd ps ds
theorem xC {X:Cx}{x:Str}{k j:Nat}{Ff:FF}{e:Expr}{es:List Expr}{Fs:FL}{p pos:Pos}(c:jx X.prog X.w X.K X.mg X.base x k Ff [])(hr:j9 j X.A)(ha:Dr X (e::es) Fs)(hk:k<=j:=by decide)(hg:Gl X x:=by rfl)
 (hdb:(x==("__debug__":Str))=false:=by decide)(he:starEach (e::es) X.env=(false,eval e X.env)::starEach es X.env:=by rfl)(hpl:(backTo pos (starEach es X.env)).any (·.1)=false:=by rfl):ED X (.Call (.Name x p) (e::es) [] pos) (aC Ff [] Fs):=
 let⟨_,_,_,F,m,k,b⟩:=c.ex
 Sy (yE:=[]) F (hr.mono hk) hg m k b .nil (λ_=>rfl) ha hdb he hpl
theorem xN {X:Cx}{x:Str}{k j:Nat}{Ff:FF}{e:Expr}{es:List Expr}{Fs:FL}{p pos:Pos}(c:jx X.prog X.w X.K X.mg X.base x k Ff [])(hr:j9 j X.A)(ha:Dr X (e::es) Fs)(hk:k<=j:=by decide)(hg:Gl X x:=by rfl)
 (hdb:(x==("__debug__":Str))=false:=by decide)(he:starEach (e::es) X.env=(false,eval e X.env)::starEach es X.env:=by rfl)(hpl:(backTo pos (starEach es X.env)).any (·.1)=false:=by rfl):EN X (.Call (.Name x p) (e::es) [] pos) (zT Ff [] Fs):=
 let⟨_,_,_,F,m,k,b⟩:=c.ex
 SQ (yE:=[]) F (hr.mono hk) hg m k b .nil (λ_=>rfl) ha hdb he hpl
theorem XH {H:Hp}{a:Addr}{ns:List Int}(hO:Only H)(h:oF K H a (ns.map V.int)):aU cL K H [.tu ns] [.ref a]:=by
 refine⟨_,_,rfl,⟨a,rfl,?_⟩,rfl⟩
 rcases h with h|h
 ·rcases h with h|h
  ·rcases hO a with z|⟨o,xs,z⟩
   ·rw[h]at z;cases z
   ·rw[h]at z;cases z
  ·exact .inl h
 ·exact .inr h
end
noncomputable def GR (l:List D)(n:Nat)(d:D):List D:=l.take n++d::l.drop n
noncomputable def Gz (i:Nat)(Fi Fv:FD):GS:=λρ=>match ρ[i]? with
 |some (some (.own l fr tg))=>(Fi (vis ρ)).bind λy=>(Fv (vis ρ)).bind λd=>match y with
  | .int k=>if 0<=k/\k<=l.length/\l.length<sizeLine/\flat d=true then some (.nx (ρ.set i (some (.own (GR l k.toNat d) fr tg))))else none
  |_=>none
 |_=>none
noncomputable def MK (i:Nat)(F:FD):GS:=λρ=>match ρ[i]? with
 |some (some (.own l fr tg))=>(F (vis ρ)).bind λy=>match y with
  | .lst m=>if l.length+m.length<sizeLine/\flat.flats m=true then some (.nx (ρ.set i (some (.own (l++m) fr tg))))else none
  |_=>none
 |_=>none
noncomputable def Jd (i:Nat):GS:=λρ=>match ρ[i]? with
 |some (some (.own _ fr tg))=>some (.nx (ρ.set i (some (.own [] fr tg))))
 |_=>none
noncomputable def Pb:D->Option D
 | .lst l=>some (.lst l.reverse)
 |_=>none
noncomputable abbrev Pz (a:FD):FD:=λρ=>(a ρ).bind Pb
noncomputable def Gg (C:Addr):D->Option D
 | .ins C' _ _=>if C'=C then some (.bl true)else none
 |_=>none
noncomputable abbrev YJ (C:Addr)(a:FD):FD:=λρ=>(a ρ).bind (Gg C)
noncomputable def GZ:D->D->Option (List D×List D)
 | .int i,.int j=>if -(2 ^ 62)<=i/\i<2 ^ 62/\ -(2 ^ 62)<=j/\j<2 ^ 62 then some (lN i (j - i).toNat,[])else none
 |_,_=>none
noncomputable abbrev sW (a b:FD):FI:=λρ=>(a ρ).bind λx=>(b ρ).bind λy=>GZ x y
noncomputable def Cu (Fl:FL)(T:D->Bool->bw->Option bw)(G:GS):GS:=λρ=>(Fl (vis ρ)).bind λl=>if flat.flats l=true then cT T G true (eE 0 l) ρ else none
noncomputable def wW (F:FD):GS:=λρ=>(F (vis ρ)).map λd=> .rt d .new ρ
noncomputable def ir (i:Nat)(F:FD):GS:=λρ=>(F (vis ρ)).map λd=> .nx (ρ.set i (some (.val d true)))
noncomputable def shows (d:D):Bool:=Ju d&&(mC d).showable&&!(mC d).hasDict&&isDisplay (mC d)&&decide ((mC d).depth<=60)&&decide ((mC d).shown.length<=sizeLine)
noncomputable def uL (d:D):Str:=(mC d).shown
noncomputable def uW (a b:D):Option D:=if(shows a&&shows b)=true then some (.bl (decide (uL a=uL b)))else none
noncomputable def tW (K:Fg)(F:aH->Option D):TE:=λσ H Q=>∃(ρ:aH) (d:D),lZ cL K H σ ρ/\F ρ=some d/\∀v H',bN H H'->(∀O,Within O H->Rep O K H' d v)->Q v H'
structure EW (X:Cx)(e:Expr)(F:aH->Option D):Prop where
 mk::(h:PE X e (tW X.K F))
section
variable {X:Cx}{H₀:Hp}{e:Expr}{F:aH->Option D}{pos:Pos}
theorem nq {i:Nat}{x:Str}{pos':Pos}(hN:X.N.Nodup)(hi:X.N[i]?=some x)(hx:Loc X.env.scope x)(he:EW X e F)(hs:swapsWith e (some (.Name x pos')) pos.line X.env=pure false:=by rfl)
 (hf:X.fn x=true\/X.env.scope.names.lookup x=some .local:=by first|exact .inl rfl|exact .inr rfl|assumption):SD X (.Assign [.Name x pos'] e pos) H₀ (ir i F):=have he:=he.1; .mk<|PS.imp (Ep hN hi hx he hs hf) λE σ H ⟨ρ,γ,r,⟨O,R⟩,e,q⟩=>by
 unfold ir at e
 cases e1:F (vis ρ)with
 |none=>rw[e1]at e;cases e
 |some d=>
  rw[e1]at e
  cases e
  exact⟨vis ρ,d,R.vis,e1,λv H' s1 r1=>q _ _ ⟨O,(R.mono s1).JH (r1 _ (AV.within R.wi R.same))⟩⟩
theorem Ew (he:EW X e F):SD X (.Return (some e) pos) H₀ (wW F):=have he:=he.1; .mk<|PS.imp (Eo he) λE σ H ⟨ρ,γ,r,⟨O,R⟩,e,q⟩=>by
 unfold wW at e
 cases e1:F (vis ρ)with
 |none=>rw[e1]at e;cases e
 |some d=>
  rw[e1]at e
  cases e
  exact⟨vis ρ,d,R.vis,e1,λv H' s1 r1=>q v σ H' ⟨O,R.mono s1⟩ (r1 (λa=>H₀ a≠none) λa z w=>z (R.same.free w))⟩
end
section
variable {X:Cx}{CX:JW}{k j:Nat}{f C:Addr}{fd:FuncData}{ps:List Str}{ur:List V}{yE:List D}{ds:List Value}{x:Str}{p pos:Pos}{e:Expr}{es:List Expr}{Fs:aH->Option (List D)}{Ff:List D->Option (D×RK)}
theorem Ow {σ:L2.St}{H:Hp}{Q:VK}{E:XK}(hdd:∀H,aU cL X.K H yE ur)(h:tW X.K (λρ=>(Fs ρ).bind λl=>(Ff (l++yE)).bind rF) σ H Q):tDs X.K Fs σ H λvs H1=>pX X.K Ff (vs++ur) H1 Q E:=by
 obtain⟨ρ,d,r,e,q⟩:=h
 obtain⟨l,e1,e2⟩:=bind_some e
 obtain⟨⟨d',k'⟩,e3,e4⟩:=bind_some e2
 refine⟨cL,ρ,l,dj,r,e1,λvs H1 s1 r1=>⟨l++yE,d',k',r1.append (hdd H1),e3,λv H' s2 r2=>?_⟩⟩
 obtain⟨rfl,_⟩:=zf (dj (H:=H1)) r2 e4
 exact q v H' (s1.trans s2) λO w=>(zf (w.mono s1) r2 e4).2
theorem xW {Ff:FF}{Fs:FL}(c:jx X.prog X.w X.K X.mg X.base x k Ff [])(hr:j9 j X.A)(ha:Dr X (e::es) Fs)(hk:k<=j:=by decide)(hg:Gl X x:=by rfl)
 (hdb:(x==("__debug__":Str))=false:=by decide)(he:starEach (e::es) X.env=(false,eval e X.env)::starEach es X.env:=by rfl)(hpl:(backTo pos (starEach es X.env)).any (·.1)=false:=by rfl):EW X (.Call (.Name x p) (e::es) [] pos) (aC Ff [] Fs):=
 let⟨_,_,_,F,m,k,b⟩:=c.ex
 have ha:=ha.1
 .mk<|PE.imp (En (E:=E0) F (hr.mono hk) hg m k b .nil HQ ha hdb he hpl) λσ H Q h=>Ow (yE:=[]) (λ_=>rfl) h
theorem T3 {F:List D->Option (List Str×List D)}(M:Mk X.K C f)(Fo:eZ X.prog X.w X.K X.mg X.base mD k f fd ps (Ey X.K C F))(hr:j9 (k+1) X.A)(hg:Gl X x)(hm:X.mg x=some (.ref C))(hb:Binds X.K fd ps [])(ha:Dr X (e::es) Fs)
 (hdb:(x==("__debug__":Str))=false:=by decide)(he:starEach (e::es) X.env=(false,eval e X.env)::starEach es X.env:=by rfl)(hpl:(backTo pos (starEach es X.env)).any (·.1)=false:=by rfl):
 EW X (.Call (.Name x p) (e::es) [] pos) (λρ=>(Fs ρ).bind λl=>if flat.flats l=true then(F l).map λr=> .ins C r.1 r.2 else none):=have ha:=ha.1; .mk<|PE.imp (Ud (E:=E0) M Fo hr hg hm hb .nil HQ ha hdb he hpl) λσ H Q ⟨ρ,d,R,e,q⟩=>by
 obtain⟨l,e1,e2⟩:=bind_some e
 split at e2
 ·rename_i hf
  cases e3:F l with
  |none=>rw[e3]at e2;cases e2
  |some r=>
   rw[e3]at e2
   cases e2
   refine⟨cL,ρ,l,dj,R,e1,λvs H1 s1 r1 a dx ha hdx hne=>?_⟩
   have sm:bN H1 (upd (upd H1 dx (.own a)) a (.ins C dx [])):=λb u z=>by
    rw[bM (cO z ha),bM (cO z hdx)];exact z
   refine⟨a,dx,vs,l,r,by rw[List.append_nil],cM,aU.dJ l hf (r1.mono sm),hf,e3,λH' vs' k1 k2 k3 k4 k5=>⟨rfl,?_⟩⟩
   exact q _ H' (λb u z=>k5 b u (cO (s1 _ _ z) ha) (sm _ _ (s1 _ _ z))) λO _=>⟨a,dx,vs',rfl,k1,k2,aU.dJ _ k4 k3⟩
 ·cases e2
theorem DQ {u:Value}{d:D}(hg:Gl X x)(hm:X.mg x=some u)(ht:iw X.K d u=true)(hd:(x==("__debug__":Str))=false:=by decide):ED X (.Name x pos) (λ_=>some d):=by
 obtain⟨v,r,k⟩:=uE d ht
 exact .mk<|(KN hg hm r hd).imp λσ H Q ⟨O,ρ,d',w,rr,e1,q⟩=>by
  cases e1
  exact q v H (bN.refl H) (k O H)
structure IsK (K:Fg)(C:Addr):Prop where
 ha:PySem.W.findIn K (.ref C) "__class__"=some (some (.builtin "object.__class__"))
 hn:PySem.W.specialIn K (.builtin "object.__class__") "__get__"=some (some (.builtin "getset_descriptor.__get__"))
 ht:PySem.W.takesIn K (.builtin "object.__class__")=some true
 hm:PySem.W.mroIn K C (.type "object")=some true
theorem SN {F:aH->Option D}{Tn:Str}{p2:Pos}(cl:BK X.K C)(hg:Gl X "isinstance")(hm:X.mg "isinstance"=none)(hgT:Gl X Tn)(hmT:X.mg Tn=some (.ref C))(hk:IsK X.K C)(he:ED X e F)
 (hdb:(Tn==("__debug__":Str))=false:=by decide)(hs:starEach [e,.Name Tn p2] X.env=(false,eval e X.env)::starEach [.Name Tn p2] X.env:=by rfl)(hs2:starEach [.Name Tn p2] X.env=(false,eval (.Name Tn p2) X.env)::starEach [] X.env:=by rfl)
 (hpl:(backTo pos (starEach [.Name Tn p2] X.env)).any (·.1)=false:=by rfl):
 ED X (.Call (.Name "isinstance" p) [e,.Name Tn p2] [] pos) (λρ=>(F ρ).bind (Gg C)):=have he:=he.1; .mk<|by
 have hc:jB X (.builtin "isinstance") (λxs H Q=>∃(a dx:Addr) (fs:List (Str×V)),xs=[.ref a,.ref C]/\H a=some (.ins C dx fs)/\Q (.bl true) H):=by
  intro pins s σ H xs us Q I r h
  obtain⟨a,dx,fs,rfl,ha,q⟩:=h
  obtain⟨u,c,rfl,ru,rc⟩:=vals2 r
  cases rc
  exact lJ I ru (.ins ha cl hk.ha hk.hn hk.ht hk.hm) (show PySem.W.kitOne X.K (.ref C) (.ref C)=some true by unfold PySem.W.kitOne;rw[if_pos (by simp)]) λtk=>⟨.bl _,H,I.tok tk,rfl,q⟩
 refine PE.imp (pM hc hg hm (by decide+kernel) (jo he (jo (KN (v:= .ref C) hgT hmT rfl hdb) oZ hs2) hs) (by decide) (by decide) hs hpl) λσ H Q ⟨O,ρ,d,w,r,e,q⟩=>?_
 obtain⟨d',e1,e2⟩:=bind_some e
 unfold Gg at e2
 split at e2
 ·split at e2
  ·rename_i hC
   subst hC
   cases e2
   exact⟨O,ρ,_,w,r,e1,λv H1 s1 r1=>by
    obtain⟨a,dx,vs,rfl,ha,_⟩:=r1
    exact⟨a,dx,_,rfl,ha,q _ H1 s1 rfl⟩⟩
  ·cases e2
 ·cases e2
theorem Ml {hr:j9 j X.A}:jB X (.builtin "repr") (λxs H Q=>∃(O:Addr->Prop) (d:D) (v:V),xs=[v]/\Rep O X.K H d v/\shows d=true/\Q (.str (uL d)) H):=by
 intro pins s σ H xs us Q I r h
 obtain⟨O,d,v,rfl,rd,hs,q⟩:=h
 obtain⟨u,rfl,ru⟩:=vals1 r
 unfold shows at hs
 simp only[Bool.and_eq_true,decide_eq_true_eq,Bool.not_eq_true']at hs
 obtain⟨⟨⟨⟨⟨h1,h2⟩,h3⟩,h4⟩,h5⟩,h6⟩:=hs
 obtain⟨as,q1⟩:=lA I d h1 rd ru
 obtain⟨a,rfl⟩:=isRef_of_reads q1 h4
 have hu:=hr.un
 exact repr_of_reads' q1 h2 (PyData.noDict_hsm h3) hr.gu (by omega) (λ_ _ e=>e) (λh' u tk hk=>⟨.str _,H,I.kept (t':=tk) hk,⟨u,rfl⟩,q⟩) h6
theorem My {a b:Expr}{Fa Fb:aH->Option D}{p1 p2 pa pb:Pos}(hr:j9 j X.A)(hg:Gl X "repr")(hm:X.mg "repr"=none)(ha:ED X a Fa)(hb:ED X b Fb)
 (hs1:starEach [a] X.env=(false,eval a X.env)::starEach [] X.env:=by rfl)(hs2:starEach [b] X.env=(false,eval b X.env)::starEach [] X.env:=by rfl)
 (hm2:behindInMarks .Eq (.Call (.Name "repr" p2) [b] [] pb)=false:=by exact Js _)(hl1:(backTo pa (starEach [] X.env)).any (·.1)=false:=by rfl)(hl2:(backTo pb (starEach [] X.env)).any (·.1)=false:=by rfl):
 ED X (.Compare (.Call (.Name "repr" p1) [a] [] pa) [.Eq] [.Call (.Name "repr" p2) [b] [] pb] pos) (λρ=>(Fa ρ).bind λx=>(Fb ρ).bind λy=>uW x y):=have ha:=ha.1;have hb:=hb.1; .mk<|by
 have c:=@Ml X j hr
 refine PE.imp (KJ Zo (pM c hg hm (by decide+kernel) (jo ha oZ hs1) (by decide) (by decide) hs1 hl1) (pM c hg hm (by decide+kernel) (jo hb oZ hs2) (by decide) (by decide) hs2 hl2) hm2) λσ H Q ⟨O,ρ,d,w,r,e,q⟩=>?_
 obtain⟨dx,e1,e⟩:=bind_some e
 obtain⟨dy,e2,e⟩:=bind_some e
 unfold uW at e
 split at e
 ·rename_i hs
  rw[Bool.and_eq_true]at hs
  cases e
  refine⟨O,ρ,dx,w,r,e1,λv H1 s1 r1=>⟨O,dx,v,rfl,r1,hs.1,?_⟩⟩
  refine⟨O,ρ,dy,w.mono s1,r.mono s1,e2,λv2 H2 s2 r2=>⟨O,dy,v2,rfl,r2,hs.2,rfl,?_⟩⟩
  have:decide (V.str (uL dx)=V.str (uL dy))=decide (uL dx=uL dy):=decide_eq_decide.mpr ⟨λz=>V.str.inj z,λz=>by rw[z]⟩
  rw[this]
  exact q _ H2 (s1.trans s2) rfl
 ·cases e
end
section
variable {X:Cx}
noncomputable def Us:V->List V->Hp->VK->Prop:=λx vs H Q=>∃l xs k y,x= .ref l/\vs=[.int k,y]/\H l=some (.lst xs)/\0<=k/\k<=xs.length/\xs.length<sizeLine/\Q .non (upd H l (.lst (xs.take k.toNat++y::xs.drop k.toNat)))
theorem Np:M9 X "list.insert" Us:=by
 intro pins s σ H x vs v us Q I rx rv h
 obtain⟨l,xs,k,y,rfl,rfl,hH,h0,hk,hz,q⟩:=h
 cases rx
 obtain⟨u1,u,rfl,r1,ru⟩:=vals2 rv
 obtain⟨t,rfl⟩:=r1
 obtain⟨z,its,n,r,hl,e⟩:=I.Hq hH
 have hn:=rH
 refine call_meets F.slot_list_insert ⟨_,e,rfl⟩ F.entry_list_insert (F.args_list_insert_3 _ _ _) (AutoSeq1.list_insert_list_int_val_1 l its.toArray n k t u (by
  have:Builtin.List.listFitsIndex k=true:=by
   unfold Builtin.List.listFitsIndex
   simp only[Bool.and_eq_true,decide_eq_true_eq]
   omega
  simp[this]) (by rw[List.size_toArray];omega)) ⟨e,?_⟩
 refine⟨.non,_,I.Tu (its':=its.take k.toNat++u::its.drop k.toNat) hH e ?_ ((r.take k.toNat).append (.cons ru (r.drop k.toNat))) ?_,rfl,q⟩
 ·dsimp only
  rw[if_neg (by omega),List.size_toArray,show min k.toNat its.length=k.toNat by omega]
  apply Array.toList_inj.mp
  simp
  exact List.take_of_length_le (by simp)
 ·simp only[List.length_append,List.length_take,List.length_cons,List.length_drop]
  omega
variable {H₀:Hp}{e:Expr}{F Fi:aH->Option D}{pos:Pos}
theorem R0 (i:Nat){x:Str}{p apos cpos:Pos}{ei:Expr}(h:PE X (.Name x p) (Ba i))(hi:ED X ei Fi)(he:ED X e F)(hbase:attributeBase (.Name x p) "insert" X.env (eval (.Name x p) X.env)=eval (.Name x p) X.env:=by rfl)
 (hfew:((backTo cpos (starEach (ei::[e]) X.env)).all (λx=>!x.1)&&(backToKw cpos (keywordEach [] X.env)).all (λx=>x.1.isSome)
  &&decide ((ei::[e]).length+([]:List Keyword).length+(if([]:List Keyword).isEmpty then 0 else 1)<30))=true:=by rfl)
 (hline:(apos.endLine==cpos.line)=true:=by rfl)(hs:starEach (ei::[e]) X.env=(false,eval ei X.env)::starEach [e] X.env:=by rfl)(hs2:starEach (e::[]) X.env=(false,eval e X.env)::starEach [] X.env:=by rfl)(hpl:(backTo cpos (starEach [e] X.env)).any (·.1)=false:=by rfl)(hsw:swapsWith (.Call (.Attribute (.Name x p) "insert" apos) [ei,e] [] cpos) none pos.line X.env=pure false:=by rfl):
 SD X (.Expr (.Call (.Attribute (.Name x p) "insert" apos) [ei,e] [] cpos) pos) H₀ (Gz i Fi F):=have hi:=hi.1;have he:=he.1; .mk<|PS.imp (zc (KH PySem.F.plainAttrs_list PySem.F.slot_list_insert PySem.F.type_list_insert Np h (jo hi (jo he oZ hs2) hs) hbase hfew hline hs hpl) hsw) λE σ H ⟨ρ,γ,r,⟨O,R⟩,e,q⟩=>by
 unfold Gz at e
 split at e
 ·rename_i l fr tg e1
  obtain⟨y,e2,e⟩:=bind_some e
  obtain⟨d,e3,e⟩:=bind_some e
  cases y with
  |int k=>
   dsimp only at e
   split at e
   ·rename_i hc
    obtain⟨c1,c2,c3,c4⟩:=hc
    cases e
    obtain⟨v,e4,p,vs,rfl,hO,hp,r1⟩:=id (R.rel i _ e1)
    refine⟨_,e4,.inl ⟨rfl,vs,oF.of hp⟩,?_⟩
    refine⟨cL,vis ρ,.int k,dj,R.vis,e2,λu H1 s1 ru=>?_⟩
    cases ru
    refine⟨cL,vis ρ,d,dj,(R.mono s1).vis,e3,λu2 H2 s2 ru2=>?_⟩
    have s12:=s1.trans s2
    have hl:=r1.length
    refine⟨p,vs,k,u2,rfl,rfl,s12 _ _ hp,c1,by rw[<-hl];exact c2,by rw[<-hl];exact c3,?_⟩
    refine q σ _ ⟨O,(R.mono s12).turn e1 e4 (s12 _ _ hp) hO ?_⟩
    unfold GR
    exact aU.append (l:=l.take k.toNat) (l':=d::l.drop k.toNat) ((r1.mono s12).take _) (show aU (AV fr O H₀) X.K H2 (d::l.drop k.toNat) (u2::vs.drop k.toNat) from⟨u2,_,rfl,Rep.dJ d c4 ru2,(r1.mono s12).drop _⟩)
   ·cases e
  |_=>cases e
 ·cases e
theorem XM (i:Nat){x:Str}{p apos cpos:Pos}(h:PE X (.Name x p) (Ba i))(he:ED X e F)(hbase:attributeBase (.Name x p) "extend" X.env (eval (.Name x p) X.env)=eval (.Name x p) X.env:=by rfl)
 (hfew:((backTo cpos (starEach (e::[]) X.env)).all (λx=>!x.1)&&(backToKw cpos (keywordEach [] X.env)).all (λx=>x.1.isSome)
  &&decide ((e::[]).length+([]:List Keyword).length+(if([]:List Keyword).isEmpty then 0 else 1)<30))=true:=by rfl)
 (hline:(apos.endLine==cpos.line)=true:=by rfl)(hs:starEach (e::[]) X.env=(false,eval e X.env)::starEach [] X.env:=by rfl)(hsw:swapsWith (.Call (.Attribute (.Name x p) "extend" apos) [e] [] cpos) none pos.line X.env=pure false:=by rfl):
 SD X (.Expr (.Call (.Attribute (.Name x p) "extend" apos) [e] [] cpos) pos) H₀ (MK i F):=have he:=he.1; .mk<|PS.imp (zc (KH PySem.F.plainAttrs_list PySem.F.slot_list_extend PySem.F.type_list_extend Nm h (jo he oZ hs) hbase hfew hline hs rfl) hsw) λE σ H ⟨ρ,γ,r,⟨O,R⟩,e,q⟩=>by
 unfold MK at e
 split at e
 ·rename_i l fr tg e1
  obtain⟨y,e2,e⟩:=bind_some e
  split at e
  ·rename_i m
   split at e
   ·rename_i hc
    cases e
    obtain⟨v,e4,p,vs,rfl,hO,hp,r1⟩:=id (R.rel i _ e1)
    refine⟨_,e4,.inl ⟨rfl,vs,oF.of hp⟩,?_⟩
    refine⟨cL,vis ρ,.lst m,dj,R.vis,e2,λu H1 s1 ru=>?_⟩
    obtain⟨b,zs,rfl,hb,rz⟩:=ru
    refine⟨p,b,vs,zs,rfl,rfl,s1 _ _ hp,hb.1,by rw[<-r1.length,<-rz.length];exact Nat.le_of_lt hc.1,?_⟩
    exact q σ _ ⟨O,(R.mono s1).turn e1 e4 (s1 _ _ hp) hO ((r1.mono s1).append (aU.dJ m hc.2 rz))⟩
   ·cases e
  ·cases e
 ·cases e
theorem XJ (i:Nat){x:Str}{p apos cpos:Pos}(h:PE X (.Name x p) (Ba i))(hbase:attributeBase (.Name x p) "clear" X.env (eval (.Name x p) X.env)=eval (.Name x p) X.env:=by rfl)
 (hline:(apos.endLine==cpos.line)=true:=by rfl)(hsw:swapsWith (.Call (.Attribute (.Name x p) "clear" apos) [] [] cpos) none pos.line X.env=pure false:=by rfl):
 SD X (.Expr (.Call (.Attribute (.Name x p) "clear" apos) [] [] cpos) pos) H₀ (Jd i):= .mk<|PS.imp (zc (Xf PySem.F.plainAttrs_list PySem.F.slot_list_clear PySem.F.type_list_clear Qm h hbase hline) hsw) λE σ H ⟨ρ,γ,r,⟨O,R⟩,e,q⟩=>by
 unfold Jd at e
 split at e
 ·rename_i l fr tg e1
  cases e
  obtain⟨v,e4,p,vs,rfl,hO,hp,r1⟩:=id (R.rel i _ e1)
  exact⟨_,e4,.inl ⟨rfl,vs,oF.of hp⟩,p,vs,rfl,rfl,hp,q σ _ ⟨O,R.turn e1 e4 hp hO rfl⟩⟩
 ·cases e
theorem Wd {p2:Pos}{st:Expr}{Fs:aH->Option (Option Int)}(he:ED X e F)(hst:POD X (some st) Fs)(h1:∀ρ,Fs ρ=some (some (-1))){ops:Value->Value->List Value}(hsub:∀o i,subscripted (.Slice none none (some st) p2) false o i=operate (ops o i) (getItem o i):=by intro _ _;with_unfolding_all rfl):ED X (.Subscript e (.Slice none none (some st) p2) pos) (λρ=>(F ρ).bind Pb):=have he:=he.1;have hst:=hst.1; .mk<|by
 intro pins s σ H Q I h
 obtain⟨O,ρ,d,w,r,e0,q⟩:=h
 obtain⟨y,e1,e2⟩:=bind_some e0
 refine Subscript_ (iK (he pins s σ H (λv H1=>bN H H1/\Rep O X.K H1 y v) I ⟨O,ρ,y,w,r,e1,λv H1 s1 r1=>⟨s1,r1⟩⟩) λv s1 ⟨x,H1,I1,rx,sm,r1⟩=>?_)
 unfold Pb at e2
 split at e2
 ·rename_i l
  cases e2
  obtain⟨a,xs,rfl,hx,rl⟩:=r1
  cases rx
  refine wpAny_Slice ?_
  rw[evalPart_none]
  refine wpAny_pure (wpAny_pure ?_)
  refine iK (hst pins s1 σ H1 (λo H2=>bN H1 H2/\o=some (-1)) I1 ⟨O,ρ,some (-1),w.mono sm,r.mono sm,h1 ρ,λH2 s2=>⟨s2,rfl⟩⟩) λvst s2 ⟨o,H2,I2,po,sm2,ho⟩=>?_
  subst ho
  have I4:Inv X pins σ H2 { s2 with heap:=s2.heap.push { cls:= .type "slice",data:= .fields #[.none,.none,vst] } }:=I2.kept (t':=s2.toks) λb ob q=>Heap.get?_push_of_some _ q
  obtain⟨its,rv,ht,hz⟩:=I4.list (oF.of (sm2 _ _ hx.1))
  have hlen:=rv.length
  show wpAny (model X.prog X.w) X.A (subscriptTail e (.Slice none none (some st) p2) (.ref a) (.ref s2.heap.objs.size)) (EP X pins σ Q) X.xe { s2 with heap:=s2.heap.push { cls:= .type "slice",data:= .fields #[.none,.none,vst] } }
  refine tail_any (ops:=ops (.ref a) (.ref s2.heap.objs.size)) ht.isList.typeIs slot_list_getitem.lookup ?_ (hsub _ _)
  refine wpAny_getItem_list_slice ht.isList (Heap.IsSliceOf.new ..) .none .none po (by simp) ?_ (by rw[List.size_toArray]<;>omega)
  have hp2:H2 (s2.heap.push { cls:= .type "slice",data:= .fields #[.none,.none,vst] }).objs.size=none:=I4.hok.fresh (Nat.le_refl _)
  refine⟨.ref _,_,I4.laid (t':=s2.toks) (o:= .lst xs.reverse) (λb ob q=>Heap.get?_push_of_some _ q) (Nat.le_refl _) ?_,rfl,q _ _ ((sm.trans sm2).trans (bT hp2)) (vA ((w.mono sm).mono sm2) hp2 (rl.mono sm2).reverse)⟩
  refine⟨by rw[List.length_reverse];exact hz,its.reverse,0,rv.reverse,?_⟩
  rw[PySem.W.krv_pick]
  exact Heap.get?_push_size _ rfl
 ·cases e2
theorem Cj {tg a b:Expr}{Fa Fb:aH->Option D}{p:Pos}(hg:Gl X "range")(hm:X.mg "range"=none)(ha:ED X a Fa)(hb:ED X b Fb)(hs:starEach [a,b] X.env=[(false,eval a X.env),(false,eval b X.env)]:=by rfl)(hs2:starEach [b] X.env=[(false,eval b X.env)]:=by rfl):
 EI X tg (.Call (.Name "range" p) [a,b] [] pos) (λρ=>(Fa ρ).bind λx=>(Fb ρ).bind λy=>GZ x y):= .mk<|PI.imp (NB hg hm (ak ha (ak hb au hs2) (hs.trans (by rw[hs2]))).1 hs hs2) λσ H R ⟨O,ρ,ds,gs,w,r,e,q⟩=>by
 obtain⟨d1,e1,e3⟩:=bind_some e
 obtain⟨d2,e2,e4⟩:=bind_some e3
 clear e e3
 have e:=e4
 clear e4
 cases d1<;>simp only[GZ]at e<;>try (cases e;done)
 rename_i i
 cases d2<;>simp only[GZ]at e<;>try (cases e;done)
 ·rename_i j
  split at e
  ·rename_i hc
   cases e
   refine⟨O,ρ,[.int i,.int j],w,r,by simp only[e1,e2];rfl,λvs H1 s1 r1=>?_⟩
   obtain⟨v,us,rfl,r2,v2,us2,rfl,r3,r4⟩:=r1
   cases r2
   cases r3
   cases r4
   exact⟨i,j,rfl,hc,q _ H1 [] s1 rfl (λg hg=>by cases hg) Iu⟩
  ·cases e
theorem Uv {a:Expr}{es:List Expr}{kt:Nat}{tp p pos':Pos}{body:List Stmt}{Fl:aH->Option (List D)}{T:D->Bool->bw->Option bw}{G:bw->Option DR}(hp:PassesOwn (model X.prog X.w) X.A X.env X.xe)(hc:X.calm=true)(hg:Gl X "enumerate")(hm:X.mg "enumerate"=none)(he:EN X a Fl)(ht:EG X H₀ (.Tuple es kt tp) T)(hb:Ry X body H₀ G)
 (hs0:∀x,foldedSetIterable (.Call (.Name "enumerate" p) [a] [] pos') X.env x=pure x:=by intro _;rfl)(hs:starEach [a] X.env=(false,eval a X.env)::starEach [] X.env:=by rfl)(hpl:(backTo pos' (starEach [] X.env)).any (·.1)=false:=by rfl):
 SD X (.For (.Tuple es kt tp) (.Call (.Name "enumerate" p) [a] [] pos') body [] pos) H₀ (Cu Fl T G):=have he:=he.1;have ht:=ht.1;have hb:=hb.1; .mk<|PS.imp (QK hp hc (KZ hg hm (jo he oZ hs) hs hpl) ht hb hs0) λE σ H ⟨ρ,γ,r,⟨O,R⟩,e,q⟩=>by
 obtain⟨l,e1,e2⟩:=bind_some e
 split at e2
 ·rename_i hf
  refine⟨cL,vis ρ,l,dj,R.vis,e1,λb vs H1 s1 hbn hbl rl=>?_⟩
  have rl':∀O',aU O' X.K H1 l vs:=λO'=>aU.dJ l hf rl
  refine⟨.lst b,rfl,⟨vs,oF.of hbl⟩,λt=>zL R q e2 _ H1 [(.lst l,.ref b)] s1 (λg hg=>?_) (Dp (d1:= .lst l) rfl rfl t)⟩
  rw[List.mem_singleton.mp hg]
  refine⟨b,vs,rfl,⟨hbl,λz=>?_⟩,rl' _⟩
  rcases z with z|z
  ·exact R.wi b z hbn
  ·exact z.2 (R.same.free hbn)
 ·cases e2
end
theorem HS {M:Nat}:∀(ts:List Str),(∀t∈ts,t.length<=M)->piled ts<=ts.length*(M+2)
 |[],_=>by simp[piled]
 |t::ts,h=>by
  have h1:=h t List.mem_cons_self
  have h2:=HS ts λx hx=>h x (List.mem_cons_of_mem _ hx)
  simp only[piled,List.map_cons,List.sum_cons,List.length_cons]at h2 ⊢
  rw[Nat.succ_mul]
  omega
theorem Fw {M:Nat}{ts:List Str}(h:∀t∈ts,t.length<=M):(tupleText ts).length<=ts.length*(M+2)+3:=by
 unfold tupleText
 rw[Str.length_append,Str.length_append]
 have h1:(Str.join ", " ts).length<=ts.length*(M+2):=by
  cases ts with
  |nil=>exact Nat.zero_le _
  |cons t ts=>
   have:=join_length_add (t::ts) (by simp)
   have:=HS (t::ts) h
   omega
 have h2:(Str.ofString (if ts.length==1 then ",)" else ")")).length<=2:=by split<;>decide
 have h3:(Str.ofString "(").length=1:=by decide
 omega
theorem uh:∀l:List D,PyData.shownAll (iT l)=l.map λd=>(mC d).shown
 |[]=>rfl
 |d::l=>by simp only[iT,PyData.shownAll,List.map_cons,uh l]
theorem pU:∀{l:List D},(∀d∈l,(mC d).showable=true)->PyData.showableAll (iT l)=true
 |[],_=>rfl
 |d::l,h=>by simp only[iT,PyData.showableAll,h d List.mem_cons_self,pU λx hx=>h x (List.mem_cons_of_mem _ hx),Bool.and_self]
noncomputable def lit (M:Nat)(d:D):Prop:=(mC d).showable=true/\(mC d).shown.length<=M
theorem lit.mono {M N:Nat}{d:D}(h:lit M d)(hn:M<=N):lit N d:=⟨h.1,Nat.le_trans h.2 hn⟩
theorem sY {M N:Nat}{l:List D}(h:∀d∈l,lit M d)(hn:l.length*(M+2)+3<=N):lit N (.tup l):=by
 refine⟨?_,?_⟩
 ·simp only[mC,PyData.showable]
  exact pU λd hd=>(h d hd).1
 ·simp only[mC,PyData.shown,uh]
  refine Nat.le_trans (Fw (M:=M) λt ht=>?_) (by rw[List.length_map];exact hn)
  obtain⟨d,hd,rfl⟩:=List.mem_map.mp ht
  exact(h d hd).2
theorem lit_str {x:Str}(h:PyData.strOk x=true)(hl:x.length<=8):lit 2000 (.str x):=by
 refine⟨rfl,?_⟩
 simp only[mC,PyData.shown]
 have:=StrLaws.reprText_len x λc hc=>by
  have:x.cps.all (λc=>decide (c<0x110000))=true:=h
  have:=Array.all_eq_true'.mp this c (by simpa using hc)
  have:=of_decide_eq_true this
  omega
 omega
theorem lit_int {i:Int}(h1: -100000<=i)(h2:i<=100000):lit 2000 (.int i):=by
 have h:i.natAbs.log2<1920:=by
  by_cases h0:i.natAbs=0
  ·rw[h0];decide
  ·have:=(Nat.log2_lt h0 (k:=20)).mpr (by omega)
   omega
 refine⟨?_,?_⟩
 ·simp only[mC,PyData.showable]
  exact decide_eq_true h
 ·simp only[mC,PyData.shown]
  exact Nat.le_trans (int_text_len_1921 h) (by decide)
end DL
namespace DL
open PySem PySem.Spec PyProof.Rows L2
namespace K
noncomputable def bC:List (Str×D):=[("put",.tup [.str "cell",.str "value"]),("get",.tup [.str "box",.str "cell"]),("swap",.tup [.str "box",.str "cell",.str "value"]),("add",.tup [.str "box",.str "value",.str "value"]),("skip",.tup [.str "box",.str "figure"]),("fence",.tup [])]
noncomputable def jU:D:= .tup [.str "fence"]
noncomputable def tR:GS:=(fc (f2 gA (f2 cj (f2 (jc cQ bG) (f2 aP (f2 aP (f2 cj (f2 (jc cQ bG) (aj 0) (fC (.int 48271))) (fC (.int 2147483647))) (f2 (jc cQ bG) (f2 (jc cQ bG) (fC (.int 7919)) (aj 1)) (aj 1))) (f2 (jc cQ bG) (fC (.int 104729)) (aj 1))) (fC (.int 69621))) (fC (.int 2147483629))) (fC (.int 7))))
noncomputable def bh:FF:=λds=>if ds.length=2 then fW (tR (aW 2 ds))else none
noncomputable def lV:GS:=(aO (bF 1 (fC (.str "abcdefghijklmnopqrstuvwxyz"))) (aO (bF 2 (f2 aP (fC (.int 1)) (f2 cj (f2 gA (aj 0) (fC (.int 4))) (fC (.int 6))))) (aO (bF 3 (f2 aG (gB (aa (f2 cj (f2 gA (aj 0) (fC (.int 24))) (aj 2)) (aa (fC (.int 0)) (aa (f2 kE (aj 2) (fC (.int 1))) (aa (fC (.int 0)) aq))))) (f2 cj (aj 0) (fC (.int 4))))) (aO (gR 4 (cI [none,some 1,some 0] (gw (fC (.int 6))) (aV 0) tT (f2 aG (aj 1) (f2 cj (f2 aP (f2 gA (aj 2) (fC (.int 7))) (f2 (jc cQ bG) (fC (.int 5)) (aj 0))) (fC (.int 26)))))) (aO (gR 5 (oE aq)) (aO (f9 (gw (fC (.int 9))) (aF 6) (aO (bF 7 (f2 aG (aj 1) (f2 cj (f2 aP (f2 gA (aj 0) (fC (.int 11))) (aj 6)) (fC (.int 26))))) (aO (bF 8 (vU "str" m5 (fC (.str "")) (aa (f2 aP (f2 aP (u6 (aj 4) gW (fL (aj 3))) (gB (aa (aj 7) aq))) (u6 (aj 4) (fL (f2 aP (aj 3) (fC (.int 1)))) (fL (aj 2)))) aq))) (aO (jM (t2 (dN false) (f2 cj (aj 0) (fC (.int 4))) (fC (.int 3))) (bF 8 (f2 aG (gB (aa (vU "str" m5 (fC (.str "")) (aa (u6 (aj 4) gW (fL (f2 aP (fC (.int 1)) (f2 cj (aj 6) (fC (.int 5)))))) aq)) (aa (f2 aP (aj 7) (vU "str" m5 (fC (.str "")) (aa (u6 (aj 4) gW (fL (f2 aP (fC (.int 1)) (f2 cj (aj 6) (fC (.int 5)))))) aq))) aq))) (f2 gA (aj 6) (fC (.int 5))))) cg) (eF 5 (aj 8)))))) (aO (gR 9 (cI [none] (fj (aj 5)) (aV 0) (t2 (tZ false) (aj 0) (fZ (yJ (fC (.str "cells thread put get swap add skip fence")) (aa (fC (.str " ")) aq)))) (aj 0))) (aO (jM (yt (t2 (dN true) (aj 9) (gB aq)) (t2 (mX λi j=>decide (i<j)) (fB qd (aa (aj 5) aq)) (fC (.int 9)))) (oH (oE (aa (fC (.str "a")) (aa (fC (.str "b")) (aa (fC (.str "c")) (aa (fC (.str "ab")) (aa (fC (.str "ba")) (aa (fC (.str "z")) (aa (fC (.str "x")) (aa (fC (.str "xx")) (aa (fC (.str "y")) aq))))))))))) cg) (jf 5)))))))))
noncomputable def jn:FF:=λds=>if ds.length=1 then fW (lV (aW 10 ds))else none
noncomputable def mF:GS:=(aO (jM (t2 (mX λi j=>decide (i<j)) (aj 1) (fB kY (aa (aj 0) aq))) (fc (f2 aG (aj 0) (aj 1))) cg) (fc (fC (.int 0))))
noncomputable def aL:FF:=λds=>if ds.length=2 then fW (mF (aW 2 ds))else none
noncomputable def oU:GS:=(aO (bF 1 (gB (aa (fC (.str "put 0 1,get p 1/put 1 2,get p 0")) (aa (fC (.str "put 0 1,fence,get p 1/put 1 2,fence,get p 0")) aq)))) (aO (bF 1 (f2 aP (aj 1) (gB (aa (fC (.str "swap p 0 1,get q 1/swap p 1 2,get q 0")) (aa (fC (.str "put 0 1,put 1 2/get p 1,get q 0")) aq))))) (aO (bF 1 (f2 aP (aj 1) (gB (aa (fC (.str "put 0 1,get p 1/put 1 2,fence,get p 0")) (aa (fC (.str "get p 0,put 1 1/get p 1,put 0 2")) aq))))) (aO (bF 1 (f2 aP (aj 1) (gB (aa (fC (.str "put 0 1,put 1 2/put 1 3,put 0 4")) (aa (fC (.str "put 0 1,get p 0,get q 1/put 1 2,get p 1,get q 0")) aq))))) (aO (bF 1 (f2 aP (aj 1) (gB (aa (fC (.str "put 0 1/get p 0,put 1 p/get p 1,get q 0")) (aa (fC (.str "put 0 1,get p 1/put 1 2,get p 2/put 2 3,get p 0")) aq))))) (aO (bF 1 (f2 aP (aj 1) (gB (aa (fC (.str "put 0 1,get p 1,skip p 1,put 2 3/put 1 2,get p 0,get q 2")) (aa (fC (.str "put 0 1,put 0 2/get p 0,get q 0")) aq))))) (aO (bF 1 (f2 aP (aj 1) (gB (aa (fC (.str "swap p 0 1/swap p 0 2/get p 0,get q 0")) (aa (fC (.str "put 0 1,add p p 7,put 1 p/get q 1,swap p 0 9")) aq))))) (aO (bF 1 (f2 aP (aj 1) (gB (aa (fC (.str "put 0 1,put 0 2,get p 0/put 0 3,get p 0")) (aa (fC (.str "put 0 1,swap p 0 2,put 0 3,get q 0/get p 0")) aq))))) (fc (f2 aG (aj 1) (f2 cj (aj 0) (fC (.int 16)))))))))))))
noncomputable def iH:FF:=λds=>if ds.length=1 then fW (oU (aW 2 ds))else none
noncomputable def nP:GS:=(aO (gR 3 (oE aq)) (aO (f9 (fj (fZ (yJ (aC iH [] (aa (aj 0) aq)) (aa (fC (.str "/")) aq)))) (aF 4) (aO (gR 5 (oE aq)) (aO (f9 (fj (fZ (yJ (aj 4) (aa (fC (.str ",")) aq)))) (aF 6) (aO (bF 7 (fZ (yJ (aj 6) (aa (fC (.str " ")) aq)))) (aO (bF 8 (f2 aG (Gq [((fC (.str "put")),(fC (.str "cv"))),((fC (.str "get")),(fC (.str "bc"))),((fC (.str "swap")),(fC (.str "bcv"))),((fC (.str "add")),(fC (.str "bvv"))),((fC (.str "skip")),(fC (.str "bn"))),((fC (.str "fence")),(fC (.str "")))]) (f2 aG (aj 7) (fC (.int 0))))) (aO (gR 9 (oE (aa (f2 aG (aj 7) (fC (.int 0))) aq))) (aO (f9 (CG (aa (aj 8) (aa (u6 (aj 7) (fL (fC (.int 1))) gW) aq))) (dF 2 (aZ (aF 10) (aZ (aF 11) dM))) (aO (bF 12 (Ka (tV (Wj "str" rm (aj 11))) (fB (lC qM mU) (aa (aj 11) aq)) (fC (.int 0)))) (aO (bF 13 (f2 aP (aj 12) (f2 (jc cQ bG) (aj 2) (fB (lC qM mU) (aa (f2 (dN false) (aj 10) (fC (.str "v"))) aq))))) (aO (jM (t2 (tZ false) (aj 11) (cF (aa (fC (.str "p")) (aa (fC (.str "q")) aq)))) (bF 13 (f2 aG (aj 1) (f2 aP (fC (.int 3)) (vU "str" Ci (fC (.str "pq")) (aa (aj 11) aq))))) cg) (eF 9 (Ka (t2 (dN false) (aj 10) (fC (.str "c"))) (f2 aG (aj 1) (aj 12)) (aj 13))))))) (eF 5 (fB (lC cu eO) (aa (aj 9) aq)))))))) (tO 5 (eF 3 (aj 5)))))) (jf 3)))
noncomputable def dR:FF:=λds=>if ds.length=3 then fW (nP (aW 14 ds))else none
noncomputable def qT:GS:=(aO (bF 4 (f2 aG (aj 1) (f2 cj (f2 gA (aj 0) (fC (.int 11))) (fC (.int 3))))) (aO (bF 5 (f2 aG (aj 1) (f2 aP (fC (.int 3)) (f2 cj (f2 gA (aj 0) (fC (.int 33))) (fC (.int 4)))))) (aO (bF 6 (f2 aG (aj 1) (f2 aP (fC (.int 3)) (f2 cj (f2 gA (aj 0) (fC (.int 132))) (fC (.int 4)))))) (aO (bF 7 (f2 aG (gB (aa (f2 aP (fC (.int 1)) (aj 3)) (aa (f2 cj (f2 gA (aj 0) (fC (.int 528))) (fC (.int 100))) (aa (aj 5) aq)))) (f2 cj (f2 gA (aj 0) (fC (.int 53))) (fC (.int 3))))) (aO (bF 8 (f2 cj (aj 0) (fC (.int 11)))) (aO (jM (t2 (mX λi j=>decide (i<j)) (aj 8) (fC (.int 4))) (fc (cF (aa (fC (.str "put")) (aa (aj 4) (aa (aj 7) aq))))) cg) (aO (jM (t2 (mX λi j=>decide (i<j)) (aj 8) (fC (.int 7))) (fc (cF (aa (fC (.str "get")) (aa (aj 5) (aa (aj 4) aq))))) cg) (aO (jM (t2 (dN false) (aj 8) (fC (.int 7))) (fc (cF (aa (fC (.str "swap")) (aa (aj 5) (aa (aj 4) (aa (f2 aG (gB (aa (f2 aP (fC (.int 1)) (aj 3)) (aa (aj 6) aq))) (f2 cj (f2 gA (aj 0) (fC (.int 53))) (fC (.int 2)))) aq)))))) cg) (aO (jM (yt (t2 (dN false) (aj 8) (fC (.int 8))) (wQ (t2 (dN false) (aj 2) (fC (.int 0))) (t2 (dN false) (aj 8) (fC (.int 9))))) (fc (cF (aa (fC (.str "add")) (aa (aj 5) (aa (aj 6) (aa (aj 7) aq)))))) cg) (aO (jM (t2 (dN false) (aj 8) (fC (.int 9))) (fc (cF (aa (fC (.str "skip")) (aa (aj 5) (aa (f2 cj (f2 gA (aj 0) (fC (.int 528))) (f2 aP (fC (.int 1)) (fB Gi (aa (aj 2) (aa (fC (.int 9)) aq))))) aq))))) cg) (fc (cF (aa (fC (.str "fence")) aq)))))))))))))
noncomputable def lF:FF:=λds=>if ds.length=4 then fW (qT (aW 9 ds))else none
noncomputable def nQ:GS:=(aO (gR 5 (oE aq)) (aO (bF 6 (f2 aG (gB (aa (fC (.int 2)) (aa (fC (.int 5)) aq))) (fB (lC qM mU) (aa (f2 (mX λi j=>decide (j<i)) (aj 3) (fC (.int 3))) aq)))) (aO (f9 (gw (aj 4)) (aF 7) (aO (bF 8 (aC bh [] (aa (aC aL [] (aa (aj 0) (aa (f2 aP (f2 aP (fC (.int 5)) (f2 (jc cQ bG) (fC (.int 8)) (aj 1))) (aj 7)) aq))) (aa (f2 aP (f2 (jc cQ bG) (fC (.int 10)) (aj 1)) (aj 7)) aq)))) (aO (bF 9 (aC lF [] (aa (aj 8) (aa (aj 2) (aa (f2 kE (f2 kE (aj 4) (fC (.int 1))) (aj 7)) (aa (f2 aP (f2 (jc cQ bG) (fC (.int 10)) (aj 1)) (aj 7)) aq)))))) (aO (bF 10 (vU "list" nU (aj 5) (aa (cF (aa (fC (.str "fence")) aq)) aq))) (aO (jM (wQ (t2 (dN false) (aj 10) (aj 6)) (t2 (dN false) (aj 9) (cF (aa (fC (.str "fence")) aq)))) (bF 9 (cF (aa (fC (.str "get")) (aa (f2 aG (aj 2) (fC (.int 3))) (aa (f2 aG (aj 2) (fC (.int 0))) aq))))) cg) (aO (jM (t2 (dN false) (f2 kE (aj 7) (aj 10)) (aj 3)) (bF 9 (cF (aa (fC (.str "fence")) aq))) cg) (eF 5 (aj 9)))))))) (jf 5))))
noncomputable def fJ:FF:=λds=>if ds.length=5 then fW (nQ (aW 11 ds))else none
noncomputable def jK:GS:=(aO (bF 2 (aC bh [] (aa (aC aL [] (aa (aj 0) (aa (fC (.int 0)) aq))) (aa (fC (.int 1)) aq)))) (aO (bF 3 (aC jn [] (aa (f2 gA (aj 2) (fC (.int 13))) aq))) (aO (bF 4 (aC bh [] (aa (aC aL [] (aa (aj 0) (aa (fC (.int 1)) aq))) (aa (fC (.int 2)) aq)))) (aO (bF 5 (gB (aa (fC (.int 0)) (aa (fC (.int 0)) (aa (f2 cj (f2 gA (aj 4) (fC (.int 7))) (fC (.int 100))) (aa (fC (.int 5)) aq)))))) (aO (bF 6 (fB (lC cu eO) (aa (fZ (cI [none,some 3,some 5,some 4] (gw (fC (.int 3))) (aV 0) tT (cF (aa (f2 aG (aj 1) (aj 0)) (aa (f2 aG (aj 2) (f2 cj (f2 aP (aj 3) (aj 0)) (fC (.int 4)))) aq))))) aq))) (aO (jM (t2 (dN false) (f2 cj (aC aL [] (aa (aj 0) (aa (fC (.int 2)) aq))) (fC (.int 3))) (fC (.int 1))) (gR 7 (zT dR [] (aa (f2 gA (aC aL [] (aa (aj 0) (aa (fC (.int 2)) aq))) (fC (.int 3))) (aa (aj 3) (aa (f2 (jc cQ bG) (f2 cj (aC aL [] (aa (aj 0) (aa (fC (.int 1)) aq))) (fC (.int 3))) (fC (.int 30))) aq))))) (aO (bF 8 (f2 aG (gB (aa (fC (.int 2)) (aa (fC (.int 2)) (aa (fC (.int 3)) (aa (fC (.int 1)) (aa (fC (.int 2)) aq)))))) (f2 cj (f2 gA (aC aL [] (aa (aj 0) (aa (fC (.int 2)) aq))) (fC (.int 3))) (fC (.int 5))))) (aO (bF 1 (fB Gi (aa (aj 1) (aa (f2 aG (gB (aa (fC (.int 5)) (aa (fC (.int 5)) (aa (fC (.int 5)) (aa (fC (.int 3)) aq))))) (aj 8)) aq)))) (aO (gR 7 (oE aq)) (f9 (gw (aj 8)) (aF 9) (aO (bF 10 (f2 cj (aC bh [] (aa (f2 (jc cQ bG) (aC aL [] (aa (aj 0) (aa (fC (.int 3)) aq))) (f2 aP (fC (.int 1)) (f2 (jc cQ bG) (fC (.int 2)) (aj 9)))) (aa (aj 9) aq))) (f2 aP (aj 1) (f2 aG (gB (aa (fC (.int 3)) (aa (fC (.int 6)) aq))) (fB (lC qM mU) (aa (f2 (mX λi j=>decide (j<i)) (aj 1) (fC (.int 3))) aq)))))) (Ny (eF 7 (aC fJ [] (aa (aj 0) (aa (aj 9) (aa (aj 3) (aa (aj 1) (aa (aj 10) aq))))))) (Pg 7 (eF 7 (aC fJ [] (aa (aj 0) (aa (aj 9) (aa (aj 3) (aa (aj 1) (aa (aj 10) aq))))))))))))))) (aO (bF 11 (gB aq)) (aO (tO 7 (f9 (fj (aj 7)) (aF 12) (f9 (fj (aj 12)) (aF 13) (bF 11 (f2 aP (aj 11) (fZ (nB nList (aa (aj 13) aq)))))))) (aO (bF 8 (fB uV (aa (f2 aP (gB (aa (f2 aP (fC (.int 1)) (f2 cj (f2 gA (aj 4) (fC (.int 9))) (fC (.int 3)))) aq)) (fZ (cI [none,some 11,some 3] (gw (fC (.int 3))) (aV 0) (t2 (tZ false) (f2 aG (aj 2) (aj 0)) (aj 1)) (f2 aP (aj 0) (fC (.int 1)))))) aq))) (fc (cF (aa (u6 (aj 6) gW (fL (aj 8))) (aa (fB (lC cu eO) (aa (fZ (cI [none] (fj (aj 7)) (aV 0) tT (fB (lC cu eO) (aa (aj 0) aq)))) aq)) aq)))))))))))))
noncomputable def gZ:FF:=λds=>if ds.length=2 then fW (jK (aW 14 ds))else none
noncomputable def kJ:GS:=(aO (gR 1 (cI [none,some 0] (gw (fB kY (aa (aj 0) aq))) (aV 0) (t2 (dN true) (f2 aG (aj 1) (aj 0)) (cF (aa (fC (.str "fence")) aq))) (aj 0))) (aO (gR 2 (oE aq)) (aO (tO 1 (f9 (fj (aj 1)) (aF 3) (aO (bF 4 (f2 aG (aj 0) (aj 3))) (aO (jM (t2 (dN false) (f2 aG (aj 4) (fC (.int 0))) (fC (.str "skip"))) (aO (gR 5 (cI [none,some 3,some 4] (fj (aj 1)) (aV 0) (t2 (mX λi j=>decide (i<j)) (aj 0) (f2 aP (f2 aP (aj 1) (fC (.int 1))) (f2 aG (aj 2) (fC (.int 2))))) (aj 0))) (bF 4 (cF (aa (fC (.str "skip")) (aa (f2 aG (aj 4) (fC (.int 1))) (aa (f2 kE (f2 kE (fB kY (aa (aj 5) aq)) (vU "list" mG (aj 1) (aa (aj 3) aq))) (fC (.int 1))) aq)))))) cg) (eF 2 (aj 4)))))) (fc (fB (lC cu eO) (aa (aj 2) aq))))))
noncomputable def gY:FF:=λds=>if ds.length=1 then fW (kJ (aW 6 ds))else none
noncomputable def uO:GS:=(fc (cF (aa (f2 aG (aj 0) (fC (.int 0))) (aa (fB (lC cu eO) (aa (fZ (cI [none] (fj (f2 aG (aj 0) (fC (.int 1)))) (aV 0) tT (aC gY [] (aa (aj 0) aq)))) aq)) aq))))
noncomputable def jV:FF:=λds=>if ds.length=1 then fW (uO (aW 1 ds))else none
noncomputable def vW:GS:=(fc (fOr (f2 (dN false) (aj 0) (fC (.str "box"))) (Ea (f2 (dN false) (aj 0) (fC (.str "value"))) (Wl "str" (aj 1)))))
noncomputable def nM:FF:=λds=>if ds.length=2 then fW (vW (aW 2 ds))else none
noncomputable def qI (cP:List (Str×D)):GS:=(oH (cI [none,none] (CG (aa (YK cP (f2 aG (aj 0) (fC (.int 0)))) (aa (u6 (aj 0) (fL (fC (.int 1))) gW) aq))) (jG 2 (cJ (aV 0) (cJ (aV 1) jX))) (tV (aC nM [] (aa (aj 0) (aa (aj 1) aq)))) (aj 1)))
noncomputable def ie (cP:List (Str×D)):FF:=λds=>if ds.length=1 then fW (qI cP (aW 1 ds))else none
noncomputable def lG (cP:List (Str×D)):GS:=(aO (Vk 1 a0s) (aO (f9 (fj (aj 0)) (aF 2) (f9 (fj (aC (ie cP) [] (aa (aj 2) aq))) (aF 3) (Cv 1 (aj 3) (fC (.bl true))))) (fc (fB (lC cu eO) (aa (aj 1) aq)))))
noncomputable def gG (cP:List (Str×D)):FF:=λds=>if ds.length=1 then fW (lG cP (aW 4 ds))else none
noncomputable def Az (cP:List (Str×D)):List (Str×FD):=[("cells",(aj 1)),("threads",(aj 2)),("cell_names",(fB (lC cu eO) (aa (fZ (cI [none,none] (fj (aj 1)) (jG 2 (cJ (aV 0) (cJ (aV 1) jX))) tT (aj 0))) aq))),("box_names",(fB (lC cu eO) (aa (fZ (cI [none] (fj (aj 2)) (aV 0) tT (aC (gG cP) [] (aa (aj 0) aq)))) aq)))]
noncomputable def pD (cP:List (Str×D)):List D->Option (List Str×List D):=λds=>if ds.length+1=3 then runInit (Az cP) (J6 3 ds) [] [] else none
noncomputable def uP:GS:=(fc (fB (lC cu eO) (aa (fZ (cI [none] (fj (aj 0)) (aV 0) tT (fB (lC cu eO) (aa (aj 0) aq)))) aq)))
noncomputable def gK:FF:=λds=>if ds.length=1 then fW (uP (aW 1 ds))else none
noncomputable def tU (aQ:Addr)(cP:List (Str×D)):GS:=(wW (Vi aQ (pD cP) (aa (aC gK [] (aa (f2 aG (aj 0) (fC (.int 0))) aq)) (aa (fB (lC cu eO) (aa (fZ (cI [none] (fj (f2 aG (aj 0) (fC (.int 1)))) (aV 0) tT (aC gK [] (aa (aj 0) aq)))) aq)) aq))))
noncomputable def dw (aQ:Addr)(cP:List (Str×D)):FF:=λds=>if ds.length=1 then fW (tU aQ cP (aW 1 ds))else none
noncomputable def nO:GS:=(aO (gR 1 (oE aq)) (aO (f9 (jb (f2 aG (aj 0) (fC (.int 1)))) (dF 2 (aZ (aF 2) (aZ (aF 3) dM))) (MK 1 (fZ (cI [none,some 2] (sW (fC (.int 1)) (fB kY (aa (aj 3) aq))) (aV 0) tT (cF (aa (aj 1) (aa (aj 0) aq))))))) (jf 1)))
noncomputable def dW:FF:=λds=>if ds.length=1 then fW (nO (aW 4 ds))else none
noncomputable def qR:GS:=(aO (gR 2 (oE aq)) (aO (f9 (jb (aC dW [] (aa (aj 0) aq))) (dF 2 (aZ (aF 3) (aZ (aF 4) dM))) (jM (t2 (dN false) (f2 cj (aC bh [] (aa (f2 (jc cQ bG) (aj 1) (f2 aP (fC (.int 1)) (f2 (jc cQ bG) (fC (.int 2)) (aj 3)))) (aa (aj 3) aq))) (f2 aG (gB (aa (fC (.int 2)) (aa (fC (.int 4)) (aa (fC (.int 1)) aq)))) (f2 cj (aj 1) (fC (.int 3))))) (fC (.int 0))) (Gz 2 (f2 cj (aC bh [] (aa (f2 (jc cQ bG) (aj 1) (f2 aP (fC (.int 3)) (f2 (jc cQ bG) (fC (.int 2)) (aj 3)))) (aa (f2 aP (fC (.int 50)) (aj 3)) aq))) (f2 aP (fB kY (aa (aj 2) aq)) (fC (.int 1)))) (aj 4)) cg)) (jf 2)))
noncomputable def iV:FF:=λds=>if ds.length=2 then fW (qR (aW 5 ds))else none
noncomputable def mR:GS:=(aO (gR 2 (oE aq)) (aO (f9 (gw (fB kY (aa (aj 0) aq))) (aF 3) (aO (jM (t2 (tZ false) (aj 3) (aj 1)) (eF 2 (cF (aa (fC (.str "fence")) (aa (aj 3) aq)))) cg) (eF 2 (cF (aa (fC (.str "row")) (aa (aj 3) aq)))))) (aO (gR 4 (oE aq)) (aO (tO 2 (f9 (fj (aj 2)) (dF 2 (aZ (aF 5) (aZ (aF 3) dM))) (aO (bF 6 (Ka (t2 (dN false) (aj 5) (fC (.str "fence"))) (cF (aa (fC (.str "fence")) aq)) (f2 aG (aj 0) (aj 3)))) (aO (jM (t2 (dN false) (f2 aG (aj 6) (fC (.int 0))) (fC (.str "skip"))) (aO (bF 7 (f2 aP (fZ (cI [none,some 2,some 3,some 6] (gw (fB kY (aa (aj 2) aq))) (aV 0) (t2 (dN false) (f2 aG (f2 aG (aj 1) (aj 0)) (fC (.int 1))) (f2 aP (f2 aP (aj 2) (fC (.int 1))) (f2 aG (aj 3) (fC (.int 2))))) (aj 0))) (gB (aa (fB kY (aa (aj 2) aq)) aq)))) (bF 6 (cF (aa (fC (.str "skip")) (aa (f2 aG (aj 6) (fC (.int 1))) (aa (f2 kE (f2 kE (f2 aG (aj 7) (fC (.int 0))) (vU "list" mG (aj 2) (aa (cF (aa (fC (.str "row")) (aa (aj 3) aq))) aq))) (fC (.int 1))) aq)))))) cg) (eF 4 (aj 6)))))) (fc (fB (lC cu eO) (aa (aj 4) aq)))))))
noncomputable def dG:FF:=λds=>if ds.length=2 then fW (mR (aW 8 ds))else none
noncomputable def qQ:GS:=(aO (gR 2 (oE aq)) (aO (f9 (jb (f2 aG (aj 0) (fC (.int 1)))) (dF 2 (aZ (aF 3) (aZ (aF 4) dM))) (Ny (eF 2 (aC dG [] (aa (aj 4) (aa (fZ (cI [none,none,some 3] (fj (aj 1)) (jG 2 (cJ (aV 0) (cJ (aV 1) jX))) (t2 (dN false) (aj 0) (aj 2)) (aj 1))) aq)))) (Pg 2 (eF 2 (aC dG [] (aa (aj 4) (aa (fZ (cI [none,none,some 3] (fj (aj 1)) (jG 2 (cJ (aV 0) (cJ (aV 1) jX))) (t2 (dN false) (aj 0) (aj 2)) (aj 1))) aq))))))) (fc (cF (aa (f2 aG (aj 0) (fC (.int 0))) (aa (fB (lC cu eO) (aa (aj 2) aq)) aq))))))
noncomputable def iU:FF:=λds=>if ds.length=2 then fW (qQ (aW 5 ds))else none
noncomputable def qW:GS:=(aO (jM (t2 (dN true) (f2 aG (aj 0) (fC (.int 0))) (fC (.str "skip"))) (jf 0) cg) (fc (f2 aP (u6 (aj 0) gW (fL (fC (.int 2)))) (cF (aa (fB kY (aa (fZ (cI [none] (fj (u6 (aj 1) gW (fL (f2 aG (aj 0) (fC (.int 2)))))) (aV 0) (t2 (dN true) (aj 0) (fC jU)) (aj 0))) aq)) aq)))))
noncomputable def jO:FF:=λds=>if ds.length=2 then fW (qW (aW 2 ds))else none
noncomputable def qb:GS:=(oH (cI [none,none,some 0] (jb (aj 0)) (jG 2 (cJ (aV 0) (cJ (aV 1) jX))) (t2 (dN true) (aj 1) (fC jU)) (aC jO [] (aa (aj 1) (aa (u6 (aj 2) (fL (f2 aP (aj 0) (fC (.int 1)))) gW) aq)))))
noncomputable def jW:FF:=λds=>if ds.length=1 then fW (qb (aW 1 ds))else none
noncomputable def JX (aQ:Addr)(cP:List (Str×D)):GS:=(wW (aC (dw aQ cP) [] (aa (cF (aa (tM aQ "cells" (aj 0)) (aa (fZ (cI [none] (fj (tM aQ "threads" (aj 0))) (aV 0) tT (aC jW [] (aa (aj 0) aq)))) aq))) aq)))
noncomputable def gq (aQ:Addr)(cP:List (Str×D)):FF:=λds=>if ds.length=1 then fW (JX aQ cP (aW 1 ds))else none
noncomputable def oV:GS:=(aO (jM (t2 (dN true) (f2 aG (aj 0) (fC (.int 0))) (fC (.str "skip"))) (jf 0) cg) (aO (gR 3 (cI [none,some 2] (sW (f2 aP (aj 1) (fC (.int 1))) (f2 aP (f2 aP (aj 1) (fC (.int 1))) (f2 aG (aj 0) (fC (.int 2))))) (aV 0) (t2 (tZ false) (aj 0) (aj 1)) (aj 0))) (fc (f2 aP (u6 (aj 0) gW (fL (fC (.int 2)))) (cF (aa (f2 aP (f2 aG (aj 0) (fC (.int 2))) (fB kY (aa (aj 3) aq))) aq))))))
noncomputable def fY:FF:=λds=>if ds.length=3 then fW (oV (aW 4 ds))else none
noncomputable def qX:GS:=(aO (gR 2 (oE aq)) (aO (f9 (jb (aj 0)) (dF 2 (aZ (aF 3) (aZ (aF 4) dM))) (aO (jM (t2 (tZ false) (aj 3) (aj 1)) (eF 2 (fC jU)) cg) (Ny (eF 2 (aC fY [] (aa (aj 4) (aa (aj 3) (aa (aj 1) aq))))) (Pg 2 (eF 2 (aC fY [] (aa (aj 4) (aa (aj 3) (aa (aj 1) aq))))))))) (jf 2)))
noncomputable def fK:FF:=λds=>if ds.length=2 then fW (qX (aW 5 ds))else none
noncomputable def BL:GS:=(oH (cI [none,some 1] (fj (aj 0)) (aV 0) (t2 (dN false) (f2 aG (aj 0) (fC (.int 0))) (aj 1)) (f2 aG (aj 0) (fC (.int 1)))))
noncomputable def kI:FF:=λds=>if ds.length=2 then fW (BL (aW 2 ds))else none
noncomputable def BP (aQ:Addr)(cP:List (Str×D)):GS:=(aO (ir 2 (aC (gq aQ cP) [] (aa (aj 0) aq))) (aO (gR 3 (cI [none,none,some 1] (jb (tM aQ "threads" (aj 2))) (jG 2 (cJ (aV 0) (cJ (aV 1) jX))) tT (aC fK [] (aa (aj 1) (aa (aC kI [] (aa (aj 2) (aa (aj 0) aq))) aq))))) (wW (aC (dw aQ cP) [] (aa (cF (aa (tM aQ "cells" (aj 2)) (aa (aj 3) aq))) aq)))))
noncomputable def dX (aQ:Addr)(cP:List (Str×D)):FF:=λds=>if ds.length=2 then fW (BP aQ cP (aW 4 ds))else none
noncomputable def qU:GS:=(aO (gR 2 (oE aq)) (aO (f9 (jb (f2 aG (aj 0) (fC (.int 1)))) (dF 2 (aZ (aF 3) (aZ (aF 4) dM))) (aO (gR 5 (nB nList (aa (aj 4) aq))) (aO (f9 (gw (f2 aP (fC (.int 1)) (f2 cj (aC bh [] (aa (f2 (jc cQ bG) (aj 1) (f2 aP (fC (.int 1)) (f2 (jc cQ bG) (fC (.int 2)) (aj 3)))) (aa (f2 aP (fC (.int 70)) (aj 3)) aq))) (fC (.int 4))))) (aF 6) (jM (t2 (mX λi j=>decide (i<j)) (vU "list" nU (aj 5) (aa (cF (aa (fC (.str "fence")) aq)) aq)) (fC (.int 5))) (Gz 5 (f2 cj (aC bh [] (aa (f2 (jc cQ bG) (aj 1) (f2 aP (fC (.int 1)) (f2 (jc cQ bG) (fC (.int 2)) (f2 aP (f2 (jc cQ bG) (fC (.int 7)) (aj 3)) (aj 6))))) (aa (f2 aP (f2 aP (fC (.int 80)) (f2 (jc cQ bG) (fC (.int 7)) (aj 3))) (aj 6)) aq))) (f2 aP (fB kY (aa (aj 5) aq)) (fC (.int 1)))) (cF (aa (fC (.str "fence")) aq))) cg)) (aO (Cu (nB nList (aa (aj 5) aq)) (dF 2 (aZ (aF 7) (aZ (aF 8) dM))) (aO (bF 9 (aC bh [] (aa (f2 (jc cQ bG) (aj 1) (f2 aP (fC (.int 1)) (f2 (jc cQ bG) (fC (.int 2)) (f2 aP (f2 (jc cQ bG) (fC (.int 11)) (aj 3)) (aj 7))))) (aa (f2 aP (f2 aP (fC (.int 110)) (f2 (jc cQ bG) (fC (.int 11)) (aj 3))) (aj 7)) aq)))) (jM (yt (t2 (dN false) (f2 aG (aj 8) (fC (.int 0))) (fC (.str "skip"))) (wQ (t2 (dN false) (f2 aG (aj 8) (fC (.int 0))) (fC (.str "get"))) (t2 (dN false) (f2 cj (aj 9) (fC (.int 3))) (fC (.int 1))))) (Cw 5 (aj 7) (cF (aa (fC (.str "skip")) (aa (f2 aG (aj 8) (fC (.int 1))) (aa (f2 cj (f2 gA (aj 9) (fC (.int 3))) (fB Gi (aa (fC (.int 10)) (aa (f2 kE (fB kY (aa (aj 5) aq)) (aj 7)) aq)))) aq))))) cg))) (eF 2 (fB (lC cu eO) (aa (aj 5) aq))))))) (fc (cF (aa (f2 aG (aj 0) (fC (.int 0))) (aa (fB (lC cu eO) (aa (aj 2) aq)) aq))))))
noncomputable def jC:FF:=λds=>if ds.length=2 then fW (qU (aW 10 ds))else none
noncomputable def zj (aQ:Addr):GS:=(fc (cF (aa (tM aQ "cells" (aj 0)) (aa (tM aQ "threads" (aj 0)) aq))))
noncomputable def lU (aQ:Addr):FF:=λds=>if ds.length=1 then fW (zj aQ (aW 1 ds))else none
noncomputable def zg (aQ:Addr):GS:=(fc (Ea (YJ aQ (aj 0)) (Ea (f2 (dN false) (Cm aQ "plain" (lU aQ) (aj 0)) (aj 1)) (f2 uW (Cm aQ "plain" (lU aQ) (aj 0)) (aj 1)))))
noncomputable def bK (aQ:Addr):FF:=λds=>if ds.length=2 then fW (zg aQ (aW 2 ds))else none
noncomputable def Oj (aQ:Addr)(cP:List (Str×D)):GS:=(aO (ir 1 (aC gZ [] (aa (aj 0) (aa (fC (.int 5)) aq)))) (aO (ir 2 (aC bh [] (aa (f2 aP (aC aL [] (aa (aj 0) (aa (fC (.int 4)) aq))) (aC aL [] (aa (aj 0) (aa (fC (.int 30)) aq)))) (aa (fC (.int 90)) aq)))) (aO (jM (t2 (mX λi j=>decide (i<j)) (f2 cj (aj 2) (fC (.int 5))) (fC (.int 3))) (ir 1 (aC jC [] (aa (aj 1) (aa (f2 gA (aj 2) (fC (.int 5))) aq)))) cg) (aO (ir 3 (aC jV [] (aa (aj 1) aq))) (aO (ir 4 (aC (dw aQ cP) [] (aa (aj 1) aq))) (aO (ir 5 (aC iV [] (aa (aj 3) (aa (aj 2) aq)))) (aO (gR 6 (nB nList (aa (aj 5) aq))) (aO (jM (yt (mO (tV (aC (bK aQ) [] (aa (aC (gq aQ cP) [] (aa (aj 4) aq)) (aa (aj 3) aq))))) (mO (tV (aC (bK aQ) [] (aa (aC (gq aQ cP) [] (aa (aC (gq aQ cP) [] (aa (aj 4) aq)) aq)) (aa (aj 3) aq)))))) (fc (fC (.bl false))) cg) (aO (ir 7 (aC iU [] (aa (aj 3) (aa (aj 5) aq)))) (aO (ir 8 (aC (dX aQ cP) [] (aa (aj 4) (aa (aj 6) aq)))) (aO (jM (yt (mO (tV (aC (bK aQ) [] (aa (aj 8) (aa (aj 7) aq))))) (t2 (dN true) (aj 6) (aj 5))) (fc (fC (.bl false))) cg) (aO (Jd 6) (aO (jM (yt (mO (tV (aC (bK aQ) [] (aa (aj 8) (aa (aj 7) aq))))) (mO (tV (aC (bK aQ) [] (aa (aC (dX aQ cP) [] (aa (aC (gq aQ cP) [] (aa (aj 4) aq)) (aa (Pz (aj 5)) aq))) (aa (aj 7) aq)))))) (fc (fC (.bl false))) cg) (aO (jM (yt (mO (tV (aC (bK aQ) [] (aa (aC (dX aQ cP) [] (aa (aj 8) (aa (aj 5) aq))) (aa (aj 7) aq))))) (mO (tV (aC (bK aQ) [] (aa (aC (gq aQ cP) [] (aa (aj 8) aq)) (aa (aj 3) aq)))))) (fc (fC (.bl false))) cg) (fc (Ea (aC (bK aQ) [] (aa (aC (dX aQ cP) [] (aa (aj 4) (aa (aj 6) aq))) (aa (aj 3) aq))) (f2 (dN false) (Cm aQ "plain" (lU aQ) (aj 4)) (aj 1))))))))))))))))))
noncomputable def Vc (aQ:Addr)(cP:List (Str×D)):FF:=λds=>if ds.length=1 then fW (Oj aQ cP (aW 9 ds))else none
end K
section
variable {G G1 G2:bw->Option DR}{ρ ρ':bw}{d:D}{k:RK}{F:FD}{i:Nat}
theorem oh {α β:Type}{F:aH->Option α}{fl:α->Bool}{k:α->Bool->β}{d:α}(h:F (vis ρ)=some d)(hf:fl d=true):three F fl k ρ=some (k d true):=by
 unfold three
 rw[h]
 simp[hf]
theorem aD (h:G1 ρ=some (.nx ρ')):aO G1 G2 ρ=G2 ρ':=by unfold aO;rw[h];rfl
theorem oJ (h:G1 ρ=some (.rt d k ρ')):aO G1 G2 ρ=some (.rt d k ρ'):=by unfold aO;rw[h];rfl
theorem bB (h:F (vis ρ)=some d)(hf:flat d=true):bF i F ρ=some (.nx (ρ.set i (some (.val d true)))):=oh h hf
theorem Q3 {T:FT}{b:Bool}(h:T (vis ρ)=some b):jM T G1 G2 ρ=if b=true then G1 ρ else G2 ρ:=by unfold jM;rw[h];rfl
theorem cV (h:F (vis ρ)=some d)(hf:flat d=true):fc F ρ=some (.rt d .new ρ):=oh h hf
theorem jL {FI:aH->Option (List D×List D)}{T:D->Bool->bw->Option bw}{r:List D×List D}(h0:FI (vis ρ)=some r)(h1:FI (vals true ρ)=some r):f9 FI T G ρ=cT T G true r.1 ρ:=by
 unfold f9 three
 rw[h0,h1]
 by_cases h:(flat.flats r.1&&flat.flats r.2)=true<;>simp[h]
theorem sV (h0:F (vis ρ)=some d)(h1:F (vals true ρ)=some d):bF i F ρ=some (.nx (ρ.set i (some (.val d true)))):=by
 unfold bF three
 rw[h0,h1]
 by_cases h:flat d=true<;>simp[h]
theorem ig {l:List D}{fr:Bool}{tg:Option Nat}(hi:ρ[i]?=some (some (.own l fr tg)))(hl:l.length<sizeLine)(h:F (vis ρ)=some d)(hf:flat d=true):eF i F ρ=some (.nx (ρ.set i (some (.own (l++[d]) fr tg)))):=by
 unfold eF
 rw[hi]
 simp[hl,h,hf]
theorem eY {T:D->Bool->bw->Option bw}{fr:Bool}{ds:List D}{uo Bk:bw}(hT:T d fr ρ=some uo)(hG:G uo=some (.nx Bk)):cT T G fr (d::ds) ρ=cT T G fr ds Bk:=by
 simp only[cT,hT,hG,Option.bind_some]
theorem MF {l:List D}(h:∀d∈l,flat d=true):flat.flats l=true:=by
 induction l with
 |nil=>rfl
 |cons x l ih=>simp[flat.flats,h x (by simp),ih λd hd=>h d (by simp[hd])]
theorem cA {α:Type}{f:α->D}{l:List α}(h:∀a,flat (f a)=true):flat.flats (l.map f)=true:=MF λd hd=>by
 obtain⟨a,_,rfl⟩:=List.mem_map.mp hd
 exact h a
end
theorem oM (a b:String):(Str.ofString a=Str.ofString b)=(a=b):=by
 apply propext
 constructor
 ·intro h
  rw[Str.ofString_eq_toList,Str.ofString_eq_toList]at h
  have h2:a.toList.map Char.toNat=b.toList.map Char.toNat:=by
   have:=congrArg (λx=>x.cps.toList) h
   simpa using this
  have h3:a.toList=b.toList:=(List.map_inj_right (λx y e=>Char.ext (UInt32.toNat.inj e))).mp h2
  exact String.toList_inj.mp h3
 ·rintro rfl;rfl
theorem vo (a b:String):(Str.ofString a==Str.ofString b)=decide (a=b):=by
 cases h:decide (a=b)with
 |true=>simp[of_decide_eq_true h]
 |false=>simp[oM,of_decide_eq_false h]
theorem aB {g:D->D->Option D}{a b:FD}{ρ:aH}{x y z:D}(ha:a ρ=some x)(hb:b ρ=some y)(hg:g x y=some z):f2 g a b ρ=some z:=by
 show(a ρ).bind (λx=>(b ρ).bind λy=>g x y)=some z
 rw[ha,Option.bind_some,hb,Option.bind_some,hg]
theorem eU {g:D->D->Option D}{a b:FD}{ρ:aH}{x y:D}{z:Bool}(ha:a ρ=some x)(hb:b ρ=some y)(hg:g x y=some (.bl z)):t2 g a b ρ=some z:=by
 show(a ρ).bind (λx=>(b ρ).bind λy=>(g x y).bind Dv)=some z
 rw[ha,Option.bind_some,hb,Option.bind_some,hg];rfl
theorem bU {a:FD}{s:FL}{ρ:aH}{x:D}{l:List D}(ha:a ρ=some x)(hs:s ρ=some l):aa a s ρ=some (x::l):=by
 show(a ρ).bind (λx=>(s ρ).map λl=>x::l)=_
 rw[ha,Option.bind_some,hs];rfl
theorem aR {a:FD}{ρ:aH}{x:D}(ha:a ρ=some x):aa a aq ρ=some [x]:=bU ha rfl
theorem jE {g:List D->Option D}{s:FL}{ρ:aH}{l:List D}{x:D}(hs:s ρ=some l)(hg:g l=some x):fB g s ρ=some x:=by
 show(s ρ).bind g=_
 rw[hs,Option.bind_some,hg]
theorem cN {s:FL}{ρ:aH}{l:List D}(hs:s ρ=some l)(hl:l.length<=16777216):cF s ρ=some (.tup l):=by
 show(s ρ).bind CW=_
 rw[hs,Option.bind_some]
 unfold CW
 rw[if_pos (by rw[sizeLine_eq];exact hl)]
theorem bz {Ff:FF}{yE:List D}{s:FL}{ρ:aH}{l:List D}{r:D×RK}{d:D}(hs:s ρ=some l)(hf:Ff (l++yE)=some r)(hk:rF r=some d):aC Ff yE s ρ=some d:=by
 show(s ρ).bind (λl=>(Ff (l++yE)).bind rF)=_
 rw[hs,Option.bind_some,hf,Option.bind_some,hk]
theorem je {n:FL}{ρ:aH}{l:List D}(h:n ρ=some l):fZ n ρ=some (.lst l):=by
 show(n ρ).map D.lst=_
 rw[h];rfl
theorem gP {cap:List (Option Nat)}{I:FI}{T:D->aH->Option aH}{Tt:FT}{Fe:FD}{ρ:aH}{r:List D×List D}{l:List D}(h:I ρ=some r)(hl:r.1.length<=16777216)(hc:fH T Tt Fe (inD cap ρ) r.1=some l):cI cap I T Tt Fe ρ=some l:=by
 unfold cI
 rw[h,Option.bind_some,if_pos (by rw[sizeLine_eq];exact hl),hc]
theorem v8 {a:FD}{ρ:aH}{l:List D}(h:a ρ=some (.tup l)):fj a ρ=some (l,[.tup l]):=by
 show(a ρ).bind Vl=_
 rw[h];rfl
theorem jj {a:FD}{ρ:aH}{l:List D}(h:a ρ=some (.lst l)):fj a ρ=some (l,[.lst l]):=by
 show(a ρ).bind Vl=_
 rw[h];rfl
theorem um {a:FD}{ρ:aH}{l:List D}(h:a ρ=some (.lst l)\/a ρ=some (.tup l)):fB (lC cu eO) (aa a aq) ρ=some (.tup l):=by
 rcases h with h|h
 ·exact jE (aR h) rfl
 ·exact jE (aR h) rfl
theorem ql {C:Addr}{f:Str}{a:FD}{ρ:aH}{ks:List Str}{l:List D}{d:D}(h:a ρ=some (.ins C ks l))(hg:Bo ks l f=some d):tM C f a ρ=some d:=by
 show(a ρ).bind (P0 C f)=_
 rw[h,Option.bind_some]
 simp only[P0,if_true,hg]
theorem jF {T:FT}{G1 G2:GS}{ρ:bw}(h:T (vis ρ)=some true):jM T G1 G2 ρ=G1 ρ:=by rw[Q3 h];rfl
theorem iu {T:FT}{G1 G2:GS}{ρ:bw}(h:T (vis ρ)=some false):jM T G1 G2 ρ=G2 ρ:=by rw[Q3 h];rfl
theorem a0a {a:FD}{ρ:aH}{b:Bool}(h:a ρ=some (.bl b)):tV a ρ=some b:=by
 show(a ρ).bind Dv=_
 rw[h];rfl
theorem EY {a b:FT}{ρ:aH}{x y:Bool}(ha:a ρ=some x)(hb:x=true->b ρ=some y):wQ a b ρ=some (x&&y):=by
 show(a ρ).bind (λx=>if x=true then b ρ else some false)=_
 rw[ha]
 cases x with
 |true=>exact hb rfl
 |false=>rfl
theorem Fd {a b:FT}{ρ:aH}{x y:Bool}(ha:a ρ=some x)(hb:x=false->b ρ=some y):yt a b ρ=some (x||y):=by
 show(a ρ).bind (λx=>if x=true then some true else b ρ)=_
 rw[ha]
 cases x with
 |true=>rfl
 |false=>exact hb rfl
theorem V0 {a:FT}{ρ:aH}{x:Bool}(ha:a ρ=some x):mO a ρ=some (!x):=by
 show(a ρ).map (λx=>!x)=_
 rw[ha];rfl
theorem uy {T:String}{g:D->List D->Option D}{o:FD}{s:FL}{ρ:aH}{x d:D}{l:List D}(ho:o ρ=some x)(ht:VD T x=true)(hs:s ρ=some l)(hg:g x l=some d):vU T g o s ρ=some d:=by
 show(o ρ).bind (λx=>if VD T x=true then(s ρ).bind λl=>g x l else none)=_
 rw[ho,Option.bind_some,if_pos ht,hs,Option.bind_some,hg]
theorem wu {t:FT}{a b:FD}{ρ:aH}{x:Bool}{d:D}(ht:t ρ=some x)(ha:x=true->a ρ=some d)(hb:x=false->b ρ=some d):Ka t a b ρ=some d:=by
 show(t ρ).bind (λx=>if x=true then a ρ else b ρ)=_
 rw[ht]
 cases x with
 |true=>exact ha rfl
 |false=>exact hb rfl
theorem Eb {a b:FD}{ρ:aH}{d:D}(ha:a ρ=some (.bl true))(hb:b ρ=some d):Ea a b ρ=some d:=by
 show(a ρ).bind (λx=>(Dv x).bind λy=>if y=true then b ρ else some (.bl false))=_
 rw[ha]
 exact hb
theorem cB {i:Nat}{F:FL}{ρ:bw}{l:List D}(h:F (vis ρ)=some l)(hf:flat.flats l=true):gR i F ρ=some (.nx (ρ.set i (some (.own l true none)))):=oh h hf
namespace K
theorem lY (c k:Int)(h1: -1000<k)(h2:k<1000):∃r,bh [.int c,.int k]=some (.int r,.new)/\0<=r:=by
 have h3: -(2 ^ 64)<k/\k<2 ^ 64:=by omega
 refine⟨(c*48271 % 2147483647+7919*k*k+104729*k)*69621 % 2147483629/7,?_,by omega⟩
 have h4: -18446744073709551616<k/\k<18446744073709551616:=by omega
 simp[aW,aO,bF,fc,three,vis,at?,f2,aj,fC,aP,Dv,flat,fW,L.toD,cQ,cj,gA,jc,bh,tR,h4]
theorem lR (l:List Int)(k:Nat):∃r,aL [.tu l,.int k]=some (.int r,.new):=by
 by_cases h:k<l.length
 ·refine⟨l[k],?_⟩
  simp[aW,aO,bF,fc,three,vis,at?,f2,aj,fC,aP,Dv,flat,fW,L.toD,jM,cg,t2,fB,aa,aq,mX,aG,Ve,aL,mF,kY,h,yD,Kr]
 ·exact⟨0,by simp[aW,aO,bF,fc,three,vis,at?,f2,aj,fC,aP,Dv,flat,fW,L.toD,jM,cg,t2,fB,aa,aq,mX,aL,mF,kY,h]⟩
end K
inductive Va where
 |nm (x:Str)
 |no (i:Int)
noncomputable def Va.d:Va->D
 | .nm x=> .str x
 | .no i=> .int i
inductive Rw where
 |put (c:Str) (v:Va)
 |get (b c:Str)
 |swap (b c:Str) (v:Va)
 |add (b:Str) (v u:Va)
 |skip (b:Str) (n:Nat)
 |fence
noncomputable def Rw.d:Rw->D
 | .put c v=> .tup [.str "put",.str c,v.d]
 | .get b c=> .tup [.str "get",.str b,.str c]
 | .swap b c v=> .tup [.str "swap",.str b,.str c,v.d]
 | .add b v u=> .tup [.str "add",.str b,v.d,u.d]
 | .skip b n=> .tup [.str "skip",.str b,.int n]
 | .fence=> .tup [.str "fence"]
noncomputable def Va.bx:Va->List Str
 | .nm x=>[x]
 | .no _=>[]
noncomputable def Rw.bx:Rw->List Str
 | .put _ v=>v.bx
 | .get b _=>[b]
 | .swap b _ v=>b::v.bx
 | .add b v u=>b::(v.bx++u.bx)
 | .skip b _=>[b]
 | .fence=>[]
noncomputable def mz:Nat->D->Bool
 |_,.non=>true
 |_,.bl _=>true
 |_,.int _=>true
 |_,.str x=>PyData.strOk x
 |n+1,.tup l=>l.all (mz n)
 |n+1,.lst l=>l.all (mz n)
 |_,_=>false
theorem R6:∀(n:Nat) (d:D),mz n d=true->Ju d=true/\(mC d).canLay0=true/\(mC d).depth<=n:=by
 intro n
 induction n with
 |zero=>intro d h;cases d<;>simp[mz,Ju,mC,PyData.canLay0,PyData.depth]at h ⊢;exact h
 |succ n ih=>
  have all:∀l:List D,l.all (mz n)=true->Br l=true/\PyData.canLayAll0 (iT l)=true/\PyData.depthAll (iT l)<=n:=by
   intro l
   induction l with
   |nil=>intro _;simp[Br,iT,PyData.canLayAll0,PyData.depthAll]
   |cons x l il=>
    intro h
    rw[List.all_cons,Bool.and_eq_true]at h
    obtain⟨a,b,c⟩:=ih x h.1
    obtain⟨a',b',c'⟩:=il h.2
    refine⟨by simp[Br,a,a'],by simp[iT,PyData.canLayAll0,b,b'],?_⟩
    simp only[iT,PyData.depthAll]
    omega
  intro d h
  cases d with
  |tup l=>
   obtain⟨a,b,c⟩:=all l (by simpa only[mz]using h)
   exact⟨by simpa only[Ju]using a,by simpa only[mC,PyData.canLay0]using b,by simp only[mC,PyData.depth];omega⟩
  |lst l=>
   obtain⟨a,b,c⟩:=all l (by simpa only[mz]using h)
   exact⟨by simpa only[Ju]using a,by simpa only[mC,PyData.canLay0]using b,by simp only[mC,PyData.depth];omega⟩
  |_=>simp[mz,Ju,mC,PyData.canLay0,PyData.depth]at h ⊢<;>exact h
theorem jd {n:Nat}{d:D}(h:mz n d=true)(hn:n<=64:=by decide):qP d=true:=by
 obtain⟨a,b,c⟩:=R6 n d h
 simp only[qP,SeqAt.shaped,a,b,Bool.true_and,decide_eq_true_eq]
 omega
theorem qF (i:Int):qP (.int i)=true:=jd (n:=0) rfl
theorem o7 (x:Str)(h:PyData.strOk x=true):qP (.str x)=true:=jd (n:=0) h
theorem eq_int (a b:Int):qN (.int a) (.int b)=(a==b):=by simp[qN,mC,PyData.eqv]
theorem eq_str (a b:Str):qN (.str a) (.str b)=(a==b):=by simp[qN,mC,PyData.eqv]
theorem Pu (a b:List D):qN (.tup a) (.tup b)=PyData.eqvAll (iT a) (iT b):=by simp[qN,mC,PyData.eqv]
theorem Wh (a b:List D):qN (.lst a) (.lst b)=PyData.eqvAll (iT a) (iT b):=by simp[qN,mC,PyData.eqv]
theorem X6:PyData.strOk "get"=true:=by decide+kernel
theorem t6:PyData.strOk "skip"=true:=by decide+kernel
theorem rJ:PyData.strOk "fence"=true:=by decide+kernel
theorem U4:PyData.strOk "cell"=true:=by decide+kernel
theorem Ac:PyData.strOk "value"=true:=by decide+kernel
theorem Jx:PyData.strOk "box"=true:=by decide+kernel
theorem Nv:PyData.strOk "figure"=true:=by decide+kernel
namespace K
theorem JV (k:Str)(hk:PyData.strOk k=true)(x:Str):nM [.str k,.str x]=some (.bl (k=="box"||k=="value"),.new):=by
 have e1:∀y:Str,PyData.strOk y=true->dN false (.str k) (.str y)=some (.bl (k==y)):=λy hy=>by simp[dN,o7,hk,hy,eq_str]
 cases hb:(k==("box":Str))<;>cases hv:(k==("value":Str))<;>simp[aW,aO,bF,fc,three,vis,at?,f2,aj,fC,aP,Dv,flat,fW,L.toD,fOr,Ea,Wl,By,O4,nM,vW,e1 _ Jx,e1 _ Ac,hb,hv]
theorem JT (k:Str)(hk:PyData.strOk k=true)(i:Int):nM [.str k,.int i]=some (.bl (k=="box"),.new):=by
 have e1:∀y:Str,PyData.strOk y=true->dN false (.str k) (.str y)=some (.bl (k==y)):=λy hy=>by simp[dN,o7,hk,hy,eq_str]
 cases hb:(k==("box":Str))<;>cases hv:(k==("value":Str))<;>simp[aW,aO,bF,fc,three,vis,at?,f2,aj,fC,aP,Dv,flat,fW,L.toD,fOr,Ea,Wl,By,O4,nM,vW,e1 _ Jx,e1 _ Ac,hb,hv]
theorem su (r:Rw):ie bC [r.d]=some (.lst (r.bx.map .str),.own):=by
 rcases r with⟨c,_|_⟩|⟨b,c⟩|⟨b,c,_|_⟩|⟨b,_|_,_|_⟩|⟨b,n⟩|_<;>simp[aW,aO,bF,fc,three,vis,at?,f2,aj,fC,aP,Dv,flat,fW,L.toD,oH,cI,fH,inD,jG,cJ,aV,jX,CG,vI,yQ,aa,aq,u6,fL,gW,Gj,cutD,HT.jh,aG,Ve,yD,Kr,VN,tV,aC,rF,flat.flats,sizeLine_eq,oM,vo,ie,qI,bC,YK,V1,KTD.datumAt,JV,JT,U4,Ac,Jx,Nv,Rw.d,Va.d,Rw.bx,Va.bx]
end K
noncomputable def wB (acc:List Str)(x:Str):List Str:=if x∈acc then acc else acc++[x]
noncomputable def Yv (t:List Rw):List Str:=(t.flatMap Rw.bx).foldl wB []
theorem RV (s:Str)(acc:List Str):((acc.map D.str).any λy=>qN y (.str s))=decide (s∈acc):=by
 induction acc with
 |nil=>simp
 |cons a acc ih=>
  rw[List.map_cons,List.any_cons,ih,eq_str]
  by_cases h:a=s
  ·simp[h]
  ·have h':¬s=a:=λe=>h e.symm
   simp[h,h']
theorem Lp {acc:List Str}(h:∀x∈acc,PyData.strOk x=true):qP (.lst (acc.map .str))=true:=jd (n:=1) (by
 simp only[mz,List.all_eq_true,List.mem_map]
 rintro d ⟨x,hx,rfl⟩
 exact h x hx)
theorem Pa {s:Str}{acc:List Str}(hs:PyData.strOk s=true)(h:∀x∈acc,PyData.strOk x=true)(n:Bool):tZ n (.str s) (.lst (acc.map .str))=some (.bl (if n then !decide (s∈acc)else decide (s∈acc))):=by
 unfold tZ
 simp only[uB,Option.bind_some,o7 s hs,Lp h,Bool.and_self,if_true,RV]
theorem GQ (acc:List Str)(x:Str):(wB acc x).length<=acc.length+1:=by
 unfold wB
 split<;>simp
theorem Gx {l:List Str}:∀{acc:List Str},(l.foldl wB acc).length<=acc.length+l.length:=by
 induction l with
 |nil=>intro acc;simp
 |cons x l ih=>
  intro acc
  have h1:=ih (acc:=wB acc x)
  have h2:=GQ acc x
  simp only[List.foldl_cons,List.length_cons]
  omega
noncomputable def Qs (r:Rw):Prop:=∀x∈r.bx,PyData.strOk x=true
theorem W0 (r:Rw):r.bx.length<=3:=by
 rcases r with⟨c,_|_⟩|⟨b,c⟩|⟨b,c,_|_⟩|⟨b,_|_,_|_⟩|⟨b,n⟩|_<;>simp[Rw.bx,Va.bx]
theorem cR (r:Rw):flat r.d=true:=by
 rcases r with⟨c,_|_⟩|⟨b,c⟩|⟨b,c,_|_⟩|⟨b,_|_,_|_⟩|⟨b,n⟩|_<;>rfl
namespace K
end K
theorem Mt (l:List D)(i:Nat):aG (.tup l) (.int i)=l[i]?:=by
 simp only[aG,Ve,yD,Kr]
 by_cases h:i<l.length
 ·simp[h]
 ·simp[h]
theorem sI (l:List D)(i:Nat):aG (.lst l) (.int i)=l[i]?:=by
 simp only[aG,Ve,yD,Kr]
 by_cases h:i<l.length
 ·simp[h]
 ·simp[h]
theorem Ez {α:Type}{f:α->D}{l:List α}{i:Nat}{a:α}(h:l[i]?=some a):aG (.tup (l.map f)) (.int i)=some (f a):=by
 rw[Mt,List.getElem?_map,h];rfl
theorem comp_map {α:Type}{T:D->aH->Option aH}{Tt:FT}{Fe:FD}{ρ:aH}{f g:α->D}(r:α->aH):∀(l:List α),(∀a∈l,T (f a) ρ=some (r a)/\Tt (r a)=some true/\Fe (r a)=some (g a))->fH T Tt Fe ρ (l.map f)=some (l.map g)
 |[],_=>rfl
 |a::l,h=>by
  obtain⟨h1,h2,h3⟩:=h a (by simp)
  have:=comp_map r l λb hb=>h b (by simp[hb])
  simp[fH,h1,h2,h3,this]
theorem gO {α:Type}{T:D->aH->Option aH}{Tt:FT}{Fe:FD}{ρ:aH}{f g:α->D}(p:α->Bool)(r:α->aH):∀(l:List α),(∀a∈l,T (f a) ρ=some (r a)/\Tt (r a)=some (p a)/\Fe (r a)=some (g a))->fH T Tt Fe ρ (l.map f)=some ((l.filter p).map g)
 |[],_=>rfl
 |a::l,h=>by
  obtain⟨h1,h2,h3⟩:=h a (by simp)
  have:=gO p r l λb hb=>h b (by simp[hb])
  cases hp:p a<;>simp[fH,h1,h2,h3,this,hp]
structure Pl where
 cells:List (Str×Int)
 jA:List (List Rw)
noncomputable def cD (c:Str×Int):D:= .tup [.str c.1,.int c.2]
noncomputable def dU (t:List Rw):D:= .tup (t.map Rw.d)
noncomputable def Pl.eV (p:Pl):D:= .tup (p.cells.map cD)
noncomputable def Pl.nA (p:Pl):D:= .tup (p.jA.map dU)
noncomputable def Pl.d (p:Pl):D:= .tup [p.eV,p.nA]
noncomputable def zU (t:List Rw):D:= .tup ((Yv t).map .str)
noncomputable def Pl.pr (C:Addr)(p:Pl):D:= .ins C ["cells","threads","cell_names","box_names"] [p.eV,p.nA,.tup (p.cells.map λc=> .str c.1),.tup (p.jA.map zU)]
noncomputable def Rw.cell:Rw->Option Str
 | .put c _=>some c
 | .get _ c=>some c
 | .swap _ c _=>some c
 |_=>none
structure Yp (p:Pl):Prop where
 nc:p.cells.length<=3
 nt:p.jA.length<=3
 nr:∀t∈p.jA,t.length<=20
 row:∀t∈p.jA,∀r∈t,Qs r
 cel:∀t∈p.jA,∀r∈t,∀c,r.cell=some c->c∈p.cells.map (·.1)
 X8:∀c∈p.cells,PyData.strOk c.1=true
theorem nW (t:List Rw):flat (dU t)=true:=by simp[dU,flat,cA cR]
theorem yU (c:Str×Int):flat (cD c)=true:=rfl
theorem Cq (t:List Rw):flat (zU t)=true:=by simp only[zU,flat];exact cA λ_=>rfl
theorem rC (p:Pl):flat p.eV=true:=by simp[Pl.eV,flat,cA yU]
theorem wz (p:Pl):flat p.nA=true:=by simp[Pl.nA,flat,cA nW]
theorem n6 (p:Pl):flat p.d=true:=by simp[Pl.d,flat,flat.flats,rC,wz]
theorem Kp (s:Str)(acc:List Str):Bj (acc.map Sum.inr) (.inr s)=decide (s∈acc):=by
 unfold Bj
 induction acc with
 |nil=>simp
 |cons a acc ih=>
  rw[List.map_cons,List.any_cons,ih]
  by_cases h:a=s
  ·simp[h]
  ·have h':¬s=a:=λe=>h e.symm
   simp[h,h']
theorem JG (acc:List Str)(k:Key):rY (acc.map Sum.inr) (acc.map λ_=>D.bl true) k (.bl true)=acc.map λ_=>D.bl true:=by
 unfold rY
 induction acc with
 |nil=>rfl
 |cons a acc ih=>simp only[List.map_cons,List.zip_cons_cons,ih];simp
namespace K
theorem JD (l:List Str):∀(acc:List Str) (a0 a2 x:Option L),acc.length+l.length<1000->
 ∃x',cT (aF 3) (Cv 1 (aj 3) (fC (.bl true))) true (l.map .str) [a0,some (.m9 (acc.map .inr) (acc.map λ_=> .bl true) true),a2,x]=some (.nx [a0,some (.m9 ((l.foldl wB acc).map .inr) ((l.foldl wB acc).map λ_=> .bl true) true),a2,x']):=by
 induction l with
 |nil=>intro acc a0 a2 x _;exact⟨x,rfl⟩
 |cons s l ih=>
  intro acc a0 a2 x h3
  simp only[List.length_cons]at h3
  obtain⟨x',e⟩:=ih (wB acc s) a0 a2 (some (.val (.str s) true)) (by have:=GQ acc s;omega)
  refine⟨x',?_⟩
  rw[List.map_cons,List.foldl_cons,<-e]
  refine eY rfl ?_
  simp only[Cv,List.set,List.getElem?_cons_succ,List.getElem?_cons_zero,List.length_map,sizeLine_eq,if_pos (show acc.length<16777216 by omega)]
  by_cases hm:s∈acc
  ·simp[vis,at?,L.toD,aj,fC,flat,Bq,yo,Kp,hm,wB,JG]
  ·simp[vis,at?,L.toD,aj,fC,flat,Bq,yo,Kp,hm,wB]
theorem yO (t:List Rw)(hl:t.length<100):gG bC [dU t]=some (zU t,.new):=by
 have key:∀(t:List Rw) (acc:List Str) (a0 x y:Option L),acc.length+3*t.length<1000->
  ∃x' y',cT (aF 2) (f9 (fj (aC (ie bC) [] (aa (aj 2) aq))) (aF 3) (Cv 1 (aj 3) (fC (.bl true)))) true (t.map Rw.d) [a0,some (.m9 (acc.map .inr) (acc.map λ_=> .bl true) true),x,y]
   =some (.nx [a0,some (.m9 (((t.flatMap Rw.bx).foldl wB acc).map .inr) (((t.flatMap Rw.bx).foldl wB acc).map λ_=> .bl true) true),x',y']):=by
  intro t
  induction t with
  |nil=>intro acc a0 x y _;exact⟨x,y,rfl⟩
  |cons r t ih=>
   intro acc a0 x y h3
   have b:=W0 r
   simp only[List.length_cons]at h3
   obtain⟨z,e1⟩:=JD r.bx acc a0 (some (.val r.d true)) y (by omega)
   obtain⟨x',y',e2⟩:=ih (r.bx.foldl wB acc) a0 (some (.val r.d true)) z (by have:=Gx (l:=r.bx) (acc:=acc);omega)
   refine⟨x',y',?_⟩
   rw[List.map_cons,List.flatMap_cons,List.foldl_append,<-e2]
   refine eY rfl ?_
   rw[jL (r:=(r.bx.map .str,[.lst (r.bx.map .str)])) (jj (bz (aR rfl) (su r) rfl)) (jj (bz (aR rfl) (su r) rfl))]
   exact e1
 obtain⟨x',y',e⟩:=key t [] (some (.val (dU t) false)) none none (by simp;omega)
 have hf:flat.flats (t.map Rw.d)=true:=cA cR
 have e1:lG bC (aW 4 [dU t])=some (.rt (zU t) .new [some (.val (dU t) false),some (.m9 ((Yv t).map .inr) ((Yv t).map λ_=> .bl true) true),x',y']):=by
  unfold lG
  rw[aD (ρ':=[some (.val (dU t) false),some (.m9 [] [] true),none,none]) (by rfl)]
  rw[aD (ρ':=[some (.val (dU t) false),some (.m9 ((Yv t).map .inr) ((Yv t).map λ_=> .bl true) true),x',y']) ?_]
  ·refine cV ?_ (Cq t)
   simp[fB,aa,aq,aj,at?,vis,L.toD,lC,cu,eO,zU,kD,Function.comp_def]
  ·rw[jL (r:=(t.map Rw.d,[.tup (t.map Rw.d)])) (by rfl) (v8 (by simp[aj,vals,pick,at?,flat,hf,dU]))]
   exact e
 simp only[gG,List.length_cons,List.length_nil,if_true,e1,fW]
end K
structure PS0 (p:Pl):Prop where
 nc:p.cells.length<=3
 nt:p.jA.length<=3
 nr:∀t∈p.jA,t.length<=90
noncomputable def sq (b:Bool)(l:List D):D:=if b=true then .lst l else .tup l
noncomputable def Ax (b:Bool)(t:List Rw):D:=sq b (t.map Rw.d)
theorem zM {F:FD}{ρ:bw}{d:D}(h:F (vis ρ)=some d):wW F ρ=some (.rt d .new ρ):=by unfold wW;rw[h];rfl
theorem kZ {i:Nat}{F:FD}{ρ:bw}{d:D}(h:F (vis ρ)=some d):ir i F ρ=some (.nx (ρ.set i (some (.val d true)))):=by unfold ir;rw[h];rfl
namespace K
theorem pY (p:Pl)(hp:PS0 p):pD bC [p.eV,p.nA]=some ((["cells","threads","cell_names","box_names"]:List Str),[p.eV,p.nA,.tup (p.cells.map λc=> .str c.1),.tup (p.jA.map zU)]):=by
 have n1:=hp.nc
 have n2:=hp.nt
 have e1:fH (jG 2 (cJ (aV 0) (cJ (aV 1) jX))) tT (aj 0) [none,none] (p.cells.map cD)=some (p.cells.map λc=> .str c.1):=
  comp_map (λc=>[some (.str c.1),some (.int c.2)]) p.cells λc _=>⟨by rfl,rfl,by rfl⟩
 have e2:fH (aV 0) tT (aC (gG bC) [] (aa (aj 0) aq)) [none] (p.jA.map dU)=some (p.jA.map zU):=
  comp_map (λt=>[some (dU t)]) p.jA λt ht=>⟨by rfl,rfl,by
   have:=hp.nr t ht
   exact bz (aR rfl) (yO t (by omega)) rfl⟩
 have f1:flat.flats (p.cells.map λc=>D.str c.1)=true:=cA λ_=>rfl
 have f2:flat.flats (p.jA.map zU)=true:=cA Cq
 have z1:p.cells.length<=16777216:=by omega
 have z2:p.jA.length<=16777216:=by omega
 simp only[pD,Az,runInit,J6,List.length_cons,List.length_nil,if_true]
 simp[aj,at?,rC,wz,fB,aa,aq,fZ,cI,fj,Pl.eV,Pl.nA,Vl,Z4,sizeLine_eq,z1,z2,inD,e1,e2,lC,cu,flat,f1,f2,cA yU,cA nW,oM]
theorem vO (b:Bool)(l:List D)(hl:l.length<=100)(h:∀d∈l,∃m,d= .tup m)(hf:flat.flats l=true):gK [sq b l]=some (.tup l,.new):=by
 have e:fH (aV 0) tT (fB (lC cu eO) (aa (aj 0) aq)) [none] l=some l:=by
  have:=comp_map (T:=aV 0) (Tt:=tT) (Fe:=fB (lC cu eO) (aa (aj 0) aq)) (ρ:=[none]) (f:=id) (g:=id) (λd=>[some d]) l (λd hd=>by
   obtain⟨m,rfl⟩:=h d hd
   exact⟨rfl,rfl,rfl⟩)
  simpa using this
 have e1:uP (aW 1 [sq b l])=some (.rt (.tup l) .new [some (.val (sq b l) false)]):=by
  refine cV ?_ (by simpa[flat]using hf)
  have:l.length<=16777216:=by omega
  cases b<;>simp[sq,fB,aa,aq,fZ,cI,fj,Vl,Z4,itL,aj,at?,vis,aW,L.toD,sizeLine_eq,this,inD,e,lC,cu]
 simp only[gK,List.length_cons,List.length_nil,if_true,e1,fW]
theorem qH (C:Addr)(p:Pl)(hp:PS0 p)(b b':Bool):dw C bC [.tup [p.eV,sq b (p.jA.map (Ax b'))]]=some (p.pr C,.new):=by
 have n1:=hp.nc
 have n2:=hp.nt
 have t1:gK [p.eV]=some (p.eV,.new):=vO false (p.cells.map cD) (by simp;omega) (by simp only[List.mem_map];rintro d ⟨c,_,rfl⟩;exact⟨_,rfl⟩) (cA yU)
 have t2:∀t∈p.jA,gK [Ax b' t]=some (dU t,.new):=λt ht=>vO b' (t.map Rw.d) (by have:=hp.nr t ht;simp;omega) (by
  simp only[List.mem_map]
  rintro d ⟨r,_,rfl⟩
  cases r<;>exact⟨_,rfl⟩) (cA cR)
 have e2:fH (aV 0) tT (aC gK [] (aa (aj 0) aq)) [none] (p.jA.map (Ax b'))=some (p.jA.map dU):=
  comp_map (λt=>[some (Ax b' t)]) p.jA λt ht=>⟨by rfl,rfl,bz (l:=[Ax b' t]) (aR (x:=Ax b' t) rfl) (t2 t ht) rfl⟩
 have z2:p.jA.length<=16777216:=by omega
 have vp:=pY p hp
 have d2:Vl (sq b (p.jA.map (Ax b')))=some (p.jA.map (Ax b'),[sq b (p.jA.map (Ax b'))]):=by cases b<;>rfl
 have e1:tU C bC (aW 1 [.tup [p.eV,sq b (p.jA.map (Ax b'))]])=some (.rt (p.pr C) .new [some (.val (.tup [p.eV,sq b (p.jA.map (Ax b'))]) false)]):=by
  refine zM ?_
  have d0:∀x,aG (.tup [p.eV,x]) (.int 0)=some p.eV:=λ_=>rfl
  have d1:∀x,aG (.tup [p.eV,x]) (.int 1)=some x:=λ_=>rfl
  have a0:at? (vis (aW 1 [.tup [p.eV,sq b (p.jA.map (Ax b'))]])) 0=some (.tup [p.eV,sq b (p.jA.map (Ax b'))]):=rfl
  simp only[Vi,aa,aq,aC,DL.f2,aj,fC,a0,Option.bind_some,d0,d1,t1,rF,fB,fZ,cI,fj,d2,List.length_map,sizeLine_eq,z2,if_true,inD,List.map_cons,List.map_nil,e2,Option.map_some,List.append_nil,lC,cu]
  have d3:D.tup (p.jA.map dU)=p.nA:=rfl
  rw[d3]
  simp[flat.flats,rC,wz,vp,Pl.pr]
 simp only[dw,List.length_cons,List.length_nil,if_true,e1,fW]
end K
noncomputable def Rw.word:Rw->Str
 | .put _ _=>"put"
 | .get _ _=>"get"
 | .swap _ _ _=>"swap"
 | .add _ _ _=>"add"
 | .skip _ _=>"skip"
 | .fence=>"fence"
theorem o9 (r:Rw):aG r.d (.int 0)=some (.str r.word):=by cases r<;>rfl
theorem z7 (r:Rw):PyData.strOk r.word=true:=by cases r<;>simp only[Rw.word]<;>decide+kernel
theorem HD {g g':D->D->Option D}{a b d:D}(h:g a b=some d):jc g g' a b=some d:=by
 unfold jc
 rw[h]
theorem J7 (l:List D):PyData.eqvAll (iT l) []=l.isEmpty:=by cases l<;>simp[iT,PyData.eqvAll]
theorem Ah (p:Pl):Bo (["cells","threads","cell_names","box_names"]:List Str) [p.eV,p.nA,.tup (p.cells.map λc=> .str c.1),.tup (p.jA.map zU)] "cells"=some p.eV:=by simp[Bo,List.lookup]
theorem qy (p:Pl):Bo (["cells","threads","cell_names","box_names"]:List Str) [p.eV,p.nA,.tup (p.cells.map λc=> .str c.1),.tup (p.jA.map zU)] "threads"=some p.nA:=by simp[Bo,List.lookup,vo]
namespace K
end K
theorem a0w (i:Nat):jc cQ bG (.int 2) (.int (i:Int))=some (.int (2*(i:Int))):=HD (by
 show(if(-(2 ^ 64)<(2:Int)/\(2:Int)<2 ^ 64)\/(-(2 ^ 64)<(i:Int)/\(i:Int)<2 ^ 64)then some (D.int (2*(i:Int)))else none)=_
 rw[if_pos (.inl ⟨by omega,by omega⟩)])
namespace K
theorem zy (l:List D)(i:Nat):cutD l none (some (i:Int))=l.take i:=by
 simp only[cutD,HT.jh,List.drop_zero,Nat.sub_zero]
 rw[if_neg (by omega),Int.toNat_natCast]
 by_cases h:i<=l.length
 ·rw[Nat.min_eq_left h]
 ·rw[Nat.min_eq_right (by omega),List.take_length,List.take_of_length_le (by omega)]
theorem Gf (l:List D)(i:Nat):cutD l (some (i:Int)) none=l.drop i:=by
 simp only[cutD,HT.jh]
 rw[if_neg (by omega),Int.toNat_natCast]
 by_cases h:i<=l.length
 ·rw[Nat.min_eq_left h,List.take_of_length_le (by simp)]
 ·rw[Nat.min_eq_right (by omega),List.drop_length,List.drop_of_length_le (by omega)];simp
theorem uz {a:FD}{lo hi:aH->Option (Option Int)}{ρ:aH}{d e:D}{x y:Option Int}(ha:a ρ=some d)(hl:lo ρ=some x)(hh:hi ρ=some y)(hs:Gj d x y=some e):u6 a lo hi ρ=some e:=by
 show(a ρ).bind (λd=>(lo ρ).bind λx=>(hi ρ).bind λy=>Gj d x y)=_
 rw[ha,Option.bind_some,hl,Option.bind_some,hh,Option.bind_some,hs]
theorem m7 {a:FD}{ρ:aH}{i:Int}(ha:a ρ=some (.int i)):fL a ρ=some (some i):=by
 show(a ρ).bind (λd=>(VN d).map some)=_
 rw[ha];rfl
end K
theorem CQ:∀ns:List Str,wX (ns.map .str)=some (ns.map .inr)
 |[]=>rfl
 |a::ns=>by simp[wX,Bq,CQ ns]
namespace K
theorem Vg (a b:Int):dN false (.int a) (.int b)=some (.bl (a==b)):=by simp[dN,qF,eq_int]
end K
noncomputable def Rw.parts:Rw->List D
 | .put c v=>[.str c,v.d]
 | .get b c=>[.str b,.str c]
 | .swap b c v=>[.str b,.str c,v.d]
 | .add b v u=>[.str b,v.d,u.d]
 | .skip b n=>[.str b,.int n]
 | .fence=>[]
theorem nF (r:Rw):r.d= .tup (.str r.word::r.parts):=by cases r<;>rfl
theorem Q5 {j:Nat}{Fi Fv:FD}{ρ:bw}{l:List D}{fr:Bool}{tg:Option Nat}{d:D}{k:Nat}(hj:ρ[j]?=some (some (.own l fr tg)))(hv:Fv (vis ρ)=some d)(hf:flat d=true)(hi:Fi (vis ρ)=some (.int k))(hk:k<l.length):
 Cw j Fi Fv ρ=some (.nx (ρ.set j (some (.own (l.set k d) fr tg)))):=by
 unfold Cw
 rw[hj]
 have:Hg l.length (.int k)=some k:=by simp[Hg,Kr,hk]
 simp only[hv,Option.bind_some,hf,if_true,hi,this,Option.map_some]
namespace K
end K
theorem TF {s:FL}{ρ:aH}{l:List D}(hs:s ρ=some [.tup l]):nB nList s ρ=some l:=by
 show(s ρ).bind nList=_
 rw[hs];rfl
namespace K
end K
noncomputable def TY (a:Array Nat):Bool:=a.all (·<0x110000)
theorem Ei (a b:Array Nat)(ha:TY a=true)(hb:TY b=true):TY (a++b)=true:=by
 unfold TY at*
 rw[Array.all_append,ha,hb];rfl
theorem Qt (l:List Str)(h:∀x∈l,PyData.strOk x=true):PyData.strOk (Builtin.Str.glued ("":Str) l)=true:=by
 have key:∀(l:List Str) (a:Array Nat),TY a=true->(∀x∈l,PyData.strOk x=true)->TY (l.foldl (λacc p=>acc++("":Str).cps++p.cps) a)=true:=by
  intro l
  induction l with
  |nil=>intro a ha _;exact ha
  |cons x l ih=>
   intro a ha hl
   refine ih _ (Ei _ _ (Ei _ _ ha (by decide+kernel)) (hl x (by simp))) λy hy=>hl y (by simp[hy])
 show TY _=true
 unfold Builtin.Str.glued
 refine key _ _ ?_ λy hy=>h y (List.mem_of_mem_drop hy)
 cases l with
 |nil=>decide+kernel
 |cons x l=>exact h x (by simp)
theorem Nb (l:List Str):(Builtin.Str.glued ("":Str) l).length<=(l.map (·.length)).sum:=by
 have key:∀(l:List Str) (a:Array Nat),(l.foldl (λacc p=>acc++("":Str).cps++p.cps) a).size=a.size+(l.map (·.length)).sum:=by
  intro l
  induction l with
  |nil=>intro a;simp
  |cons x l ih=>
   intro a
   rw[List.foldl_cons,ih]
   have:("":Str).cps.size=0:=by decide+kernel
   simp only[Array.size_append,this,List.map_cons,List.sum_cons]
   show a.size+0+x.cps.size+_=a.size+(x.cps.size+_)
   omega
 show Array.size _<=_
 unfold Builtin.Str.glued
 rw[key]
 cases l with
 |nil=>simp;decide+kernel
 |cons x l=>
  show x.cps.size+_<=_
  simp only[List.drop_one,List.tail_cons,List.map_cons,List.sum_cons]
  exact Nat.le_refl _
theorem O3 (l:List Str):yr (l.map .str)=some l:=by
 induction l with
 |nil=>rfl
 |cons x l ih=>simp[yr,ih]
theorem Ti {l:List Str}(h:∀x∈l,x.length<=8)(hn:l.length<=100):m5 (.str "") [.lst (l.map .str)]=some (.str (Builtin.Str.glued "" l)):=by
 have hs:(l.map (·.length)).sum<=8*l.length:=by
  clear hn
  induction l with
  |nil=>simp
  |cons x l ih=>
   have:=h x (by simp)
   have:=ih λy hy=>h y (by simp[hy])
   simp only[List.map_cons,List.sum_cons,List.length_cons]
   omega
 have h0:("":Str).length=0:=by decide+kernel
 simp only[m5,O3,Option.bind_some,h0,Nat.mul_zero,Nat.add_zero]
 rw[if_pos (by omega)]
 rfl
theorem letter (j:Int):∃ch:Nat,aG (.str "abcdefghijklmnopqrstuvwxyz") (.int (j % 26))=some (.str ⟨#[ch]⟩)/\PyData.strOk ⟨#[ch]⟩=true:=by
 have h1:("abcdefghijklmnopqrstuvwxyz":Str).cps.toList.length=26:=by decide+kernel
 have h2:("abcdefghijklmnopqrstuvwxyz":Str).cps.toList.all (λc=>decide (c<0x110000))=true:=by decide+kernel
 have h3:("abcdefghijklmnopqrstuvwxyz":Str).length<=sizeLine:=by decide+kernel
 have h4:0<=j % 26:=by omega
 have h5:j % 26<26:=by omega
 obtain⟨n,hn⟩:=Int.eq_ofNat_of_zero_le h4
 have hn':n<("abcdefghijklmnopqrstuvwxyz":Str).cps.toList.length:=by rw[h1];omega
 refine⟨("abcdefghijklmnopqrstuvwxyz":Str).cps.toList[n],?_,?_⟩
 ·rw[hn]
  simp only[aG,Ve]
  rw[if_pos h3]
  simp only[yD,Kr]
  rw[if_pos (by omega),if_pos (by omega),Int.toNat_natCast,Option.bind_some,List.getElem?_eq_getElem hn']
  rfl
 ·have:=List.all_eq_true.mp h2 _ (List.getElem_mem hn')
  have h6:=of_decide_eq_true this
  show TY #[_]=true
  simp only[TY,List.all_toArray,List.all_cons,List.all_nil,Bool.and_true,decide_eq_true_eq]
  exact h6
noncomputable def okN (x:Str):Prop:=PyData.strOk x=true/\x.length<=8
noncomputable def ok1 (x:Str):Prop:=PyData.strOk x=true/\x.length=1
theorem R9 {l:List Str}(h:∀x∈l,ok1 x):(l.map (·.length)).sum=l.length:=by
 induction l with
 |nil=>rfl
 |cons x l ih=>
  have:=(h x (by simp)).2
  have:=ih λy hy=>h y (by simp[hy])
  simp only[List.map_cons,List.sum_cons,List.length_cons]
  omega
theorem Vm {l:List Str}(h:∀x∈l,ok1 x)(hn:l.length<=7):m5 (.str "") [.lst (l.map .str)]=some (.str (Builtin.Str.glued "" l))/\PyData.strOk (Builtin.Str.glued "" l)=true/\(Builtin.Str.glued "" l).length<=l.length:=by
 refine⟨Ti (λx hx=>by have:=(h x hx).2;omega) (by omega),Qt l λx hx=>(h x hx).1,?_⟩
 have:=Nb l
 rw[R9 h]at this
 exact this
theorem O1 {x y:Str}(hx:PyData.strOk x=true)(hy:PyData.strOk y=true):PyData.strOk (x++y)=true:=Ei _ _ hx hy
theorem len_app (x y:Str):(x++y).length=x.length+y.length:=by
 show(x.cps++y.cps).size=_
 rw[Array.size_append];rfl
theorem K5 {a b:List Str}(h:a.length+b.length<=1000):aP (.lst (a.map .str)) (.lst (b.map .str))=some (.lst ((a++b).map .str)):=by
 simp only[aP]
 rw[if_pos (by rw[sizeLine_eq];simp;omega),List.map_append]
theorem K8 (l:List D)(i:Nat):Gj (.lst l) none (some (i:Int))=some (.lst (l.take i)):=by simp only[Gj,K.zy]
theorem OD (l:List D)(a b:Nat):cutD l (some (a:Int)) (some (b:Int))=(l.take b).drop a:=by
 simp only[cutD,HT.jh]
 rw[if_neg (by omega),if_neg (by omega),Int.toNat_natCast,Int.toNat_natCast,List.drop_take]
 by_cases h:a<=l.length
 ·rw[Nat.min_eq_left h]
  by_cases h2:b<=l.length
  ·rw[Nat.min_eq_left h2]
  ·rw[Nat.min_eq_right (by omega),List.take_of_length_le (by simp),List.take_of_length_le (by simp;omega)]
 ·rw[Nat.min_eq_right (show l.length<=a by omega)]
  simp[List.drop_of_length_le (show l.length<=a by omega)]
theorem lE {l:List D}{x:D}{j:Nat}(h:l[j]?=some x):aG (.lst l) (.int j)=some x:=by rw[sI,h]
theorem pJ (a:Int)(n:Int)(h:0<n):∃k:Nat,(k:Int)=a % n/\(k:Int)<n:=⟨(a % n).toNat,by have:=Int.emod_nonneg a (show n≠0 by omega);omega,by have:=Int.emod_nonneg a (show n≠0 by omega);have:=Int.emod_lt_of_pos a h;omega⟩
theorem fM (a n:Int)(h:0<n)(h2:n<1073741824):gA (.int a) (.int n)=some (.int (a/n)):=by simp only[gA];rw[if_pos ⟨h,h2⟩]
theorem cC (a n:Int)(h:0<n):cj (.int a) (.int n)=some (.int (a % n)):=by simp only[cj];rw[if_pos h]
theorem pK (a b:Int)(h: -(2 ^ 64)<a/\a<2 ^ 64\/ -(2 ^ 64)<b/\b<2 ^ 64):jc cQ bG (.int a) (.int b)=some (.int (a*b)):=HD (by simp only[cQ];rw[if_pos h])
noncomputable def uM:List Str:=Txt.split "cells thread put get swap add skip fence" " "
theorem words_of:oX "cells thread put get swap add skip fence" " "=some (uM.map .str):=by
 unfold oX
 rw[if_pos (by decide+kernel)]
 rfl
theorem Rr:∀x∈uM,PyData.strOk x=true:=by
 have:uM.all PyData.strOk=true:=by decide+kernel
 exact List.all_eq_true.mp this
theorem OJ {l:List Str}(h:∀x∈l,PyData.strOk x=true):dN true (.lst (l.map .str)) (.lst [])=some (.bl (!l.isEmpty)):=by
 have h0:qP (.lst [])=true:=jd (n:=1) rfl
 unfold dN
 rw[Lp h,h0,Wh]
 simp only[Bool.and_self,if_true,iT,J7,List.isEmpty_map]
theorem Am (i n:Nat):(List.range' i (n+1)).map (λk=>D.int (k:Nat))= .int (i:Nat)::(List.range' (i+1) n).map (λk=>D.int (k:Nat)):=by
 rw[List.range'_succ];rfl
theorem vB (n:Nat):lN 0 n=(List.range' 0 n).map (λk=>D.int (k:Nat)):=by
 unfold lN
 rw[List.range_eq_range']
 congr 1
 funext i
 simp
theorem Wz (n:Nat)(h:n<1000):itR (.int (n:Int))=some (lN 0 n,[]):=by
 simp only[itR]
 rw[if_pos ⟨by omega,by omega⟩,Int.toNat_natCast]
theorem nD {a:FD}{ρ:aH}{n:Nat}(h:a ρ=some (.int (n:Int)))(hn:n<1000):gw a ρ=some (lN 0 n,[]):=by
 show(a ρ).bind itR=_
 rw[h,Option.bind_some,Wz n hn]
theorem PL (n:Nat):flat.flats (lN 0 n)=true:=by unfold lN;exact cA λ_=>rfl
theorem rE {a:FD}{T:D->Bool->bw->Option bw}{G:GS}{ρ:bw}{n:Nat}(h:a (vis ρ)=some (.int (n:Int)))(hn:n<1000):f9 (gw a) T G ρ=cT T G true ((List.range' 0 n).map λk=>D.int (k:Nat)) ρ:=by
 unfold f9
 rw[oh (nD h hn) (by simp[PL,flat.flats]),vB]
 rfl
namespace K
noncomputable def Jr:GS:=(aO (bF 7 (f2 aG (aj 1) (f2 cj (f2 aP (f2 gA (aj 0) (fC (.int 11))) (aj 6)) (fC (.int 26))))) (aO (bF 8 (vU "str" m5 (fC (.str "")) (aa (f2 aP (f2 aP (u6 (aj 4) gW (fL (aj 3))) (gB (aa (aj 7) aq))) (u6 (aj 4) (fL (f2 aP (aj 3) (fC (.int 1)))) (fL (aj 2)))) aq))) (aO (jM (t2 (dN false) (f2 cj (aj 0) (fC (.int 4))) (fC (.int 3))) (bF 8 (f2 aG (gB (aa (vU "str" m5 (fC (.str "")) (aa (u6 (aj 4) gW (fL (f2 aP (fC (.int 1)) (f2 cj (aj 6) (fC (.int 5)))))) aq)) (aa (f2 aP (aj 7) (vU "str" m5 (fC (.str "")) (aa (u6 (aj 4) gW (fL (f2 aP (fC (.int 1)) (f2 cj (aj 6) (fC (.int 5)))))) aq))) aq))) (f2 gA (aj 6) (fC (.int 5))))) cg) (eF 5 (aj 8)))))
noncomputable def m6 (c:Int)(sz at_:Nat)(row found:List Str)(a b d e:Option L):bw:=[some (.val (.int c) false),some (.val (.str "abcdefghijklmnopqrstuvwxyz") true),some (.val (.int (sz:Nat)) true),some (.val (.int (at_:Nat)) true),some (.own (row.map .str) true none),some (.own (found.map .str) true none),a,b,d,e]
theorem TQ (c:Int)(sz at_:Nat)(row found:List Str)(b d e:Option L)(k:Nat)(hr:∀x∈row,ok1 x)(hl:row.length=6)(hs:sz<=6)(ha:at_<sz)(hk:k<9)(hf:found.length<100):
 ∃x b' d',okN x/\Jr (m6 c sz at_ row found (some (.val (.int (k:Nat)) true)) b d e)=some (.nx (m6 c sz at_ row (found++[x]) (some (.val (.int (k:Nat)) true)) b' d' e)):=by
 obtain⟨ch,l1,l2⟩:=letter (c/11+k)
 have hsg:ok1 ⟨#[ch]⟩:=⟨l2,rfl⟩
 have j0:=Vm (l:=row.take at_++[⟨#[ch]⟩]++(row.take sz).drop (at_+1)) (by
  intro x hx
  simp only[List.mem_append,List.mem_singleton]at hx
  rcases hx with(hx|hx)|hx
  ·exact hr x (List.mem_of_mem_take hx)
  ·rw[hx];exact hsg
  ·exact hr x (List.mem_of_mem_take (List.mem_of_mem_drop hx))) (by simp;omega)
 have jl:(row.take at_++[(⟨#[ch]⟩:Str)]++(row.take sz).drop (at_+1)).length<=6:=by simp;omega
 have j1:=Vm (l:=row.take (1+k % 5)) (λx hx=>hr x (List.mem_of_mem_take hx)) (by simp;omega)
 have jl1:(row.take (1+k % 5)).length<=5:=by simp;omega
 unfold Jr
 have g1:bF 7 (f2 aG (aj 1) (f2 cj (f2 aP (f2 gA (aj 0) (fC (.int 11))) (aj 6)) (fC (.int 26)))) (m6 c sz at_ row found (some (.val (.int (k:Nat)) true)) b d e)=some (.nx (m6 c sz at_ row found (some (.val (.int (k:Nat)) true)) (some (.val (.str ⟨#[ch]⟩) true)) d e)):=
  (bB (d:= .str ⟨#[ch]⟩) (aB rfl (aB (aB (aB rfl rfl (fM c 11 (by omega) (by omega))) rfl rfl) rfl (cC _ 26 (by omega))) l1) rfl).trans rfl
 have g2:bF 8 (vU "str" m5 (fC (.str "")) (aa (f2 aP (f2 aP (u6 (aj 4) gW (fL (aj 3))) (gB (aa (aj 7) aq))) (u6 (aj 4) (fL (f2 aP (aj 3) (fC (.int 1)))) (fL (aj 2)))) aq)) (m6 c sz at_ row found (some (.val (.int (k:Nat)) true)) (some (.val (.str ⟨#[ch]⟩) true)) d e)
  =some (.nx (m6 c sz at_ row found (some (.val (.int (k:Nat)) true)) (some (.val (.str ⟨#[ch]⟩) true)) (some (.val (.str (Builtin.Str.glued "" (row.take at_++[⟨#[ch]⟩]++(row.take sz).drop (at_+1)))) true)) e)):=by
  refine(bB (i:=8) (uy rfl rfl (aR (aB (aB (uz rfl rfl (m7 rfl) (y:=some (at_:Int)) (e:= .lst ((row.take at_).map .str)) ?_) (y:= .lst ([(⟨#[ch]⟩:Str)].map .str)) rfl (K5 (by simp;omega))) (uz rfl (m7 (aB rfl rfl rfl)) (m7 rfl) (e:= .lst (((row.take sz).drop (at_+1)).map .str)) ?_) (K5 (by simp;omega)))) j0.1) rfl).trans rfl
  ·show Gj (.lst (row.map .str)) none (some (at_:Int))=_
   rw[K8,List.map_take]
  ·show Gj (.lst (row.map .str)) (some ((at_:Int)+1)) (some (sz:Int))=_
   simp only[Gj]
   rw[show((at_:Int)+1)=((at_+1:Nat):Int) by omega,OD,List.map_drop,List.map_take]
 have app:∀(x:Str) (b':Option L),eF 5 (aj 8) (m6 c sz at_ row found (some (.val (.int (k:Nat)) true)) b' (some (.val (.str x) true)) e)=some (.nx (m6 c sz at_ row (found++[x]) (some (.val (.int (k:Nat)) true)) b' (some (.val (.str x) true)) e)):=λx b'=>by
  refine(ig (i:=5) (d:= .str x) (l:=found.map .str) rfl (by rw[sizeLine_eq];simp;omega) rfl rfl).trans ?_
  rw[show found.map D.str++[D.str x]=(found++[x]).map .str by simp]
  rfl
 have k4:t2 (dN false) (f2 cj (aj 0) (fC (.int 4))) (fC (.int 3)) (vis (m6 c sz at_ row found (some (.val (.int (k:Nat)) true)) (some (.val (.str ⟨#[ch]⟩) true)) (some (.val (.str (Builtin.Str.glued "" (row.take at_++[⟨#[ch]⟩]++(row.take sz).drop (at_+1)))) true)) e))=some (c % 4==3):=eU (aB rfl rfl (cC c 4 (by omega))) rfl (Vg _ _)
 rw[aD g1,aD g2]
 cases h4:(c % 4==3)with
 |false=>
  rw[aD (by rw[iu (by rw[k4,h4])];rfl)]
  exact⟨_,_,_,⟨j0.2.1,by have:=j0.2.2;omega⟩,app _ _⟩
 |true=>
  have hlen:((⟨#[ch]⟩:Str)++Builtin.Str.glued "" (row.take (1+k % 5))).length<=8:=by
   rw[len_app]
   have:=j1.2.2
   have:(⟨#[ch]⟩:Str).length=1:=rfl
   omega
  have sl:∀ρ:aH,at? ρ 4=some (.lst (row.map .str))->at? ρ 6=some (.int (k:Nat))->vU "str" m5 (fC (.str "")) (aa (u6 (aj 4) gW (fL (f2 aP (fC (.int 1)) (f2 cj (aj 6) (fC (.int 5)))))) aq) ρ=some (.str (Builtin.Str.glued "" (row.take (1+k % 5)))):=λρ h4 h6=>by
   refine uy rfl rfl (aR (uz h4 rfl (m7 (i:=((1+k % 5:Nat):Int)) (aB rfl (aB h6 rfl (cC _ 5 (by omega))) (by simp[aP]))) (e:= .lst ((row.take (1+k % 5)).map .str)) ?_)) j1.1
   rw[K8,List.map_take]
  have ad:aP (.str ⟨#[ch]⟩) (.str (Builtin.Str.glued "" (row.take (1+k % 5))))=some (.str ((⟨#[ch]⟩:Str)++Builtin.Str.glued "" (row.take (1+k % 5)))):=by
   simp only[aP]
   rw[if_pos (by rw[sizeLine_eq,<-len_app];omega)]
  have g3:∃x,okN x/\bF 8 (f2 aG (gB (aa (vU "str" m5 (fC (.str "")) (aa (u6 (aj 4) gW (fL (f2 aP (fC (.int 1)) (f2 cj (aj 6) (fC (.int 5)))))) aq)) (aa (f2 aP (aj 7) (vU "str" m5 (fC (.str "")) (aa (u6 (aj 4) gW (fL (f2 aP (fC (.int 1)) (f2 cj (aj 6) (fC (.int 5)))))) aq))) aq))) (f2 gA (aj 6) (fC (.int 5)))) (m6 c sz at_ row found (some (.val (.int (k:Nat)) true)) (some (.val (.str ⟨#[ch]⟩) true)) (some (.val (.str (Builtin.Str.glued "" (row.take at_++[⟨#[ch]⟩]++(row.take sz).drop (at_+1)))) true)) e)
   =some (.nx (m6 c sz at_ row found (some (.val (.int (k:Nat)) true)) (some (.val (.str ⟨#[ch]⟩) true)) (some (.val (.str x) true)) e)):=by
   have lst:∀ρ:aH,at? ρ 4=some (.lst (row.map .str))->at? ρ 6=some (.int (k:Nat))->at? ρ 7=some (.str ⟨#[ch]⟩)->gB (aa (vU "str" m5 (fC (.str "")) (aa (u6 (aj 4) gW (fL (f2 aP (fC (.int 1)) (f2 cj (aj 6) (fC (.int 5)))))) aq)) (aa (f2 aP (aj 7) (vU "str" m5 (fC (.str "")) (aa (u6 (aj 4) gW (fL (f2 aP (fC (.int 1)) (f2 cj (aj 6) (fC (.int 5)))))) aq))) aq)) ρ=some (.lst [.str (Builtin.Str.glued "" (row.take (1+k % 5))),.str ((⟨#[ch]⟩:Str)++Builtin.Str.glued "" (row.take (1+k % 5)))]):=λρ h4 h6 h7=>by
    show(aa _ _ ρ).bind oK=_
    rw[bU (sl ρ h4 h6) (aR (aB h7 (sl ρ h4 h6) ad)),Option.bind_some]
    rfl
   by_cases h5:k<5
   ·refine⟨Builtin.Str.glued "" (row.take (1+k % 5)),⟨j1.2.1,by have:=j1.2.2;omega⟩,?_⟩
    exact(bB (i:=8) (d:= .str (Builtin.Str.glued "" (row.take (1+k % 5)))) (aB (lst _ rfl rfl rfl) (aB rfl rfl (fM _ 5 (by omega) (by omega))) (by rw[show((k:Int)/5)=((0:Nat):Int) by omega];exact lE rfl)) rfl).trans rfl
   ·refine⟨(⟨#[ch]⟩:Str)++Builtin.Str.glued "" (row.take (1+k % 5)),⟨O1 l2 j1.2.1,hlen⟩,?_⟩
    exact(bB (i:=8) (d:= .str ((⟨#[ch]⟩:Str)++Builtin.Str.glued "" (row.take (1+k % 5)))) (aB (lst _ rfl rfl rfl) (aB rfl rfl (fM _ 5 (by omega) (by omega))) (by rw[show((k:Int)/5)=((1:Nat):Int) by omega];exact lE rfl)) rfl).trans rfl
  obtain⟨x,ox,g3⟩:=g3
  rw[aD (by rw[jF (by rw[k4,h4])];exact g3)]
  exact⟨x,_,_,ox,app _ _⟩
theorem Ky (c:Int)(sz at_:Nat)(row:List Str)(e:Option L)(hr:∀x∈row,ok1 x)(hl:row.length=6)(hs:sz<=6)(ha:at_<sz):∀(n i:Nat) (found:List Str) (a b d:Option L),i+n<=9->found.length+n<100->(∀x∈found,okN x)->
 ∃(found':List Str) (a' b' d':Option L),found'.length=found.length+n/\(∀x∈found',okN x)/\cT (aF 6) Jr true ((List.range' i n).map λk=>D.int (k:Nat)) (m6 c sz at_ row found a b d e)=some (.nx (m6 c sz at_ row found' a' b' d' e))
 |0,i,found,a,b,d,_,_,ho=>⟨found,a,b,d,rfl,ho,rfl⟩
 |n+1,i,found,a,b,d,h1,h2,ho=>by
  obtain⟨x,b',d',ox,e1⟩:=TQ c sz at_ row found b d e i hr hl hs ha (by omega) (by omega)
  obtain⟨f',a'',b'',d'',q1,q2,q3⟩:=Ky c sz at_ row e hr hl hs ha n (i+1) (found++[x]) (some (.val (.int (i:Nat)) true)) b' d' (by omega) (by simp;omega) (by
   intro y hy
   rcases List.mem_append.mp hy with hy|hy
   ·exact ho y hy
   ·rw[List.mem_singleton.mp hy];exact ox)
  refine⟨f',a'',b'',d'',by simp at q1;omega,q2,?_⟩
  rw[Am,<-q3]
  exact eY rfl e1
end K
noncomputable def lch (j:Int):Nat:=Classical.choose (letter j)
theorem Hj (j:Int):aG (.str "abcdefghijklmnopqrstuvwxyz") (.int (j % 26))=some (.str ⟨#[lch j]⟩)/\PyData.strOk ⟨#[lch j]⟩=true:=Classical.choose_spec (letter j)
theorem qp {F:FL}{ρ:bw}{l:List D}(h:F (vis ρ)=some l)(hf:flat.flats l=true):oH F ρ=some (.rt (.lst l) .own ρ):=oh h hf
noncomputable def nine:List Str:=["a","b","c","ab","ba","z","x","xx","y"]
theorem TJ:∀x∈nine,okN x:=by
 have:nine.all (λx=>PyData.strOk x&&decide (x.length<=8))=true:=by decide+kernel
 intro x hx
 have:=List.all_eq_true.mp this x hx
 rw[Bool.and_eq_true,decide_eq_true_eq]at this
 exact this
namespace K
theorem v_names (c:Int):∃ns:List Str,ns.length=9/\(∀x∈ns,okN x)/\jn [.int c]=some (.lst (ns.map .str),.own):=by
 obtain⟨s0,hs0,hs1⟩:=pJ (c/4) 6 (by omega)
 obtain⟨a0,ha0,ha1⟩:=pJ (c/24) ((1+s0:Nat):Int) (by omega)
 obtain⟨m4,hm0,hm1⟩:=pJ c 4 (by omega)
 let row:List Str:=(List.range' 0 6).map λk:Nat=>⟨#[lch (c/7+5*(k:Int))]⟩
 have hr:∀x∈row,ok1 x:=by
  intro x hx
  obtain⟨k,_,rfl⟩:=List.mem_map.mp hx
  exact⟨(Hj _).2,rfl⟩
 have hl:row.length=6:=by simp[row]
 have hat:∃at_:Nat,at_<1+s0/\([D.int (a0:Nat),.int 0,.int (s0:Nat),.int 0]:List D)[m4]?=some (.int (at_:Nat)):=by
  have:m4=0\/m4=1\/m4=2\/m4=3:=by omega
  rcases this with rfl|rfl|rfl|rfl
  ·exact⟨a0,by omega,rfl⟩
  ·exact⟨0,by omega,rfl⟩
  ·exact⟨s0,by omega,rfl⟩
  ·exact⟨0,by omega,rfl⟩
 obtain⟨at_,a0l,a0m⟩:=hat
 obtain⟨ns,a',b',d',n1,n2,e1⟩:=Ky c (1+s0) at_ row none hr hl (by omega) a0l 9 0 [] none none none (by omega) (by simp) (by simp)
 have n1':ns.length=9:=by simpa using n1
 have Zk:∀x∈ns,PyData.strOk x=true:=λx hx=>(n2 x hx).1
 have YD:fH (aV 0) tT (f2 aG (aj 1) (f2 cj (f2 aP (f2 gA (aj 2) (fC (.int 7))) (f2 (jc cQ bG) (fC (.int 5)) (aj 0))) (fC (.int 26)))) [none,some (.str "abcdefghijklmnopqrstuvwxyz"),some (.int c)] (lN 0 6)=some (row.map .str):=by
  rw[vB]
  have:=comp_map (T:=aV 0) (Tt:=tT) (Fe:=f2 aG (aj 1) (f2 cj (f2 aP (f2 gA (aj 2) (fC (.int 7))) (f2 (jc cQ bG) (fC (.int 5)) (aj 0))) (fC (.int 26)))) (ρ:=[none,some (.str "abcdefghijklmnopqrstuvwxyz"),some (.int c)]) (f:=λk:Nat=> .int (k:Nat)) (g:=λk:Nat=> .str ⟨#[lch (c/7+5*(k:Int))]⟩) (λk=>[some (.int (k:Nat)),some (.str "abcdefghijklmnopqrstuvwxyz"),some (.int c)]) (List.range' 0 6) λk _=>⟨rfl,rfl,aB rfl (aB (aB (aB rfl rfl (fM c 7 (by omega) (by omega))) (aB rfl rfl (pK 5 (k:Nat) (.inl ⟨by omega,by omega⟩))) rfl) rfl (cC _ 26 (by omega))) (Hj _).1⟩
  rw[this]
  simp[row]
 have a0f:fH (aV 0) (t2 (tZ false) (aj 0) (fZ (yJ (fC (.str "cells thread put get swap add skip fence")) (aa (fC (.str " ")) aq)))) (aj 0) [none] (ns.map .str)=some ((ns.filter λx=>decide (x∈uM)).map .str):=by
  refine gO (λx=>decide (x∈uM)) (λx=>[some (.str x)]) ns λx hx=>⟨rfl,?_,rfl⟩
  refine eU rfl (je (l:=uM.map .str) ?_) (Pa (Zk x hx) Rr false)
  exact words_of
 let odd:=ns.filter λx=>decide (x∈uM)
 have main:∃(res:List Str) (ρ:bw),res.length=9/\(∀x∈res,okN x)/\lV (aW 10 [.int c])=some (.rt (.lst (res.map .str)) .own ρ):=by
  have pre:lV (aW 10 [.int c])=(aO (jM (yt (t2 (dN true) (aj 9) (gB aq)) (t2 (mX λi j=>decide (i<j)) (fB qd (aa (aj 5) aq)) (fC (.int 9)))) (oH (oE (aa (fC (.str "a")) (aa (fC (.str "b")) (aa (fC (.str "c")) (aa (fC (.str "ab")) (aa (fC (.str "ba")) (aa (fC (.str "z")) (aa (fC (.str "x")) (aa (fC (.str "xx")) (aa (fC (.str "y")) aq))))))))))) cg) (jf 5)) (m6 c (1+s0) at_ row ns a' b' d' (some (.own (odd.map .str) true none))):=by
   unfold lV
   refine(aD (bB (i:=1) (d:= .str "abcdefghijklmnopqrstuvwxyz") rfl rfl)).trans ?_
   refine(aD (bB (i:=2) (d:= .int ((1+s0:Nat):Int)) (aB rfl (aB (aB rfl rfl (fM c 4 (by omega) (by omega))) rfl (cC _ 6 (by omega))) (by rw[<-hs0];simp[aP])) rfl)).trans ?_
   refine(aD (bB (i:=3) (d:= .int (at_:Nat)) (aB (x:= .lst [.int (a0:Nat),.int 0,.int (s0:Nat),.int 0]) ?_ (aB rfl rfl (cC c 4 (by omega))) (by rw[<-hm0];exact lE a0m)) rfl)).trans ?_
   ·show(aa _ _ _).bind oK=_
    rw[bU (x:= .int (a0:Nat)) (aB (aB rfl rfl (fM c 24 (by omega) (by omega))) rfl (by rw[ha0];exact cC _ _ (by omega))) (bU rfl (bU (x:= .int (s0:Nat)) (aB rfl rfl (by show kE (.int ((1+s0:Nat):Int)) (.int 1)=_;simp only[kE];congr 2;omega)) (aR rfl))),Option.bind_some]
    rfl
   refine(aD (cB (i:=4) (l:=row.map .str) (gP (nD (n:=6) rfl (by omega)) (by simp[lN]) YD) (cA λ_=>rfl))).trans ?_
   refine(aD (cB (i:=5) (l:=[]) rfl rfl)).trans ?_
   refine(aD ((rE (n:=9) rfl (by omega)).trans e1)).trans ?_
   refine(aD (cB (i:=9) (l:=odd.map .str) (gP (jj rfl) (by simp;omega) a0f) (cA λ_=>rfl))).trans ?_
   rfl
  have k1:yt (t2 (dN true) (aj 9) (gB aq)) (t2 (mX λi j=>decide (i<j)) (fB qd (aa (aj 5) aq)) (fC (.int 9))) (vis (m6 c (1+s0) at_ row ns a' b' d' (some (.own (odd.map .str) true none))))=some (!odd.isEmpty||decide ((((dedup (ns.map .inr)).length:Nat):Int)<9)):=by
   refine Fd (eU rfl rfl (OJ λx hx=>Zk x (List.mem_filter.mp hx).1)) λ_=>eU (jE (aR rfl) (x:= .int ((dedup (ns.map .inr)).length:Nat)) ?_) rfl rfl
   show qd [.lst (ns.map .str)]=_
   simp only[qd,CQ,Option.bind_some,List.length_map,n1']
   rfl
  rw[pre]
  cases hk:(!odd.isEmpty||decide ((((dedup (ns.map .inr)).length:Nat):Int)<9))with
  |true=>
   rw[hk]at k1
   refine⟨nine,m6 c (1+s0) at_ row ns a' b' d' (some (.own (odd.map .str) true none)),rfl,TJ,oJ ?_⟩
   ·rw[jF k1]
    exact qp (l:=nine.map .str) rfl rfl
  |false=>
   rw[hk]at k1
   refine⟨ns,m6 c (1+s0) at_ row ns a' b' d' (some (.own (odd.map .str) true none)),n1',n2,?_⟩
   rw[aD (by rw[iu k1];rfl)]
   rfl
 obtain⟨res,ρ,r1,r2,r3⟩:=main
 refine⟨res,r1,r2,?_⟩
 simp only[jn,List.length_cons,List.length_nil,if_true,r3,fW]
end K
noncomputable def RG (x:Str):Bool:=PyData.strOk x&&decide (x.length<=8)
noncomputable def dB:D->Bool
 | .str x=>RG x
 | .int i=>decide (-100000<=i/\i<=100000)
 |_=>false
noncomputable def Rw.mq (r:Rw):Bool:=r.parts.all dB
theorem nY {x:Str}(h:okN x):RG x=true:=by simp[RG,h.1,h.2]
theorem w6 {i:Int}(h1: -100000<=i)(h2:i<=100000):dB (.int i)=true:=decide_eq_true ⟨h1,h2⟩
structure nR (ns:List Str)(r:Rw):Prop where
 bx:Qs r
 cel:∀c,r.cell=some c->c∈ns.take 3
 num:r.mq=true
theorem vJ {P:Rw->Prop}{G1 G2:GS}{ρ E E':bw}(h1:G1 ρ=some (.nx E))(h:∃r:Rw,P r/\G2 E=some (.rt r.d .new E')):∃r:Rw,P r/\aO G1 G2 ρ=some (.rt r.d .new E'):=by
 obtain⟨r,h2,h3⟩:=h
 exact⟨r,h2,by rw[aD h1,h3]⟩
namespace K
theorem a0d (c:Int)(ns:List Str)(left k:Int)(hl:ns.length=9)(hn:∀x∈ns,okN x)(hleft:0<=left)(hk: -1000<=k/\k<=1000):∃r:Rw,nR ns r/\lF [.int c,.lst (ns.map .str),.int left,.int k]=some (r.d,.new):=by
 obtain⟨i1,h1,h1'⟩:=pJ (c/11) 3 (by omega)
 obtain⟨i2,h2,h2'⟩:=pJ (c/33) 4 (by omega)
 obtain⟨i3,h3,h3'⟩:=pJ (c/132) 4 (by omega)
 obtain⟨i4,h4,h4'⟩:=pJ (c/53) 3 (by omega)
 obtain⟨i5,h5,h5'⟩:=pJ c 11 (by omega)
 obtain⟨i6,h6,h6'⟩:=pJ (c/53) 2 (by omega)
 have g1:ns[i1]?=some ns[i1]:=List.getElem?_eq_getElem (by omega)
 have g2:ns[3+i2]?=some ns[3+i2]:=List.getElem?_eq_getElem (by omega)
 have g3:ns[3+i3]?=some ns[3+i3]:=List.getElem?_eq_getElem (by omega)
 have m1:ns[i1]∈ns.take 3:=by
  have:(ns.take 3)[i1]?=some ns[i1]:=by rw[List.getElem?_take_of_lt (by omega)];exact g1
  exact List.mem_of_getElem? this
 have z1:dB (.str ns[i1])=true:=nY (hn _ (List.getElem_mem _))
 have z2:dB (.str ns[3+i2])=true:=nY (hn _ (List.getElem_mem _))
 have z3:dB (.str ns[3+i3])=true:=nY (hn _ (List.getElem_mem _))
 have o2:PyData.strOk ns[3+i2]=true:=(hn _ (List.getElem_mem _)).1
 have o3:PyData.strOk ns[3+i3]=true:=(hn _ (List.getElem_mem _)).1
 generalize ns[i1]=spot at g1 m1 z1
 generalize ns[3+i2]=box at g2 o2 z2
 generalize ns[3+i3]=other at g3 o3 z3
 have nm:∀{j:Nat}{x:Str},ns[j]?=some x->aG (.lst (ns.map .str)) (.int (j:Nat))=some (.str x):=λ{j x} e=>lE (by rw[List.getElem?_map,e];rfl)
 have hv:∃v:Va,((∀x∈v.bx,PyData.strOk x=true)/\dB v.d=true)/\([D.int (1+k),.int (c/528 % 100),.str box]:List D)[i4]?=some v.d:=by
  have:i4=0\/i4=1\/i4=2:=by omega
  rcases this with rfl|rfl|rfl
  ·exact⟨.no (1+k),⟨by simp[Va.bx],w6 (by omega) (by omega)⟩,rfl⟩
  ·exact⟨.no (c/528 % 100),⟨by simp[Va.bx],w6 (by omega) (by omega)⟩,rfl⟩
  ·exact⟨.nm box,⟨by simp[Va.bx,o2],z2⟩,rfl⟩
 obtain⟨v,⟨ov,zv⟩,ev⟩:=hv
 have hu:∃v:Va,((∀x∈v.bx,PyData.strOk x=true)/\dB v.d=true)/\([D.int (1+k),.str other]:List D)[i6]?=some v.d:=by
  have:i6=0\/i6=1:=by omega
  rcases this with rfl|rfl
  ·exact⟨.no (1+k),⟨by simp[Va.bx],w6 (by omega) (by omega)⟩,rfl⟩
  ·exact⟨.nm other,⟨by simp[Va.bx,o3],z3⟩,rfl⟩
 obtain⟨u,⟨ou,zu⟩,eu⟩:=hu
 have flv:∀v:Va,flat v.d=true:=λv=>by cases v<;>rfl
 let E:bw:=[some (.val (.int c) false),some (.val (.lst (ns.map .str)) false),some (.val (.int left) false),some (.val (.int k) false),some (.val (.str spot) true),some (.val (.str box) true),some (.val (.str other) true),some (.val v.d true),some (.val (.int (i5:Nat)) true)]
 have main:∃r:Rw,nR ns r/\qT (aW 9 [.int c,.lst (ns.map .str),.int left,.int k])=some (.rt r.d .new E):=by
  unfold qT
  have a4:f2 aG (aj 1) (f2 cj (f2 gA (aj 0) (fC (.int 11))) (fC (.int 3))) (vis (aW 9 [.int c,.lst (ns.map .str),.int left,.int k]))=some (.str spot):=aB rfl (aB (aB rfl rfl (fM c 11 (by omega) (by omega))) rfl (cC _ 3 (by omega))) (by rw[<-h1];exact nm g1)
  rw[aD (bB a4 rfl)]
  rw[aD (bB (i:=5) (d:= .str box) (aB rfl (aB rfl (aB (aB rfl rfl (fM c 33 (by omega) (by omega))) rfl (cC _ 4 (by omega))) (z:= .int ((3+i2:Nat):Int)) (by rw[<-h2];simp[aP])) (nm g2)) rfl)]
  rw[aD (bB (i:=6) (d:= .str other) (aB rfl (aB rfl (aB (aB rfl rfl (fM c 132 (by omega) (by omega))) rfl (cC _ 4 (by omega))) (z:= .int ((3+i3:Nat):Int)) (by rw[<-h3];simp[aP])) (nm g3)) rfl)]
  rw[aD (bB (i:=7) (d:=v.d) (aB (x:= .lst [.int (1+k),.int (c/528 % 100),.str box]) (by
   show(aa _ _ _).bind oK=_
   rw[bU (aB rfl rfl (z:= .int (1+k)) rfl) (bU (aB (aB rfl rfl (fM c 528 (by omega) (by omega))) rfl (cC _ 100 (by omega))) (aR rfl)),Option.bind_some]
   rfl) (aB (aB rfl rfl (fM c 53 (by omega) (by omega))) rfl (cC _ 3 (by omega))) (by rw[<-h4];exact lE ev)) (flv v))]
  rw[aD (bB (i:=8) (d:= .int (i5:Nat)) (aB rfl rfl (by rw[h5];exact cC c 11 (by omega))) rfl)]
  have toE:∀ρ,ρ=E->True:=λ_ _=>trivial
  have lt:∀n:Int,t2 (mX λi j=>decide (i<j)) (aj 8) (fC (.int n)) (vis E)=some (decide ((i5:Int)<n)):=λn=>eU rfl rfl rfl
  have Y9:∀n:Int,t2 (dN false) (aj 8) (fC (.int n)) (vis E)=some ((i5:Int)==n):=λn=>eU rfl rfl (Vg _ _)
  by_cases c1:(i5:Int)<4
  ·refine⟨.put spot v,⟨λx hx=>ov x hx,λc' e=>by cases e;exact m1,by simp[Rw.mq,Rw.parts,z1,z2,show dB (Va.nm other).d=true from z3,zv,zu]⟩,oJ (ρ':=E) ?_⟩
   refine(jF (by show t2 _ _ _ (vis E)=_;rw[lt,decide_eq_true c1])).trans ?_
   exact cV (ρ:=E) (cN (bU rfl (bU rfl (aR rfl))) (by simp)) (cR _)
  refine vJ ((iu (by show t2 _ _ _ (vis E)=_;rw[lt,decide_eq_false c1])).trans rfl) ?_
  by_cases c2:(i5:Int)<7
  ·refine⟨.get box spot,⟨λx hx=>by simp[Rw.bx]at hx;rw[hx];exact o2,λc' e=>by cases e;exact m1,by simp[Rw.mq,Rw.parts,z1,z2,show dB (Va.nm other).d=true from z3,zv,zu]⟩,oJ (ρ':=E) ?_⟩
   refine(jF (by show t2 _ _ _ (vis E)=_;rw[lt,decide_eq_true c2])).trans ?_
   exact cV (ρ:=E) (cN (bU rfl (bU rfl (aR rfl))) (by simp)) (cR (.get box spot))
  refine vJ ((iu (by show t2 _ _ _ (vis E)=_;rw[lt,decide_eq_false c2])).trans rfl) ?_
  by_cases c3:(i5:Int)=7
  ·refine⟨.swap box spot u,⟨λx hx=>by
    simp only[Rw.bx,List.mem_cons]at hx
    rcases hx with rfl|hx
    ·exact o2
    ·exact ou x hx,λc' e=>by cases e;exact m1,by simp[Rw.mq,Rw.parts,z1,z2,show dB (Va.nm other).d=true from z3,zv,zu]⟩,oJ (ρ':=E) ?_⟩
   refine(jF (by show t2 _ _ _ (vis E)=_;rw[Y9];simp[c3])).trans ?_
   refine cV (ρ:=E) (cN (bU rfl (bU rfl (bU rfl (aR (x:=u.d) (aB (x:= .lst [.int (1+k),.str other]) ?_ (aB (aB rfl rfl (fM c 53 (by omega) (by omega))) rfl (cC _ 2 (by omega))) (by rw[<-h6];exact lE eu)))))) (by simp)) (cR (.swap box spot u))
   show(aa _ _ _).bind oK=_
   rw[bU (aB rfl rfl (z:= .int (1+k)) rfl) (aR rfl),Option.bind_some]
   rfl
  refine vJ ((iu (by show t2 _ _ _ (vis E)=_;rw[Y9];simp[c3])).trans rfl) ?_
  have kk:yt (t2 (dN false) (aj 8) (fC (.int 8))) (wQ (t2 (dN false) (aj 2) (fC (.int 0))) (t2 (dN false) (aj 8) (fC (.int 9)))) (vis E)=some (((i5:Int)==8)||((left==0)&&((i5:Int)==9))):=Fd (Y9 8) λ_=>EY (eU rfl rfl (Vg _ _)) λ_=>Y9 9
  cases c4:(((i5:Int)==8)||((left==0)&&((i5:Int)==9)))with
  |true=>
   refine⟨.add box (.nm other) v,⟨λx hx=>by
    simp only[Rw.bx,Va.bx,List.mem_cons,List.mem_append,List.not_mem_nil,or_false]at hx
    rcases hx with rfl|rfl|hx
    ·exact o2
    ·exact o3
    ·exact ov x hx,(λc' e=>by cases e),by simp[Rw.mq,Rw.parts,z1,z2,show dB (Va.nm other).d=true from z3,zv,zu]⟩,oJ (ρ':=E) ?_⟩
   refine(jF (by show yt _ _ (vis E)=_;rw[kk,c4])).trans ?_
   exact cV (ρ:=E) (cN (bU rfl (bU rfl (bU rfl (aR rfl)))) (by simp)) (cR (.add box (.nm other) v))
  |false=>
   refine vJ ((iu (by show yt _ _ (vis E)=_;rw[kk,c4])).trans rfl) ?_
   by_cases c5:(i5:Int)=9
   ·have hp:0<1+(if 9<left then(9:Int)else left):=by split<;>omega
    obtain⟨n,hn1,hn2⟩:=pJ (c/528) (1+(if 9<left then(9:Int)else left)) hp
    have zn:dB (.int (n:Nat))=true:=w6 (by omega) (by split at hn2<;>omega)
    refine⟨.skip box n,⟨λx hx=>by simp[Rw.bx]at hx;rw[hx];exact o2,(λc' e=>by cases e),by simp[Rw.mq,Rw.parts,z2,zn]⟩,oJ (ρ':=E) ?_⟩
    refine(jF (by show t2 _ _ _ (vis E)=_;rw[Y9];simp[c5])).trans ?_
    refine cV (ρ:=E) (cN (bU rfl (bU rfl (aR (x:= .int (n:Nat)) (aB (aB rfl rfl (fM c 528 (by omega) (by omega))) (aB rfl (jE (bU rfl (aR rfl)) (x:= .int (if 9<left then 9 else left)) rfl) (z:= .int (1+(if 9<left then 9 else left))) rfl) (by rw[hn1];exact cC _ _ hp))))) (by simp)) (cR (.skip box n))
   ·refine vJ ((iu (by show t2 _ _ _ (vis E)=_;rw[Y9];simp[c5])).trans rfl) ?_
    exact⟨.fence,⟨λx hx=>by simp[Rw.bx]at hx,(λc' e=>by cases e),rfl⟩,cV (ρ:=E) (cN (aR rfl) (by simp)) (cR .fence)⟩
 obtain⟨r,h1,h2⟩:=main
 refine⟨r,h1,?_⟩
 simp only[lF,List.length_cons,List.length_nil,if_true,h2,fW]
end K
noncomputable def bA:Rw->Bool
 | .fence=>true
 |_=>false
theorem uY (r:Rw):qN r.d (.tup [.str "fence"])=bA r:=by
 rw[nF,Pu]
 cases r<;>simp[Rw.word,Rw.parts,iT,mC,PyData.eqvAll,PyData.eqv,bA,vo,oM]
theorem XS {r:Rw}(h:Qs r)(hc:∀c,r.cell=some c->PyData.strOk c=true):mz 1 r.d=true:=by
 have va:∀v:Va,(∀x∈v.bx,PyData.strOk x=true)->mz 0 v.d=true:=λv hv=>by
  cases v with
  |nm x=>exact hv x (by simp[Va.bx])
  |no i=>rfl
 have hw:=z7 r
 rw[nF]
 simp only[mz,List.all_cons,hw,Bool.true_and]
 cases r with
 |put c v=>simp[Rw.parts,mz,hc c rfl,va v λx hx=>h x hx]
 |get b c=>simp[Rw.parts,mz,hc c rfl,h b (by simp[Rw.bx])]
 |swap b c v=>simp[Rw.parts,mz,hc c rfl,h b (by simp[Rw.bx]),va v λx hx=>h x (by simp[Rw.bx,hx])]
 |add b v u=>simp[Rw.parts,mz,h b (by simp[Rw.bx]),va v λx hx=>h x (by simp[Rw.bx,hx]),va u λx hx=>h x (by simp[Rw.bx,hx])]
 |skip b n=>simp[Rw.parts,mz,h b (by simp[Rw.bx])]
 |fence=>rfl
theorem nR.sh {ns:List Str}{r:Rw}(h:nR ns r)(hn:∀x∈ns,okN x):mz 1 r.d=true:=XS h.bx λc e=>(hn c (List.mem_of_mem_take (h.cel c e))).1
theorem vK:mz 1 (.tup [.str "fence"])=true:=by simp[mz,rJ]
theorem Et {ns:List Str}{r:Rw}(h:nR ns r)(hn:∀x∈ns,okN x):dN false r.d (.tup [.str "fence"])=some (.bl (bA r)):=by
 unfold dN
 rw[jd (h.sh hn),jd vK,uY]
 rfl
theorem Gd {ns:List Str}{t:List Rw}(h:∀r∈t,nR ns r)(hn:∀x∈ns,okN x):nU (.lst (t.map Rw.d)) [.tup [.str "fence"]]=some (.int ((t.countP bA:Nat):Int)):=by
 have h1:Lj (.tup [.str "fence"]) (t.map Rw.d)=true:=by
  unfold Lj
  rw[jd vK,jd (n:=2)]
  ·rfl
  ·simp only[mz,List.all_eq_true,List.mem_map]
   rintro d ⟨r,hr,rfl⟩
   exact(h r hr).sh hn
 simp only[nU,h1,if_true]
 congr 3
 rw[List.countP_map]
 congr 1
 funext r
 exact uY r
theorem Gw (ns:List Str):nR ns .fence:=⟨λx hx=>by simp[Rw.bx]at hx,(λc e=>by cases e),rfl⟩
namespace K
noncomputable def Ft:GS:=(aO (bF 8 (aC bh [] (aa (aC aL [] (aa (aj 0) (aa (f2 aP (f2 aP (fC (.int 5)) (f2 (jc cQ bG) (fC (.int 8)) (aj 1))) (aj 7)) aq))) (aa (f2 aP (f2 (jc cQ bG) (fC (.int 10)) (aj 1)) (aj 7)) aq)))) (aO (bF 9 (aC lF [] (aa (aj 8) (aa (aj 2) (aa (f2 kE (f2 kE (aj 4) (fC (.int 1))) (aj 7)) (aa (f2 aP (f2 (jc cQ bG) (fC (.int 10)) (aj 1)) (aj 7)) aq)))))) (aO (bF 10 (vU "list" nU (aj 5) (aa (cF (aa (fC (.str "fence")) aq)) aq))) (aO (jM (wQ (t2 (dN false) (aj 10) (aj 6)) (t2 (dN false) (aj 9) (cF (aa (fC (.str "fence")) aq)))) (bF 9 (cF (aa (fC (.str "get")) (aa (f2 aG (aj 2) (fC (.int 3))) (aa (f2 aG (aj 2) (fC (.int 0))) aq))))) cg) (aO (jM (t2 (dN false) (f2 kE (aj 7) (aj 10)) (aj 3)) (bF 9 (cF (aa (fC (.str "fence")) aq))) cg) (eF 5 (aj 9)))))))
noncomputable def Bb (l:List Int)(ti:Nat)(ns:List Str)(most:Int)(many:Nat)(found:List Rw)(few:Int)(a b c d:Option L):bw:=[some (.val (.tu l) false),some (.val (.int (ti:Nat)) false),some (.val (.lst (ns.map .str)) false),some (.val (.int most) false),some (.val (.int (many:Nat)) false),some (.own (found.map Rw.d) true none),some (.val (.int few) true),a,b,c,d]
theorem V2 (l:List Int)(ti:Nat)(ns:List Str)(most:Int)(many:Nat)(found:List Rw)(few:Int)(b c d:Option L)(k:Nat)(hti:ti<10)(hl:ns.length=9)(hn:∀x∈ns,okN x)(hk:k<many)(hm:many<100)(hf:∀r∈found,nR ns r)(hfl:found.length<100):
 ∃r b' c' d',nR ns r/\Ft (Bb l ti ns most many found few (some (.val (.int (k:Nat)) true)) b c d)=some (.nx (Bb l ti ns most many (found++[r]) few (some (.val (.int (k:Nat)) true)) b' c' d')):=by
 obtain⟨v0,e0⟩:=lR l (5+8*ti+k)
 obtain⟨v1,e1,_⟩:=lY v0 ((10*ti+k:Nat):Int) (by omega) (by omega)
 obtain⟨r,hr,e2⟩:=a0d v1 ns ((many:Int) - 1 - k) ((10*ti+k:Nat):Int) hl hn (by omega) ⟨by omega,by omega⟩
 have m8:jc cQ bG (.int 8) (.int (ti:Nat))=some (.int (8*(ti:Int))):=pK 8 _ (.inl ⟨by omega,by omega⟩)
 have m10:jc cQ bG (.int 10) (.int (ti:Nat))=some (.int (10*(ti:Int))):=pK 10 _ (.inl ⟨by omega,by omega⟩)
 have x10:∀ρ:aH,at? ρ 1=some (.int (ti:Nat))->at? ρ 7=some (.int (k:Nat))->f2 aP (f2 (jc cQ bG) (fC (.int 10)) (aj 1)) (aj 7) ρ=some (.int ((10*ti+k:Nat):Int)):=λρ h1 h7=>aB (aB rfl h1 m10) h7 (by simp[aP])
 have x8:∀ρ:aH,at? ρ 1=some (.int (ti:Nat))->at? ρ 7=some (.int (k:Nat))->f2 aP (f2 aP (fC (.int 5)) (f2 (jc cQ bG) (fC (.int 8)) (aj 1))) (aj 7) ρ=some (.int ((5+8*ti+k:Nat):Int)):=λρ h1 h7=>aB (aB rfl (aB rfl h1 m8) rfl) h7 (by simp[aP])
 let E (row:Rw):bw:=Bb l ti ns most many found few (some (.val (.int (k:Nat)) true)) (some (.val (.int v1) true)) (some (.val row.d true)) (some (.val (.int ((found.countP bA:Nat):Int)) true))
 have pre:Ft (Bb l ti ns most many found few (some (.val (.int (k:Nat)) true)) b c d)=aO (jM (wQ (t2 (dN false) (aj 10) (aj 6)) (t2 (dN false) (aj 9) (cF (aa (fC (.str "fence")) aq)))) (bF 9 (cF (aa (fC (.str "get")) (aa (f2 aG (aj 2) (fC (.int 3))) (aa (f2 aG (aj 2) (fC (.int 0))) aq))))) cg) (aO (jM (t2 (dN false) (f2 kE (aj 7) (aj 10)) (aj 3)) (bF 9 (cF (aa (fC (.str "fence")) aq))) cg) (eF 5 (aj 9))) (E r):=by
  unfold Ft
  refine(aD (bB (i:=8) (d:= .int v1) (bz (bU (bz (bU rfl (aR (x8 _ rfl rfl))) e0 rfl) (aR (x10 _ rfl rfl))) e1 rfl) rfl)).trans ?_
  refine(aD (bB (i:=9) (d:=r.d) (bz (bU rfl (bU rfl (bU (aB (aB rfl rfl (z:= .int ((many:Int) - 1)) rfl) rfl (z:= .int ((many:Int) - 1 - k)) rfl) (aR (x10 _ rfl rfl))))) e2 rfl) (cR r))).trans ?_
  refine(aD (bB (i:=10) (d:= .int ((found.countP bA:Nat):Int)) (uy rfl rfl (aR (cN (aR rfl) (by simp))) (Gd hf hn)) rfl)).trans ?_
  rfl
 have st1:∃r1:Rw,nR ns r1/\jM (wQ (t2 (dN false) (aj 10) (aj 6)) (t2 (dN false) (aj 9) (cF (aa (fC (.str "fence")) aq)))) (bF 9 (cF (aa (fC (.str "get")) (aa (f2 aG (aj 2) (fC (.int 3))) (aa (f2 aG (aj 2) (fC (.int 0))) aq))))) cg (E r)=some (.nx (E r1)):=by
  have kk:wQ (t2 (dN false) (aj 10) (aj 6)) (t2 (dN false) (aj 9) (cF (aa (fC (.str "fence")) aq))) (vis (E r))=some ((((found.countP bA:Nat):Int)==few)&&bA r):=EY (eU rfl rfl (Vg _ _)) λ_=>eU rfl (cN (aR rfl) (by simp)) (Et hr hn)
  cases hc:((((found.countP bA:Nat):Int)==few)&&bA r)with
  |false=>exact⟨r,hr,(iu (by rw[kk,hc])).trans rfl⟩
  |true=>
   have g3:ns[3]?=some ns[3]:=List.getElem?_eq_getElem (by omega)
   have g0:ns[0]?=some ns[0]:=List.getElem?_eq_getElem (by omega)
   have m0:ns[0]∈ns.take 3:=by
    have:(ns.take 3)[0]?=some ns[0]:=by rw[List.getElem?_take_of_lt (by omega)];exact g0
    exact List.mem_of_getElem? this
   have o3:PyData.strOk ns[3]=true:=(hn _ (List.getElem_mem _)).1
   refine⟨.get ns[3] ns[0],⟨λx hx=>by simp[Rw.bx]at hx;rw[hx];exact o3,(λc' e=>by cases e;exact m0),by simp[Rw.mq,Rw.parts,dB,nY (hn ns[3] (List.getElem_mem _)),nY (hn ns[0] (List.getElem_mem _))]⟩,(jF (by rw[kk,hc])).trans ?_⟩
   refine(bB (i:=9) (d:=(Rw.get ns[3] ns[0]).d) (cN (bU rfl (bU (aB rfl rfl (z:= .str ns[3]) (lE (j:=3) (by rw[List.getElem?_map,g3];rfl))) (aR (aB rfl rfl (z:= .str ns[0]) (lE (j:=0) (by rw[List.getElem?_map,g0];rfl)))))) (by simp)) (cR (.get ns[3] ns[0]))).trans rfl
 obtain⟨r1,hr1,st1⟩:=st1
 have st2:∃r2:Rw,nR ns r2/\jM (t2 (dN false) (f2 kE (aj 7) (aj 10)) (aj 3)) (bF 9 (cF (aa (fC (.str "fence")) aq))) cg (E r1)=some (.nx (E r2)):=by
  have kk:t2 (dN false) (f2 kE (aj 7) (aj 10)) (aj 3) (vis (E r1))=some (((k:Int) - ((found.countP bA:Nat):Int))==most):=eU (aB rfl rfl rfl) rfl (Vg _ _)
  cases hc:(((k:Int) - ((found.countP bA:Nat):Int))==most)with
  |false=>exact⟨r1,hr1,(iu (by rw[kk,hc])).trans rfl⟩
  |true=>exact⟨.fence,Gw ns,(jF (by rw[kk,hc])).trans ((bB (i:=9) (d:=Rw.fence.d) (cN (aR rfl) (by simp)) (cR .fence)).trans rfl)⟩
 obtain⟨r2,hr2,st2⟩:=st2
 refine⟨r2,some (.val (.int v1) true),some (.val r2.d true),some (.val (.int ((found.countP bA:Nat):Int)) true),hr2,?_⟩
 rw[pre,aD st1,aD st2]
 refine(ig (i:=5) (d:=r2.d) (l:=found.map Rw.d) rfl (by rw[sizeLine_eq];simp;omega) rfl (cR r2)).trans ?_
 rw[show found.map Rw.d++[r2.d]=(found++[r2]).map Rw.d by simp]
 rfl
theorem Lz (l:List Int)(ti:Nat)(ns:List Str)(most:Int)(many:Nat)(few:Int)(hti:ti<10)(hl:ns.length=9)(hn:∀x∈ns,okN x)(hm:many<50):∀(n i:Nat) (found:List Rw) (a b c d:Option L),i+n=many->found.length=i->(∀r∈found,nR ns r)->
 ∃(found':List Rw) (a' b' c' d':Option L),found'.length=many/\(∀r∈found',nR ns r)/\cT (aF 7) Ft true ((List.range' i n).map λk=>D.int (k:Nat)) (Bb l ti ns most many found few a b c d)=some (.nx (Bb l ti ns most many found' few a' b' c' d'))
 |0,i,found,a,b,c,d,h1,h2,ho=>⟨found,a,b,c,d,by omega,ho,rfl⟩
 |n+1,i,found,a,b,c,d,h1,h2,ho=>by
  obtain⟨r,b',c',d',hr,e1⟩:=V2 l ti ns most many found few b c d i hti hl hn (by omega) (by omega) ho (by omega)
  obtain⟨f',a'',b'',c'',d'',q1,q2,q3⟩:=Lz l ti ns most many few hti hl hn hm n (i+1) (found++[r]) (some (.val (.int (i:Nat)) true)) b' c' d' (by omega) (by simp;omega) (by
   intro y hy
   rcases List.mem_append.mp hy with hy|hy
   ·exact ho y hy
   ·rw[List.mem_singleton.mp hy];exact hr)
  refine⟨f',a'',b'',c'',d'',q1,q2,?_⟩
  rw[Am,<-q3]
  exact eY rfl e1
theorem Rk (l:List Int)(ti:Nat)(ns:List Str)(most:Int)(many:Nat)(hti:ti<10)(hl:ns.length=9)(hn:∀x∈ns,okN x)(hm:many<50):∃t:List Rw,t.length=many/\(∀r∈t,nR ns r)/\fJ [.tu l,.int (ti:Nat),.lst (ns.map .str),.int most,.int (many:Nat)]=some (.lst (t.map Rw.d),.own):=by
 let few:Int:=if 3<most then 5 else 2
 obtain⟨t,a',b',c',d',q1,q2,q3⟩:=Lz l ti ns most many few hti hl hn hm many 0 [] none none none none (by omega) rfl (by simp)
 refine⟨t,q1,q2,?_⟩
 have e:nQ (aW 11 [.tu l,.int (ti:Nat),.lst (ns.map .str),.int most,.int (many:Nat)])=some (.rt (.lst (t.map Rw.d)) .own (Bb l ti ns most many t few a' b' c' d')):=by
  unfold nQ
  refine(aD (cB (i:=5) (l:=[]) rfl rfl)).trans ?_
  refine(aD (bB (i:=6) (d:= .int few) (aB (x:= .lst [.int 2,.int 5]) rfl (jE (x:= .int (if 3<most then 1 else 0)) (aR (aB rfl rfl rfl)) ?_) ?_) rfl)).trans ?_
  ·show lC qM mU [.bl (decide (3<most))]=_
   by_cases hh:3<most<;>simp[lC,qM,hh]
  ·by_cases hh:3<most
   ·simp only[few,hh,if_true];exact lE (j:=1) rfl
   ·simp only[few,hh,if_false];exact lE (j:=0) rfl
  refine(aD ((rE (n:=many) rfl (by omega)).trans q3)).trans ?_
  rfl
 simp only[fJ,List.length_cons,List.length_nil,if_true,e,fW]
end K
inductive SP where
 |nm (j:Nat)
 |no (i:Int) (b:Bool)
noncomputable def SP.d (ns:List Str)(m:Int):SP->D
 | .nm j=> .str (ns.getD j "")
 | .no i b=> .int (i+m*(if b then 1 else 0))
noncomputable def X5 (w:Str):Option Int:=if Txt.isdigit w=true then(if w.length<=640 then PySem.intText? w else none)else some 0
noncomputable def Zy (kw:Str×Str):Option SP:=(X5 kw.2).bind λn=>if kw.1=="c" then(if 0<=n/\n<9 then some (.nm n.toNat)else none)else if(kw.2=="p"||kw.2=="q")=true then(if 0<=Txt.find "pq" kw.2/\Txt.find "pq" kw.2<6 then some (.nm (3+(Txt.find "pq" kw.2).toNat))else none)else some (.no n (kw.1=="v"))
noncomputable def U0 (kw:Str×Str):Bool:=PyData.strOk kw.1&&PyData.strOk kw.2
theorem a0B:PyData.strOk "p"=true:=by decide+kernel
theorem a0C:PyData.strOk "q"=true:=by decide+kernel
theorem a0A:PyData.strOk "c"=true:=by decide+kernel
theorem a0D:PyData.strOk "v"=true:=by decide+kernel
theorem Z3 {w:Str}(h:PyData.strOk w=true):tZ false (.str w) (.tup [.str "p",.str "q"])=some (.bl (w=="p"||w=="q")):=by
 have hs:qP (.tup [.str "p",.str "q"])=true:=jd (n:=1) (by simp[mz,a0B,a0C])
 have e:∀a b:Str,(a==b)=(b==a):=λa b=>by
  by_cases h:a=b
  ·subst h;rfl
  ·have h':¬b=a:=λe=>h e.symm
   rw[beq_eq_false_iff_ne.mpr h,beq_eq_false_iff_ne.mpr h']
 unfold tZ
 simp only[uB,Option.bind_some,o7 _ h,hs,Bool.and_self,if_true,List.any_cons,List.any_nil,eq_str,Bool.or_false]
 rw[e "p" w,e "q" w]
 rfl
theorem Vh {a b:Str}(ha:PyData.strOk a=true)(hb:PyData.strOk b=true):dN false (.str a) (.str b)=some (.bl (a==b)):=by
 unfold dN
 rw[o7 _ ha,o7 _ hb,eq_str]
 rfl
theorem JL {ns:List Str}{j:Nat}(h:j<ns.length):aG (.lst (ns.map .str)) (.int (j:Nat))=some (.str (ns.getD j "")):=lE (by rw[List.getElem?_map,List.getElem?_eq_getElem h];simp[List.getD_eq_getElem?_getD,List.getElem?_eq_getElem h])
theorem uZ (ns:List Str)(m:Int)(s:SP):flat (s.d ns m)=true:=by cases s<;>rfl
namespace K
noncomputable def ZV:GS:=(aO (bF 12 (Ka (tV (Wj "str" rm (aj 11))) (fB (lC qM mU) (aa (aj 11) aq)) (fC (.int 0)))) (aO (bF 13 (f2 aP (aj 12) (f2 (jc cQ bG) (aj 2) (fB (lC qM mU) (aa (f2 (dN false) (aj 10) (fC (.str "v"))) aq))))) (aO (jM (t2 (tZ false) (aj 11) (cF (aa (fC (.str "p")) (aa (fC (.str "q")) aq)))) (bF 13 (f2 aG (aj 1) (f2 aP (fC (.int 3)) (vU "str" Ci (fC (.str "pq")) (aa (aj 11) aq))))) cg) (eF 9 (Ka (t2 (dN false) (aj 10) (fC (.str "c"))) (f2 aG (aj 1) (aj 12)) (aj 13))))))
noncomputable def Ar (a0:Option L)(ns:List Str)(m:Int)(a3 a4 a5 a6 a7 a8:Option L)(ps:List D)(a10 a11 a12 a13:Option L):bw:=[a0,some (.val (.lst (ns.map .str)) false),some (.val (.int m) false),a3,a4,a5,a6,a7,a8,some (.own ps true none),a10,a11,a12,a13]
theorem UG (a0:Option L)(ns:List Str)(m:Int)(a3 a4 a5 a6 a7 a8:Option L)(ps:List D)(a12 a13:Option L)(kw:Str×Str)(s:SP)(f:Bool)(hl:ns.length=9)(hs:Zy kw=some s)(ho:U0 kw=true)(hp:ps.length<100):
 ∃qY kO,ZV (Ar a0 ns m a3 a4 a5 a6 a7 a8 ps (some (.val (.str kw.1) f)) (some (.val (.str kw.2) f)) a12 a13)=some (.nx (Ar a0 ns m a3 a4 a5 a6 a7 a8 (ps++[s.d ns m]) (some (.val (.str kw.1) f)) (some (.val (.str kw.2) f)) qY kO)):=by
 obtain⟨kind,w⟩:=kw
 simp only[U0,Bool.and_eq_true]at ho
 unfold Zy at hs
 cases hn:X5 w with
 |none=>simp only[hn]at hs;cases hs
 |some n=>
  simp only[hn,Option.bind_some]at hs
  let E (qY kO:Option L):bw:=Ar a0 ns m a3 a4 a5 a6 a7 a8 ps (some (.val (.str kind) f)) (some (.val (.str w) f)) qY kO
  have g12:bF 12 (Ka (tV (Wj "str" rm (aj 11))) (fB (lC qM mU) (aa (aj 11) aq)) (fC (.int 0))) (E a12 a13)=some (.nx (E (some (.val (.int n) true)) a13)):=by
   refine(bB (i:=12) (d:= .int n) ?_ rfl).trans rfl
   unfold X5 at hn
   refine wu (x:=Txt.isdigit w) rfl (λz=>?_) (λz=>?_)
   ·rw[if_pos z]at hn
    split at hn
    ·rename_i hz
     refine jE (aR rfl) ?_
     show lC qM mU [.str w]=_
     simp only[lC,qM,mU]
     rw[if_pos hz,hn]
     rfl
    ·cases hn
   ·rw[if_neg (by rw[z];simp)]at hn
    cases hn
    rfl
  have g13:bF 13 (f2 aP (aj 12) (f2 (jc cQ bG) (aj 2) (fB (lC qM mU) (aa (f2 (dN false) (aj 10) (fC (.str "v"))) aq)))) (E (some (.val (.int n) true)) a13)=some (.nx (E (some (.val (.int n) true)) (some (.val (.int (n+m*(if(kind=="v")=true then 1 else 0))) true)))):=by
   refine(bB (i:=13) (aB rfl (aB rfl (jE (x:= .int (if(kind=="v")=true then 1 else 0)) (aR (aB rfl rfl (Vh ho.1 a0D))) ?_) (pK m _ (.inr ?_))) rfl) rfl).trans rfl
   ·cases(kind==("v":Str))<;>rfl
   ·cases(kind==("v":Str))<;>simp
  have kpq:∀kO,t2 (tZ false) (aj 11) (cF (aa (fC (.str "p")) (aa (fC (.str "q")) aq))) (vis (E (some (.val (.int n) true)) kO))=some (w=="p"||w=="q"):=λkO=>eU rfl (cN (bU rfl (aR rfl)) (by simp)) (Z3 ho.2)
  have kc:∀kO,t2 (dN false) (aj 10) (fC (.str "c")) (vis (E (some (.val (.int n) true)) kO))=some (kind=="c"):=λkO=>eU rfl rfl (Vh ho.1 a0A)
  have app:∀(kO:Option L) (d:D),Ka (t2 (dN false) (aj 10) (fC (.str "c"))) (f2 aG (aj 1) (aj 12)) (aj 13) (vis (E (some (.val (.int n) true)) kO))=some d->flat d=true->eF 9 (Ka (t2 (dN false) (aj 10) (fC (.str "c"))) (f2 aG (aj 1) (aj 12)) (aj 13)) (E (some (.val (.int n) true)) kO)=some (.nx (Ar a0 ns m a3 a4 a5 a6 a7 a8 (ps++[d]) (some (.val (.str kind) f)) (some (.val (.str w) f)) (some (.val (.int n) true)) kO)):=λkO d h1 h2=>
   (ig (i:=9) (l:=ps) rfl (by rw[sizeLine_eq];omega) h1 h2).trans rfl
  unfold ZV
  have last:∃kO,aO (jM (t2 (tZ false) (aj 11) (cF (aa (fC (.str "p")) (aa (fC (.str "q")) aq)))) (bF 13 (f2 aG (aj 1) (f2 aP (fC (.int 3)) (vU "str" Ci (fC (.str "pq")) (aa (aj 11) aq))))) cg) (eF 9 (Ka (t2 (dN false) (aj 10) (fC (.str "c"))) (f2 aG (aj 1) (aj 12)) (aj 13))) (E (some (.val (.int n) true)) (some (.val (.int (n+m*(if(kind=="v")=true then 1 else 0))) true)))
   =some (.nx (Ar a0 ns m a3 a4 a5 a6 a7 a8 (ps++[s.d ns m]) (some (.val (.str kind) f)) (some (.val (.str w) f)) (some (.val (.int n) true)) kO)):=by
   have pq:(w=="p"||w=="q")=true->(0<=Txt.find "pq" w/\Txt.find "pq" w<6)->jM (t2 (tZ false) (aj 11) (cF (aa (fC (.str "p")) (aa (fC (.str "q")) aq)))) (bF 13 (f2 aG (aj 1) (f2 aP (fC (.int 3)) (vU "str" Ci (fC (.str "pq")) (aa (aj 11) aq))))) cg (E (some (.val (.int n) true)) (some (.val (.int (n+m*(if(kind=="v")=true then 1 else 0))) true)))
    =some (.nx (E (some (.val (.int n) true)) (some (.val (.str (ns.getD (3+(Txt.find "pq" w).toNat) "")) true)))):=λz1 z2=>by
    refine(jF (by rw[kpq,z1])).trans ((bB (i:=13) (d:= .str (ns.getD (3+(Txt.find "pq" w).toNat) "")) (aB rfl (aB rfl (uy rfl rfl (aR rfl) (d:= .int (Txt.find "pq" w)) rfl) (z:= .int ((3+(Txt.find "pq" w).toNat:Nat):Int)) (by simp only[aP];congr 2;omega)) (JL (by omega))) rfl).trans rfl)
   cases hc:(kind==("c":Str))with
   |true=>
    rw[hc]at hs
    simp only[if_true]at hs
    split at hs
    case isFalse=>cases hs
    rename_i hz
    cases hs
    have fin:∀kO,Ka (t2 (dN false) (aj 10) (fC (.str "c"))) (f2 aG (aj 1) (aj 12)) (aj 13) (vis (E (some (.val (.int n) true)) kO))=some ((SP.nm n.toNat).d ns m):=λkO=>wu (by rw[kc,hc]) (λ_=>aB rfl rfl (by
     show aG (.lst (ns.map .str)) (.int n)=_
     have:=JL (ns:=ns) (j:=n.toNat) (by omega)
     rw[show((n.toNat:Nat):Int)=n by omega]at this
     exact this)) (λz=>by cases z)
    cases hpq:(w=="p"||w=="q")with
    |false=>exact⟨_,(aD ((iu (by rw[kpq,hpq])).trans rfl)).trans (app _ _ (fin _) (uZ _ _ _))⟩
    |true=>
     by_cases z2:0<=Txt.find "pq" w/\Txt.find "pq" w<6
     ·exact⟨_,(aD (pq hpq z2)).trans (app _ _ (fin _) (uZ _ _ _))⟩
     ·exfalso
      have:w="p"\/w="q":=by simpa using hpq
      rcases this with rfl|rfl
      ·exact z2 (by decide+kernel)
      ·exact z2 (by decide+kernel)
   |false=>
    rw[hc]at hs
    simp only[Bool.false_eq_true,if_false]at hs
    cases hpq:(w=="p"||w=="q")with
    |true=>
     rw[hpq]at hs
     simp only[if_true]at hs
     split at hs
     case isFalse=>cases hs
     rename_i hz
     cases hs
     exact⟨_,(aD (pq hpq hz)).trans (app _ _ (wu (by rw[kc,hc]) (λz=>by cases z) λ_=>rfl) (uZ _ _ (.nm _)))⟩
    |false=>
     rw[hpq]at hs
     simp only[Bool.false_eq_true,if_false]at hs
     cases hs
     exact⟨_,(aD ((iu (by rw[kpq,hpq])).trans rfl)).trans (app _ _ (wu (by rw[kc,hc]) (λz=>by cases z) λ_=>rfl) (uZ _ _ (.no _ _)))⟩
  obtain⟨kO,last⟩:=last
  exact⟨_,kO,((aD g12).trans (aD g13)).trans last⟩
noncomputable def pairD (kw:Str×Str):D:= .tup [.str kw.1,.str kw.2]
theorem Ln (a0:Option L)(ns:List Str)(m:Int)(a3 a4 a5 a6 a7 a8:Option L)(f:Bool)(hl:ns.length=9):∀(kws:List (Str×Str)) (ss:List SP) (ps:List D) (a10 a11 a12 a13:Option L),kws.map Zy=ss.map some->kws.all U0=true->ps.length+kws.length<100->
 ∃b10 BR qY kO,cT (dF 2 (aZ (aF 10) (aZ (aF 11) dM))) ZV f (kws.map pairD) (Ar a0 ns m a3 a4 a5 a6 a7 a8 ps a10 a11 a12 a13)=some (.nx (Ar a0 ns m a3 a4 a5 a6 a7 a8 (ps++ss.map (SP.d ns m)) b10 BR qY kO))
 |[],[],ps,a10,a11,a12,a13,_,_,_=>⟨a10,a11,a12,a13,by simp[cT]⟩
 |[],_::_,ps,a10,a11,a12,a13,h,_,_=>by simp at h
 |_::_,[],ps,a10,a11,a12,a13,h,_,_=>by simp at h
 |kw::kws,s::ss,ps,a10,a11,a12,a13,h,ho,hp=>by
  simp only[List.map_cons,List.cons.injEq]at h
  simp only[List.all_cons,Bool.and_eq_true]at ho
  simp only[List.length_cons]at hp
  obtain⟨qY,kO,e1⟩:=UG a0 ns m a3 a4 a5 a6 a7 a8 ps a12 a13 kw s f hl h.1 ho.1 (by omega)
  obtain⟨W2,Yw,c12,RB,e2⟩:=Ln a0 ns m a3 a4 a5 a6 a7 a8 f hl kws ss (ps++[s.d ns m]) (some (.val (.str kw.1) f)) (some (.val (.str kw.2) f)) qY kO h.2 ho.2 (by simp;omega)
  refine⟨W2,Yw,c12,RB,?_⟩
  rw[List.map_cons,List.map_cons,show ps++s.d ns m::ss.map (SP.d ns m)=ps++[s.d ns m]++ss.map (SP.d ns m) by simp,<-e2]
  exact eY rfl e1
end K
noncomputable def chars (f:Str):List Str:=f.cps.toList.map λc=>⟨#[c]⟩
theorem Mr (f:Str):Yy f=(chars f).map .str:=by simp[Yy,chars]
theorem Dq:∀(a b:List Str),yQ (a.map .str) (b.map .str)=(a.zip b).map K.pairD
 |[],_=>by simp[yQ]
 |_::_,[]=>by simp[yQ]
 |x::a,y::b=>by
  have:=Dq a b
  unfold yQ at this ⊢
  simp only[List.map_cons,List.zip_cons_cons,this]
  rfl
noncomputable def Kh (w:Str):Option Str:=if w="put" then some "cv" else if w="get" then some "bc" else if w="swap" then some "bcv" else if w="add" then some "bvv" else if w="skip" then some "bn" else if w="fence" then some "" else none
noncomputable def Wk:FD:=(Gq [((fC (.str "put")),(fC (.str "cv"))),((fC (.str "get")),(fC (.str "bc"))),((fC (.str "swap")),(fC (.str "bcv"))),((fC (.str "add")),(fC (.str "bvv"))),((fC (.str "skip")),(fC (.str "bn"))),((fC (.str "fence")),(fC (.str "")))])
noncomputable def Vf:D:= .dct [.inr "put",.inr "get",.inr "swap",.inr "add",.inr "skip",.inr "fence"] [.str "cv",.str "bc",.str "bcv",.str "bvv",.str "bn",.str ""]
theorem Sx (ρ:aH):Wk ρ=some Vf:=rfl
theorem T5 {w f:Str}(h:Kh w=some f):aG Vf (.str w)=some (.str f):=by
 unfold Kh at h
 split at h
 ·rename_i e;subst e;cases h;rfl
 split at h
 ·rename_i e;subst e;cases h;rfl
 split at h
 ·rename_i e;subst e;cases h;rfl
 split at h
 ·rename_i e;subst e;cases h;rfl
 split at h
 ·rename_i e;subst e;cases h;rfl
 split at h
 ·rename_i e;subst e;cases h;rfl
 cases h
noncomputable def qG (z y:Str):Option (List Str):=if(y.length==0)=false/\z.length<=sizeLine/\(Builtin.Str.partsBetween z (Builtin.Str.occurrences z y 0 z.length (z.length+1)) y.length).length<=sizeLine/\(Txt.split z y).length<=sizeLine then some (Txt.split z y)else none
theorem Aw {z y:Str}{l:List Str}(h:qG z y=some l):oX z y=some (l.map .str):=by
 unfold qG at h
 unfold oX
 split at h
 ·rename_i hc
  cases h
  rw[if_pos hc]
 ·cases h
noncomputable def FQ {α β:Type}(f:α->Option β):List α->Option (List β)
 |[]=>some []
 |a::l=>(f a).bind λb=>(FQ f l).map λr=>b::r
theorem uT {α β:Type}{f:α->Option β}:∀{l:List α}{r:List β},FQ f l=some r->l.map f=r.map some
 |[],r,h=>by cases h;rfl
 |a::l,r,h=>by
  simp only[FQ]at h
  cases e1:f a with
  |none=>rw[e1]at h;cases h
  |some b=>
   rw[e1]at h
   cases e2:FQ f l with
   |none=>rw[e2]at h;cases h
   |some r'=>
    rw[e2]at h
    cases h
    simp[e1,uT e2]
noncomputable def parseRow (z:Str):Option (Str×List SP):=(qG z " ").bind λws=>match ws with
 |[]=>none
 |w::ws=>(Kh w).bind λf=>if((chars f).zip ws).all U0=true/\((chars f).zip ws).length<50/\(w::ws).length<=50 then(FQ Zy ((chars f).zip ws)).map λss=>(w,ss)else none
noncomputable def qO (ns:List Str)(m:Int)(x:Str×List SP):D:= .tup (.str x.1::x.2.map (SP.d ns m))
theorem Mz (ns:List Str)(m:Int)(x:Str×List SP):flat (qO ns m x)=true:=by
 simp only[qO,flat,flat.flats,Bool.true_and]
 exact cA (uZ ns m)
namespace K
noncomputable def rwB:GS:=(aO (bF 7 (fZ (yJ (aj 6) (aa (fC (.str " ")) aq)))) (aO (bF 8 (f2 aG (Gq [((fC (.str "put")),(fC (.str "cv"))),((fC (.str "get")),(fC (.str "bc"))),((fC (.str "swap")),(fC (.str "bcv"))),((fC (.str "add")),(fC (.str "bvv"))),((fC (.str "skip")),(fC (.str "bn"))),((fC (.str "fence")),(fC (.str "")))]) (f2 aG (aj 7) (fC (.int 0))))) (aO (gR 9 (oE (aa (f2 aG (aj 7) (fC (.int 0))) aq))) (aO (f9 (CG (aa (aj 8) (aa (u6 (aj 7) (fL (fC (.int 1))) gW) aq))) (dF 2 (aZ (aF 10) (aZ (aF 11) dM))) ZV) (eF 5 (fB (lC cu eO) (aa (aj 9) aq)))))))
noncomputable def mj (a0:Option L)(ns:List Str)(m:Int)(a3 a4:Option L)(found:List D)(a6 a7 a8 a9 a10 a11 a12 a13:Option L):bw:=[a0,some (.val (.lst (ns.map .str)) false),some (.val (.int m) false),a3,a4,some (.own found true none),a6,a7,a8,a9,a10,a11,a12,a13]
theorem Uu (a0:Option L)(ns:List Str)(m:Int)(a3 a4:Option L)(found:List D)(a7 a8 a9 a10 a11 a12 a13:Option L)(f:Bool)(z:Str)(x:Str×List SP)(hl:ns.length=9)(hx:parseRow z=some x)(hf:found.length<100):
 ∃b7 b8 b9 b10 BR qY kO,rwB (mj a0 ns m a3 a4 found (some (.val (.str z) f)) a7 a8 a9 a10 a11 a12 a13)=some (.nx (mj a0 ns m a3 a4 (found++[qO ns m x]) (some (.val (.str z) f)) b7 b8 b9 b10 BR qY kO)):=by
 unfold parseRow at hx
 cases e0:qG z " " with
 |none=>rw[e0]at hx;cases hx
 |some l=>
  rw[e0,Option.bind_some]at hx
  cases l with
  |nil=>cases hx
  |cons w ws=>
   dsimp only at hx
   cases e1:Kh w with
   |none=>rw[e1]at hx;cases hx
   |some g=>
    rw[e1,Option.bind_some]at hx
    split at hx
    case isFalse=>cases hx
    rename_i hc
    obtain⟨c1,c2,c3⟩:=hc
    cases e2:FQ Zy ((chars g).zip ws)with
    |none=>rw[e2]at hx;cases hx
    |some ss=>
     rw[e2]at hx
     cases hx
     have sp:=Aw e0
     let E7:Option L:=some (.val (.lst ((w::ws).map .str)) true)
     have sx:∀ρ:aH,at? ρ 6=some (.str z)->fZ (yJ (aj 6) (aa (fC (.str " ")) aq)) ρ=some (.lst ((w::ws).map .str)):=λρ h6=>by
      refine je ?_
      show(aj 6 ρ).bind (λx=>(aa (fC (.str " ")) aq ρ).bind λl=>_)=_
      rw[show aj 6 ρ=some (.str z) from h6,Option.bind_some]
      show oX z " "=_
      rw[sp]
     have g7:bF 7 (fZ (yJ (aj 6) (aa (fC (.str " ")) aq))) (mj a0 ns m a3 a4 found (some (.val (.str z) f)) a7 a8 a9 a10 a11 a12 a13)=some (.nx (mj a0 ns m a3 a4 found (some (.val (.str z) f)) E7 a8 a9 a10 a11 a12 a13)):=
      (sV (i:=7) (sx _ rfl) (sx _ (by cases f<;>simp[mj,vals,pick,at?,flat]))).trans rfl
     have w0:∀ρ:aH,at? ρ 7=some (.lst ((w::ws).map .str))->f2 aG (aj 7) (fC (.int 0)) ρ=some (.str w):=λρ h7=>aB h7 rfl (sI _ 0)
     have g8:bF 8 (f2 aG (Gq [((fC (.str "put")),(fC (.str "cv"))),((fC (.str "get")),(fC (.str "bc"))),((fC (.str "swap")),(fC (.str "bcv"))),((fC (.str "add")),(fC (.str "bvv"))),((fC (.str "skip")),(fC (.str "bn"))),((fC (.str "fence")),(fC (.str "")))]) (f2 aG (aj 7) (fC (.int 0)))) (mj a0 ns m a3 a4 found (some (.val (.str z) f)) E7 a8 a9 a10 a11 a12 a13)=some (.nx (mj a0 ns m a3 a4 found (some (.val (.str z) f)) E7 (some (.val (.str g) true)) a9 a10 a11 a12 a13)):=
      (bB (i:=8) (aB (Sx _) (w0 _ rfl) (T5 e1)) rfl).trans rfl
     have g9:gR 9 (oE (aa (f2 aG (aj 7) (fC (.int 0))) aq)) (mj a0 ns m a3 a4 found (some (.val (.str z) f)) E7 (some (.val (.str g) true)) a9 a10 a11 a12 a13)=some (.nx (mj a0 ns m a3 a4 found (some (.val (.str z) f)) E7 (some (.val (.str g) true)) (some (.own [.str w] true none)) a10 a11 a12 a13)):=by
      refine(cB (i:=9) (l:=[.str w]) ?_ rfl).trans rfl
      show(aa _ _ _).bind _=_
      rw[aR (w0 _ rfl),Option.bind_some]
      rfl
     obtain⟨b10,BR,qY,kO,lp⟩:=Ln a0 ns m a3 a4 (some (.own found true none)) (some (.val (.str z) f)) E7 (some (.val (.str g) true)) true hl ((chars g).zip ws) ss [.str w] a10 a11 a12 a13 (uT e2) c1 (by simp only[List.length_cons,List.length_nil];omega)
     have iz:∀ρ:aH,at? ρ 8=some (.str g)->at? ρ 7=some (.lst ((w::ws).map .str))->CG (aa (aj 8) (aa (u6 (aj 7) (fL (fC (.int 1))) gW) aq)) ρ=some (((chars g).zip ws).map pairD,[.str g,.lst (ws.map .str)]):=λρ h8 h7=>by
      show(aa _ _ ρ).bind _=_
      rw[bU h8 (aR (uz h7 (m7 rfl) rfl (e:= .lst (ws.map .str)) (by
       simp only[Gj]
       rw[show(1:Int)=((1:Nat):Int) by rfl,Gf]
       rfl))),Option.bind_some]
      show some (yQ (Yy g) (ws.map .str),[D.str g,D.lst (ws.map .str)])=_
      rw[Mr,Dq]
     have gF:f9 (CG (aa (aj 8) (aa (u6 (aj 7) (fL (fC (.int 1))) gW) aq))) (dF 2 (aZ (aF 10) (aZ (aF 11) dM))) ZV (mj a0 ns m a3 a4 found (some (.val (.str z) f)) E7 (some (.val (.str g) true)) (some (.own [.str w] true none)) a10 a11 a12 a13)
      =some (.nx (mj a0 ns m a3 a4 found (some (.val (.str z) f)) E7 (some (.val (.str g) true)) (some (.own (.str w::ss.map (SP.d ns m)) true none)) b10 BR qY kO)):=by
      rw[jL (iz _ rfl rfl) (iz _ (by simp[mj,vals,pick,at?]) (by simp[mj,vals,pick,at?,E7]))]
      exact lp
     refine⟨E7,some (.val (.str g) true),some (.own (.str w::ss.map (SP.d ns m)) true none),b10,BR,qY,kO,?_⟩
     unfold rwB
     rw[aD g7,aD g8,aD g9,aD gF]
     exact(ig (i:=5) (d:=qO ns m (w,ss)) (l:=found) rfl (by rw[sizeLine_eq];omega) (um (.inl rfl)) (Mz ns m (w,ss))).trans rfl
theorem Lg (a0:Option L)(ns:List Str)(m:Int)(a3 a4:Option L)(f:Bool)(hl:ns.length=9):∀(zs:List Str) (xs:List (Str×List SP)) (found:List D) (a6 a7 a8 a9 a10 a11 a12 a13:Option L),zs.map parseRow=xs.map some->found.length+zs.length<100->
 ∃b6 b7 b8 b9 b10 BR qY kO,cT (aF 6) rwB f (zs.map .str) (mj a0 ns m a3 a4 found a6 a7 a8 a9 a10 a11 a12 a13)=some (.nx (mj a0 ns m a3 a4 (found++xs.map (qO ns m)) b6 b7 b8 b9 b10 BR qY kO))
 |[],[],found,a6,a7,a8,a9,a10,a11,a12,a13,_,_=>⟨a6,a7,a8,a9,a10,a11,a12,a13,by simp[cT]⟩
 |[],_::_,found,a6,a7,a8,a9,a10,a11,a12,a13,h,_=>by simp at h
 |_::_,[],found,a6,a7,a8,a9,a10,a11,a12,a13,h,_=>by simp at h
 |z::zs,x::xs,found,a6,a7,a8,a9,a10,a11,a12,a13,h,hp=>by
  simp only[List.map_cons,List.cons.injEq]at h
  simp only[List.length_cons]at hp
  obtain⟨b7,b8,b9,b10,BR,qY,kO,e1⟩:=Uu a0 ns m a3 a4 found a7 a8 a9 a10 a11 a12 a13 f z x hl h.1 (by omega)
  obtain⟨c6,c7,c8,c9,W2,Yw,c12,RB,e2⟩:=Lg a0 ns m a3 a4 f hl zs xs (found++[qO ns m x]) (some (.val (.str z) f)) b7 b8 b9 b10 BR qY kO h.2 (by simp;omega)
  refine⟨c6,c7,c8,c9,W2,Yw,c12,RB,?_⟩
  rw[List.map_cons,List.map_cons,show found++qO ns m x::xs.map (qO ns m)=found++[qO ns m x]++xs.map (qO ns m) by simp,<-e2]
  exact eY rfl e1
end K
noncomputable def z9 (z:Str):Option (List (Str×List SP)):=(qG z ",").bind λrs=>if rs.length<50 then FQ parseRow rs else none
noncomputable def Af (z:Str):Option (List (List (Str×List SP))):=(qG z "/").bind λts=>if ts.length<50 then FQ z9 ts else none
noncomputable def Bc (ns:List Str)(m:Int)(xs:List (Str×List SP)):D:= .lst (xs.map (qO ns m))
noncomputable def Zj:SP->Bool
 | .nm j=>decide (j<9)
 | .no i _=>decide (-1000<=i/\i<=1000)
noncomputable def Yu:SP->Bool
 | .nm j=>decide (j<9)
 | .no _ _=>false
noncomputable def ceV:SP->Bool
 | .nm j=>decide (j<3)
 | .no _ _=>false
noncomputable def nuV:SP->Bool
 | .no i b=>decide (0<=i/\i<=1000)&&!b
 |_=>false
noncomputable def GF (x:Str×List SP):Bool:=
 (x.1=="put"&&(match x.2 with|[c,v]=>ceV c&&Zj v|_=>false))||
 (x.1=="get"&&(match x.2 with|[b,c]=>Yu b&&ceV c|_=>false))||
 (x.1=="swap"&&(match x.2 with|[b,c,v]=>Yu b&&ceV c&&Zj v|_=>false))||
 (x.1=="add"&&(match x.2 with|[b,v,u]=>Yu b&&Zj v&&Zj u|_=>false))||
 (x.1=="skip"&&(match x.2 with|[b,n]=>Yu b&&nuV n|_=>false))||
 (x.1=="fence"&&(match x.2 with|[]=>true|_=>false))
theorem mJ {ns:List Str}{j:Nat}(h:j<ns.length):ns.getD j ""∈ns:=by
 rw[List.getD_eq_getElem?_getD,List.getElem?_eq_getElem h]
 exact List.getElem_mem h
theorem TV {ns:List Str}{j:Nat}(h:j<ns.length)(h3:j<3):ns.getD j ""∈ns.take 3:=by
 have:(ns.take 3)[j]?=some (ns.getD j ""):=by
  rw[List.getElem?_take_of_lt h3,List.getD_eq_getElem?_getD,List.getElem?_eq_getElem h]
  rfl
 exact List.mem_of_getElem? this
theorem M5 {ns:List Str}{m:Int}{s:SP}(hl:ns.length=9)(hn:∀x∈ns,okN x)(hm: -1000<=m/\m<=1000)(h:Zj s=true):∃v:Va,v.d=s.d ns m/\(∀x∈v.bx,PyData.strOk x=true)/\dB v.d=true:=by
 cases s with
 |nm j=>exact⟨.nm (ns.getD j ""),rfl,(λx hx=>by simp[Va.bx]at hx;rw[hx];exact(hn _ (mJ (by rw[hl];exact of_decide_eq_true h))).1),nY (hn _ (mJ (by rw[hl];exact of_decide_eq_true h)))⟩
 |no i b=>
  have h:=of_decide_eq_true h
  exact⟨.no _,rfl,(λx hx=>by simp[Va.bx]at hx),w6 (by split<;>omega) (by split<;>omega)⟩
theorem K4 {ns:List Str}{m:Int}{s:SP}(hl:ns.length=9)(hn:∀x∈ns,okN x)(h:Yu s=true):∃b:Str,.str b=s.d ns m/\PyData.strOk b=true/\dB (.str b)=true:=by
 cases s with
 |nm j=>exact⟨ns.getD j "",rfl,(hn _ (mJ (by rw[hl];exact of_decide_eq_true h))).1,nY (hn _ (mJ (by rw[hl];exact of_decide_eq_true h)))⟩
 |no i b=>cases h
theorem Ox {ns:List Str}{m:Int}{s:SP}(hl:ns.length=9)(hn:∀x∈ns,okN x)(h:ceV s=true):∃c:Str,.str c=s.d ns m/\c∈ns.take 3/\dB (.str c)=true:=by
 cases s with
 |nm j=>exact⟨ns.getD j "",rfl,TV (by have:=of_decide_eq_true h;omega) (of_decide_eq_true h),nY (hn _ (mJ (by have:=of_decide_eq_true h;omega)))⟩
 |no i b=>cases h
theorem Zh {ns:List Str}{m:Int}{s:SP}(h:nuV s=true):∃n:Nat,.int (n:Nat)=s.d ns m/\dB (.int (n:Nat))=true:=by
 cases s with
 |nm j=>cases h
 |no i b=>
  simp only[nuV,Bool.and_eq_true,decide_eq_true_eq,Bool.not_eq_true']at h
  refine⟨i.toNat,?_,w6 (by omega) (by omega)⟩
  rw[h.2]
  simp only[SP.d,Bool.false_eq_true,if_false,Int.mul_zero,Int.add_zero]
  congr 1
  omega
theorem Td {ns:List Str}{m:Int}{x:Str×List SP}(hl:ns.length=9)(hn:∀x∈ns,okN x)(hm: -1000<=m/\m<=1000)(h:GF x=true):∃r:Rw,r.d=qO ns m x/\nR ns r:=by
 obtain⟨w,ss⟩:=x
 simp only[GF,Bool.or_eq_true,Bool.and_eq_true,beq_iff_eq]at h
 rcases h with((((⟨rfl,h⟩|⟨rfl,h⟩)|⟨rfl,h⟩)|⟨rfl,h⟩)|⟨rfl,h⟩)|⟨rfl,h⟩<;>split at h<;>try (cases h;done)
 ·rename_i c v
  rw[Bool.and_eq_true]at h
  obtain⟨c',e1,h1,Sv⟩:=Ox (m:=m) hl hn h.1
  obtain⟨v',e2,h2,Sw⟩:=M5 (m:=m) hl hn hm h.2
  exact⟨.put c' v',by simp only[Rw.d,qO,List.map_cons,List.map_nil,e1,e2],⟨λx hx=>h2 x hx,(λc e=>by cases e;exact h1),by simp[Rw.mq,Rw.parts,Sv,Sw]⟩⟩
 ·rename_i b c
  rw[Bool.and_eq_true]at h
  obtain⟨b',e1,h1,Sv⟩:=K4 (m:=m) hl hn h.1
  obtain⟨c',e2,h2,Sw⟩:=Ox (m:=m) hl hn h.2
  exact⟨.get b' c',by simp only[Rw.d,qO,List.map_cons,List.map_nil,e1,e2],⟨λx hx=>by simp[Rw.bx]at hx;rw[hx];exact h1,(λc e=>by cases e;exact h2),by simp[Rw.mq,Rw.parts,Sv,Sw]⟩⟩
 ·rename_i b c v
  rw[Bool.and_eq_true,Bool.and_eq_true]at h
  obtain⟨b',e1,h1,Sv⟩:=K4 (m:=m) hl hn h.1.1
  obtain⟨c',e2,h2,Sw⟩:=Ox (m:=m) hl hn h.1.2
  obtain⟨v',e3,h3,dh3⟩:=M5 (m:=m) hl hn hm h.2
  exact⟨.swap b' c' v',by simp only[Rw.d,qO,List.map_cons,List.map_nil,e1,e2,e3],⟨λx hx=>by
   simp only[Rw.bx,List.mem_cons]at hx
   rcases hx with rfl|hx
   ·exact h1
   ·exact h3 x hx,(λc e=>by cases e;exact h2),by simp[Rw.mq,Rw.parts,Sv,Sw,dh3]⟩⟩
 ·rename_i b v u
  rw[Bool.and_eq_true,Bool.and_eq_true]at h
  obtain⟨b',e1,h1,Sv⟩:=K4 (m:=m) hl hn h.1.1
  obtain⟨v',e2,h2,Sw⟩:=M5 (m:=m) hl hn hm h.1.2
  obtain⟨u',e3,h3,dh3⟩:=M5 (m:=m) hl hn hm h.2
  exact⟨.add b' v' u',by simp only[Rw.d,qO,List.map_cons,List.map_nil,e1,e2,e3],⟨λx hx=>by
   simp only[Rw.bx,List.mem_cons,List.mem_append]at hx
   rcases hx with rfl|hx|hx
   ·exact h1
   ·exact h2 x hx
   ·exact h3 x hx,(λc e=>by cases e),by simp[Rw.mq,Rw.parts,Sv,Sw,dh3]⟩⟩
 ·rename_i b n
  rw[Bool.and_eq_true]at h
  obtain⟨b',e1,h1,Sv⟩:=K4 (m:=m) hl hn h.1
  obtain⟨n',e2,Sw⟩:=Zh (ns:=ns) (m:=m) h.2
  exact⟨.skip b' n',by simp only[Rw.d,qO,List.map_cons,List.map_nil,e1,e2],⟨λx hx=>by simp[Rw.bx]at hx;rw[hx];exact h1,(λc e=>by cases e),by simp[Rw.mq,Rw.parts,Sv,Sw]⟩⟩
 ·exact⟨.fence,rfl,Gw ns⟩
theorem GJ {ns:List Str}{m:Int}(hl:ns.length=9)(hn:∀x∈ns,okN x)(hm: -1000<=m/\m<=1000):∀{xs:List (Str×List SP)},xs.all GF=true->∃t:List Rw,t.map Rw.d=xs.map (qO ns m)/\(∀r∈t,nR ns r)
 |[],_=>⟨[],rfl,by simp⟩
 |x::xs,h=>by
  rw[List.all_cons,Bool.and_eq_true]at h
  obtain⟨r,e1,h1⟩:=Td (m:=m) hl hn hm h.1
  obtain⟨t,e2,h2⟩:=GJ (m:=m) hl hn hm h.2
  exact⟨r::t,by simp[e1,e2],by
   intro y hy
   rcases List.mem_cons.mp hy with rfl|hy
   ·exact h1
   ·exact h2 y hy⟩
noncomputable def rZ (t:List Rw):D:= .lst (t.map Rw.d)
theorem zN {ns:List Str}{m:Int}(hl:ns.length=9)(hn:∀x∈ns,okN x)(hm: -1000<=m/\m<=1000):∀{xss:List (List (Str×List SP))},xss.all (λxs=>xs.all GF&&decide (xs.length<=20))=true->∃ts:List (List Rw),ts.map rZ=xss.map (Bc ns m)/\∀t∈ts,t.length<=20/\∀r∈t,nR ns r
 |[],_=>⟨[],rfl,by simp⟩
 |xs::xss,h=>by
  rw[List.all_cons,Bool.and_eq_true,Bool.and_eq_true,decide_eq_true_eq]at h
  obtain⟨t,e1,h1⟩:=GJ (m:=m) hl hn hm h.1.1
  obtain⟨ts,e2,h2⟩:=zN (m:=m) hl hn hm h.2
  have hlen:t.length=xs.length:=by have:=congrArg List.length e1;simpa using this
  exact⟨t::ts,by simp only[List.map_cons,e2,rZ,Bc,e1],by
   intro y hy
   rcases List.mem_cons.mp hy with rfl|hy
   ·exact⟨by omega,h1⟩
   ·exact h2 y hy⟩
noncomputable def nu:List Str:=["put 0 1,get p 1/put 1 2,get p 0","put 0 1,fence,get p 1/put 1 2,fence,get p 0","swap p 0 1,get q 1/swap p 1 2,get q 0","put 0 1,put 1 2/get p 1,get q 0","put 0 1,get p 1/put 1 2,fence,get p 0","get p 0,put 1 1/get p 1,put 0 2","put 0 1,put 1 2/put 1 3,put 0 4","put 0 1,get p 0,get q 1/put 1 2,get p 1,get q 0","put 0 1/get p 0,put 1 p/get p 1,get q 0","put 0 1,get p 1/put 1 2,get p 2/put 2 3,get p 0","put 0 1,get p 1,skip p 1,put 2 3/put 1 2,get p 0,get q 2","put 0 1,put 0 2/get p 0,get q 0","swap p 0 1/swap p 0 2/get p 0,get q 0","put 0 1,add p p 7,put 1 p/get q 1,swap p 0 9","put 0 1,put 0 2,get p 0/put 0 3,get p 0","put 0 1,swap p 0 2,put 0 3,get q 0/get p 0"]
noncomputable def Ga (z:Str):Bool:=match Af z with
 |some xss=>xss.all (λxs=>xs.all GF&&decide (xs.length<=20))&&decide (xss.length<=3)
 |none=>false
theorem Ih:nu.all Ga=true:=by decide+kernel
namespace K
noncomputable def tsB:GS:=(aO (gR 5 (oE aq)) (aO (f9 (fj (fZ (yJ (aj 4) (aa (fC (.str ",")) aq)))) (aF 6) rwB) (tO 5 (eF 3 (aj 5)))))
noncomputable def yu (a0:Option L)(ns:List Str)(m:Int)(ts:List D)(a4 a5 a6 a7 a8 a9 a10 a11 a12 a13:Option L):bw:=[a0,some (.val (.lst (ns.map .str)) false),some (.val (.int m) false),some (.own ts true none),a4,a5,a6,a7,a8,a9,a10,a11,a12,a13]
theorem UL {z y:Str}{l:List Str}{i:Nat}{ρ:aH}(h:qG z y=some l)(hi:at? ρ i=some (.str z)):fZ (yJ (aj i) (aa (fC (.str y)) aq)) ρ=some (.lst (l.map .str)):=by
 refine je ?_
 show(aj i ρ).bind (λx=>(aa (fC (.str y)) aq ρ).bind λl=>_)=_
 rw[show aj i ρ=some (.str z) from hi,Option.bind_some]
 show oX z y=_
 rw[Aw h]
theorem V4 (a0:Option L)(ns:List Str)(m:Int)(ts:List D)(a5 a6 a7 a8 a9 a10 a11 a12 a13:Option L)(f:Bool)(z:Str)(xs:List (Str×List SP))(hl:ns.length=9)(hx:z9 z=some xs)(hf:ts.length<100):
 ∃b5 b6 b7 b8 b9 b10 BR qY kO,tsB (yu a0 ns m ts (some (.val (.str z) f)) a5 a6 a7 a8 a9 a10 a11 a12 a13)=some (.nx (yu a0 ns m (ts++[Bc ns m xs]) (some (.val (.str z) f)) b5 b6 b7 b8 b9 b10 BR qY kO)):=by
 unfold z9 at hx
 cases e0:qG z "," with
 |none=>rw[e0]at hx;cases hx
 |some rs=>
  rw[e0,Option.bind_some]at hx
  split at hx
  case isFalse=>cases hx
  rename_i hlen
  obtain⟨b6,b7,b8,b9,b10,BR,qY,kO,lp⟩:=Lg a0 ns m (some (.own ts true none)) (some (.val (.str z) f)) true hl rs xs [] a6 a7 a8 a9 a10 a11 a12 a13 (uT hx) (by simp;omega)
  refine⟨some (.val (Bc ns m xs) true),b6,b7,b8,b9,b10,BR,qY,kO,?_⟩
  unfold tsB
  refine(aD (cB (i:=5) (l:=[]) rfl rfl)).trans ?_
  have s1:∀ρ:aH,at? ρ 4=some (.str z)->fj (fZ (yJ (aj 4) (aa (fC (.str ",")) aq))) ρ=some (rs.map .str,[.lst (rs.map .str)]):=λρ h4=>jj (UL e0 h4)
  refine(aD ((jL (s1 _ rfl) (s1 _ (by cases f<;>simp[yu,mj,vals,pick,at?,flat]))).trans lp)).trans ?_
  simp only[mj,tO,List.getElem?_cons_succ,List.getElem?_cons_zero,List.nil_append,List.set]
  unfold eF
  simp only[List.getElem?_cons_succ,List.getElem?_cons_zero,sizeLine_eq,if_pos (show ts.length<16777216 by omega)]
  simp[aj,at?,vis,vals,pick,L.toD,flat,yu,Bc]
theorem LC (a0:Option L)(ns:List Str)(m:Int)(f:Bool)(hl:ns.length=9):∀(zs:List Str) (xss:List (List (Str×List SP))) (ts:List D) (a4 a5 a6 a7 a8 a9 a10 a11 a12 a13:Option L),zs.map z9=xss.map some->ts.length+zs.length<100->
 ∃b4 b5 b6 b7 b8 b9 b10 BR qY kO,cT (aF 4) tsB f (zs.map .str) (yu a0 ns m ts a4 a5 a6 a7 a8 a9 a10 a11 a12 a13)=some (.nx (yu a0 ns m (ts++xss.map (Bc ns m)) b4 b5 b6 b7 b8 b9 b10 BR qY kO))
 |[],[],ts,a4,a5,a6,a7,a8,a9,a10,a11,a12,a13,_,_=>⟨a4,a5,a6,a7,a8,a9,a10,a11,a12,a13,by simp[cT]⟩
 |[],_::_,ts,a4,a5,a6,a7,a8,a9,a10,a11,a12,a13,h,_=>by simp at h
 |_::_,[],ts,a4,a5,a6,a7,a8,a9,a10,a11,a12,a13,h,_=>by simp at h
 |z::zs,xs::xss,ts,a4,a5,a6,a7,a8,a9,a10,a11,a12,a13,h,hp=>by
  simp only[List.map_cons,List.cons.injEq]at h
  simp only[List.length_cons]at hp
  obtain⟨b5,b6,b7,b8,b9,b10,BR,qY,kO,e1⟩:=V4 a0 ns m ts a5 a6 a7 a8 a9 a10 a11 a12 a13 f z xs hl h.1 (by omega)
  obtain⟨c4,c5,c6,c7,c8,c9,W2,Yw,c12,RB,e2⟩:=LC a0 ns m f hl zs xss (ts++[Bc ns m xs]) (some (.val (.str z) f)) b5 b6 b7 b8 b9 b10 BR qY kO h.2 (by simp;omega)
  refine⟨c4,c5,c6,c7,c8,c9,W2,Yw,c12,RB,?_⟩
  rw[List.map_cons,List.map_cons,show ts++Bc ns m xs::xss.map (Bc ns m)=ts++[Bc ns m xs]++xss.map (Bc ns m) by simp,<-e2]
  exact eY rfl e1
theorem V8 (c:Int):∃z∈nu,iH [.int c]=some (.str z,.new):=by
 obtain⟨j,hj,hj'⟩:=pJ c 16 (by omega)
 have hlen:nu.length=16:=rfl
 have hz:nu[j]?=some (nu[j]'(by omega)):=List.getElem?_eq_getElem (by omega)
 refine⟨nu[j]'(by omega),List.getElem_mem _,?_⟩
 generalize nu[j]'(by omega)=z at hz
 have e:oU (aW 2 [.int c])=fc (f2 aG (aj 1) (f2 cj (aj 0) (fC (.int 16)))) [some (.val (.int c) false),some (.val (.lst (nu.map .str)) true)]:=rfl
 have e2:oU (aW 2 [.int c])=some (.rt (.str z) .new [some (.val (.int c) false),some (.val (.lst (nu.map .str)) true)]):=by
  rw[e]
  exact cV (aB rfl (aB rfl rfl (cC c 16 (by omega))) (by rw[<-hj];exact lE (by rw[List.getElem?_map,hz];rfl))) rfl
 simp only[iH,List.length_cons,List.length_nil,if_true,e2,fW]
theorem Ri (c:Int)(ns:List Str)(m:Int)(hl:ns.length=9)(hn:∀x∈ns,okN x)(hm: -1000<=m/\m<=1000):∃ts:List (List Rw),ts.length<=3/\(∀t∈ts,t.length<=20/\∀r∈t,nR ns r)/\dR [.int c,.lst (ns.map .str),.int m]=some (.lst (ts.map rZ),.own):=by
 obtain⟨z,hz,ez⟩:=V8 c
 have hg:=List.all_eq_true.mp Ih z hz
 unfold Ga at hg
 split at hg
 case h_2=>cases hg
 rename_i xss ep
 rw[Bool.and_eq_true,decide_eq_true_eq]at hg
 obtain⟨ts,e1,h1⟩:=zN (m:=m) hl hn hm hg.1
 have hlen:ts.length=xss.length:=by have:=congrArg List.length e1;simpa using this
 refine⟨ts,by omega,h1,?_⟩
 unfold Af at ep
 cases e0:qG z "/" with
 |none=>rw[e0]at ep;cases ep
 |some zs=>
  rw[e0,Option.bind_some]at ep
  split at ep
  case isFalse=>cases ep
  rename_i hzl
  obtain⟨b4,b5,b6,b7,b8,b9,b10,BR,qY,kO,lp⟩:=LC (some (.val (.int c) false)) ns m true hl zs xss [] none none none none none none none none none none (uT ep) (by simp;omega)
  have s1:∀ρ:aH,at? ρ 0=some (.int c)->fj (fZ (yJ (aC iH [] (aa (aj 0) aq)) (aa (fC (.str "/")) aq))) ρ=some (zs.map .str,[.lst (zs.map .str)]):=λρ h0=>by
   refine jj (je ?_)
   show(aC iH [] (aa (aj 0) aq) ρ).bind (λx=>(aa (fC (.str "/")) aq ρ).bind λl=>_)=_
   rw[bz (aR (show aj 0 ρ=_ from h0)) ez rfl,Option.bind_some]
   show oX z "/"=_
   rw[Aw e0]
  have e:nP (aW 14 [.int c,.lst (ns.map .str),.int m])=some (.rt (.lst (ts.map rZ)) .own (yu (some (.val (.int c) false)) ns m (ts.map rZ) b4 b5 b6 b7 b8 b9 b10 BR qY kO)):=by
   unfold nP
   refine(aD (cB (i:=3) (l:=[]) rfl rfl)).trans ?_
   refine(aD ((jL (s1 _ rfl) (s1 _ (by simp[aW,yu,vals,pick,at?,flat]))).trans lp)).trans ?_
   rw[List.nil_append,<-e1]
   rfl
  simp only[dR,List.length_cons,List.length_nil,if_true,e,fW]
end K
theorem GC {i:Nat}{F:FL}{ρ:bw}{l:List D}(h:F (vis ρ)=some l)(h1:F (vals true ρ)=none)(h2:F (vals false ρ)=some l):∃fr,gR i F ρ=some (.nx (ρ.set i (some (.own l fr none)))):=by
 unfold gR three
 rw[h,h1,h2]
 by_cases hf:flat.flats l=true
 ·exact⟨true,by simp[hf]⟩
 ·exact⟨false,by simp[hf]⟩
theorem Gy {I:aH->Option (List D×List D)}{T:D->Bool->bw->Option bw}{G:GS}{ρ:bw}{r:List D×List D}(h0:I (vis ρ)=some r)(h1:I (vals true ρ)=some r\/I (vals true ρ)=none)(h2:I (vals false ρ)=some r):∃f,f9 I T G ρ=cT T G f r.1 ρ:=by
 unfold f9 three
 rw[h0,h2]
 by_cases h:(flat.flats r.1&&flat.flats r.2)=true
 ·exact⟨true,by rw[Option.bind_some,if_pos h];rfl⟩
 ·rcases h1 with h1|h1
  ·exact⟨true,by rw[Option.bind_some,if_neg h,h1];rfl⟩
  ·exact⟨false,by rw[Option.bind_some,if_neg h,h1];rfl⟩
theorem RW {i:Nat}{F:FD}{ρ:bw}{l:List D}{fr:Bool}{d:D}(hi:ρ[i]?=some (some (.own l fr none)))(hl:l.length<1000)(h:F (vis ρ)=some d)(hd:flat d=false)(h1:F (vals true ρ)=none)(h2:F (vals false ρ)=some d)
 (h3:F (vis (ρ.set i (some (.own l false none))))=some d)(h4:F (vals false (ρ.set i (some (.own l false none))))=some d):Ny (eF i F) (Pg i (eF i F)) ρ=some (.nx (ρ.set i (some (.own (l++[d]) false none)))):=by
 have hz:l.length<sizeLine:=by rw[sizeLine_eq];omega
 have hlen:i<ρ.length:=(List.getElem?_eq_some_iff.mp hi).1
 unfold Ny
 cases fr with
 |false=>
  have:eF i F ρ=some (.nx (ρ.set i (some (.own (l++[d]) false none)))):=by
   unfold eF
   rw[hi]
   simp[hz,h,hd,h2]
  rw[this]
 |true=>
  have e1:eF i F ρ=none:=by
   unfold eF
   rw[hi]
   simp[hz,h,hd,h1]
  rw[e1]
  unfold Pg
  rw[hi]
  show eF i F (ρ.set i (some (.own l false none)))=_
  unfold eF
  rw[List.getElem?_set_self hlen]
  simp[hz,h3,hd,h4]
noncomputable def itemsOf (r:Rw):List D:= .str r.word::r.parts
noncomputable def wordsOf (ts:List (List Rw)):List D:=ts.flatMap λt=>t.flatMap itemsOf
theorem Nq (r:Rw):nList [r.d]=some (itemsOf r):=by rw[nF];rfl
theorem CN (r:Rw):(itemsOf r).length<=4:=by cases r<;>simp[itemsOf,Rw.parts]
theorem Qd {ns:List Str}{r:Rw}(h:nR ns r)(hn:∀x∈ns,okN x):∀d∈itemsOf r,mz 0 d=true:=by
 have:=h.sh hn
 rw[nF]at this
 simp only[mz,List.all_eq_true]at this
 exact this
theorem Mq {r:Rw}{c:Str}(h:r.cell=some c): .str c∈itemsOf r:=by
 cases r<;>simp[Rw.cell]at h<;>simp[itemsOf,Rw.parts,h]
theorem RT {W:List D}{c:Str}(h: .str c∈W):(W.any λy=>qN y (.str c))=true:=List.any_eq_true.mpr ⟨_,h,by rw[eq_str];simp⟩
noncomputable def maxOf (a:Int)(l:List Int):Int:=l.foldl max a
theorem zQ:∀(l:List Int) (a:Int),a<=maxOf a l/\∀x∈l,x<=maxOf a l
 |[],a=>⟨Int.le_refl _,by simp⟩
 |b::l,a=>by
  obtain⟨h1,h2⟩:=zQ l (max a b)
  have e:maxOf a (b::l)=maxOf (max a b) l:=rfl
  rw[e]
  refine⟨by omega,λx hx=>?_⟩
  rcases List.mem_cons.mp hx with rfl|hx
  ·omega
  ·exact h2 x hx
theorem Hr:∀(l:List Int) (a n:Int),a<=n->(∀x∈l,x<=n)->maxOf a l<=n
 |[],a,n,h,_=>h
 |b::l,a,n,h,hl=>Hr l (max a b) n (by have:=hl b (by simp);omega) λx hx=>hl x (by simp[hx])
theorem Qc (l:List Int):GX (l.map .int)=some l:=by
 induction l with
 |nil=>rfl
 |cons a l ih=>simp[GX,ih]
theorem Tw (a:Int)(l:List Int):uV [.lst ((a::l).map .int)]=some (.int (maxOf a l)):=by
 simp only[uV,Qc,Option.bind_some,Nj,Option.map_some]
 rfl
namespace K
noncomputable def iQ (l:List Int)(mo:Int)(mf:Bool)(v2:Int)(ns:List Str)(v4:Int)(sel:List Int)(cs:D)(a7 a8 a9 a10 a11 a12 a13:Option L):bw:=[some (.val (.tu l) false),some (.val (.int mo) mf),some (.val (.int v2) true),some (.val (.lst (ns.map .str)) true),some (.val (.int v4) true),some (.val (.lst (sel.map .int)) true),some (.val cs true),a7,a8,a9,a10,a11,a12,a13]
theorem yw (l:List Int)(mo:Int)(mf:Bool)(v2:Int)(ns:List Str)(v4:Int)(sel:List Int)(cs:D)(a7 a8 a9 a10 a12:Option L)(f:Bool):∀(t:List Rw) (W:List D) (a13:Option L),W.length+4*t.length<2000->
 ∃kO,cT (aF 13) (bF 11 (f2 aP (aj 11) (fZ (nB nList (aa (aj 13) aq))))) f (t.map Rw.d) (iQ l mo mf v2 ns v4 sel cs a7 a8 a9 a10 (some (.val (.lst W) true)) a12 a13)=some (.nx (iQ l mo mf v2 ns v4 sel cs a7 a8 a9 a10 (some (.val (.lst (W++t.flatMap itemsOf)) true)) a12 kO))
 |[],W,a13,_=>⟨a13,by simp[cT]⟩
 |r::t,W,a13,hz=>by
  have hi:=CN r
  simp only[List.length_cons]at hz
  obtain⟨kO,e⟩:=yw l mo mf v2 ns v4 sel cs a7 a8 a9 a10 a12 f t (W++itemsOf r) (some (.val r.d f)) (by simp;omega)
  refine⟨kO,?_⟩
  rw[List.map_cons,List.flatMap_cons,<-List.append_assoc,<-e]
  refine eY rfl ?_
  have ad:aP (.lst W) (.lst (itemsOf r))=some (.lst (W++itemsOf r)):=by
   simp only[aP]
   rw[if_pos (by rw[sizeLine_eq];omega)]
  have q:∀ρ:aH,at? ρ 11=some (.lst W)->at? ρ 13=some r.d->f2 aP (aj 11) (fZ (nB nList (aa (aj 13) aq))) ρ=some (.lst (W++itemsOf r)):=λρ h1 h2=>aB h1 (je (by
   show(aa (aj 13) aq ρ).bind nList=_
   rw[aR (show aj 13 ρ=_ from h2),Option.bind_some,Nq])) ad
  exact(sV (i:=11) (q _ rfl rfl) (q _ (by simp[iQ,vals,pick,at?]) (by cases f<;>simp[iQ,vals,pick,at?,cR]))).trans rfl
theorem yx (l:List Int)(mo:Int)(mf:Bool)(v2:Int)(ns:List Str)(v4:Int)(sel:List Int)(cs:D)(a7 a8 a9 a10:Option L)(f:Bool):∀(ts:List (List Rw)) (W:List D) (a12 a13:Option L),(∀t∈ts,t.length<=20)->W.length+100*ts.length<1000->
 ∃qY kO,cT (aF 12) (f9 (fj (aj 12)) (aF 13) (bF 11 (f2 aP (aj 11) (fZ (nB nList (aa (aj 13) aq)))))) f (ts.map rZ) (iQ l mo mf v2 ns v4 sel cs a7 a8 a9 a10 (some (.val (.lst W) true)) a12 a13)=some (.nx (iQ l mo mf v2 ns v4 sel cs a7 a8 a9 a10 (some (.val (.lst (W++wordsOf ts)) true)) qY kO))
 |[],W,a12,a13,_,_=>⟨a12,a13,by simp[cT,wordsOf]⟩
 |t::ts,W,a12,a13,ht,hz=>by
  simp only[List.length_cons]at hz
  have hl:=ht t (by simp)
  have hw:(t.flatMap itemsOf).length<=4*t.length:=by
   clear hz hl ht
   induction t with
   |nil=>simp
   |cons r t ih=>have:=CN r;simp only[List.flatMap_cons,List.length_append,List.length_cons];omega
  have sq:∀ρ:aH,at? ρ 12=some (rZ t)->fj (aj 12) ρ=some (t.map Rw.d,[rZ t]):=λρ h=>jj (show aj 12 ρ=some (.lst (t.map Rw.d)) from h)
  obtain⟨f',ef⟩:=Gy (T:=aF 13) (G:=bF 11 (f2 aP (aj 11) (fZ (nB nList (aa (aj 13) aq))))) (ρ:=iQ l mo mf v2 ns v4 sel cs a7 a8 a9 a10 (some (.val (.lst W) true)) (some (.val (rZ t) f)) a13) (sq _ rfl) (by
   cases f with
   |true=>exact .inl (sq _ (by simp[iQ,vals,pick,at?]))
   |false=>exact .inr (by simp[fj,aj,iQ,vals,pick,at?,rZ,flat])) (sq _ (by simp[iQ,vals,pick,at?]))
  obtain⟨kO,e1⟩:=yw l mo mf v2 ns v4 sel cs a7 a8 a9 a10 (some (.val (rZ t) f)) f' t W a13 (by omega)
  obtain⟨c12,RB,e2⟩:=yx l mo mf v2 ns v4 sel cs a7 a8 a9 a10 f ts (W++t.flatMap itemsOf) (some (.val (rZ t) f)) kO (λt' h=>ht t' (by simp[h])) (by simp only[List.length_append];omega)
  refine⟨c12,RB,?_⟩
  rw[List.map_cons,show W++wordsOf (t::ts)=W++t.flatMap itemsOf++wordsOf ts by simp[wordsOf],<-e2]
  exact eY rfl (ef.trans e1)
noncomputable def Zw:GS:=(aO (bF 10 (f2 cj (aC bh [] (aa (f2 (jc cQ bG) (aC aL [] (aa (aj 0) (aa (fC (.int 3)) aq))) (f2 aP (fC (.int 1)) (f2 (jc cQ bG) (fC (.int 2)) (aj 9)))) (aa (aj 9) aq))) (f2 aP (aj 1) (f2 aG (gB (aa (fC (.int 3)) (aa (fC (.int 6)) aq))) (fB (lC qM mU) (aa (f2 (mX λi j=>decide (j<i)) (aj 1) (fC (.int 3))) aq)))))) (Ny (eF 7 (aC fJ [] (aa (aj 0) (aa (aj 9) (aa (aj 3) (aa (aj 1) (aa (aj 10) aq))))))) (Pg 7 (eF 7 (aC fJ [] (aa (aj 0) (aa (aj 9) (aa (aj 3) (aa (aj 1) (aa (aj 10) aq))))))))))
theorem Ue (l:List Int)(mo:Int)(mf:Bool)(v2:Int)(ns:List Str)(v4:Int)(sel:List Int)(cs:D)(ts:List (List Rw))(fr:Bool)(a8 a10 a11 a12 a13:Option L)(k:Nat)(hk:k<10)(hl:ns.length=9)(hn:∀x∈ns,okN x)(hmo:0<=mo)(Wr:mo<=5)(hts:ts.length<100):
 ∃t b10,(t.length<=20/\∀r∈t,nR ns r)/\Zw (iQ l mo mf v2 ns v4 sel cs (some (.own (ts.map rZ) fr none)) a8 (some (.val (.int (k:Nat)) true)) a10 a11 a12 a13)=some (.nx (iQ l mo mf v2 ns v4 sel cs (some (.own ((ts++[t]).map rZ) false none)) a8 (some (.val (.int (k:Nat)) true)) b10 a11 a12 a13)):=by
 obtain⟨u0,e0⟩:=lR l 3
 obtain⟨u1,e1,_⟩:=lY (u0*(1+2*(k:Int))) (k:Nat) (by omega) (by omega)
 let md:Int:=mo+(if 3<mo then 6 else 3)
 have hmd:0<md:=by simp only[md];split<;>omega
 have a1a:md<=11:=by simp only[md];split<;>omega
 obtain⟨sz,hs1,hs2⟩:=pJ u1 md hmd
 obtain⟨t,ht1,ht2,et⟩:=Rk l k ns mo sz hk hl hn (by omega)
 refine⟨t,some (.val (.int (sz:Nat)) true),⟨by omega,ht2⟩,?_⟩
 unfold Zw
 have g10:bF 10 (f2 cj (aC bh [] (aa (f2 (jc cQ bG) (aC aL [] (aa (aj 0) (aa (fC (.int 3)) aq))) (f2 aP (fC (.int 1)) (f2 (jc cQ bG) (fC (.int 2)) (aj 9)))) (aa (aj 9) aq))) (f2 aP (aj 1) (f2 aG (gB (aa (fC (.int 3)) (aa (fC (.int 6)) aq))) (fB (lC qM mU) (aa (f2 (mX λi j=>decide (j<i)) (aj 1) (fC (.int 3))) aq))))) (iQ l mo mf v2 ns v4 sel cs (some (.own (ts.map rZ) fr none)) a8 (some (.val (.int (k:Nat)) true)) a10 a11 a12 a13)
  =some (.nx (iQ l mo mf v2 ns v4 sel cs (some (.own (ts.map rZ) fr none)) a8 (some (.val (.int (k:Nat)) true)) (some (.val (.int (sz:Nat)) true)) a11 a12 a13)):=by
  refine(bB (i:=10) (d:= .int (sz:Nat)) (aB (bz (bU (aB (bz (bU rfl (aR rfl)) e0 rfl) (aB rfl (aB rfl rfl (a0w k)) rfl) (pK _ _ (.inr ⟨by omega,by omega⟩))) (aR rfl)) e1 rfl) (aB rfl (aB (x:= .lst [.int 3,.int 6]) rfl (jE (x:= .int (if 3<mo then 1 else 0)) (aR (aB rfl rfl rfl)) ?_) (z:= .int (if 3<mo then 6 else 3)) ?_) (z:= .int md) rfl) ?_) rfl).trans rfl
  ·show lC qM mU [.bl (decide (3<mo))]=_
   by_cases hh:3<mo<;>simp[lC,qM,hh]
  ·by_cases hh:3<mo
   ·simp only[hh,if_true];exact lE (j:=1) rfl
   ·simp only[hh,if_false];exact lE (j:=0) rfl
  ·rw[hs1];exact cC _ _ hmd
 rw[aD g10]
 have q:∀ρ:aH,at? ρ 0=some (.tu l)->at? ρ 9=some (.int (k:Nat))->at? ρ 3=some (.lst (ns.map .str))->at? ρ 1=some (.int mo)->at? ρ 10=some (.int (sz:Nat))->aC fJ [] (aa (aj 0) (aa (aj 9) (aa (aj 3) (aa (aj 1) (aa (aj 10) aq))))) ρ=some (rZ t):=λρ h0 h9 h3 h1 h10=>bz (bU h0 (bU h9 (bU h3 (bU h1 (aR h10))))) et rfl
 refine(RW (i:=7) (l:=ts.map rZ) (fr:=fr) (d:=rZ t) rfl (by simp;omega) (q _ rfl rfl rfl rfl rfl) rfl ?_ (q _ ?_ ?_ ?_ ?_ ?_) (q _ rfl rfl rfl rfl rfl) (q _ ?_ ?_ ?_ ?_ ?_)).trans ?_
 ·simp[aC,aa,aj,iQ,vals,pick,at?,flat]
 all_goals simp[iQ,vals,pick,at?]
theorem KQ (l:List Int)(mo:Int)(mf:Bool)(v2:Int)(ns:List Str)(v4:Int)(sel:List Int)(cs:D)(a8 a11 a12 a13:Option L)(hl:ns.length=9)(hn:∀x∈ns,okN x)(hmo:0<=mo)(Wr:mo<=5):∀(n i:Nat) (ts:List (List Rw)) (fr:Bool) (a9 a10:Option L),i+n<=10->ts.length=i->(∀t∈ts,t.length<=20/\∀r∈t,nR ns r)->
 ∃(ts':List (List Rw)) (fr':Bool) (b9 b10:Option L),ts'.length=i+n/\(∀t∈ts',t.length<=20/\∀r∈t,nR ns r)/\cT (aF 9) Zw true ((List.range' i n).map λk=>D.int (k:Nat)) (iQ l mo mf v2 ns v4 sel cs (some (.own (ts.map rZ) fr none)) a8 a9 a10 a11 a12 a13)=some (.nx (iQ l mo mf v2 ns v4 sel cs (some (.own (ts'.map rZ) fr' none)) a8 b9 b10 a11 a12 a13))
 |0,i,ts,fr,a9,a10,_,h2,h3=>⟨ts,fr,a9,a10,by omega,h3,rfl⟩
 |n+1,i,ts,fr,a9,a10,h1,h2,h3=>by
  obtain⟨t,b10,ht,e1⟩:=Ue l mo mf v2 ns v4 sel cs ts fr a8 a10 a11 a12 a13 i (by omega) hl hn hmo Wr (by omega)
  obtain⟨ts',fr',c9,W2,q1,q2,q3⟩:=KQ l mo mf v2 ns v4 sel cs a8 a11 a12 a13 hl hn hmo Wr n (i+1) (ts++[t]) false (some (.val (.int (i:Nat)) true)) b10 (by omega) (by simp;omega) (by
   intro y hy
   rcases List.mem_append.mp hy with hy|hy
   ·exact h3 y hy
   ·rw[List.mem_singleton.mp hy];exact ht)
  refine⟨ts',fr',c9,W2,by omega,q2,?_⟩
  rw[Am,<-q3]
  exact eY rfl e1
end K
theorem take3 {ns:List Str}(hl:ns.length=9){c:Str}(h:c∈ns.take 3):∃k:Nat,k<3/\c=ns.getD k "":=by
 obtain⟨k,hk,e⟩:=List.getElem_of_mem h
 have hk3:k<3:=by simp at hk;omega
 refine⟨k,hk3,?_⟩
 rw[<-e,List.getElem_take,List.getD_eq_getElem?_getD,List.getElem?_eq_getElem (by omega)]
 rfl
theorem Nk {ts:List (List Rw)}{t:List Rw}{r:Rw}{d:D}(ht:t∈ts)(hr:r∈t)(hd:d∈itemsOf r):d∈wordsOf ts:=List.mem_flatMap.mpr ⟨t,ht,List.mem_flatMap.mpr ⟨r,hr,hd⟩⟩
namespace K
theorem Ob (l:List Int):∃p:Pl,(Yp p/\(∀t∈p.jA,∀r∈t,r.mq=true)/\∀c∈p.cells,RG c.1=true/\ -100000<=c.2/\c.2<=100000)/\gZ [.tu l,.int 5]=some (p.d,.new):=by
 obtain⟨u0,e0⟩:=lR l 0
 obtain⟨v2,e2,p2⟩:=lY u0 1 (by omega) (by omega)
 obtain⟨ns,hl,hn,en⟩:=v_names (v2/13)
 obtain⟨u1,e1⟩:=lR l 1
 obtain⟨v4,e4,p4⟩:=lY u1 2 (by omega) (by omega)
 obtain⟨u2,eu2⟩:=lR l 2
 let sel:List Int:=[0,0,v4/7 % 100,5]
 let Aq:Nat->Int:=λk=>sel.getD ((v4+(k:Int)) % 4).toNat 0
 let cells:List (Str×Int):=[(ns.getD 0 "",Aq 0),(ns.getD 1 "",Aq 1),(ns.getD 2 "",Aq 2)]
 have Ws:∀k:Nat,aG (.lst (sel.map .int)) (.int ((v4+(k:Int)) % 4))=some (.int (Aq k)):=λk=>by
  obtain⟨j,hj,hj'⟩:=pJ (v4+(k:Int)) 4 (by omega)
  rw[<-hj]
  have ej:((v4+(k:Int)) % 4).toNat=j:=by omega
  refine lE ?_
  simp only[Aq,ej,List.getElem?_map]
  have hlt:j<sel.length:=by simp only[sel,List.length_cons,List.length_nil];omega
  rw[List.getD_eq_getElem?_getD,List.getElem?_eq_getElem hlt]
  rfl
 have nmk:∀k:Nat,k<3->aG (.lst (ns.map .str)) (.int (k:Nat))=some (.str (ns.getD k "")):=λk hk=>JL (by omega)
 let E (mo:Int) (mf:Bool) (a7 a8 a9 a10 a11 a12 a13:Option L):bw:=iQ l mo mf v2 ns v4 sel (.tup (cells.map cD)) a7 a8 a9 a10 a11 a12 a13
 have YC:fH (aV 0) tT (cF (aa (f2 aG (aj 1) (aj 0)) (aa (f2 aG (aj 2) (f2 cj (f2 aP (aj 3) (aj 0)) (fC (.int 4)))) aq))) [none,some (.lst (ns.map .str)),some (.lst (sel.map .int)),some (.int v4)] (lN 0 3)=some (cells.map cD):=by
  rw[vB]
  have:=comp_map (T:=aV 0) (Tt:=tT) (Fe:=cF (aa (f2 aG (aj 1) (aj 0)) (aa (f2 aG (aj 2) (f2 cj (f2 aP (aj 3) (aj 0)) (fC (.int 4)))) aq))) (ρ:=[none,some (.lst (ns.map .str)),some (.lst (sel.map .int)),some (.int v4)]) (f:=λk:Nat=> .int (k:Nat)) (g:=λk:Nat=>cD (ns.getD k "",Aq k)) (λk=>[some (.int (k:Nat)),some (.lst (ns.map .str)),some (.lst (sel.map .int)),some (.int v4)]) (List.range' 0 3) λk hk=>⟨rfl,rfl,cN (bU (aB rfl rfl (nmk k (by simp at hk;omega))) (aR (aB rfl (aB (aB rfl rfl rfl) rfl (cC _ 4 (by omega))) (Ws k)))) (by simp)⟩
  rw[this]
  rfl
 have pre:jK (aW 14 [.tu l,.int 5])=(aO (jM (t2 (dN false) (f2 cj (aC aL [] (aa (aj 0) (aa (fC (.int 2)) aq))) (fC (.int 3))) (fC (.int 1))) (gR 7 (zT dR [] (aa (f2 gA (aC aL [] (aa (aj 0) (aa (fC (.int 2)) aq))) (fC (.int 3))) (aa (aj 3) (aa (f2 (jc cQ bG) (f2 cj (aC aL [] (aa (aj 0) (aa (fC (.int 1)) aq))) (fC (.int 3))) (fC (.int 30))) aq))))) (aO (bF 8 (f2 aG (gB (aa (fC (.int 2)) (aa (fC (.int 2)) (aa (fC (.int 3)) (aa (fC (.int 1)) (aa (fC (.int 2)) aq)))))) (f2 cj (f2 gA (aC aL [] (aa (aj 0) (aa (fC (.int 2)) aq))) (fC (.int 3))) (fC (.int 5))))) (aO (bF 1 (fB Gi (aa (aj 1) (aa (f2 aG (gB (aa (fC (.int 5)) (aa (fC (.int 5)) (aa (fC (.int 5)) (aa (fC (.int 3)) aq))))) (aj 8)) aq)))) (aO (gR 7 (oE aq)) (f9 (gw (aj 8)) (aF 9) Zw))))) (aO (bF 11 (gB aq)) (aO (tO 7 (f9 (fj (aj 7)) (aF 12) (f9 (fj (aj 12)) (aF 13) (bF 11 (f2 aP (aj 11) (fZ (nB nList (aa (aj 13) aq)))))))) (aO (bF 8 (fB uV (aa (f2 aP (gB (aa (f2 aP (fC (.int 1)) (f2 cj (f2 gA (aj 4) (fC (.int 9))) (fC (.int 3)))) aq)) (fZ (cI [none,some 11,some 3] (gw (fC (.int 3))) (aV 0) (t2 (tZ false) (f2 aG (aj 2) (aj 0)) (aj 1)) (f2 aP (aj 0) (fC (.int 1)))))) aq))) (fc (cF (aa (u6 (aj 6) gW (fL (aj 8))) (aa (fB (lC cu eO) (aa (fZ (cI [none] (fj (aj 7)) (aV 0) tT (fB (lC cu eO) (aa (aj 0) aq)))) aq)) aq)))))))) (E 5 false none none none none none none none):=by
  unfold jK
  have RB:∀ρ:aH,at? ρ 2=some (.int v2)->aC jn [] (aa (f2 gA (aj 2) (fC (.int 13))) aq) ρ=some (.lst (ns.map .str)):=λρ h=>bz (aR (aB h rfl (fM v2 13 (by omega) (by omega)))) en rfl
  have c5:∀ρ:aH,at? ρ 4=some (.int v4)->gB (aa (fC (.int 0)) (aa (fC (.int 0)) (aa (f2 cj (f2 gA (aj 4) (fC (.int 7))) (fC (.int 100))) (aa (fC (.int 5)) aq)))) ρ=some (.lst (sel.map .int)):=λρ h=>by
   show(aa _ _ ρ).bind oK=_
   rw[bU rfl (bU rfl (bU (aB (aB h rfl (fM v4 7 (by omega) (by omega))) rfl (cC _ 100 (by omega))) (aR rfl))),Option.bind_some]
   rfl
  refine(aD (bB (i:=2) (d:= .int v2) (bz (bU (bz (bU rfl (aR rfl)) e0 rfl) (aR rfl)) e2 rfl) rfl)).trans ?_
  refine(aD (sV (i:=3) (RB _ rfl) (RB _ (by simp[aW,vals,pick,at?])))).trans ?_
  refine(aD (bB (i:=4) (d:= .int v4) (bz (bU (bz (bU rfl (aR rfl)) e1 rfl) (aR rfl)) e4 rfl) rfl)).trans ?_
  refine(aD (sV (i:=5) (c5 _ rfl) (c5 _ (by simp[aW,vals,pick,at?])))).trans ?_
  refine(aD (bB (i:=6) (d:= .tup (cells.map cD)) (um (.inl (je (gP (nD (n:=3) rfl (by omega)) (by simp[lN]) YC)))) (by simp only[flat];exact cA yU))).trans ?_
  rfl
 have k3:t2 (dN false) (f2 cj (aC aL [] (aa (aj 0) (aa (fC (.int 2)) aq))) (fC (.int 3))) (fC (.int 1)) (vis (E 5 false none none none none none none none))=some (u2 % 3==1):=eU (aB (bz (bU rfl (aR rfl)) eu2 rfl) rfl (cC u2 3 (by omega))) rfl (Vg _ _)
 have thr:∃(ts:List (List Rw)) (fr:Bool) (mo:Int) (mf:Bool) (a8 a9 a10:Option L),ts.length<=3/\(∀t∈ts,t.length<=20/\∀r∈t,nR ns r)/\jM (t2 (dN false) (f2 cj (aC aL [] (aa (aj 0) (aa (fC (.int 2)) aq))) (fC (.int 3))) (fC (.int 1))) (gR 7 (zT dR [] (aa (f2 gA (aC aL [] (aa (aj 0) (aa (fC (.int 2)) aq))) (fC (.int 3))) (aa (aj 3) (aa (f2 (jc cQ bG) (f2 cj (aC aL [] (aa (aj 0) (aa (fC (.int 1)) aq))) (fC (.int 3))) (fC (.int 30))) aq))))) (aO (bF 8 (f2 aG (gB (aa (fC (.int 2)) (aa (fC (.int 2)) (aa (fC (.int 3)) (aa (fC (.int 1)) (aa (fC (.int 2)) aq)))))) (f2 cj (f2 gA (aC aL [] (aa (aj 0) (aa (fC (.int 2)) aq))) (fC (.int 3))) (fC (.int 5))))) (aO (bF 1 (fB Gi (aa (aj 1) (aa (f2 aG (gB (aa (fC (.int 5)) (aa (fC (.int 5)) (aa (fC (.int 5)) (aa (fC (.int 3)) aq))))) (aj 8)) aq)))) (aO (gR 7 (oE aq)) (f9 (gw (aj 8)) (aF 9) Zw)))) (E 5 false none none none none none none none)=some (.nx (E mo mf (some (.own (ts.map rZ) fr none)) a8 a9 a10 none none none)):=by
  cases hk:(u2 % 3==1)with
  |true=>
   obtain⟨ts,h1,h2,es⟩:=Ri (u2/3) ns (u1 % 3*30) hl hn ⟨by omega,by omega⟩
   have q:∀ρ:aH,at? ρ 0=some (.tu l)->at? ρ 3=some (.lst (ns.map .str))->zT dR [] (aa (f2 gA (aC aL [] (aa (aj 0) (aa (fC (.int 2)) aq))) (fC (.int 3))) (aa (aj 3) (aa (f2 (jc cQ bG) (f2 cj (aC aL [] (aa (aj 0) (aa (fC (.int 1)) aq))) (fC (.int 3))) (fC (.int 30))) aq))) ρ=some (ts.map rZ):=λρ h0 h3=>by
    show(aa _ _ ρ).bind (λl=>(dR (l++[])).bind Hi)=_
    rw[bU (aB (bz (bU h0 (aR rfl)) eu2 rfl) rfl (fM u2 3 (by omega) (by omega))) (bU h3 (aR (aB (aB (bz (bU h0 (aR rfl)) e1 rfl) rfl (cC u1 3 (by omega))) rfl (pK _ _ (.inr ⟨by omega,by omega⟩))))),Option.bind_some,List.append_nil,es]
    rfl
   obtain⟨fr,eo⟩:=GC (i:=7) (F:=zT dR [] (aa (f2 gA (aC aL [] (aa (aj 0) (aa (fC (.int 2)) aq))) (fC (.int 3))) (aa (aj 3) (aa (f2 (jc cQ bG) (f2 cj (aC aL [] (aa (aj 0) (aa (fC (.int 1)) aq))) (fC (.int 3))) (fC (.int 30))) aq)))) (ρ:=E 5 false none none none none none none none) (q _ rfl rfl) (by simp[zT,aa,f2,aC,aj,E,iQ,vals,pick,at?,flat]) (q _ (by simp[E,iQ,vals,pick,at?]) (by simp[E,iQ,vals,pick,at?]))
   exact⟨ts,fr,5,false,none,none,none,h1,h2,(jF (by rw[k3,hk])).trans (eo.trans rfl)⟩
  |false=>
   obtain⟨j,hj,hj'⟩:=pJ (u2/3) 5 (by omega)
   have hm:∃many:Nat,1<=many/\many<=3/\([D.int 2,.int 2,.int 3,.int 1,.int 2]:List D)[j]?=some (.int (many:Nat)):=by
    have:j=0\/j=1\/j=2\/j=3\/j=4:=by omega
    rcases this with rfl|rfl|rfl|rfl|rfl
    ·exact⟨2,by omega,by omega,rfl⟩
    ·exact⟨2,by omega,by omega,rfl⟩
    ·exact⟨3,by omega,by omega,rfl⟩
    ·exact⟨1,by omega,by omega,rfl⟩
    ·exact⟨2,by omega,by omega,rfl⟩
   obtain⟨many,m1,m2,em⟩:=hm
   have hx:∃b:Int,3<=b/\b<=5/\([D.int 5,.int 5,.int 5,.int 3]:List D)[many]?=some (.int b):=by
    have:many=1\/many=2\/many=3:=by omega
    rcases this with rfl|rfl|rfl
    ·exact⟨5,by omega,by omega,rfl⟩
    ·exact⟨5,by omega,by omega,rfl⟩
    ·exact⟨3,by omega,by omega,rfl⟩
   obtain⟨b,b1,b2,eb⟩:=hx
   let mo:Int:=if b<5 then b else 5
   have mo1:0<=mo:=by simp only[mo];split<;>omega
   have mo2:mo<=5:=by simp only[mo];split<;>omega
   obtain⟨ts,fr,b9,b10,t1,t2',t3⟩:=KQ l mo true v2 ns v4 sel (.tup (cells.map cD)) (some (.val (.int (many:Nat)) true)) none none none hl hn mo1 mo2 many 0 [] true none none (by omega) rfl (by simp)
   refine⟨ts,fr,mo,true,some (.val (.int (many:Nat)) true),b9,b10,by omega,t2',(iu (by rw[k3,hk])).trans ?_⟩
   refine(aD (bB (i:=8) (d:= .int (many:Nat)) (aB (x:= .lst [.int 2,.int 2,.int 3,.int 1,.int 2]) rfl (aB (aB (bz (bU rfl (aR rfl)) eu2 rfl) rfl (fM u2 3 (by omega) (by omega))) rfl (cC _ 5 (by omega))) (by rw[<-hj];exact lE em)) rfl)).trans ?_
   refine(aD (bB (i:=1) (d:= .int mo) (jE (bU rfl (aR (aB (x:= .lst [.int 5,.int 5,.int 5,.int 3]) rfl rfl (lE eb)))) rfl) rfl)).trans ?_
   refine(aD (cB (i:=7) (l:=[]) rfl rfl)).trans ?_
   exact(rE (n:=many) rfl (by omega)).trans t3
 obtain⟨ts,fr,mo,mf,a8,a9,a10,nt,hts,eth⟩:=thr
 have ew:∃(qY kO:Option L),aO (bF 11 (gB aq)) (aO (tO 7 (f9 (fj (aj 7)) (aF 12) (f9 (fj (aj 12)) (aF 13) (bF 11 (f2 aP (aj 11) (fZ (nB nList (aa (aj 13) aq)))))))) (aO (bF 8 (fB uV (aa (f2 aP (gB (aa (f2 aP (fC (.int 1)) (f2 cj (f2 gA (aj 4) (fC (.int 9))) (fC (.int 3)))) aq)) (fZ (cI [none,some 11,some 3] (gw (fC (.int 3))) (aV 0) (t2 (tZ false) (f2 aG (aj 2) (aj 0)) (aj 1)) (f2 aP (aj 0) (fC (.int 1)))))) aq))) (fc (cF (aa (u6 (aj 6) gW (fL (aj 8))) (aa (fB (lC cu eO) (aa (fZ (cI [none] (fj (aj 7)) (aV 0) tT (fB (lC cu eO) (aa (aj 0) aq)))) aq)) aq)))))) (E mo mf (some (.own (ts.map rZ) fr none)) a8 a9 a10 none none none)
  =(aO (bF 8 (fB uV (aa (f2 aP (gB (aa (f2 aP (fC (.int 1)) (f2 cj (f2 gA (aj 4) (fC (.int 9))) (fC (.int 3)))) aq)) (fZ (cI [none,some 11,some 3] (gw (fC (.int 3))) (aV 0) (t2 (tZ false) (f2 aG (aj 2) (aj 0)) (aj 1)) (f2 aP (aj 0) (fC (.int 1)))))) aq))) (fc (cF (aa (u6 (aj 6) gW (fL (aj 8))) (aa (fB (lC cu eO) (aa (fZ (cI [none] (fj (aj 7)) (aV 0) tT (fB (lC cu eO) (aa (aj 0) aq)))) aq)) aq))))) (E mo mf (some (.val (.lst (ts.map rZ)) fr)) a8 a9 a10 (some (.val (.lst (wordsOf ts)) true)) qY kO):=by
  have sq:∀ρ:aH,at? ρ 7=some (.lst (ts.map rZ))->fj (aj 7) ρ=some (ts.map rZ,[.lst (ts.map rZ)]):=λρ h=>jj h
  obtain⟨f',ef⟩:=Gy (T:=aF 12) (G:=f9 (fj (aj 12)) (aF 13) (bF 11 (f2 aP (aj 11) (fZ (nB nList (aa (aj 13) aq)))))) (ρ:=E mo mf (some (.val (.lst (ts.map rZ)) fr)) a8 a9 a10 (some (.val (.lst []) true)) none none) (sq _ rfl) (by
   cases fr with
   |true=>exact .inl (sq _ (by simp[E,iQ,vals,pick,at?]))
   |false=>exact .inr (by simp[fj,aj,E,iQ,vals,pick,at?,flat])) (sq _ (by simp[E,iQ,vals,pick,at?]))
  obtain⟨qY,kO,lp⟩:=yx l mo mf v2 ns v4 sel (.tup (cells.map cD)) (some (.val (.lst (ts.map rZ)) fr)) a8 a9 a10 f' ts [] none none (λt ht=>(hts t ht).1) (by simp only[List.length_nil];omega)
  refine⟨qY,kO,?_⟩
  refine(aD (sV (i:=11) (d:= .lst []) rfl rfl)).trans ?_
  refine(aD (ρ':=E mo mf (some (.val (.lst (ts.map rZ)) fr)) a8 a9 a10 (some (.val (.lst (wordsOf ts)) true)) qY kO) ?_).trans rfl
  show f9 _ _ _ (E mo mf (some (.val (.lst (ts.map rZ)) fr)) a8 a9 a10 (some (.val (.lst []) true)) none none)=_
  rw[ef]
  simpa using lp
 obtain⟨qY,kO,ew⟩:=ew
 let W:=wordsOf ts
 have shW:qP (.lst W)=true:=jd (n:=1) (by
  simp only[mz,List.all_eq_true]
  intro d hd
  obtain⟨t,ht,hd⟩:=List.mem_flatMap.mp hd
  obtain⟨r,hr,hd⟩:=List.mem_flatMap.mp hd
  exact Qd ((hts t ht).2 r hr) hn d hd)
 let inW:Nat->Bool:=λk=>W.any λy=>qN y (.str (ns.getD k ""))
 obtain⟨q0,hq0,hq0'⟩:=pJ (v4/9) 3 (by omega)
 let ks:List Int:=((List.range' 0 3).filter inW).map λk:Nat=>((k:Int)+1)
 let M:Int:=maxOf (1+(q0:Int)) ks
 have M1:1<=M:=by have:=(zQ ks (1+(q0:Int))).1;simp only[M];omega
 have M3:M<=3:=Hr ks _ 3 (by omega) λx hx=>by
  obtain⟨k,hk,rfl⟩:=List.mem_map.mp hx
  have:=(List.mem_filter.mp hk).1
  simp at this
  omega
 obtain⟨Mn,hMn⟩:=Int.eq_ofNat_of_zero_le (show 0<=M by omega)
 have YH:∀ρ:aH,at? ρ 4=some (.int v4)->at? ρ 11=some (.lst W)->at? ρ 3=some (.lst (ns.map .str))->fB uV (aa (f2 aP (gB (aa (f2 aP (fC (.int 1)) (f2 cj (f2 gA (aj 4) (fC (.int 9))) (fC (.int 3)))) aq)) (fZ (cI [none,some 11,some 3] (gw (fC (.int 3))) (aV 0) (t2 (tZ false) (f2 aG (aj 2) (aj 0)) (aj 1)) (f2 aP (aj 0) (fC (.int 1)))))) aq) ρ=some (.int M):=by
  intro ρ h4 h11 h3
  have ec:fH (aV 0) (t2 (tZ false) (f2 aG (aj 2) (aj 0)) (aj 1)) (f2 aP (aj 0) (fC (.int 1))) [none,some (.lst W),some (.lst (ns.map .str))] (lN 0 3)=some (ks.map .int):=by
   rw[vB]
   have:=gO (T:=aV 0) (Tt:=t2 (tZ false) (f2 aG (aj 2) (aj 0)) (aj 1)) (Fe:=f2 aP (aj 0) (fC (.int 1))) (ρ:=[none,some (.lst W),some (.lst (ns.map .str))]) (f:=λk:Nat=> .int (k:Nat)) (g:=λk:Nat=> .int ((k:Int)+1)) inW (λk=>[some (.int (k:Nat)),some (.lst W),some (.lst (ns.map .str))]) (List.range' 0 3) λk hk=>⟨rfl,eU (aB rfl rfl (nmk k (by simp at hk;omega))) rfl (by
    unfold tZ
    simp only[uB,Option.bind_some,o7 _ (hn _ (mJ (show k<ns.length by simp at hk;omega))).1,shW,Bool.and_self,if_true]
    rfl),aB rfl rfl rfl⟩
   rw[this]
   simp[ks]
  have hks:ks.length<=3:=by
   have:=List.length_filter_le inW (List.range' 0 3)
   simp only[ks,List.length_map]
   simpa using this
  refine jE (aR (aB (x:= .lst [.int (1+(q0:Int))]) ?_ (je (gP (nD (n:=3) rfl (by omega)) (by simp[lN]) (l:=ks.map .int) ?_)) (z:= .lst (((1+(q0:Int))::ks).map .int)) ?_)) (Tw _ _)
  ·show(aa _ _ ρ).bind oK=_
   rw[aR (aB rfl (aB (aB h4 rfl (fM v4 9 (by omega) (by omega))) rfl (cC _ 3 (by omega))) (z:= .int (1+(q0:Int))) (by rw[<-hq0];rfl)),Option.bind_some]
   rfl
  ·have:inD [none,some 11,some 3] ρ=[none,some (.lst W),some (.lst (ns.map .str))]:=by simp only[inD,List.map_cons,List.map_nil,h11,h3]
   rw[this]
   exact ec
  ·simp only[aP]
   rw[if_pos (by rw[sizeLine_eq];simp;omega)]
   rfl
 let p:Pl:=⟨cells.take Mn,ts⟩
 have a0Z:1<=Mn/\Mn<=3:=by omega
 have W3:∀c∈cells,PyData.strOk c.1=true:=by
  intro c hc
  simp only[cells,List.mem_cons,List.not_mem_nil,or_false]at hc
  rcases hc with rfl|rfl|rfl
  ·exact(hn _ (mJ (by omega))).1
  ·exact(hn _ (mJ (by omega))).1
  ·exact(hn _ (mJ (by omega))).1
 have hp:Yp p:=by
  refine⟨by simp[p];omega,nt,λt ht=>(hts t ht).1,λt ht r hr=>((hts t ht).2 r hr).bx,λt ht r hr c hc=>?_,λc hc=>W3 c (List.mem_of_mem_take hc)⟩
  obtain⟨k,hk,rfl⟩:=take3 hl (((hts t ht).2 r hr).cel c hc)
  have hin:inW k=true:=RT (Nk ht hr (Mq hc))
  have hle:(k:Int)+1<=M:=(zQ ks (1+(q0:Int))).2 _ (List.mem_map.mpr ⟨k,List.mem_filter.mpr ⟨by rw[List.mem_range'];exact⟨k,hk,by omega⟩,hin⟩,rfl⟩)
  have hkM:k<Mn:=by omega
  refine List.mem_map.mpr ⟨(ns.getD k "",Aq k),?_,rfl⟩
  have:(cells.take Mn)[k]?=some (ns.getD k "",Aq k):=by
   rw[List.getElem?_take_of_lt hkM]
   have:k=0\/k=1\/k=2:=by omega
   rcases this with rfl|rfl|rfl<;>rfl
  exact List.mem_of_getElem? this
 have XN:∀k, -100000<=Aq k/\Aq k<=100000:=λk=>by
  simp only[Aq,sel]
  have:((v4+(k:Int)) % 4).toNat=0\/((v4+(k:Int)) % 4).toNat=1\/((v4+(k:Int)) % 4).toNat=2\/((v4+(k:Int)) % 4).toNat=3:=by omega
  rcases this with h|h|h|h<;>rw[h]<;>simp only[List.getD_cons_zero,List.getD_cons_succ]<;>omega
 have Yx:∀c∈cells,RG c.1=true/\ -100000<=c.2/\c.2<=100000:=by
  intro c hc
  simp only[cells,List.mem_cons,List.not_mem_nil,or_false]at hc
  rcases hc with rfl|rfl|rfl
  ·exact⟨nY (hn _ (mJ (by omega))),XN 0⟩
  ·exact⟨nY (hn _ (mJ (by omega))),XN 1⟩
  ·exact⟨nY (hn _ (mJ (by omega))),XN 2⟩
 refine⟨p,⟨hp,λt ht r hr=>((hts t ht).2 r hr).num,λc hc=>Yx c (List.mem_of_mem_take hc)⟩,?_⟩
 have W9:∃ρ,jK (aW 14 [.tu l,.int 5])=some (.rt p.d .new ρ):=by
  refine⟨E mo mf (some (.val (.lst (ts.map rZ)) fr)) (some (.val (.int M) true)) a9 a10 (some (.val (.lst (wordsOf ts)) true)) qY kO,?_⟩
  rw[pre,aD eth,ew]
  refine(aD (bB (i:=8) (d:= .int M) (YH _ rfl rfl rfl) rfl)).trans ?_
  have ec2:fH (aV 0) tT (fB (lC cu eO) (aa (aj 0) aq)) [none] (ts.map rZ)=some (ts.map dU):=
   comp_map (λt=>[some (rZ t)]) ts λt _=>⟨rfl,rfl,um (.inl rfl)⟩
  refine(cV (d:=p.d) ?_ (n6 p)).trans rfl
  refine cN (bU (uz (d:= .tup (cells.map cD)) rfl rfl (m7 (i:=M) rfl) (e:= .tup ((cells.take Mn).map cD)) ?_) (aR (um (.inl (je (gP (jj rfl) (by simp;omega) ec2)))))) (by simp)
  rw[hMn]
  simp only[Gj,zy,List.map_take]
 obtain⟨ρ,W9⟩:=W9
 simp only[gZ,List.length_cons,List.length_nil,if_true,W9,fW]
end K
theorem mQ {G:GS}{n k:Nat}{ds:List D}{d:D}{κ:RK}{ρ:bw}(h:G (aW k ds)=some (.rt d κ ρ))(hl:ds.length=n):(if ds.length=n then fW (G (aW k ds))else none)=some (d,κ):=by rw[if_pos hl,h];rfl
theorem Yz {n:Nat}{d:D}(h:dB d=true):mz n d=true:=by
 cases d with
 |str x=>
  have h:=h
  simp only[dB,RG,Bool.and_eq_true]at h
  cases n<;>exact h.1
 |int i=>cases n<;>rfl
 |_=>cases h
theorem Jt {r:Rw}(h:r.mq=true):mz 1 r.d=true:=by
 rw[nF]
 simp only[mz,List.all_cons,Bool.and_eq_true,z7,true_and]
 exact List.all_eq_true.mpr λd hd=>Yz (List.all_eq_true.mp h d hd)
theorem Eg {r:Rw}(h:r.mq=true)(n:Bool):dN n r.d (.tup [.str "fence"])=some (.bl (if n then !bA r else bA r)):=by
 unfold dN
 rw[jd (Jt h),jd vK,uY]
 rfl
theorem ux (r:Rw)(n:Bool)(w:Str)(hw:PyData.strOk w=true):dN n (.str r.word) (.str w)=some (.bl (if n then !(r.word==w)else r.word==w)):=by
 unfold dN
 rw[o7 _ (z7 r),o7 _ hw,eq_str]
 rfl
noncomputable def nf (l:List Rw):Nat:=l.countP λr=>!bA r
noncomputable def lD (r:Rw)(l:List Rw):Rw:=match r with
 | .skip b n=> .skip b (nf (l.take n))
 |r=>r
noncomputable def dI:List Rw->List Rw
 |[]=>[]
 |r::l=>if bA r=true then dI l else lD r l::dI l
noncomputable def Rw.jz:Rw->Bool
 | .skip _ _=>true
 |_=>false
theorem nJ (r:Rw):(r.word==("skip":Str))=r.jz:=by cases r<;>simp[Rw.word,Rw.jz,oM]
theorem FZ {r:Rw}{l:List Rw}(h:r.jz=false):lD r l=r:=by cases r<;>first|rfl|cases h
namespace K
theorem JS (r:Rw)(l:List Rw)(hr:r.mq=true)(hl:∀x∈l,x.mq=true)(hn:l.length<=1000):jO [r.d,dU l]=some ((lD r l).d,.new):=by
 have t1:t2 (dN true) (f2 aG (aj 0) (fC (.int 0))) (fC (.str "skip")) [some r.d,some (dU l)]=some (!r.jz):=eU (aB rfl rfl (o9 r)) rfl (by rw[ux r true _ t6,nJ];rfl)
 have e:∃ρ,qW (aW 2 [r.d,dU l])=some (.rt (lD r l).d .new ρ):=by
  unfold qW
  cases hs:r.jz with
  |false=>
   rw[hs]at t1
   rw[FZ hs]
   refine⟨aW 2 [r.d,dU l],oJ ((jF t1).trans ?_)⟩
   show some (DR.rt r.d (if(false||flat r.d)=true then .new else .any) _)=_
   rw[cR]
   rfl
  |true=>
   rw[hs]at t1
   cases r with
   |skip b n=>
    refine⟨_,(aD (iu t1)).trans (cV (aB (x:= .tup [.str "skip",.str b]) ?_ (cN (l:=[.int (nf (l.take n):Nat)]) (aR (jE (aR (je (gP (r:=((l.take n).map Rw.d,[.tup ((l.take n).map Rw.d)])) (l:=((l.take n).filter λx=>!bA x).map Rw.d) ?_ ?_ ?_))) ?_)) (by simp)) ?_) ?_)⟩
    ·rfl
    ·exact v8 (uz rfl rfl (m7 rfl) (by
      show Gj (.tup (l.map Rw.d)) none (some (n:Int))=_
      simp only[Gj,zy,List.map_take]))
    ·simp only[List.length_map,List.length_take];omega
    ·exact gO (λx=>!bA x) (λx=>[some x.d]) (l.take n) λx hx=>⟨rfl,eU rfl rfl (Eg (hl x (List.mem_of_mem_take hx)) true),rfl⟩
    ·show some (D.int _)=_
     rw[List.length_map,nf,List.countP_eq_length_filter]
    ·rfl
    ·rfl
   |_=>cases hs
 obtain⟨ρ,e⟩:=e
 simp only[jO,List.length_cons,List.length_nil,if_true,e,fW]
theorem BW (t:List Rw)(ht:∀x∈t,x.mq=true)(hn:t.length<=100):∀(l:List Rw) (i:Nat),t.drop i=l->
 fH (jG 2 (cJ (aV 0) (cJ (aV 1) jX))) (t2 (dN true) (aj 1) (fC jU)) (aC jO [] (aa (aj 1) (aa (u6 (aj 2) (fL (f2 aP (aj 0) (fC (.int 1)))) gW) aq))) [none,none,some (dU t)] (eE i (l.map Rw.d))=some ((dI l).map Rw.d)
 |[],_,_=>rfl
 |r::l,i,h=>by
  have hd:t.drop (i+1)=l:=by rw[<-List.drop_drop,h];rfl
  have hr:r.mq=true:=ht r (List.mem_of_mem_drop (by rw[h];exact List.mem_cons_self))
  have ih:=BW t ht hn l (i+1) hd
  have e1:jG 2 (cJ (aV 0) (cJ (aV 1) jX)) (.tup [.int (i:Nat),r.d]) [none,none,some (dU t)]=some [some (.int (i:Nat)),some r.d,some (dU t)]:=rfl
  have e2:t2 (dN true) (aj 1) (fC jU) [some (.int (i:Nat)),some r.d,some (dU t)]=some (!bA r):=eU rfl rfl (Eg hr true)
  show fH _ _ _ _ (.tup [.int (i:Nat),r.d]::eE (i+1) (l.map Rw.d))=_
  simp only[fH]
  rw[e1,Option.bind_some,e2,Option.bind_some,ih]
  rw[show dI (r::l)=if bA r=true then dI l else lD r l::dI l from rfl]
  cases hf:bA r with
  |true=>rfl
  |false=>
   have e3:aC jO [] (aa (aj 1) (aa (u6 (aj 2) (fL (f2 aP (aj 0) (fC (.int 1)))) gW) aq)) [some (.int (i:Nat)),some r.d,some (dU t)]=some (lD r l).d:=by
    refine bz (l:=[r.d,dU l]) (bU rfl (aR (uz (d:=dU t) (x:=some ((i+1:Nat):Int)) rfl (m7 rfl) rfl ?_))) (JS r l hr (λx hx=>ht x (List.mem_of_mem_drop (by rw[hd];exact hx))) ?_) rfl
    ·show Gj (.tup (t.map Rw.d)) _ none=_
     simp only[Gj,Gf,<-List.map_drop,hd]
     rfl
    ·have:=congrArg List.length hd
     simp at this
     omega
   simp only[Bool.not_false,if_true]
   rw[e3]
   rfl
theorem BV:∀t:List Rw,(dI t).length<=t.length
 |[]=>Nat.le_refl _
 |r::l=>by
  have:=BV l
  rw[show dI (r::l)=if bA r=true then dI l else lD r l::dI l from rfl]
  split
  ·simp only[List.length_cons];omega
  ·simp only[List.length_cons];omega
theorem wj (i:Nat):∀(l:List D),(eE i l).length=l.length
 |[]=>rfl
 |d::l=>by
  have:=wj (i+1) l
  simp only[eE,List.length_cons,this]
theorem Io (t:List Rw)(ht:∀x∈t,x.mq=true)(hn:t.length<=100):jW [dU t]=some (.lst ((dI t).map Rw.d),.own):=by
 have e:qb (aW 1 [dU t])=some (.rt (.lst ((dI t).map Rw.d)) .own (aW 1 [dU t])):=by
  unfold qb
  refine qp (gP (r:=(eE 0 (t.map Rw.d),[dU t])) rfl ?_ (BW t ht hn t 0 rfl)) (cA cR)
  show(eE 0 (t.map Rw.d)).length<=_
  rw[wj,List.length_map];omega
 simp only[jW,List.length_cons,List.length_nil,if_true,e,fW]
end K
noncomputable def dO:Nat->List Rw->List Nat
 |_,[]=>[]
 |i,r::l=>if bA r=true then dO (i+1) l else i::dO (i+1) l
theorem jT (i:Nat)(r:Rw)(l:List Rw):dO i (r::l)=if bA r=true then dO (i+1) l else i::dO (i+1) l:=rfl
theorem sZ (r:Rw)(l:List Rw):nf (r::l)=nf l+if bA r=true then 0 else 1:=by
 unfold nf
 rw[List.countP_cons]
 cases bA r<;>rfl
theorem zP:∀(l:List Rw) (i:Nat),∀k∈dO i l,i<=k
 |[],_,k,h=>by cases h
 |r::l,i,k,h=>by
  rw[jT]at h
  split at h
  ·have:=zP l (i+1) k h;omega
  ·rcases List.mem_cons.mp h with rfl|h
   ·exact Nat.le_refl _
   ·have:=zP l (i+1) k h;omega
theorem CT:∀(l:List Rw) (i:Nat),(dO i l).length<=l.length
 |[],_=>Nat.le_refl _
 |r::l,i=>by
  have:=CT l (i+1)
  rw[jT]
  split<;>simp only[List.length_cons]<;>omega
theorem wY (j:Nat):∀(l:List Rw) (i:Nat),((dO i l).filter λk=>decide (k<j)).length=nf (l.take (j - i))
 |[],_=>by simp[dO,nf]
 |r::l,i=>by
  have ih:=wY j l (i+1)
  by_cases h:i<j
  ·rw[show j - i=(j - (i+1))+1 by omega,List.take_succ_cons,sZ,<-ih,jT]
   cases bA r with
   |true=>rfl
   |false=>simp[h]
  ·rw[show j - i=0 by omega]
   have:(dO i (r::l)).filter (λk=>decide (k<j))=[]:=List.filter_eq_nil_iff.mpr λk hk=>by
    have:=zP _ _ k hk
    simp;omega
   rw[this]
   rfl
theorem Hl:∀(l:List Rw) (i k:Nat) (r:Rw),l[k]?=some r->bA r=false->(dO i l).findIdx? (λx=>x==i+k)=some (nf (l.take k))
 |[],_,_,_,h,_=>by simp at h
 |x::l,i,0,r,h,hf=>by
  simp only[List.getElem?_cons_zero,Option.some.injEq]at h
  subst h
  rw[jT,hf]
  simp[nf,List.findIdx?_cons]
 |x::l,i,k+1,r,h,hf=>by
  have ih:=Hl l (i+1) k r (by simpa using h) hf
  rw[show i+1+k=i+(k+1) by omega]at ih
  rw[jT,List.take_succ_cons,sZ]
  cases hx:bA x with
  |true=>simpa using ih
  |false=>
   rw[if_neg (by decide),if_neg (by decide),List.findIdx?_cons,if_neg (by simp),ih]
   rfl
theorem Qo (t l:List Rw)(r:Rw)(i n:Nat)(h:t.drop i=r::l)(hf:bA r=false):nf (t.take (i+1+n))=nf (t.take i)+1+nf (l.take n):=by
 have hi:i<t.length:=by
  have:=congrArg List.length h
  simp at this
  omega
 have e:t.take (i+1+n)=t.take i++(r::l).take (1+n):=by
  rw[<-h,show i+1+n=i+(1+n) by omega,List.take_add]
 rw[e,show 1+n=n+1 by omega,List.take_succ_cons]
 unfold nf
 rw[List.countP_append,List.countP_cons,hf]
 simp
 omega
noncomputable def aM (k:Nat):D:= .int (k:Nat)
theorem sS (a b:Nat):qN (aM a) (aM b)=(a==b):=by
 unfold aM
 rw[eq_int]
 by_cases h:a=b
 ·subst h;simp
 ·rw[beq_false_of_ne (by omega:(a:Int)≠b),beq_false_of_ne h]
theorem Lk (l:List Nat):qP (.lst (l.map aM))=true:=jd (n:=1) (by
 simp only[mz,List.all_eq_true,List.mem_map]
 rintro d ⟨k,_,rfl⟩
 rfl)
theorem Tg {l:List Nat}{i k:Nat}(h:l.findIdx? (λx=>x==i)=some k):mG (.lst (l.map aM)) [aM i]=some (.int (k:Nat)):=by
 have h2:Lj (aM i) (l.map aM)=true:=by
  unfold Lj
  rw[Lk,show qP (aM i)=true from qF _]
  rfl
 simp only[mG,h2,if_true,Qe]
 rw[List.findIdx?_map]
 have:(λz=>qN z (aM i))∘aM=λx=>x==i:=funext λx=>sS x i
 rw[this,h]
 rfl
theorem sU (l:List Nat):flat.flats (l.map aM)=true:=cA λ_=>rfl
theorem yZ (l:List D):kY [.lst l]=some (.int (l.length:Nat)):=rfl
theorem Ku (l:List D):kY [.tup l]=some (.int (l.length:Nat)):=rfl
namespace K
theorem CV (t:List Rw)(ht:∀x∈t,x.mq=true):∀(l:List Rw) (i:Nat),t.drop i=l->
 fH (aV 0) (t2 (dN true) (f2 aG (aj 1) (aj 0)) (cF (aa (fC (.str "fence")) aq))) (aj 0) [none,some (dU t)] ((List.range' i l.length).map aM)=some ((dO i l).map aM)
 |[],_,_=>rfl
 |r::l,i,h=>by
  have hd:t.drop (i+1)=l:=by rw[<-List.drop_drop,h];rfl
  have hr:r.mq=true:=ht r (List.mem_of_mem_drop (by rw[h];exact List.mem_cons_self))
  have hg:t[i]?=some r:=by
   have:=congrArg (λx=>x[0]?) h
   simpa using this
  have ih:=CV t ht l (i+1) hd
  have e2:t2 (dN true) (f2 aG (aj 1) (aj 0)) (cF (aa (fC (.str "fence")) aq)) [some (aM i),some (dU t)]=some (!bA r):=
   eU (aB rfl rfl (Ez hg)) (cN (aR rfl) (by simp)) (Eg hr true)
  rw[List.length_cons,List.range'_succ,List.map_cons]
  simp only[fH]
  rw[show aV 0 (aM i) [none,some (dU t)]=some [some (aM i),some (dU t)] from rfl,Option.bind_some,e2,Option.bind_some,ih,jT]
  cases bA r<;>rfl
noncomputable def S5:GS:=(aO (bF 4 (f2 aG (aj 0) (aj 3))) (aO (jM (t2 (dN false) (f2 aG (aj 4) (fC (.int 0))) (fC (.str "skip"))) (aO (gR 5 (cI [none,some 3,some 4] (fj (aj 1)) (aV 0) (t2 (mX λi j=>decide (i<j)) (aj 0) (f2 aP (f2 aP (aj 1) (fC (.int 1))) (f2 aG (aj 2) (fC (.int 2))))) (aj 0))) (bF 4 (cF (aa (fC (.str "skip")) (aa (f2 aG (aj 4) (fC (.int 1))) (aa (f2 kE (f2 kE (fB kY (aa (aj 5) aq)) (vU "list" mG (aj 1) (aa (aj 3) aq))) (fC (.int 1))) aq)))))) cg) (eF 2 (aj 4))))
noncomputable def G7 (t:List Rw)(left:List Nat)(found:List Rw)(a3 a4 a5:Option L):bw:=[some (.val (dU t) false),some (.val (.lst (left.map aM)) true),some (.own (found.map Rw.d) true none),a3,a4,a5]
theorem S6 (t:List Rw)(r:Rw)(l found:List Rw)(i:Nat)(a4 a5:Option L)(ht:t.length<=100)(h:t.drop i=r::l)(hf:bA r=false)(hn:found.length<1000):
 ∃Mg Om,S5 (G7 t (dO 0 t) found (some (.val (aM i) true)) a4 a5)=some (.nx (G7 t (dO 0 t) (found++[lD r l]) (some (.val (aM i) true)) Mg Om)):=by
 have hg:t[i]?=some r:=by
  have:=congrArg (λx=>x[0]?) h
  simpa using this
 have app:∀(x:Rw) (a5:Option L),eF 2 (aj 4) (G7 t (dO 0 t) found (some (.val (aM i) true)) (some (.val x.d true)) a5)=some (.nx (G7 t (dO 0 t) (found++[x]) (some (.val (aM i) true)) (some (.val x.d true)) a5)):=λx a5=>by
  rw[ig (l:=found.map Rw.d) (fr:=true) (tg:=none) (d:=x.d) rfl (by rw[List.length_map,sizeLine_eq];omega) rfl (cR x)]
  simp[G7]
 have e1:S5 (G7 t (dO 0 t) found (some (.val (aM i) true)) a4 a5)=(aO (jM (t2 (dN false) (f2 aG (aj 4) (fC (.int 0))) (fC (.str "skip"))) (aO (gR 5 (cI [none,some 3,some 4] (fj (aj 1)) (aV 0) (t2 (mX λi j=>decide (i<j)) (aj 0) (f2 aP (f2 aP (aj 1) (fC (.int 1))) (f2 aG (aj 2) (fC (.int 2))))) (aj 0))) (bF 4 (cF (aa (fC (.str "skip")) (aa (f2 aG (aj 4) (fC (.int 1))) (aa (f2 kE (f2 kE (fB kY (aa (aj 5) aq)) (vU "list" mG (aj 1) (aa (aj 3) aq))) (fC (.int 1))) aq)))))) cg) (eF 2 (aj 4))) (G7 t (dO 0 t) found (some (.val (aM i) true)) (some (.val r.d true)) a5):=
  aD (bB (i:=4) (d:=r.d) (aB rfl rfl (Ez hg)) (cR r))
 have t1:t2 (dN false) (f2 aG (aj 4) (fC (.int 0))) (fC (.str "skip")) (vis (G7 t (dO 0 t) found (some (.val (aM i) true)) (some (.val r.d true)) a5))=some r.jz:=eU (aB rfl rfl (o9 r)) rfl (by rw[ux r false _ t6,nJ];rfl)
 rw[e1]
 cases hs:r.jz with
 |false=>
  rw[hs]at t1
  rw[FZ hs]
  exact⟨_,_,(aD (iu t1)).trans (app r a5)⟩
 |true=>
  rw[hs]at t1
  cases r with
  |skip b n=>
   refine⟨_,_,(aD ((jF t1).trans ((aD (cB (i:=5) (l:=((dO 0 t).filter λk=>decide (k<i+1+n)).map aM) ?_ (sU _))).trans (bB (i:=4) (d:=(lD (.skip b n) l).d) ?_ rfl)))).trans (app (lD (.skip b n) l) _)⟩
   ·refine gP (jj rfl) ?_ ?_
    ·have:=CT t 0
     simp only[List.length_map];omega
    ·refine gO (λk=>decide (k<i+1+n)) (λk=>[some (aM k),some (aM i),some (Rw.skip b n).d]) (dO 0 t) λk _=>⟨rfl,?_,rfl⟩
     refine(eU rfl (aB (aB rfl rfl rfl) (aB rfl rfl rfl) rfl) ?_)
     show some (D.bl (decide ((k:Int)<(i:Int)+1+n)))=some (D.bl (decide (k<i+1+n)))
     congr 2
     exact decide_eq_decide.mpr (by omega)
   ·refine cN (bU rfl (bU rfl (aR (aB (x:= .int ((nf (t.take i)+1+nf (l.take n):Nat) - (nf (t.take i):Nat))) (aB (x:= .int ((nf (t.take i)+1+nf (l.take n):Nat):Int)) (y:= .int (nf (t.take i):Nat)) (jE (aR rfl) ?_) (uy rfl rfl (aR rfl) (Tg ?_)) rfl) rfl ?_)))) (by simp)
    ·show some (D.int _)=_
     rw[List.length_map,wY,Nat.sub_zero,Qo t l _ i n h hf]
    ·have:=Hl t 0 i _ hg hf
     rw[Nat.zero_add]at this
     exact this
    ·show some (D.int _)=some (D.int _)
     congr 2
     omega
  |_=>cases hs
theorem Dz (t:List Rw)(ht:t.length<=100):∀(l:List Rw) (i:Nat) (found:List Rw) (a3 a4 a5:Option L),t.drop i=l->found.length+l.length<1000->
 ∃IW Mg Om,cT (aF 3) S5 true ((dO i l).map aM) (G7 t (dO 0 t) found a3 a4 a5)=some (.nx (G7 t (dO 0 t) (found++dI l) IW Mg Om))
 |[],i,found,a3,a4,a5,_,_=>⟨a3,a4,a5,by rw[show dI []=[] from rfl,List.append_nil];rfl⟩
 |r::l,i,found,a3,a4,a5,h,hn=>by
  have hd:t.drop (i+1)=l:=by rw[<-List.drop_drop,h];rfl
  rw[List.length_cons]at hn
  rw[jT,show dI (r::l)=if bA r=true then dI l else lD r l::dI l from rfl]
  cases hf:bA r with
  |true=>exact Dz t ht l (i+1) found a3 a4 a5 hd (by omega)
  |false=>
   obtain⟨Mg,Om,e⟩:=S6 t r l found i a4 a5 ht h hf (by omega)
   obtain⟨b3,b4,b5,e2⟩:=Dz t ht l (i+1) (found++[lD r l]) (some (.val (aM i) true)) Mg Om hd (by simp;omega)
   refine⟨b3,b4,b5,?_⟩
   rw[if_neg (by decide),if_neg (by decide),List.map_cons,eY (T:=aF 3) (uo:=G7 t (dO 0 t) found (some (.val (aM i) true)) a4 a5) rfl e,e2]
   simp
theorem vC (n:Nat):lN 0 n=(List.range' 0 n).map aM:=vB n
theorem Z7 (t:List Rw)(hb:∀x∈t,x.mq=true)(ht:t.length<=100):cI [none,some 0] (gw (fB kY (aa (aj 0) aq))) (aV 0) (t2 (dN true) (f2 aG (aj 1) (aj 0)) (cF (aa (fC (.str "fence")) aq))) (aj 0) (vis (aW 6 [dU t]))=some ((dO 0 t).map aM):=by
 refine gP (r:=(lN 0 t.length,[])) (nD (n:=t.length) (jE (aR rfl) ?_) (by omega)) ?_ ?_
 ·show some (D.int _)=_
  rw[List.length_map]
 ·show(lN 0 t.length).length<=_
  rw[vC];simp;omega
 ·show fH _ _ _ _ (lN 0 t.length)=_
  rw[vC]
  exact CV t hb t 0 rfl
theorem Za (t:List Rw)(a3 a4 a5:Option L)(e:cT (aF 3) S5 true ((dO 0 t).map aM) (G7 t (dO 0 t) [] none none none)=some (.nx (G7 t (dO 0 t) ([]++dI t) a3 a4 a5))):tO 1 (f9 (fj (aj 1)) (aF 3) S5) [some (.val (dU t) false),some (.own ((dO 0 t).map aM) true none),some (.own [] true none),none,none,none]=some (.nx (G7 t (dO 0 t) (dI t) a3 a4 a5)):=by
 show f9 (fj (aj 1)) (aF 3) S5 (G7 t (dO 0 t) [] none none none)=_
 rw[jL (r:=((dO 0 t).map aM,[.lst ((dO 0 t).map aM)])) rfl rfl,e]
 rfl
theorem Z8 (t:List Rw)(hb:∀x∈t,x.mq=true)(ht:t.length<=100)(a3 a4 a5:Option L)(f1:tO 1 (f9 (fj (aj 1)) (aF 3) S5) [some (.val (dU t) false),some (.own ((dO 0 t).map aM) true none),some (.own [] true none),none,none,none]=some (.nx (G7 t (dO 0 t) (dI t) a3 a4 a5))):
 (aO (tO 1 (f9 (fj (aj 1)) (aF 3) S5)) (fc (fB (lC cu eO) (aa (aj 2) aq)))) [some (.val (dU t) false),some (.own ((dO 0 t).map aM) true none),some (.own [] true none),none,none,none]=some (.rt (dU (dI t)) .new (G7 t (dO 0 t) (dI t) a3 a4 a5)):=
 (aD f1).trans (cV (um (.inl rfl)) (nW _))
theorem Z9 (t:List Rw)(hb:∀x∈t,x.mq=true)(ht:t.length<=100):kJ (aW 6 [dU t])=(aO (tO 1 (f9 (fj (aj 1)) (aF 3) S5)) (fc (fB (lC cu eO) (aa (aj 2) aq)))) [some (.val (dU t) false),some (.own ((dO 0 t).map aM) true none),some (.own [] true none),none,none,none]:=by
 unfold kJ
 refine(aD (cB (i:=1) (l:=(dO 0 t).map aM) (Z7 t hb ht) (sU _))).trans ?_
 exact aD (cB (i:=2) (l:=[]) rfl rfl)
theorem FJ (t:List Rw)(hb:∀x∈t,x.mq=true)(ht:t.length<=100):gY [dU t]=some (dU (dI t),.new):=by
 obtain⟨a3,a4,a5,e⟩:=Dz t ht t 0 [] none none none rfl (by simp;omega)
 have e1:=(Z9 t hb ht).trans (Z8 t hb ht a3 a4 a5 (Za t a3 a4 a5 e))
 exact mQ e1 rfl
end K
noncomputable def cnt (S:Nat->Bool)(i n:Nat):Nat:=((List.range' i n).filter S).length
theorem nT (S:Nat->Bool)(i n:Nat):cnt S i (n+1)=(if S i=true then 1 else 0)+cnt S (i+1) n:=by
 unfold cnt
 rw[List.range'_succ,List.filter_cons]
 split<;>simp;omega
theorem Sh (S:Nat->Bool)(i n m:Nat):cnt S i (n+m)=cnt S i n+cnt S (i+n) m:=by
 induction n generalizing i with
 |zero=>simp[cnt]
 |succ n ih=>rw[show n+1+m=(n+m)+1 by omega,nT,nT,ih,show i+1+n=i+(n+1) by omega];omega
theorem Oz (S:Nat->Bool)(i n:Nat):cnt S i n<=n:=by
 have:=List.length_filter_le S (List.range' i n)
 simpa[cnt]using this
noncomputable def mZ (S:Nat->Bool)(i:Nat)(r:Rw):Rw:=match r with
 | .skip b n=> .skip b (n+cnt S (i+1) n)
 |r=>r
noncomputable def oA (S:Nat->Bool):Nat->List Rw->List Rw
 |_,[]=>[]
 |i,r::l=>if S i=true then .fence::mZ S i r::oA S (i+1) l else mZ S i r::oA S (i+1) l
theorem lH (S:Nat->Bool)(i:Nat)(r:Rw)(l:List Rw):oA S i (r::l)=if S i=true then .fence::mZ S i r::oA S (i+1) l else mZ S i r::oA S (i+1) l:=rfl
theorem Gr (S:Nat->Bool):∀(l:List Rw) (i:Nat),(oA S i l).length<=2*l.length
 |[],_=>Nat.le_refl _
 |r::l,i=>by
  have:=Gr S l (i+1)
  rw[lH]
  split<;>simp only[List.length_cons]<;>omega
theorem Kc {S:Nat->Bool}{i:Nat}{r:Rw}(h:r.jz=false):mZ S i r=r:=by cases r<;>first|rfl|cases h
theorem Oo (k:Nat)(l:List Nat):((l.map aM).any λy=>qN y (aM k))=decide (k∈l):=by
 induction l with
 |nil=>rfl
 |cons a l ih=>
  rw[List.map_cons,List.any_cons,ih,sS]
  by_cases h:a=k
  ·subst h;simp
  ·simp[h,Ne.symm h]
theorem zA (k:Nat)(l:List Nat):tZ false (aM k) (.lst (l.map aM))=some (.bl (decide (k∈l))):=by
 unfold tZ
 rw[show uB (.lst (l.map aM))=some (l.map aM) from rfl,Option.bind_some,Lk,show qP (aM k)=true from qF _,Oo]
 rfl
theorem QV (lo n:Nat):lN (lo:Int) n=(List.range' lo n).map aM:=by
 unfold lN
 rw[List.range_eq_range',List.range'_eq_map_range (s:=lo),List.map_map,<-List.range_eq_range']
 apply List.map_congr_left
 intro k _
 show D.int _=D.int _
 congr 1
theorem Jg {a b:FD}{ρ:aH}{i n:Nat}(ha:a ρ=some (.int (i:Nat)))(hb:b ρ=some (.int ((i+n:Nat):Int)))(hi:i+n<1000):sW a b ρ=some ((List.range' i n).map aM,[]):=by
 show(a ρ).bind (λx=>(b ρ).bind λy=>GZ x y)=_
 rw[ha,Option.bind_some,hb,Option.bind_some]
 simp only[GZ]
 rw[if_pos ⟨by omega,by omega,by omega,by omega⟩,<-QV,show(((i+n:Nat):Int) - (i:Int)).toNat=n by omega]
namespace K
theorem Fz (ats:List Nat)(r:Rw)(i:Nat)(hi:i<100)(hr:∀b n,r= .skip b n->n<=500)(ha:ats.length<=1000):fY [r.d,aM i,.lst (ats.map aM)]=some ((mZ (λk=>decide (k∈ats)) i r).d,.new):=by
 have t1:t2 (dN true) (f2 aG (aj 0) (fC (.int 0))) (fC (.str "skip")) [some r.d,some (aM i),some (.lst (ats.map aM)),none]=some (!r.jz):=eU (aB rfl rfl (o9 r)) rfl (by rw[ux r true _ t6,nJ];rfl)
 cases hs:r.jz with
 |false=>
  rw[hs]at t1
  rw[Kc hs]
  refine mQ (G:=oV) (k:=4) (ρ:=aW 4 [r.d,aM i,.lst (ats.map aM)]) (oJ ((jF t1).trans ?_)) rfl
  show some (DR.rt r.d (if(false||flat r.d)=true then .new else .any) _)=_
  rw[cR]
  rfl
 |true=>
  rw[hs]at t1
  cases r with
  |skip b n=>
   have hn:=hr b n rfl
   have e1:gR 3 (cI [none,some 2] (sW (f2 aP (aj 1) (fC (.int 1))) (f2 aP (f2 aP (aj 1) (fC (.int 1))) (f2 aG (aj 0) (fC (.int 2))))) (aV 0) (t2 (tZ false) (aj 0) (aj 1)) (aj 0)) [some (.val (Rw.skip b n).d false),some (.val (aM i) false),some (.val (.lst (ats.map aM)) false),none]=some (.nx [some (.val (Rw.skip b n).d false),some (.val (aM i) false),some (.val (.lst (ats.map aM)) false),some (.own (((List.range' (i+1) n).filter λk=>decide (k∈ats)).map aM) true none)]):=by
    refine cB (gP (Jg (i:=i+1) (n:=n) (aB rfl rfl rfl) (aB (aB rfl rfl rfl) (aB rfl rfl rfl) rfl) (by omega)) ?_ ?_) (sU _)
    ·simp;omega
    ·exact gO (λk=>decide (k∈ats)) (λk=>[some (aM k),some (.lst (ats.map aM))]) (List.range' (i+1) n) λk _=>⟨rfl,eU rfl rfl (zA k ats),rfl⟩
   refine mQ (G:=oV) (k:=4) ((aD (iu t1)).trans ((aD e1).trans (cV (d:=(mZ (λk=>decide (k∈ats)) i (.skip b n)).d) (aB (x:= .tup [.str "skip",.str b]) rfl (cN (aR (aB (y:= .int (cnt (λk=>decide (k∈ats)) (i+1) n:Nat)) rfl (jE (aR rfl) ?_) rfl)) (by simp)) rfl) rfl))) rfl
   show some (D.int _)=_
   rw[List.length_map,cnt]
  |_=>cases hs
noncomputable def frB:GS:=(aO (jM (t2 (tZ false) (aj 3) (aj 1)) (eF 2 (fC jU)) cg) (Ny (eF 2 (aC fY [] (aa (aj 4) (aa (aj 3) (aa (aj 1) aq))))) (Pg 2 (eF 2 (aC fY [] (aa (aj 4) (aa (aj 3) (aa (aj 1) aq))))))))
noncomputable def Bh (t:List Rw)(ats:List Nat)(found:List Rw)(a3 a4:Option L):bw:=[some (.val (dU t) false),some (.val (.lst (ats.map aM)) false),some (.own (found.map Rw.d) true none),a3,a4]
theorem HF {G1 G2:GS}{ρ:bw}{r:DR}(h:G1 ρ=some r):Ny G1 G2 ρ=some r:=by unfold Ny;rw[h]
theorem T6 (t:List Rw)(ats:List Nat)(found:List Rw)(r:Rw)(i:Nat)(hi:i<100)(hr:∀b n,r= .skip b n->n<=500)(ha:ats.length<=1000)(hf:found.length<1000):
 frB (Bh t ats found (some (.val (aM i) true)) (some (.val r.d true)))=some (.nx (Bh t ats (found++if decide (i∈ats)=true then[.fence,mZ (λk=>decide (k∈ats)) i r] else[mZ (λk=>decide (k∈ats)) i r]) (some (.val (aM i) true)) (some (.val r.d true)))):=by
 have app:∀(fd:List Rw),fd.length<2000->Ny (eF 2 (aC fY [] (aa (aj 4) (aa (aj 3) (aa (aj 1) aq))))) (Pg 2 (eF 2 (aC fY [] (aa (aj 4) (aa (aj 3) (aa (aj 1) aq)))))) (Bh t ats fd (some (.val (aM i) true)) (some (.val r.d true)))=some (.nx (Bh t ats (fd++[mZ (λk=>decide (k∈ats)) i r]) (some (.val (aM i) true)) (some (.val r.d true)))):=λfd hfd=>by
  refine(HF (ig (l:=fd.map Rw.d) (fr:=true) (tg:=none) rfl (by rw[List.length_map,sizeLine_eq];omega) (bz (bU rfl (bU rfl (aR rfl))) (Fz ats r i hi hr ha) rfl) (cR _))).trans ?_
  simp[Bh]
 have t1:t2 (tZ false) (aj 3) (aj 1) (vis (Bh t ats found (some (.val (aM i) true)) (some (.val r.d true))))=some (decide (i∈ats)):=eU rfl rfl (zA i ats)
 cases hm:decide (i∈ats)with
 |false=>
  rw[hm]at t1
  exact(aD (iu t1)).trans (app found (by omega))
 |true=>
  rw[hm]at t1
  have e:jM (t2 (tZ false) (aj 3) (aj 1)) (eF 2 (fC jU)) cg (Bh t ats found (some (.val (aM i) true)) (some (.val r.d true)))=some (.nx (Bh t ats (found++[.fence]) (some (.val (aM i) true)) (some (.val r.d true)))):=by
   refine(jF t1).trans ((ig (l:=found.map Rw.d) (fr:=true) (tg:=none) (d:=jU) rfl (by rw[List.length_map,sizeLine_eq];omega) rfl rfl).trans ?_)
   simp[Bh]
   rfl
  refine(aD e).trans ((app (found++[.fence]) (by simp;omega)).trans ?_)
  simp
theorem Kl (t:List Rw)(ats:List Nat)(ha:ats.length<=1000):∀(l:List Rw) (i:Nat) (found:List Rw) (a3 a4:Option L),i+l.length<=100->(∀b n,.skip b n∈l->n<=500)->found.length+2*l.length<1000->
 ∃IW Mg,cT (dF 2 (aZ (aF 3) (aZ (aF 4) dM))) frB true (eE i (l.map Rw.d)) (Bh t ats found a3 a4)=some (.nx (Bh t ats (found++oA (λk=>decide (k∈ats)) i l) IW Mg))
 |[],i,found,a3,a4,_,_,_=>⟨a3,a4,by simp[oA];rfl⟩
 |r::l,i,found,a3,a4,hi,hs,hn=>by
  rw[List.length_cons]at hi hn
  have e:=T6 t ats found r i (by omega) (λb n h=>hs b n (by rw[h];exact List.mem_cons_self)) ha (by omega)
  obtain⟨b3,b4,e2⟩:=Kl t ats ha l (i+1) (found++if decide (i∈ats)=true then[.fence,mZ (λk=>decide (k∈ats)) i r] else[mZ (λk=>decide (k∈ats)) i r]) (some (.val (aM i) true)) (some (.val r.d true)) (by omega) (λb n h=>hs b n (List.mem_cons_of_mem _ h)) (by split<;>simp<;>omega)
  refine⟨b3,b4,?_⟩
  show cT _ _ _ (.tup [aM i,r.d]::eE (i+1) (l.map Rw.d)) _=_
  rw[eY (T:=dF 2 (aZ (aF 3) (aZ (aF 4) dM))) (uo:=Bh t ats found (some (.val (aM i) true)) (some (.val r.d true))) rfl e,e2,lH]
  split<;>simp
theorem a0h (t:List Rw)(ats:List Nat)(a3 a4:Option L)(R:List Rw)(e:cT (dF 2 (aZ (aF 3) (aZ (aF 4) dM))) frB true (eE 0 (t.map Rw.d)) (Bh t ats [] none none)=some (.nx (Bh t ats ([]++R) a3 a4))):
 qX (aW 5 [dU t,.lst (ats.map aM)])=some (.rt (.lst (R.map Rw.d)) .own (Bh t ats R a3 a4)):=by
 have f1:f9 (jb (aj 0)) (dF 2 (aZ (aF 3) (aZ (aF 4) dM))) frB (Bh t ats [] none none)=some (.nx (Bh t ats R a3 a4)):=by
  rw[jL (r:=(eE 0 (t.map Rw.d),[dU t])) rfl (by
   show(at? (vals true (Bh t ats [] none none)) 0).bind _=_
   rw[show at? (vals true (Bh t ats [] none none)) 0=some (dU t) by simp[vals,pick,Bh,nW,at?]]
   rfl)]
  exact e
 have f2:jf 2 (Bh t ats R a3 a4)=some (.rt (.lst (R.map Rw.d)) .own (Bh t ats R a3 a4)):=rfl
 exact(aD (cB (i:=2) (l:=[]) rfl rfl)).trans ((aD f1).trans f2)
theorem BJ (t:List Rw)(ats:List Nat)(ht:t.length<=100)(hs:∀b n,.skip b n∈t->n<=500)(ha:ats.length<=1000):fK [dU t,.lst (ats.map aM)]=some (.lst ((oA (λk=>decide (k∈ats)) 0 t).map Rw.d),.own):=by
 obtain⟨a3,a4,e⟩:=Kl t ats ha t 0 [] none none (by omega) hs (by simp;omega)
 exact mQ (a0h t ats a3 a4 _ e) rfl
end K
noncomputable def oY (S:Nat->Bool):Nat->Nat->List (Bool×Nat)
 |_,0=>[]
 |i,n+1=>if S i=true then(true,i)::(false,i)::oY S (i+1) n else(false,i)::oY S (i+1) n
theorem lK (S:Nat->Bool)(i n:Nat):oY S i (n+1)=if S i=true then(true,i)::(false,i)::oY S (i+1) n else(false,i)::oY S (i+1) n:=rfl
theorem HH (S:Nat->Bool):∀(n i:Nat),(oY S i n).length=n+cnt S i n
 |0,_=>by simp[oY,cnt]
 |n+1,i=>by
  have:=HH S n (i+1)
  rw[lK,nT]
  split<;>simp only[List.length_cons,this]<;>omega
theorem HJ (S:Nat->Bool):∀(n i j:Nat),i<=j->j<=i+n->(oY S i n).findIdx (λx=>x.2==j)=(j - i)+cnt S i (j - i)
 |0,i,j,h1,h2=>by
  have:j=i:=by omega
  subst this
  simp[oY,cnt]
 |n+1,i,j,h1,h2=>by
  by_cases h:i=j
  ·subst h
   rw[lK]
   split<;>simp[List.findIdx_cons,cnt]
  ·have ih:=HJ S n (i+1) j (by omega) (by omega)
   have hb:(i==j)=false:=beq_false_of_ne h
   rw[show j - i=(j - (i+1))+1 by omega,nT,lK]
   split<;>simp only[List.findIdx_cons,hb,ih,cond_false]<;>omega
theorem KD (S:Nat->Bool):∀(n i j:Nat),i<=j->j<i+n->(oY S i n).findIdx? (λx=>x==(false,j))=some ((j - i)+cnt S i (j - i)+if S j=true then 1 else 0)
 |0,i,j,h1,h2=>by omega
 |n+1,i,j,h1,h2=>by
  by_cases h:i=j
  ·subst h
   rw[lK]
   cases hS:S i with
   |true=>simp[List.findIdx?_cons,cnt]
   |false=>simp[List.findIdx?_cons,cnt]
  ·have ih:=KD S n (i+1) j (by omega) (by omega)
   have hb:∀b:Bool,((b,i)==(false,j))=false:=λb=>by
    rw[beq_eq_false_iff_ne]
    intro e
    cases e
    exact h rfl
   rw[show j - i=(j - (i+1))+1 by omega,nT,lK]
   cases hS:S i with
   |true=>
    rw[if_pos rfl,if_pos rfl,List.findIdx?_cons,hb,List.findIdx?_cons,hb,ih]
    simp
    omega
   |false=>
    rw[if_neg (by decide),if_neg (by decide),List.findIdx?_cons,hb,ih]
    simp
    omega
theorem head_filter {α:Type}(p:α->Bool):∀(l:List α) (i:Nat),(((List.range' i l.length).filter λk=>(l[k - i]?).any p)++[i+l.length])[0]?=some (i+l.findIdx p)
 |[],i=>rfl
 |x::l,i=>by
  have ih:=head_filter p l (i+1)
  have e:(List.range' (i+1) l.length).filter (λk=>((x::l)[k - i]?).any p)=(List.range' (i+1) l.length).filter (λk=>(l[k - (i+1)]?).any p):=by
   apply List.filter_congr
   intro k hk
   have:i+1<=k:=by simp at hk;omega
   rw[show k - i=(k - (i+1))+1 by omega,List.getElem?_cons_succ]
  rw[List.length_cons,List.range'_succ,List.filter_cons,Nat.sub_self,List.getElem?_cons_zero,e,List.findIdx_cons]
  cases hp:p x with
  |true=>
   rw[if_pos (by simpa using hp)]
   rfl
  |false=>
   rw[if_neg (by simp[hp])]
   dsimp only[cond_false]
   rw[show i+(l.length+1)=i+1+l.length by omega]
   rw[show i+(l.findIdx p+1)=i+1+l.findIdx p by omega]
   exact ih
noncomputable def oD (x:Bool×Nat):D:= .tup [.str (if x.1=true then "fence" else "row"),aM x.2]
theorem Qv:PyData.strOk "row"=true:=by decide+kernel
theorem Zi (x y:Bool×Nat):qN (oD x) (oD y)=(x==y):=by
 obtain⟨a,i⟩:=x
 obtain⟨b,j⟩:=y
 have h:=sS i j
 unfold oD
 rw[Pu]
 simp only[iT,mC,PyData.eqvAll,PyData.eqv,aM,Bool.and_true]
 have e:(((i:Nat):Int)==((j:Nat):Int))=(i==j):=by rw[<-eq_int];exact h
 rw[e]
 show _=(a==b&&i==j)
 cases a<;>cases b<;>simp[oM,vo]
theorem VB (x:Bool×Nat):mz 1 (oD x)=true:=by
 unfold oD
 cases x.1<;>simp[mz,Qv,rJ,aM]
theorem XQ (l:List (Bool×Nat)):qP (.lst (l.map oD))=true:=jd (n:=2) (by
 simp only[mz,List.all_eq_true,List.mem_map]
 rintro d ⟨k,_,rfl⟩
 exact VB k)
theorem Z5 {l:List (Bool×Nat)}{x:Bool×Nat}{k:Nat}(h:l.findIdx? (λy=>y==x)=some k):mG (.lst (l.map oD)) [oD x]=some (.int (k:Nat)):=by
 have h2:Lj (oD x) (l.map oD)=true:=by
  unfold Lj
  rw[XQ,jd (VB x)]
  rfl
 simp only[mG,h2,if_true,Qe]
 rw[List.findIdx?_map]
 have:(λz=>qN z (oD x))∘oD=λy=>y==x:=funext λy=>Zi y x
 rw[this,h]
 rfl
theorem S9 {a b:List D}(h:a.length+b.length<=1000):aP (.lst a) (.lst b)=some (.lst (a++b)):=by
 simp only[aP]
 rw[if_pos (by rw[sizeLine_eq];omega)]
namespace K
noncomputable def foB:GS:=(aO (jM (t2 (tZ false) (aj 3) (aj 1)) (eF 2 (cF (aa (fC (.str "fence")) (aa (aj 3) aq)))) cg) (eF 2 (cF (aa (fC (.str "row")) (aa (aj 3) aq)))))
noncomputable def Kf (t:List Rw)(ats:List Nat)(o:List (Bool×Nat))(a3:Option L):bw:=[some (.val (dU t) false),some (.val (.lst (ats.map aM)) false),some (.own (o.map oD) true none),a3,none,none,none,none]
theorem Kg (t:List Rw)(ats:List Nat):∀(n i:Nat) (o:List (Bool×Nat)) (a3:Option L),o.length+2*n<1000->
 ∃IW,cT (aF 3) foB true ((List.range' i n).map aM) (Kf t ats o a3)=some (.nx (Kf t ats (o++oY (λk=>decide (k∈ats)) i n) IW))
 |0,i,o,a3,_=>⟨a3,by simp[oY];rfl⟩
 |n+1,i,o,a3,h=>by
  have t1:t2 (tZ false) (aj 3) (aj 1) (vis (Kf t ats o (some (.val (aM i) true))))=some (decide (i∈ats)):=eU rfl rfl (zA i ats)
  have app:∀(o:List (Bool×Nat)) (w:Bool),o.length<1000->eF 2 (cF (aa (fC (.str (if w=true then "fence" else "row"))) (aa (aj 3) aq))) (Kf t ats o (some (.val (aM i) true)))=some (.nx (Kf t ats (o++[(w,i)]) (some (.val (aM i) true)))):=λo w ho=>by
   refine(ig (l:=o.map oD) (fr:=true) (tg:=none) (d:=oD (w,i)) rfl (by rw[List.length_map,sizeLine_eq];omega) (cN (bU rfl (aR rfl)) (by simp)) rfl).trans ?_
   simp[Kf]
  have e:foB (Kf t ats o (some (.val (aM i) true)))=some (.nx (Kf t ats (o++if decide (i∈ats)=true then[(true,i),(false,i)] else[(false,i)]) (some (.val (aM i) true)))):=by
   cases hm:decide (i∈ats)with
   |false=>
    rw[hm]at t1
    exact(aD (iu t1)).trans (app o false (by omega))
   |true=>
    rw[hm]at t1
    refine(aD ((jF t1).trans (app o true (by omega)))).trans ((app (o++[(true,i)]) false (by simp;omega)).trans ?_)
    simp
  obtain⟨b3,e2⟩:=Kg t ats n (i+1) (o++if decide (i∈ats)=true then[(true,i),(false,i)] else[(false,i)]) (some (.val (aM i) true)) (by split<;>simp<;>omega)
  refine⟨b3,?_⟩
  rw[List.range'_succ,List.map_cons,eY (T:=aF 3) (uo:=Kf t ats o (some (.val (aM i) true))) rfl e,e2,lK]
  split<;>simp
noncomputable def goF:FD:=(f2 aP (fZ (cI [none,some 2,some 3,some 6] (gw (fB kY (aa (aj 2) aq))) (aV 0) (t2 (dN false) (f2 aG (f2 aG (aj 1) (aj 0)) (fC (.int 1))) (f2 aP (f2 aP (aj 2) (fC (.int 1))) (f2 aG (aj 3) (fC (.int 2))))) (aj 0))) (gB (aa (fB kY (aa (aj 2) aq)) aq)))
noncomputable def goals (o:List (Bool×Nat))(j:Nat):List Nat:=((List.range' 0 o.length).filter λk=>(o[k - 0]?).any λx=>x.2==j)++[0+o.length]
theorem Cz (o:List (Bool×Nat))(i n:Nat)(b:Str)(ρ:aH)(ho:o.length<500)(h2:at? ρ 2=some (.lst (o.map oD)))(h3:at? ρ 3=some (aM i))(h6:at? ρ 6=some (Rw.skip b n).d):goF ρ=some (.lst ((goals o (i+1+n)).map aM)):=by
 have hin:inD [none,some 2,some 3,some 6] ρ=[none,some (.lst (o.map oD)),some (aM i),some (Rw.skip b n).d]:=by simp[inD,h2,h3,h6]
 have hlen:fB kY (aa (aj 2) aq) ρ=some (.int (o.length:Nat)):=jE (aR h2) (by rw[yZ,List.length_map])
 refine aB (x:= .lst (((List.range' 0 o.length).filter λk=>(o[k - 0]?).any λx=>x.2==i+1+n).map aM)) (y:= .lst [aM o.length]) (je (gP (nD (n:=o.length) hlen (by omega)) ?_ ?_)) ?_ ?_
 ·show(lN 0 o.length).length<=_
  rw[vC];simp;omega
 ·rw[hin]
  show fH _ _ _ _ (lN 0 o.length)=_
  rw[vC]
  refine gO _ (λk=>[some (aM k),some (.lst (o.map oD)),some (aM i),some (Rw.skip b n).d]) (List.range' 0 o.length) λk hk=>⟨rfl,?_,rfl⟩
  have hk':k<o.length:=by simp at hk;omega
  obtain⟨x,hx⟩:∃x,o[k]?=some x:=⟨_,List.getElem?_eq_getElem hk'⟩
  refine eU (x:=aM x.2) (y:=aM (i+1+n)) (aB (x:=oD x) (aB rfl rfl ?_) rfl rfl) (aB (aB rfl rfl rfl) (aB rfl rfl rfl) rfl) ?_
  ·show aG (.lst (o.map oD)) (.int (k:Nat))=_
   rw[sI,List.getElem?_map,hx]
   rfl
  ·simp only[Nat.sub_zero,hx,Option.any_some]
   unfold dN
   rw[show qP (aM x.2)=true from qF _,show qP (aM (i+1+n))=true from qF _,sS]
   rfl
 ·show(aa _ aq ρ).bind oK=_
  rw[aR hlen,Option.bind_some]
  simp[oK,sizeLine_eq,aM]
 ·have:=List.length_filter_le (λk=>(o[k - 0]?).any λx=>x.2==i+1+n) (List.range' 0 o.length)
  rw[List.length_range']at this
  rw[S9 (by rw[List.length_map,List.length_cons,List.length_nil];omega)]
  rw[goals,List.map_append,Nat.zero_add]
  rfl
end K
noncomputable def within (t:List Rw):Prop:=∀i b n,t[i]?=some (.skip b n)->i+1+n<=t.length
theorem a0J (l:List D):aG (.lst l) (.int 0)=l[0]?:=sI l 0
theorem a0K (a b:Nat):kE (.int (a:Nat)) (.int (b:Nat))=some (.int ((a:Int) - (b:Int))):=rfl
theorem a0L (a b c:Nat)(h:(a:Int) - b - 1=c):kE (.int ((a:Int) - (b:Int))) (.int 1)=some (.int (c:Nat)):=by
 show some (D.int ((a:Int) - b - 1))=_
 rw[h]
namespace K
noncomputable def Vj:GS:=(aO (bF 6 (Ka (t2 (dN false) (aj 5) (fC (.str "fence"))) (cF (aa (fC (.str "fence")) aq)) (f2 aG (aj 0) (aj 3)))) (aO (jM (t2 (dN false) (f2 aG (aj 6) (fC (.int 0))) (fC (.str "skip"))) (aO (bF 7 goF) (bF 6 (cF (aa (fC (.str "skip")) (aa (f2 aG (aj 6) (fC (.int 1))) (aa (f2 kE (f2 kE (f2 aG (aj 7) (fC (.int 0))) (vU "list" mG (aj 2) (aa (cF (aa (fC (.str "row")) (aa (aj 3) aq))) aq))) (fC (.int 1))) aq)))))) cg) (eF 4 (aj 6))))
noncomputable def vV (t:List Rw)(ats:List Nat)(o:List (Bool×Nat))(found:List Rw)(a3 a5 a6 a7:Option L):bw:=[some (.val (dU t) false),some (.val (.lst (ats.map aM)) false),some (.val (.lst (o.map oD)) true),a3,some (.own (found.map Rw.d) true none),a5,a6,a7]
theorem eqS {a b:Str}(ha:PyData.strOk a=true)(hb:PyData.strOk b=true):dN false (.str a) (.str b)=some (.bl (a==b)):=by
 unfold dN
 rw[o7 _ ha,o7 _ hb,eq_str]
 rfl
theorem Jc (t:List Rw)(ats:List Nat)(o:List (Bool×Nat))(found:List Rw)(x:Rw)(a3 a5 a7:Option L)(hf:found.length<1000):eF 4 (aj 6) (vV t ats o found a3 a5 (some (.val x.d true)) a7)=some (.nx (vV t ats o (found++[x]) a3 a5 (some (.val x.d true)) a7)):=by
 rw[ig (l:=found.map Rw.d) (fr:=true) (tg:=none) (d:=x.d) rfl (by rw[List.length_map,sizeLine_eq];omega) rfl (cR x)]
 simp[vV]
theorem PN (t:List Rw)(ats:List Nat)(o:List (Bool×Nat))(found:List Rw)(i:Nat)(a6 a7:Option L)(hf:found.length<1000):
 ∃J0 J1,Vj (vV t ats o found (some (.val (aM i) true)) (some (.val (.str "fence") true)) a6 a7)=some (.nx (vV t ats o (found++[.fence]) (some (.val (aM i) true)) (some (.val (.str "fence") true)) J0 J1)):=by
 refine⟨some (.val Rw.fence.d true),a7,?_⟩
 have e1:bF 6 (Ka (t2 (dN false) (aj 5) (fC (.str "fence"))) (cF (aa (fC (.str "fence")) aq)) (f2 aG (aj 0) (aj 3))) (vV t ats o found (some (.val (aM i) true)) (some (.val (.str "fence") true)) a6 a7)=some (.nx (vV t ats o found (some (.val (aM i) true)) (some (.val (.str "fence") true)) (some (.val Rw.fence.d true)) a7)):=
  bB (i:=6) (d:=Rw.fence.d) (wu (x:=true) (eU rfl rfl ((eqS rJ rJ).trans (by simp))) (λ_=>cN (aR rfl) (by simp)) (λh=>by cases h)) rfl
 exact(aD e1).trans ((aD (iu (eU (aB rfl rfl (o9 .fence)) rfl (by rw[ux .fence false _ t6,nJ];rfl)))).trans (Jc t ats o found .fence _ _ a7 hf))
theorem PX (t:List Rw)(ats:List Nat)(found:List Rw)(r:Rw)(i:Nat)(a6 a7:Option L)(ht:t.length<=100)(hw:within t)(hi:t[i]?=some r)(hf:found.length<1000):
 ∃J0 J1,Vj (vV t ats (oY (λk=>decide (k∈ats)) 0 t.length) found (some (.val (aM i) true)) (some (.val (.str "row") true)) a6 a7)=some (.nx (vV t ats (oY (λk=>decide (k∈ats)) 0 t.length) (found++[mZ (λk=>decide (k∈ats)) i r]) (some (.val (aM i) true)) (some (.val (.str "row") true)) J0 J1)):=by
 have hlt:i<t.length:=(List.getElem?_eq_some_iff.mp hi).1
 have ho:(oY (λk=>decide (k∈ats)) 0 t.length).length<500:=by
  have:=Oz (λk=>decide (k∈ats)) 0 t.length
  rw[HH];omega
 generalize ho':oY (λk=>decide (k∈ats)) 0 t.length=o at ho
 have e1:bF 6 (Ka (t2 (dN false) (aj 5) (fC (.str "fence"))) (cF (aa (fC (.str "fence")) aq)) (f2 aG (aj 0) (aj 3))) (vV t ats o found (some (.val (aM i) true)) (some (.val (.str "row") true)) a6 a7)=some (.nx (vV t ats o found (some (.val (aM i) true)) (some (.val (.str "row") true)) (some (.val r.d true)) a7)):=
  bB (i:=6) (d:=r.d) (wu (x:=false) (eU rfl rfl ((eqS Qv rJ).trans (by simp[vo]))) (λh=>by cases h) (λ_=>aB rfl rfl (Ez hi))) (cR r)
 have t1:t2 (dN false) (f2 aG (aj 6) (fC (.int 0))) (fC (.str "skip")) (vis (vV t ats o found (some (.val (aM i) true)) (some (.val (.str "row") true)) (some (.val r.d true)) a7))=some r.jz:=eU (aB rfl rfl (o9 r)) rfl (by rw[ux r false _ t6,nJ];rfl)
 cases hs:r.jz with
 |false=>
  rw[hs]at t1
  rw[Kc hs]
  exact⟨_,_,(aD e1).trans ((aD (iu t1)).trans (Jc t ats o found r _ _ a7 hf))⟩
 |true=>
  rw[hs]at t1
  cases r with
  |skip b n=>
   have hb:=hw i b n hi
   have g1:bF 7 goF (vV t ats o found (some (.val (aM i) true)) (some (.val (.str "row") true)) (some (.val (Rw.skip b n).d true)) a7)=some (.nx (vV t ats o found (some (.val (aM i) true)) (some (.val (.str "row") true)) (some (.val (Rw.skip b n).d true)) (some (.val (.lst ((goals o (i+1+n)).map aM)) true)))):=
    sV (Cz o i n b _ ho rfl rfl rfl) (Cz o i n b _ ho rfl rfl rfl)
   have hg:(goals o (i+1+n))[0]?=some (i+1+n+cnt (λk=>decide (k∈ats)) 0 (i+1+n)):=by
    refine(head_filter (λx:Bool×Nat=>x.2==i+1+n) o 0).trans ?_
    rw[<-ho',HJ _ _ 0 (i+1+n) (by omega) (by omega)]
    simp
   have gh:aG (.lst ((goals o (i+1+n)).map aM)) (.int 0)=some (.int ((i+1+n+cnt (λk=>decide (k∈ats)) 0 (i+1+n):Nat):Int)):=by
    rw[a0J,List.getElem?_map,hg]
    rfl
   have hx:o.findIdx? (λy=>y==(false,i))=some (i+cnt (λk=>decide (k∈ats)) 0 i+if decide (i∈ats)=true then 1 else 0):=by
    rw[<-ho',KD _ _ 0 i (by omega) (by omega)]
    simp
   have ec:cnt (λk=>decide (k∈ats)) 0 (i+1+n)=cnt (λk=>decide (k∈ats)) 0 i+((if decide (i∈ats)=true then 1 else 0)+cnt (λk=>decide (k∈ats)) (i+1) n):=by
    rw[show i+1+n=i+(n+1) by omega,Sh,Nat.zero_add,nT]
   have g2:bF 6 (cF (aa (fC (.str "skip")) (aa (f2 aG (aj 6) (fC (.int 1))) (aa (f2 kE (f2 kE (f2 aG (aj 7) (fC (.int 0))) (vU "list" mG (aj 2) (aa (cF (aa (fC (.str "row")) (aa (aj 3) aq))) aq))) (fC (.int 1))) aq)))) (vV t ats o found (some (.val (aM i) true)) (some (.val (.str "row") true)) (some (.val (Rw.skip b n).d true)) (some (.val (.lst ((goals o (i+1+n)).map aM)) true)))=some (.nx (vV t ats o found (some (.val (aM i) true)) (some (.val (.str "row") true)) (some (.val (mZ (λk=>decide (k∈ats)) i (.skip b n)).d true)) (some (.val (.lst ((goals o (i+1+n)).map aM)) true)))):=by
    refine bB (i:=6) (cN (bU rfl (bU rfl (aR (x:= .int ((n+cnt (λk=>decide (k∈ats)) (i+1) n:Nat):Int)) (aB (aB rfl rfl gh|>λz=>aB z (uy rfl rfl (aR (cN (bU rfl (aR rfl)) (by simp))) (Z5 hx)) (a0K _ _)) rfl (a0L _ _ _ (by rw[ec];omega)))))) (by simp)) rfl
   exact⟨_,_,(aD e1).trans ((aD ((jF t1).trans ((aD g1).trans g2))).trans (Jc t ats o found (mZ (λk=>decide (k∈ats)) i (.skip b n)) _ _ _ hf))⟩
  |_=>cases hs
theorem Ec (t:List Rw)(ats:List Nat)(ht:t.length<=100)(hw:within t):∀(l:List Rw) (i:Nat) (found:List Rw) (a3 a5 a6 a7:Option L),t.drop i=l->found.length+2*l.length<1000->
 ∃IW Om J0 J1,cT (dF 2 (aZ (aF 5) (aZ (aF 3) dM))) Vj true ((oY (λk=>decide (k∈ats)) i l.length).map oD) (vV t ats (oY (λk=>decide (k∈ats)) 0 t.length) found a3 a5 a6 a7)=some (.nx (vV t ats (oY (λk=>decide (k∈ats)) 0 t.length) (found++oA (λk=>decide (k∈ats)) i l) IW Om J0 J1))
 |[],i,found,a3,a5,a6,a7,_,_=>⟨a3,a5,a6,a7,by simp[oA,oY];rfl⟩
 |r::l,i,found,a3,a5,a6,a7,h,hn=>by
  have hd:t.drop (i+1)=l:=by rw[<-List.drop_drop,h];rfl
  have hg:t[i]?=some r:=by
   have:=congrArg (λx=>x[0]?) h
   simpa using this
  rw[List.length_cons]at hn
  rw[List.length_cons,lK,lH]
  generalize hO:oY (λk=>decide (k∈ats)) 0 t.length=o
  cases hm:decide (i∈ats)with
  |false=>
   obtain⟨J0,J1,e⟩:=PX t ats found r i a6 a7 ht hw hg (by omega)
   obtain⟨b3,b5,b6,b7,e2⟩:=Ec t ats ht hw l (i+1) (found++[mZ (λk=>decide (k∈ats)) i r]) (some (.val (aM i) true)) (some (.val (.str "row") true)) J0 J1 hd (by simp;omega)
   rw[hO]at e e2
   refine⟨b3,b5,b6,b7,?_⟩
   rw[if_neg (by decide),if_neg (by decide),List.map_cons,eY (T:=dF 2 (aZ (aF 5) (aZ (aF 3) dM))) (uo:=vV t ats o found (some (.val (aM i) true)) (some (.val (.str "row") true)) a6 a7) rfl e,e2]
   simp
  |true=>
   obtain⟨c6,c7,e0⟩:=PN t ats o found i a6 a7 (by omega)
   obtain⟨J0,J1,e⟩:=PX t ats (found++[.fence]) r i c6 c7 ht hw hg (by simp;omega)
   obtain⟨b3,b5,b6,b7,e2⟩:=Ec t ats ht hw l (i+1) (found++[.fence]++[mZ (λk=>decide (k∈ats)) i r]) (some (.val (aM i) true)) (some (.val (.str "row") true)) J0 J1 hd (by simp;omega)
   rw[hO]at e e2
   refine⟨b3,b5,b6,b7,?_⟩
   rw[if_pos rfl,if_pos rfl,List.map_cons,List.map_cons,eY (T:=dF 2 (aZ (aF 5) (aZ (aF 3) dM))) (uo:=vV t ats o found (some (.val (aM i) true)) (some (.val (.str "fence") true)) a6 a7) rfl e0,eY (T:=dF 2 (aZ (aF 5) (aZ (aF 3) dM))) (uo:=vV t ats o (found++[.fence]) (some (.val (aM i) true)) (some (.val (.str "row") true)) c6 c7) rfl e,e2]
   simp
theorem a0v (t:List Rw)(ats:List Nat)(o:List (Bool×Nat))(R:List Rw)(ht:t.length<=100)(a3 b3 a5 a6 a7:Option L)(e1:cT (aF 3) foB true ((List.range' 0 t.length).map aM) (Kf t ats [] none)=some (.nx (Kf t ats o a3)))
 (e2:cT (dF 2 (aZ (aF 5) (aZ (aF 3) dM))) Vj true (o.map oD) (vV t ats o [] a3 none none none)=some (.nx (vV t ats o R b3 a5 a6 a7))):
 mR (aW 8 [dU t,.lst (ats.map aM)])=some (.rt (dU R) .new (vV t ats o R b3 a5 a6 a7)):=by
 have f1:f9 (gw (fB kY (aa (aj 0) aq))) (aF 3) foB (Kf t ats [] none)=some (.nx (Kf t ats o a3)):=
  (rE (n:=t.length) (jE (aR rfl) ((Ku _).trans (by rw[List.length_map]))) (by omega)).trans e1
 have f2:tO 2 (f9 (fj (aj 2)) (dF 2 (aZ (aF 5) (aZ (aF 3) dM))) Vj) [some (.val (dU t) false),some (.val (.lst (ats.map aM)) false),some (.own (o.map oD) true none),a3,some (.own [] true none),none,none,none]=some (.nx (vV t ats o R b3 a5 a6 a7)):=by
  show f9 (fj (aj 2)) (dF 2 (aZ (aF 5) (aZ (aF 3) dM))) Vj (vV t ats o [] a3 none none none)=_
  rw[jL (r:=(o.map oD,[.lst (o.map oD)])) rfl rfl]
  exact e2
 have f3:(aO (tO 2 (f9 (fj (aj 2)) (dF 2 (aZ (aF 5) (aZ (aF 3) dM))) Vj)) (fc (fB (lC cu eO) (aa (aj 4) aq)))) [some (.val (dU t) false),some (.val (.lst (ats.map aM)) false),some (.own (o.map oD) true none),a3,some (.own [] true none),none,none,none]=some (.rt (dU R) .new (vV t ats o R b3 a5 a6 a7)):=
  (aD f2).trans (cV (um (.inl rfl)) (nW _))
 have f4:(aO (gR 4 (oE aq)) (aO (tO 2 (f9 (fj (aj 2)) (dF 2 (aZ (aF 5) (aZ (aF 3) dM))) Vj)) (fc (fB (lC cu eO) (aa (aj 4) aq))))) (Kf t ats o a3)=some (.rt (dU R) .new (vV t ats o R b3 a5 a6 a7)):=
  (aD (cB (i:=4) (l:=[]) rfl rfl)).trans f3
 exact(aD (cB (i:=2) (l:=[]) rfl rfl)).trans ((aD f1).trans f4)
theorem Bg (t:List Rw)(ats:List Nat)(ht:t.length<=100)(hw:within t):dG [dU t,.lst (ats.map aM)]=some (dU (oA (λk=>decide (k∈ats)) 0 t),.new):=by
 obtain⟨a3,e1⟩:=Kg t ats t.length 0 [] none (by simp;omega)
 obtain⟨b3,b5,b6,b7,e2⟩:=Ec t ats ht hw t 0 [] a3 none none none rfl (by simp;omega)
 exact mQ (a0v t ats _ _ ht a3 b3 b5 b6 b7 e1 e2) rfl
end K
theorem jP (r:Rw)(l:List Rw):dI (r::l)=if bA r=true then dI l else lD r l::dI l:=rfl
theorem G4:∀l:List Rw,(dI l).length=nf l
 |[]=>rfl
 |r::l=>by
  rw[jP,sZ,<-G4 l]
  cases bA r<;>rfl
theorem Kw (l:List Rw)(n:Nat):nf (l.take n)<=nf l:=by
 have h:=List.take_append_drop n l
 have:nf l=nf (l.take n)+nf (l.drop n):=by
  unfold nf
  rw[<-List.countP_append,h]
 omega
theorem Ze (l:List Rw):nf l<=l.length:=List.countP_le_length
theorem sy {r:Rw}{l:List Rw}(h:within (r::l)):within l:=λi b n e=>by
 have:=h (i+1) b n (by simpa using e)
 rw[List.length_cons]at this
 omega
theorem Iv {r:Rw}{l:List Rw}(h0:∀b n,r= .skip b n->n<=l.length)(h:within l):within (r::l):=λi b n e=>by
 rw[List.length_cons]
 cases i with
 |zero=>
  have:=h0 b n (by simpa using e)
  omega
 |succ i=>
  have:=h i b n (by simpa using e)
  omega
theorem kW:∀l:List Rw,within (dI l)
 |[]=>λi b n e=>by simp[dI]at e
 |r::l=>by
  rw[jP]
  cases hf:bA r with
  |true=>exact kW l
  |false=>
   refine Iv (λb n e=>?_) (kW l)
   rw[G4]
   cases r<;>simp only[lD]at e<;>cases e
   exact Kw l _
theorem Bp (r:Rw)(l:List Rw):bA (lD r l)=bA r:=by cases r<;>rfl
theorem v9 (S:Nat->Bool)(i:Nat)(r:Rw):bA (mZ S i r)=bA r:=by cases r<;>rfl
theorem uU:∀(l:List Rw),∀r∈dI l,bA r=false
 |[],r,h=>by cases h
 |x::l,r,h=>by
  rw[jP]at h
  cases hf:bA x with
  |true=>
   rw[hf]at h
   exact uU l r h
  |false=>
   rw[hf]at h
   rcases List.mem_cons.mp h with rfl|h
   ·rw[Bp];exact hf
   ·exact uU l r h
theorem WY {l:List Rw}(h:∀r∈l,bA r=false):nf l=l.length:=by
 unfold nf
 rw[List.countP_eq_length]
 intro r hr
 rw[h r hr]
 rfl
theorem G3:∀{l:List Rw},(∀r∈l,bA r=false)->within l->dI l=l
 |[],_,_=>rfl
 |r::l,h,w=>by
  have ih:=G3 (λx hx=>h x (List.mem_cons_of_mem _ hx)) (sy w)
  rw[jP,h r List.mem_cons_self,if_neg (by decide),ih]
  congr 1
  cases r<;>simp only[lD]
  rename_i b n
  have h0:=w 0 b n rfl
  rw[List.length_cons]at h0
  rw[WY λx hx=>h x (List.mem_cons_of_mem _ (List.mem_of_mem_take hx)),List.length_take]
  congr 1
  omega
theorem Kd (S:Nat->Bool):∀(m:Nat) (l:List Rw) (j:Nat),m<=l.length->(∀r∈l,bA r=false)->nf ((oA S j l).take (m+cnt S j m))=m
 |0,l,j,_,_=>by simp[cnt,nf]
 |m+1,[],j,h,_=>by simp at h
 |m+1,x::l,j,h,hf=>by
  have ih:=Kd S m l (j+1) (by simpa using h) λr hr=>hf r (List.mem_cons_of_mem _ hr)
  have hx:bA (mZ S j x)=false:=by rw[v9];exact hf x List.mem_cons_self
  rw[lH,nT]
  cases S j with
  |true=>
   rw[if_pos rfl,if_pos rfl,show m+1+(1+cnt S (j+1) m)=(m+cnt S (j+1) m)+1+1 by omega,List.take_succ_cons,List.take_succ_cons,sZ,sZ,ih,hx]
   rfl
  |false=>
   rw[if_neg (by decide),if_neg (by decide),show m+1+(0+cnt S (j+1) m)=(m+cnt S (j+1) m)+1 by omega,List.take_succ_cons,sZ,ih,hx]
   rfl
theorem G6 (S:Nat->Bool):∀(l:List Rw) (i:Nat),(∀r∈l,bA r=false)->within l->dI (oA S i l)=l
 |[],_,_,_=>rfl
 |r::l,i,h,w=>by
  have hl:=λx hx=>h x (List.mem_cons_of_mem r hx)
  have ih:=G6 S l (i+1) hl (sy w)
  have e:dI (mZ S i r::oA S (i+1) l)=r::l:=by
   rw[jP,v9,h r List.mem_cons_self,if_neg (by decide),ih]
   congr 1
   cases r<;>simp only[mZ,lD]
   rename_i b n
   have h0:=w 0 b n rfl
   rw[List.length_cons]at h0
   rw[Kd S n l (i+1) (by omega) hl]
  rw[lH]
  cases S i with
  |true=>rw[if_pos rfl,jP,show bA .fence=true from rfl,if_pos rfl,e]
  |false=>rw[if_neg (by decide),e]
theorem Hy {b:Str}{n m:Nat}(h:(Rw.skip b n).mq=true)(hm:m<=100000):(Rw.skip b m).mq=true:=by
 simp only[Rw.mq,Rw.parts,List.all_cons,List.all_nil,Bool.and_true,Bool.and_eq_true,dB,decide_eq_true_eq]at h ⊢
 exact⟨h.1,by omega,by omega⟩
theorem G5:∀(l:List Rw),(∀r∈l,r.mq=true)->l.length<=100000->∀r∈dI l,r.mq=true
 |[],_,_,r,h=>by cases h
 |x::l,hx,hl,r,h=>by
  rw[List.length_cons]at hl
  have ih:=G5 l (λr hr=>hx r (List.mem_cons_of_mem _ hr)) (by omega)
  rw[jP]at h
  split at h
  ·exact ih r h
  ·rcases List.mem_cons.mp h with rfl|h
   ·have h0:=hx x List.mem_cons_self
    cases x<;>simp only[lD]<;>try exact h0
    refine Hy h0 ?_
    have:=Kw l ‹_›
    have:=Ze l
    omega
   ·exact ih r h
theorem Ke (S:Nat->Bool):∀(l:List Rw) (i:Nat),(∀r∈l,r.mq=true)->within l->l.length<=1000->∀r∈oA S i l,r.mq=true
 |[],_,_,_,_,r,h=>by cases h
 |x::l,i,hx,w,hl,r,h=>by
  have ih:=Ke S l (i+1) (λr hr=>hx r (List.mem_cons_of_mem _ hr)) (sy w) (by rw[List.length_cons]at hl;omega)
  have h1:(mZ S i x).mq=true:=by
   have h0:=hx x List.mem_cons_self
   cases x<;>simp only[mZ]<;>try exact h0
   rename_i b n
   have w0:=w 0 b n rfl
   have:=Oz S (i+1) n
   exact Hy h0 (by omega)
  rw[lH]at h
  split at h
  ·rcases List.mem_cons.mp h with rfl|h
   ·rfl
   ·rcases List.mem_cons.mp h with rfl|h
    ·exact h1
    ·exact ih r h
  ·rcases List.mem_cons.mp h with rfl|h
   ·exact h1
   ·exact ih r h
structure PB (m:Nat)(p:Pl):Prop where
 nc:p.cells.length<=3
 nt:p.jA.length<=3
 nr:∀t∈p.jA,t.length<=m
 row:∀t∈p.jA,∀r∈t,r.mq=true
 X8:∀c∈p.cells,RG c.1=true/\ -100000<=c.2/\c.2<=100000
noncomputable def bZ (p:Pl):Pl:=⟨p.cells,p.jA.map dI⟩
theorem PB.ps {m:Nat}{p:Pl}(h:PB m p)(hm:m<=90):PS0 p:=⟨h.nc,h.nt,λt ht=>Nat.le_trans (h.nr t ht) hm⟩
theorem PB.bare {m:Nat}{p:Pl}(h:PB m p)(hm:m<=90):PB m (bZ p):=by
 refine⟨h.nc,by simpa[bZ]using h.nt,λt ht=>?_,λt ht=>?_,h.X8⟩
 ·obtain⟨t',ht',rfl⟩:=List.mem_map.mp ht
  exact Nat.le_trans (K.BV t') (h.nr t' ht')
 ·obtain⟨t',ht',rfl⟩:=List.mem_map.mp ht
  have:=h.nr t' ht'
  exact G5 t' (h.row t' ht') (by omega)
theorem qZ (p:Pl):bZ (bZ p)=bZ p:=by
 unfold bZ
 simp only[List.map_map]
 congr 1
 apply List.map_congr_left
 intro t _
 exact G3 (uU t) (kW t)
noncomputable def lW (x:Nat×Nat):D:= .tup [aM x.1,aM x.2]
noncomputable def pG (cH:List (Nat×Nat))(i:Nat):List Nat:=(cH.filter λx=>x.1==i).map (·.2)
noncomputable def Ol (cH:List (Nat×Nat))(i:Nat):Nat->Bool:=λk=>decide (k∈pG cH i)
noncomputable def mH (cH:List (Nat×Nat)):Nat->List (List Rw)->List (List Rw)
 |_,[]=>[]
 |i,t::ts=>oA (Ol cH i) 0 t::mH cH (i+1) ts
noncomputable def oW (p:Pl)(cH:List (Nat×Nat)):Pl:=⟨p.cells,mH cH 0 p.jA⟩
theorem Gs (cH:List (Nat×Nat)):∀(ts:List (List Rw)) (i:Nat),(mH cH i ts).length=ts.length
 |[],_=>rfl
 |t::ts,i=>by simp only[mH,List.length_cons,Gs cH ts (i+1)]
theorem zK (cH:List (Nat×Nat)):∀(ts:List (List Rw)) (i:Nat) (u:List Rw),u∈mH cH i ts->∃t∈ts,∃j,u=oA (Ol cH j) 0 t
 |[],_,u,h=>by cases h
 |t::ts,i,u,h=>by
  rcases List.mem_cons.mp h with rfl|h
  ·exact⟨t,List.mem_cons_self,i,rfl⟩
  ·obtain⟨t',a,j,b⟩:=zK cH ts (i+1) u h
   exact⟨t',List.mem_cons_of_mem _ a,j,b⟩
theorem PB.fen {m:Nat}{p:Pl}{cH:List (Nat×Nat)}(h:PB m p)(hm:m<=45)(hw:∀t∈p.jA,within t):PB (2*m) (oW p cH):=by
 refine⟨h.nc,by simpa[oW,Gs]using h.nt,λu hu=>?_,λu hu=>?_,h.X8⟩
 ·obtain⟨t,ht,j,rfl⟩:=zK cH _ _ u hu
  have:=h.nr t ht
  have:=Gr (Ol cH j) t 0
  omega
 ·obtain⟨t,ht,j,rfl⟩:=zK cH _ _ u hu
  have:=h.nr t ht
  exact Ke _ t 0 (h.row t ht) (hw t ht) (by omega)
theorem nC (p:Pl):∀t∈(bZ p).jA,within t:=λt ht=>by
 obtain⟨t',_,rfl⟩:=List.mem_map.mp ht
 exact kW t'
theorem BX (cH:List (Nat×Nat)):∀(ts:List (List Rw)) (i:Nat),(∀t∈ts,(∀r∈t,bA r=false)/\within t)->(mH cH i ts).map dI=ts
 |[],_,_=>rfl
 |t::ts,i,h=>by
  have h0:=h t List.mem_cons_self
  simp only[mH,List.map_cons,G6 _ t 0 h0.1 h0.2,BX cH ts (i+1) λx hx=>h x (List.mem_cons_of_mem _ hx)]
theorem J3 (p:Pl)(cH:List (Nat×Nat)):bZ (oW (bZ p) cH)=bZ p:=by
 unfold bZ oW
 simp only
 congr 1
 refine BX cH _ 0 λt ht=>?_
 obtain⟨t',_,rfl⟩:=List.mem_map.mp ht
 exact⟨uU t',kW t'⟩
theorem Mf {cH Le:List (Nat×Nat)}(h:∀x,x∈cH↔x∈Le)(i:Nat):Ol cH i=Ol Le i:=by
 funext k
 unfold Ol
 apply decide_eq_decide.mpr
 unfold pG
 simp only[List.mem_map,List.mem_filter,h]
theorem zJ {cH Le:List (Nat×Nat)}(h:∀x,x∈cH↔x∈Le):∀(ts:List (List Rw)) (i:Nat),mH cH i ts=mH Le i ts
 |[],_=>rfl
 |t::ts,i=>by rw[mH,mH,Mf h,zJ h ts (i+1)]
theorem J8 {p:Pl}{cH Le:List (Nat×Nat)}(h:∀x,x∈cH↔x∈Le):oW p cH=oW p Le:=by
 unfold oW
 rw[zJ h]
theorem Cp:∀(l:List Rw) (i:Nat),oA (λ_=>false) i l=l
 |[],_=>rfl
 |r::l,i=>by
  rw[lH,if_neg (by decide),Cp l (i+1)]
  congr 1
  cases r<;>simp[mZ,cnt]
theorem Gu:∀(ts:List (List Rw)) (i:Nat),mH [] i ts=ts
 |[],_=>rfl
 |t::ts,i=>by
  rw[mH,Gu ts (i+1),show Ol [] i=λ_=>false from funext λk=>by simp[Ol,pG],Cp]
theorem PJ (p:Pl):oW p []=p:=by
 unfold oW
 rw[Gu]
namespace K
theorem V6 (p:Pl){m:Nat}(hp:PB m p)(hm:m<=90):jV [p.d]=some ((bZ p).d,.new):=by
 have n2:=hp.nt
 have e2:fH (aV 0) tT (aC gY [] (aa (aj 0) aq)) [none] (p.jA.map dU)=some ((p.jA.map dI).map dU):=by
  rw[List.map_map]
  exact comp_map (g:=λt=>dU (dI t)) (λt=>[some (dU t)]) p.jA λt ht=>⟨by rfl,rfl,bz (aR rfl) (FJ t (hp.row t ht) (by have:=hp.nr t ht;omega)) rfl⟩
 have e1:uO (aW 1 [p.d])=some (.rt (bZ p).d .new (aW 1 [p.d])):=by
  refine cV (cN (bU (x:=p.eV) (aB rfl rfl rfl) (aR (x:= .tup ((p.jA.map dI).map dU)) (um (.inl (je (gP (r:=(p.jA.map dU,[p.nA])) (v8 (aB rfl rfl rfl)) ?_ e2)))))) (by simp)) (n6 (bZ p))
  rw[List.length_map];omega
 exact mQ e1 rfl
theorem Rf (C:Addr)(p:Pl){m:Nat}(hp:PB m p)(hm:m<=90):gq C bC [p.pr C]=some ((bZ p).pr C,.new):=by
 have n2:=hp.nt
 have e2:fH (aV 0) tT (aC jW [] (aa (aj 0) aq)) [none] (p.jA.map dU)=some ((p.jA.map dI).map (Ax true)):=by
  rw[List.map_map]
  exact comp_map (g:=λt=>Ax true (dI t)) (λt=>[some (dU t)]) p.jA λt ht=>⟨by rfl,rfl,bz (aR rfl) (Io t (hp.row t ht) (by have:=hp.nr t ht;omega)) rfl⟩
 have e3:tM C "threads" (aj 0) [some (p.pr C)]=some p.nA:=ql rfl (qy p)
 have e4:tM C "cells" (aj 0) [some (p.pr C)]=some p.eV:=ql rfl (Ah p)
 have e1:JX C bC (aW 1 [p.pr C])=some (.rt ((bZ p).pr C) .new (aW 1 [p.pr C])):=by
  refine zM (bz (l:=[.tup [(bZ p).eV,sq true ((bZ p).jA.map (Ax true))]]) (aR (cN (bU e4 (aR (je (gP (r:=(p.jA.map dU,[p.nA])) (v8 e3) ?_ e2)))) (by simp))) (qH C (bZ p) ((hp.bare hm).ps hm) true true) rfl)
  rw[List.length_map];omega
 exact mQ e1 rfl
theorem Rc (cH:List (Nat×Nat))(i:Nat)(h:cH.length<=1000):kI [.lst (cH.map lW),aM i]=some (.lst ((pG cH i).map aM),.own):=by
 have e2:fH (aV 0) (t2 (dN false) (f2 aG (aj 0) (fC (.int 0))) (aj 1)) (f2 aG (aj 0) (fC (.int 1))) [none,some (aM i)] (cH.map lW)=some ((pG cH i).map aM):=by
  unfold pG
  rw[List.map_map]
  exact gO (T:=aV 0) (Tt:=t2 (dN false) (f2 aG (aj 0) (fC (.int 0))) (aj 1)) (Fe:=f2 aG (aj 0) (fC (.int 1))) (ρ:=[none,some (aM i)]) (f:=lW) (g:=λx=>aM x.2) (λx=>x.1==i) (λx=>[some (lW x),some (aM i)]) cH λx _=>⟨by rfl,eU (x:=aM x.1) (y:=aM i) (aB rfl rfl rfl) rfl (by
   unfold dN
   rw[show qP (aM x.1)=true from qF _,show qP (aM i)=true from qF _,sS]
   rfl),aB rfl rfl rfl⟩
 have e1:BL (aW 2 [.lst (cH.map lW),aM i])=some (.rt (.lst ((pG cH i).map aM)) .own (aW 2 [.lst (cH.map lW),aM i])):=by
  refine qp (gP (jj rfl) ?_ e2) (sU _)
  rw[List.length_map];omega
 exact mQ e1 rfl
theorem Mh (cH:List (Nat×Nat))(i:Nat):(pG cH i).length<=cH.length:=by
 unfold pG
 rw[List.length_map]
 exact List.length_filter_le _ _
theorem Iw {t:List Rw}(h:within t)(hl:t.length<=500):∀b n,.skip b n∈t->n<=500:=λb n hm=>by
 obtain⟨i,hi,e⟩:=List.getElem_of_mem hm
 have:=h i b n (by rw[List.getElem?_eq_getElem hi,e])
 omega
theorem Gv (cH:List (Nat×Nat))(hpl:cH.length<=1000):∀(ts:List (List Rw)) (i:Nat),(∀t∈ts,t.length<=90/\within t)->
 fH (jG 2 (cJ (aV 0) (cJ (aV 1) jX))) tT (aC fK [] (aa (aj 1) (aa (aC kI [] (aa (aj 2) (aa (aj 0) aq))) aq))) [none,none,some (.lst (cH.map lW))] (eE i (ts.map dU))=some ((mH cH i ts).map (Ax true))
 |[],_,_=>rfl
 |t::ts,i,h=>by
  have ih:=Gv cH hpl ts (i+1) λx hx=>h x (List.mem_cons_of_mem _ hx)
  obtain⟨h1,h2⟩:=h t List.mem_cons_self
  have e3:aC fK [] (aa (aj 1) (aa (aC kI [] (aa (aj 2) (aa (aj 0) aq))) aq)) [some (aM i),some (dU t),some (.lst (cH.map lW))]=some (.lst ((oA (Ol cH i) 0 t).map Rw.d)):=
   bz (bU rfl (aR (bz (bU rfl (aR rfl)) (Rc cH i hpl) rfl))) (BJ t (pG cH i) (by omega) (Iw h2 (by omega)) (by have:=Mh cH i;omega)) rfl
  show fH _ _ _ _ (.tup [aM i,dU t]::eE (i+1) (ts.map dU))=_
  simp only[fH]
  rw[show jG 2 (cJ (aV 0) (cJ (aV 1) jX)) (.tup [aM i,dU t]) [none,none,some (.lst (cH.map lW))]=some [some (aM i),some (dU t),some (.lst (cH.map lW))] from rfl,Option.bind_some,show tT [some (aM i),some (dU t),some (.lst (cH.map lW))]=some true from rfl,Option.bind_some,if_pos rfl,e3,ih]
  rfl
theorem Rg (C:Addr)(p:Pl)(cH:List (Nat×Nat))(hp:PB 90 p)(hb:PB 45 (bZ p))(hpl:cH.length<=1000):dX C bC [p.pr C,.lst (cH.map lW)]=some ((oW (bZ p) cH).pr C,.new):=by
 have n2:=hb.nt
 have e2:=Gv cH hpl (bZ p).jA 0 λt ht=>⟨by have:=hb.nr t ht;omega,nC p t ht⟩
 have hB:PS0 (oW (bZ p) cH):=(hb.fen (by omega) (nC p)).ps (by omega)
 let E1:bw:=[some (.val (p.pr C) false),some (.val (.lst (cH.map lW)) false),some (.val ((bZ p).pr C) true),none]
 let E2:bw:=[some (.val (p.pr C) false),some (.val (.lst (cH.map lW)) false),some (.val ((bZ p).pr C) true),some (.own ((mH cH 0 (bZ p).jA).map (Ax true)) true none)]
 have a1:ir 2 (aC (gq C bC) [] (aa (aj 0) aq)) (aW 4 [p.pr C,.lst (cH.map lW)])=some (.nx E1):=kZ (bz (aR rfl) (Rf C p hp (by omega)) rfl)
 have c1:∀ρ:aH,at? ρ 1=some (.lst (cH.map lW))->at? ρ 2=some ((bZ p).pr C)->cI [none,none,some 1] (jb (tM C "threads" (aj 2))) (jG 2 (cJ (aV 0) (cJ (aV 1) jX))) tT (aC fK [] (aa (aj 1) (aa (aC kI [] (aa (aj 2) (aa (aj 0) aq))) aq))) ρ=some ((mH cH 0 (bZ p).jA).map (Ax true)):=λρ h1 h2=>by
  refine gP (r:=(eE 0 ((bZ p).jA.map dU),[(bZ p).nA])) ?_ ?_ ?_
  ·show(tM C "threads" (aj 2) ρ).bind _=_
   rw[ql (a:=aj 2) h2 (qy (bZ p))]
   rfl
  ·rw[wj,List.length_map];omega
  ·rw[show inD [none,none,some 1] ρ=[none,none,some (.lst (cH.map lW))] by simp[inD,h1]]
   exact e2
 have a2:∃fr,gR 3 (cI [none,none,some 1] (jb (tM C "threads" (aj 2))) (jG 2 (cJ (aV 0) (cJ (aV 1) jX))) tT (aC fK [] (aa (aj 1) (aa (aC kI [] (aa (aj 2) (aa (aj 0) aq))) aq)))) E1=some (.nx [some (.val (p.pr C) false),some (.val (.lst (cH.map lW)) false),some (.val ((bZ p).pr C) true),some (.own ((mH cH 0 (bZ p).jA).map (Ax true)) fr none)]):=by
  cases hts:(bZ p).jA with
  |nil=>
   refine⟨true,?_⟩
   have:=cB (i:=3) (ρ:=E1) (c1 (vis E1) rfl rfl) (by rw[hts];rfl)
   rw[hts]at this
   exact this
  |cons t ts=>
   have z:cI [none,none,some 1] (jb (tM C "threads" (aj 2))) (jG 2 (cJ (aV 0) (cJ (aV 1) jX))) tT (aC fK [] (aa (aj 1) (aa (aC kI [] (aa (aj 2) (aa (aj 0) aq))) aq))) (vals true E1)=none:=by
    have w1:jb (tM C "threads" (aj 2)) (vals true E1)=some (.tup [aM 0,dU t]::eE 1 (ts.map dU),[(bZ p).nA]):=by
     show(tM C "threads" (aj 2) (vals true E1)).bind _=_
     rw[ql (a:=aj 2) (ρ:=vals true E1) rfl (qy (bZ p)),Pl.nA,hts]
     rfl
    unfold cI
    rw[w1,Option.bind_some]
    split
    ·rfl
    ·rfl
   obtain⟨fr,h⟩:=GC (i:=3) (ρ:=E1) (c1 (vis E1) rfl rfl) z (c1 (vals false E1) rfl rfl)
   rw[hts]at h
   exact⟨fr,h⟩
 obtain⟨fr,a2⟩:=a2
 have a3:wW (aC (dw C bC) [] (aa (cF (aa (tM C "cells" (aj 2)) (aa (aj 3) aq))) aq)) [some (.val (p.pr C) false),some (.val (.lst (cH.map lW)) false),some (.val ((bZ p).pr C) true),some (.own ((mH cH 0 (bZ p).jA).map (Ax true)) fr none)]=some (.rt ((oW (bZ p) cH).pr C) .new [some (.val (p.pr C) false),some (.val (.lst (cH.map lW)) false),some (.val ((bZ p).pr C) true),some (.own ((mH cH 0 (bZ p).jA).map (Ax true)) fr none)]):=
  zM (bz (l:=[.tup [(oW (bZ p) cH).eV,sq true ((oW (bZ p) cH).jA.map (Ax true))]]) (aR (cN (bU (ql rfl (Ah (bZ p))) (aR rfl)) (by simp))) (qH C (oW (bZ p) cH) hB true true) rfl)
 exact mQ (G:=BP C bC) (k:=4) ((aD a1).trans ((aD a2).trans a3)) rfl
end K
theorem CJ {α:Type}(f:α->D)(l:List α)(n:Nat)(x:α):GR (l.map f) n (f x)=(l.take n++x::l.drop n).map f:=by
 unfold GR
 rw[List.map_append,List.map_cons,List.map_take,List.map_drop]
theorem Km {i:Nat}{Fi Fv:FD}{ρ:bw}{l:List D}{fr:Bool}{tg:Option Nat}{d:D}{k:Nat}(hi:ρ[i]?=some (some (.own l fr tg)))(h1:Fi (vis ρ)=some (.int (k:Nat)))(h2:Fv (vis ρ)=some d)(hk:k<=l.length)(hl:l.length<1000)(hf:flat d=true):
 Gz i Fi Fv ρ=some (.nx (ρ.set i (some (.own (GR l k d) fr tg)))):=by
 unfold Gz
 rw[hi]
 simp only[h1,h2,Option.bind_some]
 rw[if_pos ⟨by omega,by omega,by rw[sizeLine_eq];omega,hf⟩]
 rfl
theorem T9 {i:Nat}{F:FD}{ρ:bw}{l m:List D}{fr:Bool}{tg:Option Nat}(hi:ρ[i]?=some (some (.own l fr tg)))(h:F (vis ρ)=some (.lst m))(hl:l.length+m.length<1000)(hf:flat.flats m=true):
 MK i F ρ=some (.nx (ρ.set i (some (.own (l++m) fr tg)))):=by
 unfold MK
 rw[hi]
 simp only[h,Option.bind_some]
 rw[if_pos ⟨by rw[sizeLine_eq];omega,hf⟩]
namespace K
noncomputable def lfB:GS:=(Ny (eF 2 (aC dG [] (aa (aj 4) (aa (fZ (cI [none,none,some 3] (fj (aj 1)) (jG 2 (cJ (aV 0) (cJ (aV 1) jX))) (t2 (dN false) (aj 0) (aj 2)) (aj 1))) aq)))) (Pg 2 (eF 2 (aC dG [] (aa (aj 4) (aa (fZ (cI [none,none,some 3] (fj (aj 1)) (jG 2 (cJ (aV 0) (cJ (aV 1) jX))) (t2 (dN false) (aj 0) (aj 2)) (aj 1))) aq))))))
noncomputable def Oh (p:Pl)(cH:List (Nat×Nat))(found:List (List Rw))(a3 a4:Option L):bw:=[some (.val p.d false),some (.val (.lst (cH.map lW)) false),some (.own (found.map dU) true none),a3,a4]
theorem Tq (p:Pl)(cH:List (Nat×Nat))(found:List (List Rw))(t:List Rw)(i:Nat)(hpl:cH.length<=1000)(ht:t.length<=90)(hw:within t)(hf:found.length<1000):
 lfB (Oh p cH found (some (.val (aM i) true)) (some (.val (dU t) true)))=some (.nx (Oh p cH (found++[oA (Ol cH i) 0 t]) (some (.val (aM i) true)) (some (.val (dU t) true)))):=by
 have e2:fH (jG 2 (cJ (aV 0) (cJ (aV 1) jX))) (t2 (dN false) (aj 0) (aj 2)) (aj 1) [none,none,some (aM i)] (cH.map lW)=some ((pG cH i).map aM):=by
  unfold pG
  rw[List.map_map]
  exact gO (T:=jG 2 (cJ (aV 0) (cJ (aV 1) jX))) (Tt:=t2 (dN false) (aj 0) (aj 2)) (Fe:=aj 1) (ρ:=[none,none,some (aM i)]) (f:=lW) (g:=λx=>aM x.2) (λx=>x.1==i) (λx=>[some (aM x.1),some (aM x.2),some (aM i)]) cH λx _=>⟨by rfl,eU (x:=aM x.1) (y:=aM i) rfl rfl (by
   unfold dN
   rw[show qP (aM x.1)=true from qF _,show qP (aM i)=true from qF _,sS]
   rfl),rfl⟩
 refine(HF (ig (l:=found.map dU) (fr:=true) (tg:=none) rfl (by rw[List.length_map,sizeLine_eq];omega) (bz (bU rfl (aR (je (gP (jj rfl) ?_ e2)))) (Bg t (pG cH i) (by omega) hw) rfl) (nW _))).trans ?_
 ·rw[List.length_map];omega
 ·simp[Oh]
  rfl
theorem Kv (p:Pl)(cH:List (Nat×Nat))(hpl:cH.length<=1000):∀(ts:List (List Rw)) (i:Nat) (found:List (List Rw)) (a3 a4:Option L),(∀t∈ts,t.length<=90/\within t)->found.length+ts.length<1000->
 ∃IW Mg,cT (dF 2 (aZ (aF 3) (aZ (aF 4) dM))) lfB true (eE i (ts.map dU)) (Oh p cH found a3 a4)=some (.nx (Oh p cH (found++mH cH i ts) IW Mg))
 |[],i,found,a3,a4,_,_=>⟨a3,a4,by simp[mH];rfl⟩
 |t::ts,i,found,a3,a4,h,hn=>by
  rw[List.length_cons]at hn
  obtain⟨h1,h2⟩:=h t List.mem_cons_self
  obtain⟨b3,b4,e2⟩:=Kv p cH hpl ts (i+1) (found++[oA (Ol cH i) 0 t]) (some (.val (aM i) true)) (some (.val (dU t) true)) (λx hx=>h x (List.mem_cons_of_mem _ hx)) (by simp;omega)
  refine⟨b3,b4,?_⟩
  show cT _ _ _ (.tup [aM i,dU t]::eE (i+1) (ts.map dU)) _=_
  rw[eY (T:=dF 2 (aZ (aF 3) (aZ (aF 4) dM))) (uo:=Oh p cH found (some (.val (aM i) true)) (some (.val (dU t) true))) rfl (Tq p cH found t i hpl h1 h2 (by omega)),e2]
  simp[mH]
theorem sO (F:FD)(l:List D)(ρ:aH)(h:F ρ=some (.tup l)):jb F ρ=some (eE 0 l,[.tup l]):=by
 show(F ρ).bind _=_
 rw[h]
 rfl
theorem Oa (p:Pl)(cH:List (Nat×Nat)){m:Nat}(hp:PB m p)(hm:m<=90)(hw:∀t∈p.jA,within t)(hpl:cH.length<=1000):iU [p.d,.lst (cH.map lW)]=some ((oW p cH).d,.new):=by
 have n2:=hp.nt
 obtain⟨a3,a4,e⟩:=Kv p cH hpl p.jA 0 [] none none (λt ht=>⟨by have:=hp.nr t ht;omega,hw t ht⟩) (by simp;omega)
 have hv:at? (vals true (Oh p cH [] none none)) 0=some p.d:=by simp[vals,pick,Oh,n6,at?]
 have f1:f9 (jb (f2 aG (aj 0) (fC (.int 1)))) (dF 2 (aZ (aF 3) (aZ (aF 4) dM))) lfB (Oh p cH [] none none)=some (.nx (Oh p cH (mH cH 0 p.jA) a3 a4)):=by
  rw[jL (r:=(eE 0 (p.jA.map dU),[p.nA])) (sO _ _ _ (aB rfl rfl rfl)) (sO _ _ _ (aB hv rfl rfl))]
  exact e
 have Wi:fc (cF (aa (f2 aG (aj 0) (fC (.int 0))) (aa (fB (lC cu eO) (aa (aj 2) aq)) aq))) (Oh p cH (mH cH 0 p.jA) a3 a4)=some (.rt (oW p cH).d .new (Oh p cH (mH cH 0 p.jA) a3 a4)):=
  cV (cN (bU (aB rfl rfl rfl) (aR (um (.inl rfl)))) (by simp)) (n6 (oW p cH))
 exact mQ (G:=qQ) (k:=5) ((aD (cB (i:=2) (l:=[]) rfl rfl)).trans ((aD f1).trans Wi)) rfl
noncomputable def apB:GS:=(MK 1 (fZ (cI [none,some 2] (sW (fC (.int 1)) (fB kY (aa (aj 3) aq))) (aV 0) tT (cF (aa (aj 1) (aa (aj 0) aq))))))
noncomputable def Oe (p:Pl)(found:List (Nat×Nat))(a2 a3:Option L):bw:=[some (.val p.d false),some (.own (found.map lW) true none),a2,a3]
theorem GK {a b:FD}{ρ:aH}{i j:Nat}(ha:a ρ=some (.int (i:Nat)))(hb:b ρ=some (.int (j:Nat)))(hi:i<1000)(hj:j<1000):sW a b ρ=some ((List.range' i (j - i)).map aM,[]):=by
 show(a ρ).bind (λx=>(b ρ).bind λy=>GZ x y)=_
 rw[ha,Option.bind_some,hb,Option.bind_some]
 simp only[GZ]
 rw[if_pos ⟨by omega,by omega,by omega,by omega⟩,<-QV,show(((j:Nat):Int) - (i:Int)).toNat=j - i by omega]
theorem K1 (p:Pl):∀(ts:List (List Rw)) (i:Nat) (found:List (Nat×Nat)) (a2 a3:Option L),(∀t∈ts,t.length<=90)->found.length+100*ts.length<900->
 ∃found' a2' IW,found'.length<=found.length+100*ts.length/\cT (dF 2 (aZ (aF 2) (aZ (aF 3) dM))) apB true (eE i (ts.map dU)) (Oe p found a2 a3)=some (.nx (Oe p found' a2' IW))
 |[],i,found,a2,a3,_,_=>⟨found,a2,a3,by simp,rfl⟩
 |t::ts,i,found,a2,a3,h,hn=>by
  rw[List.length_cons]at hn
  have ht:=h t List.mem_cons_self
  have e:apB (Oe p found (some (.val (aM i) true)) (some (.val (dU t) true)))=some (.nx (Oe p (found++(List.range' 1 (t.length - 1)).map λk=>(i,k)) (some (.val (aM i) true)) (some (.val (dU t) true)))):=by
   have e2:fH (aV 0) tT (cF (aa (aj 1) (aa (aj 0) aq))) [none,some (aM i)] ((List.range' 1 (t.length - 1)).map aM)=some ((List.range' 1 (t.length - 1)).map λk=>lW (i,k)):=
    comp_map (T:=aV 0) (Tt:=tT) (Fe:=cF (aa (aj 1) (aa (aj 0) aq))) (ρ:=[none,some (aM i)]) (f:=aM) (g:=λk=>lW (i,k)) (λk=>[some (aM k),some (aM i)]) (List.range' 1 (t.length - 1)) λk _=>⟨rfl,rfl,cN (bU rfl (aR rfl)) (by simp)⟩
   refine(T9 (l:=found.map lW) (m:=(List.range' 1 (t.length - 1)).map λk=>lW (i,k)) (fr:=true) (tg:=none) rfl (je (gP (GK (i:=1) (j:=t.length) rfl (jE (aR rfl) ((Ku _).trans (by rw[List.length_map]))) (by omega) (by omega)) ?_ e2)) ?_ (cA λ_=>rfl)).trans ?_
   ·simp;omega
   ·simp;omega
   ·simp[Oe]
  obtain⟨f',b2,b3,hl,e3⟩:=K1 p ts (i+1) (found++(List.range' 1 (t.length - 1)).map λk=>(i,k)) (some (.val (aM i) true)) (some (.val (dU t) true)) (λx hx=>h x (List.mem_cons_of_mem _ hx)) (by simp;omega)
  refine⟨f',b2,b3,by simp at hl ⊢;omega,?_⟩
  show cT _ _ _ (.tup [aM i,dU t]::eE (i+1) (ts.map dU)) _=_
  rw[eY (T:=dF 2 (aZ (aF 2) (aZ (aF 3) dM))) (uo:=Oe p found (some (.val (aM i) true)) (some (.val (dU t) true))) rfl e,e3]
theorem Fy (p:Pl){m:Nat}(hp:PB m p)(hm:m<=90):∃cH:List (Nat×Nat),cH.length<=300/\dW [p.d]=some (.lst (cH.map lW),.own):=by
 have n2:=hp.nt
 obtain⟨cH,a2,a3,hl,e⟩:=K1 p p.jA 0 [] none none (λt ht=>by have:=hp.nr t ht;omega) (by simp;omega)
 refine⟨cH,by simp at hl;omega,?_⟩
 have hv:at? (vals true (Oe p [] none none)) 0=some p.d:=by simp[vals,pick,Oe,n6,at?]
 have f1:f9 (jb (f2 aG (aj 0) (fC (.int 1)))) (dF 2 (aZ (aF 2) (aZ (aF 3) dM))) apB (Oe p [] none none)=some (.nx (Oe p cH a2 a3)):=by
  rw[jL (r:=(eE 0 (p.jA.map dU),[p.nA])) (sO _ _ _ (aB rfl rfl rfl)) (sO _ _ _ (aB hv rfl rfl))]
  exact e
 have Wi:jf 1 (Oe p cH a2 a3)=some (.rt (.lst (cH.map lW)) .own (Oe p cH a2 a3)):=rfl
 exact mQ (G:=nO) (k:=4) ((aD (cB (i:=1) (l:=[]) rfl rfl)).trans ((aD f1).trans Wi)) rfl
end K
theorem eqv_refl:∀(n:Nat) (d:D),mz n d=true->PyData.eqv (mC d) (mC d)=true:=by
 intro n
 induction n with
 |zero=>intro d h;cases d<;>simp[mz,mC,PyData.eqv]at h ⊢
 |succ n ih=>
  have all:∀l:List D,l.all (mz n)=true->PyData.eqvAll (iT l) (iT l)=true:=by
   intro l
   induction l with
   |nil=>intro _;simp[iT,PyData.eqvAll]
   |cons x l il=>
    intro h
    rw[List.all_cons,Bool.and_eq_true]at h
    simp[iT,PyData.eqvAll,ih x h.1,il h.2]
  intro d h
  cases d with
  |tup l=>simpa only[mC,PyData.eqv]using all l (by simpa only[mz]using h)
  |lst l=>simpa only[mC,PyData.eqv]using all l (by simpa only[mz]using h)
  |_=>simp[mz,mC,PyData.eqv]at h ⊢
theorem zz {n:Nat}{d:D}(h:mz n d=true)(hn:n<=64:=by decide)(neg:Bool):dN neg d d=some (.bl (if neg then false else true)):=by
 unfold dN
 rw[jd h hn,show qN d d=true from eqv_refl n d h]
 cases neg<;>rfl
theorem PB.sh {m:Nat}{p:Pl}(h:PB m p):mz 4 p.d=true:=by
 have h1:mz 3 p.eV=true:=by
  simp only[Pl.eV,mz,List.all_eq_true,List.mem_map]
  rintro d ⟨c,hc,rfl⟩
  have:=(h.X8 c hc).1
  simp only[RG,Bool.and_eq_true]at this
  simp[cD,mz,this.1]
 have h2:mz 3 p.nA=true:=by
  simp only[Pl.nA,mz,List.all_eq_true,List.mem_map]
  rintro d ⟨t,ht,rfl⟩
  simp only[dU,mz,List.all_eq_true,List.mem_map]
  rintro d ⟨r,hr,rfl⟩
  exact Jt (h.row t ht r hr)
 simp only[Pl.d,mz,List.all_cons,List.all_nil,h1,h2,Bool.and_true]
theorem XR (l:List (Nat×Nat)):mz 2 (.lst (l.map lW))=true:=by
 simp only[mz,List.all_eq_true,List.mem_map]
 rintro d ⟨x,_,rfl⟩
 simp[lW,mz,aM]
namespace K
noncomputable def plB:GS:=(jM (t2 (dN false) (f2 cj (aC bh [] (aa (f2 (jc cQ bG) (aj 1) (f2 aP (fC (.int 1)) (f2 (jc cQ bG) (fC (.int 2)) (aj 3)))) (aa (aj 3) aq))) (f2 aG (gB (aa (fC (.int 2)) (aa (fC (.int 4)) (aa (fC (.int 1)) aq)))) (f2 cj (aj 1) (fC (.int 3))))) (fC (.int 0))) (Gz 2 (f2 cj (aC bh [] (aa (f2 (jc cQ bG) (aj 1) (f2 aP (fC (.int 3)) (f2 (jc cQ bG) (fC (.int 2)) (aj 3)))) (aa (f2 aP (fC (.int 50)) (aj 3)) aq))) (f2 aP (fB kY (aa (aj 2) aq)) (fC (.int 1)))) (aj 4)) cg)
noncomputable def RJ (p:Pl)(c:Int)(found:List (Nat×Nat))(a3 a4:Option L):bw:=[some (.val p.d false),some (.val (.int c) false),some (.own (found.map lW) true none),a3,a4]
theorem Lb (p:Pl)(c:Int):∀(l:List (Nat×Nat)) (i:Nat) (found:List (Nat×Nat)) (a3 a4:Option L),i+l.length<=400->found.length+l.length<900->
 ∃found' IW Mg,found'.length<=found.length+l.length/\cT (dF 2 (aZ (aF 3) (aZ (aF 4) dM))) plB true (eE i (l.map lW)) (RJ p c found a3 a4)=some (.nx (RJ p c found' IW Mg))
 |[],i,found,a3,a4,_,_=>⟨found,a3,a4,by simp,rfl⟩
 |x::l,i,found,a3,a4,hi,hn=>by
  rw[List.length_cons]at hi hn
  obtain⟨v1,e1,_⟩:=lY (c*(1+2*(i:Int))) (i:Int) (by omega) (by omega)
  obtain⟨v2,e2,_⟩:=lY (c*(3+2*(i:Int))) (50+(i:Int)) (by omega) (by omega)
  obtain⟨k3,hk3,a0'⟩:=pJ c 3 (by omega)
  obtain⟨k4,hk4,a0n⟩:=pJ v2 ((found.length:Int)+1) (by omega)
  have Ws:∃m:Int,0<m/\([D.int 2,.int 4,.int 1]:List D)[k3]?=some (.int m):=by
   have:k3=0\/k3=1\/k3=2:=by omega
   rcases this with rfl|rfl|rfl
   ·exact⟨2,by decide,rfl⟩
   ·exact⟨4,by decide,rfl⟩
   ·exact⟨1,by decide,rfl⟩
  obtain⟨m,hm,hm'⟩:=Ws
  let ρ:=RJ p c found (some (.val (aM i) true)) (some (.val (lW x) true))
  have t1:t2 (dN false) (f2 cj (aC bh [] (aa (f2 (jc cQ bG) (aj 1) (f2 aP (fC (.int 1)) (f2 (jc cQ bG) (fC (.int 2)) (aj 3)))) (aa (aj 3) aq))) (f2 aG (gB (aa (fC (.int 2)) (aa (fC (.int 4)) (aa (fC (.int 1)) aq)))) (f2 cj (aj 1) (fC (.int 3))))) (fC (.int 0)) (vis ρ)=some (v1 % m==0):=
   eU (x:= .int (v1 % m)) (y:= .int 0) (aB (x:= .int v1) (y:= .int m) (bz (l:=[.int (c*(1+2*(i:Int))),.int (i:Int)]) (bU (aB rfl (aB rfl (aB rfl rfl (pK 2 i (.inl ⟨by omega,by omega⟩))) rfl) (pK c _ (.inr ⟨by omega,by omega⟩))) (aR rfl)) e1 rfl) (aB (x:= .lst [.int 2,.int 4,.int 1]) (y:= .int (k3:Nat)) (by
    show(aa _ _ _).bind oK=_
    rw[bU rfl (bU rfl (aR rfl)),Option.bind_some]
    simp[oK,sizeLine_eq]) (aB rfl rfl (by rw[hk3];exact cC c 3 (by omega))) (lE hm')) (cC v1 m hm)) rfl (Vg _ _)
  have step:∃jy,jy.length<=found.length+1/\plB ρ=some (.nx (RJ p c jy (some (.val (aM i) true)) (some (.val (lW x) true)))):=by
   cases hv:(v1 % m==0)with
   |false=>
    rw[hv]at t1
    exact⟨found,by omega,iu t1⟩
   |true=>
    rw[hv]at t1
    refine⟨found.take k4++x::found.drop k4,by simp;omega,(jF t1).trans ((Km (l:=found.map lW) (fr:=true) (tg:=none) (k:=k4) (d:=lW x) rfl (aB (x:= .int v2) (y:= .int ((found.length:Int)+1)) (bz (l:=[.int (c*(3+2*(i:Int))),.int (50+(i:Int))]) (bU (aB rfl (aB rfl (aB rfl rfl (pK 2 i (.inl ⟨by omega,by omega⟩))) rfl) (pK c _ (.inr ⟨by omega,by omega⟩))) (aR (aB rfl rfl rfl))) e2 rfl) (aB (jE (aR rfl) ((yZ _).trans (by rw[List.length_map]))) rfl rfl) (by rw[hk4];exact cC v2 _ (by omega))) rfl (by rw[List.length_map];omega) (by rw[List.length_map];omega) rfl).trans ?_)⟩
    rw[CJ]
    rfl
  obtain⟨jy,hl1,e⟩:=step
  obtain⟨f',b3,b4,hl,e3⟩:=Lb p c l (i+1) jy (some (.val (aM i) true)) (some (.val (lW x) true)) (by omega) (by omega)
  refine⟨f',b3,b4,by rw[List.length_cons];omega,?_⟩
  show cT _ _ _ (.tup [aM i,lW x]::eE (i+1) (l.map lW)) _=_
  rw[eY (T:=dF 2 (aZ (aF 3) (aZ (aF 4) dM))) (uo:=ρ) rfl e,e3]
theorem Rh (p:Pl)(c:Int){m:Nat}(hp:PB m p)(hm:m<=90):∃cH:List (Nat×Nat),cH.length<=300/\iV [p.d,.int c]=some (.lst (cH.map lW),.own):=by
 obtain⟨all,ha,ea⟩:=Fy p hp hm
 obtain⟨cH,a3,a4,hl,e⟩:=Lb p c all 0 [] none none (by omega) (by simp;omega)
 refine⟨cH,by simp at hl;omega,?_⟩
 have en:∀ρ:aH,at? ρ 0=some p.d->jb (aC dW [] (aa (aj 0) aq)) ρ=some (eE 0 (all.map lW),[.lst (all.map lW)]):=λρ h=>by
  show(aC dW [] (aa (aj 0) aq) ρ).bind _=_
  rw[bz (aR h) ea rfl]
  rfl
 have hv:at? (vals true (RJ p c [] none none)) 0=some p.d:=by simp[vals,pick,RJ,n6,at?]
 have f1:f9 (jb (aC dW [] (aa (aj 0) aq))) (dF 2 (aZ (aF 3) (aZ (aF 4) dM))) plB (RJ p c [] none none)=some (.nx (RJ p c cH a3 a4)):=by
  rw[jL (en _ rfl) (en _ hv)]
  exact e
 have Wi:jf 2 (RJ p c cH a3 a4)=some (.rt (.lst (cH.map lW)) .own (RJ p c cH a3 a4)):=rfl
 exact mQ (G:=qR) (k:=5) ((aD (cB (i:=2) (l:=[]) rfl rfl)).trans ((aD f1).trans Wi)) rfl
theorem V7 (C:Addr)(p:Pl):lU C [p.pr C]=some (p.d,.new):=by
 have e:zj C (aW 1 [p.pr C])=some (.rt p.d .new (aW 1 [p.pr C])):=by
  unfold zj
  exact cV (cN (bU (ql rfl (Ah p)) (aR (ql rfl (qy p)))) (by simp)) (n6 p)
 exact mQ e rfl
theorem uF (C:Addr)(p:Pl){a:FD}{ρ:aH}(h:a ρ=some (p.pr C)):Cm C "plain" (lU C) a ρ=some p.d:=by
 show(a ρ).bind _=_
 rw[h,Option.bind_some]
 have v:=V7 C p
 unfold K9
 simp only[Pl.pr]at v ⊢
 rw[if_pos ⟨trivial,by simp[oM]⟩,v]
 rfl
theorem v_is (C:Addr)(p:Pl){m:Nat}(hp:PB m p)(hs:shows p.d=true):bK C [p.pr C,p.d]=some (.bl true,.new):=by
 have e:zg C (aW 2 [p.pr C,p.d])=some (.rt (.bl true) .new (aW 2 [p.pr C,p.d])):=by
  refine cV (Eb ?_ (Eb (aB (uF C p rfl) rfl (zz hp.sh (neg:=false))) (aB (uF C p rfl) rfl ?_))) rfl
  ·show Gg C (p.pr C)=_
   simp[Gg,Pl.pr]
  ·show uW p.d p.d=_
   unfold uW
   rw[hs]
   simp
 exact mQ e rfl
end K
theorem W5 {t:List Rw}(h:∀r∈t,r.mq=true):nU (.lst (t.map Rw.d)) [.tup [.str "fence"]]=some (.int ((t.countP bA:Nat):Int)):=by
 have h1:Lj (.tup [.str "fence"]) (t.map Rw.d)=true:=by
  unfold Lj
  rw[jd vK,jd (n:=2)]
  ·rfl
  ·simp only[mz,List.all_eq_true,List.mem_map]
   rintro d ⟨r,hr,rfl⟩
   exact Jt (h r hr)
 simp only[nU,h1,if_true]
 congr 3
 rw[List.countP_map]
 congr 1
 funext r
 exact uY r
theorem Rp (r:Rw):(r.word==("get":Str))=true->∃b c,r= .get b c:=by
 cases r<;>simp[Rw.word,oM]
theorem Q0 {Fl:FL}{T:D->Bool->bw->Option bw}{G:GS}{ρ:bw}{l:List D}(h:Fl (vis ρ)=some l)(hf:flat.flats l=true):Cu Fl T G ρ=cT T G true (eE 0 l) ρ:=by
 unfold Cu
 rw[h,Option.bind_some,if_pos hf]
namespace K
noncomputable def Iz (p:Pl)(c:Int)(th:List (List Rw))(a3 a4:Option L)(found:List Rw)(a6 a7 a8 a9:Option L):bw:=[some (.val p.d false),some (.val (.int c) false),some (.own (th.map dU) true none),a3,a4,some (.own (found.map Rw.d) true none),a6,a7,a8,a9]
noncomputable def sw1:GS:=(jM (t2 (mX λi j=>decide (i<j)) (vU "list" nU (aj 5) (aa (cF (aa (fC (.str "fence")) aq)) aq)) (fC (.int 5))) (Gz 5 (f2 cj (aC bh [] (aa (f2 (jc cQ bG) (aj 1) (f2 aP (fC (.int 1)) (f2 (jc cQ bG) (fC (.int 2)) (f2 aP (f2 (jc cQ bG) (fC (.int 7)) (aj 3)) (aj 6))))) (aa (f2 aP (f2 aP (fC (.int 80)) (f2 (jc cQ bG) (fC (.int 7)) (aj 3))) (aj 6)) aq))) (f2 aP (fB kY (aa (aj 5) aq)) (fC (.int 1)))) (cF (aa (fC (.str "fence")) aq))) cg)
theorem Il (p:Pl)(c:Int)(th:List (List Rw))(ti:Nat)(a4 a7 a8 a9:Option L)(hti:ti<10):∀(n i:Nat) (found:List Rw) (a6:Option L),i+n<=10->found.length+n<900->(∀r∈found,r.mq=true)->
 ∃found' J0,found'.length<=found.length+n/\(∀r∈found',r.mq=true)/\cT (aF 6) sw1 true ((List.range' i n).map aM) (Iz p c th (some (.val (aM ti) true)) a4 found a6 a7 a8 a9)=some (.nx (Iz p c th (some (.val (aM ti) true)) a4 found' J0 a7 a8 a9))
 |0,i,found,a6,_,_,ho=>⟨found,a6,by omega,ho,rfl⟩
 |n+1,i,found,a6,hi,hn,ho=>by
  obtain⟨v,e1,_⟩:=lY (c*(1+2*(7*(ti:Int)+i))) (80+7*(ti:Int)+i) (by omega) (by omega)
  obtain⟨k4,hk4,a0n⟩:=pJ v ((found.length:Int)+1) (by omega)
  let ρ:=Iz p c th (some (.val (aM ti) true)) a4 found (some (.val (aM i) true)) a7 a8 a9
  have fe:cF (aa (fC (.str "fence")) aq) (vis ρ)=some Rw.fence.d:=cN (aR rfl) (by simp)
  have t1:t2 (mX λi j=>decide (i<j)) (vU "list" nU (aj 5) (aa (cF (aa (fC (.str "fence")) aq)) aq)) (fC (.int 5)) (vis ρ)=some (decide (((found.countP bA:Nat):Int)<5)):=
   eU (uy rfl rfl (aR fe) (W5 ho)) rfl rfl
  have step:∃jy,jy.length<=found.length+1/\(∀r∈jy,r.mq=true)/\sw1 ρ=some (.nx (Iz p c th (some (.val (aM ti) true)) a4 jy (some (.val (aM i) true)) a7 a8 a9)):=by
   cases hv:decide (((found.countP bA:Nat):Int)<5)with
   |false=>
    rw[hv]at t1
    exact⟨found,by omega,ho,iu t1⟩
   |true=>
    rw[hv]at t1
    refine⟨found.take k4++ .fence::found.drop k4,by simp;omega,λr hr=>?_,(jF t1).trans ((Km (l:=found.map Rw.d) (fr:=true) (tg:=none) (k:=k4) (d:=Rw.fence.d) rfl (aB (x:= .int v) (y:= .int ((found.length:Int)+1)) (bz (l:=[.int (c*(1+2*(7*(ti:Int)+i))),.int (80+7*(ti:Int)+i)]) (bU (aB rfl (aB rfl (aB rfl (aB (aB rfl rfl (pK 7 ti (.inl ⟨by omega,by omega⟩))) rfl rfl) (pK 2 _ (.inl ⟨by omega,by omega⟩))) rfl) (pK c _ (.inr ⟨by omega,by omega⟩))) (aR (aB (aB rfl (aB rfl rfl (pK 7 ti (.inl ⟨by omega,by omega⟩))) rfl) rfl rfl))) e1 rfl) (aB (jE (aR rfl) ((yZ _).trans (by rw[List.length_map]))) rfl rfl) (by rw[hk4];exact cC v _ (by omega))) fe (by rw[List.length_map];omega) (by rw[List.length_map];omega) rfl).trans ?_)⟩
    ·rcases List.mem_append.mp hr with hr|hr
     ·exact ho r (List.mem_of_mem_take hr)
     ·rcases List.mem_cons.mp hr with rfl|hr
      ·rfl
      ·exact ho r (List.mem_of_mem_drop hr)
    ·rw[CJ]
     rfl
  obtain⟨jy,hl1,ho1,e⟩:=step
  obtain⟨f',b6,hl,ho',e3⟩:=Il p c th ti a4 a7 a8 a9 hti n (i+1) jy (some (.val (aM i) true)) (by omega) (by omega) ho1
  refine⟨f',b6,by omega,ho',?_⟩
  rw[List.range'_succ,List.map_cons,eY (T:=aF 6) (uo:=ρ) rfl e,e3]
noncomputable def sw2:GS:=(aO (bF 9 (aC bh [] (aa (f2 (jc cQ bG) (aj 1) (f2 aP (fC (.int 1)) (f2 (jc cQ bG) (fC (.int 2)) (f2 aP (f2 (jc cQ bG) (fC (.int 11)) (aj 3)) (aj 7))))) (aa (f2 aP (f2 aP (fC (.int 110)) (f2 (jc cQ bG) (fC (.int 11)) (aj 3))) (aj 7)) aq)))) (jM (yt (t2 (dN false) (f2 aG (aj 8) (fC (.int 0))) (fC (.str "skip"))) (wQ (t2 (dN false) (f2 aG (aj 8) (fC (.int 0))) (fC (.str "get"))) (t2 (dN false) (f2 cj (aj 9) (fC (.int 3))) (fC (.int 1))))) (Cw 5 (aj 7) (cF (aa (fC (.str "skip")) (aa (f2 aG (aj 8) (fC (.int 1))) (aa (f2 cj (f2 gA (aj 9) (fC (.int 3))) (fB Gi (aa (fC (.int 10)) (aa (f2 kE (fB kY (aa (aj 5) aq)) (aj 7)) aq)))) aq))))) cg))
theorem VR {r:Rw}(h:r.jz=true\/(r.word==("get":Str))=true)(hr:r.mq=true):∃b,RG b=true/\aG r.d (.int 1)=some (.str b):=by
 rcases h with h|h
 ·cases r with
  |skip b n=>
   simp only[Rw.mq,Rw.parts,List.all_cons,Bool.and_eq_true,dB]at hr
   exact⟨b,hr.1,rfl⟩
  |_=>cases h
 ·obtain⟨b,c',rfl⟩:=Rp r h
  simp only[Rw.mq,Rw.parts,List.all_cons,Bool.and_eq_true,dB]at hr
  exact⟨b,hr.1,rfl⟩
theorem Im (p:Pl)(c:Int)(th:List (List Rw))(ti N:Nat)(a4 a6:Option L)(hti:ti<10)(hN:N<100):∀(l:List Rw) (i:Nat) (found:List Rw) (a7 a8 a9:Option L),i+l.length=N->found.length=N->(∀r∈l,r.mq=true)->(∀r∈found,r.mq=true)->
 ∃found' J1 Ys Yt,found'.length=N/\(∀r∈found',r.mq=true)/\cT (dF 2 (aZ (aF 7) (aZ (aF 8) dM))) sw2 true (eE i (l.map Rw.d)) (Iz p c th (some (.val (aM ti) true)) a4 found a6 a7 a8 a9)=some (.nx (Iz p c th (some (.val (aM ti) true)) a4 found' a6 J1 Ys Yt))
 |[],i,found,a7,a8,a9,_,hf,_,ho=>⟨found,a7,a8,a9,hf,ho,rfl⟩
 |r::l,i,found,a7,a8,a9,hi,hf,hl,ho=>by
  rw[List.length_cons]at hi
  have hr:=hl r List.mem_cons_self
  obtain⟨v,e1,v0⟩:=lY (c*(1+2*(11*(ti:Int)+i))) (110+11*(ti:Int)+i) (by omega) (by omega)
  let mn:Int:=if((N:Int) - i)<10 then(N:Int) - i else 10
  have hmn:0<mn/\mn<=10:=by
   show 0<(if((N:Int) - i)<10 then(N:Int) - i else 10)/\(if((N:Int) - i)<10 then(N:Int) - i else 10)<=10
   split<;>omega
  obtain⟨k,hk,hk'⟩:=pJ (v/3) mn hmn.1
  let ρ0:=Iz p c th (some (.val (aM ti) true)) a4 found a6 (some (.val (aM i) true)) (some (.val r.d true)) a9
  let ρ:=Iz p c th (some (.val (aM ti) true)) a4 found a6 (some (.val (aM i) true)) (some (.val r.d true)) (some (.val (.int v) true))
  have s1:bF 9 (aC bh [] (aa (f2 (jc cQ bG) (aj 1) (f2 aP (fC (.int 1)) (f2 (jc cQ bG) (fC (.int 2)) (f2 aP (f2 (jc cQ bG) (fC (.int 11)) (aj 3)) (aj 7))))) (aa (f2 aP (f2 aP (fC (.int 110)) (f2 (jc cQ bG) (fC (.int 11)) (aj 3))) (aj 7)) aq))) ρ0=some (.nx ρ):=
   bB (i:=9) (d:= .int v) (bz (l:=[.int (c*(1+2*(11*(ti:Int)+i))),.int (110+11*(ti:Int)+i)]) (bU (aB rfl (aB rfl (aB rfl (aB (aB rfl rfl (pK 11 ti (.inl ⟨by omega,by omega⟩))) rfl rfl) (pK 2 _ (.inl ⟨by omega,by omega⟩))) rfl) (pK c _ (.inr ⟨by omega,by omega⟩))) (aR (aB (aB rfl (aB rfl rfl (pK 11 ti (.inl ⟨by omega,by omega⟩))) rfl) rfl rfl))) e1 rfl) rfl
  have t1:yt (t2 (dN false) (f2 aG (aj 8) (fC (.int 0))) (fC (.str "skip"))) (wQ (t2 (dN false) (f2 aG (aj 8) (fC (.int 0))) (fC (.str "get"))) (t2 (dN false) (f2 cj (aj 9) (fC (.int 3))) (fC (.int 1)))) (vis ρ)=some (r.jz||(r.word==("get":Str)&&(v % 3==1))):=
   Fd (eU (aB rfl rfl (o9 r)) rfl (by rw[ux r false _ t6,nJ];rfl)) λ_=>EY (eU (aB rfl rfl (o9 r)) rfl (ux r false _ X6)) λ_=>eU (aB rfl rfl (cC v 3 (by omega))) rfl (Vg _ _)
  have step:∃jy,jy.length=N/\(∀r∈jy,r.mq=true)/\sw2 ρ0=some (.nx (Iz p c th (some (.val (aM ti) true)) a4 jy a6 (some (.val (aM i) true)) (some (.val r.d true)) (some (.val (.int v) true)))):=by
   cases hv:(r.jz||(r.word==("get":Str)&&(v % 3==1)))with
   |false=>
    rw[hv]at t1
    exact⟨found,hf,ho,(aD s1).trans (iu t1)⟩
   |true=>
    rw[hv]at t1
    have hb:r.jz=true\/(r.word==("get":Str))=true:=by
     rw[Bool.or_eq_true,Bool.and_eq_true]at hv
     exact hv.imp id λz=>z.1
    obtain⟨b,hb1,hb2⟩:=VR hb hr
    refine⟨found.set i (.skip b k),by rw[List.length_set];exact hf,λx hx=>?_,(aD s1).trans ((jF t1).trans ((Q5 (l:=found.map Rw.d) (fr:=true) (tg:=none) (d:=(Rw.skip b k).d) (k:=i) rfl (cN (bU rfl (bU (aB rfl rfl hb2) (aR (aB (x:= .int (v/3)) (y:= .int mn) (aB rfl rfl (fM v 3 (by omega) (by omega))) (jE (l:=[.int 10,.int ((N:Int) - i)]) (bU rfl (aR (aB (x:= .int (N:Nat)) (y:= .int (i:Nat)) (jE (aR rfl) ((yZ _).trans (by rw[List.length_map,hf]))) rfl rfl))) rfl) (by rw[cC _ _ hmn.1,<-hk]))))) (by simp)) rfl rfl (by rw[List.length_map];omega)).trans ?_))⟩
    ·rcases List.mem_or_eq_of_mem_set hx with hx|rfl
     ·exact ho x hx
     ·simp only[Rw.mq,Rw.parts,List.all_cons,List.all_nil,Bool.and_true,Bool.and_eq_true,dB,decide_eq_true_eq]
      exact⟨hb1,by omega,by omega⟩
    ·rw[<-List.map_set]
     rfl
  obtain⟨jy,hl1,ho1,e⟩:=step
  obtain⟨f',b7,b8,b9,q1,q2,e3⟩:=Im p c th ti N a4 a6 hti hN l (i+1) jy (some (.val (aM i) true)) (some (.val r.d true)) (some (.val (.int v) true)) (by omega) hl1 (λx hx=>hl x (List.mem_cons_of_mem _ hx)) ho1
  refine⟨f',b7,b8,b9,q1,q2,?_⟩
  show cT _ _ _ (.tup [aM i,r.d]::eE (i+1) (l.map Rw.d)) _=_
  rw[eY (T:=dF 2 (aZ (aF 7) (aZ (aF 8) dM))) (uo:=ρ0) rfl e,e3]
noncomputable def swB:GS:=(aO (gR 5 (nB nList (aa (aj 4) aq))) (aO (f9 (gw (f2 aP (fC (.int 1)) (f2 cj (aC bh [] (aa (f2 (jc cQ bG) (aj 1) (f2 aP (fC (.int 1)) (f2 (jc cQ bG) (fC (.int 2)) (aj 3)))) (aa (f2 aP (fC (.int 70)) (aj 3)) aq))) (fC (.int 4))))) (aF 6) sw1) (aO (Cu (nB nList (aa (aj 5) aq)) (dF 2 (aZ (aF 7) (aZ (aF 8) dM))) sw2) (eF 2 (fB (lC cu eO) (aa (aj 5) aq))))))
noncomputable def Ls (p:Pl)(c:Int)(th:List (List Rw))(a3 a4 a5 a6 a7 a8 a9:Option L):bw:=[some (.val p.d false),some (.val (.int c) false),some (.own (th.map dU) true none),a3,a4,a5,a6,a7,a8,a9]
theorem UT (p:Pl)(c:Int)(th:List (List Rw))(ti:Nat)(t:List Rw)(a5 a6 a7 a8 a9:Option L)(hti:ti<10)(ht:t.length<=20)(ho:∀r∈t,r.mq=true)(hth:th.length<900):
 ∃t' Om J0 J1 Ys Yt,t'.length<=30/\(∀r∈t',r.mq=true)/\swB (Ls p c th (some (.val (aM ti) true)) (some (.val (dU t) true)) a5 a6 a7 a8 a9)=some (.nx (Ls p c (th++[t']) (some (.val (aM ti) true)) (some (.val (dU t) true)) Om J0 J1 Ys Yt)):=by
 obtain⟨v,e1,_⟩:=lY (c*(1+2*(ti:Int))) (70+(ti:Int)) (by omega) (by omega)
 obtain⟨k,hk,hk'⟩:=pJ v 4 (by omega)
 obtain⟨f1,b6,hl1,ho1,l1⟩:=Il p c th ti (some (.val (dU t) true)) a7 a8 a9 hti (1+k) 0 t a6 (by omega) (by omega) ho
 obtain⟨fo,b7,b8,b9,hl2,ho2,l2⟩:=Im p c th ti f1.length (some (.val (dU t) true)) b6 hti (by omega) f1 0 f1 a7 a8 a9 (by omega) rfl ho1 ho1
 refine⟨fo,some (.own (fo.map Rw.d) true none),b6,b7,b8,b9,by omega,ho2,?_⟩
 have s1:gR 5 (nB nList (aa (aj 4) aq)) (Ls p c th (some (.val (aM ti) true)) (some (.val (dU t) true)) a5 a6 a7 a8 a9)=some (.nx (Iz p c th (some (.val (aM ti) true)) (some (.val (dU t) true)) t a6 a7 a8 a9)):=
  cB (i:=5) (TF (aR rfl)) (cA cR)
 have s2:f9 (gw (f2 aP (fC (.int 1)) (f2 cj (aC bh [] (aa (f2 (jc cQ bG) (aj 1) (f2 aP (fC (.int 1)) (f2 (jc cQ bG) (fC (.int 2)) (aj 3)))) (aa (f2 aP (fC (.int 70)) (aj 3)) aq))) (fC (.int 4))))) (aF 6) sw1 (Iz p c th (some (.val (aM ti) true)) (some (.val (dU t) true)) t a6 a7 a8 a9)=some (.nx (Iz p c th (some (.val (aM ti) true)) (some (.val (dU t) true)) f1 b6 a7 a8 a9)):=by
  refine(rE (n:=1+k) (aB (x:= .int 1) (y:= .int (k:Nat)) rfl (aB (x:= .int v) (y:= .int 4) (bz (l:=[.int (c*(1+2*(ti:Int))),.int (70+(ti:Int))]) (bU (aB rfl (aB rfl (aB rfl rfl (pK 2 ti (.inl ⟨by omega,by omega⟩))) rfl) (pK c _ (.inr ⟨by omega,by omega⟩))) (aR (aB rfl rfl rfl))) e1 rfl) rfl (by rw[hk];exact cC v 4 (by omega))) ?_) (by omega)).trans l1
  show some (D.int (1+(k:Int)))=_
  congr 2
 have s3:Cu (nB nList (aa (aj 5) aq)) (dF 2 (aZ (aF 7) (aZ (aF 8) dM))) sw2 (Iz p c th (some (.val (aM ti) true)) (some (.val (dU t) true)) f1 b6 a7 a8 a9)=some (.nx (Iz p c th (some (.val (aM ti) true)) (some (.val (dU t) true)) fo b6 b7 b8 b9)):=
  (Q0 (l:=f1.map Rw.d) (by
   show(aa (aj 5) aq _).bind nList=_
   rw[aR (x:= .lst (f1.map Rw.d)) rfl]
   rfl) (cA cR)).trans l2
 have s4:eF 2 (fB (lC cu eO) (aa (aj 5) aq)) (Iz p c th (some (.val (aM ti) true)) (some (.val (dU t) true)) fo b6 b7 b8 b9)=some (.nx (Ls p c (th++[fo]) (some (.val (aM ti) true)) (some (.val (dU t) true)) (some (.own (fo.map Rw.d) true none)) b6 b7 b8 b9)):=by
  refine(ig (l:=th.map dU) (fr:=true) (tg:=none) (d:=dU fo) rfl (by rw[List.length_map,sizeLine_eq];omega) (um (.inl rfl)) (nW _)).trans ?_
  simp[Iz,Ls]
 exact(aD s1).trans ((aD s2).trans ((aD s3).trans s4))
theorem Lw (p:Pl)(c:Int):∀(ts:List (List Rw)) (i:Nat) (th:List (List Rw)) (a3 a4 a5 a6 a7 a8 a9:Option L),i+ts.length<10->th.length+ts.length<800->(∀t∈ts,t.length<=20/\∀r∈t,r.mq=true)->
 ∃th' IW Mg Om J0 J1 Ys Yt,th'.length=ts.length/\(∀t∈th',t.length<=30/\∀r∈t,r.mq=true)/\cT (dF 2 (aZ (aF 3) (aZ (aF 4) dM))) swB true (eE i (ts.map dU)) (Ls p c th a3 a4 a5 a6 a7 a8 a9)=some (.nx (Ls p c (th++th') IW Mg Om J0 J1 Ys Yt))
 |[],i,th,a3,a4,a5,a6,a7,a8,a9,_,_,_=>⟨[],a3,a4,a5,a6,a7,a8,a9,rfl,(λt h=>(by cases h)),(by rw[List.append_nil];rfl)⟩
 |t::ts,i,th,a3,a4,a5,a6,a7,a8,a9,hi,hn,h=>by
  rw[List.length_cons]at hi hn
  obtain⟨h1,h2⟩:=h t List.mem_cons_self
  obtain⟨t',b5,b6,b7,b8,b9,q1,q2,e⟩:=UT p c th i t a5 a6 a7 a8 a9 (by omega) h1 h2 (by omega)
  obtain⟨th',c3,c4,c5,c6,c7,c8,c9,r1,r2,e2⟩:=Lw p c ts (i+1) (th++[t']) (some (.val (aM i) true)) (some (.val (dU t) true)) b5 b6 b7 b8 b9 (by omega) (by simp;omega) λx hx=>h x (List.mem_cons_of_mem _ hx)
  refine⟨t'::th',c3,c4,c5,c6,c7,c8,c9,by simp[r1],λu hu=>?_,?_⟩
  ·rcases List.mem_cons.mp hu with rfl|hu
   ·exact⟨q1,q2⟩
   ·exact r2 u hu
  ·show cT _ _ _ (.tup [aM i,dU t]::eE (i+1) (ts.map dU)) _=_
   rw[eY (T:=dF 2 (aZ (aF 3) (aZ (aF 4) dM))) (uo:=Ls p c th (some (.val (aM i) true)) (some (.val (dU t) true)) a5 a6 a7 a8 a9) rfl e,e2]
   simp
theorem Rj (p:Pl)(c:Int)(hp:PB 20 p):∃p',PB 30 p'/\jC [p.d,.int c]=some (p'.d,.new):=by
 have n2:=hp.nt
 obtain⟨th',c3,c4,c5,c6,c7,c8,c9,r1,r2,e⟩:=Lw p c p.jA 0 [] none none none none none none none (by omega) (by simp;omega) λt ht=>⟨hp.nr t ht,hp.row t ht⟩
 refine⟨⟨p.cells,th'⟩,⟨hp.nc,by simp only;omega,λt ht=>(r2 t ht).1,λt ht=>(r2 t ht).2,hp.X8⟩,?_⟩
 have hv:at? (vals true (Ls p c [] none none none none none none none)) 0=some p.d:=by simp[vals,pick,Ls,n6,at?]
 have f1:f9 (jb (f2 aG (aj 0) (fC (.int 1)))) (dF 2 (aZ (aF 3) (aZ (aF 4) dM))) swB (Ls p c [] none none none none none none none)=some (.nx (Ls p c th' c3 c4 c5 c6 c7 c8 c9)):=by
  rw[jL (r:=(eE 0 (p.jA.map dU),[p.nA])) (sO _ _ _ (aB rfl rfl rfl)) (sO _ _ _ (aB hv rfl rfl))]
  exact e
 have Wi:fc (cF (aa (f2 aG (aj 0) (fC (.int 0))) (aa (fB (lC cu eO) (aa (aj 2) aq)) aq))) (Ls p c th' c3 c4 c5 c6 c7 c8 c9)=some (.rt (Pl.mk p.cells th').d .new (Ls p c th' c3 c4 c5 c6 c7 c8 c9)):=
  cV (cN (bU (aB rfl rfl rfl) (aR (um (.inl rfl)))) (by simp)) (n6 (Pl.mk p.cells th'))
 exact mQ (G:=qU) (k:=10) ((aD (cB (i:=2) (l:=[]) rfl rfl)).trans ((aD f1).trans Wi)) rfl
end K
theorem Qi {d:D}(h:dB d=true):lit 2000 d:=by
 cases d with
 |str x=>
  simp only[dB,RG,Bool.and_eq_true,decide_eq_true_eq]at h
  exact lit_str h.1 h.2
 |int i=>
  have h:=of_decide_eq_true h
  exact lit_int h.1 h.2
 |_=>cases h
theorem Rq (r:Rw):r.word.length<=8:=by cases r<;>simp only[Rw.word]<;>decide
theorem Tr {r:Rw}(h:r.mq=true):lit 9000 r.d:=by
 rw[nF]
 refine sY (M:=2000) (λd hd=>?_) ?_
 ·rcases List.mem_cons.mp hd with rfl|hd
  ·exact lit_str (z7 r) (Rq r)
  ·exact Qi (List.all_eq_true.mp h d hd)
 ·have:r.parts.length<=3:=by cases r<;>simp[Rw.parts]
  rw[List.length_cons]
  omega
theorem Ii {m:Nat}{p:Pl}(h:PB m p)(hm:m<=90):shows p.d=true:=by
 obtain⟨s1,s2,s3⟩:=R6 4 p.d h.sh
 have hc:lit 20000 p.eV:=sY (M:=4100) (λd hd=>by
  obtain⟨c,hc,rfl⟩:=List.mem_map.mp hd
  have:=h.X8 c hc
  refine sY (M:=2000) (l:=[.str c.1,.int c.2]) (λd hd=>?_) (by simp)
  simp only[List.mem_cons,List.not_mem_nil,or_false]at hd
  rcases hd with rfl|rfl
  ·exact Qi this.1
  ·exact lit_int this.2.1 this.2.2) (by have:=h.nc;rw[List.length_map];omega)
 have ht:lit 3000000 p.nA:=sY (M:=900000) (λd hd=>by
  obtain⟨t,ht,rfl⟩:=List.mem_map.mp hd
  refine sY (M:=9000) (λd hd=>?_) (by have:=h.nr t ht;rw[List.length_map];omega)
  obtain⟨r,hr,rfl⟩:=List.mem_map.mp hd
  exact Tr (h.row t ht r hr)) (by have:=h.nt;rw[List.length_map];omega)
 have hp:lit 7000000 p.d:=sY (M:=3000000) (l:=[p.eV,p.nA]) (λd hd=>by
  simp only[List.mem_cons,List.not_mem_nil,or_false]at hd
  rcases hd with rfl|rfl
  ·exact hc.mono (by decide)
  ·exact ht) (by simp)
 unfold shows
 rw[s1,hp.1,PyData.hasDict_of_canLay _ s2,decide_eq_true (by omega:(mC p.d).depth<=60),decide_eq_true (by have:=hp.2;rw[sizeLine_eq];omega:(mC p.d).shown.length<=sizeLine)]
 rfl
theorem PB.mono {m n:Nat}{p:Pl}(h:PB m p)(hn:m<=n):PB n p:=⟨h.nc,h.nt,λt ht=>Nat.le_trans (h.nr t ht) hn,h.row,h.X8⟩
theorem PK (l:List (Nat×Nat)):flat.flats (l.map lW)=true:=cA λ_=>rfl
theorem T8 {i:Nat}{ρ:bw}{l:List D}{fr:Bool}{tg:Option Nat}(h:ρ[i]?=some (some (.own l fr tg))):Jd i ρ=some (.nx (ρ.set i (some (.own [] fr tg)))):=by
 unfold Jd
 rw[h]
theorem Kz {a b:FT}{ρ:aH}(ha:a ρ=some false)(hb:b ρ=some false):yt a b ρ=some false:=Fd ha λ_=>hb
namespace K
noncomputable def vg (l:List Int)(p:Pl)(v:Int)(a3 a4 a5 a6 a7 a8:Option L):bw:=[some (.val (.tu l) false),some (.val p.d true),some (.val (.int v) true),a3,a4,a5,a6,a7,a8]
theorem zV {C:Addr}{p:Pl}{m:Nat}{a b:FD}{ρ:aH}(hp:PB m p)(hm:m<=90)(ha:a ρ=some (p.pr C))(hb:b ρ=some p.d):mO (tV (aC (bK C) [] (aa a (aa b aq)))) ρ=some false:=
 V0 (x:=true) (a0a (bz (bU ha (aR hb)) (v_is C p hp (Ii hp hm)) rfl))
theorem pH {C:Addr}{p:Pl}{m:Nat}{a:FD}{ρ:aH}(hp:PB m p)(hm:m<=90)(ha:a ρ=some (p.pr C)):aC (gq C bC) [] (aa a aq) ρ=some ((bZ p).pr C):=
 bz (aR ha) (Rf C p hp hm) rfl
theorem zp {C:Addr}{p:Pl}{cH:List (Nat×Nat)}{a b:FD}{ρ:aH}(hp:PB 90 p)(hb:PB 45 (bZ p))(hl:cH.length<=1000)(h1:a ρ=some (p.pr C))(h2:b ρ=some (.lst (cH.map lW))):aC (dX C bC) [] (aa a (aa b aq)) ρ=some ((oW (bZ p) cH).pr C):=
 bz (bU h1 (aR h2)) (Rg C p cH hp hb hl) rfl
noncomputable def a0u (C:Addr):GS:=(aO (ir 3 (aC jV [] (aa (aj 1) aq))) (aO (ir 4 (aC (dw C bC) [] (aa (aj 1) aq))) (aO (ir 5 (aC iV [] (aa (aj 3) (aa (aj 2) aq)))) (aO (gR 6 (nB nList (aa (aj 5) aq))) (aO (jM (yt (mO (tV (aC (bK C) [] (aa (aC (gq C bC) [] (aa (aj 4) aq)) (aa (aj 3) aq))))) (mO (tV (aC (bK C) [] (aa (aC (gq C bC) [] (aa (aC (gq C bC) [] (aa (aj 4) aq)) aq)) (aa (aj 3) aq)))))) (fc (fC (.bl false))) cg) (aO (ir 7 (aC iU [] (aa (aj 3) (aa (aj 5) aq)))) (aO (ir 8 (aC (dX C bC) [] (aa (aj 4) (aa (aj 6) aq)))) (aO (jM (yt (mO (tV (aC (bK C) [] (aa (aj 8) (aa (aj 7) aq))))) (t2 (dN true) (aj 6) (aj 5))) (fc (fC (.bl false))) cg) (aO (Jd 6) (aO (jM (yt (mO (tV (aC (bK C) [] (aa (aj 8) (aa (aj 7) aq))))) (mO (tV (aC (bK C) [] (aa (aC (dX C bC) [] (aa (aC (gq C bC) [] (aa (aj 4) aq)) (aa (Pz (aj 5)) aq))) (aa (aj 7) aq)))))) (fc (fC (.bl false))) cg) (aO (jM (yt (mO (tV (aC (bK C) [] (aa (aC (dX C bC) [] (aa (aj 8) (aa (aj 5) aq))) (aa (aj 7) aq))))) (mO (tV (aC (bK C) [] (aa (aC (gq C bC) [] (aa (aj 8) aq)) (aa (aj 3) aq)))))) (fc (fC (.bl false))) cg) (fc (Ea (aC (bK C) [] (aa (aC (dX C bC) [] (aa (aj 4) (aa (aj 6) aq))) (aa (aj 3) aq))) (f2 (dN false) (Cm C "plain" (lU C) (aj 4)) (aj 1)))))))))))))))
theorem Qh (C:Addr)(l:List Int)(p:Pl)(v:Int)(hp:PB 30 p):∃ρ,a0u C (vg l p v none none none none none none)=some (.rt (.bl true) .new ρ):=by
 have hb:PB 30 (bZ p):=hp.bare (by omega)
 obtain⟨cH,hl,epl⟩:=Rh (bZ p) v hb (by omega)
 let q:Pl:=oW (bZ p) cH
 have hq:PB 60 q:=hb.fen (by omega) (nC p)
 have eq:bZ q=bZ p:=J3 p cH
 let D3:Option L:=some (.val (bZ p).d true)
 let D4:Option L:=some (.val (p.pr C) true)
 let D5:Option L:=some (.val (.lst (cH.map lW)) true)
 let O6:Option L:=some (.own (cH.map lW) true none)
 let D7:Option L:=some (.val q.d true)
 let D8:Option L:=some (.val (q.pr C) true)
 have s1:ir 3 (aC jV [] (aa (aj 1) aq)) (vg l p v none none none none none none)=some (.nx (vg l p v D3 none none none none none)):=kZ (bz (aR rfl) (V6 p hp (by omega)) rfl)
 have s2:ir 4 (aC (dw C bC) [] (aa (aj 1) aq)) (vg l p v D3 none none none none none)=some (.nx (vg l p v D3 D4 none none none none)):=kZ (bz (aR rfl) (qH C p (hp.ps (by omega)) false false) rfl)
 have s3:ir 5 (aC iV [] (aa (aj 3) (aa (aj 2) aq))) (vg l p v D3 D4 none none none none)=some (.nx (vg l p v D3 D4 D5 none none none)):=kZ (bz (bU rfl (aR rfl)) epl rfl)
 have s4:gR 6 (nB nList (aa (aj 5) aq)) (vg l p v D3 D4 D5 none none none)=some (.nx (vg l p v D3 D4 D5 O6 none none)):=cB (i:=6) (by
  show(aa (aj 5) aq _).bind nList=_
  rw[aR (x:= .lst (cH.map lW)) rfl]
  rfl) (PK cH)
 have s5:jM (yt (mO (tV (aC (bK C) [] (aa (aC (gq C bC) [] (aa (aj 4) aq)) (aa (aj 3) aq))))) (mO (tV (aC (bK C) [] (aa (aC (gq C bC) [] (aa (aC (gq C bC) [] (aa (aj 4) aq)) aq)) (aa (aj 3) aq)))))) (fc (fC (.bl false))) cg (vg l p v D3 D4 D5 O6 none none)=some (.nx (vg l p v D3 D4 D5 O6 none none)):=
  iu (Kz (zV hb (by omega) (pH hp (by omega) rfl) rfl) (zV hb (by omega) ((pH hb (by omega) (pH hp (by omega) rfl)).trans (by rw[qZ])) rfl))
 have s6:ir 7 (aC iU [] (aa (aj 3) (aa (aj 5) aq))) (vg l p v D3 D4 D5 O6 none none)=some (.nx (vg l p v D3 D4 D5 O6 D7 none)):=kZ (bz (bU rfl (aR rfl)) (Oa (bZ p) cH hb (by omega) (nC p) (by omega)) rfl)
 have cf:∀{Le:List (Nat×Nat)}{a b:FD}{ρ:aH},Le.length<=1000->a ρ=some (p.pr C)->b ρ=some (.lst (Le.map lW))->aC (dX C bC) [] (aa a (aa b aq)) ρ=some ((oW (bZ p) Le).pr C):=λh1 h2 h3=>zp (hp.mono (by omega)) (hb.mono (by omega)) h1 h2 h3
 have s7:ir 8 (aC (dX C bC) [] (aa (aj 4) (aa (aj 6) aq))) (vg l p v D3 D4 D5 O6 D7 none)=some (.nx (vg l p v D3 D4 D5 O6 D7 D8)):=kZ (cf (by omega) rfl rfl)
 have s8:jM (yt (mO (tV (aC (bK C) [] (aa (aj 8) (aa (aj 7) aq))))) (t2 (dN true) (aj 6) (aj 5))) (fc (fC (.bl false))) cg (vg l p v D3 D4 D5 O6 D7 D8)=some (.nx (vg l p v D3 D4 D5 O6 D7 D8)):=
  iu (Kz (zV hq (by omega) rfl rfl) (eU rfl rfl (zz (XR cH) (neg:=true))))
 have s9:Jd 6 (vg l p v D3 D4 D5 O6 D7 D8)=some (.nx (vg l p v D3 D4 D5 (some (.own [] true none)) D7 D8)):=T8 rfl
 have rv:Pz (aj 5) (vis (vg l p v D3 D4 D5 (some (.own [] true none)) D7 D8))=some (.lst (cH.reverse.map lW)):=by
  show Pb (.lst (cH.map lW))=_
  simp[Pb]
 have cb:aC (dX C bC) [] (aa (aC (gq C bC) [] (aa (aj 4) aq)) (aa (Pz (aj 5)) aq)) (vis (vg l p v D3 D4 D5 (some (.own [] true none)) D7 D8))=some (q.pr C):=by
  refine(zp (cH:=cH.reverse) (hb.mono (by omega)) (by rw[qZ];exact hb.mono (by omega)) (by simp;omega) (pH hp (by omega) rfl) rv).trans ?_
  rw[qZ,J8 (Le:=cH) λx=>List.mem_reverse]
 have s10:jM (yt (mO (tV (aC (bK C) [] (aa (aj 8) (aa (aj 7) aq))))) (mO (tV (aC (bK C) [] (aa (aC (dX C bC) [] (aa (aC (gq C bC) [] (aa (aj 4) aq)) (aa (Pz (aj 5)) aq))) (aa (aj 7) aq)))))) (fc (fC (.bl false))) cg (vg l p v D3 D4 D5 (some (.own [] true none)) D7 D8)=some (.nx (vg l p v D3 D4 D5 (some (.own [] true none)) D7 D8)):=
  iu (Kz (zV hq (by omega) rfl rfl) (zV hq (by omega) cb rfl))
 have cq:aC (dX C bC) [] (aa (aj 8) (aa (aj 5) aq)) (vis (vg l p v D3 D4 D5 (some (.own [] true none)) D7 D8))=some (q.pr C):=by
  refine(zp (p:=q) (cH:=cH) (hq.mono (by omega)) (by rw[eq];exact hb.mono (by omega)) (by omega) rfl rfl).trans ?_
  rw[eq]
 have s11:jM (yt (mO (tV (aC (bK C) [] (aa (aC (dX C bC) [] (aa (aj 8) (aa (aj 5) aq))) (aa (aj 7) aq))))) (mO (tV (aC (bK C) [] (aa (aC (gq C bC) [] (aa (aj 8) aq)) (aa (aj 3) aq)))))) (fc (fC (.bl false))) cg (vg l p v D3 D4 D5 (some (.own [] true none)) D7 D8)=some (.nx (vg l p v D3 D4 D5 (some (.own [] true none)) D7 D8)):=
  iu (Kz (zV hq (by omega) cq rfl) (zV hb (by omega) ((pH hq (by omega) rfl).trans (by rw[eq])) rfl))
 have s12:fc (Ea (aC (bK C) [] (aa (aC (dX C bC) [] (aa (aj 4) (aa (aj 6) aq))) (aa (aj 3) aq))) (f2 (dN false) (Cm C "plain" (lU C) (aj 4)) (aj 1))) (vg l p v D3 D4 D5 (some (.own [] true none)) D7 D8)=some (.rt (.bl true) .new (vg l p v D3 D4 D5 (some (.own [] true none)) D7 D8)):=
  cV (Eb (bz (bU ((cf (Le:=[]) (by simp) rfl rfl).trans (by rw[PJ])) (aR rfl)) (v_is C (bZ p) hb (Ii hb (by omega))) rfl) (aB (uF C p rfl) rfl (zz hp.sh (neg:=false)))) rfl
 exact⟨_,(aD s1).trans ((aD s2).trans ((aD s3).trans ((aD s4).trans ((aD s5).trans ((aD s6).trans ((aD s7).trans ((aD s8).trans ((aD s9).trans ((aD s10).trans ((aD s11).trans s12))))))))))⟩
theorem a0c (C:Addr)(l:List Int):Vc C bC [.tu l]=some (.bl true,.new):=by
 obtain⟨p,⟨ho,hr,hc⟩,ep⟩:=Ob l
 have hp:PB 20 p:=⟨ho.nc,ho.nt,ho.nr,hr,hc⟩
 obtain⟨u4,e4⟩:=lR l 4
 obtain⟨u30,e30⟩:=lR l 30
 obtain⟨v,ev,_⟩:=lY (u4+u30) 90 (by omega) (by omega)
 let E (x:D):bw:=[some (.val (.tu l) false),some (.val x true),some (.val (.int v) true),none,none,none,none,none,none]
 have s1:ir 1 (aC gZ [] (aa (aj 0) (aa (fC (.int 5)) aq))) (aW 9 [.tu l])=some (.nx [some (.val (.tu l) false),some (.val p.d true),none,none,none,none,none,none,none]):=kZ (bz (bU rfl (aR rfl)) ep rfl)
 have s2:ir 2 (aC bh [] (aa (f2 aP (aC aL [] (aa (aj 0) (aa (fC (.int 4)) aq))) (aC aL [] (aa (aj 0) (aa (fC (.int 30)) aq)))) (aa (fC (.int 90)) aq))) [some (.val (.tu l) false),some (.val p.d true),none,none,none,none,none,none,none]=some (.nx (E p.d)):=
  kZ (bz (bU (aB (bz (bU rfl (aR rfl)) e4 rfl) (bz (bU rfl (aR rfl)) e30 rfl) rfl) (aR rfl)) ev rfl)
 have t1:t2 (mX λi j=>decide (i<j)) (f2 cj (aj 2) (fC (.int 5))) (fC (.int 3)) (vis (E p.d))=some (decide (v % 5<3)):=eU (aB rfl rfl (cC v 5 (by omega))) rfl rfl
 have s3:∃p',PB 30 p'/\jM (t2 (mX λi j=>decide (i<j)) (f2 cj (aj 2) (fC (.int 5))) (fC (.int 3))) (ir 1 (aC jC [] (aa (aj 1) (aa (f2 gA (aj 2) (fC (.int 5))) aq)))) cg (E p.d)=some (.nx (vg l p' v none none none none none none)):=by
  cases hv:decide (v % 5<3)with
  |false=>
   rw[hv]at t1
   exact⟨p,hp.mono (by omega),iu t1⟩
  |true=>
   rw[hv]at t1
   obtain⟨p',hp',e'⟩:=Rj p (v/5) hp
   exact⟨p',hp',(jF t1).trans (kZ (bz (bU rfl (aR (aB rfl rfl (fM v 5 (by omega) (by omega))))) e' rfl))⟩
 obtain⟨p',hp',s3⟩:=s3
 obtain⟨ρ,e⟩:=Qh C l p' v hp'
 exact mQ (G:=Oj C bC) (k:=9) ((aD s1).trans ((aD s2).trans ((aD s3).trans e))) rfl
end K
end DL
namespace DL
open PySem PySem.Spec PyProof.Rows L2
namespace KC
noncomputable def top (i:Nat):Stmt:=PySem.Challenge.pw_fencerow_k60_bare_and_fenced.main.body.getD i (.Pass ⟨0,0,0,0⟩)
section
variable {P:Program}{w:World}{K:Fg}{mg:Str->Option Value}{base:Heap}
noncomputable abbrev jq:Stmt:=top 20
theorem uc:bQ ["_law_cell","_law_k"] ["_law_cell","_law_k"] (aJ jq):=⟨rfl,rfl,rfl,by decide+kernel,rfl,by decide+kernel,by decide+kernel⟩
theorem Bs {f:Addr}{fd:FuncData}(F:pZ K "_law_mixed" "_law_mixed" jq f fd):eZ P w K mg base mD (0+1) f fd ["_law_cell","_law_k"] (pX K (DL.K.bh)):=by
 have nd:=(uc).nd
 exact gD (k:=0) F uc λcdv A outer s H E hr=>(aN (eX (aK fO fP (aK cX bY (aK (cY.or cZ) (dh.or cz) (aK aX aY (aK aX aY (aK cX bY (aK (cY.or cZ) (dh.or cz) (ao 0) az) az) (aK (cY.or cZ) (dh.or cz) (aK (cY.or cZ) (dh.or cz) az (ao 1)) (ao 1))) (aK (cY.or cZ) (dh.or cz) az (ao 1))) az) az) az)))
noncomputable abbrev jr:Stmt:=top 21
theorem ud:bQ ["_law_cell","_law_letters","_law_size","_law_at","_law_row_here","_law_found","_law_k","_law_sign","_law_name","_law_odd"] ["_law_cell"] (aJ jr):=⟨rfl,rfl,rfl,by decide+kernel,rfl,by decide+kernel,by decide+kernel⟩
theorem Bt {f:Addr}{fd:FuncData}(F:pZ K "_law_names" "_law_names" jr f fd)(ya:mg "len"=none)(yb:mg "set"=none)(yc:mg "range"=none):eZ P w K mg base mD (0+1) f fd ["_law_cell"] (pX K (DL.K.jn)):=by
 have nd:=(ud).nd
 exact gD (k:=0) F ud λcdv A outer s H E hr=>(aA (bO (i:=1) nd rfl (Or.inr rfl) bf) (aA (bO (i:=2) nd rfl (Or.inl rfl) (aK aX aY az (aK cX bY (aK fO fP (ao 0) az) az))) (aA (bO (i:=3) nd rfl (Or.inl rfl) (bD (u1 hr) (gr (ak (aK cX bY (aK fO fP (ao 0) az) (ao 2)) (ak az (ak (aK qx nj (ao 2) az) (ak az au))))) (aK cX bY (ao 0) az))) (aA (tE (i:=4) (jg:=["_law_j","_law_letters","_law_cell"]) (cap:=[none,some 1,some 0]) rfl (dY rfl rfl) (by decide) (jD (by rfl) yc az) (λcl s H C fp=>⟨(bW (i:=0) (show List.Nodup (["_law_j","_law_letters","_law_cell"]:List Str) by decide+kernel) rfl (Or.inl rfl)),lu,(bD (u1 hr) (ao 1) (aK cX bY (aK aX aY (aK fO fP (ao 2) az) (aK (cY.or cZ) (dh.or cz) az (ao 0))) az))⟩) nd rfl rfl rfl) (aA (jm (i:=5) nd rfl (Or.inl rfl) (jQ au)) (aA (iJ PassesOwn.never rfl (jD (by rfl) yc az) (cW (i:=6) nd rfl (Or.inl rfl)) (aA (bO (i:=7) nd rfl (Or.inl rfl) (bD (u1 hr) (ao 1) (aK cX bY (aK aX aY (aK fO fP (ao 0) az) (ao 6)) az))) (aA (bO (i:=8) nd rfl (Or.inl rfl) (wV PySem.F.plainAttrs_str PySem.F.slot_str_join PySem.F.type_str_join Ef Ak bf (ak (aK aX aY (aK aX aY (ji (ao 4) jH (iy (ao 3))) (gr (ak (ao 7) au))) (ji (ao 4) (iy (aK aX aY (ao 3) az)) (iy (ao 2)))) au))) (aA (iG (bH (fu (tK hr)) dg (aK cX bY (ao 0) az) az) (aN (bO (i:=8) nd rfl (Or.inl rfl) (bD (u1 hr) (gr (ak (wV PySem.F.plainAttrs_str PySem.F.slot_str_join PySem.F.type_str_join Ef Ak bf (ak (ji (ao 4) jH (iy (aK aX aY az (aK cX bY (ao 6) az)))) au)) (ak (aK aX aY (ao 7) (wV PySem.F.plainAttrs_str PySem.F.slot_str_join PySem.F.type_str_join Ef Ak bf (ak (ji (ao 4) jH (iy (aK aX aY az (aK cX bY (ao 6) az)))) au))) au))) (aK fO fP (ao 6) az)))) dD) (aN (jk 5 (pv 5) (ao 8))))))) (aA (tE (i:=9) (jg:=["_law_name"]) (cap:=[none]) rfl (dY rfl rfl) (by decide) (gU (ao 5)) (λcl s H C fp=>⟨(bW (i:=0) (show List.Nodup (["_law_name"]:List Str) by decide+kernel) rfl (Or.inl rfl)),(mK (bH (wK (O9 hr)) wN (ao 0) (dZ (uX bf (ak bf au))) (by with_unfolding_all rfl))),(ao 0)⟩) nd rfl rfl rfl) (aA (iG (u5 (uw (bH (uH (tK hr)) dg (ao 9) (gr au)) (qg (bH Ad ni (Mx rfl (by rfl) ya (by rfl) yb (ak (ao 5) au)) az)))) (aN (tH (jQ (ak bf (ak bf (ak bf (ak bf (ak bf (ak bf (ak bf (ak bf (ak bf au)))))))))))) dD) (aN (kj 5 (pv 5)))))))))))
noncomputable abbrev iB:Stmt:=top 19
theorem qJ:bQ ["_law_script","_law_k"] ["_law_script","_law_k"] (aJ iB):=⟨rfl,rfl,rfl,by decide+kernel,rfl,by decide+kernel,by decide+kernel⟩
theorem yK {f:Addr}{fd:FuncData}(F:pZ K "_law_cell_at" "_law_cell_at" iB f fd)(ya:mg "len"=none):eZ P w K mg base mD (0+1) f fd ["_law_script","_law_k"] (pX K (DL.K.aL)):=by
 have nd:=(qJ).nd
 exact gD (k:=0) F qJ λcdv A outer s H E hr=>(aA (iG (bH Ad ni (ao 1) (fU iM jN (by rfl) ya PySem.boot_len (ak (ao 0) au))) (aN (eX (bD (u1 hr) (ao 0) (ao 1)))) dD) (aN (eX az)))
noncomputable abbrev jt:Stmt:=top 22
theorem ue:bQ ["_law_cell","_law_shapes"] ["_law_cell"] (aJ jt):=⟨rfl,rfl,rfl,by decide+kernel,rfl,by decide+kernel,by decide+kernel⟩
theorem Bu {f:Addr}{fd:FuncData}(F:pZ K "_law_shape" "_law_shape" jt f fd):eZ P w K mg base mD (0+1) f fd ["_law_cell"] (pX K (DL.K.iH)):=by
 have nd:=(ue).nd
 exact gD (k:=0) F ue λcdv A outer s H E hr=>(aA (bO (i:=1) nd rfl (Or.inl rfl) (gr (ak bf (ak bf au)))) (aA (bO (i:=1) nd rfl (Or.inl rfl) (aK aX aY (ao 1) (gr (ak bf (ak bf au))))) (aA (bO (i:=1) nd rfl (Or.inl rfl) (aK aX aY (ao 1) (gr (ak bf (ak bf au))))) (aA (bO (i:=1) nd rfl (Or.inl rfl) (aK aX aY (ao 1) (gr (ak bf (ak bf au))))) (aA (bO (i:=1) nd rfl (Or.inl rfl) (aK aX aY (ao 1) (gr (ak bf (ak bf au))))) (aA (bO (i:=1) nd rfl (Or.inl rfl) (aK aX aY (ao 1) (gr (ak bf (ak bf au))))) (aA (bO (i:=1) nd rfl (Or.inl rfl) (aK aX aY (ao 1) (gr (ak bf (ak bf au))))) (aA (bO (i:=1) nd rfl (Or.inl rfl) (aK aX aY (ao 1) (gr (ak bf (ak bf au))))) (aN (eX (bD (u1 hr) (ao 1) (aK cX bY (ao 0) az))))))))))))
noncomputable abbrev j4:Stmt:=top 23
theorem rQ:bQ ["_law_cell","_law_names_here","_law_more","_law_threads","_law_rows","_law_found","_law_row_here","_law_words","_law_form","_law_parts","_law_kind","_law_word","_law_number","_law_part"] ["_law_cell","_law_names_here","_law_more"] (aJ j4):=⟨rfl,rfl,rfl,by decide+kernel,rfl,by decide+kernel,by decide+kernel⟩
theorem zY {f:Addr}{fd:FuncData}(F:pZ K "_law_shaped" "_law_shaped" j4 f fd)(qD:jx P w K mg base "_law_shape" 1 (DL.K.iH) [])(ya:mg "tuple"=none)(yb:mg "zip"=none)(yc:mg "int"=none):eZ P w K mg base mD (1+1) f fd ["_law_cell","_law_names_here","_law_more"] (pX K (DL.K.dR)):=by
 have nd:=(rQ).nd
 exact gD (k:=1) F rQ λcdv A outer s H E hr=>(aA (jm (i:=3) nd rfl (Or.inl rfl) (jQ au)) (aA (iJ PassesOwn.never rfl (gU (dZ (uX (xC qD hr (ak (ao 0) au)) (ak bf au)))) (cW (i:=4) nd rfl (Or.inl rfl)) (aA (jm (i:=5) nd rfl (Or.inl rfl) (jQ au)) (aA (iJ PassesOwn.never rfl (gU (dZ (uX (ao 4) (ak bf au)))) (cW (i:=6) nd rfl (Or.inl rfl)) (aA (bO (i:=7) nd rfl (Or.inl rfl) (dZ (uX (ao 6) (ak bf au)))) (aA (bO (i:=8) nd rfl (Or.inl rfl) (bD (u1 hr) (SM (pL bf bf (pL bf bf (pL bf bf (pL bf bf (pL bf bf (pL bf bf U7))))))) (bD (u1 hr) (ao 7) az))) (aA (jm (i:=9) nd rfl (Or.inl rfl) (jQ (ak (bD (u1 hr) (ao 7) az) au))) (aA (iJ PassesOwn.never rfl (Pr (by rfl) yb (ak (ao 8) (ak (ji (ao 7) (iy az) jH) au))) (rB (n:=2) rfl (fV (cW (i:=10) nd rfl (Or.inl rfl)) (fV (cW (i:=11) nd rfl (Or.inl rfl)) oG))) (aA (bO (i:=12) nd rfl (Or.inl rfl) (Pq (mY (Wa PySem.F.plainAttrs_str PySem.F.slot_str_isdigit PySem.F.type_str_isdigit Jq Ib (ao 11))) (cU (sG.or sH) (z8.or vz) (by rfl) yc (by decide+kernel) (ak (ao 11) au)) az)) (aA (bO (i:=13) nd rfl (Or.inl rfl) (aK aX aY (ao 12) (aK (cY.or cZ) (dh.or cz) (ao 2) (cU (sG.or sH) (z8.or vz) (by rfl) yc (by decide+kernel) (ak (uv (fu (tK hr)) dg (ao 10) bf) au))))) (aA (iG (bH (wK (O9 hr)) wN (ao 11) (dm (ak bf (ak bf au))) (by with_unfolding_all rfl)) (aN (bO (i:=13) nd rfl (Or.inl rfl) (bD (u1 hr) (ao 1) (aK aX aY az (wV PySem.F.plainAttrs_str PySem.F.slot_str_find PySem.F.type_str_find Tz QS bf (ak (ao 11) au)))))) dD) (aN (jk 9 (pv 9) (Pq (bH (fu (tK hr)) dg (ao 10) bf) (bD (u1 hr) (ao 1) (ao 12)) (ao 13)))))))) (aN (jk 5 (pv 5) (cU (bR.or (eG rfl)) (eN.or fX) (by rfl) ya (by decide+kernel) (ak (ao 9) au))))))))) (aN (Eu 5 (jk 3 (pv 3) (ao 5))))))) (aN (kj 3 (pv 3)))))
noncomputable abbrev lO:Stmt:=top 24
theorem yp:bQ ["_law_cell","_law_names_here","_law_left","_law_k","_law_spot","_law_box","_law_other","_law_value","_law_way"] ["_law_cell","_law_names_here","_law_left","_law_k"] (aJ lO):=⟨rfl,rfl,rfl,by decide+kernel,rfl,by decide+kernel,by decide+kernel⟩
theorem Hz {f:Addr}{fd:FuncData}(F:pZ K "_law_row" "_law_row" lO f fd)(ya:mg "min"=none):eZ P w K mg base mD (0+1) f fd ["_law_cell","_law_names_here","_law_left","_law_k"] (pX K (DL.K.lF)):=by
 have nd:=(yp).nd
 exact gD (k:=0) F yp λcdv A outer s H E hr=>(aA (bO (i:=4) nd rfl (Or.inl rfl) (bD (u1 hr) (ao 1) (aK cX bY (aK fO fP (ao 0) az) az))) (aA (bO (i:=5) nd rfl (Or.inl rfl) (bD (u1 hr) (ao 1) (aK aX aY az (aK cX bY (aK fO fP (ao 0) az) az)))) (aA (bO (i:=6) nd rfl (Or.inl rfl) (bD (u1 hr) (ao 1) (aK aX aY az (aK cX bY (aK fO fP (ao 0) az) az)))) (aA (bO (i:=7) nd rfl (Or.inl rfl) (bD (u1 hr) (gr (ak (aK aX aY az (ao 3)) (ak (aK cX bY (aK fO fP (ao 0) az) az) (ak (ao 5) au)))) (aK cX bY (aK fO fP (ao 0) az) az))) (aA (bO (i:=8) nd rfl (Or.inl rfl) (aK cX bY (ao 0) az)) (aA (iG (bH Ad ni (ao 8) az) (aN (eX (dm (ak bf (ak (ao 4) (ak (ao 7) au)))))) dD) (aA (iG (bH Ad ni (ao 8) az) (aN (eX (dm (ak bf (ak (ao 5) (ak (ao 4) au)))))) dD) (aA (iG (bH (fu (tK hr)) dg (ao 8) az) (aN (eX (dm (ak bf (ak (ao 5) (ak (ao 4) (ak (bD (u1 hr) (gr (ak (aK aX aY az (ao 3)) (ak (ao 6) au))) (aK cX bY (aK fO fP (ao 0) az) az)) au))))))) dD) (aA (iG (u5 (uw (bH (fu (tK hr)) dg (ao 8) az) (qg (u5 (DX (bH (fu (tK hr)) dg (ao 2) az) (zH (bH (fu (tK hr)) dg (ao 8) az))))))) (aN (eX (dm (ak bf (ak (ao 5) (ak (ao 6) (ak (ao 7) au))))))) dD) (aA (iG (bH (fu (tK hr)) dg (ao 8) az) (aN (eX (dm (ak bf (ak (ao 5) (ak (aK cX bY (aK fO fP (ao 0) az) (aK aX aY az (fU (vY rfl) Em (by rfl) ya (by decide+kernel) (ak (ao 2) (ak az au))))) au)))))) dD) (aN (eX (dm (ak bf au))))))))))))))
noncomputable abbrev j6:Stmt:=top 25
theorem rT:bQ ["_law_script","_law_t","_law_names_here","_law_most","_law_many","_law_found","_law_few","_law_k","_law_cell","_law_row_here","_law_fences"] ["_law_script","_law_t","_law_names_here","_law_most","_law_many"] (aJ j6):=⟨rfl,rfl,rfl,by decide+kernel,rfl,by decide+kernel,by decide+kernel⟩
theorem Aa {f:Addr}{fd:FuncData}(F:pZ K "_law_thread" "_law_thread" j6 f fd)(ya:mg "range"=none)(uI:jx P w K mg base "_law_row" 1 (DL.K.lF) [])(bJ:jx P w K mg base "_law_cell_at" 1 (DL.K.aL) [])(bI:jx P w K mg base "_law_mixed" 1 (DL.K.bh) [])(yb:mg "int"=none):eZ P w K mg base mD (1+1) f fd ["_law_script","_law_t","_law_names_here","_law_most","_law_many"] (pX K (DL.K.fJ)):=by
 have nd:=(rT).nd
 exact gD (k:=1) F rT λcdv A outer s H E hr=>(aA (jm (i:=5) nd rfl (Or.inl rfl) (jQ au)) (aA (bO (i:=6) nd rfl (Or.inl rfl) (bD (u1 hr) (gr (ak az (ak az au))) (cU (sG.or sH) (z8.or vz) (by rfl) yb (by decide+kernel) (ak (uv Vn ni (ao 3) az) au)))) (aA (iJ PassesOwn.never rfl (jD (by rfl) ya (ao 4)) (cW (i:=7) nd rfl (Or.inl rfl)) (aA (bO (i:=8) nd rfl (Or.inl rfl) (xC bI hr (ak (xC bJ hr (ak (ao 0) (ak (aK aX aY (aK aX aY az (aK (cY.or cZ) (dh.or cz) az (ao 1))) (ao 7)) au))) (ak (aK aX aY (aK (cY.or cZ) (dh.or cz) az (ao 1)) (ao 7)) au)))) (aA (bO (i:=9) nd rfl (Or.inl rfl) (xC uI hr (ak (ao 8) (ak (ao 2) (ak (aK qx nj (aK qx nj (ao 4) az) (ao 7)) (ak (aK aX aY (aK (cY.or cZ) (dh.or cz) az (ao 1)) (ao 7)) au)))))) (aA (bO (i:=10) nd rfl (Or.inl rfl) (wV PySem.F.plainAttrs_list PySem.F.slot_list_count PySem.F.type_list_count (Hu (u66 hr)) Dd (ao 5) (ak (dm (ak bf au)) au))) (aA (iG (u5 (DX (bH (fu (tK hr)) dg (ao 10) (ao 6)) (zH (bH (fu (tK hr)) dg (ao 9) (dm (ak bf au)))))) (aN (bO (i:=9) nd rfl (Or.inl rfl) (dm (ak bf (ak (bD (u1 hr) (ao 2) az) (ak (bD (u1 hr) (ao 2) az) au)))))) dD) (aA (iG (bH (fu (tK hr)) dg (aK qx nj (ao 7) (ao 10)) (ao 3)) (aN (bO (i:=9) nd rfl (Or.inl rfl) (dm (ak bf au)))) dD) (aN (jk 5 (pv 5) (ao 9))))))))) (aN (kj 5 (pv 5))))))
noncomputable abbrev iC:Stmt:=top 26
theorem qK:bQ ["_law_script","_law_most","_law_cell","_law_names_here","_law_first","_law_some","_law_cells","_law_threads","_law_many","_law_t","_law_size","_law_words","_law_rows","_law_row_here"] ["_law_script","_law_most"] (aJ iC):=⟨rfl,rfl,rfl,by decide+kernel,rfl,by decide+kernel,by decide+kernel⟩
theorem yL {f:Addr}{fd:FuncData}(F:pZ K "_law_program" "_law_program" iC f fd)(ya:mg "tuple"=none)(yb:mg "max"=none)(yc:mg "range"=none)(yd:mg "list"=none)(bJ:jx P w K mg base "_law_cell_at" 1 (DL.K.aL) [])(p8:jx P w K mg base "_law_shaped" 2 (DL.K.dR) [])(lX:jx P w K mg base "_law_thread" 2 (DL.K.fJ) [])(bI:jx P w K mg base "_law_mixed" 1 (DL.K.bh) [])(ye:mg "int"=none)(yf:mg "min"=none)(qC:jx P w K mg base "_law_names" 1 (DL.K.jn) []):eZ P w K mg base mD (2+1) f fd ["_law_script","_law_most"] (pX K (DL.K.gZ)):=by
 have nd:=(qK).nd
 exact gD (k:=2) F qK λcdv A outer s H E hr=>(aA (bO (i:=2) nd rfl (Or.inl rfl) (xC bI hr (ak (xC bJ hr (ak (ao 0) (ak az au))) (ak az au)))) (aA (bO (i:=3) nd rfl (Or.inr rfl) (xC qC hr (ak (aK fO fP (ao 2) az) au))) (aA (bO (i:=4) nd rfl (Or.inr rfl) (xC bI hr (ak (xC bJ hr (ak (ao 0) (ak az au))) (ak az au)))) (aA (bO (i:=5) nd rfl (Or.inr rfl) (gr (ak az (ak az (ak (aK cX bY (aK fO fP (ao 4) az) az) (ak az au)))))) (aA (bO (i:=6) nd rfl (Or.inl rfl) (cU (bR.or (eG rfl)) (eN.or fX) (by rfl) ya (by decide+kernel) (ak (dZ (gQ (jg:=["_law_k","_law_names_here","_law_some","_law_first"]) (cap:=[none,some 3,some 5,some 4]) rfl (dY rfl rfl) (by decide) (jD (by rfl) yc az) (λcl s H C fp=>⟨(bW (i:=0) (show List.Nodup (["_law_k","_law_names_here","_law_some","_law_first"]:List Str) by decide+kernel) rfl (Or.inl rfl)),lu,(dm (ak (bD (u1 hr) (ao 1) (ao 0)) (ak (bD (u1 hr) (ao 2) (aK cX bY (aK aX aY (ao 3) (ao 0)) az)) au)))⟩))) au))) (aA (iG (bH (fu (tK hr)) dg (aK cX bY (xC bJ hr (ak (ao 0) (ak az au))) az) az) (aN (jm (i:=7) nd rfl (Or.inl rfl) (xN p8 hr (ak (aK fO fP (xC bJ hr (ak (ao 0) (ak az au))) az) (ak (ao 3) (ak (aK (cY.or cZ) (dh.or cz) (aK cX bY (xC bJ hr (ak (ao 0) (ak az au))) az) az) au)))))) (aA (bO (i:=8) nd rfl (Or.inl rfl) (bD (u1 hr) (gr (ak az (ak az (ak az (ak az (ak az au)))))) (aK cX bY (aK fO fP (xC bJ hr (ak (ao 0) (ak az au))) az) az))) (aA (bO (i:=1) nd rfl (Or.inl rfl) (fU (vY rfl) Em (by rfl) yf (by decide+kernel) (ak (ao 1) (ak (bD (u1 hr) (gr (ak az (ak az (ak az (ak az au))))) (ao 8)) au)))) (aA (jm (i:=7) nd rfl (Or.inl rfl) (jQ au)) (aN (iJ PassesOwn.never rfl (jD (by rfl) yc (ao 8)) (cW (i:=9) nd rfl (Or.inl rfl)) (aA (bO (i:=10) nd rfl (Or.inl rfl) (aK cX bY (xC bI hr (ak (aK (cY.or cZ) (dh.or cz) (xC bJ hr (ak (ao 0) (ak az au))) (aK aX aY az (aK (cY.or cZ) (dh.or cz) az (ao 9)))) (ak (ao 9) au))) (aK aX aY (ao 1) (bD (u1 hr) (gr (ak az (ak az au))) (cU (sG.or sH) (z8.or vz) (by rfl) ye (by decide+kernel) (ak (uv Vn ni (ao 1) az) au)))))) (aN (R4 (jk 7 (pv 7) (xC lX hr (ak (ao 0) (ak (ao 9) (ak (ao 3) (ak (ao 1) (ak (ao 10) au))))))) (JF 7 (jk 7 (pv 7) (xC lX hr (ak (ao 0) (ak (ao 9) (ak (ao 3) (ak (ao 1) (ak (ao 10) au))))))))))))))))) (aA (bO (i:=11) nd rfl (Or.inr rfl) (gr au)) (aA (Eu 7 (iJ PassesOwn.never rfl (gU (ao 7)) (cW (i:=12) nd rfl (Or.inl rfl)) (aN (iJ PassesOwn.never rfl (gU (ao 12)) (cW (i:=13) nd rfl (Or.inl rfl)) (aN (bO (i:=11) nd rfl (Or.inr rfl) (aK aX aY (ao 11) (dZ (yR (pt:=⟨0,0,0,0⟩) (by rfl) yd (ak (ao 13) au)))))))))) (aA (bO (i:=8) nd rfl (Or.inl rfl) (fU (Mj rfl) Qw (by rfl) yb (by decide+kernel) (ak (aK aX aY (gr (ak (aK aX aY az (aK cX bY (aK fO fP (ao 4) az) az)) au)) (dZ (gQ (jg:=["_law_k","_law_words","_law_names_here"]) (cap:=[none,some 11,some 3]) rfl (dY rfl rfl) (by decide) (jD (by rfl) yc az) (λcl s H C fp=>⟨(bW (i:=0) (show List.Nodup (["_law_k","_law_words","_law_names_here"]:List Str) by decide+kernel) rfl (Or.inl rfl)),(mK (bH (wK (O9 hr)) wN (bD (u1 hr) (ao 2) (ao 0)) (ao 1) (by with_unfolding_all rfl))),(aK aX aY (ao 0) az)⟩)))) au))) (aN (eX (dm (ak (ji (ao 6) jH (iy (ao 8))) (ak (cU (bR.or (eG rfl)) (eN.or fX) (by rfl) ya (by decide+kernel) (ak (dZ (gQ (jg:=["_law_rows"]) (cap:=[none]) rfl (dY rfl rfl) (by decide) (gU (ao 7)) (λcl s H C fp=>⟨(bW (i:=0) (show List.Nodup (["_law_rows"]:List Str) by decide+kernel) rfl (Or.inl rfl)),lu,(cU (bR.or (eG rfl)) (eN.or fX) (by rfl) ya (by decide+kernel) (ak (ao 0) au))⟩))) au)) au))))))))))))))
noncomputable abbrev gk:Stmt:=top 27
theorem oR:bQ ["_law_rows","_law_left","_law_found","_law_at","_law_row_here","_law_ahead"] ["_law_rows"] (aJ gk):=⟨rfl,rfl,rfl,by decide+kernel,rfl,by decide+kernel,by decide+kernel⟩
theorem vq {f:Addr}{fd:FuncData}(F:pZ K "_law_bare_rows" "_law_bare_rows" gk f fd)(ya:mg "tuple"=none)(yb:mg "len"=none)(yc:mg "range"=none):eZ P w K mg base mD (0+1) f fd ["_law_rows"] (pX K (DL.K.gY)):=by
 have nd:=(oR).nd
 exact gD (k:=0) F oR λcdv A outer s H E hr=>(aA (tE (i:=1) (jg:=["_law_at","_law_rows"]) (cap:=[none,some 0]) rfl (dY rfl rfl) (by decide) (jD (by rfl) yc (fU iM jN (by rfl) yb PySem.boot_len (ak (ao 0) au))) (λcl s H C fp=>⟨(bW (i:=0) (show List.Nodup (["_law_at","_law_rows"]:List Str) by decide+kernel) rfl (Or.inl rfl)),(mK (bH (uH (tK hr)) dg (bD (u1 hr) (ao 1) (ao 0)) (dm (ak bf au)))),(ao 0)⟩) nd rfl rfl rfl) (aA (jm (i:=2) nd rfl (Or.inl rfl) (jQ au)) (aA (Eu 1 (iJ PassesOwn.never rfl (gU (ao 1)) (cW (i:=3) nd rfl (Or.inr rfl)) (aA (bO (i:=4) nd rfl (Or.inr rfl) (bD (u1 hr) (ao 0) (ao 3))) (aA (iG (bH (fu (tK hr)) dg (bD (u1 hr) (ao 4) az) bf) (aA (tE (i:=5) (jg:=["_law_k","_law_at","_law_row_here"]) (cap:=[none,some 3,some 4]) rfl (dY rfl rfl) (by decide) (gU (ao 1)) (λcl s H C fp=>⟨(bW (i:=0) (show List.Nodup (["_law_k","_law_at","_law_row_here"]:List Str) by decide+kernel) rfl (Or.inl rfl)),(mK (bH Ad ni (ao 0) (aK aX aY (aK aX aY (ao 1) az) (bD (u1 hr) (ao 2) az)))),(ao 0)⟩) nd rfl rfl rfl) (aN (bO (i:=4) nd rfl (Or.inr rfl) (dm (ak bf (ak (bD (u1 hr) (ao 4) az) (ak (aK qx nj (aK qx nj (fU iM jN (by rfl) yb PySem.boot_len (ak (ao 5) au)) (wV PySem.F.plainAttrs_list PySem.F.slot_list_index PySem.F.type_list_index (Hv (u66 hr)) De (ao 1) (ak (ao 3) au))) az) au))))))) dD) (aN (jk 2 (pv 2) (ao 4))))))) (aN (eX (cU (bR.or (eG rfl)) (eN.or fX) (by rfl) ya (by decide+kernel) (ak (ao 2) au)))))))
noncomputable abbrev jY:Stmt:=top 28
theorem vD:bQ ["_law_plain"] ["_law_plain"] (aJ jY):=⟨rfl,rfl,rfl,by decide+kernel,rfl,by decide+kernel,by decide+kernel⟩
theorem Ej {f:Addr}{fd:FuncData}(F:pZ K "_law_bare" "_law_bare" jY f fd)(ya:mg "tuple"=none)(lM:jx P w K mg base "_law_bare_rows" 1 (DL.K.gY) []):eZ P w K mg base mD (1+1) f fd ["_law_plain"] (pX K (DL.K.jV)):=by
 have nd:=(vD).nd
 exact gD (k:=1) F vD λcdv A outer s H E hr=>(aN (eX (dm (ak (bD (u1 hr) (ao 0) az) (ak (cU (bR.or (eG rfl)) (eN.or fX) (by rfl) ya (by decide+kernel) (ak (dZ (gQ (jg:=["_law_rows"]) (cap:=[none]) rfl (dY rfl rfl) (by decide) (gU (bD (u1 hr) (ao 0) az)) (λcl s H C fp=>⟨(bW (i:=0) (show List.Nodup (["_law_rows"]:List Str) by decide+kernel) rfl (Or.inl rfl)),lu,(xC lM hr (ak (ao 0) au))⟩))) au)) au)))))
noncomputable abbrev pQ:Stmt:=top 5
theorem Di:bQ ["kind","part"] ["kind","part"] (aJ pQ):=⟨rfl,rfl,rfl,by decide+kernel,rfl,by decide+kernel,by decide+kernel⟩
theorem Nx {f:Addr}{fd:FuncData}(F:pZ K "is_box" "is_box" pQ f fd)(ya:mg "isinstance"=none)(yb:mg "str"=none):eZ P w K mg base mD (0+1) f fd ["kind","part"] (pX K (DL.K.nM)):=by
 have nd:=(Di).nd
 exact gD (k:=0) F Di λcdv A outer s H E hr=>(aN (eX (YG (uv (fu (tK hr)) dg (ao 0) bf) (DW (DP (uv (fu (tK hr)) dg (ao 0) bf) (DW (Wb (T:="str") (by decide) (by rfl) ya (by rfl) yb (by decide+kernel) (ao 1))))))))
noncomputable abbrev iD:Stmt:=top 4
theorem qL:bQ ["row"] ["row"] (aJ iD):=⟨rfl,rfl,rfl,by decide+kernel,rfl,by decide+kernel,by decide+kernel⟩
theorem yM {f:Addr}{fd:FuncData}(F:pZ K "boxes_of_row" "boxes_of_row" iD f fd)(ya:mg "zip"=none)(yb:mg "FORMS"=some (.ref yc))(yd:KTD.tabLook (iw K) (λb=>K.lookup b) yc DL.K.bC=true)(Aj:jx P w K mg base "is_box" 1 (DL.K.nM) []):eZ P w K mg base mD (1+1) f fd ["row"] (pX K (DL.K.ie DL.K.bC)):=by
 have nd:=(qL).nd
 exact gD (k:=1) F qL λcdv A outer s H E hr=>(aN (tH (gQ (jg:=["kind","part"]) (cap:=[none,none]) rfl (dY rfl rfl) (by decide) (Pr (by rfl) ya (ak (We DL.K.bC (by rfl) yb yd (bD (u1 hr) (ao 0) az) (λ_ _=>rfl)) (ak (ji (ao 0) (iy az) jH) au))) (λcl s H C fp=>⟨(sJ (n:=2) rfl (gH (bW (i:=0) (show List.Nodup (["kind","part"]:List Str) by decide+kernel) rfl (Or.inl rfl)) (gH (bW (i:=1) (show List.Nodup (["kind","part"]:List Str) by decide+kernel) rfl (Or.inl rfl)) pI))),(mK (mY (xC Aj hr (ak (ao 0) (ak (ao 1) au))))),(ao 1)⟩))))
noncomputable abbrev gJ:Stmt:=top 3
theorem pR:bQ ["rows","names","row","name"] ["rows"] (aJ gJ):=⟨rfl,rfl,rfl,by decide+kernel,rfl,by decide+kernel,by decide+kernel⟩
theorem wJ {f:Addr}{fd:FuncData}(F:pZ K "boxes_of_rows" "boxes_of_rows" gJ f fd)(ya:mg "tuple"=none)(o5:jx P w K mg base "boxes_of_row" 2 (DL.K.ie DL.K.bC) []):eZ P w K mg base mD (2+1) f fd ["rows"] (pX K (DL.K.gG DL.K.bC)):=by
 have nd:=(pR).nd
 exact gD (k:=2) F pR λcdv A outer s H E hr=>(aA (Uw (i:=1) nd rfl (Or.inl rfl) SX) (aA (iJ PassesOwn.never rfl (gU (ao 0)) (cW (i:=2) nd rfl (Or.inl rfl)) (aN (iJ PassesOwn.never rfl (gU (xC o5 hr (ak (ao 2) au))) (cW (i:=3) nd rfl (Or.inl rfl)) (aN (Ux (u1 hr) 1 (pv 1) (ao 3) Gp))))) (aN (eX (cU (bR.or (eG rfl)) (eN.or fX) (by rfl) ya (by decide+kernel) (ak (ao 1) au))))))
noncomputable abbrev nG:Stmt:=inClass (top 2) 0
theorem An:bQ ["self","cells","threads"] ["self","cells","threads"] (aJ nG):=⟨rfl,rfl,rfl,by decide+kernel,rfl,by decide+kernel,by decide+kernel⟩
theorem Jv {f:Addr}{fd:FuncData}(F:pZ K "__init__" "Program.__init__" nG f fd)(ya:BK K yb)(yc:j8 K yb "cells")(yd:j8 K yb "threads")(ye:mg "tuple"=none)(yf:j8 K yb "cell_names")(mL:jx P w K mg base "boxes_of_rows" 3 (DL.K.gG DL.K.bC) [])(yg:j8 K yb "box_names"):eZ P w K mg base mD (3+1) f fd ["self","cells","threads"] (Ey K yb (DL.K.pD DL.K.bC)):=by
 have nd:=(An).nd
 exact T4 (k:=3) F An λcdv A outer s H E hr=>(sX ya yc (pv 0) (ao 1) (sX ya yd (pv 0) (ao 2) (sX ya yf (pv 0) (cU (bR.or (eG rfl)) (eN.or fX) (by rfl) ye (by decide+kernel) (ak (dZ (gQ (jg:=["name","number"]) (cap:=[none,none]) rfl (dY rfl rfl) (by decide) (gU (ao 1)) (λcl s H C fp=>⟨(sJ (n:=2) rfl (gH (bW (i:=0) (show List.Nodup (["name","number"]:List Str) by decide+kernel) rfl (Or.inl rfl)) (gH (bW (i:=1) (show List.Nodup (["name","number"]:List Str) by decide+kernel) rfl (Or.inl rfl)) pI))),lu,(ao 0)⟩))) au)) (sX ya yg (pv 0) (cU (bR.or (eG rfl)) (eN.or fX) (by rfl) ye (by decide+kernel) (ak (dZ (gQ (jg:=["rows"]) (cap:=[none]) rfl (dY rfl rfl) (by decide) (gU (ao 2)) (λcl s H C fp=>⟨(bW (i:=0) (show List.Nodup (["rows"]:List Str) by decide+kernel) rfl (Or.inl rfl)),lu,(xC mL hr (ak (ao 0) au))⟩))) au)) Qa))))
noncomputable abbrev kh:Stmt:=top 8
theorem vH:bQ ["parts"] ["parts"] (aJ kh):=⟨rfl,rfl,rfl,by decide+kernel,rfl,by decide+kernel,by decide+kernel⟩
theorem El {f:Addr}{fd:FuncData}(F:pZ K "tuples_of" "tuples_of" kh f fd)(ya:mg "tuple"=none):eZ P w K mg base mD (0+1) f fd ["parts"] (pX K (DL.K.gK)):=by
 have nd:=(vH).nd
 exact gD (k:=0) F vH λcdv A outer s H E hr=>(aN (eX (cU (bR.or (eG rfl)) (eN.or fX) (by rfl) ya (by decide+kernel) (ak (dZ (gQ (jg:=["part"]) (cap:=[none]) rfl (dY rfl rfl) (by decide) (gU (ao 0)) (λcl s H C fp=>⟨(bW (i:=0) (show List.Nodup (["part"]:List Str) by decide+kernel) rfl (Or.inl rfl)),lu,(cU (bR.or (eG rfl)) (eN.or fX) (by rfl) ya (by decide+kernel) (ak (ao 0) au))⟩))) au))))
noncomputable abbrev jw:Stmt:=top 7
theorem ug:bQ ["plain"] ["plain"] (aJ jw):=⟨rfl,rfl,rfl,by decide+kernel,rfl,by decide+kernel,by decide+kernel⟩
theorem Bw {f:Addr}{fd:FuncData}(F:pZ K "program_of" "program_of" jw f fd)(ya:mg "tuple"=none)(oN:jx P w K mg base "tuples_of" 1 (DL.K.gK) [])(yb:Mk K yc yd)(ye:eZ P w K mg base mD 4 yd yf ["self","cells","threads"] (Ey K yc (DL.K.pD DL.K.bC)))(yg:mg "Program"=some (.ref yc))(yh:Binds K yf ["self","cells","threads"] []):eZ P w K mg base mD (5+1) f fd ["plain"] (pX K (DL.K.dw yc DL.K.bC)):=by
 have nd:=(ug).nd
 exact gD (k:=5) F ug λcdv A outer s H E hr=>(aN (Ew (T3 yb ye (hr.mono (by decide)) (by rfl) yg yh (ak (xC oN hr (ak (bD (u1 hr) (ao 0) az) au)) (ak (cU (bR.or (eG rfl)) (eN.or fX) (by rfl) ya (by decide+kernel) (ak (dZ (gQ (jg:=["rows"]) (cap:=[none]) rfl (dY rfl rfl) (by decide) (gU (bD (u1 hr) (ao 0) az)) (λcl s H C fp=>⟨(bW (i:=0) (show List.Nodup (["rows"]:List Str) by decide+kernel) rfl (Or.inl rfl)),lu,(xC oN hr (ak (ao 0) au))⟩))) au)) au)))))
noncomputable abbrev fQ:Stmt:=top 32
theorem o6:bQ ["_law_plain","_law_found","_law_t","_law_rows"] ["_law_plain"] (aJ fQ):=⟨rfl,rfl,rfl,by decide+kernel,rfl,by decide+kernel,by decide+kernel⟩
theorem uG {f:Addr}{fd:FuncData}(F:pZ K "_law_all_places" "_law_all_places" fQ f fd)(ya:mg "enumerate"=none)(yb:mg "range"=none)(yc:mg "len"=none):eZ P w K mg base mD (0+1) f fd ["_law_plain"] (pX K (DL.K.dW)):=by
 have nd:=(o6).nd
 exact gD (k:=0) F o6 λcdv A outer s H E hr=>(aA (jm (i:=1) nd rfl (Or.inl rfl) (jQ au)) (aA (iJ PassesOwn.never rfl (qi (by rfl) ya (bD (u1 hr) (ao 0) az)) (rB (n:=2) rfl (fV (cW (i:=2) nd rfl (Or.inr rfl)) (fV (cW (i:=3) nd rfl (Or.inl rfl)) oG))) (aN (XM 1 (pv 1) (dZ (gQ (jg:=["_law_at","_law_t"]) (cap:=[none,some 2]) rfl (dY rfl rfl) (by decide) (Cj (by rfl) yb az (fU iM jN (by rfl) yc PySem.boot_len (ak (ao 3) au))) (λcl s H C fp=>⟨(bW (i:=0) (show List.Nodup (["_law_at","_law_t"]:List Str) by decide+kernel) rfl (Or.inl rfl)),lu,(dm (ak (ao 1) (ak (ao 0) au)))⟩)))))) (aN (kj 1 (pv 1)))))
noncomputable abbrev iZ:Stmt:=top 33
theorem rP:bQ ["_law_plain","_law_cell","_law_found","_law_k","_law_place"] ["_law_plain","_law_cell"] (aJ iZ):=⟨rfl,rfl,rfl,by decide+kernel,rfl,by decide+kernel,by decide+kernel⟩
theorem zX {f:Addr}{fd:FuncData}(F:pZ K "_law_places" "_law_places" iZ f fd)(ya:mg "enumerate"=none)(lz:jx P w K mg base "_law_all_places" 1 (DL.K.dW) [])(bI:jx P w K mg base "_law_mixed" 1 (DL.K.bh) [])(yb:mg "len"=none):eZ P w K mg base mD (1+1) f fd ["_law_plain","_law_cell"] (pX K (DL.K.iV)):=by
 have nd:=(rP).nd
 exact gD (k:=1) F rP λcdv A outer s H E hr=>(aA (jm (i:=2) nd rfl (Or.inl rfl) (jQ au)) (aA (iJ PassesOwn.never rfl (qi (by rfl) ya (xC lz hr (ak (ao 0) au))) (rB (n:=2) rfl (fV (cW (i:=3) nd rfl (Or.inl rfl)) (fV (cW (i:=4) nd rfl (Or.inl rfl)) oG))) (aN (iG (bH (fu (tK hr)) dg (aK cX bY (xC bI hr (ak (aK (cY.or cZ) (dh.or cz) (ao 1) (aK aX aY az (aK (cY.or cZ) (dh.or cz) az (ao 3)))) (ak (ao 3) au))) (bD (u1 hr) (gr (ak az (ak az (ak az au)))) (aK cX bY (ao 1) az))) az) (aN (R0 2 (pv 2) (aK cX bY (xC bI hr (ak (aK (cY.or cZ) (dh.or cz) (ao 1) (aK aX aY az (aK (cY.or cZ) (dh.or cz) az (ao 3)))) (ak (aK aX aY az (ao 3)) au))) (aK aX aY (fU iM jN (by rfl) yb PySem.boot_len (ak (ao 2) au)) az)) (ao 4))) dD))) (aN (kj 2 (pv 2)))))
noncomputable abbrev fD:Stmt:=top 29
theorem mW:bQ ["_law_rows","_law_spots","_law_order","_law_at","_law_found","_law_kind","_law_row_here","_law_goals"] ["_law_rows","_law_spots"] (aJ fD):=⟨rfl,rfl,rfl,by decide+kernel,rfl,by decide+kernel,by decide+kernel⟩
theorem tQ {f:Addr}{fd:FuncData}(F:pZ K "_law_fenced_rows" "_law_fenced_rows" fD f fd)(ya:mg "tuple"=none)(yb:mg "range"=none)(yc:mg "len"=none):eZ P w K mg base mD (0+1) f fd ["_law_rows","_law_spots"] (pX K (DL.K.dG)):=by
 have nd:=(mW).nd
 exact gD (k:=0) F mW λcdv A outer s H E hr=>(aA (jm (i:=2) nd rfl (Or.inr rfl) (jQ au)) (aA (iJ PassesOwn.never rfl (jD (by rfl) yb (fU iM jN (by rfl) yc PySem.boot_len (ak (ao 0) au))) (cW (i:=3) nd rfl (Or.inr rfl)) (aA (iG (bH (wK (O9 hr)) wN (ao 3) (ao 1) (by with_unfolding_all rfl)) (aN (jk 2 (pv 2) (dm (ak bf (ak (ao 3) au))))) dD) (aN (jk 2 (pv 2) (dm (ak bf (ak (ao 3) au))))))) (aA (jm (i:=4) nd rfl (Or.inl rfl) (jQ au)) (aA (Eu 2 (iJ PassesOwn.never rfl (gU (ao 2)) (rB (n:=2) rfl (fV (cW (i:=5) nd rfl (Or.inl rfl)) (fV (cW (i:=3) nd rfl (Or.inr rfl)) oG))) (aA (bO (i:=6) nd rfl (Or.inr rfl) (Pq (bH (fu (tK hr)) dg (ao 5) bf) (dm (ak bf au)) (bD (u1 hr) (ao 0) (ao 3)))) (aA (iG (bH (fu (tK hr)) dg (bD (u1 hr) (ao 6) az) bf) (aA (bO (i:=7) nd rfl (Or.inl rfl) (aK aX aY (dZ (gQ (jg:=["_law_k","_law_order","_law_at","_law_row_here"]) (cap:=[none,some 2,some 3,some 6]) rfl (dY rfl rfl) (by decide) (jD (by rfl) yb (fU iM jN (by rfl) yc PySem.boot_len (ak (ao 2) au))) (λcl s H C fp=>⟨(bW (i:=0) (show List.Nodup (["_law_k","_law_order","_law_at","_law_row_here"]:List Str) by decide+kernel) rfl (Or.inl rfl)),(mK (bH (fu (tK hr)) dg (bD (u1 hr) (bD (u1 hr) (ao 1) (ao 0)) az) (aK aX aY (aK aX aY (ao 2) az) (bD (u1 hr) (ao 3) az)))),(ao 0)⟩))) (gr (ak (fU iM jN (by rfl) yc PySem.boot_len (ak (ao 2) au)) au)))) (aN (bO (i:=6) nd rfl (Or.inr rfl) (dm (ak bf (ak (bD (u1 hr) (ao 6) az) (ak (aK qx nj (aK qx nj (bD (u1 hr) (ao 7) az) (wV PySem.F.plainAttrs_list PySem.F.slot_list_index PySem.F.type_list_index (Hv (u66 hr)) De (ao 2) (ak (dm (ak bf (ak (ao 3) au))) au))) az) au))))))) dD) (aN (jk 4 (pv 4) (ao 6))))))) (aN (eX (cU (bR.or (eG rfl)) (eN.or fX) (by rfl) ya (by decide+kernel) (ak (ao 4) au))))))))
noncomputable abbrev iY:Stmt:=top 30
theorem rO:bQ ["_law_plain","_law_places_here","_law_found","_law_t","_law_rows"] ["_law_plain","_law_places_here"] (aJ iY):=⟨rfl,rfl,rfl,by decide+kernel,rfl,by decide+kernel,by decide+kernel⟩
theorem zW {f:Addr}{fd:FuncData}(F:pZ K "_law_fenced" "_law_fenced" iY f fd)(ya:mg "tuple"=none)(yb:mg "enumerate"=none)(iI:jx P w K mg base "_law_fenced_rows" 1 (DL.K.dG) []):eZ P w K mg base mD (1+1) f fd ["_law_plain","_law_places_here"] (pX K (DL.K.iU)):=by
 have nd:=(rO).nd
 exact gD (k:=1) F rO λcdv A outer s H E hr=>(aA (jm (i:=2) nd rfl (Or.inl rfl) (jQ au)) (aA (iJ PassesOwn.never rfl (qi (by rfl) yb (bD (u1 hr) (ao 0) az)) (rB (n:=2) rfl (fV (cW (i:=3) nd rfl (Or.inr rfl)) (fV (cW (i:=4) nd rfl (Or.inl rfl)) oG))) (aN (R4 (jk 2 (pv 2) (xC iI hr (ak (ao 4) (ak (dZ (gQ (jg:=["_law_thread_here","_law_at","_law_t"]) (cap:=[none,none,some 3]) rfl (dY rfl rfl) (by decide) (gU (ao 1)) (λcl s H C fp=>⟨(sJ (n:=2) rfl (gH (bW (i:=0) (show List.Nodup (["_law_thread_here","_law_at","_law_t"]:List Str) by decide+kernel) rfl (Or.inl rfl)) (gH (bW (i:=1) (show List.Nodup (["_law_thread_here","_law_at","_law_t"]:List Str) by decide+kernel) rfl (Or.inl rfl)) pI))),(mK (bH (fu (tK hr)) dg (ao 0) (ao 2))),(ao 1)⟩))) au)))) (JF 2 (jk 2 (pv 2) (xC iI hr (ak (ao 4) (ak (dZ (gQ (jg:=["_law_thread_here","_law_at","_law_t"]) (cap:=[none,none,some 3]) rfl (dY rfl rfl) (by decide) (gU (ao 1)) (λcl s H C fp=>⟨(sJ (n:=2) rfl (gH (bW (i:=0) (show List.Nodup (["_law_thread_here","_law_at","_law_t"]:List Str) by decide+kernel) rfl (Or.inl rfl)) (gH (bW (i:=1) (show List.Nodup (["_law_thread_here","_law_at","_law_t"]:List Str) by decide+kernel) rfl (Or.inl rfl)) pI))),(mK (bH (fu (tK hr)) dg (ao 0) (ao 2))),(ao 1)⟩))) au)))))))) (aN (eX (dm (ak (bD (u1 hr) (ao 0) az) (ak (cU (bR.or (eG rfl)) (eN.or fX) (by rfl) ya (by decide+kernel) (ak (ao 2) au)) au)))))))
noncomputable abbrev lQ:Stmt:=top 13
theorem yq:bQ ["row","behind"] ["row","behind"] (aJ lQ):=⟨rfl,rfl,rfl,by decide+kernel,rfl,by decide+kernel,by decide+kernel⟩
theorem HB {f:Addr}{fd:FuncData}(F:pZ K "bare_row" "bare_row" lQ f fd)(ya:mg "len"=none)(yb:mg "FENCE"=some (.ref yc))(lB:iw K DL.K.jU (.ref yc)=true):eZ P w K mg base mD (0+1) f fd ["row","behind"] (pX K (DL.K.jO)):=by
 have nd:=(yq).nd
 exact gD (k:=0) F yq λcdv A outer s H E hr=>(aA (iG (bH (uH (tK hr)) dg (bD (u1 hr) (ao 0) az) bf) (aN (kj 0 (pv 0))) dD) (aN (eX (aK aX aY (ji (ao 0) jH (iy az)) (dm (ak (fU iM jN (by rfl) ya PySem.boot_len (ak (dZ (gQ (jg:=["later"]) (cap:=[none]) rfl (dY rfl rfl) (by decide) (gU (ji (ao 1) jH (iy (bD (u1 hr) (ao 0) az)))) (λcl s H C fp=>⟨(bW (i:=0) (show List.Nodup (["later"]:List Str) by decide+kernel) rfl (Or.inl rfl)),(mK (bH (uH (tK hr)) dg (ao 0) (DQ (d:=DL.K.jU) (by rfl) yb lB))),(ao 0)⟩))) au)) au))))))
noncomputable abbrev jZ:Stmt:=top 12
theorem vG:bQ ["rows"] ["rows"] (aJ jZ):=⟨rfl,rfl,rfl,by decide+kernel,rfl,by decide+kernel,by decide+kernel⟩
theorem Ek {f:Addr}{fd:FuncData}(F:pZ K "bare_rows" "bare_rows" jZ f fd)(ya:mg "enumerate"=none)(yb:mg "FENCE"=some (.ref yc))(lB:iw K DL.K.jU (.ref yc)=true)(uJ:jx P w K mg base "bare_row" 1 (DL.K.jO) []):eZ P w K mg base mD (1+1) f fd ["rows"] (pX K (DL.K.jW)):=by
 have nd:=(vG).nd
 exact gD (k:=1) F vG λcdv A outer s H E hr=>(aN (tH (gQ (jg:=["at","row","rows"]) (cap:=[none,none,some 0]) rfl (dY rfl rfl) (by decide) (qi (by rfl) ya (ao 0)) (λcl s H C fp=>⟨(sJ (n:=2) rfl (gH (bW (i:=0) (show List.Nodup (["at","row","rows"]:List Str) by decide+kernel) rfl (Or.inl rfl)) (gH (bW (i:=1) (show List.Nodup (["at","row","rows"]:List Str) by decide+kernel) rfl (Or.inl rfl)) pI))),(mK (bH (uH (tK hr)) dg (ao 1) (DQ (d:=DL.K.jU) (by rfl) yb lB))),(xC uJ hr (ak (ao 1) (ak (ji (ao 2) (iy (aK aX aY (ao 0) az)) jH) au)))⟩))))
noncomputable abbrev wO:Stmt:=top 11
theorem Lh:bQ ["program"] ["program"] (aJ wO):=⟨rfl,rfl,rfl,by decide+kernel,rfl,by decide+kernel,by decide+kernel⟩
theorem U3 {f:Addr}{fd:FuncData}(F:pZ K "bare" "bare" wO f fd)(ya:BK K yb)(yc:j8 K yb "threads")(rM:jx P w K mg base "bare_rows" 2 (DL.K.jW) [])(yd:j8 K yb "cells")(gb:jx P w K mg base "program_of" 6 (DL.K.dw yb DL.K.bC) []):eZ P w K mg base mD (6+1) f fd ["program"] (pX K (DL.K.gq yb DL.K.bC)):=by
 have nd:=(Lh).nd
 exact gD (k:=6) F Lh λcdv A outer s H E hr=>(aN (Ew (xW gb hr (ak (dm (ak (wg ya yd (ao 0)) (ak (dZ (gQ (jg:=["rows"]) (cap:=[none]) rfl (dY rfl rfl) (by decide) (gU (wg ya yc (ao 0))) (λcl s H C fp=>⟨(bW (i:=0) (show List.Nodup (["rows"]:List Str) by decide+kernel) rfl (Or.inl rfl)),lu,(xC rM hr (ak (ao 0) au))⟩))) au))) au))))
noncomputable abbrev ju:Stmt:=top 17
theorem uf:bQ ["row","at","ats","over"] ["row","at","ats"] (aJ ju):=⟨rfl,rfl,rfl,by decide+kernel,rfl,by decide+kernel,by decide+kernel⟩
theorem Bv {f:Addr}{fd:FuncData}(F:pZ K "fenced_row" "fenced_row" ju f fd)(ya:mg "len"=none)(yb:mg "range"=none):eZ P w K mg base mD (0+1) f fd ["row","at","ats"] (pX K (DL.K.fY)):=by
 have nd:=(uf).nd
 exact gD (k:=0) F uf λcdv A outer s H E hr=>(aA (iG (bH (uH (tK hr)) dg (bD (u1 hr) (ao 0) az) bf) (aN (kj 0 (pv 0))) dD) (aA (tE (i:=3) (jg:=["later","ats"]) (cap:=[none,some 2]) rfl (dY rfl rfl) (by decide) (Cj (by rfl) yb (aK aX aY (ao 1) az) (aK aX aY (aK aX aY (ao 1) az) (bD (u1 hr) (ao 0) az))) (λcl s H C fp=>⟨(bW (i:=0) (show List.Nodup (["later","ats"]:List Str) by decide+kernel) rfl (Or.inl rfl)),(mK (bH (wK (O9 hr)) wN (ao 0) (ao 1) (by with_unfolding_all rfl))),(ao 0)⟩) nd rfl rfl rfl) (aN (eX (aK aX aY (ji (ao 0) jH (iy az)) (dm (ak (aK aX aY (bD (u1 hr) (ao 0) az) (fU iM jN (by rfl) ya PySem.boot_len (ak (ao 3) au))) au)))))))
noncomputable abbrev j7:Stmt:=top 16
theorem rW:bQ ["rows","ats","built","at","row"] ["rows","ats"] (aJ j7):=⟨rfl,rfl,rfl,by decide+kernel,rfl,by decide+kernel,by decide+kernel⟩
theorem Ab {f:Addr}{fd:FuncData}(F:pZ K "fenced_rows" "fenced_rows" j7 f fd)(ya:mg "enumerate"=none)(n8:jx P w K mg base "fenced_row" 1 (DL.K.fY) [])(yb:mg "FENCE"=some (.ref yc))(lB:iw K DL.K.jU (.ref yc)=true):eZ P w K mg base mD (1+1) f fd ["rows","ats"] (pX K (DL.K.fK)):=by
 have nd:=(rW).nd
 exact gD (k:=1) F rW λcdv A outer s H E hr=>(aA (jm (i:=2) nd rfl (Or.inl rfl) (jQ au)) (aA (iJ PassesOwn.never rfl (qi (by rfl) ya (ao 0)) (rB (n:=2) rfl (fV (cW (i:=3) nd rfl (Or.inl rfl)) (fV (cW (i:=4) nd rfl (Or.inl rfl)) oG))) (aA (iG (bH (wK (O9 hr)) wN (ao 3) (ao 1) (by with_unfolding_all rfl)) (aN (jk 2 (pv 2) (DQ (d:=DL.K.jU) (by rfl) yb lB))) dD) (aN (R4 (jk 2 (pv 2) (xC n8 hr (ak (ao 4) (ak (ao 3) (ak (ao 1) au))))) (JF 2 (jk 2 (pv 2) (xC n8 hr (ak (ao 4) (ak (ao 3) (ak (ao 1) au)))))))))) (aN (kj 2 (pv 2)))))
noncomputable abbrev pO:Stmt:=top 15
theorem Dg:bQ ["places","thread"] ["places","thread"] (aJ pO):=⟨rfl,rfl,rfl,by decide+kernel,rfl,by decide+kernel,by decide+kernel⟩
theorem Nt {f:Addr}{fd:FuncData}(F:pZ K "ats_in" "ats_in" pO f fd):eZ P w K mg base mD (0+1) f fd ["places","thread"] (pX K (DL.K.kI)):=by
 have nd:=(Dg).nd
 exact gD (k:=0) F Dg λcdv A outer s H E hr=>(aN (tH (gQ (jg:=["place","thread"]) (cap:=[none,some 1]) rfl (dY rfl rfl) (by decide) (gU (ao 0)) (λcl s H C fp=>⟨(bW (i:=0) (show List.Nodup (["place","thread"]:List Str) by decide+kernel) rfl (Or.inl rfl)),(mK (bH (fu (tK hr)) dg (bD (u1 hr) (ao 0) az) (ao 1))),(bD (u1 hr) (ao 0) az)⟩))))
noncomputable abbrev pP:Stmt:=top 14
theorem Dh:bQ ["program","places","base","threads"] ["program","places"] (aJ pP):=⟨rfl,rfl,rfl,by decide+kernel,rfl,by decide+kernel,by decide+kernel⟩
theorem Nu {f:Addr}{fd:FuncData}(F:pZ K "fenced" "fenced" pP f fd)(ya:BK K yb)(yc:j8 K yb "cells")(gb:jx P w K mg base "program_of" 6 (DL.K.dw yb DL.K.bC) [])(yd:mg "enumerate"=none)(ye:j8 K yb "threads")(Ai:jx P w K mg base "ats_in" 1 (DL.K.kI) [])(pC:jx P w K mg base "fenced_rows" 2 (DL.K.fK) [])(pB:jx P w K mg base "bare" 7 (DL.K.gq yb DL.K.bC) []):eZ P w K mg base mD (7+1) f fd ["program","places"] (pX K (DL.K.dX yb DL.K.bC)):=by
 have nd:=(Dh).nd
 exact gD (k:=7) F Dh λcdv A outer s H E hr=>(aA (nq (i:=2) nd rfl (Or.inl rfl) (xW pB hr (ak (ao 0) au))) (aA (tE (i:=3) (jg:=["thread","rows","places"]) (cap:=[none,none,some 1]) rfl (dY rfl rfl) (by decide) (qi (by rfl) yd (wg ya ye (ao 2))) (λcl s H C fp=>⟨(sJ (n:=2) rfl (gH (bW (i:=0) (show List.Nodup (["thread","rows","places"]:List Str) by decide+kernel) rfl (Or.inl rfl)) (gH (bW (i:=1) (show List.Nodup (["thread","rows","places"]:List Str) by decide+kernel) rfl (Or.inl rfl)) pI))),lu,(xC pC hr (ak (ao 1) (ak (xC Ai hr (ak (ao 2) (ak (ao 0) au))) au)))⟩) nd rfl rfl rfl) (aN (Ew (xW gb hr (ak (dm (ak (wg ya yc (ao 2)) (ak (ao 3) au))) au))))))
noncomputable abbrev j5:Stmt:=top 31
theorem rR:bQ ["_law_plain","_law_cell","_law_threads","_law_t","_law_rows","_law_found","_law_k","_law_at","_law_row_here","_law_more"] ["_law_plain","_law_cell"] (aJ j5):=⟨rfl,rfl,rfl,by decide+kernel,rfl,by decide+kernel,by decide+kernel⟩
theorem zZ {f:Addr}{fd:FuncData}(F:pZ K "_law_strewn" "_law_strewn" j5 f fd)(ya:mg "tuple"=none)(yb:mg "enumerate"=none)(yc:mg "list"=none)(yd:mg "min"=none)(ye:mg "len"=none)(bI:jx P w K mg base "_law_mixed" 1 (DL.K.bh) [])(yf:mg "range"=none):eZ P w K mg base mD (1+1) f fd ["_law_plain","_law_cell"] (pX K (DL.K.jC)):=by
 have nd:=(rR).nd
 exact gD (k:=1) F rR λcdv A outer s H E hr=>(aA (jm (i:=2) nd rfl (Or.inl rfl) (jQ au)) (aA (iJ PassesOwn.never rfl (qi (by rfl) yb (bD (u1 hr) (ao 0) az)) (rB (n:=2) rfl (fV (cW (i:=3) nd rfl (Or.inl rfl)) (fV (cW (i:=4) nd rfl (Or.inl rfl)) oG))) (aA (jm (i:=5) nd rfl (Or.inl rfl) (yR (pt:=⟨0,0,0,0⟩) (by rfl) yc (ak (ao 4) au))) (aA (iJ PassesOwn.never rfl (jD (by rfl) yf (aK aX aY az (aK cX bY (xC bI hr (ak (aK (cY.or cZ) (dh.or cz) (ao 1) (aK aX aY az (aK (cY.or cZ) (dh.or cz) az (ao 3)))) (ak (aK aX aY az (ao 3)) au))) az))) (cW (i:=6) nd rfl (Or.inl rfl)) (aN (iG (bH Ad ni (wV PySem.F.plainAttrs_list PySem.F.slot_list_count PySem.F.type_list_count (Hu (u66 hr)) Dd (ao 5) (ak (dm (ak bf au)) au)) az) (aN (R0 5 (pv 5) (aK cX bY (xC bI hr (ak (aK (cY.or cZ) (dh.or cz) (ao 1) (aK aX aY az (aK (cY.or cZ) (dh.or cz) az (aK aX aY (aK (cY.or cZ) (dh.or cz) az (ao 3)) (ao 6))))) (ak (aK aX aY (aK aX aY az (aK (cY.or cZ) (dh.or cz) az (ao 3))) (ao 6)) au))) (aK aX aY (fU iM jN (by rfl) ye PySem.boot_len (ak (ao 5) au)) az)) (dm (ak bf au)))) dD))) (aA (Uv PassesOwn.never rfl (by rfl) yb (yR (pt:=⟨0,0,0,0⟩) (by rfl) yc (ak (ao 5) au)) (rB (n:=2) rfl (fV (cW (i:=7) nd rfl (Or.inl rfl)) (fV (cW (i:=8) nd rfl (Or.inl rfl)) oG))) (aA (bO (i:=9) nd rfl (Or.inl rfl) (xC bI hr (ak (aK (cY.or cZ) (dh.or cz) (ao 1) (aK aX aY az (aK (cY.or cZ) (dh.or cz) az (aK aX aY (aK (cY.or cZ) (dh.or cz) az (ao 3)) (ao 7))))) (ak (aK aX aY (aK aX aY az (aK (cY.or cZ) (dh.or cz) az (ao 3))) (ao 7)) au)))) (aN (iG (u5 (uw (bH (fu (tK hr)) dg (bD (u1 hr) (ao 8) az) bf) (qg (u5 (DX (bH (fu (tK hr)) dg (bD (u1 hr) (ao 8) az) bf) (zH (bH (fu (tK hr)) dg (aK cX bY (ao 9) az) az))))))) (aN (Uy 5 (pv 5) (ao 7) (dm (ak bf (ak (bD (u1 hr) (ao 8) az) (ak (aK cX bY (aK fO fP (ao 9) az) (fU (vY rfl) Em (by rfl) yd (by decide+kernel) (ak az (ak (aK qx nj (fU iM jN (by rfl) ye PySem.boot_len (ak (ao 5) au)) (ao 7)) au)))) au)))))) dD)))) (aN (jk 2 (pv 2) (cU (bR.or (eG rfl)) (eN.or fX) (by rfl) ya (by decide+kernel) (ak (ao 5) au)))))))) (aN (eX (dm (ak (bD (u1 hr) (ao 0) az) (ak (cU (bR.or (eG rfl)) (eN.or fX) (by rfl) ya (by decide+kernel) (ak (ao 2) au)) au)))))))
noncomputable abbrev t8:Stmt:=inClass (top 2) 1
theorem Ie:bQ ["self"] ["self"] (aJ t8):=⟨rfl,rfl,rfl,by decide+kernel,rfl,by decide+kernel,by decide+kernel⟩
theorem Qu {f:Addr}{fd:FuncData}(F:pZ K "plain" "Program.plain" t8 f fd)(ya:BK K yb)(yc:j8 K yb "threads")(yd:j8 K yb "cells"):eZ P w K mg base mD (0+1) f fd ["self"] (pX K (DL.K.lU yb)):=by
 have nd:=(Ie).nd
 exact gD (k:=0) F Ie λcdv A outer s H E hr=>(aN (eX (dm (ak (wg ya yd (ao 0)) (ak (wg ya yc (ao 0)) au)))))
noncomputable abbrev nH:Stmt:=top 34
theorem Ao:bQ ["_law_found","_law_due"] ["_law_found","_law_due"] (aJ nH):=⟨rfl,rfl,rfl,by decide+kernel,rfl,by decide+kernel,by decide+kernel⟩
theorem Jw {f:Addr}{fd:FuncData}(F:pZ K "_law_is" "_law_is" nH f fd)(ya:mg "repr"=none)(yb:BK K yc)(yd:Meth K yc "plain" ye)(yf:eZ P w K mg base mD 1 ye yg ["self"] (pX K (DL.K.lU yc)))(yh:Binds K yg ["self"] [])(yi:mg "isinstance"=none)(yj:mg "Program"=some (.ref yc))(pY:IsK K yc):eZ P w K mg base mD (1+1) f fd ["_law_found","_law_due"] (pX K (DL.K.bK yc)):=by
 have nd:=(Ao).nd
 exact gD (k:=1) F Ao λcdv A outer s H E hr=>(aN (eX (DP (SN yb (by rfl) yi (by rfl) yj pY (ao 0)) (DP (uv (fu (tK hr)) dg (zG (ao 0) yb yd yf (hr.mono (by decide)) yh) (ao 1)) (DW (My hr (by rfl) ya (zG (ao 0) yb yd yf (hr.mono (by decide)) yh) (ao 1)))))))
noncomputable abbrev Df:Stmt:=top 35
theorem QZ:bQ ["_law_script","_law_plain","_law_cell","_law_due","_law_program_here","_law_places_here","_law_handed","_law_wanted","_law_found"] ["_law_script"] (aJ Df):=⟨rfl,rfl,rfl,by decide+kernel,rfl,by decide+kernel,by decide+kernel⟩
theorem X7 {f:Addr}{fd:FuncData}(F:pZ K "law" "law" Df f fd)(ya:BK K yb)(yc:Meth K yb "plain" yd)(ye:eZ P w K mg base mD 1 yd yf ["self"] (pX K (DL.K.lU yb)))(yg:Binds K yf ["self"] [])(pN:jx P w K mg base "fenced" 8 (DL.K.dX yb DL.K.bC) [])(iW:jx P w K mg base "_law_is" 2 (DL.K.bK yb) [])(pB:jx P w K mg base "bare" 7 (DL.K.gq yb DL.K.bC) [])(p6:jx P w K mg base "_law_fenced" 2 (DL.K.iU) [])(yh:mg "list"=none)(p7:jx P w K mg base "_law_places" 2 (DL.K.iV) [])(gb:jx P w K mg base "program_of" 6 (DL.K.dw yb DL.K.bC) [])(rK:jx P w K mg base "_law_bare" 2 (DL.K.jV) [])(pA:jx P w K mg base "_law_strewn" 2 (DL.K.jC) [])(bJ:jx P w K mg base "_law_cell_at" 1 (DL.K.aL) [])(bI:jx P w K mg base "_law_mixed" 1 (DL.K.bh) [])(nZ:jx P w K mg base "_law_program" 3 (DL.K.gZ) []):eZ P w K mg base mD (8+1) f fd ["_law_script"] (pX K (DL.K.Vc yb DL.K.bC)):=by
 have nd:=(QZ).nd
 exact gD (k:=8) F QZ λcdv A outer s H E hr=>(aA (nq (i:=1) nd rfl (Or.inl rfl) (xW nZ hr (ak (ao 0) (ak az au)))) (aA (nq (i:=2) nd rfl (Or.inl rfl) (xW bI hr (ak (aK aX aY (xC bJ hr (ak (ao 0) (ak az au))) (xC bJ hr (ak (ao 0) (ak az au)))) (ak az au)))) (aA (iG (bH Ad ni (aK cX bY (ao 2) az) az) (aN (nq (i:=1) nd rfl (Or.inl rfl) (xW pA hr (ak (ao 1) (ak (aK fO fP (ao 2) az) au))))) dD) (aA (nq (i:=3) nd rfl (Or.inl rfl) (xW rK hr (ak (ao 1) au))) (aA (nq (i:=4) nd rfl (Or.inl rfl) (xW gb hr (ak (ao 1) au))) (aA (nq (i:=5) nd rfl (Or.inl rfl) (xW p7 hr (ak (ao 3) (ak (ao 2) au)))) (aA (jm (i:=6) nd rfl (Or.inl rfl) (yR (pt:=⟨0,0,0,0⟩) (by rfl) yh (ak (ao 5) au))) (aA (iG (u5 (uw (qe (mY (xC iW hr (ak (xC pB hr (ak (ao 4) au)) (ak (ao 3) au))))) (qg (qe (mY (xC iW hr (ak (xC pB hr (ak (xC pB hr (ak (ao 4) au)) au)) (ak (ao 3) au)))))))) (aN (eX Gp)) dD) (aA (nq (i:=7) nd rfl (Or.inl rfl) (xW p6 hr (ak (ao 3) (ak (ao 5) au)))) (aA (nq (i:=8) nd rfl (Or.inl rfl) (xW pN hr (ak (ao 4) (ak (ao 6) au)))) (aA (iG (u5 (uw (qe (mY (xC iW hr (ak (ao 8) (ak (ao 7) au))))) (qg (bH (uH (tK hr)) dg (ao 6) (ao 5))))) (aN (eX Gp)) dD) (aA (XJ 6 (pv 6)) (aA (iG (u5 (uw (qe (mY (xC iW hr (ak (ao 8) (ak (ao 7) au))))) (qg (qe (mY (xC iW hr (ak (xC pN hr (ak (xC pB hr (ak (ao 4) au)) (ak (Wd (ao 5) (iy (Wc az)) (λ_=>rfl)) au))) (ak (ao 7) au)))))))) (aN (eX Gp)) dD) (aA (iG (u5 (uw (qe (mY (xC iW hr (ak (xC pN hr (ak (ao 8) (ak (ao 5) au))) (ak (ao 7) au))))) (qg (qe (mY (xC iW hr (ak (xC pB hr (ak (ao 8) au)) (ak (ao 3) au)))))))) (aN (eX Gp)) dD) (aN (eX (DP (xC iW hr (ak (xC pN hr (ak (ao 4) (ak (ao 6) au))) (ak (ao 3) au))) (DW (uv (fu (tK hr)) dg (zG (ao 4) ya yc ye (hr.mono (by decide)) yg) (ao 1))))))))))))))))))))
end
end KC
end DL
namespace DL
open PySem PySem.Spec PyProof.Rows L2
namespace KC
theorem Nh {us:List Value}(h:us.length=1):∃a,us=[a]:=by
 match us,h with|[a],_=>exact⟨a,rfl⟩
theorem Ni {us:List Value}(h:us.length=2):∃a b,us=[a,b]:=by
 match us,h with|[a,b],_=>exact⟨a,b,rfl⟩
theorem lv3 {us:List Value}(h:us.length=3):∃a b c,us=[a,b,c]:=by
 match us,h with|[a,b,c],_=>exact⟨a,b,c,rfl⟩
theorem lv4 {us:List Value}(h:us.length=4):∃a b c d,us=[a,b,c,d]:=by
 match us,h with|[a,b,c,d],_=>exact⟨a,b,c,d,rfl⟩
theorem lv5 {us:List Value}(h:us.length=5):∃a b c d e,us=[a,b,c,d,e]:=by
 match us,h with|[a,b,c,d,e],_=>exact⟨a,b,c,d,e,rfl⟩
noncomputable def R8 (K:Fg):Sp:=λvs H Q _=>∃ns:List Int,aU cL K H [.tu ns] vs/\∀H',Q (.bl true) H'
theorem all_mk {l:PySem.W.OpenLaw}{w:World}{K:Fg}{h:Heap}{mg:Str->Option Value}{fa:Addr}{xb xc xd xe xf xg xh xi xj xk xl xm xn xo xp xq xr xs xt xu xv xw xx xy xz xA xB xC xD xE xF xG xH xI:Addr}{xJ xK xL xM xN xO xP xQ xR xS xT xU xV xW xX xY xZ x0 x1 x2 x3 x4 x5 x6 x7 x8 x9 xab xbb xcb xdb xeb xfb xgb xhb xib xjb xkb xlb xmb xnb xob xpb xqb xrb xsb xtb xub xvb xwb xxb xyb xzb xAb xBb xCb xDb xEb xFb xGb xHb xIb:Option Addr}{xJb xKb xLb xMb xNb xOb xPb xQb xRb xSb xTb xUb xVb xWb xXb xYb xZb x0b x1b x2b x3b x4b x5b x6b x7b x8b x9b xac xbc xcc xdc:Array (Option Value)}{xec xfc xgc xhc xic xjc xkc xlc xmc xnc xoc xpc xqc xrc xsc xtc xuc xvc xwc xxc xyc xzc xAc xBc xCc xDc xEc xFc xGc xHc xIc xJc xKc xLc xMc xNc xOc xPc xQc xRc xSc xTc xUc xVc xWc xXc xYc xZc x0c x1c x2c x3c x4c x5c x6c x7c x8c x9c xad xbd xcd xdd xed xfd xgd xhd xid xjd xkd xld xmd xnd xod xpd xqd xrd xsd xtd xud xvd xwd xxd xyd xzd xAd xBd xCd xDd xEd xFd xGd xHd xId xJd xKd xLd xMd xNd xOd xPd xQd xRd xSd xTd xUd xVd xWd xXd xYd xZd x0d x1d x2d x3d x4d x5d x6d x7d x8d x9d xae xbe xce xde xee xfe xge xhe xie xje xke xle xme xne xoe xpe xqe xre xse xte xue xve xwe xxe xye xze xAe xBe xCe xDe xEe xFe xGe xHe xIe xJe xKe xLe xMe xNe xOe xPe xQe xRe xSe xTe xUe xVe xWe xXe xYe xZe x0e x1e x2e x3e x4e x5e x6e x7e x8e x9e xaf xbf xcf xdf:Value}(X:K.In h)(G:h.Ns mainGlobals mg)(hfa:mg "law"=some (.ref fa))
 (xef:PySem.W.nsIn K mainGlobals "_law_mixed"=some (some (.ref xb)))
 (xff:K.lookup xb=some ⟨xec,xJ,.func (PySem.W.fnOf "_law_mixed" "_law_mixed" (bV jq) (bL jq) (aJ jq) .none xfc xgc xhc xK xic xjc),xJb⟩)
 (xgf:PySem.W.codeIn K xic "_law_mixed"=true)
 (xhf:PySem.W.keepIn K (.ref xb)=true)
 (xif:PySem.W.nsIn K mainGlobals "_law_names"=some (some (.ref xc)))
 (xjf:K.lookup xc=some ⟨xkc,xL,.func (PySem.W.fnOf "_law_names" "_law_names" (bV jr) (bL jr) (aJ jr) .none xlc xmc xnc xM xoc xpc),xKb⟩)
 (xkf:PySem.W.codeIn K xoc "_law_names"=true)
 (xlf:PySem.W.keepIn K (.ref xc)=true)
 (xmf:PySem.W.nsIn K mainGlobals "_law_cell_at"=some (some (.ref xd)))
 (xnf:K.lookup xd=some ⟨xqc,xN,.func (PySem.W.fnOf "_law_cell_at" "_law_cell_at" (bV iB) (bL iB) (aJ iB) .none xrc xsc xtc xO xuc xvc),xLb⟩)
 (xof:PySem.W.codeIn K xuc "_law_cell_at"=true)
 (xpf:PySem.W.keepIn K (.ref xd)=true)
 (xqf:PySem.W.nsIn K mainGlobals "_law_shape"=some (some (.ref xe)))
 (xrf:K.lookup xe=some ⟨xwc,xP,.func (PySem.W.fnOf "_law_shape" "_law_shape" (bV jt) (bL jt) (aJ jt) .none xxc xyc xzc xQ xAc xBc),xMb⟩)
 (xsf:PySem.W.codeIn K xAc "_law_shape"=true)
 (xtf:PySem.W.keepIn K (.ref xe)=true)
 (xuf:PySem.W.nsIn K mainGlobals "_law_shaped"=some (some (.ref xf)))
 (xvf:K.lookup xf=some ⟨xCc,xR,.func (PySem.W.fnOf "_law_shaped" "_law_shaped" (bV j4) (bL j4) (aJ j4) .none xDc xEc xFc xS xGc xHc),xNb⟩)
 (xwf:PySem.W.codeIn K xGc "_law_shaped"=true)
 (xxf:PySem.W.keepIn K (.ref xf)=true)
 (xyf:PySem.W.nsIn K mainGlobals "_law_row"=some (some (.ref xg)))
 (xzf:K.lookup xg=some ⟨xIc,xT,.func (PySem.W.fnOf "_law_row" "_law_row" (bV lO) (bL lO) (aJ lO) .none xJc xKc xLc xU xMc xNc),xOb⟩)
 (xAf:PySem.W.codeIn K xMc "_law_row"=true)
 (xBf:PySem.W.keepIn K (.ref xg)=true)
 (xCf:PySem.W.nsIn K mainGlobals "_law_thread"=some (some (.ref xh)))
 (xDf:K.lookup xh=some ⟨xOc,xV,.func (PySem.W.fnOf "_law_thread" "_law_thread" (bV j6) (bL j6) (aJ j6) .none xPc xQc xRc xW xSc xTc),xPb⟩)
 (xEf:PySem.W.codeIn K xSc "_law_thread"=true)
 (xFf:PySem.W.keepIn K (.ref xh)=true)
 (xGf:PySem.W.nsIn K mainGlobals "_law_program"=some (some (.ref xi)))
 (xHf:K.lookup xi=some ⟨xUc,xX,.func (PySem.W.fnOf "_law_program" "_law_program" (bV iC) (bL iC) (aJ iC) .none xVc xWc xXc xY xYc xZc),xQb⟩)
 (xIf:PySem.W.codeIn K xYc "_law_program"=true)
 (xJf:PySem.W.keepIn K (.ref xi)=true)
 (xKf:PySem.W.nsIn K mainGlobals "_law_bare_rows"=some (some (.ref xj)))
 (xLf:K.lookup xj=some ⟨x0c,xZ,.func (PySem.W.fnOf "_law_bare_rows" "_law_bare_rows" (bV gk) (bL gk) (aJ gk) .none x1c x2c x3c x0 x4c x5c),xRb⟩)
 (xMf:PySem.W.codeIn K x4c "_law_bare_rows"=true)
 (xNf:PySem.W.keepIn K (.ref xj)=true)
 (xOf:PySem.W.nsIn K mainGlobals "_law_bare"=some (some (.ref xk)))
 (xPf:K.lookup xk=some ⟨x6c,x1,.func (PySem.W.fnOf "_law_bare" "_law_bare" (bV jY) (bL jY) (aJ jY) .none x7c x8c x9c x2 xad xbd),xSb⟩)
 (xQf:PySem.W.codeIn K xad "_law_bare"=true)
 (xRf:PySem.W.keepIn K (.ref xk)=true)
 (xSf:PySem.W.nsIn K mainGlobals "is_box"=some (some (.ref xl)))
 (xTf:K.lookup xl=some ⟨xcd,x3,.func (PySem.W.fnOf "is_box" "is_box" (bV pQ) (bL pQ) (aJ pQ) .none xdd xed xfd x4 xgd xhd),xTb⟩)
 (xUf:PySem.W.codeIn K xgd "is_box"=true)
 (xVf:PySem.W.keepIn K (.ref xl)=true)
 (xWf:PySem.W.nsIn K mainGlobals "boxes_of_row"=some (some (.ref xm)))
 (xXf:K.lookup xm=some ⟨xid,x5,.func (PySem.W.fnOf "boxes_of_row" "boxes_of_row" (bV iD) (bL iD) (aJ iD) .none xjd xkd xld x6 xmd xnd),xUb⟩)
 (xYf:PySem.W.codeIn K xmd "boxes_of_row"=true)
 (xZf:PySem.W.keepIn K (.ref xm)=true)
 (x0f:PySem.W.nsIn K mainGlobals "boxes_of_rows"=some (some (.ref xn)))
 (x1f:K.lookup xn=some ⟨xod,x7,.func (PySem.W.fnOf "boxes_of_rows" "boxes_of_rows" (bV gJ) (bL gJ) (aJ gJ) .none xpd xqd xrd x8 xsd xtd),xVb⟩)
 (x2f:PySem.W.codeIn K xsd "boxes_of_rows"=true)
 (x3f:PySem.W.keepIn K (.ref xn)=true)
 (x4f:PySem.W.nsIn K mainGlobals "Program"=some (some (.ref xo)))
 (x5f:PySem.W.findIn K (.ref xo) "__init__"=some (some (.ref xp)))
 (x6f:PySem.W.isFn K (.ref xp)=true)
 (x7f:K.lookup xp=some ⟨xud,x9,.func (PySem.W.fnOf "__init__" "Program.__init__" (bV nG) (bL nG) (aJ nG) .none xvd xwd xxd xab xyd xzd),xWb⟩)
 (x8f:PySem.W.codeIn K xyd "Program.__init__"=true)
 (x9f:PySem.W.keepIn K (.ref xp)=true)
 (xag:PySem.W.plainGet K xo Str.empty=true)
 (xbg:PySem.W.hasDictIn K xo=true)
 (xcg:PySem.W.plainOver K xo=true)
 (xdg:PySem.W.findIn K (.ref xo) "__setattr__"=some (some (.builtin "object.__setattr__")))
 (xeg:PySem.W.makesIn K xo=true)
 (xfg:PySem.W.keepIn K (.ref xo)=true)
 (Yd:PySem.W.findIn K (.ref xo) "cells"=some none)
 (Ye:PySem.W.findIn K (.ref xo) "threads"=some none)
 (xig:PySem.W.findIn K (.ref xo) "cell_names"=some none)
 (xjg:PySem.W.findIn K (.ref xo) "box_names"=some none)
 (xkg:PySem.W.nsIn K mainGlobals "tuples_of"=some (some (.ref xq)))
 (xlg:K.lookup xq=some ⟨xAd,xbb,.func (PySem.W.fnOf "tuples_of" "tuples_of" (bV kh) (bL kh) (aJ kh) .none xBd xCd xDd xcb xEd xFd),xXb⟩)
 (xmg:PySem.W.codeIn K xEd "tuples_of"=true)
 (xng:PySem.W.keepIn K (.ref xq)=true)
 (xog:PySem.W.nsIn K mainGlobals "program_of"=some (some (.ref xr)))
 (xpg:K.lookup xr=some ⟨xGd,xdb,.func (PySem.W.fnOf "program_of" "program_of" (bV jw) (bL jw) (aJ jw) .none xHd xId xJd xeb xKd xLd),xYb⟩)
 (xqg:PySem.W.codeIn K xKd "program_of"=true)
 (xrg:PySem.W.keepIn K (.ref xr)=true)
 (xsg:PySem.W.nsIn K mainGlobals "_law_all_places"=some (some (.ref xs)))
 (xtg:K.lookup xs=some ⟨xMd,xfb,.func (PySem.W.fnOf "_law_all_places" "_law_all_places" (bV fQ) (bL fQ) (aJ fQ) .none xNd xOd xPd xgb xQd xRd),xZb⟩)
 (xug:PySem.W.codeIn K xQd "_law_all_places"=true)
 (xvg:PySem.W.keepIn K (.ref xs)=true)
 (xwg:PySem.W.nsIn K mainGlobals "_law_places"=some (some (.ref xt)))
 (xxg:K.lookup xt=some ⟨xSd,xhb,.func (PySem.W.fnOf "_law_places" "_law_places" (bV iZ) (bL iZ) (aJ iZ) .none xTd xUd xVd xib xWd xXd),x0b⟩)
 (xyg:PySem.W.codeIn K xWd "_law_places"=true)
 (xzg:PySem.W.keepIn K (.ref xt)=true)
 (xAg:PySem.W.nsIn K mainGlobals "_law_fenced_rows"=some (some (.ref xu)))
 (xBg:K.lookup xu=some ⟨xYd,xjb,.func (PySem.W.fnOf "_law_fenced_rows" "_law_fenced_rows" (bV fD) (bL fD) (aJ fD) .none xZd x0d x1d xkb x2d x3d),x1b⟩)
 (xCg:PySem.W.codeIn K x2d "_law_fenced_rows"=true)
 (xDg:PySem.W.keepIn K (.ref xu)=true)
 (xEg:PySem.W.nsIn K mainGlobals "_law_fenced"=some (some (.ref xv)))
 (xFg:K.lookup xv=some ⟨x4d,xlb,.func (PySem.W.fnOf "_law_fenced" "_law_fenced" (bV iY) (bL iY) (aJ iY) .none x5d x6d x7d xmb x8d x9d),x2b⟩)
 (xGg:PySem.W.codeIn K x8d "_law_fenced"=true)
 (xHg:PySem.W.keepIn K (.ref xv)=true)
 (xIg:PySem.W.nsIn K mainGlobals "bare_row"=some (some (.ref xw)))
 (xJg:K.lookup xw=some ⟨xae,xnb,.func (PySem.W.fnOf "bare_row" "bare_row" (bV lQ) (bL lQ) (aJ lQ) .none xbe xce xde xob xee xfe),x3b⟩)
 (xKg:PySem.W.codeIn K xee "bare_row"=true)
 (xLg:PySem.W.keepIn K (.ref xw)=true)
 (xMg:PySem.W.nsIn K mainGlobals "bare_rows"=some (some (.ref xx)))
 (xNg:K.lookup xx=some ⟨xge,xpb,.func (PySem.W.fnOf "bare_rows" "bare_rows" (bV jZ) (bL jZ) (aJ jZ) .none xhe xie xje xqb xke xle),x4b⟩)
 (xOg:PySem.W.codeIn K xke "bare_rows"=true)
 (xPg:PySem.W.keepIn K (.ref xx)=true)
 (xQg:PySem.W.nsIn K mainGlobals "bare"=some (some (.ref xy)))
 (xRg:K.lookup xy=some ⟨xme,xrb,.func (PySem.W.fnOf "bare" "bare" (bV wO) (bL wO) (aJ wO) .none xne xoe xpe xsb xqe xre),x5b⟩)
 (xSg:PySem.W.codeIn K xqe "bare"=true)
 (xTg:PySem.W.keepIn K (.ref xy)=true)
 (xUg:PySem.W.nsIn K mainGlobals "fenced_row"=some (some (.ref xz)))
 (xVg:K.lookup xz=some ⟨xse,xtb,.func (PySem.W.fnOf "fenced_row" "fenced_row" (bV ju) (bL ju) (aJ ju) .none xte xue xve xub xwe xxe),x6b⟩)
 (xWg:PySem.W.codeIn K xwe "fenced_row"=true)
 (xXg:PySem.W.keepIn K (.ref xz)=true)
 (xYg:PySem.W.nsIn K mainGlobals "fenced_rows"=some (some (.ref xA)))
 (xZg:K.lookup xA=some ⟨xye,xvb,.func (PySem.W.fnOf "fenced_rows" "fenced_rows" (bV j7) (bL j7) (aJ j7) .none xze xAe xBe xwb xCe xDe),x7b⟩)
 (x0g:PySem.W.codeIn K xCe "fenced_rows"=true)
 (x1g:PySem.W.keepIn K (.ref xA)=true)
 (x2g:PySem.W.nsIn K mainGlobals "ats_in"=some (some (.ref xB)))
 (x3g:K.lookup xB=some ⟨xEe,xxb,.func (PySem.W.fnOf "ats_in" "ats_in" (bV pO) (bL pO) (aJ pO) .none xFe xGe xHe xyb xIe xJe),x8b⟩)
 (x4g:PySem.W.codeIn K xIe "ats_in"=true)
 (x5g:PySem.W.keepIn K (.ref xB)=true)
 (x6g:PySem.W.nsIn K mainGlobals "fenced"=some (some (.ref xC)))
 (x7g:K.lookup xC=some ⟨xKe,xzb,.func (PySem.W.fnOf "fenced" "fenced" (bV pP) (bL pP) (aJ pP) .none xLe xMe xNe xAb xOe xPe),x9b⟩)
 (x8g:PySem.W.codeIn K xOe "fenced"=true)
 (x9g:PySem.W.keepIn K (.ref xC)=true)
 (xah:PySem.W.nsIn K mainGlobals "_law_strewn"=some (some (.ref xD)))
 (xbh:K.lookup xD=some ⟨xQe,xBb,.func (PySem.W.fnOf "_law_strewn" "_law_strewn" (bV j5) (bL j5) (aJ j5) .none xRe xSe xTe xCb xUe xVe),xac⟩)
 (xch:PySem.W.codeIn K xUe "_law_strewn"=true)
 (xdh:PySem.W.keepIn K (.ref xD)=true)
 (xeh:PySem.W.findIn K (.ref xo) "plain"=some (some (.ref xE)))
 (xfh:PySem.W.isFn K (.ref xE)=true)
 (xgh:K.lookup xE=some ⟨xWe,xDb,.func (PySem.W.fnOf "plain" "Program.plain" (bV t8) (bL t8) (aJ t8) .none xXe xYe xZe xEb x0e x1e),xbc⟩)
 (xhh:PySem.W.codeIn K x0e "Program.plain"=true)
 (xih:PySem.W.keepIn K (.ref xE)=true)
 (xjh:PySem.W.nsIn K mainGlobals "_law_is"=some (some (.ref xF)))
 (xkh:K.lookup xF=some ⟨x2e,xFb,.func (PySem.W.fnOf "_law_is" "_law_is" (bV nH) (bL nH) (aJ nH) .none x3e x4e x5e xGb x6e x7e),xcc⟩)
 (xlh:PySem.W.codeIn K x6e "_law_is"=true)
 (xmh:PySem.W.keepIn K (.ref xF)=true)
 (xnh:PySem.W.nsIn K mainGlobals "law"=some (some (.ref xG)))
 (xoh:K.lookup xG=some ⟨x8e,xHb,.func (PySem.W.fnOf "law" "law" (bV Df) (bL Df) (aJ Df) .none x9e xaf xbf xIb xcf xdf),xdc⟩)
 (xph:PySem.W.codeIn K xcf "law"=true)
 (xqh:PySem.W.keepIn K (.ref xG)=true)
 (xrh:PySem.W.nsIn K mainGlobals "FORMS"=some (some (.ref xH)))
 (xsh:KTD.tabLook (iw K) (λb=>K.lookup b) xH DL.K.bC=true)
 (xth:PySem.W.nsIn K mainGlobals "FENCE"=some (some (.ref xI)))
 (lB:iw K DL.K.jU (.ref xI)=true)
 (Wt:PySem.W.findIn K (.ref xo) "__class__"=some (some (.builtin "object.__class__")))
 (Wu:PySem.W.specialIn K (.builtin "object.__class__") "__get__"=some (some (.builtin "getset_descriptor.__get__")))
 (Wv:PySem.W.takesIn K (.builtin "object.__class__")=some true)
 (Ww:PySem.W.mroIn K xo (.type "object")=some true)
 (xuh:PySem.W.nsIn K mainGlobals "len"=some none)
 (xvh:PySem.W.nsIn K mainGlobals "set"=some none)
 (xwh:PySem.W.nsIn K mainGlobals "range"=some none)
 (xxh:PySem.W.nsIn K mainGlobals "tuple"=some none)
 (xyh:PySem.W.nsIn K mainGlobals "zip"=some none)
 (xzh:PySem.W.nsIn K mainGlobals "int"=some none)
 (xAh:PySem.W.nsIn K mainGlobals "min"=some none)
 (xBh:PySem.W.nsIn K mainGlobals "max"=some none)
 (xCh:PySem.W.nsIn K mainGlobals "list"=some none)
 (xDh:PySem.W.nsIn K mainGlobals "isinstance"=some none)
 (xEh:PySem.W.nsIn K mainGlobals "str"=some none)
 (xFh:PySem.W.nsIn K mainGlobals "enumerate"=some none)
 (xGh:PySem.W.nsIn K mainGlobals "repr"=some none):
 ∃fd:FuncData,(∀(s:Shared) (v:Value),BindsTo s fd ⟨[v],[]⟩ [("_law_script",v)])/\∀base:Heap,K.In base->base.Ns mainGlobals mg->eZ l.prog w K mg base mD 9 fa fd ["_law_script"] (R8 K):=by
 have e:=hfa.symm.trans (PySem.W.mg_of X G xnh)
 cases e
 have Vb:=PySem.W.mg_none_of X G xuh
 have xIh:=PySem.W.mg_none_of X G xvh
 have VG:=PySem.W.mg_none_of X G xwh
 have Rt:=PySem.W.mg_none_of X G xxh
 have xLh:=PySem.W.mg_none_of X G xyh
 have xMh:=PySem.W.mg_none_of X G xzh
 have xNh:=PySem.W.mg_none_of X G xAh
 have xOh:=PySem.W.mg_none_of X G xBh
 have xPh:=PySem.W.mg_none_of X G xCh
 have xQh:=PySem.W.mg_none_of X G xDh
 have xRh:=PySem.W.mg_none_of X G xEh
 have Y8:=PySem.W.mg_none_of X G xFh
 have xTh:=PySem.W.mg_none_of X G xGh
 have xUh:=PySem.W.mg_of X G xrh
 have xVh:=PySem.W.mg_of X G xth
 have pY:IsK K xo:=⟨Wt,Wu,Wv,Ww⟩
 have Yc:BK K xo:=⟨xag,xbg,xcg,xdg⟩
 have xXh:=PySem.W.mg_of X G x4f
 have xYh:=dH (st:=jq) xff xgf xhf
 have xZh:=xYh.binds (ps:=["_law_cell","_law_k"]) λ_ _ _ _ _ _ us hl=>by obtain⟨a,b,rfl⟩:=Ni hl;rfl
 have x0h:=PySem.W.mg_of X G xef
 have x1h:=λbase:Heap=>Bs (P:=l.prog) (w:=w) (mg:=mg) (base:=base) xYh
 have bI:=λbase:Heap=>jx.mk (ds:=[]) ⟨_,_,_,x1h base,x0h,xhf,xZh⟩
 have x2h:=dH (st:=jr) xjf xkf xlf
 have x3h:=x2h.binds (ps:=["_law_cell"]) λ_ _ _ _ _ _ us hl=>by obtain⟨a,rfl⟩:=Nh hl;rfl
 have x4h:=PySem.W.mg_of X G xif
 have x5h:=λbase:Heap=>Bt (P:=l.prog) (w:=w) (mg:=mg) (base:=base) x2h Vb xIh VG
 have qC:=λbase:Heap=>jx.mk (ds:=[]) ⟨_,_,_,x5h base,x4h,xlf,x3h⟩
 have x6h:=dH (st:=iB) xnf xof xpf
 have x7h:=x6h.binds (ps:=["_law_script","_law_k"]) λ_ _ _ _ _ _ us hl=>by obtain⟨a,b,rfl⟩:=Ni hl;rfl
 have x8h:=PySem.W.mg_of X G xmf
 have x9h:=λbase:Heap=>yK (P:=l.prog) (w:=w) (mg:=mg) (base:=base) x6h Vb
 have bJ:=λbase:Heap=>jx.mk (ds:=[]) ⟨_,_,_,x9h base,x8h,xpf,x7h⟩
 have xai:=dH (st:=jt) xrf xsf xtf
 have xbi:=xai.binds (ps:=["_law_cell"]) λ_ _ _ _ _ _ us hl=>by obtain⟨a,rfl⟩:=Nh hl;rfl
 have xci:=PySem.W.mg_of X G xqf
 have xdi:=λbase:Heap=>Bu (P:=l.prog) (w:=w) (mg:=mg) (base:=base) xai
 have qD:=λbase:Heap=>jx.mk (ds:=[]) ⟨_,_,_,xdi base,xci,xtf,xbi⟩
 have xei:=dH (st:=j4) xvf xwf xxf
 have xfi:=xei.binds (ps:=["_law_cell","_law_names_here","_law_more"]) λ_ _ _ _ _ _ us hl=>by obtain⟨a,b,c,rfl⟩:=lv3 hl;rfl
 have xgi:=PySem.W.mg_of X G xuf
 have xhi:=λbase:Heap=>zY (P:=l.prog) (w:=w) (mg:=mg) (base:=base) xei (qD base) Rt xLh xMh
 have p8:=λbase:Heap=>jx.mk (ds:=[]) ⟨_,_,_,xhi base,xgi,xxf,xfi⟩
 have xii:=dH (st:=lO) xzf xAf xBf
 have xji:=xii.binds (ps:=["_law_cell","_law_names_here","_law_left","_law_k"]) λ_ _ _ _ _ _ us hl=>by obtain⟨a,b,c,d,rfl⟩:=lv4 hl;rfl
 have xki:=PySem.W.mg_of X G xyf
 have xli:=λbase:Heap=>Hz (P:=l.prog) (w:=w) (mg:=mg) (base:=base) xii xNh
 have uI:=λbase:Heap=>jx.mk (ds:=[]) ⟨_,_,_,xli base,xki,xBf,xji⟩
 have xmi:=dH (st:=j6) xDf xEf xFf
 have xni:=xmi.binds (ps:=["_law_script","_law_t","_law_names_here","_law_most","_law_many"]) λ_ _ _ _ _ _ us hl=>by obtain⟨a,b,c,d,e,rfl⟩:=lv5 hl;rfl
 have xoi:=PySem.W.mg_of X G xCf
 have xpi:=λbase:Heap=>Aa (P:=l.prog) (w:=w) (mg:=mg) (base:=base) xmi VG (uI base) (bJ base) (bI base) xMh
 have lX:=λbase:Heap=>jx.mk (ds:=[]) ⟨_,_,_,xpi base,xoi,xFf,xni⟩
 have xqi:=dH (st:=iC) xHf xIf xJf
 have xri:=xqi.binds (ps:=["_law_script","_law_most"]) λ_ _ _ _ _ _ us hl=>by obtain⟨a,b,rfl⟩:=Ni hl;rfl
 have xsi:=PySem.W.mg_of X G xGf
 have xti:=λbase:Heap=>yL (P:=l.prog) (w:=w) (mg:=mg) (base:=base) xqi Rt xOh VG xPh (bJ base) (p8 base) (lX base) (bI base) xMh xNh (qC base)
 have nZ:=λbase:Heap=>jx.mk (ds:=[]) ⟨_,_,_,xti base,xsi,xJf,xri⟩
 have xui:=dH (st:=gk) xLf xMf xNf
 have xvi:=xui.binds (ps:=["_law_rows"]) λ_ _ _ _ _ _ us hl=>by obtain⟨a,rfl⟩:=Nh hl;rfl
 have xwi:=PySem.W.mg_of X G xKf
 have xxi:=λbase:Heap=>vq (P:=l.prog) (w:=w) (mg:=mg) (base:=base) xui Rt Vb VG
 have lM:=λbase:Heap=>jx.mk (ds:=[]) ⟨_,_,_,xxi base,xwi,xNf,xvi⟩
 have xyi:=dH (st:=jY) xPf xQf xRf
 have xzi:=xyi.binds (ps:=["_law_plain"]) λ_ _ _ _ _ _ us hl=>by obtain⟨a,rfl⟩:=Nh hl;rfl
 have xAi:=PySem.W.mg_of X G xOf
 have xBi:=λbase:Heap=>Ej (P:=l.prog) (w:=w) (mg:=mg) (base:=base) xyi Rt (lM base)
 have rK:=λbase:Heap=>jx.mk (ds:=[]) ⟨_,_,_,xBi base,xAi,xRf,xzi⟩
 have xCi:=dH (st:=pQ) xTf xUf xVf
 have xDi:=xCi.binds (ps:=["kind","part"]) λ_ _ _ _ _ _ us hl=>by obtain⟨a,b,rfl⟩:=Ni hl;rfl
 have xEi:=PySem.W.mg_of X G xSf
 have xFi:=λbase:Heap=>Nx (P:=l.prog) (w:=w) (mg:=mg) (base:=base) xCi xQh xRh
 have Aj:=λbase:Heap=>jx.mk (ds:=[]) ⟨_,_,_,xFi base,xEi,xVf,xDi⟩
 have xGi:=dH (st:=iD) xXf xYf xZf
 have xHi:=xGi.binds (ps:=["row"]) λ_ _ _ _ _ _ us hl=>by obtain⟨a,rfl⟩:=Nh hl;rfl
 have xIi:=PySem.W.mg_of X G xWf
 have xJi:=λbase:Heap=>yM (P:=l.prog) (w:=w) (mg:=mg) (base:=base) xGi xLh xUh xsh (Aj base)
 have o5:=λbase:Heap=>jx.mk (ds:=[]) ⟨_,_,_,xJi base,xIi,xZf,xHi⟩
 have xKi:=dH (st:=gJ) x1f x2f x3f
 have xLi:=xKi.binds (ps:=["rows"]) λ_ _ _ _ _ _ us hl=>by obtain⟨a,rfl⟩:=Nh hl;rfl
 have xMi:=PySem.W.mg_of X G x0f
 have xNi:=λbase:Heap=>wJ (P:=l.prog) (w:=w) (mg:=mg) (base:=base) xKi Rt (o5 base)
 have mL:=λbase:Heap=>jx.mk (ds:=[]) ⟨_,_,_,xNi base,xMi,x3f,xLi⟩
 have xOi:=dH (st:=nG) x7f x8f x9f
 have xPi:=xOi.binds (ps:=["self","cells","threads"]) λ_ _ _ _ _ _ us hl=>by obtain⟨a,b,c,rfl⟩:=lv3 hl;rfl
 have xQi:Mk K xo xp:=⟨xeg,x5f,x6f,xfg⟩
 have xRi:=λbase:Heap=>Jv (P:=l.prog) (w:=w) (mg:=mg) (base:=base) xOi Yc Yd Ye Rt xig (mL base) xjg
 have xSi:=dH (st:=kh) xlg xmg xng
 have xTi:=xSi.binds (ps:=["parts"]) λ_ _ _ _ _ _ us hl=>by obtain⟨a,rfl⟩:=Nh hl;rfl
 have xUi:=PySem.W.mg_of X G xkg
 have xVi:=λbase:Heap=>El (P:=l.prog) (w:=w) (mg:=mg) (base:=base) xSi Rt
 have oN:=λbase:Heap=>jx.mk (ds:=[]) ⟨_,_,_,xVi base,xUi,xng,xTi⟩
 have xWi:=dH (st:=jw) xpg xqg xrg
 have xXi:=xWi.binds (ps:=["plain"]) λ_ _ _ _ _ _ us hl=>by obtain⟨a,rfl⟩:=Nh hl;rfl
 have xYi:=PySem.W.mg_of X G xog
 have xZi:=λbase:Heap=>Bw (P:=l.prog) (w:=w) (mg:=mg) (base:=base) xWi Rt (oN base) xQi (xRi base) xXh xPi
 have gb:=λbase:Heap=>jx.mk (ds:=[]) ⟨_,_,_,xZi base,xYi,xrg,xXi⟩
 have x0i:=dH (st:=fQ) xtg xug xvg
 have x1i:=x0i.binds (ps:=["_law_plain"]) λ_ _ _ _ _ _ us hl=>by obtain⟨a,rfl⟩:=Nh hl;rfl
 have x2i:=PySem.W.mg_of X G xsg
 have x3i:=λbase:Heap=>uG (P:=l.prog) (w:=w) (mg:=mg) (base:=base) x0i Y8 VG Vb
 have lz:=λbase:Heap=>jx.mk (ds:=[]) ⟨_,_,_,x3i base,x2i,xvg,x1i⟩
 have x4i:=dH (st:=iZ) xxg xyg xzg
 have x5i:=x4i.binds (ps:=["_law_plain","_law_cell"]) λ_ _ _ _ _ _ us hl=>by obtain⟨a,b,rfl⟩:=Ni hl;rfl
 have x6i:=PySem.W.mg_of X G xwg
 have x7i:=λbase:Heap=>zX (P:=l.prog) (w:=w) (mg:=mg) (base:=base) x4i Y8 (lz base) (bI base) Vb
 have p7:=λbase:Heap=>jx.mk (ds:=[]) ⟨_,_,_,x7i base,x6i,xzg,x5i⟩
 have x8i:=dH (st:=fD) xBg xCg xDg
 have x9i:=x8i.binds (ps:=["_law_rows","_law_spots"]) λ_ _ _ _ _ _ us hl=>by obtain⟨a,b,rfl⟩:=Ni hl;rfl
 have xaj:=PySem.W.mg_of X G xAg
 have xbj:=λbase:Heap=>tQ (P:=l.prog) (w:=w) (mg:=mg) (base:=base) x8i Rt VG Vb
 have iI:=λbase:Heap=>jx.mk (ds:=[]) ⟨_,_,_,xbj base,xaj,xDg,x9i⟩
 have xcj:=dH (st:=iY) xFg xGg xHg
 have xdj:=xcj.binds (ps:=["_law_plain","_law_places_here"]) λ_ _ _ _ _ _ us hl=>by obtain⟨a,b,rfl⟩:=Ni hl;rfl
 have xej:=PySem.W.mg_of X G xEg
 have xfj:=λbase:Heap=>zW (P:=l.prog) (w:=w) (mg:=mg) (base:=base) xcj Rt Y8 (iI base)
 have p6:=λbase:Heap=>jx.mk (ds:=[]) ⟨_,_,_,xfj base,xej,xHg,xdj⟩
 have xgj:=dH (st:=lQ) xJg xKg xLg
 have xhj:=xgj.binds (ps:=["row","behind"]) λ_ _ _ _ _ _ us hl=>by obtain⟨a,b,rfl⟩:=Ni hl;rfl
 have xij:=PySem.W.mg_of X G xIg
 have xjj:=λbase:Heap=>HB (P:=l.prog) (w:=w) (mg:=mg) (base:=base) xgj Vb xVh lB
 have uJ:=λbase:Heap=>jx.mk (ds:=[]) ⟨_,_,_,xjj base,xij,xLg,xhj⟩
 have xkj:=dH (st:=jZ) xNg xOg xPg
 have xlj:=xkj.binds (ps:=["rows"]) λ_ _ _ _ _ _ us hl=>by obtain⟨a,rfl⟩:=Nh hl;rfl
 have xmj:=PySem.W.mg_of X G xMg
 have xnj:=λbase:Heap=>Ek (P:=l.prog) (w:=w) (mg:=mg) (base:=base) xkj Y8 xVh lB (uJ base)
 have rM:=λbase:Heap=>jx.mk (ds:=[]) ⟨_,_,_,xnj base,xmj,xPg,xlj⟩
 have xoj:=dH (st:=wO) xRg xSg xTg
 have xpj:=xoj.binds (ps:=["program"]) λ_ _ _ _ _ _ us hl=>by obtain⟨a,rfl⟩:=Nh hl;rfl
 have xqj:=PySem.W.mg_of X G xQg
 have xrj:=λbase:Heap=>U3 (P:=l.prog) (w:=w) (mg:=mg) (base:=base) xoj Yc Ye (rM base) Yd (gb base)
 have pB:=λbase:Heap=>jx.mk (ds:=[]) ⟨_,_,_,xrj base,xqj,xTg,xpj⟩
 have xsj:=dH (st:=ju) xVg xWg xXg
 have xtj:=xsj.binds (ps:=["row","at","ats"]) λ_ _ _ _ _ _ us hl=>by obtain⟨a,b,c,rfl⟩:=lv3 hl;rfl
 have xuj:=PySem.W.mg_of X G xUg
 have xvj:=λbase:Heap=>Bv (P:=l.prog) (w:=w) (mg:=mg) (base:=base) xsj Vb VG
 have n8:=λbase:Heap=>jx.mk (ds:=[]) ⟨_,_,_,xvj base,xuj,xXg,xtj⟩
 have xwj:=dH (st:=j7) xZg x0g x1g
 have xxj:=xwj.binds (ps:=["rows","ats"]) λ_ _ _ _ _ _ us hl=>by obtain⟨a,b,rfl⟩:=Ni hl;rfl
 have xyj:=PySem.W.mg_of X G xYg
 have xzj:=λbase:Heap=>Ab (P:=l.prog) (w:=w) (mg:=mg) (base:=base) xwj Y8 (n8 base) xVh lB
 have pC:=λbase:Heap=>jx.mk (ds:=[]) ⟨_,_,_,xzj base,xyj,x1g,xxj⟩
 have xAj:=dH (st:=pO) x3g x4g x5g
 have xBj:=xAj.binds (ps:=["places","thread"]) λ_ _ _ _ _ _ us hl=>by obtain⟨a,b,rfl⟩:=Ni hl;rfl
 have xCj:=PySem.W.mg_of X G x2g
 have xDj:=λbase:Heap=>Nt (P:=l.prog) (w:=w) (mg:=mg) (base:=base) xAj
 have Ai:=λbase:Heap=>jx.mk (ds:=[]) ⟨_,_,_,xDj base,xCj,x5g,xBj⟩
 have xEj:=dH (st:=pP) x7g x8g x9g
 have xFj:=xEj.binds (ps:=["program","places"]) λ_ _ _ _ _ _ us hl=>by obtain⟨a,b,rfl⟩:=Ni hl;rfl
 have xGj:=PySem.W.mg_of X G x6g
 have xHj:=λbase:Heap=>Nu (P:=l.prog) (w:=w) (mg:=mg) (base:=base) xEj Yc Yd (gb base) Y8 Ye (Ai base) (pC base) (pB base)
 have pN:=λbase:Heap=>jx.mk (ds:=[]) ⟨_,_,_,xHj base,xGj,x9g,xFj⟩
 have xIj:=dH (st:=j5) xbh xch xdh
 have xJj:=xIj.binds (ps:=["_law_plain","_law_cell"]) λ_ _ _ _ _ _ us hl=>by obtain⟨a,b,rfl⟩:=Ni hl;rfl
 have xKj:=PySem.W.mg_of X G xah
 have xLj:=λbase:Heap=>zZ (P:=l.prog) (w:=w) (mg:=mg) (base:=base) xIj Rt Y8 xPh xNh Vb (bI base) VG
 have pA:=λbase:Heap=>jx.mk (ds:=[]) ⟨_,_,_,xLj base,xKj,xdh,xJj⟩
 have xMj:=dH (st:=t8) xgh xhh xih
 have xNj:=xMj.binds (ps:=["self"]) λ_ _ _ _ _ _ us hl=>by obtain⟨a,rfl⟩:=Nh hl;rfl
 have xOj:Meth K xo "plain" xE:=⟨xeh,xfh,xih⟩
 have xPj:=λbase:Heap=>Qu (P:=l.prog) (w:=w) (mg:=mg) (base:=base) xMj Yc Ye Yd
 have xQj:=dH (st:=nH) xkh xlh xmh
 have xRj:=xQj.binds (ps:=["_law_found","_law_due"]) λ_ _ _ _ _ _ us hl=>by obtain⟨a,b,rfl⟩:=Ni hl;rfl
 have xSj:=PySem.W.mg_of X G xjh
 have xTj:=λbase:Heap=>Jw (P:=l.prog) (w:=w) (mg:=mg) (base:=base) xQj xTh Yc xOj (xPj base) xNj xQh xXh pY
 have iW:=λbase:Heap=>jx.mk (ds:=[]) ⟨_,_,_,xTj base,xSj,xmh,xRj⟩
 have xUj:=dH (st:=Df) xoh xph xqh
 have xVj:=xUj.binds (ps:=["_law_script"]) λ_ _ _ _ _ _ us hl=>by obtain⟨a,rfl⟩:=Nh hl;rfl
 have xWj:=PySem.W.mg_of X G xnh
 have xXj:=λbase:Heap=>X7 (P:=l.prog) (w:=w) (mg:=mg) (base:=base) xUj Yc xOj (xPj base) xNj (pN base) (iW base) (pB base) (p6 base) xPh (p7 base) (gb base) (rK base) (pA base) (bJ base) (bI base) (nZ base)
 refine⟨_,λs v=> .of_eq rfl,λbase _ _=>(xXj base).imp λvs H Q E hsp=>?_⟩
 obtain⟨ns,hr,hq⟩:=hsp
 refine⟨[.tu ns],.bl true,.new,hr,DL.K.a0c xo ns,λv H1 _ r=>?_⟩
 cases r
 exact hq H1
theorem walk {l:PySem.W.OpenLaw}{q:Program}{loose:List Str}{XP:(Str->Option Value)->Heap->Prop}{YP:World->Heap->Prop}{d:DefRec}{K:Params->Fg}(hn:l.most=some 63)(hdf:d.params.defaults=[])
 (hY:∀(w:World) (h:Heap),YP w h->(K w.params).In h)
 (F:∀(w:World) (mg:Str->Option Value) (fa:Addr) (h:Heap),(K w.params).In h->h.Ns mainGlobals mg->mg d.name=some (.ref fa)->
  ∃fd:FuncData,(∀(s:Shared) (u:Value),BindsTo s fd ⟨[u],[]⟩ [("_law_script",u)])/\∀base:Heap,(K w.params).In base->base.Ns mainGlobals mg->eZ l.prog w (K w.params) mg base mD 9 fa fd ["_law_script"] (R8 (K w.params))):
 PySem.W.WalkO q loose XP YP l.row.toRowW d [] (λf vs=>PySem.call f vs):=
 L2.V9 (n:=63) (k:=9) (x:="_law_script") (CX:=λ_=>mD) (sp:=λw=>R8 (K w.params)) hn (by decide) hdf ⟨rfl,by decide,by decide,rfl⟩ hY F (λ_ _ a ns hl hO hS=>⟨ns,XH hO hS,λ_=>rfl⟩) λ_ _ _ _ _ z=>z
end KC
end DL
namespace PySem.W.Fast
def tw8156731868948086332:=0
def tw11465115240026483393:=0
def tw12071850839028822637:=0
def tw3691679513664759513:=0
def tw13233258382357400480:=0
def tw15476941104520523974:=0
def tw9895323408828793681:=0
def tw2736702494882289176:=0
def tw15047051401821765861:=0
def tw281438954404387147:=0
def tw281600620922915551:=0
def tw1194484571586528711:=0
def tw10339569573265488554:=0
def tw6023646169116122941:=0
def tw11369501950794770647:=0
def tw12577830662707324239:=0
def tw2084418034521602950:=0
def tw13175473940418813169:=0
def tw9286207518764169003:=0
def tw1525875580625639856:=0
def tw16541910671658394251:=0
def tw7378908970589517383:=0
def tw3447569889649974454:=0
def tw1859339337790045910:=0
def tw2398039955282063707:=0
def tw6081416221598238841:=0
def tw7704229101129896263:=0
def tw11566257269574457981:=0
def tw12801143784743875548:=0
def tw15476528838946824179:=0
def tw11268176285599578830:=0
def tw4715965723795401948:=0
def tw3154823655156473838:=0
def tw5058605468522845992:=0
def tw882866692614329187:=0
def tw11734578846186486226:=0
def tw14132943311733074749:=0
def tw7223906062709838486:=0
def tw6359083411775980410:=0
def tw4127252476382318380:=0
def tw13941852308582878638:=0
def tw9841495086424694254:=0
def tw15935287171908662472:=0
def tw2657479120673112740:=0
def tw4440857929223808638:=0
def tw16506531243419362897:=0
def tw9395412674654029604:=0
def tw15741583886664930596:=0
def tw7391710741193026188:=0
def tw8702057400815586820:=0
def tw12854289351354646249:=0
def tw17680094578329953201:=0
def tw16360184482527408620:=0
def tw12799953554906318386:=0
def tw9564980890087134553:=0
def tw9452562307803094276:=0
def tw4551678732748559673:=0
def tw3863505251607142359:=0
def tw16412872236466758145:=0
def tw9117046061051727032:=0
def tw4617066235647114915:=0
def tw5634079485189848192:=0
def tw3328056179544047273:=0
def tw17375924007056450864:=0
def tw9440198855685964556:=0
def tw13108674618891807284:=0
def tw17344981244473970854:=0
def tw508287510996671636:=0
def tw8038350375965674994:=0
def tw13348685051020078723:=0
def tw13563777571256035246:=0
def tw15149184040108138761:=0
def tw7608772800696552948:=0
def tw7724311624744446336:=0
def tw16201995102515661486:=0
def tw16286179477554941400:=0
def tw8524632020786949820:=0
def tw12945566329566227826:=0
def tw5162540520587496862:=0
def tw6491643082872168909:=0
def tw11013463773684336231:=0
def tw2395651267059923538:=0
def tw7863225679115834713:=0
def tw13937545961025569317:=0
def tw3554718294522023641:=0
def tw7850989534218046004:=0
def tw3130192132429075024:=0
def tw10935014143221373367:=0
def tw6540852443389115626:=0
def tw4392823777660809388:=0
def tw15532272873418445640:=0
def tw15537159846546152080:=0
def tw3709891930791370249:=0
def tw1237147553977601096:=0
def tw16310610929756441437:=0
def tw16443509872419185354:=0
def tw13450646456700378277:=0
def tw11030201022632588323:=0
def tw1088329070793815594:=0
def tw4417715930235090912:=0
def tw12124503696179638481:=0
def tw13704607340616598082:=0
def tw4302171461714443569:=0
def tw14885557238153813175:=0
def tw165047908944374923:=0
def tw17451200254015307956:=0
def tw7071614293075081079:=0
def tw17989577407381585202:=0
def tw13286295731231573611:=0
def tw9750805871298985833:=0
def tw1473986915456009808:=0
def tw8717275029379624627:=0
def tw10508083470281478795:=0
def tw6021740628759793777:=0
def tw7233326606364074156:=0
def tw5302388000032663039:=0
def tw12984999754502441009:=0
def tw17087199213030816587:=0
def tw15970549609464005658:=0
def tw4408643438846701681:=0
def tw8931690442269886659:=0
def tw14552041239077593590:=0
def tw2759016799024592832:=0
def tw3812197421058881207:=0
end PySem.W.Fast
open PySem PySem.W PyProof.Rows
set_option maxRecDepth 100000 in
set_option maxHeartbeats 0 in
theorem PySem.Challenge.cw_fencerow_k60_bare_and_fenced_holds : PySem.Challenge.rw_fencerow_k60_bare_and_fenced.Holds := by
 w_on;o_law;k_head;(case hw=>w_witness2)
 k_fill
 refine DL.KC.walk (l:=PySem.Challenge.rw_fencerow_k60_bare_and_fenced) rfl rfl (λw h Y=>PySem.W.kIn_of Y) ?F
 case F=>
  intro w mg fa h KX G hmg
  refine' DL.KC.all_mk KX G hmg ?xef ?xff ?xgf ?xhf ?xif ?xjf ?xkf ?xlf ?xmf ?xnf ?xof ?xpf ?xqf ?xrf ?xsf ?xtf ?xuf ?xvf ?xwf ?xxf ?xyf ?xzf ?xAf ?xBf ?xCf ?xDf ?xEf ?xFf ?xGf ?xHf ?xIf ?xJf ?xKf ?xLf ?xMf ?xNf ?xOf ?xPf ?xQf ?xRf ?xSf ?xTf ?xUf ?xVf ?xWf ?xXf ?xYf ?xZf ?x0f ?x1f ?x2f ?x3f ?x4f ?x5f ?x6f ?x7f ?x8f ?x9f ?xag ?xbg ?xcg ?xdg ?xeg ?xfg ?Yd ?Ye ?xig ?xjg ?xkg ?xlg ?xmg ?xng ?xog ?xpg ?xqg ?xrg ?xsg ?xtg ?xug ?xvg ?xwg ?xxg ?xyg ?xzg ?xAg ?xBg ?xCg ?xDg ?xEg ?xFg ?xGg ?xHg ?xIg ?xJg ?xKg ?xLg ?xMg ?xNg ?xOg ?xPg ?xQg ?xRg ?xSg ?xTg ?xUg ?xVg ?xWg ?xXg ?xYg ?xZg ?x0g ?x1g ?x2g ?x3g ?x4g ?x5g ?x6g ?x7g ?x8g ?x9g ?xah ?xbh ?xch ?xdh ?xeh ?xfh ?xgh ?xhh ?xih ?xjh ?xkh ?xlh ?xmh ?xnh ?xoh ?xph ?xqh ?xrh ?xsh ?xth ?lB ?Wt ?Wu ?Wv ?Ww ?xuh ?xvh ?xwh ?xxh ?xyh ?xzh ?xAh ?xBh ?xCh ?xDh ?xEh ?xFh ?xGh
  (case xef=>k_is)
  (case xff=>k_is)
  (case xgf=>k_is)
  (case xhf=>k_is)
  (case xif=>k_is)
  (case xjf=>k_is)
  (case xkf=>k_is)
  (case xlf=>k_is)
  (case xmf=>k_is)
  (case xnf=>k_is)
  (case xof=>k_is)
  (case xpf=>k_is)
  (case xqf=>k_is)
  (case xrf=>k_is)
  (case xsf=>k_is)
  (case xtf=>k_is)
  (case xuf=>k_is)
  (case xvf=>k_is)
  (case xwf=>k_is)
  (case xxf=>k_is)
  (case xyf=>k_is)
  (case xzf=>k_is)
  (case xAf=>k_is)
  (case xBf=>k_is)
  (case xCf=>k_is)
  (case xDf=>k_is)
  (case xEf=>k_is)
  (case xFf=>k_is)
  (case xGf=>k_is)
  (case xHf=>k_is)
  (case xIf=>k_is)
  (case xJf=>k_is)
  (case xKf=>k_is)
  (case xLf=>k_is)
  (case xMf=>k_is)
  (case xNf=>k_is)
  (case xOf=>k_is)
  (case xPf=>k_is)
  (case xQf=>k_is)
  (case xRf=>k_is)
  (case xSf=>k_is)
  (case xTf=>k_is)
  (case xUf=>k_is)
  (case xVf=>k_is)
  (case xWf=>k_is)
  (case xXf=>k_is)
  (case xYf=>k_is)
  (case xZf=>k_is)
  (case x0f=>k_is)
  (case x1f=>k_is)
  (case x2f=>k_is)
  (case x3f=>k_is)
  (case x4f=>k_is)
  (case x5f=>k_is)
  (case x6f=>k_is)
  (case x7f=>k_is)
  (case x8f=>k_is)
  (case x9f=>k_is)
  (case xag=>k_is)
  (case xbg=>k_is)
  (case xcg=>k_is)
  (case xdg=>k_is)
  (case xeg=>k_is)
  (case xfg=>k_is)
  (case Yd=>k_is)
  (case Ye=>k_is)
  (case xig=>k_is)
  (case xjg=>k_is)
  (case xkg=>k_is)
  (case xlg=>k_is)
  (case xmg=>k_is)
  (case xng=>k_is)
  (case xog=>k_is)
  (case xpg=>k_is)
  (case xqg=>k_is)
  (case xrg=>k_is)
  (case xsg=>k_is)
  (case xtg=>k_is)
  (case xug=>k_is)
  (case xvg=>k_is)
  (case xwg=>k_is)
  (case xxg=>k_is)
  (case xyg=>k_is)
  (case xzg=>k_is)
  (case xAg=>k_is)
  (case xBg=>k_is)
  (case xCg=>k_is)
  (case xDg=>k_is)
  (case xEg=>k_is)
  (case xFg=>k_is)
  (case xGg=>k_is)
  (case xHg=>k_is)
  (case xIg=>k_is)
  (case xJg=>k_is)
  (case xKg=>k_is)
  (case xLg=>k_is)
  (case xMg=>k_is)
  (case xNg=>k_is)
  (case xOg=>k_is)
  (case xPg=>k_is)
  (case xQg=>k_is)
  (case xRg=>k_is)
  (case xSg=>k_is)
  (case xTg=>k_is)
  (case xUg=>k_is)
  (case xVg=>k_is)
  (case xWg=>k_is)
  (case xXg=>k_is)
  (case xYg=>k_is)
  (case xZg=>k_is)
  (case x0g=>k_is)
  (case x1g=>k_is)
  (case x2g=>k_is)
  (case x3g=>k_is)
  (case x4g=>k_is)
  (case x5g=>k_is)
  (case x6g=>k_is)
  (case x7g=>k_is)
  (case x8g=>k_is)
  (case x9g=>k_is)
  (case xah=>k_is)
  (case xbh=>k_is)
  (case xch=>k_is)
  (case xdh=>k_is)
  (case xeh=>k_is)
  (case xfh=>k_is)
  (case xgh=>k_is)
  (case xhh=>k_is)
  (case xih=>k_is)
  (case xjh=>k_is)
  (case xkh=>k_is)
  (case xlh=>k_is)
  (case xmh=>k_is)
  (case xnh=>k_is)
  (case xoh=>k_is)
  (case xph=>k_is)
  (case xqh=>k_is)
  (case xrh=>k_is)
  (case xsh=>kernel_rfl)
  (case xth=>k_is)
  (case lB=>kernel_rfl)
  (case Wt=>k_is)
  (case Wu=>k_is)
  (case Wv=>k_is)
  (case Ww=>k_is)
  (case xuh=>k_is)
  (case xvh=>k_is)
  (case xwh=>k_is)
  (case xxh=>k_is)
  (case xyh=>k_is)
  (case xzh=>k_is)
  (case xAh=>k_is)
  (case xBh=>k_is)
  (case xCh=>k_is)
  (case xDh=>k_is)
  (case xEh=>k_is)
  (case xFh=>k_is)
  (case xGh=>k_is)