import PyProof.Rows.All
import Wide.All
import OpenK.AllK
import Wide.FinOn
import Lean
import PyProof.EqAt
import PyProof.EqKinds
import PyProof.TupleCall
import PySem.Challenge.RW_spotlook_k09_no_plots
set_option Elab.async false
set_option linter.all false
set_option maxRecDepth 100000
set_option maxHeartbeats 4000000
theorem nbL{n m:Nat}(h:Nat.ble n m=true):n<=m:=Nat.le_of_ble_eq_true h
namespace L2
open PySem PySem.Spec PyProof.Rows
abbrev Key:=Sum Int Str
def vy:Key->Value->Bool
 |.inl k,v=>Value.isInt k v
 |.inr x,v=>Value.isStrOf x v
def zV(w:World):Key->Int
 |.inl k=>hashInt k
 |.inr x=>hashStr w x
theorem aW:∀{k:Key} {v:Value},vy k v=true->(∃i t,k=Sum.inl i/\v=Value.int i t)\/(∃x t,k=Sum.inr x/\v=Value.str x t)
 |.inl i,v,h=>by
  obtain⟨t,e⟩:=Value.isInt_shape (k:=i) (v:=v) h
  exact .inl ⟨i,t,rfl,e⟩
 |.inr x,v,h=>by
  obtain⟨t,e⟩:=Value.isStrOf_shape (x:=x) (v:=v) h
  exact .inr ⟨x,t,rfl,e⟩
theorem vQ(a b:Int):decide ((Sum.inl a:Key)=Sum.inl b)=(a==b):=by
 by_cases e:a=b
 ·subst e;simp
 ·have h:¬(Sum.inl a:Key)=Sum.inl b:=fun q=>e (Sum.inl.inj q);rw[decide_eq_false h];exact(beq_eq_false_iff_ne.mpr e).symm
theorem wm(a b:Str):decide ((Sum.inr a:Key)=Sum.inr b)=decide (a=b):=by
 by_cases e:a=b
 ·subst e;simp
 ·have h:¬(Sum.inr a:Key)=Sum.inr b:=fun q=>e (Sum.inr.inj q);rw[decide_eq_false h,decide_eq_false e]
theorem wY(a:Int)(b:Str):decide ((Sum.inl a:Key)=Sum.inr b)=false:=decide_eq_false (fun q=>nomatch q)
theorem xk(a:Str)(b:Int):decide ((Sum.inr a:Key)=Sum.inl b)=false:=decide_eq_false (fun q=>nomatch q)
def oF(prog:Program)(w:World):PySem.KeyKind prog w Key where
 is:=vy
 hash:=zV w
 inj:=fun v a b ha hb=>by
  rcases aW ha with⟨i,t,rfl,rfl⟩|⟨x,t,rfl,rfl⟩
  ·rcases aW hb with⟨j,u,rfl,e⟩|⟨y,u,rfl,e⟩
   ·injection e with e1 _;rw[e1]
   ·exact nomatch e
  ·rcases aW hb with⟨j,u,rfl,e⟩|⟨y,u,rfl,e⟩
   ·exact nomatch e
   ·injection e with e1 _;rw[e1]
 byValue:=fun k v h=>by
  rcases aW h with⟨i,t,rfl,rfl⟩|⟨x,t,rfl,rfl⟩<;>rfl
 pyHash:=fun hv h=>by
  rcases aW hv with⟨i,t,rfl,rfl⟩|⟨x,t,rfl,rfl⟩
  ·exact wpAny_pyHash_int h
  ·exact wpAny_pyHash_str h
 eqBool:=fun hu hv h=>by
  rcases aW hu with⟨i,t,rfl,rfl⟩|⟨x,t,rfl,rfl⟩
  ·rcases aW hv with⟨j,u,rfl,rfl⟩|⟨y,u,rfl,rfl⟩
   ·rw[vQ]at h;exact wpAny_eqBool_int h
   ·rw[wY]at h;exact SeqAt.EqAt.int_str i t y u _ _ _ _ h
  ·rcases aW hv with⟨j,u,rfl,rfl⟩|⟨y,u,rfl,rfl⟩
   ·rw[xk]at h;exact SeqAt.EqAt.str_int x t j u _ _ _ _ h
   ·rw[wm]at h;exact wpAny_eqBool_str h
 «strs»:=fun k x t v h=>by
  rcases aW h with⟨i,u,rfl,e⟩|⟨y,u,rfl,e⟩
  ·exact nomatch e
  ·injection e with e1 _
   subst e1
   cases v<;>rfl
inductive V where
 |non|bl (b:Bool)|int (i:Int)|str (x:Str)|byt (b:Array UInt8)|flt (b:UInt64)|ref (a:Addr)|ty (n:String)
 deriving DecidableEq
def RelV:V->Value->Prop
 |.non,u=>u=Value.none
 |.bl b,u=>u=Value.bool b
 |.int i,u=>∃t,u=Value.int i t
 |.str x,u=>∃t,u=Value.str x t
 |.byt b,u=>∃t,u=Value.bytes b t
 |.flt b,u=>∃t,u=Value.float b t
 |.ref a,u=>u=Value.ref a
 |.ty n,u=>u=Value.type n
abbrev Vals:List V->List Value->Prop:=Paired RelV
theorem Vals.length{xs:List V}{us:List Value}(r:Vals xs us):xs.length=us.length:=Paired.length r
theorem Vals.get:∀{xs:List V} {us:List Value} {i:Nat} {x:V},Vals xs us->xs[i]?=some x->∃u,us[i]?=some u/\RelV x u
 |_,_,_,_,.nil,e=>by simp at e
 |_,_,0,_,.cons r _,e=>by simp at e;subst e;exact⟨_,rfl,r⟩
 |_,_,i+1,x,.cons _ t,e=>by
  obtain⟨u,h1,h2⟩:=Vals.get (i:=i) (x:=x) t (by simpa using e)
  exact⟨u,by simpa using h1,h2⟩
theorem Vals.set{x:V}{u:Value}(r:RelV x u):∀{xs:List V} {us:List Value} (i:Nat),Vals xs us->Vals (xs.set i x) (us.set i u)
 |_,_,_,.nil=>.nil
 |_,_,0,.cons _ t=>.cons r t
 |_,_,i+1,.cons q t=>.cons q (Vals.set r i t)
theorem Vals.append:∀{xs ys:List V} {us ws:List Value},Vals xs us->Vals ys ws->Vals (xs++ys) (us++ws)
 |_,_,_,_,.nil,s=>s
 |_,_,_,_,.cons r t,s=>.cons r (Vals.append t s)
theorem Vals.take:∀{xs:List V} {us:List Value} (n:Nat),Vals xs us->Vals (xs.take n) (us.take n)
 |_,_,0,_=>.nil
 |_,_,_+1,.nil=>.nil
 |_,_,n+1,.cons r t=>.cons r (Vals.take n t)
theorem Vals.drop:∀{xs:List V} {us:List Value} (n:Nat),Vals xs us->Vals (xs.drop n) (us.drop n)
 |_,_,0,r=>r
 |_,_,_+1,.nil=>.nil
 |_,_,n+1,.cons _ t=>Vals.drop n t
def ml:Option V->Option Value->Prop
 |some v,some u=>RelV v u
 |none,none=>True
 |_,_=>False
def KV{κ:Type}:List (κ×V)->List (κ×Value)->Prop:=Paired fun(p:κ×V) (q:κ×Value)=>p.1=q.1/\RelV p.2 q.2
def kV:Key->V
 |.inl i=>.int i
 |.inr x=>.str x
inductive HO where
 |lst (xs:List V)
 |tup (xs:List V)
 |dK (kvs:List (Key×V))|dT (kvs:List (List Key×V))
 |set (S:Int->Bool) (n:Nat)
 |ins (C dx:Addr) (fs:List (Str×V))
 |own (x:Addr)
 |xd (fs:List (Str×V))
 |met (f x:Addr)
 |rng (lo hi:Int)
 |frz (o:Obj) (u:HO)
 |tbl (ps:Array Value)
 |ext (φ:Heap->Prop)
abbrev Hp:=Addr->Option HO
def upd(H:Hp)(a:Addr)(o:HO):Hp:=fun b=>if b=a then some o else H b
theorem aB{H:Hp}{a:Addr}{o:HO}:upd H a o a=some o:=by unfold upd;rw[if_pos rfl]
theorem az{H:Hp}{a b:Addr}{o:HO}(h:b≠a):upd H a o b=H b:=by unfold upd;rw[if_neg h]
theorem iu{H:Hp}{a:Addr}{o u:HO}:upd (upd H a o) a u=upd H a u:=by funext b;unfold upd;split<;>rfl
theorem cP{H:Hp}{a b:Addr}{o:HO}(h:H a=some o)(h':H b=none):a≠b:=by intro e;subst e;rw[h]at h';cases h'
section
variable(P:Program)(w:World)
def bT(H:Hp)(h:Heap)(a:Addr):HO->Prop
 |.lst xs=>xs.length<=sizeLine/\∃(its:List Value) (n:Nat),Vals xs its/\h.get? a=some { cls:=.type "list",data:=.seq its.toArray n }
 |.tup xs=>xs.length<=sizeLine/\∃its:List Value,Vals xs its/\IsTup h a its.toArray
 |.dK kvs=>kvs.length<=sizeLine/\(a==sysModules)=false/\∃vs,KV kvs vs/\h.DictOf (oF P w) a vs
 |.dT kvs=>kvs.length<=sizeLine/\(a==sysModules)=false/\∃xs:List (List Key×Addr×Value),
  Paired (fun(p:List Key×V) (q:List Key×Addr×Value)=>p.1=q.1/\H q.2.1=some (.tup (p.1.map kV))/\RelV p.2 q.2.2) kvs xs/\
  ∃o es ep,h.get? a=some o/\o.ExactDict/\o.data=.dict es ep/\es.toList=xs.map (entryOfKey (tupleKind (oF P w)))/\(xs.map (·.1)).Nodup
 |.set S n=>h.SetOf (intKind P w) a S n
 |.ins C dx fs=>H dx=some (.own a)/\fs.length<=1000/\dx≠a/\h.get? a=some (PySem.W.instObj C dx)/\
  ∃mA,h.Ns1 dx mA/\(∀f,ml (fs.lookup f) (mA f))/\PySem.Within mA (fs.map (·.1))
 |.own _=>∃o,h.get? a=some o
 |.xd fs=>∃mA,h.Ns1 a mA/\∀f,ml (fs.lookup f) (mA f)
 |.rng lo hi=>∃t u v,h.get? a=some { cls:=.type "range",data:=.fields #[.int lo t,.int hi u,.int 1 v] }
 |.frz o u=>h.get? a=some o/\bT H h a u
 |.tbl ps=>h.get? a=some { cls:=.none,data:=.fields ps }
 |.met f x=>h.get? a=some (PySem.W.methodObj (.ref f) (.ref x))
 |.ext φ=>φ h/\(∃o,h.get? a=some o)/\∀h1 h2:Heap,φ h1->(∀o,h1.get? a=some o->h2.get? a=some o)->φ h2
def HOk(H:Hp)(h:Heap):Prop:=∀a o,H a=some o->bT P w H h a o
end
section
variable{P:Program}{w:World}{H H':Hp}{h h':Heap}{a:Addr}{o:HO}
theorem bT.lt(x:bT P w H h a o):a<h.objs.size:=by
 cases o with
 |lst xs=>obtain⟨_,_,_,_,e⟩:=x;exact Heap.lt_size e
 |tup xs=>obtain⟨_,_,_,p⟩:=x;exact p.lt
 |dK kvs=>obtain⟨_,_,_,_,o,_,_,e,_⟩:=x;exact Heap.lt_size e
 |dT kvs=>obtain⟨_,_,_,_,o,_,_,e,_⟩:=x;exact Heap.lt_size e
 |set S n=>obtain⟨o,_,_,_,e,_⟩:=x;exact Heap.lt_size e
 |ins C dx fs=>obtain⟨_,_,_,e,_⟩:=x;exact Heap.lt_size e
 |own y=>obtain⟨_,e⟩:=x;exact Heap.lt_size e
 |xd fs=>obtain⟨_,⟨_,_,_,e,_⟩,_⟩:=x;exact Heap.lt_size e
 |rng lo hi=>obtain⟨_,_,_,e⟩:=x;exact Heap.lt_size e
 |frz ob u=>obtain⟨e,_⟩:=x;exact Heap.lt_size e
 |tbl ps=>exact Heap.lt_size (show h.get? a=some _ from x)
 |met f y=>exact Heap.lt_size (show h.get? a=some _ from x)
 |ext φ=>obtain⟨_,⟨_,e⟩,_⟩:=x;exact Heap.lt_size e
theorem Paired.yW{α β:Type}{F G:α->β->Prop}:∀{l₁:List α} {l₂:List β},Paired F l₁ l₂->(∀a b,F a b->G a b)->Paired G l₁ l₂
 |_,_,.nil,_=>.nil
 |_,_,.cons r t,f=>.cons (f _ _ r) (Paired.yW t f)
theorem bT.f6(x:bT P w H h a o)(k:∀b u,(b=a\/H b=some (.own a))->h.get? b=some u->h'.get? b=some u) (ho:∀b,H b=some (.own a)->H' b=some (.own a)) (ht:∀b xs,H b=some (.tup xs)->H' b=some (.tup xs)):bT P w H' h' a o:=by
 induction o with
 |lst xs=>obtain⟨z,its,n,r,e⟩:=x;exact⟨z,its,n,r,k _ _ (.inl rfl) e⟩
 |tup xs=>obtain⟨z,its,r,ob,e,c⟩:=x;exact⟨z,its,r,ob,k _ _ (.inl rfl) e,c⟩
 |dK kvs=>obtain⟨z,y,vs,r,ob,es,ep,e,c⟩:=x;exact⟨z,y,vs,r,ob,es,ep,k _ _ (.inl rfl) e,c⟩
 |dT kvs=>
  obtain⟨z,y,xs,r,ob,es,ep,e,c⟩:=x
  exact⟨z,y,xs,Paired.yW r fun p q z=>⟨z.1,ht _ _ z.2.1,z.2.2⟩,ob,es,ep,k _ _ (.inl rfl) e,c⟩
 |set S n=>obtain⟨ob,es,ep,t,e,c⟩:=x;exact⟨ob,es,ep,t,k _ _ (.inl rfl) e,c⟩
 |ins C dx fs=>
  obtain⟨d,z,ne,e,mA,⟨od,es,ep,e2,c⟩,r⟩:=x
  exact⟨ho _ d,z,ne,k _ _ (.inl rfl) e,mA,⟨od,es,ep,k _ _ (.inr d) e2,c⟩,r⟩
 |own y=>obtain⟨ob,e⟩:=x;exact⟨ob,k _ _ (.inl rfl) e⟩
 |xd fs=>obtain⟨mA,⟨od,es,ep,e,c⟩,r⟩:=x;exact⟨mA,⟨od,es,ep,k _ _ (.inl rfl) e,c⟩,r⟩
 |rng lo hi=>obtain⟨t,u,v,e⟩:=x;exact⟨t,u,v,k _ _ (.inl rfl) e⟩
 |frz ob u ih=>obtain⟨e,q⟩:=x;exact⟨k _ _ (.inl rfl) e,ih q⟩
 |tbl ps=>
  have e:h.get? a=some { cls:=.none,data:=.fields ps }:=x
  show h'.get? a=some { cls:=.none,data:=.fields ps }
  exact k a _ (.inl rfl) e
 |met f y=>
  have e:h.get? a=some (PySem.W.methodObj (.ref f) (.ref y)):=x
  show h'.get? a=some (PySem.W.methodObj (.ref f) (.ref y))
  exact k a _ (.inl rfl) e
 |ext φ=>obtain⟨p,⟨o,e⟩,st⟩:=x;exact⟨st _ _ p fun o q=>k _ _ (.inl rfl) q,⟨o,k _ _ (.inl rfl) e⟩,st⟩
theorem HOk.lt(x:HOk P w H h)(e:H a=some o):a<h.objs.size:=(x a o e).lt
theorem HOk.fresh(x:HOk P w H h)(e:h.objs.size<=a):H a=none:=by
 cases q:H a with
 |none=>rfl
 |some u=>exact absurd (Nat.lt_of_lt_of_le (x.lt q) e) (Nat.lt_irrefl _)
theorem HOk.kept(x:HOk P w H h)(k:∀b u,h.get? b=some u->h'.get? b=some u):HOk P w H h':=fun a o e=>(x a o e).f6 (fun b u _ q=>k b u q) (fun _ q=>q) fun _ _ q=>q
theorem HOk.laid(x:HOk P w H h)(k:∀b u,h.get? b=some u->h'.get? b=some u)(hp:h.objs.size<=a)(new:bT P w (upd H a o) h' a o):HOk P w (upd H a o) h':=fun b u e=>by
 have hn:=x.fresh hp;by_cases hb:b=a
 ·subst hb;rw[aB]at e;cases e;exact new
 ·rw[az hb]at e;exact(x b u e).f6 (fun c v _ q=>k c v q) (fun c q=>by rw[az (cP q hn)];exact q) fun c xs q=>by rw[az (cP q hn)];exact q
end
def Rd(H:Hp)(a:Addr)(u:HO):Prop:=H a=some u\/∃o,H a=some (.frz o u)
theorem Rd.ok{P:Program}{w:World}{H:Hp}{h:Heap}{a:Addr}{u:HO}(r:Rd H a u)(x:HOk P w H h):bT P w H h a u:=by
 rcases r with r|⟨o,r⟩
 ·exact x a u r
 ·obtain⟨_,q⟩:=x a _ r;exact q
def Mut:Option HO->Prop
 |some (.lst _)=>True
 |some (.dK _)=>True
 |some (.dT _)=>True
 |some (.set _ _)=>True
 |some (.ins _ _ _)=>True
 |some (.ext _)=>True
 |_=>False
section
variable{P:Program}{w:World}{H:Hp}{h h':Heap}{x e:Addr}{o':HO}
theorem HOk.write(ok:HOk P w H h)(mu:Mut (H x))(he:e=x\/H e=some (.own x))(k:∀b u,b≠e->h.get? b=some u->h'.get? b=some u)(heo:∃u,h'.get? e=some u)
 (new:bT P w (upd H x o') h' x o'):HOk P w (upd H x o') h':=fun b u q=>by
 have nown:∀c y,H c=some (.own y)->c≠x:=fun c y r z=>by subst z;rw[r]at mu;exact mu
 have ntup:∀c xs,H c=some (.tup xs)->c≠x:=fun c xs r z=>by subst z;rw[r]at mu;exact mu
 by_cases hb:b=x
 ·subst hb;rw[aB]at q;cases q;exact new
 ·rw[az hb]at q
  by_cases hbe:b=e
  ·have q':H b=some (.own x):=by
    rcases he with z|z
    ·exact absurd (hbe.trans z) hb
    ·rw[hbe];exact z
   rw[q]at q';cases q'
   obtain⟨v,hv⟩:=heo
   exact⟨v,by rw[hbe];exact hv⟩
  ·refine(ok b u q).f6 (fun c v hc r=>k c v ?_ r) (fun c r=>by rw[az (nown c b r)];exact r) fun c xs r=>by rw[az (ntup c xs r)];exact r
   rcases hc with rfl|hc
   ·exact hbe
   ·rintro rfl
    rcases he with z|z
    ·exact nown c b hc z
    ·rw[hc]at z;cases z;exact hb rfl
end
structure Un(fs ex:List Addr)(H H':Hp)(h h':Heap):Prop where
 keep:∀b o,h.get? b=some o->H b=none->b∉fs->b∉ex->h'.get? b=some o
 slot:∀b o,h.get? b=some o->H b=none->b∈fs->b∉ex->∃sl,h'.get? b=some { o with slots:=sl }
 free:∀b o,h.get? b=some o->H b=none->b∉ex->H' b=none
 there:∀b o,h.get? b=some o->b∉ex->∃o',h'.get? b=some o'
 tups:∀b xs,H b=some (.tup xs)->H' b=some (.tup xs)
 frzs:∀b o u,H b=some (.frz o u)->H' b=some (.frz o u)
 tbls:∀b ps,H b=some (.tbl ps)->∃more,H' b=some (.tbl (ps++more))
section
variable{fs fs' ex ex':List Addr}{H H1 H2:Hp}{h h1 h2 h':Heap}{a x e:Addr}{o:HO}
theorem Un.any(u:Un fs ex H H1 h h1){b:Addr}{ob:Obj}(q:h.get? b=some ob)(n:H b=none)(hx:b∉ex):∃sl,h1.get? b=some { ob with slots:=sl }:=by
 by_cases hb:b∈fs
 ·exact u.slot b ob q n hb hx
 ·exact⟨ob.slots,u.keep b ob q n hb hx⟩
theorem Un.kept(k:∀b u,h.get? b=some u->h'.get? b=some u):Un fs ex H H h h':=⟨fun b ob q _ _ _=>k b ob q,fun b ob q _ _ _=>⟨ob.slots,k b ob q⟩,fun _ _ _ n _=>n,fun b ob q _=>⟨ob,k b ob q⟩,fun _ _ q=>q,fun _ _ _ q=>q,fun _ ps q=>⟨#[],by rw[q];simp⟩⟩
theorem Un.refl:Un fs ex H H h h:=Un.kept fun _ _ q=>q
theorem Un.laid(k:∀b u,h.get? b=some u->h'.get? b=some u)(hp:h.objs.size<=a)(hn:H a=none):Un fs ex H (upd H a o) h h' where
 keep:=fun b u q _ _ _=>k b u q
 slot:=fun b u q _ _ _=>⟨u.slots,k b u q⟩
 free:=fun b u q n _=>by rw[az (Nat.ne_of_lt (Nat.lt_of_lt_of_le (Heap.lt_size q) hp))];exact n
 there:=fun b u q _=>⟨u,k b u q⟩
 tups:=fun b xs q=>by rw[az (cP q hn)];exact q
 frzs:=fun b u xs q=>by rw[az (cP q hn)];exact q
 tbls:=fun b ps q=>⟨#[],by rw[az (cP q hn),q];simp⟩
theorem Un.write(mu:Mut (H x))(he:e=x\/H e=some (.own x))(k:∀b u,b≠e->h.get? b=some u->h'.get? b=some u)(heo:∃u,h'.get? e=some u):Un fs ex H (upd H x o) h h':=by
 have hx:∀b,H b=none->b≠x:=fun b n z=>by subst z;rw[n]at mu;exact mu
 have hb:∀b,H b=none->b≠e:=fun b n z=>by
  subst z;rcases he with r|r
  ·exact hx b n r
  ·rw[n]at r;cases r
 have hm:∀b u,H b=some u->¬Mut (some u)->b≠x:=fun b u q nm z=>by subst z;rw[q]at mu;exact nm mu
 refine⟨fun b u q n _ _=>k b u (hb b n) q,fun b u q n _ _=>⟨u.slots,k b u (hb b n) q⟩,fun b u q n _=>by rw[az (hx b n)];exact n,fun b u q _=>?_,fun b xs q=>by rw[az (hm b _ q fun z=>z)];exact q,fun b u xs q=>by rw[az (hm b _ q fun z=>z)];exact q,fun b ps q=>⟨#[],by rw[az (hm b _ q fun z=>z),q];simp⟩⟩;by_cases hbe:b=e
 ·subst hbe;exact heo
 ·exact⟨u,k b u hbe q⟩
end
def trk(h:Heap)(H:Hp):List Addr:=(List.range h.objs.size).filter fun a=>(H a).isSome
def kH(h:Heap)(H:Hp):Heap:=PySem.W.hideAll h (trk h H)
theorem qk(h:Heap)(H:Hp):(kH h H).objs.size=h.objs.size:=PySem.W.hideAll_size _ _
theorem rY{h:Heap}{H:Hp}{b:Addr}{o:Obj}(e:h.get? b=some o)(n:H b=none):(kH h H).get? b=some o:=
 PySem.W.hideAll_get _ e fun hm=>by
  have q:(H b).isSome=true:=(List.mem_filter.mp hm).2
  rw[n]at q;simp at q
theorem tG{h:Heap}{H:Hp}{b:Addr}{o:Obj}(e:(kH h H).get? b=some o):h.get? b=some o/\H b=none:=by
 have e':h.get? b=some o:=PySem.W.of_hideAll (trk h H) e;refine⟨e',?_⟩;cases q:H b with
 |none=>rfl
 |some x=>
  have hm:b∈trk h H:=List.mem_filter.mpr ⟨List.mem_range.mpr (Heap.lt_size e'),by simp[q]⟩
  have z:(kH h H).get? b=none:=PySem.W.hideAll_none (trk h H) hm
  rw[z]at e;cases e
structure Mod(K:PySem.W.Frag)(mg:Str->Option Value)(base:Heap):Prop where
 kin:K.In base
 glob:base.Ns mainGlobals mg
 blt:∃mb,base.Ns builtinsNs mb/\∀x:Str,x≠"__name__"->mb x=bootBuiltins x
 nolimit:base.NoLimit
structure Cx where
 prog:Program
 w:World
 K:PySem.W.Frag
 mg:Str->Option Value
 base:Heap
 A:Around
 N:List Str
 s₀:Shared
 H₀:Hp
 env:Env
 outer:List Env
 stack:List Env
 ex:List Addr
 fn:Str->Bool
 calm:Bool
 pn:List (Addr×Obj)
 xe:Value->Shared->Prop
def frs(l:List Env):List Addr:=l.filterMap (·.frame)
abbrev Cx.fs(X:Cx):List Addr:=frs X.outer
def Vis(sc:Scope)(x:Str):Prop:=sc.names.lookup x=some .local\/sc.names.lookup x=some .cell\/sc.names.lookup x=some .free
def Loc(sc:Scope)(x:Str):Prop:=sc.names.lookup x=some .local\/sc.names.lookup x=some .cell
def Look(env:Env)(h:Heap)(m:Str->Option Value)(x:Str)(u:Value):Prop:=
 (env.kindOf x=some .local/\m x=some u)\/((env.kindOf x=some .cell\/env.kindOf x=some .free)/\∃c,env.cells.lookup x=some c/\h.IsCell c (some u))
structure Cx.Ok(X:Cx):Prop where
 mod:Mod X.K X.mg X.base
 kind:X.env.scope.kind=.function
 glob:X.env.globals=mainGlobals
 blt:X.env.builtins=builtinsNs
 above:X.s₀.heap.objs.size<=X.env.locals
 inj:∀x y c,X.env.cells.lookup x=some c->X.env.cells.lookup y=some c->x=y
 has:∀x,(X.env.kindOf x=some .cell\/X.env.kindOf x=some .free)->∃c,X.env.cells.lookup x=some c
 cab:∀x c,X.fn x=true->X.env.cells.lookup x=some c->X.s₀.heap.objs.size<=c
 hd:X.calm=true->X.A.handled=none
 frames:X.A.frames=some X.stack
 stk:X.stack=X.outer\/(X.stack=X.env::X.outer/\X.env.frame=some X.env.locals)
 exf:∀b∈X.ex,b≠X.env.locals/\∀x c,X.env.cells.lookup x=some c->c≠b
 bs:∀b o,X.base.get? b=some o->X.s₀.heap.get? b=some o/\X.H₀ b=none
 bsz:X.base.objs.size<=X.s₀.heap.objs.size
 noex:∀b o,X.base.get? b=some o->b∉X.ex
 exfs:∀b∈X.ex,b∉X.fs
 gm:X.s₀.heap.FunFrames X.base X.outer
 frf:∀b∈X.fs,X.H₀ b=none
structure Inv(X:Cx)(pins:List (Addr×Obj))(σ:List (Option V))(H:Hp)(s:Shared):Prop where
 ok:X.Ok
 os:s.os=X.s₀.os
 bare:AllBare s.gens
 base:Un X.fs X.ex X.H₀ H X.s₀.heap s.heap
 loc:∃m,s.heap.Ns X.env.locals m/\∀(i:Nat) (x:Str) (v:V),X.N[i]?=some x->σ[i]?=some (some v)->Vis X.env.scope x->∃u,RelV v u/\Look X.env s.heap m x u
 cell:∀x c,X.env.cells.lookup x=some c->∃v,s.heap.IsCell c v
 free:H X.env.locals=none
 freeC:∀x c,X.env.cells.lookup x=some c->H c=none
 pin:∀p∈X.pn++pins,s.heap.get? p.1=some p.2/\H p.1=none/\p.1≠X.env.locals/\p.1∉X.fs/\∀v,p.2.data≠.cell v
 hok:HOk X.prog X.w H s.heap
 len:σ.length=X.N.length
section
variable{X:Cx}{pins:List (Addr×Obj)}{σ:List (Option V)}{H H':Hp}{s:Shared}{h':Heap}
theorem Cx.Ok.zA(ok:X.Ok){b:Addr}{o:Obj}(e:X.base.get? b=some o):b∉X.fs:=fun hb=>by have:=(ok.gm.mem hb).1;rw[e]at this;cases this
theorem Inv.bs(I:Inv X pins σ H s):∀b o,X.base.get? b=some o->s.heap.get? b=some o/\H b=none:=fun b o e=>⟨I.base.keep b o (I.ok.bs b o e).1 (I.ok.bs b o e).2 (I.ok.zA e) (I.ok.noex b o e),I.base.free b o (I.ok.bs b o e).1 (I.ok.bs b o e).2 (I.ok.noex b o e)⟩
theorem Inv.bk(I:Inv X pins σ H s):∀b o,X.base.get? b=some o->s.heap.get? b=some o:=fun b o e=>(I.bs b o e).1
theorem Inv.mod(I:Inv X pins σ H s):Mod X.K X.mg X.base:=I.ok.mod
theorem Inv.kIn(I:Inv X pins σ H s):X.K.In s.heap:=I.ok.mod.kin.keeps I.bk
theorem Inv.lt(I:Inv X pins σ H s):X.env.locals<s.heap.objs.size:=let⟨_,hn,_⟩:=I.loc;hn.lt
theorem Inv.sz(I:Inv X pins σ H s):X.s₀.heap.objs.size<=s.heap.objs.size:=Nat.le_trans I.ok.above (Nat.le_of_lt I.lt)
theorem Inv.zH(I:Inv X pins σ H s){a:Addr}(h:s.heap.objs.size<=a):a∉X.fs:=fun hb=>by obtain⟨_,o,ho,_⟩:=I.ok.gm.mem hb;exact absurd (Nat.lt_of_lt_of_le (Heap.lt_size ho) (Nat.le_trans I.sz h)) (Nat.lt_irrefl _)
theorem Inv.cne(I:Inv X pins σ H s):∀x c,X.env.cells.lookup x=some c->c≠X.env.locals:=fun x c e z=>by obtain⟨v,o,ho,hd⟩:=I.cell x c e;obtain⟨m,⟨o',es,ep,ho',hd',_⟩,_⟩:=I.loc;rw[z,ho']at ho;cases ho;rw[hd']at hd;cases hd
theorem Inv.gm(I:Inv X pins σ H s):s.heap.FunFrames X.base X.outer:=by
 have all:∀(l:List Env),(∀b∈frs l,b∈X.fs)->X.s₀.heap.FunFrames X.base l->s.heap.FunFrames X.base l:=by
  intro l
  induction l with
  |nil=>intro _ _;trivial
  |cons env r ih=>
   intro hs hl
   obtain⟨hk,⟨L,o,hf,hn,ho,hd⟩,hr⟩:=hl
   have hL:L∈X.fs:=hs L (by unfold frs;rw[List.filterMap_cons,hf];exact List.mem_cons_self)
   obtain⟨sl,e⟩:=I.base.slot L o ho (I.ok.frf L hL) hL fun z=>I.ok.exfs L z hL
   exact⟨hk,⟨L,_,hf,hn,e,hd⟩,ih (fun b hb=>hs b (by unfold frs;rw[List.filterMap_cons,hf];exact List.mem_cons_of_mem _ hb)) hr⟩
 exact all X.outer (fun _ hb=>hb) I.ok.gm
theorem Inv.stack(I:Inv X pins σ H s):s.heap.FunFrames X.base X.stack:=by
 rcases I.ok.stk with e|⟨e,hf⟩
 ·rw[e];exact I.gm
 ·rw[e];obtain⟨m,hn,_⟩:=I.loc;refine .cons (by rw[I.ok.kind];decide) hf hn ?_ I.gm;exact Heap.get?_none_of_le (Nat.le_trans I.ok.bsz I.ok.above)
theorem Inv.nB(I:Inv X pins σ H s):∀b∈frs X.stack,b∈X.env.locals::X.fs:=fun b hb=>by
 rcases I.ok.stk with e|⟨e,hf⟩
 ·rw[e]at hb;exact List.mem_cons_of_mem _ hb
 ·rw[e]at hb;unfold frs at hb;rw[List.filterMap_cons,hf]at hb;exact hb
theorem Inv.eV(I:Inv X pins σ H s):∀b∈frs X.stack,H b=none:=fun b hb=>by
 rcases List.mem_cons.mp (I.nB b hb)with e|hb
 ·rw[e];exact I.free
 ·obtain⟨_,o,ho,_⟩:=I.ok.gm.mem hb;exact I.base.free b o ho (I.ok.frf b hb) fun z=>I.ok.exfs b z hb
theorem Inv.step{g':Array GenState}{t':Nat}{d':Drawn}{ch:List Addr}(I:Inv X pins σ H s)
 (hch:∀b∈ch,(b∈X.ex\/X.s₀.heap.objs.size<=b)/\b≠X.env.locals/\(∀x c,X.env.cells.lookup x=some c->c≠b)/\∀p∈X.pn++pins,p.1≠b)
 (keep:∀b o,b≠X.env.locals->b∉X.fs->b∉ch->s.heap.get? b=some o->H b=none->h'.get? b=some o)
 (slot:∀b o,b≠X.env.locals->b∈X.fs->b∉ch->s.heap.get? b=some o->H b=none->∃sl,h'.get? b=some { o with slots:=sl }) (free:∀b o,b∉ch->s.heap.get? b=some o->H b=none->H' b=none)
 (there:∀b o,b∉ch->s.heap.get? b=some o->∃o',h'.get? b=some o')
 (tups:∀b xs,H b=some (.tup xs)->H' b=some (.tup xs)) (frzs:∀b o u,H b=some (.frz o u)->H' b=some (.frz o u)) (tbls:∀b ps,H b=some (.tbl ps)->∃more,H' b=some (.tbl (ps++more)))
 (ns:∀m,s.heap.Ns X.env.locals m->h'.Ns X.env.locals m) (hok:HOk X.prog X.w H' h') (hg:AllBare g') :
 Inv X pins σ H' { s with heap:=h',gens:=g',drawn:=d',toks:=t' }:=by
 have neL:∀b o,X.s₀.heap.get? b=some o->b≠X.env.locals:=fun b o e=>Nat.ne_of_lt (Nat.lt_of_lt_of_le (Heap.lt_size e) I.ok.above)
 have neC:∀b o,X.s₀.heap.get? b=some o->b∉X.ex->b∉ch:=fun b o e hx hb=>by
  rcases(hch b hb).1 with z|z
  ·exact hx z
  ·exact absurd (Nat.lt_of_lt_of_le (Heap.lt_size e) z) (Nat.lt_irrefl _)
 have cellK:∀x c,X.env.cells.lookup x=some c->∀v,s.heap.IsCell c v->h'.IsCell c v:=fun x c e v zz1_0=>by
  obtain⟨o,ho,hd⟩:=zz1_0
  have nch:c∉ch:=fun z=>(hch c z).2.2.1 x c e rfl
  by_cases hc:c∈X.fs
  ·obtain⟨sl,q⟩:=slot c o (I.cne x c e) hc nch ho (I.freeC x c e)
   exact⟨_,q,hd⟩
  ·exact⟨o,keep c o (I.cne x c e) hc nch ho (I.freeC x c e),hd⟩
 refine⟨I.ok,I.os,hg,⟨fun b o e n hb hx=>?_,fun b o e n hb hx=>?_,fun b o e n hx=>?_,fun b o e hx=>?_,fun b xs e=>tups b xs (I.base.tups b xs e),fun b o xs e=>frzs b o xs (I.base.frzs b o xs e),fun b ps e=>?_⟩,?_,fun x c e=>?_,?_,fun x c e=>?_,fun p hp=>?_,hok,I.len⟩
 ·exact keep b o (neL b o e) hb (neC b o e hx) (I.base.keep b o e n hb hx) (I.base.free b o e n hx)
 ·obtain⟨sl,e1⟩:=I.base.slot b o e n hb hx
  obtain⟨sl',e2⟩:=slot b _ (neL b o e) hb (neC b o e hx) e1 (I.base.free b o e n hx)
  exact⟨sl',e2⟩
 ·obtain⟨o',e1⟩:=I.base.there b o e hx
  exact free b o' (neC b o e hx) e1 (I.base.free b o e n hx)
 ·obtain⟨o',e1⟩:=I.base.there b o e hx
  exact there b o' (neC b o e hx) e1
 ·obtain⟨m1,e1⟩:=I.base.tbls b ps e
  obtain⟨m2,e2⟩:=tbls b _ e1
  exact⟨m1++m2,by rw[e2,Array.append_assoc]⟩
 ·obtain⟨m,hn,hl⟩:=I.loc
  refine⟨m,ns m hn,fun i x v e1 e2 e3=>?_⟩
  obtain⟨u,r,l⟩:=hl i x v e1 e2 e3
  refine⟨u,r,?_⟩
  rcases l with l|⟨k,c,e,z⟩
  ·exact .inl l
  ·exact .inr ⟨k,c,e,cellK x c e _ z⟩
 ·obtain⟨v,z⟩:=I.cell x c e
  exact⟨v,cellK x c e v z⟩
 ·obtain⟨m,⟨o,_,_,ho,_⟩,_⟩:=I.loc
  exact free _ o (fun z=>(hch _ z).2.1 rfl) ho I.free
 ·obtain⟨v,o,ho,hd⟩:=I.cell x c e
  exact free c o (fun z=>(hch c z).2.2.1 x c e rfl) ho (I.freeC x c e)
 ·obtain⟨e,n,ne,nf,d⟩:=I.pin p hp
  have nch:p.1∉ch:=fun z=>(hch p.1 z).2.2.2 p hp rfl
  exact⟨keep p.1 p.2 ne nf nch e n,free p.1 p.2 nch e n,ne,nf,d⟩
theorem Inv.un{t':Nat}(I:Inv X pins σ H s)(u:Un X.fs [] H H' s.heap h')(hok:HOk X.prog X.w H' h'):Inv X pins σ H' { s with heap:=h',toks:=t' }:=by
 obtain⟨m,⟨o,es,ep,ho,r⟩,_⟩:=id I.loc;obtain⟨sl,hL⟩:=u.any ho I.free (by simp)
 exact I.step (g':=s.gens) (d':=s.drawn) (ch:=[]) (fun _ z=>nomatch z) (fun b o _ hb _ e n=>u.keep b o e n hb (by simp)) (fun b o _ hb _ e n=>u.slot b o e n hb (by simp)) (fun b o _ e n=>u.free b o e n (by simp)) (fun b o _ e=>u.there b o e (by simp)) u.tups u.frzs u.tbls (fun m' hm=>by
  obtain⟨o',es',ep',ho',r'⟩:=hm
  rw[ho]at ho';cases ho'
  exact⟨_,es',ep',hL,r'⟩) hok I.bare
theorem Inv.call{g':Array GenState}{t':Nat}{d':Drawn}{ch:List Addr}(I:Inv X pins σ H s)(u:Un (frs X.stack) ch H H' s.heap h')(hok:HOk X.prog X.w H' h')(hg:AllBare g') (hch:∀b∈ch,(b∈X.ex\/X.s₀.heap.objs.size<=b)/\b≠X.env.locals/\(∀x c,X.env.cells.lookup x=some c->c≠b)/\∀p∈X.pn++pins,p.1≠b) : Inv X pins σ H' { s with heap:=h',gens:=g',drawn:=d',toks:=t' }:=by
 obtain⟨m,⟨o,es,ep,ho,r⟩,_⟩:=id I.loc;obtain⟨sl,hL⟩:=u.any ho I.free fun z=>(hch _ z).2.1 rfl
 exact I.step (ch:=ch) hch (fun b o hL hb hc e n=>u.keep b o e n (fun z=>(List.mem_cons.mp (I.nB b z)).elim hL hb) hc) (fun b o _ _ hc e n=>u.any e n hc) (fun b o hc e n=>u.free b o e n hc) (fun b o hc e=>u.there b o e hc) u.tups u.frzs u.tbls (fun m' hm=>by
  obtain⟨o',es',ep',ho',r'⟩:=hm
  rw[ho]at ho';cases ho'
  exact⟨_,es',ep',hL,r'⟩) hok hg
theorem Inv.turned{t':Nat}{it:Addr}(I:Inv X pins σ H s)(k:∀b o,b≠it->s.heap.get? b=some o->h'.get? b=some o)(hn:H it=none)(hL:it≠X.env.locals)
 (h1:it∈X.ex\/X.s₀.heap.objs.size<=it) (h2:∀x c,X.env.cells.lookup x=some c->c≠it) (h3:∀p∈X.pn++pins,p.1≠it):Inv X pins σ H { s with heap:=h',toks:=t' }:=by
 have nit:∀b u,H b=some u->b≠it:=fun b u e z=>by rw[z,hn]at e;cases e
 refine I.step (g':=s.gens) (d':=s.drawn) (ch:=[it]) (fun b hb=>?_) (fun b o _ _ hc e _=>k b o (fun z=>hc (by simp[z])) e) (fun b o _ _ hc e _=>⟨o.slots,k b o (fun z=>hc (by simp[z])) e⟩) (fun _ _ _ _ n=>n)
  (fun b o hc e=>⟨o,k b o (fun z=>hc (by simp[z])) e⟩) (fun _ _ e=>e) (fun _ _ _ e=>e) (fun b ps e=>⟨#[],by rw[e];simp⟩) (fun m hm=>?_) (fun b u e=>?_) I.bare
 ·have e:b=it:=by simpa using hb
  subst e
  exact⟨h1,hL,h2,h3⟩
 ·obtain⟨o,es,ep,ho,r⟩:=hm
  exact⟨o,es,ep,k _ o (Ne.symm hL) ho,r⟩
 ·refine(I.hok b u e).f6 (fun c v hc q=>k c v ?_ q) (fun _ q=>q) fun _ _ q=>q
  rcases hc with z|z
  ·rw[z];exact nit b u e
  ·exact nit c _ z
theorem Inv.tok(I:Inv X pins σ H s)(t:Nat):Inv X pins σ H { s with toks:=t }:=I.un (h':=s.heap) (t':=t) Un.refl I.hok
theorem Inv.kept{t':Nat}(I:Inv X pins σ H s)(k:∀b u,s.heap.get? b=some u->h'.get? b=some u):Inv X pins σ H { s with heap:=h',toks:=t' }:=I.un (Un.kept k) (I.hok.kept k)
theorem Inv.laid{a:Addr}{o:HO}{t':Nat}(I:Inv X pins σ H s)(k:∀b u,s.heap.get? b=some u->h'.get? b=some u)(hp:s.heap.objs.size<=a)(new:bT X.prog X.w (upd H a o) h' a o) : Inv X pins σ (upd H a o) { s with heap:=h',toks:=t' }:=I.un (Un.laid k hp (I.hok.fresh hp)) (I.hok.laid k hp new)
theorem Inv.write{x e:Addr}{o:HO}{t':Nat}(I:Inv X pins σ H s)(mu:Mut (H x))(he:e=x\/H e=some (.own x))(k:∀b u,b≠e->s.heap.get? b=some u->h'.get? b=some u)(heo:∃u,h'.get? e=some u) (new:bT X.prog X.w (upd H x o) h' x o):Inv X pins σ (upd H x o) { s with heap:=h',toks:=t' }:=I.un (Un.write mu he k heo) (I.hok.write mu he k heo new)
theorem Inv.oX{pins':List (Addr×Obj)}(I:Inv X pins σ H s)(h:∀p∈pins',s.heap.get? p.1=some p.2/\H p.1=none/\p.1≠X.env.locals/\p.1∉X.fs/\∀v,p.2.data≠.cell v):Inv X pins' σ H s:=⟨I.ok,I.os,I.bare,I.base,I.loc,I.cell,I.free,I.freeC,fun p hp=>(List.mem_append.mp hp).elim (fun z=>I.pin p (List.mem_append_left _ z)) (h p),I.hok,I.len⟩
theorem iG{N:List Str}(hN:N.Nodup){i j:Nat}{x:Str}(a:N[i]?=some x)(b:N[j]?=some x):i=j:=by obtain⟨h1,e1⟩:=List.getElem?_eq_some_iff.mp a;obtain⟨h2,e2⟩:=List.getElem?_eq_some_iff.mp b;exact(List.getElem_inj hN).mp (e1.trans e2.symm)
theorem jY{M:Model}{A:Around}{E:Value->Shared->Prop}{i:Nat}{x:Str}{v:V}{u:Value}{Q:Unit->Shared->Prop}(I:Inv X pins σ H s)(hN:X.N.Nodup)(hi:X.N[i]?=some x)(hx:Loc X.env.scope x)(r:RelV v u)
 (h:∀s',Inv X pins (σ.set i (some v)) H s'->(∃a,Heap.SameBut a s.heap s'.heap/\(a=X.env.locals\/X.env.cells.lookup x=some a))->Q () s') (hf:X.fn x=true\/X.env.scope.names.lookup x=some .local:=by first|exact .inl rfl|exact .inr rfl|assumption):wpAny M A (storeName X.env x u) Q E s:=by
 obtain⟨m,hn,hl⟩:=id I.loc
 have hcls:(X.env.scope.kind==.class||(X.env.scope.kind==.module&&X.env.locals != X.env.globals))=false:=by rw[I.ok.kind];rfl
 have hiσ:i<σ.length:=by rw[I.len];exact(List.getElem?_eq_some_iff.mp hi).1
 have cne:=I.cne
 have tracked:∀{a:Addr} {h':Heap},(∃o,s.heap.get? a=some o/\H a=none)->Heap.SameBut a s.heap h'->HOk X.prog X.w H h':=fun{a h'} ha hs b ob e=>by
  obtain⟨_,_,hfree⟩:=ha
  refine(I.hok b ob e).f6 (fun c w' hc q=>(hs.2 c ?_).trans q) (fun _ q=>q) fun _ _ q=>q
  rintro rfl
  rcases hc with rfl|hc
  ·rw[hfree]at e;cases e
  ·rw[hfree]at hc;cases hc
 rcases hx with hk|hk
 ·refine wpAny_storeName_local hk hn (fun h' hn' hs=>?_) hcls
  obtain⟨oL,_,_,hoL,_⟩:=id hn
  refine h _ ⟨I.ok,I.os,I.bare,⟨fun b o e n hb hx=>?_,fun b o e n hb hx=>?_,I.base.free,fun b o e hx=>?_,I.base.tups,I.base.frzs,I.base.tbls⟩,⟨_,hn',fun j y v' e1 e2 e3=>?_⟩,fun y c e=>?_,I.free,I.freeC,fun p hp=>?_,tracked ⟨oL,hoL,I.free⟩ hs,by simpa using I.len⟩ ⟨_,hs,.inl rfl⟩
  ·exact(hs.2 b (Nat.ne_of_lt (Nat.lt_of_lt_of_le (Heap.lt_size e) I.ok.above))).trans (I.base.keep b o e n hb hx)
  ·obtain⟨sl,e1⟩:=I.base.slot b o e n hb hx
   exact⟨sl,(hs.2 b (Nat.ne_of_lt (Nat.lt_of_lt_of_le (Heap.lt_size e) I.ok.above))).trans e1⟩
  ·obtain⟨o',e1⟩:=I.base.there b o e hx
   exact⟨o',(hs.2 b (Nat.ne_of_lt (Nat.lt_of_lt_of_le (Heap.lt_size e) I.ok.above))).trans e1⟩
  ·by_cases hj:j=i
   ·subst hj
    rw[hi]at e1;cases e1
    rw[List.getElem?_set_self hiσ]at e2
    cases e2
    exact⟨u,r,.inl ⟨hk,by simp⟩⟩
   ·rw[List.getElem?_set_ne (Ne.symm hj)]at e2
    obtain⟨u',r',q⟩:=hl j y v' e1 e2 e3
    refine⟨u',r',?_⟩
    rcases q with⟨k,e⟩|⟨k,c,e,z⟩
    ·refine .inl ⟨k,?_⟩
     have:y≠x:=fun e=>hj (iG hN e1 (e▸hi))
     simp[this,e]
    ·exact .inr ⟨k,c,e,z.sameBut hs (cne y c e)⟩
  ·obtain⟨w',z⟩:=I.cell y c e
   exact⟨w',z.sameBut hs (cne y c e)⟩
  ·obtain⟨e,n,ne,nf,d⟩:=I.pin p hp
   exact⟨(hs.2 p.1 ne).trans e,n,ne,nf,d⟩
 ·have hfn:X.fn x=true:=by
   rcases hf with z|z
   ·exact z
   ·rw[z]at hk;cases hk
  obtain⟨c,hc⟩:=I.ok.has x (.inl hk)
  obtain⟨w',z⟩:=I.cell x c hc
  refine wpAny_storeName_cell I.ok.kind hk hc z (fun h' hc' hs=>?_)
  obtain⟨oc,hoc,hocd⟩:=id z
  refine h { s with heap:=h' } ⟨I.ok,I.os,I.bare,⟨fun b o e n hb hx=>?_,fun b o e n hb hx=>?_,I.base.free,fun b o e hx=>?_,I.base.tups,I.base.frzs,I.base.tbls⟩,⟨m,hn.sameBut hs (Ne.symm (cne x c hc)),fun j y v' e1 e2 e3=>?_⟩,fun y c' e=>?_,I.free,I.freeC,fun p hp=>?_,tracked ⟨oc,hoc,I.freeC x c hc⟩ hs,by simpa using I.len⟩ ⟨c,hs,.inr hc⟩
  ·exact(hs.2 b (Nat.ne_of_lt (Nat.lt_of_lt_of_le (Heap.lt_size e) (I.ok.cab x c hfn hc)))).trans (I.base.keep b o e n hb hx)
  ·obtain⟨sl,e1⟩:=I.base.slot b o e n hb hx
   exact⟨sl,(hs.2 b (Nat.ne_of_lt (Nat.lt_of_lt_of_le (Heap.lt_size e) (I.ok.cab x c hfn hc)))).trans e1⟩
  ·obtain⟨o',e1⟩:=I.base.there b o e hx
   exact⟨o',(hs.2 b (Nat.ne_of_lt (Nat.lt_of_lt_of_le (Heap.lt_size e) (I.ok.cab x c hfn hc)))).trans e1⟩
  ·by_cases hj:j=i
   ·subst hj
    rw[hi]at e1;cases e1
    rw[List.getElem?_set_self hiσ]at e2
    cases e2
    exact⟨u,r,.inr ⟨.inl hk,c,hc,hc'⟩⟩
   ·rw[List.getElem?_set_ne (Ne.symm hj)]at e2
    obtain⟨u',r',q⟩:=hl j y v' e1 e2 e3
    refine⟨u',r',?_⟩
    rcases q with q|⟨k,c',e,z'⟩
    ·exact .inl q
    ·refine .inr ⟨k,c',e,z'.sameBut hs ?_⟩
     rintro rfl
     exact hj (iG hN e1 (I.ok.inj _ _ _ e hc▸hi))
  ·by_cases hcc:c'=c
   ·subst hcc;exact⟨_,hc'⟩
   ·obtain⟨w2,z2⟩:=I.cell y c' e
    exact⟨w2,z2.sameBut hs hcc⟩
  ·obtain⟨e,n,ne,nf,d⟩:=I.pin p hp
   refine⟨(hs.2 p.1 ?_).trans e,n,ne,nf,d⟩
   intro q
   rw[q,hoc]at e
   have q':oc=p.2:=Option.some.inj e
   exact d w' (by rw[<-q'];exact hocd)
theorem eD{M:Model}{A:Around}{E:Value->Shared->Prop}{i:Nat}{x:Str}{v:V}{u:Value}{Q:Unit->Shared->Prop}(I:Inv X pins σ H s)(hN:X.N.Nodup)(hi:X.N[i]?=some x)(hx:Loc X.env.scope x)(r:RelV v u) (h:∀s',Inv X pins (σ.set i (some v)) H s'->Q () s') (hf:X.fn x=true\/X.env.scope.names.lookup x=some .local:=by first|exact .inl rfl|exact .inr rfl|assumption):wpAny M A (storeName X.env x u) Q E s:=jY I hN hi hx r (fun s' I' _=>h s' I') hf
theorem Inv.sJ{s':Shared}{ch:List Addr}(I:Inv X pins σ H s)(ho:s'.os=s.os)(u:Un (frs X.stack) ch H H' s.heap s'.heap)(hok:HOk X.prog X.w H' s'.heap)(hg:AllBare s'.gens)
 (hch:∀b∈ch,(b∈X.ex\/X.s₀.heap.objs.size<=b)/\b≠X.env.locals/\(∀x c,X.env.cells.lookup x=some c->c≠b)/\∀p∈X.pn++pins,p.1≠b):Inv X pins σ H' s':=by
 obtain⟨h',g',d',t',o'⟩:=s'
 have e:o'=s.os:=ho
 subst e
 exact I.call (g':=g') (t':=t') (d':=d') u hok hg hch
end
abbrev XK:=Value->Option Addr->Hp->Prop
abbrev St:=List (Option V)
abbrev VK:=V->Hp->Prop
abbrev TE:=St->Hp->VK->Prop
abbrev TT:=St->Hp->(Bool->Hp->Prop)->Prop
abbrev TA:=St->Hp->(List V->Hp->Prop)->Prop
structure Ends where
 nx:St->Hp->Prop
 rt:VK
 bk:St->Hp->Prop:=fun _ _=>False
 ct:St->Hp->Prop:=fun _ _=>False
abbrev TS:=Ends->St->Hp->Prop
def EP(X:Cx)(pins:List (Addr×Obj))(σ:St)(Q:VK)(u:Value)(s':Shared):Prop:=∃v H',Inv X pins σ H' s'/\RelV v u/\Q v H'
def TP(X:Cx)(pins:List (Addr×Obj))(σ:St)(Q:Bool->Hp->Prop)(b:Bool)(s':Shared):Prop:=∃H',Inv X pins σ H' s'/\Q b H'
def AP(X:Cx)(pins:List (Addr×Obj))(σ:St)(Q:List V->Hp->Prop)(us:List Value)(s':Shared):Prop:=∃vs H',Inv X pins σ H' s'/\Vals vs us/\Q vs H'
def SP(X:Cx)(pins:List (Addr×Obj))(D:Ends)(f:Flow)(s':Shared):Prop:=
 match f with
 |.next=>∃σ' H',Inv X pins σ' H' s'/\D.nx σ' H'
 |.brk=>∃σ' H',Inv X pins σ' H' s'/\D.bk σ' H'
 |.cont=>∃σ' H',Inv X pins σ' H' s'/\D.ct σ' H'
 |.ret u=>∃v σ' H',Inv X pins σ' H' s'/\RelV v u/\D.rt v H'
def PE(X:Cx)(e:Expr)(t:TE):Prop:=
 ∀(pins:List (Addr×Obj)) (s:Shared) (σ:St) (H:Hp) (Q:VK),Inv X pins σ H s->t σ H Q->wpAny (model X.prog X.w) X.A (eval e X.env) (EP X pins σ Q) X.xe s
def PT(X:Cx)(e:Expr)(t:TT):Prop:=
 ∀(pins:List (Addr×Obj)) (s:Shared) (σ:St) (H:Hp) (Q:Bool->Hp->Prop),Inv X pins σ H s->t σ H Q->wpAny (model X.prog X.w) X.A (isTrue e X.env (eval e X.env)) (TP X pins σ Q) X.xe s
def PW(X:Cx)(e:Expr)(t:TT):Prop:=
 ∀(whole:Sem Value) (pins:List (Addr×Obj)) (s:Shared) (σ:St) (H:Hp) (Q:Bool->Hp->Prop),Inv X pins σ H s->t σ H Q->wpAny (model X.prog X.w) X.A (isTrue e X.env whole) (TP X pins σ Q) X.xe s
theorem PW.pt{X:Cx}{e:Expr}{t:TT}(h:PW X e t):PT X e t:=h _
def PA(X:Cx)(es:List Expr)(t:TA):Prop:=
 ∀(pos:Pos) (pins:List (Addr×Obj)) (s:Shared) (σ:St) (H:Hp) (Q:List V->Hp->Prop),Inv X pins σ H s->t σ H Q->wpAny (model X.prog X.w) X.A (spliced (backTo pos (starEach es X.env))) (AP X pins σ Q) X.xe s
def PS(X:Cx)(st:Stmt)(t:TS):Prop:=
 ∀(pins:List (Addr×Obj)) (s:Shared) (σ:St) (H:Hp) (D:Ends),Inv X pins σ H s->t D σ H->wpAny (model X.prog X.w) X.A (exec st X.env) (SP X pins D) X.xe s
def PSs(X:Cx)(st:List Stmt)(t:TS):Prop:=
 ∀(pins:List (Addr×Obj)) (s:Shared) (σ:St) (H:Hp) (D:Ends),Inv X pins σ H s->t D σ H->wpAny (model X.prog X.w) X.A (execs st X.env) (SP X pins D) X.xe s
theorem thn{α:Type}{t:Sem α}{Q Q':α->Shared->Prop}{M:Model}{A:Around}{E:Value->Shared->Prop}{s:Shared}(h:wpAny M A t Q E s)(hQ:∀a s,Q a s->Q' a s):wpAny M A t Q' E s:=wpAny_mono h hQ fun _ _ x=>x
section
variable{X:Cx}
def jr(i:Nat):TE:=fun σ H Q=>∃v,σ[i]?=some (some v)/\Q v H
def tC(v:V):TE:=fun _ H Q=>Q v H
theorem sN{i:Nat}{x:Str}{pos:Pos}(hN:X.N[i]?=some x)(hv:Vis X.env.scope x)(hd:(x==("__debug__":Str))=false:=by decide)(hcd:(x==("__classdict__":Str))=false:=by decide):PE X (.Name x pos) (jr i):=by
 intro pins s σ H Q I h;obtain⟨v,e,h⟩:=h;obtain⟨m,hn,hl⟩:=I.loc;obtain⟨u,r,l⟩:=hl i x v hN e hv;have fin:EP X pins σ Q u s:=⟨v,H,I,r,h⟩;rcases l with⟨hk,hm⟩|⟨hk,c,hc,hcell⟩
 ·exact wpAny_Name (wpAny_loadName_local I.ok.kind hk hn hm fin) hd
 ·rcases hk with hk|hk
  ·exact wpAny_Name (wpAny_loadName_cell I.ok.kind hk hc hcell fin) hd
  ·exact wpAny_Name (wpAny_loadName_free I.ok.kind hk hc hcell fin hcd) hd
theorem xt{i j pos}:PE X (.Constant (.int i) j pos) (tC (.int i)):=fun _ _ _ H _ I h=>wpAny_Constant_int ⟨.int i,H,I.tok _,⟨_,rfl⟩,h⟩
theorem zh{b j pos}:PE X (.Constant (.bool b) j pos) (tC (.bl b)):=fun _ _ _ H _ I h=>Constant_bool ⟨.bl b,H,I,rfl,h⟩
theorem wg{j pos}:PE X (.Constant .none j pos) (tC .non):=fun _ _ _ H _ I h=>Constant_none ⟨.non,H,I,rfl,h⟩
theorem vY{x j pos}:PE X (.Constant (.str x) j pos) (tC (.str x)):=fun _ _ _ H _ I h=>Calls.Constant_str ⟨.str x,H,I.tok _,⟨_,rfl⟩,h⟩
def Gl(X:Cx)(x:Str):Prop:=X.env.kindOf x=some .globalImplicit
theorem eY{E:Value->Shared->Prop}{pins:List (Addr×Obj)}{s:Shared}{σ:St}{H:Hp}{x:Str}{u:Value}{pos:Pos}{Q:Value->Shared->Prop}(I:Inv X pins σ H s)(hg:Gl X x)(hm:X.mg x=some u)(h:Q u s) (hd:(x==("__debug__":Str))=false:=by decide):wpAny (model X.prog X.w) X.A (eval (.Name x pos) X.env) Q E s:=Calls.Name_function_global I.ok.kind hg (Calls.loadGlobal_global (by rw[I.ok.glob];exact I.mod.glob.keeps I.bk) hm h) hd
theorem jb{E:Value->Shared->Prop}{pins:List (Addr×Obj)}{s:Shared}{σ:St}{H:Hp}{x:Str}{u:Value}{pos:Pos}{Q:Value->Shared->Prop}(I:Inv X pins σ H s)(hg:Gl X x)(hm:X.mg x=none)(hv:bootBuiltins x=some u)(h:Q u s) (hn:x≠"__name__":=by decide) (hd:(x==("__debug__":Str))=false:=by decide):wpAny (model X.prog X.w) X.A (eval (.Name x pos) X.env) Q E s:=by obtain⟨mb,h1,h2⟩:=I.mod.blt;exact Calls.Name_function_global I.ok.kind hg (Calls.loadGlobal_builtin (by rw[I.ok.glob];exact I.mod.glob.keeps I.bk) hm (by rw[I.ok.blt];exact h1.keeps I.bk) ((h2 x hn).trans hv) h) hd
theorem oG{x:Str}{v:V}{u:Value}{pos:Pos}(hg:Gl X x)(hm:X.mg x=some u)(r:RelV v u)(hd:(x==("__debug__":Str))=false:=by decide):PE X (.Name x pos) (tC v):=fun _ _ _ H _ I h=>eY I hg hm ⟨v,H,I,r,h⟩ hd
theorem sS{x:Str}{v:V}{u:Value}{pos:Pos}(hg:Gl X x)(hm:X.mg x=none)(hv:bootBuiltins x=some u)(r:RelV v u)(hn:x≠"__name__":=by decide)(hd:(x==("__debug__":Str))=false:=by decide):PE X (.Name x pos) (tC v):=fun _ _ _ H _ I h=>jb I hg hm hv ⟨v,H,I,r,h⟩ hn hd
variable{a b:Expr}{ta tb:TE}{pos:Pos}
def tB(t:TE):TT:=fun σ H Q=>t σ H fun x H1=>∃c,x=.bl c/\Q c H1
theorem xD{e:Expr}{t:TE}(h:PE X e t)(he:∀whole,isTrue e X.env whole=(do let v <-whole;standAt e.pos;holding [v] (truthy v)):=by intro _;rfl):PT X e (tB t):=by intro pins s σ H Q I hw;refine isTrue_plain (thn (h pins s σ H _ I hw) fun v s1 zz7_0=>?_) (he _);obtain⟨x,H1,I1,r1,q1⟩:=zz7_0;obtain⟨d,rfl,q⟩:=q1;cases r1;exact wpAny_truthy_bool ⟨H1,I1,q⟩
variable{tA tB':TT}{rest:List Expr}
def zl(t u:TT):TT:=fun σ H Q=>t σ H fun c H1=>if c=true then u σ H1 Q else Q false H1
def tOr(t u:TT):TT:=fun σ H Q=>t σ H fun c H1=>if c=true then Q true H1 else u σ H1 Q
def zq(t:TT):TT:=fun σ H Q=>t σ H fun c H1=>Q (!c) H1
theorem tP(ha:PT X a tA):PW X (.BoolOp .And [a] pos) tA:=by
 intro wh pins s σ H Q I h;refine isTrue_and (thn (ha pins s σ H Q I h) fun c s1 e=>?_);cases c with
 |true=>exact isTrue_and_nil e
 |false=>exact e
theorem vW(ha:PT X a tA):PW X (.BoolOp .Or [a] pos) tA:=by
 intro wh pins s σ H Q I h;refine isTrue_or (thn (ha pins s σ H Q I h) fun c s1 e=>?_);cases c with
 |false=>exact isTrue_or_nil e
 |true=>exact e
theorem xx(ha:PT X a tA)(hb:PW X (.BoolOp .And (b::rest) pos) tB'):PW X (.BoolOp .And (a::b::rest) pos) (zl tA tB'):=by
 intro wh pins s σ H Q I h;refine isTrue_and (thn (ha pins s σ H _ I h) fun c s1 zz8_0=>?_);obtain⟨H1,I1,q1⟩:=zz8_0;cases c with
 |true=>exact hb wh pins s1 σ H1 Q I1 q1
 |false=>exact⟨H1,I1,q1⟩
theorem zf(ha:PT X a tA)(hb:PW X (.BoolOp .Or (b::rest) pos) tB'):PW X (.BoolOp .Or (a::b::rest) pos) (tOr tA tB'):=by
 intro wh pins s σ H Q I h;refine isTrue_or (thn (ha pins s σ H _ I h) fun c s1 zz9_0=>?_);obtain⟨H1,I1,q1⟩:=zz9_0;cases c with
 |true=>exact⟨H1,I1,q1⟩
 |false=>exact hb wh pins s1 σ H1 Q I1 q1
theorem xb(ha:PT X a tA):PT X (.UnaryOp .Not a pos) (zq tA):=by intro pins s σ H Q I h;exact isTrue_not (ha pins s σ H (fun c H1=>Q (!c) H1) I h)
def yi(ta tb:TE):TE:=fun σ H Q=>ta σ H fun x H1=>∃c,x=.bl c/\if c=true then tb σ H1 Q else Q (.bl false) H1
def zT(ta tb:TE):TE:=fun σ H Q=>ta σ H fun x H1=>∃c,x=.bl c/\if c=true then Q (.bl true) H1 else tb σ H1 Q
theorem vK{op}{t:TE}(h:PE X a t):PE X (.BoolOp op [a] pos) t:=fun pins s σ H Q I hw=>BoolOp_one (h pins s σ H Q I hw)
theorem wI(ha:PE X a ta)(hb:PE X (.BoolOp .And (b::rest) pos) tb):PE X (.BoolOp .And (a::b::rest) pos) (yi ta tb):=by
 intro pins s σ H Q I h;refine BoolOp_and (thn (ha pins s σ H _ I h) fun v s1 zz10_0=>?_);obtain⟨x,H1,I1,r1,q1⟩:=zz10_0;obtain⟨c,rfl,q1⟩:=q1;cases r1;refine wpAny_truthy_bool ?_;cases c with
 |true=>exact hb pins s1 σ H1 Q I1 q1
 |false=>exact⟨.bl false,H1,I1,rfl,q1⟩
theorem xH(ha:PE X a ta)(hb:PE X (.BoolOp .Or (b::rest) pos) tb):PE X (.BoolOp .Or (a::b::rest) pos) (zT ta tb):=by
 intro pins s σ H Q I h;refine BoolOp_or (thn (ha pins s σ H _ I h) fun v s1 zz11_0=>?_);obtain⟨x,H1,I1,r1,q1⟩:=zz11_0;obtain⟨c,rfl,q1⟩:=q1;cases r1;refine wpAny_truthy_bool ?_;cases c with
 |false=>exact hb pins s1 σ H1 Q I1 q1
 |true=>exact⟨.bl true,H1,I1,rfl,q1⟩
def tIf(t:TT)(ta tb:TE):TE:=fun σ H Q=>t σ H fun c H1=>if c=true then ta σ H1 Q else tb σ H1 Q
theorem rR{c:Expr}(hc:PT X c tA)(ha:PE X a ta)(hb:PE X b tb):PE X (.IfExp c a b pos) (tIf tA ta tb):=by
 intro pins s σ H Q I h;refine wpAny_IfExp (thn (hc pins s σ H _ I h) fun d s1 zz13_0=>?_);obtain⟨H1,I1,q1⟩:=zz13_0;cases d with
 |true=>exact ha pins s1 σ H1 Q I1 q1
 |false=>exact hb pins s1 σ H1 Q I1 q1
end
def SqL(K:PySem.W.Frag)(H:Hp)(a:Addr)(xs:List V):Prop:=
 Rd H a (.lst xs)\/
  ∃(o:Obj) (its:Array Value) (n:Nat),K.lookup a=some o/\o.cls=.type "list"/\o.dict=none/\o.data=.seq its n/\its.size<=sizeLine/\Vals xs its.toList
def SqT(K:PySem.W.Frag)(H:Hp)(a:Addr)(xs:List V):Prop:=
 Rd H a (.tup xs)\/
  ∃(o:Obj) (its:Array Value) (n:Nat),K.lookup a=some o/\o.cls=.type "tuple"/\o.data=.seq its n/\its.size<=sizeLine/\Vals xs its.toList
def zE:Value->Option V
 |.none=>some .non
 |.bool b=>some (.bl b)
 |.int i _=>some (.int i)
 |.str x _=>some (.str x)
 |.bytes b _=>some (.byt b)
 |.float b _=>some (.flt b)
 |.ref a=>some (.ref a)
 |.type n=>some (.ty n)
 |_=>none
theorem RelV.abs{x:V}{u:Value}(r:RelV x u):zE u=some x:=by
 cases x with
 |non=>cases r;rfl
 |bl _=>cases r;rfl
 |int _=>obtain⟨t,rfl⟩:=r;rfl
 |str _=>obtain⟨t,rfl⟩:=r;rfl
 |byt _=>obtain⟨t,rfl⟩:=r;rfl
 |flt _=>obtain⟨t,rfl⟩:=r;rfl
 |ref _=>cases r;rfl
 |ty _=>cases r;rfl
theorem RelV.inj{x y:V}{u:Value}(r:RelV x u)(q:RelV y u):x=y:=Option.some.inj (r.abs.symm.trans q.abs)
theorem Vals.inj:∀{xs ys:List V} {us:List Value},Vals xs us->Vals ys us->xs=ys
 |_,_,_,.nil,.nil=>rfl
 |_,_,_,.cons r t,.cons r' t'=>by rw[r.inj r',Vals.inj t t']
section
variable{X:Cx}{pins:List (Addr×Obj)}{σ:St}{H:Hp}{s:Shared}{a:Addr}{xs ys:List V}
theorem SqL.of{K:PySem.W.Frag}(h:H a=some (.lst xs)):SqL K H a xs:=.inl (.inl h)
theorem SqT.of{K:PySem.W.Frag}(h:H a=some (.tup xs)):SqT K H a xs:=.inl (.inl h)
theorem Inv.list(I:Inv X pins σ H s)(h:SqL X.K H a xs):∃its:List Value,Vals xs its/\PlainL s.heap a its.toArray/\xs.length<=sizeLine:=by
 rcases h with h|⟨o,its,n,hk,hc,hd,hs,hz,r⟩
 ·obtain⟨z,its,n,r,e⟩:=h.ok I.hok;exact⟨its,r,⟨_,n,e,rfl,rfl,rfl⟩,z⟩
 ·refine⟨its.toList,r,⟨o,n,I.kIn a o hk,hc,hd,by simpa using hs⟩,?_⟩;have e:=r.length;simp only[Array.length_toList]at e;omega
theorem Inv.tuple(I:Inv X pins σ H s)(h:SqT X.K H a xs):∃its:List Value,Vals xs its/\IsTup s.heap a its.toArray/\xs.length<=sizeLine:=by
 rcases h with h|⟨o,its,n,hk,hc,hs,hz,r⟩
 ·obtain⟨z,its,r,p⟩:=h.ok I.hok;exact⟨its,r,p,z⟩
 ·refine⟨its.toList,r,⟨o,I.kIn a o hk,hc,n,by simpa using hs⟩,?_⟩;have e:=r.length;simp only[Array.length_toList]at e;omega
theorem Inv.my(I:Inv X pins σ H s)(h:SqL X.K H a xs)(h':SqL X.K H a ys):xs=ys:=by
 obtain⟨its,r,⟨o,n,e,_,_,d⟩,_⟩:=I.list h;obtain⟨its',r',⟨o',n',e',_,_,d'⟩,_⟩:=I.list h';rw[e]at e';cases e';rw[d]at d';injection d' with d1 _;have:its=its':=by simpa using congrArg Array.toList d1
 subst this;exact r.inj r'
theorem Inv.p4(I:Inv X pins σ H s)(h:SqT X.K H a xs)(h':SqT X.K H a ys):xs=ys:=by
 obtain⟨its,r,⟨o,e,_,n,d⟩,_⟩:=I.tuple h;obtain⟨its',r',⟨o',e',_,n',d'⟩,_⟩:=I.tuple h';rw[e]at e';cases e';rw[d]at d';injection d' with d1 _;have:its=its':=by simpa using congrArg Array.toList d1
 subst this;exact r.inj r'
end
abbrev Cx.iZ(X:Cx)(E:Value->Shared->Prop):Cx:={ X with xe:=E }
abbrev Cx.nox(X:Cx):Cx:=X.iZ fun _ _=>False
theorem Cx.Ok.iZ{X:Cx}(ok:X.Ok)(E:Value->Shared->Prop):(X.iZ E).Ok:=⟨ok.mod,ok.kind,ok.glob,ok.blt,ok.above,ok.inj,ok.has,ok.cab,ok.hd,ok.frames,ok.stk,ok.exf,ok.bs,ok.bsz,ok.noex,ok.exfs,ok.gm,ok.frf⟩
theorem Cx.Ok.eK{X:Cx}{E:Value->Shared->Prop}(ok:(X.iZ E).Ok):X.Ok:=⟨ok.mod,ok.kind,ok.glob,ok.blt,ok.above,ok.inj,ok.has,ok.cab,ok.hd,ok.frames,ok.stk,ok.exf,ok.bs,ok.bsz,ok.noex,ok.exfs,ok.gm,ok.frf⟩
section
variable{X:Cx}{pins:List (Addr×Obj)}{σ:St}{H:Hp}{s:Shared}{E:Value->Shared->Prop}
theorem Inv.iZ(I:Inv X pins σ H s)(E:Value->Shared->Prop):Inv (X.iZ E) pins σ H s:=⟨I.ok.iZ E,I.os,I.bare,I.base,I.loc,I.cell,I.free,I.freeC,I.pin,I.hok,I.len⟩
theorem Inv.eK(I:Inv (X.iZ E) pins σ H s):Inv X pins σ H s:=⟨I.ok.eK,I.os,I.bare,I.base,I.loc,I.cell,I.free,I.freeC,I.pin,I.hok,I.len⟩
theorem SP.eK{D:Ends}{f:Flow}{s':Shared}(h:SP (X.iZ E) pins D f s'):SP X pins D f s':=by
 cases f with
 |next=>obtain⟨σ',H',I,q⟩:=h;exact⟨σ',H',I.eK,q⟩
 |brk=>obtain⟨σ',H',I,q⟩:=h;exact⟨σ',H',I.eK,q⟩
 |cont=>obtain⟨σ',H',I,q⟩:=h;exact⟨σ',H',I.eK,q⟩
 |ret u=>obtain⟨v,σ',H',I,r,q⟩:=h;exact⟨v,σ',H',I.eK,r,q⟩
theorem PSs.nox{st:List Stmt}{t:TS}(h:PSs X.nox st t):PSs X st t:=fun pins s σ H D I hw=>wpAny_mono (h pins s σ H D (I.iZ _) hw) (fun _ _ q=>q.eK) fun _ _ z=>False.elim z
end
section
variable{X:Cx}{st:Stmt}{rest:List Stmt}{t u:TS}{e:Expr}{te:TE}{pos:Pos}
def yn:TS:=fun D σ H=>D.nx σ H
def uC(t u:TS):TS:=fun D σ H=>t { D with nx:=u D } σ H
theorem uQ:PSs X [] yn:=fun _ _ σ H _ I h=>wpAny_execs_nil ⟨σ,H,I,h⟩
theorem gu(h1:PS X st t)(h2:PSs X rest u):PSs X (st::rest) (uC t u):=by
 intro pins s σ H D I h;refine wpAny_execs_cons (thn (h1 pins s σ H { D with nx:=u D } I h) fun f s1 q=>?_);cases f with
 |next=>
  obtain⟨σ',H',I',q⟩:=q
  exact h2 pins s1 σ' H' D I' q
 |ret v=>exact q
 |brk=>exact q
 |cont=>exact q
theorem kz(h1:PS X st t):PSs X [st] t:=by
 intro pins s σ H D I h;refine wpAny_execs_cons (thn (h1 pins s σ H D I h) fun f s1 q=>?_);cases f with
 |next=>exact wpAny_execs_nil q
 |ret v=>exact q
 |brk=>exact q
 |cont=>exact q
theorem Inv.quiet{pins:List (Addr×Obj)}{σ:St}{H:Hp}{s:Shared}(I:Inv X pins σ H s):interactive X.env=false:=by simp[interactive,I.ok.kind]
def sG(te:TE):TS:=fun D σ H=>te σ H fun _ H1=>D.nx σ H1
theorem kx(he:PE X e te)(hs:swapsWith e none pos.line X.env=pure false:=by rfl):PS X (.Expr e pos) (sG te):=by intro pins s σ H D I h;exact wpAny_Expr_any (thn (he pins s σ H _ I h) fun v s1 zz16_0=>by obtain⟨x,H1,I1,r1,q1⟩:=zz16_0;exact(⟨σ,H1,I1,q1⟩)) I.quiet hs
def z5(te:TE):TS:=fun D σ H=>te σ H D.rt
theorem wQ(he:PE X e te):PS X (.Return (some e) pos) (z5 te):=by intro pins s σ H D I h;exact wpAny_Return_some (thn (he pins s σ H _ I h) fun v s1 zz17_0=>by obtain⟨x,H1,I1,r1,q1⟩:=zz17_0;exact(⟨x,σ,H1,I1,r1,q1⟩))
def zO(c:TT)(t u:TS):TS:=fun D σ H=>c σ H fun b H1=>if b=true then t D σ H1 else u D σ H1
theorem yD{c:Expr}{a b:List Stmt}{tc:TT}(hc:PT X c tc)(ha:PSs X a t)(hb:PSs X b u):PS X (.If c a b pos) (zO tc t u):=by
 intro pins s σ H D I h;refine wpAny_If (thn (hc pins s σ H _ I h) fun d s1 zz18_0=>?_);obtain⟨H1,I1,q1⟩:=zz18_0;cases d with
 |true=>exact ha pins s1 σ H1 D I1 q1
 |false=>exact hb pins s1 σ H1 D I1 q1
def qQ:TS:=fun _ _ _=>False
theorem rf:PS X st qQ:=fun _ _ _ _ _ _ h=>h.elim
theorem qy{sts:List Stmt}:PSs X sts qQ:=fun _ _ _ _ _ _ h=>h.elim
end
abbrev TG:=V->St->Hp->(St->Hp->Prop)->Prop
abbrev TGs:=List V->St->Hp->(St->Hp->Prop)->Prop
def PG(X:Cx)(target:Expr)(t:TG):Prop:=
 ∀(pins:List (Addr×Obj)) (s:Shared) (σ:St) (H:Hp) (v:V) (u:Value) (Q:St->Hp->Prop),Inv X pins σ H s->RelV v u->t v σ H Q->
  wpAny (model X.prog X.w) X.A (assign target X.env u) (fun _ s'=>∃σ' H',Inv X pins σ' H' s'/\Q σ' H') X.xe s
def PGs(X:Cx)(ts:List Expr)(t:TGs):Prop:=
 ∀(pins:List (Addr×Obj)) (s:Shared) (σ:St) (H:Hp) (vs:List V) (us:List Value) (Q:St->Hp->Prop),Inv X pins σ H s->Vals vs us->t vs σ H Q->
  wpAny (model X.prog X.w) X.A (assignInOrder ((assignEach ts X.env).map (·.2)) us) (fun _ s'=>∃σ' H',Inv X pins σ' H' s'/\Q σ' H') X.xe s
abbrev w4:=V->V->V->Hp->(Hp->Prop)->Prop
def xT(X:Cx)(t:w4):Prop:=
 ∀(pins:List (Addr×Obj)) (s:Shared) (σ:St) (H:Hp) (o i v:V) (ov iv u:Value) (Q:Hp->Prop),Inv X pins σ H s->RelV o ov->RelV i iv->RelV v u->t o i v H Q->
  wpAny (model X.prog X.w) X.A (setItem ov iv u) (fun _ s'=>∃H',Inv X pins σ H' s'/\Q H') X.xe s
section
variable{X:Cx}{pos:Pos}
def gg(i:Nat):TG:=fun v σ H Q=>Q (σ.set i (some v)) H
theorem oU{i:Nat}{x:Str}(hN:X.N.Nodup)(hi:X.N[i]?=some x)(hx:Loc X.env.scope x)(hf:X.fn x=true\/X.env.scope.names.lookup x=some .local:=by first|exact .inl rfl|exact .inr rfl|assumption):PG X (.Name x pos) (gg i):=by intro pins s σ H v u Q I r h;exact wpAny_assign_Name (eD I hN hi hx r (fun s' I'=>⟨_,H,I',h⟩) hf)
def wj:TGs:=fun vs σ H Q=>vs=[]/\Q σ H
def lR(t:TG)(u:TGs):TGs:=fun vs σ H Q=>∃v r,vs=v::r/\t v σ H fun σ' H'=>u r σ' H' Q
theorem oO:PGs X [] wj:=by intro pins s σ H vs us Q I r h;obtain⟨e,h⟩:=h;subst e;cases r;exact assignInOrder_nil ⟨σ,H,I,h⟩
theorem jc{e:Expr}{es:List Expr}{t:TG}{u:TGs}(h1:PG X e t)(h2:PGs X es u) (hs:(assignEach (e::es) X.env).map (·.2)=assign e X.env::(assignEach es X.env).map (·.2):=by rfl):PGs X (e::es) (lR t u):=by
 intro pins s σ H vs us Q I r h;obtain⟨v,vr,e1,h⟩:=h;subst e1;cases r with
 |cons r rr=>
  rw[hs]
  refine assignInOrder_cons (thn (h1 pins s σ H _ _ _ I r h) fun _ s1 zz19_0=>?_)
  obtain⟨σ1,H1,I1,q1⟩:=zz19_0
  exact h2 pins s1 σ1 H1 _ _ Q I1 rr q1
def vA(K:PySem.W.Frag)(n:Nat)(t:TGs):TG:=fun v σ H Q=>∃a xs,v=.ref a/\SqT K H a xs/\xs.length=n/\t xs σ H Q
theorem qZ{es:List Expr}{k:Nat}{t:TGs}{n:Nat}(hc:X.calm=true)(h:PGs X es t)
 (hn:(assignEach es X.env).length=n:=by rfl) (hst:(assignEach es X.env).findIdx? (·.1)=none:=by rfl):PG X (.Tuple es k pos) (vA X.K n t):=by
 intro pins s σ H v u Q I r hw
 obtain⟨a,xs,e1,hq,hl,hw⟩:=hw
 subst e1
 cases r
 obtain⟨its,rv,ht,hz⟩:=I.tuple hq
 refine assign_Tuple_tuple (I.ok.hd hc) ht (by simp[hn,<-hl,rv.length]) hst fun h' hx=>?_
 have I1:Inv X pins σ H { s with heap:=h' }:=I.kept (t':=s.toks) fun b o e=>hx b o (Nat.ne_of_lt (Heap.lt_size e)) e
 exact h pins _ σ H xs _ Q I1 (by simpa using rv) hw
def zm(to ti:TE)(t:w4):TG:=fun v σ H Q=>to σ H fun o H1=>ti σ H1 fun i H2=>t o i v H2 fun H3=>Q σ H3
theorem vR{o i:Expr}{to ti:TE}{t:w4}(ho:PE X o to)(hi:PE X i ti)(hs:xT X t)
 (ha:∀v,assign (.Subscript o i pos) X.env v=(do
  let ov <-holding [v] (eval o X.env)
  let iv <-holding [v,ov] (eval i X.env)
  standAt pos
  holding [v,ov,iv] (setItem ov iv v)
  release [v,ov,iv] []):=by intro _;rfl):PG X (.Subscript o i pos) (zm to ti t):=by
 intro pins s σ H v u Q I r h
 rw[ha]
 refine wpAny_bind (wpAny_holding (thn (ho pins s σ H _ I h) fun ov s1 zz20_0=>?_))
 obtain⟨x,H1,I1,r1,q1⟩:=zz20_0
 refine wpAny_bind (wpAny_holding (thn (hi pins s1 σ H1 _ I1 q1) fun iv s2 zz21_0=>?_))
 obtain⟨y,H2,I2,r2,q2⟩:=zz21_0
 refine wpAny_bind (wpAny_standAt (wpAny_bind (wpAny_holding (thn (hs pins s2 σ H2 x y v ov iv u _ I2 r1 r2 r q2) fun _ s3 zz22_0=>?_))))
 obtain⟨H3,I3,q3⟩:=zz22_0
 exact wpAny_release ⟨σ,H3,I3,q3⟩
def xC(te:TE)(g:TG):TS:=fun D σ H=>te σ H fun x H1=>g x σ H1 D.nx
theorem vD{tg e:Expr}{te:TE}{g:TG}(he:PE X e te)(hg:PG X tg g)(hs:swapsWithSole [tg] e pos.line X.env=pure false:=by rfl)(hw:swappedStores [tg] e X.env=pure none:=by rfl) (h1:(assignEach [tg] X.env).map (·.2)=[assign tg X.env]:=by rfl):PS X (.Assign [tg] e pos) (xC te g):=by intro pins s σ H D I h;refine wpAny_Assign_stores (thn (he pins s σ H _ I h) fun v s1 zz23_0=>?_) hs hw;obtain⟨x,H1,I1,r1,q1⟩:=zz23_0;rw[h1];exact thn (hg pins s1 σ H1 x v _ I1 r1 q1) fun _ s2 q=>q
theorem xy{i:Nat}{x:Str}{e:Expr}{te:TE}{pos':Pos}(hN:X.N.Nodup)(hi:X.N[i]?=some x)(hx:Loc X.env.scope x)(he:PE X e te)(hs:swapsWith e (some (.Name x pos')) pos.line X.env=pure false:=by rfl)(hf:X.fn x=true\/X.env.scope.names.lookup x=some .local:=by first|exact .inl rfl|exact .inr rfl|assumption) : PS X (.Assign [.Name x pos'] e pos) (xC te (gg i)):=by intro pins s σ H D I h;refine wpAny_Assign_Name (thn (he pins s σ H _ I h) fun v s1 zz24_0=>?_) hs;obtain⟨y,H1,I1,r1,q1⟩:=zz24_0;exact eD I1 hN hi hx r1 (fun s2 I2=>⟨_,H1,I2,q1⟩) hf
def zY(i j:Nat)(ta:TA):TS:=fun D σ H=>ta σ H fun vs H1=>∃v w,vs=[v,w]/\D.nx ((σ.set i (some v)).set j (some w)) H1
theorem xm{i j:Nat}{x y:Str}{a b:Expr}{ta:TA}{px py pt:Pos}{kt k2 pt2}(hc:X.calm=true)(hN:X.N.Nodup)(hi:X.N[i]?=some x)(hj:X.N[j]?=some y)(hij:i≠j)
 (hx:X.env.scope.names.lookup x=some .local) (hy:X.env.scope.names.lookup y=some .local) (ha:PA X [a,b] ta)
 (hw:swappedStores [.Tuple [.Name x px,.Name y py] kt pt] (.Tuple [a,b] k2 pt2) X.env=pure (some [x,y]))
 (hs:swapsWithSole [.Tuple [.Name x px,.Name y py] kt pt] (.Tuple [a,b] k2 pt2) pos.line X.env=pure false:=by rfl) :
 PS X (.Assign [.Tuple [.Name x px,.Name y py] kt pt] (.Tuple [a,b] k2 pt2) pos) (zY i j ta):=by
 intro pins s σ H D I h
 rw[exec_Assign_arm]
 refine wpAny_bind (wpAny_standAt ?_)
 rw[hs]
 refine wpAny_bind (wpAny_pure ?_)
 rw[if_neg (by decide)]
 refine wpAny_bind (Tuple_ (thn (ha _ pins s σ H _ I h) fun us s1 zz25_0=>?_))
 obtain⟨vs,H1,I1,r1,q1⟩:=zz25_0
 obtain⟨v,w,e1,q1⟩:=q1
 subst e1
 obtain⟨u1,u2,rfl,rv,rw'⟩:∃u1 u2,us=[u1,u2]/\RelV v u1/\RelV w u2:=by
  cases r1 with
  |cons p q=>
   cases q with
   |cons p' q'=>
    cases q'
    exact⟨_,_,rfl,p,p'⟩
 refine wpAny_newObj_type ?_ (by show 2<=sizeLine;decide)
 have I2:Inv X pins σ H1 { s1 with heap:=s1.heap.push { cls:=.type "tuple",data:=.seq [u1,u2].toArray } }:=I1.kept (t':=s1.toks) fun b o e=>Heap.get?_push_of_some _ e
 rw[hw]
 refine wpAny_bind (wpAny_pure ?_)
 show wpAny (model X.prog X.w) X.A (do rule "assign.swapped-stores";let items <-unpackItems (.ref s1.heap.objs.size) 2 none;assignInOrder [fun v=>bindName X.env y v,fun v=>bindName X.env x v] items.reverse;pure Flow.next) _ _ _
 refine wpAny_bind (wpAny_rule (wpAny_bind (unpackItems_tuple (items:=#[u1,u2]) (I.ok.hd hc) (IsTup.new s1.heap _) fun h' hx'=>?_)))
 have I3:=I2.kept (h':=h') (t':=s1.toks) fun b o e=>hx' b o (Nat.ne_of_lt (Heap.lt_size e)) e
 show wpAny _ _ (assignInOrder [fun v=>bindName X.env y v,fun v=>bindName X.env x v] [u2,u1] >>= fun _=>pure Flow.next) _ _ _
 refine wpAny_bind (assignInOrder_cons (wpAny_bindName (eD I3 hN hj (.inl hy) rw' (fun s2 I4=>?_) (.inr hy))))
 refine assignInOrder_cons (wpAny_bindName (eD I4 hN hi (.inl hx) rv (fun s3 I5=>assignInOrder_nil (wpAny_pure ?_)) (.inr hx)))
 rw[List.set_comm _ _ (Ne.symm hij)]at I5
 exact⟨_,H1,I5,q1⟩
end
section
variable{X:Cx}{pos:Pos}
def wH(c:TT)(tb:TS):TS:=fun D σ H=>∃W:Nat->St->Hp->Prop,(∃m,W m σ H)/\∀m σ H,W m σ H->
 c σ H fun b H1=>if b=true then ∃N:St->Hp->Prop,(∀σ' H',N σ' H'->∃m',m'<m/\W m' σ' H')/\tb { D with nx:=N,ct:=N,bk:=D.nx } σ H1 else D.nx σ H1
theorem qK{c:Expr}{body:List Stmt}{tc:TT}{tb:TS}(hp:PassesOwn (model X.prog X.w) X.A X.env X.xe)(hc:PT X c tc)(hb:PSs X body tb):PS X (.While c body [] pos) (wH tc tb):=by
 intro pins s σ H D I h;obtain⟨W,⟨m0,w0⟩,turn⟩:=h;refine wpAny_While (codeAny_whileLoop (fun n s'=>∃σ' H',Inv X pins σ' H' s'/\W n σ' H') ?_ m0 ⟨σ,H,I,w0⟩);rintro n s1 ⟨σ1,H1,I1,w1⟩;refine wpAny_passesOwn hp (thn (hc pins s1 σ1 H1 _ I1 (turn n σ1 H1 w1)) fun b s2 zz34_0=>?_);obtain⟨H2,I2,q2⟩:=zz34_0;cases b with
 |true=>
  obtain⟨N,hN,q2⟩:=q2
  rw[if_pos rfl]
  refine wpAny_passesOwn hp (thn (hb pins s2 σ1 H2 _ I2 q2) fun f s3 q3=>?_)
  cases f with
  |next=>
   obtain⟨σ3,H3,I3,n3⟩:=q3
   obtain⟨m',hm,w3⟩:=hN σ3 H3 n3
   exact⟨m',hm,σ3,H3,I3,w3⟩
  |cont=>
   obtain⟨σ3,H3,I3,n3⟩:=q3
   obtain⟨m',hm,w3⟩:=hN σ3 H3 n3
   exact⟨m',hm,σ3,H3,I3,w3⟩
  |brk=>exact q3
  |ret v=>exact q3
 |false=>
  rw[if_neg Bool.false_ne_true]
  exact wpAny_execs_nil ⟨σ1,H2,I2,q2⟩
end
structure It where
 go:Nat->Hp->Prop
 yld:Nat->Hp->V->Hp->Prop
 stop:Nat->Hp->Prop
def eA(X:Cx)(pins:List (Addr×Obj))(H:Hp)(b:Addr):Prop:=
 H b=none/\b≠X.env.locals/\b∉X.fs/\(b∈X.ex\/X.s₀.heap.objs.size<=b)/\(∀x c,X.env.cells.lookup x=some c->c≠b)/\∀p∈X.pn++pins,p.1≠b
theorem Inv.uB{X:Cx}{pins:List (Addr×Obj)}{σ:St}{H H':Hp}{s:Shared}{b:Addr}(I:Inv X pins σ H s)(hb:s.heap.objs.size<=b)(hn:H' b=none):eA X pins H' b:=by
 refine⟨hn,Nat.ne_of_gt (Nat.lt_of_lt_of_le I.lt hb),I.zH hb,.inr (Nat.le_trans I.sz hb),fun x c e z=>?_,fun p hp z=>?_⟩
 ·obtain⟨v,q⟩:=I.cell x c e;exact absurd (Nat.lt_of_lt_of_le q.lt (by rw[z];exact hb)) (Nat.lt_irrefl _)
 ·exact absurd (Nat.lt_of_lt_of_le (Heap.lt_size (I.pin p hp).1) (by rw[z];exact hb)) (Nat.lt_irrefl _)
structure Turn(P:Program)(w:World)(K:PySem.W.Frag)(tg:Expr)(J:It)(fp:List Addr)(it:Addr)(tn:Nat->Heap->Prop):Prop where
 mem:it∈fp
 obj:∀i h,tn i h->∀b∈fp,∃o,h.get? b=some o/\∀v,o.data≠.cell v
 keep:∀i h h',tn i h->(∀b∈fp,∀o,h.get? b=some o->h'.get? b=some o)->tn i h'
 item:∀(X:Cx),X.prog=P->X.w=w->X.K=K->X.calm=true->∀(i:Nat) (pins:List (Addr×Obj)) (s:Shared) (σ:St) (H:Hp) (E:Value->Shared->Prop),Inv X pins σ H s->(∀b∈fp,eA X pins H b)->tn i s.heap->J.go i H->
  wpAny (model P w) X.A (pyNext (.ref it)) (fun r s1=>∃u,r=some u/\
   wpAny (model P w) X.A (letOwnedTupleGo tg (.ref it) u) (fun _ s2=>∃x H',Inv X pins σ H' s2/\RelV x u/\J.yld i H x H'/\tn (i+1) s2.heap/\∀b∈fp,H' b=none) E s1) E s
 done:∀(X:Cx),X.prog=P->X.w=w->X.K=K->X.calm=true->∀(i:Nat) (pins:List (Addr×Obj)) (s:Shared) (σ:St) (H:Hp) (E:Value->Shared->Prop),Inv X pins σ H s->(∀b∈fp,eA X pins H b)->tn i s.heap->J.stop i H->
  wpAny (model P w) X.A (pyNext (.ref it)) (fun r s1=>r=none/\Inv X pins σ H s1) E s
 self:∀(A:Around) (i:Nat) (s:Shared) (Q:Value->Shared->Prop) (E:Value->Shared->Prop),tn i s.heap->Q (.ref it) s->wpAny (model P w) A (pyIter (.ref it)) Q E s
abbrev TI:=St->Hp->(It->Hp->Prop)->Prop
def PIE(X:Cx)(pins:List (Addr×Obj))(σ:St)(tg:Expr)(R:It->Hp->Prop)(itv:Value)(s2:Shared):Prop:=
 ∃(it:Addr) (fp:List Addr) (tn:Nat->Heap->Prop) (J:It) (H':Hp),itv=.ref it/\Inv X pins σ H' s2/\Turn X.prog X.w X.K tg J fp it tn/\tn 0 s2.heap/\(∀b∈fp,eA X pins H' b)/\R J H'
def PI(X:Cx)(tg iter:Expr)(wi:TI):Prop:=
 ∀(pins:List (Addr×Obj)) (s:Shared) (σ:St) (H:Hp) (R:It->Hp->Prop),Inv X pins σ H s->wi σ H R->
  wpAny (model X.prog X.w) X.A (eval iter X.env) (fun v s1=>wpAny (model X.prog X.w) X.A (pyIter v) (PIE X pins σ tg R) X.xe s1) X.xe s
theorem qO{M:Model}{A:Around}{E:Value->Shared->Prop}{s:Shared}{tg:Expr}{it:Addr}{u:Value}{o:Obj}{n:String}{vs:Array Value}{Q:Unit->Shared->Prop}(ho:s.heap.get? it=some o)(hc:o.cls=.type n)(hd:o.data=.fields vs) (hn:["enumerate","zip","dict_itemiterator","dict_reverseitemiterator","odict_iterator","itertools.zip_longest","itertools.pairwise"].contains n=false) (hQ:Q () s):wpAny M A (letOwnedTupleGo tg (.ref it) u) Q E s:=by
 unfold letOwnedTupleGo
 cases tg<;>first
  |exact wpAny_pure hQ
  |(cases u<;>first
   |exact wpAny_pure hQ
   |(refine wpAny_bind (wpAny_load ho ?_)
     rw[hc,hd]
     show wpAny M A (if(["enumerate","zip","dict_itemiterator","dict_reverseitemiterator","odict_iterator","itertools.zip_longest","itertools.pairwise"].contains n&&vs[0]?==some (rawInt _))=true then _ else _) Q E s
     rw[if_neg (by intro h;rw[hn,Bool.false_and]at h;cases h)]
     exact wpAny_pure hQ))
def Itl(K:PySem.W.Frag)(a:Addr):It:=
 ⟨fun i H=>∃xs x,SqL K H a xs/\xs[i]?=some x,fun i H x H'=>H'=H/\∀xs,SqL K H a xs->xs[i]?=some x,fun i H=>∃xs,SqL K H a xs/\xs.length<=i⟩
def Itt(K:PySem.W.Frag)(a:Addr):It:=
 ⟨fun i H=>∃xs x,SqT K H a xs/\xs[i]?=some x,fun i H x H'=>H'=H/\∀xs,SqT K H a xs->xs[i]?=some x,fun i H=>∃xs,SqT K H a xs/\xs.length<=i⟩
def Itr(lo:Int)(n:Nat):It:=⟨fun i _=>i<n,fun i H x H'=>H'=H/\x=.int (lo+i),fun i _=>n<=i⟩
theorem pU{P:Program}{w:World}{K:PySem.W.Frag}{tg:Expr}(a it:Addr):Turn P w K tg (Itl K a) [it] it (fun i h=>h.IsListIter it a i) where
 mem:=by simp
 obj:=fun i h st b hb=>by
  have e:b=it:=by simpa using hb
  subst e
  obtain⟨o,e,c,d⟩:=st
  exact⟨o,e,fun v z=>by rw[d]at z;cases z⟩
 keep:=fun i h h' st k=>st.at fun o e=>k it (by simp) o e
 item:=by
  intro X hP hw hK hc i pins s σ H E I hf st hg
  subst hP hw hK
  obtain⟨xs,x,hq,hx⟩:=hg
  obtain⟨its,rv,p,hz⟩:=I.list hq
  obtain⟨u,hu,ru⟩:=rv.get hx
  obtain⟨f0,f1,f2,f3,f4,f5⟩:=hf it (by simp)
  refine wpAny_pyNext_list_item st p.isList (x:=u) (by simpa using hu) fun h' st' sb=>?_
  have I1:Inv X pins σ H { s with heap:=h' }:=I.turned (t':=s.toks) (fun b o hb e=>(sb.2 b hb).trans e) f0 f1 f3 f4 f5
  obtain⟨o,e,c,d⟩:=id st'
  exact⟨u,rfl,qO (s:={ s with heap:=h' }) e c d (by decide) ⟨x,H,I1,ru,⟨rfl,fun ys hy=>by rw[I.my hy hq];exact hx⟩,st',fun b hb=>(hf b hb).1⟩⟩
 done:=by
  intro X hP hw hK hc i pins s σ H E I hf st hg
  subst hP hw hK
  obtain⟨xs,hq,hx⟩:=hg
  obtain⟨its,rv,p,hz⟩:=I.list hq
  obtain⟨f0,f1,f2,f3,f4,f5⟩:=hf it (by simp)
  have hl:=rv.length
  exact wpAny_pyNext_list_end (I.ok.hd hc) st p.isList (by simp;omega) fun h' eb=>⟨rfl,I.turned (t':=s.toks) (fun b o hb e=>eb b o hb e) f0 f1 f3 f4 f5⟩
 self:=fun _ _ _ _ _ st h=>wpAny_pyIter_listiter st h
theorem mW{P:Program}{w:World}{K:PySem.W.Frag}{tg:Expr}(a it:Addr):Turn P w K tg (Itt K a) [it] it (fun i h=>h.IsTupleIter it a i) where
 mem:=by simp
 obj:=fun i h st b hb=>by
  have e:b=it:=by simpa using hb
  subst e
  obtain⟨o,e,c,d⟩:=st
  exact⟨o,e,fun v z=>by rw[d]at z;cases z⟩
 keep:=fun i h h' st k=>st.at fun o e=>k it (by simp) o e
 item:=by
  intro X hP hw hK hc i pins s σ H E I hf st hg
  subst hP hw hK
  obtain⟨xs,x,hq,hx⟩:=hg
  obtain⟨its,rv,p,hz⟩:=I.tuple hq
  obtain⟨u,hu,ru⟩:=rv.get hx
  obtain⟨f0,f1,f2,f3,f4,f5⟩:=hf it (by simp)
  refine wpAny_pyNext_tuple_item st (show s.heap.IsTuple a its.toArray from p) (x:=u) (by simpa using hu) fun h' st' sb=>?_
  have I1:Inv X pins σ H { s with heap:=h' }:=I.turned (t':=s.toks) (fun b o hb e=>(sb.2 b hb).trans e) f0 f1 f3 f4 f5
  obtain⟨o,e,c,d⟩:=id st'
  exact⟨u,rfl,qO (s:={ s with heap:=h' }) e c d (by decide) ⟨x,H,I1,ru,⟨rfl,fun ys hy=>by rw[I.p4 hy hq];exact hx⟩,st',fun b hb=>(hf b hb).1⟩⟩
 done:=by
  intro X hP hw hK hc i pins s σ H E I hf st hg
  subst hP hw hK
  obtain⟨xs,hq,hx⟩:=hg
  obtain⟨its,rv,p,hz⟩:=I.tuple hq
  obtain⟨f0,f1,f2,f3,f4,f5⟩:=hf it (by simp)
  have hl:=rv.length
  exact wpAny_pyNext_tuple_end (I.ok.hd hc) st (show s.heap.IsTuple a its.toArray from p) (by simp;omega) fun h' eb=>⟨rfl,I.turned (t':=s.toks) (fun b o hb e=>eb b o hb e) f0 f1 f3 f4 f5⟩
 self:=fun _ _ _ _ _ st h=>wpAny_pyIter_tupleiter st h
theorem oy{P:Program}{w:World}{K:PySem.W.Frag}{tg:Expr}(it:Addr)(lo:Int)(n:Nat):Turn P w K tg (Itr lo n) [it] it (fun i h=>IsRangeIter h it (lo+(i:Nat)*1) ((n:Int)-(i:Nat)) 1) where
 mem:=by simp
 obj:=fun i h st b hb=>by
  have e:b=it:=by simpa using hb
  subst e
  exact⟨_,st,fun v z=>by
   have z':Data.fields _=Data.cell v:=z
   cases z'⟩
 keep:=fun i h h' st k=>k it (by simp) _ st
 item:=by
  intro X hP hw hK hc i pins s σ H E I hf st hg
  subst hP hw hK
  obtain⟨f0,f1,f2,f3,f4,f5⟩:=hf it (by simp)
  have W:=Walks.range (prog:=X.prog) (w:=X.w) (I.ok.hd hc) it lo 1 n
  refine W.item i s _ _ hg st fun v h' tk hv st' kk=>?_
  obtain⟨t,rfl⟩:=hv
  have I1:Inv X pins σ H { s with heap:=h',toks:=tk }:=I.turned (fun b o hb e=>kk b o (by simpa using hb) e) f0 f1 f3 f4 f5
  refine⟨_,rfl,qO (s:={ s with heap:=h',toks:=tk }) (n:="range_iterator") st' rfl rfl (by decide) ⟨.int (lo+i),H,I1,⟨t,?_⟩,⟨rfl,rfl⟩,st',fun b hb=>(hf b hb).1⟩⟩
  rw[Int.mul_one]
 done:=by
  intro X hP hw hK hc i pins s σ H E I hf st hg
  subst hP hw hK
  obtain⟨f0,f1,f2,f3,f4,f5⟩:=hf it (by simp)
  exact wpAny_pyNext_range_end (I.ok.hd hc) st (by have:n<=i:=hg;omega) fun h' eb=>⟨rfl,I.turned (t':=s.toks) (fun b o hb e=>eb b o hb e) f0 f1 f3 f4 f5⟩
 self:=fun _ _ _ _ _ st h=>wpAny_pyIter_rangeiter st h
section
variable{X:Cx}{tg:Expr}
theorem qN{pins:List (Addr×Obj)}{σ:St}{H:Hp}{s:Shared}{R:It->Hp->Prop}{E:Value->Shared->Prop}{lo hi:Int}{t u v:Tok}{tk:Nat}(I:Inv X pins σ H s)(h1:-(2^62)<=lo)(h2:lo<2^62)(h3:-(2^62)<=hi)(h4:hi<2^62)
 (q:R (Itr lo (hi-lo).toNat) H):wpAny (model X.prog X.w) X.A (pyIter (.ref s.heap.objs.size)) (PIE X pins σ tg R) E { s with heap:=s.heap.push { cls:=.type "range",data:=.fields #[.int lo t,.int hi u,.int 1 v] },toks:=tk }:=by
 refine wpAny_pyIter_range (IsRange.new ..) (small_one h1 h2 h3 h4) ?_
 have I1:Inv X pins σ H { s with heap:=s.heap.push { cls:=.type "range",data:=.fields #[.int lo t,.int hi u,.int 1 v] },toks:=tk }:=I.kept fun b o e=>Heap.get?_push_of_some _ e
 refine⟨(s.heap.push { cls:=.type "range",data:=.fields #[.int lo t,.int hi u,.int 1 v] }).objs.size,[(s.heap.push { cls:=.type "range",data:=.fields #[.int lo t,.int hi u,.int 1 v] }).objs.size],_,_,H,rfl,
  I1.kept (t':=tk) fun b o e=>Heap.get?_push_of_some _ e,oy _ lo (hi-lo).toNat,?_,fun b hb=>?_,q⟩
 ·have e1:lo+((0:Nat):Int)*1=lo:=by simp
  have e2:(((hi-lo).toNat:Nat):Int)-((0:Nat):Int)=Builtin.Range.rangeSize lo hi 1:=by rw[rangeSize_one];split<;>omega
  show IsRangeIter _ _ (lo+((0:Nat):Int)*1) ((((hi-lo).toNat:Nat):Int)-((0:Nat):Int)) 1
  rw[e1,e2]
  exact Heap.get?_push_size _ rfl
 ·have e:b=(s.heap.push { cls:=.type "range",data:=.fields #[.int lo t,.int hi u,.int 1 v] }).objs.size:=by simpa using hb
  subst e
  exact I1.uB (Nat.le_refl _) (I1.hok.fresh (Nat.le_refl _))
def yS(ta:TA):TI:=fun σ H R=>ta σ H fun vs H1=>∃j:Int,vs=[.int j]/\-(2^62)<=j/\j<2^62/\R (Itr 0 j.toNat) H1
theorem jN{a:Expr}{ta:TA}{p pos:Pos}(hg:Gl X "range")(hm:X.mg "range"=none)(ha:PA X [a] ta)(hs:starEach [a] X.env=[(false,eval a X.env)]:=by rfl):PI X tg (.Call (.Name "range" p) [a] [] pos) (yS ta):=by
 intro pins s σ H R I h;refine Call_ (jb I hg hm boot_range (PyProof.Rows.callWith_type1 (thn (ha pos pins s σ H _ I h) fun us s1 zz37_0=>?_) hs rfl));obtain⟨vs,H1,I1,r1,q1⟩:=zz37_0;obtain⟨j,e,q1,q2,q⟩:=q1;subst e;cases r1 with
 |cons r rr=>
  cases rr
  obtain⟨t,rfl⟩:=r
  exact call_range_1 (qN I1 (by omega) (by omega) q1 q2 (by simpa using q))
def zM(wi:TI)(g:TG)(tb:TS):TS:=fun D σ H=>wi σ H fun J H1=>∃W:Nat->Nat->St->Hp->Prop,(∃m,W 0 m σ H1)/\∀i m σ H,W i m σ H->
 (J.stop i H/\D.nx σ H)\/(J.go i H/\∃N:St->Hp->Prop,(∀σ' H',N σ' H'->∃m',m'<m/\W (i+1) m' σ' H')/\∀x H',J.yld i H x H'->g x σ H' fun σ2 H2=>tb { D with nx:=N,ct:=N,bk:=D.nx } σ2 H2)
def iY(fp:List Addr)(h:Heap):List (Addr×Obj):=fp.filterMap fun b=>(h.get? b).map fun o=>(b,o)
theorem dG{fp:List Addr}{h:Heap}{b:Addr}{o:Obj}(hb:b∈fp)(e:h.get? b=some o):(b,o)∈iY fp h:=List.mem_filterMap.mpr ⟨b,hb,by rw[e];rfl⟩
theorem qG{fp:List Addr}{h:Heap}{p:Addr×Obj}(hp:p∈iY fp h):p.1∈fp/\h.get? p.1=some p.2:=by
 obtain⟨b,hb,e⟩:=List.mem_filterMap.mp hp;cases q:h.get? b with
 |none=>rw[q]at e;cases e
 |some o=>
  rw[q]at e
  have e':(b,o)=p:=Option.some.inj e
  subst e'
  exact⟨hb,q⟩
theorem Inv.pinned{pins:List (Addr×Obj)}{σ:St}{H:Hp}{s:Shared}{fp:List Addr}(I:Inv X pins σ H s)(hf:∀b∈fp,eA X pins H b)(ho:∀b∈fp,∃o,s.heap.get? b=some o/\∀v,o.data≠.cell v):Inv X (pins++iY fp s.heap) σ H s:=
 I.oX fun p hp=>(List.mem_append.mp hp).elim (fun z=>I.pin p (List.mem_append_right _ z)) fun z=>by
  obtain⟨hb,e⟩:=qG z
  obtain⟨f0,f1,f2,_⟩:=hf p.1 hb
  obtain⟨o,e',d⟩:=ho p.1 hb
  rw[e]at e';cases e'
  exact⟨e,f0,f1,f2,d⟩
theorem Inv.gk{pins pl:List (Addr×Obj)}{σ:St}{H:Hp}{s:Shared}(I:Inv X (pins++pl) σ H s):Inv X pins σ H s:=I.oX fun p hp=>I.pin p (List.mem_append_right _ (List.mem_append_left _ hp))
theorem rA{iter:Expr}{body:List Stmt}{wi:TI}{g:TG}{tb:TS}{pos:Pos}(hp:PassesOwn (model X.prog X.w) X.A X.env X.xe)(hc:X.calm=true)(hi:PI X tg iter wi)(hg:PG X tg g)(hb:PSs X body tb)
 (hs:∀x,foldedSetIterable iter X.env x=pure x:=by intro _;rfl):PS X (.For tg iter body [] pos) (zM wi g tb):=by
 intro pins s σ H D I h
 refine wpAny_For (thn (hi pins s σ H _ I h) fun v s1 h1=>thn h1 fun itv s2 h2=>?_) hs
 obtain⟨it,fp,tn,J,H2,e,I2,T,st2,f2,W,⟨m0,w0⟩,turn⟩:=h2
 subst e
 have stat:∀{H':Hp},(∀b∈fp,H' b=none)->∀b∈fp,eA X pins H' b:=fun hn b hb=>⟨hn b hb,(f2 b hb).2⟩
 refine codeAny_forLoop_any (fun n s'=>∃i σ' H',Inv X pins σ' H' s'/\tn i s'.heap/\(∀b∈fp,H' b=none)/\W i n σ' H') ?_ m0 ⟨0,σ,H2,I2,st2,fun b hb=>(f2 b hb).1,w0⟩
 rintro n s3 ⟨i,σ3,H3,I3,st3,fr3,w3⟩
 rcases turn i n σ3 H3 w3 with⟨stop,qn⟩|⟨go,N,hN,step⟩
 ·refine wpAny_passesOwn hp (thn (T.done X rfl rfl rfl hc i pins s3 σ3 H3 X.xe I3 (stat fr3) st3 stop) fun r s4 zz38_0=>?_)
  obtain⟨hr,I4⟩:=zz38_0
  subst hr
  exact wpAny_execs_nil ⟨σ3,H3,I4,qn⟩
 ·refine wpAny_passesOwn hp (thn (T.item X rfl rfl rfl hc i pins s3 σ3 H3 X.xe I3 (stat fr3) st3 go) fun r s4 zz39_0=>?_)
  obtain⟨u,hr,h4⟩:=zz39_0
  subst hr
  refine wpAny_passesOwn hp (thn h4 fun _ s5 zz40_0=>?_)
  obtain⟨x,H5,I5,r5,y5,st5,fr5⟩:=zz40_0
  have I5':=I5.pinned (stat fr5) (T.obj _ _ st5)
  refine wpAny_passesOwn hp (thn (hg _ s5 σ3 H5 x u _ I5' r5 (step x H5 y5)) fun _ s6 zz41_0=>?_)
  obtain⟨σ6,H6,I6,q6⟩:=zz41_0
  refine wpAny_passesOwn hp (thn (hb _ s6 σ6 H6 _ I6 q6) fun f s7 q7=>?_)
  have again:∀{σ7:St} {H7:Hp},Inv X (pins++iY fp s5.heap) σ7 H7 s7->N σ7 H7->∃m,m<n/\∃i σ' H',Inv X pins σ' H' s7/\tn i s7.heap/\(∀b∈fp,H' b=none)/\W i m σ' H':=fun{σ7 H7} I7 n7=>by
   obtain⟨m',hm,w7⟩:=hN σ7 H7 n7
   refine⟨m',hm,i+1,σ7,H7,I7.gk,T.keep _ _ _ st5 fun b hb o e=>(I7.pin (b,o) (List.mem_append_right _ (List.mem_append_right _ (dG hb e)))).1,fun b hb=>?_,w7⟩
   obtain⟨o,e,d⟩:=T.obj _ _ st5 b hb
   exact(I7.pin (b,o) (List.mem_append_right _ (List.mem_append_right _ (dG hb e)))).2.1
  cases f with
  |next=>obtain⟨σ7,H7,I7,n7⟩:=q7;exact again I7 n7
  |cont=>obtain⟨σ7,H7,I7,n7⟩:=q7;exact again I7 n7
  |brk=>obtain⟨σ7,H7,I7,q7⟩:=q7;exact⟨σ7,H7,I7.gk,q7⟩
  |ret v=>obtain⟨x7,σ7,H7,I7,r7,q7⟩:=q7;exact⟨x7,σ7,H7,I7.gk,r7,q7⟩
end
theorem qe{lo:Int}{n:Nat}{g:TG}{tb:TS}{D:Ends}{σ:St}{H:Hp}(Pv:Nat->St->Hp->Prop)(h0:Pv 0 σ H)
 (hs:∀i σ H,i<n->Pv i σ H->g (.int (lo+i)) σ H fun σ2 H2=>tb { D with nx:=Pv (i+1),ct:=Pv (i+1),bk:=D.nx } σ2 H2) (hd:∀σ H,Pv n σ H->D.nx σ H) :
 ∃W:Nat->Nat->St->Hp->Prop,(∃m,W 0 m σ H)/\∀i m σ H,W i m σ H->
  ((Itr lo n).stop i H/\D.nx σ H)\/((Itr lo n).go i H/\∃N:St->Hp->Prop,(∀σ' H',N σ' H'->∃m',m'<m/\W (i+1) m' σ' H')/\∀x H',(Itr lo n).yld i H x H'->g x σ H' fun σ2 H2=>tb { D with nx:=N,ct:=N,bk:=D.nx } σ2 H2):=by
 refine⟨fun i m σ H=>m=n-i/\i<=n/\Pv i σ H,⟨n,by simp,Nat.zero_le _,h0⟩,?_⟩
 rintro i m σ H ⟨rfl,hi,p⟩
 by_cases hlt:i<n
 ·refine .inr ⟨hlt,Pv (i+1),fun σ' H' p'=>⟨n-(i+1),by omega,rfl,hlt,p'⟩,fun x H' y=>?_⟩
  obtain⟨e,y⟩:=y
  subst e y
  exact hs i σ _ hlt p
 ·have e:i=n:=by omega
  subst e
  exact .inl ⟨Nat.le_refl _,hd σ H p⟩
abbrev R2:=V->V->Hp->VK->Prop
def OpR(X:Cx)(f:Value->Value->Sem Value)(r:R2):Prop:=
 ∀(pins:List (Addr×Obj)) (s:Shared) (σ:St) (H:Hp) (x y:V) (v u:Value) (Q:VK),Inv X pins σ H s->RelV x v->RelV y u->r x y H Q->
  wpAny (model X.prog X.w) X.A (f v u) (EP X pins σ Q) X.xe s
def UnR(X:Cx)(f:Value->Sem Value)(r:V->Hp->VK->Prop):Prop:=
 ∀(pins:List (Addr×Obj)) (s:Shared) (σ:St) (H:Hp) (x:V) (v:Value) (Q:VK),Inv X pins σ H s->RelV x v->r x H Q->
  wpAny (model X.prog X.w) X.A (f v) (EP X pins σ Q) X.xe s
def bB(X:Cx)(f:Value)(r:List V->Hp->VK->Prop):Prop:=
 ∀(pins:List (Addr×Obj)) (s:Shared) (σ:St) (H:Hp) (xs:List V) (us:List Value) (Q:VK),Inv X pins σ H s->Vals xs us->r xs H Q->
  wpAny (model X.prog X.w) X.A (call f us) (EP X pins σ Q) X.xe s
def tOp(r:R2)(ta tb:TE):TE:=fun σ H Q=>ta σ H fun x H1=>tb σ H1 fun y H2=>r x y H2 Q
def tUn(r:V->Hp->VK->Prop)(ta:TE):TE:=fun σ H Q=>ta σ H fun x H1=>r x H1 Q
def rI(C:Int->Int->Prop)(g:Int->Int->V):R2:=fun x y H Q=>∃i j,x=.int i/\y=.int j/\C i j/\Q (g i j) H
def rI0(g:Int->Int->V):R2:=fun x y H Q=>∃i j,x=.int i/\y=.int j/\Q (g i j) H
def rU(g:Int->V):V->Hp->VK->Prop:=fun x H Q=>∃i,x=.int i/\Q (g i) H
section
variable{X:Cx}{a b c:Expr}{ta tb tc:TE}{pos:Pos}
theorem xn(ha:PE X a ta)(hb:PE X b tb){pins:List (Addr×Obj)}{s:Shared}{σ:St}{H:Hp}{R:V->V->Hp->Prop}(I:Inv X pins σ H s) (h:ta σ H fun x H1=>tb σ H1 fun y H2=>R x y H2) {Q:Value->Shared->Prop} {f:Value->Value->Sem Value} (hf:∀v u s2 x y H2,Inv X pins σ H2 s2->RelV x v->RelV y u->R x y H2->wpAny (model X.prog X.w) X.A (f v u) Q X.xe s2) : wpAny (model X.prog X.w) X.A (eval a X.env) (fun v s₁=>wpAny (model X.prog X.w) X.A (eval b X.env) (fun u s₂=>wpAny (model X.prog X.w) X.A (f v u) Q X.xe s₂) X.xe s₁) X.xe s:=by refine thn (ha pins s σ H _ I h) fun v s1 zz43_0=>?_;obtain⟨x,H1,I1,r1,q1⟩:=zz43_0;refine thn (hb pins s1 σ H1 _ I1 q1) fun u s2 zz44_0=>?_;obtain⟨y,H2,I2,r2,q2⟩:=zz44_0;exact hf v u s2 x y H2 I2 r1 r2 q2
theorem x9{op:Operator}{r:R2}(ho:OpR X (binaryOp op) r)(ha:PE X a ta)(hb:PE X b tb):PE X (.BinOp a op b pos) (tOp r ta tb):=by intro pins s σ H Q I h;exact wpAny_BinOp (xn ha hb I h fun v u s2 x y H2 I2 rx ry q=>ho pins s2 σ H2 x y v u Q I2 rx ry q)
theorem y8{op:UnaryOp}{r:V->Hp->VK->Prop}(ho:UnR X (unaryOp op) r)(ha:PE X a ta):PE X (.UnaryOp op a pos) (tUn r ta):=by intro pins s σ H Q I h;exact UnaryOp_ (thn (ha pins s σ H _ I h) fun v s1 zz45_0=>by obtain⟨x,H1,I1,r1,q1⟩:=zz45_0;exact(ho pins s1 σ H1 x v Q I1 r1 q1))
theorem opI{f:Value->Value->Sem Value}{C:Int->Int->Prop}{g:Int->Int->Int} (rule:∀(i j:Int) (t u:Tok) (s:Shared) (Q:Value->Shared->Prop) (E:Value->Shared->Prop),C i j->Q (.int (g i j) s.toks) { s with toks:=s.toks+1 }->wpAny (model X.prog X.w) X.A (f (.int i t) (.int j u)) Q E s) : OpR X f (rI C fun i j=>.int (g i j)):=by intro pins s σ H x y v u Q I rx ry h;obtain⟨i,j,rfl,rfl,hc,q⟩:=h;obtain⟨t,rfl⟩:=rx;obtain⟨t',rfl⟩:=ry;exact rule i j t t' s _ _ hc ⟨.int (g i j),H,I.tok _,⟨_,rfl⟩,q⟩
theorem yj{f:Value->Value->Sem Value}{g:Int->Int->Int} (rule:∀(i j:Int) (t u:Tok) (s:Shared) (Q:Value->Shared->Prop) (E:Value->Shared->Prop),Q (.int (g i j) s.toks) { s with toks:=s.toks+1 }->wpAny (model X.prog X.w) X.A (f (.int i t) (.int j u)) Q E s) : OpR X f (rI0 fun i j=>.int (g i j)):=by intro pins s σ H x y v u Q I rx ry h;obtain⟨i,j,rfl,rfl,q⟩:=h;obtain⟨t,rfl⟩:=rx;obtain⟨t',rfl⟩:=ry;exact rule i j t t' s _ _ ⟨.int (g i j),H,I.tok _,⟨_,rfl⟩,q⟩
theorem t9{f:Value->Value->Sem Value}{g:Int->Int->Bool} (rule:∀(i j:Int) (t u:Tok) (s:Shared) (Q:Value->Shared->Prop) (E:Value->Shared->Prop),Q (.bool (g i j)) s->wpAny (model X.prog X.w) X.A (f (.int i t) (.int j u)) Q E s) : OpR X f (rI0 fun i j=>.bl (g i j)):=by intro pins s σ H x y v u Q I rx ry h;obtain⟨i,j,rfl,rfl,q⟩:=h;obtain⟨t,rfl⟩:=rx;obtain⟨t',rfl⟩:=ry;exact rule i j t t' s _ _ ⟨.bl (g i j),H,I,rfl,q⟩
def yI(i j:Int):Prop:=0<=j/\j<=1000000/\i.natAbs<2^64
theorem xc:OpR X (binaryOp .Add) (rI0 fun i j=>.int (i+j)):=yj fun _ _ _ _ _ _ _ q=>add_int q
theorem vN:OpR X (binaryOp .Sub) (rI0 fun i j=>.int (i-j)):=yj fun _ _ _ _ _ _ _ q=>sub_int q
theorem uj:OpR X (binaryOp .Mod) (rI (fun _ j=>j≠0) fun i j=>.int (i.fmod j)):=opI fun _ _ _ _ _ _ _ hc q=>mod_int' hc q
theorem vV:OpR X (binaryOp .Pow) (rI yI fun i j=>.int (i^j.toNat)):=opI fun _ _ _ _ _ _ _ hc q=>pow_int_small hc.1 hc.2.1 hc.2.2 q
theorem unI{f:Value->Sem Value}{g:Int->Int} (rule:∀(i:Int) (t:Tok) (s:Shared) (Q:Value->Shared->Prop) (E:Value->Shared->Prop),Q (.int (g i) s.toks) { s with toks:=s.toks+1 }->wpAny (model X.prog X.w) X.A (f (.int i t)) Q E s) : UnR X f (rU fun i=>.int (g i)):=by intro pins s σ H x v Q I rx h;obtain⟨i,rfl,q⟩:=h;obtain⟨t,rfl⟩:=rx;exact rule i t s _ _ ⟨.int (g i),H,I.tok _,⟨_,rfl⟩,q⟩
theorem vB:UnR X (unaryOp .USub) (rU fun i=>.int (-i)):=unI fun _ _ _ _ _ q=>neg_int q
end
section
variable{X:Cx}{a b c:Expr}{ta tb tc:TE}{pos:Pos}
theorem y6:OpR X (compareOp .Lt) (rI0 fun i j=>.bl (decide (i<j))):=t9 fun _ _ _ _ _ _ _ q=>lt_int q
theorem xX:OpR X (compareOp .LtE) (rI0 fun i j=>.bl (decide (i<=j))):=t9 fun _ _ _ _ _ _ _ q=>le_int q
theorem yr:OpR X (compareOp .Gt) (rI0 fun i j=>.bl (decide (j<i))):=t9 fun _ _ _ _ _ _ _ q=>gt_int q
theorem xW:OpR X (compareOp .GtE) (rI0 fun i j=>.bl (decide (j<=i))):=t9 fun _ _ _ _ _ _ _ q=>ge_int q
theorem OpR.or{f:Value->Value->Sem Value}{r r':R2}(h:OpR X f r)(h':OpR X f r'):OpR X f (fun x y H Q=>r x y H Q\/r' x y H Q):=by
 intro pins s σ H x y v u Q I rx ry q;rcases q with q|q
 ·exact h pins s σ H x y v u Q I rx ry q
 ·exact h' pins s σ H x y v u Q I rx ry q
theorem rm(b:Expr){op:CmpOp}(h:op≠.In:=by decide)(h2:op≠.NotIn:=by decide):behindInMarks op b=false:=by
 have e1:(op==CmpOp.In)=false:=by cases op<;>first|rfl|exact absurd rfl h
 have e2:(op==CmpOp.NotIn)=false:=by cases op<;>first|rfl|exact absurd rfl h2
 cases b<;>simp[behindInMarks,e1,e2]
theorem um{op:CmpOp}{r:R2}(ho:OpR X (compareOp op) r)(ha:PE X a ta)(hb:PE X b tb)(hm:behindInMarks op b=false):PE X (.Compare a [op] [b] pos) (tOp r ta tb):=by intro pins s σ H Q I h;exact wpAny_Compare1 (xn ha hb I h fun v u s2 x y H2 I2 rx ry q=>ho pins s2 σ H2 x y v u Q I2 rx ry q) hm
def uY(t:TE):TT:=fun σ H Q=>t σ H fun x H'=>∃k,x=.bl k/\Q k H'
theorem uH{op:CmpOp}{r:R2}(ho:OpR X (compareOp op) r)(ha:PE X a ta)(hb:PE X b tb)(hm:behindInMarks op b=false):PT X (.Compare a [op] [b] pos) (uY (tOp r ta tb)):=by intro pins s σ H Q I h;refine wpAny_isTrue_Compare1 (thn (ha pins s σ H _ I h) fun v s1 ⟨x,H1,I1,r1,q1⟩=>thn (hb pins s1 σ H1 _ I1 q1) fun u s2 ⟨y,H2,I2,r2,q2⟩=>thn (ho pins s2 σ H2 x y v u _ I2 r1 r2 q2) fun c s3 ⟨z,H3,I3,r3,k,e,q3⟩=>?_) hm;subst e;cases r3;exact wpAny_truthy_bool ⟨H3,I3,q3⟩
def xg(r r':R2)(ta tb tc:TE):TE:=fun σ H Q=>ta σ H fun x H1=>tb σ H1 fun y H2=>r x y H2 fun z H3=>∃k,z=.bl k/\
 (if k=true then tc σ H3 fun w' H4=>r' y w' H4 Q else Q (.bl false) H3)
theorem rT{op op':CmpOp}{r r':R2}(ho:OpR X (compareOp op) r)(ho':OpR X (compareOp op') r')(ha:PE X a ta)(hb:PE X b tb)(hc:PE X c tc) (hm:lastMarks [op,op'] [b,c]=false:=by with_unfolding_all rfl):PE X (.Compare a [op,op'] [b,c] pos) (xg r r' ta tb tc):=by
 intro pins s σ H Q I h;refine Compare_chain (thn (ha pins s σ H _ I h) fun v s1 ⟨x,H1,I1,r1,q1⟩=>chain_link (thn (hb pins s1 σ H1 _ I1 q1) fun u s2 ⟨y,H2,I2,r2,q2⟩=>thn (ho pins s2 σ H2 x y v u _ I2 r1 r2 q2) fun d s3 ⟨z,H3,I3,r3,k,e,q3⟩=>?_)) hm;subst e;cases r3;refine wpAny_truthy_bool ?_;cases k with
 |false=>exact ite_ff ⟨.bl false,H3,I3,rfl,q3⟩
 |true=>exact ite_tt (chain_last (thn (hc pins s3 σ H3 _ I3 q3) fun w' s4 zz46_0=>by obtain⟨z',H4,I4,r4,q4⟩:=zz46_0;exact(ho' pins s4 σ H4 y z' u w' Q I4 r2 r4 q4)))
theorem je:(sizeLine:Nat)<2^63:=by rw[sizeLine_eq];decide
theorem vals1{x:V}{us:List Value}(r:Vals [x] us):∃u,us=[u]/\RelV x u:=by
 cases r with
 |cons r1 r2=>cases r2;exact⟨_,rfl,r1⟩
theorem vals2{x y:V}{us:List Value}(r:Vals [x,y] us):∃u w',us=[u,w']/\RelV x u/\RelV y w':=by
 cases r with
 |cons r1 r2=>
  cases r2 with
  |cons r3 r4=>cases r4;exact⟨_,_,rfl,r1,r3⟩
theorem rl:bB X (.builtin "abs") (fun xs H Q=>∃i,xs=[.int i]/\Q (.int (if i<0 then -i else i)) H):=by intro pins s σ H xs us Q I r h;obtain⟨i,rfl,q⟩:=h;obtain⟨u,rfl,t,rfl⟩:=vals1 r;exact call_abs_int fun u tk=>⟨.int (if i<0 then -i else i),H,I.tok _,⟨_,rfl⟩,q⟩
theorem pR(hc:X.calm=true):bB X (.builtin "max") (fun xs H Q=>∃i j,xs=[.int i,.int j]/\Q (.int (if j>i then j else i)) H):=by
 intro pins s σ H xs us Q I r h;obtain⟨i,j,rfl,q⟩:=h;obtain⟨u,w',rfl,⟨t,rfl⟩,⟨t',rfl⟩⟩:=vals2 r;refine max_two_ints (I.ok.hd hc) fun h' tk k=>⟨_,H,I.kept k,?_,q⟩;by_cases hj:j>i
 ·rw[if_pos hj,if_pos hj];exact⟨_,rfl⟩
 ·rw[if_neg hj,if_neg hj];exact⟨_,rfl⟩
theorem qF(hc:X.calm=true):bB X (.builtin "min") (fun xs H Q=>∃i j,xs=[.int i,.int j]/\Q (.int (if j<i then j else i)) H):=by
 intro pins s σ H xs us Q I r h;obtain⟨i,j,rfl,q⟩:=h;obtain⟨u,w',rfl,⟨t,rfl⟩,⟨t',rfl⟩⟩:=vals2 r;refine min_two_ints (I.ok.hd hc) fun h' tk k=>⟨_,H,I.kept k,?_,q⟩;by_cases hj:j<i
 ·rw[if_pos hj,if_pos hj];exact⟨_,rfl⟩
 ·rw[if_neg hj,if_neg hj];exact⟨_,rfl⟩
theorem qD:bB X (.type "int") (fun xs H Q=>(∃i,xs=[.int i]/\Q (.int i) H)\/∃k,xs=[.bl k]/\Q (.int (if k then 1 else 0)) H):=by
 intro pins s σ H xs us Q I r h;rcases h with⟨i,rfl,q⟩|⟨k,rfl,q⟩
 ·obtain⟨u,rfl,t,rfl⟩:=vals1 r;exact call_int_int ⟨.int i,H,I,⟨_,rfl⟩,q⟩
 ·obtain⟨u,rfl,r1⟩:=vals1 r;cases r1;exact call_int_bool ⟨.int (if k then 1 else 0),H,I.tok _,⟨_,rfl⟩,q⟩
end
theorem jZ{h:Heap}{dx:Addr}{mA:Str->Option Value}(n:h.Ns1 dx mA):∃od,h.get? dx=some od/\∀name,PySem.W.lookIn name od=some (mA name):=by
 obtain⟨o,es,ep,ho,hd,hk,_,hm⟩:=n;refine⟨o,ho,fun name=>?_⟩;have e:=hm name;unfold nsFind findBy at e;rw[<-Array.find?_toList]at e;unfold PySem.W.lookIn;rw[hd];dsimp only;split
 ·rename_i y q;rw[q]at e;exact congrArg some e
 ·rename_i q;rw[q]at e;have a:es.toList.any (·.refKey)=false:=by rw[List.any_eq_false];intro y hy;obtain⟨z,t,hkey⟩:=hk y (Array.mem_toList_iff.mp hy);simp[DictEntry.refKey,hkey]
  have a':¬es.toList.any (·.refKey)=true:=by rw[a];exact Bool.false_ne_true
  rw[if_neg a'];exact congrArg some e
section
variable{prog:Program}{w:World}{A:Around}{E:Value->Shared->Prop}{s:Shared}{K:PySem.W.Frag}{x dx C f:Addr}{mA:Str->Option Value}{name:Str}{v:Value}
end
def gf(f:Str)(v:V):List (Str×V)->List (Str×V)
 |[]=>[(f,v)]
 |(g,x)::r=>if g=f then(g,v)::r else(g,x)::gf f v r
theorem gZ(f g:Str)(v:V):∀fs:List (Str×V),(gf f v fs).lookup g=if g=f then some v else fs.lookup g
 |[]=>by
  show List.lookup g [(f,v)]=_
  by_cases h:g=f
  ·have hb:(g==f)=true:=beq_iff_eq.mpr h
   simp only[List.lookup,hb,if_pos h]
  ·have hb:(g==f)=false:=beq_eq_false_iff_ne.mpr h
   simp only[List.lookup,hb,if_neg h]
 |(k,x)::r=>by
  have ih:=gZ f g v r
  rw[show gf f v ((k,x)::r)=(if k=f then(k,v)::r else(k,x)::gf f v r)from rfl]
  by_cases hk:k=f
  ·rw[if_pos hk]
   by_cases h:g=k
   ·have hb:(g==k)=true:=beq_iff_eq.mpr h
    simp only[List.lookup,hb,if_pos (h.trans hk)]
   ·have hb:(g==k)=false:=beq_eq_false_iff_ne.mpr h
    simp only[List.lookup,hb,if_neg (fun e:g=f=>h (e.trans hk.symm))]
  ·rw[if_neg hk]
   by_cases h:g=k
   ·have hb:(g==k)=true:=beq_iff_eq.mpr h
    simp only[List.lookup,hb,if_neg (fun e:g=f=>hk (h.symm.trans e))]
   ·have hb:(g==k)=false:=beq_eq_false_iff_ne.mpr h
    simp only[List.lookup,hb]
    exact ih
theorem gG(f:Str)(v:V):∀fs:List (Str×V),f∈(gf f v fs).map (·.1)/\∀g,g∈fs.map (·.1)->g∈(gf f v fs).map (·.1)
 |[]=>⟨by simp[gf],fun g h=>by simp at h⟩
 |(k,x)::r=>by
  obtain⟨i1,i2⟩:=gG f v r
  rw[show gf f v ((k,x)::r)=(if k=f then(k,v)::r else(k,x)::gf f v r)from rfl]
  by_cases hk:k=f
  ·rw[if_pos hk]
   subst hk
   exact⟨by simp,fun g h=>by simpa using h⟩
  ·rw[if_neg hk]
   refine⟨?_,fun g h=>?_⟩
   ·rw[List.map_cons]
    exact List.mem_cons_of_mem _ i1
   ·rw[List.map_cons]at h ⊢
    rcases List.mem_cons.mp h with e|e
    ·exact List.mem_cons.mpr (.inl e)
    ·exact List.mem_cons_of_mem _ (i2 g e)
theorem ml.some_of{v:V}{o:Option Value}(r:ml (some v) o):∃u,o=some u/\RelV v u:=by
 cases o with
 |none=>exact(show False from r).elim
 |some u=>exact⟨u,rfl,r⟩
theorem qc{v:V}{u:Value}(r:RelV v u):PySem.W.handedIn u=true:=by
 cases v with
 |non=>cases (show u=Value.none from r);rfl
 |bl b=>cases (show u=Value.bool b from r);rfl
 |int i=>obtain⟨t,e⟩:=(show ∃t,u=Value.int i t from r);cases e;rfl
 |str x=>obtain⟨t,e⟩:=(show ∃t,u=Value.str x t from r);cases e;rfl
 |byt b=>obtain⟨t,e⟩:=(show ∃t,u=Value.bytes b t from r);cases e;rfl
 |flt b=>obtain⟨t,e⟩:=(show ∃t,u=Value.float b t from r);cases e;rfl
 |ref a=>cases (show u=Value.ref a from r);rfl
 |ty n=>cases (show u=Value.type n from r);rfl
section
variable{P:Program}{w:World}{H H':Hp}{h h':Heap}{a C dx:Addr}{fs fs':List (Str×V)}
end
section
variable{X:Cx}{pins:List (Addr×Obj)}{σ:St}{H:Hp}{s:Shared}{a C dx:Addr}{fs:List (Str×V)}{f:Str}{v:V}{A:Around}{E:Value->Shared->Prop}
theorem tE{prog:Program}{w:World}{env:Env}{e:Expr}{f:Str}{pos:Pos}{s:Shared}{Q:Value->Shared->Prop}(hb:attributeBase e f env (eval e env)=eval e env) (h:wpAny (model prog w) A (eval e env) (fun o s₁=>wpAny (model prog w) A (getAttr o f true) Q E s₁) E s):wpAny (model prog w) A (eval (.Attribute e f pos) env) Q E s:=Attribute_any_ h (by rw[arm_eval_Attribute,hb])
end
section
variable{X:Cx}{o e value:Expr}{f:Str}{pos pos' tpos:Pos}{ta tv:TE}
end
section
variable{X:Cx}{pins:List (Addr×Obj)}{σ:St}{H:Hp}{s:Shared}{A:Around}{E:Value->Shared->Prop}{Q:Value->Shared->Prop}{c:Value}{b:Bool}
end
structure Room(k:Nat)(A:Around):Prop where
 hd:A.handled=none
 dp:A.depth+3*k+5<recursionLimit
 un:A.units+16*k+200<cLine
theorem Room.mono{j k:Nat}{A:Around}(r:Room k A)(h:j<=k):Room j A:=⟨r.hd,by have:=r.dp;omega,by have:=r.un;omega⟩
theorem Room.deeper{k:Nat}{A:Around}(r:Room (k+1) A)(env:Env):Room k (A.deeper env):=⟨r.hd,by have:=r.dp;show A.depth+1+3*k+5<_;omega,by have:=r.un;show A.units+3+16*k+200<_;omega⟩
theorem n4{A:Around}{C:Addr}{us:List Value}{kw:List (Str×Value)}:(A.under (.builtin "type.__call__" ⟨.ref C::us,kw⟩)).depth=A.depth+1:=by first|rfl|simp[Around.under,Code.weight,Code.isCreation,Code.isGuard,Code.isCaller,Code.frames,Code.isFrame,guardIds]
theorem mX{A:Around}{C:Addr}{us:List Value}{kw:List (Str×Value)}:(A.under (.builtin "type.__call__" ⟨.ref C::us,kw⟩)).units=A.units+1:=by first|rfl|simp[Around.under,Code.cUnits,Code.frames,Code.isFrame]
theorem Room.make{k:Nat}{A:Around}(r:Room (k+1) A)(C:Addr)(us:List Value)(kw:List (Str×Value)):Room k (A.under (.builtin "type.__call__" ⟨.ref C::us,kw⟩)):=⟨r.hd,by have:=r.dp;rw[n4];omega,by have:=r.un;rw[mX];omega⟩
theorem Room.depth{k:Nat}{A:Around}(r:Room k A):A.depth<recursionLimit:=by have:=r.dp;omega
theorem Room.units{k:Nat}{A:Around}(r:Room k A):A.units+64<cLine:=by have:=r.un;omega
def wx:TA:=fun _ H Q=>Q [] H
def mr(ta:TE)(tr:TA):TA:=fun σ H Q=>ta σ H fun x H1=>tr σ H1 fun xs H2=>Q (x::xs) H2
section
variable{X:Cx}{e:Expr}{es:List Expr}{te:TE}{t:TA}{pos:Pos}
theorem nN:PA X [] wx:=fun _ _ _ _ H Q I h=>Calls.spliced_nil ⟨[],H,I,.nil,h⟩
theorem gj(ha:PE X e te)(hr:PA X es t)(hs:starEach (e::es) X.env=(false,eval e X.env)::starEach es X.env:=by rfl):PA X (e::es) (mr te t):=by intro pos pins s σ H Q I h;rw[hs];show wpAny _ _ (spliced ((false,eval e X.env)::backTo pos (starEach es X.env))) _ _ s;refine Calls.spliced_cons (thn (ha pins s σ H _ I h) fun u s1 zz55_0=>?_);obtain⟨x,H1,I1,r1,q1⟩:=zz55_0;exact thn (hr pos pins s1 σ H1 _ I1 q1) fun us s2 zz56_0=>by obtain⟨xs,H2,I2,r2,q2⟩:=zz56_0;exact(⟨x::xs,H2,I2,.cons r1 r2,q2⟩)
def zZ(t:TA):TE:=fun σ H Q=>t σ H fun xs H1=>xs.length<=sizeLine/\∀p,H1 p=none->Q (.ref p) (upd H1 p (.tup xs))
def zw(t:TA):TE:=fun σ H Q=>t σ H fun xs H1=>xs.length<=sizeLine/\∀p,H1 p=none->Q (.ref p) (upd H1 p (.lst xs))
theorem vO{x1}(h:PA X es t):PE X (.Tuple es x1 pos) (zZ t):=by intro pins s σ H Q I hq;refine wpAny_Tuple_spliced (thn (h pos pins s σ H _ I hq) fun us s1 ⟨xs,H1,I1,r,z,q⟩=>⟨by rw[<-r.length];exact z,?_⟩);have hf:H1 s1.heap.objs.size=none:=I1.hok.fresh (Nat.le_refl _);refine⟨.ref s1.heap.objs.size,upd H1 s1.heap.objs.size (.tup xs),I1.laid (t':=s1.toks) (fun b u e=>Heap.get?_push_of_some _ e) (Nat.le_refl _) ?_,rfl,q _ hf⟩;exact⟨z,us,r,⟨_,Heap.get?_push_size _ rfl,rfl,_,rfl⟩⟩
theorem vS(h:PA X es t):PE X (.List es pos) (zw t):=by intro pins s σ H Q I hq;refine wpAny_List_spliced (thn (h pos pins s σ H _ I hq) fun us s1 ⟨xs,H1,I1,r,z,q⟩=>⟨by rw[<-r.length];exact z,?_⟩);have hf:H1 s1.heap.objs.size=none:=I1.hok.fresh (Nat.le_refl _);refine⟨.ref s1.heap.objs.size,upd H1 s1.heap.objs.size (.lst xs),I1.laid (t':=s1.toks) (fun b u e=>Heap.get?_push_of_some _ e) (Nat.le_refl _) ?_,rfl,q _ hf⟩;exact⟨z,us,0,r,Heap.get?_push_size _ rfl⟩
end
abbrev Sp:=List V->Hp->VK->XK->Prop
abbrev CXT:=List Env->Hp->Shared->XK->Value->Shared->Prop
structure Env0(P:Program)(w:World)(K:PySem.W.Frag)(mg:Str->Option Value)(base:Heap)(A:Around)(outer:List Env)(s:Shared)(H:Hp):Prop where
 frames:A.frames=some outer
 mod:Mod K mg base
 bs:∀b o,base.get? b=some o->s.heap.get? b=some o/\H b=none
 bsz:base.objs.size<=s.heap.objs.size
 gm:s.heap.FunFrames base outer
 frf:∀b∈frs outer,H b=none
 hok:HOk P w H s.heap
 bare:AllBare s.gens
def CE(outer:List Env)(P:Program)(w:World)(H:Hp)(s:Shared)(Q:VK)(u:Value)(s':Shared):Prop:=
 ∃v H',s'.os=s.os/\AllBare s'.gens/\Un (frs outer) [] H H' s.heap s'.heap/\HOk P w H' s'.heap/\RelV v u/\Q v H'
def CR(CX:CXT)(outer:List Env)(P:Program)(w:World)(H:Hp)(s:Shared)(Q:VK)(E:XK)(r:Result)(s':Shared):Prop:=
 match r with
 |.ok (.ret u)=>CE outer P w H s Q u s'
 |.ok _=>False
 |.error e=>CX outer H s E e s'
structure FnOk(P:Program)(w:World)(K:PySem.W.Frag)(mg:Str->Option Value)(base:Heap)(CX:CXT)(k:Nat)(f:Addr)(fd:FuncData)(ps:List Str)(sp:Sp):Prop where
 len:∀vs H Q E,sp vs H Q E->vs.length=ps.length
 run:∀(A:Around) (outer:List Env) (s:Shared) (H:Hp) (args:Args) (us:List Value) (vs:List V) (Q:VK) (E:XK),Room k A->Env0 P w K mg base A outer s H->BindsTo s fd args (ps.zip us)->Vals vs us->sp vs H Q E->
  codeAny (model P w) A (.call (.ref f) args) (CR CX outer P w H s Q E) s
theorem FnOk.mono{P:Program}{w:World}{K:PySem.W.Frag}{mg:Str->Option Value}{base:Heap}{CX:CXT}{j k:Nat}{f:Addr}{fd:FuncData}{ps:List Str}{sp:Sp}(F:FnOk P w K mg base CX j f fd ps sp)(h:j<=k) : FnOk P w K mg base CX k f fd ps sp:=⟨F.len,fun A outer s H args us vs Q E hr=>F.run A outer s H args us vs Q E (hr.mono h)⟩
theorem Env0.make{P:Program}{w:World}{K:PySem.W.Frag}{mg:Str->Option Value}{base:Heap}{A:Around}{outer:List Env}{s:Shared}{H:Hp}(e:Env0 P w K mg base A outer s H)(C:Addr)(us:List Value)(kw:List (Str×Value)) : Env0 P w K mg base (A.under (.builtin "type.__call__" ⟨.ref C::us,kw⟩)) outer s H:=⟨by first|exact e.frames|(simpa[Around.under,Code.envs,Code.isFrame,pushEnvs]using e.frames),e.mod,e.bs,e.bsz,e.gm,e.frf,e.hok,e.bare⟩
section
variable{X:Cx}{pins:List (Addr×Obj)}{σ:St}{H:Hp}{s s':Shared}
theorem Inv.xa(I:Inv X pins σ H s):Env0 X.prog X.w X.K X.mg X.base X.A X.stack s H:=⟨I.ok.frames,I.ok.mod,I.bs,Nat.le_trans I.ok.bsz I.sz,I.stack,I.eV,I.hok,I.bare⟩
theorem Inv.after{Q:VK}{u:Value}(I:Inv X pins σ H s)(h:CE X.stack X.prog X.w H s Q u s'):EP X pins σ Q u s':=by obtain⟨v,H',os,bare,un,hok,r,q⟩:=h;obtain⟨hh,g,d,t,os'⟩:=s';obtain rfl:os'=s.os:=os;exact⟨v,H',I.call (h':=hh) (g':=g) (d':=d) (t':=t) (ch:=[]) un hok bare (fun b z=>absurd z (by simp)),r,q⟩
end
def ye(sp:Sp)(dvs:List V)(E:XK)(t:TA):TE:=fun σ H Q=>t σ H fun vs H1=>sp (vs++dvs) H1 Q E
def Binds(K:PySem.W.Frag)(fd:FuncData)(ps:List Str)(ds:List Value):Prop:=
 ∀(s:Shared) (us:List Value),K.In s.heap->(us++ds).length=ps.length->BindsTo s fd ⟨us,[]⟩ (ps.zip (us++ds))
theorem Binds.all{K:PySem.W.Frag}{fd:FuncData}{ps:List Str}(h:∀us:List Value,us.length=ps.length->bindArgs fd ⟨us,[]⟩=pure (ps.zip us)):Binds K fd ps []:=fun s us _ hl=>by rw[List.append_nil]at hl ⊢;exact .of_eq (h us hl)
def Passes(CX:CXT)(X:Cx)(E:XK):Prop:=∀(pins:List (Addr×Obj)) (σ:St) (H:Hp) (s:Shared) (e:Value) (s':Shared),Inv X pins σ H s->CX X.stack H s E e s'->X.xe e s'
section
variable{X:Cx}{CX:CXT}{k:Nat}{f C:Addr}{fd:FuncData}{ps:List Str}{sp:Sp}{dvs:List V}{ds:List Value}{E:XK}{x m:Str}{p pos apos:Pos}{e o:Expr}{es:List Expr}{ta:TE}{t:TA}
theorem xj{pins:List (Addr×Obj)}{σ:St}{H:Hp}{s:Shared}{Q:VK}{us:List Value}{vs:List V}(F:FnOk X.prog X.w X.K X.mg X.base CX k f fd ps sp)(hr:Room k X.A)(hb:Binds X.K fd ps ds)(hd:Vals dvs ds)(hx:Passes CX X E)
 (I:Inv X pins σ H s) (r:Vals vs us) (h:sp (vs++dvs) H Q E):wpAny (model X.prog X.w) X.A (call (.ref f) us) (EP X pins σ Q) X.xe s:=by
 have r2:Vals (vs++dvs) (us++ds):=r.append hd
 have hl:(us++ds).length=ps.length:=by rw[<-r2.length];exact F.len _ _ _ _ h
 refine wpAny_call (codeAny_mono (F.run X.A X.stack s H ⟨us,[]⟩ (us++ds) (vs++dvs) Q E hr I.xa (hb s us I.kIn hl) r2 h) fun r s' hq=>?_)
 cases r with
 |error e=>exact hx pins σ H s e s' I hq
 |ok fl=>
  cases fl with
  |ret u=>exact I.after hq
  |next=>exact False.elim hq
  |brk=>exact False.elim hq
  |cont=>exact False.elim hq
theorem uG(F:FnOk X.prog X.w X.K X.mg X.base CX k f fd ps sp)(hr:Room k X.A)(hg:Gl X x)(hm:X.mg x=some (.ref f))(hk:PySem.W.keepIn X.K (.ref f)=true)(hb:Binds X.K fd ps ds)(hd:Vals dvs ds)(hx:Passes CX X E) (ha:PA X (e::es) t) (hdb:(x==("__debug__":Str))=false:=by decide) (he:starEach (e::es) X.env=(false,eval e X.env)::starEach es X.env:=by rfl) (hpl:(backTo pos (starEach es X.env)).any (·.1)=false:=by rfl) : PE X (.Call (.Name x p) (e::es) [] pos) (ye sp dvs E t):=by intro pins s σ H Q I h;refine wpAny_Call_Name_kw (eY I hg hm ?_ hdb);refine PySem.W.callWith_K (h₀:=X.base) I.ok.mod.kin hk (thn (ha pos pins s σ H _ I h) fun us s1 ⟨vs,H1,I1,r,q⟩=>⟨I1.kIn,?_⟩) he hpl;exact xj F hr hb hd hx I1 r q
end
section
variable{X:Cx}{CX:CXT}{k:Nat}{f C:Addr}{fd:FuncData}{ps ks:List Str}{sp:Sp}{E:XK}{x m:Str}{p pos apos kpos:Pos}{e o:Expr}{es:List Expr}{kws:List Keyword}{te ta:TE}{t tk:TA}{nm:Option Str}
variable{g:List Value->List Value->List Value}{gV:List V->List V->List V}
end
structure FnScope(N P:List Str)(sc:Scope):Prop where
 kind:sc.kind=.function
 co:sc.isCoroutine=false
 gen:sc.isGenerator=false
 nd:N.Nodup
 pre:N.take P.length=P
 par:∀x∈P,sc.names.lookup x=some .local\/sc.names.lookup x=some .cell
 nofree:∀y∈sc.names,y.2≠.free
theorem jM{kindOf:Str->Option NameKind}{x:Str}:∀{binds:List (Str×Value)} {m:Str->Option Value},(∀v,(x,v)∉binds)->bindL kindOf binds m x=m x
 |[],_,_=>rfl
 |(n,v)::r,m,h=>by
  unfold bindL
  rw[jM fun w hw=>h w (List.mem_cons_of_mem _ hw)]
  split
  ·have:x≠n:=by rintro rfl;exact h v List.mem_cons_self
   simp[this]
  ·rfl
theorem jH{kindOf:Str->Option NameKind}{x:Str}:∀{binds:List (Str×Value)} {m:Str->Option Value},(∀v,(x,v)∉binds)->bindC kindOf binds m x=m x
 |[],_,_=>rfl
 |(n,v)::r,m,h=>by
  unfold bindC
  rw[jH fun w hw=>h w (List.mem_cons_of_mem _ hw)]
  split
  ·rfl
  ·have:x≠n:=by rintro rfl;exact h v List.mem_cons_self
   simp[this]
theorem jF{kindOf:Str->Option NameKind}{x:Str}{v:Value}:∀{P:List Str} {vs:List Value} {i:Nat} {m:Str->Option Value},P.Nodup->P[i]?=some x->vs[i]?=some v->kindOf x=some .local->
 bindL kindOf (P.zip vs) m x=some v
 |[],_,_,_,_,h,_,_=>by simp at h
 |_::_,[],_,_,_,_,h,_=>by simp at h
 |p::P,w::vs,0,m,nd,h1,h2,hk=>by
  simp at h1 h2;subst h1;subst h2
  show bindL kindOf ((p,w)::P.zip vs) m p=_
  unfold bindL
  rw[jM fun v hv=>(List.nodup_cons.mp nd).1 (List.of_mem_zip hv).1,if_pos hk]
  simp
 |p::P,w::vs,i+1,m,nd,h1,h2,hk=>by
  show bindL kindOf ((p,w)::P.zip vs) m x=_
  unfold bindL
  exact jF (i:=i) (List.nodup_cons.mp nd).2 (by simpa using h1) (by simpa using h2) hk
theorem jJ{kindOf:Str->Option NameKind}{x:Str}{v:Value}:∀{P:List Str} {vs:List Value} {i:Nat} {m:Str->Option Value},P.Nodup->P[i]?=some x->vs[i]?=some v->kindOf x≠some .local->
 bindC kindOf (P.zip vs) m x=some v
 |[],_,_,_,_,h,_,_=>by simp at h
 |_::_,[],_,_,_,_,h,_=>by simp at h
 |p::P,w::vs,0,m,nd,h1,h2,hk=>by
  simp at h1 h2;subst h1;subst h2
  show bindC kindOf ((p,w)::P.zip vs) m p=_
  unfold bindC
  rw[jH fun v hv=>(List.nodup_cons.mp nd).1 (List.of_mem_zip hv).1,if_neg hk]
  simp
 |p::P,w::vs,i+1,m,nd,h1,h2,hk=>by
  show bindC kindOf ((p,w)::P.zip vs) m x=_
  unfold bindC
  exact jJ (i:=i) (List.nodup_cons.mp nd).2 (by simpa using h1) (by simpa using h2) hk
def start(N:List Str)(vs:List V):St:=vs.map some++List.replicate (N.length-vs.length) none
def aU(CX:CXT)(P:Program)(w:World)(K:PySem.W.Frag)(mg:Str->Option Value)(base:Heap)(N:List Str)(qual:Str)(scope:Scope)(f:Addr)(cd:Value)(A:Around)(outer:List Env)(s:Shared)(H:Hp)(E:XK):Cx where
 prog:=P
 w:=w
 K:=K
 mg:=mg
 base:=base
 A:=A.deeper (envOfC qual scope s.heap.objs.size f cd)
 N:=N
 s₀:=s
 H₀:=H
 env:=envOfC qual scope s.heap.objs.size f cd
 outer:=outer
 stack:=envOfC qual scope s.heap.objs.size f cd::outer
 ex:=[]
 calm:=true
 fn:=fun _=>true
 pn:=[]
 xe:=fun e s'=>wpAny (model P w) (A.deeper (envOfC qual scope s.heap.objs.size f cd)) (leaving (envOfC qual scope s.heap.objs.size f cd) e) (fun _ s''=>CX outer H s E e s'') (fun e' s''=>CX outer H s E e' s'') s'
theorem iE{sc:Scope}{n:Nat}{x:Str}(h:sc.names.lookup x=some .cell):∃c,(cellsFrom n sc.names []).lookup x=some c:=by have q:=PySem.W.cellsFrom_some sc.names n [] (.inl h);exact Option.isSome_iff_exists.mp q
theorem qv{CX:CXT}{P:Program}{w:World}{K:PySem.W.Frag}{mg:Str->Option Value}{base:Heap}{N ps:List Str}{qual:Str}{scope:Scope}{f:Addr}{cd:Value}{A:Around}{outer:List Env}{s s1:Shared}{H:Hp}{E:XK}{us:List Value}{vs:List V}
 (S:FnScope N ps scope) (hd:A.handled=none) (e0:Env0 P w K mg base A outer s H) (hl:vs.length=ps.length) (r:Vals vs us)
 (x:InCallC s s.heap.objs.size (bindL (envOfC qual scope s.heap.objs.size f cd).kindOf (ps.zip us) fun _=>none) (cellsFrom (s.heap.objs.size+1) scope.names []) (bindC (envOfC qual scope s.heap.objs.size f cd).kindOf (ps.zip us) fun _=>none) s1) :
 Inv (aU CX P w K mg base N qual scope f cd A outer s H E) [] (start N vs) H s1:=by
 have hpl:ps.length<=N.length:=by have:=congrArg List.length S.pre;rw[List.length_take]at this;omega
 obtain⟨h1,tk,rfl,hk⟩:=x.done
 have noA:∀b:Addr,b∉(aU CX P w K mg base N qual scope f cd A outer s H E).ex:=fun b z=>absurd (show b∈([]:List Addr)from z) (by simp)
 refine⟨⟨e0.mod,S.kind,rfl,rfl,Nat.le_refl _,fun y z c h1 h2=>?_,fun y hy=>?_,fun y c _ h=>?_,fun _=>hd,Around.frames_deeper e0.frames,.inr ⟨rfl,rfl⟩,fun b z=>absurd z (noA b),e0.bs,e0.bsz,fun b _ _=>noA b,fun b z=>absurd z (noA b),e0.gm,e0.frf⟩,
  rfl,e0.bare,Un.kept hk,⟨_,x.toInCall.ns,fun i y v h1 h2 h3=>?_⟩,fun y c h=>⟨_,x.cell y c h⟩,e0.hok.fresh (Nat.le_refl _),fun y c h=>?_,fun p hp=>absurd (show p∈([]:List (Addr×Obj))from hp) (by simp),e0.hok.kept hk,?_⟩
 ·exact name_of_addr x.apart (PySem.mem_of_lookup h1) (PySem.mem_of_lookup h2)
 ·have hy:scope.names.lookup y=some .cell\/scope.names.lookup y=some .free:=hy
  rcases hy with hy|hy
  ·exact iE hy
  ·exact absurd rfl (S.nofree _ (PySem.mem_of_lookup hy))
 ·exact Nat.le_of_lt (x.above y c (PySem.mem_of_lookup h))
 ·have hi:i<vs.length:=by
   unfold start at h2
   by_cases hi:i<vs.length
   ·exact hi
   ·rw[List.getElem?_append_right (by simpa using hi)]at h2
    rw[List.getElem?_replicate]at h2
    split at h2<;>cases h2
  have ha:vs[i]?=some v:=by
   unfold start at h2
   rw[List.getElem?_append_left (by simpa using hi),List.getElem?_map]at h2
   cases e:vs[i]? with
   |none=>rw[e]at h2;cases h2
   |some a=>rw[e]at h2;cases h2;rfl
  obtain⟨u,hu,rv⟩:=r.get ha
  have hp:ps[i]?=some y:=by
   rw[<-S.pre,List.getElem?_take_of_lt (by omega)];exact h1
  have ndP:ps.Nodup:=by rw[<-S.pre];exact S.nd.sublist (List.take_sublist _ _)
  refine⟨u,rv,?_⟩
  rcases S.par y (List.mem_of_getElem? hp)with k|k
  ·exact .inl ⟨k,jF ndP hp hu k⟩
  ·obtain⟨c,e⟩:=iE (n:=s.heap.objs.size+1) k
   refine .inr ⟨.inl k,c,e,?_⟩
   have q:=x.cell y c e
   rw[jJ ndP hp hu (by show scope.names.lookup y≠_;rw[k];decide)]at q
   exact q
 ·exact e0.hok.fresh (Nat.le_of_lt (x.above y c (PySem.mem_of_lookup h)))
 ·unfold start
  show _=N.length
  rw[List.length_append,List.length_map,List.length_replicate]
  omega
theorem u5{CX:CXT}{P:Program}{w:World}{K:PySem.W.Frag}{mg:Str->Option Value}{base:Heap}{k:Nat}{f:Addr}{name qual:Str}{params:Arguments}{body:List Stmt}{scope:Scope}{dV kV doc pm cdv ct oc:Value}{an od:Option Addr}
 {osl:Array (Option Value)} {N ps:List Str} {sp:Sp} (lk:K.lookup f=some ⟨oc,od,.func (PySem.W.fnOf name qual params body scope dV kV doc pm an cdv ct),osl⟩) (hcd:PySem.W.codeIn K cdv qual=true) (S:FnScope N ps scope)
 (len:∀vs H Q E,sp vs H Q E->vs.length=ps.length)
 (hbody:∀(A:Around) (outer:List Env) (s:Shared) (H:Hp) (vs:List V) (Q:VK) (E:XK),Room k (A.deeper (envOfC qual scope s.heap.objs.size f cdv))->sp vs H Q E->
  ∃t,PSs (aU CX P w K mg base N qual scope f cdv A outer s H E) body t/\t { nx:=fun _ H'=>Q .non H',rt:=Q } (start N vs) H) :
 FnOk P w K mg base CX (k+1) f (PySem.W.fnOf name qual params body scope dV kV doc pm an cdv ct) ps sp:=by
 refine⟨len,fun A outer s H args us vs Q E hr e0 hb r hsp=>?_⟩
 have hl:=len _ _ _ _ hsp
 have KX:K.In s.heap:=e0.mod.kin.keeps fun b o e=>(e0.bs b o e).1
 have lim:s.heap.NoLimit:=e0.mod.nolimit.keeps fun b o e=>(e0.bs b o e).1
 have hkind:∀y∈ps.zip us,scope.names.lookup y.1=some .local\/(scope.names.lookup y.1=some .cell/\((cellsFrom (s.heap.objs.size+1) scope.names []).lookup y.1).isSome=true):=fun zz62_0 hy=>by
  obtain⟨n,v⟩:=zz62_0
  rcases S.par n (List.of_mem_zip hy).1 with q|q
  ·exact .inl q
  ·exact .inr ⟨q,PySem.W.cellsFrom_some _ _ _ (.inl q)⟩
 refine codeAny_call_function hr.depth (KX _ _ lk) rfl S.co S.gen rfl (PySem.W.codeRec_of KX hcd) (hb _ _ _ _ ?_)
 refine wpAny_newFunctionEnv_cells S.kind hkind fun env he s1 x=>?_
 subst he
 refine⟨lim.keeps x.toInCall.keep,codeAny_func ?_⟩
 obtain⟨t,ht,hq⟩:=hbody A outer s H vs Q E (hr.deeper _) hsp
 have I:Inv (aU CX P w K mg base N qual scope f cdv A outer s H E) [] (start N vs) H s1:=qv S hr.hd e0 hl r x
 refine wpAny_mono (ht [] s1 (start N vs) H _ I hq) (fun fl s' hs=>?_) fun e s' hs=>hs
 have fin:∀{σ':St} {H':Hp} {v:V} {u:Value},Inv (aU CX P w K mg base N qual scope f cdv A outer s H E) [] σ' H' s'->RelV v u->Q v H'->CE outer P w H s Q u s':=
  fun{σ' H' v u} J rv q=>⟨v,H',J.os,J.bare,J.base,J.hok,rv,q⟩
 cases fl with
 |ret u=>
  obtain⟨v,σ',H',J,rv,q⟩:=hs
  exact fin J rv q
 |next=>
  obtain⟨σ',H',J,q⟩:=hs
  exact fin (v:=V.non) (u:=Value.none) J rfl q
 |brk=>
  obtain⟨_,_,_,q⟩:=hs
  exact False.elim q
 |cont=>
  obtain⟨_,_,_,q⟩:=hs
  exact False.elim q
section
variable{X:Cx}{x:Str}{p pos:Pos}{e:Expr}{es:List Expr}{t:TA}{id T:String}{r:List V->Hp->VK->Prop}
def tCB(r:List V->Hp->VK->Prop)(t:TA):TE:=fun σ H Q=>t σ H fun vs H1=>r vs H1 Q
theorem rZ(hc:bB X (.builtin id) r)(hg:Gl X x)(hm:X.mg x=none)(hv:bootBuiltins x=some (.builtin id))(ha:PA X (e::es) t)(hn:x≠"__name__":=by decide)(hdb:(x==("__debug__":Str))=false:=by decide) (he:starEach (e::es) X.env=(false,eval e X.env)::starEach es X.env:=by rfl) (hpl:(backTo pos (starEach es X.env)).any (·.1)=false:=by rfl):PE X (.Call (.Name x p) (e::es) [] pos) (tCB r t):=by intro pins s σ H Q I h;refine wpAny_Call_Name_kw (jb I hg hm hv ?_ hn hdb);exact PyProof.Rows.callWith_builtin1 (thn (ha pos pins s σ H _ I h) fun us s1 zz63_0=>by obtain⟨vs,H1,I1,r1,q1⟩:=zz63_0;exact(hc pins s1 σ H1 vs us Q I1 r1 q1)) he hpl
theorem ql(hc:bB X (.type T) r)(hg:Gl X x)(hm:X.mg x=none)(hv:bootBuiltins x=some (.type T))(ha:PA X (e::es) t)(hn:x≠"__name__":=by decide)(hdb:(x==("__debug__":Str))=false:=by decide) (he:starEach (e::es) X.env=(false,eval e X.env)::starEach es X.env:=by rfl) (hpl:(backTo pos (starEach es X.env)).any (·.1)=false:=by rfl):PE X (.Call (.Name x p) (e::es) [] pos) (tCB r t):=by intro pins s σ H Q I h;refine wpAny_Call_Name_kw (jb I hg hm hv ?_ hn hdb);exact PyProof.Rows.callWith_type1 (thn (ha pos pins s σ H _ I h) fun us s1 zz64_0=>by obtain⟨vs,H1,I1,r1,q1⟩:=zz64_0;exact(hc pins s1 σ H1 vs us Q I1 r1 q1)) he hpl
end
end L2
namespace HT
open PySem PyProof.Rows
def lexLt:List Int->List Int->Bool
 |[],[]=>false
 |[],_::_=>true
 |_::_,[]=>false
 |x::xs,y::ys=>if x=y then lexLt xs ys else decide (x<y)
theorem nL(x y:Int)(xs ys:List Int):lexLt (x::xs) (y::ys)=if x=y then lexLt xs ys else decide (x<y):=rfl
theorem jA:lexLt [] []=false:=rfl
theorem iF(y:Int)(ys:List Int):lexLt [] (y::ys)=true:=rfl
theorem iO(x:Int)(xs:List Int):lexLt (x::xs) []=false:=rfl
theorem fZ(A:Around)(s:Shared)(a:Int)(t:Tok)(c:Int)(u:Tok):∃e,SeqAt.EqAt A s (.int a t) (.int c u) e/\(e=true↔a=c):=⟨(a==c),SeqAt.EqAt.int_int a t c u,by simp⟩
theorem sF(A:Around)(s:Shared)(a:Int)(t:Tok)(c:Int)(u:Tok)(prog:Program)(w:World)(E:Value->Shared->Prop)(Q:Value->Shared->Prop)(h:Q (.bool (decide (a<c))) s) : wpAny (model prog w) A (richCompare .Lt (.int a t) (.int c u)) Q E s:=(PyProof.Rows.lt_int h:wpAny (model prog w) A (compareOp .Lt (.int a t) (.int c u)) Q E s)
section
open PySem.SeqAt
open PySem.AutoSeq1 (wpAny_loadPart')
open PySem.MeetsSeq PySem.MeetsSeq2 PySem.MeetsSeq3
theorem jk(l b:Addr)(items items2:Array Value)(n n2:Nat)(dd dd2:Option Addr)(sl sl2:Array (Option Value))(ns ms:List Int)(hi:IntsAre items.toList ns)(hj:IntsAre items2.toList ms) :
 Meets (Builtin.«tuple.__lt__» ⟨[.ref l,.ref b],[]⟩)
  (fun _ R s=>s.heap.get? l=some { cls:=.type "tuple",dict:=dd,data:=.seq items n,slots:=sl }/\s.heap.get? b=some { cls:=.type "tuple",dict:=dd2,data:=.seq items2 n2,slots:=sl2 }/\
   R (.ok (.ret (.bool (lexLt ns ms)))) s):=
 .of_wp fun prog w A R s h=>by
  obtain⟨hp,g,d,tk,os⟩:=s;obtain⟨hl,hb,h⟩:=h
  have f2:=AutoSeq1.sub_tuple_tuple
  have z1:items.size=ns.length:=by rw[<-hi.length];simp
  have z2:items2.size=ms.length:=by rw[<-hj.length];simp
  wp_walk using wpAny_loadPart' hl,wpAny_loadPart' hb,wpAny_forIn_list _ (fun rest b s'=>b.1=none/\s'=⟨hp,g,d,tk,os⟩/\∃(vs ws:List Value) (ns' ms':List Int),rest=vs.zip ws/\
   IntsAre vs ns'/\IntsAre ws ms'/\ns'.length+items2.size=ms'.length+items.size/\R (.ok (.ret (.bool (lexLt ns' ms')))) ⟨hp,g,d,tk,os⟩) _
  case turn=>
   rintro⟨y,x⟩ rest b s' ⟨hb',rfl,vs,ws,ns',ms',hz,hvi,hwi,hlen,hR⟩
   cases hvi with
   |nil=>rw[List.zip_nil_left]at hz;cases hz
   |cons a t hvi'=>
    cases hwi with
    |nil=>rw[List.zip_nil_right]at hz;cases hz
    |cons c u hwi'=>
     rw[List.zip_cons_cons]at hz
     injection hz with hyx hrest
     injection hyx with hy hx
     subst hy hx
     rw[nL]at hR
     simp only[List.length_cons]at hlen
     obtain⟨e,he,hiff⟩:=fZ A.in1 ⟨hp,g,d,tk,os⟩ a t c u
     refine wpAny_bind (he prog w _ _ ?_)
     cases e with
     |true=>
      rw[if_pos (hiff.mp rfl)]at hR
      wp_walk
      exact⟨rfl,rfl,_,_,_,_,hrest,hvi',hwi',by omega,hR⟩
     |false=>
      rw[if_neg (fun q=>absurd (hiff.mpr q) Bool.false_ne_true)]at hR
      have hri:=sF A.in1 ⟨hp,g,d,tk,os⟩ a t c u prog w
      wp_walk using hri
      exact⟨_,rfl,by simpa using hR⟩
  case fin=>
   rintro⟨b1,b2⟩ s' ⟨hb',rfl,vs,ws,ns',ms',hz,hvi,hwi,hlen,hR⟩
   simp only at hb'
   subst hb'
   have hv:lexLt ns' ms'=decide (items.size<items2.size):=by
    cases hvi with
    |nil=>
     cases hwi with
     |nil=>
      simp only[List.length_nil]at hlen
      rw[jA]
      exact(decide_eq_false (by omega)).symm
     |cons c u hw=>
      simp only[List.length_nil,List.length_cons]at hlen
      rw[iF]
      exact(decide_eq_true (by omega)).symm
    |cons a t hv=>
     cases hwi with
     |nil=>
      simp only[List.length_nil,List.length_cons]at hlen
      rw[iO]
      exact(decide_eq_false (by omega)).symm
     |cons c u hw=>
      rw[List.zip_cons_cons]at hz
      cases hz
   rw[hv]at hR
   wp_walk
   exact⟨_,rfl,by simpa[Builtin.Tuple.tupleCompareSizes]using hR⟩
  case h=>
   exact⟨rfl,rfl,items.toList,items2.toList,ns,ms,rfl,hi,hj,by omega,h⟩
end
section
variable{prog:Program}{w:World}{A:Around}{E:Value->Shared->Prop}{s:Shared}
theorem iP{l b:Addr}{items items2:Array Value}{ns ms:List Int}{Q:Value->Shared->Prop}(hl:IsTup s.heap l items)(hb:IsTup s.heap b items2)(hi:IntsAre items.toList ns)(hj:IntsAre items2.toList ms) (hu:A.units<cLine) (h:Q (.bool (lexLt ns ms)) s):wpAny (model prog w) A (compareOp .Lt (.ref l) (.ref b)) Q E s:=by obtain⟨⟨cls,dd,data,sl⟩,ho,hc,n,hd⟩:=id hl;obtain⟨⟨cls2,dd2,data2,sl2⟩,ho2,hc2,n2,hd2⟩:=id hb;simp only at hc hd hc2 hd2;subst hc hd hc2 hd2;exact richCompare_meets_room (op:=.Lt) ⟨_,ho,rfl⟩ ⟨_,ho2,rfl⟩ PySem.F.slot_tuple_lt PySem.F.entry_tuple_lt (PySem.F.args_tuple_lt_2 _ _) (jk l b items items2 n n2 dd dd2 sl sl2 ns ms hi hj) ⟨ho,ho2,show Value.bool (lexLt ns ms)≠Value.notImplemented/\Q (.bool (lexLt ns ms)) s from⟨(fun x=>nomatch x),h⟩⟩ hu
theorem tw{t b:Addr}{vs ws:List Value}{Q:Value->Shared->Prop}(ht:IsTup s.heap t vs.toArray)(hb:IsTup s.heap b ws.toArray)(hv:vs≠[])
 (h1:ws=[]->Q (.ref t) s) (h2:ws≠[]->Q (.ref s.heap.objs.size) { s with heap:=s.heap.push { cls:=.type "tuple",data:=.seq (vs++ws).toArray } })
 (hsz:vs.length+ws.length<=sizeLine):wpAny (model prog w) A (binaryOp .Add (.ref t) (.ref b)) Q E s:=by
 obtain⟨⟨cls,dd,data,sl⟩,ho,hc,n,hd⟩:=id ht
 obtain⟨⟨cls2,dd2,data2,sl2⟩,ho2,hc2,n2,hd2⟩:=id hb
 simp only at hc hd hc2 hd2
 subst hc hd hc2 hd2
 have e:vs.toArray++ws.toArray=(vs++ws).toArray:=by simp
 by_cases hw:ws=[]
 ·exact concat_meets ⟨_,ho,rfl⟩ ⟨_,ho2,rfl⟩ noFill_tuple_add seq_tuple_add PySem.F.slot_tuple_add PySem.F.entry_tuple_add (PySem.F.args_tuple_add_2 _ _)
   (tuple_addW1 t b vs.toArray ws.toArray n n2 dd dd2 sl sl2 (by simpa using hv) (by simp[hw])) ⟨ho,ho2,h1 hw⟩
 ·refine concat_meets ⟨_,ho,rfl⟩ ⟨_,ho2,rfl⟩ noFill_tuple_add seq_tuple_add PySem.F.slot_tuple_add PySem.F.entry_tuple_add (PySem.F.args_tuple_add_2 _ _)
   (tuple_addW2 t b vs.toArray ws.toArray n n2 dd dd2 sl sl2 (by simpa using hv) (by simpa using hw) (by rw[List.size_toArray,List.size_toArray];exact hsz)) ⟨ho,ho2,?_⟩
  rw[e]
  exact h2 hw
def sIx(n d:Nat):Option Int->Nat
 |none=>d
 |some v=>if v<0 then(v+(n:Int)).toNat else min v.toNat n
theorem sH(n d:Nat):sIx n d none=d:=rfl
theorem tq(n d k:Nat):sIx n d (some (k:Int))=min k n:=by show(if(k:Int)<0 then((k:Int)+(n:Int)).toNat else min (k:Int).toNat n)=min k n;rw[if_neg (by omega),Int.toNat_natCast]
theorem wG(n d:Nat)(hd:d<=n)(o:Option Int):sIx n d o<=n:=by
 cases o with
 |none=>exact hd
 |some v=>
  show(if v<0 then(v+(n:Int)).toNat else min v.toNat n)<=n
  by_cases hv:v<0
  ·rw[if_pos hv];omega
  ·rw[if_neg hv];exact Nat.min_le_right _ _
theorem oQ(v:Int)(n d:Nat):(if v<0 then max (v+(n:Int)) 0 else min v (n:Int))=((sIx n d (some v):Nat):Int):=by
 show(if v<0 then max (v+(n:Int)) 0 else min v (n:Int))=(((if v<0 then(v+(n:Int)).toNat else min v.toNat n):Nat):Int);by_cases hv:v<0
 ·simp only[if_pos hv];omega
 ·simp only[if_neg hv];omega
theorem mY(lo hi:Option Int)(n:Nat):Builtin.Slice.sliceAdjust lo hi 1 (n:Int)=(((sIx n 0 lo:Nat):Int),((sIx n n hi:Nat):Int)):=by
 have h1:¬((1:Int)<0):=by omega
 unfold Builtin.Slice.sliceAdjust;simp only[h1,if_false];refine Prod.ext ?_ ?_
 ·cases lo with
  |none=>rfl
  |some v=>exact oQ v n 0
 ·cases hi with
  |none=>rfl
  |some v=>exact oQ v n n
theorem nI(i j:Nat):Builtin.Slice.slicePlaces (i:Int) (j:Int) 1=j-i:=by
 unfold Builtin.Slice.slicePlaces;have h1:(1:Int)>0:=by omega
 simp only[h1,if_true,Int.ediv_one];split<;>omega
theorem iS{v:Value}{o:Option Int}{Q:Option Int->Shared->Prop}(p:IsPart v o)(h:Q o s):wpAny (model prog w) A (Builtin.Slice.slicePartIndex v) Q E s:=by
 cases p with
 |none=>exact slicePart_none h
 |int i t=>exact slicePart_int h
theorem gO{sl:Addr}{vl vu:Value}{lo hi:Option Int}{n:Nat}{Q:Int×Int×Nat->Shared->Prop}(hs:s.heap.IsSliceOf sl vl vu .none)(pl:IsPart vl lo)(pu:IsPart vu hi)
 (h:Q (((sIx n 0 lo:Nat):Int),1,sIx n n hi-sIx n 0 lo) s):wpAny (model prog w) A (Builtin.Slice.sliceApplied (.ref sl) (pure (n:Int))) Q E s:=by
 obtain⟨os,hos,hcs,hds⟩:=id hs
 unfold Builtin.Slice.sliceApplied Builtin.Slice.sliceFields
 refine wpAny_bind (wpAny_bind (wpAny_field hos hds (x:=vl) rfl (wpAny_bind (wpAny_field hos hds (x:=vu) rfl (wpAny_bind (wpAny_field hos hds (x:=.none) rfl (wpAny_pure ?_)))))))
 refine wpAny_bind (slicePart_none ?_)
 show wpAny _ _ (if((1:Int)==0)=true then _ else _) _ _ s
 rw[if_neg (by decide)]
 refine wpAny_bind (iS pl (wpAny_bind (iS pu (wpAny_bind (wpAny_pure ?_)))))
 show wpAny _ _ (match Builtin.Slice.sliceAdjust lo hi 1 (n:Int)with|(lo,hi)=>pure (lo,(1:Int),Builtin.Slice.slicePlaces lo hi 1)) _ _ s
 rw[mY lo hi n]
 show wpAny _ _ (pure (((sIx n 0 lo:Nat):Int),(1:Int),Builtin.Slice.slicePlaces ((sIx n 0 lo:Nat):Int) ((sIx n n hi:Nat):Int) 1)) _ _ s
 rw[nI]
 exact wpAny_pure h
theorem rS(xs:Array Value)(i k:Nat):((List.range k).filterMap fun(m:Nat)=>xs[((i:Int)+(m:Int)*1).toNat]?).toArray=((xs.toList.drop i).take k).toArray:=by
 have e:(fun(m:Nat)=>xs[((i:Int)+(m:Int)*1).toNat]?)=fun m=>xs[i+m]?:=by
  funext m
  have:((i:Int)+(m:Int)*1).toNat=i+m:=by omega
  rw[this]
 rw[e];have:=pick_run xs i k;rw[List.filterMap_map]at this;have e2:((fun x=>xs[x]?)∘fun x=>i+x)=fun m=>xs[i+m]?:=rfl;rw[e2]at this;rw[this]
theorem f7{t sl:Addr}{items:Array Value}{vl vu:Value}{lo hi:Option Int}{Q:Value->Shared->Prop}(ht:IsTup s.heap t items)(hs:s.heap.IsSliceOf sl vl vu .none)(pl:IsPart vl lo)(pu:IsPart vu hi)
 (hw:¬(sIx items.size 0 lo=0/\sIx items.size items.size hi=items.size))
 (h:Q (.ref s.heap.objs.size) { s with heap:=s.heap.push { cls:=.type "tuple",data:=.seq ((items.toList.drop (sIx items.size 0 lo)).take (sIx items.size items.size hi-sIx items.size 0 lo)).toArray } })
 (hsz:items.size<=sizeLine):wpAny (model prog w) A (getItem (.ref t) (.ref sl)) Q E s:=by
 have htake:sizeOk (.seq ((items.toList.drop (sIx items.size 0 lo)).take (sIx items.size items.size hi-sIx items.size 0 lo)).toArray):=by
  show((items.toList.drop (sIx items.size 0 lo)).take (sIx items.size items.size hi-sIx items.size 0 lo)).toArray.size<=sizeLine
  rw[List.size_toArray,List.length_take,List.length_drop,Array.length_toList]
  omega
 have hj:sIx items.size items.size hi<=items.size:=wG _ _ (Nat.le_refl _) hi
 obtain⟨os,hos,hcs,hds⟩:=id hs
 have hTs:s.TypeIs (.ref sl) "slice":=⟨os,hos,hcs⟩
 unfold getItem
 try with_reducible refine wpAny_holding ?_
 first|refine wpAny_bind (wpAny_pure ?_)|skip
 refine wpAny_bind (wpAny_sequenceKey ht.typeIs (by decide) ?_)
 refine wpAny_bind (wpAny_callSpecial?_slot (name:=Str.ofString "__getitem__") ht.typeIs PyProof.Rows.slot_tuple_getitem
  (wpAny_call_entry PyProof.Rows.slot_tuple_getitem ht.typeIs entry_tuple_getitem ?_ (args_tuple_getitem _ _)))
 show wpAny _ _ (Builtin.Tuple.tupleItemsOf (.ref t) >>= _) _ _ s
 refine wpAny_bind (tupleItemsOf_ ht ?_)
 refine wpAny_bind (wpAny_typeOf hTs ?_)
 rw[if_pos (by decide)]
 refine wpAny_bind (gO hs pl pu ?_)
 have hno:¬((((sIx items.size 0 lo:Nat):Int)==0&&(1:Int)==1&&(sIx items.size items.size hi-sIx items.size 0 lo)==items.size)=true):=by
  intro q
  rw[Bool.and_eq_true,Bool.and_eq_true]at q
  have q1:((sIx items.size 0 lo:Nat):Int)=0:=eq_of_beq q.1.1
  have q2:sIx items.size items.size hi-sIx items.size 0 lo=items.size:=eq_of_beq q.2
  exact hw ⟨by omega,by omega⟩
 show wpAny _ _ (if(((sIx items.size 0 lo:Nat):Int)==0&&(1:Int)==1&&(sIx items.size items.size hi-sIx items.size 0 lo)==items.size)=true then _ else _) _ _ s
 rw[if_neg hno,rS]
 first
  |exact wpAny_bind (m:=Builtin.Tuple.tupleExact _) (wpAny_newObj_type (wpAny_pure ⟨_,rfl,wpAny_pure h⟩) htake)
  |exact wpAny_bind (m:=Builtin.Tuple.tupleExact _) (wpAny_newObj_type (wpAny_bind (wpAny_pure (wpAny_pure ⟨_,rfl,wpAny_pure h⟩))) htake)
  |exact wpAny_bind (wpAny_bind (m:=Builtin.Tuple.tupleExact _) (wpAny_newObj_type (wpAny_pure (wpAny_pure ⟨_,rfl,wpAny_pure h⟩)) htake))
  |exact wpAny_bind (wpAny_bind (m:=Builtin.Tuple.tupleExact _) (wpAny_newObj_type (wpAny_pure ⟨_,rfl,wpAny_pure h⟩) htake))
end
end HT
namespace L2
open PySem PySem.Spec PyProof.Rows
abbrev TO:=St->Hp->(Option Int->Hp->Prop)->Prop
def PO(X:Cx)(e:Option Expr)(t:TO):Prop:=
 ∀(pins:List (Addr×Obj)) (s:Shared) (σ:St) (H:Hp) (Q:Option Int->Hp->Prop),Inv X pins σ H s->t σ H Q->
  wpAny (model X.prog X.w) X.A (evalPart e X.env) (fun u s'=>∃o H',Inv X pins σ H' s'/\IsPart u o/\Q o H') X.xe s
def uF:TO:=fun _ H Q=>Q none H
def yG(t:TE):TO:=fun σ H Q=>t σ H fun x H1=>∃i,x=.int i/\Q (some i) H1
theorem intsAre_of{ns:List Int}:∀{us:List Value},Vals (ns.map V.int) us->IntsAre us ns:=by
 induction ns with
 |nil=>intro us r;rw[List.map_nil]at r;cases r;exact .nil
 |cons n ns ih=>
  intro us r
  rw[List.map_cons]at r
  cases r with
  |cons r1 r2=>
   obtain⟨t,e⟩:=r1
   subst e
   exact .cons n t (ih r2)
section
variable{X:Cx}{e:Expr}{te:TE}{lo hi:Option Expr}{tl th:TO}{pos p2:Pos}
theorem uI:PO X none uF:=by intro pins s σ H Q I h;rw[evalPart_none];exact wpAny_pure ⟨none,H,I,.none,h⟩
theorem uc(h:PE X e te):PO X (some e) (yG te):=by intro pins s σ H Q I hw;rw[evalPart_some];refine thn (h pins s σ H _ I hw) fun u s1 zz65_0=>?_;obtain⟨x,H1,I1,r1,q1⟩:=zz65_0;obtain⟨i,rfl,q⟩:=q1;obtain⟨t,rfl⟩:=r1;exact⟨some i,H1,I1,.int i t,q⟩
def SlR(X:Cx)(r:V->Option Int->Option Int->Hp->VK->Prop):Prop:=
 ∀(pins:List (Addr×Obj)) (s:Shared) (σ:St) (H:Hp) (x:V) (v vl vu:Value) (lo hi:Option Int) (sl:Addr) (Q:VK),Inv X pins σ H s->RelV x v->s.heap.IsSliceOf sl vl vu .none->IsPart vl lo->IsPart vu hi->r x lo hi H Q->
  ∃T id,typeLookup (.type T) "__getitem__"=pure (some (.builtin id))/\s.TypeIs v T/\wpAny (model X.prog X.w) X.A (getItem v (.ref sl)) (EP X pins σ Q) X.xe s
theorem SlR.or{r r':V->Option Int->Option Int->Hp->VK->Prop}(h:SlR X r)(h':SlR X r'):SlR X (fun x lo hi H Q=>r x lo hi H Q\/r' x lo hi H Q):=by
 intro pins s σ H x v vl vu lo hi sl Q I rx hs pl pu q;rcases q with q|q
 ·exact h pins s σ H x v vl vu lo hi sl Q I rx hs pl pu q
 ·exact h' pins s σ H x v vl vu lo hi sl Q I rx hs pl pu q
def tSl(r:V->Option Int->Option Int->Hp->VK->Prop)(te:TE)(tl th:TO):TE:=fun σ H Q=>te σ H fun x H1=>tl σ H1 fun l H2=>th σ H2 fun u H3=>r x l u H3 Q
theorem r6{r:V->Option Int->Option Int->Hp->VK->Prop}(hr:SlR X r)(he:PE X e te)(hl:PO X lo tl)(hu:PO X hi th):PE X (.Subscript e (.Slice lo hi none p2) pos) (tSl r te tl th):=by intro pins s σ H Q I h;refine Subscript_ (thn (he pins s σ H _ I h) fun v s1 zz66_0=>?_);obtain⟨x,H1,I1,r1,q1⟩:=zz66_0;refine wpAny_Slice (thn (hl pins s1 σ H1 _ I1 q1) fun vl s2 ⟨l,H2,I2,pl,q2⟩=>thn (hu pins s2 σ H2 _ I2 q2) fun vu s3 zz67_0=>?_);obtain⟨u,H3,I3,pu,q3⟩:=zz67_0;rw[evalPart_none];refine wpAny_pure ?_;have I4:Inv X pins σ H3 { s3 with heap:=s3.heap.push { cls:=.type "slice",data:=.fields #[vl,vu,.none] } }:=I3.kept (t':=s3.toks) fun b ob q=>Heap.get?_push_of_some _ q;obtain⟨T,id,hT,ht,hg⟩:=hr pins { s3 with heap:=s3.heap.push { cls:=.type "slice",data:=.fields #[vl,vu,.none] } } σ H3 x v vl vu l u s3.heap.objs.size Q I4 r1 (Heap.IsSliceOf.new ..) pl pu q3;show wpAny (model X.prog X.w) X.A (subscriptTail e (.Slice lo hi none p2) v (.ref s3.heap.objs.size)) (EP X pins σ Q) X.xe { s3 with heap:=s3.heap.push { cls:=.type "slice",data:=.fields #[vl,vu,.none] } };exact tail_any (ops:=[.ref s3.heap.objs.size,v]) ht hT hg (by with_unfolding_all rfl)
def mG(xs:List V)(lo hi:Option Int):List V:=(xs.drop (HT.sIx xs.length 0 lo)).take (HT.sIx xs.length xs.length hi-HT.sIx xs.length 0 lo)
theorem gY(xs:List V)(lo hi:Option Int):(mG xs lo hi).length<=xs.length:=by unfold mG;rw[List.length_take,List.length_drop];omega
def zv(K:PySem.W.Frag):V->Option Int->Option Int->Hp->VK->Prop:=fun x lo hi H Q=>∃a xs,x=.ref a/\SqT K H a xs/\
 ¬(HT.sIx xs.length 0 lo=0/\HT.sIx xs.length xs.length hi=xs.length)/\∀p,H p=none->Q (.ref p) (upd H p (.tup (mG xs lo hi)))
theorem wW:SlR X (zv X.K):=by
 intro pins s σ H x v vl vu lo hi sl Q I rx hs pl pu h;obtain⟨a,xs,rfl,hx,hw,q⟩:=h;cases rx;obtain⟨its,r,ht,hz⟩:=I.tuple hx;have hlen:its.toArray.size=xs.length:=by rw[List.size_toArray];exact r.length.symm
 refine⟨"tuple",_,PyProof.Rows.slot_tuple_getitem.lookup,ht.typeIs,?_⟩;refine HT.f7 ht hs pl pu (by rw[hlen];exact hw) ?_ (by rw[hlen];exact hz);rw[hlen];refine⟨.ref s.heap.objs.size,_,I.laid (t':=s.toks) (o:=.tup (mG xs lo hi)) (fun b ob q=>Heap.get?_push_of_some _ q) (Nat.le_refl _) ?_,rfl,q _ (I.hok.fresh (Nat.le_refl _))⟩;exact⟨Nat.le_trans (gY xs lo hi) hz,_,(r.drop (HT.sIx xs.length 0 lo)).take (HT.sIx xs.length xs.length hi-HT.sIx xs.length 0 lo),IsTup.new _ _⟩
def zP(K:PySem.W.Frag):R2:=fun x y H Q=>∃a b ns ms,x=.ref a/\y=.ref b/\SqT K H a (ns.map V.int)/\SqT K H b (ms.map V.int)/\Q (.bl (HT.lexLt ns ms)) H
theorem wA(hu:X.A.units<cLine):OpR X (compareOp .Lt) (zP X.K):=by intro pins s σ H x y v u Q I rx ry h;obtain⟨a,b,ns,ms,rfl,rfl,ha,hb,q⟩:=h;cases rx;cases ry;obtain⟨its,r1,p1,_⟩:=I.tuple ha;obtain⟨its2,r2,p2,_⟩:=I.tuple hb;have i1:IntsAre its.toArray.toList ns:=intsAre_of r1;have i2:IntsAre its2.toArray.toList ms:=intsAre_of r2;exact HT.iP p1 p2 i1 i2 hu ⟨.bl (HT.lexLt ns ms),H,I,rfl,q⟩
def zi(K:PySem.W.Frag):R2:=fun x y H Q=>∃a b xs ys,x=.ref a/\y=.ref b/\SqT K H a xs/\SqT K H b ys/\xs≠[]/\xs.length+ys.length<=sizeLine/\
 (ys=[]->Q (.ref a) H)/\(ys≠[]->∀p,H p=none->Q (.ref p) (upd H p (.tup (xs++ys))))
theorem Vals.kB{xs:List V}{us:List Value}(r:Vals xs us):us=[]↔xs=[]:=by
 cases r with
 |nil=>simp
 |cons _ _=>simp
theorem tS:OpR X (binaryOp .Add) (zi X.K):=by intro pins s σ H x y v u Q I rx ry h;obtain⟨a,b,xs,ys,rfl,rfl,ha,hb,hx,hz,q1,q2⟩:=h;cases rx;cases ry;obtain⟨its,r1,p1,_⟩:=I.tuple ha;obtain⟨its2,r2,p2,_⟩:=I.tuple hb;refine HT.tw p1 p2 (fun z=>hx (r1.kB.mp z)) (fun z=>⟨.ref a,H,I,rfl,q1 (r2.kB.mp z)⟩) (fun z=>?_) (by rw[<-r1.length,<-r2.length];exact hz);refine⟨.ref s.heap.objs.size,_,I.laid (t':=s.toks) (o:=.tup (xs++ys)) (fun b ob q=>Heap.get?_push_of_some _ q) (Nat.le_refl _) ?_,rfl,q2 (fun w=>z (r2.kB.mpr w)) _ (I.hok.fresh (Nat.le_refl _))⟩;exact⟨by rw[List.length_append];exact hz,_,r1.append r2,IsTup.new _ _⟩
end
def ixN(n:Nat)(i:Int):Option Nat:=if 0<=i then(if i<n then some i.toNat else none)else if -(n:Int)<=i then some (i+n).toNat else none
def atI{α:Type}(xs:List α)(i:Int):Option α:=(ixN xs.length i).bind fun j=>xs[j]?
theorem ph{n:Nat}{i:Int}{j:Nat}(h:ixN n i=some j):seqIndex? i n=some j/\j<n/\-(n:Int)<=i/\i<n:=by
 unfold ixN at h;by_cases h0:0<=i
 ·rw[if_pos h0]at h;by_cases h1:i<n
  ·rw[if_pos h1]at h;have e:i.toNat=j:=Option.some.inj h;exact⟨by rw[seqIndex_of h0 h1,e],by omega,by omega,h1⟩
  ·rw[if_neg h1]at h;cases h
 ·rw[if_neg h0]at h;by_cases h1:-(n:Int)<=i
  ·rw[if_pos h1]at h;have e:(i+n).toNat=j:=Option.some.inj h;exact⟨by rw[seqIndex_neg (by omega) h1,e],by omega,h1,by omega⟩
  ·rw[if_neg h1]at h;cases h
theorem kY{α:Type}{xs:List α}{i:Int}{v:α}(h:atI xs i=some v):∃j,seqIndex? i xs.length=some j/\xs[j]?=some v/\j<xs.length/\-(xs.length:Int)<=i/\i<xs.length:=by
 unfold atI at h;cases e:ixN xs.length i with
 |none=>rw[e]at h;cases h
 |some j=>
  rw[e]at h
  obtain⟨h1,h2,h3,h4⟩:=ph e
  exact⟨j,h1,h,h2,h3,h4⟩
theorem ik{α:Type}{xs:List α}{j:Nat}{v:α}(h:xs[j]?=some v):atI xs (j:Int)=some v:=by
 have hj:j<xs.length:=(List.getElem?_eq_some_iff.mp h).1;have e:ixN xs.length (j:Int)=some j:=by unfold ixN;rw[if_pos (by omega),if_pos (by omega)];simp
 unfold atI;rw[e];exact h
def kD(b:Expr):Prop:=∀o i,subscripted b false o i=operate [o,i] (getItem o i)
def IxR(X:Cx)(r:R2):Prop:=
 ∀(value slice:Expr) (pins:List (Addr×Obj)) (s:Shared) (σ:St) (H:Hp) (x y:V) (v u:Value) (Q:VK),Inv X pins σ H s->RelV x v->RelV y u->r x y H Q->
  subscripted slice false v u=operate [v,u] (getItem v u)->wpAny (model X.prog X.w) X.A (subscriptTail value slice v u) (EP X pins σ Q) X.xe s
def MtR(X:Cx)(id:String)(r:V->List V->Hp->VK->Prop):Prop:=
 ∀(pins:List (Addr×Obj)) (s:Shared) (σ:St) (H:Hp) (x:V) (xs:List V) (v:Value) (us:List Value) (Q:VK),Inv X pins σ H s->RelV x v->Vals xs us->r x xs H Q->
  wpAny (model X.prog X.w) X.A (call (.builtin id) (v::us)) (EP X pins σ Q) X.xe s
section
variable{X:Cx}{a b:Expr}{ta tb:TE}{pos:Pos}
theorem IxR.or{r r':R2}(h:IxR X r)(h':IxR X r'):IxR X (fun x y H Q=>r x y H Q\/r' x y H Q):=by
 intro value slice pins s σ H x y v u Q I rx ry q hs;rcases q with q|q
 ·exact h value slice pins s σ H x y v u Q I rx ry q hs
 ·exact h' value slice pins s σ H x y v u Q I rx ry q hs
theorem xK{r:R2}(hr:IxR X r)(ha:PE X a ta)(hb:PE X b tb)(hs:kD b):PE X (.Subscript a b pos) (tOp r ta tb):=by intro pins s σ H Q I h;exact Subscript_ (xn ha hb I h fun v u s2 x y H2 I2 rx ry q=>hr a b pins s2 σ H2 x y v u Q I2 rx ry q (hs _ _))
def yA(K:PySem.W.Frag):R2:=fun x y H Q=>∃p xs i v,x=.ref p/\y=.int i/\SqL K H p xs/\atI xs i=some v/\Q v H
def yF(K:PySem.W.Frag):R2:=fun x y H Q=>∃p xs i v,x=.ref p/\y=.int i/\SqT K H p xs/\atI xs i=some v/\Q v H
def xP:R2:=fun x y H Q=>∃z i c,x=.str z/\y=.int i/\z.length<=sizeLine/\atI z.cps.toList i=some c/\Q (.str ⟨#[c]⟩) H
theorem ui:IxR X (yA X.K):=by
 intro value slice pins s σ H x y v u Q I rx ry h hs;obtain⟨p,xs,i,z,rfl,rfl,hq,he,q⟩:=h;cases rx;obtain⟨t,rfl⟩:=ry;obtain⟨its,r,pl,hz⟩:=I.list hq;obtain⟨j,h1,h2,h3,h4,h5⟩:=kY he;obtain⟨w,ew,rw'⟩:=r.get h2;have hl:=r.length;have hn:=je;have fin:EP X pins σ Q w s:=⟨z,H,I,rw',q⟩;by_cases h0:0<=i
 ·have hj:i.toNat=j:=by rw[seqIndex_of h0 h5]at h1;exact Option.some.inj h1
  exact item_listR pl.isList h0 (by omega) (by rw[hj];simpa using ew) fin hs
 ·have hj:(i+(its.toArray.size:Int)).toNat=j:=by rw[seqIndex_neg (by omega) h4]at h1;rw[List.size_toArray,<-hl];exact Option.some.inj h1
  exact subscriptTail_builtinR (x:=w) pl.isList.typeIs slot_list_getitem.lookup (wpAny_getItem_list_neg (Q:=fun r s'=>r=w/\EP X pins σ Q r s') pl.isList (by omega) (by rw[List.size_toArray]<;>omega) (by omega) (by rw[hj];simpa using ew) ⟨rfl,fin⟩) hs
theorem wu:IxR X (yF X.K):=by intro value slice pins s σ H x y v u Q I rx ry h hs;obtain⟨p,xs,i,z,rfl,rfl,hq,he,q⟩:=h;cases rx;obtain⟨t,rfl⟩:=ry;obtain⟨its,r,pl,hz⟩:=I.tuple hq;obtain⟨j,h1,h2,h3,h4,h5⟩:=kY he;obtain⟨w,ew,rw'⟩:=r.get h2;have hl:=r.length;have hn:=je;have fin:EP X pins σ Q w s:=⟨z,H,I,rw',q⟩;exact subscriptTail_builtinR (x:=w) pl.typeIs slot_tuple_getitem.lookup (getItem_tuple (j:=j) (Q:=fun r s'=>r=w/\EP X pins σ Q r s') pl (by omega) (by omega) (by rw[List.size_toArray,<-hl];exact h1) (by simpa using ew) ⟨rfl,fin⟩) hs
theorem vU:IxR X xP:=by
 intro value slice pins s σ H x y v u Q I rx ry h hs;obtain⟨z,i,c,rfl,rfl,hz,he,q⟩:=h;obtain⟨t,rfl⟩:=rx;obtain⟨t',rfl⟩:=ry;obtain⟨j,h1,h2,h3,h4,h5⟩:=kY he;have hl:z.cps.toList.length=z.length:=by simp[Str.length]
 rw[hl]at h1 h4 h5;have hn:=je
 exact tail_any (typeIs_str s z t) slot_str_getitem.lookup (getItem_str (c:=c) (by
  have e1:decide (i < -(2^63:Int))=false:=decide_eq_false (by omega)
  have e2:decide (i≥2^63)=false:=decide_eq_false (by omega)
  rw[e1,e2,Bool.or_false]) (by rw[h1];simpa using h2) ⟨.str ⟨#[c]⟩,H,I.tok _,⟨_,rfl⟩,q⟩) hs
def rIx(K:PySem.W.Frag):R2:=fun x y H Q=>yA K x y H Q\/yF K x y H Q\/xP x y H Q
theorem vM:IxR X (rIx X.K):=ui.or (wu.or vU)
theorem nV(its:List Value)(n j:Nat)(u:Value):Obj.mapSeq (·.setIfInBounds j u) { cls:=.type "list",data:=.seq its.toArray n }={ cls:=.type "list",data:=.seq (its.set j u).toArray n }:=by simp[Obj.mapSeq]
theorem Inv.lst{pins:List (Addr×Obj)}{σ:St}{H:Hp}{s:Shared}{p:Addr}{xs:List V}(I:Inv X pins σ H s)(h:H p=some (.lst xs)) : ∃(its:List Value) (n:Nat),Vals xs its/\s.heap.get? p=some { cls:=.type "list",data:=.seq its.toArray n }/\xs.length<=sizeLine:=by obtain⟨z,its,n,r,e⟩:=I.hok p _ h;exact⟨its,n,r,e,z⟩
theorem Inv.w8{pins:List (Addr×Obj)}{σ:St}{H:Hp}{s:Shared}{p:Addr}{xs ys:List V}{its its':List Value}{n n':Nat}{f:Obj->Obj}(I:Inv X pins σ H s)(h:H p=some (.lst xs))
 (ho:s.heap.get? p=some { cls:=.type "list",data:=.seq its.toArray n }) (hf:f { cls:=.type "list",data:=.seq its.toArray n }={ cls:=.type "list",data:=.seq its'.toArray n' }) (r:Vals ys its') (hz:ys.length<=sizeLine) (t:Nat) :
 Inv X pins σ (upd H p (.lst ys)) { s with heap:=s.heap.update p f,toks:=t }:=by
 have e:(s.heap.update p f).get? p=some { cls:=.type "list",data:=.seq its'.toArray n' }:=by
  rw[Heap.get?_update_self f ho (by rw[hf]<;>rfl),hf]
 refine I.write (x:=p) (e:=p) (by rw[h];trivial) (.inl rfl) (fun b u hb q=>(Heap.get?_update_other _ _ (Ne.symm hb)).trans q) ⟨_,e⟩ ?_
 exact⟨hz,its',n',r,e⟩
def za:V->V->V->Hp->(Hp->Prop)->Prop:=fun o i v H Q=>∃p xs k j,o=.ref p/\i=.int k/\H p=some (.lst xs)/\ixN xs.length k=some j/\Q (upd H p (.lst (xs.set j v)))
theorem set_list:xT X za:=by
 intro pins s σ H o i v ov iv u Q I ro ri rv h;obtain⟨p,xs,k,j,rfl,rfl,hp,hj,q⟩:=h;cases ro;obtain⟨t,rfl⟩:=ri;obtain⟨its,n,r,ho,hz⟩:=I.lst hp;obtain⟨h1,h2,h3,h4⟩:=ph hj;have hl:=r.length;have hn:=je;have I':Inv X pins σ (upd H p (.lst (xs.set j v))) { s with heap:=s.heap.update p (Obj.mapSeq (·.setIfInBounds j u)) }:=I.w8 hp ho (nV its n j u) (r.set rv j) (by rw[List.length_set];exact hz) s.toks;by_cases h0:0<=k
 ·have hk:k.toNat=j:=by rw[seqIndex_of h0 h4]at h1;exact Option.some.inj h1
  exact PySem.W.ki_setAt ho h0 (by omega) (by rw[List.size_toArray,<-hl];exact h4) (by rw[hk];exact⟨_,I',q⟩)
 ·have hk:(k+(its.toArray.size:Int)).toNat=j:=by rw[seqIndex_neg (by omega) h3]at h1;rw[List.size_toArray,<-hl];exact Option.some.inj h1
  exact PySem.W.ki_setBack ho (by omega) (by rw[List.size_toArray,<-hl];exact h3) (by omega) (by rw[hk];exact⟨_,I',q⟩)
theorem kZ(lo hi:Option Int)(n:Nat):(sliceBounds lo hi none n).1=((HT.sIx n 0 lo:Nat):Int)/\(sliceBounds lo hi none n).2.1=((HT.sIx n n hi:Nat):Int)/\(sliceBounds lo hi none n).2.2=1:=by
 refine⟨?_,?_,rfl⟩
 ·cases lo with
  |none=>simp[sliceBounds,HT.sIx]
  |some i=>
   simp only[sliceBounds,HT.sIx,Option.getD_none,show(1:Int)>0 by decide,if_true]
   by_cases h:i<0
   ·simp only[h,if_true]<;>omega
   ·simp only[h,if_false]<;>omega
 ·cases hi with
  |none=>simp[sliceBounds,HT.sIx]
  |some i=>
   simp only[sliceBounds,HT.sIx,Option.getD_none,show(1:Int)>0 by decide,if_true]
   by_cases h:i<0
   ·simp only[h,if_true]<;>omega
   ·simp only[h,if_false]<;>omega
theorem jt(its:List Value)(lo hi:Option Int):slicePick its.toArray lo hi none=((its.drop (HT.sIx its.length 0 lo)).take (HT.sIx its.length its.length hi-HT.sIx its.length 0 lo)).toArray:=by obtain⟨h1,h2,h3⟩:=kZ lo hi its.toArray.size;unfold slicePick;rw[h1,h2,h3];simp only[sliceRange_one,pick_run,List.size_toArray]<;>rfl
def zz(K:PySem.W.Frag):V->Option Int->Option Int->Hp->VK->Prop:=fun x lo hi H Q=>∃a xs,x=.ref a/\SqL K H a xs/\∀p,H p=none->Q (.ref p) (upd H p (.lst (mG xs lo hi)))
theorem tF:SlR X (zz X.K):=by intro pins s σ H x v vl vu lo hi sl Q I rx hs pl pu h;obtain⟨a,xs,rfl,hx,q⟩:=h;cases rx;obtain⟨its,r,ht,hz⟩:=I.list hx;have hlen:=r.length;refine⟨"list",_,slot_list_getitem.lookup,ht.isList.typeIs,?_⟩;refine wpAny_getItem_list_slice ht.isList hs pl pu .none (by simp) ?_ (by rw[List.size_toArray]<;>omega);rw[jt,<-hlen];refine⟨.ref s.heap.objs.size,_,I.laid (t':=s.toks) (o:=.lst (mG xs lo hi)) (fun b ob q=>Heap.get?_push_of_some _ q) (Nat.le_refl _) ?_,rfl,q _ (I.hok.fresh (Nat.le_refl _))⟩;exact⟨Nat.le_trans (gY xs lo hi) hz,_,0,(r.drop (HT.sIx xs.length 0 lo)).take (HT.sIx xs.length xs.length hi-HT.sIx xs.length 0 lo),Heap.get?_push_size _ rfl⟩
theorem lg:bB X (.builtin "len") (fun xs H Q=>∃p ys,xs=[.ref p]/\(SqL X.K H p ys\/SqT X.K H p ys)/\Q (.int ys.length) H):=by
 intro pins s σ H xs us Q I r h;obtain⟨p,ys,rfl,hq,q⟩:=h;obtain⟨u,rfl,rx⟩:=vals1 r;cases rx;have hn:=je;rcases hq with hq|hq
 ·obtain⟨its,r',pl,hz⟩:=I.list hq;have hlen:=r'.length;exact Calls.call_len_list pl.isList (by simp only[List.size_toArray]<;>omega) ⟨.int ys.length,H,I.tok _,⟨s.toks+1,by rw[List.size_toArray,hlen]⟩,q⟩
 ·obtain⟨its,r',pl,hz⟩:=I.tuple hq;have hlen:=r'.length;exact len_tuple pl (by simp only[List.size_toArray]<;>omega) ⟨.int ys.length,H,I.tok _,⟨s.toks+1,by rw[List.size_toArray,hlen]⟩,q⟩
theorem bB.or{f:Value}{r r':List V->Hp->VK->Prop}(h:bB X f r)(h':bB X f r'):bB X f (fun xs H Q=>r xs H Q\/r' xs H Q):=by
 intro pins s σ H xs us Q I rs q;rcases q with q|q
 ·exact h pins s σ H xs us Q I rs q
 ·exact h' pins s σ H xs us Q I rs q
theorem kT:bB X (.type "list") (fun xs H Q=>∃p ys,xs=[.ref p]/\(SqL X.K H p ys\/SqT X.K H p ys)/\∀l,H l=none->Q (.ref l) (upd H l (.lst ys))):=by
 intro pins s σ H xs us Q I r h;obtain⟨p,ys,rfl,hq,q⟩:=h;obtain⟨u,rfl,rx⟩:=vals1 r;cases rx;have fin:∀(its:List Value),Vals ys its->ys.length<=sizeLine->∀(h':Heap) (c':Nat),(∀b o',s.heap.get? b=some o'->h'.get? b=some o')->h'.get? s.heap.objs.size=some { cls:=.type "list",dict:=none,data:=.seq its.toArray c',slots:=#[] }->EP X pins σ Q (.ref s.heap.objs.size) { s with heap:=h' }:=fun its r' hz h' c' kp e=>⟨.ref s.heap.objs.size,_,I.laid (t':=s.toks) kp (Nat.le_refl _) (show bT X.prog X.w _ h' _ (.lst ys)from⟨hz,its,c',r',e⟩),rfl,q _ (I.hok.fresh (Nat.le_refl _))⟩;rcases hq with hq|hq
 ·obtain⟨its,r',pl,hz⟩:=I.list hq;have hlen:=r'.length;obtain⟨o,ho,hc,n,hd⟩:=pl.isList;exact call_list_seq p (.inl rfl) ho hc hd (fun h' c' kp e=>fin its r' hz h' c' kp e) (by simp only[List.size_toArray]<;>omega)
 ·obtain⟨its,r',pl,hz⟩:=I.tuple hq;have hlen:=r'.length;obtain⟨o,ho,hc,n,hd⟩:=pl;exact call_list_seq p (.inr rfl) ho hc hd (fun h' c' kp e=>fin its r' hz h' c' kp e) (by simp only[List.size_toArray]<;>omega)
theorem jx:bB X (.type "tuple") (fun xs H Q=>∃p ys,xs=[.ref p]/\((SqL X.K H p ys/\∀l,H l=none->Q (.ref l) (upd H l (.tup ys)))\/(SqT X.K H p ys/\Q (.ref p) H))):=by
 intro pins s σ H xs us Q I r h;obtain⟨p,ys,rfl,h⟩:=h;obtain⟨u,rfl,rx⟩:=vals1 r;cases rx;rcases h with⟨hq,q⟩|⟨hq,q⟩
 ·obtain⟨its,r',pl,hz⟩:=I.list hq;have hlen:=r'.length;refine call_tuple_list pl.isList (fun h' kp=>?_) (by simp only[List.size_toArray]<;>omega);have I1:Inv X pins σ H { s with heap:=h' }:=I.kept (t':=s.toks) kp;have I2:Inv X pins σ (upd H h'.objs.size (.tup ys)) { s with heap:=h'.push { cls:=.type "tuple",data:=.seq its.toArray } }:=I1.laid (t':=s.toks) (fun b o e=>Heap.get?_push_of_some _ e) (Nat.le_refl _) (show bT X.prog X.w _ _ _ (.tup ys)from⟨hz,its,r',IsTup.new _ _⟩);exact⟨.ref h'.objs.size,_,I2,rfl,q _ (I1.hok.fresh (Nat.le_refl _))⟩
 ·obtain⟨its,r',pl,hz⟩:=I.tuple hq;exact call_tuple_same pl ⟨.ref p,H,I,rfl,q⟩
def tyV(K:PySem.W.Frag)(T:String)(x:V)(H:Hp):Prop:=match x with
 |.str _=>T="str"
 |.int _=>T="int"
 |.ref p=>(T="list"/\∃xs,SqL K H p xs)\/(T="tuple"/\∃o,K.lookup p=some o/\o.cls=.type "tuple"/\o.dict=none)\/
  (T="dict"/\((∃kvs,H p=some (.dK kvs))\/∃kvs,H p=some (.dT kvs)))\/(T="set"/\∃S n,H p=some (.set S n))
 |_=>False
theorem wF{pins:List (Addr×Obj)}{σ:St}{H:Hp}{s:Shared}{T:String}{x:V}{v:Value}(I:Inv X pins σ H s)(r:RelV x v)(ty:tyV X.K T x H) : s.TypeIs v T/\∀a,v=.ref a->∃ob,s.heap.get? a=some ob/\ob.dict=none:=by
 cases x with
 |str z=>
  obtain⟨t,rfl⟩:=r
  cases (show T="str" from ty)
  exact⟨typeIs_str s z t,fun _ e=>nomatch e⟩
 |int i=>
  obtain⟨t,rfl⟩:=r
  cases (show T="int" from ty)
  exact⟨typeIs_int s i t,fun _ e=>nomatch e⟩
 |ref p=>
  cases r
  rcases ty with⟨rfl,xs,hq⟩|⟨rfl,o,hk,hc,hd⟩|⟨rfl,hk⟩|⟨rfl,S,n,hk⟩
  ·obtain⟨its,_,pl,_⟩:=I.list hq;refine⟨pl.isList.typeIs,fun a e=>?_⟩;cases e;obtain⟨o,n,e,c,hd,_⟩:=pl;exact⟨o,e,hd⟩
  ·refine⟨⟨o,I.kIn p o hk,hc⟩,fun a e=>?_⟩;cases e;exact⟨o,I.kIn _ o hk,hd⟩
  ·have z:∃o,s.heap.get? p=some o/\o.ExactDict:=by
    rcases hk with⟨kvs,hk⟩|⟨kvs,hk⟩
    ·obtain⟨_,_,_,_,o,_,_,e,ex,_⟩:=I.hok p _ hk;exact⟨o,e,ex⟩
    ·obtain⟨_,_,_,_,o,_,_,e,ex,_⟩:=I.hok p _ hk;exact⟨o,e,ex⟩
   obtain⟨o,e,ex⟩:=z;refine⟨⟨o,e,ex.1⟩,fun a e2=>?_⟩;cases e2;exact⟨o,e,ex.2.1⟩
  ·obtain⟨o,_,_,_,e,ex,_⟩:=I.hok p _ hk;refine⟨⟨o,e,ex.1⟩,fun a e2=>?_⟩;cases e2;exact⟨o,e,ex.2.1⟩
 |_=>exact False.elim ty
def tBM(K:PySem.W.Frag)(T:String)(r:V->List V->Hp->VK->Prop)(to:TE)(t:TA):TE:=fun σ H Q=>to σ H fun x H1=>tyV K T x H1/\t σ H1 fun xs H2=>r x xs H2 Q
variable{o e:Expr}{es:List Expr}{to:TE}{t:TA}{name:Str}{apos cpos:Pos}{T id:String}{r:V->List V->Hp->VK->Prop}
theorem qI(pa:PlainAttrs T)(slot:Slot T name id)(hty:typeOf (.builtin id)=pure (.type "method_descriptor"))(hm:MtR X id r)(ho:PE X o to)(ha:PA X (e::es) t)
 (hbase:attributeBase o name X.env (eval o X.env)=eval o X.env:=by rfl)
 (hfew:((backTo cpos (starEach (e::es) X.env)).all (fun x=>!x.1)&&(backToKw cpos (keywordEach [] X.env)).all (fun x=>x.1.isSome)
  && decide ((e::es).length+([]:List Keyword).length+(if([]:List Keyword).isEmpty then 0 else 1)<30))=true:=by rfl)
 (hline:(apos.endLine==cpos.line)=true:=by rfl) (hs:starEach (e::es) X.env=(false,eval e X.env)::starEach es X.env:=by rfl) (hplain:(backTo cpos (starEach es X.env)).any (·.1)=false:=by rfl) :
 PE X (.Call (.Attribute o name apos) (e::es) [] cpos) (tBM X.K T r to t):=by
 intro pins s σ H Q I h
 refine wpAny_Call_method_late hbase hfew hline rfl (thn (ho pins s σ H _ I h) fun v s1 zz69_0=>?_)
 obtain⟨x,H1,I1,r1,ty,q1⟩:=zz69_0
 obtain⟨h1,h2⟩:=wF I1 r1 ty
 refine⟨T,id,pa,slot,hty,h1,h2,?_⟩
 have hA:=ha cpos pins s1 σ H1 _ I1 q1
 rw[hs]at hA ⊢
 refine Calls.callWith_builtin (by show(false||(backTo cpos (starEach es X.env)).any (·.1))=false;rw[hplain]<;>rfl) (Calls.evalArgs_plain ?_)
 exact thn hA fun us s2 zz70_0=>by obtain⟨vs,H2,I2,r2,q2⟩:=zz70_0;exact(hm pins s2 σ H2 x vs v us Q I2 r1 r2 q2)
/- xs.append(e),list.index on a module's tuple .. are MtR facts of 06m -/
end
def MtM(X:Cx)(id:String)(r:V->List V->Hp->VK->Prop):Prop:=
 ∀(pins:List (Addr×Obj)) (s:Shared) (σ:St) (H:Hp) (x:V) (xs:List V) (v:Value) (us:List Value) (Q:VK),Inv X pins σ H s->RelV x v->Vals xs us->r x xs H Q->
  wpAny (model X.prog X.w) X.A (call (.builtin id) (v::us)) (EP X pins σ Q) X.xe s
theorem Vals.one:∀{x:V} {us:List Value},Vals [x] us->∃u,us=[u]/\RelV x u
 |_,_,.cons r .nil=>⟨_,rfl,r⟩
theorem Vals.two:∀{x y:V} {us:List Value},Vals [x,y] us->∃u v,us=[u,v]/\RelV x u/\RelV y v
 |_,_,_,.cons r (.cons q .nil)=>⟨_,_,rfl,r,q⟩
section
variable{X:Cx}{pins:List (Addr×Obj)}{σ:St}{H:Hp}{s:Shared}{l b:Addr}{xs ys zs:List V}
theorem Inv.yR{its its':List Value}{n:Nat}{f:Array Value->Array Value}{t':Nat}(I:Inv X pins σ H s)(hH:H l=some (.lst xs))
 (e:s.heap.get? l=some { cls:=.type "list",data:=.seq its.toArray n }) (hf:f its.toArray=its'.toArray) (hv:Vals ys its') (hz:ys.length<=sizeLine) :
 Inv X pins σ (upd H l (.lst ys)) { s with heap:=s.heap.update l (Obj.mapSeq f),toks:=t' }:=by
 have q:=PySem.IsL.update e f
 rw[hf]at q
 refine I.write (x:=l) (e:=l) (by rw[hH];exact trivial) (.inl rfl) (fun b' u hb hu=>(Heap.get?_update_other s.heap (Obj.mapSeq f) (Ne.symm hb)).trans hu) ⟨_,q⟩ ?_
 exact⟨hz,its',_,hv,q⟩
theorem Inv.z7{its:List Value}{t':Nat}(I:Inv X pins σ H s)(hv:Vals ys its)(hz:ys.length<=sizeLine) : Inv X pins σ (upd H s.heap.objs.size (.lst ys)) { s with heap:=s.heap.push { cls:=.type "list",data:=.seq its.toArray },toks:=t' }:=I.laid (fun _ _ q=>Heap.get?_push_of_some _ q) (Nat.le_refl _) ⟨hz,its,0,hv,Heap.get?_push_size _ rfl⟩
theorem Inv.fresh(I:Inv X pins σ H s):H s.heap.objs.size=none:=I.hok.fresh (Nat.le_refl _)
theorem Inv.pT(I:Inv X pins σ H s)(hH:H l=some (.lst xs)):xs.length<=sizeLine/\∃(its:List Value) (n:Nat),Vals xs its/\xs.length=its.length/\s.heap.get? l=some { cls:=.type "list",data:=.seq its.toArray n }:=by obtain⟨z,its,n,r,e⟩:=I.hok l _ hH;exact⟨z,its,n,r,r.length,e⟩
end
section
variable{X:Cx}
def tm:V->List V->Hp->VK->Prop:=fun x vs H Q=>∃l xs y,x=.ref l/\vs=[y]/\H l=some (.lst xs)/\xs.length<sizeLine/\Q .non (upd H l (.lst (xs++[y])))
theorem jU:MtM X "list.append" tm:=by intro pins s σ H x vs v us Q I rx rv h;obtain⟨l,xs,y,rfl,rfl,hH,hz,q⟩:=h;cases rx;obtain⟨u,rfl,ru⟩:=rv.one;obtain⟨z,its,n,r,hl,e⟩:=I.pT hH;refine call_meets F.slot_list_append ⟨_,e,rfl⟩ F.entry_list_append (F.args_list_append_2 _ _) (PySem.list_append l its.toArray n u (by rw[List.size_toArray];omega)) ⟨e,?_⟩;refine⟨.non,_,I.yR (its':=its++[u]) hH e (by simp) (r.append (.cons ru .nil)) ?_,rfl,q⟩;rw[List.length_append,List.length_singleton];omega
def zo:R2:=fun x y H Q=>∃l b xs zs,x=.ref l/\y=.ref b/\H l=some (.lst xs)/\H b=some (.lst zs)/\xs.length+zs.length<=sizeLine/\∀p,H p=none->Q (.ref p) (upd H p (.lst (xs++zs)))
theorem xl:OpR X (binaryOp .Add) zo:=by
 intro pins s σ H x y v u Q I rx ry h;obtain⟨l,b,xs,zs,rfl,rfl,hH,hB,hz,q⟩:=h;cases rx;cases ry;obtain⟨z,its,n,r,hl,e⟩:=I.pT hH;obtain⟨z2,its2,n2,r2,hl2,e2⟩:=I.pT hB;refine PySem.P.add_list e e2 ?_ (by rw[List.size_toArray,List.size_toArray];omega);have ea:its.toArray++its2.toArray=(its++its2).toArray:=by simp
 rw[ea];exact⟨.ref _,_,I.z7 (t':=s.toks) (r.append r2) (by rw[List.length_append];omega),rfl,q _ I.fresh⟩
end
section
variable{prog:Program}{w:World}{A:Around}{E:Value->Shared->Prop}{s:Shared}
end
section
variable{X:Cx}
end
end L2
namespace Att
open PySem PySem.W PySem.Calls PyProof.Rows
theorem h9{P:Params}{h:Heap}:∀(ns:List Int) (vs:List Value),WellAll P h vs (ns.map WData.int)->IntsAre vs ns:=by
 intro ns
 induction ns with
 |nil=>
  intro vs w
  rw[List.map_nil]at w
  cases w
  exact .nil
 |cons n ns ih=>
  intro vs w
  rw[List.map_cons]at w
  cases w with
  |cons a b=>
   cases a
   exact .cons _ _ (ih _ b)
theorem p6{l:OpenLaw}{n:Nat}(hn:l.most=some n){P:Params}{h:Heap}{args:List WData}{vals:List Value}
 (hpre:l.row.toRowW.claim.pre args=true) (hwl:WellAll P h vals args) :
 ∃a vs ns,vals=[Value.ref a]/\args=[WData.list (ns.map WData.int)]/\h.get? a=some { cls:=.type "list",data:=.seq vs.toArray }/\IntsAre vs ns/\ns.length<=n:=by
 have hsh:WShape.hasAll [] args [.list .int]=true:=(pre_splitW hpre).1
 have hc:l.pre.holds [] { args:=args }=true:=(pre_splitW hpre).2
 obtain⟨d,r,rfl,h1,h2⟩:=hasAllW_cons hsh
 obtain rfl:=hasAllW_nil h2
 obtain⟨xs,rfl,h3⟩:=hasW_list h1
 obtain⟨ns,rfl⟩:=items_int h3
 have hlen:ns.length<=n:=by
  unfold OpenLaw.pre at hc
  have h4:(WTm.not (.lt (.lit (.int (n:Int))) (.len (.arg 0)))).holds [] { args:=[.list (ns.map .int)] }=true:=by
   have h4:=(holds_andW hc).1
   rw[hn]at h4
   exact h4
  have h5:=condW_of h4 (w_not (w_lt w_lit (w_len_list (w_arg rfl))))
  rw[List.length_map]at h5
  refine Nat.le_of_not_lt fun q=>?_
  have q':(n:Int)<((ns.length:Nat):Int):=by omega
  first
   |(rw[decide_eq_true q']at h5;exact absurd h5 (by decide))
   |(simp at h5;omega)
 cases hwl with
 |cons w1 w2=>
  cases w2
  cases w1 with
  |list ho hall=>exact⟨_,_,ns,rfl,rfl,ho,h9 ns _ hall,hlen⟩
theorem qh(l:OpenLaw)(args:List WData):l.row.toRowW.claim.post args (.bool true) args=true:=
 postW_of (r:=l.row.toRowW) (X:=(true==true))
  (show WShape.has [] (.bool true) .bool=true by first|rfl|decide|simp[WShape.has,WShape.arms,WShape.armsAll])
  (show(WTm.eq .res (.lit (.bool true))).value [] { args:=args,res:=some (.bool true),after:=args }=some (.bool (true==true))from w_eq_bool (w_res rfl) w_lit) rfl
theorem mC{l:OpenLaw}{n:Nat}{q:Program}{loose:List Str}{XP:(Str->Option Value)->Heap->Prop}{YP:World->Heap->Prop}{d:DefRec}
 (hn:l.most=some n) (hdf:d.params.defaults=[])
 (call:∀(w:World) (s₀ s₁:Shared) (mg mb:Str->Option Value) (fa:Addr) (o:Obj) (pm cd doc:Value) (a:Addr) (vs:List Value) (ns:List Int),
  Ground q loose [] XP w s₀ mg mb s₁.heap->YP w s₁.heap->
  s₁.heap.get? fa=some o->o.data=.func (docDef d.name d.params d.body d.scope pm cd doc)->s₁.heap.CodeRec cd d.name->mg d.name=some (.ref fa)->
  s₁.heap.get? a=some { cls:=.type "list",data:=.seq vs.toArray }->IntsAre vs ns->ns.length<=n->s₁.gens=#[]->
  codeAny (model l.prog w) callerA (.call (.ref fa) ⟨[.ref a],[]⟩) (fun r s'=>r=.ok (.ret (.bool true))/\OldK s₁.heap s'.heap/\s'.os=s₁.os/\AllBare s'.gens) s₁) :
 WalkO q loose XP YP l.row.toRowW d [] (fun f vs=>PySem.call f vs):=by
 intro w s₀ s₁ mg mb G Y fa o pm cd doc dV kV ho hd hcd hD hmg hg args vals as hpre hlay hrd hwl hlo
 obtain rfl:dV=.none:=Dflts.none hD hdf
 obtain rfl:kV=.none:=Dflts.noKw hD
 obtain⟨a,vs,ns,rfl,rfl,hobj,hints,hlen⟩:=p6 hn hpre hwl
 refine enter_call (codeAny_mono (call w s₀ s₁ mg mb fa o pm cd doc a vs ns G Y ho (fd_plain hd) hcd hmg hobj hints hlen hg) fun r s' hq=>?_)
 obtain⟨rfl,h2,h3,h4⟩:=hq
 exact⟨.inl ⟨.bool true,.bool true,[],rfl,fun _=>rfl,.bool true,qh l _,fun _=>⟨List.Pairwise.nil,fun _ hm=>(nomatch hm)⟩⟩,h2,h3,h4⟩
section
variable{prog:Program}{w:World}{A:Around}{E:Value->Shared->Prop}{s:Shared}{K:Frag}
end
end Att
namespace L2
open PySem PySem.Spec PyProof.Rows
theorem jR:∀{vs:List Value} {ns:List Int},IntsAre vs ns->Vals (ns.map V.int) vs
 |_,_,.nil=>.nil
 |_,_,.cons n t h=>.cons ⟨t,rfl⟩ (jR h)
def wk(H:Hp):Prop:=∀b,H b=none\/∃o xs,H b=some (.frz o (.lst xs))
theorem r9{P:Program}{w:World}{K:PySem.W.Frag}{mg mb:Str->Option Value}{CX:CXT}{k:Nat}{fa a:Addr}{fd:FuncData}{x:Str}{sp:Sp}{s₁:Shared}{vs:List Value}{ns:List Int}
 (KX:K.In s₁.heap) (hns:s₁.heap.Ns mainGlobals mg) (hb:s₁.heap.Ns builtinsNs mb) (hbb:∀x:Str,x≠"__name__"->mb x=bootBuiltins x) (hlim:s₁.heap.NoLimit) (hg:s₁.gens=#[])
 (ha:s₁.heap.get? a=some { cls:=.type "list",data:=.seq vs.toArray }) (hi:IntsAre vs ns) (hl:ns.length<=sizeLine) (hr:Room k callerA)
 (F:∀base:Heap,K.In base->base.Ns mainGlobals mg->FnOk P w K mg base CX k fa fd [x] sp) (hbind:∀(s:Shared) (u:Value),BindsTo s fd ⟨[u],[]⟩ [(x,u)])
 (hsp:∀H:Hp,wk H->SqL K H a (ns.map V.int)->sp [.ref a] H (fun v _=>v=.bl true) fun _ _ _=>False)
 (hCX:∀H e s',CX [] H s₁ (fun _ _ _=>False) e s'->False) :
 codeAny (model P w) callerA (.call (.ref fa) ⟨[.ref a],[]⟩) (fun r s'=>r=.ok (.ret (.bool true))/\OldK s₁.heap s'.heap/\s'.os=s₁.os/\AllBare s'.gens) s₁:=by
 have rv:=jR hi
 have lenV:=hi.length
 have core:∀H:Hp,wk H->SqL K H a (ns.map V.int)->HOk P w H s₁.heap->(∀b,H b≠none->b=a)->(H a≠none->K.lookup a=none)->
  codeAny (model P w) callerA (.call (.ref fa) ⟨[.ref a],[]⟩) (fun r s'=>r=.ok (.ret (.bool true))/\OldK s₁.heap s'.heap/\s'.os=s₁.os/\AllBare s'.gens) s₁:=by
  intro H hO hS hok hA hK
  have base_of:∀{b:Addr} {o:Obj},s₁.heap.get? b=some o->H b=none->(kH s₁.heap H).get? b=some o:=fun e n=>rY e n
  have noA:∀{b:Addr} {o:Obj} {es:Array DictEntry} {ep:Nat},s₁.heap.get? b=some o->o.data=.dict es ep->H b=none:=fun{b o es ep} e d=>by
   cases q:H b with
   |none=>rfl
   |some u=>
    have e':b=a:=hA b (by rw[q];simp)
    subst e'
    rw[ha]at e;cases e
    have d':Data.seq vs.toArray _=Data.dict es ep:=d
    cases d'
  have nsK:∀{b:Addr} {m:Str->Option Value},s₁.heap.Ns b m->(kH s₁.heap H).Ns b m:=fun{b m} zz73_0=>by obtain⟨o,es,ep,e,d,r⟩:=zz73_0;exact(⟨o,es,ep,base_of e (noA e d),d,r⟩)
  have hKb:K.In (kH s₁.heap H):=fun b o e=>base_of (KX b o e) (by
   cases q:H b with
   |none=>rfl
   |some u=>
    have e':b=a:=hA b (by rw[q];simp)
    subst e'
    rw[hK (by rw[q];simp)]at e;cases e)
  have hM:Mod K mg (kH s₁.heap H):=⟨hKb,nsK hns,⟨mb,nsK hb,hbb⟩,let⟨mc,h1,h2⟩:=hlim;⟨mc,nsK h1,h2⟩⟩
  have e0:Env0 P w K mg (kH s₁.heap H) callerA [] s₁ H:=⟨rfl,hM,fun b o e=>tG e,Nat.le_of_eq (qk _ _),trivial,fun b hb=>absurd (show b∈([]:List Addr)from hb) (by simp),hok,.of_eq hg⟩
  refine codeAny_mono ((F _ hKb (nsK hns)).run callerA [] s₁ H ⟨[.ref a],[]⟩ [.ref a] [.ref a] _ _ hr e0 (hbind s₁ (.ref a)) (.cons rfl .nil) (hsp H hO hS)) fun r s' h=>?_
  cases r with
  |error e=>exact(hCX H e s' h).elim
  |ok fl=>
   cases fl with
   |next=>exact False.elim h
   |brk=>exact False.elim h
   |cont=>exact False.elim h
   |ret u=>
    obtain⟨v,H',os,bare,un,hok',r',q⟩:=h
    have q':v=.bl true:=q
    subst q'
    obtain rfl:u=Value.bool true:=r'
    refine⟨rfl,OldK.of_keep fun b o e=>?_,os,bare⟩
    cases q:H b with
    |none=>exact un.keep b o e q (by intro z;exact absurd (show b∈([]:List Addr)from z) (by simp)) (by simp)
    |some u=>
     rcases hO b with z|⟨ob,xs,z⟩
     ·rw[q]at z;cases z
     ·have z2:=un.frzs b ob _ z
      obtain⟨e1,_⟩:=hok b _ z
      obtain⟨e2,_⟩:=hok' b _ z2
      rw[e]at e1;cases e1
      exact e2
 cases hk:K.lookup a with
 |some o=>
  have e:=KX a o hk
  rw[ha]at e
  cases e
  refine core (fun _=>none) (fun _=>.inl rfl) (.inr ⟨_,vs.toArray,_,hk,rfl,rfl,rfl,by rw[List.size_toArray,lenV];exact hl,by simpa using rv⟩) (fun b u z=>by have z':(none:Option HO)=some u:=z;cases z') (fun b z=>absurd rfl z) fun z=>absurd rfl z
 |none=>
  refine core (fun b=>if b=a then some (.frz { cls:=.type "list",data:=.seq vs.toArray } (.lst (ns.map V.int)))else none) (fun b=>?_) (.inl (.inr ⟨{ cls:=.type "list",data:=.seq vs.toArray },if_pos rfl⟩)) (fun b u z=>?_) (fun b z=>?_) fun _=>hk
  ·by_cases hb:b=a
   ·exact .inr ⟨_,_,if_pos hb⟩
   ·exact .inl (if_neg hb)
  ·by_cases hb:b=a
   ·have z':=(if_pos hb).symm.trans z
    cases z'
    subst hb
    exact⟨ha,by rw[List.length_map];exact hl,vs,_,rv,ha⟩
   ·have z':=(if_neg hb).symm.trans z
    cases z'
  ·by_cases hb:b=a
   ·exact hb
   ·exact absurd (if_neg hb) z
abbrev KOf{K:PySem.W.Frag}{h:Heap}(_:K.In h):PySem.W.Frag:=K
theorem tV{l:PySem.W.OpenLaw}{n k:Nat}{q:Program}{loose:List Str}{XP:(Str->Option Value)->Heap->Prop}{YP:World->Heap->Prop}{d:DefRec}{K:Params->PySem.W.Frag}{CX:World->CXT}{sp:World->Sp}{x:Str}
 (hn:l.most=some n) (hn2:n<=sizeLine) (hdf:d.params.defaults=[]) (hr:Room k callerA)
 (hY:∀(w:World) (h:Heap),YP w h->(K w.params).In h)
 (F:∀(w:World) (mg:Str->Option Value) (fa:Addr) (h:Heap),(K w.params).In h->h.Ns mainGlobals mg->mg d.name=some (.ref fa)->
  ∃fd:FuncData,(∀(s:Shared) (u:Value),BindsTo s fd ⟨[u],[]⟩ [(x,u)])/\
   ∀base:Heap,(K w.params).In base->base.Ns mainGlobals mg->FnOk l.prog w (K w.params) mg base (CX w) k fa fd [x] (sp w))
 (hsp:∀(w:World) (H:Hp) (a:Addr) (ns:List Int),ns.length<=n->wk H->SqL (K w.params) H a (ns.map V.int)->sp w [.ref a] H (fun v _=>v=.bl true) fun _ _ _=>False)
 (hCX:∀(w:World) (H:Hp) (s:Shared) (e:Value) (s':Shared),CX w [] H s (fun _ _ _=>False) e s'->False) :
 PySem.W.WalkO q loose XP YP l.row.toRowW d [] (fun f vs=>PySem.call f vs):=by
 refine Att.mC hn hdf fun w s₀ s₁ mg mb fa o pm cd doc a vs ns G Y ho hd hcd hmg hobj hints hlen hg=>?_
 have KX:=hY w _ Y
 obtain⟨fd,hb,hF⟩:=F w mg fa _ KX G.T.g hmg
 exact r9 KX G.T.g G.T.b G.T.builtins G.T.nolimit hg hobj hints (Nat.le_trans hlen hn2) hr hF hb (fun H hO hS=>hsp w H a ns hlen hO hS) fun H e s'=>hCX w H s₁ e s'
def bD(s:Stmt):Arguments:=match s with
 |.FunctionDef _ a _ _ _ _ _ _ _ _=>a
 |_=>{ posonlyargs:=[],args:=[],vararg:=none,kwonlyargs:=[],kw_defaults:=[],kwarg:=none,defaults:=[] }
def aV(s:Stmt):List Stmt:=match s with
 |.FunctionDef _ _ b _ _ _ _ _ _ _=>b
 |_=>[]
def ao(s:Stmt):Scope:=match s with
 |.FunctionDef _ _ _ _ _ _ sc _ _ _=>sc
 |_=>{ kind:=.function,names:=[],isGenerator:=false,isCoroutine:=false }
abbrev CX0:CXT:=fun _ _ _ _ _ _=>False
abbrev E0:XK:=fun _ _ _=>False
theorem yf{X:Cx}:Passes CX0 X E0:=fun _ _ _ _ _ _ _ h=>h.elim
structure Fun(K:PySem.W.Frag)(x qual:Str)(st:Stmt)(f:Addr)(fd:FuncData):Prop where
 ex:∃(oc:Value) (od:Option Addr) (kV doc pm:Value) (an:Option Addr) (cdv ct:Value) (osl:Array (Option Value)),
  fd=PySem.W.fnOf x qual (bD st) (aV st) (ao st) .none kV doc pm an cdv ct/\K.lookup f=some ⟨oc,od,.func fd,osl⟩/\PySem.W.codeIn K cdv qual=true
 kp:PySem.W.keepIn K (.ref f)=true
section
variable{P:Program}{w:World}{K:PySem.W.Frag}{mg:Str->Option Value}{base:Heap}
theorem Fun.ok{x qual:Str}{st:Stmt}{f:Addr}{fd:FuncData}{N ps:List Str}{k:Nat}{sp:Sp}(F:Fun K x qual st f fd)(S:FnScope N ps (ao st))(len:∀vs H Q E,sp vs H Q E->vs.length=ps.length)
 (hbody:∀(cdv:Value) (A:Around) (outer:List Env) (s:Shared) (H:Hp) (vs:List V) (Q:VK) (E:XK),Room k (A.deeper (envOfC qual (ao st) s.heap.objs.size f cdv))->sp vs H Q E->
  ∃t,PSs (aU CX0 P w K mg base N qual (ao st) f cdv A outer s H E).nox (aV st) t/\t { nx:=fun _ H'=>Q .non H',rt:=Q } (start N vs) H):FnOk P w K mg base CX0 (k+1) f fd ps sp:=by
 obtain⟨oc,od,kV,doc,pm,an,cdv,ct,osl,rfl,lk,hcd⟩:=F.ex
 refine u5 lk hcd S len fun A outer s H vs Q E hr hsp=>?_
 obtain⟨t,h,q⟩:=hbody cdv A outer s H vs Q E hr hsp
 exact⟨t,h.nox,q⟩
theorem Fun.binds{x qual:Str}{st:Stmt}{f:Addr}{fd:FuncData}{ps:List Str}(F:Fun K x qual st f fd) (h:∀(kV doc pm:Value) (an:Option Addr) (cdv ct:Value) (us:List Value),us.length=ps.length->bindArgs (PySem.W.fnOf x qual (bD st) (aV st) (ao st) .none kV doc pm an cdv ct) ⟨us,[]⟩=pure (ps.zip us)):Binds K fd ps []:=by obtain⟨oc,od,kV,doc,pm,an,cdv,ct,osl,rfl,lk,hcd⟩:=F.ex;exact .all (h kV doc pm an cdv ct)
theorem rW{x qual:Str}{st:Stmt}{f:Addr}{oc:Value}{od an:Option Addr}{osl:Array (Option Value)}{kV doc pm cdv ct:Value}(l:K.lookup f=some ⟨oc,od,.func (PySem.W.fnOf x qual (bD st) (aV st) (ao st) .none kV doc pm an cdv ct),osl⟩) (c:PySem.W.codeIn K cdv qual=true) (k:PySem.W.keepIn K (.ref f)=true):Fun K x qual st f (PySem.W.fnOf x qual (bD st) (aV st) (ao st) .none kV doc pm an cdv ct):=⟨⟨oc,od,kV,doc,pm,an,cdv,ct,osl,rfl,l,c⟩,k⟩
end
section
variable{X:Cx}
theorem pv(i:Nat){x:Str}{pos:Pos}(hN:X.N[i]?=some x:=by rfl)(hv:Vis X.env.scope x:=by first|exact Or.inl rfl|exact Or.inr (Or.inl rfl)|exact Or.inr (Or.inr rfl))(hd:(x==("__debug__":Str))=false:=by decide) (hcd:(x==("__classdict__":Str))=false:=by decide):PE X (.Name x pos) (jr i):=sN hN hv hd hcd
end
theorem yz{A B:Prop}(h:A):if true=true then A else B:=by rw[if_pos rfl];exact h
theorem bN{c A B:Prop}[Decidable c](h1:c->A)(h2:¬c->B):if c then A else B:=by
 by_cases h:c
 ·rw[if_pos h];exact h1 h
 ·rw[if_neg h];exact h2 h
end L2
namespace SD
theorem ll{α:Type}{l:List α}(h:l.length=1):∃a,l=[a]:=by
 cases l with
 |nil=>cases h
 |cons a l=>
  cases l with
  |nil=>exact⟨a,rfl⟩
  |cons b l=>cases h
theorem xV{α:Type}{n:Nat}{l:List α}(h:l.length=n+1):∃a r,l=a::r/\r.length=n:=by
 cases l with
 |nil=>cases h
 |cons a l=>exact⟨a,l,rfl,Nat.succ.inj h⟩
theorem bF{α:Type}{l:List α}(h:l.length=2):∃a b,l=[a,b]:=by obtain⟨a,r,rfl,h2⟩:=xV h;obtain⟨b,rfl⟩:=ll h2;exact⟨a,b,rfl⟩
theorem wR{α:Type}{l:List α}(h:l.length=3):∃a b c,l=[a,b,c]:=by obtain⟨a,r,rfl,h2⟩:=xV h;obtain⟨b,c,rfl⟩:=bF h2;exact⟨a,b,c,rfl⟩
open PySem PySem.Spec PyProof.Rows L2
inductive D where
 |non|bl (b:Bool)|int (i:Int)|str (x:Str)|ty (n:String)|ref (a:Addr)|rol (ds:List D)|tup (ds:List D)
def SqF(K:PySem.W.Frag)(H:Hp)(a:Addr)(xs:List V):Prop:=
 (∃o,H a=some (.frz o (.lst xs)))\/
  ∃(o:Obj) (its:Array Value) (n:Nat),K.lookup a=some o/\o.cls=.type "list"/\o.dict=none/\o.data=.seq its n/\its.size<=sizeLine/\Vals xs its.toList
theorem SqF.sql{K:PySem.W.Frag}{H:Hp}{a:Addr}{xs:List V}(h:SqF K H a xs):SqL K H a xs:=by
 rcases h with h|h
 ·exact .inl (.inr h)
 ·exact .inr h
mutual
def Rep(K:PySem.W.Frag)(H:Hp):D->V->Prop
 |.non,v=>v=.non
 |.bl b,v=>v=.bl b
 |.int i,v=>v=.int i
 |.str x,v=>v=.str x
 |.ty n,v=>v=.ty n
 |.ref a,v=>v=.ref a
 |.rol ds,v=>∃a xs,v=.ref a/\SqF K H a xs/\aA K H ds xs
 |.tup ds,v=>∃a xs,v=.ref a/\SqT K H a xs/\aA K H ds xs
def aA(K:PySem.W.Frag)(H:Hp):List D->List V->Prop
 |[],xs=>xs=[]
 |d::ds,xs=>∃x r,xs=x::r/\Rep K H d x/\aA K H ds r
end
structure Grow(K:PySem.W.Frag)(H H':Hp):Prop where
 t:∀a xs,SqT K H a xs->SqT K H' a xs
 f:∀a xs,SqF K H a xs->SqF K H' a xs
theorem Grow.refl{K:PySem.W.Frag}{H:Hp}:Grow K H H:=⟨fun _ _ h=>h,fun _ _ h=>h⟩
theorem Grow.trans{K:PySem.W.Frag}{H H1 H2:Hp}(a:Grow K H H1)(b:Grow K H1 H2):Grow K H H2:=⟨fun x y h=>b.t x y (a.t x y h),fun x y h=>b.f x y (a.f x y h)⟩
theorem Grow.put{K:PySem.W.Frag}{H:Hp}{p:Addr}{o:HO}(h1:∀xs,H p≠some (.tup xs))(h2:∀u xs,H p≠some (.frz u xs)):Grow K H (upd H p o):=by
 refine⟨fun a xs h=>?_,fun a xs h=>?_⟩
 ·rcases h with(h|⟨u,h⟩)|h
  ·exact .inl (.inl (by rw[az (by intro e;subst e;exact h1 _ h)];exact h))
  ·exact .inl (.inr ⟨u,by rw[az (by intro e;subst e;exact h2 _ _ h)];exact h⟩)
  ·exact .inr h
 ·rcases h with⟨u,h⟩|h
  ·exact .inl ⟨u,by rw[az (by intro e;subst e;exact h2 _ _ h)];exact h⟩
  ·exact .inr h
theorem Grow.new{K:PySem.W.Frag}{H:Hp}{p:Addr}{o:HO}(h:H p=none):Grow K H (upd H p o):=.put (fun xs e=>by rw[h]at e;cases e) (fun u xs e=>by rw[h]at e;cases e)
theorem Grow.lst{K:PySem.W.Frag}{H:Hp}{p:Addr}{o:HO}{xs:List V}(h:H p=some (.lst xs)):Grow K H (upd H p o):=.put (fun ys e=>by rw[h]at e;cases e) (fun u ys e=>by rw[h]at e;cases e)
mutual
theorem Rep.mono{K:PySem.W.Frag}{H H':Hp}(g:Grow K H H'):∀{d:D} {v:V},Rep K H d v->Rep K H' d v
 |.non,_,h=>h
 |.bl _,_,h=>h
 |.int _,_,h=>h
 |.str _,_,h=>h
 |.ty _,_,h=>h
 |.ref _,_,h=>h
 |.rol ds,_,h=>by
  rw[Rep]at h ⊢
  obtain⟨a,xs,e,h1,h2⟩:=h
  exact⟨a,xs,e,g.f _ _ h1,aA.mono g h2⟩
 |.tup ds,_,h=>by
  rw[Rep]at h ⊢
  obtain⟨a,xs,e,h1,h2⟩:=h
  exact⟨a,xs,e,g.t _ _ h1,aA.mono g h2⟩
theorem aA.mono{K:PySem.W.Frag}{H H':Hp}(g:Grow K H H'):∀{ds:List D} {xs:List V},aA K H ds xs->aA K H' ds xs
 |[],_,h=>h
 |d::ds,_,h=>by
  rw[aA]at h ⊢
  obtain⟨x,r,e,h1,h2⟩:=h
  exact⟨x,r,e,Rep.mono g h1,aA.mono g h2⟩
end
section
variable{K:PySem.W.Frag}{H H':Hp}
theorem aA.nil:aA K H [] []:=by rw[aA]
theorem aA.cons{d:D}{ds:List D}{x:V}{r:List V}(a:Rep K H d x)(b:aA K H ds r):aA K H (d::ds) (x::r):=by rw[aA];exact⟨x,r,rfl,a,b⟩
theorem aA.length:∀{ds:List D} {xs:List V},aA K H ds xs->ds.length=xs.length
 |[],xs,h=>by rw[aA]at h;subst h;rfl
 |d::ds,xs,h=>by
  rw[aA]at h
  obtain⟨x,r,rfl,_,h2⟩:=h
  simp[aA.length h2]
theorem aA.get:∀{ds:List D} {xs:List V} {i:Nat} {d:D},aA K H ds xs->ds[i]?=some d->∃x,xs[i]?=some x/\Rep K H d x
 |[],_,_,_,_,e=>by simp at e
 |_::_,xs,0,_,h,e=>by
  rw[aA]at h
  obtain⟨x,r,rfl,h1,_⟩:=h
  simp at e;subst e
  exact⟨x,rfl,h1⟩
 |_::ds,xs,i+1,d,h,e=>by
  rw[aA]at h
  obtain⟨x,r,rfl,_,h2⟩:=h
  simpa using aA.get (i:=i) (d:=d) h2 (by simpa using e)
theorem aA.set{d:D}{x:V}(a:Rep K H d x):∀{ds:List D} {xs:List V} (i:Nat),aA K H ds xs->aA K H (ds.set i d) (xs.set i x)
 |[],_,_,h=>by rw[aA]at h;subst h;simp[aA.nil]
 |_::_,_,0,h=>by
  rw[aA]at h
  obtain⟨y,r,rfl,_,h2⟩:=h
  exact .cons a h2
 |_::ds,_,i+1,h=>by
  rw[aA]at h
  obtain⟨y,r,rfl,h1,h2⟩:=h
  exact .cons h1 (aA.set a i h2)
theorem aA.append:∀{ds es:List D} {xs ys:List V},aA K H ds xs->aA K H es ys->aA K H (ds++es) (xs++ys)
 |[],_,_,_,h,k=>by rw[aA]at h;subst h;exact k
 |_::ds,_,_,_,h,k=>by
  rw[aA]at h
  obtain⟨y,r,rfl,h1,h2⟩:=h
  exact .cons h1 (aA.append h2 k)
theorem aA.of_get:∀{ds:List D} {xs:List V},ds.length=xs.length->(∀(i:Nat) d x,ds[i]?=some d->xs[i]?=some x->Rep K H d x)->aA K H ds xs
 |[],[],_,_=>.nil
 |[],_::_,h,_=>by simp at h
 |_::_,[],h,_=>by simp at h
 |d::ds,x::xs,h,k=>.cons (k 0 d x rfl rfl) (aA.of_get (by simpa using h) fun i d x a b=>k (i+1) d x (by simpa using a) (by simpa using b))
theorem aA.take{ds:List D}{xs:List V}(n:Nat)(h:aA K H ds xs):aA K H (ds.take n) (xs.take n):=by
 refine .of_get (by simp[h.length]) fun i d x a b=>?_
 have hi:i<n:=by
  rw[List.getElem?_take]at a;split at a
  ·assumption
  ·cases a
 rw[List.getElem?_take_of_lt hi]at a b;obtain⟨y,e,r⟩:=h.get a;rw[e]at b;cases b;exact r
theorem aA.drop{ds:List D}{xs:List V}(n:Nat)(h:aA K H ds xs):aA K H (ds.drop n) (xs.drop n):=by refine .of_get (by simp[h.length]) fun i d x a b=>?_;rw[List.getElem?_drop]at a b;obtain⟨y,e,r⟩:=h.get a;rw[e]at b;cases b;exact r
theorem jV:∀(ns:List Int),aA K H (ns.map D.int) (ns.map V.int)
 |[]=>.nil
 |n::ns=>.cons (by rw[Rep]) (jV ns)
end
def zJ(a C:Addr):Heap->Prop:=fun h=>∃o,h.get? a=some o/\o.cls=.ref C
inductive MO where
 |lst (ds:List D)|err (C:Addr)
 |dct (n:Nat) (P:List Int->Bool)
 |gen (A:PySem.W.Frag->Hp->Addr->Prop)
abbrev MH:=Addr->Option MO
def km(K:PySem.W.Frag)(H:Hp)(a:Addr):MO->Prop
 |.lst ds=>∃xs,H a=some (.lst xs)/\aA K H ds xs
 |.err C=>H a=some (.ext (zJ a C))
 |.dct n P=>∃kvs:List (List Key×V),H a=some (.dT kvs)/\kvs.length<=n/\∀k:List Int,(kvs.any fun kv=>decide (kv.1=k.map Sum.inl))=P k
 |.gen A=>A K H a/\H a≠none/\∀H',Grow K H H'->H' a=H a->A K H' a
def Abs(K:PySem.W.Frag)(H:Hp)(M:MH):Prop:=∀a o,M a=some o->km K H a o
def ay(M:MH)(a:Addr)(o:MO):MH:=fun b=>if b=a then some o else M b
theorem ag{M:MH}{a:Addr}{o:MO}:ay M a o a=some o:=by unfold ay;rw[if_pos rfl]
theorem au{M:MH}{a b:Addr}{o:MO}(h:b≠a):ay M a o b=M b:=by unfold ay;rw[if_neg h]
theorem bL{M:MH}{a:Addr}{o u:MO}:ay (ay M a o) a u=ay M a u:=by funext b;unfold ay;split<;>rfl
section
variable{K:PySem.W.Frag}{H H':Hp}{M:MH}
theorem km.some{a:Addr}{o:MO}(h:km K H a o):H a≠none:=by
 cases o with
 |lst ds=>
  obtain⟨xs,h1,_⟩:=h
  rw[h1];simp
 |err C=>rw[show H a=_ from h];simp
 |dct n P=>
  obtain⟨kvs,h1,_⟩:=h
  rw[h1];simp
 |gen A=>exact h.2.1
theorem Abs.fresh(h:Abs K H M){p:Addr}(hp:H p=none):M p=none:=by
 cases e:M p with
 |none=>rfl
 |some o=>exact absurd hp (h p o e).some
theorem km.f6{a:Addr}{o:MO}(g:Grow K H H')(e:H' a=H a)(h:km K H a o):km K H' a o:=by
 cases o with
 |lst ds=>
  obtain⟨xs,h1,h2⟩:=h
  exact⟨xs,e.trans h1,h2.mono g⟩
 |err C=>exact e.trans h
 |dct n P=>
  obtain⟨kvs,h1,h2⟩:=h
  exact⟨kvs,e.trans h1,h2⟩
 |gen A=>exact⟨h.2.2 H' g e,fun z=>h.2.1 (by rw[<-e];exact z),fun H2 g2 e2=>h.2.2 H2 (g.trans g2) (e2.trans e)⟩
theorem Abs.new{p:Addr}{o:HO}(h:Abs K H M)(hp:H p=none):Abs K (upd H p o) M:=fun a u e=>by
 have ne:a≠p:=fun z=>by subst z;rw[h.fresh hp]at e;cases e
 exact(h a u e).f6 (.new hp) (az ne)
theorem Abs.ny{p:Addr}{xs:List V}{ds:List D}(h:Abs K H M)(hp:H p=none)(r:aA K H ds xs):Abs K (upd H p (.lst xs)) (ay M p (.lst ds)):=fun a u e=>by
 by_cases ne:a=p
 ·subst ne;rw[ag]at e;cases e;exact⟨xs,aB,r.mono (.new hp)⟩
 ·rw[au ne]at e;exact(h a u e).f6 (.new hp) (az ne)
theorem Abs.uu{p:Addr}{xs ys:List V}{ds:List D}(h:Abs K H M)(hp:H p=some (.lst xs))(r:aA K H ds ys):Abs K (upd H p (.lst ys)) (ay M p (.lst ds)):=fun a u e=>by
 by_cases ne:a=p
 ·subst ne;rw[ag]at e;cases e;exact⟨ys,aB,r.mono (.lst hp)⟩
 ·rw[au ne]at e;exact(h a u e).f6 (.lst hp) (az ne)
theorem Abs.sub{M':MH}(h:Abs K H M)(s:∀a o,M' a=some o->M a=some o):Abs K H M':=fun a o e=>h a o (s a o e)
end
abbrev DS:=List (Option D)
structure Slots(K:PySem.W.Frag)(H:Hp)(δ:DS)(σ:L2.St):Prop where
 len:δ.length=σ.length
 at':∀(i:Nat) d,δ[i]?=some (some d)->∃v,σ[i]?=some (some v)/\Rep K H d v
section
variable{K:PySem.W.Frag}{H H':Hp}{δ:DS}{σ:L2.St}
theorem Slots.mono(g:Grow K H H')(h:Slots K H δ σ):Slots K H' δ σ:=⟨h.len,fun i d e=>let⟨v,a,b⟩:=h.at' i d e;⟨v,a,b.mono g⟩⟩
theorem Slots.set{d:D}{v:V}(r:Rep K H d v)(i:Nat)(h:Slots K H δ σ):Slots K H (δ.set i (some d)) (σ.set i (some v)):=by
 refine⟨by simp[h.len],fun j e q=>?_⟩;rw[List.getElem?_set]at q;by_cases hij:i=j
 ·subst hij;rw[if_pos rfl]at q;by_cases hl:i<δ.length
  ·rw[if_pos hl]at q;cases q;exact⟨v,by rw[List.getElem?_set,if_pos rfl,if_pos (by rw[<-h.len];exact hl)],r⟩
  ·rw[if_neg hl]at q;cases q
 ·rw[if_neg hij]at q;obtain⟨v',e1,e2⟩:=h.at' j e q;exact⟨v',by rw[List.getElem?_set,if_neg hij];exact e1,e2⟩
theorem gW{N:List Str}{ds:List D}{vs:List V}(r:aA K H ds vs):Slots K H (ds.map some++List.replicate (N.length-ds.length) none) (L2.start N vs):=by
 have hl:=r.length;refine⟨by unfold L2.start;simp[hl],fun i d e=>?_⟩;unfold L2.start;by_cases hi:i<ds.length
 ·rw[List.getElem?_append_left (by simpa using hi),List.getElem?_map]at e;cases q:ds[i]? with
  |none=>rw[q]at e;cases e
  |some d'=>
   rw[q]at e;cases e
   obtain⟨x,e1,e2⟩:=r.get q
   refine⟨x,?_,e2⟩
   rw[List.getElem?_append_left (by simp;omega),List.getElem?_map,e1];rfl
 ·rw[List.getElem?_append_right (by simpa using hi),List.getElem?_replicate]at e;split at e<;>cases e
end
abbrev DK:=D->MH->Prop
abbrev TD:=DS->MH->DK->Prop
abbrev TTD:=DS->MH->(Bool->MH->Prop)->Prop
abbrev TAD:=DS->MH->(List D->MH->Prop)->Prop
structure EndsD where
 nx:DS->MH->Prop
 rt:DK
 bk:DS->MH->Prop:=fun _ _=>False
 ct:DS->MH->Prop:=fun _ _=>False
abbrev TSD:=EndsD->DS->MH->Prop
section
variable(K:PySem.W.Frag)
def Fin(H:Hp)(R:DK)(Q:VK):Prop:=∀d M' v H',Grow K H H'->Rep K H' d v->Abs K H' M'->R d M'->Q v H'
def t6(H:Hp)(R:Bool->MH->Prop)(Q:Bool->Hp->Prop):Prop:=∀b M' H',Grow K H H'->Abs K H' M'->R b M'->Q b H'
def FinA(H:Hp)(R:List D->MH->Prop)(Q:List V->Hp->Prop):Prop:=∀ds M' vs H',Grow K H H'->aA K H' ds vs->Abs K H' M'->R ds M'->Q vs H'
def lift(t:TD):TE:=fun σ H Q=>∃δ M R,Slots K H δ σ/\Abs K H M/\t δ M R/\Fin K H R Q
def liftT(t:TTD):TT:=fun σ H Q=>∃δ M R,Slots K H δ σ/\Abs K H M/\t δ M R/\t6 K H R Q
def vp(t:TAD):TA:=fun σ H Q=>∃δ M R,Slots K H δ σ/\Abs K H M/\t δ M R/\FinA K H R Q
structure EndsOk(H:Hp)(B:EndsD)(E:Ends):Prop where
 nx:∀δ M σ H',Grow K H H'->Slots K H' δ σ->Abs K H' M->B.nx δ M->E.nx σ H'
 rt:∀d M v H',Grow K H H'->Rep K H' d v->Abs K H' M->B.rt d M->E.rt v H'
 bk:∀δ M σ H',Grow K H H'->Slots K H' δ σ->Abs K H' M->B.bk δ M->E.bk σ H'
 ct:∀δ M σ H',Grow K H H'->Slots K H' δ σ->Abs K H' M->B.ct δ M->E.ct σ H'
def pH(t:TSD):TS:=fun E σ H=>∃δ M,Slots K H δ σ/\Abs K H M/\∃B,EndsOk K H B E/\t B δ M
end
def DE(X:Cx)(e:Expr)(t:TD):Prop:=PE X e (lift X.K t)
def DT(X:Cx)(e:Expr)(t:TTD):Prop:=PT X e (liftT X.K t)
def DW(X:Cx)(e:Expr)(t:TTD):Prop:=PW X e (liftT X.K t)
def DA(X:Cx)(es:List Expr)(t:TAD):Prop:=PA X es (vp X.K t)
def DSt(X:Cx)(st:Stmt)(t:TSD):Prop:=PS X st (pH X.K t)
def DSs(X:Cx)(st:List Stmt)(t:TSD):Prop:=PSs X st (pH X.K t)
theorem aT{X:Cx}{e:Expr}{t t':TE}(h:PE X e t)(k:∀σ H Q,t' σ H Q->t σ H Q):PE X e t':=fun pins s σ H Q I q=>h pins s σ H Q I (k σ H Q q)
theorem mU{X:Cx}{e:Expr}{t t':TT}(h:PT X e t)(k:∀σ H Q,t' σ H Q->t σ H Q):PT X e t':=fun pins s σ H Q I q=>h pins s σ H Q I (k σ H Q q)
theorem rH{X:Cx}{e:Expr}{t t':TT}(h:PW X e t)(k:∀σ H Q,t' σ H Q->t σ H Q):PW X e t':=fun wh pins s σ H Q I q=>h wh pins s σ H Q I (k σ H Q q)
theorem sk{X:Cx}{e:List Expr}{t t':TA}(h:PA X e t)(k:∀σ H Q,t' σ H Q->t σ H Q):PA X e t':=fun pos pins s σ H Q I q=>h pos pins s σ H Q I (k σ H Q q)
theorem bZ{X:Cx}{e:Stmt}{t t':TS}(h:PS X e t)(k:∀D σ H,t' D σ H->t D σ H):PS X e t':=fun pins s σ H D I q=>h pins s σ H D I (k D σ H q)
theorem kJ{X:Cx}{e:List Stmt}{t t':TS}(h:PSs X e t)(k:∀D σ H,t' D σ H->t D σ H):PSs X e t':=fun pins s σ H D I q=>h pins s σ H D I (k D σ H q)
section
variable{K:PySem.W.Frag}{H H1 H':Hp}
theorem Fin.go{R:DK}{Q:VK}(g:Grow K H H1)(h:Fin K H R Q):Fin K H1 R Q:=fun d M v H' g'=>h d M v H' (g.trans g')
theorem t6.go{R:Bool->MH->Prop}{Q:Bool->Hp->Prop}(g:Grow K H H1)(h:t6 K H R Q):t6 K H1 R Q:=fun b M H' g'=>h b M H' (g.trans g')
theorem EndsOk.go{B:EndsD}{E:Ends}(g:Grow K H H1)(h:EndsOk K H B E):EndsOk K H1 B E:=⟨fun d M v H' g'=>h.nx d M v H' (g.trans g'),fun d M v H' g'=>h.rt d M v H' (g.trans g'),fun d M v H' g'=>h.bk d M v H' (g.trans g'),fun d M v H' g'=>h.ct d M v H' (g.trans g')⟩
end
section
variable{X:Cx}
inductive tVarD(i:Nat)(δ:DS)(M:MH)(Q:DK):Prop
 |mk (d:D) (h:δ[i]?=some (some d)) (q:Q d M):tVarD i δ M Q
def tCD(d:D):TD:=fun _ M Q=>Q d M
theorem dv(i:Nat){x:Str}{pos:Pos}(hN:X.N[i]?=some x:=by rfl)(hv:Vis X.env.scope x:=by first|exact Or.inl rfl|exact Or.inr (Or.inl rfl)|exact Or.inr (Or.inr rfl))(hd:(x==("__debug__":Str))=false:=by decide)
 (hcd:(x==("__classdict__":Str))=false:=by decide):DE X (.Name x pos) (tVarD i):=
 aT (sN hN hv hd hcd) fun σ H Q z9=>by
  obtain⟨δ,M,R,hs,hM,⟨d,e,r⟩,fin⟩:=z9
  obtain⟨v,e1,e2⟩:=hs.at' i d e
  exact⟨v,e1,fin d M v H .refl e2 hM r⟩
theorem dc{e:Expr}{v:V}{d:D}(h:PE X e (tC v))(r:∀H,Rep X.K H d v):DE X e (tCD d):=aT h fun σ H Q zz1_0=>by obtain⟨δ,M,R,hs,hM,q,fin⟩:=zz1_0;exact(fin d M v H .refl (r H) hM q)
theorem ae{i j pos}:DE X (.Constant (.int i) j pos) (tCD (.int i)):=dc xt fun _=>by rw[Rep]
theorem l5{i j pos}:DE X (.Constant (.bool i) j pos) (tCD (.bl i)):=dc zh fun _=>by rw[Rep]
theorem cj{j pos}:DE X (.Constant .none j pos) (tCD .non):=dc wg fun _=>by rw[Rep]
theorem cM{x j pos}:DE X (.Constant (.str x) j pos) (tCD (.str x)):=dc vY fun _=>by rw[Rep]
theorem ym{x:Str}{n:String}{pos:Pos}(hg:Gl X x)(hm:X.mg x=none)(hv:bootBuiltins x=some (.type n))(hn:x≠"__name__":=by decide)(hd:(x==("__debug__":Str))=false:=by decide):DE X (.Name x pos) (tCD (.ty n)):=dc (sS (v:=.ty n) hg hm hv rfl hn hd) fun _=>by rw[Rep]
theorem dJ{x:Str}{a:Addr}{pos:Pos}(hg:Gl X x)(hm:X.mg x=some (.ref a))(hd:(x==("__debug__":Str))=false:=by decide):DE X (.Name x pos) (tCD (.ref a)):=dc (oG (v:=.ref a) hg hm rfl hd) fun _=>by rw[Rep]
end
abbrev R2D:=D->D->MH->DK->Prop
def lz(K:PySem.W.Frag)(r:R2D):R2:=fun v u H Q=>∃x y M R,Rep K H x v/\Rep K H y u/\Abs K H M/\r x y M R/\Fin K H R Q
def OpD(X:Cx)(f:Value->Value->Sem Value)(r:R2D):Prop:=OpR X f (lz X.K r)
def pZ(r:R2D)(ta tb:TD):TD:=fun δ M Q=>ta δ M fun x M1=>tb δ M1 fun y M2=>r x y M2 Q
theorem gE{X:Cx}{f:Value->Value->Sem Value}{r r':R2}(h:OpR X f r)(k:∀x y H Q,r' x y H Q->r x y H Q):OpR X f r':=fun pins s σ H x y v u Q I a b q=>h pins s σ H x y v u Q I a b (k _ _ _ _ q)
theorem iw{K:PySem.W.Frag}{r:R2D}{ta tb:TD}{σ:L2.St}{H:Hp}{Q:VK}(h:lift K (pZ r ta tb) σ H Q):tOp (lz K r) (lift K ta) (lift K tb) σ H Q:=by obtain⟨δ,M,R,hs,hM,q,fin⟩:=h;refine⟨δ,M,_,hs,hM,q,fun x M1 v H1 g1 r1 a1 q1=>?_⟩;exact⟨δ,M1,_,hs.mono g1,a1,q1,fun y M2 u H2 g2 r2 a2 q2=>⟨x,y,M2,R,r1.mono g2,r2,a2,q2,fin.go (g1.trans g2)⟩⟩
section
variable{X:Cx}{a b:Expr}{ta tb:TD}{pos:Pos}
theorem ar{op:Operator}{r:R2D}(ho:OpD X (binaryOp op) r)(ha:DE X a ta)(hb:DE X b tb):DE X (.BinOp a op b pos) (pZ r ta tb):=aT (x9 ho ha hb) fun _ _ _ h=>iw h
theorem cy{op:CmpOp}{r:R2D}(ho:OpD X (compareOp op) r)(ha:DE X a ta)(hb:DE X b tb)(hm:behindInMarks op b=false:=by exact rm _):DE X (.Compare a [op] [b] pos) (pZ r ta tb):=aT (um ho ha hb hm) fun _ _ _ h=>iw h
inductive IsBl(x:D)(M:MH)(Q:Bool->MH->Prop):Prop
 |mk (c:Bool) (h:x=.bl c) (q:Q c M):IsBl x M Q
def tBD(t:TD):TTD:=fun δ M Q=>t δ M fun x M1=>IsBl x M1 Q
theorem ka{K:PySem.W.Frag}{t:TD}{t':TE}(ht:∀σ H Q,lift K t σ H Q->t' σ H Q){σ:L2.St}{H:Hp}{Q:Bool->Hp->Prop}(h:liftT K (tBD t) σ H Q):uY t' σ H Q:=by obtain⟨δ,M,R,hs,hM,q,fin⟩:=h;refine ht _ _ _ ⟨δ,M,_,hs,hM,q,fun x M1 v H1 g1 r1 a1 zz2_0=>?_⟩;obtain⟨c,e,q1⟩:=zz2_0;subst e;rw[Rep]at r1;exact⟨c,r1,fin c M1 H1 g1 a1 q1⟩
theorem aJ{op:CmpOp}{r:R2D}(ho:OpD X (compareOp op) r)(ha:DE X a ta)(hb:DE X b tb)(hm:behindInMarks op b=false:=by exact rm _):DT X (.Compare a [op] [b] pos) (tBD (pZ r ta tb)):=mU (uH ho ha hb hm) fun _ _ _ h=>ka (fun _ _ _ h=>iw h) h
theorem cm{e:Expr}{t:TD}(h:DE X e t)(he:∀whole,isTrue e X.env whole=(do let v <-whole;standAt e.pos;holding [v] (truthy v)):=by intro _;rfl):DT X e (tBD t):=
 mU (xD h he) fun _ _ _ h=>ka (t':=lift X.K t) (fun _ _ _ h=>h) h
end
section
variable{X:Cx}{a b c:Expr}{ta tb:TD}{tA tB':TTD}{rest:List Expr}{pos:Pos}
def u0(t u:TTD):TTD:=fun δ M Q=>t δ M fun c M1=>if c=true then u δ M1 Q else Q false M1
def zb(t u:TTD):TTD:=fun δ M Q=>t δ M fun c M1=>if c=true then Q true M1 else u δ M1 Q
def fh(t:TTD):TTD:=fun δ M Q=>t δ M fun c M1=>Q (!c) M1
theorem dX(ha:DT X a tA):DW X (.BoolOp .And [a] pos) tA:=tP ha
theorem xF(ha:DT X a tA):DW X (.BoolOp .Or [a] pos) tA:=vW ha
theorem fJ(ha:DT X a tA)(hb:DW X (.BoolOp .And (b::rest) pos) tB'):DW X (.BoolOp .And (a::b::rest) pos) (u0 tA tB'):=
 rH (xx ha hb) fun σ H Q zz3_0=>by obtain⟨δ,M,R,hs,hM,q,fin⟩:=zz3_0;exact(⟨δ,M,_,hs,hM,q,fun c M1 H1 g1 a1 q1=>by
  cases c with
  |true=>rw[if_pos rfl]at q1 ⊢;exact⟨δ,M1,R,hs.mono g1,a1,q1,fin.go g1⟩
  |false=>rw[if_neg Bool.false_ne_true]at q1 ⊢;exact fin _ _ _ g1 a1 q1⟩)
theorem yy(ha:DT X a tA)(hb:DW X (.BoolOp .Or (b::rest) pos) tB'):DW X (.BoolOp .Or (a::b::rest) pos) (zb tA tB'):=
 rH (zf ha hb) fun σ H Q zz4_0=>by obtain⟨δ,M,R,hs,hM,q,fin⟩:=zz4_0;exact(⟨δ,M,_,hs,hM,q,fun c M1 H1 g1 a1 q1=>by
  cases c with
  |true=>rw[if_pos rfl]at q1 ⊢;exact fin _ _ _ g1 a1 q1
  |false=>rw[if_neg Bool.false_ne_true]at q1 ⊢;exact⟨δ,M1,R,hs.mono g1,a1,q1,fin.go g1⟩⟩)
theorem mP{e:Expr}{t:TTD}(h:DW X e t):DT X e t:=PW.pt h
theorem rV(ha:DT X a tA):DT X (.UnaryOp .Not a pos) (fh tA):=mU (xb ha) fun σ H Q zz5_0=>by obtain⟨δ,M,R,hs,hM,q,fin⟩:=zz5_0;exact(⟨δ,M,_,hs,hM,q,fun c M1 H1 g1 a1 q1=>fin _ _ _ g1 a1 q1⟩)
def rz(ta tb:TD):TD:=fun δ M Q=>ta δ M fun x M1=>IsBl x M1 fun c M1=>if c=true then tb δ M1 Q else Q (.bl false) M1
def vx(ta tb:TD):TD:=fun δ M Q=>ta δ M fun x M1=>IsBl x M1 fun c M1=>if c=true then Q (.bl true) M1 else tb δ M1 Q
theorem kL{op}{t:TD}(h:DE X a t):DE X (.BoolOp op [a] pos) t:=vK h
theorem ji(ha:DE X a ta)(hb:DE X (.BoolOp .And (b::rest) pos) tb):DE X (.BoolOp .And (a::b::rest) pos) (rz ta tb):=
 aT (wI ha hb) fun σ H Q ⟨δ,M,R,hs,hM,q,fin⟩=>⟨δ,M,_,hs,hM,q,fun x M1 v H1 g1 r1 a1 z9=>by
  obtain⟨c,e,q1⟩:=z9
  subst e
  rw[Rep]at r1
  refine⟨c,r1,?_⟩
  cases c with
  |true=>rw[if_pos rfl]at q1 ⊢;exact⟨δ,M1,R,hs.mono g1,a1,q1,fin.go g1⟩
  |false=>rw[if_neg Bool.false_ne_true]at q1 ⊢;exact fin _ _ _ _ g1 (by rw[Rep]) a1 q1⟩
theorem yg(ha:DE X a ta)(hb:DE X (.BoolOp .Or (b::rest) pos) tb):DE X (.BoolOp .Or (a::b::rest) pos) (vx ta tb):=
 aT (xH ha hb) fun σ H Q ⟨δ,M,R,hs,hM,q,fin⟩=>⟨δ,M,_,hs,hM,q,fun x M1 v H1 g1 r1 a1 z9=>by
  obtain⟨c,e,q1⟩:=z9
  subst e
  rw[Rep]at r1
  refine⟨c,r1,?_⟩
  cases c with
  |true=>rw[if_pos rfl]at q1 ⊢;exact fin _ _ _ _ g1 (by rw[Rep]) a1 q1
  |false=>rw[if_neg Bool.false_ne_true]at q1 ⊢;exact⟨δ,M1,R,hs.mono g1,a1,q1,fin.go g1⟩⟩
def zK(t:TTD)(ta tb:TD):TD:=fun δ M Q=>t δ M fun c M1=>if c=true then ta δ M1 Q else tb δ M1 Q
theorem sQ(hc:DT X c tA)(ha:DE X a ta)(hb:DE X b tb):DE X (.IfExp c a b pos) (zK tA ta tb):=
 aT (rR hc ha hb) fun σ H Q zz7_0=>by obtain⟨δ,M,R,hs,hM,q,fin⟩:=zz7_0;exact(⟨δ,M,_,hs,hM,q,fun c M1 H1 g1 a1 q1=>by
  cases c with
  |true=>rw[if_pos rfl]at q1 ⊢;exact⟨δ,M1,R,hs.mono g1,a1,q1,fin.go g1⟩
  |false=>rw[if_neg Bool.false_ne_true]at q1 ⊢;exact⟨δ,M1,R,hs.mono g1,a1,q1,fin.go g1⟩⟩)
end
def zW(r:D->MH->DK->Prop)(ta:TD):TD:=fun δ M Q=>ta δ M fun x M1=>r x M1 Q
def uS(K:PySem.W.Frag)(r:D->MH->DK->Prop):V->Hp->VK->Prop:=fun v H Q=>∃x M R,Rep K H x v/\Abs K H M/\r x M R/\Fin K H R Q
theorem rJ{X:Cx}{a:Expr}{ta:TD}{pos:Pos}{op:UnaryOp}{r:D->MH->DK->Prop}(ho:UnR X (unaryOp op) (uS X.K r))(ha:DE X a ta):DE X (.UnaryOp op a pos) (zW r ta):=aT (y8 ho ha) fun σ H Q zz8_0=>by obtain⟨δ,M,R,hs,hM,q,fin⟩:=zz8_0;exact(⟨δ,M,_,hs,hM,q,fun x M1 v H1 g1 r1 a1 q1=>⟨x,M1,R,r1,a1,q1,fin.go g1⟩⟩)
def yE:TAD:=fun _ M Q=>Q [] M
def xE(ta:TD)(tr:TAD):TAD:=fun δ M Q=>ta δ M fun x M1=>tr δ M1 fun xs M2=>Q (x::xs) M2
section
variable{X:Cx}{e:Expr}{es:List Expr}{te:TD}{t:TAD}{pos:Pos}
theorem af:DA X [] yE:=sk nN fun σ H Q zz9_0=>by obtain⟨δ,M,R,hs,hM,q,fin⟩:=zz9_0;exact(fin _ _ _ _ .refl .nil hM q)
theorem aa(ha:DE X e te)(hr:DA X es t)(hs:starEach (e::es) X.env=(false,eval e X.env)::starEach es X.env:=by rfl):DA X (e::es) (xE te t):=
 sk (gj ha hr hs) fun σ H Q zz10_0=>by obtain⟨δ,M,R,hs,hM,q,fin⟩:=zz10_0;exact(⟨δ,M,_,hs,hM,q,fun x M1 v H1 g1 r1 a1 q1=>
  ⟨δ,M1,_,hs.mono g1,a1,q1,fun xs M2 vs H2 g2 r2 a2 q2=>fin _ _ _ _ (g1.trans g2) (.cons (r1.mono g2) r2) a2 q2⟩⟩)
def yP(t:TAD):TD:=fun δ M Q=>t δ M fun xs M1=>xs.length<=sizeLine/\Q (.tup xs) M1
def yQ(t:TAD):TD:=fun δ M Q=>t δ M fun xs M1=>xs.length<=sizeLine/\∀p,M1 p=none->Q (.ref p) (ay M1 p (.lst xs))
theorem aH{x1}(h:DA X es t):DE X (.Tuple es x1 pos) (yP t):=aT (vO h) fun σ H Q zz11_0=>by obtain⟨δ,M,R,hs,hM,q,fin⟩:=zz11_0;exact(⟨δ,M,_,hs,hM,q,fun xs M1 vs H1 g1 r1 a1 zz12_0=>by obtain⟨z,q1⟩:=zz12_0;exact(⟨by rw[<-r1.length];exact z,fun p hp=>fin _ _ _ _ (g1.trans (.new hp)) (by rw[Rep];exact⟨p,vs,rfl,SqT.of aB,r1.mono (.new hp)⟩) (a1.new hp) q1⟩)⟩)
theorem fX(h:DA X es t):DE X (.List es pos) (yQ t):=aT (vS h) fun σ H Q zz13_0=>by obtain⟨δ,M,R,hs,hM,q,fin⟩:=zz13_0;exact(⟨δ,M,_,hs,hM,q,fun xs M1 vs H1 g1 r1 a1 zz14_0=>by obtain⟨z,q1⟩:=zz14_0;exact(⟨by rw[<-r1.length];exact z,fun p hp=>fin _ _ _ _ (g1.trans (.new hp)) (by rw[Rep]) (a1.ny hp r1) (q1 p (a1.fresh hp))⟩)⟩)
end
def IxD(X:Cx)(r:R2D):Prop:=IxR X (lz X.K r)
theorem xu{X:Cx}{r r':R2}(h:IxR X r)(k:∀x y H Q,r' x y H Q->r x y H Q):IxR X r':=fun e1 e2 pins s σ H x y v u Q I a b q=>h e1 e2 pins s σ H x y v u Q I a b (k _ _ _ _ q)
theorem wL{X:Cx}{a b:Expr}{ta tb:TD}{pos:Pos}{r:R2D}(hr:IxD X r)(ha:DE X a ta)(hb:DE X b tb)(hs:kD b):DE X (.Subscript a b pos) (pZ r ta tb):=aT (xK hr ha hb hs) fun _ _ _ h=>iw h
inductive AtD(ds:List D)(i:Int)(M:MH)(Q:DK):Prop
 |mk (d:D) (h:atI ds i=some d) (q:Q d M):AtD ds i M Q
inductive AtM(a:Addr)(i:Int)(M:MH)(Q:DK):Prop
 |mk (ds:List D) (d:D) (h:M a=some (.lst ds)) (q:atI ds i=some d/\Q d M):AtM a i M Q
def wK:R2D:=fun x y M Q=>match x,y with
 |.tup ds,.int i=>AtD ds i M Q
 |.rol ds,.int i=>AtD ds i M Q
 |.ref a,.int i=>AtM a i M Q
 |_,_=>False
theorem aA.atI{K:PySem.W.Frag}{H:Hp}{ds:List D}{xs:List V}{i:Int}{d:D}(h:aA K H ds xs)(e:L2.atI ds i=some d):∃x,L2.atI xs i=some x/\Rep K H d x:=by
 unfold L2.atI at e ⊢;rw[<-h.length];cases q:ixN ds.length i with
 |none=>rw[q]at e;cases e
 |some j=>
  rw[q]at e
  exact h.get e
theorem qm{K:PySem.W.Frag}{v u:V}{H:Hp}{Q:VK}(h:lz K wK v u H Q):rIx K v u H Q:=by
 obtain⟨x,y,M,R,r1,r2,a,q,fin⟩:=h;unfold wK at q;split at q
 ·obtain⟨d,e,q⟩:=q;obtain rfl:u=.int _:=r2;rw[Rep]at r1;obtain⟨p,xs,rfl,hq,rs⟩:=r1;obtain⟨x,e1,e2⟩:=rs.atI e;exact .inr (.inl ⟨p,xs,_,x,rfl,rfl,hq,e1,fin _ _ _ _ .refl e2 a q⟩)
 ·obtain⟨d,e,q⟩:=q;obtain rfl:u=.int _:=r2;rw[Rep]at r1;obtain⟨p,xs,rfl,hq,rs⟩:=r1;obtain⟨x,e1,e2⟩:=rs.atI e;exact .inl ⟨p,xs,_,x,rfl,rfl,hq.sql,e1,fin _ _ _ _ .refl e2 a q⟩
 ·obtain⟨ds,d,e0,e,q⟩:=q;obtain rfl:u=.int _:=r2;obtain rfl:v=.ref _:=r1;obtain⟨xs,hx,rs⟩:=a _ _ e0;obtain⟨x,e1,e2⟩:=rs.atI e;exact .inl ⟨_,xs,_,x,rfl,rfl,SqL.of hx,e1,fin _ _ _ _ .refl e2 a q⟩
 ·exact q.elim
theorem aq{X:Cx}{a b:Expr}{ta tb:TD}{pos:Pos}(ha:DE X a ta)(hb:DE X b tb)(hs:kD b:=by exact fun _ _=>rfl):DE X (.Subscript a b pos) (pZ wK ta tb):=wL (xu vM fun _ _ _ _ h=>qm h) ha hb hs
def Bd(n:Nat)(i:Int):Prop:=i.natAbs<2^n
instance(n:Nat)(i:Int):Decidable (Bd n i):=inferInstanceAs (Decidable (i.natAbs<2^n))
theorem Bd.mono{m n:Nat}{i:Int}(h:Bd m i)(l:m<=n):Bd n i:=Nat.lt_of_lt_of_le h (Nat.pow_le_pow_right (by decide) l)
theorem Bd.bits{n:Nat}{i:Int}(h:Bd n i):Builtin.Int.intBits i<=n:=by
 unfold Builtin.Int.intBits;split
 ·exact Nat.zero_le _
 ·rename_i hz;have h0:i.natAbs≠0:=fun e=>hz (by simpa using Int.natAbs_eq_zero.mp e);exact(Nat.log2_lt h0).mpr h
theorem Bd.log2{n:Nat}{i:Int}(h:Bd n i)(hn:0<n):i.natAbs.log2<n:=by
 by_cases h0:i.natAbs=0
 ·rw[h0];simpa using hn
 ·exact(Nat.log2_lt h0).mpr h
theorem Bd.mul{m n:Nat}{i j:Int}(a:Bd m i)(b:Bd n j):Bd (m+n) (i*j):=by unfold Bd at *;rw[Int.natAbs_mul,Nat.pow_add];exact Nat.mul_lt_mul'' a b
theorem Bd.add{n:Nat}{i j:Int}(a:Bd n i)(b:Bd n j):Bd (n+1) (i+j):=by unfold Bd at *;rw[Nat.pow_succ];have:=Int.natAbs_add_le i j;omega
theorem Bd.sub{n:Nat}{i j:Int}(a:Bd n i)(b:Bd n j):Bd (n+1) (i-j):=by unfold Bd at *;rw[Nat.pow_succ];have:=Int.natAbs_sub_le i j;omega
theorem Bd.neg{n:Nat}{i:Int}(a:Bd n i):Bd n (-i):=by unfold Bd at *;rw[Int.natAbs_neg];exact a
theorem Bd.of_le{n:Nat}{i j:Int}(a:Bd n i)(b:j.natAbs<=i.natAbs):Bd n j:=Nat.lt_of_le_of_lt b a
theorem bO{n:Nat}{i:Int}(h:i.natAbs<2^64)(l:64<=n:=by decide):Bd n i:=Bd.mono (m:=64) h l
theorem cS{i j:Int}(a:Bd 1000000 i)(b:Bd 1000000 j):IntMulOk i j:=.of_bits (Nat.le_trans a.bits (by decide)) (Nat.le_trans b.bits (by decide))
theorem bg{i j:Int}(a:Bd 64 i):IntMulOk i j:=.of_left a.bits
theorem ia{i j:Int}(a:Bd 64 j):IntMulOk i j:=.of_right a.bits
def rI2(C:Int->Int->Prop)(g:Int->Int->D):R2D:=fun x y M Q=>match x,y with
 |.int i,.int j=>C i j/\Q (g i j) M
 |_,_=>False
section
variable{X:Cx}
theorem cC{f:Value->Value->Sem Value}{C:Int->Int->Prop}{g:Int->Int->V}{g':Int->Int->D}(h:OpR X f (rI C g))(e:∀i j H,Rep X.K H (g' i j) (g i j)):OpD X f (rI2 C g'):=
 gE h fun v u H Q z9=>by
  obtain⟨x,y,M,R,r1,r2,a,q,fin⟩:=z9
  unfold rI2 at q
  split at q
  ·obtain rfl:v=.int _:=r1
   obtain rfl:u=.int _:=r2
   exact⟨_,_,rfl,rfl,q.1,fin _ _ _ _ .refl (e _ _ _) a q.2⟩
  ·exact q.elim
theorem ri0{f:Value->Value->Sem Value}{g:Int->Int->V}(h:OpR X f (rI0 g)):OpR X f (rI (fun _ _=>True) g):=gE h fun x y H Q zz15_0=>by obtain⟨i,j,a,b,_,q⟩:=zz15_0;exact(⟨i,j,a,b,q⟩)
def yZ:R2D:=rI2 (fun _ _=>True) fun i j=>.int (i-j)
def yo:R2D:=rI2 IntMulOk fun i j=>.int (i*j)
def CFd(i j:Int):Prop:=j≠0/\Bd 8000 j
def zU:R2D:=rI2 CFd fun i j=>.int (i.fdiv j)
def yt:R2D:=rI2 (fun _ j=>j≠0) fun i j=>.int (i.fmod j)
def ya:R2D:=rI2 yI fun i j=>.int (i^j.toNat)
def zS:R2D:=rI2 (fun _ _=>True) fun i j=>.bl (decide (i<j))
def zR:R2D:=rI2 (fun _ _=>True) fun i j=>.bl (decide (i<=j))
def zC:R2D:=rI2 (fun _ _=>True) fun i j=>.bl (decide (j<i))
def zX:R2D:=rI2 (fun _ _=>True) fun i j=>.bl (decide (j<=i))
theorem bP:OpD X (binaryOp .Sub) yZ:=cC (ri0 vN) fun _ _ _=>by rw[Rep]
theorem aI:OpD X (binaryOp .Mult) yo:=cC (opI fun _ _ _ _ _ _ _ hc q=>mul_int q hc) fun _ _ _=>by rw[Rep]
theorem jO:OpD X (binaryOp .FloorDiv) zU:=cC (opI fun _ _ _ _ _ _ _ hc q=>floordiv_int hc.1 q (.inl (PyProof.noPylong_of_log2 (Nat.lt_trans (hc.2.log2 (by decide)) (by decide))))) fun _ _ _=>by rw[Rep]
theorem fz:OpD X (binaryOp .Mod) yt:=cC uj fun _ _ _=>by rw[Rep]
theorem gM:OpD X (binaryOp .Pow) ya:=cC vV fun _ _ _=>by rw[Rep]
theorem yl:OpD X (compareOp .Lt) zS:=cC (ri0 y6) fun _ _ _=>by rw[Rep]
theorem xO:OpD X (compareOp .LtE) zR:=cC (ri0 xX) fun _ _ _=>by rw[Rep]
theorem yM:OpD X (compareOp .Gt) zC:=cC (ri0 yr) fun _ _ _=>by rw[Rep]
theorem yJ:OpD X (compareOp .GtE) zX:=cC (ri0 xW) fun _ _ _=>by rw[Rep]
def vd:D->MH->DK->Prop:=fun x M Q=>match x with
 |.int i=>Q (.int (-i)) M
 |_=>False
theorem kI:UnR X (unaryOp .USub) (uS X.K vd):=fun pins s σ H x v Q I r zz16_0=>by obtain⟨d,M,R,r1,a,q,fin⟩:=zz16_0;exact(vB pins s σ H x v Q I r (by
 unfold vd at q
 split at q
 ·obtain rfl:x=.int _:=r1;exact⟨_,rfl,fin _ _ _ _ .refl (by rw[Rep]) a q⟩
 ·exact q.elim))
def vj:R2D:=fun x y M Q=>match x,y with
 |.int i,.int j=>Q (.int (i+j)) M
 |.tup a,.tup b=>a≠[]/\a.length+b.length<=sizeLine/\Q (.tup (a++b)) M
 |.ref a,.ref b=>∃xs ys,M a=some (.lst xs)/\M b=some (.lst ys)/\xs.length+ys.length<=sizeLine/\∀p,M p=none->Q (.ref p) (ay M p (.lst (xs++ys)))
 |_,_=>False
theorem aS:OpD X (binaryOp .Add) vj:=gE (xc.or (tS.or xl)) fun v u H Q z9=>by
 obtain⟨x,y,M,R,r1,r2,a,q,fin⟩:=z9;unfold vj at q;split at q
 ·obtain rfl:v=.int _:=r1;obtain rfl:u=.int _:=r2;exact .inl ⟨_,_,rfl,rfl,fin _ _ _ _ .refl (by rw[Rep]) a q⟩
 ·rename_i da db;obtain⟨hn,hl,q⟩:=q;rw[Rep]at r1;obtain⟨p,xs,rfl,hx,rx⟩:=r1;obtain⟨p',ys,rfl,hy,ry⟩:∃a xs,u=V.ref a/\SqT X.K H a xs/\aA X.K H db xs:=by rw[Rep]at r2;exact r2
  have l1:=rx.length;have l2:=ry.length;refine .inr (.inl ⟨p,p',xs,ys,rfl,rfl,hx,hy,?_,by omega,fun e=>?_,fun _ z hz=>?_⟩)
  ·intro e;subst e;exact hn (List.length_eq_zero_iff.mp (by simpa using l1))
  ·subst e;obtain rfl:db=[]:=List.length_eq_zero_iff.mp (by simpa using l2);exact fin _ _ _ _ .refl (by rw[Rep,List.append_nil];exact⟨p,xs,rfl,hx,rx⟩) a q
  ·exact fin _ _ _ _ (.new hz) (by rw[Rep];exact⟨z,_,rfl,SqT.of aB,(rx.append ry).mono (.new hz)⟩) (a.new hz) q
 ·obtain⟨ds,es,e1,e2,hl,q⟩:=q;obtain rfl:v=.ref _:=r1;obtain rfl:u=.ref _:=r2;obtain⟨xs,hx,rx⟩:=a _ _ e1;obtain⟨ys,hy,ry⟩:=a _ _ e2;have l1:=rx.length;have l2:=ry.length;exact .inr (.inr ⟨_,_,xs,ys,rfl,rfl,hx,hy,by omega,fun z hz=>fin _ _ _ _ (.new hz) (by rw[Rep]) (a.ny hz (rx.append ry)) (q z (a.fresh hz))⟩)
 ·exact q.elim
end
mutual
inductive Pd(M:MH):D->PyData->Prop
 |non:Pd M .non .none
 |bl (b:Bool):Pd M (.bl b) (.bool b)
 |int (i:Int):Pd M (.int i) (.int i)
 |str (x:Str):Pd M (.str x) (.str x)
 |tup {ds:List D} {ps:List PyData}:Pds M ds ps->Pd M (.tup ds) (.tuple ps)
 |rol {ds:List D} {ps:List PyData}:Pds M ds ps->Pd M (.rol ds) (.list ps)
 |lst {a:Addr} {ds:List D} {ps:List PyData}:M a=some (.lst ds)->Pds M ds ps->Pd M (.ref a) (.list ps)
inductive Pds(M:MH):List D->List PyData->Prop
 |nil:Pds M [] []
 |cons {d:D} {ds:List D} {p:PyData} {ps:List PyData}:Pd M d p->Pds M ds ps->Pds M (d::ds) (p::ps)
end
mutual
def pdO:D->Option PyData
 |.non=>some .none
 |.bl b=>some (.bool b)
 |.int i=>some (.int i)
 |.str x=>some (.str x)
 |.tup ds=>match nk ds with
  |some ps=>some (.tuple ps)
  |none=>none
 |_=>none
def nk:List D->Option (List PyData)
 |[]=>some []
 |d::ds=>match pdO d,nk ds with
  |some p,some ps=>some (p::ps)
  |_,_=>none
end
mutual
theorem Pd.of{M:MH}:∀{d:D} {p:PyData},pdO d=some p->Pd M d p
 |.non,p,h=>by rw[pdO]at h;cases h;exact .non
 |.bl b,p,h=>by rw[pdO]at h;cases h;exact .bl b
 |.int i,p,h=>by rw[pdO]at h;cases h;exact .int i
 |.str x,p,h=>by rw[pdO]at h;cases h;exact .str x
 |.ty _,p,h=>by simp[pdO]at h
 |.ref _,p,h=>by simp[pdO]at h
 |.rol _,p,h=>by simp[pdO]at h
 |.tup ds,p,h=>by
  rw[pdO]at h
  cases e:nk ds with
  |none=>rw[e]at h;cases h
  |some ps=>rw[e]at h;cases h;exact .tup (Pds.of e)
theorem Pds.of{M:MH}:∀{ds:List D} {ps:List PyData},nk ds=some ps->Pds M ds ps
 |[],ps,h=>by rw[nk]at h;cases h;exact .nil
 |d::ds,ps,h=>by
  rw[nk]at h
  cases e1:pdO d with
  |none=>rw[e1]at h;cases h
  |some p=>
   cases e2:nk ds with
   |none=>rw[e1,e2]at h;cases h
   |some qs=>rw[e1,e2]at h;cases h;exact .cons (Pd.of e1) (Pds.of e2)
end
section
variable{X:Cx}{pins:List (Addr×Obj)}{σ:L2.St}{H:Hp}{s:Shared}{M:MH}
mutual
theorem bh(I:Inv X pins σ H s)(hM:Abs X.K H M):∀{d:D} {p:PyData} {v:V} {u:Value},Pd M d p->Rep X.K H d v->L2.RelV v u->∃as,Reads s.heap u p as
 |_,_,_,_,.non,r,e=>by rw[Rep]at r;subst r;cases e;exact⟨_,.none⟩
 |_,_,_,_,.bl b,r,e=>by rw[Rep]at r;subst r;cases e;exact⟨_,.bool b⟩
 |_,_,_,_,.int i,r,e=>by rw[Rep]at r;subst r;obtain⟨t,rfl⟩:=e;exact⟨_,.int i t⟩
 |_,_,_,_,.str x,r,e=>by rw[Rep]at r;subst r;obtain⟨t,rfl⟩:=e;exact⟨_,.str x t⟩
 |_,_,_,_,.tup hp,r,e=>by
  rw[Rep]at r
  obtain⟨a,xs,rfl,hq,rs⟩:=r
  cases e
  obtain⟨its,rv,⟨o,h1,h2,n,h3⟩,_⟩:=I.tuple hq
  obtain⟨as,hh⟩:=eQ I hM hp rs rv
  exact⟨as,reads_tuple_at h1 h2 h3 (by simpa using hh)⟩
 |_,_,_,_,.rol hp,r,e=>by
  rw[Rep]at r
  obtain⟨a,xs,rfl,hq,rs⟩:=r
  cases e
  obtain⟨its,rv,⟨o,n,h1,h2,_,h3⟩,_⟩:=I.list hq.sql
  obtain⟨as,hh⟩:=eQ I hM hp rs rv
  exact⟨_,reads_list_at h1 h2 h3 (by simpa using hh)⟩
 |_,_,_,_,.lst ha hp,r,e=>by
  rw[Rep]at r
  subst r
  cases e
  obtain⟨xs,hx,rs⟩:=hM _ _ ha
  obtain⟨its,rv,⟨o,n,h1,h2,_,h3⟩,_⟩:=I.list (SqL.of hx)
  obtain⟨as,hh⟩:=eQ I hM hp rs rv
  exact⟨_,reads_list_at h1 h2 h3 (by simpa using hh)⟩
theorem eQ(I:Inv X pins σ H s)(hM:Abs X.K H M):∀{ds:List D} {ps:List PyData} {vs:List V} {us:List Value},Pds M ds ps->aA X.K H ds vs->Vals vs us->∃as,ReadsAll s.heap us ps as
 |_,_,_,_,.nil,r,e=>by rw[aA]at r;subst r;cases e;exact⟨_,.nil⟩
 |_,_,_,_,.cons h1 h2,r,e=>by
  rw[aA]at r
  obtain⟨x,r,rfl,r1,r2⟩:=r
  cases e with
  |cons e1 e2=>
   obtain⟨as,q1⟩:=bh I hM h1 r1 e1
   obtain⟨bs,q2⟩:=eQ I hM h2 r2 e2
   exact⟨_,.cons q1 q2⟩
end
end
inductive rEqG(g:Bool->Bool)(x y:D)(M:MH)(Q:DK):Prop
 |mk (p q:PyData) (h1:Pd M x p) (h2:Pd M y q) (h3:SeqAt.shaped p=true) (h4:SeqAt.shaped q=true) (hq:Q (.bl (g (PyData.eqv p q))) M):rEqG g x y M Q
def yw:R2D:=fun x y M Q=>match x,y with
 |.int i,.int j=>Q (.bl (decide (i=j))) M
 |.bl i,.bl j=>Q (.bl (decide (i=j))) M
 |x,y=>rEqG (fun b=>b) x y M Q
def vZ:R2D:=fun x y M Q=>match x,y with
 |.int i,.int j=>Q (.bl (!decide (i=j))) M
 |.bl i,.bl j=>Q (.bl (!decide (i=j))) M
 |x,y=>rEqG (fun b=>!b) x y M Q
section
variable{X:Cx}
theorem vG(hu:X.A.units+64<cLine):OpD X (compareOp .Eq) (rEqG fun b=>b):=by intro pins s σ H v u v' u' Q I rv ru h;obtain⟨x,y,M,R,r1,r2,a,⟨p,q,p1,p2,s1,s2,hq⟩,fin⟩:=h;obtain⟨as,q1⟩:=bh I a p1 r1 rv;obtain⟨bs,q2⟩:=bh I a p2 r2 ru;exact eq_dataH q1 q2 s1 s2 hu ⟨.bl _,H,I,rfl,fin _ _ _ _ .refl (by rw[Rep]) a hq⟩
theorem wZ(hu:X.A.units+64<cLine):OpD X (compareOp .NotEq) (rEqG fun b=>!b):=by intro pins s σ H v u v' u' Q I rv ru h;obtain⟨x,y,M,R,r1,r2,a,⟨p,q,p1,p2,s1,s2,hq⟩,fin⟩:=h;obtain⟨as,q1⟩:=bh I a p1 r1 rv;obtain⟨bs,q2⟩:=bh I a p2 r2 ru;exact ne_dataH q1 q2 s1 s2 hu ⟨.bl _,H,I,rfl,fin _ _ _ _ .refl (by rw[Rep]) a hq⟩
theorem ig{i j:Int}:(i==j)=decide (i=j):=by by_cases h:i=j<;>simp[h]
theorem mv{i j:Bool}:(i==j)=decide (i=j):=by cases i<;>cases j<;>rfl
theorem cK(hu:X.A.units+64<cLine):OpD X (compareOp .Eq) yw:=gE (vG hu) fun v u H Q z9=>by
 obtain⟨x,y,M,R,r1,r2,a,q,fin⟩:=z9;refine⟨x,y,M,R,r1,r2,a,?_,fin⟩;unfold yw at q;split at q
 ·exact⟨_,_,.int _,.int _,rfl,rfl,by simpa[PyData.eqv,ig]using q⟩
 ·exact⟨_,_,.bl _,.bl _,rfl,rfl,by simpa[PyData.eqv,mv]using q⟩
 ·exact q
theorem j8(hu:X.A.units+64<cLine):OpD X (compareOp .NotEq) vZ:=gE (wZ hu) fun v u H Q z9=>by
 obtain⟨x,y,M,R,r1,r2,a,q,fin⟩:=z9;refine⟨x,y,M,R,r1,r2,a,?_,fin⟩;unfold vZ at q;split at q
 ·exact⟨_,_,.int _,.int _,rfl,rfl,by simpa[PyData.eqv,ig]using q⟩
 ·exact⟨_,_,.bl _,.bl _,rfl,rfl,by simpa[PyData.eqv,mv]using q⟩
 ·exact q
def isC:D->D->Option Bool
 |.non,.non=>some true
 |.non,.bl _=>some false
 |.bl _,.non=>some false
 |.bl a,.bl b=>some (decide (a=b))
 |_,.non=>some false
 |_,.bl _=>some false
 |_,_=>none
inductive rIsG(g:Bool->Bool)(x y:D)(M:MH)(Q:DK):Prop
 |mk (b:Bool) (h:isC x y=some b) (q:Q (.bl (g b)) M):rIsG g x y M Q
def zL:R2D:=rIsG fun b=>b
def uz:R2D:=rIsG fun b=>!b
theorem jD{K:PySem.W.Frag}{H:Hp}{x y:D}{b:Bool}{v u:V}{v' u':Value}(h:isC x y=some b)(r1:Rep K H x v)(r2:Rep K H y u)(rv:L2.RelV v v')(ru:L2.RelV u u'):plainIs v' u'=true/\(v'==u')=b:=by
 have hu:u'=.none\/∃c,u'=.bool c:=by
  cases y with
  |non=>rw[Rep]at r2;subst r2;exact .inl ru
  |bl c=>rw[Rep]at r2;subst r2;exact .inr ⟨c,ru⟩
  |_=>cases x<;>exact absurd (show(none:Option Bool)=some b from h) (fun z=>nomatch z)
 cases x with
 |non=>
  rw[Rep]at r1;subst r1;cases (show v'=Value.none from rv)
  cases y<;>try exact absurd (show(none:Option Bool)=some b from h) (fun z=>nomatch z)
  ·rw[Rep]at r2;subst r2;cases (show u'=Value.none from ru);cases (show some true=some b from h);exact⟨rfl,rfl⟩
  ·rw[Rep]at r2;subst r2;cases (show u'=Value.bool _ from ru);cases (show some false=some b from h);exact⟨rfl,rfl⟩
 |bl c=>
  rw[Rep]at r1;subst r1;cases (show v'=Value.bool _ from rv)
  cases y<;>try exact absurd (show(none:Option Bool)=some b from h) (fun z=>nomatch z)
  ·rw[Rep]at r2;subst r2;cases (show u'=Value.none from ru);cases (show some false=some b from h);exact⟨rfl,rfl⟩
  ·rename_i c';rw[Rep]at r2;subst r2;cases (show u'=Value.bool _ from ru);cases (show some (decide (c=c'))=some b from h);refine⟨rfl,?_⟩;cases c<;>cases c'<;>rfl
 |int i=>
  rw[Rep]at r1;subst r1;obtain⟨t,rfl⟩:=rv
  cases y<;>first|exact absurd (show(none:Option Bool)=some b from h) (fun z=>nomatch z)|(cases (show some false=some b from h);rcases hu with rfl|⟨c,rfl⟩<;>exact⟨rfl,rfl⟩)
 |str i=>
  rw[Rep]at r1;subst r1;obtain⟨t,rfl⟩:=rv
  cases y<;>first|exact absurd (show(none:Option Bool)=some b from h) (fun z=>nomatch z)|(cases (show some false=some b from h);rcases hu with rfl|⟨c,rfl⟩<;>exact⟨rfl,rfl⟩)
 |ty i=>
  rw[Rep]at r1;subst r1;cases (show v'=Value.type _ from rv)
  cases y<;>first|exact absurd (show(none:Option Bool)=some b from h) (fun z=>nomatch z)|(cases (show some false=some b from h);rcases hu with rfl|⟨c,rfl⟩<;>exact⟨rfl,rfl⟩)
 |ref i=>
  rw[Rep]at r1;subst r1;cases (show v'=Value.ref _ from rv)
  cases y<;>first|exact absurd (show(none:Option Bool)=some b from h) (fun z=>nomatch z)|(cases (show some false=some b from h);rcases hu with rfl|⟨c,rfl⟩<;>exact⟨rfl,rfl⟩)
 |rol i=>
  rw[Rep]at r1;obtain⟨a,xs,rfl,_,_⟩:=r1;cases (show v'=Value.ref _ from rv)
  cases y<;>first|exact absurd (show(none:Option Bool)=some b from h) (fun z=>nomatch z)|(cases (show some false=some b from h);rcases hu with rfl|⟨c,rfl⟩<;>exact⟨rfl,rfl⟩)
 |tup i=>
  rw[Rep]at r1;obtain⟨a,xs,rfl,_,_⟩:=r1;cases (show v'=Value.ref _ from rv)
  cases y<;>first|exact absurd (show(none:Option Bool)=some b from h) (fun z=>nomatch z)|(cases (show some false=some b from h);rcases hu with rfl|⟨c,rfl⟩<;>exact⟨rfl,rfl⟩)
theorem uR:OpD X (compareOp .Is) zL:=by intro pins s σ H v u v' u' Q I rv ru h;obtain⟨x,y,M,R,r1,r2,a,⟨b,e,q⟩,fin⟩:=h;obtain⟨e1,e2⟩:=jD e r1 r2 rv ru;exact wpAny_is_plain e1 ⟨.bl b,H,I,by rw[e2];rfl,fin _ _ _ _ .refl (by rw[Rep]) a q⟩
theorem lE:OpD X (compareOp .IsNot) uz:=by intro pins s σ H v u v' u' Q I rv ru h;obtain⟨x,y,M,R,r1,r2,a,⟨b,e,q⟩,fin⟩:=h;obtain⟨e1,e2⟩:=jD e r1 r2 rv ru;exact wpAny_isNot_plain e1 ⟨.bl (!b),H,I,by rw[e2];rfl,fin _ _ _ _ .refl (by rw[Rep]) a q⟩
end
abbrev RC:=List D->MH->DK->Prop
def vg(K:PySem.W.Frag)(r:RC):List V->Hp->VK->Prop:=fun vs H Q=>∃ds M R,aA K H ds vs/\Abs K H M/\r ds M R/\Fin K H R Q
def di(X:Cx)(f:Value)(r:RC):Prop:=bB X f (vg X.K r)
theorem bC{X:Cx}{f:Value}{r r':List V->Hp->VK->Prop}(h:bB X f r)(k:∀xs H Q,r' xs H Q->r xs H Q):bB X f r':=fun pins s σ H xs us Q I a q=>h pins s σ H xs us Q I a (k _ _ _ q)
def wO(r:RC)(t:TAD):TD:=fun δ M Q=>t δ M fun ds M1=>r ds M1 Q
theorem pN{K:PySem.W.Frag}{r:RC}{t:TAD}{σ:L2.St}{H:Hp}{Q:VK}(h:lift K (wO r t) σ H Q):tCB (vg K r) (vp K t) σ H Q:=by obtain⟨δ,M,R,hs,hM,q,fin⟩:=h;exact⟨δ,M,_,hs,hM,q,fun ds M1 vs H1 g1 r1 a1 q1=>⟨ds,M1,R,r1,a1,q1,fin.go g1⟩⟩
section
variable{X:Cx}{x:Str}{p pos:Pos}{e:Expr}{es:List Expr}{t:TAD}{id T:String}{r:RC}
theorem ax(hc:di X (.builtin id) r)(hg:Gl X x)(hm:X.mg x=none)(hv:bootBuiltins x=some (.builtin id))(ha:DA X (e::es) t)(hn:x≠"__name__":=by decide)(hdb:(x==("__debug__":Str))=false:=by decide) (he:starEach (e::es) X.env=(false,eval e X.env)::starEach es X.env:=by rfl) (hpl:(backTo pos (starEach es X.env)).any (·.1)=false:=by rfl):DE X (.Call (.Name x p) (e::es) [] pos) (wO r t):=aT (rZ hc hg hm hv ha hn hdb he hpl) fun _ _ _ h=>pN h
theorem cI(hc:di X (.type T) r)(hg:Gl X x)(hm:X.mg x=none)(hv:bootBuiltins x=some (.type T))(ha:DA X (e::es) t)(hn:x≠"__name__":=by decide)(hdb:(x==("__debug__":Str))=false:=by decide) (he:starEach (e::es) X.env=(false,eval e X.env)::starEach es X.env:=by rfl) (hpl:(backTo pos (starEach es X.env)).any (·.1)=false:=by rfl):DE X (.Call (.Name x p) (e::es) [] pos) (wO r t):=aT (ql hc hg hm hv ha hn hdb he hpl) fun _ _ _ h=>pN h
theorem bU{K:PySem.W.Frag}{H:Hp}{d:D}{vs:List V}(h:aA K H [d] vs):∃v,vs=[v]/\Rep K H d v:=by rw[aA]at h;obtain⟨x,r,rfl,h1,h2⟩:=h;rw[aA]at h2;subst h2;exact⟨x,rfl,h1⟩
theorem g9{K:PySem.W.Frag}{H:Hp}{d e:D}{vs:List V}(h:aA K H [d,e] vs):∃v u,vs=[v,u]/\Rep K H d v/\Rep K H e u:=by rw[aA]at h;obtain⟨x,r,rfl,h1,h2⟩:=h;obtain⟨u,rfl,h3⟩:=bU h2;exact⟨x,u,rfl,h1,h3⟩
def zg:RC:=fun ds M Q=>match ds with
 |[.int i]=>Q (.int (i.natAbs:Int)) M
 |_=>False
theorem ly:di X (.builtin "abs") zg:=bC rl fun vs H Q z9=>by
 obtain⟨ds,M,R,rs,a,q,fin⟩:=z9;unfold zg at q;split at q
 ·rename_i i;obtain⟨v,rfl,r⟩:=bU rs;rw[Rep]at r;subst r;have e:(if i<0 then -i else i)=(i.natAbs:Int):=by split<;>omega
  exact⟨_,rfl,fin _ _ _ _ .refl (by rw[Rep,e]) a q⟩
 ·exact q.elim
def xI:RC:=fun ds M Q=>match ds with
 |[.int i,.int j]=>Q (.int (max i j)) M
 |_=>False
def zj:RC:=fun ds M Q=>match ds with
 |[.int i,.int j]=>Q (.int (min i j)) M
 |_=>False
theorem wJ(hc:X.calm=true):di X (.builtin "max") xI:=bC (pR hc) fun vs H Q z9=>by
 obtain⟨ds,M,R,rs,a,q,fin⟩:=z9;unfold xI at q;split at q
 ·rename_i i j;obtain⟨v,u,rfl,r,r'⟩:=g9 rs;rw[Rep]at r;subst r;have r2:u=.int j:=by rw[Rep]at r';exact r'
  subst r2;have e:(if j>i then j else i)=max i j:=by split<;>omega
  exact⟨_,_,rfl,fin _ _ _ _ .refl (by rw[Rep,e]) a q⟩
 ·exact q.elim
theorem wB(hc:X.calm=true):di X (.builtin "min") zj:=bC (qF hc) fun vs H Q z9=>by
 obtain⟨ds,M,R,rs,a,q,fin⟩:=z9;unfold zj at q;split at q
 ·rename_i i j;obtain⟨v,u,rfl,r,r'⟩:=g9 rs;rw[Rep]at r;subst r;have r2:u=.int j:=by rw[Rep]at r';exact r'
  subst r2;have e:(if j<i then j else i)=min i j:=by split<;>omega
  exact⟨_,_,rfl,fin _ _ _ _ .refl (by rw[Rep,e]) a q⟩
 ·exact q.elim
def yd:RC:=fun ds M Q=>match ds with
 |[.tup xs]=>Q (.int (xs.length:Int)) M
 |[.rol xs]=>Q (.int (xs.length:Int)) M
 |[.ref l]=>∃xs,M l=some (.lst xs)/\Q (.int (xs.length:Int)) M
 |_=>False
theorem ck:di X (.builtin "len") yd:=bC lg fun vs H Q z9=>by
 obtain⟨ds,M,R,rs,a,q,fin⟩:=z9;unfold yd at q;split at q
 ·obtain⟨v,rfl,r⟩:=bU rs;rw[Rep]at r;obtain⟨l,xs,rfl,h1,h2⟩:=r;exact⟨l,xs,rfl,.inr h1,fin _ _ _ _ .refl (by rw[Rep,h2.length]) a q⟩
 ·obtain⟨v,rfl,r⟩:=bU rs;rw[Rep]at r;obtain⟨l,xs,rfl,h1,h2⟩:=r;exact⟨l,xs,rfl,.inl h1.sql,fin _ _ _ _ .refl (by rw[Rep,h2.length]) a q⟩
 ·obtain⟨v,rfl,r⟩:=bU rs;rw[Rep]at r;subst r;obtain⟨xs,e,q⟩:=q;obtain⟨ys,h1,h2⟩:=a _ _ e;exact⟨_,ys,rfl,.inl (SqL.of h1),fin _ _ _ _ .refl (by rw[Rep,h2.length]) a q⟩
 ·exact q.elim
def qU:RC:=fun ds M Q=>match ds with
 |[.tup xs]=>Q (.tup xs) M
 |[.rol xs]=>Q (.tup xs) M
 |[.ref l]=>∃xs,M l=some (.lst xs)/\Q (.tup xs) M
 |_=>False
theorem mD:di X (.type "tuple") qU:=bC jx fun vs H Q z9=>by
 obtain⟨ds,M,R,rs,a,q,fin⟩:=z9;unfold qU at q;split at q
 ·obtain⟨v,rfl,r⟩:=bU rs;rw[Rep]at r;obtain⟨l,xs,rfl,h1,h2⟩:=r;exact⟨l,xs,rfl,.inr ⟨h1,fin _ _ _ _ .refl (by rw[Rep];exact⟨l,xs,rfl,h1,h2⟩) a q⟩⟩
 ·obtain⟨v,rfl,r⟩:=bU rs;rw[Rep]at r;obtain⟨l,xs,rfl,h1,h2⟩:=r;exact⟨l,xs,rfl,.inl ⟨h1.sql,fun p hp=>fin _ _ _ _ (.new hp) (by rw[Rep];exact⟨p,xs,rfl,SqT.of aB,h2.mono (.new hp)⟩) (a.new hp) q⟩⟩
 ·obtain⟨v,rfl,r⟩:=bU rs;rw[Rep]at r;subst r;obtain⟨xs,e,q⟩:=q;obtain⟨ys,h1,h2⟩:=a _ _ e;exact⟨_,ys,rfl,.inl ⟨SqL.of h1,fun p hp=>fin _ _ _ _ (.new hp) (by rw[Rep];exact⟨p,ys,rfl,SqT.of aB,h2.mono (.new hp)⟩) (a.new hp) q⟩⟩
 ·exact q.elim
def va:RC:=fun ds M Q=>match ds with
 |[.int i]=>Q (.int i) M
 |[.bl k]=>Q (.int (if k=true then 1 else 0)) M
 |_=>False
theorem nC:di X (.type "int") va:=bC qD fun vs H Q z9=>by
 obtain⟨ds,M,R,rs,a,q,fin⟩:=z9;unfold va at q;split at q
 ·obtain⟨v,rfl,r⟩:=bU rs;rw[Rep]at r;subst r;exact .inl ⟨_,rfl,fin _ _ _ _ .refl (by rw[Rep]) a q⟩
 ·obtain⟨v,rfl,r⟩:=bU rs;rw[Rep]at r;subst r;exact .inr ⟨_,rfl,fin _ _ _ _ .refl (by rw[Rep]) a q⟩
 ·exact q.elim
def tyN:D->Option String
 |.non=>some "NoneType"
 |.bl _=>some "bool"
 |.int _=>some "int"
 |.str _=>some "str"
 |.tup _=>some "tuple"
 |.rol _=>some "list"
 |_=>none
def lu(K:PySem.W.Frag):RC:=fun ds M Q=>match ds with
 |[x,.ty n]=>∃t b,tyN x=some t/\PySem.W.kitOne K (.type t) (.type n)=some b/\Q (.bl b) M
 |_=>False
theorem qj:di X (.builtin "isinstance") (lu X.K):=by
 intro pins s σ H vs us Q I rv z0;obtain⟨ds,M,R,rs,a,q,fin⟩:=z0;unfold lu at q;split at q
 ·rename_i x n;obtain⟨v,u,rfl,r,r'⟩:=g9 rs;rw[Rep]at r';subst r';obtain⟨v',u',rfl,rw0,ru⟩:=vals2 rv;cases (show u'=Value.type n from ru);obtain⟨t,b,et,e,q⟩:=q;have h:∀tk,EP X pins σ Q (.bool b) { s with toks:=tk }:=fun tk=>⟨.bl b,H,I.tok tk,rfl,fin _ _ _ _ .refl (by rw[Rep]) a q⟩;cases x with
  |non=>cases et;rw[Rep]at r;subst r;cases (show v'=Value.none from rw0);exact PySem.W.kia_one PySem.W.kitx_none I.kIn True.intro e (fun z=>nomatch z) h
  |bl y=>cases et;rw[Rep]at r;subst r;cases (show v'=Value.bool y from rw0);exact PySem.W.kia_one PySem.W.kitx_bool I.kIn True.intro e (fun z=>nomatch z) h
  |int y=>cases et;rw[Rep]at r;subst r;obtain⟨t,q⟩:=(show ∃t,v'=Value.int y t from rw0);cases q;exact PySem.W.kia_one PySem.W.kitx_int I.kIn True.intro e (fun z=>nomatch z) h
  |str y=>cases et;rw[Rep]at r;subst r;obtain⟨t,q⟩:=(show ∃t,v'=Value.str y t from rw0);cases q;exact PySem.W.kia_one PySem.W.kitx_str I.kIn True.intro e (fun z=>nomatch z) h
  |tup y=>
   cases et;rw[Rep]at r
   obtain⟨p,xs,rfl,h1,_⟩:=r
   cases (show v'=Value.ref p from rw0)
   obtain⟨its,_,⟨o,z1,z2,_⟩,_⟩:=I.tuple h1
   exact PySem.W.kia_one PySem.W.kitx_tuple I.kIn ⟨o,z1,z2⟩ e (fun z=>nomatch z) h
  |rol y=>
   cases et;rw[Rep]at r
   obtain⟨p,xs,rfl,h1,_⟩:=r
   cases (show v'=Value.ref p from rw0)
   obtain⟨its,_,⟨o,n,z1,z2,_⟩,_⟩:=I.list h1.sql
   exact PySem.W.kia_one PySem.W.kitx_list I.kIn ⟨o,z1,z2⟩ e (fun z=>nomatch z) h
  |_=>cases et
 ·exact q.elim
end
abbrev TGD:=D->DS->MH->(DS->MH->Prop)->Prop
abbrev oE:=List D->DS->MH->(DS->MH->Prop)->Prop
section
variable(K:PySem.W.Frag)
def sC(H:Hp)(R:DS->MH->Prop)(Q:L2.St->Hp->Prop):Prop:=∀δ' M' σ' H',Grow K H H'->Slots K H' δ' σ'->Abs K H' M'->R δ' M'->Q σ' H'
def xM(t:TGD):TG:=fun v σ H Q=>∃d δ M R,Rep K H d v/\Slots K H δ σ/\Abs K H M/\t d δ M R/\sC K H R Q
def xw(t:oE):TGs:=fun vs σ H Q=>∃ds δ M R,aA K H ds vs/\Slots K H δ σ/\Abs K H M/\t ds δ M R/\sC K H R Q
end
theorem sC.go{K:PySem.W.Frag}{H H1:Hp}{R:DS->MH->Prop}{Q:L2.St->Hp->Prop}(g:Grow K H H1)(h:sC K H R Q):sC K H1 R Q:=fun d M v H' g'=>h d M v H' (g.trans g')
def DG(X:Cx)(e:Expr)(t:TGD):Prop:=PG X e (xM X.K t)
def DGs(X:Cx)(es:List Expr)(t:oE):Prop:=PGs X es (xw X.K t)
theorem oB{X:Cx}{e:Expr}{t t':TG}(h:PG X e t)(k:∀v σ H Q,t' v σ H Q->t v σ H Q):PG X e t':=fun pins s σ H v u Q I r q=>h pins s σ H v u Q I r (k _ _ _ _ q)
theorem pB{X:Cx}{e:List Expr}{t t':TGs}(h:PGs X e t)(k:∀v σ H Q,t' v σ H Q->t v σ H Q):PGs X e t':=fun pins s σ H v u Q I r q=>h pins s σ H v u Q I r (k _ _ _ _ q)
section
variable{X:Cx}{pos:Pos}
def aR(i:Nat):TGD:=fun d δ M Q=>Q (δ.set i (some d)) M
theorem aG(i:Nat){x:Str}(hN:X.N.Nodup)(hi:X.N[i]?=some x:=by rfl)(hx:Loc X.env.scope x:=by first|exact Or.inl rfl|exact Or.inr rfl)(hf:X.fn x=true\/X.env.scope.names.lookup x=some .local:=by first|exact .inl rfl|exact .inr rfl|assumption):DG X (.Name x pos) (aR i):=oB (oU hN hi hx hf) fun v σ H Q zz17_0=>by obtain⟨d,δ,M,R,r,hs,a,q,fin⟩:=zz17_0;exact(fin _ _ _ _ .refl (hs.set r i) a q)
def yb:oE:=fun ds δ M Q=>ds=[]/\Q δ M
inductive gConsD(t:TGD)(u:oE)(ds:List D)(δ:DS)(M:MH)(Q:DS->MH->Prop):Prop
 |mk (d:D) (r:List D) (h:ds=d::r) (q:t d δ M fun δ' M'=>u r δ' M' Q):gConsD t u ds δ M Q
theorem bq:DGs X [] yb:=pB oO fun vs σ H Q z9=>by obtain⟨ds,δ,M,R,rs,hs,a,⟨e,q⟩,fin⟩:=z9;subst e;rw[aA]at rs;exact⟨rs,fin _ _ _ _ .refl hs a q⟩
theorem aE{e:Expr}{es:List Expr}{t:TGD}{u:oE}(h1:DG X e t)(h2:DGs X es u) (hs:(assignEach (e::es) X.env).map (·.2)=assign e X.env::(assignEach es X.env).map (·.2):=by rfl):DGs X (e::es) (gConsD t u):=pB (jc h1 h2 hs) fun vs σ H Q z9=>by obtain⟨ds,δ,M,R,rs,hs,a,⟨d,r,e,q⟩,fin⟩:=z9;subst e;rw[aA]at rs;obtain⟨x,xs,rfl,r1,r2⟩:=rs;exact⟨x,xs,rfl,d,δ,M,_,r1,hs,a,q,fun δ' M' σ' H' g' s' a' q'=>⟨r,δ',M',R,r2.mono g',s',a',q',fin.go g'⟩⟩
inductive gTupD(n:Nat)(t:oE)(d:D)(δ:DS)(M:MH)(Q:DS->MH->Prop):Prop
 |mk (ds:List D) (h:d=.tup ds) (q:ds.length=n/\t ds δ M Q):gTupD n t d δ M Q
theorem bX{es:List Expr}{k:Nat}{t:oE}{n:Nat}(hc:X.calm=true)(h:DGs X es t) (hn:(assignEach es X.env).length=n:=by rfl) (hst:(assignEach es X.env).findIdx? (·.1)=none:=by rfl):DG X (.Tuple es k pos) (gTupD n t):=oB (qZ hc h hn hst) fun v σ H Q z9=>by obtain⟨d,δ,M,R,r,hs,a,⟨ds,e,hl,q⟩,fin⟩:=z9;subst e;rw[Rep]at r;obtain⟨p,xs,rfl,h1,h2⟩:=r;exact⟨p,xs,rfl,h1,by rw[<-h2.length];exact hl,ds,δ,M,R,h2,hs,a,q,fin⟩
def vt:D->D->D->MH->(MH->Prop)->Prop:=fun o i v M Q=>match o,i with
 |.ref p,.int k=>∃ds j,M p=some (.lst ds)/\ixN ds.length k=some j/\Q (ay M p (.lst (ds.set j v)))
 |_,_=>False
def yc(to ti:TD):TGD:=fun v δ M Q=>to δ M fun o M1=>ti δ M1 fun i M2=>vt o i v M2 fun M3=>Q δ M3
theorem sf{o i:Expr}{to ti:TD}(ho:DE X o to)(hi:DE X i ti)
 (ha:∀v,assign (.Subscript o i pos) X.env v=(do
  let ov <-holding [v] (eval o X.env)
  let iv <-holding [v,ov] (eval i X.env)
  standAt pos
  holding [v,ov,iv] (setItem ov iv v)
  release [v,ov,iv] []):=by intro _;rfl):DG X (.Subscript o i pos) (yc to ti):=
 oB (vR ho hi set_list ha) fun v σ H Q ⟨d,δ,M,R,r,hs,a,q,fin⟩=>
  ⟨δ,M,_,hs,a,q,fun o M1 vo H1 g1 r1 a1 q1=>⟨δ,M1,_,hs.mono g1,a1,q1,fun i M2 vi H2 g2 r2 a2 q2=>by
   unfold vt at q2
   split at q2
   ·obtain⟨ds,j,e1,e2,q2⟩:=q2
    obtain rfl:vo=.ref _:=r1
    obtain rfl:vi=.int _:=r2
    obtain⟨xs,h1,h2⟩:=a2 _ _ e1
    refine⟨_,xs,_,j,rfl,rfl,h1,by rw[<-h2.length];exact e2,?_⟩
    have g3:Grow X.K H2 (upd H2 _ (.lst (xs.set j v))):=.lst h1
    exact fin _ _ _ _ ((g1.trans g2).trans g3) (hs.mono ((g1.trans g2).trans g3)) (a2.uu h1 (h2.set (r.mono (g1.trans g2)) j)) q2
   ·exact q2.elim⟩⟩
end
section
variable{X:Cx}{pos:Pos}{st:Stmt}{rest:List Stmt}{t u:TSD}
def bS:TSD:=fun B δ M=>B.nx δ M
def eG(t u:TSD):TSD:=fun B δ M=>t { B with nx:=u B } δ M
theorem aD:DSs X [] bS:=kJ uQ fun E σ H zz18_0=>by obtain⟨δ,M,hs,a,B,ok,q⟩:=zz18_0;exact(ok.nx _ _ _ _ .refl hs a q)
theorem ai(h1:DSt X st t)(h2:DSs X rest u):DSs X (st::rest) (eG t u):=kJ (gu h1 h2) fun E σ H zz19_0=>by obtain⟨δ,M,hs,a,B,ok,q⟩:=zz19_0;exact(⟨δ,M,hs,a,{ B with nx:=u B },⟨fun δ' M' σ' H' g s' a' q'=>⟨δ',M',s',a',B,ok.go g,q'⟩,ok.rt,ok.bk,ok.ct⟩,q⟩)
theorem ak(h1:DSt X st t):DSs X [st] t:=kz h1
def o9:TSD:=fun _ _ _=>False
theorem iU:DSt X st o9:=bZ rf fun E σ H zz23_0=>by obtain⟨δ,M,hs,a,B,ok,q⟩:=zz23_0;exact(q.elim)
theorem qq{sts:List Stmt}:DSs X sts o9:=kJ qy fun E σ H zz24_0=>by obtain⟨δ,M,hs,a,B,ok,q⟩:=zz24_0;exact(q.elim)
def dw(te:TD):TSD:=fun B δ M=>te δ M fun _ M1=>B.nx δ M1
theorem kP{e:Expr}{te:TD}(he:DE X e te)(hs:swapsWith e none pos.line X.env=pure false:=by rfl):DSt X (.Expr e pos) (dw te):=bZ (kx he hs) fun E σ H zz25_0=>by obtain⟨δ,M,hs,a,B,ok,q⟩:=zz25_0;exact(⟨δ,M,_,hs,a,q,fun d M1 v H1 g1 r1 a1 q1=>ok.nx _ _ _ _ g1 (hs.mono g1) a1 q1⟩)
def fm(te:TD):TSD:=fun B δ M=>te δ M B.rt
theorem av{e:Expr}{te:TD}(he:DE X e te):DSt X (.Return (some e) pos) (fm te):=bZ (wQ he) fun E σ H zz26_0=>by obtain⟨δ,M,hs,a,B,ok,q⟩:=zz26_0;exact(⟨δ,M,_,hs,a,q,fun d M1 v H1 g1 r1 a1 q1=>ok.rt _ _ _ _ g1 r1 a1 q1⟩)
def fj(c:TTD)(t u:TSD):TSD:=fun B δ M=>c δ M fun b M1=>if b=true then t B δ M1 else u B δ M1
theorem aP{c:Expr}{a b:List Stmt}{tc:TTD}(hc:DT X c tc)(ha:DSs X a t)(hb:DSs X b u):DSt X (.If c a b pos) (fj tc t u):=
 bZ (yD hc ha hb) fun E σ H zz28_0=>by obtain⟨δ,M,hs,a,B,ok,q⟩:=zz28_0;exact(⟨δ,M,_,hs,a,q,fun c M1 H1 g1 a1 q1=>by
  cases c with
  |true=>rw[if_pos rfl]at q1 ⊢;exact⟨δ,M1,hs.mono g1,a1,B,ok.go g1,q1⟩
  |false=>rw[if_neg Bool.false_ne_true]at q1 ⊢;exact⟨δ,M1,hs.mono g1,a1,B,ok.go g1,q1⟩⟩)
def dE(te:TD)(g:TGD):TSD:=fun B δ M=>te δ M fun d M1=>g d δ M1 B.nx
theorem dW{tg e:Expr}{te:TD}{g:TGD}(he:DE X e te)(hg:DG X tg g)(hs:swapsWithSole [tg] e pos.line X.env=pure false:=by rfl)(hw:swappedStores [tg] e X.env=pure none:=by rfl)
 (h1:(assignEach [tg] X.env).map (·.2)=[assign tg X.env]:=by rfl):DSt X (.Assign [tg] e pos) (dE te g):=
 bZ (vD he hg hs hw h1) fun E σ H zz29_0=>by obtain⟨δ,M,hs,a,B,ok,q⟩:=zz29_0;exact(⟨δ,M,_,hs,a,q,fun d M1 v H1 g1 r1 a1 q1=>
  ⟨d,δ,M1,B.nx,r1,hs.mono g1,a1,q1,fun δ' M' σ' H' g' s' a' q'=>ok.nx _ _ _ _ (g1.trans g') s' a' q'⟩⟩)
theorem aC(i:Nat){x:Str}{e:Expr}{te:TD}{pos':Pos}(hN:X.N.Nodup)(he:DE X e te)(hi:X.N[i]?=some x:=by rfl)(hx:Loc X.env.scope x:=by first|exact Or.inl rfl|exact Or.inr rfl)(hs:swapsWith e (some (.Name x pos')) pos.line X.env=pure false:=by rfl) (hf:X.fn x=true\/X.env.scope.names.lookup x=some .local:=by first|exact .inl rfl|exact .inr rfl|assumption):DSt X (.Assign [.Name x pos'] e pos) (dE te (aR i)):=bZ (xy hN hi hx he hs hf) fun E σ H zz30_0=>by obtain⟨δ,M,hs,a,B,ok,q⟩:=zz30_0;exact(⟨δ,M,_,hs,a,q,fun d M1 v H1 g1 r1 a1 q1=>ok.nx _ _ _ _ g1 ((hs.mono g1).set r1 i) a1 q1⟩)
def yq(i j:Nat)(ta:TAD):TSD:=fun B δ M=>ta δ M fun ds M1=>∃d e,ds=[d,e]/\B.nx ((δ.set i (some d)).set j (some e)) M1
theorem fP(i j:Nat){x y:Str}{a b:Expr}{ta:TAD}{px py pt:Pos}{kt k2 pt2}(hc:X.calm=true)(hN:X.N.Nodup)(ha:DA X [a,b] ta)(hij:i≠j:=by decide)(hi:X.N[i]?=some x:=by rfl)(hj:X.N[j]?=some y:=by rfl)
 (hx:X.env.scope.names.lookup x=some .local:=by rfl) (hy:X.env.scope.names.lookup y=some .local:=by rfl)
 (hw:swappedStores [.Tuple [.Name x px,.Name y py] kt pt] (.Tuple [a,b] k2 pt2) X.env=pure (some [x,y]):=by rfl)
 (hs:swapsWithSole [.Tuple [.Name x px,.Name y py] kt pt] (.Tuple [a,b] k2 pt2) pos.line X.env=pure false:=by rfl) :
 DSt X (.Assign [.Tuple [.Name x px,.Name y py] kt pt] (.Tuple [a,b] k2 pt2) pos) (yq i j ta):=
 bZ (xm hc hN hi hj hij hx hy ha hw hs) fun E σ H zz31_0=>by obtain⟨δ,M,hs,a,B,ok,q⟩:=zz31_0;exact(⟨δ,M,_,hs,a,q,fun ds M1 vs H1 g1 r1 a1 z9=>by
  obtain⟨d,e,z,q1⟩:=z9
  subst z
  obtain⟨v,u,rfl,r2,r3⟩:=g9 r1
  exact⟨v,u,rfl,ok.nx _ _ _ _ g1 (((hs.mono g1).set r2 i).set r3 j) a1 q1⟩⟩)
def tx(c:TTD)(tb:TSD):TSD:=fun B δ M=>∃W:Nat->DS->MH->Prop,(∃m,W m δ M)/\∀m δ M,W m δ M->
 c δ M fun b M1=>if b=true then tb { B with nx:=fun δ' M'=>∃m',m'<m/\W m' δ' M',ct:=fun δ' M'=>∃m',m'<m/\W m' δ' M',bk:=B.nx } δ M1 else B.nx δ M1
theorem mh{c:Expr}{body:List Stmt}{tc:TTD}{tb:TSD}(hp:PassesOwn (model X.prog X.w) X.A X.env X.xe)(hc:DT X c tc)(hb:DSs X body tb):DSt X (.While c body [] pos) (tx tc tb):=
 bZ (qK hp hc hb) fun E σ H z9=>by
  obtain⟨δ,M,hs,a,B,ok,W,⟨m,w0⟩,turn⟩:=z9
  refine⟨fun m σ H'=>Grow X.K H H'/\∃δ M,Slots X.K H' δ σ/\Abs X.K H' M/\W m δ M,⟨m,.refl,δ,M,hs,a,w0⟩,?_⟩
  rintro m σ H' ⟨g,δ,M,hs,a,w0⟩
  refine⟨δ,M,_,hs,a,turn m δ M w0,fun b M1 H1 g1 a1 q1=>?_⟩
  cases b with
  |true=>
   rw[if_pos rfl]at q1 ⊢
   refine⟨fun σ2 H2=>∃m',m'<m/\(Grow X.K H H2/\∃δ M,Slots X.K H2 δ σ2/\Abs X.K H2 M/\W m' δ M),fun σ' H' h=>h,δ,M1,hs.mono g1,a1,_,?_,q1⟩
   refine⟨fun δ' M' σ' H' g' s' a' zz32_0=>by obtain⟨m',l,w'⟩:=zz32_0;exact(⟨m',l,(g.trans g1).trans g',δ',M',s',a',w'⟩),fun d M v H' g'=>ok.rt d M v H' ((g.trans g1).trans g'),fun δ' M' σ' H' g' s' a' q'=>ok.nx _ _ _ _ ((g.trans g1).trans g') s' a' q',fun δ' M' σ' H' g' s' a' zz33_0=>by obtain⟨m',l,w'⟩:=zz33_0;exact(⟨m',l,(g.trans g1).trans g',δ',M',s',a',w'⟩)⟩
  |false=>
   rw[if_neg Bool.false_ne_true]at q1 ⊢
   exact ok.nx _ _ _ _ (g.trans g1) (hs.mono g1) a1 q1
inductive ForW(g:TGD)(tb:TSD)(B:EndsD)(n:Nat)(δ0:DS)(M0:MH):Prop
 |mk (W:Nat->DS->MH->Prop) (w0:W 0 δ0 M0) (turn:∀i δ M,i<n->W i δ M->g (.int (i:Int)) δ M fun δ2 M2=>tb { B with nx:=W (i+1),ct:=W (i+1),bk:=B.nx } δ2 M2) (done:∀δ M,W n δ M->B.nx δ M):ForW g tb B n δ0 M0
inductive ForR(g:TGD)(tb:TSD)(B:EndsD)(ds:List D)(δ0:DS)(M0:MH):Prop
 |mk (n:Nat) (e:ds=[.int (n:Int)]) (q:n<2^60/\ForW g tb B n δ0 M0):ForR g tb B ds δ0 M0
def wV(ta:TAD)(g:TGD)(tb:TSD):TSD:=fun B δ M=>ta δ M fun ds M1=>ForR g tb B ds δ M1
theorem gr{tg e:Expr}{body:List Stmt}{ta:TAD}{g:TGD}{tb:TSD}{p p2:Pos}(hp:PassesOwn (model X.prog X.w) X.A X.env X.xe)(hc:X.calm=true)(hg:Gl X "range")(hm:X.mg "range"=none)(ha:DA X [e] ta)(hG:DG X tg g)(hb:DSs X body tb)
 (hs:starEach [e] X.env=[(false,eval e X.env)]:=by rfl) (hf:∀x,foldedSetIterable (.Call (.Name "range" p) [e] [] p2) X.env x=pure x:=by intro _;rfl):DSt X (.For tg (.Call (.Name "range" p) [e] [] p2) body [] pos) (wV ta g tb):=
 bZ (rA hp hc (jN hg hm ha hs) hG hb hf) fun E σ H ⟨δ,M,hs,a,B,ok,q⟩=>⟨δ,M,_,hs,a,q,fun ds M1 vs H1 g1 r1 a1 z9=>by
  obtain⟨n,e,hn,W,w0,turn,done⟩:=z9
  subst e
  obtain⟨v,rfl,r⟩:=bU r1
  rw[Rep]at r;subst r
  refine⟨(n:Int),rfl,by omega,by omega,?_⟩
  rw[show((n:Int)).toNat=n from by simp]
  refine qe (fun i σ H'=>Grow X.K H H'/\∃δ M,Slots X.K H' δ σ/\Abs X.K H' M/\W i δ M) ⟨g1,δ,M1,hs.mono g1,a1,w0⟩ ?_ ?_
  ·rintro i σ H2 hi ⟨g2,δ,M,s2,a2,w2⟩
   refine⟨.int (i:Int),δ,M,_,by rw[Rep];simp,s2,a2,turn i δ M hi w2,fun δ3 M3 σ3 H3 g3 s3 a3 q3=>?_⟩
   refine⟨δ3,M3,s3,a3,_,?_,q3⟩
   exact⟨fun δ' M' σ' H' g' s' a' w'=>⟨(g2.trans g3).trans g',δ',M',s',a',w'⟩,fun d M v H' g'=>ok.rt d M v H' ((g2.trans g3).trans g'),fun δ' M' σ' H' g' s' a' q'=>ok.nx _ _ _ _ ((g2.trans g3).trans g') s' a' q',fun δ' M' σ' H' g' s' a' w'=>⟨(g2.trans g3).trans g',δ',M',s',a',w'⟩⟩
  ·rintro σ H2 ⟨g2,δ,M,s2,a2,w2⟩
   exact ok.nx _ _ _ _ g2 s2 a2 (done δ M w2)⟩
end
theorem lU{b:Bool}{A B:Prop}(e:b=true)(h:A):if b=true then A else B:=by rw[if_pos e];exact h
theorem e9{b:Bool}{A B:Prop}(e:b=false)(h:B):if b=true then A else B:=by rw[if_neg (by rw[e];exact Bool.false_ne_true)];exact h
theorem orV{ta tb:TD}{δ:DS}{M:MH}{Q:DK}(c1 c2:Bool)(ha:∀K:DK,K (.bl c1) M->ta δ M K)(hb:c1=false->∀K:DK,K (.bl c2) M->tb δ M K)(hq:Q (.bl (c1||c2)) M):vx ta tb δ M Q:=
 ha _ ⟨c1,rfl,by
  cases c1 with
  |true=>rw[if_pos rfl];exact hq
  |false=>rw[if_neg Bool.false_ne_true];exact hb rfl _ hq⟩
theorem qa{ta tb:TD}{δ:DS}{M:MH}{Q:DK}(c1 c2:Bool)(ha:∀K:DK,K (.bl c1) M->ta δ M K)(hb:c1=true->∀K:DK,K (.bl c2) M->tb δ M K)(hq:Q (.bl (c1&&c2)) M):rz ta tb δ M Q:=
 ha _ ⟨c1,rfl,by
  cases c1 with
  |true=>rw[if_pos rfl];exact hb rfl _ hq
  |false=>rw[if_neg Bool.false_ne_true];exact hq⟩
theorem orT{ta tb:TTD}{δ:DS}{M:MH}{Q:Bool->MH->Prop}(c1 c2:Bool)(ha:∀K:Bool->MH->Prop,K c1 M->ta δ M K)(hb:c1=false->∀K:Bool->MH->Prop,K c2 M->tb δ M K)(hq:Q (c1||c2) M):zb ta tb δ M Q:=
 ha _ (by
  cases c1 with
  |true=>rw[if_pos rfl];exact hq
  |false=>rw[if_neg Bool.false_ne_true];exact hb rfl _ hq)
theorem rL{ta tb:TTD}{δ:DS}{M:MH}{Q:Bool->MH->Prop}(c1 c2:Bool)(ha:∀K:Bool->MH->Prop,K c1 M->ta δ M K)(hb:c1=true->∀K:Bool->MH->Prop,K c2 M->tb δ M K)(hq:Q (c1&&c2) M):u0 ta tb δ M Q:=
 ha _ (by
  cases c1 with
  |true=>rw[if_pos rfl];exact hb rfl _ hq
  |false=>rw[if_neg Bool.false_ne_true];exact hq)
def td(r r':R2D)(ta tb tc:TD):TD:=fun δ M Q=>ta δ M fun x M1=>tb δ M1 fun y M2=>r x y M2 fun z M3=>∃k,z=.bl k/\if k=true then tc δ M3 fun u M4=>r' y u M4 Q else Q (.bl false) M3
theorem sM{X:Cx}{a b c:Expr}{ta tb tc:TD}{pos:Pos}{op op':CmpOp}{r r':R2D}(ho:OpD X (compareOp op) r)(ho':OpD X (compareOp op') r')(ha:DE X a ta)(hb:DE X b tb)(hc:DE X c tc)
 (hm:lastMarks [op,op'] [b,c]=false:=by with_unfolding_all rfl):DE X (.Compare a [op,op'] [b,c] pos) (td r r' ta tb tc):=
 aT (rT ho ho' ha hb hc hm) fun σ H Q z9=>by
  obtain⟨δ,M,R,hs,hM,q,fin⟩:=z9
  refine⟨δ,M,_,hs,hM,q,fun x M1 v H1 g1 r1 a1 q1=>?_⟩
  refine⟨δ,M1,_,hs.mono g1,a1,q1,fun y M2 u H2 g2 r2 a2 q2=>?_⟩
  refine⟨x,y,M2,_,r1.mono g2,r2,a2,q2,fun z M3 w H3 g3 r3 a3 zz34_0=>?_⟩
  obtain⟨k,e,q3⟩:=zz34_0
  subst e
  rw[Rep]at r3
  refine⟨k,r3,?_⟩
  cases k with
  |true=>
   rw[if_pos rfl]at q3 ⊢
   exact⟨δ,M3,_,hs.mono ((g1.trans g2).trans g3),a3,q3,fun u' M4 w' H4 g4 r4 a4 q4=>⟨y,u',M4,R,r2.mono (g3.trans g4),r4,a4,q4,fin.go (((g1.trans g2).trans g3).trans g4)⟩⟩
  |false=>
   rw[if_neg Bool.false_ne_true]at q3 ⊢
   exact fin _ _ _ _ ((g1.trans g2).trans g3) (by rw[Rep]) a3 q3
theorem d5{t u:TSD}{B:EndsD}{δ:DS}{M:MH}(W:DS->MH->Prop)(hu:∀δ' M',W δ' M'->u B δ' M')(ht:(∀δ' M',W δ' M'->u B δ' M')->t { B with nx:=u B } δ M):eG t u B δ M:=ht hu
def Sub(M' M:MH):Prop:=∀a o,M' a=some o->M a=some o
def zI(r:Addr)(M' M:MH):Prop:=∀a o,a≠r->M' a=some o->M a=some o
theorem Sub.refl{M:MH}:Sub M M:=fun _ _ h=>h
theorem Sub.new{M M':MH}{p:Addr}{o:MO}(hp:M p=none)(s:Sub M' M):Sub M' (ay M p o):=fun a u h=>by rw[au (fun e=>by subst e;rw[s _ _ h]at hp;cases hp)];exact s _ _ h
theorem Sub.zG{M M':MH}{r:Addr}{o:MO}(s:zI r M' M):Sub (ay M' r o) (ay M r o):=fun a u h=>by
 by_cases e:a=r
 ·subst e;rw[ag]at h ⊢;exact h
 ·rw[au e]at h ⊢;exact s _ _ e h
inductive Ret(Q:DK)(d:D)(M:MH):Prop
 |mk (M':MH) (s:Sub M' M) (q:Q d M'):Ret Q d M
theorem rtn{Q:DK}{d:D}{M:MH}(q:Q d M):Ret Q d M:=⟨M,.refl,q⟩
abbrev SpD:=List D->MH->DK->Prop
def fK(K:PySem.W.Frag)(sp:SpD):Sp:=fun vs H Q _=>∃ds M R,aA K H ds vs/\Abs K H M/\sp ds M R/\Fin K H R Q
def Cal(P:Program)(w:World)(K:PySem.W.Frag)(mg:Str->Option Value)(base:Heap)(k:Nat)(x:Str)(sp:SpD):Prop:=
 ∃f fd ps,FnOk P w K mg base CX0 k f fd ps (fK K sp)/\mg x=some (.ref f)/\PySem.W.keepIn K (.ref f)=true/\Binds K fd ps []
theorem Cal.mono{P:Program}{w:World}{K:PySem.W.Frag}{mg:Str->Option Value}{base:Heap}{j k:Nat}{x:Str}{sp:SpD}(h:Cal P w K mg base j x sp)(l:j<=k):Cal P w K mg base k x sp:=let⟨f,fd,ps,F,r⟩:=h;⟨f,fd,ps,F.mono l,r⟩
section
variable{X:Cx}{k:Nat}{x:Str}{sp:SpD}{p pos:Pos}{e:Expr}{es:List Expr}{t:TAD}
def vP(sp:SpD)(t:TAD):TD:=fun δ M Q=>t δ M fun ds M1=>sp ds M1 Q
theorem aj(C:Cal X.prog X.w X.K X.mg X.base k x sp)(hr:Room k X.A)(ha:DA X (e::es) t)(hg:Gl X x:=by rfl)(hdb:(x==("__debug__":Str))=false:=by decide)
 (he:starEach (e::es) X.env=(false,eval e X.env)::starEach es X.env:=by rfl) (hpl:(backTo pos (starEach es X.env)).any (·.1)=false:=by rfl):DE X (.Call (.Name x p) (e::es) [] pos) (vP sp t):=by
 obtain⟨f,fd,ps,F,hm,hk,hb⟩:=C
 refine aT (uG F hr hg hm hk hb .nil yf ha hdb he hpl) fun σ H Q zz35_0=>?_
 obtain⟨δ,M,R,hs,hM,q,fin⟩:=zz35_0
 refine⟨δ,M,_,hs,hM,q,fun ds M1 vs H1 g1 r1 a1 q1=>?_⟩
 show fK X.K sp (vs++[]) H1 Q E0
 rw[List.append_nil]
 exact⟨ds,M1,R,r1,a1,q1,fin.go g1⟩
end
def gN(N:List Str)(ds:List D):DS:=ds.map some++List.replicate (N.length-ds.length) none
section
variable{P:Program}{w:World}{K:PySem.W.Frag}{mg:Str->Option Value}{base:Heap}
theorem fnD{x qual:Str}{st:Stmt}{f:Addr}{fd:FuncData}{N ps:List Str}{k:Nat}{sp:SpD}(F:Fun K x qual st f fd)(S:FnScope N ps (ao st))(len:∀ds M Q,sp ds M Q->ds.length=ps.length)
 (hbody:∀X:Cx,X.prog=P->True) (body:∀(cdv:Value) (A:Around) (outer:List Env) (s:Shared) (H:Hp) (E:XK),Room k (A.deeper (envOfC qual (ao st) s.heap.objs.size f cdv))->
  ∃t,DSs (aU CX0 P w K mg base N qual (ao st) f cdv A outer s H E).nox (aV st) t/\∀ds M Q,sp ds M Q->t { nx:=fun _ M'=>Ret Q .non M',rt:=Ret Q } (gN N ds) M):FnOk P w K mg base CX0 (k+1) f fd ps (fK K sp):=by
 refine F.ok S (fun vs H Q E zz36_0=>by obtain⟨ds,M,R,rs,_,q,_⟩:=zz36_0;rw[<-rs.length];exact len _ _ _ q) fun cdv A outer s H vs Q E hr zz37_0=>?_
 obtain⟨ds,M,R,rs,a,q,fin⟩:=zz37_0
 obtain⟨t,h,hq⟩:=body cdv A outer s H E hr
 refine⟨_,h,gN N ds,M,gW rs,a,{ nx:=fun _ M'=>Ret R .non M',rt:=Ret R },⟨fun δ' M' σ' H' g s' a' q'=>?_,fun d M' v H' g r a' zz38_0=>by obtain⟨M2,s2,q'⟩:=zz38_0;exact(fin _ _ _ _ g r (a'.sub s2) q'),fun _ _ _ _ _ _ _ z=>z,fun _ _ _ _ _ _ _ z=>z⟩,hq ds M R q⟩
 obtain⟨M2,s2,q'⟩:=q'
 exact fin .non M2 .non H' g (by rw[Rep]) (a'.sub s2) q'
def Txt(K:PySem.W.Frag)(mg:Str->Option Value)(x:Str)(st:Stmt):Prop:=∃f fd,Fun K x x st f fd/\mg x=some (.ref f)
theorem Txt.mk{h:Heap}{x:Str}{st:Stmt}{f:Addr}{oc:Value}{od an:Option Addr}{osl:Array (Option Value)}{kV doc pm cdv ct:Value}(X:K.In h)(G:h.Ns mainGlobals mg)(a:PySem.W.nsIn K mainGlobals x=some (some (.ref f))) (l:K.lookup f=some ⟨oc,od,.func (PySem.W.fnOf x x (bD st) (aV st) (ao st) .none kV doc pm an cdv ct),osl⟩) (c:PySem.W.codeIn K cdv x=true) (k:PySem.W.keepIn K (.ref f)=true):Txt K mg x st:=⟨f,_,rW l c k,PySem.W.mg_of X G a⟩
theorem a9{x:Str}{st:Stmt}{N ps:List Str}{k:Nat}{sp:SpD}(T:Txt K mg x st)(S:FnScope N ps (ao st))
 (hb:∀(kV doc pm:Value) (an:Option Addr) (cdv ct:Value) (us:List Value),us.length=ps.length->bindArgs (PySem.W.fnOf x x (bD st) (aV st) (ao st) .none kV doc pm an cdv ct) ⟨us,[]⟩=pure (ps.zip us))
 (len:∀ds M Q,sp ds M Q->ds.length=ps.length)
 (body:∀(f:Addr) (cdv:Value) (A:Around) (outer:List Env) (s:Shared) (H:Hp) (E:XK),Room k (A.deeper (envOfC x (ao st) s.heap.objs.size f cdv))->
  ∃t,DSs (aU CX0 P w K mg base N x (ao st) f cdv A outer s H E).nox (aV st) t/\∀ds M Q,sp ds M Q->t { nx:=fun _ M'=>Ret Q .non M',rt:=Ret Q } (gN N ds) M):Cal P w K mg base (k+1) x sp:=by
 obtain⟨f,fd,F,hm⟩:=T
 exact⟨f,fd,ps,fnD F S len (fun _ _=>trivial) (body f),hm,F.kp,F.binds hb⟩
end
theorem kQ:bootBuiltins "abs"=some (.builtin "abs"):=by decide +kernel
theorem nA:bootBuiltins "max"=some (.builtin "max"):=by decide +kernel
theorem n9:bootBuiltins "min"=some (.builtin "min"):=by decide +kernel
theorem cx:bootBuiltins "len"=some (.builtin "len"):=by decide +kernel
theorem vT:bootBuiltins "all"=some (.builtin "all"):=by decide +kernel
theorem aL:bootBuiltins "isinstance"=some (.builtin "isinstance"):=by decide +kernel
theorem lX:bootBuiltins "tuple"=some (.type "tuple"):=by decide +kernel
theorem ua:bootBuiltins "list"=some (.type "list"):=by decide +kernel
theorem oA:bootBuiltins "int"=some (.type "int"):=by decide +kernel
section
variable{P:Program}{w:World}{K:PySem.W.Frag}{mg:Str->Option Value}
theorem zy{x:Str}{st:Stmt}{N:List Str}{p:Str}{k:Nat}{sp:SpD}{fa:Addr}(T:Txt K mg x st)(hfa:mg x=some (.ref fa))(S:FnScope N [p] (ao st))
 (hb:∀(kV doc pm:Value) (an:Option Addr) (cdv ct:Value) (us:List Value),us.length=[p].length->bindArgs (PySem.W.fnOf x x (bD st) (aV st) (ao st) .none kV doc pm an cdv ct) ⟨us,[]⟩=pure ([p].zip us))
 (len:∀ds M Q,sp ds M Q->ds.length=[p].length)
 (body:∀(base:Heap) (f:Addr) (cdv:Value) (A:Around) (outer:List Env) (s:Shared) (H:Hp) (E:XK),Room k (A.deeper (envOfC x (ao st) s.heap.objs.size f cdv))->
  ∃t,DSs (aU CX0 P w K mg base N x (ao st) f cdv A outer s H E).nox (aV st) t/\∀ds M Q,sp ds M Q->t { nx:=fun _ M'=>Ret Q .non M',rt:=Ret Q } (gN N ds) M) :
 ∃fd,(∀(s:Shared) (u:Value),BindsTo s fd ⟨[u],[]⟩ [(p,u)])/\∀base:Heap,FnOk P w K mg base CX0 (k+1) fa fd [p] (fK K sp):=by
 obtain⟨f,fd,F,hm⟩:=T
 have e:=hfa.symm.trans hm
 cases e
 refine⟨fd,fun s u=>?_,fun base=>fnD F S len (fun _ _=>trivial) (body base _)⟩
 obtain⟨oc,od,kV,doc,pm,an,cdv,ct,osl,rfl,lk,hcd⟩:=F.ex
 exact .of_eq (hb kV doc pm an cdv ct [u] rfl)
end
theorem r0{l:PySem.W.OpenLaw}{k:Nat}{q:Program}{loose:List Str}{XP:(Str->Option Value)->Heap->Prop}{YP:World->Heap->Prop}{d:DefRec}{K:Params->PySem.W.Frag}{sp:SpD}{x:Str}
 (hn:l.most=some 63) (hdf:d.params.defaults=[]) (hr:Room k callerA)
 (hY:∀(w:World) (h:Heap),YP w h->(K w.params).In h)
 (F:∀(w:World) (mg:Str->Option Value) (fa:Addr) (h:Heap),(K w.params).In h->h.Ns mainGlobals mg->mg d.name=some (.ref fa)->
  ∃fd:FuncData,(∀(s:Shared) (u:Value),BindsTo s fd ⟨[u],[]⟩ [(x,u)])/\
   ∀base:Heap,FnOk l.prog w (K w.params) mg base CX0 k fa fd [x] (fK (K w.params) sp))
 (hsp:∀(ns:List Int) (M:MH),ns.length<=63->sp [.rol (ns.map D.int)] M (fun d _=>d=.bl true)) :
 PySem.W.WalkO q loose XP YP l.row.toRowW d [] (fun f vs=>PySem.call f vs):=by
 refine tV (x:=x) (n:=63) (CX:=fun _=>CX0) (sp:=fun w=>fK (K w.params) sp) hn (by decide) hdf hr hY (fun w mg fa h a b c=>?_) (fun w H a ns hl hO hS=>?_) fun _ _ _ _ _ z=>z
 ·obtain⟨fd,h1,h2⟩:=F w mg fa h a b c
  exact⟨fd,h1,fun base _ _=>h2 base⟩
 ·have hF:SqF (K w.params) H a (ns.map V.int):=by
   rcases hS with(z|z)|z
   ·rcases hO a with y|⟨o,xs,y⟩
    ·rw[z]at y;cases y
    ·rw[z]at y;cases y
   ·exact .inl z
   ·exact .inr z
  refine⟨[.rol (ns.map D.int)],fun _=>none,_,.cons (by rw[Rep];exact⟨a,_,rfl,hF,jV ns⟩) .nil,(fun _ _ e=>nomatch e:Abs (K w.params) H fun _=>none),hsp ns _ hl,fun d M' v H' g r a' e=>?_⟩
  subst e
  rw[Rep]at r
  exact r
end SD
namespace Ma
open PySem PySem.Spec PyProof.Rows L2 SD
abbrev fr(q:Rat):D:=.tup [.int q.num,.int (q.den:Int)]
theorem den_pos(q:Rat):(0:Int)<(q.den:Int):=by have:=q.den_pos;omega
def Bq(n:Nat)(q:Rat):Prop:=Bd n q.num/\Bd n (q.den:Int)
theorem Bq.mono{m n:Nat}{q:Rat}(h:Bq m q)(l:m<=n):Bq n q:=⟨h.1.mono l,h.2.mono l⟩
theorem mw{t b:Int}(hb:0<b):t.fdiv b=t/b:=Int.fdiv_eq_ediv_of_nonneg _ (by omega)
theorem fdiv_neg{t b:Int}(hd:b ∣ t)(hb:0<b):t.fdiv (-b)=-(t/b):=by
 obtain⟨c,rfl⟩:=hd;have hb':b≠0:=by omega
 rw[Int.mul_ediv_cancel_left _ hb'];have:b*c=-b * -c:=by rw[Int.neg_mul_neg]
 rw[this];exact Int.mul_fdiv_cancel_left _ (by omega)
theorem oS(t b:Int):((Nat.gcd t.natAbs b.natAbs:Nat):Int) ∣ t:=Int.ofNat_dvd_left.mpr (Nat.gcd_dvd_left _ _)
theorem oN(t b:Int):((Nat.gcd t.natAbs b.natAbs:Nat):Int) ∣ b:=Int.ofNat_dvd_left.mpr (Nat.gcd_dvd_right _ _)
theorem jL(t b:Int):Int.gcd b t=Nat.gcd t.natAbs b.natAbs:=by unfold Int.gcd;exact Nat.gcd_comm _ _
theorem pG{t b:Int}(hb:b≠0):0<Nat.gcd t.natAbs b.natAbs:=Nat.gcd_pos_of_pos_right _ (by omega)
theorem oW{t b:Int}(hb:0<b):t.fdiv (Nat.gcd t.natAbs b.natAbs:Nat)=(Rat.divInt t b).num/\b.fdiv (Nat.gcd t.natAbs b.natAbs:Nat)=((Rat.divInt t b).den:Int):=by
 have hg:=pG (t:=t) (b:=b) (by omega);rw[mw (by omega),mw (by omega),Rat.num_divInt,Rat.den_divInt,if_neg (by omega),Int.sign_eq_one_of_pos hb,Int.one_mul,jL];refine⟨rfl,?_⟩;rw[Int.natCast_ediv]
 congr 1
 omega
theorem pJ{t b:Int}(hb:b<0):t.fdiv (-((Nat.gcd t.natAbs b.natAbs:Nat):Int))=(Rat.divInt t b).num/\b.fdiv (-((Nat.gcd t.natAbs b.natAbs:Nat):Int))=((Rat.divInt t b).den:Int):=by
 have hg:=pG (t:=t) (b:=b) (by omega);rw[fdiv_neg (oS t b) (by omega),fdiv_neg (oN t b) (by omega),Rat.num_divInt,Rat.den_divInt,if_neg (by omega),Int.sign_eq_neg_one_of_neg hb,jL];constructor
 ·rw[show(-1:Int)*t=-t from by omega,Int.neg_ediv_of_dvd (oS t b)]
 ·rw[Int.natCast_ediv,show((b.natAbs:Nat):Int)=-b from by omega,Int.neg_ediv_of_dvd (oN t b)]
theorem ou{t b:Int}(hb:b≠0):(Rat.divInt t b).num.natAbs<=t.natAbs/\(Rat.divInt t b).den<=b.natAbs:=by
 constructor
 ·rw[Rat.num_divInt];refine Nat.le_trans (Int.natAbs_ediv_le_natAbs _ _) ?_;rw[Int.natAbs_mul];rcases Int.lt_trichotomy b 0 with h|h|h
  ·rw[Int.sign_eq_neg_one_of_neg h];simp
  ·exact absurd h hb
  ·rw[Int.sign_eq_one_of_pos h];simp
 ·rw[Rat.den_divInt,if_neg hb];exact Nat.div_le_self _ _
theorem Bq.divInt{n:Nat}{t b:Int}(hb:b≠0)(h1:Bd n t)(h2:Bd n b):Bq n (Rat.divInt t b):=by obtain⟨a1,a2⟩:=ou (t:=t) hb;exact⟨Nat.lt_of_le_of_lt a1 h1,Nat.lt_of_le_of_lt (by simpa using a2) h2⟩
theorem pO(x y:Nat):Int.fmod (x:Int) (y:Int)=((x%y:Nat):Int):=by rw[Int.fmod_eq_emod_of_nonneg _ (by omega)];rfl
theorem n8(q r:Rat):PyData.eqv (.tuple [.int q.num,.int (q.den:Int)]) (.tuple [.int r.num,.int (r.den:Int)])=decide (q=r):=by
 simp only[PyData.eqv,PyData.eqvAll,Bool.and_true];by_cases h:q=r
 ·subst h;simp
 ·rw[decide_eq_false h];rw[Bool.eq_false_iff];intro z;rw[Bool.and_eq_true,beq_iff_eq,beq_iff_eq]at z;exact h (Rat.ext z.1 (by have:=z.2;omega))
theorem y3(q r:Rat):decide (q.num*(r.den:Int)<r.num*(q.den:Int))=decide (q<r):=by rw[decide_eq_decide,Rat.lt_iff]
abbrev spt(a b:Rat):D:=.tup [fr a,fr b]
theorem pC(a b c d:Rat):PyData.eqv (.tuple [.tuple [.int a.num,.int (a.den:Int)],.tuple [.int b.num,.int (b.den:Int)]]) (.tuple [.tuple [.int c.num,.int (c.den:Int)],.tuple [.int d.num,.int (d.den:Int)]])=decide (a=c/\b=d):=by rw[PyData.eqv,PyData.eqvAll,PyData.eqvAll,PyData.eqvAll,n8,n8,Bool.and_true,Bool.decide_and]
theorem dz(q:Rat):(q.den:Int)≠0:=by have:=q.den_pos;omega
theorem add_eq(q r:Rat):Rat.divInt (q.num*(r.den:Int)+r.num*(q.den:Int)) ((q.den:Int)*(r.den:Int))=q+r:=by rw[<-Rat.divInt_add_divInt _ _ (dz q) (dz r),Rat.num_divInt_den,Rat.num_divInt_den]
theorem sub_eq(q r:Rat):Rat.divInt (q.num*(r.den:Int)-r.num*(q.den:Int)) ((q.den:Int)*(r.den:Int))=q-r:=by rw[<-Rat.divInt_sub_divInt _ _ (dz q) (dz r),Rat.num_divInt_den,Rat.num_divInt_den]
theorem mul_eq(q r:Rat):Rat.divInt (q.num*r.num) ((q.den:Int)*(r.den:Int))=q*r:=by rw[<-Rat.divInt_mul_divInt,Rat.num_divInt_den,Rat.num_divInt_den]
theorem div_eq(q r:Rat):Rat.divInt (q.num*(r.den:Int)) ((q.den:Int)*r.num)=q/r:=by rw[<-Rat.divInt_mul_divInt,Rat.num_divInt_den,<-Rat.inv_divInt,Rat.num_divInt_den,Rat.div_def]
theorem gh(q r:Rat):(q.den:Int)*(r.den:Int)≠0:=Int.mul_ne_zero (dz q) (dz r)
theorem Bq.zd{n:Nat}{q r:Rat}(a:Bq n q)(b:Bq n r):Bd (2*n+1) (q.num*(r.den:Int)+r.num*(q.den:Int)):=((a.1.mul b.2).add (b.1.mul a.2)).mono (by omega)
theorem Bq.j9{n:Nat}{q r:Rat}(a:Bq n q)(b:Bq n r):Bd (2*n+1) (q.num*(r.den:Int)-r.num*(q.den:Int)):=((a.1.mul b.2).sub (b.1.mul a.2)).mono (by omega)
theorem Bq.u7{n:Nat}{q r:Rat}(a:Bq n q)(b:Bq n r):Bd (2*n+1) (q.num*r.num):=(a.1.mul b.1).mono (by omega)
theorem Bq.mS{n:Nat}{q r:Rat}(a:Bq n q)(b:Bq n r):Bd (2*n+1) ((q.den:Int)*(r.den:Int)):=(a.2.mul b.2).mono (by omega)
theorem Bq.sub{n:Nat}{q r:Rat}(a:Bq n q)(b:Bq n r):Bq (2*n+1) (q-r):=by rw[<-sub_eq];exact .divInt (gh q r) (a.j9 b) (a.mS b)
theorem Bq.mul{n:Nat}{q r:Rat}(a:Bq n q)(b:Bq n r):Bq (2*n+1) (q*r):=by rw[<-mul_eq];exact .divInt (gh q r) (a.u7 b) (a.mS b)
theorem Bq.mOk{n:Nat}{q r:Rat}(a:Bq n q)(b:Bq n r)(h:n<=8000):IntMulOk q.num r.num/\IntMulOk q.num (r.den:Int)/\IntMulOk r.num (q.den:Int)/\IntMulOk (q.den:Int) (r.den:Int):=
 have m:∀{i:Int},Bd n i->Bd 1000000 i:=fun z=>z.mono (by omega)
 ⟨cS (m a.1) (m b.1),cS (m a.1) (m b.2),cS (m b.1) (m a.2),cS (m a.2) (m b.2)⟩
def sgn(z:Rat):Int:=if 0<z then 1 else if z<0 then -1 else 0
def cr(a b c d x y:Rat):Rat:=(c-a)*(y-b)-(d-b)*(x-a)
abbrev wll(a b c d:Rat):D:=.tup [spt a b,spt c d]
def ah(a b c d:Rat):Prop:=a<c\/a=c/\b<d
instance(a b c d:Rat):Decidable (ah a b c d):=inferInstanceAs (Decidable (_\/_))
theorem pos_int{i:Int}(h:0<i):(0:Rat)<(i:Rat):=by rw[Rat.lt_iff];simpa using h
end Ma
namespace SD
open PySem PySem.Spec PyProof.Rows L2
def ee(names:List (Str×NameKind))(env:Env):List (Str×Addr):=(names.filter fun y=>y.2==.free).reverse.map fun y=>(y.1,(env.cells.lookup y.1).getD 0)
theorem nF{scope:Scope}{env:Env}(h:∀y∈scope.names,y.2=.free->∃c,env.cells.lookup y.1=some c):closureFor scope env=pure (ee scope.names env):=by
 have key:∀(names:List (Str×NameKind)) (acc:List (Str×Addr)),(∀y∈names,y.2=.free->∃c,env.cells.lookup y.1=some c)->
  (forIn names acc (fun(x:Str×NameKind) (r:List (Str×Addr))=>if(x.2==NameKind.free)=true then do let a <-cellOf env x.1;pure (ForInStep.yield ((x.1,a)::r))else pure (ForInStep.yield r)):Sem (List (Str×Addr)))=pure (ee names env++acc):=by
  intro names
  induction names with
  |nil=>intro acc _;rfl
  |cons y ys ih=>
   intro acc hy
   obtain⟨n,k⟩:=y
   rw[List.forIn_cons]
   by_cases hk:(k==NameKind.free)=true
   ·obtain⟨c,hc⟩:=hy (n,k) (List.mem_cons_self ..) (by simpa using hk)
    have e1:cellOf env n=pure c:=by unfold cellOf;rw[hc]
    dsimp only
    rw[if_pos hk,e1]
    simp only[pure_bind]
    rw[ih _ fun y hm=>hy y (List.mem_cons_of_mem _ hm)]
    unfold ee
    rw[List.filter_cons_of_pos (by simpa using hk),List.reverse_cons,List.map_append,List.append_assoc]
    simp[hc]
   ·dsimp only
    rw[if_neg hk]
    simp only[pure_bind]
    rw[ih _ fun y hm=>hy y (List.mem_cons_of_mem _ hm)]
    unfold ee
    rw[List.filter_cons_of_neg (by simpa using hk)]
 have:=key scope.names [] h;rw[List.append_nil]at this;unfold closureFor;exact Eq.trans (congrArg (fun t:Sem (List (Str×Addr))=>t >>= fun cs=>pure cs) this) rfl
theorem lL{env:Env}{y:Str}{c:Addr}:∀{names:List (Str×NameKind)},(∀z∈names,z.2=.free->∃c,env.cells.lookup z.1=some c)->(ee names env).lookup y=some c->env.cells.lookup y=some c:=by intro names h e;have hm:=PySem.mem_of_lookup e;unfold ee at hm;obtain⟨z,hz,e2⟩:=List.mem_map.mp hm;rw[List.mem_reverse,List.mem_filter]at hz;obtain⟨c',hc⟩:=h z hz.1 (by simpa using hz.2);rw[hc]at e2;cases e2;exact hc
theorem mi{env:Env}{y:Str}{names:List (Str×NameKind)}(hm:(y,NameKind.free)∈names):∃c,(ee names env).lookup y=some c:=by
 cases e:(ee names env).lookup y with
 |some c=>exact⟨c,rfl⟩
 |none=>
  have:=List.lookup_eq_none_iff.mp e (y,(env.cells.lookup y).getD 0) (List.mem_map.mpr ⟨(y,.free),List.mem_reverse.mpr (List.mem_filter.mpr ⟨hm,rfl⟩),rfl⟩)
  simp at this
theorem eL{env:Env}(hk:env.scope.kind=.function):∀{names:List (Str×NameKind)} {y:Str} {k:NameKind},
 (names.map fun(n,k)=>if(k==NameKind.free&&env.scope.kind==.function&&env.kindOf n==some .cell)then(n,NameKind.cell)else(n,k)).lookup y=some k->
  names.lookup y=some k\/(k=.cell/\names.lookup y=some .free)
 |[],_,_,h=>by simp at h
 |(n,q)::r,y,k,h=>by
  have ih:=@eL env hk r y k
  rw[List.map_cons]at h
  dsimp only at h
  by_cases hy:(y==n)=true
  ·by_cases hc:(q==NameKind.free&&env.scope.kind==.function&&env.kindOf n==some .cell)=true
   ·rw[if_pos hc,List.lookup_cons,hy]at h
    have hf:q=.free:=by
     rw[Bool.and_eq_true,Bool.and_eq_true]at hc
     simpa using hc.1.1
    cases h
    right
    exact⟨rfl,by rw[List.lookup_cons,hy,hf]⟩
   ·rw[if_neg hc,List.lookup_cons,hy]at h
    left
    rw[List.lookup_cons,hy];exact h
  ·have hy':(y==n)=false:=by simpa using hy
   have h':(r.map fun(n,k)=>if(k==NameKind.free&&env.scope.kind==.function&&env.kindOf n==some .cell)then(n,NameKind.cell)else(n,k)).lookup y=some k:=by
    split at h
    ·rw[List.lookup_cons,hy']at h;exact h
    ·rw[List.lookup_cons,hy']at h;exact h
   rw[List.lookup_cons,hy']
   exact ih h'
theorem m5{X:Cx}{tg iter:Expr}{wi wi':TI}(h:PI X tg iter wi)(k:∀σ H R,wi' σ H R->wi σ H R):PI X tg iter wi':=fun pins s σ H R I q=>h pins s σ H R I (k _ _ _ q)
def z6(K:PySem.W.Frag)(tl:TE):TI:=fun σ H R=>tl σ H fun x H1=>∃a,x=.ref a/\(((∃xs,SqL K H1 a xs)/\R (Itl K a) H1)\/((∃xs,SqT K H1 a xs)/\R (Itt K a) H1))
theorem xv{X:Cx}{tg l:Expr}{tl:TE}(hl:PE X l tl):PI X tg l (z6 X.K tl):=by
 intro pins s σ H R I h;refine thn (hl pins s σ H _ I h) fun v s1 zz39_0=>?_;obtain⟨x,H1,I1,r1,q1⟩:=zz39_0;obtain⟨a,e,z⟩:=q1;subst e;cases r1
 have fp:∀b∈[s1.heap.objs.size],eA X pins H1 b:=fun b hb=>by
  obtain rfl:b=s1.heap.objs.size:=by simpa using hb
  exact I1.uB (Nat.le_refl _) (I1.hok.fresh (Nat.le_refl _))
 rcases z with⟨⟨xs,hq⟩,q⟩|⟨⟨xs,hq⟩,q⟩
 ·obtain⟨its,rv,p,hz⟩:=I1.list hq;exact wpAny_pyIter_list p.isList ⟨_,[s1.heap.objs.size],_,_,H1,rfl,I1.kept (t':=s1.toks) fun b o e=>Heap.get?_push_of_some _ e,pU a _,⟨_,Heap.get?_push_size _ rfl,rfl,rfl⟩,fp,q⟩
 ·obtain⟨its,rv,p,hz⟩:=I1.tuple hq;exact wpAny_pyIter_tuple (show s1.heap.IsTuple a its.toArray from p) ⟨_,[s1.heap.objs.size],_,_,H1,rfl,I1.kept (t':=s1.toks) fun b o e=>Heap.get?_push_of_some _ e,mW a _,⟨_,Heap.get?_push_size _ rfl,rfl,rfl⟩,fp,q⟩
structure ItD where
 n:Nat
 item:Nat->Option D
 C:MH->Prop
abbrev TID:=DS->MH->(ItD->MH->Prop)->Prop
structure ItOk(K:PySem.W.Frag)(H1:Hp)(I:ItD)(J:It):Prop where
 stop:∀H2 M2,Grow K H1 H2->Abs K H2 M2->I.C M2->J.stop I.n H2
 go:∀i H2 M2,i<I.n->Grow K H1 H2->Abs K H2 M2->I.C M2->J.go i H2
 yld:∀i H2 M2 v H3,i<I.n->Grow K H1 H2->Abs K H2 M2->I.C M2->J.yld i H2 v H3->Grow K H2 H3/\Abs K H3 M2/\∃d,I.item i=some d/\Rep K H3 d v
def uT(K:PySem.W.Frag)(t:TID):TI:=fun σ H R=>∃δ M RD,Slots K H δ σ/\Abs K H M/\t δ M RD/\∀I M' H' J,Grow K H H'->Abs K H' M'->RD I M'->ItOk K H' I J->R J H'
def DI(X:Cx)(tg iter:Expr)(t:TID):Prop:=PI X tg iter (uT X.K t)
def yv(M:MH):D->List D->Prop
 |.tup ds,es=>es=ds
 |.rol ds,es=>es=ds
 |.ref a,es=>M a=some (.lst es)
 |_,_=>False
inductive Rn1(ds:List D)(M:MH)(R:ItD->MH->Prop):Prop
 |mk (n:Nat) (h:ds=[.int (n:Int)]) (q:n<2^60/\R ⟨n,fun i=>some (.int (i:Int)),fun _=>True⟩ M):Rn1 ds M R
inductive Sq1(d:D)(M:MH)(R:ItD->MH->Prop):Prop
 |mk (ds:List D) (h:yv M d ds) (q:R ⟨ds.length,fun i=>ds[i]?,fun M=>yv M d ds⟩ M):Sq1 d M R
def yk(ta:TAD):TID:=fun δ M R=>ta δ M fun ds M1=>Rn1 ds M1 R
def zN(tl:TD):TID:=fun δ M R=>tl δ M fun d M1=>Sq1 d M1 R
section
variable{X:Cx}{tg:Expr}
theorem qt{a:Expr}{ta:TAD}{p pos:Pos}(hg:Gl X "range")(hm:X.mg "range"=none)(ha:DA X [a] ta)(hs:starEach [a] X.env=[(false,eval a X.env)]:=by rfl):DI X tg (.Call (.Name "range" p) [a] [] pos) (yk ta):=
 m5 (jN hg hm ha hs) fun σ H R ⟨δ,M,RD,hs,hM,q,fin⟩=>⟨δ,M,_,hs,hM,q,fun ds M1 vs H1 g1 r1 a1 z9=>by
  obtain⟨n,e,hn,q1⟩:=z9
  subst e
  obtain⟨v,rfl,r⟩:=bU r1
  rw[Rep]at r;subst r
  refine⟨(n:Int),rfl,by omega,by omega,fin _ M1 H1 _ g1 a1 q1 ⟨fun _ _ _ _ _=>by show((n:Int)).toNat<=n;simp,fun i _ _ hi _ _ _=>by show i<((n:Int)).toNat;simpa using hi,?_⟩⟩
  rintro i H2 M2 v H3 hi g2 a2 _ ⟨rfl,rfl⟩
  exact⟨.refl,a2,_,rfl,by rw[Rep];simp⟩⟩
theorem fB{l:Expr}{tl:TD}(hl:DE X l tl):DI X tg l (zN tl):=
 m5 (xv hl) fun σ H R ⟨δ,M,RD,hs,hM,q,fin⟩=>⟨δ,M,_,hs,hM,q,fun d M1 v H1 g1 r1 a1 z9=>by
  obtain⟨ds,sq,q1⟩:=z9
  cases d with
  |tup es=>
   obtain rfl:ds=es:=sq
   rw[Rep]at r1
   obtain⟨a,xs,rfl,hq,rs⟩:=r1
   refine⟨a,rfl,.inr ⟨⟨xs,hq⟩,fin _ M1 H1 _ g1 a1 q1 ⟨fun H2 _ g2 _ _=>⟨xs,g2.t _ _ hq,by rw[rs.length];exact Nat.le_refl _⟩,fun i H2 _ hi g2 _ _=>?_,?_⟩⟩⟩
   ·have hi':i<xs.length:=by rw[<-rs.length];exact hi
    exact⟨xs,xs[i],g2.t _ _ hq,by simp[hi']⟩
   ·rintro i H2 M2 v H3 hi g2 a2 _ ⟨rfl,hy⟩
    have hi:i<ds.length:=hi
    obtain⟨x,e1,e2⟩:=(rs.mono g2).get (show ds[i]?=some ds[i] by simp[hi])
    have:=hy xs (g2.t _ _ hq)
    rw[e1]at this;cases this
    exact⟨.refl,a2,_,by simp[hi],e2⟩
  |rol es=>
   obtain rfl:ds=es:=sq
   rw[Rep]at r1
   obtain⟨a,xs,rfl,hq,rs⟩:=r1
   refine⟨a,rfl,.inl ⟨⟨xs,hq.sql⟩,fin _ M1 H1 _ g1 a1 q1 ⟨fun H2 _ g2 _ _=>⟨xs,(g2.f _ _ hq).sql,by rw[rs.length];exact Nat.le_refl _⟩,fun i H2 _ hi g2 _ _=>?_,?_⟩⟩⟩
   ·have hi':i<xs.length:=by rw[<-rs.length];exact hi
    exact⟨xs,xs[i],(g2.f _ _ hq).sql,by simp[hi']⟩
   ·rintro i H2 M2 v H3 hi g2 a2 _ ⟨rfl,hy⟩
    have hi:i<ds.length:=hi
    obtain⟨x,e1,e2⟩:=(rs.mono g2).get (show ds[i]?=some ds[i] by simp[hi])
    have:=hy xs (g2.f _ _ hq).sql
    rw[e1]at this;cases this
    exact⟨.refl,a2,_,by simp[hi],e2⟩
  |ref a=>
   rw[Rep]at r1;subst r1
   obtain⟨xs,hx,rs⟩:=a1 _ _ (show M1 a=some (.lst ds)from sq)
   refine⟨a,rfl,.inl ⟨⟨xs,SqL.of hx⟩,fin _ M1 H1 _ g1 a1 q1 ⟨fun H2 M2 g2 a2 c2=>?_,fun i H2 M2 hi g2 a2 c2=>?_,?_⟩⟩⟩
   ·obtain⟨ys,hy,ry⟩:=a2 _ _ (show M2 a=some (.lst ds)from c2)
    exact⟨ys,SqL.of hy,by rw[ry.length];exact Nat.le_refl _⟩
   ·obtain⟨ys,hy,ry⟩:=a2 _ _ (show M2 a=some (.lst ds)from c2)
    have hi':i<ys.length:=by rw[<-ry.length];exact hi
    exact⟨ys,ys[i],SqL.of hy,by simp[hi']⟩
   ·rintro i H2 M2 v H3 hi g2 a2 c2 ⟨rfl,hy⟩
    have hi:i<ds.length:=hi
    obtain⟨ys,hys,ry⟩:=a2 _ _ (show M2 a=some (.lst ds)from c2)
    obtain⟨x,e1,e2⟩:=ry.get (show ds[i]?=some ds[i] by simp[hi])
    have:=hy ys (SqL.of hys)
    rw[e1]at this;cases this
    exact⟨.refl,a2,_,by simp[hi],e2⟩
  |_=>exact sq.elim⟩
inductive ForD(g:TGD)(tb:TSD)(B:EndsD)(I:ItD)(δ0:DS)(M0:MH):Prop
 |mk (W:Nat->DS->MH->Prop) (w0:W 0 δ0 M0) (hC:∀i δ M,i<=I.n->W i δ M->I.C M) (turn:∀i d δ M,i<I.n->I.item i=some d->W i δ M->g d δ M fun δ2 M2=>tb { B with nx:=W (i+1),ct:=W (i+1),bk:=B.nx } δ2 M2) (done:∀δ M,W I.n δ M->B.nx δ M):ForD g tb B I δ0 M0
def xN(wd:TID)(g:TGD)(tb:TSD):TSD:=fun B δ M=>wd δ M fun I M1=>ForD g tb B I δ M1
theorem iH{iter:Expr}{body:List Stmt}{wd:TID}{g:TGD}{tb:TSD}{pos:Pos}(hp:PassesOwn (model X.prog X.w) X.A X.env X.xe)(hc:X.calm=true)(hi:DI X tg iter wd)(hG:DG X tg g)(hb:DSs X body tb)
 (hf:∀x,foldedSetIterable iter X.env x=pure x:=by intro _;rfl):DSt X (.For tg iter body [] pos) (xN wd g tb):=
 bZ (rA hp hc hi hG hb hf) fun E σ H ⟨δ,M,hs,a,B,ok,q⟩=>⟨δ,M,_,hs,a,q,fun I M1 H1 J g1 a1 z9 io=>by
  obtain⟨W,w0,hC,turn,done⟩:=z9
  refine⟨fun i m σ H2=>m=I.n-i/\i<=I.n/\Grow X.K H1 H2/\∃δ M,Slots X.K H2 δ σ/\Abs X.K H2 M/\W i δ M,⟨I.n,by simp,Nat.zero_le _,.refl,δ,M1,hs.mono g1,a1,w0⟩,?_⟩
  rintro i m σ H2 ⟨rfl,hi,g2,δ2,M2,s2,a2,w2⟩
  by_cases hlt:i<I.n
  ·refine .inr ⟨io.go i H2 M2 hlt g2 a2 (hC _ _ _ hi w2),fun σ' H3=>Grow X.K H1 H3/\∃δ M,Slots X.K H3 δ σ'/\Abs X.K H3 M/\W (i+1) δ M,fun σ' H3 z=>⟨I.n-(i+1),by omega,rfl,hlt,z⟩,fun x H3 y=>?_⟩
   obtain⟨g3,a3,d,ed,rd⟩:=io.yld i H2 M2 x H3 hlt g2 a2 (hC _ _ _ hi w2) y
   refine⟨d,δ2,M2,_,rd,s2.mono g3,a3,turn i d δ2 M2 hlt ed w2,fun δ4 M4 σ4 H4 g4 s4 a4 q4=>⟨δ4,M4,s4,a4,_,?_,q4⟩⟩
   have G:Grow X.K H1 H4:=(g2.trans g3).trans g4
   exact⟨fun δ' M' σ' H' g' s' a' w'=>⟨G.trans g',δ',M',s',a',w'⟩,fun d M v H' g'=>ok.rt d M v H' ((g1.trans G).trans g'),fun δ' M' σ' H' g' s' a' q'=>ok.nx _ _ _ _ ((g1.trans G).trans g') s' a' q',fun δ' M' σ' H' g' s' a' w'=>⟨G.trans g',δ',M',s',a',w'⟩⟩
  ·obtain rfl:i=I.n:=by omega
   exact .inl ⟨io.stop H2 M2 g2 a2 (hC _ _ _ hi w2),ok.nx _ _ _ _ (g1.trans g2) s2 a2 (done δ2 M2 w2)⟩⟩
end
end SD
namespace Ma
open SD
theorem iD{a b:Int}(h:0<b):0<Rat.divInt a b↔0<a:=by
 have h1:=Rat.divInt_nonneg_iff_of_pos_right (a:=-a) h;rw[<-Rat.neg_divInt]at h1;have:¬(0<=-Rat.divInt a b)↔0<Rat.divInt a b:=by constructor<;>intro z<;>grind
 rw[<-this,h1];omega
theorem nz{a b:Int}(h:0<b):Rat.divInt a b<0↔a<0:=by
 have h1:=Rat.divInt_nonneg_iff_of_pos_right (a:=a) h;have:¬(0<=Rat.divInt a b)↔Rat.divInt a b<0:=by constructor<;>intro z<;>grind
 rw[<-this,h1];omega
theorem tL{t b:Int}(h:0<b):sgn (Rat.divInt t b)=if 0<t then 1 else if t<0 then -1 else 0:=by unfold sgn;simp only[iD h,nz h]
theorem tX(a b c d x y:Rat) :
 Rat.divInt ((c.num*(a.den:Int)-a.num*(c.den:Int))*(y.num*(b.den:Int)-b.num*(y.den:Int))*((d.den:Int)*(b.den:Int)*((x.den:Int)*(a.den:Int))) -
  (d.num*(b.den:Int)-b.num*(d.den:Int))*(x.num*(a.den:Int)-a.num*(x.den:Int))*((c.den:Int)*(a.den:Int)*((y.den:Int)*(b.den:Int))))
  ((c.den:Int)*(a.den:Int)*((y.den:Int)*(b.den:Int))*((d.den:Int)*(b.den:Int)*((x.den:Int)*(a.den:Int))))=cr a b c d x y:=by
 rw[<-Rat.divInt_sub_divInt _ _ (Int.mul_ne_zero (gh c a) (gh y b)) (Int.mul_ne_zero (gh d b) (gh x a)),<-Rat.divInt_mul_divInt,<-Rat.divInt_mul_divInt,sub_eq,sub_eq,sub_eq,sub_eq]
 rfl
end Ma
namespace SD
open PySem PySem.Spec PyProof.Rows L2
abbrev NoE:Value->Shared->Prop:=fun _ _=>False
def cN(X:Cx)(xs:List Str)(js:List Nat):List Str:=xs++js.map fun j=>(X.N[j]?).getD ("":Str)
def cσ(os:L2.St)(js:List Nat)(σ:L2.St):L2.St:=os++js.map fun j=>(σ[j]?).join
theorem bK:∀(names:List (Str×NameKind)) (n:Nat) (acc:List (Str×Addr)),cellsFrom n names acc=cellsFrom n names []++acc
 |[],_,_=>rfl
 |(x,k)::r,n,acc=>by
  unfold cellsFrom
  split
  ·rw[bK r (n+1) ((x,n)::acc),bK r (n+1) [(x,n)],List.append_assoc];rfl
  ·exact bK r n acc
theorem gL:∀(names:List (Str×NameKind)) (n:Nat) {y:Str} {c:Addr},(y,c)∈cellsFrom n names []->(y,NameKind.cell)∈names
 |[],_,_,_,h=>by cases h
 |(x,k)::r,n,y,c,h=>by
  unfold cellsFrom at h
  split at h
  ·rename_i hk
   rw[bK]at h
   rcases List.mem_append.mp h with h|h
   ·exact List.mem_cons_of_mem _ (gL r _ h)
   ·have e:(y,c)=(x,n):=by simpa using h
    cases e
    obtain rfl:k=.cell:=by simpa using hk
    exact List.mem_cons_self
  ·exact List.mem_cons_of_mem _ (gL r _ h)
theorem me{l r:List (Str×Addr)}{y:Str}{c:Addr}(h:(l++r).lookup y=some c):l.lookup y=some c\/(l.lookup y=none/\r.lookup y=some c):=by
 rw[List.lookup_append]at h;cases e:l.lookup y with
 |some c'=>rw[e]at h;exact .inl h
 |none=>rw[e]at h;exact .inr ⟨rfl,h⟩
theorem qW{env:Env}{y:Str}{c:Addr}{names:List (Str×NameKind)}(h:(ee names env).lookup y=some c):(y,NameKind.free)∈names:=by
 have hm:=PySem.mem_of_lookup h;unfold ee at hm;obtain⟨z,hz,e⟩:=List.mem_map.mp hm;rw[List.mem_reverse,List.mem_filter]at hz;obtain⟨n,k⟩:=z;obtain rfl:k=.free:=by simpa using hz.2
 cases e;exact hz.1
theorem d8{env:Env}{k:NameKind}(hk:k≠.free):∀{names:List (Str×NameKind)} {x:Str},names.lookup x=some k->
 (names.map fun(n,k)=>if(k==NameKind.free&&env.scope.kind==.function&&env.kindOf n==some .cell)then(n,NameKind.cell)else(n,k)).lookup x=some k
 |[],_,h=>by simp at h
 |(n,q)::r,x,h=>by
  have ih:=@d8 env k hk r x
  rw[List.map_cons]
  dsimp only
  by_cases hx:(x==n)=true
  ·rw[List.lookup_cons,hx]at h
   cases h
   rw[if_neg (by intro z;rw[Bool.and_eq_true,Bool.and_eq_true]at z;exact hk (by simpa using z.1.1)),List.lookup_cons,hx]
  ·have hx':(x==n)=false:=by simpa using hx
   rw[List.lookup_cons,hx']at h
   split<;>(rw[List.lookup_cons,hx'];exact ih h)
theorem uE{M:Model}{A:Around}{E:Value->Shared->Prop}{s:Shared}{scope:Scope}{globals:Addr}{cl:List (Str×Addr)}{qual:Str}{env:Env}{Q:Env->Shared->Prop} (h:Q { scope:=scope,locals:=s.heap.objs.size,globals:=globals,cells:=cellsFrom (s.heap.objs.size+1) scope.names cl,qual:=qual,func:=none,code:=env.code,frame:=env.frame,builtins:=env.builtins } { s with heap:=pushCells (s.heap.push { cls:=.type "dict",data:=.dict #[] }) scope.names }) : wpAny M A (newFunctionEnv scope globals cl [] qual none .none (some env)) Q E s:=by simp only[newFunctionEnv,Option.isSome_some,if_true];refine wpAny_bind (wpAny_alloc ?_);refine wpAny_bind (wpAny_layCells _ (fun name kind cells=>by cases hkc:kind==NameKind.cell<;>simp[hkc]) _ _ _ _ ?_);rw[show({ s with heap:=s.heap.push { cls:=.type "dict",data:=.dict #[] } }:Shared).heap.objs.size=s.heap.objs.size+1 from Heap.size_push ..];refine wpAny_bind ?_;rw[List.forIn_nil];exact wpAny_pure (wpAny_pure h)
def lh(scope:Scope)(C:Addr)(env:Env):Env:=
 { scope:=relabel scope env,locals:=C,globals:=env.globals,cells:=cellsFrom (C+1) scope.names (ee scope.names env),qual:=env.qual,func:=none,code:=env.code,frame:=env.frame,builtins:=env.builtins }
def cxC(X:Cx)(xs:List Str)(js:List Nat)(scope:Scope)(C:Addr)(s:Shared)(H:Hp)(fp:List Addr):Cx where
 prog:=X.prog
 w:=X.w
 K:=X.K
 mg:=X.mg
 base:=X.base
 A:=X.A
 N:=cN X xs js
 s₀:=s
 H₀:=H
 env:=lh scope C X.env
 outer:=X.stack
 stack:=X.stack
 ex:=fp
 fn:=fun y=>xs.contains y
 calm:=X.calm
 pn:=[]
 xe:=fun _ _=>False
structure CScope(X:Cx)(xs:List Str)(js:List Nat)(scope:Scope):Prop where
 kind:scope.kind=.function
 cell:∀y∈scope.names,y.2=.cell->y.1∈xs
 free':∀y∈scope.names,y.2=.free->y.1∉xs
 names:∀y∈scope.names,y.2=.local->scope.names.lookup y.1=some .local
 own:∀x∈xs,scope.names.lookup x=some .local\/scope.names.lookup x=some .cell
 out:∀y∈scope.names,y.2=.free->X.env.kindOf y.1=some .cell\/X.env.kindOf y.1=some .free
 nd:(cN X xs js).Nodup
 js:∀j∈js,scope.names.lookup ((X.N[j]?).getD ("":Str))≠some .local
section
variable{X:Cx}{xs:List Str}{js:List Nat}{scope:Scope}{pins:List (Addr×Obj)}{σ:L2.St}{H:Hp}{s:Shared}{fp:List Addr}
theorem CScope.cells(c:CScope X xs js scope)(ok:X.Ok):∀y∈scope.names,y.2=.free->∃a,X.env.cells.lookup y.1=some a:=fun y hy hf=>ok.has _ (c.out y hy hf)
theorem CScope.yV(c:CScope X xs js scope)(ok:X.Ok):closureFor scope X.env=pure (ee scope.names X.env):=nF (c.cells ok)
theorem CScope.kindOf(c:CScope X xs js scope)(ok:X.Ok){C:Addr}{y:Str}{k:NameKind}(e:(lh scope C X.env).kindOf y=some k):scope.names.lookup y=some k\/(k=.cell/\scope.names.lookup y=some .free):=eL ok.kind e
theorem rE(c:CScope X xs js scope)(I:Inv X pins σ H s)(hf:∀b∈fp,eA X pins H b)(hfp:∀b∈fp,b<s.heap.objs.size){h':Heap}(eh:h'=pushCells (s.heap.push { cls:=.type "dict",data:=.dict #[] }) scope.names)(k:∀b o,s.heap.get? b=some o->h'.get? b=some o) :
 Inv (cxC X xs js scope s.heap.objs.size s H fp) [] (cσ (List.replicate xs.length none) js σ) H { s with heap:=h' }:=by
 have ok:=I.ok
 have hn:h'.Ns s.heap.objs.size fun _=>none:=by rw[eh];exact(Heap.Ns.new s.heap (.type "dict")).keeps (pushCells_keeps _ _)
 have cok:CellsOk h' (s.heap.objs.size+1) (cellsFrom (s.heap.objs.size+1) scope.names []):=by
  have:=cellsFrom_ok scope.names (s.heap.push { cls:=.type "dict",data:=.dict #[] }) (s.heap.objs.size+1) [] ⟨fun _ _ hm=>(nomatch hm),List.Pairwise.nil⟩ (by rw[Heap.size_push];exact Nat.le_refl _)
  rw[Heap.size_push]at this
  rw[eh];exact this
 have cl:∀{y:Str} {a:Addr},(ee scope.names X.env).lookup y=some a->X.env.cells.lookup y=some a:=fun e=>lL (c.cells ok) e
 have olt:∀{y:Str} {a:Addr},X.env.cells.lookup y=some a->a<s.heap.objs.size:=fun e=>by obtain⟨v,z⟩:=I.cell _ _ e;exact z.lt
 have both:∀{y:Str} {a:Addr},(lh scope s.heap.objs.size X.env).cells.lookup y=some a->((y,a)∈cellsFrom (s.heap.objs.size+1) scope.names []/\s.heap.objs.size<a)\/X.env.cells.lookup y=some a:=fun{y a} e=>by
  have e:(cellsFrom (s.heap.objs.size+1) scope.names (ee scope.names X.env)).lookup y=some a:=e
  rw[bK]at e
  rcases me e with z|⟨_,z⟩
  ·exact .inl ⟨PySem.mem_of_lookup z,(cok.empty _ _ (PySem.mem_of_lookup z)).2⟩
  ·exact .inr (cl z)
 have free:∀{y:Str},(lh scope s.heap.objs.size X.env).kindOf y=some .cell\/(lh scope s.heap.objs.size X.env).kindOf y=some .free->scope.names.lookup y=some .cell\/scope.names.lookup y=some .free:=fun{y} e=>by
  rcases e with e|e
  ·rcases c.kindOf ok e with z|⟨_,z⟩
   ·exact .inl z
   ·exact .inr z
  ·rcases c.kindOf ok e with z|⟨z,_⟩
   ·exact .inr z
   ·cases z
 refine⟨⟨ok.mod,c.kind,ok.glob,ok.blt,Nat.le_refl _,fun y z a h1 h2=>?_,fun y hy=>?_,fun y a h e=>?_,ok.hd,ok.frames,.inl rfl,fun b hb=>⟨Nat.ne_of_lt (hfp b hb),fun y a e=>?_⟩,
  I.bs,Nat.le_trans ok.bsz I.sz,fun b o e hb=>?_,fun b hb=>?_,I.stack,I.eV⟩,rfl,I.bare,Un.kept k,?_,fun y a e=>?_,I.hok.fresh (Nat.le_refl _),fun y a e=>?_,fun p hp=>absurd (show p∈([]:List (Addr×Obj))from hp) (by simp),I.hok.kept k,?_⟩
 ·rcases both h1 with⟨m1,l1⟩|o1<;>rcases both h2 with⟨m2,l2⟩|o2
  ·exact name_of_addr cok.apart m1 m2
  ·exact absurd (olt o2) (Nat.not_lt.mpr (Nat.le_of_lt l1))
  ·exact absurd (olt o1) (Nat.not_lt.mpr (Nat.le_of_lt l2))
  ·exact ok.inj y z a o1 o2
 ·show ∃c,(cellsFrom (s.heap.objs.size+1) scope.names (ee scope.names X.env)).lookup y=some c
  rw[bK,List.lookup_append]
  rcases free hy with z|z
  ·obtain⟨a,e⟩:=iE (n:=s.heap.objs.size+1) z
   exact⟨a,by rw[e];rfl⟩
  ·obtain⟨a,e⟩:=mi (env:=X.env) (PySem.mem_of_lookup z)
   cases q:(cellsFrom (s.heap.objs.size+1) scope.names []).lookup y with
   |none=>exact⟨a,by rw[e];rfl⟩
   |some a'=>exact⟨a',rfl⟩
 ·have hx:y∈xs:=by simpa[cxC]using h
  have e:(cellsFrom (s.heap.objs.size+1) scope.names (ee scope.names X.env)).lookup y=some a:=e
  rw[bK]at e
  rcases me e with z|⟨_,z⟩
  ·exact Nat.le_of_lt (cok.empty _ _ (PySem.mem_of_lookup z)).2
  ·exact absurd hx (c.free' _ (qW z) rfl)
 ·rcases both e with⟨_,l⟩|o
  ·exact Nat.ne_of_gt (Nat.lt_trans (hfp b hb) l)
  ·exact(hf b hb).2.2.2.2.1 y a o
 ·rcases(hf b hb).2.2.2.1 with z|z
  ·exact ok.noex b o e z
  ·exact absurd (Nat.lt_of_lt_of_le (Nat.lt_of_lt_of_le (Heap.lt_size e) ok.bsz) z) (Nat.lt_irrefl _)
 ·intro z
  rcases List.mem_cons.mp (I.nB b z)with y|y
  ·exact(hf b hb).2.1 y
  ·exact(hf b hb).2.2.1 y
 ·refine⟨_,hn,fun i y v h1 h2 h3=>?_⟩
  have h1:(xs++js.map fun j=>(X.N[j]?).getD ("":Str))[i]?=some y:=h1
  have h2:(List.replicate xs.length (none:Option V)++js.map fun j=>(σ[j]?).join)[i]?=some (some v):=h2
  by_cases hi:i<xs.length
  ·rw[List.getElem?_append_left (by simpa using hi),List.getElem?_replicate,if_pos hi]at h2
   cases h2
  ·have hout:y∉xs:=fun hy=>by
    rw[List.getElem?_append_right (by omega)]at h1
    have nd:=c.nd
    unfold cN at nd
    exact(List.nodup_append.mp nd).2.2 y hy y (List.mem_of_getElem? h1) rfl
   rw[List.getElem?_append_right (by omega)]at h1
   rw[List.getElem?_append_right (by simp;omega)]at h2
   rw[List.length_replicate]at h2
   rw[List.getElem?_map]at h1 h2
   cases ej:js[i-xs.length]? with
   |none=>rw[ej]at h1;cases h1
   |some j=>
    rw[ej]at h1 h2
    have e1:(X.N[j]?).getD ("":Str)=y:=Option.some.inj h1
    have e2:(σ[j]?).join=some v:=Option.some.inj h2
    have e3:σ[j]?=some (some v):=by
     cases q:σ[j]? with
     |none=>rw[q]at e2;cases e2
     |some o=>rw[q]at e2;exact congrArg some e2
    have hj:j<X.N.length:=by rw[<-I.len];exact(List.getElem?_eq_some_iff.mp e3).1
    have e4:X.N[j]?=some y:=by
     rw[List.getElem?_eq_getElem hj]at e1 ⊢
     exact congrArg some e1
    have nl:scope.names.lookup y≠some .local:=by
     have:=c.js j (List.mem_of_getElem? ej)
     rw[e1]at this
     exact this
    have kc:(lh scope s.heap.objs.size X.env).kindOf y=some .cell\/(lh scope s.heap.objs.size X.env).kindOf y=some .free:=by
     rcases h3 with z|z|z
     ·rcases c.kindOf (C:=s.heap.objs.size) ok z with q|⟨q,_⟩
      ·exact absurd q nl
      ·cases q
     ·exact .inl z
     ·exact .inr z
    have hm:(y,NameKind.free)∈scope.names:=by
     rcases free kc with z|z
     ·exact absurd (c.cell _ (PySem.mem_of_lookup z) rfl) hout
     ·exact PySem.mem_of_lookup z
    obtain⟨a,ha⟩:=mi (env:=X.env) hm
    have ha2:(lh scope s.heap.objs.size X.env).cells.lookup y=some a:=by
     show(cellsFrom (s.heap.objs.size+1) scope.names (ee scope.names X.env)).lookup y=some a
     rw[bK,List.lookup_append]
     cases q:(cellsFrom (s.heap.objs.size+1) scope.names []).lookup y with
     |none=>rw[ha];rfl
     |some a'=>exact absurd (c.cell _ (gL _ _ (PySem.mem_of_lookup q)) rfl) hout
    have hvis:Vis X.env.scope y:=by
     rcases c.out _ hm rfl with z|z
     ·exact .inr (.inl z)
     ·exact .inr (.inr z)
    obtain⟨m,_,hl⟩:=I.loc
    obtain⟨u,r,l⟩:=hl j y v e4 e3 hvis
    refine⟨u,r,?_⟩
    rcases l with⟨z,_⟩|⟨_,a',ha',o,ho,hd⟩
    ·rcases c.out _ hm rfl with q|q
     ·have z':X.env.kindOf y=some .local:=z
      rw[q]at z';cases z'
     ·have z':X.env.kindOf y=some .local:=z
      rw[q]at z';cases z'
    ·refine .inr ⟨kc,a',?_,o,k _ _ ho,hd⟩
     have:=cl ha
     rw[ha']at this
     cases this
     exact ha2
 ·rcases both e with⟨m,_⟩|o
  ·exact⟨_,(cok.empty _ _ m).1⟩
  ·obtain⟨v,o,ho,hd⟩:=I.cell y a o
   exact⟨v,o,k _ _ ho,hd⟩
 ·rcases both e with⟨_,l⟩|o
  ·exact I.hok.fresh (Nat.le_of_lt l)
  ·exact I.freeC y a o
 ·show(cσ (List.replicate xs.length none) js σ).length=(cN X xs js).length
  unfold cσ cN
  simp
end
def PTs(X:Cx)(ifs:List Expr)(t:TT):Prop:=∀(pins:List (Addr×Obj)) (s:Shared) (σ:L2.St) (H:Hp) (Q:Bool->Hp->Prop),Inv X pins σ H s->t σ H Q->
 wpAny (model X.prog X.w) X.A (forIn ifs true fun c r=>if r=true then do let ok <-isTrue c X.env (eval c X.env);pure (ForInStep.yield ok)else pure (ForInStep.yield r)) (TP X pins σ Q) X.xe s
theorem sR{X:Cx}:PTs X [] (fun _ H Q=>Q true H):=fun pins s σ H Q I q=>wpAny_tests_nil ⟨H,I,q⟩
theorem qb{prog:Program}{w:World}{A:Around}{R:Result->Shared->Prop}{s:Shared}{elt target iter:Expr}{ifs:List Expr}{scope:Scope}{pos:Pos}{it acc:Value}{env:Env}(J:Nat->Shared->Prop)
 (step:∀n s,J n s->wpAny (model prog w) A (pyNext it) (fun r s1=>match r with
  |none=>R (.ok .next) s1
  |some v=>wpAny (model prog w) A (letOwnedTupleGo target it v) (fun _ s2=>wpAny (model prog w) A (assign target env v) (fun _ s3=>
   wpAny (model prog w) A (forIn ifs true fun c r=>if r=true then do let ok <-isTrue c env (eval c env);pure (ForInStep.yield ok)else pure (ForInStep.yield r)) (fun ok s4=>
    if ok=true then wpAny (model prog w) A (eval elt env) (fun x s5=>wpAny (model prog w) A (call (.builtin "list.append") [acc,x]) (fun _ s6=>∃m,m<n/\J m s6) NoE s5) NoE s4
    else ∃m,m<n/\J m s4) NoE s3) NoE s2) NoE s1) NoE s)
 (n:Nat) (h:J n s):codeAny (model prog w) A (.compLoop (.ListComp elt [⟨target,iter,ifs,0⟩] scope pos) 0 it acc env) R s:=by
 have no:∀{E:Value->Shared->Prop} e s',NoE e s'->E e s':=fun _ _ z=>z.elim
 refine codeAny_loop rfl J (fun n s hJ=>?_) n h
 show wpAny _ _ (Sem.onRaise (compTurn (.ListComp elt [⟨target,iter,ifs,0⟩] scope pos) 0 it acc env) (fun x=>do noteFrame x env;theTreesLotGoes x)) _ _ s
 refine wpAny_noted ?_
 rw[compTurn_list]
 refine wpAny_bind (wpAny_standAt (wpAny_bind (wpAny_mono (step n s hJ) (fun r s1 h1=>?_) no)))
 cases r with
 |none=>exact wpAny_pure h1
 |some v=>
  refine wpAny_bind (wpAny_mono h1 (fun _ s2 h2=>wpAny_bind (wpAny_mono h2 (fun _ s3 h3=>wpAny_bind (wpAny_mono h3 (fun ok s4 h4=>?_) no)) no)) no)
  cases ok with
  |false=>exact wpAny_pure ⟨rfl,h4⟩
  |true=>exact wpAny_bind (wpAny_bind (wpAny_mono h4 (fun x s5 h5=>wpAny_bind (wpAny_mono h5 (fun _ s6 h6=>wpAny_pure (wpAny_pure ⟨rfl,h6⟩)) no)) no))
abbrev Own:=V->Hp->L2.St->Prop
structure TgOk(n:Nat)(g:TG)(own:Own):Prop where
 len:∀y H os,own y H os->os.length=n
 run:∀y H os0 tail os (Q:L2.St->Hp->Prop),os0.length=n->own y H os->Q (os++tail) H->g y (os0++tail) H Q
def vh(js:List Nat)(own:Own)(tc:TT)(te:TE)(σ:L2.St)(J:It)(H1:Hp)(Q:VK):Prop:=∀D,H1 D=none->∃W:Nat->Nat->Hp->Prop,(∃m,W 0 m (upd H1 D (.lst [])))/\∀i m H,W i m H->
 (J.stop i H/\Q (.ref D) H)\/(J.go i H/\∀y H',J.yld i H y H'->∃os,own y H' os/\tc (cσ os js σ) H' fun b H2=>if b=true then
  te (cσ os js σ) H2 fun v H3=>∃xs,H3 D=some (.lst xs)/\xs.length<sizeLine/\∃m',m'<m/\W (i+1) m' (upd H3 D (.lst (xs++[v])))else ∃m',m'<m/\W (i+1) m' H2)
def oj(js:List Nat)(own:Own)(wi:TI)(tc:TT)(te:TE):TE:=fun σ H Q=>wi σ H fun J H1=>vh js own tc te σ J H1 Q
section
variable{X:Cx}{xs:List Str}{tg:Expr}{pos:Pos}{js:List Nat}{scope:Scope}{elt iter:Expr}{ifs:List Expr}{te:TE}{tc:TT}{g:TG}{own:Own}{wi:TI}{pins:List (Addr×Obj)}{σ:L2.St}{H:Hp}{s:Shared}{fp:List Addr}{it:Addr}{tn:Nat->Heap->Prop}{J:It}
theorem l6(c:CScope X xs js scope)(hc:X.calm=true)(hG:TgOk xs.length g own)(hg:∀C s H fp,PG (cxC X xs js scope C s H fp) tg g)(ht:∀C s H fp,PTs (cxC X xs js scope C s H fp) ifs tc)(he:∀C s H fp,PE (cxC X xs js scope C s H fp) elt te)
 {R:Value->Addr->Result->Shared->Prop} {E:Value->Shared->Prop} {Q:VK}
 (I:Inv X pins σ H s) (T:Turn X.prog X.w X.K tg J fp it tn) (st:tn 0 s.heap) (hf:∀b∈fp,eA X pins H b) (wc:vh js own tc te σ J H Q)
 (hR:∀D C H' s',Inv X pins σ H' s'->eA X pins H' C->(∃m,s'.heap.Ns C m)->Q (.ref D) H'->R (.ref D) C (.ok .next) s') :
 wpAny (model X.prog X.w) X.A (newList []) (fun acc s₃=>wpAny (model X.prog X.w) X.A (newFunctionEnv scope X.env.globals (ee scope.names X.env) [] X.env.qual none .none (some X.env)) (fun cenv s₄=>
  codeAny (model X.prog X.w) X.A (.compStart (.ListComp elt [⟨tg,iter,ifs,0⟩] scope pos) 0 (.ref it) acc { cenv with scope:=relabel scope X.env }) (R acc cenv.locals) s₄) E s₃) E s:=by
 have hfp:∀b∈fp,b<s.heap.objs.size:=fun b hb=>let⟨o,e,_⟩:=T.obj 0 _ st b hb;Heap.lt_size e
 have hD:H s.heap.objs.size=none:=I.hok.fresh (Nat.le_refl _)
 refine wpAny_newObj_type (uE ?_)
 generalize hh:s.heap.push { cls:=.type "list",dict:=none,data:=.seq ([]:List Value).toArray }=h3
 generalize hh1:pushCells (({ s with heap:=h3 }:Shared).heap.push { cls:=.type "dict",data:=.dict #[] }) scope.names=h₁
 have k3:∀b o,s.heap.get? b=some o->h3.get? b=some o:=fun b o e=>by rw[<-hh];exact Heap.get?_push_of_some _ e
 have I3:Inv X pins σ (upd H s.heap.objs.size (.lst [])) { s with heap:=h3 }:=by
  refine I.laid (t':=s.toks) k3 (Nat.le_refl _) ?_
  refine⟨Nat.zero_le _,[],0,.nil,?_⟩
  rw[<-hh]
  exact Heap.get?_push_size _ rfl
 have hf3:∀b∈fp,eA X pins (upd H s.heap.objs.size (.lst [])) b:=fun b hb=>⟨by rw[az (Nat.ne_of_lt (hfp b hb))];exact(hf b hb).1,(hf b hb).2⟩
 have hsz:h3.objs.size=s.heap.objs.size+1:=by rw[<-hh,Heap.size_push]
 have hfp3:∀b∈fp,b<h3.objs.size:=fun b hb=>by rw[hsz];exact Nat.lt_succ_of_lt (hfp b hb)
 have k4:∀b o,h3.get? b=some o->h₁.get? b=some o:=fun b o e=>by rw[<-hh1];exact pushCells_keeps _ _ b o (Heap.get?_push_of_some _ e)
 have I4:=rE c I3 hf3 hfp3 (h':=h₁) hh1.symm k4
 obtain⟨W,⟨m0,w0⟩,turn⟩:=wc _ hD
 have st4:tn 0 h₁:=T.keep 0 _ _ st fun b hb o e=>k4 b o (k3 b o e)
 generalize hX:cxC X xs js scope h3.objs.size { s with heap:=h3 } (upd H s.heap.objs.size (.lst [])) fp=X' at I4
 have fok:∀{pins':List (Addr×Obj)} {H':Hp} {σ':L2.St} {s':Shared},Inv X' [] σ' H' s'->(∀b∈fp,H' b=none)->∀b∈fp,eA X' [] H' b:=fun{pins' H' σ' s'} J' hn b hb=>by
  subst hX
  obtain⟨a1,a2⟩:=J'.ok.exf b hb
  exact⟨hn b hb,a1,J'.ok.exfs b hb,.inl hb,a2,fun p hp=>absurd (show p∈([]:List (Addr×Obj))from hp) (by simp)⟩
 have loop:codeAny (model X.prog X.w) X.A (.compLoop (.ListComp elt [⟨tg,iter,ifs,0⟩] scope pos) 0 (.ref it) (.ref s.heap.objs.size) (lh scope h3.objs.size X.env)) (R (.ref s.heap.objs.size) h3.objs.size)
  { s with heap:=h₁ }:=by
  refine qb (fun n s'=>∃i os H',os.length=xs.length/\Inv X' [] (cσ os js σ) H' s'/\tn i s'.heap/\(∀b∈fp,H' b=none)/\W i n H') ?_ m0 ⟨0,_,_,by simp,I4,st4,fun b hb=>(hf3 b hb).1,w0⟩
  rintro n s5 ⟨i,os,H5,hl5,I5,st5,fr5,w5⟩
  rcases turn i n H5 w5 with⟨stop,q⟩|⟨go,step⟩
  ·subst hX
   refine wpAny_mono (T.done (cxC X xs js scope h3.objs.size { s with heap:=h3 } (upd H s.heap.objs.size (.lst [])) fp) rfl rfl rfl hc i [] s5 _ H5 NoE I5 (fok (pins':=[]) I5 fr5) st5 stop) (fun r s6 zz43_0=>?_) fun _ _ z=>z
   obtain⟨hr,I6⟩:=zz43_0
   subst hr
   refine hR _ _ H5 s6 (I3.sJ I6.os I6.base I6.hok I6.bare fun b hb=>⟨(hf3 b hb).2.2.2.1,(hf3 b hb).2.1,(hf3 b hb).2.2.2.2.1,(hf3 b hb).2.2.2.2.2⟩) (I3.uB (Nat.le_refl _) I6.free) (let⟨m,hm,_⟩:=I6.loc;⟨m,hm⟩) q
  ·subst hX
   refine wpAny_mono (T.item (cxC X xs js scope h3.objs.size { s with heap:=h3 } (upd H s.heap.objs.size (.lst [])) fp) rfl rfl rfl hc i [] s5 _ H5 NoE I5 (fok (pins':=[]) I5 fr5) st5 go) (fun r s6 zz44_0=>?_) fun _ _ z=>z
   obtain⟨u,hr,h6⟩:=zz44_0
   subst hr
   refine wpAny_mono h6 (fun _ s7 zz45_0=>?_) fun _ _ z=>z
   obtain⟨y,H7,I7,r7,y7,st7,fr7⟩:=zz45_0
   have I7':=I7.pinned (fok (pins':=[]) I7 fr7) (T.obj _ _ st7)
   obtain⟨os8,ow8,q8⟩:=step y H7 y7
   have l8:=hG.len _ _ _ ow8
   refine wpAny_mono (hg _ _ _ _ _ s7 _ H7 y u (fun σ' H'=>σ'=cσ os8 js σ/\H'=H7) I7' r7 (hG.run y H7 os _ os8 _ hl5 ow8 ⟨rfl,rfl⟩)) (fun _ s8 zz46_0=>?_) fun _ _ z=>z
   obtain⟨σ8,H8,I8,e8,e8'⟩:=zz46_0
   subst e8 e8'
   refine wpAny_mono (ht _ _ _ _ _ s8 _ _ _ I8 q8) (fun ok s9 zz47_0=>?_) fun _ _ z=>z
   obtain⟨H9,I9,q9⟩:=zz47_0
   have back:∀{m':Nat} {H10:Hp} {s10:Shared},Inv (cxC X xs js scope h3.objs.size { s with heap:=h3 } (upd H s.heap.objs.size (.lst [])) fp) ([]++iY fp s7.heap) (cσ os8 js σ) H10 s10->m'<n->W (i+1) m' H10->
    ∃m,m<n/\∃i os H',os.length=xs.length/\Inv (cxC X xs js scope h3.objs.size { s with heap:=h3 } (upd H s.heap.objs.size (.lst [])) fp) [] (cσ os js σ) H' s10/\tn i s10.heap/\(∀b∈fp,H' b=none)/\W i m H':=fun{m' H10 s10} I10 hm' w10=>by
    refine⟨m',hm',i+1,os8,H10,l8,I10.gk,T.keep _ _ _ st7 fun b hb o e=>(I10.pin (b,o) (List.mem_append_right _ (List.mem_append_right _ (dG hb e)))).1,fun b hb=>?_,w10⟩
    obtain⟨o',e,d⟩:=T.obj _ _ st7 b hb
    exact(I10.pin (b,o') (List.mem_append_right _ (List.mem_append_right _ (dG hb e)))).2.1
   cases ok with
   |false=>
    rw[if_neg Bool.false_ne_true]at q9 ⊢
    obtain⟨m',hm',w9⟩:=q9
    exact back I9 hm' w9
   |true=>
    rw[if_pos rfl]at q9 ⊢
    refine wpAny_mono (he _ _ _ _ _ s9 _ _ _ I9 q9) (fun v s10 zz48_0=>?_) fun _ _ z=>z
    obtain⟨vv,H10,I10,r10,ys,hd10,hl10,q10⟩:=zz48_0
    refine wpAny_mono (jU (X:=(cxC X xs js scope h3.objs.size { s with heap:=h3 } (upd H s.heap.objs.size (.lst [])) fp)) _ s10 _ H10 (.ref s.heap.objs.size) [vv] (.ref s.heap.objs.size) [v] (fun _ H'=>∃m',m'<n/\W (i+1) m' H') I10 rfl (.cons r10 .nil) ⟨_,ys,vv,rfl,rfl,hd10,hl10,q10⟩) (fun _ s11 zz49_0=>?_) fun _ _ z=>z
    obtain⟨_,H11,I11,_,m',hm',w11⟩:=zz49_0
    exact back I11 hm' w11
 exact codeAny_compStart_list loop (T.self X.A 0 _ _ _ st4 loop)
theorem tW(c:CScope X xs js scope)(hc:X.calm=true)(hi:PI X tg iter wi)(hG:TgOk xs.length g own)(hg:∀C s H fp,PG (cxC X xs js scope C s H fp) tg g)(ht:∀C s H fp,PTs (cxC X xs js scope C s H fp) ifs tc)(he:∀C s H fp,PE (cxC X xs js scope C s H fp) elt te)(hs:∀x,foldedSetIterable iter X.env x=pure x:=by intro _;rfl) : PE X (.ListComp elt [⟨tg,iter,ifs,0⟩] scope pos) (oj js own wi tc te):=by intro pins s σ H Q I h;rw[eval_ListComp];refine wpAny_comprehension_free (use:=none) rfl hs (c.yV I.ok) c.kind c.names (thn (hi pins s σ H _ I h) fun v s1 h1=>thn h1 fun itv s2 zz50_0=>?_);obtain⟨it,fp,tn,J,H2,e,I2,T,st,f2,w⟩:=zz50_0;subst e;refine l6 (R:=fun acc C=>compPost (model X.prog X.w) X.A X.xe none (EP X pins σ Q) acc C) c hc hG hg ht he I2 T st f2 w fun D C H' s' I' fC zz51_0 q=>?_;obtain⟨m,hm⟩:=zz51_0;exact⟨m,hm,fun h' hsb=>⟨.ref D,H',I'.turned (t':=s'.toks) (fun b o ne e=>hsb.extBut b o ne e) fC.1 fC.2.1 fC.2.2.2.1 fC.2.2.2.2.1 fC.2.2.2.2.2,rfl,q⟩⟩
theorem ub{i:Nat}{y:Str}{py spos:Pos}(c:CScope X xs js scope)(hc:X.calm=true)(hN:X.N.Nodup)(hi:PI X tg iter wi)(hG:TgOk xs.length g own)(hg:∀C s H fp,PG (cxC X xs js scope C s H fp) tg g)(ht:∀C s H fp,PTs (cxC X xs js scope C s H fp) ifs tc)(he:∀C s H fp,PE (cxC X xs js scope C s H fp) elt te)(hy:X.N[i]?=some y)(hl:X.env.scope.names.lookup y=some .local)
 (hsw:swapsWith (.ListComp elt [⟨tg,iter,ifs,0⟩] scope pos) (some (.Name y py)) spos.line X.env=pure true) (hs:∀x,foldedSetIterable iter X.env x=pure x:=by intro _;rfl) :
 PS X (.Assign [.Name y py] (.ListComp elt [⟨tg,iter,ifs,0⟩] scope pos) spos) (xC (oj js own wi tc te) (gg i)):=by
 intro pins s σ H B I h
 rw[exec_Assign_Name_used _ _ _ _ hsw]
 refine wpAny_bind (wpAny_standAt (wpAny_bind ?_))
 show wpAny _ X.A (do let _ <-comprehension (.ListComp elt [⟨tg,iter,ifs,0⟩] scope pos) scope X.env _ (newList []) false (eval iter X.env) (some (assign (.Name y py) X.env))) _ _ s
 refine wpAny_bind (wpAny_mono (wpAny_comprehension_free (use:=some (assign (.Name y py) X.env)) (Q:=fun _ s'=>SP X pins B .next s') rfl hs (c.yV I.ok) c.kind c.names
  (thn (hi pins s σ H _ I h) fun v s1 h1=>thn h1 fun itv s2 z=>?_)) (fun _ s' hq=>wpAny_pure (wpAny_pure hq)) fun _ _ e=>e)
 obtain⟨it,fp,tn,J,H2,e,I2,T,st,f2,w⟩:=z
 subst e
 refine l6 (R:=fun acc C=>compPost (model X.prog X.w) X.A X.xe (some (assign (.Name y py) X.env)) (fun _ s'=>SP X pins B .next s') acc C) c hc hG hg ht he I2 T st f2 w fun D C H' s' I' fC zz52_0 q=>?_
 obtain⟨m,hm⟩:=zz52_0
 show wpAny _ X.A (assign (.Name y py) X.env (.ref D)) _ _ _
 refine wpAny_assign_Name (jY I' hN hy (.inl hl) (v:=.ref D) rfl (fun s9 I9 zz53_0=>?_) (.inr hl))
 obtain⟨a,sb,ha⟩:=zz53_0
 have hne:C≠a:=by
  rcases ha with z|z
  ·rw[z];exact fC.2.1
  ·exact fun e=>fC.2.2.2.2.1 y a z e.symm
 refine⟨m,hm.sameBut sb hne,fun h' hsb=>?_⟩
 exact⟨_,H',I9.turned (t':=s9.toks) (fun b o ne e=>hsb.extBut b o ne e) fC.1 fC.2.1 fC.2.2.2.1 fC.2.2.2.2.1 fC.2.2.2.2.2,q⟩
end
inductive Tgt where
 |one|many (n:Nat)
def qH(K:PySem.W.Frag):Tgt->Own
 |.one=>fun y _ os=>os=[some y]
 |.many n=>fun y H os=>∃a xs,y=.ref a/\SqT K H a xs/\xs.length=n/\os=xs.map some
theorem se{K:PySem.W.Frag}:TgOk 1 (gg 0) (qH K .one):=⟨fun _ _ os h=>by rw[h];rfl,fun y H os0 tail os Q hl ho q=>by
 obtain⟨o,rfl⟩:=ll hl
 rw[show os=[some y]from ho]at q;exact q⟩
theorem wb{K:PySem.W.Frag}:TgOk 2 (vA K 2 (lR (gg 0) (lR (gg 1) wj))) (qH K (.many 2)):=⟨fun _ _ os z=>by
 obtain⟨a,xs,_,_,hl,e⟩:=z
 rw[e];simpa using hl,fun y H os0 tail os Q hl z q=>by
 obtain⟨a,xs,e,hq,hx,ho⟩:=z
 obtain⟨o,o',rfl⟩:=bF hl
 obtain⟨u,v,rfl⟩:=bF hx
 rw[ho]at q;exact⟨a,_,e,hq,hx,u,_,rfl,v,_,rfl,rfl,q⟩⟩
def xG:Tgt->D->DS->Prop
 |.one,d,os=>os=[some d]
 |.many n,d,os=>∃ds,d=.tup ds/\ds.length=n/\os=ds.map some
def cδ(os:DS)(js:List Nat)(δ:DS):DS:=os++js.map fun j=>(δ[j]?).join
theorem uA{K:PySem.W.Frag}{H:Hp}{δ os:DS}{σ us:L2.St}{js:List Nat}(hs:Slots K H δ σ)(r:Slots K H os us):Slots K H (cδ os js δ) (cσ us js σ):=by
 refine⟨by simp[cδ,cσ,r.len],fun i e q=>?_⟩;unfold cδ at q;unfold cσ;by_cases hi:i<os.length
 ·rw[List.getElem?_append_left hi]at q;rw[List.getElem?_append_left (by rw[<-r.len];exact hi)];exact r.at' i e q
 ·rw[List.getElem?_append_right (by omega)]at q;rw[List.getElem?_append_right (by rw[<-r.len];omega),<-r.len];rw[List.getElem?_map]at q ⊢;cases ej:js[i-os.length]? with
  |none=>rw[ej]at q;cases q
  |some j=>
   rw[ej]at q
   have e2:(δ[j]?).join=some e:=Option.some.inj q
   have e3:δ[j]?=some (some e):=by
    cases z:δ[j]? with
    |none=>rw[z]at e2;cases e2
    |some o=>rw[z]at e2;exact congrArg some e2
   obtain⟨v',e4,e5⟩:=hs.at' j e e3
   exact⟨v',by rw[show(some j).map (fun j=>(σ[j]?).join)=some ((σ[j]?).join)from rfl,e4];rfl,e5⟩
theorem ki{K:PySem.W.Frag}{H:Hp}{ds:List D}{xs:List V}(r:aA K H ds xs):Slots K H (ds.map some) (xs.map some):=by
 refine⟨by simp[r.length],fun i d e=>?_⟩;rw[List.getElem?_map]at e ⊢;cases q:ds[i]? with
 |none=>rw[q]at e;cases e
 |some d'=>
  rw[q]at e;cases e
  obtain⟨x,e1,e2⟩:=r.get q
  exact⟨x,by rw[e1];rfl,e2⟩
theorem rb{K:PySem.W.Frag}{H:Hp}{tk:Tgt}{d:D}{v:V}{os:DS}(r:Rep K H d v)(h:xG tk d os):∃us,qH K tk v H us/\Slots K H os us:=by
 cases tk with
 |one=>
  rw[show os=[some d]from h]
  exact⟨[some v],rfl,ki (.cons r .nil)⟩
 |many n=>
  obtain⟨ds,rfl,hl,rfl⟩:=h
  rw[Rep]at r
  obtain⟨a,xs,rfl,hq,rs⟩:=r
  exact⟨_,⟨a,xs,rfl,hq,by rw[<-rs.length];exact hl,rfl⟩,ki rs⟩
def ko:TTD:=fun _ M Q=>Q true M
def vn(I:ItD)(tk:Tgt)(js:List Nat)(tc:TTD)(te:TD)(δ:DS)(M1:MH)(Q:DK):Prop:=I.n<=1000000/\∀p,M1 p=none->∃W:Nat->List D->MH->Prop,W 0 [] (ay M1 p (.lst []))/\(∀i ys M,i<=I.n->W i ys M->I.C M)/\
 (∀i ys d M,i<I.n->I.item i=some d->W i ys M->∃os,xG tk d os/\tc (cδ os js δ) M fun b M2=>if b=true then te (cδ os js δ) M2 fun e M'=>∃M3,Sub M3 M'/\M3 p=some (.lst ys)/\W (i+1) (ys++[e]) (ay M3 p (.lst (ys++[e])))else ∃M3,Sub M3 M2/\W (i+1) ys M3)/\∀ys M,W I.n ys M->Q (.ref p) M
def gR(wd:TID)(tk:Tgt)(js:List Nat)(tc:TTD)(te:TD):TD:=fun δ M Q=>wd δ M fun I M1=>vn I tk js tc te δ M1 Q
section
variable{X:Cx}{K:PySem.W.Frag}
theorem jG{wd:TID}{tk:Tgt}{js:List Nat}{tc:TTD}{te:TD}{σ:L2.St}{H:Hp}{Q:VK}(h:lift K (gR wd tk js tc te) σ H Q):oj js (qH K tk) (uT K wd) (liftT K tc) (lift K te) σ H Q:=by
 obtain⟨δ,M,R,hs,hM,q,fin⟩:=h;refine⟨δ,M,_,hs,hM,q,fun I M1 H1 J g1 a1 kc io p hp=>?_⟩;obtain⟨hn,kc⟩:=kc;obtain⟨W,w0,hC,turn,done⟩:=kc p (a1.fresh hp);refine⟨fun i m H2=>m=I.n-i/\i<=I.n/\Grow K H1 H2/\∃ys M,ys.length<=i/\Abs K H2 M/\W i ys M,⟨I.n,by simp,Nat.zero_le _,.new hp,[],_,Nat.le_refl _,a1.ny hp .nil,w0⟩,?_⟩;rintro i m H2 ⟨rfl,hi,g2,ys,M2,hl,a2,w2⟩;by_cases hin:i<I.n
 ·refine .inr ⟨io.go i H2 M2 hin g2 a2 (hC _ _ _ hi w2),fun v H3 hy=>?_⟩;obtain⟨g3,a3,d,ed,rd⟩:=io.yld i H2 M2 v H3 hin g2 a2 (hC _ _ _ hi w2) hy;obtain⟨os,ow,q3⟩:=turn i ys d M2 hin ed w2;obtain⟨us,uv,su⟩:=rb rd ow;have s3:=uA (js:=js) (hs.mono ((g1.trans g2).trans g3)) su;refine⟨us,uv,cδ os js δ,M2,_,s3,a3,q3,fun b M4 H4 g4 a4 q4=>?_⟩;cases b with
  |false=>
   rw[if_neg Bool.false_ne_true]at q4 ⊢
   obtain⟨M5,s5,w5⟩:=q4
   exact⟨I.n-(i+1),by omega,rfl,hin,(g2.trans g3).trans g4,ys,M5,by omega,a4.sub s5,w5⟩
  |true=>
   rw[if_pos rfl]at q4 ⊢
   refine⟨cδ os js δ,M4,_,s3.mono g4,a4,q4,fun e M' u H5 g5 r5 a5 zz55_0=>?_⟩
   obtain⟨M6,s6,e6,w6⟩:=zz55_0
   obtain⟨zs,hx,rs⟩:=(a5.sub s6) _ _ e6
   refine⟨zs,hx,?_,I.n-(i+1),by omega,rfl,hin,(((g2.trans g3).trans g4).trans g5).trans (.lst hx),ys++[e],_,by simp;omega,(a5.sub s6).uu hx (rs.append (.cons r5 .nil)),w6⟩
   rw[<-rs.length]
   exact Nat.lt_of_le_of_lt hl (Nat.lt_of_lt_of_le hin (Nat.le_trans hn (by decide)))
 ·obtain rfl:i=I.n:=by omega
  exact .inl ⟨io.stop H2 M2 g2 a2 (hC _ _ _ hi w2),fin _ _ _ _ (g1.trans g2) (by rw[Rep]) a2 (done ys M2 w2)⟩
variable{xs:List Str}{tg:Expr}{pos:Pos}{js:List Nat}{scope:Scope}{elt iter:Expr}{ifs:List Expr}{te:TD}{tc:TTD}{g:TG}{tk:Tgt}{wd:TID}
def DTs(X:Cx)(ifs:List Expr)(t:TTD):Prop:=PTs X ifs (liftT X.K t)
theorem eR:DTs X [] ko:=fun pins s σ H Q I zz56_0=>by obtain⟨δ,M,R,hs,hM,q,fin⟩:=zz56_0;exact(sR pins s σ H Q I (fin _ _ _ .refl hM q))
theorem pb(c:CScope X xs js scope)(hc:X.calm=true)(hi:DI X tg iter wd)(hG:TgOk xs.length g (qH X.K tk))(hg:∀C s H fp,PG (cxC X xs js scope C s H fp) tg g)(ht:∀C s H fp,DTs (cxC X xs js scope C s H fp) ifs tc)(he:∀C s H fp,DE (cxC X xs js scope C s H fp) elt te) (hs:∀x,foldedSetIterable iter X.env x=pure x:=by intro _;rfl):DE X (.ListComp elt [⟨tg,iter,ifs,0⟩] scope pos) (gR wd tk js tc te):=aT (tW (te:=lift X.K te) (tc:=liftT X.K tc) c hc hi hG hg ht he hs) fun _ _ _ h=>jG h
theorem uh(i:Nat){y:Str}{py spos:Pos}(hN:X.N.Nodup)(c:CScope X xs js scope)(hc:X.calm=true)(hi:DI X tg iter wd)(hG:TgOk xs.length g (qH X.K tk))(hg:∀C s H fp,PG (cxC X xs js scope C s H fp) tg g)(ht:∀C s H fp,DTs (cxC X xs js scope C s H fp) ifs tc)(he:∀C s H fp,DE (cxC X xs js scope C s H fp) elt te) (hy:X.N[i]?=some y:=by rfl) (hl:X.env.scope.names.lookup y=some .local:=by rfl) (hsw:swapsWith (.ListComp elt [⟨tg,iter,ifs,0⟩] scope pos) (some (.Name y py)) spos.line X.env=pure true:=by rfl) (hs:∀x,foldedSetIterable iter X.env x=pure x:=by intro _;rfl) : DSt X (.Assign [.Name y py] (.ListComp elt [⟨tg,iter,ifs,0⟩] scope pos) spos) (dE (gR wd tk js tc te) (aR i)):=bZ (ub (te:=lift X.K te) (tc:=liftT X.K tc) c hc hN hi hG hg ht he hy hl hsw hs) fun E σ H zz57_0=>by obtain⟨δ,M,hs,a,B,ok,q⟩:=zz57_0;exact(jG ⟨δ,M,_,hs,a,q,fun d M1 v H1 g1 r1 a1 q1=>ok.nx _ _ _ _ g1 ((hs.mono g1).set r1 i) a1 q1⟩)
theorem comp_map{I:ItD}{tk:Tgt}{js:List Nat}{te:TD}{δ:DS}{M1:MH}{Q:DK}(f:Nat->D)(hn:I.n<=1000000)(hC:∀p ys,M1 p=none->I.C (ay M1 p (.lst ys))) (h:∀i d M,i<I.n->I.item i=some d->Sub M1 M->∃os,xG tk d os/\∀K:DK,(∀M',Sub M M'->K (f i) M')->te (cδ os js δ) M K) (hq:∀p,M1 p=none->Q (.ref p) (ay M1 p (.lst ((List.range I.n).map f)))):vn I tk js ko te δ M1 Q:=by
 refine⟨hn,fun p hp=>⟨fun i ys M=>ys=(List.range i).map f/\M=ay M1 p (.lst ys),⟨rfl,rfl⟩,?_,?_,?_⟩⟩
 ·rintro i ys M _ ⟨_,rfl⟩;exact hC p ys hp
 ·rintro i ys d M hi hd ⟨rfl,rfl⟩;obtain⟨os,ow,k⟩:=h i d _ hi hd (.new hp .refl);refine⟨os,ow,?_⟩;unfold ko;refine yz (k _ ?_);exact fun M' s'=>⟨_,s',ag,by rw[List.range_succ,List.map_append];rfl,by rw[bL]⟩
 ·rintro ys M ⟨rfl,rfl⟩;exact hq p hp
end
def yN(X:Cx)(xs:List Str)(js:List Nat)(scope:Scope):Bool:=
 scope.kind==.function&&scope.names.all (fun y=>(y.2 != .cell||xs.contains y.1)&&(y.2 != .free||!xs.contains y.1))&&scope.names.all (fun y=>y.2 != .local||scope.names.lookup y.1==some .local)&&xs.all (fun x=>scope.names.lookup x==some .local||scope.names.lookup x==some .cell) &&
  scope.names.all (fun y=>y.2 != .free||(X.env.kindOf y.1==some .cell||X.env.kindOf y.1==some .free))&&decide (cN X xs js).Nodup&&js.all (fun j=>scope.names.lookup ((X.N[j]?).getD ("":Str)) != some .local)
theorem CScope.of{X:Cx}{xs:List Str}{js:List Nat}{scope:Scope}(h:yN X xs js scope=true):CScope X xs js scope:=by
 unfold yN at h;simp only[Bool.and_eq_true]at h;obtain⟨⟨⟨⟨⟨⟨h1,h2⟩,h3⟩,h4⟩,h5⟩,h6⟩,h7⟩:=h;refine⟨by simpa using h1,fun y hy hc=>?_,fun y hy hf=>?_,fun y hy hl=>?_,fun x hx=>?_,fun y hy hf=>?_,of_decide_eq_true h6,fun j hj=>?_⟩
 ·have:=List.all_eq_true.mp h2 y hy;rw[hc]at this;simpa using this
 ·have:=List.all_eq_true.mp h2 y hy;rw[hf]at this;simpa using this
 ·have:=List.all_eq_true.mp h3 y hy;rw[hl]at this;simpa using this
 ·have:=List.all_eq_true.mp h4 x hx;simpa using this
 ·have:=List.all_eq_true.mp h5 y hy;rw[hf]at this;simpa using this
 ·have:=List.all_eq_true.mp h7 j hj;simpa using this
abbrev TOD:=DS->MH->(Option Int->MH->Prop)->Prop
def pM(K:PySem.W.Frag)(t:TOD):TO:=fun σ H Q=>∃δ M R,Slots K H δ σ/\Abs K H M/\t δ M R/\∀o M' H',Grow K H H'->Abs K H' M'->R o M'->Q o H'
def qT:TOD:=fun _ M Q=>Q none M
def vE(t:TD):TOD:=fun δ M Q=>t δ M fun x M1=>∃i,x=.int i/\Q (some i) M1
def cutD(xs:List D)(lo hi:Option Int):List D:=(xs.drop (HT.sIx xs.length 0 lo)).take (HT.sIx xs.length xs.length hi-HT.sIx xs.length 0 lo)
def yB:D->Option Int->Option Int->MH->DK->Prop:=fun x lo hi M Q=>match x with
 |.ref a=>∃ds,M a=some (.lst ds)/\∀p,M p=none->Q (.ref p) (ay M p (.lst (cutD ds lo hi)))
 |.rol ds=>∀p,M p=none->Q (.ref p) (ay M p (.lst (cutD ds lo hi)))
 |.tup ds=>¬(HT.sIx ds.length 0 lo=0/\HT.sIx ds.length ds.length hi=ds.length)/\Q (.tup (cutD ds lo hi)) M
 |_=>False
def zu(te:TD)(tl th:TOD):TD:=fun δ M Q=>te δ M fun x M1=>tl δ M1 fun l M2=>th δ M2 fun u M3=>yB x l u M3 Q
theorem aA.cut{K:PySem.W.Frag}{H:Hp}{ds:List D}{xs:List V}(h:aA K H ds xs)(lo hi:Option Int):aA K H (cutD ds lo hi) (mG xs lo hi):=by unfold cutD mG;rw[h.length];exact(h.drop _).take _
section
variable{X:Cx}{e a:Expr}{te:TD}{tl th:TOD}{lo hi:Option Expr}{pos p2:Pos}
theorem rP{e:Option Expr}{t t':TO}(h:PO X e t)(k:∀σ H Q,t' σ H Q->t σ H Q):PO X e t':=fun pins s σ H Q I q=>h pins s σ H Q I (k _ _ _ q)
theorem pq:PO X none (pM X.K qT):=rP uI fun σ H Q zz58_0=>by obtain⟨δ,M,R,hs,a,q,fin⟩:=zz58_0;exact(fin _ _ _ .refl a q)
theorem pA(h:DE X e te):PO X (some e) (pM X.K (vE te)):=rP (uc h) fun σ H Q zz59_0=>by obtain⟨δ,M,R,hs,a,q,fin⟩:=zz59_0;exact(⟨δ,M,_,hs,a,q,fun d M1 v H1 g1 r1 a1 z9=>by
 obtain⟨i,ei,q1⟩:=z9
 subst ei
 rw[Rep]at r1
 exact⟨i,r1,fin _ _ _ g1 a1 q1⟩⟩)
theorem lD(he:DE X a te)(hl:PO X lo (pM X.K tl))(hu:PO X hi (pM X.K th)):DE X (.Subscript a (.Slice lo hi none p2) pos) (zu te tl th):=
 aT (r6 (tF.or wW) he hl hu) fun σ H Q zz60_0=>by obtain⟨δ,M,R,hs,a,q,fin⟩:=zz60_0;exact(⟨δ,M,_,hs,a,q,fun x M1 v H1 g1 r1 a1 q1=>⟨δ,M1,_,hs.mono g1,a1,q1,fun l M2 H2 g2 a2 q2=>⟨δ,M2,_,hs.mono (g1.trans g2),a2,q2,fun u M3 H3 g3 a3 q3=>by
  have G:=(g1.trans g2).trans g3
  have r3:=r1.mono (g2.trans g3)
  unfold yB at q3
  split at q3
  ·obtain⟨ds,e3,q3⟩:=q3
   obtain rfl:v=.ref _:=r3
   obtain⟨xs,hx,rs⟩:=a3 _ _ e3
   exact .inl ⟨_,xs,rfl,SqL.of hx,fun z hz=>fin _ _ _ _ (G.trans (.new hz)) (by rw[Rep]) (a3.ny hz (rs.cut _ _)) (q3 z (a3.fresh hz))⟩
  ·rw[Rep]at r3
   obtain⟨b,xs,rfl,hx,rs⟩:=r3
   exact .inl ⟨_,xs,rfl,hx.sql,fun z hz=>fin _ _ _ _ (G.trans (.new hz)) (by rw[Rep]) (a3.ny hz (rs.cut _ _)) (q3 z (a3.fresh hz))⟩
  ·obtain⟨hw,q3⟩:=q3
   rw[Rep]at r3
   obtain⟨b,xs,rfl,hx,rs⟩:=r3
   exact .inr ⟨_,xs,rfl,hx,by rw[<-rs.length];exact hw,fun z hz=>fin _ _ _ _ (G.trans (.new hz)) (by rw[Rep];exact⟨z,_,rfl,SqT.of aB,(rs.cut _ _).mono (.new hz)⟩) (a3.new hz) q3⟩
  ·exact q3.elim⟩⟩⟩)
end
section
variable{X:Cx}{x y z:Str}{px py pz pt pos:Pos}{kt:Nat}{js:List Nat}{scope:Scope}{elt iter:Expr}{ifs:List Expr}{te:TD}{tc:TTD}{wd:TID}{xs:List Str}
theorem ky(c:CScope X xs js scope)(i:Nat)(hx:xs[i]?=some x){C:Addr}{s:Shared}{H:Hp}{fp:List Addr}:PG (cxC X xs js scope C s H fp) (.Name x px) (gg i):=by
 have hi:i<xs.length:=(List.getElem?_eq_some_iff.mp hx).1;have hm:=List.mem_of_getElem? hx
 have hl:Loc (cxC X xs js scope C s H fp).env.scope x:=by
  rcases c.own x hm with z|z
  ·exact .inl (d8 (by decide) z)
  ·exact .inr (d8 (by decide) z)
 refine oU (i:=i) c.nd ?_ hl (.inl (by show xs.contains x=true;simpa using hm));show(xs++js.map fun j=>(X.N[j]?).getD ("":Str))[i]?=some x;rw[List.getElem?_append_left hi];exact hx
theorem sT(c:CScope X [x,y] js scope)(hc:X.calm=true){C:Addr}{s:Shared}{H:Hp}{fp:List Addr}:PG (cxC X [x,y] js scope C s H fp) (.Tuple [.Name x px,.Name y py] kt pt) (vA X.K 2 (lR (gg 0) (lR (gg 1) wj))):=qZ (X:=cxC X [x,y] js scope C s H fp) hc (jc (ky c 0 rfl) (jc (ky c 1 rfl) oO)) rfl rfl
theorem iA(c:CScope X [x] js scope)(hc:X.calm=true)(hi:DI X (.Name x px) iter wd)(ht:∀C s H fp,DTs (cxC X [x] js scope C s H fp) ifs tc)(he:∀C s H fp,DE (cxC X [x] js scope C s H fp) elt te) (hs:∀x,foldedSetIterable iter X.env x=pure x:=by intro _;rfl):DE X (.ListComp elt [⟨.Name x px,iter,ifs,0⟩] scope pos) (gR wd .one js tc te):=pb c hc hi se (fun _ _ _ _=>ky c 0 rfl) ht he hs
theorem qM(c:CScope X [x,y] js scope)(hc:X.calm=true)(hi:DI X (.Tuple [.Name x px,.Name y py] kt pt) iter wd)(ht:∀C s H fp,DTs (cxC X [x,y] js scope C s H fp) ifs tc)(he:∀C s H fp,DE (cxC X [x,y] js scope C s H fp) elt te) (hs:∀x,foldedSetIterable iter X.env x=pure x:=by intro _;rfl):DE X (.ListComp elt [⟨.Tuple [.Name x px,.Name y py] kt pt,iter,ifs,0⟩] scope pos) (gR wd (.many 2) js tc te):=pb c hc hi wb (fun _ _ _ _=>sT c hc) ht he hs
theorem l4(i:Nat){v:Str}{pv spos:Pos}(hN:X.N.Nodup)(c:CScope X [x] js scope)(hc:X.calm=true)(hi:DI X (.Name x px) iter wd)(ht:∀C s H fp,DTs (cxC X [x] js scope C s H fp) ifs tc)(he:∀C s H fp,DE (cxC X [x] js scope C s H fp) elt te) (hy:X.N[i]?=some v:=by rfl) (hl:X.env.scope.names.lookup v=some .local:=by rfl) (hsw:swapsWith (.ListComp elt [⟨.Name x px,iter,ifs,0⟩] scope pos) (some (.Name v pv)) spos.line X.env=pure true:=by rfl) (hs:∀x,foldedSetIterable iter X.env x=pure x:=by intro _;rfl) : DSt X (.Assign [.Name v pv] (.ListComp elt [⟨.Name x px,iter,ifs,0⟩] scope pos) spos) (dE (gR wd .one js tc te) (aR i)):=uh i hN c hc hi se (fun _ _ _ _=>ky c 0 rfl) ht he hy hl hsw hs
end
section
variable{prog:Program}{w:World}{A:Around}{E:Value->Shared->Prop}{s:Shared}
theorem max_two{a b:Value}{c:Bool}{Q:Value->Shared->Prop}(hh:A.handled=none)
 (cmp:∀(t:Shared) (Q':Value->Shared->Prop) (E':Value->Shared->Prop),(∀x o,s.heap.get? x=some o->t.heap.get? x=some o)->Q' (.bool c) t->wpAny (model prog w) A.in1 (richCompare .Gt b a) Q' E' t)
 (h:∀h' tk,(∀x o,s.heap.get? x=some o->h'.get? x=some o)->Q (if c=true then b else a) { s with heap:=h',toks:=tk }) :
 wpAny (model prog w) A (call (.builtin "max") [a,b]) Q E s:=by
 have nm:(toString "max"++toString ".loop":String)="max.loop":=by decide
 refine call_function_tree F.kind_max F.plain_max F.entry_max (F.args_max2 _ _) ?_
 show wpAny _ A.in1 (Builtin.Builtins.bindParams "max" ["key","default"] 0 ⟨[],[]⟩ >>= fun _=>_) _ _ s
 refine wpAny_bind (wpAny_of_eq (a:=[none,none]) rfl ?_)
 show wpAny _ A.in1 (newTuple [a,b] >>= fun _=>_) _ _ s
 refine wpAny_bind (wpAny_newObj_type ?_)
 generalize e1:s.heap.push { cls:=.type "tuple",dict:=none,data:=.seq ([a,b]:List Value).toArray }=h1
 have k1:∀x o,s.heap.get? x=some o->h1.get? x=some o:=fun x o q=>by rw[<-e1];exact Heap.get?_push_of_some _ q
 have hT:h1.IsTuple s.heap.objs.size #[a,b]:=by rw[<-e1];exact⟨_,Heap.get?_push_size _ rfl,rfl,0,rfl⟩
 have z1:h1.objs.size=s.heap.objs.size+1:=by rw[<-e1,Heap.size_push]
 refine wpAny_bind (wpAny_pyIter_tuple (s:={ s with heap:=h1 }) hT ?_)
 refine wpAny_bind (wpAny_newObj_type ?_)
 dsimp only
 generalize eI:h1.objs.size=I
 generalize e2:h1.push _=h2
 have k2:∀x o,h1.get? x=some o->h2.get? x=some o:=fun x o q=>by rw[<-e2];exact Heap.get?_push_of_some _ q
 have hI:h2.IsTupleIter I s.heap.objs.size 0:=by rw[<-e2,<-eI];exact⟨_,Heap.get?_push_size _ rfl,rfl,rfl⟩
 have z2:h2.objs.size=I+1:=by rw[<-e2,Heap.size_push,eI]
 generalize eS:h2.objs.size=S
 generalize e3:h2.push _=h3
 have k3:∀x o,h2.get? x=some o->h3.get? x=some o:=fun x o q=>by rw[<-e3];exact Heap.get?_push_of_some _ q
 have hS:h3.get? S=some { cls:=.type "list",dict:=none,data:=.seq #[] 0,slots:=#[] }:=by rw[<-e3,<-eS];exact Heap.get?_push_size _ rfl
 have SI:S≠I:=by omega
 have old:∀x o,s.heap.get? x=some o->x≠I/\x≠S:=fun x o q=>⟨Nat.ne_of_lt (Nat.lt_of_lt_of_le (Heap.lt_size q) (by omega)),Nat.ne_of_lt (Nat.lt_of_lt_of_le (Heap.lt_size q) (by omega))⟩
 have hT3:h3.IsTuple s.heap.objs.size #[a,b]:=by
  obtain⟨o,q,r⟩:=hT
  exact⟨o,k3 _ _ (k2 _ _ q),r⟩
 have hI3:h3.IsTupleIter I s.heap.objs.size 0:=hI.at fun o q=>k3 _ _ q
 have TI:s.heap.objs.size≠I:=by omega
 have TS:s.heap.objs.size≠S:=by omega
 have keep3:∀x o,s.heap.get? x=some o->h3.get? x=some o:=fun x o q=>k3 _ _ (k2 _ _ (k1 _ _ q))
 rw[nm]
 refine wpAny_pure ⟨plainId_quiet F.plain_max_loop _,?_⟩
 have last:∀(t:Shared) (v:Value) (n:Nat),t.heap.IsTupleIter I s.heap.objs.size 2->t.heap.IsTuple s.heap.objs.size #[a,b]->t.heap.get? S=some { cls:=.type "list",dict:=none,data:=.seq #[v,v] n,slots:=#[] }->
  (∃h' tk,t={ s with heap:=h',toks:=tk }/\∀x o,s.heap.get? x=some o->h'.get? x=some o)->v=(if c=true then b else a)->codeAny (model prog w) A (.builtin "max.loop" ⟨[.ref I,.none,.ref S],[]⟩) (fun r s'=>match r with|.ok (.ret v)=>Q v s'|.ok _=>False|.error e=>E e s') t:=by
  rintro t v n i2 tT lS ⟨h',tk,rfl,kt⟩ ev
  refine codeAny_builtin F.entry_max_loop ?_
  rw[Around.under_plainId F.plain_max_loop _]
  show wpAny _ A.in1 (seqItems? (.ref S) >>= fun _=>_) _ _ _
  refine wpAny_bind (wpAny_seqItems lS rfl ?_)
  show wpAny _ A.in1 (tryCatch (pyNext (.ref I)) _ >>= fun _=>_) _ _ _
  refine wpAny_bind (wpAny_tryCatch (wpAny_pyNext_tuple_end (A:=A.in1) hh i2 tT (by simp) fun h4 q4=>?_))
  have lS4:h4.get? S=some _:=q4 _ _ SI lS
  show wpAny _ A.in1 (updateSeq S (fun _=>#[]) >>= fun _=>_) _ _ _
  refine wpAny_bind (wpAny_updateSeq lS4 rfl (wpAny_bind (wpAny_letGo (wpAny_pure ?_))))
  show Q v _
  rw[ev]
  exact h _ _ fun x o q=>(Heap.get?_update_other _ _ (old x o q).2.symm).trans (q4 x o (old x o q).1 (kt x o q))
 refine codeAny_builtin F.entry_max_loop ?_
 rw[Around.under_plainId F.plain_max_loop _]
 show wpAny _ A.in1 (seqItems? (.ref S) >>= fun _=>_) _ _ _
 refine wpAny_bind (wpAny_seqItems (s:={ s with heap:=h3 }) hS rfl ?_)
 show wpAny _ A.in1 (tryCatch (pyNext (.ref I)) _ >>= fun _=>_) _ _ _
 refine wpAny_bind (wpAny_tryCatch (wpAny_pyNext_tuple_item (s:={ s with heap:=h3 }) hI3 hT3 (x:=a) (by simp) fun h4 i4 q4=>?_))
 have hS4:h4.get? S=some _:=(q4.2 _ SI).trans hS
 have hT4:h4.IsTuple s.heap.objs.size #[a,b]:=by
  obtain⟨o,q,r⟩:=hT3
  exact⟨o,(q4.2 _ TI).trans q,r⟩
 show wpAny _ A.in1 (updateSeq S (fun _=>#[a,a]) >>= fun _=>_) _ _ _
 refine wpAny_bind (wpAny_updateSeq hS4 rfl ?_)
 rw[nm]
 refine wpAny_pure ⟨plainId_quiet F.plain_max_loop _,?_⟩
 generalize e5:h4.update S _=h5
 have o5:∀x,x≠S->h5.get? x=h4.get? x:=fun x q=>by rw[<-e5];exact Heap.get?_update_other _ _ q.symm
 have hS5:∃n,h5.get? S=some { cls:=.type "list",dict:=none,data:=.seq #[a,a] n,slots:=#[] }:=⟨_,by rw[<-e5];exact Heap.get?_update_self _ hS4 rfl⟩
 obtain⟨n5,hS5⟩:=hS5
 have i5:h5.IsTupleIter I s.heap.objs.size 1:=i4.at fun o q=>(o5 _ SI.symm).trans q
 have hT5:h5.IsTuple s.heap.objs.size #[a,b]:=by
  obtain⟨o,q,r⟩:=hT4
  exact⟨o,(o5 _ TS).trans q,r⟩
 have keep5:∀x o,s.heap.get? x=some o->h5.get? x=some o:=fun x o q=>(o5 _ (old x o q).2).trans ((q4.2 _ (old x o q).1).trans (keep3 x o q))
 refine codeAny_builtin F.entry_max_loop ?_
 rw[Around.under_plainId F.plain_max_loop _]
 show wpAny _ A.in1 (seqItems? (.ref S) >>= fun _=>_) _ _ _
 refine wpAny_bind (wpAny_seqItems (s:={ s with heap:=h5 }) hS5 rfl ?_)
 show wpAny _ A.in1 (tryCatch (pyNext (.ref I)) _ >>= fun _=>_) _ _ _
 refine wpAny_bind (wpAny_tryCatch (wpAny_pyNext_tuple_item (s:={ s with heap:=h5 }) i5 hT5 (x:=b) (by simp) fun h6 i6 q6=>?_))
 have hS6:h6.get? S=some _:=(q6.2 _ SI).trans hS5
 have hT6:h6.IsTuple s.heap.objs.size #[a,b]:=by
  obtain⟨o,q,r⟩:=hT5
  exact⟨o,(q6.2 _ TI).trans q,r⟩
 have keep6:∀x o,s.heap.get? x=some o->h6.get? x=some o:=fun x o q=>(q6.2 _ (old x o q).1).trans (keep5 x o q)
 show wpAny _ A.in1 (tryCatch (holding [b,b] (richCompare .Gt b a >>= fun _=>_)) _ >>= fun _=>_) _ _ _
 refine wpAny_bind (wpAny_tryCatch (wpAny_holding (wpAny_bind (cmp _ _ _ keep6 ?_))))
 refine wpAny_bind (wpAny_holding (wpAny_truthy_bool ?_))
 refine wpAny_bind (wpAny_letGo (wpAny_pure ?_))
 cases c with
 |true=>
  simp only[if_true]at last ⊢
  refine wpAny_bind (wpAny_updateSeq hS6 rfl (wpAny_bind (wpAny_letGo ?_)))
  rw[nm]
  refine wpAny_pure ⟨plainId_quiet F.plain_max_loop _,last _ b _ (i6.at fun o q=>(Heap.get?_update_other _ _ SI).trans q) ?_ (Heap.get?_update_self _ hS6 rfl) ⟨_,_,rfl,fun x o q=>(Heap.get?_update_other _ _ (old x o q).2.symm).trans (keep6 x o q)⟩ rfl⟩
  obtain⟨o,q,r⟩:=hT6
  exact⟨o,(Heap.get?_update_other _ _ TS.symm).trans q,r⟩
 |false=>
  simp only[Bool.false_eq_true,if_false]at last ⊢
  refine wpAny_bind (wpAny_letGo ?_)
  rw[nm]
  exact wpAny_pure ⟨plainId_quiet F.plain_max_loop _,last _ a _ i6 hT6 hS6 ⟨_,_,rfl,keep6⟩ rfl⟩
theorem min_two{a b:Value}{c:Bool}{Q:Value->Shared->Prop}(hh:A.handled=none)
 (cmp:∀(t:Shared) (Q':Value->Shared->Prop) (E':Value->Shared->Prop),(∀x o,s.heap.get? x=some o->t.heap.get? x=some o)->Q' (.bool c) t->wpAny (model prog w) A.in1 (richCompare .Lt b a) Q' E' t)
 (h:∀h' tk,(∀x o,s.heap.get? x=some o->h'.get? x=some o)->Q (if c=true then b else a) { s with heap:=h',toks:=tk }) :
 wpAny (model prog w) A (call (.builtin "min") [a,b]) Q E s:=by
 have nm:(toString "min"++toString ".loop":String)="min.loop":=by decide
 refine call_function_tree F.kind_min F.plain_min F.entry_min (F.args_min2 _ _) ?_
 show wpAny _ A.in1 (Builtin.Builtins.bindParams "min" ["key","default"] 0 ⟨[],[]⟩ >>= fun _=>_) _ _ s
 refine wpAny_bind (wpAny_of_eq (a:=[none,none]) rfl ?_)
 show wpAny _ A.in1 (newTuple [a,b] >>= fun _=>_) _ _ s
 refine wpAny_bind (wpAny_newObj_type ?_)
 generalize e1:s.heap.push { cls:=.type "tuple",dict:=none,data:=.seq ([a,b]:List Value).toArray }=h1
 have k1:∀x o,s.heap.get? x=some o->h1.get? x=some o:=fun x o q=>by rw[<-e1];exact Heap.get?_push_of_some _ q
 have hT:h1.IsTuple s.heap.objs.size #[a,b]:=by rw[<-e1];exact⟨_,Heap.get?_push_size _ rfl,rfl,0,rfl⟩
 have z1:h1.objs.size=s.heap.objs.size+1:=by rw[<-e1,Heap.size_push]
 refine wpAny_bind (wpAny_pyIter_tuple (s:={ s with heap:=h1 }) hT ?_)
 refine wpAny_bind (wpAny_newObj_type ?_)
 dsimp only
 generalize eI:h1.objs.size=I
 generalize e2:h1.push _=h2
 have k2:∀x o,h1.get? x=some o->h2.get? x=some o:=fun x o q=>by rw[<-e2];exact Heap.get?_push_of_some _ q
 have hI:h2.IsTupleIter I s.heap.objs.size 0:=by rw[<-e2,<-eI];exact⟨_,Heap.get?_push_size _ rfl,rfl,rfl⟩
 have z2:h2.objs.size=I+1:=by rw[<-e2,Heap.size_push,eI]
 generalize eS:h2.objs.size=S
 generalize e3:h2.push _=h3
 have k3:∀x o,h2.get? x=some o->h3.get? x=some o:=fun x o q=>by rw[<-e3];exact Heap.get?_push_of_some _ q
 have hS:h3.get? S=some { cls:=.type "list",dict:=none,data:=.seq #[] 0,slots:=#[] }:=by rw[<-e3,<-eS];exact Heap.get?_push_size _ rfl
 have SI:S≠I:=by omega
 have old:∀x o,s.heap.get? x=some o->x≠I/\x≠S:=fun x o q=>⟨Nat.ne_of_lt (Nat.lt_of_lt_of_le (Heap.lt_size q) (by omega)),Nat.ne_of_lt (Nat.lt_of_lt_of_le (Heap.lt_size q) (by omega))⟩
 have hT3:h3.IsTuple s.heap.objs.size #[a,b]:=by
  obtain⟨o,q,r⟩:=hT
  exact⟨o,k3 _ _ (k2 _ _ q),r⟩
 have hI3:h3.IsTupleIter I s.heap.objs.size 0:=hI.at fun o q=>k3 _ _ q
 have TI:s.heap.objs.size≠I:=by omega
 have TS:s.heap.objs.size≠S:=by omega
 have keep3:∀x o,s.heap.get? x=some o->h3.get? x=some o:=fun x o q=>k3 _ _ (k2 _ _ (k1 _ _ q))
 rw[nm]
 refine wpAny_pure ⟨plainId_quiet F.plain_min_loop _,?_⟩
 have last:∀(t:Shared) (v:Value) (n:Nat),t.heap.IsTupleIter I s.heap.objs.size 2->t.heap.IsTuple s.heap.objs.size #[a,b]->t.heap.get? S=some { cls:=.type "list",dict:=none,data:=.seq #[v,v] n,slots:=#[] }->
  (∃h' tk,t={ s with heap:=h',toks:=tk }/\∀x o,s.heap.get? x=some o->h'.get? x=some o)->v=(if c=true then b else a)->codeAny (model prog w) A (.builtin "min.loop" ⟨[.ref I,.none,.ref S],[]⟩) (fun r s'=>match r with|.ok (.ret v)=>Q v s'|.ok _=>False|.error e=>E e s') t:=by
  rintro t v n i2 tT lS ⟨h',tk,rfl,kt⟩ ev
  refine codeAny_builtin F.entry_min_loop ?_
  rw[Around.under_plainId F.plain_min_loop _]
  show wpAny _ A.in1 (seqItems? (.ref S) >>= fun _=>_) _ _ _
  refine wpAny_bind (wpAny_seqItems lS rfl ?_)
  show wpAny _ A.in1 (tryCatch (pyNext (.ref I)) _ >>= fun _=>_) _ _ _
  refine wpAny_bind (wpAny_tryCatch (wpAny_pyNext_tuple_end (A:=A.in1) hh i2 tT (by simp) fun h4 q4=>?_))
  have lS4:h4.get? S=some _:=q4 _ _ SI lS
  show wpAny _ A.in1 (updateSeq S (fun _=>#[]) >>= fun _=>_) _ _ _
  refine wpAny_bind (wpAny_updateSeq lS4 rfl (wpAny_bind (wpAny_letGo (wpAny_pure ?_))))
  show Q v _
  rw[ev]
  exact h _ _ fun x o q=>(Heap.get?_update_other _ _ (old x o q).2.symm).trans (q4 x o (old x o q).1 (kt x o q))
 refine codeAny_builtin F.entry_min_loop ?_
 rw[Around.under_plainId F.plain_min_loop _]
 show wpAny _ A.in1 (seqItems? (.ref S) >>= fun _=>_) _ _ _
 refine wpAny_bind (wpAny_seqItems (s:={ s with heap:=h3 }) hS rfl ?_)
 show wpAny _ A.in1 (tryCatch (pyNext (.ref I)) _ >>= fun _=>_) _ _ _
 refine wpAny_bind (wpAny_tryCatch (wpAny_pyNext_tuple_item (s:={ s with heap:=h3 }) hI3 hT3 (x:=a) (by simp) fun h4 i4 q4=>?_))
 have hS4:h4.get? S=some _:=(q4.2 _ SI).trans hS
 have hT4:h4.IsTuple s.heap.objs.size #[a,b]:=by
  obtain⟨o,q,r⟩:=hT3
  exact⟨o,(q4.2 _ TI).trans q,r⟩
 show wpAny _ A.in1 (updateSeq S (fun _=>#[a,a]) >>= fun _=>_) _ _ _
 refine wpAny_bind (wpAny_updateSeq hS4 rfl ?_)
 rw[nm]
 refine wpAny_pure ⟨plainId_quiet F.plain_min_loop _,?_⟩
 generalize e5:h4.update S _=h5
 have o5:∀x,x≠S->h5.get? x=h4.get? x:=fun x q=>by rw[<-e5];exact Heap.get?_update_other _ _ q.symm
 have hS5:∃n,h5.get? S=some { cls:=.type "list",dict:=none,data:=.seq #[a,a] n,slots:=#[] }:=⟨_,by rw[<-e5];exact Heap.get?_update_self _ hS4 rfl⟩
 obtain⟨n5,hS5⟩:=hS5
 have i5:h5.IsTupleIter I s.heap.objs.size 1:=i4.at fun o q=>(o5 _ SI.symm).trans q
 have hT5:h5.IsTuple s.heap.objs.size #[a,b]:=by
  obtain⟨o,q,r⟩:=hT4
  exact⟨o,(o5 _ TS).trans q,r⟩
 have keep5:∀x o,s.heap.get? x=some o->h5.get? x=some o:=fun x o q=>(o5 _ (old x o q).2).trans ((q4.2 _ (old x o q).1).trans (keep3 x o q))
 refine codeAny_builtin F.entry_min_loop ?_
 rw[Around.under_plainId F.plain_min_loop _]
 show wpAny _ A.in1 (seqItems? (.ref S) >>= fun _=>_) _ _ _
 refine wpAny_bind (wpAny_seqItems (s:={ s with heap:=h5 }) hS5 rfl ?_)
 show wpAny _ A.in1 (tryCatch (pyNext (.ref I)) _ >>= fun _=>_) _ _ _
 refine wpAny_bind (wpAny_tryCatch (wpAny_pyNext_tuple_item (s:={ s with heap:=h5 }) i5 hT5 (x:=b) (by simp) fun h6 i6 q6=>?_))
 have hS6:h6.get? S=some _:=(q6.2 _ SI).trans hS5
 have hT6:h6.IsTuple s.heap.objs.size #[a,b]:=by
  obtain⟨o,q,r⟩:=hT5
  exact⟨o,(q6.2 _ TI).trans q,r⟩
 have keep6:∀x o,s.heap.get? x=some o->h6.get? x=some o:=fun x o q=>(q6.2 _ (old x o q).1).trans (keep5 x o q)
 show wpAny _ A.in1 (tryCatch (holding [b,b] (richCompare .Lt b a >>= fun _=>_)) _ >>= fun _=>_) _ _ _
 refine wpAny_bind (wpAny_tryCatch (wpAny_holding (wpAny_bind (cmp _ _ _ keep6 ?_))))
 refine wpAny_bind (wpAny_holding (wpAny_truthy_bool ?_))
 refine wpAny_bind (wpAny_letGo (wpAny_pure ?_))
 cases c with
 |true=>
  simp only[if_true]at last ⊢
  refine wpAny_bind (wpAny_updateSeq hS6 rfl (wpAny_bind (wpAny_letGo ?_)))
  rw[nm]
  refine wpAny_pure ⟨plainId_quiet F.plain_min_loop _,last _ b _ (i6.at fun o q=>(Heap.get?_update_other _ _ SI).trans q) ?_ (Heap.get?_update_self _ hS6 rfl) ⟨_,_,rfl,fun x o q=>(Heap.get?_update_other _ _ (old x o q).2.symm).trans (keep6 x o q)⟩ rfl⟩
  obtain⟨o,q,r⟩:=hT6
  exact⟨o,(Heap.get?_update_other _ _ TS.symm).trans q,r⟩
 |false=>
  simp only[Bool.false_eq_true,if_false]at last ⊢
  refine wpAny_bind (wpAny_letGo ?_)
  rw[nm]
  exact wpAny_pure ⟨plainId_quiet F.plain_min_loop _,last _ a _ i6 hT6 hS6 ⟨_,_,rfl,keep6⟩ rfl⟩
end
end SD
namespace HT
open PySem PyProof.Rows
def lexLe:List Int->List Int->Bool
 |[],[]=>true
 |[],_::_=>true
 |_::_,[]=>false
 |x::xs,y::ys=>if x=y then lexLe xs ys else decide (x<=y)
theorem nP(x y:Int)(xs ys:List Int):lexLe (x::xs) (y::ys)=if x=y then lexLe xs ys else decide (x<=y):=rfl
theorem jz:lexLe [] []=true:=rfl
theorem i8(y:Int)(ys:List Int):lexLe [] (y::ys)=true:=rfl
theorem iM(x:Int)(xs:List Int):lexLe (x::xs) []=false:=rfl
theorem qR(A:Around)(s:Shared)(a:Int)(t:Tok)(c:Int)(u:Tok)(prog:Program)(w:World)(E:Value->Shared->Prop)(Q:Value->Shared->Prop)(h:Q (.bool (decide (a<=c))) s) : wpAny (model prog w) A (richCompare .LtE (.int a t) (.int c u)) Q E s:=(PyProof.Rows.le_int h:wpAny (model prog w) A (compareOp .LtE (.int a t) (.int c u)) Q E s)
section
open PySem.SeqAt
open PySem.AutoSeq1 (wpAny_loadPart')
open PySem.MeetsSeq PySem.MeetsSeq2 PySem.MeetsSeq3
theorem jn(l b:Addr)(items items2:Array Value)(n n2:Nat)(dd dd2:Option Addr)(sl sl2:Array (Option Value))(ns ms:List Int)(hi:IntsAre items.toList ns)(hj:IntsAre items2.toList ms) :
 Meets (Builtin.«tuple.__le__» ⟨[.ref l,.ref b],[]⟩)
  (fun _ R s=>s.heap.get? l=some { cls:=.type "tuple",dict:=dd,data:=.seq items n,slots:=sl }/\s.heap.get? b=some { cls:=.type "tuple",dict:=dd2,data:=.seq items2 n2,slots:=sl2 }/\
   R (.ok (.ret (.bool (lexLe ns ms)))) s):=
 .of_wp fun prog w A R s h=>by
  obtain⟨hp,g,d,tk,os⟩:=s;obtain⟨hl,hb,h⟩:=h
  have f2:=AutoSeq1.sub_tuple_tuple
  have z1:items.size=ns.length:=by rw[<-hi.length];simp
  have z2:items2.size=ms.length:=by rw[<-hj.length];simp
  wp_walk using wpAny_loadPart' hl,wpAny_loadPart' hb,wpAny_forIn_list _ (fun rest b s'=>b.1=none/\s'=⟨hp,g,d,tk,os⟩/\∃(vs ws:List Value) (ns' ms':List Int),rest=vs.zip ws/\
   IntsAre vs ns'/\IntsAre ws ms'/\ns'.length+items2.size=ms'.length+items.size/\R (.ok (.ret (.bool (lexLe ns' ms')))) ⟨hp,g,d,tk,os⟩) _
  case turn=>
   rintro⟨y,x⟩ rest b s' ⟨hb',rfl,vs,ws,ns',ms',hz,hvi,hwi,hlen,hR⟩
   cases hvi with
   |nil=>rw[List.zip_nil_left]at hz;cases hz
   |cons a t hvi'=>
    cases hwi with
    |nil=>rw[List.zip_nil_right]at hz;cases hz
    |cons c u hwi'=>
     rw[List.zip_cons_cons]at hz
     injection hz with hyx hrest
     injection hyx with hy hx
     subst hy hx
     rw[nP]at hR
     simp only[List.length_cons]at hlen
     obtain⟨e,he,hiff⟩:=fZ A.in1 ⟨hp,g,d,tk,os⟩ a t c u
     refine wpAny_bind (he prog w _ _ ?_)
     cases e with
     |true=>
      rw[if_pos (hiff.mp rfl)]at hR
      wp_walk
      exact⟨rfl,rfl,_,_,_,_,hrest,hvi',hwi',by omega,hR⟩
     |false=>
      rw[if_neg (fun q=>absurd (hiff.mpr q) Bool.false_ne_true)]at hR
      have hri:=qR A.in1 ⟨hp,g,d,tk,os⟩ a t c u prog w
      wp_walk using hri
      exact⟨_,rfl,by simpa using hR⟩
  case fin=>
   rintro⟨b1,b2⟩ s' ⟨hb',rfl,vs,ws,ns',ms',hz,hvi,hwi,hlen,hR⟩
   simp only at hb'
   subst hb'
   have hv:lexLe ns' ms'=decide (items.size<=items2.size):=by
    cases hvi with
    |nil=>
     cases hwi with
     |nil=>
      simp only[List.length_nil]at hlen
      rw[jz]
      exact(decide_eq_true (by omega)).symm
     |cons c u hw=>
      simp only[List.length_nil,List.length_cons]at hlen
      rw[i8]
      exact(decide_eq_true (by omega)).symm
    |cons a t hv=>
     cases hwi with
     |nil=>
      simp only[List.length_nil,List.length_cons]at hlen
      rw[iM]
      exact(decide_eq_false (by omega)).symm
     |cons c u hw=>
      rw[List.zip_cons_cons]at hz
      cases hz
   rw[hv]at hR
   wp_walk
   exact⟨_,rfl,by simpa[Builtin.Tuple.tupleCompareSizes]using hR⟩
  case h=>
   exact⟨rfl,rfl,items.toList,items2.toList,ns,ms,rfl,hi,hj,by omega,h⟩
end
section
variable{prog:Program}{w:World}{A:Around}{E:Value->Shared->Prop}{s:Shared}
theorem nS{l b:Addr}{items items2:Array Value}{ns ms:List Int}{Q:Value->Shared->Prop}(hl:IsTup s.heap l items)(hb:IsTup s.heap b items2)(hi:IntsAre items.toList ns)(hj:IntsAre items2.toList ms) (hu:A.units<cLine) (h:Q (.bool (lexLe ns ms)) s):wpAny (model prog w) A (compareOp .LtE (.ref l) (.ref b)) Q E s:=by obtain⟨⟨cls,dd,data,sl⟩,ho,hc,n,hd⟩:=id hl;obtain⟨⟨cls2,dd2,data2,sl2⟩,ho2,hc2,n2,hd2⟩:=id hb;simp only at hc hd hc2 hd2;subst hc hd hc2 hd2;exact richCompare_meets_room (op:=.LtE) ⟨_,ho,rfl⟩ ⟨_,ho2,rfl⟩ PySem.F.slot_tuple_le PySem.F.entry_tuple_le (PySem.F.args_tuple_le_2 _ _) (jn l b items items2 n n2 dd dd2 sl sl2 ns ms hi hj) ⟨ho,ho2,show Value.bool (lexLe ns ms)≠Value.notImplemented/\Q (.bool (lexLe ns ms)) s from⟨(fun x=>nomatch x),h⟩⟩ hu
end
def aQ:List Int->List Int->Bool
 |[],[]=>false
 |[],_::_=>false
 |_::_,[]=>true
 |x::xs,y::ys=>if x=y then aQ xs ys else decide (y<x)
theorem ot(x y:Int)(xs ys:List Int):aQ (x::xs) (y::ys)=if x=y then aQ xs ys else decide (y<x):=rfl
theorem jo:aQ [] []=false:=rfl
theorem iV(y:Int)(ys:List Int):aQ [] (y::ys)=false:=rfl
theorem iJ(x:Int)(xs:List Int):aQ (x::xs) []=true:=rfl
theorem rq(A:Around)(s:Shared)(a:Int)(t:Tok)(c:Int)(u:Tok)(prog:Program)(w:World)(E:Value->Shared->Prop)(Q:Value->Shared->Prop)(h:Q (.bool (decide (c<a))) s) : wpAny (model prog w) A (richCompare .Gt (.int a t) (.int c u)) Q E s:=(PyProof.Rows.gt_int h:wpAny (model prog w) A (compareOp .Gt (.int a t) (.int c u)) Q E s)
section
open PySem.SeqAt
open PySem.AutoSeq1 (wpAny_loadPart')
open PySem.MeetsSeq PySem.MeetsSeq2 PySem.MeetsSeq3
theorem jB(l b:Addr)(items items2:Array Value)(n n2:Nat)(dd dd2:Option Addr)(sl sl2:Array (Option Value))(ns ms:List Int)(hi:IntsAre items.toList ns)(hj:IntsAre items2.toList ms) :
 Meets (Builtin.«tuple.__gt__» ⟨[.ref l,.ref b],[]⟩)
  (fun _ R s=>s.heap.get? l=some { cls:=.type "tuple",dict:=dd,data:=.seq items n,slots:=sl }/\s.heap.get? b=some { cls:=.type "tuple",dict:=dd2,data:=.seq items2 n2,slots:=sl2 }/\
   R (.ok (.ret (.bool (aQ ns ms)))) s):=
 .of_wp fun prog w A R s h=>by
  obtain⟨hp,g,d,tk,os⟩:=s;obtain⟨hl,hb,h⟩:=h
  have f2:=AutoSeq1.sub_tuple_tuple
  have z1:items.size=ns.length:=by rw[<-hi.length];simp
  have z2:items2.size=ms.length:=by rw[<-hj.length];simp
  wp_walk using wpAny_loadPart' hl,wpAny_loadPart' hb,wpAny_forIn_list _ (fun rest b s'=>b.1=none/\s'=⟨hp,g,d,tk,os⟩/\∃(vs ws:List Value) (ns' ms':List Int),rest=vs.zip ws/\
   IntsAre vs ns'/\IntsAre ws ms'/\ns'.length+items2.size=ms'.length+items.size/\R (.ok (.ret (.bool (aQ ns' ms')))) ⟨hp,g,d,tk,os⟩) _
  case turn=>
   rintro⟨y,x⟩ rest b s' ⟨hb',rfl,vs,ws,ns',ms',hz,hvi,hwi,hlen,hR⟩
   cases hvi with
   |nil=>rw[List.zip_nil_left]at hz;cases hz
   |cons a t hvi'=>
    cases hwi with
    |nil=>rw[List.zip_nil_right]at hz;cases hz
    |cons c u hwi'=>
     rw[List.zip_cons_cons]at hz
     injection hz with hyx hrest
     injection hyx with hy hx
     subst hy hx
     rw[ot]at hR
     simp only[List.length_cons]at hlen
     obtain⟨e,he,hiff⟩:=fZ A.in1 ⟨hp,g,d,tk,os⟩ a t c u
     refine wpAny_bind (he prog w _ _ ?_)
     cases e with
     |true=>
      rw[if_pos (hiff.mp rfl)]at hR
      wp_walk
      exact⟨rfl,rfl,_,_,_,_,hrest,hvi',hwi',by omega,hR⟩
     |false=>
      rw[if_neg (fun q=>absurd (hiff.mpr q) Bool.false_ne_true)]at hR
      have hri:=rq A.in1 ⟨hp,g,d,tk,os⟩ a t c u prog w
      wp_walk using hri
      exact⟨_,rfl,by simpa using hR⟩
  case fin=>
   rintro⟨b1,b2⟩ s' ⟨hb',rfl,vs,ws,ns',ms',hz,hvi,hwi,hlen,hR⟩
   simp only at hb'
   subst hb'
   have hv:aQ ns' ms'=decide (items.size>items2.size):=by
    cases hvi with
    |nil=>
     cases hwi with
     |nil=>
      simp only[List.length_nil]at hlen
      rw[jo]
      exact(decide_eq_false (by omega)).symm
     |cons c u hw=>
      simp only[List.length_nil,List.length_cons]at hlen
      rw[iV]
      exact(decide_eq_false (by omega)).symm
    |cons a t hv=>
     cases hwi with
     |nil=>
      simp only[List.length_nil,List.length_cons]at hlen
      rw[iJ]
      exact(decide_eq_true (by omega)).symm
     |cons c u hw=>
      rw[List.zip_cons_cons]at hz
      cases hz
   rw[hv]at hR
   wp_walk
   exact⟨_,rfl,by simpa[Builtin.Tuple.tupleCompareSizes]using hR⟩
  case h=>
   exact⟨rfl,rfl,items.toList,items2.toList,ns,ms,rfl,hi,hj,by omega,h⟩
end
section
variable{prog:Program}{w:World}{A:Around}{E:Value->Shared->Prop}{s:Shared}
theorem iX{l b:Addr}{items items2:Array Value}{ns ms:List Int}{Q:Value->Shared->Prop}(hl:IsTup s.heap l items)(hb:IsTup s.heap b items2)(hi:IntsAre items.toList ns)(hj:IntsAre items2.toList ms) (hu:A.units<cLine) (h:Q (.bool (aQ ns ms)) s):wpAny (model prog w) A (compareOp .Gt (.ref l) (.ref b)) Q E s:=by obtain⟨⟨cls,dd,data,sl⟩,ho,hc,n,hd⟩:=id hl;obtain⟨⟨cls2,dd2,data2,sl2⟩,ho2,hc2,n2,hd2⟩:=id hb;simp only at hc hd hc2 hd2;subst hc hd hc2 hd2;exact richCompare_meets_room (op:=.Gt) ⟨_,ho,rfl⟩ ⟨_,ho2,rfl⟩ PySem.F.slot_tuple_gt PySem.F.entry_tuple_gt (PySem.F.args_tuple_gt_2 _ _) (jB l b items items2 n n2 dd dd2 sl sl2 ns ms hi hj) ⟨ho,ho2,show Value.bool (aQ ns ms)≠Value.notImplemented/\Q (.bool (aQ ns ms)) s from⟨(fun x=>nomatch x),h⟩⟩ hu
end
end HT
namespace SD
open PySem PySem.Spec PyProof.Rows L2
section
variable{X:Cx}
theorem dQ{K:PySem.W.Frag}{H:Hp}:∀{ns:List Int} {xs:List V},aA K H (ns.map D.int) xs->xs=ns.map V.int
 |[],xs,h=>by rw[List.map_nil,aA]at h;exact h
 |n::ns,xs,h=>by
  rw[List.map_cons,aA]at h
  obtain⟨x,r,rfl,h1,h2⟩:=h
  rw[Rep]at h1
  rw[h1,dQ h2];rfl
theorem vF(hu:X.A.units<cLine):OpR X (compareOp .LtE) (fun x y H Q=>∃a b ns ms,x=.ref a/\y=.ref b/\SqT X.K H a (ns.map V.int)/\SqT X.K H b (ms.map V.int)/\Q (.bl (HT.lexLe ns ms)) H):=by intro pins s σ H x y v u Q I rx ry h;obtain⟨a,b,ns,ms,rfl,rfl,ha,hb,q⟩:=h;cases rx;cases ry;obtain⟨its,r1,p1,_⟩:=I.tuple ha;obtain⟨its2,r2,p2,_⟩:=I.tuple hb;exact HT.nS p1 p2 (intsAre_of r1) (intsAre_of r2) hu ⟨.bl (HT.lexLe ns ms),H,I,rfl,q⟩
theorem wD(hu:X.A.units<cLine):OpR X (compareOp .Gt) (fun x y H Q=>∃a b ns ms,x=.ref a/\y=.ref b/\SqT X.K H a (ns.map V.int)/\SqT X.K H b (ms.map V.int)/\Q (.bl (HT.aQ ns ms)) H):=by intro pins s σ H x y v u Q I rx ry h;obtain⟨a,b,ns,ms,rfl,rfl,ha,hb,q⟩:=h;cases rx;cases ry;obtain⟨its,r1,p1,_⟩:=I.tuple ha;obtain⟨its2,r2,p2,_⟩:=I.tuple hb;exact HT.iX p1 p2 (intsAre_of r1) (intsAre_of r2) hu ⟨.bl (HT.aQ ns ms),H,I,rfl,q⟩
def jK(f:Int->Int->Bool)(g:List Int->List Int->Bool):R2D:=fun x y M Q=>match x,y with
 |.int i,.int j=>True/\Q (.bl (f i j)) M
 |.tup a,.tup b=>∃ns ms,a=List.map D.int ns/\b=List.map D.int ms/\Q (.bl (g ns ms)) M
 |_,_=>False
theorem o8{op:CmpOp}{f:Int->Int->Bool}{g:List Int->List Int->Bool}(h1:OpD X (compareOp op) (rI2 (fun _ _=>True) fun i j=>.bl (f i j))) (h2:OpR X (compareOp op) (fun x y H Q=>∃a b ns ms,x=.ref a/\y=.ref b/\SqT X.K H a (ns.map V.int)/\SqT X.K H b (ms.map V.int)/\Q (.bl (g ns ms)) H)):OpD X (compareOp op) (jK f g):=by
 refine gE (h1.or h2) fun v u H Q zz61_0=>?_;obtain⟨x,y,M,R,r1,r2,a,q,fin⟩:=zz61_0;unfold jK at q;split at q
 ·exact .inl ⟨_,_,M,R,r1,r2,a,q,fin⟩
 ·obtain⟨ns,ms,rfl,rfl,q⟩:=q;rw[Rep]at r1;obtain⟨p,xs,rfl,hx,rx⟩:=r1;obtain⟨p',ys,rfl,hy,ry⟩:∃a xs,u=V.ref a/\SqT X.K H a xs/\aA X.K H (List.map D.int ms) xs:=by rw[Rep]at r2;exact r2
  rw[dQ rx]at hx;rw[dQ ry]at hy;exact .inr ⟨p,p',ns,ms,rfl,rfl,hx,hy,fin _ _ _ _ .refl (by rw[Rep]) a q⟩
 ·exact q.elim
theorem gA(hu:X.A.units+64<cLine):OpD X (compareOp .Lt) (jK (fun i j=>decide (i<j)) HT.lexLt):=o8 yl (wA (by omega))
theorem rg(hu:X.A.units+64<cLine):OpD X (compareOp .LtE) (jK (fun i j=>decide (i<=j)) HT.lexLe):=o8 xO (vF (by omega))
theorem d6(hu:X.A.units+64<cLine):OpD X (compareOp .Gt) (jK (fun i j=>decide (j<i)) HT.aQ):=o8 yM (wD (by omega))
theorem qi(hc:X.calm=true)(hu:X.A.units+64<cLine):bB X (.builtin "max") (fun xs H Q=>∃p q ns ms,xs=[.ref p,.ref q]/\SqT X.K H p (ns.map V.int)/\SqT X.K H q (ms.map V.int)/\Q (if HT.aQ ms ns=true then .ref q else .ref p) H):=by
 intro pins s σ H xs us Q I r z0;obtain⟨p,q,ns,ms,e,hp,hq,k⟩:=z0;subst e;obtain⟨u,v,rfl,ru,rv⟩:=vals2 r;cases ru;cases rv;obtain⟨its,r1,p1,_⟩:=I.tuple hp;obtain⟨its2,r2,p2,_⟩:=I.tuple hq;refine max_two (c:=HT.aQ ms ns) (I.ok.hd hc) (fun t Q' E' kt q'=>?_) fun h' tk kt=>⟨_,H,I.kept kt,?_,k⟩
 ·obtain⟨o1,a1,b1⟩:=p1;obtain⟨o2,a2,b2⟩:=p2;exact HT.iX (A:=X.A.in1) (s:=t) ⟨o2,kt _ _ a2,b2⟩ ⟨o1,kt _ _ a1,b1⟩ (intsAre_of r2) (intsAre_of r1) (by show X.A.units+1<cLine;omega) q'
 ·cases HT.aQ ms ns<;>rfl
theorem qw(hc:X.calm=true)(hu:X.A.units+64<cLine):bB X (.builtin "min") (fun xs H Q=>∃p q ns ms,xs=[.ref p,.ref q]/\SqT X.K H p (ns.map V.int)/\SqT X.K H q (ms.map V.int)/\Q (if HT.lexLt ms ns=true then .ref q else .ref p) H):=by
 intro pins s σ H xs us Q I r z0;obtain⟨p,q,ns,ms,e,hp,hq,k⟩:=z0;subst e;obtain⟨u,v,rfl,ru,rv⟩:=vals2 r;cases ru;cases rv;obtain⟨its,r1,p1,_⟩:=I.tuple hp;obtain⟨its2,r2,p2,_⟩:=I.tuple hq;refine min_two (c:=HT.lexLt ms ns) (I.ok.hd hc) (fun t Q' E' kt q'=>?_) fun h' tk kt=>⟨_,H,I.kept kt,?_,k⟩
 ·obtain⟨o1,a1,b1⟩:=p1;obtain⟨o2,a2,b2⟩:=p2;exact HT.iP (A:=X.A.in1) (s:=t) ⟨o2,kt _ _ a2,b2⟩ ⟨o1,kt _ _ a1,b1⟩ (intsAre_of r2) (intsAre_of r1) (by show X.A.units+1<cLine;omega) q'
 ·cases HT.lexLt ms ns<;>rfl
def uX:RC:=fun ds M Q=>match ds with
 |[.int i,.int j]=>Q (.int (max i j)) M
 |[.tup a,.tup b]=>∃ns ms,a=List.map D.int ns/\b=List.map D.int ms/\Q (.tup (List.map D.int (if HT.aQ ms ns=true then ms else ns))) M
 |_=>False
def ve:RC:=fun ds M Q=>match ds with
 |[.int i,.int j]=>Q (.int (min i j)) M
 |[.tup a,.tup b]=>∃ns ms,a=List.map D.int ns/\b=List.map D.int ms/\Q (.tup (List.map D.int (if HT.lexLt ms ns=true then ms else ns))) M
 |_=>False
theorem kr(hc:X.calm=true)(hu:X.A.units+64<cLine):di X (.builtin "max") uX:=bC (bB.or (wJ hc) (qi hc hu)) fun vs H Q z9=>by
 obtain⟨ds,M,R,rs,a,q,fin⟩:=z9;unfold uX at q;split at q
 ·exact .inl ⟨_,M,R,rs,a,q,fin⟩
 ·obtain⟨ns,ms,rfl,rfl,q⟩:=q;obtain⟨v,u,rfl,r1,r2⟩:=g9 rs;rw[Rep]at r1;obtain⟨p,xs,rfl,hx,rx⟩:=r1;obtain⟨p',ys,rfl,hy,ry⟩:∃a xs,u=V.ref a/\SqT X.K H a xs/\aA X.K H (List.map D.int ms) xs:=by rw[Rep]at r2;exact r2
  have hx':=hx;have hy':=hy;rw[dQ rx]at hx';rw[dQ ry]at hy';refine .inr ⟨p,p',ns,ms,rfl,hx',hy',fin _ _ _ _ .refl ?_ a q⟩;by_cases z:HT.aQ ms ns=true
  ·rw[if_pos z,if_pos z,Rep];exact⟨_,_,rfl,hy,ry⟩
  ·rw[if_neg z,if_neg z,Rep];exact⟨_,_,rfl,hx,rx⟩
 ·exact q.elim
theorem lb(hc:X.calm=true)(hu:X.A.units+64<cLine):di X (.builtin "min") ve:=bC (bB.or (wB hc) (qw hc hu)) fun vs H Q z9=>by
 obtain⟨ds,M,R,rs,a,q,fin⟩:=z9;unfold ve at q;split at q
 ·exact .inl ⟨_,M,R,rs,a,q,fin⟩
 ·obtain⟨ns,ms,rfl,rfl,q⟩:=q;obtain⟨v,u,rfl,r1,r2⟩:=g9 rs;rw[Rep]at r1;obtain⟨p,xs,rfl,hx,rx⟩:=r1;obtain⟨p',ys,rfl,hy,ry⟩:∃a xs,u=V.ref a/\SqT X.K H a xs/\aA X.K H (List.map D.int ms) xs:=by rw[Rep]at r2;exact r2
  have hx':=hx;have hy':=hy;rw[dQ rx]at hx';rw[dQ ry]at hy';refine .inr ⟨p,p',ns,ms,rfl,hx',hy',fin _ _ _ _ .refl ?_ a q⟩;by_cases z:HT.lexLt ms ns=true
  ·rw[if_pos z,if_pos z,Rep];exact⟨_,_,rfl,hy,ry⟩
  ·rw[if_neg z,if_neg z,Rep];exact⟨_,_,rfl,hx,rx⟩
 ·exact q.elim
end
end SD
namespace Ma
open SD
theorem sX{p z:Int}(h:0<p):0<p*z↔0<z:=by
 constructor
 ·intro q;by_cases hz:0<z
  ·exact hz
  ·have:p*z<=0:=Int.mul_nonpos_of_nonneg_of_nonpos (by omega) (by omega);omega
 ·exact fun q=>Int.mul_pos h q
theorem qz{a b c d:Int}(hb:0<b)(hd:0<d):Rat.divInt a b<Rat.divInt c d↔a*d<c*b:=by
 have e:=Rat.divInt_sub_divInt c a (d₁:=d) (d₂:=b) (by omega) (by omega);have h1:Rat.divInt a b<Rat.divInt c d↔0<Rat.divInt c d-Rat.divInt a b:=by constructor<;>intro z<;>grind
 rw[h1,e,iD (Int.mul_pos hd hb)];omega
def ut(t b X m x:Int):Rat:=Rat.divInt (x*t+X*m) (b*m)
theorem pd{t b X m n x y:Int}(ht:0<t)(hb:0<b)(hm:0<m)(hn:0<n):ut t b X m x<ut t b X n y↔n*x<m*y:=by
 unfold ut;rw[qz (Int.mul_pos hb hm) (Int.mul_pos hb hn)];have e:(y*t+X*n)*(b*m)-(x*t+X*m)*(b*n)=(b*t)*(m*y-n*x):=by grind
 have:=sX (z:=m*y-n*x) (Int.mul_pos hb ht);omega
theorem uW{t b X m n x y:Int}(ht:0<t)(hb:0<b)(hm:0<m)(hn:0<n):ut t b X m x=ut t b X n y↔n*x=m*y:=by
 have h1:=pd (X:=X) (x:=x) (y:=y) ht hb hm hn;have h2:=pd (X:=X) (x:=y) (y:=x) ht hb hn hm;constructor
 ·intro e;have a:¬ut t b X m x<ut t b X n y:=by rw[e];exact Rat.lt_irrefl
  have c:¬ut t b X n y<ut t b X m x:=by rw[e];exact Rat.lt_irrefl
  rw[h1]at a;rw[h2]at c;omega
 ·intro e;have a:¬ut t b X m x<ut t b X n y:=by rw[h1];omega
  have c:¬ut t b X n y<ut t b X m x:=by rw[h2];omega
  grind
theorem kW{t b X x:Int}:Rat.divInt (x*t+X) b=ut t b X 1 x:=by unfold ut;rw[Int.mul_one,Int.mul_one]
theorem yU{t b X Y m n x y u v:Int}(ht:0<t)(hb:0<b)(hm:0<m)(hn:0<n) : ah (ut t b X m x) (ut t b Y m y) (ut t b X n u) (ut t b Y n v)↔HT.lexLt [n*x,n*y] [m*u,m*v]=true:=by
 unfold ah;rw[pd ht hb hm hn,uW ht hb hm hn,pd ht hb hm hn];simp only[HT.lexLt];by_cases h:n*x=m*u
 ·rw[if_pos h];by_cases h2:n*y=m*v
  ·rw[if_pos h2];simp;omega
  ·rw[if_neg h2];simp;omega
 ·rw[if_neg h];simp;omega
theorem gP(a b c d:Int):HT.lexLe [a,b] [c,d]=!HT.lexLt [c,d] [a,b]:=by
 simp only[HT.lexLe,HT.lexLt];by_cases h:a=c
 ·subst h;rw[if_pos rfl,if_pos rfl];by_cases h2:b=d
  ·subst h2;rw[if_pos rfl,if_pos rfl];rfl
  ·rw[if_neg h2,if_neg (fun e=>h2 e.symm)];rw[<-decide_not,decide_eq_decide];omega
 ·rw[if_neg h,if_neg (fun e=>h e.symm),<-decide_not,decide_eq_decide];omega
theorem bz(a b c d:Int):HT.aQ [a,b] [c,d]=HT.lexLt [c,d] [a,b]:=by
 simp only[HT.aQ,HT.lexLt];by_cases h:a=c
 ·subst h;rw[if_pos rfl,if_pos rfl];by_cases h2:b=d
  ·subst h2;simp
  ·rw[if_neg h2,if_neg (fun e=>h2 e.symm)]
 ·rw[if_neg h,if_neg (fun e=>h e.symm)]
theorem aF{a b c d:Int}:HT.lexLt [a,b] [c,d]=true↔a<c\/(a=c/\b<d):=by
 simp only[HT.lexLt];by_cases h:a=c
 ·subst h;rw[if_pos rfl];by_cases h2:b=d
  ·subst h2;rw[if_pos rfl];simp
  ·rw[if_neg h2];simp
 ·rw[if_neg h];simp;omega
end Ma
namespace SD
open PySem PySem.Spec PyProof.Rows L2
theorem aN{M:MH}{a p:PySem.Addr}{o:MO}(h:M a=some o)(hp:M p=none):a≠p:=fun e=>by subst e;rw[h]at hp;cases hp
def scl(t b x y:Int):D:=.tup [.int t,.int b,.int x,.int y]
structure Scl(t b x y:Int):Prop where
 t0:0<t
 t1:t<=10^9
 b0:0<b
 b1:b<=10^9
 x0:-(10^17)<=x
 x1:x<=10^17
 y0:-(10^17)<=y
 y1:y<=10^17
def uw(w:Int×Int×Int×Int):D:=.tup [.tup [.int w.1,.int w.2.1],.tup [.int w.2.2.1,.int w.2.2.2]]
def rwl(t b x y:Int)(w:Int×Int×Int×Int):D:=Ma.wll (Ma.ut t b x 1 w.1) (Ma.ut t b y 1 w.2.1) (Ma.ut t b x 1 w.2.2.1) (Ma.ut t b y 1 w.2.2.2)
def Uok(n:Int)(w:Int×Int×Int×Int):Prop:=(-n<=w.1/\w.1<=n)/\(-n<=w.2.1/\w.2.1<=n)/\(-n<=w.2.2.1/\w.2.2.1<=n)/\(-n<=w.2.2.2/\w.2.2.2<=n)
theorem range_getD(l:List D):(List.range l.length).map (fun i=>(l[i]?).getD .non)=l:=by refine List.ext_getElem (by simp) fun i h1 h2=>?_;simp[h2]
theorem getD_map{α:Type}{f:α->D}{l:List α}{i:Nat}{a:α}(h:l[i]?=some a):((l.map f)[i]?).getD .non=f a:=by rw[List.getElem?_map,h];rfl
theorem ir(a b c d:Int):PyData.eqv (.tuple [.int a,.int b]) (.tuple [.int c,.int d])=decide (a=c/\b=d):=by simp only[PyData.eqv,PyData.eqvAll,ig,Bool.and_true,Bool.decide_and]
section
variable{X:Cx}
end
open PySem PySem.Spec PyProof.Rows L2 Ma
instance(a b c d:Rat):Decidable (Ma.ah a b c d):=inferInstanceAs (Decidable (_\/_))
def ue(a b c d e f g h:Rat):D:=
 let s:=if Ma.ah e f a b then(a,b)else(e,f)
 let n:=if Ma.ah c d g h then(c,d)else(g,h)
 if Ma.ah s.1 s.2 n.1 n.2 then .tup [.str "stretch",Ma.wll s.1 s.2 n.1 n.2]else if Ma.ah n.1 n.2 s.1 s.2 then .non else .tup [.str "spot",Ma.spt s.1 s.2]
def btw(x y s:Rat):Rat:=x+s*(y-x)
def jT(a b c d e f g h:Rat):D:=
 if Ma.sgn (Ma.cr a b c d e f)=0/\Ma.sgn (Ma.cr a b c d g h)=0 then ue a b c d e f g h
 else if 0<Ma.sgn (Ma.cr a b c d e f)*Ma.sgn (Ma.cr a b c d g h)\/0<Ma.sgn (Ma.cr e f g h a b)*Ma.sgn (Ma.cr e f g h c d)then .non
 else .tup [.str "spot",Ma.spt (btw e g (Ma.cr a b c d e f/(Ma.cr a b c d e f-Ma.cr a b c d g h))) (btw f h (Ma.cr a b c d e f/(Ma.cr a b c d e f-Ma.cr a b c d g h)))]
def crs(a b c d:Int):Int:=a*d-b*c
def cb(p q e f:Int):Int×Int:=if HT.aQ [e,f] [p,q]=true then(e,f)else(p,q)
def dP(r s g h:Int):Int×Int:=if HT.lexLt [g,h] [r,s]=true then(g,h)else(r,s)
def rh(p q r s e f g h:Int):D:=
 let w:=crs (r-p) (s-q) (g-e) (h-f)
 if w=0 then
  if crs (r-p) (s-q) (e-p) (f-q)≠0\/HT.aQ [(cb p q e f).1,(cb p q e f).2] [(dP r s g h).1,(dP r s g h).2]=true then .non
  else if(cb p q e f).1=(dP r s g h).1/\(cb p q e f).2=(dP r s g h).2 then .tup [.int (cb p q e f).1,.int (cb p q e f).2,.int 1]
  else .tup [.tup [.int (cb p q e f).1,.int (cb p q e f).2],.tup [.int (dP r s g h).1,.int (dP r s g h).2]]
 else
  let k:=if w<0 then -crs (e-p) (f-q) (g-e) (h-f)else crs (e-p) (f-q) (g-e) (h-f)
  let m:=if w<0 then -crs (e-p) (f-q) (r-p) (s-q)else crs (e-p) (f-q) (r-p) (s-q)
  if min k m<0\/(w.natAbs:Int)<max k m then .non else .tup [.int (p*(w.natAbs:Int)+k*(r-p)),.int (q*(w.natAbs:Int)+k*(s-q)),.int (w.natAbs:Int)]
def xU(t b X Y:Int):D->D
 |.tup [.int x,.int y,.int m]=>.tup [.str "spot",Ma.spt (Ma.ut t b X m x) (Ma.ut t b Y m y)]
 |.tup [.tup [.int x,.int y],.tup [.int u,.int v]]=>.tup [.str "stretch",Ma.wll (Ma.ut t b X 1 x) (Ma.ut t b Y 1 y) (Ma.ut t b X 1 u) (Ma.ut t b Y 1 v)]
 |_=>.non
theorem qS{t b X m x:Int}(hb:0<b)(hm:0<m):Ma.ut t b X m x=((t:Rat)/b)*((x:Rat)/m)+(X:Rat)/b:=by
 unfold Ma.ut;rw[Rat.divInt_eq_div];have h1:(b:Rat)≠0:=by have:=Ma.pos_int hb;grind
 have h2:(m:Rat)≠0:=by have:=Ma.pos_int hm;grind
 rw[Rat.intCast_add,Rat.intCast_mul,Rat.intCast_mul,Rat.intCast_mul];grind
theorem cU{t b X x:Int}(hb:0<b):Ma.ut t b X 1 x=((t:Rat)/b)*(x:Rat)+(X:Rat)/b:=by rw[qS hb (by decide)];have:((1:Int):Rat)=1:=rfl;rw[this];grind
theorem vI(k x y p q r s e f:Rat):Ma.cr (k*p+x) (k*q+y) (k*r+x) (k*s+y) (k*e+x) (k*f+y)=k*k*((r-p)*(f-q)-(s-q)*(e-p)):=by unfold Ma.cr;grind
theorem pF{t b X Y p q r s e f:Int}(hb:0<b):Ma.cr (Ma.ut t b X 1 p) (Ma.ut t b Y 1 q) (Ma.ut t b X 1 r) (Ma.ut t b Y 1 s) (Ma.ut t b X 1 e) (Ma.ut t b Y 1 f)=((t:Rat)/b)*((t:Rat)/b)*((crs (r-p) (s-q) (e-p) (f-q):Int):Rat):=by rw[cU hb,cU hb,cU hb,cU hb,cU hb,cU hb,vI];unfold crs;rw[Rat.intCast_sub,Rat.intCast_mul,Rat.intCast_mul,Rat.intCast_sub,Rat.intCast_sub,Rat.intCast_sub,Rat.intCast_sub]
theorem sgn_mul{k:Rat}(hk:0<k)(z:Int):Ma.sgn (k*(z:Rat))=Int.sign z:=by
 unfold Ma.sgn;by_cases h1:0<z
 ·rw[if_pos (Rat.mul_pos hk (Ma.pos_int h1)),Int.sign_eq_one_of_pos h1]
 ·by_cases h2:z<0
  ·have h3:0<k*((-z:Int):Rat):=Rat.mul_pos hk (Ma.pos_int (by omega));rw[Rat.intCast_neg]at h3;rw[if_neg (by grind),if_pos (by grind),Int.sign_eq_neg_one_of_neg h2]
  ·obtain rfl:z=0:=by omega
   have:((0:Int):Rat)=0:=rfl;rw[this];simp
theorem eB{x y:Int}:0<Int.sign x*Int.sign y↔(0<x/\0<y)\/(x<0/\y<0):=by
 rcases Int.lt_trichotomy x 0 with h|h|h<;>rcases Int.lt_trichotomy y 0 with h'|h'|h'
 ·rw[Int.sign_eq_neg_one_of_neg h,Int.sign_eq_neg_one_of_neg h'];omega
 ·subst h';simp
 ·rw[Int.sign_eq_neg_one_of_neg h,Int.sign_eq_one_of_pos h'];omega
 ·subst h;simp
 ·subst h;simp
 ·subst h;simp
 ·rw[Int.sign_eq_one_of_pos h,Int.sign_eq_neg_one_of_neg h'];omega
 ·subst h';simp
 ·rw[Int.sign_eq_one_of_pos h,Int.sign_eq_one_of_pos h'];omega
theorem j7{t b X Y p q e f:Int}(ht:0<t)(hb:0<b):Ma.ah (Ma.ut t b X 1 p) (Ma.ut t b Y 1 q) (Ma.ut t b X 1 e) (Ma.ut t b Y 1 f)↔(p<e\/(p=e/\q<f)):=by rw[Ma.yU ht hb (by decide) (by decide),Ma.aF];omega
theorem pE(p q r s e f g h:Int):crs (r-p) (s-q) (g-p) (h-q)=crs (r-p) (s-q) (e-p) (f-q)+crs (r-p) (s-q) (g-e) (h-f):=by unfold crs;grind
theorem oJ(p q e f g h:Int):crs (g-e) (h-f) (p-e) (q-f)=crs (e-p) (f-q) (g-e) (h-f):=by unfold crs;grind
theorem oM(p q r s e f g h:Int):crs (g-e) (h-f) (r-e) (s-f)=crs (e-p) (f-q) (g-e) (h-f)-crs (r-p) (s-q) (g-e) (h-f):=by unfold crs;grind
theorem oV(p q r s e f:Int):crs (e-p) (f-q) (r-p) (s-q)=-crs (r-p) (s-q) (e-p) (f-q):=by unfold crs;grind
theorem vm(p q r s e f g h:Int):crs (r-p) (s-q) (g-e) (h-f)*(e-p)=crs (e-p) (f-q) (g-e) (h-f)*(r-p)+crs (r-p) (s-q) (e-p) (f-q)*(g-e):=by unfold crs;grind
theorem vz(p q r s e f g h:Int):crs (r-p) (s-q) (g-e) (h-f)*(f-q)=crs (e-p) (f-q) (g-e) (h-f)*(s-q)+crs (r-p) (s-q) (e-p) (f-q)*(h-f):=by unfold crs;grind
theorem xi{k c W G H e g p r:Rat}(hk:k≠0)(hW:W≠0)(id:W*(e-p)=H*(r-p)+G*(g-e)) :
 btw (k*e+c) (k*g+c) (k*k*G/(k*k*G-k*k*(G+W)))=k*(p+H*(r-p)/W)+c:=by
 unfold btw
 have e1:k*k*G-k*k*(G+W)=-(k*k*W):=by grind
 rw[e1]
 grind
theorem rM{t b X Y p q r s e f g h:Int}(ht:0<t)(hb:0<b) :
 jT (Ma.ut t b X 1 p) (Ma.ut t b Y 1 q) (Ma.ut t b X 1 r) (Ma.ut t b Y 1 s) (Ma.ut t b X 1 e) (Ma.ut t b Y 1 f) (Ma.ut t b X 1 g) (Ma.ut t b Y 1 h)=xU t b X Y (rh p q r s e f g h):=by
 have htb:0<(t:Rat)/b:=by
  have h1:=Ma.pos_int ht
  have h2:=Ma.pos_int hb
  rw[Rat.div_def]
  exact Rat.mul_pos h1 (Rat.inv_pos.mpr h2)
 have hk:=Rat.mul_pos htb htb
 unfold jT rh
 rw[pF hb,pF hb,pF hb,pF hb,sgn_mul hk,sgn_mul hk,sgn_mul hk,sgn_mul hk,pE p q r s e f g h,oJ p q e f g h,oM p q r s e f g h,oV p q r s e f]
 have ix:=vm p q r s e f g h
 have iy:=vz p q r s e f g h
 generalize crs (r-p) (s-q) (g-e) (h-f)=W at ix iy
 generalize crs (r-p) (s-q) (e-p) (f-q)=G at ix iy
 generalize crs (e-p) (f-q) (g-e) (h-f)=H at ix iy
 dsimp only
 by_cases hW:W=0
 ·subst hW
  rw[if_pos rfl]
  by_cases hG:G=0
  ·subst hG
   rw[if_pos (by simp)]
   unfold ue
   have hs:(if Ma.ah (Ma.ut t b X 1 e) (Ma.ut t b Y 1 f) (Ma.ut t b X 1 p) (Ma.ut t b Y 1 q)then(Ma.ut t b X 1 p,Ma.ut t b Y 1 q)else(Ma.ut t b X 1 e,Ma.ut t b Y 1 f))=(Ma.ut t b X 1 (cb p q e f).1,Ma.ut t b Y 1 (cb p q e f).2):=by
    unfold cb
    rw[Ma.bz]
    by_cases z:HT.lexLt [p,q] [e,f]=true
    ·rw[if_pos z,if_neg]
     rw[j7 ht hb]
     rw[Ma.aF]at z
     omega
    ·rw[if_neg z]
     rw[Ma.aF]at z
     by_cases y:Ma.ah (Ma.ut t b X 1 e) (Ma.ut t b Y 1 f) (Ma.ut t b X 1 p) (Ma.ut t b Y 1 q)
     ·rw[if_pos y]
     ·rw[if_neg y]
      rw[j7 ht hb]at y
      obtain⟨rfl,rfl⟩:e=p/\f=q:=by omega
      rfl
   have hn:(if Ma.ah (Ma.ut t b X 1 r) (Ma.ut t b Y 1 s) (Ma.ut t b X 1 g) (Ma.ut t b Y 1 h)then(Ma.ut t b X 1 r,Ma.ut t b Y 1 s)else(Ma.ut t b X 1 g,Ma.ut t b Y 1 h))=(Ma.ut t b X 1 (dP r s g h).1,Ma.ut t b Y 1 (dP r s g h).2):=by
    unfold dP
    by_cases z:HT.lexLt [g,h] [r,s]=true
    ·rw[if_pos z,if_neg]
     rw[j7 ht hb]
     rw[Ma.aF]at z
     omega
    ·rw[if_neg z]
     rw[Ma.aF]at z
     by_cases y:Ma.ah (Ma.ut t b X 1 r) (Ma.ut t b Y 1 s) (Ma.ut t b X 1 g) (Ma.ut t b Y 1 h)
     ·rw[if_pos y]
     ·rw[if_neg y]
      rw[j7 ht hb]at y
      obtain⟨rfl,rfl⟩:g=r/\h=s:=by omega
      rfl
   rw[hs,hn]
   dsimp only
   generalize (cb p q e f).1=x1
   generalize (cb p q e f).2=y1
   generalize (dP r s g h).1=x2
   generalize (dP r s g h).2=y2
   rw[Ma.bz]
   have a1:=j7 (X:=X) (Y:=Y) (p:=x1) (q:=y1) (e:=x2) (f:=y2) ht hb
   have a2:=j7 (X:=X) (Y:=Y) (p:=x2) (q:=y2) (e:=x1) (f:=y1) ht hb
   have l1:=Ma.aF (a:=x2) (b:=y2) (c:=x1) (d:=y1)
   by_cases z1:Ma.ah (Ma.ut t b X 1 x1) (Ma.ut t b Y 1 y1) (Ma.ut t b X 1 x2) (Ma.ut t b Y 1 y2)
   ·rw[if_pos z1]
    rw[a1]at z1
    rw[if_neg (by rw[l1];omega),if_neg (by omega)]
    rfl
   ·rw[if_neg z1]
    rw[a1]at z1
    by_cases z2:Ma.ah (Ma.ut t b X 1 x2) (Ma.ut t b Y 1 y2) (Ma.ut t b X 1 x1) (Ma.ut t b Y 1 y1)
    ·rw[if_pos z2]
     rw[a2]at z2
     rw[if_pos (by rw[l1];omega)]
     rfl
    ·rw[if_neg z2]
     rw[a2]at z2
     rw[if_neg (by rw[l1];omega),if_pos (by omega)]
     rfl
  ·rw[if_neg (by simp only[Int.sign_eq_zero_iff_zero];omega),if_pos (.inl (by rw[eB];omega)),if_pos (.inl hG)]
   rfl
 ·rw[if_neg (by simp only[Int.sign_eq_zero_iff_zero];omega),if_neg hW]
  by_cases hc:0<Int.sign G*Int.sign (G+W)\/0<Int.sign H*Int.sign (H-W)
  ·rw[if_pos hc]
   rw[eB,eB]at hc
   rw[if_pos]
   ·rfl
   ·by_cases hn:W<0
    ·rw[if_pos hn,if_pos hn];omega
    ·rw[if_neg hn,if_neg hn];omega
  ·rw[if_neg hc]
   rw[eB,eB]at hc
   rw[if_neg]
   ·show D.tup _=D.tup _
    have hWa:0<(W.natAbs:Int):=by omega
    have hWr:(W:Rat)≠0:=fun z=>hW (by have:=Rat.intCast_inj (a:=W) (b:=0);exact this.mp z)
    have hN:((W.natAbs:Int):Rat)≠0:=fun z=>by have:=(Rat.intCast_inj (a:=(W.natAbs:Int)) (b:=0)).mp z;omega
    have co:∀(Z a g' e' r':Int),W*(e'-a)=H*(r'-a)+G*(g'-e')->
     btw (Ma.ut t b Z 1 e') (Ma.ut t b Z 1 g') ((t:Rat)/b*((t:Rat)/b)*(G:Rat)/((t:Rat)/b*((t:Rat)/b)*(G:Rat)-(t:Rat)/b*((t:Rat)/b)*((G+W:Int):Rat))) =
      Ma.ut t b Z (W.natAbs:Int) (a*(W.natAbs:Int)+(if W<0 then -H else H)*(r'-a)):=fun Z a g' e' r' id=>by
     have idq:(W:Rat)*((e':Rat)-a)=H*((r':Rat)-a)+G*((g':Rat)-e'):=by
      have:=congrArg (fun z:Int=>(z:Rat)) id
      simpa[Rat.intCast_add,Rat.intCast_mul,Rat.intCast_sub]using this
     rw[cU hb,cU hb,qS hb hWa,Rat.intCast_add,xi (by grind) hWr idq,Rat.intCast_add,Rat.intCast_mul,Rat.intCast_mul,Rat.intCast_sub]
     have hq:(((if W<0 then -H else H:Int):Rat))/((W.natAbs:Int):Rat)=(H:Rat)/(W:Rat):=by
      by_cases hn:W<0
      ·rw[if_pos hn,show(W.natAbs:Int)=-W from by omega,Rat.intCast_neg,Rat.intCast_neg]
       grind
      ·rw[if_neg hn,show(W.natAbs:Int)=W from by omega]
     generalize (((if W<0 then -H else H:Int):Rat))=K at hq
     generalize ((W.natAbs:Int):Rat)=N at hq hN
     grind
    rw[co X p g e r ix,co Y q h f s iy]
   ·by_cases hn:W<0
    ·rw[if_pos hn,if_pos hn];omega
    ·rw[if_neg hn,if_neg hn];omega
theorem ib(x:Str):PyData.eqv (.str x) (.str x)=true:=by simp[PyData.eqv]
theorem lA:PyData.strOk (Str.ofString "spot")=true:=by decide +kernel
theorem nG:PyData.strOk (Str.ofString "stretch")=true:=by decide +kernel
theorem jS(z:Rat):Ma.sgn z=1\/Ma.sgn z=-1\/Ma.sgn z=0:=by
 unfold Ma.sgn;split
 ·exact .inl rfl
 ·split
  ·exact .inr (.inl rfl)
  ·exact .inr (.inr rfl)
theorem wo(z:Rat):Bd 64 (Ma.sgn z):=by rcases jS z with h|h|h<;>rw[h]<;>decide
end SD
namespace HT
open PySem PyProof.Rows
def cL:List Int->List Int->Bool
 |[],[]=>true
 |[],_::_=>false
 |_::_,[]=>true
 |x::xs,y::ys=>if x=y then cL xs ys else decide (y<=x)
theorem nJ(x y:Int)(xs ys:List Int):cL (x::xs) (y::ys)=if x=y then cL xs ys else decide (y<=x):=rfl
theorem ju:cL [] []=true:=rfl
theorem iK(y:Int)(ys:List Int):cL [] (y::ys)=false:=rfl
theorem ja(x:Int)(xs:List Int):cL (x::xs) []=true:=rfl
theorem sO(A:Around)(s:Shared)(a:Int)(t:Tok)(c:Int)(u:Tok)(prog:Program)(w:World)(E:Value->Shared->Prop)(Q:Value->Shared->Prop)(h:Q (.bool (decide (c<=a))) s) : wpAny (model prog w) A (richCompare .GtE (.int a t) (.int c u)) Q E s:=(PyProof.Rows.ge_int h:wpAny (model prog w) A (compareOp .GtE (.int a t) (.int c u)) Q E s)
section
open PySem.SeqAt
open PySem.AutoSeq1 (wpAny_loadPart')
open PySem.MeetsSeq PySem.MeetsSeq2 PySem.MeetsSeq3
theorem jC(l b:Addr)(items items2:Array Value)(n n2:Nat)(dd dd2:Option Addr)(sl sl2:Array (Option Value))(ns ms:List Int)(hi:IntsAre items.toList ns)(hj:IntsAre items2.toList ms) :
 Meets (Builtin.«tuple.__ge__» ⟨[.ref l,.ref b],[]⟩)
  (fun _ R s=>s.heap.get? l=some { cls:=.type "tuple",dict:=dd,data:=.seq items n,slots:=sl }/\s.heap.get? b=some { cls:=.type "tuple",dict:=dd2,data:=.seq items2 n2,slots:=sl2 }/\
   R (.ok (.ret (.bool (cL ns ms)))) s):=
 .of_wp fun prog w A R s h=>by
  obtain⟨hp,g,d,tk,os⟩:=s;obtain⟨hl,hb,h⟩:=h
  have f2:=AutoSeq1.sub_tuple_tuple
  have z1:items.size=ns.length:=by rw[<-hi.length];simp
  have z2:items2.size=ms.length:=by rw[<-hj.length];simp
  wp_walk using wpAny_loadPart' hl,wpAny_loadPart' hb,wpAny_forIn_list _ (fun rest b s'=>b.1=none/\s'=⟨hp,g,d,tk,os⟩/\∃(vs ws:List Value) (ns' ms':List Int),rest=vs.zip ws/\
   IntsAre vs ns'/\IntsAre ws ms'/\ns'.length+items2.size=ms'.length+items.size/\R (.ok (.ret (.bool (cL ns' ms')))) ⟨hp,g,d,tk,os⟩) _
  case turn=>
   rintro⟨y,x⟩ rest b s' ⟨hb',rfl,vs,ws,ns',ms',hz,hvi,hwi,hlen,hR⟩
   cases hvi with
   |nil=>rw[List.zip_nil_left]at hz;cases hz
   |cons a t hvi'=>
    cases hwi with
    |nil=>rw[List.zip_nil_right]at hz;cases hz
    |cons c u hwi'=>
     rw[List.zip_cons_cons]at hz
     injection hz with hyx hrest
     injection hyx with hy hx
     subst hy hx
     rw[nJ]at hR
     simp only[List.length_cons]at hlen
     obtain⟨e,he,hiff⟩:=fZ A.in1 ⟨hp,g,d,tk,os⟩ a t c u
     refine wpAny_bind (he prog w _ _ ?_)
     cases e with
     |true=>
      rw[if_pos (hiff.mp rfl)]at hR
      wp_walk
      exact⟨rfl,rfl,_,_,_,_,hrest,hvi',hwi',by omega,hR⟩
     |false=>
      rw[if_neg (fun q=>absurd (hiff.mpr q) Bool.false_ne_true)]at hR
      have hri:=sO A.in1 ⟨hp,g,d,tk,os⟩ a t c u prog w
      wp_walk using hri
      exact⟨_,rfl,by simpa using hR⟩
  case fin=>
   rintro⟨b1,b2⟩ s' ⟨hb',rfl,vs,ws,ns',ms',hz,hvi,hwi,hlen,hR⟩
   simp only at hb'
   subst hb'
   have hv:cL ns' ms'=decide (items.size≥items2.size):=by
    cases hvi with
    |nil=>
     cases hwi with
     |nil=>
      simp only[List.length_nil]at hlen
      rw[ju]
      exact(decide_eq_true (by omega)).symm
     |cons c u hw=>
      simp only[List.length_nil,List.length_cons]at hlen
      rw[iK]
      exact(decide_eq_false (by omega)).symm
    |cons a t hv=>
     cases hwi with
     |nil=>
      simp only[List.length_nil,List.length_cons]at hlen
      rw[ja]
      exact(decide_eq_true (by omega)).symm
     |cons c u hw=>
      rw[List.zip_cons_cons]at hz
      cases hz
   rw[hv]at hR
   wp_walk
   exact⟨_,rfl,by simpa[Builtin.Tuple.tupleCompareSizes]using hR⟩
  case h=>
   exact⟨rfl,rfl,items.toList,items2.toList,ns,ms,rfl,hi,hj,by omega,h⟩
end
section
variable{prog:Program}{w:World}{A:Around}{E:Value->Shared->Prop}{s:Shared}
theorem nM{l b:Addr}{items items2:Array Value}{ns ms:List Int}{Q:Value->Shared->Prop}(hl:IsTup s.heap l items)(hb:IsTup s.heap b items2)(hi:IntsAre items.toList ns)(hj:IntsAre items2.toList ms) (hu:A.units<cLine) (h:Q (.bool (cL ns ms)) s):wpAny (model prog w) A (compareOp .GtE (.ref l) (.ref b)) Q E s:=by obtain⟨⟨cls,dd,data,sl⟩,ho,hc,n,hd⟩:=id hl;obtain⟨⟨cls2,dd2,data2,sl2⟩,ho2,hc2,n2,hd2⟩:=id hb;simp only at hc hd hc2 hd2;subst hc hd hc2 hd2;exact richCompare_meets_room (op:=.GtE) ⟨_,ho,rfl⟩ ⟨_,ho2,rfl⟩ PySem.F.slot_tuple_ge PySem.F.entry_tuple_ge (PySem.F.args_tuple_ge_2 _ _) (jC l b items items2 n n2 dd dd2 sl sl2 ns ms hi hj) ⟨ho,ho2,show Value.bool (cL ns ms)≠Value.notImplemented/\Q (.bool (cL ns ms)) s from⟨(fun x=>nomatch x),h⟩⟩ hu
end
end HT
namespace SD
open PySem PySem.Spec PyProof.Rows L2
section
variable{X:Cx}
theorem xq(hu:X.A.units<cLine):OpR X (compareOp .GtE) (fun x y H Q=>∃a b ns ms,x=.ref a/\y=.ref b/\SqT X.K H a (ns.map V.int)/\SqT X.K H b (ms.map V.int)/\Q (.bl (HT.cL ns ms)) H):=by intro pins s σ H x y v u Q I rx ry h;obtain⟨a,b,ns,ms,rfl,rfl,ha,hb,q⟩:=h;cases rx;cases ry;obtain⟨its,r1,p1,_⟩:=I.tuple ha;obtain⟨its2,r2,p2,_⟩:=I.tuple hb;exact HT.nM p1 p2 (intsAre_of r1) (intsAre_of r2) hu ⟨.bl (HT.cL ns ms),H,I,rfl,q⟩
theorem n6(hu:X.A.units+64<cLine):OpD X (compareOp .GtE) (jK (fun i j=>decide (j<=i)) HT.cL):=o8 yJ (xq (by omega))
def ur(g:Bool->Bool):R2D:=fun x y M Q=>∃p ps,Pd M x p/\(Pd M y (.list ps)\/Pd M y (.tuple ps))/\SeqAt.shaped p=true/\PyData.canLayAll0 ps=true/\Q (.bl (g (ps.any fun q=>PyData.eqv q p))) M
theorem jf{p:PyData}{n:Nat}(h:SeqAt.shaped p=true):min n p.depth<=63+1:=Nat.le_trans (Nat.min_le_right _ _) (SeqAt.depth_of_shaped h)
theorem vk(hu:X.A.units+66<cLine):OpD X (compareOp .In) (ur fun b=>b):=by
 intro pins s σ H v u v' u' Q I rv ru h;obtain⟨x,y,M,R,r1,r2,a,⟨p,ps,p1,p2,s1,s2,hq⟩,fin⟩:=h;obtain⟨as,q1⟩:=bh I a p1 r1 rv;have hm:=jf (n:=PyData.depthAll ps) s1;rcases p2 with p2|p2
 ·obtain⟨bs,q2⟩:=bh I a p2 r2 ru;exact SeqAt.in_list_reads q2 q1 s2 (SeqAt.canLay_of_shaped s1) (by omega) ⟨.bl _,H,I,rfl,fin _ _ _ _ .refl (by rw[Rep]) a hq⟩
 ·obtain⟨bs,q2⟩:=bh I a p2 r2 ru;exact SeqAt.in_tuple_reads q2 q1 s2 (SeqAt.canLay_of_shaped s1) (by omega) ⟨.bl _,H,I,rfl,fin _ _ _ _ .refl (by rw[Rep]) a hq⟩
theorem rF(hu:X.A.units+66<cLine):OpD X (compareOp .NotIn) (ur fun b=>!b):=by
 intro pins s σ H v u v' u' Q I rv ru h;obtain⟨x,y,M,R,r1,r2,a,⟨p,ps,p1,p2,s1,s2,hq⟩,fin⟩:=h;obtain⟨as,q1⟩:=bh I a p1 r1 rv;have hm:=jf (n:=PyData.depthAll ps) s1;rcases p2 with p2|p2
 ·obtain⟨bs,q2⟩:=bh I a p2 r2 ru;exact SeqAt.notIn_list_reads q2 q1 s2 (SeqAt.canLay_of_shaped s1) (by omega) ⟨.bl _,H,I,rfl,fin _ _ _ _ .refl (by rw[Rep]) a hq⟩
 ·obtain⟨bs,q2⟩:=bh I a p2 r2 ru;exact SeqAt.notIn_tuple_reads q2 q1 s2 (SeqAt.canLay_of_shaped s1) (by omega) ⟨.bl _,H,I,rfl,fin _ _ _ _ .refl (by rw[Rep]) a hq⟩
theorem ma{K:PySem.W.Frag}{H:Hp}:∀{bs:List Bool} {xs:List V},aA K H (bs.map D.bl) xs->xs=bs.map V.bl
 |[],xs,h=>by rw[List.map_nil,aA]at h;exact h
 |n::ns,xs,h=>by
  rw[List.map_cons,aA]at h
  obtain⟨x,r,rfl,h1,h2⟩:=h
  rw[Rep]at h1
  rw[h1,ma h2];rfl
theorem fT:∀{bs:List Bool} {us:List Value},Vals (bs.map V.bl) us->us=bs.map Value.bool
 |[],_,.nil=>rfl
 |b::bs,_,.cons r t=>by
  cases (show _=Value.bool b from r)
  rw[fT t];rfl
def xJ:RC:=fun ds M Q=>match ds with
 |[.ref l]=>∃bs:List Bool,M l=some (.lst (List.map D.bl bs))/\Q (.bl (bs.all id)) M
 |_=>False
theorem p3(hc:X.calm=true):bB X (.builtin "all") (fun xs H Q=>∃(p:Addr) (bs:List Bool),xs=[.ref p]/\SqL X.K H p (bs.map V.bl)/\Q (.bl (bs.all id)) H):=by
 intro pins s σ H xs us Q I r z0;obtain⟨l,bs,e,hp,k⟩:=z0;subst e;obtain⟨u,rfl,ru⟩:=vals1 r;cases ru;obtain⟨its,r1,p1,_⟩:=I.list hp;have hv:=fT r1;have hl:=p1.isList;have lt:l≠s.heap.objs.size:=Nat.ne_of_lt (let⟨_,e,_⟩:=hl;Heap.lt_size e);refine call_all_walk (x:=.ref l) (wpAny_pyIter_list hl ⟨s.heap.objs.size,[s.heap.objs.size,l],[s.heap.objs.size],its.toArray.size,_,_,fun i=>(bs[i]?).getD true,rfl,Walks.list (A:=X.A.in1) (I.ok.hd hc) _ l lt its.toArray,⟨⟨_,Heap.get?_push_size _ rfl,rfl,rfl⟩,hl.push _⟩,fun i v s' Q' E' hP hQ=>?_,fun h' tk hk=>?_⟩)
 ·have hP':its[i]?=some v:=by simpa using hP
  rw[hv,List.getElem?_map]at hP';cases eb:bs[i]? with
  |none=>rw[eb]at hP';cases hP'
  |some b=>
   rw[eb]at hP'
   cases hP'
   have hQ':Q' b s':=by simpa[eb]using hQ
   exact wpAny_truthy_bool hQ'
 ·rw[show((List.range its.toArray.size).all fun i=>(bs[i]?).getD true)=bs.all id by rw[List.size_toArray,hv,List.length_map];exact LSm.range_all bs];exact⟨.bl (bs.all id),H,I.kept (LSm.kept_iter hk),rfl,k⟩
theorem wz(hc:X.calm=true):di X (.builtin "all") xJ:=bC (p3 hc) fun vs H Q z9=>by
 obtain⟨ds,M,R,rs,a,q,fin⟩:=z9;unfold xJ at q;split at q
 ·obtain⟨bs,e,q⟩:=q;obtain⟨v,rfl,r⟩:=bU rs;rw[Rep]at r;subst r;obtain⟨xs,hx,rx⟩:=a _ _ e;rw[ma rx]at hx;exact⟨_,bs,rfl,SqL.of hx,fin _ _ _ _ .refl (by rw[Rep]) a q⟩
 ·exact q.elim
def xZ(to:TD)(t:TAD):TD:=fun δ M Q=>to δ M fun x M1=>∃l ys,x=.ref l/\M1 l=some (.lst ys)/\t δ M1 fun ds M2=>∃xs d,ds=[d]/\M2 l=some (.lst xs)/\xs.length<1000000/\Q .non (ay M2 l (.lst (xs++[d])))
variable{o e:Expr}{to:TD}{t:TAD}{apos cpos:Pos}
theorem g8(ho:DE X o to)(ha:DA X [e] t)
 (hbase:attributeBase o "append" X.env (eval o X.env)=eval o X.env:=by rfl)
 (hfew:((backTo cpos (starEach [e] X.env)).all (fun x=>!x.1)&&(backToKw cpos (keywordEach [] X.env)).all (fun x=>x.1.isSome)
  && decide ([e].length+([]:List Keyword).length+(if([]:List Keyword).isEmpty then 0 else 1)<30))=true:=by rfl)
 (hline:(apos.endLine==cpos.line)=true:=by rfl) (hs:starEach [e] X.env=(false,eval e X.env)::starEach [] X.env:=by rfl) (hplain:(backTo cpos (starEach [] X.env)).any (·.1)=false:=by rfl) :
 DE X (.Call (.Attribute o "append" apos) [e] [] cpos) (xZ to t):=
 aT (qI PySem.F.plainAttrs_list PySem.F.slot_list_append PySem.F.type_list_append jU ho ha hbase hfew hline hs hplain) fun σ H Q z9=>by
  obtain⟨δ,M,R,hsl,hM,q,fin⟩:=z9
  refine⟨δ,M,_,hsl,hM,q,fun x M1 v H1 g1 r1 a1 zz62_0=>?_⟩
  obtain⟨l,ys,ex,hl,q1⟩:=zz62_0
  subst ex
  rw[Rep]at r1
  subst r1
  obtain⟨vs,hvs,_⟩:=a1 _ _ hl
  refine⟨.inl ⟨rfl,vs,SqL.of hvs⟩,δ,M1,_,hsl.mono g1,a1,q1,fun ds M2 us H2 g2 r2 a2 zz63_0=>?_⟩
  obtain⟨xs,d,ed,hx,hn,q2⟩:=zz63_0
  subst ed
  obtain⟨u,rfl,ru⟩:=bU r2
  obtain⟨ws,hws,rws⟩:=a2 _ _ hx
  have hlen:=rws.length
  refine⟨l,ws,u,rfl,rfl,hws,Nat.lt_of_lt_of_le (by omega) (show 1000000<=sizeLine from nbL rfl),?_⟩
  exact fin _ _ _ _ (g1.trans (g2.trans (.lst hws))) (by rw[Rep]) (a2.uu hws (rws.append (.cons ru .nil))) q2
end
theorem wa{k:Nat}{A:Around}(r:Room k A):A.units+66<cLine:=by have:=r.un;omega
abbrev Wl:=Int×Int×Int×Int
def la(x y:Int):Int:=100*x+y
def l1(w:Wl):Int:=la w.1 w.2.1
def l2(w:Wl):Int:=la w.2.2.1 w.2.2.2
def sd(w:Wl)(x y:Int):Int:=crs (w.2.2.1-w.1) (w.2.2.2-w.2.1) (x-w.1) (y-w.2.1)
def sd1(w v:Wl):Int:=sd w v.1 v.2.1
def sd2(w v:Wl):Int:=sd w v.2.2.1 v.2.2.2
structure Un5(w:Wl):Prop where
 a:0<=w.1/\w.1<=20
 b:0<=w.2.1/\w.2.1<=20
 c:0<=w.2.2.1/\w.2.2.1<=20
 d:0<=w.2.2.2/\w.2.2.2<=20
 lt:l1 w<l2 w
theorem sP{z k:Int}(hk:0<k)(h:0<z*k):0<z:=by
 rcases Int.lt_trichotomy z 0 with q|q|q
 ·have:=Int.mul_neg_of_neg_of_pos q hk;omega
 ·subst q;simp at h
 ·exact q
theorem sr{z k:Int}(hk:0<k)(h:z*k<0):z<0:=by
 rcases Int.lt_trichotomy z 0 with q|q|q
 ·exact q
 ·subst q;simp at h
 ·have:=Int.mul_pos q hk;omega
theorem u6{a b c d:Int}(hb:0<=b/\b<=20)(hd:0<=d/\d<=20):HT.lexLt [a,b] [c,d]=decide (la a b<la c d):=by have h:=Ma.aF (a:=a) (b:=b) (c:=c) (d:=d);rw[Bool.eq_iff_iff,h,decide_eq_true_eq];unfold la;omega
theorem yO{a b c d:Int}(hb:0<=b/\b<=20)(hd:0<=d/\d<=20):HT.aQ [a,b] [c,d]=decide (la c d<la a b):=by rw[Ma.bz,u6 hd hb]
theorem zk{x y u v:Int}(h1:0<=y/\y<=20)(h2:0<=v/\v<=20):(x=u/\y=v)↔la x y=la u v:=by unfold la;omega
theorem wN(M:MH)(A:Wl)(x y:Int)(g:Bool->Bool)(Q:DK)(q:Q (.bl (g (decide (A.1=x/\A.2.1=y)||decide (A.2.2.1=x/\A.2.2.2=y)))) M):ur g (.tup [.int x,.int y]) (uw A) M Q:=by refine⟨_,_,Pd.of rfl,.inr (Pd.of rfl),rfl,rfl,?_⟩;rw[List.any_cons,List.any_cons,List.any_nil,ir,ir,Bool.or_false];exact q
theorem vf(z:Int):Bd 64 (Int.sign z):=by
 rcases Int.lt_trichotomy z 0 with h|h|h
 ·rw[Int.sign_eq_neg_one_of_neg h];decide
 ·subst h;decide
 ·rw[Int.sign_eq_one_of_pos h];decide
def uwP(w:Wl):PyData:=.tuple [.tuple [.int w.1,.int w.2.1],.tuple [.int w.2.2.1,.int w.2.2.2]]
theorem oh{M:MH}:∀ws:List Wl,Pds M (ws.map uw) (ws.map uwP)
 |[]=>.nil
 |w::ws=>.cons (Pd.of rfl) (oh ws)
theorem qY:∀ws:List Wl,PyData.canLayAll0 (ws.map uwP)=true
 |[]=>rfl
 |w::ws=>by rw[List.map_cons,PyData.canLayAll0,qY ws];rfl
theorem rN:∀ws:List Wl,PyData.depthAll (ws.map uwP)<=10
 |[]=>nbL rfl
 |w::ws=>by
  rw[List.map_cons,PyData.depthAll]
  exact Nat.max_le.mpr ⟨nbL rfl,rN ws⟩
theorem ke(ws:List Wl):SeqAt.shaped (.list (ws.map uwP))=true:=by unfold SeqAt.shaped;have h1:=qY ws;have h2:=rN ws;rw[Bool.and_eq_true];refine⟨by rw[PyData.canLay0];exact h1,decide_eq_true ?_⟩;rw[PyData.depth];omega
theorem iB:∀ws:List Wl,PyData.eqv (.list (ws.map uwP)) (.list [])=ws.isEmpty
 |[]=>by simp[PyData.eqv,PyData.eqvAll]
 |w::ws=>by simp[PyData.eqv,PyData.eqvAll]
theorem rj{w:Wl}(h:Un5 w){v:Int}(h0:0<=v)(h1:v<2):∃x y,atI [D.tup [.int w.1,.int w.2.1],.tup [.int w.2.2.1,.int w.2.2.2]] v=some (.tup [.int x,.int y])/\(0<=x/\x<=20)/\(0<=y/\y<=20):=by
 rcases(show v=0\/v=1 by omega)with rfl|rfl
 ·exact⟨_,_,rfl,h.a,h.b⟩
 ·exact⟨_,_,rfl,h.c,h.d⟩
theorem oY{ws:List Wl}{v:Int}(h0:0<=v)(h1:v<ws.length):∃w,w∈ws/\atI (ws.map uw) v=some (uw w):=by
 obtain⟨j,rfl⟩:∃j:Nat,v=(j:Int):=⟨v.toNat,by omega⟩;have hj:j<ws.length:=by omega
 exact⟨ws[j],List.getElem_mem hj,ik (by simp[hj])⟩
theorem p7{p q e f:Int}(hp:0<=p/\p<=20)(hq:0<=q/\q<=20)(he:0<=e/\e<=20)(hf:0<=f/\f<=20)(ne:¬(p=e/\q=f)) :
 ∃w:Wl,(if HT.lexLt [e,f] [p,q]=true then[e,f]else[p,q])=[w.1,w.2.1]/\(if HT.aQ [e,f] [p,q]=true then[e,f]else[p,q])=[w.2.2.1,w.2.2.2]/\Un5 w:=by
 rw[u6 hf hq,yO hf hq]
 have nl:la p q≠la e f:=fun z=>ne ((zk hq hf).mpr z)
 by_cases h:la e f<la p q
 ·exact⟨(e,f,p,q),by rw[if_pos (decide_eq_true h)],by rw[if_neg (by simp;omega)],⟨he,hf,hp,hq,h⟩⟩
 ·have h':la p q<la e f:=by omega
  exact⟨(p,q,e,f),by rw[if_neg (by simpa using h)],by rw[if_pos (decide_eq_true h')],⟨hp,hq,he,hf,h'⟩⟩
section
variable{X:Cx}
def m6{α:Type}(xs:List α)(j:Nat)(y:α):List α:=xs.take j++y::xs.drop j
def uL:V->List V->Hp->VK->Prop:=fun x vs H Q=>∃l xs y,∃(k:Int) (j:Nat),x=.ref l/\vs=[.int k,y]/\k=(j:Int)/\H l=some (.lst xs)/\j<=xs.length/\xs.length<1000000/\Q .non (upd H l (.lst (m6 xs j y)))
theorem uD(its:List Value)(k:Int)(j:Nat)(u:Value)(hk:k=(j:Int))(hj:j<=its.length) :
 (its.toArray.extract 0 (if k<0 then(k+((its.toArray.size:Nat):Int)).toNat else min k.toNat its.toArray.size)).push u++its.toArray.extract (if k<0 then(k+((its.toArray.size:Nat):Int)).toNat else min k.toNat its.toArray.size)=(m6 its j u).toArray:=by
 have e:(if k<0 then(k+((its.toArray.size:Nat):Int)).toNat else min k.toNat its.toArray.size)=j:=by
  rw[if_neg (by omega),List.size_toArray];omega
 rw[e]
 apply Array.toList_inj.mp
 simp[m6]
 exact List.take_of_length_le (by simp)
theorem p0:MtM X "list.insert" uL:=by
 intro pins s σ H x vs v us Q I rx rv z0;obtain⟨l,xs,y,k,j,ex,ev,hk,hH,hj,hz,q⟩:=z0;subst ex ev;cases rx;obtain⟨u1,u2,rfl,r1,r2⟩:=rv.two;obtain⟨t,rfl⟩:=r1;obtain⟨z,its,n,r,hl,e⟩:=I.pT hH;have fits:Builtin.List.listFitsIndex k=true:=by unfold Builtin.List.listFitsIndex;simp;omega
 have hsz:its.toArray.size<=sizeLine:=by rw[List.size_toArray,<-hl];exact z
 refine call_meets PySem.F.slot_list_insert ⟨_,e,rfl⟩ PySem.F.entry_list_insert (PySem.F.args_list_insert_3 _ _ _) (PySem.AutoSeq1.list_insert_list_int_val_1 l its.toArray n k t u2 (by rw[fits];decide) hsz) ⟨e,?_⟩;refine⟨.non,_,I.yR (its':=m6 its j u2) hH e (uD its k j u2 hk (by omega)) ((Vals.take j r).append (.cons r2 (Vals.drop j r))) ?_,rfl,q⟩;show(xs.take j++y::xs.drop j).length<=sizeLine;simp only[List.length_append,List.length_take,List.length_cons,List.length_drop];have:1000000<=sizeLine:=nbL rfl;omega
def yC(to:TD)(t:TAD):TD:=fun δ M Q=>to δ M fun x M1=>∃l ys,x=.ref l/\M1 l=some (.lst ys)/\t δ M1 fun ds M2=>∃xs d,∃j:Nat,ds=[.int (j:Int),d]/\M2 l=some (.lst xs)/\j<=xs.length/\xs.length<1000000/\Q .non (ay M2 l (.lst (m6 xs j d)))
variable{o e1 e2:Expr}{to:TD}{t:TAD}{apos cpos:Pos}
theorem lO(ho:DE X o to)(ha:DA X [e1,e2] t)
 (hbase:attributeBase o "insert" X.env (eval o X.env)=eval o X.env:=by rfl)
 (hfew:((backTo cpos (starEach [e1,e2] X.env)).all (fun x=>!x.1)&&(backToKw cpos (keywordEach [] X.env)).all (fun x=>x.1.isSome)
  && decide ([e1,e2].length+([]:List Keyword).length+(if([]:List Keyword).isEmpty then 0 else 1)<30))=true:=by rfl)
 (hline:(apos.endLine==cpos.line)=true:=by rfl) (hs:starEach [e1,e2] X.env=(false,eval e1 X.env)::starEach [e2] X.env:=by rfl) (hplain:(backTo cpos (starEach [e2] X.env)).any (·.1)=false:=by rfl) :
 DE X (.Call (.Attribute o "insert" apos) [e1,e2] [] cpos) (yC to t):=
 aT (qI PySem.F.plainAttrs_list PySem.F.slot_list_insert PySem.F.type_list_insert p0 ho ha hbase hfew hline hs hplain) fun σ H Q z9=>by
  obtain⟨δ,M,R,hsl,hM,q,fin⟩:=z9
  refine⟨δ,M,_,hsl,hM,q,fun x M1 v H1 g1 r1 a1 zz65_0=>?_⟩
  obtain⟨l,ys,ex,hl,q1⟩:=zz65_0
  subst ex
  rw[Rep]at r1
  subst r1
  obtain⟨vs,hvs,_⟩:=a1 _ _ hl
  refine⟨.inl ⟨rfl,vs,SqL.of hvs⟩,δ,M1,_,hsl.mono g1,a1,q1,fun ds M2 us H2 g2 r2 a2 zz66_0=>?_⟩
  obtain⟨xs,d,j,ed,hx,hj,hn,q2⟩:=zz66_0
  subst ed
  obtain⟨u1,u2,rfl,ru1,ru2⟩:=g9 r2
  rw[Rep]at ru1
  subst ru1
  obtain⟨ws,hws,rws⟩:=a2 _ _ hx
  have hlen:=rws.length
  exact⟨l,ws,u2,_,j,rfl,rfl,rfl,hws,by omega,by omega,fin _ _ _ _ (g1.trans (g2.trans (.lst hws))) (by rw[Rep]) (a2.uu hws ((rws.take j).append (.cons ru2 (rws.drop j)))) q2⟩
def vc:RC:=fun ds M Q=>match ds with
 |[.ref l]=>∃xs,M l=some (.lst xs)/\∀p,M p=none->Q (.ref p) (ay M p (.lst xs))
 |[.tup xs]=>∀p,M p=none->Q (.ref p) (ay M p (.lst xs))
 |_=>False
theorem sZ:di X (.type "list") vc:=bC kT fun vs H Q z9=>by
 obtain⟨ds,M,R,rs,a,q,fin⟩:=z9;unfold vc at q;split at q
 ·obtain⟨ys,e,q⟩:=q;obtain⟨v,rfl,r⟩:=bU rs;rw[Rep]at r;subst r;obtain⟨xs,hx,rx⟩:=a _ _ e;exact⟨_,xs,rfl,.inl (SqL.of hx),fun z hz=>fin _ _ _ _ (.new hz) (by rw[Rep]) (a.ny hz rx) (q z (a.fresh hz))⟩
 ·obtain⟨v,rfl,r⟩:=bU rs;rw[Rep]at r;obtain⟨p,xs,rfl,hx,rx⟩:=r;exact⟨_,xs,rfl,.inr hx,fun z hz=>fin _ _ _ _ (.new hz) (by rw[Rep]) (a.ny hz rx) (q z (a.fresh hz))⟩
 ·exact q.elim
end
def frP(q:Rat):PyData:=.tuple [.int q.num,.int (q.den:Int)]
def rwP(t b x y:Int)(w:Wl):PyData:=.tuple [.tuple [frP (Ma.ut t b x 1 w.1),frP (Ma.ut t b y 1 w.2.1)],.tuple [frP (Ma.ut t b x 1 w.2.2.1),frP (Ma.ut t b y 1 w.2.2.2)]]
theorem sI(t b x y:Int)(w:Wl):PyData.eqv (rwP t b x y w) (rwP t b x y w)=true:=by simp[rwP,frP,PyData.eqv,PyData.eqvAll]
theorem nU{M:MH}(t b x y:Int):∀ws:List Wl,Pds M (ws.map (rwl t b x y)) (ws.map (rwP t b x y))
 |[]=>.nil
 |w::ws=>.cons (Pd.of rfl) (nU t b x y ws)
theorem sD(t b x y:Int):∀ws:List Wl,PyData.canLayAll0 (ws.map (rwP t b x y))=true
 |[]=>rfl
 |w::ws=>by rw[List.map_cons,PyData.canLayAll0,sD t b x y ws];rfl
theorem q5(t b x y:Int):∀ws:List Wl,PyData.depthAll (ws.map (rwP t b x y))<=10
 |[]=>nbL rfl
 |w::ws=>by
  rw[List.map_cons,PyData.depthAll]
  exact Nat.max_le.mpr ⟨nbL rfl,q5 t b x y ws⟩
theorem jE(t b x y:Int):∀ws:List Wl,PyData.eqvAll (ws.map (rwP t b x y)) (ws.map (rwP t b x y))=true
 |[]=>by simp[PyData.eqvAll]
 |w::ws=>by rw[List.map_cons,PyData.eqvAll,sI,jE t b x y ws];rfl
section
variable{X:Cx}{pins:List (Addr×Obj)}{σ:L2.St}{H:Hp}{s:Shared}
theorem m8{h':Heap}{t':Nat}{e it:Addr}(I:Inv X pins σ H s)(k:∀b o,b≠e->b≠it->s.heap.get? b=some o->h'.get? b=some o)(fe:eA X pins H e)(fi:eA X pins H it):Inv X pins σ H { s with heap:=h',toks:=t' }:=by
 obtain⟨e0,e1,_,e3,e4,e5⟩:=fe;obtain⟨i0,i1,_,i3,i4,i5⟩:=fi;have ne:∀b u,H b=some u->b≠e/\b≠it:=fun b u q=>⟨fun z=>(by rw[z,e0]at q;cases q),fun z=>(by rw[z,i0]at q;cases q)⟩;have nc:∀{b:Addr},b∉[e,it]->b≠e/\b≠it:=fun{b} hc=>⟨fun z=>hc (by simp[z]),fun z=>hc (by simp[z])⟩;refine I.step (g':=s.gens) (d':=s.drawn) (ch:=[e,it]) (fun b hb=>?_) (fun b o _ _ hc q _=>k b o (nc hc).1 (nc hc).2 q) (fun b o _ _ hc q _=>⟨o.slots,k b o (nc hc).1 (nc hc).2 q⟩) (fun _ _ _ _ n=>n) (fun b o hc q=>⟨o,k b o (nc hc).1 (nc hc).2 q⟩) (fun _ _ q=>q) (fun _ _ _ q=>q) (fun b ps q=>⟨#[],by rw[q];simp⟩) (fun m hm=>?_) (fun b u q=>?_) I.bare
 ·rcases(show b=e\/b=it by simpa using hb)with rfl|rfl
  ·exact⟨e3,e1,e4,e5⟩
  ·exact⟨i3,i1,i4,i5⟩
 ·obtain⟨o,es,ep,ho,r⟩:=hm;exact⟨o,es,ep,k _ o (Ne.symm e1) (Ne.symm i1) ho,r⟩
 ·refine(I.hok b u q).f6 (fun c v hc z=>?_) (fun _ z=>z) fun _ _ z=>z;rcases hc with y|y
  ·subst y;exact k _ v (ne _ u q).1 (ne _ u q).2 z
  ·exact k c v (ne c _ y).1 (ne c _ y).2 z
end
def Ite(K:PySem.W.Frag)(a:Addr):It:=
 ⟨fun i H=>∃xs x,SqL K H a xs/\xs[i]?=some x,fun i H x H'=>∃T y,x=.ref T/\H T=none/\H'=upd H T (.tup [.int (i:Int),y])/\∀xs,SqL K H a xs->xs[i]?=some y,fun i H=>∃xs,SqL K H a xs/\xs.length<=i⟩
theorem p9{P:Program}{w:World}{K:PySem.W.Frag}{elts:List Expr}{kt}{pt:Pos}(a e it:Addr)(hei:e≠it):Turn P w K (.Tuple elts kt pt) (Ite K a) [e,it] e (fun i h=>(∃old,IsEnum h e it (i:Int) old)/\h.IsListIter it a i) where
 mem:=by simp
 obj:=fun i h st b hb=>by
  rcases(show b=e\/b=it by simpa using hb)with rfl|rfl
  ·obtain⟨⟨old,q⟩,_⟩:=st
   exact⟨_,q,fun v z=>by
    have z':Data.fields _=Data.cell v:=z
    cases z'⟩
  ·obtain⟨o,q,c,d⟩:=st.2
   exact⟨o,q,fun v z=>by rw[d]at z;cases z⟩
 keep:=fun i h h' st k=>by
  obtain⟨⟨old,q⟩,st⟩:=st
  exact⟨⟨old,k e (by simp) _ q⟩,st.at fun o z=>k it (by simp) o z⟩
 item:=by
  intro X hP hw hK hc i pins s σ H E I hf st hg
  subst hP hw hK
  obtain⟨xs,x,hq,hx⟩:=hg
  obtain⟨its,rv,p,hz⟩:=I.list hq
  obtain⟨u,hu,ru⟩:=rv.get hx
  obtain⟨⟨old,he⟩,hit⟩:=st
  have le:e<s.heap.objs.size:=Heap.lt_size he
  have li:it<s.heap.objs.size:=by obtain⟨o,q,_⟩:=hit;exact Heap.lt_size q
  refine wpAny_pyNext_enum_item he hit p.isList (x:=u) (by simpa using hu) hei fun h1 ho hit1 hT hsz hk=>⟨_,rfl,wpAny_letOwnedTupleGo_enum (s:={ s with heap:=h1,toks:=s.toks+1 }) ho fun h2 he2 hs2=>?_⟩
  have hs2:Heap.SameBut e h1 h2:=hs2
  have fr:=I.fresh
  have I1:Inv X pins σ (upd H s.heap.objs.size (.tup [.int (i:Int),x])) { s with heap:=s.heap.push { cls:=.type "tuple",data:=.seq #[.int (i:Int) s.toks,u] },toks:=s.toks }:=
   I.laid (fun b v q=>Heap.get?_push_of_some _ q) (Nat.le_refl _) ⟨nbL rfl,[.int (i:Int) s.toks,u],.cons ⟨_,rfl⟩ (.cons ru .nil),⟨_,Heap.get?_push_size _ rfl,rfl,_,rfl⟩⟩
  have fk:∀{b:Addr},b<s.heap.objs.size->eA X pins H b->eA X pins (upd H s.heap.objs.size (.tup [.int (i:Int),x])) b:=fun{b} lt f=>⟨by rw[az (Nat.ne_of_lt lt)];exact f.1,f.2⟩
  have fe:=fk le (hf e (by simp))
  have fi:=fk li (hf it (by simp))
  have I2:Inv X pins σ (upd H s.heap.objs.size (.tup [.int (i:Int),x])) { s with heap:=h2,toks:=s.toks+1 }:=by
   refine m8 (s:={ s with heap:=s.heap.push { cls:=.type "tuple",data:=.seq #[.int (i:Int) s.toks,u] },toks:=s.toks }) I1 (fun b o ne ni q=>?_) fe fi
   have q:(s.heap.push { cls:=.type "tuple",data:=.seq #[.int (i:Int) s.toks,u] }).get? b=some o:=q
   refine(hs2.2 b ne).trans ?_
   rcases Heap.get?_push_cases q with⟨rfl,rfl⟩|q
   ·exact hT
   ·exact hk b o ne ni q
  refine⟨.ref s.heap.objs.size,_,I2,rfl,⟨_,x,rfl,fr,rfl,fun ys hy=>by rw[I.my hy hq];exact hx⟩,⟨⟨u,?_⟩,hit1.at fun o z=>(hs2.2 it hei.symm).trans z⟩,fun b hb=>?_⟩
  ·have:(((i+1:Nat):Int))=(i:Int)+1:=by omega
   rw[this];exact he2
  ·rcases(show b=e\/b=it by simpa using hb)with rfl|rfl
   ·exact fe.1
   ·exact fi.1
 done:=by
  intro X hP hw hK hc i pins s σ H E I hf st hg
  subst hP hw hK
  obtain⟨xs,hq,hx⟩:=hg
  obtain⟨its,rv,p,hz⟩:=I.list hq
  obtain⟨⟨old,he⟩,hit⟩:=st
  obtain⟨f0,f1,f2,f3,f4,f5⟩:=hf it (by simp)
  have hl:=rv.length
  exact wpAny_pyNext_enum_end (I.ok.hd hc) he hit p.isList (by simp;omega) fun h' eb=>⟨rfl,I.turned (t':=s.toks) (fun b o hb q=>eb b o hb q) f0 f1 f3 f4 f5⟩
 self:=fun _ _ _ _ _ st h=>let⟨⟨_,he⟩,_⟩:=st;wpAny_pyIter_enum he h
theorem lr:bootBuiltins "enumerate"=some (.type "enumerate"):=by decide +kernel
section
variable{X:Cx}{elts:List Expr}{kt:Nat}{pt:Pos}
def zc(K:PySem.W.Frag)(ta:TA):TI:=fun σ H R=>ta σ H fun vs H1=>∃a xs,vs=[.ref a]/\H1 a=some (.lst xs)/\R (Ite K a) H1
theorem sU{a:Expr}{ta:TA}{p pos:Pos}(hg:Gl X "enumerate")(hm:X.mg "enumerate"=none)(ha:PA X [a] ta)(hs:starEach [a] X.env=[(false,eval a X.env)]:=by rfl):PI X (.Tuple elts kt pt) (.Call (.Name "enumerate" p) [a] [] pos) (zc X.K ta):=by
 intro pins s σ H R I h;refine Call_ (jb I hg hm lr (PyProof.Rows.callWith_type1 (thn (ha pos pins s σ H _ I h) fun us s1 zz67_0=>?_) hs rfl));obtain⟨vs,H1,I1,r1,q1⟩:=zz67_0;obtain⟨l,xs,ev,hH,q⟩:=q1;subst ev;obtain⟨u,rfl,ru⟩:=r1.one;cases ru;obtain⟨z,its,n,r,hl,e⟩:=I1.pT hH;refine call_enumerate_1 e fun h' he hit hsz hk=>wpAny_pyIter_enum he ?_
 have fp:∀b∈[s1.heap.objs.size+1,s1.heap.objs.size],eA X pins H1 b:=fun b hb=>by
  have hb':s1.heap.objs.size<=b:=by
   rcases(show b=s1.heap.objs.size+1\/b=s1.heap.objs.size by simpa using hb)with rfl|rfl
   ·exact Nat.le_succ _
   ·exact Nat.le_refl _
  exact I1.uB hb' (I1.hok.fresh hb')
 exact⟨_,[s1.heap.objs.size+1,s1.heap.objs.size],_,_,H1,rfl,I1.kept (t':=s1.toks) hk,p9 l _ _ (Nat.succ_ne_self _),⟨⟨_,he⟩,hit⟩,fp,q⟩
def yh(ta:TAD):TID:=fun δ M R=>ta δ M fun ds M1=>∃l es,ds=[.ref l]/\M1 l=some (.lst es)/\R ⟨es.length,fun i=>(es[i]?).map fun d=>.tup [.int (i:Int),d],fun M=>M l=some (.lst es)⟩ M1
theorem kj{a:Expr}{ta:TAD}{p pos:Pos}(hg:Gl X "enumerate")(hm:X.mg "enumerate"=none)(ha:DA X [a] ta)(hs:starEach [a] X.env=[(false,eval a X.env)]:=by rfl):DI X (.Tuple elts kt pt) (.Call (.Name "enumerate" p) [a] [] pos) (yh ta):=
 m5 (sU hg hm ha hs) fun σ H R ⟨δ,M,RD,hs,hM,q,fin⟩=>⟨δ,M,_,hs,hM,q,fun ds M1 vs H1 g1 r1 a1 z9=>by
  obtain⟨l,es,e,hl,q1⟩:=z9
  subst e
  obtain⟨v,rfl,r⟩:=bU r1
  rw[Rep]at r;subst r
  obtain⟨xs,hx,rs⟩:=a1 _ _ hl
  refine⟨l,xs,rfl,hx,fin _ M1 H1 _ g1 a1 q1 ⟨fun H2 M2 g2 a2 c2=>?_,fun i H2 M2 hi g2 a2 c2=>?_,?_⟩⟩
  ·obtain⟨ys,hy,ry⟩:=a2 _ _ (show M2 l=some (.lst es)from c2)
   exact⟨ys,SqL.of hy,by rw[<-ry.length];exact Nat.le_refl _⟩
  ·obtain⟨ys,hy,ry⟩:=a2 _ _ (show M2 l=some (.lst es)from c2)
   have hi':i<ys.length:=by rw[<-ry.length];exact hi
   exact⟨ys,ys[i],SqL.of hy,by simp[hi']⟩
  ·rintro i H2 M2 v H3 hi g2 a2 c2 ⟨T,y,rfl,hT,rfl,hy⟩
   have hi:i<es.length:=hi
   obtain⟨ys,hys,ry⟩:=a2 _ _ (show M2 l=some (.lst es)from c2)
   obtain⟨x,e1,e2⟩:=ry.get (show es[i]?=some es[i] by simp[hi])
   have:=hy ys (SqL.of hys)
   rw[e1]at this;cases this
   exact⟨.new hT,a2.new hT,.tup [.int (i:Int),es[i]],by simp[hi],by rw[Rep];exact⟨T,_,rfl,SqT.of aB,.cons (by rw[Rep]) (.cons (e2.mono (.new hT)) .nil)⟩⟩⟩
end
section
variable{X:Cx}
theorem mM{x:Str}{i:Int}{pos:Pos}(hg:Gl X x)(hm:∃t,X.mg x=some (.int i t))(hd:(x==("__debug__":Str))=false:=by decide):DE X (.Name x pos) (tCD (.int i)):=by obtain⟨t,hm⟩:=hm;exact dc (oG (v:=.int i) hg hm ⟨t,rfl⟩ hd) fun _=>by rw[Rep]
theorem yX{K:PySem.W.Frag}{mg:Str->Option Value}{h:Heap}{x:Str}{i:Int}{t:Tok}(X:K.In h)(G:h.Ns mainGlobals mg)(a:PySem.W.nsIn K mainGlobals x=some (some (.int i t))):∃t,mg x=some (.int i t):=⟨t,PySem.W.mg_of X G a⟩
variable{o:Expr}{to:TD}{apos cpos:Pos}
end
open PySem PySem.W PySem.Spec PySem.Calls PyProof.Rows Builtin Builtin.ObjectAttr Builtin.Getset_descriptor
section
variable{prog:Program}{w:World}{A:Around}{E:Value->Shared->Prop}{h:Heap}{g:Array GenState}{d:Drawn}{t:Nat}{os:OsState}{K:Frag}{a C:Addr}{o:Obj}
structure ErrC(K:Frag)(C:Addr):Prop where
 ga:findIn K (.ref C) "__getattribute__"=some (some (.builtin "BaseException.__getattribute__"))
 gt:findIn K (.ref C) "__getattr__"=some none
 cl:findIn K (.ref C) "__class__"=some (some (.builtin "object.__class__"))
 sub:subIn K (.ref C) (.type "BaseException")=some true
 mro:mroIn K C (.type "object")=some true
theorem cQ{M:Model}(hx:h.get? a=some o)(hc:o.cls=.ref C):Looks M h (typeOf (.ref a)) (.ref C):=hc▸(Looks.ld hx).andThen .now
theorem jy{R:Result->Shared->Prop}{tp:Value}(X:K.In h)(Z:ErrC K C)(hx:h.get? a=some o)(hc:o.cls=.ref C)(hq:R (.ok (.ret (.ref C))) ⟨h,g,d,t,os⟩) :
 codeAny (model prog w) A (.call (.builtin "getset_descriptor.__get__") ⟨[.builtin "object.__class__",.ref a,tp],[]⟩) R ⟨h,g,d,t,os⟩:=by
 have L0:=cQ (M:=model prog w) hx hc
 have L1:=looks_mroIn (M:=model prog w) X Z.mro
 refine codeAny_call_builtin KF.slot_gs.plain KF.entry_gs (KF.slot_gs.check _ _ _ _ _ _ _ _ KF.type_class (KF.args_gs _ _ tp) ?_)
 unfold Builtin.«getset_descriptor.__get__» descrGet;rw[dga_obj];refine wpAny_bind (wpAny_pure ?_);unfold descrGetter descrCheckInstance;unfold descrNameAndClass isInstance
 simp only[KF.owner_class]
 repeat lk
 refine And.intro (Code.quiet_builtin _ (by decide +kernel)) (codeAny_builtin KF.entry_class ?_);unfold Builtin.«object.__class__» shownTypeOf;(repeat lk)
 exact hq
theorem qp{tk:Tok}{Q:PySem.Fin->Shared->Prop}(X:K.In h)(Z:ErrC K C)(hx:h.get? a=some o)(hc:o.cls=.ref C)(hq:Q (.done (.ret (.ref C))) ⟨h,g,d,t,os⟩) :
 wpAny (model prog w) A (Builtin.«object.__getattribute__» ⟨[.ref a,.str "__class__" tk],[]⟩) Q E ⟨h,g,d,t,os⟩:=by
 have L0:=cQ (M:=model prog w) (a:=a) hx hc
 have L3:=looks_findIn (M:=model prog w) X Z.cl
 have hT5:(⟨h,g,d,t,os⟩:Shared).TypeIs (.builtin "object.__class__") "getset_descriptor":=KF.type_class
 have f5:=KF.type_class
 have gsGet:=F.slot_gs_get.lookup;have gsSet:=F.slot_gs_set.lookup
 repeat (any_goals (first|assumption|with_reducible refine Looks.at L0 ?_|with_reducible refine Looks.at L3 ?_|wp_step))
 refine jy X Z hx hc ?_
 repeat (any_goals (first|wp_step|assumption))
theorem jP{M:Model}{nameV:Value}{Q:Unit->Shared->Prop}(X:K.In h)(Z:ErrC K C)(hx:h.get? a=some o)(hc:o.cls=.ref C)(hq:Q () ⟨h,g,d,t,os⟩):wpAny M A (checkBuiltinCall "BaseException.__getattribute__" ⟨[.ref a,nameV],[]⟩) Q E ⟨h,g,d,t,os⟩:=by
 have kd:builtinKind "BaseException.__getattribute__"=some .slot:=by decide +kernel
 have sp:splitId "BaseException.__getattribute__"=some ("BaseException","__getattribute__"):=by decide +kernel
 have okArgs:=F.args_bexc_ga (.ref a) nameV;have L0:=cQ (M:=M) hx hc;have L1:=looks_subIn (M:=M) X Z.sub;have LI:Looks M h (isInstance (.ref a) (.type "BaseException")) true:=L0.andThen L1;simp only[checkBuiltinCall,kd,sp];refine wpAny_bind (LI.at ?_)
 repeat (first|assumption|wp_step)
theorem qL{tk:Tok}{R:Result->Shared->Prop}(sl:Slot "ValueError" "__getattribute__" "BaseException.__getattribute__")(X:K.In h)(Z:ErrC K C)(hx:h.get? a=some o)(hc:o.cls=.ref C)(hq:R (.ok (.ret (.ref C))) ⟨h,g,d,t,os⟩) : codeAny (model prog w) A (.call (.builtin "BaseException.__getattribute__") ⟨[.ref a,.str "__class__" tk],[]⟩) R ⟨h,g,d,t,os⟩:=codeAny_call_builtin sl.plain F.entry_bexc_ga (jP X Z hx hc (qp X Z hx hc hq))
theorem qA{Q:Option Value->Shared->Prop}(sl:Slot "ValueError" "__getattribute__" "BaseException.__getattribute__")(X:K.In h)(Z:ErrC K C)(hx:h.get? a=some o)(hc:o.cls=.ref C)(hq:Q (some (.ref C)) ⟨h,g,d,t+1,os⟩):wpAny (model prog w) A (getAttr? (.ref a) "__class__") Q E ⟨h,g,d,t,os⟩:=by
 have L0:=cQ (M:=model prog w) hx hc;have L1:=looks_findIn (M:=model prog w) X Z.ga;have L2:=looks_findIn (M:=model prog w) X Z.gt;have f3:=sl.bind (.ref a);have hx0:(false&&onTheHeap (Value.builtin "BaseException.__getattribute__"))=false:=rfl;have ne2:(Value.builtin "BaseException.__getattribute__"==Value.builtin "object.__getattribute__")=false:=by decide +kernel
 have ne1:(onTheHeap (Value.ref C)&&Value.builtin "BaseException.__getattribute__"==Value.builtin "object.__getattribute__")=false:=by rw[ne2];rfl
 unfold getAttr? getAttrBy?
 repeat (any_goals (first|assumption|with_reducible refine Looks.at L0 ?_|with_reducible refine Looks.at L1 ?_|with_reducible refine Looks.at L2 ?_|wp_step))
 refine qL sl X Z hx hc ?_
 repeat (any_goals (first|wp_step|assumption))
theorem tU(sl:Slot "ValueError" "__getattribute__" "BaseException.__getattribute__")(Z:ErrC K C)(hcls:(clsIn K C).isSome=true):KitX K (.ref a) (.ref C) (fun h=>∃o,h.get? a=some o/\o.cls=.ref C) where
 ty:=fun M h X ⟨o,hx,hc⟩=>cQ hx hc
 it:=fun M h X _=>by
  unfold clsIn at hcls
  split at hcls
  ·rename_i c' d' cd' sl' ho
   intro A' Q' E' s' k q
   unfold isType loadHead
   refine wpAny_bind ?_;exact wpAny_loadPart (k _ _ (X _ _ ho)) (wpAny_pure q)
  ·cases hcls
 ne:=fun h tp dd its n sl X ht=>by
  unfold clsIn at hcls
  split at hcls
  ·rename_i c' d' cd' sl' ho
   refine Bool.eq_false_iff.mpr fun q=>?_;have e:C=tp:=Value.ref.inj (beq_iff_eq.mp q)
   subst e
   have:=X _ _ ho
   rw[ht]at this
   cases this
  ·cases hcls
 ca:=fun{prog w A E Q s} X zz69_0 hq=>by
  obtain⟨o,hx,hc⟩:=zz69_0
  obtain⟨hh,g,d,t,os⟩:=s
  exact qA sl X Z hx hc hq
end
def gT(h:Heap):List Addr->Heap
 |[]=>h
 |a::l=>(gT h l).hide a
theorem dF{h:Heap}{b:Addr}:∀{l:List Addr},b∉l->(gT h l).get? b=h.get? b
 |[],_=>rfl
 |a::l,n=>by
  unfold gT
  rw[Heap.hide_ne _ (fun e=>n (by rw[e];exact List.mem_cons_self))]
  exact dF fun z=>n (List.mem_cons_of_mem _ z)
theorem eE{h:Heap}{b:Addr}:∀{l:List Addr},b∈l->(gT h l).get? b=none
 |a::l,m=>by
  unfold gT
  by_cases e:b=a
  ·subst e;exact Heap.hide_self _ _
  ·rw[Heap.hide_ne _ e]
   exact eE ((List.mem_cons.mp m).resolve_left e)
theorem nQ{h:Heap}{b:Addr}{o:Obj}{l:List Addr}(e:(gT h l).get? b=some o):b∉l/\h.get? b=some o:=by
 by_cases m:b∈l
 ·rw[eE m]at e;cases e
 ·rw[dF m]at e;exact⟨m,e⟩
theorem gc{env:Env}{l:List Env}{L:Addr}(h:env.frame=some L):frs (env::l)=L::frs l:=by unfold frs;rw[List.filterMap_cons,h]
theorem mB{h base base':Heap}:∀{l:List Env},h.FunFrames base l->(∀b∈frs l,base'.get? b=none)->h.FunFrames base' l
 |[],_,_=>trivial
 |env::r,⟨hk,⟨L,o,hf,hn,ho,hd⟩,hr⟩,n=>⟨hk,⟨L,o,hf,n L (by rw[gc hf];exact List.mem_cons_self),ho,hd⟩,mB hr fun b hb=>n b (by rw[gc hf];exact List.mem_cons_of_mem _ hb)⟩
theorem ic{h base:Heap}:∀{l:List Env} {b:Addr},h.FunFrames base l->b∈frs l->∃o,h.get? b=some o/\∀vs:Array Value,o.data≠.fields vs
 |[],_,_,m=>by unfold frs at m;simp at m
 |env::r,b,⟨hk,⟨L,o,hf,hn,ho,hd⟩,hr⟩,m=>by
  rw[gc hf]at m
  rcases List.mem_cons.mp m with e|m
  ·exact⟨o,by rw[e];exact ho,hd⟩
  ·exact ic hr m
theorem ug{P:Program}{w:World}{H:Hp}{h:Heap}{a:Addr}{o:HO}(x:bT P w H h a o):∃u,h.get? a=some u:=by
 cases o with
 |lst xs=>obtain⟨_,_,_,_,e⟩:=x;exact⟨_,e⟩
 |tup xs=>obtain⟨_,_,_,⟨_,e,_⟩⟩:=x;exact⟨_,e⟩
 |dK kvs=>obtain⟨_,_,_,_,o,_,_,e,_⟩:=x;exact⟨_,e⟩
 |dT kvs=>obtain⟨_,_,_,_,o,_,_,e,_⟩:=x;exact⟨_,e⟩
 |set S n=>obtain⟨o,_,_,_,e,_⟩:=x;exact⟨_,e⟩
 |ins C dx fs=>obtain⟨_,_,_,e,_⟩:=x;exact⟨_,e⟩
 |own y=>obtain⟨_,e⟩:=x;exact⟨_,e⟩
 |xd fs=>obtain⟨_,⟨_,_,_,e,_⟩,_⟩:=x;exact⟨_,e⟩
 |rng lo hi=>obtain⟨_,_,_,e⟩:=x;exact⟨_,e⟩
 |frz ob u=>obtain⟨e,_⟩:=x;exact⟨_,e⟩
 |tbl ps=>exact⟨_,(show h.get? a=some _ from x)⟩
 |met f y=>exact⟨_,(show h.get? a=some _ from x)⟩
 |ext φ=>obtain⟨_,e,_⟩:=x;exact e
structure Fly(P:Program)(w:World)(outer:List Env)(H H':Hp)(s s':Shared)(a C:Addr):Prop where
 os:s'.os=s.os
 bare:AllBare s'.gens
 bs:∃(b:Heap) (a0:Value),b.FlyingW outer a (.ref C) a0 s'.heap/\HOk P w H' b/\
  (∀x o,s.heap.get? x=some o->H x=none->x∉frs outer->b.get? x=some o)/\(∀x o,s.heap.get? x=some o->x∉frs outer->∃o',b.get? x=some o')
 slot:∀x o,s.heap.get? x=some o->H x=none->x∈frs outer->∃sl,s'.heap.get? x=some { o with slots:=sl }
 free:∀x o,s.heap.get? x=some o->H x=none->H' x=none
 tups:∀b xs,H b=some (.tup xs)->H' b=some (.tup xs)
 frzs:∀b o u,H b=some (.frz o u)->H' b=some (.frz o u)
 tbls:∀b ps,H b=some (.tbl ps)->∃more,H' b=some (.tbl (ps++more))
section
variable{P:Program}{w:World}{outer:List Env}{H H':Hp}{s s':Shared}{a C:Addr}
theorem Fly.un(F:Fly P w outer H H' s s' a C)(hf:∀x∈frs outer,H x=none):Un (frs outer) [] H H' s.heap s'.heap:=by
 obtain⟨b,a0,fl,hok,kp,th⟩:=F.bs;refine⟨fun x o e n nf _=>fl.1 x o (kp x o e n nf),fun x o e n m _=>F.slot x o e n m,fun x o e n _=>F.free x o e n,fun x o e _=>?_,F.tups,F.frzs,F.tbls⟩;by_cases m:x∈frs outer
 ·obtain⟨sl,q⟩:=F.slot x o e (hf x m) m;exact⟨_,q⟩
 ·obtain⟨o',q⟩:=th x o e m;exact⟨o',fl.1 x o' q⟩
theorem Fly.hok(F:Fly P w outer H H' s s' a C):HOk P w H' s'.heap:=by obtain⟨b,a0,fl,hok,_,_⟩:=F.bs;exact hok.kept fl.1
theorem Fly.new(F:Fly P w outer H H' s s' a C):H' a=none:=by
 obtain⟨b,a0,fl,hok,_,_⟩:=F.bs;cases e:H' a with
 |none=>rfl
 |some o=>
  obtain⟨u,q⟩:=ug (hok a o e)
  rw[fl.2.1]at q;cases q
theorem Fly.apart(F:Fly P w outer H H' s s' a C){x:Addr}{o:Obj}(e:s.heap.get? x=some o)(n:H x=none):x≠a:=by
 rintro rfl;obtain⟨b,a0,fl,hok,kp,_⟩:=F.bs;by_cases m:x∈frs outer
 ·obtain⟨o',e',d⟩:=ic fl.2.2.1 m;obtain⟨oe,vs,T,oT,ts,h1,_,h2,_⟩:=fl.2.2.2;rw[h1]at e';cases e';exact d vs h2
 ·have:=kp x o e n m;rw[fl.2.1]at this;cases this
end
theorem t4{K:PySem.W.Frag}{fs ex:List Addr}{H H':Hp}{h h':Heap}(u:Un fs ex H H' h h'):Grow K H H':=by
 refine⟨fun a xs q=>?_,fun a xs q=>?_⟩
 ·rcases q with(q|⟨o,q⟩)|q
  ·exact .inl (.inl (u.tups _ _ q))
  ·exact .inl (.inr ⟨o,u.frzs _ _ _ q⟩)
  ·exact .inr q
 ·rcases q with⟨o,q⟩|q
  ·exact .inl ⟨o,u.frzs _ _ _ q⟩
  ·exact .inr q
def CXE(P:Program)(w:World):CXT:=fun outer H s E e s'=>∃a C H',e=.ref a/\Fly P w outer H H' s s' a C/\E (.ref C) none H'
section
variable{P:Program}{w:World}{K:PySem.W.Frag}{mg:Str->Option Value}{base:Heap}{N:List Str}{qual:Str}{scope:Scope}{f:Addr}{cd:Value}{A:Around}{outer:List Env}{s:Shared}{H:Hp}{E:XK}
theorem uK{pins:List (Addr×Obj)}{σ:L2.St}{H1:Hp}{s1:Shared}(I:Inv (aU (CXE P w) P w K mg base N qual scope f cd A outer s H E) pins σ H1 s1){x:Addr}{o:Obj}(e:s.heap.get? x=some o)(n:x∉frs outer):x∉frs (aU (CXE P w) P w K mg base N qual scope f cd A outer s H E).stack:=by
 show x∉frs ((aU (CXE P w) P w K mg base N qual scope f cd A outer s H E).env::outer);rw[gc (L:=(aU (CXE P w) P w K mg base N qual scope f cd A outer s H E).env.locals) rfl];intro m;rcases List.mem_cons.mp m with z|z
 ·have h1:s.heap.objs.size<=(aU (CXE P w) P w K mg base N qual scope f cd A outer s H E).env.locals:=I.ok.above;have h2:=Heap.lt_size e;rw[z]at h2;exact absurd (Nat.lt_of_lt_of_le h2 h1) (Nat.lt_irrefl _)
 ·exact n z
end
abbrev veM:List Value:=[Value.type "ValueError",Value.type "Exception",Value.type "BaseException",Value.type "object"]
structure ClsE(K:PySem.W.Frag)(x:Str)(C:Addr):Prop where
 nm:PySem.W.nsIn K mainGlobals x=some (some (.ref C))
 ex:PySem.W.excIn K C veM "ValueError.__new__"=true
section
variable{P:Program}{w:World}{K:PySem.W.Frag}{mg:Str->Option Value}{base:Heap}{N:List Str}{qual:Str}{scope:Scope}{f:Addr}{cd:Value}{A:Around}{outer:List Env}{s:Shared}{H:Hp}{E:XK}
end
section
variable{P:Program}{w:World}{K:PySem.W.Frag}{mg:Str->Option Value}{base:Heap}
end
abbrev hold(X:Cx)(a:Addr):Cx:={ X with A:=X.A.mark (some (.ref a)),calm:=false }
section
variable{X:Cx}{pins:List (Addr×Obj)}{σ:L2.St}{H:Hp}{s:Shared}{a:Addr}
theorem l9(I:Inv X pins σ H s):Inv (hold X a) pins σ H s:=⟨⟨I.ok.mod,I.ok.kind,I.ok.glob,I.ok.blt,I.ok.above,I.ok.inj,I.ok.has,I.ok.cab,(fun z=>Bool.noConfusion z),I.ok.frames,I.ok.stk,I.ok.exf,I.ok.bs,I.ok.bsz,I.ok.noex,I.ok.exfs,I.ok.gm,I.ok.frf⟩,I.os,I.bare,I.base,I.loc,I.cell,I.free,I.freeC,I.pin,I.hok,I.len⟩
theorem dN(ok:X.Ok)(I:Inv (hold X a) pins σ H s):Inv X pins σ H s:=⟨ok,I.os,I.bare,I.base,I.loc,I.cell,I.free,I.freeC,I.pin,I.hok,I.len⟩
theorem e7{M:Model}{A:Around}{E:Value->Shared->Prop}{j:Nat}{n:Str}{pos:Pos}{Q:Unit->Shared->Prop}(I:Inv X pins σ H s)(hN:X.N.Nodup)(hj:X.N[j]?=some n)(hk:X.env.scope.names.lookup n=some .local)
 (h:∀s',Inv X pins (σ.set j none) H s'->Q () s'):wpAny M A (do bindName X.env n Value.none;unbindBehindTheSuite X.env n pos) Q E s:=by
 obtain⟨m,hn,hl⟩:=id I.loc
 have hcls:(X.env.scope.kind==.class||(X.env.scope.kind==.module&&X.env.locals != X.env.globals))=false:=by rw[I.ok.kind];rfl
 have hjσ:j<σ.length:=by rw[I.len];exact(List.getElem?_eq_some_iff.mp hj).1
 have cne:=I.cne
 obtain⟨oL,_,_,hoL,_⟩:=id hn
 refine wpAny_nameGoes_keeps hk hn hcls fun h' v hn' hs=>?_
 refine h { s with heap:=h',toks:=s.toks+1 } ⟨I.ok,I.os,I.bare,⟨fun b o e n hb hx=>?_,fun b o e n hb hx=>?_,I.base.free,fun b o e hx=>?_,I.base.tups,I.base.frzs,I.base.tbls⟩,⟨_,hn',fun i y v' e1 e2 e3=>?_⟩,fun y c e=>?_,I.free,I.freeC,fun p hp=>?_,fun b ob e=>?_,by simpa using I.len⟩
 ·exact(hs.2 b (Nat.ne_of_lt (Nat.lt_of_lt_of_le (Heap.lt_size e) I.ok.above))).trans (I.base.keep b o e n hb hx)
 ·obtain⟨sl,e1⟩:=I.base.slot b o e n hb hx
  exact⟨sl,(hs.2 b (Nat.ne_of_lt (Nat.lt_of_lt_of_le (Heap.lt_size e) I.ok.above))).trans e1⟩
 ·obtain⟨o',e1⟩:=I.base.there b o e hx
  exact⟨o',(hs.2 b (Nat.ne_of_lt (Nat.lt_of_lt_of_le (Heap.lt_size e) I.ok.above))).trans e1⟩
 ·by_cases hij:i=j
  ·subst hij
   rw[List.getElem?_set_self hjσ]at e2
   cases e2
  ·rw[List.getElem?_set_ne (Ne.symm hij)]at e2
   obtain⟨u',r',q⟩:=hl i y v' e1 e2 e3
   refine⟨u',r',?_⟩
   rcases q with⟨k,e⟩|⟨k,c,e,z⟩
   ·refine .inl ⟨k,?_⟩
    have:y≠n:=fun e=>hij (iG hN e1 (e▸hj))
    simp[this,e]
   ·exact .inr ⟨k,c,e,z.sameBut hs (cne y c e)⟩
 ·obtain⟨w',z⟩:=I.cell y c e
  exact⟨w',z.sameBut hs (cne y c e)⟩
 ·obtain⟨e,n,ne,nf,d⟩:=I.pin p hp
  exact⟨(hs.2 p.1 ne).trans e,n,ne,nf,d⟩
 ·refine(I.hok b ob e).f6 (fun c w' hc q=>(hs.2 c ?_).trans q) (fun _ q=>q) fun _ _ q=>q
  rintro rfl
  rcases hc with rfl|hc
  ·rw[I.free]at e;cases e
  ·rw[I.free]at hc;cases hc
end
theorem md{M:Model}{A:Around}{E:Value->Shared->Prop}{K:PySem.W.Frag}{s:Shared}{a C S:Addr}{o:Obj}{Q:Bool->Shared->Prop}(X:K.In s.heap)(ho:s.heap.get? a=some o)(hc:o.cls=.ref C) (hS:PySem.W.excIn K S veM "ValueError.__new__"=true) (hB:PySem.W.subIn K (.ref S) (.type "BaseException")=some true) {b:Bool} (hs:PySem.W.subIn K (.ref C) (.ref S)=some b) (q:Q b s):wpAny M A (excMatches (.ref a) (.ref S)) Q E s:=by
 unfold PySem.W.excIn at hS;split at hS
 ·rename_i dct cd sl hl;have gS:s.heap.get? S=some _:=X _ _ hl
  have L0:PySem.W.Looks M s.heap (isInstance (.ref S) (.type "tuple")) false:=by
   have t0:PySem.W.Looks M s.heap (typeOf (.ref S)) (.type "type"):=(PySem.W.Looks.ld gS).andThen .now
   exact t0.andThen (PySem.W.looks_subIn X (show Option.map _ (fastBuiltinMro "type")=_ by decide +kernel))
  have L1:PySem.W.Looks M s.heap (isType (.ref S)) true:=by intro A' Q' E' s' k q;unfold isType loadHead;refine wpAny_bind ?_;exact wpAny_loadPart (k _ _ gS) (wpAny_pure q)
  have L2:=PySem.W.looks_subIn (M:=M) X hB;have L3:PySem.W.Looks M s.heap (typeOf (.ref a)) (.ref C):=hc▸(PySem.W.Looks.ld ho).andThen .now;have L4:=PySem.W.looks_subIn (M:=M) X hs;have kk:∀(b:Addr) (o:Obj),s.heap.get? b=some o->s.heap.get? b=some o:=fun _ _ z=>z;unfold excMatches isExcClass;refine wpAny_bind (L0 _ _ _ _ kk ?_);simp only[Bool.false_eq_true,if_false,List.forIn_cons,List.forIn_nil,pure_bind,bind_assoc,Bool.not_true];refine wpAny_bind (L1 _ _ _ _ kk ?_);simp only[if_true];refine wpAny_bind (L2 _ _ _ _ kk ?_);simp only[Bool.not_true,Bool.false_eq_true,if_false,pure_bind,bind_assoc];refine wpAny_bind (L3 _ _ _ _ kk ?_);refine wpAny_bind (L4 _ _ _ _ kk ?_);cases b
  ·simp only[Bool.false_eq_true,if_false,pure_bind,bind_assoc];exact wpAny_pure q
  ·simp only[if_true,pure_bind,bind_assoc];exact wpAny_pure q
 ·cases hS
abbrev TR:=L2.St->Hp->(Hp->XK)->Prop
section
variable{Y:Cx}{k:Nat}{f:Addr}{fd:FuncData}{ps:List Str}{sp:Sp}{x:Str}{p pos:Pos}{e:Expr}{es:List Expr}{t:TA}
end
def gone(j:Nat)(D:Ends):Ends:={ nx:=fun σ H=>D.nx (σ.set j none) H,rt:=D.rt,bk:=fun σ H=>D.bk (σ.set j none) H,ct:=fun σ H=>D.ct (σ.set j none) H }
theorem Slots.gone{K:PySem.W.Frag}{H:Hp}{δ:DS}{σ:L2.St}(h:Slots K H δ σ)(j:Nat):Slots K H (δ.set j none) (σ.set j none):=by
 refine⟨by simp[h.len],fun i d q=>?_⟩;rw[List.getElem?_set]at q;by_cases hij:j=i
 ·rw[if_pos hij]at q;split at q<;>cases q
 ·rw[if_neg hij]at q;obtain⟨v',e1,e2⟩:=h.at' i d q;exact⟨v',by rw[List.getElem?_set,if_neg hij];exact e1,e2⟩
def vb(j:Nat)(B:EndsD):EndsD:={ nx:=fun δ M=>B.nx (δ.set j none) M,rt:=B.rt,bk:=fun δ M=>B.bk (δ.set j none) M,ct:=fun δ M=>B.ct (δ.set j none) M }
section
variable{Y:Cx}
end
open PySem.Sem (wp)
def gv(h h':Heap):Prop:=∀a o,h.get? a=some o->∃o',h'.get? a=some o'/\o'.dict=o.dict
theorem gv.refl{h:Heap}:gv h h:=fun _ o e=>⟨o,e,rfl⟩
theorem gv.trans{h h1 h2:Heap}(a:gv h h1)(b:gv h1 h2):gv h h2:=fun x o e=>let⟨o1,e1,d1⟩:=a x o e;let⟨o2,e2,d2⟩:=b x o1 e1;⟨o2,e2,d2.trans d1⟩
def KpD{α:Type}(t:Sem α):Prop:=∀(M:Model) (Γ:PySem.Ctx) (Q:α->Pos->Shared->Prop) (E:Value->Pos->Shared->Prop) (p:Pos) (s:Shared),
 wp M Γ t Q E p s->wp M Γ t (fun a p' s'=>Q a p' s'/\gv s.heap s'.heap) (fun _ _ _=>False) p s
section
variable{α β:Type}
theorem KpD.pure{a:α}:KpD (Pure.pure a:Sem α):=fun M Γ Q E p s h=>⟨h,.refl⟩
theorem KpD.uns{w:String}:KpD (unsupported w:Sem α):=fun M Γ Q E p s h=>(show False from h).elim
theorem KpD.bind{t:Sem α}{f:α->Sem β}(h1:KpD t)(h2:∀a,KpD (f a)):KpD (t >>= f):=fun M Γ Q E p s h=>by rw[Sem.wp_bind']at h ⊢;refine Sem.wp_mono M Γ t (fun a p1 s1 zz77_0=>?_) (fun _ _ _ z=>z) p s (h1 M Γ _ E p s h);obtain⟨q,k⟩:=zz77_0;exact Sem.wp_mono M Γ (f a) (fun b p2 s2 zz78_0=>by obtain⟨q2,k2⟩:=zz78_0;exact(⟨q2,k.trans k2⟩)) (fun _ _ _ z=>z) p1 s1 (h2 a M Γ Q E p1 s1 q)
theorem KpD.load{a:Addr}:KpD (PySem.load a):=fun M Γ Q E p s h=>by obtain⟨o,e,q⟩:=(show ∃o,s.heap.get? a=some o/\Q o p s from h);exact⟨o,e,q,.refl⟩
theorem KpD.stack:KpD PySem.stack:=fun M Γ Q E p s h=>⟨h,.refl⟩
theorem uJ{h:Heap}{a b:Addr}{f:Obj->Obj}{o:Obj}(hf:∀o,(f o).dict=o.dict/\(f o).isFreed=o.isFreed)(e:h.get? b=some o):∃o',(h.update a f).get? b=some o'/\o'.dict=o.dict:=by
 by_cases z:a=b
 ·subst z;exact⟨f o,Heap.get?_update_self f e ((hf o).2.trans (Heap.get?_some_iff.mp e).2),(hf o).1⟩
 ·exact⟨o,(Heap.get?_update_other h f z).trans e,rfl⟩
theorem KpD.update{a:Addr}{f:Obj->Obj}(hf:∀o,(f o).dict=o.dict/\(f o).isFreed=o.isFreed):KpD (PySem.update a f):=fun M Γ Q E p s h=>
 have h':(s.heap.get? a).isSome/\Q () p { s with heap:=s.heap.update a f }:=h
 show(s.heap.get? a).isSome/\_ from⟨h'.1,h'.2,fun b o e=>uJ hf e⟩
theorem KpD.alloc{o:Obj}:KpD (PySem.alloc o):=fun M Γ Q E p s h=>⟨h,fun a u e=>⟨u,Heap.get?_push_of_some _ e,rfl⟩⟩
theorem KpD.ite{c:Prop}[Decidable c]{t u:Sem α}(h1:KpD t)(h2:KpD u):KpD (if c then t else u):=by
 split
 ·exact h1
 ·exact h2
end
theorem qd(g:Array Value->Array Value)(o:Obj):(o.mapFields g).dict=o.dict/\(o.mapFields g).isFreed=o.isFreed:=by obtain⟨c,d,dt,sl⟩:=o;cases dt<;>exact⟨rfl,rfl⟩
theorem qr{v:Value}:KpD (fieldsOf v):=by
 unfold fieldsOf;cases v<;>first|exact .uns|skip
 refine .bind .load fun o=>?_;cases o.data<;>first|exact .uns|exact .pure
theorem gq{v:Value}{i:Nat}:KpD (field v i):=by unfold field;refine .bind qr fun vs=>?_;cases vs[i]?<;>first|exact .uns|exact .pure
theorem eF{v x:Value}{i:Nat}:KpD (setField v i x):=by
 unfold setField;cases v<;>first|exact .uns|skip
 unfold updateField;refine .bind .load fun o=>?_;cases o.data<;>first|exact .uns|skip
 exact .ite (.update fun o=>qd _ o) .uns
theorem dY{e:Value}{f:Option Addr}:KpD (setFlight e f):=by unfold setFlight;refine .bind gq fun tb=>?_;exact .ite eF .pure
theorem qX:KpD underTheClaimsCaller:=by unfold underTheClaimsCaller;exact .bind .stack fun _=>.pure
theorem lZ{env:Env}{b:Bool}:∀{l:List Env},KpD (keptBack env b l)
 |[]=>by
  unfold keptBack
  exact .ite .pure (.bind qX fun _=>.pure)
 |_::_=>.pure
theorem pP{env:Env}{l:List Env}:KpD (behindIsImport env l):=by unfold behindIsImport;refine .ite .pure (.ite .pure (.bind gq fun _=>.pure))
theorem mE:∀{l:List Env},KpD (readyFrames l)
 |[]=>.pure
 |env::outer=>by
  unfold readyFrames
  cases env.frame with
  |none=>exact .uns
  |some f=>
   refine .bind .load fun o=>.ite .pure (.bind pP fun b=>.bind lZ fun v=>.bind (.update fun o=>?_) fun _=>mE)
   obtain⟨c,d,dt,sl⟩:=o
   cases dt<;>exact⟨rfl,rfl⟩
theorem oq{env:Env}:KpD (PySem.frameOf env):=by
 unfold PySem.frameOf frameEnvs;refine .bind (.bind .stack fun _=>.pure) fun l=>.bind ?_ fun r=>?_
 ·generalize List.dropWhile _ l=l';cases l' with
  |nil=>exact .pure
  |cons e r=>exact .bind mE fun _=>.pure
 ·cases r<;>first|exact .uns|exact .pure
theorem rB{f:Addr}{b:Bool}:KpD (entryPlaceOf f b):=by
 unfold entryPlaceOf;refine .bind .stack fun acts=>?_;split
 ·exact .pure
 ·exact .pure
theorem rk{a b c d e:Value}{pl:List Value}:KpD (EntryCells.newEntry a b c d e pl):=by unfold EntryCells.newEntry newFields newObj;dsimp only;refine .ite .uns ?_;unfold newObjAsIs;exact .bind .alloc fun _=>.pure
theorem oZ{e:Value}{env:Env}:KpD (noteFrame e env):=by
 unfold noteFrame;cases env.frame with
 |none=>exact .uns
 |some f=>
  have last:∀head:Value,KpD (do setField e 1 (<-EntryCells.newEntry head (<-PySem.frameOf env) .none (rawInt f) .none (<-entryPlaceOf f (head != .none)))):=fun head=>.bind oq fun _=>.bind rB fun _=>.bind rk fun _=>eF
  refine .bind gq fun head=>.ite (.bind gq fun x=>.ite .pure (.bind eF fun _=>last head)) (last head)
theorem iz{e:Value}{env:Env}:KpD (leaving env e):=.bind oZ fun _=>dY
theorem KpD.any{α:Type}{t:Sem α}(k:KpD t){M:Model}{A:Around}{Q:α->Shared->Prop}{E:Value->Shared->Prop}{s:Shared}(h:wpAny M A t Q E s):wpAny M A t (fun a s'=>Q a s'/\gv s.heap s'.heap) (fun _ _=>False) s:=fun Γ p hΓ=>k M Γ _ _ p s (h Γ p hΓ)
def sA(e:Value)(f:Addr)(h:Heap):Prop:=∃a oe vs T oT ts,e=.ref a/\h.get? a=some oe/\oe.data=.fields vs/\vs[1]?=some (.ref T)/\h.get? T=some oT/\oT.data=.fields ts/\ts[3]?=some (rawInt f)
section
variable{M:Model}{Γ:PySem.Ctx}{E:Value->Pos->Shared->Prop}{p:Pos}{s:Shared}
theorem gy{v:Value}{i:Nat}{Q:Value->Pos->Shared->Prop}(h:wp M Γ (field v i) Q E p s):∃a o vs x,v=.ref a/\s.heap.get? a=some o/\o.data=.fields vs/\vs[i]?=some x/\Q x p s:=by
 unfold field fieldsOf at h;rw[Sem.wp_bind']at h;cases v<;>first|exact(show False from h).elim|skip
 rename_i a;rw[Sem.wp_bind']at h;obtain⟨o,e,h⟩:=(show ∃o,s.heap.get? a=some o/\_ from h);rw[Sem.wp_pure]at h;cases hd:o.data<;>rw[hd]at h<;>first|exact(show False from h).elim|skip
 rename_i vs;have h:wp M Γ (match vs[i]? with|some x=>(pure x:Sem Value)|none=>unsupported "internal:no-such-field") Q E p s:=h;cases hx:vs[i]? with
 |none=>rw[hx]at h;exact(show False from h).elim
 |some x=>rw[hx]at h;exact⟨a,o,vs,x,rfl,e,hd,hx,h⟩
theorem bW{a:Addr}{i:Nat}{o:Obj}{vs:Array Value}{x:Value}{Q:Value->Pos->Shared->Prop}(e:s.heap.get? a=some o)(hd:o.data=.fields vs)(hx:vs[i]?=some x)(h:Q x p s):wp M Γ (field (.ref a) i) Q E p s:=by unfold field fieldsOf;rw[Sem.wp_bind',Sem.wp_bind'];refine⟨o,e,?_⟩;rw[Sem.wp_pure,hd];show wp M Γ (match vs[i]? with|some x=>(pure x:Sem Value)|none=>unsupported "internal:no-such-field") Q E p s;rw[hx];exact h
theorem dR{v x:Value}{i:Nat}{Q:Unit->Pos->Shared->Prop}(h:wp M Γ (setField v i x) Q E p s):∃a o vs,v=.ref a/\s.heap.get? a=some o/\o.data=.fields vs/\i<vs.size/\Q () p { s with heap:=s.heap.update a (Obj.mapFields (·.setIfInBounds i x)) }:=by
 unfold setField at h;cases v<;>first|exact(show False from h).elim|skip
 rename_i a;unfold updateField at h;rw[Sem.wp_bind']at h;obtain⟨o,e,h⟩:=(show ∃o,s.heap.get? a=some o/\_ from h);rw[Sem.wp_pure]at h;cases hd:o.data<;>rw[hd]at h<;>first|exact(show False from h).elim|skip
 rename_i vs;dsimp only at h;by_cases hi:i<vs.size
 ·rw[if_pos hi]at h;exact⟨a,o,vs,rfl,e,hd,hi,(show(s.heap.get? a).isSome/\_ from h).2⟩
 ·rw[if_neg hi]at h;exact(show False from h).elim
theorem cD{a:Addr}{x:Value}{i:Nat}{o:Obj}{vs:Array Value}{Q:Unit->Pos->Shared->Prop}(e:s.heap.get? a=some o)(hd:o.data=.fields vs)(hi:i<vs.size)(h:Q () p { s with heap:=s.heap.update a (Obj.mapFields (·.setIfInBounds i x)) }):wp M Γ (setField (.ref a) i x) Q E p s:=by unfold setField updateField;show wp M Γ (PySem.load a >>= _) Q E p s;rw[Sem.wp_bind'];refine⟨o,e,?_⟩;rw[Sem.wp_pure,hd];dsimp only;rw[if_pos hi];exact⟨by rw[e];rfl,h⟩
theorem jl{h:Heap}{a:Addr}{o:Obj}{g:Obj->Obj}(e:h.get? a=some o)(hg:g o=o):h.update a g=h:=by
 obtain⟨e1,_⟩:=Heap.get?_some_iff.mp e;obtain⟨objs,l⟩:=h;show Heap.mk (objs.modify a g) l=_
 congr 1
 refine Array.ext_getElem? fun i=>?_;rw[Array.getElem?_modify];by_cases z:a=i
 ·subst z;rw[if_pos rfl];have e1:objs[a]?=some o:=e1;rw[e1,Option.map_some,hg]
 ·rw[if_neg z]
theorem nD{e:Value}{env:Env}{f:Addr}{Q:Unit->Pos->Shared->Prop}(hf:env.frame=some f)(h:wp M Γ (leaving env e) Q E p s) :
 wp M Γ (noteFrame e env) (fun _ p1 s1=>sA e f s1.heap/\wp M Γ (setFlight e none) Q E p1 s1) E p s:=by
 unfold leaving at h
 rw[Sem.wp_bind']at h
 unfold noteFrame at h ⊢
 rw[hf]at h ⊢
 dsimp only at h ⊢
 have last:∀(head:Value) (p:Pos) (s:Shared),wp M Γ (do setField e 1 (<-EntryCells.newEntry head (<-PySem.frameOf env) .none (rawInt f) .none (<-entryPlaceOf f (head != .none)))) (fun _ p1 s1=>wp M Γ (setFlight e none) Q E p1 s1) E p s->
  wp M Γ (do setField e 1 (<-EntryCells.newEntry head (<-PySem.frameOf env) .none (rawInt f) .none (<-entryPlaceOf f (head != .none)))) (fun _ p1 s1=>sA e f s1.heap/\wp M Γ (setFlight e none) Q E p1 s1) E p s:=fun head p s h=>by
  rw[Sem.wp_bind']at h ⊢
  refine Sem.wp_mono M Γ _ (fun fr p1 s1 h1=>?_) (fun _ _ _ z=>z) p s h
  rw[Sem.wp_bind']at h1 ⊢
  refine Sem.wp_mono M Γ _ (fun pl p2 s2 h2=>?_) (fun _ _ _ z=>z) p1 s1 h1
  rw[Sem.wp_bind']at h2 ⊢
  obtain⟨hh,g,d,t,os⟩:=s2
  unfold EntryCells.newEntry newFields newObj at h2 ⊢
  dsimp only at h2 ⊢
  generalize (if pl.isEmpty=true then List.replicate 6 Value.none else pl)=r at h2 ⊢
  by_cases z:([head,fr,Value.none,rawInt f,Value.none]++r).toArray.size>sizeLine+2
  ·rw[if_pos z]at h2;exact(show False from h2).elim
  rw[if_neg z]at h2 ⊢
  have h2:wp M Γ (setField e 1 (.ref hh.objs.size)) (fun _ p1 s1=>wp M Γ (setFlight e none) Q E p1 s1) E p2 ⟨hh.push { cls:=.type "traceback",data:=.fields ([head,fr,Value.none,rawInt f,Value.none]++r).toArray },g,d,t,os⟩:=h2
  show wp M Γ (setField e 1 (.ref hh.objs.size)) (fun _ p1 s1=>sA e f s1.heap/\wp M Γ (setFlight e none) Q E p1 s1) E p2 ⟨hh.push { cls:=.type "traceback",data:=.fields ([head,fr,Value.none,rawInt f,Value.none]++r).toArray },g,d,t,os⟩
  obtain⟨a,o,vs,rfl,ea,hd,hi,q⟩:=dR h2
  refine cD ea hd hi ⟨?_,q⟩
  have eT:(hh.push { cls:=.type "traceback",data:=.fields ([head,fr,Value.none,rawInt f,Value.none]++r).toArray }).get? hh.objs.size=some { cls:=.type "traceback",data:=.fields ([head,fr,Value.none,rawInt f,Value.none]++r).toArray }:=Heap.get?_push_size _ rfl
  have dn:=Obj.data_mapFields hd (·.setIfInBounds 1 (Value.ref hh.objs.size))
  have ea':=Heap.get?_update_self (Obj.mapFields (·.setIfInBounds 1 (Value.ref hh.objs.size))) ea (Obj.isFreed_of_fields dn)
  by_cases ne:a=hh.objs.size
  ·subst ne
   rw[eT]at ea;cases ea
   cases hd
   exact⟨_,_,_,_,_,_,rfl,ea',dn,by simp,ea',dn,by simp⟩
  ·exact⟨a,_,_,hh.objs.size,_,_,rfl,ea',dn,by simp[hi],(Heap.get?_update_other _ _ ne).trans eT,rfl,by simp⟩
 rw[Sem.wp_bind']at h ⊢
 obtain⟨a,o,vs,head,rfl,ea,hd,hx,h⟩:=gy h
 refine bW ea hd hx ?_
 by_cases z:(head != Value.none)=true
 ·rw[if_pos z]at h ⊢
  rw[Sem.wp_bind']at h ⊢
  obtain⟨T,oT,ts,x3,rfl,eT,hT,h3,h⟩:=gy h
  refine bW eT hT h3 ?_
  by_cases y:(x3==rawInt f)=true
  ·rw[if_pos y]at h ⊢
   exact⟨⟨a,o,vs,T,oT,ts,rfl,ea,hd,hx,eT,hT,by rw[h3,beq_iff_eq.mp y]⟩,h⟩
  ·rw[if_neg y]at h ⊢
   rw[Sem.wp_bind']at h ⊢
   obtain⟨a',o',vs',e',ea',hd',hi,h⟩:=dR h
   cases e'
   refine cD ea' hd' hi ?_
   exact last _ _ _ h
 ·rw[if_neg z]at h ⊢
  exact last _ _ _ h
end
theorem jj{M:Model}{A:Around}{env:Env}{f:Addr}{Po:Value->Unit->Shared->Prop}{E0:Value->Value->Shared->Prop}(hf:env.frame=some f):PassesOwn M A env (fun e s'=>wpAny M A (leaving env e) (Po e) (E0 e) s'):=by
 intro e s' h Γ p hΓ;have base:=nD (E:=fun _ _ _=>False) (Q:=fun a _ s''=>Po e a s'') hf (Sem.wp_mono M Γ _ (fun _ _ _ z=>z.1) (fun _ _ _ z=>z) p s' (iz M Γ _ _ p s' (h Γ p hΓ)));refine Sem.wp_mono M Γ _ (fun _ p1 s1 z=>?_) (fun v p1 s1 z=>z.elim) p s' base;obtain⟨n,q⟩:=z;obtain⟨a,oe,vs,T,oT,ts,rfl,ea,hd,h1,eT,hT,h3⟩:=n;intro Γ' p' hΓ';have i3:3<ts.size:=(Array.getElem?_eq_some_iff.mp h3).1
 have same:s1.heap.update T (Obj.mapFields (·.setIfInBounds 3 (rawInt f)))=s1.heap:=by
  refine jl eT ?_;obtain⟨c,d,dt,sl⟩:=oT;cases hT;show Obj.mk c d (.fields (ts.setIfInBounds 3 (rawInt f))) sl=_
  congr 2
  refine Array.ext_getElem? fun i=>?_;by_cases z:3=i
  ·subst z;rw[Array.getElem?_setIfInBounds_self_of_lt i3,h3]
  ·rw[Array.getElem?_setIfInBounds_ne z]
 rw[Sem.wp_bind'];refine bW ea hd h1 ?_;rw[if_neg (by intro z;cases (beq_iff_eq.mp z))];unfold setFlight;rw[Sem.wp_bind'];refine bW ea hd h1 ?_;rw[if_pos (by simp),hf];refine cD eT hT i3 ?_;show wpAny M A (leaving env (.ref a)) (Po (.ref a)) (E0 (.ref a)) { s1 with heap:=s1.heap.update T (Obj.mapFields (·.setIfInBounds 3 (rawInt f))) };rw[same];intro Γ2 p2 hΓ2;unfold leaving noteFrame;rw[Sem.wp_bind',hf];dsimp only;rw[Sem.wp_bind'];refine bW ea hd h1 ?_;rw[if_pos (by simp),Sem.wp_bind'];refine bW eT hT h3 ?_;rw[if_pos (by simp)];show wp M Γ2 (setFlight (.ref a) none) _ _ p2 s1;unfold setFlight at q ⊢;rw[Sem.wp_bind']at q ⊢;obtain⟨a',o',vs',x,e',ea',hd',hx,q⟩:=gy q;refine bW ea hd h1 ?_;cases e';rw[ea]at ea';cases ea';rw[hd]at hd';cases hd';rw[h1]at hx;cases hx;rw[if_pos (by simp)]at q ⊢;obtain⟨T',oT',ts',e',eT',hT',hi,q⟩:=dR q;cases e';exact cD eT hT i3 q
section
variable{prog:Program}{w:World}{A:Around}{E:Value->Shared->Prop}{hp:Heap}{gs:Array GenState}{dr:Drawn}{tk:Nat}{sys:OsState}
variable{cn cq:Str}{C NS fI:Addr}{bss ups:List Value}{hdct:Bool}{sn:List Str}{sub:List Value}{ab:Bool}{col:Option Bool}{dd:Option Addr}{k0 k1 k2 k3 k5:Option Value}{mN:Str->Option Value}{us:List Value}{oI:Obj}
abbrev tM(us:List Value):Obj:={ cls:=.type "tuple",data:=.seq us.toArray }
abbrev dU(C t:Addr)(d:Option Addr):Obj:={ cls:=.ref C,dict:=d,data:=.fields #[.ref t,.none,.none,.none,.bool false,.none] }
theorem qB(T:OwnTail hp veM ups)(hC:hp.get? C=some (excClassObj cn cq C NS bss ups hdct sn sub ab col dd k0 k1 k2 k3 k5 "ValueError.__new__"))(hN:hp.Ns NS mN)(hi:mN "__init__"=some (.ref fI))(ho:hp.get? fI=some oI)(hf:oI.cls=.type "function")(hl:us.length<=sizeLine)
 {Q:PySem.Fin->Shared->Prop} (k:∀h',(∀b o,hp.get? b=some o->h'.get? b=some o)->h'=(hp.push (tM us)).push (dU C hp.objs.size none)->wpAny (model prog w) A (call (.ref fI) (.ref (hp.objs.size+1)::us)) (fun r s'=>r=.none/\Q (.done (.ret (.ref (hp.objs.size+1)))) s') E ⟨h',gs,dr,tk,sys⟩) :
 wpAny (model prog w) A (Builtin.«type.__call__» ⟨.ref C::us,[]⟩) Q E ⟨hp,gs,dr,tk,sys⟩:=by
 have FB:=F.excBase_ValueError
 repeat (first|with_reducible refine wpAny_loadPart_at hC ?_|with_reducible refine wpAny_madeBy_exc hC ?_|wp_step)
 refine codeAny_call_builtin_code (Code.quiet_builtin _ FB.quiet) (wpAny_check_new_subU FB (by decide) T hC ?_)
 refine codeAny_exc_new_subU FB (by decide) FB T hC ?_ hl
 show wpAny _ _ _ _ _ _
 have kp:∀b o,hp.get? b=some o->((hp.push (tM us)).push (dU C hp.objs.size none)).get? b=some o:=fun b o e=>Heap.get?_push_of_some _ (Heap.get?_push_of_some _ e)
 have hC1:=kp _ _ hC
 have hN1:=hN.keeps kp
 have T1:=T.keeps kp
 have he:((hp.push (tM us)).push (dU C hp.objs.size none)).get? (hp.objs.size+1)=some (dU C hp.objs.size none):=Heap.get?_push_at (by simp) rfl
 have hcC:(Value.ref C::ups).contains (.ref C)=true:=by simp
 unfold isInstance
 repeat (first|with_reducible refine wpAny_loadPart_at he ?_|(with_reducible refine wpAny_isSubtype_exc hC1 ?_;rw[hcC])|wp_step)
 show wpAny _ _ (typeLookup (.ref C) _) _ _ _
 refine wpAny_typeLookup_tail hC1 hN1 T1 FB.mroIs FB.init.lookup ?_
 rw[hi]
 refine wpAny_holding (wpAny_bind ?_)
 unfold bindSpecial
 refine wpAny_bind (wpAny_typeOf (T:="function") ⟨_,kp _ _ ho,hf⟩ ?_)
 rw[if_pos (by decide)]
 refine wpAny_pure (wpAny_bind (wpAny_mono (k _ kp rfl) (fun r s' z=>?_) fun _ _ z=>z))
 obtain⟨rfl,q⟩:=z
 wp_walk
 exact q
theorem qg(T:OwnTail hp veM ups)(hC:hp.get? C=some (excClassObj cn cq C NS bss ups hdct sn sub ab col dd k0 k1 k2 k3 k5 "ValueError.__new__"))(hN:hp.Ns NS mN)(hi:mN "__init__"=some (.ref fI))(ho:hp.get? fI=some oI)(hf:oI.cls=.type "function")(hl:us.length<=sizeLine)
 {Q:Value->Shared->Prop} (k:∀h',(∀b o,hp.get? b=some o->h'.get? b=some o)->h'=(hp.push (tM us)).push (dU C hp.objs.size none)->wpAny (model prog w) (A.under (.builtin "type.__call__" ⟨.ref C::us,[]⟩)) (call (.ref fI) (.ref (hp.objs.size+1)::us)) (fun r s'=>r=.none/\Q (.ref (hp.objs.size+1)) s') E ⟨h',gs,dr,tk,sys⟩) :
 wpAny (model prog w) A (call (.ref C) us) Q E ⟨hp,gs,dr,tk,sys⟩:=by
 have f1:=tc_lookup
 have f2:=tc_bind (.ref C)
 have hT:(⟨hp,gs,dr,tk,sys⟩:Shared).TypeIs (.ref C) "type":=⟨_,hC,rfl⟩
 refine wpAny_call (codeAny_of_tree ?_)
 show wpAny _ _ (callAny (.ref C) _) _ _ _
 repeat (any_goals (first|assumption|with_reducible refine wpAny_loadPart_at hC ?_|wp_step))
 refine⟨rfl,codeAny_call_builtin_at (Code.quiet_builtin _ (by decide +kernel)) entry_typeCall (wpAny_check_type_call_sub hC (qB T hC hN hi ho hf hl fun h' a b=>?_))⟩
 exact k h' a b
end
open PySem.W (Frag findIn subIn clsIn nsIn typeIn keepIn looks_findIn looks_subIn looks_clsIn Looks)
theorem yK{K:Frag}{h:Heap}{N:Addr}{mg:Str->Option Value}{n:Str}{v:Value}(X:K.In h)(G:h.Ns N mg)(e:nsIn K N n=some (some v)):mg n=some v:=by
 obtain⟨o,es,ep,ho,hd,_,hf⟩:=G;unfold nsIn at e;split at e
 ·rename_i ks ks' n' _ hl;have:=X _ _ hl;rw[ho]at this;cases this;cases hd;rw[<-hf];unfold nsFind findBy;rw[<-Array.find?_toList];split at e
  ·rename_i en he;rw[he];cases e;rfl
  ·split at e<;>cases e
 ·cases e
structure ClsI(K:Frag)(C S fI:Addr):Prop where
 lk:∃cn cq NS bss hdct sn sub ab col dd k0 k1 k2 k3 k5,K.lookup C=some (excClassObj cn cq C NS bss (.ref S::veM) hdct sn sub ab col dd k0 k1 k2 k3 k5 "ValueError.__new__")/\PySem.W.nsOkIn K NS=true/\nsIn K NS "__init__"=some (some (.ref fI))
 tl:PySem.W.tailIn K veM (.ref S::veM)=true
 fn:typeIn K (.ref fI)=some (.type "function")
 kp:keepIn K (.ref C)=true
 hd:PySem.W.hasDictIn K C=true
 sa:findIn K (.ref C) "__setattr__"=some (some (.builtin "object.__setattr__"))
 ob:subIn K (.ref C) (.type "object")=some true
theorem ClsI.at{K:Frag}{C S fI:Addr}(c:ClsI K C S fI){h:Heap}(X:K.In h):∃cn cq NS bss hdct sn sub ab col dd k0 k1 k2 k3 k5 mN oI,h.get? C=some (excClassObj cn cq C NS bss (.ref S::veM) hdct sn sub ab col dd k0 k1 k2 k3 k5 "ValueError.__new__")/\h.Ns NS mN/\mN "__init__"=some (.ref fI)/\h.get? fI=some oI/\oI.cls=.type "function"/\OwnTail h veM (.ref S::veM):=by
 obtain⟨cn,cq,NS,bss,hdct,sn,sub,ab,col,dd,k0,k1,k2,k3,k5,l,ok,ni⟩:=c.lk;have hN:h.Ns NS (h.nsMap NS):=.of_isNs (PySem.W.isNs_of_in X ok);have hf:=c.fn;unfold typeIn at hf;dsimp only at hf;cases ho:K.lookup fI with
 |none=>rw[ho]at hf;cases hf
 |some oI=>
  rw[ho]at hf
  exact⟨cn,cq,NS,bss,hdct,sn,sub,ab,col,dd,k0,k1,k2,k3,k5,_,oI,X _ _ l,hN,yK X hN ni,X _ _ ho,Option.some.inj hf,PySem.W.tail_of_in X c.tl⟩
section
variable{prog:Program}{w:World}{A:Around}{E:Value->Shared->Prop}{s:Shared}{K:Frag}{C S fI a t dx:Addr}{dd:Option Addr}{x v:Value}{name:Str}{mA:Str->Option Value}{oe:Obj}
theorem p5(c:ClsI K C S fI)(X:K.In s.heap)(ha:s.heap.get? a=some (dU C t dd)){Q:Value->Shared->Prop}
 (k:∀h',(∀b o,b≠a->s.heap.get? b=some o->h'.get? b=some o)->h'.get? a=some (dU C s.heap.objs.size dd)->Q .none { s with heap:=h' }) :
 wpAny (model prog w) A (call (.builtin "ValueError.__init__") [.ref a,x]) Q E s:=by
 obtain⟨cn,cq,NS,bss,hdct,sn,sub,ab,col,dd',k0,k1,k2,k3,k5,mN,oI,hC,hN,hi,ho,hf,T⟩:=c.at X
 obtain⟨hp,gs,dr,tk,sys⟩:=s
 have FB:=F.excBase_ValueError
 refine wpAny_call (codeAny_call_builtin FB.init.plain FB.initEntry (wpAny_check_init_subU FB T hC ha rfl ?_))
 wp_walk
 refine k _ (fun b o ne e=>?_) ?_
 ·rw[Heap.get?_update_other _ _ (Ne.symm ne)]
  exact Heap.get?_push_of_some _ e
 ·rw[Heap.get?_update_self _ (Heap.get?_push_of_some _ ha) rfl]
  rfl
theorem lK(ha:s.heap.get? a=some (dU C t none)):PySem.W.InstAt s.heap a (dU C t none) C none:=⟨ha,rfl,rfl,trivial⟩
theorem pL{ox:Obj}{od:Option Obj}{tk:Tok}{R:Result->Shared->Prop}(c:ClsI K C S fI)(X:K.In s.heap)(I:PySem.W.InstAt s.heap a ox C od)(hn:findIn K (.ref C) name=some none)
 (h:wpAny (model prog w) A.in1 (Builtin.ObjectAttr.storeInOwnDict (.ref a) (.ref C) (.str name tk) name v false)
  (fun fin s'=>match fin with|.done f=>R (.ok f) s'|.again c'=>c'.quiet=true/\codeAny (model prog w) A c' R s') (fun e s'=>R (.error e) s') s) :
 codeAny (model prog w) A (.call (.builtin "object.__setattr__") ⟨[.ref a,.str name tk,v],[]⟩) R s:=by
 have SF:=F.store_ValueError
 obtain⟨cn,cq,NS,bss,hdct,sn,sub,ab,col,dd',k0,k1,k2,k3,k5,mN,oI,hC,_⟩:=c.at X
 have LI:Looks (model prog w) s.heap (isInstance (.ref a) (.type "object")) true:=I.type.andThen (looks_subIn X c.ob)
 refine codeAny_call_builtin SF.slot.plain SF.entry (PySem.W.check_slot (M:=model prog w) (s:=s) (i:="object.__setattr__") (owner:="object") (n:="__setattr__") (self:=.ref a) (rest:=[.str name tk,v]) (kw:=[]) SF.kind SF.split LI (SF.args (.ref a) (.str name tk) v) ?_)
 rw[PySem.W.osa_eq,refuse_eq]
 obtain⟨hp,gs,dr,tk',sys⟩:=s
 refine wpAny_bind (wpAny_bind (I.type.here (wpAny_bind (wpAny_mroOf_exc hC ?_))))
 rw[refuseLoop_ref,refuseLoop_ref,SF.passes]
 refine wpAny_pure (wpAny_bind (I.type.here (wpAny_bind ((looks_findIn X hn).here (wpAny_bind (wpAny_pure ?_))))))
 exact h
theorem tD{Q:Unit->Shared->Prop}(c:ClsI K C S fI)(X:K.In s.heap)(ha:s.heap.get? a=some (dU C t none))(hn:findIn K (.ref C) name=some none)
 (k:∀h' tk',(∀b o,b≠a->s.heap.get? b=some o->h'.get? b=some o)->h'.get? a=some (dU C t (some s.heap.objs.size))->h'.Ns1 s.heap.objs.size (fun y=>if y=name then some v else none)->Q () { s with heap:=h',toks:=tk' }) :
 wpAny (model prog w) A (setAttr (.ref a) name v) Q E s:=by
 refine PySem.W.set_plain X (lK ha) c.sa (pL (s:={ s with toks:=s.toks+1 }) c X (lK ha) hn ?_)
 obtain⟨cd,hc,hd⟩:=PySem.W.any_some c.hd
 have L:=looks_clsIn (M:=model prog w) X hc
 obtain⟨hp,gs,dr,tk,sys⟩:=s
 have hxs:a≠hp.objs.size:=Nat.ne_of_lt (Heap.lt_size ha)
 refine wpAny_bind (wpAny_pure (wpAny_bind (wpAny_bind (wpAny_loadPart ha (wpAny_bind (PySem.W.Looks.at L ?_))))))
 rw[hd]
 refine wpAny_bind (wpAny_alloc' (wpAny_bind (wpAny_update' (Heap.get?_push_of_some _ ha) (wpAny_pure ?_))))
 have gd:((hp.push { cls:=.type "dict",data:=.dict #[] }).update a fun o=>{ cls:=o.cls,dict:=some hp.objs.size,data:=o.data,slots:=o.slots }).get? hp.objs.size=some { cls:=.type "dict",data:=.dict #[] }:=
  (Heap.get?_update_other _ _ hxs).trans (Heap.get?_push_at rfl rfl)
 have nd:((hp.push { cls:=.type "dict",data:=.dict #[] }).update a fun o=>{ cls:=o.cls,dict:=some hp.objs.size,data:=o.data,slots:=o.slots }).Ns hp.objs.size (fun _=>none):=⟨_,#[],_,gd,rfl,fun e he=>absurd he (by simp),fun _=>rfl⟩
 show wpAny _ _ (Builtin.ObjectAttr.storeInDict hp.objs.size _ name v) _ _ _
 unfold Builtin.ObjectAttr.storeInDict Builtin.ObjectAttr.newKeyGuard
 refine wpAny_bind (wpAny_pure (wpAny_bind (wpAny_nsSet1 (Heap.Ns1.of_empty nd) fun h' n1 sb=>?_)))
 obtain⟨oD,esD,epD,hoD,hdD,hcD⟩:=n1.count (Within.cons name v Within.nil)
 refine wpAny_bind (wpAny_lookBehind hoD (by rw[hdD];exact pastItsLine_dict (Nat.le_trans hcD (by rw[List.length_cons,List.length_nil,sizeLine_eq];omega))) ?_)
 wp_walk
 refine k h' _ (fun b o ne e=>?_) ?_ n1
 ·exact(sb.2 b (Nat.ne_of_lt (Heap.lt_size e))).trans ((Heap.get?_update_other _ _ (Ne.symm ne)).trans (Heap.get?_push_of_some _ e))
 ·exact(sb.2 a hxs).trans (Heap.get?_update_self _ (Heap.get?_push_of_some _ ha) rfl)
theorem kg{od:Obj}(ha:s.heap.get? a=some (dU C t (some dx)))(hd:s.heap.get? dx=some od):PySem.W.InstAt s.heap a (dU C t (some dx)) C (some od):=⟨ha,rfl,rfl,hd⟩
theorem rX{ns:List Str}{Q:Unit->Shared->Prop}(c:ClsI K C S fI)(X:K.In s.heap)(ha:s.heap.get? a=some (dU C t (some dx)))(hm:s.heap.Ns1 dx mA)(hw:Within mA ns)(hz:ns.length<=1000)(hn:findIn K (.ref C) name=some none)
 (k:∀h' tk',(∀b o,b≠dx->s.heap.get? b=some o->h'.get? b=some o)->h'.Ns1 dx (fun y=>if y=name then some v else mA y)->Q () { s with heap:=h',toks:=tk' }) :
 wpAny (model prog w) A (setAttr (.ref a) name v) Q E s:=by
 obtain⟨od,hod,_⟩:=jZ hm
 refine PySem.W.set_plain X (kg ha hod) c.sa (pL (s:={ s with toks:=s.toks+1 }) c X (kg ha hod) hn ?_)
 obtain⟨cd,hc,hd⟩:=PySem.W.any_some c.hd
 have L:=looks_clsIn (M:=model prog w) X hc
 obtain⟨hp,gs,dr,tk,sys⟩:=s
 refine wpAny_bind (wpAny_pure (wpAny_bind (wpAny_bind (wpAny_loadPart ha (wpAny_bind (PySem.W.Looks.at L ?_))))))
 rw[hd]
 refine wpAny_pure (a:=some dx) ?_
 show wpAny _ _ (Builtin.ObjectAttr.storeInDict dx _ name v) _ _ _
 unfold Builtin.ObjectAttr.storeInDict Builtin.ObjectAttr.newKeyGuard
 refine wpAny_bind (wpAny_pure (wpAny_bind (wpAny_nsSet1 hm fun h' n1 sb=>?_)))
 obtain⟨oD,esD,epD,hoD,hdD,hcD⟩:=n1.count (Within.cons name v hw)
 refine wpAny_bind (wpAny_lookBehind hoD (by rw[hdD];exact pastItsLine_dict (Nat.le_trans hcD (by rw[List.length_cons,sizeLine_eq];omega))) ?_)
 wp_walk
 exact k h' _ (fun b o ne e=>(sb.2 b ne).trans e) n1
theorem tK{expr:Bool}{Q:Value->Shared->Prop}(sl:Slot "ValueError" "__getattribute__" "BaseException.__getattribute__")(X:K.In s.heap)(Z:ErrC K C)(hh:PySem.W.hasDictIn K C=true)(ha:s.heap.get? a=some oe)(hc:oe.cls=.ref C)(hnc:PySem.W.notCls oe=true)(hd:oe.dict=some dx)(hm:s.heap.Ns1 dx mA)(hv:mA name=some v)(hn:findIn K (.ref C) name=some none)(hvh:PySem.W.handedIn v=true)
 (h:Q v { s with toks:=s.toks+1 }):wpAny (model prog w) A (getAttr (.ref a) name expr) Q E s:=by
 obtain⟨od,hod,hl⟩:=jZ hm
 have I:PySem.W.InstAt s.heap a oe C (some od):=⟨ha,hc,hnc,by rw[hd];exact hod⟩
 have hf:=PySem.W.findObj_own (K:=K) (C:=C) (od:=od) hh hn rfl (by rw[hl,hv])
 obtain⟨hp,gs,dr,tk,sys⟩:=s
 have L0:=cQ (M:=model prog w) ha hc
 have L1:=looks_findIn (M:=model prog w) X Z.ga
 have L2:=looks_findIn (M:=model prog w) X Z.gt
 have LF:=PySem.W.looks_find (M:=model prog w) X I hf
 have f3:=sl.bind (.ref a)
 have hx0:(expr&&onTheHeap (Value.builtin "BaseException.__getattribute__"))=false:=by cases expr<;>rfl
 have ne2:(Value.builtin "BaseException.__getattribute__"==Value.builtin "object.__getattribute__")=false:=by decide +kernel
 have ne1:(onTheHeap (Value.ref C)&&Value.builtin "BaseException.__getattribute__"==Value.builtin "object.__getattribute__")=false:=by rw[ne2];rfl
 have ho:=PySem.W.handedOut_of hvh
 unfold getAttr
 repeat (any_goals (first|assumption|with_reducible refine Looks.at L0 ?_|with_reducible refine Looks.at L1 ?_|with_reducible refine Looks.at L2 ?_|wp_step))
 refine codeAny_call_builtin sl.plain F.entry_bexc_ga (jP X Z ha hc ?_)
 unfold Builtin.«object.__getattribute__»
 repeat (any_goals (first|assumption|with_reducible refine Looks.at L0 ?_|with_reducible refine Looks.at LF ?_|wp_step))
end
def cR(a C:Addr)(dd:Option Addr):Heap->Prop:=fun h=>∃t,h.get? a=some (dU C t dd)
def kO(a C:Addr)(dd:Option Addr):Heap->Prop:=fun h=>∃o,h.get? a=some o/\o.cls=.ref C/\o.dict=dd/\PySem.W.notCls o=true
def jg(d:Addr)(fs:List (Str×V)):Heap->Prop:=fun h=>∃mA,h.Ns1 d mA/\(∀f,ml (fs.lookup f) (mA f))/\Within mA (fs.map (·.1))
theorem cR.x{a C:Addr}{dd:Option Addr}{h:Heap}(e:cR a C dd h):kO a C dd h:=let⟨t,q⟩:=e;⟨_,q,rfl,rfl,rfl⟩
theorem okG{P:Program}{w:World}{H:Hp}{h:Heap}{a C t:Addr}{dd:Option Addr}(e:h.get? a=some (dU C t dd)):bT P w H h a (.ext (cR a C dd)):=⟨⟨t,e⟩,⟨_,e⟩,fun h1 h2 z k=>let⟨t,q⟩:=z;⟨t,k _ q⟩⟩
theorem okX{P:Program}{w:World}{H:Hp}{h:Heap}{a C:Addr}{dd:Option Addr}(e:kO a C dd h):bT P w H h a (.ext (kO a C dd)):=⟨e,let⟨o,q,_⟩:=e;⟨o,q⟩,fun h1 h2 z k=>let⟨o,q,r⟩:=z;⟨o,k _ q,r⟩⟩
theorem okF{P:Program}{w:World}{H:Hp}{h:Heap}{d:Addr}{fs:List (Str×V)}(e:jg d fs h):bT P w H h d (.ext (jg d fs)):=⟨e,let⟨_,⟨o,_,_,q,_⟩,_⟩:=e;⟨o,q⟩,fun h1 h2 z k=>let⟨mA,⟨o,es,ep,q,r⟩,z⟩:=z;⟨mA,⟨o,es,ep,k _ q,r⟩,z⟩⟩
def bA(P:Program)(w:World):CXT:=fun outer H s E e s'=>∃a C dd H',e=.ref a/\Fly P w outer H H' s s' a C/\(∃o,s'.heap.get? a=some o/\o.dict=dd)/\E (.ref C) dd H'
def eM(H:Hp)(a:Addr):Hp:=fun b=>if b=a then none else H b
theorem cJ{H:Hp}{a b:Addr}(h:b≠a):eM H a b=H b:=by unfold eM;rw[if_neg h]
theorem nR{H:Hp}{a:Addr}:eM H a a=none:=by unfold eM;rw[if_pos rfl]
theorem nq{H:Hp}{a b:Addr}{o:HO}(h:eM H a b=some o):b≠a/\H b=some o:=by
 unfold eM at h;split at h
 ·cases h
 ·rename_i n;exact⟨n,h⟩
section
variable{P:Program}{w:World}{K:PySem.W.Frag}{mg:Str->Option Value}{base:Heap}{N:List Str}{qual:Str}{scope:Scope}{f:Addr}{cd:Value}{A:Around}{outer:List Env}{s:Shared}{H:Hp}{E:XK}
theorem wU{CX CX':CXT}{E':XK}{pins:List (Addr×Obj)}{σ:L2.St}{H1:Hp}{s1:Shared}(I:Inv (aU CX P w K mg base N qual scope f cd A outer s H E) pins σ H1 s1):Inv (aU CX' P w K mg base N qual scope f cd A outer s H E') pins σ H1 s1:=Inv.iZ I (aU CX' P w K mg base N qual scope f cd A outer s H E').xe
theorem xr:PassesOwn (model P w) (aU (bA P w) P w K mg base N qual scope f cd A outer s H E).A (aU (bA P w) P w K mg base N qual scope f cd A outer s H E).env (aU (bA P w) P w K mg base N qual scope f cd A outer s H E).xe:=jj (f:=s.heap.objs.size) (Po:=fun e _ s''=>bA P w outer H s E e s'') (E0:=fun e e' s''=>bA P w outer H s E e' s'') rfl
theorem pS{pins:List (Addr×Obj)}{σ:L2.St}{H2:Hp}{s2:Shared}{a C t:Addr}{dd:Option Addr}{φ:Heap->Prop}(I:Inv (aU (bA P w) P w K mg base N qual scope f cd A outer s H E) pins σ H2 s2)(hx:H2 a=some (.ext φ))(ho:s2.heap.get? a=some (dU C t dd))(hn:s.heap.get? a=none)(q:E (.ref C) dd (eM H2 a)) :
 (aU (bA P w) P w K mg base N qual scope f cd A outer s H E).xe (.ref a) s2:=by
 have ex0:∀x:Addr,x∉(aU (bA P w) P w K mg base N qual scope f cd A outer s H E).ex:=fun x z=>absurd (show x∈([]:List Addr)from z) (by simp)
 have na:∀x,H2 x=none->x≠a:=fun x n z=>by rw[z,hx]at n;cases n
 have stays:(gT s2.heap (a::frs (aU (bA P w) P w K mg base N qual scope f cd A outer s H E).stack)).StaysIn s2.heap:=fun b o z=>(nQ z).2
 have stk:∀{x:Addr} {o:Obj},s.heap.get? x=some o->x∉frs outer->x∉a::frs (aU (bA P w) P w K mg base N qual scope f cd A outer s H E).stack:=fun{x o} e n m=>by
  rcases List.mem_cons.mp m with z|z
  ·rw[z,hn]at e;cases e
  ·exact uK (E:=E) (wU I) e n z
 refine wpAny_mono (KpD.any iz (wpAny_leaving_firstW (E:=fun _ _=>False) (base:=gT s2.heap (a::frs (aU (bA P w) P w K mg base N qual scope f cd A outer s H E).stack)) (outer:=outer) (L:=(aU (bA P w) P w K mg base N qual scope f cd A outer s H E).env.locals) (a0:=.ref t) I.ok.frames (mB I.stack fun b hb=>eE (List.mem_cons_of_mem _ hb)) rfl ho stays (eE List.mem_cons_self) rfl rfl rfl (Q:=fun _ s'=>Fly P w outer H (eM H2 a) s s' a C) fun h' L=>?_)) (fun _ s'' z=>?_) (fun _ _ z=>z.elim)
 ·obtain⟨k1,⟨_,_,k2⟩,k3,k4⟩:=L
  refine⟨I.os,I.bare,⟨_,_,⟨k1,eE List.mem_cons_self,k2,k3⟩,fun x o z=>?_,fun x o e1 n nf=>?_,fun x o e1 nf=>?_⟩,fun x o e1 n mf=>?_,fun x o e1 n=>?_,fun b xs z=>?_,fun b o u z=>?_,fun b ps z=>?_⟩
  ·obtain⟨nx,z⟩:=nq z
   refine(I.hok x o z).f6 (fun b u hb g=>?_) (fun b z=>?_) fun b xs z=>?_
   ·rw[dF]
    ·exact g
    ·intro mm
     rcases List.mem_cons.mp mm with y|y
     ·rcases hb with hb|hb
      ·exact nx (hb.symm.trans y)
      ·rw[y,hx]at hb;cases hb
     ·have:=I.eV b y
      rcases hb with hb|hb
      ·rw[hb,z]at this;cases this
      ·rw[hb]at this;cases this
   ·rw[cJ (fun y=>by rw[y,hx]at z;cases z)];exact z
   ·rw[cJ (fun y=>by rw[y,hx]at z;cases z)];exact z
  ·rw[dF (stk e1 nf)]
   exact I.base.keep x o e1 n nf (ex0 x)
  ·rw[dF (stk e1 nf)]
   exact I.base.there x o e1 (ex0 x)
  ·obtain⟨sl,g⟩:=I.base.slot x o e1 n mf (ex0 x)
   obtain⟨o',g',d⟩:=ic I.gm mf
   rw[g]at g';cases g'
   obtain⟨sl',g2⟩:=k4 x _ g d
   exact⟨sl',g2⟩
  ·have:=I.base.free x o e1 n (ex0 x)
   rw[cJ (na x this)];exact this
  ·have:=I.base.tups b xs z
   rw[cJ (fun y=>by rw[y,hx]at this;cases this)];exact this
  ·have:=I.base.frzs b o u z
   rw[cJ (fun y=>by rw[y,hx]at this;cases this)];exact this
  ·obtain⟨more,this⟩:=I.base.tbls b ps z
   exact⟨more,by rw[cJ (fun y=>by rw[y,hx]at this;cases this)];exact this⟩
 ·obtain⟨F,sd⟩:=z
  obtain⟨o',g',d'⟩:=sd a _ ho
  exact⟨a,C,dd,_,rfl,F,⟨o',g',d'⟩,q⟩
end
section
variable{X:Cx}{k:Nat}{fI C S:Addr}{fd:FuncData}{ps:List Str}{sp:Sp}{c:Str}{np cpos pos:Pos}{e:Expr}{es:List Expr}{t:TA}
theorem tN{pins:List (Addr×Obj)}{σ:L2.St}{H:Hp}{s:Shared}{Q:VK}{us:List Value}{vs:List V}(M:ClsI X.K C S fI)(F:FnOk X.prog X.w X.K X.mg X.base CX0 k fI fd ps sp)(hr:Room (k+1) X.A)(hb:Binds X.K fd ps [])(I:Inv X pins σ H s)(r:Vals vs us)(hl:us.length<=sizeLine)
 (h:∀a,H a=none->sp (.ref a::vs) (upd H a (.ext (cR a C none))) (fun v H2=>v=.non/\Q (.ref a) H2) E0) :
 wpAny (model X.prog X.w) X.A (call (.ref C) us) (fun u s'=>∃a H2,u=.ref a/\s.heap.get? a=none/\Inv X pins σ H2 s'/\Q (.ref a) H2) X.xe s:=by
 obtain⟨cn,cq,NS,bss,hdct,sn,sub,ab,col,dd,k0,k1,k2,k3,k5,mN,oI,hC,hN,hi,ho,hf,T⟩:=M.at I.kIn
 have hq:=h (s.heap.objs.size+1) (I.hok.fresh (Nat.le_succ _))
 obtain⟨hp,gs,dr,tk,sys⟩:=s
 refine qg T hC hN hi ho hf hl fun h' kp eh=>?_
 have he:h'.get? (hp.objs.size+1)=some (dU C hp.objs.size none):=by rw[eh];exact Heap.get?_push_at (by simp) rfl
 have I2:Inv X pins σ (upd H (hp.objs.size+1) (.ext (cR (hp.objs.size+1) C none))) ⟨h',gs,dr,tk,sys⟩:=I.laid (t':=tk) kp (Nat.le_succ _) (okG he)
 have r2:Vals (V.ref (hp.objs.size+1)::vs) (Value.ref (hp.objs.size+1)::us):=.cons rfl r
 have hl2:((Value.ref (hp.objs.size+1)::us)++[]).length=ps.length:=by rw[List.append_nil,<-r2.length];exact F.len _ _ _ _ hq
 have hbb:=hb ⟨h',gs,dr,tk,sys⟩ (Value.ref (hp.objs.size+1)::us) I2.kIn hl2
 rw[List.append_nil]at hbb
 refine wpAny_call (codeAny_mono (F.run _ X.stack _ _ ⟨Value.ref (hp.objs.size+1)::us,[]⟩ (Value.ref (hp.objs.size+1)::us) _ _ E0 (hr.make C us []) (I2.xa.make C us []) hbb r2 hq) fun r s' hq'=>?_)
 cases r with
 |error e=>exact False.elim hq'
 |ok fl=>
  cases fl with
  |ret u=>
   obtain⟨v,H',I3,rv,ev,q3⟩:=I2.after hq'
   subst ev
   exact⟨rv,_,H',rfl,Heap.get?_none_of_le (Nat.le_succ _),I3,q3⟩
  |next=>exact False.elim hq'
  |brk=>exact False.elim hq'
  |cont=>exact False.elim hq'
theorem pD(hex:X.ex=[]){pins:List (Addr×Obj)}{σ:L2.St}{H:Hp}{s:Shared}{Q:VK}(M:ClsI X.K C S fI)(F:FnOk X.prog X.w X.K X.mg X.base CX0 k fI fd ps sp)(hr:Room (k+1) X.A)(hb:Binds X.K fd ps [])(hg:Gl X c)(hm:X.mg c=some (.ref C))(ha:PA X (e::es) t)(hdb:(c==("__debug__":Str))=false)(he:starEach (e::es) X.env=(false,eval e X.env)::starEach es X.env)(hpl:(backTo cpos (starEach es X.env)).any (·.1)=false)(I:Inv X pins σ H s) (h:t σ H fun vs H1=>vs.length<=sizeLine/\∀a,H1 a=none->sp (.ref a::vs) (upd H1 a (.ext (cR a C none))) (fun v H2=>v=.non/\Q (.ref a) H2) E0) : wpAny (model X.prog X.w) X.A (eval (.Call (.Name c np) (e::es) [] cpos) X.env) (fun u s'=>∃a H2,u=.ref a/\X.s₀.heap.get? a=none/\Inv X pins σ H2 s'/\Q (.ref a) H2) X.xe s:=by
 refine wpAny_Call_Name_kw (eY I hg hm ?_ hdb);refine PySem.W.callWith_K (h₀:=X.base) I.ok.mod.kin M.kp (thn (ha cpos pins s σ H _ I h) fun us s1 ⟨vs,H1,I1,r,hl,q⟩=>⟨I1.kIn,?_⟩) he hpl;refine thn (tN (us:=us) M F hr hb I1 r (by rw[<-r.length];exact hl) q) fun u s' ⟨a,H2,eu,en,I2,q2⟩=>⟨a,H2,eu,?_,I2,q2⟩;cases z:X.s₀.heap.get? a with
 |none=>rfl
 |some o=>
  obtain⟨o',g⟩:=I1.base.there a o z (by rw[hex];simp)
  rw[en]at g;cases g
def y9(C:Addr)(sp:Sp)(t:TA):TE:=fun σ H Q=>t σ H fun vs H1=>vs.length<=sizeLine/\∀a,H1 a=none->sp (.ref a::vs) (upd H1 a (.ext (cR a C none))) (fun v H2=>v=.non/\Q (.ref a) H2) E0
theorem xA(hex:X.ex=[])(M:ClsI X.K C S fI)(F:FnOk X.prog X.w X.K X.mg X.base CX0 k fI fd ps sp)(hr:Room (k+1) X.A)(hb:Binds X.K fd ps [])(hg:Gl X c)(hm:X.mg c=some (.ref C))(ha:PA X (e::es) t)(hdb:(c==("__debug__":Str))=false)(he:starEach (e::es) X.env=(false,eval e X.env)::starEach es X.env)(hpl:(backTo cpos (starEach es X.env)).any (·.1)=false) : PE X (.Call (.Name c np) (e::es) [] cpos) (y9 C sp t):=by intro pins s σ H Q I h;refine thn (pD hex M F hr hb hg hm ha hdb he hpl I h) fun u s' zz79_0=>by obtain⟨a,H2,eu,_,I2,q⟩:=zz79_0;exact(⟨.ref a,H2,I2,eu,q⟩)
end
section
variable{M:Model}{A:Around}{E:Value->Shared->Prop}{s:Shared}{env:Env}{K:PySem.W.Frag}
theorem pV{x:Sem Value}{Q:Flow->Shared->Prop}(hh:A.handled=none)
 (h:wpAny M A x (fun v s1=>∃a C t dd oC,v=.ref a/\s1.heap.get? a=some (dU C t dd)/\(s1.heap.get? C=some oC/\oC.cls=.type "type")/\K.In s1.heap/\PySem.W.subIn K (.ref C) (.type "BaseException")=some true/\E (.ref a) s1) E s):wpAny M A (raiseStmt env (some x) none) Q E s:=by
 unfold raiseStmt
 refine wpAny_bind (wpAny_mono h (fun v s1 z=>?_) fun _ _ z=>z)
 obtain⟨a,C,t,dd,oC,rfl,ha,⟨hC,hCc⟩,X,hB,q⟩:=z
 have L0:=cQ (M:=M) ha rfl
 have L1:=PySem.W.looks_subIn (M:=M) X hB
 obtain⟨hp,gs,dr,tk,sys⟩:=s1
 unfold excFromValue isExcClass isType isInstance
 repeat (first|with_reducible refine wpAny_loadPart_at ha ?_|(with_reducible refine wpAny_loadPart_at hC ?_;rw[hCc])|with_reducible refine PySem.W.Looks.at L0 ?_|with_reducible refine PySem.W.Looks.at L1 ?_|wp_step)
 exact wpAny_raiseNew_none hh q
end
section
variable{P:Program}{w:World}{K:PySem.W.Frag}{mg:Str->Option Value}{base:Heap}{N:List Str}{qual:Str}{scope:Scope}{f:Addr}{cd:Value}{A:Around}{outer:List Env}{s:Shared}{H:Hp}{E:XK}
variable{k:Nat}{fI C S:Addr}{fd:FuncData}{ps:List Str}{sp:Sp}{c:Str}{np cpos pos:Pos}{e:Expr}{es:List Expr}{t:TA}
theorem pX(M:ClsI K C S fI)(hB:PySem.W.subIn K (.ref C) (.type "BaseException")=some true)(F:FnOk P w K mg base CX0 k fI fd ps sp)(hr:Room (k+1) (aU (bA P w) P w K mg base N qual scope f cd A outer s H E).A)(hb:Binds K fd ps [])(hg:Gl (aU (bA P w) P w K mg base N qual scope f cd A outer s H E) c)(hm:mg c=some (.ref C))(ha:PA (aU (bA P w) P w K mg base N qual scope f cd A outer s H E) (e::es) t)(hdb:(c==("__debug__":Str))=false) (he:starEach (e::es) (aU (bA P w) P w K mg base N qual scope f cd A outer s H E).env=(false,eval e (aU (bA P w) P w K mg base N qual scope f cd A outer s H E).env)::starEach es (aU (bA P w) P w K mg base N qual scope f cd A outer s H E).env) (hpl:(backTo cpos (starEach es (aU (bA P w) P w K mg base N qual scope f cd A outer s H E).env)).any (·.1)=false) : PS (aU (bA P w) P w K mg base N qual scope f cd A outer s H E) (.Raise (some (.Call (.Name c np) (e::es) [] cpos)) none pos) (fun D σ H1=>y9 C sp t σ H1 fun v H2=>∃a dd,v=.ref a/\H2 a=some (.ext (cR a C dd))/\E (.ref C) dd (eM H2 a)):=by intro pins s1 σ H1 D I q;rw[arm_exec_Raise];refine wpAny_bind (wpAny_standAt (pV (K:=K) (I.ok.hd rfl) (wpAny_bind (wpAny_mono (pD (Q:=fun v H2=>∃a dd,v=.ref a/\H2 a=some (.ext (cR a C dd))/\E (.ref C) dd (eM H2 a)) rfl M F hr hb hg hm ha hdb he hpl I q) (fun u s' z=>wpAny_bind (wpAny_standAt (wpAny_pure ?_))) fun _ _ z=>z))));obtain⟨a,H2,rfl,en,I2,a',dd,ea,hx,q2⟩:=z;cases ea;obtain⟨⟨t0,g⟩,_⟩:=I2.hok a _ hx;obtain⟨_,_,_,_,_,_,_,_,_,_,_,_,_,_,_,_,_,hC,_⟩:=M.at I2.kIn;exact⟨a,C,t0,dd,_,rfl,g,⟨hC,rfl⟩,I2.kIn,hB,pS I2 hx g en q2⟩
end
structure ErrK(K:PySem.W.Frag)(C:Addr):Prop where
 c:ErrC K C
 s:(PySem.W.clsIn K C).isSome=true
def zt:D->Option Value
 |.ty n=>some (.type n)
 |.ref d=>some (.ref d)
 |_=>none
section
variable{X:Cx}
def sW:V->List V->Hp->VK->Prop:=fun x vs H Q=>∃l,∃bs:List Bool,x=.ref l/\vs=[.bl true]/\H l=some (.lst (bs.map V.bl))/\Q (.int ((bs.countP (·==true):Nat):Int)) H
theorem rG:MtM X "list.count" sW:=by
 intro pins s σ H x vs v us Q I rx rv z0;obtain⟨l,bs,ex,ev,hH,q⟩:=z0;subst ex ev;cases rx;obtain⟨u1,rfl,r1⟩:=rv.one;cases (show u1=Value.bool true from r1);obtain⟨z,its,n,r,hl,e⟩:=I.pT hH;have hits:=fT r;subst hits;refine call_meets PySem.F.slot_list_count ⟨_,e,rfl⟩ PySem.F.entry_list_count (PySem.F.args_list_count_2 _ _) (PySem.SeqAt.list_countAt l (bs.map Value.bool).toArray n none #[] (.bool true) (fun y=>match y with|.bool b=>b==true|_=>false)) ⟨e,fun y hy=>?_,?_⟩
 ·simp only[List.mem_toArray,List.mem_map]at hy;obtain⟨b,_,rfl⟩:=hy;exact PySem.SeqAt.EqAt.bool_bool b true
 ·refine⟨.int _,H,I.tok _,⟨_,rfl⟩,?_⟩
  have:List.countP (fun y=>match y with|Value.bool b=>b==true|_=>false) (bs.map Value.bool)=bs.countP (·==true):=by
   rw[List.countP_map];rfl
  show Q (.int ((List.countP _ (bs.map Value.bool):Nat):Int)) H;rw[this];exact q
def xQ(to:TD)(t:TAD):TD:=fun δ M Q=>to δ M fun x M1=>∃l ys,x=.ref l/\M1 l=some (.lst ys)/\t δ M1 fun ds M2=>∃bs:List Bool,ds=[.bl true]/\M2 l=some (.lst (bs.map D.bl))/\Q (.int ((bs.countP (·==true):Nat):Int)) M2
theorem kh{K:PySem.W.Frag}{H:Hp}:∀{bs:List Bool} {xs:List V},aA K H (bs.map D.bl) xs->xs=bs.map V.bl
 |[],_,h=>by simpa[aA]using h
 |b::bs,_,h=>by
  rw[List.map_cons,aA]at h
  obtain⟨x,r,rfl,h1,h2⟩:=h
  rw[Rep]at h1
  rw[kh h2,h1];rfl
variable{o e1:Expr}{to:TD}{t:TAD}{apos cpos:Pos}
theorem mZ(ho:DE X o to)(ha:DA X [e1] t)
 (hbase:attributeBase o "count" X.env (eval o X.env)=eval o X.env:=by rfl)
 (hfew:((backTo cpos (starEach [e1] X.env)).all (fun x=>!x.1)&&(backToKw cpos (keywordEach [] X.env)).all (fun x=>x.1.isSome)
  && decide ([e1].length+([]:List Keyword).length+(if([]:List Keyword).isEmpty then 0 else 1)<30))=true:=by rfl)
 (hline:(apos.endLine==cpos.line)=true:=by rfl) (hs:starEach [e1] X.env=(false,eval e1 X.env)::starEach [] X.env:=by rfl) (hplain:(backTo cpos (starEach [] X.env)).any (·.1)=false:=by rfl) :
 DE X (.Call (.Attribute o "count" apos) [e1] [] cpos) (xQ to t):=
 aT (qI PySem.F.plainAttrs_list PySem.F.slot_list_count PySem.F.type_list_count rG ho ha hbase hfew hline hs hplain) fun σ H Q ⟨δ,M,R,hsl,hM,q,fin⟩=>by
  refine⟨δ,M,_,hsl,hM,q,fun x M1 v H1 g1 r1 a1 zz80_0=>?_⟩
  obtain⟨l,ys,ex,hl,q1⟩:=zz80_0
  subst ex
  rw[Rep]at r1
  subst r1
  obtain⟨vs,hvs,_⟩:=a1 _ _ hl
  refine⟨.inl ⟨rfl,vs,SqL.of hvs⟩,δ,M1,_,hsl.mono g1,a1,q1,fun ds M2 us H2 g2 r2 a2 zz81_0=>?_⟩
  obtain⟨bs,ed,hx,q2⟩:=zz81_0
  subst ed
  obtain⟨u1,rfl,ru1⟩:=bU r2
  rw[Rep]at ru1
  subst ru1
  obtain⟨ws,hws,rws⟩:=a2 _ _ hx
  have hw:=kh rws
  subst hw
  exact⟨l,bs,rfl,rfl,hws,fin _ _ _ _ (g1.trans g2) (by rw[Rep]) a2 q2⟩
end
def cl(K:PySem.W.Frag)(x:Str):Addr:=match PySem.W.nsIn K mainGlobals x with
 |some (some (.ref C))=>C
 |_=>0
section
variable{K:PySem.W.Frag}{x y:Str}{C D:Addr}{b:Bool}
theorem df(a:PySem.W.nsIn K mainGlobals x=some (some (.ref C))):cl K x=C:=by unfold cl;rw[a]
theorem gU{h:Heap}{mg:Str->Option Value}(X:K.In h)(G:h.Ns mainGlobals mg)(a:PySem.W.nsIn K mainGlobals x=some (some (.ref C))):mg x=some (.ref (cl K x)):=by rw[df a];exact PySem.W.mg_of X G a
theorem zQ(a:PySem.W.nsIn K mainGlobals x=some (some (.ref C)))(b:PySem.W.excIn K C veM "ValueError.__new__"=true):ClsE K x (cl K x):=by rw[df a];exact⟨a,b⟩
theorem kS{n:String}(a:PySem.W.nsIn K mainGlobals x=some (some (.ref C)))(h:PySem.W.subIn K (.ref C) (.type n)=some b):PySem.W.subIn K (.ref (cl K x)) (.type n)=some b:=by rw[df a];exact h
theorem sj(a:PySem.W.nsIn K mainGlobals x=some (some (.ref C)))(a':PySem.W.nsIn K mainGlobals y=some (some (.ref D)))(h:PySem.W.subIn K (.ref C) (.ref D)=some b):PySem.W.subIn K (.ref (cl K x)) (.ref (cl K y))=some b:=by rw[df a,df a'];exact h
theorem oP{n:String}(a:PySem.W.nsIn K mainGlobals x=some (some (.ref C)))(h:PySem.W.subIn K (.ref C) (.type n)=some b)(hk:PySem.W.kitMeta n=true):PySem.W.kitOne K (.ref (cl K x)) (.type n)=some b:=by rw[df a];unfold PySem.W.kitOne PySem.W.kitCls;rw[if_neg (by intro z;cases (beq_iff_eq.mp z))];show(if PySem.W.kitMeta n=true then _ else _)=_;rw[if_pos hk];exact h
theorem cu{dd:Option Addr}{cd:ClassData}{sl:Array (Option Value)}(a:PySem.W.nsIn K mainGlobals x=some (some (.ref C)))(a':PySem.W.nsIn K mainGlobals y=some (some (.ref D)))(h:PySem.W.subIn K (.ref C) (.ref D)=some b)(l:K.lookup D=some ⟨.type "type",dd,.cls cd,sl⟩)(ne:(C==D)=false):PySem.W.kitOne K (.ref (cl K x)) (.ref (cl K y))=some b:=by
 rw[df a,df a']
 have n:(Value.ref C==Value.ref D)=false:=by
  refine Bool.eq_false_iff.mpr fun q=>?_
  have e:C=D:=Value.ref.inj (beq_iff_eq.mp q)
  subst e
  simp at ne
 unfold PySem.W.kitOne PySem.W.kitCls;rw[n];unfold PySem.W.clsIn PySem.W.typeIn;simp only[l];exact h
theorem pI:PySem.W.kitOne K (.ref C) (.ref C)=some true:=by unfold PySem.W.kitOne;rw[if_pos (beq_self_eq_true _)]
theorem uZ{dd:Option Addr}{cd:ClassData}{sl:Array (Option Value)}(a:PySem.W.nsIn K mainGlobals x=some (some (.ref C)))(h1:PySem.W.findIn K (.ref C) "__getattribute__"=some (some (.builtin "BaseException.__getattribute__")))(h2:PySem.W.findIn K (.ref C) "__getattr__"=some none)(h3:PySem.W.findIn K (.ref C) "__class__"=some (some (.builtin "object.__class__"))) (h4:PySem.W.subIn K (.ref C) (.type "BaseException")=some true) (h5:PySem.W.mroIn K C (.type "object")=some true) (h6:K.lookup C=some ⟨.type "type",dd,.cls cd,sl⟩):ErrK K (cl K x):=by rw[df a];refine⟨⟨h1,h2,h3,h4,h5⟩,?_⟩;unfold PySem.W.clsIn;simp only[h6,Option.isSome]
end
theorem jw:bootBuiltins "ValueError"=some (.type "ValueError"):=by decide +kernel
section
variable{prog:Program}{w:World}{A:Around}{E:Value->Shared->Prop}{s:Shared}{K:PySem.W.Frag}{e C t0:Addr}{oe:Obj}{vs:Array Value}{m:Str}{tk:Tok}
end
section
variable{X:Cx}{pins:List (Addr×Obj)}{σ:L2.St}{H:Hp}{s:Shared}{a:Addr}
theorem i9{o:HO}(I:Inv X pins σ H s)(hn:H a=none)(h0:∀o,X.s₀.heap.get? a=some o->X.H₀ a≠none)(hL:a≠X.env.locals)(hc:∀x c,X.env.cells.lookup x=some c->c≠a)(hp:∀p∈X.pn++pins,p.1≠a)(hφ:bT X.prog X.w (upd H a o) s.heap a o):Inv X pins σ (upd H a o) s:=by
 have ne:∀{b:Addr} {o:HO},H b=some o->b≠a:=fun{b o} e z=>by rw[z,hn]at e;cases e
 refine⟨I.ok,I.os,I.bare,⟨I.base.keep,I.base.slot,fun b o e n hx=>?_,I.base.there,fun b xs e=>?_,fun b o u e=>?_,fun b ps e=>?_⟩,I.loc,I.cell,?_,fun x c e=>?_,fun p hpp=>?_,fun b o e=>?_,I.len⟩
 ·by_cases z:b=a
  ·subst z;exact absurd n (h0 o e)
  ·rw[az z];exact I.base.free b o e n hx
 ·have:=I.base.tups b xs e;rw[az (ne this)];exact this
 ·have:=I.base.frzs b o u e;rw[az (ne this)];exact this
 ·obtain⟨more,this⟩:=I.base.tbls b ps e;exact⟨more,by rw[az (ne this)];exact this⟩
 ·rw[az hL.symm];exact I.free
 ·rw[az (hc x c e)];exact I.freeC x c e
 ·obtain⟨e,n,r⟩:=I.pin p hpp;exact⟨e,by rw[az (hp p hpp)];exact n,r⟩
 ·by_cases z:b=a
  ·subst z;rw[aB]at e;cases e;exact hφ
  ·rw[az z]at e;exact(I.hok b o e).f6 (fun _ _ _ q=>q) (fun c q=>by rw[az (ne q)];exact q) fun c xs q=>by rw[az (ne q)];exact q
end
section
variable{X:Cx}{c:Str}{C:Addr}{np cpos pos p:Pos}{e₀:Expr}{te:TA}
end
section
variable{K:PySem.W.Frag}{x:Str}{C:Addr}
end
theorem KpD.use{α:Type}{t:Sem α}(k:KpD t){M:Model}{A:Around}{Q:α->Shared->Prop}{E:Value->Shared->Prop}{s:Shared}(h:wpAny M A t (fun a s'=>gv s.heap s'.heap->Q a s') E s):wpAny M A t Q E s:=wpAny_mono (KpD.any k h) (fun _ _ z=>z.1 z.2) fun _ _ z=>z.elim
def wt(X:Cx)(body:List Stmt)(tR:TR):Prop:=
 ∀(pins:List (Addr×Obj)) (s:Shared) (σ:L2.St) (H:Hp) (E:Hp->XK),Inv X pins σ H s->tR σ H E->wpAny (model X.prog X.w) X.A (execs body X.env) (fun _ _=>False) (fun e s'=>∃H1 s1,Inv X pins σ H1 s1/\bA X.prog X.w X.stack H1 s1 (E H1) e s') s
def xp(X:Cx)(ex:Expr)(tR:TR):Prop:=
 ∀(pins:List (Addr×Obj)) (s:Shared) (σ:L2.St) (H:Hp) (E:Hp->XK),Inv X pins σ H s->tR σ H E->wpAny (model X.prog X.w) X.A (eval ex X.env) (fun _ _=>False) (fun e s'=>∃H1 s1,Inv X pins σ H1 s1/\bA X.prog X.w X.stack H1 s1 (E H1) e s') s
section
variable{Y:Cx}{k:Nat}{f:Addr}{fd:FuncData}{ps:List Str}{sp:Sp}{x:Str}{p pos:Pos}{e:Expr}{es:List Expr}{t:TA}
theorem qV(F:FnOk Y.prog Y.w Y.K Y.mg Y.base (bA Y.prog Y.w) k f fd ps sp)(hr:Room k Y.A)(hg:Gl Y.nox x)(hm:Y.mg x=some (.ref f))(hk:PySem.W.keepIn Y.K (.ref f)=true)(hb:Binds Y.K fd ps [])
 (ha:PA Y.nox (e::es) t) (hdb:(x==("__debug__":Str))=false) (he:starEach (e::es) Y.env=(false,eval e Y.env)::starEach es Y.env) (hpl:(backTo pos (starEach es Y.env)).any (·.1)=false) :
 xp Y.nox (.Call (.Name x p) (e::es) [] pos) (fun σ H E=>t σ H fun vs H1=>sp vs H1 (fun _ _=>False) (E H1)):=by
 intro pins s σ H E I h
 refine wpAny_Call_Name_kw (eY I hg hm ?_ hdb)
 refine PySem.W.callWith_K (h₀:=Y.base) I.ok.mod.kin hk (thn (wpAny_mono (ha pos pins s σ H _ I h) (fun _ _ z=>z) (fun _ _ z=>z.elim)) fun us s1 ⟨vs,H1,I1,r,q⟩=>⟨I1.kIn,?_⟩) he hpl
 have hl:(us++[]).length=ps.length:=by rw[List.append_nil,<-r.length];exact F.len _ _ _ _ q
 have hbb:=hb s1 us I1.kIn hl
 rw[List.append_nil]at hbb
 refine wpAny_call (codeAny_mono (F.run Y.A Y.stack s1 H1 ⟨us,[]⟩ us vs _ (E H1) hr I1.xa hbb r q) fun r s' hq=>?_)
 cases r with
 |error e=>exact⟨H1,s1,I1,hq⟩
 |ok fl=>
  cases fl with
  |ret u=>obtain⟨v,H',_,_,_,_,_,z⟩:=hq;exact z.elim
  |next=>exact False.elim hq
  |brk=>exact False.elim hq
  |cont=>exact False.elim hq
theorem tQ{ex:Expr}{tR:TR}{y:Str}{pos':Pos}(h:xp Y.nox ex tR)(hs:swapsWith ex (some (.Name y pos')) pos.line Y.env=pure false):wt Y.nox [.Assign [.Name y pos'] ex pos] tR:=by intro pins s σ H E I q;refine wpAny_execs_cons (Q:=fun _ _=>False) (thn (Q:=fun _ _=>False) ?_ fun f s1 z=>z.elim);exact wpAny_Assign_Name (thn (h pins s σ H E I q) fun v s1 z=>z.elim) hs
end
def yu(K:PySem.W.Frag)(S:Addr)(j:Nat)(tb:TS)(tR:TR)(th:TS):TS:=fun D σ H=>tb D σ H\/
 tR σ H fun H1 cv dd H'=>∃C,cv=.ref C/\PySem.W.subIn K (.ref C) (.ref S)=some true/\(Grow K H1 H'->∀a,H' a=none->th (gone j D) (σ.set j (some (.ref a))) (upd H' a (.ext (kO a C dd))))
theorem tf{Y:Cx}{body:List Stmt}{b₀:Stmt}{bs:List Stmt}{c n:Str}{cp hp pos:Pos}{j:Nat}{S:Addr}{tb:TS}{tR:TR}{th:TS} (hst:Y.stack=Y.env::Y.outer) (hfr:Y.env.frame=some Y.env.locals) (hex:Y.ex=[]) (hN:Y.N.Nodup) (hj:Y.N[j]?=some n) (hk:Y.env.scope.names.lookup n=some .local) (hg:Gl Y.nox c) (hm:Y.mg c=some (.ref S)) (hdb:(c==("__debug__":Str))=false) (hS:PySem.W.excIn Y.K S veM "ValueError.__new__"=true) (hB:PySem.W.subIn Y.K (.ref S) (.type "BaseException")=some true) (hb:PSs Y.nox body tb) (hr:wt Y.nox body tR) (hh:∀a,PSs (hold Y.nox a) (b₀::bs) th) : PS Y.nox (.Try body [.ExceptHandler (some (.Name c cp)) (some n) (b₀::bs) hp] [] [] pos) (yu Y.K S j tb tR th):=by
 intro pins s σ H D I h;refine wpAny_Try_except ?_;rcases h with h|h
 ·refine wpAny_mono (hb pins s σ H D I h) (fun fl s1 q=>?_) (fun _ _ z=>z.elim);cases fl with
  |next=>exact wpAny_execs_nil q
  |brk=>exact q
  |cont=>exact q
  |ret u=>exact q
 ·refine wpAny_mono (hr pins s σ H _ I h) (fun _ _ z=>z.elim) fun e s' zz85_0=>?_;obtain⟨H1,s1,I1,a,C,dd,H',he,F,⟨oD,gD,dD⟩,C',hC,hsub,q⟩:=zz85_0;subst he;cases hC;obtain⟨b,a0,fl,hok,kp,thr⟩:=id F.bs;have fl3:s'.heap.FunFrames b (Y.env::Y.outer):=by rw[<-hst];exact fl.2.2.1
  have mk:∀h3:Heap,b.StaysIn h3->h3.FunFrames b (Y.env::Y.outer)->h3.TracedW b a (.ref C) a0->(∀x o,s'.heap.get? x=some o->(∀vs:Array Value,o.data≠.fields vs)->∃sl,h3.get? x=some { o with slots:=sl })->Fly Y.prog Y.w Y.stack H1 H' s1 { s' with heap:=h3 } a C:=
   fun h3 c1 c2 c3 c4=>⟨F.os,F.bare,⟨b,a0,⟨c1,fl.2.1,by rw[hst];exact c2,c3⟩,hok,kp,thr⟩,fun x o e n m=>by
    obtain⟨sl,g⟩:=F.slot x o e n m
    obtain⟨o',g',d⟩:=ic fl.2.2.1 m
    rw[g]at g';cases g'
    obtain⟨sl',g2⟩:=c4 x _ g d
    exact⟨sl',g2⟩,F.free,F.tups,F.frzs,F.tbls⟩
  refine KpD.use oZ (wpAny_noteFrame_onW (base:=b) (outer:=Y.outer) (L:=Y.env.locals) (by rw[<-hst];exact I1.ok.frames) fl3 hfr fl.2.2.2 fl.1 fl.2.1 fun h2 nt sd2=>?_);refine KpD.use dY (wpAny_setFlight_noneW (base:=b) (l:=Y.env::Y.outer) nt.1 nt.2.1 nt.2.2.1 fun h3 st3 ff3 tr3 kp3 sd3=>?_);have F3:=mk h3 st3 ff3 tr3 fun x o e d=>by obtain⟨sl,g⟩:=nt.2.2.2 x o e d;exact⟨sl,kp3 x _ g d⟩
  have I3:Inv Y.nox pins σ H' { s' with heap:=h3 }:=I1.sJ F3.os (F3.un I1.eV) F3.hok F3.bare (ch:=[]) (fun b z=>absurd z (by simp));refine wpAny_handleBy_cons (codeAny_handlers_test ?_) (by intro z;cases z);refine eY (X:=hold Y.nox a) (l9 I3) hg hm ?_ hdb;obtain⟨oe,vs,T,oT,ts,ho,⟨hcl,_⟩,_⟩:=id tr3;refine md (K:=Y.K) I3.kIn ho hcl hS hB hsub ?_;show codeAny _ _ (Code.handlers (.ref a) [.ExceptHandler none (some n) (b₀::bs) hp] Y.env) _ _;refine codeAny_handlers_suite_as ?_;refine KpD.use dY (wpAny_setFlight_noneW (base:=b) (l:=Y.env::Y.outer) st3 ff3 (show h3.TracedAtW b a (.ref C) a0 Value.none from tr3) fun h4 st4 ff4 tr4 kp4 sd4=>?_);have F4:=mk h4 st4 ff4 tr4 fun x o e d=>by obtain⟨sl,g⟩:=nt.2.2.2 x o e d;exact⟨sl,kp4 x _ (kp3 x _ g d) d⟩
  have I4:Inv Y.nox pins σ H' { s' with heap:=h4 }:=I1.sJ F4.os (F4.un I1.eV) F4.hok F4.bare (ch:=[]) (fun b z=>absurd z (by simp));have ex0:∀x:Addr,x∉Y.nox.ex:=fun x z=>by rw[show Y.nox.ex=[]from hex]at z;simp at z
  have I5:Inv Y.nox pins σ (upd H' a (.ext (kO a C dd))) { s' with heap:=h4 }:=by
   refine i9 I4 F4.new (fun o e n=>?_) (fun z=>?_) (fun x c e z=>?_) (fun p hp z=>?_) ?_
   ·obtain⟨sl,g⟩:∃sl,s1.heap.get? a=some { o with slots:=sl }:=by
     by_cases mf:a∈Y.nox.fs
     ·exact I1.base.slot a o e n mf (ex0 a)
     ·exact⟨o.slots,I1.base.keep a o e n mf (ex0 a)⟩
    exact F.apart g (I1.base.free a o e n (ex0 a)) rfl
   ·obtain⟨m,⟨o,_,_,g,_⟩,_⟩:=I1.loc;exact F.apart g I1.free z.symm
   ·obtain⟨v,o,g,_⟩:=I1.cell x c e;exact F.apart g (I1.freeC x c e) z
   ·obtain⟨g,n,_⟩:=I1.pin p hp;exact F.apart g n z
   ·obtain⟨oe,vs,T,oT,ts,ho,⟨hcl,_⟩,hdt,_⟩:=id tr4;obtain⟨o',g',d'⟩:=(sd2.trans (sd3.trans sd4)) a oD gD;have g':h4.get? a=some o':=g';rw[ho]at g';cases g';exact okX ⟨oe,ho,hcl,d'.trans dD,by unfold PySem.W.notCls;rw[hdt]⟩
  refine eD (X:=Y.nox) (v:=.ref a) I5 hN hj (.inl hk) rfl (fun s6 I6=>?_) (.inr hk);refine wpAny_mono (hh a pins s6 _ _ (gone j D) (l9 I6) (q (t4 (F.un I1.eV)) a F4.new)) (fun f s7 hs=>?_) (fun _ _ z=>z.elim);show wpAny _ _ (do bindName Y.env n Value.none;unbindBehindTheSuite Y.env n hp) (fun _ s₃=>SP Y.nox pins D f s₃) _ s7;cases f with
  |next=>obtain⟨σ',H2,J,z⟩:=hs;exact e7 (X:=Y.nox) (dN (X:=Y.nox) I.ok J) hN hj hk fun s8 J8=>⟨_,H2,J8,z⟩
  |brk=>obtain⟨σ',H2,J,z⟩:=hs;exact e7 (X:=Y.nox) (dN (X:=Y.nox) I.ok J) hN hj hk fun s8 J8=>⟨_,H2,J8,z⟩
  |cont=>obtain⟨σ',H2,J,z⟩:=hs;exact e7 (X:=Y.nox) (dN (X:=Y.nox) I.ok J) hN hj hk fun s8 J8=>⟨_,H2,J8,z⟩
  |ret u=>obtain⟨v,σ',H2,J,r,z⟩:=hs;exact e7 (X:=Y.nox) (dN (X:=Y.nox) I.ok J) hN hj hk fun s8 J8=>⟨v,_,H2,J8,r,z⟩
open PySem.W (findIn)
section
variable{X:Cx}
def Part(X:Cx)(e:Expr)(c:L2.St->Hp->Prop):Prop:=∀(pins:List (Addr×Obj)) (s:Shared) (σ:L2.St) (H:Hp),Inv X pins σ H s->c σ H->wpAny (model X.prog X.w) X.A (eval e X.env) (fun v s'=>∃x t,v=.str x t/\x.length<=1000/\Inv X pins σ H s') X.xe s
def Parts(X:Cx):List Expr->(L2.St->Hp->Prop)->Prop
 |[],c=>∀σ H,c σ H
 |e::es,c=>∃c1 c2,Part X e c1/\Parts X es c2/\∀σ H,c σ H->c1 σ H/\c2 σ H
theorem f9{x:Str}{j}{p:Pos}(h:x.length<=1000):Part X (.Constant (.str x) j p) (fun _ _=>True):=fun pins s σ H I _=>Calls.Constant_str ⟨x,_,rfl,h,I.tok _⟩
theorem sE:∀n:_root_.Fin 128,(Str.ofString (toString ((n.val:Nat):Int))).length<=1000:=by decide +kernel
def Small(v:V):Prop:=v=.non\/∃i:Int,v=.int i/\0<=i/\i<128
theorem jh{e:Expr}{te:TE}{p:Pos}(he:PE X e te):Part X (.FormattedValue e (-1) none p) (fun σ H=>te σ H fun v H1=>H1=H/\Small v):=by
 intro pins s σ H I h;refine wpAny_FormattedValue_plain (thn (he pins s σ H _ I h) fun v s1 z=>?_);obtain⟨x,H1,I1,r1,eH,q1⟩:=z;subst eH;rcases q1 with rfl|⟨i,rfl,h0,h1⟩
 ·cases (show v=Value.none from r1);exact wpAny_formatField_none ⟨_,_,rfl,by decide +kernel,I1.tok _⟩
 ·obtain⟨t,rfl⟩:=(show ∃t,v=Value.int i t from r1)
  have hz:i.natAbs.log2<1920:=by
   have:i.natAbs<2^7:=by omega
   by_cases z:i.natAbs=0
   ·rw[z];decide
   ·exact Nat.lt_trans ((Nat.log2_lt z).mpr this) (by decide)
  refine wpAny_formatField_int hz ⟨_,_,rfl,?_,I1.tok _⟩;have:=sE ⟨i.toNat,by omega⟩;rw[show((⟨i.toNat,by omega⟩:_root_.Fin 128).val:Int)=i by simp;omega]at this;exact this
theorem lJ{pins:List (Addr×Obj)}{Q:VK}{σ:L2.St}{H:Hp}:∀{es:List Expr} {ts:List (Sem Value)} {c:L2.St->Hp->Prop} {acc:Str} {s:Shared},ts=es.map (fun e=>eval e X.env)->Parts X es c->c σ H->Inv X pins σ H s->acc.length+1000*es.length<=sizeLine->(∀m,Q (.str m) H)->
 Joins (model X.prog X.w) X.A X.xe ts acc (fun out s1=>out.length<=sizeLine/\EP X pins σ Q (.str out s1.toks) { s1 with toks:=s1.toks+1 }) s
 |[],ts,c,acc,s,et,hp,hc,I,hl,q=>by
  subst et
  exact⟨by simpa using hl,.str acc,H,I.tok _,⟨_,rfl⟩,q _⟩
 |e::es,ts,c,acc,s,et,hp,hc,I,hl,q=>by
  subst et
  obtain⟨c1,c2,h1,h2,h3⟩:=hp
  obtain⟨d1,d2⟩:=h3 σ H hc
  refine wpAny_mono (h1 pins s σ H I d1) (fun v s1 z=>?_) fun _ _ z=>z
  obtain⟨x,t,rfl,lx,I1⟩:=z
  have la:(acc++x).length=acc.length+x.length:=PySem.Str.length_append acc x
  rw[List.length_cons]at hl
  exact⟨x,t,rfl,by omega,lJ rfl h2 d2 I1 (by omega) q⟩
def we(c:L2.St->Hp->Prop):TE:=fun σ H Q=>c σ H/\∀m,Q (.str m) H
theorem oR{e1 e2:Expr}{es:List Expr}{p:Pos}{c:L2.St->Hp->Prop}(h:Parts X (e1::e2::es) c)(hl:es.length<=10)(he:evalEach (e1::e2::es) X.env=(e1::e2::es).map (fun e=>eval e X.env)):PE X (.JoinedStr (e1::e2::es) p) (we c):=by
 intro pins s σ H Q I q;refine wpAny_JoinedStr ?_
 have:(Str.empty).length+1000*(e1::e2::es).length<=sizeLine:=by
  have z:20000<=sizeLine:=nbL rfl
  have y:(Str.empty).length=0:=rfl
  simp only[List.length_cons];omega
 exact lJ he h q.1 I this q.2
end
section
variable{X:Cx}{S:Addr}{c:Str}{a1 a2:Expr}{np apos cpos pos:Pos}{t:TA}
structure ClsB(K:PySem.W.Frag)(S:Addr):Prop where
 ga:PySem.W.specialIn K (.ref S) "__getattribute__"=some (some (.builtin "type.__getattribute__"))
 rd:PySem.W.readsIn K S (.type "type")=true
 fi:PySem.W.findCls K (.ref S) (.type "type") "__init__"=some (.val (.builtin "ValueError.__init__"))
def rD(K:PySem.W.Frag)(S:Addr)(t:TA):TE:=fun σ H Q=>t σ H fun vs H1=>∃a x C fI dd,vs=[.ref a,.str x]/\ClsI K C S fI/\H1 a=some (.ext (cR a C dd))/\Q .non (upd H1 a (.ext (cR a C dd)))
theorem pj{pl:Sem Bool}(B:ClsB X.K S)(hg:Gl X c)(hm:X.mg c=some (.ref S))(ha:PA X [a1,a2] t)(hdb:(c==("__debug__":Str))=false)(hst:starEach [a1,a2] X.env=(false,eval a1 X.env)::starEach [a2] X.env)(hpl:(backTo cpos (starEach [a2] X.env)).any (·.1)=false)
 (ht:eval (.Call (.Attribute (.Name c np) "__init__" apos) [a1,a2] [] cpos) X.env=(do
  let ov <-eval (.Name c np) X.env
  standAt apos.atName
  let(f,first) <-holding [ov] (getMethod ov "__init__" pl)
  callWith cpos f first (backTo cpos (starEach [a1,a2] X.env)) (backToKw cpos (keywordEach [] X.env)))):PE X (.Call (.Attribute (.Name c np) "__init__" apos) [a1,a2] [] cpos) (rD X.K S t):=by
 intro pins s σ H Q I h
 refine PySem.W.methodCall_KW (pl:=pl) (eY I hg hm ?_ hdb) ht
 refine PySem.W.method_cls I.kIn B.ga (PySem.W.cls_value I.kIn B.rd B.fi rfl ?_)
 have I0:=I.tok (s.toks+1)
 have hp2:((backTo cpos (starEach [a1,a2] X.env)).any (·.1)||false)=false:=by rw[hst];show((false||(backTo cpos (starEach [a2] X.env)).any (·.1))||false)=false;rw[hpl];rfl
 have ha2:=ha cpos pins _ σ H _ I0 h
 rw[hst]at ha2 hp2 ⊢
 refine PySem.W.callWith_of (P:=fun h=>X.K.In h) hp2 (fun h _=>⟨.machine,.inr (.inl rfl),.now⟩) (Calls.evalArgs_plain (thn ha2 fun us s1 z=>?_))
 obtain⟨vs,H1,I1,r,a,x,C,fI,dd,ev,M,hx,q⟩:=z
 subst ev
 obtain⟨u1,u2,rfl,ru1,ru2⟩:=vals2 r
 cases (show u1=Value.ref a from ru1)
 refine⟨I1.kIn,?_⟩
 obtain⟨⟨t0,g⟩,_⟩:=I1.hok a _ hx
 refine p5 M I1.kIn g fun h' kp g'=>⟨.non,_,I1.write (x:=a) (e:=a) (t':=s1.toks) (by rw[hx];exact True.intro) (.inl rfl) (fun b u ne e=>kp b u ne e) ⟨_,g'⟩ (okG g'),rfl,q⟩
end
section
variable{X:Cx}{o value:Expr}{f:Str}{pos pos':Pos}{ta tv:TE}
def pK(K:PySem.W.Frag)(ta tv:TE)(f:Str):TS:=fun D σ H=>tv σ H fun y H1=>ta σ H1 fun x H2=>∃a C S fI,x=.ref a/\ClsI K C S fI/\findIn K (.ref C) f=some none/\
 ((H2 a=some (.ext (cR a C none))/\∀dx,H2 dx=none->D.nx σ (upd (upd H2 a (.ext (cR a C (some dx)))) dx (.ext (jg dx [(f,y)]))))\/
  ∃dx fs,H2 a=some (.ext (cR a C (some dx)))/\H2 dx=some (.ext (jg dx fs))/\fs.length<=900/\D.nx σ (upd H2 dx (.ext (jg dx (gf f y fs)))))
theorem k9(ha:PE X o ta)(hv:PE X value tv)(hs:swapsWith value (some (.Attribute o f pos')) pos.line X.env=pure false):PS X (.Assign [.Attribute o f pos'] value pos) (pK X.K ta tv f):=by
 intro pins s σ H D I h;refine plainObj_wpAny_Assign_Attribute (thn (hv pins s σ H _ I h) fun u s1 ⟨y,H1,I1,ry,q⟩=>thn (ha pins s1 σ H1 _ I1 q) fun ov s2 z=>?_) hs;obtain⟨x,H2,I2,rx,a,C,S,fI,ex,M,hn,q2⟩:=z;subst ex;obtain rfl:ov=Value.ref a:=rx;rcases q2 with⟨hx,q2⟩|⟨dx,fs,hx,hdx,hl,q2⟩
 ·obtain⟨⟨t0,g⟩,_⟩:=I2.hok a _ hx;have hf:H2 s2.heap.objs.size=none:=I2.hok.fresh (Nat.le_refl _);have ne:s2.heap.objs.size≠a:=fun z=>by rw[z,hx]at hf;cases hf
  refine tD M I2.kIn g hn fun h' tk' kp g' n1=>?_;have I3:Inv X pins σ (upd H2 a (.ext (cR a C (some s2.heap.objs.size)))) { s2 with heap:=h',toks:=tk' }:=I2.write (x:=a) (e:=a) (by rw[hx];exact True.intro) (.inl rfl) (fun b u nb e=>kp b u nb e) ⟨_,g'⟩ (okG g');refine⟨σ,_,?_,q2 _ hf⟩;have hn2:upd H2 a (.ext (cR a C (some s2.heap.objs.size))) s2.heap.objs.size=none:=by rw[az ne];exact hf
  refine i9 I3 hn2 (fun o e n=>?_) (fun z=>?_) (fun x c e z=>?_) (fun p hp z=>?_) (okF ⟨_,n1,fun g=>?_,fun g hg=>?_⟩)
  ·exact absurd (Nat.lt_of_lt_of_le (Heap.lt_size e) I2.sz) (Nat.lt_irrefl _)
  ·exact absurd (z▸I2.lt) (Nat.lt_irrefl _)
  ·obtain⟨v,o,e',_⟩:=I2.cell x c e;exact absurd (z▸Heap.lt_size e') (Nat.lt_irrefl _)
  ·obtain⟨e',_⟩:=I2.pin p hp;exact absurd (z▸Heap.lt_size e') (Nat.lt_irrefl _)
  ·show ml (List.lookup g [(f,y)]) (if g=f then some u else none);by_cases z:g=f
   ·subst z;rw[if_pos rfl];simp only[List.lookup,beq_self_eq_true];exact ry
   ·rw[if_neg z];have:(g==f)=false:=beq_eq_false_iff_ne.mpr z;simp only[List.lookup,this];exact True.intro
  ·by_cases z:g=f
   ·subst z;simp
   ·exact absurd (show(if g=f then some u else none)=none by rw[if_neg z]) hg
 ·obtain⟨⟨t0,g⟩,_⟩:=I2.hok a _ hx;obtain⟨⟨mA,n0,r,wi⟩,_⟩:=I2.hok dx _ hdx;refine rX M I2.kIn g n0 wi (by rw[List.length_map];omega) hn fun h' tk' kp n1=>⟨σ,_,I2.write (x:=dx) (e:=dx) (by rw[hdx];exact True.intro) (.inl rfl) (fun b u nb e=>kp b u nb e) (let⟨o,_,_,e,_⟩:=n1;⟨o,e⟩) (okF ⟨_,n1,fun g=>?_,fun g hg=>?_⟩),q2⟩
  ·show ml ((gf f y fs).lookup g) (if g=f then some u else mA g);rw[gZ];by_cases z:g=f
   ·rw[if_pos z,if_pos z];exact ry
   ·rw[if_neg z,if_neg z];exact r g
  ·by_cases z:g=f
   ·rw[z];exact(gG f y fs).1
   ·refine(gG f y fs).2 g (wi g fun y=>hg ?_);show(if g=f then some u else mA g)=none;rw[if_neg z];exact y
structure ErrA(K:PySem.W.Frag)(C:Addr)(f:Str):Prop where
 c:ErrC K C
 hd:PySem.W.hasDictIn K C=true
 no:findIn K (.ref C) f=some none
def xR(K:PySem.W.Frag)(ta:TE)(f:Str):TE:=fun σ H Q=>ta σ H fun x H1=>∃a C dx fs v φ,x=.ref a/\H1 a=some (.ext φ)/\(∀h,φ h->kO a C (some dx) h)/\H1 dx=some (.ext (jg dx fs))/\ErrA K C f/\fs.lookup f=some v/\Q v H1
theorem tJ(he:PE X o ta)(hb:attributeBase o f X.env (eval o X.env)=eval o X.env):PE X (.Attribute o f pos) (xR X.K ta f):=by intro pins s σ H Q I h;refine tE hb (thn (he pins s σ H _ I h) fun u s1 z=>?_);obtain⟨x,H1,I1,rx,a,C,dx,fs,v,φ,ex,ea,im,ed,Z,l,q⟩:=z;subst ex;obtain rfl:u=Value.ref a:=rx;obtain⟨p,_⟩:=I1.hok a _ ea;obtain⟨oe,g,hc,hd,hnc⟩:=im _ p;obtain⟨⟨mA,n0,r,_⟩,_⟩:=I1.hok dx _ ed;obtain⟨u,hu,ru⟩:=ml.some_of (v:=v) (o:=mA f) (by rw[<-l];exact r f);exact tK F.excAttr_ValueError.ga I1.kIn Z.c Z.hd g hc hnc hd n0 hu Z.no (qc ru) ⟨v,H1,I1.tok _,ru,q⟩
end
inductive SmD:D->Prop
 |non:SmD .non
 |int {i:Int} (h0:0<=i) (h1:i<128):SmD (.int i)
def sV:D->V
 |.int i=>.int i
 |_=>.non
theorem SmD.rep{K:PySem.W.Frag}{H:Hp}{d:D}{v:V}(h:SmD d)(r:Rep K H d v):v=sV d/\Small v:=by
 cases h with
 |non=>rw[Rep]at r;exact⟨r,.inl r⟩
 |int h0 h1=>rw[Rep]at r;exact⟨r,.inr ⟨_,r,h0,h1⟩⟩
theorem SmD.back{K:PySem.W.Frag}{H:Hp}{d:D}(h:SmD d):Rep K H d (sV d):=by
 cases h with
 |non=>rw[Rep];rfl
 |int h0 h1=>rw[Rep];rfl
def cH(C:Addr)(dd:Option Addr):MO:=.gen fun K H a=>∃φ,H a=some (.ext φ)/\∀h,φ h->kO a C dd h
def lH(fs:List (Str×D)):MO:=.gen fun K H d=>H d=some (.ext (jg d (fs.map fun p=>(p.1,sV p.2))))
theorem yx{K:PySem.W.Frag}{H:Hp}{a C:Addr}{dd:Option Addr}{φ:Heap->Prop}(h:H a=some (.ext φ))(k:∀h,φ h->kO a C dd h):km K H a (cH C dd):=⟨⟨φ,h,k⟩,by rw[h];simp,fun H' g e=>⟨φ,e.trans h,k⟩⟩
theorem yL{K:PySem.W.Frag}{H:Hp}{d:Addr}{fs:List (Str×D)}(h:H d=some (.ext (jg d (fs.map fun p=>(p.1,sV p.2))))):km K H d (lH fs):=⟨h,by rw[h];simp,fun H' g e=>e.trans h⟩
theorem Abs.uo{K:PySem.W.Frag}{H:Hp}{M:MH}{p:Addr}{o:HO}{m:MO}(h:Abs K H M)(hp:H p=none)(q:km K (upd H p o) p m):Abs K (upd H p o) (ay M p m):=fun a u e=>by
 by_cases ne:a=p
 ·subst ne;rw[ag]at e;cases e;exact q
 ·rw[au ne]at e;exact(h a u e).f6 (.new hp) (az ne)
theorem jW(f:Str):∀fs:List (Str×D),(fs.map fun p=>(p.1,sV p.2)).lookup f=(fs.lookup f).map sV
 |[]=>rfl
 |(x,d)::r=>by
  simp only[List.map_cons,List.lookup]
  cases f==x with
  |true=>rfl
  |false=>exact jW f r
def spI(C:Addr)(names:List Str):Sp:=fun vs H Q _=>∃a ys,vs=.ref a::ys/\ys.length=names.length/\(∀y∈ys,Small y)/\H a=some (.ext (cR a C none))/\
 ∀dx,H dx=none->Q .non (upd (upd H a (.ext (cR a C (some dx)))) dx (.ext (jg dx (names.zip ys))))
def MkE(P:Program)(w:World)(K:PySem.W.Frag)(mg:Str->Option Value)(base:Heap)(k:Nat)(c:Str)(C:Addr)(names:List Str):Prop:=
 ∃S fI fd ps,ClsI K C S fI/\PySem.W.subIn K (.ref C) (.type "BaseException")=some true/\FnOk P w K mg base CX0 k fI fd ps (spI C names)/\Binds K fd ps []/\mg c=some (.ref C)
theorem MkE.mono{P:Program}{w:World}{K:PySem.W.Frag}{mg:Str->Option Value}{base:Heap}{j k:Nat}{c:Str}{C:Addr}{names:List Str}(h:MkE P w K mg base j c C names)(l:j<=k):MkE P w K mg base k c C names:=let⟨S,fI,fd,ps,M,B,F,r⟩:=h;⟨S,fI,fd,ps,M,B,F.mono l,r⟩
theorem kq:∀{names:List Str} {ds:List D} {vs:List V} {K:PySem.W.Frag} {H:Hp},aA K H ds vs->(∀d∈ds,SmD d)->(names.zip ds).map (fun p=>(p.1,sV p.2))=names.zip vs/\∀v∈vs,Small v
 |names,[],vs,K,H,r,h=>by
  rw[aA]at r;subst r
  exact⟨by simp,by simp⟩
 |names,d::ds,vs,K,H,r,h=>by
  rw[aA]at r
  obtain⟨v,r',rfl,r1,r2⟩:=r
  obtain⟨e,sm⟩:=(h d List.mem_cons_self).rep r1
  cases names with
  |nil=>
   obtain⟨_,z2⟩:=kq (names:=[]) r2 (fun d hd=>h d (List.mem_cons_of_mem _ hd))
   exact⟨rfl,fun x hx=>(List.mem_cons.mp hx).elim (fun z=>z▸sm) (z2 x)⟩
  |cons n ns=>
   obtain⟨z1,z2⟩:=kq (names:=ns) r2 (fun d hd=>h d (List.mem_cons_of_mem _ hd))
   exact⟨by rw[List.zip_cons_cons,List.map_cons,z1,e];rfl,fun x hx=>(List.mem_cons.mp hx).elim (fun z=>z▸sm) (z2 x)⟩
def zp(C:Addr)(names:List Str)(t:TAD):TD:=fun δ M Q=>t δ M fun ds M1=>ds.length=names.length/\ds.length<=1000/\(∀d∈ds,SmD d)/\∀a dx,M1 a=none->M1 dx=none->a≠dx->Q (.ref a) (ay (ay M1 a (cH C (some dx))) dx (lH (names.zip ds)))
section
variable{X:Cx}{k:Nat}{C:Addr}{names:List Str}{c f:Str}{np cpos pos:Pos}{e o:Expr}{es:List Expr}{t:TAD}{ta:TD}
theorem nj(M:MkE X.prog X.w X.K X.mg X.base k c C names)(hr:Room (k+1) X.A)(ha:DA X (e::es) t)(hg:Gl X c:=by rfl)(hex:X.ex=[]:=by rfl)(hdb:(c==("__debug__":Str))=false:=by decide)(he:starEach (e::es) X.env=(false,eval e X.env)::starEach es X.env:=by rfl)(hpl:(backTo cpos (starEach es X.env)).any (·.1)=false:=by rfl) :
 DE X (.Call (.Name c np) (e::es) [] cpos) (zp C names t):=by
 obtain⟨S,fI,fd,ps,M,B,F,hb,hm⟩:=M
 refine aT (xA hex M F hr hb hg hm ha hdb he hpl) fun σ H Q ⟨δ,M0,R,hs,hM,q,fin⟩=>⟨δ,M0,_,hs,hM,q,fun ds M1 vs H1 g1 r1 a1 z=>?_⟩
 obtain⟨l1,l2,sm,q1⟩:=z
 obtain⟨ez,sv⟩:=kq (names:=names) r1 sm
 refine⟨by rw[<-r1.length];exact Nat.le_trans l2 (by decide),fun a ha=>⟨a,vs,rfl,by rw[<-r1.length,l1],sv,aB,fun dx hdx=>⟨rfl,?_⟩⟩⟩
 have ne:dx≠a:=fun z=>by subst z;rw[aB]at hdx;cases hdx
 have hd1:H1 dx=none:=by rw[az ne]at hdx;exact hdx
 rw[iu]
 have A1:Abs X.K (upd H1 a (.ext (cR a C (some dx)))) (ay M1 a (cH C (some dx))):=a1.uo ha (yx aB fun h z=>z.x)
 have hd2:upd H1 a (.ext (cR a C (some dx))) dx=none:=by rw[az ne];exact hd1
 refine fin _ _ _ _ ((g1.trans (.new ha)).trans (.new hd2)) (by rw[Rep]) (A1.uo hd2 ?_) (q1 a dx (a1.fresh ha) (a1.fresh hd1) ne.symm)
 rw[<-ez]
 exact yL aB
def wM(K:PySem.W.Frag)(ta:TD)(f:Str):TD:=fun δ M Q=>ta δ M fun x M1=>∃a C dx fs d,x=.ref a/\M1 a=some (cH C (some dx))/\M1 dx=some (lH fs)/\ErrA K C f/\fs.lookup f=some d/\SmD d/\Q d M1
theorem eP(he:DE X o ta)(hb:attributeBase o f X.env (eval o X.env)=eval o X.env:=by rfl):DE X (.Attribute o f pos) (wM X.K ta f):=
 aT (tJ he hb) fun σ H Q zz86_0=>by obtain⟨δ,M,R,hs,hM,q,fin⟩:=zz86_0;exact(⟨δ,M,_,hs,hM,q,fun x M1 v H1 g1 r1 a1 z=>by
  obtain⟨a,C,dx,fs,d,ex,h1,h2,Z,l,sm,q1⟩:=z
  subst ex
  rw[Rep]at r1;subst r1
  obtain⟨⟨φ,ea,im⟩,_⟩:=a1 _ _ h1
  obtain⟨ed,_⟩:=a1 _ _ h2
  exact⟨a,C,dx,_,sV d,φ,rfl,ea,im,ed,Z,by rw[jW,l];rfl,fin _ _ _ _ g1 sm.back a1 q1⟩⟩)
def rQ(K:PySem.W.Frag):RC:=fun ds M Q=>lu K ds M Q\/∃a C dd c cv b,ds=[.ref a,c]/\M a=some (cH C dd)/\ErrK K C/\zt c=some cv/\PySem.W.kitOne K (.ref C) cv=some b/\Q (.bl b) M
theorem aY{K:PySem.W.Frag}(hK:X.K=K):di X (.builtin "isinstance") (rQ K):=by
 subst hK;intro pins s σ H vs us Q I rv z0;obtain⟨ds,M,R,rs,a,q,fin⟩:=z0;rcases q with q|⟨x,C,dd,c,cv,b,ed,hM,z,hc,hk,q⟩
 ·exact qj pins s σ H vs us Q I rv ⟨ds,M,R,rs,a,q,fin⟩
 ·subst ed;obtain⟨v,u,rfl,r,r'⟩:=g9 rs;rw[Rep]at r;subst r;obtain⟨v',u',rfl,rw0,ru⟩:=vals2 rv;cases (show v'=Value.ref x from rw0)
  have eu:u'=cv:=by
   cases c with
   |ty n=>cases hc;rw[Rep]at r';subst r';exact ru
   |ref d=>cases hc;rw[Rep]at r';subst r';exact ru
   |_=>cases hc
  subst eu;obtain⟨⟨φ,ea,im⟩,_⟩:=a _ _ hM;obtain⟨p,_⟩:=I.hok x _ ea;obtain⟨o,g1,g2,_⟩:=im _ p;have h:∀tk,EP X pins σ Q (.bool b) { s with toks:=tk }:=fun tk=>⟨.bl b,H,I.tok tk,rfl,fin _ _ _ _ .refl (by rw[Rep]) a q⟩;exact PySem.W.kia_one (tU F.excAttr_ValueError.ga z.c z.s) I.kIn ⟨o,g1,g2⟩ hk (fun z=>nomatch z) h
end
abbrev RK:=Addr->Option Addr->MH->Prop
section
variable{P:Program}{w:World}{K:PySem.W.Frag}{mg:Str->Option Value}{base:Heap}{N:List Str}{qual:Str}{scope:Scope}{f:Addr}{cd:Value}{A:Around}{outer:List Env}{s:Shared}{H:Hp}{E:XK}
def ra(R:RK)(C:Addr)(names:List Str)(t:TAD):TSD:=fun B δ M=>t δ M fun ds M1=>ds.length=names.length/\ds.length<=1000/\(∀d∈ds,SmD d)/\∀dx,M1 dx=none->R C (some dx) (ay M1 dx (lH (names.zip ds)))
theorem jX{R:RK}{k:Nat}{C:Addr}{names:List Str}{c:Str}{np cpos pos:Pos}{e:Expr}{es:List Expr}{t:TAD}(hE:∀C dd M' H',Abs K H' M'->R C dd M'->E (.ref C) dd H')(M:MkE P w K mg base k c C names)(hr:Room (k+1) (aU (bA P w) P w K mg base N qual scope f cd A outer s H E).A)(ha:DA (aU (bA P w) P w K mg base N qual scope f cd A outer s H E) (e::es) t)(hg:Gl (aU (bA P w) P w K mg base N qual scope f cd A outer s H E) c:=by rfl)(hdb:(c==("__debug__":Str))=false:=by decide) (he:starEach (e::es) (aU (bA P w) P w K mg base N qual scope f cd A outer s H E).env=(false,eval e (aU (bA P w) P w K mg base N qual scope f cd A outer s H E).env)::starEach es (aU (bA P w) P w K mg base N qual scope f cd A outer s H E).env:=by rfl) (hpl:(backTo cpos (starEach es (aU (bA P w) P w K mg base N qual scope f cd A outer s H E).env)).any (·.1)=false:=by rfl) : DSt (aU (bA P w) P w K mg base N qual scope f cd A outer s H E) (.Raise (some (.Call (.Name c np) (e::es) [] cpos)) none pos) (ra R C names t):=by
 obtain⟨S,fI,fd,ps,M,B,F,hb,hm⟩:=M;refine bZ (pX M B F hr hb hg hm ha hdb he hpl) fun D σ H1 ⟨δ,M0,hs,a0,B0,ok,q⟩=>⟨δ,M0,_,hs,a0,q,fun ds M1 vs H1 g1 r1 a1 z=>?_⟩;obtain⟨l1,l2,sm,q1⟩:=z;obtain⟨ez,sv⟩:=kq (names:=names) r1 sm;refine⟨by rw[<-r1.length];exact Nat.le_trans l2 (by decide),fun a ha=>⟨a,vs,rfl,by rw[<-r1.length,l1],sv,aB,fun dx hdx=>⟨rfl,a,some dx,rfl,?_,hE C (some dx) _ _ ?_ (q1 dx ?_)⟩⟩⟩
 ·have ne:dx≠a:=fun z=>by subst z;rw[aB]at hdx;cases hdx
  rw[az ne.symm,aB]
 ·have ne:dx≠a:=fun z=>by subst z;rw[aB]at hdx;cases hdx
  have hd1:H1 dx=none:=by rw[az ne]at hdx;exact hdx
  have eH:eM (upd (upd (upd H1 a (.ext (cR a C none))) a (.ext (cR a C (some dx)))) dx (.ext (jg dx (names.zip vs)))) a=upd H1 dx (.ext (jg dx (names.zip vs))):=by
   funext b
   by_cases z:b=a
   ·subst z;rw[nR,az ne.symm];exact ha.symm
   ·rw[cJ z];by_cases y:b=dx
    ·subst y;rw[aB,aB]
    ·rw[az y,az z,az z,az y]
  rw[eH];refine a1.uo hd1 ?_;rw[<-ez];exact yL aB
 ·have ne:dx≠a:=fun z=>by subst z;rw[aB]at hdx;cases hdx
  rw[az ne]at hdx;exact a1.fresh hdx
abbrev nT:=List D->MH->RK->Prop
def rC(K:PySem.W.Frag)(sp:nT):Sp:=fun vs H _ E=>∃ds M R,aA K H ds vs/\Abs K H M/\sp ds M R/\∀C dd M' H',Abs K H' M'->R C dd M'->E (.ref C) dd H'
def kb(P:Program)(w:World)(K:PySem.W.Frag)(mg:Str->Option Value)(base:Heap)(k:Nat)(x:Str)(sp:nT):Prop:=
 ∃f fd ps,FnOk P w K mg base (bA P w) k f fd ps (rC K sp)/\mg x=some (.ref f)/\PySem.W.keepIn K (.ref f)=true/\Binds K fd ps []
theorem kb.mono{j k:Nat}{x:Str}{sp:nT}(h:kb P w K mg base j x sp)(l:j<=k):kb P w K mg base k x sp:=let⟨f,fd,ps,F,r⟩:=h;⟨f,fd,ps,F.mono l,r⟩
end
section
variable{P:Program}{w:World}{K:PySem.W.Frag}{mg:Str->Option Value}{base:Heap}
theorem ze{x:Str}{st:Stmt}{N ps:List Str}{k:Nat}{sp:nT}(T:Txt K mg x st)(S:FnScope N ps (ao st))
 (hb:∀(kV doc pm:Value) (an:Option Addr) (cdv ct:Value) (us:List Value),us.length=ps.length->bindArgs (PySem.W.fnOf x x (bD st) (aV st) (ao st) .none kV doc pm an cdv ct) ⟨us,[]⟩=pure (ps.zip us))
 (len:∀ds M R,sp ds M R->ds.length=ps.length)
 (body:∀(f:Addr) (cdv:Value) (A:Around) (outer:List Env) (s:Shared) (H:Hp) (E:XK) (R:RK),Room k (A.deeper (envOfC x (ao st) s.heap.objs.size f cdv))->(∀C dd M' H',Abs K H' M'->R C dd M'->E (.ref C) dd H')->
  ∃t,DSs (aU (bA P w) P w K mg base N x (ao st) f cdv A outer s H E) (aV st) t/\∀ds M,sp ds M R->t { nx:=fun _ _=>False,rt:=fun _ _=>False } (gN N ds) M):kb P w K mg base (k+1) x sp:=by
 obtain⟨f,fd,F,hm⟩:=T
 have hbb:=F.binds hb
 have hkp:=F.kp
 obtain⟨oc,od,kV,doc,pm,an,cdv,ct,osl,rfl,lk,hcd⟩:=F.ex
 refine⟨f,_,ps,u5 lk hcd S (fun vs H Q E zz88_0=>by obtain⟨ds,M,R,rs,_,q,_⟩:=zz88_0;rw[<-rs.length];exact len _ _ _ q) (fun A outer s H vs Q E hr zz89_0=>?_),hm,hkp,hbb⟩
 obtain⟨ds,M,R,rs,a,q,hE⟩:=zz89_0
 obtain⟨t,ht,hq⟩:=body f cdv A outer s H E R hr hE
 exact⟨_,ht,gN N ds,M,gW rs,a,{ nx:=fun _ _=>False,rt:=fun _ _=>False },⟨fun _ _ _ _ _ _ _ z=>z.elim,fun _ _ _ _ _ _ _ z=>z.elim,fun _ _ _ _ _ _ _ z=>z,fun _ _ _ _ _ _ _ z=>z⟩,hq ds M q⟩
end
abbrev tu:=DS->MH->RK->Prop
def oa(K:PySem.W.Frag)(t:tu):TR:=fun σ H E=>∃δ M R,Slots K H δ σ/\Abs K H M/\t δ M R/\∀C dd M' H1 H',Grow K H H1->Abs K H' M'->R C dd M'->E H1 (.ref C) dd H'
def t8(sp:nT)(t:TAD):tu:=fun δ M R=>t δ M fun ds M1=>sp ds M1 R
section
variable{Y:Cx}
theorem qf{k:Nat}{x:Str}{sp:nT}{p pos:Pos}{e:Expr}{es:List Expr}{t:TAD}(C:kb Y.prog Y.w Y.K Y.mg Y.base k x sp)(hr:Room k Y.A)(ha:DA Y.nox (e::es) t)(hg:Gl Y.nox x:=by rfl)(hdb:(x==("__debug__":Str))=false:=by decide) (he:starEach (e::es) Y.env=(false,eval e Y.env)::starEach es Y.env:=by rfl) (hpl:(backTo pos (starEach es Y.env)).any (·.1)=false:=by rfl):xp Y.nox (.Call (.Name x p) (e::es) [] pos) (oa Y.K (t8 sp t)):=by obtain⟨f,fd,ps,F,hm,hk,hb⟩:=C;intro pins s σ H E I ⟨δ,M,R,hs,hM,q,fin⟩;exact qV F hr hg hm hk hb ha hdb he hpl pins s σ H E I ⟨δ,M,_,hs,hM,q,fun ds M1 vs H1 g1 r1 a1 q1=>⟨ds,M1,R,r1,a1,q1,fun C dd M' H' a' q'=>fin C dd M' H1 H' g1 a' q'⟩⟩
def xB(K:PySem.W.Frag)(S:Addr)(j:Nat)(tb:TSD)(tR:tu)(th:TSD):TSD:=fun B δ M=>tb B δ M\/
 tR δ M fun C dd M'=>PySem.W.subIn K (.ref C) (.ref S)=some true/\∀a,M' a=none->th (vb j B) (δ.set j (some (.ref a))) (ay M' a (cH C dd))
theorem uf{body:List Stmt}{b₀:Stmt}{bs:List Stmt}{c n:Str}{cp hp pos:Pos}{S:Addr}{tb:TSD}{tR:tu}{th:TSD}(j:Nat)(hN:Y.N.Nodup)(cl:ClsE Y.K c S)(hm:Y.mg c=some (.ref S))(hB:PySem.W.subIn Y.K (.ref S) (.type "BaseException")=some true)
 (hb:DSs Y.nox body tb) (hr:wt Y.nox body (oa Y.K tR)) (hh:∀a,DSs (hold Y.nox a) (b₀::bs) th)
 (hj:Y.N[j]?=some n:=by rfl) (hk:Y.env.scope.names.lookup n=some .local:=by rfl) (hg:Gl Y.nox c:=by rfl) (hdb:(c==("__debug__":Str))=false:=by decide) (hst:Y.stack=Y.env::Y.outer:=by rfl) (hfr:Y.env.frame=some Y.env.locals:=by rfl) (hex:Y.ex=[]:=by rfl) :
 DSt Y.nox (.Try body [.ExceptHandler (some (.Name c cp)) (some n) (b₀::bs) hp] [] [] pos) (xB Y.K S j tb tR th):=
 bZ (tf (tb:=pH Y.K tb) (tR:=oa Y.K tR) (th:=pH Y.K th) hst hfr hex hN hj hk hg hm hdb cl.ex hB hb hr hh) fun D σ H ⟨δ,M,hs,a,B,ok,q⟩=>by
  rcases q with q|q
  ·exact .inl ⟨δ,M,hs,a,B,ok,q⟩
  ·refine .inr ⟨δ,M,_,hs,a,q,fun C dd M' H1 H' g1 a' z=>⟨C,rfl,z.1,fun g2 x hx=>?_⟩⟩
   have g3:Grow Y.K H (upd H' x (.ext (kO x C dd))):=(g1.trans g2).trans (.new hx)
   refine⟨δ.set j (some (.ref x)),ay M' x (cH C dd),(hs.mono g3).set (by rw[Rep]) j,a'.uo hx (yx aB fun h z=>z),vb j B,?_,z.2 x (a'.fresh hx)⟩
   exact⟨fun δ' M2 σ' H2 g' s' a2 z=>ok.nx _ _ _ _ (g3.trans g') (s'.gone j) a2 z,fun d M2 v H2 g' r a2 z=>ok.rt _ _ _ _ (g3.trans g') r a2 z,fun δ' M2 σ' H2 g' s' a2 z=>ok.bk _ _ _ _ (g3.trans g') (s'.gone j) a2 z,fun δ' M2 σ' H2 g' s' a2 z=>ok.ct _ _ _ _ (g3.trans g') (s'.gone j) a2 z⟩
end
def lT(s:Stmt)(i:Nat):Stmt:=match s with
 |.ClassDef _ _ _ b _ _ _ _ _ _ _=>b.getD i (.Pass ⟨0,0,0,0⟩)
 |_=>.Pass ⟨0,0,0,0⟩
section
variable{X:Cx}{e:Expr}{es:List Expr}{c1 c2:L2.St->Hp->Prop}
theorem parts_nil:Parts X [] (fun _ _=>True):=fun _ _=>trivial
theorem bI(h1:Part X e c1)(h2:Parts X es c2):Parts X (e::es) (fun σ H=>c1 σ H/\c2 σ H):=⟨c1,c2,h1,h2,fun _ _ z=>z⟩
end
section
variable{P:Program}{w:World}{K:PySem.W.Frag}{mg:Str->Option Value}{base:Heap}{C S fI:Addr}{n1 n2:Str}{N:List Str}{vs:List V}{H:Hp}{Q:VK}{E:XK}{c:L2.St->Hp->Prop}
theorem xY(M:ClsI K C S fI)(h1:findIn K (.ref C) n1=some none)(hN:N.length=2)(h:spI C [n1] vs H Q E)(hc:∀a y,Small y->c [some (.ref a),some y] H) :
 uC (sG (rD K S (mr (jr 0) (mr (we c) wx)))) (pK K (jr 0) (jr 1) n1) { nx:=fun _ H'=>Q .non H',rt:=Q } (L2.start N vs) H:=by
 obtain⟨a,ys,rfl,hl,sm,hx,q⟩:=h
 match ys,hl with
 |[y],_=>
  have e:L2.start N [.ref a,y]=[some (.ref a),some y]:=by unfold L2.start;rw[hN];rfl
  rw[e]
  refine⟨_,rfl,hc a y (sm y (by simp)),fun m=>⟨a,m,C,fI,none,rfl,M,hx,?_⟩⟩
  exact⟨_,rfl,_,rfl,a,C,S,fI,rfl,M,h1,.inl ⟨aB,fun dx hd=>by
   have ne:dx≠a:=fun z=>by subst z;rw[aB]at hd;cases hd
   rw[iu];rw[az ne]at hd;exact q dx hd⟩⟩
theorem y4(M:ClsI K C S fI)(h1:findIn K (.ref C) n1=some none)(h2:findIn K (.ref C) n2=some none)(hne:n1≠n2)(hN:N.length=3)(h:spI C [n1,n2] vs H Q E)(hc:∀a y z,Small y->Small z->c [some (.ref a),some y,some z] H) :
 uC (sG (rD K S (mr (jr 0) (mr (we c) wx)))) (uC (pK K (jr 0) (jr 1) n1) (pK K (jr 0) (jr 2) n2)) { nx:=fun _ H'=>Q .non H',rt:=Q } (L2.start N vs) H:=by
 obtain⟨a,ys,rfl,hl,sm,hx,q⟩:=h
 match ys,hl with
 |[y,z],_=>
  have e:L2.start N [.ref a,y,z]=[some (.ref a),some y,some z]:=by unfold L2.start;rw[hN];rfl
  rw[e]
  refine⟨_,rfl,hc a y z (sm y (by simp)) (sm z (by simp)),fun m=>⟨a,m,C,fI,none,rfl,M,hx,?_⟩⟩
  refine⟨_,rfl,_,rfl,a,C,S,fI,rfl,M,h1,.inl ⟨aB,fun dx hd=>?_⟩⟩
  have ne:dx≠a:=fun z=>by subst z;rw[aB]at hd;cases hd
  rw[iu];rw[az ne]at hd
  refine⟨_,rfl,_,rfl,a,C,S,fI,rfl,M,h2,.inr ⟨dx,_,by rw[az ne.symm];exact aB,aB,(show 1<=900 by decide),?_⟩⟩
  rw[iu]
  have ep:gf n2 z [(n1,y)]=[(n1,y),(n2,z)]:=by
   rw[gf,if_neg hne,gf]
  rw[ep]
  exact q dx hd
end
section
variable{K:PySem.W.Frag}{mg:Str->Option Value}{x y qual:Str}{st:Stmt}{C S fI:Addr}
theorem mT{n:Str}(a:PySem.W.nsIn K mainGlobals x=some (some (.ref C)))(h:findIn K (.ref C) n=some none):findIn K (.ref (cl K x)) n=some none:=by rw[df a];exact h
theorem rK{n:String}(h:PySem.W.excIn K S veM n=true):PySem.W.tailIn K veM (.ref S::veM)=true:=by
 unfold PySem.W.excIn at h;split at h
 ·rename_i dct cd sl hl;split at h
  ·simp only[Bool.and_eq_true,beq_iff_eq]at h;unfold PySem.W.tailIn;simp only[hl,Bool.or_eq_true,Bool.and_eq_true,beq_iff_eq];refine .inr ⟨⟨h.1.2,h.2⟩,?_⟩;unfold PySem.W.tailIn;simp
  ·cases h
 ·cases h
theorem oH{cn cq:Str}{NS fI:Addr}{bss:List Value}{hdct:Bool}{sn:List Str}{sub:List Value}{ab:Bool}{col:Option Bool}{dd:Option Addr}{k0 k1 k2 k3 k5:Option Value}{nc:Value}{nd:Option Addr}{es:Array DictEntry}{en:Nat}{ns:Array (Option Value)}{oc:Value}{od an:Option Addr}{osl:Array (Option Value)}{kV doc pm cdv ct:Value}
 (a:PySem.W.nsIn K mainGlobals x=some (some (.ref C))) (b:PySem.W.nsIn K mainGlobals y=some (some (.ref S))) (l:K.lookup C=some (excClassObj cn cq C NS bss (.ref S::veM) hdct sn sub ab col dd k0 k1 k2 k3 k5 "ValueError.__new__")) (lN:K.lookup NS=some ⟨nc,nd,.dict es en,ns⟩) (ok:(es.toList.all fun e=>match e.key with|.str _ _=>true|_=>false)=true) (ni:PySem.W.nsIn K NS "__init__"=some (some (.ref fI)))
 (e:PySem.W.excIn K S veM "ValueError.__new__"=true) (fn:PySem.W.typeIn K (.ref fI)=some (.type "function")) (kp:PySem.W.keepIn K (.ref C)=true) (hd:PySem.W.hasDictIn K C=true) (sa:findIn K (.ref C) "__setattr__"=some (some (.builtin "object.__setattr__"))) (ob:PySem.W.subIn K (.ref C) (.type "object")=some true)
 (lf:K.lookup fI=some ⟨oc,od,.func (PySem.W.fnOf "__init__" qual (bD st) (aV st) (ao st) .none kV doc pm an cdv ct),osl⟩) (cf:PySem.W.codeIn K cdv qual=true) (kf:PySem.W.keepIn K (.ref fI)=true):∃fI fd,ClsI K (cl K x) (cl K y) fI/\Fun K "__init__" qual st fI fd:=by
 rw[df a,df b]
 have okN:PySem.W.nsOkIn K NS=true:=by unfold PySem.W.nsOkIn;rw[lN];show(es.all _)=true;rw[<-Array.all_toList];exact ok
 exact⟨fI,_,⟨⟨_,_,_,_,_,_,_,_,_,_,_,_,_,_,_,l,okN,ni⟩,rK e,fn,kp,hd,sa,ob⟩,rW lf cf kf⟩
theorem uO(a:PySem.W.nsIn K mainGlobals x=some (some (.ref C)))(h1:PySem.W.specialIn K (.ref C) "__getattribute__"=some (some (.builtin "type.__getattribute__")))(h2:PySem.W.readsIn K C (.type "type")=true)(h3:PySem.W.findCls K (.ref C) (.type "type") "__init__"=some (.val (.builtin "ValueError.__init__"))):ClsB K (cl K x):=by rw[df a];exact⟨h1,h2,h3⟩
theorem vq(a:PySem.W.nsIn K mainGlobals x=some (some (.ref C)))(h:PySem.W.hasDictIn K C=true):PySem.W.hasDictIn K (cl K x)=true:=by rw[df a];exact h
end
open PySem PySem.Spec PyProof.Rows L2 Ma
def Ow(w:Wl):Prop:=w.1<w.2.2.1\/(w.1=w.2.2.1/\w.2.1<w.2.2.2)
def dC(x y:Int):Prop:=0<x\/(x=0/\0<y)
def onB(w:Wl)(x y:Int):Bool:=(HT.lexLe [w.1,w.2.1] [x,y]&&HT.lexLe [x,y] [w.2.2.1,w.2.2.2])&&decide (sd w x y=0)
def xo(w:Wl)(x y:Int):Bool:=decide (w.1=x/\w.2.1=y)||decide (w.2.2.1=x/\w.2.2.2=y)
def inB(w:Wl)(x y:Int):Bool:=!xo w x y&&onB w x y
def eqB(U V:Wl):Bool:=decide (U.1=V.1/\U.2.1=V.2.1/\U.2.2.1=V.2.2.1/\U.2.2.2=V.2.2.2)
def aO(U V:Wl):Bool:=!(eqB U V)&&!(inB U V.1 V.2.1)&&!(inB U V.2.2.1 V.2.2.2)&&!(inB V U.1 U.2.1)&&!(inB V U.2.2.1 U.2.2.2)&&(decide (0<=Int.sign (sd1 U V)*Int.sign (sd2 U V))||decide (0<=Int.sign (sd1 V U)*Int.sign (sd2 V U)))
theorem pf{a b c d:Int}:HT.lexLe [a,b] [c,d]=true↔¬dC (a-c) (b-d):=by rw[gP,Bool.not_eq_true',<-Bool.not_eq_true,aF];unfold dC;omega
theorem lp{W h dx dy ux uy:Int}(hW:0<W)(hu:dC ux uy)(ex:W*dx=h*ux)(ey:W*dy=h*uy):(dC dx dy↔0<h)/\((dx=0/\dy=0)↔h=0):=by
 rcases Int.lt_trichotomy h 0 with z|z|z
 ·have:¬dC dx dy/\¬(dx=0/\dy=0):=by
   rcases hu with u|⟨u,v⟩
   ·have:h*ux<0:=Int.mul_neg_of_neg_of_pos z u;have:dx<0:=sr hW (by rw[Int.mul_comm];omega);unfold dC;omega
   ·subst u;have:h*uy<0:=Int.mul_neg_of_neg_of_pos z v;have h1:dy<0:=sr hW (by rw[Int.mul_comm];omega);have h2:dx=0:=by rw[Int.mul_zero]at ex;rcases Int.mul_eq_zero.mp ex with y|y<;>omega
    unfold dC;omega
  exact⟨⟨fun y=>absurd y this.1,fun y=>by omega⟩,⟨fun y=>absurd y this.2,fun y=>by omega⟩⟩
 ·subst z;rw[Int.zero_mul]at ex ey;have h1:dx=0:=by rcases Int.mul_eq_zero.mp ex with y|y<;>omega
  have h2:dy=0:=by rcases Int.mul_eq_zero.mp ey with y|y<;>omega
  subst h1 h2;unfold dC;exact⟨by omega,by omega⟩
 ·have:dC dx dy:=by
   rcases hu with u|⟨u,v⟩
   ·have:0<h*ux:=Int.mul_pos z u;exact .inl (sP hW (by rw[Int.mul_comm];omega))
   ·subst u;have:0<h*uy:=Int.mul_pos z v;have h1:0<dy:=sP hW (by rw[Int.mul_comm];omega);have h2:dx=0:=by rw[Int.mul_zero]at ex;rcases Int.mul_eq_zero.mp ex with y|y<;>omega
    exact .inr ⟨h2,h1⟩
  exact⟨⟨fun _=>z,fun _=>this⟩,⟨fun y=>by unfold dC at this;omega,fun y=>by omega⟩⟩
theorem ku{w:Wl}(h:Ow w):dC (w.2.2.1-w.1) (w.2.2.2-w.2.1):=by unfold Ow at h;unfold dC;omega
theorem pg{w:Wl}{x y W h:Int}(hw:Ow w)(hW:0<W)(ex:W*(x-w.1)=h*(w.2.2.1-w.1))(ey:W*(y-w.2.1)=h*(w.2.2.2-w.2.1))(hs:sd w x y=0):inB w x y=decide (0<h/\h<W):=by
 have u:=ku hw;obtain⟨a1,a2⟩:=lp hW u ex ey;have fx:W*(w.2.2.1-x)=(W-h)*(w.2.2.1-w.1):=by grind
 have fy:W*(w.2.2.2-y)=(W-h)*(w.2.2.2-w.2.1):=by grind
 obtain⟨b1,b2⟩:=lp hW u fx fy
 have e1:HT.lexLe [w.1,w.2.1] [x,y]=decide (0<=h):=by
  rw[Bool.eq_iff_iff,pf,decide_eq_true_iff]
  have:dC (w.1-x) (w.2.1-y)↔¬dC (x-w.1) (y-w.2.1)/\¬(x-w.1=0/\y-w.2.1=0):=by unfold dC;omega
  rw[this,a1,a2];omega
 have e2:HT.lexLe [x,y] [w.2.2.1,w.2.2.2]=decide (h<=W):=by
  rw[Bool.eq_iff_iff,pf,decide_eq_true_iff]
  have:dC (x-w.2.2.1) (y-w.2.2.2)↔¬dC (w.2.2.1-x) (w.2.2.2-y)/\¬(w.2.2.1-x=0/\w.2.2.2-y=0):=by unfold dC;omega
  rw[this,b1,b2];omega
 have e3:decide (w.1=x/\w.2.1=y)=decide (h=0):=by rw[decide_eq_decide,<-a2];omega
 have e4:decide (w.2.2.1=x/\w.2.2.2=y)=decide (h=W):=by
  rw[decide_eq_decide]
  have:(w.2.2.1=x/\w.2.2.2=y)↔(w.2.2.1-x=0/\w.2.2.2-y=0):=by omega
  rw[this,b2];omega
 unfold inB xo onB;rw[e1,e2,e3,e4,decide_eq_true hs,Bool.and_true,Bool.eq_iff_iff];simp only[Bool.and_eq_true,Bool.not_eq_true',Bool.or_eq_false_iff,decide_eq_false_iff_not,decide_eq_true_eq];omega
theorem er{w:Wl}{x y:Int}(hs:sd w x y≠0):inB w x y=false:=by unfold inB onB;rw[decide_eq_false hs];simp
theorem u9{g W:Int}(hW:0<W){a b:Int}(ha:a=-g/\b=W-g\/a=g/\b=g-W):0<=Int.sign a*Int.sign b↔¬(0<g/\g<W):=by
 have key:∀x y:Int,0<=Int.sign x*Int.sign y↔¬((0<x/\y<0)\/(x<0/\0<y)):=fun x y=>by
  rcases Int.lt_trichotomy x 0 with u|u|u<;>rcases Int.lt_trichotomy y 0 with v|v|v
  ·rw[Int.sign_eq_neg_one_of_neg u,Int.sign_eq_neg_one_of_neg v];omega
  ·subst v;simp<;>omega
  ·rw[Int.sign_eq_neg_one_of_neg u,Int.sign_eq_one_of_pos v];omega
  ·subst u;simp<;>omega
  ·subst u;simp
  ·subst u;simp<;>omega
  ·rw[Int.sign_eq_one_of_pos u,Int.sign_eq_neg_one_of_neg v];omega
  ·subst v;simp<;>omega
  ·rw[Int.sign_eq_one_of_pos u,Int.sign_eq_one_of_pos v];omega
 rw[key];rcases ha with⟨rfl,rfl⟩|⟨rfl,rfl⟩<;>omega
theorem oz{U V:Wl}{W h g:Int}(hU:Ow U)(hV:Ow V)(hW:0<W)(ix:W*(V.1-U.1)=h*(U.2.2.1-U.1)-g*(V.2.2.1-V.1))(iy:W*(V.2.1-U.2.1)=h*(U.2.2.2-U.2.1)-g*(V.2.2.2-V.2.1))
 (ss:(sd1 U V=-g/\sd2 U V=W-g/\sd1 V U=h/\sd2 V U=h-W)\/(sd1 U V=g/\sd2 U V=g-W/\sd1 V U=-h/\sd2 V U=W-h)) (ne:eqB U V=false) :
 aO U V=decide (¬(0<=h/\h<=W/\0<=g/\g<=W)\/((h=0\/h=W)/\(g=0\/g=W))):=by
 have i1:inB U V.1 V.2.1=decide (g=0/\0<h/\h<W):=by
  by_cases z:g=0
  ·subst z
   rw[pg hU hW (h:=h) (by rw[ix];grind) (by rw[iy];grind) (show sd1 U V=0 by omega),decide_eq_decide];omega
  ·rw[er (show sd1 U V≠0 by omega)];exact(decide_eq_false (fun q=>z q.1)).symm
 have i2:inB U V.2.2.1 V.2.2.2=decide (g=W/\0<h/\h<W):=by
  by_cases z:g=W
  ·subst z
   rw[pg hU hW (h:=h) (by grind) (by grind) (show sd2 U V=0 by omega),decide_eq_decide];omega
  ·rw[er (show sd2 U V≠0 by omega)];exact(decide_eq_false (fun q=>z q.1)).symm
 have i3:inB V U.1 U.2.1=decide (h=0/\0<g/\g<W):=by
  by_cases z:h=0
  ·subst z
   rw[pg hV hW (h:=g) (by grind) (by grind) (show sd1 V U=0 by omega),decide_eq_decide];omega
  ·rw[er (show sd1 V U≠0 by omega)];exact(decide_eq_false (fun q=>z q.1)).symm
 have i4:inB V U.2.2.1 U.2.2.2=decide (h=W/\0<g/\g<W):=by
  by_cases z:h=W
  ·subst z
   rw[pg hV hW (h:=g) (by grind) (by grind) (show sd2 V U=0 by omega),decide_eq_decide];omega
  ·rw[er (show sd2 V U≠0 by omega)];exact(decide_eq_false (fun q=>z q.1)).symm
 have s1:0<=Int.sign (sd1 U V)*Int.sign (sd2 U V)↔¬(0<g/\g<W):=u9 hW (by rcases ss with y|y<;>omega)
 have s2:0<=Int.sign (sd1 V U)*Int.sign (sd2 V U)↔¬(0<h/\h<W):=u9 hW (by rcases ss with y|y<;>omega)
 have d1:decide (0<=Int.sign (sd1 U V)*Int.sign (sd2 U V))=decide (¬(0<g/\g<W)):=decide_eq_decide.mpr s1
 have d2:decide (0<=Int.sign (sd1 V U)*Int.sign (sd2 V U))=decide (¬(0<h/\h<W)):=decide_eq_decide.mpr s2
 unfold aO
 rw[ne,i1,i2,i3,i4,d1,d2,Bool.eq_iff_iff]
 simp only[Bool.and_eq_true,Bool.not_eq_true',Bool.or_eq_true,decide_eq_false_iff_not,decide_eq_true_eq,Bool.not_false,true_and]
 omega
theorem kR{n a b c d:Int}(h:b-d<n/\d-b<n):HT.lexLt [a,b] [c,d]=decide (n*a+b<n*c+d):=by
 rw[Bool.eq_iff_iff,aF,decide_eq_true_iff];rcases Int.lt_trichotomy a c with z|z|z
 ·have:n*1<=n*(c-a):=Int.mul_le_mul_of_nonneg_left (by omega) (by omega);have e:n*(c-a)=n*c-n*a:=by grind
  omega
 ·subst z;omega
 ·have:n*1<=n*(a-c):=Int.mul_le_mul_of_nonneg_left (by omega) (by omega);have e:n*(a-c)=n*a-n*c:=by grind
  omega
theorem uk{n a b c d:Int}(h:b-d<n/\d-b<n):(a=c/\b=d)↔n*a+b=n*c+d:=by
 have h1:=kR (a:=a) (c:=c) h;have h2:=kR (a:=c) (c:=a) (b:=d) (d:=b) ⟨h.2,h.1⟩;rw[Bool.eq_iff_iff,aF,decide_eq_true_iff]at h1 h2;constructor
 ·rintro⟨rfl,rfl⟩;rfl
 ·omega
theorem qu{U V:Wl}(hU:Ow U)(hV:Ow V)(z1:sd1 U V=0)(z2:sd2 U V=0)(z3:sd1 V U=0)(z4:sd2 V U=0) :
 aO U V=!HT.lexLt [(cb U.1 U.2.1 V.1 V.2.1).1,(cb U.1 U.2.1 V.1 V.2.1).2] [(dP U.2.2.1 U.2.2.2 V.2.2.1 V.2.2.2).1,(dP U.2.2.1 U.2.2.2 V.2.2.1 V.2.2.2).2]:=by
 obtain⟨n,hn⟩:∃n:Int,n=1+2*(U.2.1.natAbs+U.2.2.2.natAbs+V.2.1.natAbs+V.2.2.2.natAbs:Nat):=⟨_,rfl⟩
 have lt:=fun{a b c d:Int} (h:b-d<n/\d-b<n)=>kR (a:=a) (c:=c) h
 have ij:=fun{a b c d:Int} (h:b-d<n/\d-b<n)=>uk (a:=a) (c:=c) h
 have B1:U.2.1-U.2.2.2<n/\U.2.2.2-U.2.1<n:=by omega
 have B2:V.2.1-V.2.2.2<n/\V.2.2.2-V.2.1<n:=by omega
 have B3:U.2.1-V.2.1<n/\V.2.1-U.2.1<n:=by omega
 have B4:U.2.1-V.2.2.2<n/\V.2.2.2-U.2.1<n:=by omega
 have B5:U.2.2.2-V.2.1<n/\V.2.1-U.2.2.2<n:=by omega
 have B6:U.2.2.2-V.2.2.2<n/\V.2.2.2-U.2.2.2<n:=by omega
 clear hn
 have hU':n*U.1+U.2.1<n*U.2.2.1+U.2.2.2:=by have:=lt (a:=U.1) (c:=U.2.2.1) B1;rw[Bool.eq_iff_iff,aF,decide_eq_true_iff]at this;exact this.mp hU
 have hV':n*V.1+V.2.1<n*V.2.2.1+V.2.2.2:=by have:=lt (a:=V.1) (c:=V.2.2.1) B2;rw[Bool.eq_iff_iff,aF,decide_eq_true_iff]at this;exact this.mp hV
 have sw:∀{a b:Int},a-b<n/\b-a<n->b-a<n/\a-b<n:=fun z=>⟨z.2,z.1⟩
 have inx:∀{w:Wl} {x y:Int},sd w x y=0->(w.2.1-y<n/\y-w.2.1<n)->(w.2.2.2-y<n/\y-w.2.2.2<n)->n*w.1+w.2.1<n*w.2.2.1+w.2.2.2->inB w x y=decide (n*w.1+w.2.1<n*x+y/\n*x+y<n*w.2.2.1+w.2.2.2):=fun{w x y} hs b1 b2 lw=>by
  have e1:decide (w.1=x/\w.2.1=y)=decide (n*w.1+w.2.1=n*x+y):=decide_eq_decide.mpr (ij b1)
  have e2:decide (w.2.2.1=x/\w.2.2.2=y)=decide (n*w.2.2.1+w.2.2.2=n*x+y):=decide_eq_decide.mpr (ij b2)
  have e3:HT.lexLt [x,y] [w.1,w.2.1]=decide (n*x+y<n*w.1+w.2.1):=lt (sw b1)
  have e4:HT.lexLt [w.2.2.1,w.2.2.2] [x,y]=decide (n*w.2.2.1+w.2.2.2<n*x+y):=lt b2
  unfold inB xo onB
  rw[decide_eq_true hs,gP,gP,e1,e2,e3,e4,Bool.and_true,Bool.eq_iff_iff]
  simp only[Bool.and_eq_true,Bool.not_eq_true',Bool.or_eq_false_iff,decide_eq_false_iff_not,decide_eq_true_eq]
  omega
 have i1:=inx (w:=U) (x:=V.1) (y:=V.2.1) z1 B3 B5 hU'
 have i2:=inx (w:=U) (x:=V.2.2.1) (y:=V.2.2.2) z2 B4 B6 hU'
 have i3:=inx (w:=V) (x:=U.1) (y:=U.2.1) z3 (sw B3) (sw B4) hV'
 have i4:=inx (w:=V) (x:=U.2.2.1) (y:=U.2.2.2) z4 (sw B5) (sw B6) hV'
 have i5:eqB U V=decide (n*U.1+U.2.1=n*V.1+V.2.1/\n*U.2.2.1+U.2.2.2=n*V.2.2.1+V.2.2.2):=by
  unfold eqB
  rw[decide_eq_decide,<-ij B3,<-ij B6]
  exact⟨fun z=>⟨⟨z.1,z.2.1⟩,z.2.2⟩,fun z=>⟨z.1.1,z.1.2,z.2⟩⟩
 have j1:HT.lexLt [U.1,U.2.1] [V.1,V.2.1]=decide (n*U.1+U.2.1<n*V.1+V.2.1):=lt B3
 have j2:HT.lexLt [V.2.2.1,V.2.2.2] [U.2.2.1,U.2.2.2]=decide (n*V.2.2.1+V.2.2.2<n*U.2.2.1+U.2.2.2):=lt (sw B6)
 have j3:HT.lexLt [V.1,V.2.1] [V.2.2.1,V.2.2.2]=decide (n*V.1+V.2.1<n*V.2.2.1+V.2.2.2):=lt B2
 have j4:HT.lexLt [V.1,V.2.1] [U.2.2.1,U.2.2.2]=decide (n*V.1+V.2.1<n*U.2.2.1+U.2.2.2):=lt (sw B5)
 have j5:HT.lexLt [U.1,U.2.1] [V.2.2.1,V.2.2.2]=decide (n*U.1+U.2.1<n*V.2.2.1+V.2.2.2):=lt B4
 have j6:HT.lexLt [U.1,U.2.1] [U.2.2.1,U.2.2.2]=decide (n*U.1+U.2.1<n*U.2.2.1+U.2.2.2):=lt B1
 have fb:aO U V=(!(decide (n*U.1+U.2.1=n*V.1+V.2.1/\n*U.2.2.1+U.2.2.2=n*V.2.2.1+V.2.2.2))&&!(decide (n*U.1+U.2.1<n*V.1+V.2.1/\n*V.1+V.2.1<n*U.2.2.1+U.2.2.2))&&!(decide (n*U.1+U.2.1<n*V.2.2.1+V.2.2.2/\n*V.2.2.1+V.2.2.2<n*U.2.2.1+U.2.2.2))&&!(decide (n*V.1+V.2.1<n*U.1+U.2.1/\n*U.1+U.2.1<n*V.2.2.1+V.2.2.2))&&!(decide (n*V.1+V.2.1<n*U.2.2.1+U.2.2.2/\n*U.2.2.1+U.2.2.2<n*V.2.2.1+V.2.2.2))):=by
  unfold aO
  rw[i1,i2,i3,i4,i5,z1,z2,z3,z4]
  simp
 rw[fb]
 unfold cb dP
 rw[bz,j1,j2]
 generalize n*U.1+U.2.1=A at *
 generalize n*U.2.2.1+U.2.2.2=B at *
 generalize n*V.1+V.2.1=C at *
 generalize n*V.2.2.1+V.2.2.2=D at *
 clear inx i1 i2 i3 i4 i5 lt ij
 by_cases y1:A<C<;>by_cases y2:D<B
 ·rw[decide_eq_true y1,decide_eq_true y2,if_pos rfl,if_pos rfl,j3,Bool.eq_iff_iff]
  simp only[Bool.and_eq_true,Bool.not_eq_true',decide_eq_false_iff_not]
  omega
 ·rw[decide_eq_true y1,decide_eq_false y2,if_pos rfl,if_neg Bool.false_ne_true,j4,Bool.eq_iff_iff]
  simp only[Bool.and_eq_true,Bool.not_eq_true',decide_eq_false_iff_not]
  omega
 ·rw[decide_eq_false y1,decide_eq_true y2,if_neg Bool.false_ne_true,if_pos rfl,j5,Bool.eq_iff_iff]
  simp only[Bool.and_eq_true,Bool.not_eq_true',decide_eq_false_iff_not]
  omega
 ·rw[decide_eq_false y1,decide_eq_false y2,if_neg Bool.false_ne_true,if_neg Bool.false_ne_true,j6,Bool.eq_iff_iff]
  simp only[Bool.and_eq_true,Bool.not_eq_true',decide_eq_false_iff_not]
  omega
def inS(t b X Y:Int)(w:Wl)(x y:Rat):Bool:=decide (Ma.ut t b X 1 w.1=x/\Ma.ut t b Y 1 w.2.1=y)||decide (Ma.ut t b X 1 w.2.2.1=x/\Ma.ut t b Y 1 w.2.2.2=y)
def mtD(t b X Y:Int)(U V:Wl):D:=jT (Ma.ut t b X 1 U.1) (Ma.ut t b Y 1 U.2.1) (Ma.ut t b X 1 U.2.2.1) (Ma.ut t b Y 1 U.2.2.2) (Ma.ut t b X 1 V.1) (Ma.ut t b Y 1 V.2.1) (Ma.ut t b X 1 V.2.2.1) (Ma.ut t b Y 1 V.2.2.2)
inductive Meets(t b X Y:Int)(U V:Wl):D->Prop
 |non (h:aO U V=true):Meets t b X Y U V .non
 |str {d:D} (h:aO U V=false):Meets t b X Y U V (.tup [.str "stretch",d])
 |spot {x y:Rat} (h:aO U V=(inS t b X Y U x y&&inS t b X Y V x y)):Meets t b X Y U V (.tup [.str "spot",Ma.spt x y])
theorem gX{t b X x p W k d:Int}(ht:0<t)(hb:0<b)(hW:0<W):Ma.ut t b X 1 x=Ma.ut t b X W (p*W+k*d)↔W*(x-p)=k*d:=by rw[Ma.uW ht hb (by decide) hW];constructor<;>intro h<;>grind
theorem meets{t b X Y:Int}{U V:Wl}(ht:0<t)(hb:0<b)(hU:Ow U)(hV:Ow V):Meets t b X Y U V (mtD t b X Y U V):=by
 unfold mtD;rw[rM ht hb];have uU:=ku hU;have uV:=ku hV;have i1:sd2 U V=sd1 U V+crs (U.2.2.1-U.1) (U.2.2.2-U.2.1) (V.2.2.1-V.1) (V.2.2.2-V.2.1):=pE _ _ _ _ _ _ _ _;have i2:sd1 V U=crs (V.1-U.1) (V.2.1-U.2.1) (V.2.2.1-V.1) (V.2.2.2-V.2.1):=oJ _ _ _ _ _ _;have i3:sd2 V U=crs (V.1-U.1) (V.2.1-U.2.1) (V.2.2.1-V.1) (V.2.2.2-V.2.1)-crs (U.2.2.1-U.1) (U.2.2.2-U.2.1) (V.2.2.1-V.1) (V.2.2.2-V.2.1):=oM _ _ _ _ _ _ _ _;have i4:crs (V.1-U.1) (V.2.1-U.2.1) (U.2.2.1-U.1) (U.2.2.2-U.2.1)=-sd1 U V:=oV _ _ _ _ _ _;have i5:crs (U.2.2.1-U.1) (U.2.2.2-U.2.1) (V.1-U.1) (V.2.1-U.2.1)=sd1 U V:=rfl;have ix:=vm U.1 U.2.1 U.2.2.1 U.2.2.2 V.1 V.2.1 V.2.2.1 V.2.2.2;have iy:=vz U.1 U.2.1 U.2.2.1 U.2.2.2 V.1 V.2.1 V.2.2.1 V.2.2.2;unfold rh;rw[i4];rw[i5]at ix iy ⊢;rw[<-i2]at ix iy i3 ⊢;generalize hw:crs (U.2.2.1-U.1) (U.2.2.2-U.2.1) (V.2.2.1-V.1) (V.2.2.2-V.2.1)=w at *;dsimp only;by_cases z:w=0
 ·subst z;rw[if_pos rfl];rw[Int.add_zero]at i1;rw[Int.sub_zero]at i3;rw[Int.zero_mul]at ix iy;by_cases y:sd1 U V=0
  ·have H0:sd1 V U=0:=by
    rw[y,Int.zero_mul,Int.add_zero]at ix iy;rcases Int.mul_eq_zero.mp ix.symm with q|q
    ·exact q
    ·rcases Int.mul_eq_zero.mp iy.symm with q'|q'
     ·exact q'
     ·unfold dC at uU;omega
   have fl:=qu hU hV y (i1.trans y) H0 (i3.trans H0);by_cases g:HT.aQ [(cb U.1 U.2.1 V.1 V.2.1).1,(cb U.1 U.2.1 V.1 V.2.1).2] [(dP U.2.2.1 U.2.2.2 V.2.2.1 V.2.2.2).1,(dP U.2.2.1 U.2.2.2 V.2.2.1 V.2.2.2).2]=true
   ·rw[if_pos (.inr g)];refine .non ?_;rw[fl,Bool.not_eq_true',<-Bool.not_eq_true];intro q;rw[bz,aF]at g;rw[aF]at q;omega
   ·rw[if_neg (fun q=>q.elim (fun q=>q y) g)];by_cases e:(cb U.1 U.2.1 V.1 V.2.1).1=(dP U.2.2.1 U.2.2.2 V.2.2.1 V.2.2.2).1/\(cb U.1 U.2.1 V.1 V.2.1).2=(dP U.2.2.1 U.2.2.2 V.2.2.1 V.2.2.2).2
    ·rw[if_pos e];refine .spot ?_;have f1:aO U V=true:=by rw[fl,Bool.not_eq_true',<-Bool.not_eq_true,aF];omega
     rw[f1]
     have:inS t b X Y U (Ma.ut t b X 1 (cb U.1 U.2.1 V.1 V.2.1).1) (Ma.ut t b Y 1 (cb U.1 U.2.1 V.1 V.2.1).2)=true/\inS t b X Y V (Ma.ut t b X 1 (cb U.1 U.2.1 V.1 V.2.1).1) (Ma.ut t b Y 1 (cb U.1 U.2.1 V.1 V.2.1).2)=true:=by
      unfold Ow at hU hV;unfold cb dP at e;unfold cb;by_cases y1:HT.aQ [V.1,V.2.1] [U.1,U.2.1]=true
      ·rw[if_pos y1]at e ⊢;by_cases y2:HT.lexLt [V.2.2.1,V.2.2.2] [U.2.2.1,U.2.2.2]=true
       ·rw[if_pos y2]at e;dsimp only at e;omega
       ·rw[if_neg y2]at e;dsimp only at e ⊢;unfold inS;refine⟨?_,?_⟩
        ·rw[e.1,e.2,decide_eq_true (p:=Ma.ut t b X 1 U.2.2.1=Ma.ut t b X 1 U.2.2.1/\_) ⟨rfl,rfl⟩,Bool.or_true]
        ·rw[decide_eq_true (p:=Ma.ut t b X 1 V.1=Ma.ut t b X 1 V.1/\_) ⟨rfl,rfl⟩,Bool.true_or]
      ·rw[if_neg y1]at e ⊢;by_cases y2:HT.lexLt [V.2.2.1,V.2.2.2] [U.2.2.1,U.2.2.2]=true
       ·rw[if_pos y2]at e;dsimp only at e ⊢;unfold inS;refine⟨?_,?_⟩
        ·rw[decide_eq_true (p:=Ma.ut t b X 1 U.1=Ma.ut t b X 1 U.1/\_) ⟨rfl,rfl⟩,Bool.true_or]
        ·rw[e.1,e.2,decide_eq_true (p:=Ma.ut t b X 1 V.2.2.1=Ma.ut t b X 1 V.2.2.1/\_) ⟨rfl,rfl⟩,Bool.or_true]
       ·rw[if_neg y2]at e;dsimp only at e;omega
     rw[this.1,this.2];rfl
    ·rw[if_neg e];refine .str ?_;rw[fl,Bool.not_eq_false',aF];rw[bz,aF]at g;omega
  ·rw[if_pos (.inl y)];refine .non ?_
   have H0:sd1 V U≠0:=fun q=>by
    rw[q,Int.zero_mul,Int.zero_add]at ix iy;rcases Int.mul_eq_zero.mp ix.symm with u|u
    ·exact y u
    ·rcases Int.mul_eq_zero.mp iy.symm with u'|u'
     ·exact y u'
     ·unfold dC at uV;omega
   have en:eqB U V=false:=decide_eq_false fun q=>y (by unfold sd1 sd crs;rw[<-q.1,<-q.2.1];grind);unfold aO;rw[en,er (show sd U V.1 V.2.1≠0 from y),er (show sd U V.2.2.1 V.2.2.2≠0 from fun q=>y (i1.symm.trans q)),er (show sd V U.1 U.2.1≠0 from H0),er (show sd V U.2.2.1 U.2.2.2≠0 from fun q=>H0 (i3.symm.trans q)),i1]
   have:0<=Int.sign (sd1 U V)*Int.sign (sd1 U V):=by
    rcases Int.lt_trichotomy (sd1 U V) 0 with q|q|q
    ·rw[Int.sign_eq_neg_one_of_neg q];decide
    ·rw[q];decide
    ·rw[Int.sign_eq_one_of_pos q];decide
   rw[decide_eq_true this];rfl
 ·rw[if_neg z];have en:eqB U V=false:=decide_eq_false fun q=>z (by rw[<-hw,<-q.1,<-q.2.1,<-q.2.2.1,<-q.2.2.2];unfold crs;grind)
  have main:∀W h g:Int,0<W->(w.natAbs:Int)=W->W*(V.1-U.1)=h*(U.2.2.1-U.1)-g*(V.2.2.1-V.1)->W*(V.2.1-U.2.1)=h*(U.2.2.2-U.2.1)-g*(V.2.2.2-V.2.1)->
   ((sd1 U V=-g/\sd2 U V=W-g/\sd1 V U=h/\sd2 V U=h-W)\/(sd1 U V=g/\sd2 U V=g-W/\sd1 V U=-h/\sd2 V U=W-h))->
   Meets t b X Y U V (xU t b X Y (if min h g<0\/(w.natAbs:Int)<max h g then .non else .tup [.int (U.1*(w.natAbs:Int)+h*(U.2.2.1-U.1)),.int (U.2.1*(w.natAbs:Int)+h*(U.2.2.2-U.2.1)),.int (w.natAbs:Int)])):=fun W h g hW eW ex ey ss=>by
   have fp:=oz hU hV hW ex ey ss en
   rw[eW]
   by_cases o:min h g<0\/W<max h g
   ·rw[if_pos o]
    exact .non (by rw[fp,decide_eq_true_iff];omega)
   ·rw[if_neg o]
    refine .spot ?_
    rw[fp]
    have s1:inS t b X Y U (Ma.ut t b X W (U.1*W+h*(U.2.2.1-U.1))) (Ma.ut t b Y W (U.2.1*W+h*(U.2.2.2-U.2.1)))=decide (h=0\/h=W):=by
     have q0:=(lp (W:=W) (h:=h) (dx:=0) (dy:=0) hW uU)
     unfold inS
     rw[Bool.eq_iff_iff,Bool.or_eq_true,decide_eq_true_iff,decide_eq_true_iff,decide_eq_true_iff,gX ht hb hW,gX ht hb hW,gX ht hb hW,gX ht hb hW]
     constructor
     ·rintro(⟨a,c⟩|⟨a,c⟩)
      ·left
       exact(lp hW uU (dx:=0) (dy:=0) (by rw[<-a];grind) (by rw[<-c];grind)).2.mp ⟨rfl,rfl⟩
      ·right
       have:=(lp (h:=h-W) hW uU (dx:=0) (dy:=0) (by grind) (by grind)).2.mp ⟨rfl,rfl⟩
       omega
     ·rintro(rfl|rfl)
      ·left;constructor<;>grind
      ·right;constructor<;>grind
    have s2:inS t b X Y V (Ma.ut t b X W (U.1*W+h*(U.2.2.1-U.1))) (Ma.ut t b Y W (U.2.1*W+h*(U.2.2.2-U.2.1)))=decide (g=0\/g=W):=by
     unfold inS
     rw[Bool.eq_iff_iff,Bool.or_eq_true,decide_eq_true_iff,decide_eq_true_iff,decide_eq_true_iff,gX ht hb hW,gX ht hb hW,gX ht hb hW,gX ht hb hW]
     constructor
     ·rintro(⟨a,c⟩|⟨a,c⟩)
      ·left
       exact(lp hW uV (dx:=0) (dy:=0) (by grind) (by grind)).2.mp ⟨rfl,rfl⟩
      ·right
       have:=(lp (h:=g-W) hW uV (dx:=0) (dy:=0) (by grind) (by grind)).2.mp ⟨rfl,rfl⟩
       omega
     ·rintro(rfl|rfl)
      ·left;constructor<;>grind
      ·right;constructor<;>grind
    rw[s1,s2,Bool.eq_iff_iff,Bool.and_eq_true,decide_eq_true_iff,decide_eq_true_iff,decide_eq_true_iff]
    omega
  by_cases n:w<0
  ·rw[if_pos n,if_pos n];exact main (-w) (-sd1 V U) (- -sd1 U V) (by omega) (by omega) (by grind) (by grind) (.inr (by omega))
  ·rw[if_neg n,if_neg n];exact main w (sd1 V U) (-sd1 U V) (by omega) (by omega) (by grind) (by grind) (.inl (by omega))
structure Bw(n:Int)(w:Wl):Prop where
 u:Uok n w
 o:Ow w
theorem Bw.mono{m n:Int}{w:Wl}(h:Bw m w)(l:m<=n):Bw n w:=⟨by have:=h.u;unfold Uok at *;omega,h.o⟩
theorem nO{w:Wl}(h:Un5 w):Bw 20 w:=by
 have a:=h.a;have b:=h.b;have c:=h.c;have d:=h.d;have l:=h.lt
 unfold l1 l2 la at l;exact⟨by unfold Uok;omega,by unfold Ow;omega⟩
theorem Scl.b10{t b x y p:Int}(S:Scl t b x y)(hp:-1000<=p/\p<=1000):Ma.Bq 60 (Ma.ut t b x 1 p)/\Ma.Bq 60 (Ma.ut t b y 1 p):=by
 have bp:Bd 10 p:=by show p.natAbs<2^10;omega
 have bt:Bd 30 t:=by have:=S.t0;have:=S.t1;show t.natAbs<2^30;omega
 have bb:Bd 30 b:=by have:=S.b0;have:=S.b1;show b.natAbs<2^30;omega
 have bx:Bd 58 x:=by have:=S.x0;have:=S.x1;show x.natAbs<2^58;omega
 have by':Bd 58 y:=by have:=S.y0;have:=S.y1;show y.natAbs<2^58;omega
 have hb0:b≠0:=by have:=S.b0;omega
 rw[<-Ma.kW,<-Ma.kW];exact⟨.divInt hb0 ((((bp.mul bt).mono (by decide)).add bx).mono (by decide)) (bb.mono (by decide)),.divInt hb0 ((((bp.mul bt).mono (by decide)).add by').mono (by decide)) (bb.mono (by decide))⟩
theorem dB{z:Int}(h:-1000<=z/\z<=1000):Bd 10 z:=by show z.natAbs<2^10;omega
def fcr(W:Wl)(us:List Wl):Option Nat:=us.findIdx? fun U=>!aO W U
def oK(ws:List Wl)(i:Nat):Option (Nat×Nat):=(ws[i]?).bind fun W=>(fcr W (ws.take i)).map fun j=>(i,j)
def vL(ws:List Wl):Option (Nat×Nat):=(List.range ws.length).findSome? (oK ws)
def opD:Option Nat->D
 |some j=>.int (j:Int)
 |none=>.non
def og(ws:List Wl)(made:D):D:=
 if 40<ws.length then .tup [.str "many",.int (ws.length:Int)]
 else match vL ws with
  |some (i,j)=>.tup [.str "crossing",.int (i:Int),.int (j:Int)]
  |none=>.tup [.str "plot",made]
theorem mQ{W U:Wl}{us:List Wl}{i:Nat}(e:us[i]?=some U)(h:aO W U=false)(k:∀j U',j<i->us[j]?=some U'->aO W U'=true):fcr W us=some i:=by obtain⟨hi,e⟩:=List.getElem?_eq_some_iff.mp e;unfold fcr;rw[List.findIdx?_eq_some_iff_getElem];refine⟨hi,by rw[e,h];rfl,fun j hj=>?_⟩;rw[k j _ hj (List.getElem?_eq_getElem (by omega))];decide
theorem lW{W:Wl}{us:List Wl}(k:∀(j:Nat) U',us[j]?=some U'->aO W U'=true):fcr W us=none:=by unfold fcr;rw[List.findIdx?_eq_none_iff];intro U hU;obtain⟨j,hj,e⟩:=List.getElem_of_mem hU;rw[k j U (by rw[List.getElem?_eq_getElem hj,e])];rfl
theorem rO{W:Wl}{us:List Wl}{j:Nat}(h:fcr W us=some j):j<us.length:=by unfold fcr at h;rw[List.findIdx?_eq_some_iff_getElem]at h;exact h.1
theorem m9{α:Type}{f:Nat->Option α}{n i:Nat}{x:α}(hi:i<n)(h:f i=some x)(k:∀j<i,f j=none):(List.range n).findSome? f=some x:=by
 induction n with
 |zero=>omega
 |succ n ih=>
  rw[List.range_succ,List.findSome?_append]
  by_cases z:i<n
  ·rw[ih z];rfl
  ·have:i=n:=by omega
   subst this;have e:(List.range i).findSome? f=none:=List.findSome?_eq_none_iff.mpr fun j hj=>k j (List.mem_range.mp hj);rw[e];simp[h]
theorem lC{ws:List Wl}{i j:Nat}{W:Wl}(e:ws[i]?=some W)(h:fcr W (ws.take i)=some j)(k:∀i' W',i'<i->ws[i']?=some W'->fcr W' (ws.take i')=none):vL ws=some (i,j):=by
 refine m9 (List.getElem?_eq_some_iff.mp e).1 (by unfold oK;rw[e,Option.bind_some,h];rfl) fun i' hi=>?_;unfold oK;cases q:ws[i']? with
 |none=>rfl
 |some W'=>rw[Option.bind_some,k i' W' hi q];rfl
theorem mq{ws:List Wl}(k:∀(i:Nat) W,ws[i]?=some W->fcr W (ws.take i)=none):vL ws=none:=by
 refine List.findSome?_eq_none_iff.mpr fun i _=>?_;unfold oK;cases q:ws[i]? with
 |none=>rfl
 |some W=>rw[Option.bind_some,k i W q];rfl
theorem vH(ws:List Wl):(∀(i:Nat) W,ws[i]?=some W->fcr W (ws.take i)=none)\/∃i j W,ws[i]?=some W/\fcr W (ws.take i)=some j/\∀i' W',i'<i->ws[i']?=some W'->fcr W' (ws.take i')=none:=by
 have go:∀n,(∀i W,i<n->ws[i]?=some W->fcr W (ws.take i)=none)\/∃i j W,ws[i]?=some W/\fcr W (ws.take i)=some j/\∀i' W',i'<i->ws[i']?=some W'->fcr W' (ws.take i')=none:=fun n=>by
  induction n with
  |zero=>exact .inl fun i W h=>by omega
  |succ n ih=>
   rcases ih with ih|ih
   ·cases e:ws[n]? with
    |none=>
     refine .inl fun i W h q=>?_
     by_cases z:i=n
     ·subst z;rw[e]at q;cases q
     ·exact ih i W (by omega) q
    |some W=>
     cases q:fcr W (ws.take n)with
     |none=>
      refine .inl fun i W' h q'=>?_
      by_cases z:i=n
      ·subst z;rw[e]at q';cases q';exact q
      ·exact ih i W' (by omega) q'
     |some j=>exact .inr ⟨n,j,W,e,q,fun i' W' h q'=>ih i' W' h q'⟩
   ·exact .inr ih
 rcases go ws.length with h|h
 ·exact .inl fun i W e=>h i W (List.getElem?_eq_some_iff.mp e).1 e
 ·exact .inr h
theorem tj{U V:Wl}(h:eqB U V=true):aO U V=false:=by unfold aO;rw[h];simp
theorem tH{U V:Wl}(h:inB U V.1 V.2.1=true):aO U V=false:=by unfold aO;rw[h];simp
theorem ud{U V:Wl}(h:inB U V.2.2.1 V.2.2.2=true):aO U V=false:=by unfold aO;rw[h];simp
theorem uN{U V:Wl}(h:inB V U.1 U.2.1=true):aO U V=false:=by unfold aO;rw[h];simp
theorem uq{U V:Wl}(h:inB V U.2.2.1 U.2.2.2=true):aO U V=false:=by unfold aO;rw[h];simp
theorem rp{U V:Wl}(e:eqB U V=false)(h1:inB U V.1 V.2.1=false)(h2:inB U V.2.2.1 V.2.2.2=false)(h3:inB V U.1 U.2.1=false)(h4:inB V U.2.2.1 U.2.2.2=false):aO U V=(decide (0<=Int.sign (sd1 U V)*Int.sign (sd2 U V))||decide (0<=Int.sign (sd1 V U)*Int.sign (sd2 V U))):=by unfold aO;rw[e,h1,h2,h3,h4];rfl
theorem wq(U V:Wl):PyData.eqv (uwP U) (uwP V)=eqB U V:=by unfold uwP eqB;simp only[PyData.eqv,PyData.eqvAll,ig];simp[Bool.decide_and,Bool.and_assoc]
theorem so{t b X Y:Int}{w:Wl}{x y:Rat}(M:MH)(Q:DK)(q:Q (.bl (inS t b X Y w x y)) M):ur (fun b=>b) (Ma.spt x y) (rwl t b X Y w) M Q:=by refine⟨_,_,Pd.of rfl,.inr (Pd.of rfl),rfl,rfl,?_⟩;rw[List.any_cons,List.any_cons,List.any_nil,Ma.pC,Ma.pC,Bool.or_false];exact q
theorem pw:PyData.strOk (Str.ofString "many")=true:=by decide +kernel
theorem g6:PyData.strOk (Str.ofString "crossing")=true:=by decide +kernel
theorem t5:PyData.strOk (Str.ofString "plot")=true:=by decide +kernel
theorem vC{t b X Y:Int}(ws us:List Wl)(M:MH)(Q:DK)(q:Q (.bl false) M):vZ (og ws (.tup (us.map (rwl t b X Y)))) (og ws (.tup (us.map (rwl t b X Y)))) M Q:=by
 unfold og;split
 ·refine⟨_,_,Pd.of rfl,Pd.of rfl,?_,?_,?_⟩
  ·simp[SeqAt.shaped,PyData.canLay0,PyData.canLayAll0,pw,PyData.depth,PyData.depthAll]
  ·simp[SeqAt.shaped,PyData.canLay0,PyData.canLayAll0,pw,PyData.depth,PyData.depthAll]
  ·rw[PyData.eqv,PyData.eqvAll,PyData.eqvAll,PyData.eqvAll,ib];simpa[PyData.eqv]using q
 ·split
  ·refine⟨_,_,Pd.of rfl,Pd.of rfl,?_,?_,?_⟩
   ·simp[SeqAt.shaped,PyData.canLay0,PyData.canLayAll0,g6,PyData.depth,PyData.depthAll]
   ·simp[SeqAt.shaped,PyData.canLay0,PyData.canLayAll0,g6,PyData.depth,PyData.depthAll]
   ·rw[PyData.eqv,PyData.eqvAll,PyData.eqvAll,PyData.eqvAll,PyData.eqvAll,ib];simpa[PyData.eqv]using q
  ·have sh:SeqAt.shaped (.tuple [.str "plot",.tuple (us.map (rwP t b X Y))])=true:=by
    have h2:=q5 t b X Y us
    unfold SeqAt.shaped
    rw[Bool.and_eq_true]
    refine⟨by rw[PyData.canLay0,PyData.canLayAll0,PyData.canLayAll0,PyData.canLay0,PyData.canLay0,t5,sD];rfl,decide_eq_true ?_⟩
    rw[PyData.depth,PyData.depthAll,PyData.depthAll,PyData.depthAll,PyData.depth,PyData.depth]
    omega
   refine⟨_,_,.tup (.cons (.str _) (.cons (.tup (nU t b X Y us)) .nil)),.tup (.cons (.str _) (.cons (.tup (nU t b X Y us)) .nil)),sh,sh,?_⟩;rw[PyData.eqv,PyData.eqvAll,PyData.eqvAll,PyData.eqvAll,ib,PyData.eqv,jE];exact q
end SD
namespace Q_k09_no_plots
open PySem PySem.Spec PyProof.Rows L2 SD
def top(i:Nat):Stmt:=PySem.Challenge.pw_spotlook_k09_no_plots.main.body.getD i (.Pass ⟨0,0,0,0⟩)
abbrev du:Stmt:=top 37
abbrev fv:Stmt:=top 38
abbrev el:Stmt:=top 40
abbrev fN:Stmt:=top 43
abbrev iN:Stmt:=top 44
abbrev fY:Stmt:=top 45
abbrev bV:Stmt:=top 46
abbrev fD:Stmt:=top 49
abbrev gx:Stmt:=top 39
abbrev fR:Stmt:=top 41
abbrev fH:Stmt:=top 42
abbrev rn:Stmt:=top 23
abbrev oo:Stmt:=top 24
abbrev gJ:Stmt:=top 25
abbrev gF:Stmt:=top 16
abbrev fM:Stmt:=top 18
abbrev fu:Stmt:=top 19
abbrev d7:Stmt:=top 20
abbrev bH:Stmt:=top 10
abbrev fS:Stmt:=top 11
abbrev fV:Stmt:=top 21
abbrev fq:Stmt:=top 22
abbrev bQ:Stmt:=top 29
abbrev nK:Stmt:=top 15
abbrev nh:Stmt:=top 13
abbrev nr:Stmt:=top 12
abbrev kX:Stmt:=top 14
abbrev bY:Stmt:=top 31
abbrev cg:Stmt:=top 30
abbrev gI:Stmt:=top 28
abbrev bE:Stmt:=top 32
abbrev cw:Stmt:=top 33
abbrev fU:Stmt:=top 35
abbrev gQ:Stmt:=top 34
abbrev eJ:Stmt:=top 47
abbrev fL:Stmt:=top 48
abbrev gC:Stmt:=top 50
abbrev sL:Stmt:=top 51
abbrev eg:Stmt:=lT (top 5) 0
theorem lq:FnScope ["self","wall","other"] ["self","wall","other"] (ao eg):=⟨rfl,rfl,rfl,by decide,rfl,by decide,by decide⟩
abbrev fQ:Stmt:=lT (top 4) 0
theorem lY:FnScope ["self","count"] ["self","count"] (ao fQ):=⟨rfl,rfl,rfl,by decide,rfl,by decide,by decide⟩
local macro_rules | `(tactic| walk_at "sc") => `(tactic| exact ⟨rfl, rfl, rfl, by decide, rfl, by decide, by decide⟩)
theorem _root_.SD.Cal.m{P:Program}{w:World}{K:PySem.W.Frag}{mg:Str->Option Value}{base:Heap}{j k:Nat}{x:Str}{sp:SpD}(h:Cal P w K mg base j x sp)(l:j<=k:=by decide):Cal P w K mg base k x sp:=h.mono l
structure Tx(K:PySem.W.Frag)(mg:Str->Option Value):Prop where
 f_law_cell_at:Txt K mg "_law_cell_at" du
 f_law_take:Txt K mg "_law_take" fv
 f_law_scale:Txt K mg "_law_scale" el
 f_law_turn:Txt K mg "_law_turn" fN
 f_law_on:Txt K mg "_law_on" iN
 f_law_fair:Txt K mg "_law_fair" fY
 f_law_shuts_here:Txt K mg "_law_shuts_here" bV
 f_law_more:Txt K mg "_law_more" fD
 f_law_low:Txt K mg "_law_low" gx
 f_law_spot:Txt K mg "_law_spot" fR
 f_law_made:Txt K mg "_law_made" fH
 f_gap:Txt K mg "gap" rn
 f_lean:Txt K mg "lean" oo
 f_side_of:Txt K mg "side_of" gJ
 f_is_less:Txt K mg "is_less" gF
 f_is_ahead:Txt K mg "is_ahead" fM
 f_later_of:Txt K mg "later_of" fu
 f_earlier_of:Txt K mg "earlier_of" d7
 f_greatest_divisor:Txt K mg "greatest_divisor" bH
 f_fraction:Txt K mg "fraction" fS
 f_own_spot:Txt K mg "own_spot" fV
 f_own_wall:Txt K mg "own_wall" fq
 f_meeting_in_line:Txt K mg "meeting_in_line" bQ
 f_over:Txt K mg "over" nK
 f_less:Txt K mg "less" nh
 f_plus:Txt K mg "plus" nr
 f_times:Txt K mg "times" kX
 f_number_between:Txt K mg "number_between" bY
 f_crossing_spot:Txt K mg "crossing_spot" cg
 f_meeting:Txt K mg "meeting" gI
 f_meet_as_in_plots:Txt K mg "meet_as_in_plots" bE
 f_first_crossed:Txt K mg "first_crossed" cw
 f_own_plot:Txt K mg "own_plot" fU
 f_plot_of:Txt K mg "plot_of" gQ
 f_law_alone:Txt K mg "_law_alone" eJ
 f_law_told:Txt K mg "_law_told" fL
 f_law_due:Txt K mg "_law_due" gC
 f_law:Txt K mg "law" sL
 b_ValueError:mg "ValueError"=none
 b_abs:mg "abs"=none
 b_all:mg "all"=none
 b_enumerate:mg "enumerate"=none
 b_int:mg "int"=none
 b_isinstance:mg "isinstance"=none
 b_len:mg "len"=none
 b_list:mg "list"=none
 b_max:mg "max"=none
 b_min:mg "min"=none
 b_range:mg "range"=none
 b_tuple:mg "tuple"=none
 g_MOST_WALLS:∃t,mg "MOST_WALLS"=some (.int 40 t)
 r_Absent:mg "Absent"=some (.ref (cl K "Absent"))
 r_Crossing:mg "Crossing"=some (.ref (cl K "Crossing"))
 r_NoFraction:mg "NoFraction"=some (.ref (cl K "NoFraction"))
 r_NoRow:mg "NoRow"=some (.ref (cl K "NoRow"))
 r_NoText:mg "NoText"=some (.ref (cl K "NoText"))
 r_NoWall:mg "NoWall"=some (.ref (cl K "NoWall"))
 r_SpotError:mg "SpotError"=some (.ref (cl K "SpotError"))
 r_TooMany:mg "TooMany"=some (.ref (cl K "TooMany"))
 e_SpotError:ClsE K "SpotError" (cl K "SpotError")
 eb_SpotError:PySem.W.subIn K (.ref (cl K "SpotError")) (.type "BaseException")=some true
 B_SpotError:ClsB K (cl K "SpotError")
 eb_Crossing:PySem.W.subIn K (.ref (cl K "Crossing")) (.type "BaseException")=some true
 es_Crossing_SpotError:PySem.W.subIn K (.ref (cl K "Crossing")) (.ref (cl K "SpotError"))=some true
 fn_Crossing_wall:PySem.W.findIn K (.ref (cl K "Crossing")) "wall"=some none
 fn_Crossing_other:PySem.W.findIn K (.ref (cl K "Crossing")) "other"=some none
 hd_Crossing:PySem.W.hasDictIn K (cl K "Crossing")=true
 m_Crossing:∃fI fd,ClsI K (cl K "Crossing") (cl K "SpotError") fI/\Fun K "__init__" "Crossing.__init__" eg fI fd
 ek_Crossing:ErrK K (cl K "Crossing")
 kv_Crossing:PySem.W.kitOne K (.ref (cl K "Crossing")) (.type "ValueError")=some true
 ki_Crossing_Absent:PySem.W.kitOne K (.ref (cl K "Crossing")) (.ref (cl K "Absent"))=some false
 ki_Crossing_Crossing:PySem.W.kitOne K (.ref (cl K "Crossing")) (.ref (cl K "Crossing"))=some true
 ki_Crossing_NoFraction:PySem.W.kitOne K (.ref (cl K "Crossing")) (.ref (cl K "NoFraction"))=some false
 ki_Crossing_NoRow:PySem.W.kitOne K (.ref (cl K "Crossing")) (.ref (cl K "NoRow"))=some false
 ki_Crossing_NoText:PySem.W.kitOne K (.ref (cl K "Crossing")) (.ref (cl K "NoText"))=some false
 ki_Crossing_NoWall:PySem.W.kitOne K (.ref (cl K "Crossing")) (.ref (cl K "NoWall"))=some false
 ki_Crossing_TooMany:PySem.W.kitOne K (.ref (cl K "Crossing")) (.ref (cl K "TooMany"))=some false
 eb_TooMany:PySem.W.subIn K (.ref (cl K "TooMany")) (.type "BaseException")=some true
 es_TooMany_SpotError:PySem.W.subIn K (.ref (cl K "TooMany")) (.ref (cl K "SpotError"))=some true
 fn_TooMany_count:PySem.W.findIn K (.ref (cl K "TooMany")) "count"=some none
 hd_TooMany:PySem.W.hasDictIn K (cl K "TooMany")=true
 m_TooMany:∃fI fd,ClsI K (cl K "TooMany") (cl K "SpotError") fI/\Fun K "__init__" "TooMany.__init__" fQ fI fd
 ek_TooMany:ErrK K (cl K "TooMany")
 kv_TooMany:PySem.W.kitOne K (.ref (cl K "TooMany")) (.type "ValueError")=some true
 ki_TooMany_Absent:PySem.W.kitOne K (.ref (cl K "TooMany")) (.ref (cl K "Absent"))=some false
 ki_TooMany_Crossing:PySem.W.kitOne K (.ref (cl K "TooMany")) (.ref (cl K "Crossing"))=some false
 ki_TooMany_NoFraction:PySem.W.kitOne K (.ref (cl K "TooMany")) (.ref (cl K "NoFraction"))=some false
 ki_TooMany_NoRow:PySem.W.kitOne K (.ref (cl K "TooMany")) (.ref (cl K "NoRow"))=some false
 ki_TooMany_NoText:PySem.W.kitOne K (.ref (cl K "TooMany")) (.ref (cl K "NoText"))=some false
 ki_TooMany_NoWall:PySem.W.kitOne K (.ref (cl K "TooMany")) (.ref (cl K "NoWall"))=some false
 ki_TooMany_TooMany:PySem.W.kitOne K (.ref (cl K "TooMany")) (.ref (cl K "TooMany"))=some true
variable{P:Program}{w:World}{K:PySem.W.Frag}{mg:Str->Option Value}{base:Heap}
theorem eN(T:Tx K mg):MkE P w K mg base 1 "Crossing" (cl K "Crossing") ["wall","other"]:=by obtain⟨fI,fd,M,F⟩:=T.m_Crossing;refine⟨_,fI,fd,["self","wall","other"],M,T.eb_Crossing,F.ok (k:=0) (N:=["self","wall","other"]) lq (fun vs H Q E h=>by obtain⟨a,ys,rfl,hl,_⟩:=h;simp[hl]) (fun cdv A outer s H vs Q E hr h=>⟨_,gu (kx (pj T.B_SpotError rfl T.r_SpotError (gj (pv 0) (gj (oR (bI (f9 (by decide)) (bI (jh (pv 1)) (bI (f9 (by decide)) (bI (jh (pv 2)) (bI (f9 (by decide)) parts_nil))))) (by decide) rfl) nN)) (by decide) rfl rfl rfl)) (gu (k9 (pv 0) (pv 1) rfl) (kz (k9 (pv 0) (pv 2) rfl))),y4 M T.fn_Crossing_wall T.fn_Crossing_other (by decide) rfl h (fun a y0 y1 hy0 hy1=>⟨trivial,⟨_,rfl,rfl,hy0⟩,trivial,⟨_,rfl,rfl,hy1⟩,trivial,trivial⟩)⟩),F.binds (fun _ _ _ _ _ _ us hl=>match us,hl with|[_,_,_],_=>rfl),T.r_Crossing⟩
theorem iI(T:Tx K mg):MkE P w K mg base 1 "TooMany" (cl K "TooMany") ["count"]:=by obtain⟨fI,fd,M,F⟩:=T.m_TooMany;refine⟨_,fI,fd,["self","count"],M,T.eb_TooMany,F.ok (k:=0) (N:=["self","count"]) lY (fun vs H Q E h=>by obtain⟨a,ys,rfl,hl,_⟩:=h;simp[hl]) (fun cdv A outer s H vs Q E hr h=>⟨_,gu (kx (pj T.B_SpotError rfl T.r_SpotError (gj (pv 0) (gj (oR (bI (f9 (by decide)) (bI (jh (pv 1)) parts_nil)) (by decide) rfl) nN)) (by decide) rfl rfl rfl)) (kz (k9 (pv 0) (pv 1) rfl)),xY M T.fn_TooMany_count rfl h (fun a y0 hy0=>⟨trivial,⟨_,rfl,rfl,hy0⟩,trivial⟩)⟩),F.binds (fun _ _ _ _ _ _ us hl=>match us,hl with|[_,_],_=>rfl),T.r_TooMany⟩
theorem iW:FnScope ["_law_script","_law_k"] ["_law_script","_law_k"] (ao du):=by walk_at "sc"
inductive Cn_law_cell_at(x y:D)(M:MH)(Q:DK):Prop
 |mk (ns:_) (k:_) (hh0:x=.rol (List.map D.int ns)) (hh1:y=.int k) (hh2:0<=k) (hh3:∀z,Q (.int z) M):Cn_law_cell_at x y M Q
def bR:SpD:=fun ds M Q=>match ds with
 |[x,y]=>Cn_law_cell_at x y M Q
 |_=>False
theorem iC:∀ds M Q,bR ds M Q->ds.length=2:=fun ds M Q h=>by
 unfold bR at h;split at h
 ·rfl
 ·exact h.elim
theorem jm(T:Tx K mg):Cal P w K mg base 1 "_law_cell_at" bR:=by
 refine a9 (k:=0) T.f_law_cell_at iW (fun _ _ _ _ _ _ us hl=>by obtain⟨_,_,rfl⟩:=SD.bF hl;rfl) iC fun f cdv A outer s H E hr=>⟨_,(ai (aP (aJ (gA hr.units) (dv 1) (ax ck rfl T.b_len cx (aa (dv 0) af))) (ak (av (aq (dv 0) (dv 1)))) aD) (ak (av ae))),fun ds M Q h=>?r⟩
 case r=>
  unfold bR at h
  split at h
  case h_2=>exact h.elim
  obtain⟨ns,k,rfl,rfl,hk,q⟩:=h
  (repeat (first|refine⟨_,rfl,?_⟩|refine⟨trivial,?_⟩|refine⟨_,_,rfl,?_⟩|refine⟨rfl,?_⟩|refine⟨nbL rfl,?_⟩))
  refine bN (fun hl=>?_) (fun _=>?_)
  ·have hl':k<(ns.length:Int):=by simpa using hl
   obtain⟨j,rfl⟩:∃j:Nat,k=(j:Int):=⟨k.toNat,by omega⟩;have hj:j<ns.length:=by omega
   refine⟨_,rfl,_,rfl,.int ns[j],ik (by simp[hj]),rtn (q _)⟩
  ·exact rtn (q 0)
theorem c9:FnScope ["_law_row","_law_base","_law_rest","_law_number"] ["_law_row","_law_base"] (ao fv):=by walk_at "sc"
inductive Cn_law_take(y z:D)(M:MH)(Q:DK):Prop
 |mk (r:_) (b:_) (x:_) (c:_) (hh0:y=.ref r) (hh1:z=.int b) (hh2:M r=some (.lst [.int x,.int c])) (hh3:0<=c) (hh4:c<1000000) (hh5:0<b) (hh6:Bd 8000 b) (hh7:∀x' v,0<=v->v<b->Q (.int v) (ay M r (.lst [.int x',.int (c+1)]))):Cn_law_take y z M Q
def dk:SpD:=fun ds M Q=>match ds with
 |[y,z]=>Cn_law_take y z M Q
 |_=>False
theorem lI:∀ds M Q,dk ds M Q->ds.length=2:=fun ds M Q h=>by
 unfold dk at h;split at h
 ·rfl
 ·exact h.elim
theorem aw(T:Tx K mg):Cal P w K mg base 1 "_law_take" dk:=by
 refine a9 (k:=0) T.f_law_take c9 (fun _ _ _ _ _ _ us hl=>by obtain⟨_,_,rfl⟩:=SD.bF hl;rfl) lI fun f cdv A outer s H E hr=>⟨_,(ai (dW (ar aS (aq (dv 0) ae) ae) (sf (dv 0) ae)) (ai (aP (aJ (n6 hr.units) (aq (dv 0) ae) (ar gM ae ae)) (ai (aC 2 c9.nd (ar bP (aq (dv 0) ae) (ar gM ae ae))) (ai (dW (ar aS (ar gM ae ae) (ar jO (dv 2) (dv 1))) (sf (dv 0) ae)) (ak (av (ar fz (dv 2) (dv 1)))))) aD) (ai (aC 3 c9.nd (ar fz (ar aS (ar aS (ar aS (ar aI (aq (dv 0) ae) ae) (ar aI (ar aI ae (aq (dv 0) ae)) (aq (dv 0) ae))) (ar aI ae (aq (dv 0) ae))) ae) ae)) (ai (aC 3 c9.nd (ar fz (ar aS (ar aS (ar aI (dv 3) (dv 3)) (ar aI ae (dv 3))) (aq (dv 0) ae)) ae)) (ak (av (ar fz (ar jO (dv 3) ae) (dv 1)))))))),fun ds M Q h=>?r⟩
 case r=>
  unfold dk at h
  split at h
  case h_2=>exact h.elim
  obtain⟨r,b,x,c,rfl,rfl,hM,hc0,hc1,hb,hbd,q⟩:=h
  have hc64:Bd 64 (c+1):=by show(c+1).natAbs<2^64;omega
  have hb0:b≠0:=by omega
  have hm:∀n:Int,0<=n.fmod b/\n.fmod b<b:=fun n=>⟨Int.fmod_nonneg_of_pos _ hb,Int.fmod_lt_of_pos _ hb⟩
  refine⟨_,rfl,_,_,hM,rfl,?_⟩
  refine⟨_,rfl,_,_,hM,rfl,?_⟩
  refine⟨_,rfl,_,_,ag,rfl,⟨by decide,by decide,by decide⟩,trivial,_,rfl,?_⟩
  refine bN (fun h=>?_) (fun h=>?_)
  ·refine⟨_,rfl,_,_,ag,rfl,⟨by decide,by decide,by decide⟩,trivial,?_⟩;refine⟨⟨by decide,by decide,by decide⟩,_,rfl,_,rfl,⟨hb0,hbd⟩,_,rfl,_,_,ag,rfl,?_⟩;refine⟨_,rfl,_,rfl,hb0,?_⟩;rw[bL];exact rtn (q _ _ (hm _).1 (hm _).2)
  ·refine⟨_,rfl,_,_,ag,rfl,ia (by decide),?_⟩;refine⟨_,rfl,_,_,ag,rfl,bg (by decide),?_⟩;refine⟨_,rfl,_,_,ag,rfl,ia hc64,?_⟩;refine⟨_,rfl,_,_,ag,rfl,bg (by decide),(show(2147483399:Int)≠0 by decide),?_⟩
   have hn:∀n:Int,Bd 64 (n.fmod 2147483399):=fun n=>by
    have h1:=Int.fmod_nonneg_of_pos n (show(0:Int)<2147483399 by decide)
    have h2:=Int.fmod_lt_of_pos n (show(0:Int)<2147483399 by decide)
    show(n.fmod 2147483399).natAbs<2^64
    omega
   refine⟨_,rfl,_,rfl,bg (hn _),_,rfl,bg (by decide),_,rfl,_,_,ag,rfl,(show(2147483647:Int)≠0 by decide),?_⟩;refine⟨_,rfl,⟨by decide,bO (by decide)⟩,_,rfl,hb0,?_⟩;exact rtn (q _ _ (hm _).1 (hm _).2)
theorem cF:FnScope ["_law_row","_law_top","_law_bottom","_law_far"] ["_law_row"] (ao el):=by walk_at "sc"
inductive Cn_law_scale(u:D)(M:MH)(Q:DK):Prop
 |mk (r:Addr) (x c:Int) (hh0:u=.ref r) (hh1:M r=some (.lst [.int x,.int c])) (hh2:0<=c) (hh3:c<900000) (hh4:∀x' c' t b p q,Scl t b p q->0<=c'->c'<=c+10->Q (scl t b p q) (ay M r (.lst [.int x',.int c']))):Cn_law_scale u M Q
def cG:SpD:=fun ds M Q=>match ds with
 |[u]=>Cn_law_scale u M Q
 |_=>False
theorem kn:∀ds M Q,cG ds M Q->ds.length=1:=fun ds M Q h=>by
 unfold cG at h;split at h
 ·rfl
 ·exact h.elim
theorem mn(T:Tx K mg):Cal P w K mg base 2 "_law_scale" cG:=by
 refine a9 (k:=1) T.f_law_scale cF (fun _ _ _ _ _ _ us hl=>by obtain⟨_,rfl⟩:=SD.ll hl;rfl) kn fun f cdv A outer s H E hr=>⟨_,(ai (fP 1 2 rfl cF.nd (aa (ar aS ae (aj (aw T).m hr (aa (dv 0) (aa ae af)))) (aa (ar aS ae (aj (aw T).m hr (aa (dv 0) (aa ae af)))) af))) (ai (aP (aJ (cK hr.units) (aj (aw T).m hr (aa (dv 0) (aa ae af))) ae) (ak (fP 1 2 rfl cF.nd (aa (ar aS ae (aj (aw T).m hr (aa (dv 0) (aa (ar gM ae ae) af)))) (aa (ar aS ae (aj (aw T).m hr (aa (dv 0) (aa (ar gM ae ae) af)))) af)))) aD) (ai (aC 3 cF.nd (aq (fX (aa ae (aa (ar gM ae ae) af))) (cI nC rfl T.b_int oA (aa (cy (cK hr.units) (aj (aw T).m hr (aa (dv 0) (aa ae af))) ae) af)))) (ak (av (aH (aa (dv 1) (aa (dv 2) (aa (ar aI (dv 3) (ar bP (aj (aw T).m hr (aa (dv 0) (aa ae af))) ae)) (aa (ar aI (dv 3) (ar bP (aj (aw T).m hr (aa (dv 0) (aa ae af))) ae)) af)))))))))),fun ds M Q h=>?r⟩
 case r=>
  unfold cG at h
  split at h
  case h_2=>exact h.elim
  obtain⟨r,x,c,rfl,hM,hc0,hc1,k⟩:=h
  refine⟨_,rfl,r,6,x,c,rfl,rfl,hM,hc0,by omega,by decide,bO (by decide),fun x1 v1 h10 h11=>?_⟩
  refine⟨_,rfl,r,6,x1,c+1,rfl,rfl,ag,by omega,by omega,by decide,bO (by decide),fun x2 v2 h20 h21=>?_⟩
  refine⟨_,_,rfl,?_⟩
  (try dsimp only[SD.aR])
  refine d5 (fun δ M'=>∃x c' t b o3,0<=c'/\c'<=c+5/\(0<t/\t<=10^9/\0<b/\b<=10^9)/\M'=ay M r (.lst [.int x,.int c'])/\δ=[some (.ref r),some (.int t),some (.int b),o3]) ?_ (fun hu=>?_)
  rotate_left
  ·refine⟨_,rfl,r,4,x2,c+1+1,rfl,rfl,ag,by omega,by omega,by decide,bO (by decide),fun x3 v3 h30 h31=>⟨_,rfl,?_⟩⟩;refine bN (fun _=>?_) (fun _=>?_)
   ·refine⟨_,rfl,⟨by decide,by decide,by decide⟩,r,10^9,x3,c+1+1+1,rfl,rfl,ag,by omega,by omega,by decide,bO (by decide),fun x4 v4 h40 h41=>?_⟩;refine⟨_,rfl,⟨by decide,by decide,by decide⟩,r,10^9,x4,c+1+1+1+1,rfl,rfl,ag,by omega,by omega,by decide,bO (by decide),fun x5 v5 h50 h51=>?_⟩;refine⟨_,_,rfl,hu _ _ ⟨x5,c+1+1+1+1+1,1+v4,1+v5,none,by omega,by omega,by omega,?_,rfl⟩⟩;simp only[bL]
   ·refine hu _ _ ⟨x3,c+1+1+1,1+v1,1+v2,none,by omega,by omega,by omega,?_,rfl⟩;simp only[bL]
  rintro δ M' ⟨x,c',t,b,o3,hc0',hc1',hb,rfl,rfl⟩
  refine⟨⟨by decide,by decide,by decide⟩,nbL rfl,fun p hp=>?_⟩
  have npr:r≠p:=aN ag hp
  refine⟨_,rfl,r,6,x,c',rfl,rfl,(by rw[au npr,ag]),by omega,by omega,by decide,bO (by decide),fun x6 v6 h60 h61=>?_⟩
  have hf:∃f:Int,atI [D.int 1,D.int (10^15)] (if decide (v6=0)=true then 1 else 0)=some (.int f)/\1<=f/\f<=10^15:=by
   by_cases z:v6=0
   ·exact⟨10^15,by rw[if_pos (by simpa using z)];rfl,by decide,by decide⟩
   ·exact⟨1,by rw[if_neg (by simpa using z)];rfl,by decide,by decide⟩
  obtain⟨f,ef,hf0,hf1⟩:=hf
  refine⟨_,_,(by rw[au npr.symm,ag];rfl),ef,?_⟩
  have bf:Bd 64 f:=by show f.natAbs<2^64;omega
  refine⟨_,rfl,_,rfl,_,rfl,_,rfl,r,41,x6,c'+1,rfl,rfl,ag,by omega,by omega,by decide,bO (by decide),fun x7 v7 h70 h71=>⟨trivial,bg bf,?_⟩⟩
  refine⟨_,rfl,_,rfl,r,41,x7,c'+1+1,rfl,rfl,ag,by omega,by omega,by decide,bO (by decide),fun x8 v8 h80 h81=>⟨trivial,bg bf,nbL rfl,?_⟩⟩
  have bnd:∀v:Int,0<=v->v<41->-(10^17)<=f*(v-20)/\f*(v-20)<=10^17:=fun v a b=>by
   have h1:f*(v-20)<=f*20:=Int.mul_le_mul_of_nonneg_left (by omega) (by omega)
   have h2:f*(-20)<=f*(v-20):=Int.mul_le_mul_of_nonneg_left (by omega) (by omega)
   omega
  have q7:=bnd v7 h70 h71
  have q8:=bnd v8 h80 h81
  refine⟨ay M r (.lst [.int x8,.int (c'+1+1+1)]),?_,k _ _ _ _ _ _ ⟨hb.1,hb.2.1,hb.2.2.1,hb.2.2.2,q7.1,q7.2,q8.1,q8.2⟩ (by omega) (by omega)⟩
  simp only[bL]
  refine .zG ?_
  intro a o ne e
  have:a≠p:=fun z=>by subst z;rw[au ne]at hp;rw[hp]at e;cases e
  rw[au this,au ne]
  exact e
theorem dq:FnScope ["_law_one","_law_two","_law_three","_law_far","_law_beside","_law_found"] ["_law_one","_law_two","_law_three"] (ao fN):=by walk_at "sc"
inductive Cn_law_turn(u v w:D)(M:MH)(Q:DK):Prop
 |mk (a b c d e f:Int) (hh0:u=.tup [.int a,.int b]) (hh1:v=.tup [.int c,.int d]) (hh2:w=.tup [.int e,.int f]) (hh3:Bd 10 a) (hh4:Bd 10 b) (hh5:Bd 10 c) (hh6:Bd 10 d) (hh7:Q (.int (Int.sign (crs (c-a) (d-b) (e-a) (f-b)))) M):Cn_law_turn u v w M Q
def c7:SpD:=fun ds M Q=>match ds with
 |[u,v,w]=>Cn_law_turn u v w M Q
 |_=>False
theorem mH:∀ds M Q,c7 ds M Q->ds.length=3:=fun ds M Q h=>by
 unfold c7 at h;split at h
 ·rfl
 ·exact h.elim
theorem fG(T:Tx K mg):Cal P w K mg base 1 "_law_turn" c7:=by
 refine a9 (k:=0) T.f_law_turn dq (fun _ _ _ _ _ _ us hl=>by obtain⟨_,_,_,rfl⟩:=SD.wR hl;rfl) mH fun f cdv A outer s H E hr=>⟨_,(ai (aC 3 dq.nd (aH (aa (ar bP (aq (dv 1) ae) (aq (dv 0) ae)) (aa (ar bP (aq (dv 1) ae) (aq (dv 0) ae)) af)))) (ai (aC 4 dq.nd (aH (aa (ar bP (aq (dv 2) ae) (aq (dv 0) ae)) (aa (ar bP (aq (dv 2) ae) (aq (dv 0) ae)) af)))) (ai (aC 5 dq.nd (ar bP (ar aI (aq (dv 3) ae) (aq (dv 4) ae)) (ar aI (aq (dv 3) ae) (aq (dv 4) ae)))) (ak (av (ar bP (cI nC rfl T.b_int oA (aa (cy (d6 hr.units) (dv 5) ae) af)) (cI nC rfl T.b_int oA (aa (cy (gA hr.units) (dv 5) ae) af)))))))),fun ds M Q h=>?r⟩
 case r=>
  unfold c7 at h
  split at h
  case h_2=>exact h.elim
  obtain⟨a,b,c,d,e,f,rfl,rfl,rfl,ha,hb,hc,hd,k⟩:=h
  refine⟨_,rfl,_,rfl,_,rfl,_,rfl,trivial,_,rfl,_,rfl,_,rfl,_,rfl,trivial,nbL rfl,?_⟩
  refine⟨_,rfl,_,rfl,_,rfl,_,rfl,trivial,_,rfl,_,rfl,_,rfl,_,rfl,trivial,nbL rfl,?_⟩
  refine⟨_,rfl,_,rfl,_,rfl,_,rfl,bg ((hc.sub ha).mono (by decide)),_,rfl,_,rfl,_,rfl,_,rfl,bg ((hd.sub hb).mono (by decide)),trivial,?_⟩
  refine⟨_,rfl,trivial,_,rfl,trivial,trivial,?_⟩
  have e1:(if decide (0<(c-a)*(f-b)-(d-b)*(e-a))=true then(1:Int)else 0)-(if decide ((c-a)*(f-b)-(d-b)*(e-a)<0)=true then(1:Int)else 0)=Int.sign (crs (c-a) (d-b) (e-a) (f-b)):=by
   unfold crs;generalize (c-a)*(f-b)-(d-b)*(e-a)=z;rcases Int.lt_trichotomy z 0 with h|h|h
   ·rw[Int.sign_eq_neg_one_of_neg h,if_neg (by simp;omega),if_pos (by simpa using h)];rfl
   ·subst h;rfl
   ·rw[Int.sign_eq_one_of_pos h,if_pos (by simpa using h),if_neg (by simp;omega)];rfl
  dsimp only
  rw[e1]
  exact rtn k
theorem pY:FnScope ["_law_shut","_law_spot_here"] ["_law_shut","_law_spot_here"] (ao iN):=by walk_at "sc"
inductive Cn_law_on(u v:D)(M:MH)(Q:DK):Prop
 |mk (w:Wl) (x y:Int) (hh0:u=uw w) (hh1:v=.tup [.int x,.int y]) (hh2:Bw 1000 w) (hh3:Q (.bl (onB w x y)) M):Cn_law_on u v M Q
def eZ:SpD:=fun ds M Q=>match ds with
 |[u,v]=>Cn_law_on u v M Q
 |_=>False
theorem qE:∀ds M Q,eZ ds M Q->ds.length=2:=fun ds M Q h=>by
 unfold eZ at h;split at h
 ·rfl
 ·exact h.elim
theorem sg(T:Tx K mg):Cal P w K mg base 2 "_law_on" eZ:=by
 refine a9 (k:=1) T.f_law_on pY (fun _ _ _ _ _ _ us hl=>by obtain⟨_,_,rfl⟩:=SD.bF hl;rfl) qE fun f cdv A outer s H E hr=>⟨_,(ak (av (ji (sM (rg hr.units) (rg hr.units) (aq (dv 0) ae) (dv 1) (aq (dv 0) ae)) (kL (cy (cK hr.units) (aj (fG T).m hr (aa (aq (dv 0) ae) (aa (aq (dv 0) ae) (aa (dv 1) af)))) ae))))),fun ds M Q h=>?r⟩
 case r=>
  unfold eZ at h
  split at h
  case h_2=>exact h.elim
  obtain⟨w,x,y,rfl,rfl,W,k⟩:=h
  (try dsimp only[SD.eG,SD.dE,SD.aR,SD.fj,SD.fm,SD.bS,SD.dw,SD.tBD,SD.fh])
  refine qa (HT.lexLe [w.1,w.2.1] [x,y]&&HT.lexLe [x,y] [w.2.2.1,w.2.2.2]) (decide (sd w x y=0)) (fun K hK=>?_) (fun _ K hK=>?_) (rtn k)
  ·refine⟨_,rfl,_,rfl,_,rfl,[w.1,w.2.1],[x,y],rfl,rfl,_,rfl,?_⟩;refine bN (fun h=>?_) (fun h=>?_)
   ·refine⟨_,rfl,_,rfl,[x,y],[w.2.2.1,w.2.2.2],rfl,rfl,?_⟩;rw[h,Bool.true_and]at hK;exact hK
   ·rw[eq_false_of_ne_true h,Bool.false_and]at hK;exact hK
  ·refine⟨_,rfl,_,rfl,_,rfl,_,rfl,_,rfl,w.1,w.2.1,w.2.2.1,w.2.2.2,x,y,rfl,rfl,rfl,dB W.u.1,dB W.u.2.1,dB W.u.2.2.1,dB W.u.2.2.2,?_⟩;have e:decide (Int.sign (crs (w.2.2.1-w.1) (w.2.2.2-w.2.1) (x-w.1) (y-w.2.1))=0)=decide (sd w x y=0):=by rw[decide_eq_decide];exact Int.sign_eq_zero_iff_zero
   try dsimp only
   show K (.bl (decide _)) _;rw[e];exact hK
theorem bJ:FnScope ["_law_one","_law_other","_law_shut","_law_beside","_law_spot_here","_law_sides","_law_others"] ["_law_one","_law_other"] (ao fY):=by walk_at "sc"
inductive Cn_law_fair(u v:D)(M:MH)(Q:DK):Prop
 |mk (U V:Wl) (hh0:u=uw U) (hh1:v=uw V) (hh2:Bw 1000 U) (hh3:Bw 1000 V) (hh4:Q (.bl (aO U V)) M):Cn_law_fair u v M Q
def cX:SpD:=fun ds M Q=>match ds with
 |[u,v]=>Cn_law_fair u v M Q
 |_=>False
theorem mj:∀ds M Q,cX ds M Q->ds.length=2:=fun ds M Q h=>by
 unfold cX at h;split at h
 ·rfl
 ·exact h.elim
theorem iT(T:Tx K mg):Cal P w K mg base 3 "_law_fair" cX:=by
 refine a9 (k:=2) T.f_law_fair bJ (fun _ _ _ _ _ _ us hl=>by obtain⟨_,_,rfl⟩:=SD.bF hl;rfl) mj fun f cdv A outer s H E hr=>⟨_,(ai (aP (aJ (cK hr.units) (dv 0) (dv 1)) (ak (av l5)) aD) (ai (iH PassesOwn.never rfl (fB (aH (aa (aH (aa (dv 0) (aa (dv 1) af))) (aa (aH (aa (dv 1) (aa (dv 0) af))) af)))) (bX rfl (aE (aG 2 bJ.nd) (aE (aG 3 bJ.nd) bq))) (ak (iH PassesOwn.never rfl (fB (dv 3)) (aG 4 bJ.nd) (ak (aP (mP (fJ (aJ (rF (wa hr)) (dv 4) (dv 2) (by with_unfolding_all rfl)) (dX (cm (aj (sg T).m hr (aa (dv 2) (aa (dv 4) af))))))) (ak (av l5)) aD))))) (ai (l4 5 bJ.nd (CScope.of (xs:=["_law_spot_here"]) (js:=[0]) rfl) rfl (fB (dv 1)) (fun _ _ _ _=>eR) (fun _ _ _ _=>(aj (fG T).m hr (aa (aq (dv 1) ae) (aa (aq (dv 1) ae) (aa (dv 0) af)))))) (ai (l4 6 bJ.nd (CScope.of (xs:=["_law_spot_here"]) (js:=[1]) rfl) rfl (fB (dv 0)) (fun _ _ _ _=>eR) (fun _ _ _ _=>(aj (fG T).m hr (aa (aq (dv 1) ae) (aa (aq (dv 1) ae) (aa (dv 0) af)))))) (ak (av (yg (cy (n6 hr.units) (ar aI (aq (dv 5) ae) (aq (dv 5) ae)) ae) (kL (cy (n6 hr.units) (ar aI (aq (dv 6) ae) (aq (dv 6) ae)) ae))))))))),fun ds M Q h=>?r⟩
 case r=>
  unfold cX at h
  split at h
  case h_2=>exact h.elim
  obtain⟨U,V,rfl,rfl,HU,HV,k⟩:=h
  refine⟨_,rfl,_,rfl,uwP U,uwP V,Pd.of rfl,Pd.of rfl,rfl,rfl,_,rfl,?_⟩
  rw[wq]
  refine bN (fun h=>rtn (by rw[tj h]at k;exact k)) (fun h=>?_)
  have hne:eqB U V=false:=eq_false_of_ne_true h
  dsimp only[SD.bS]
  refine d5 (fun δ M'=>M'=M/\(∃o2 o3 o4,δ=[some (uw U),some (uw V),o2,o3,o4,none,none])/\(inB U V.1 V.2.1=false/\inB U V.2.2.1 V.2.2.2=false)/\(inB V U.1 U.2.1=false/\inB V U.2.2.1 U.2.2.2=false)) ?_ (fun hu=>?_)
  rotate_left
  ·refine⟨_,rfl,_,rfl,nbL rfl,_,rfl,_,rfl,nbL rfl,nbL rfl,[.tup [uw U,uw V],.tup [uw V,uw U]],rfl,?_⟩;refine⟨fun i δ M'=>M'=M/\(∃o2 o3 o4,δ=[some (uw U),some (uw V),o2,o3,o4,none,none])/\(0<i->inB U V.1 V.2.1=false/\inB U V.2.2.1 V.2.2.2=false)/\(1<i->inB V U.1 U.2.1=false/\inB V U.2.2.1 U.2.2.2=false),⟨rfl,⟨_,_,_,rfl⟩,fun z=>absurd z (by decide),fun z=>absurd z (by decide)⟩,fun _ _ _ _ _=>rfl,?_,?_⟩
   ·rintro i d δ M' hi hd ⟨rfl,⟨o2,o3,o4,rfl⟩,p1,p2⟩;have hi:i<2:=hi;have hd:[D.tup [uw U,uw V],.tup [uw V,uw U]][i]?=some d:=hd
    have pick:∃A B,d=.tup [uw A,uw B]/\Bw 1000 A/\Bw 1000 B/\(inB A B.1 B.2.1=true->aO U V=false)/\(inB A B.2.2.1 B.2.2.2=true->aO U V=false)/\((inB A B.1 B.2.1=false/\inB A B.2.2.1 B.2.2.2=false)->(0<i+1->inB U V.1 V.2.1=false/\inB U V.2.2.1 V.2.2.2=false)/\(1<i+1->inB V U.1 U.2.1=false/\inB V U.2.2.1 U.2.2.2=false)):=by
     rcases(show i=0\/i=1 by omega)with rfl|rfl
     ·cases hd;exact⟨U,V,rfl,HU,HV,tH,ud,fun z=>⟨fun _=>z,fun y=>absurd y (by decide)⟩⟩
     ·cases hd;exact⟨V,U,rfl,HV,HU,uN,uq,fun z=>⟨fun _=>p1 (by decide),fun _=>z⟩⟩
    obtain⟨A,B,rfl,HA,HB,f1,f2,nxt⟩:=pick;refine⟨_,rfl,rfl,_,_,rfl,_,_,rfl,rfl,?_⟩;refine⟨_,rfl,[.tup [.int B.1,.int B.2.1],.tup [.int B.2.2.1,.int B.2.2.2]],rfl,?_⟩;refine⟨fun j δ M''=>M''=M'/\(∃o4,δ=[some (uw U),some (uw V),some (uw A),some (uw B),o4,none,none])/\(0<j->inB A B.1 B.2.1=false)/\(1<j->inB A B.2.2.1 B.2.2.2=false),⟨rfl,⟨_,rfl⟩,fun z=>absurd z (by decide),fun z=>absurd z (by decide)⟩,fun _ _ _ _ _=>rfl,?_,?_⟩
    ·rintro j d δ M'' hj hd ⟨rfl,⟨o4,rfl⟩,q1,q2⟩;have hj:j<2:=hj;have hd:[D.tup [.int B.1,.int B.2.1],.tup [.int B.2.2.1,.int B.2.2.2]][j]?=some d:=hd
     have pk:∃x y,d=.tup [.int x,.int y]/\(inB A x y=true->aO U V=false)/\(inB A x y=false->(0<j+1->inB A B.1 B.2.1=false)/\(1<j+1->inB A B.2.2.1 B.2.2.2=false)):=by
      rcases(show j=0\/j=1 by omega)with rfl|rfl
      ·cases hd;exact⟨_,_,rfl,f1,fun z=>⟨fun _=>z,fun y=>absurd y (by decide)⟩⟩
      ·cases hd;exact⟨_,_,rfl,f2,fun z=>⟨fun _=>q1 (by decide),fun _=>z⟩⟩
     obtain⟨x,y,rfl,ff,nx2⟩:=pk;(try dsimp only[SD.eG,SD.dE,SD.aR,SD.fj,SD.fm,SD.bS,SD.dw,SD.tBD,SD.fh])
     refine rL (!(decide (A.1=x/\A.2.1=y)||decide (A.2.2.1=x/\A.2.2.2=y))) (onB A x y) (fun K hK=>⟨_,rfl,_,rfl,wN _ A x y _ _ ⟨_,rfl,hK⟩⟩) (fun _ K hK=>⟨_,rfl,_,rfl,A,x,y,rfl,rfl,HA,_,rfl,hK⟩) ?_;refine bN (fun h=>rtn (by rw[ff h]at k;exact k)) (fun h=>?_);exact⟨rfl,⟨_,rfl⟩,nx2 (eq_false_of_ne_true h)⟩
    ·rintro δ M'' ⟨rfl,⟨o4,rfl⟩,q1,q2⟩;exact⟨rfl,⟨_,_,_,rfl⟩,nxt ⟨q1 (show 0<2 by decide),q2 (show 1<2 by decide)⟩⟩
   ·rintro δ M' ⟨rfl,⟨o2,o3,o4,rfl⟩,p1,p2⟩;exact hu _ _ ⟨rfl,⟨_,_,_,rfl⟩,p1 (show 0<2 by decide),p2 (show 1<2 by decide)⟩
  rintro δ M' ⟨rfl,⟨o2,o3,o4,rfl⟩,⟨e1,e2⟩,⟨e3,e4⟩⟩
  refine⟨_,rfl,[.tup [.int V.1,.int V.2.1],.tup [.int V.2.2.1,.int V.2.2.2]],rfl,comp_map (fun j=>if j=0 then .int (Int.sign (sd1 U V))else .int (Int.sign (sd2 U V))) (nbL rfl) (fun _ _ _=>rfl) ?_ (fun p hp=>?_)⟩
  ·intro j e' M2 hj he' _;have hj:j<2:=hj;have he':[D.tup [.int V.1,.int V.2.1],.tup [.int V.2.2.1,.int V.2.2.2]][j]?=some e':=he';rcases(show j=0\/j=1 by omega)with rfl|rfl
   ·cases he';exact⟨_,rfl,fun K2 hK2=>⟨_,rfl,_,rfl,_,rfl,_,rfl,_,rfl,U.1,U.2.1,U.2.2.1,U.2.2.2,_,_,rfl,rfl,rfl,dB HU.u.1,dB HU.u.2.1,dB HU.u.2.2.1,dB HU.u.2.2.2,hK2 _ .refl⟩⟩
   ·cases he';exact⟨_,rfl,fun K2 hK2=>⟨_,rfl,_,rfl,_,rfl,_,rfl,_,rfl,U.1,U.2.1,U.2.2.1,U.2.2.2,_,_,rfl,rfl,rfl,dB HU.u.1,dB HU.u.2.1,dB HU.u.2.2.1,dB HU.u.2.2.2,hK2 _ .refl⟩⟩
  refine⟨_,rfl,[.tup [.int U.1,.int U.2.1],.tup [.int U.2.2.1,.int U.2.2.2]],rfl,comp_map (fun j=>if j=0 then .int (Int.sign (sd1 V U))else .int (Int.sign (sd2 V U))) (nbL rfl) (fun _ _ _=>rfl) ?_ (fun p2 hp2=>?_)⟩
  ·intro j e' M2 hj he' _;have hj:j<2:=hj;have he':[D.tup [.int U.1,.int U.2.1],.tup [.int U.2.2.1,.int U.2.2.2]][j]?=some e':=he';rcases(show j=0\/j=1 by omega)with rfl|rfl
   ·cases he';exact⟨_,rfl,fun K2 hK2=>⟨_,rfl,_,rfl,_,rfl,_,rfl,_,rfl,V.1,V.2.1,V.2.2.1,V.2.2.2,_,_,rfl,rfl,rfl,dB HV.u.1,dB HV.u.2.1,dB HV.u.2.2.1,dB HV.u.2.2.2,hK2 _ .refl⟩⟩
   ·cases he';exact⟨_,rfl,fun K2 hK2=>⟨_,rfl,_,rfl,_,rfl,_,rfl,_,rfl,V.1,V.2.1,V.2.2.1,V.2.2.2,_,_,rfl,rfl,rfl,dB HV.u.1,dB HV.u.2.1,dB HV.u.2.2.1,dB HV.u.2.2.2,hK2 _ .refl⟩⟩
  have n12:p≠p2:=aN ag hp2
  have c1:(ay (ay M' p (.lst [.int (Int.sign (sd1 U V)),.int (Int.sign (sd2 U V))])) p2 (.lst [.int (Int.sign (sd1 V U)),.int (Int.sign (sd2 V U))])) p=some (.lst [.int (Int.sign (sd1 U V)),.int (Int.sign (sd2 U V))]):=by rw[au n12,ag]
  (try dsimp only[SD.eG,SD.dE,SD.aR,SD.fj,SD.fm,SD.bS,SD.dw,SD.tBD,SD.fh])
  refine orV (decide (0<=Int.sign (sd1 U V)*Int.sign (sd2 U V))) (decide (0<=Int.sign (sd1 V U)*Int.sign (sd2 V U))) (fun K hK=>⟨_,rfl,_,_,c1,rfl,_,rfl,_,_,c1,rfl,bg (vf _),trivial,hK⟩) (fun _ K hK=>⟨_,rfl,_,_,ag,rfl,_,rfl,_,_,ag,rfl,bg (vf _),trivial,hK⟩) ?_
  refine⟨M',.new hp2 (.new hp .refl),?_⟩
  rw[<-rp hne e1 e2 e3 e4]
  exact k
theorem aM:FnScope ["_law_row","_law_most","_law_size","_law_shuts","_law_turn_here","_law_one","_law_other","_law_shut"] ["_law_row","_law_most","_law_size"] (ao bV):=by walk_at "sc"
inductive Cn_law_shuts_here(u m n:D)(M:MH)(Q:DK):Prop
 |mk (r:Addr) (x c m':Int) (hh0:u=.ref r) (hh1:m=.int m') (hh2:(0<=m'/\m'<=12)) (hh3:n=.int 5) (hh4:M r=some (.lst [.int x,.int c])) (hh5:0<=c) (hh6:c<1000) (hh7:∀(M'':MH) (x' c':Int) (l:Addr) (ws:List Wl),r≠l->M'' r=some (.lst [.int x',.int c'])->M'' l=some (.lst (ws.map uw))->0<=c'->c'<=c+140->ws.length<=12->(∀w∈ws,Un5 w)->Q (.ref l) M''):Cn_law_shuts_here u m n M Q
def bc:SpD:=fun ds M Q=>match ds with
 |[u,m,n]=>Cn_law_shuts_here u m n M Q
 |_=>False
theorem gn:∀ds M Q,bc ds M Q->ds.length=3:=fun ds M Q h=>by
 unfold bc at h;split at h
 ·rfl
 ·exact h.elim
theorem gB(T:Tx K mg):Cal P w K mg base 4 "_law_shuts_here" bc:=by
 refine a9 (k:=3) T.f_law_shuts_here aM (fun _ _ _ _ _ _ us hl=>by obtain⟨_,_,_,rfl⟩:=SD.wR hl;rfl) gn fun f cdv A outer s H E hr=>⟨_,(ai (aC 3 aM.nd (fX af)) (ai (gr PassesOwn.never rfl rfl T.b_range (aa (aj (aw T).m hr (aa (dv 0) (aa (ar aS (dv 1) ae) af))) af) (aG 4 aM.nd) (ai (aC 5 aM.nd (aH (aa (aj (aw T).m hr (aa (dv 0) (aa (dv 2) af))) (aa (aj (aw T).m hr (aa (dv 0) (aa (dv 2) af))) af)))) (ai (aC 6 aM.nd (aH (aa (aj (aw T).m hr (aa (dv 0) (aa (dv 2) af))) (aa (aj (aw T).m hr (aa (dv 0) (aa (dv 2) af))) af)))) (ai (aP (mP (fJ (aJ (j8 hr.units) (dv 3) (fX af)) (dX (aJ (d6 hr.units) (aj (aw T).m hr (aa (dv 0) (aa ae af))) ae)))) (ak (aC 5 aM.nd (aq (aq (dv 3) (aj (aw T).m hr (aa (dv 0) (aa (ax ck rfl T.b_len cx (aa (dv 3) af)) af)))) (aj (aw T).m hr (aa (dv 0) (aa ae af)))))) aD) (ai (aC 7 aM.nd (aH (aa (ax (lb rfl hr.units) rfl T.b_min n9 (aa (dv 5) (aa (dv 6) af))) (aa (ax (kr rfl hr.units) rfl T.b_max nA (aa (dv 5) (aa (dv 6) af))) af)))) (ak (aP (mP (fJ (aJ (j8 hr.units) (dv 5) (dv 6)) (dX (cm (ax (wz rfl) rfl T.b_all vT (aa (iA (CScope.of (xs:=["_law_beside"]) (js:=[7]) rfl) rfl (fB (dv 3)) (fun _ _ _ _=>eR) (fun _ _ _ _=>(aj (iT T).m hr (aa (dv 1) (aa (dv 0) af))))) af)))))) (ak (kP (g8 (dv 3) (aa (dv 7) af)))) aD))))))) (ak (av (dv 3))))),fun ds M Q h=>?r⟩
 case r=>
  unfold bc at h
  split at h
  case h_2=>exact h.elim
  obtain⟨r,x0,c0,m,rfl,rfl,hm,rfl,hM,hc0,hc1,k⟩:=h
  refine⟨nbL rfl,fun l hl=>?_⟩
  have nrl:r≠l:=aN hM hl
  refine⟨_,rfl,_,rfl,r,m+1,x0,c0,rfl,rfl,(by rw[au nrl];exact hM),hc0,by omega,by omega,bO (by omega),fun x1 v h0 h1=>?_⟩
  refine⟨v.toNat,?_,by omega,fun i δ M'=>∃(x c:Int) (ws:List Wl) (o4 o5 o6 o7:Option D),δ=[some (.ref r),some (.int m),some (.int 5),some (.ref l),o4,o5,o6,o7]/\M' r=some (.lst [.int x,.int c])/\M' l=some (.lst (ws.map uw))/\0<=c/\c<=c0+1+10*i/\ws.length<=i/\(∀w∈ws,Un5 w),?_,?_,?_⟩
  ·rw[Int.toNat_of_nonneg h0]
  ·refine⟨x1,c0+1,[],_,_,_,_,rfl,ag,(by rw[au nrl.symm,ag];rfl),by omega,by omega,by decide,fun w hw=>absurd hw (by simp)⟩
  rotate_left
  ·rintro δ M' ⟨x,c,ws,o4,o5,o6,o7,rfl,hr',hl',g0,g1,g2,g3⟩;exact⟨_,rfl,rtn (k M' x c l ws nrl hr' hl' g0 (by omega) (by omega) g3)⟩
  rintro i δ M' hi ⟨x,c,ws,o4,o5,o6,o7,rfl,hr',hl',g0,g1,g2,g3⟩
  have hi8:i<=12:=by omega
  refine⟨_,rfl,_,rfl,r,5,x,c,rfl,rfl,hr',g0,by omega,by decide,bO (by decide),fun x1 p hp0 hp1=>?_⟩
  refine⟨_,rfl,_,rfl,r,5,x1,c+1,rfl,rfl,ag,by omega,by omega,by decide,bO (by decide),fun x2 q hq0 hq1=>⟨nbL rfl,?_⟩⟩
  refine⟨_,rfl,_,rfl,r,5,x2,c+1+1,rfl,rfl,ag,by omega,by omega,by decide,bO (by decide),fun x3 e he0 he1=>?_⟩
  refine⟨_,rfl,_,rfl,r,5,x3,c+1+1+1,rfl,rfl,ag,by omega,by omega,by decide,bO (by decide),fun x4 f hf0 hf1=>⟨nbL rfl,?_⟩⟩
  have hl4:(ay (ay (ay (ay M' r (.lst [.int x1,.int (c+1)])) r (.lst [.int x2,.int (c+1+1)])) r (.lst [.int x3,.int (c+1+1+1)])) r (.lst [.int x4,.int (c+1+1+1+1)])) l=some (.lst (ws.map uw)):=by rw[au nrl.symm,au nrl.symm,au nrl.symm,au nrl.symm];exact hl'
  have hr4:(ay (ay (ay (ay M' r (.lst [.int x1,.int (c+1)])) r (.lst [.int x2,.int (c+1+1)])) r (.lst [.int x3,.int (c+1+1+1)])) r (.lst [.int x4,.int (c+1+1+1+1)])) r=some (.lst [.int x4,.int (c+1+1+1+1)]):=ag
  generalize ay (ay (ay (ay M' r (.lst [.int x1,.int (c+1)])) r (.lst [.int x2,.int (c+1+1)])) r (.lst [.int x3,.int (c+1+1+1)])) r (.lst [.int x4,.int (c+1+1+1+1)])=M4 at hl4 hr4 ⊢
  (try dsimp only[SD.aR])
  refine d5 (fun δ M'=>∃(x c' p q:Int) (o7:Option D),δ=[some (.ref r),some (.int m),some (.int 5),some (.ref l),some (.int (i:Int)),some (.tup [.int p,.int q]),some (.tup [.int e,.int f]),o7]/\M' r=some (.lst [.int x,.int c'])/\M' l=some (.lst (ws.map uw))/\0<=c'/\c'<=c+10/\(0<=p/\p<=20)/\(0<=q/\q<=20)) ?_ (fun hu=>?_)
  rotate_left
  ·refine⟨_,rfl,nbL rfl,fun z hz=>?_⟩;have nrz:r≠z:=aN hr4 hz;have nlz:l≠z:=aN hl4 hz;have hl5:(ay M4 z (.lst [])) l=some (.lst (ws.map uw)):=by rw[au nlz];exact hl4
   have hr5:(ay M4 z (.lst [])) r=some (.lst [.int x4,.int (c+1+1+1+1)]):=by rw[au nrz];exact hr4
   refine⟨_,_,.lst hl5 (oh ws),.lst ag .nil,ke ws,rfl,_,rfl,?_⟩;rw[iB];refine bN (fun hne=>?_) (fun hnil=>?_)
   ·have hpos:0<ws.length:=by
     cases ws with
     |nil=>simp at hne
     |cons w ws=>simp
    refine⟨_,rfl,r,3,x4,c+1+1+1+1,rfl,rfl,hr5,by omega,by omega,by decide,bO (by decide),fun x5 v5 h50 h51=>⟨trivial,_,rfl,?_⟩⟩;have hl6:(ay (ay M4 z (.lst [])) r (.lst [.int x5,.int (c+1+1+1+1+1)])) l=some (.lst (ws.map uw)):=by rw[au nrl.symm];exact hl5
    refine bN (fun _=>?_) (fun _=>?_)
    ·refine⟨_,rfl,_,rfl,_,rfl,_,hl6,r,((ws.map uw).length:Int),x5,c+1+1+1+1+1,rfl,rfl,ag,by omega,by omega,by simpa using hpos,bO (by simp;omega),fun x6 v6 h60 h61=>?_⟩;obtain⟨w,hw,ew⟩:=oY (ws:=ws) h60 (by simpa using h61);have hw5:=g3 w hw;refine⟨_,_,(by rw[au nrl.symm];exact hl6),ew,?_⟩;refine⟨_,rfl,r,2,x6,c+1+1+1+1+1+1,rfl,rfl,ag,by omega,by omega,by decide,bO (by decide),fun x7 v7 h70 h71=>?_⟩;obtain⟨a,b,ea,ha,hb⟩:=rj hw5 h70 h71;refine⟨_,ea,hu _ _ ⟨x7,_,a,b,_,rfl,ag,(by rw[au nrl.symm,au nrl.symm];exact hl6),by omega,by omega,ha,hb⟩⟩
    ·exact hu _ _ ⟨x5,_,p,q,_,rfl,ag,hl6,by omega,by omega,by omega,by omega⟩
   ·refine e9 rfl ?_;exact hu _ _ ⟨x4,_,p,q,_,rfl,hr5,hl5,by omega,by omega,by omega,by omega⟩
  rintro δ M5 ⟨x5,c5,p,q,o7,rfl,hr5,hl5,k0,k1,hp,hq⟩
  have he:0<=e/\e<=20:=by omega
  have hf:0<=f/\f<=20:=by omega
  refine⟨_,rfl,_,rfl,[p,q],[e,f],rfl,rfl,?_⟩
  refine⟨_,rfl,_,rfl,[p,q],[e,f],rfl,rfl,nbL rfl,?_⟩
  refine⟨_,rfl,_,rfl,_,_,Pd.of rfl,Pd.of rfl,rfl,rfl,_,rfl,?_⟩
  rw[ir]
  refine bN (fun hne=>?_) (fun _=>?_)
  rotate_left
  ·refine e9 rfl ?_;exact⟨x5,c5,ws,_,_,_,_,rfl,hr5,hl5,k0,by omega,by omega,g3⟩
  obtain⟨w,e1,e2,hw⟩:=p7 hp hq he hf (fun⟨a,b⟩=>by simp[a,b]at hne)
  rw[e1,e2]
  refine⟨_,rfl,ws.map uw,hl5,?_⟩
  refine⟨by simp;omega,fun z hz=>?_⟩
  have nrz:r≠z:=aN hr5 hz
  have nlz:l≠z:=aN hl5 hz
  refine⟨fun j ys M'=>∃bs:List Bool,ys=bs.map D.bl/\bs.length=j/\M'=ay M5 z (.lst ys),⟨[],rfl,rfl,rfl⟩,?_,?_,?_⟩
  ·rintro j ys M' _ ⟨bs,_,_,rfl⟩;show(ay M5 z _) l=_;rw[au nlz];exact hl5
  ·rintro j ys d M' hj hd ⟨bs,rfl,hlen,rfl⟩;have hd:(ws.map uw)[j]?=some d:=hd;rw[List.getElem?_map]at hd;cases ev:ws[j]? with
   |none=>rw[ev]at hd;cases hd
   |some v=>
    rw[ev]at hd
    cases hd
    refine⟨_,rfl,?_⟩
    dsimp only[SD.ko]
    refine yz ?_
    exact⟨_,rfl,_,rfl,w,v,rfl,rfl,(nO hw).mono (by decide),(nO (g3 v (List.mem_of_getElem? ev))).mono (by decide),⟨_,.refl,ag,bs++[aO w v],by simp,by simp[hlen],by rw[bL]⟩⟩
  rintro ys M' ⟨bs,rfl,hlen,rfl⟩
  have hlen':bs.length=ws.length:=by rw[hlen];simp
  have hl6:(ay M5 z (.lst (bs.map D.bl))) l=some (.lst (ws.map uw)):=by rw[au nlz];exact hl5
  have hr6:(ay M5 z (.lst (bs.map D.bl))) r=some (.lst [.int x5,.int c5]):=by rw[au nrz];exact hr5
  refine⟨bs,ag,_,rfl,?_⟩
  refine bN (fun hall=>?_) (fun _=>?_)
  ·refine⟨_,rfl,l,_,rfl,hl6,_,rfl,ws.map uw,_,rfl,hl6,by simp;omega,?_⟩;refine⟨x5,c5,ws++[w],_,_,_,_,rfl,by rw[au nrl];exact hr6,by rw[ag,List.map_append];rfl,k0,by omega,by simp;omega,fun v hv=>?_⟩;rcases List.mem_append.mp hv with y|y
   ·exact g3 v y
   ·rw[List.mem_singleton.mp y];exact hw
  ·exact⟨x5,c5,ws,_,_,_,_,rfl,hr6,hl6,k0,by omega,by omega,g3⟩
theorem aX:FnScope ["_law_row","_law_shuts","_law_one","_law_other","_law_way","_law_beside"] ["_law_row","_law_shuts"] (ao fD):=by walk_at "sc"
theorem qC{n:Int}{w:Wl}(h:Bw n w){v:Int}(h0:0<=v)(h1:v<2):∃x y,atI [D.tup [.int w.1,.int w.2.1],.tup [.int w.2.2.1,.int w.2.2.2]] v=some (.tup [.int x,.int y])/\(-n<=x/\x<=n)/\(-n<=y/\y<=n):=by
 rcases(show v=0\/v=1 by omega)with rfl|rfl
 ·exact⟨_,_,rfl,h.u.1,h.u.2.1⟩
 ·exact⟨_,_,rfl,h.u.2.2.1,h.u.2.2.2⟩
theorem pW{n p q e f:Int}(hp:-n<=p/\p<=n)(hq:-n<=q/\q<=n)(he:-n<=e/\e<=n)(hf:-n<=f/\f<=n)(ne:¬(p=e/\q=f)) :
 ∃w:Wl,(if HT.lexLt [e,f] [p,q]=true then[e,f]else[p,q])=[w.1,w.2.1]/\(if HT.aQ [e,f] [p,q]=true then[e,f]else[p,q])=[w.2.2.1,w.2.2.2]/\Bw n w:=by
 by_cases h:HT.lexLt [e,f] [p,q]=true
 ·have g:¬HT.aQ [e,f] [p,q]=true:=by rw[Ma.bz,Ma.aF];rw[Ma.aF]at h;omega
  exact⟨(e,f,p,q),by rw[if_pos h],by rw[if_neg g],⟨he,hf,hp,hq⟩,Ma.aF.mp h⟩
 ·have g:HT.aQ [e,f] [p,q]=true:=by rw[Ma.bz,Ma.aF];rw[Ma.aF]at h;omega
  exact⟨(p,q,e,f),by rw[if_neg h],by rw[if_pos g],⟨hp,hq,he,hf⟩,by rw[Ma.bz]at g;exact Ma.aF.mp g⟩
inductive Cn_law_more(u v:D)(M:MH)(Q:DK):Prop
 |mk (r l:Addr) (x c n:Int) (ws:List Wl) (hh0:u=.ref r) (hh1:v=.ref l) (hh2:r≠l) (hh3:M r=some (.lst [.int x,.int c])) (hh4:M l=some (.lst (ws.map uw))) (hh5:0<=c) (hh6:c<10000) (hh7:20<=n) (hh8:n<=300) (hh9:ws.length<=100) (hh10:(∀w∈ws,Bw n w)) (hh11:∀(M':MH) (x' c':Int) (w:Wl),M' r=some (.lst [.int x',.int c'])->M' l=some (.lst (ws.map uw))->0<=c'->c'<=c+10->Bw (3*n) w->Q (uw w) M'):Cn_law_more u v M Q
def de:SpD:=fun ds M Q=>match ds with
 |[u,v]=>Cn_law_more u v M Q
 |_=>False
theorem lM:∀ds M Q,de ds M Q->ds.length=2:=fun ds M Q h=>by
 unfold de at h;split at h
 ·rfl
 ·exact h.elim
theorem nu(T:Tx K mg):Cal P w K mg base 2 "_law_more" de:=by
 refine a9 (k:=1) T.f_law_more aX (fun _ _ _ _ _ _ us hl=>by obtain⟨_,_,rfl⟩:=SD.bF hl;rfl) lM fun f cdv A outer s H E hr=>⟨_,(ai (aC 2 aX.nd (aH (aa (aj (aw T).m hr (aa (dv 0) (aa ae af))) (aa (aj (aw T).m hr (aa (dv 0) (aa ae af))) af)))) (ai (aC 3 aX.nd (aH (aa (aj (aw T).m hr (aa (dv 0) (aa ae af))) (aa (aj (aw T).m hr (aa (dv 0) (aa ae af))) af)))) (ai (aC 4 aX.nd (aj (aw T).m hr (aa (dv 0) (aa ae af)))) (ai (aP (mP (fJ (aJ (d6 hr.units) (dv 4) ae) (dX (aJ (j8 hr.units) (dv 1) (fX af))))) (ai (aC 5 aX.nd (aq (dv 1) (aj (aw T).m hr (aa (dv 0) (aa (ax ck rfl T.b_len cx (aa (dv 1) af)) af))))) (ai (aP (aJ (cK hr.units) (dv 4) ae) (ak (av (dv 5))) aD) (ai (aC 2 aX.nd (aq (dv 5) (aj (aw T).m hr (aa (dv 0) (aa ae af))))) (ak (aP (aJ (cK hr.units) (dv 4) ae) (ai (aC 2 aX.nd (aq (dv 5) ae)) (ak (aC 3 aX.nd (aH (aa (ar bP (ar aI ae (aq (aq (dv 5) ae) ae)) (aq (dv 2) ae)) (aa (ar bP (ar aI ae (aq (aq (dv 5) ae) ae)) (aq (dv 2) ae)) af)))))) aD))))) aD) (ai (aP (aJ (cK hr.units) (dv 2) (dv 3)) (ak (aC 3 aX.nd (aH (aa (aq (dv 2) ae) (aa (ar aS (aq (dv 2) ae) ae) af))))) aD) (ak (av (aH (aa (ax (lb rfl hr.units) rfl T.b_min n9 (aa (dv 2) (aa (dv 3) af))) (aa (ax (kr rfl hr.units) rfl T.b_max nA (aa (dv 2) (aa (dv 3) af))) af)))))))))),fun ds M Q h=>?r⟩
 case r=>
  unfold de at h
  split at h
  case h_2=>exact h.elim
  obtain⟨r,l,x,c,n,ws,rfl,rfl,nrl,hr,hl,c0,c1,n0,n1,hlen,hW,k⟩:=h
  refine⟨_,rfl,r,5,x,c,rfl,rfl,hr,c0,by omega,by decide,bO (by decide),fun x1 p hp0 hp1=>?_⟩
  refine⟨_,rfl,r,5,x1,c+1,rfl,rfl,ag,by omega,by omega,by decide,bO (by decide),fun x2 q hq0 hq1=>⟨nbL rfl,?_⟩⟩
  refine⟨_,rfl,r,5,x2,c+1+1,rfl,rfl,ag,by omega,by omega,by decide,bO (by decide),fun x3 e he0 he1=>?_⟩
  refine⟨_,rfl,r,5,x3,c+1+1+1,rfl,rfl,ag,by omega,by omega,by decide,bO (by decide),fun x4 f hf0 hf1=>⟨nbL rfl,?_⟩⟩
  refine⟨_,rfl,r,4,x4,c+1+1+1+1,rfl,rfl,ag,by omega,by omega,by decide,bO (by decide),fun x5 wy hw0 hw1=>?_⟩
  simp only[bL]
  have hl5:(ay M r (.lst [.int x5,.int (c+1+1+1+1+1)])) l=some (.lst (ws.map uw)):=by rw[au nrl.symm];exact hl
  have hr5:(ay M r (.lst [.int x5,.int (c+1+1+1+1+1)])) r=some (.lst [.int x5,.int (c+1+1+1+1+1)]):=ag
  generalize ay M r (.lst [.int x5,.int (c+1+1+1+1+1)])=M5 at hl5 hr5 ⊢
  (try dsimp only[SD.aR])
  refine d5 (fun δ M'=>∃(x' c' p q e f:Int) (o5:Option D),δ=[some (.ref r),some (.ref l),some (.tup [.int p,.int q]),some (.tup [.int e,.int f]),some (.int wy),o5]/\M' r=some (.lst [.int x',.int c'])/\M' l=some (.lst (ws.map uw))/\0<=c'/\c'<=c+10/\(-n<=p/\p<=n)/\(-n<=q/\q<=n)/\(-(3*n)<=e/\e<=3*n)/\(-(3*n)<=f/\f<=3*n)) ?_ (fun hu=>?_)
  rotate_left
  ·refine⟨_,rfl,trivial,_,rfl,?_⟩;refine bN (fun _=>?_) (fun _=>e9 rfl (hu _ _ ⟨x5,_,p,q,e,f,_,rfl,hr5,hl5,by omega,by omega,by omega,by omega,by omega,by omega⟩));refine⟨_,rfl,nbL rfl,fun z hz=>?_⟩;have nrz:r≠z:=aN hr5 hz;have nlz:l≠z:=aN hl5 hz;have hl6:(ay M5 z (.lst [])) l=some (.lst (ws.map uw)):=by rw[au nlz];exact hl5
   have hr6:(ay M5 z (.lst [])) r=some (.lst [.int x5,.int (c+1+1+1+1+1)]):=by rw[au nrz];exact hr5
   refine⟨_,_,.lst hl6 (oh ws),.lst ag .nil,ke ws,rfl,_,rfl,?_⟩;generalize ay M5 z (.lst [])=M6 at hl6 hr6 ⊢;rw[iB];refine bN (fun hne=>?_) (fun _=>hu _ _ ⟨x5,_,p,q,e,f,_,rfl,hr6,hl6,by omega,by omega,by omega,by omega,by omega,by omega⟩)
   have hpos:0<ws.length:=by
    cases ws with
    |nil=>simp at hne
    |cons w ws=>simp
   refine⟨_,rfl,_,rfl,_,rfl,_,hl6,r,((ws.map uw).length:Int),x5,c+1+1+1+1+1,rfl,rfl,hr6,by omega,by omega,by simpa using hpos,bO (by simp;omega),fun x6 v6 h60 h61=>?_⟩;obtain⟨w,hw,ew⟩:=oY (ws:=ws) h60 (by simpa using h61);have bw:=hW w hw;have hl7:(ay M6 r (.lst [.int x6,.int (c+1+1+1+1+1+1)])) l=some (.lst (ws.map uw)):=by rw[au nrl.symm];exact hl6
   have hr7:(ay M6 r (.lst [.int x6,.int (c+1+1+1+1+1+1)])) r=some (.lst [.int x6,.int (c+1+1+1+1+1+1)]):=ag;generalize ay M6 r (.lst [.int x6,.int (c+1+1+1+1+1+1)])=M7 at hl7 hr7 ⊢;refine⟨_,_,hl7,ew,?_⟩;refine⟨_,rfl,_,rfl,?_⟩;refine bN (fun _=>⟨_,rfl,rtn (k M7 x6 _ w hr7 hl7 (by omega) (by omega) (bw.mono (by omega)))⟩) (fun _=>?_);refine⟨_,rfl,_,rfl,r,2,x6,c+1+1+1+1+1+1,rfl,rfl,hr7,by omega,by omega,by decide,bO (by decide),fun x7 v7 h70 h71=>?_⟩;obtain⟨a,b,ea,ha,hb⟩:=qC bw h70 h71;have hl8:(ay M7 r (.lst [.int x7,.int (c+1+1+1+1+1+1+1)])) l=some (.lst (ws.map uw)):=by rw[au nrl.symm];exact hl7
   have hr8:(ay M7 r (.lst [.int x7,.int (c+1+1+1+1+1+1+1)])) r=some (.lst [.int x7,.int (c+1+1+1+1+1+1+1)]):=ag;generalize ay M7 r (.lst [.int x7,.int (c+1+1+1+1+1+1+1)])=M8 at hl8 hr8 ⊢;refine⟨_,ea,?_⟩;refine⟨_,rfl,_,rfl,?_⟩;have b1:=bw.u.1;have b2:=bw.u.2.1;have b3:=bw.u.2.2.1;have b4:=bw.u.2.2.2;refine bN (fun _=>?_) (fun _=>hu _ _ ⟨x7,_,a,b,e,f,_,rfl,hr8,hl8,by omega,by omega,ha,hb,by omega,by omega⟩);refine⟨_,rfl,_,rfl,?_⟩;refine⟨_,rfl,_,rfl,_,rfl,bg (by decide),_,rfl,_,rfl,trivial,_,rfl,_,rfl,_,rfl,bg (by decide),_,rfl,_,rfl,trivial,nbL rfl,?_⟩;exact hu _ _ ⟨x7,_,w.1,w.2.1,2*w.2.2.1-w.1,2*w.2.2.2-w.2.1,_,rfl,hr8,hl8,by omega,by omega,b1,b2,by omega,by omega⟩
  rintro δ M6 ⟨x6,c6,p,q,e,f,o5,rfl,hr6,hl6,k0,k1,hp,hq,he,hf⟩
  refine d5 (fun δ M'=>M'=M6/\∃(e f:Int),δ=[some (.ref r),some (.ref l),some (.tup [.int p,.int q]),some (.tup [.int e,.int f]),some (.int wy),o5]/\¬(p=e/\q=f)/\(-(3*n)<=e/\e<=3*n)/\(-(3*n)<=f/\f<=3*n)) ?_ (fun hu=>?_)
  rotate_left
  ·refine⟨_,rfl,_,rfl,_,_,Pd.of rfl,Pd.of rfl,rfl,rfl,_,rfl,?_⟩;rw[ir];refine bN (fun h=>?_) (fun h=>hu _ _ ⟨rfl,e,f,rfl,by simpa using h,he,hf⟩);refine⟨_,rfl,_,rfl,_,rfl,_,rfl,nbL rfl,?_⟩;exact hu _ _ ⟨rfl,p,q+1,rfl,by omega,by omega,by omega⟩
  rintro δ M7 ⟨rfl,e,f,rfl,ne,he,hf⟩
  obtain⟨w,e1,e2,hw⟩:=pW (n:=3*n) (by omega) (by omega) he hf ne
  refine⟨_,rfl,_,rfl,[p,q],[e,f],rfl,rfl,?_⟩
  refine⟨_,rfl,_,rfl,[p,q],[e,f],rfl,rfl,nbL rfl,?_⟩
  rw[e1,e2]
  exact rtn (k _ x6 c6 w hr6 hl6 k0 k1 hw)
theorem cO:FnScope ["_law_top","_law_bottom","_law_one","_law_other"] ["_law_top","_law_bottom"] (ao gx):=by walk_at "sc"
inductive Cn_law_low(x y:D)(M:MH)(Q:DK):Prop
 |mk (t:_) (b:_) (hh0:x=.int t) (hh1:y=.int b) (hh2:b≠0) (hh3:Bd 8000 t) (hh4:Bd 8000 b) (hh5:Q (Ma.fr (Rat.divInt t b)) M):Cn_law_low x y M Q
def dH:SpD:=fun ds M Q=>match ds with
 |[x,y]=>Cn_law_low x y M Q
 |_=>False
theorem oi:∀ds M Q,dH ds M Q->ds.length=2:=fun ds M Q h=>by
 unfold dH at h;split at h
 ·rfl
 ·exact h.elim
theorem jQ(T:Tx K mg):Cal P w K mg base 1 "_law_low" dH:=by
 refine a9 (k:=0) T.f_law_low cO (fun _ _ _ _ _ _ us hl=>by obtain⟨_,_,rfl⟩:=SD.bF hl;rfl) oi fun f cdv A outer s H E hr=>⟨_,(ai (aC 2 cO.nd (ax ly rfl T.b_abs kQ (aa (dv 0) af))) (ai (aC 3 cO.nd (ax ly rfl T.b_abs kQ (aa (dv 1) af))) (ai (mh PassesOwn.never (aJ (j8 hr.units) (dv 3) ae) (ak (fP 2 3 rfl cO.nd (aa (dv 3) (aa (ar fz (dv 2) (dv 3)) af))))) (ai (aP (aJ (gA hr.units) (dv 1) ae) (ak (aC 2 cO.nd (rJ kI (dv 2)))) aD) (ak (av (aH (aa (ar jO (dv 0) (dv 2)) (aa (ar jO (dv 1) (dv 2)) af))))))))),fun ds M Q h=>?r⟩
 case r=>
  unfold dH at h
  split at h
  case h_2=>exact h.elim
  obtain⟨t,b,rfl,rfl,hb,ht,hbb,q⟩:=h
  refine⟨_,rfl,_,rfl,?_⟩
  have hg:=Ma.pG (t:=t) hb
  have hgd:Bd 8000 ((Nat.gcd t.natAbs b.natAbs:Nat):Int):=hbb.of_le (by simpa using Nat.gcd_le_right t.natAbs (show 0<b.natAbs by omega))
  refine⟨fun m δ M'=>M'=M/\∃x y:Nat,δ=[some (.int t),some (.int b),some (.int x),some (.int y)]/\Nat.gcd x y=Nat.gcd t.natAbs b.natAbs/\m=y,⟨_,rfl,_,_,rfl,rfl,rfl⟩,?_⟩
  rintro m δ M' ⟨rfl,x,y,rfl,hxy,hm⟩
  refine⟨_,rfl,_,rfl,?_⟩
  refine bN (fun h=>?_) (fun h=>?_)
  ·have hy:(y:Int)≠0:=by simpa using h
   refine⟨_,rfl,_,rfl,_,rfl,hy,_,_,rfl,?_⟩;have hy':0<y:=by omega
   refine⟨x%y,by rw[hm];exact Nat.mod_lt _ hy',rfl,y,x%y,?_,?_,rfl⟩
   ·rw[<-Ma.pO];rfl
   ·rw[<-hxy,Nat.gcd_comm x y,Nat.gcd_rec y x,Nat.gcd_comm]
  ·have hy:y=0:=by simpa using h
   subst hy;rw[Nat.gcd_zero_right]at hxy;subst hxy;(repeat (first|refine⟨_,rfl,?_⟩|refine⟨trivial,?_⟩|refine⟨_,_,rfl,?_⟩|refine⟨rfl,?_⟩|refine⟨nbL rfl,?_⟩))
   refine bN (fun h=>?_) (fun h=>?_)
   ·have hneg:b<0:=by simpa using h
    obtain⟨e1,e2⟩:=Ma.pJ (t:=t) hneg;refine⟨_,rfl,_,rfl,_,rfl,⟨by omega,hgd.neg⟩,_,rfl,_,rfl,⟨by omega,hgd.neg⟩,nbL rfl,?_⟩;dsimp only;rw[e1,e2];exact rtn q
   ·have hpos:0<b:=by
     have:¬b<0:=by simpa using h
     omega
    obtain⟨e1,e2⟩:=Ma.oW (t:=t) hpos;refine⟨_,rfl,_,rfl,⟨by omega,hgd⟩,_,rfl,_,rfl,⟨by omega,hgd⟩,nbL rfl,?_⟩;dsimp only;rw[e1,e2];exact rtn q
theorem b8:FnScope ["_law_scale_here","_law_unit","_law_top","_law_bottom","_law_x","_law_y"] ["_law_scale_here","_law_unit"] (ao fR):=by walk_at "sc"
inductive Cn_law_spot(s v:D)(M:MH)(Q:DK):Prop
 |mk (t b x y p q:Int) (hh0:s=scl t b x y) (hh1:v=.tup [.int p,.int q]) (hh2:Scl t b x y) (hh3:(-(10^6)<=p/\p<=10^6)) (hh4:(-(10^6)<=q/\q<=10^6)) (hh5:Q (Ma.spt (Ma.ut t b x 1 p) (Ma.ut t b y 1 q)) M):Cn_law_spot s v M Q
def c8:SpD:=fun ds M Q=>match ds with
 |[s,v]=>Cn_law_spot s v M Q
 |_=>False
theorem lF:∀ds M Q,c8 ds M Q->ds.length=2:=fun ds M Q h=>by
 unfold c8 at h;split at h
 ·rfl
 ·exact h.elim
theorem iL(T:Tx K mg):Cal P w K mg base 2 "_law_spot" c8:=by
 refine a9 (k:=1) T.f_law_spot b8 (fun _ _ _ _ _ _ us hl=>by obtain⟨_,_,rfl⟩:=SD.bF hl;rfl) lF fun f cdv A outer s H E hr=>⟨_,(ai (dW (dv 0) (bX rfl (aE (aG 2 b8.nd) (aE (aG 3 b8.nd) (aE (aG 4 b8.nd) (aE (aG 5 b8.nd) bq)))))) (ak (av (aH (aa (aj (jQ T).m hr (aa (ar aS (ar aI (aq (dv 1) ae) (dv 2)) (dv 4)) (aa (dv 3) af))) (aa (aj (jQ T).m hr (aa (ar aS (ar aI (aq (dv 1) ae) (dv 2)) (dv 5)) (aa (dv 3) af))) af)))))),fun ds M Q h=>?r⟩
 case r=>
  unfold c8 at h
  split at h
  case h_2=>exact h.elim
  obtain⟨t,b,x,y,p,q,rfl,rfl,S,hp,hq,k⟩:=h
  have bt:Bd 64 t:=by have:=S.t0;have:=S.t1;show t.natAbs<2^64;omega
  have bp:∀{z:Int},(-(10^6)<=z/\z<=10^6)->Bd 64 z:=fun{z} h=>by show z.natAbs<2^64;omega
  have bb:Bd 8000 b:=by have:=S.b0;have:=S.b1;exact bO (by omega)
  have big:∀{z w:Int},(-(10^6)<=z/\z<=10^6)->(-(10^17)<=w/\w<=10^17)->Bd 8000 (z*t+w):=fun{z w} h1 h2=>by
   have e1:Bd 128 (z*t):=(bp h1).mul bt
   have e2:Bd 128 w:=bO (by omega)
   exact(e1.add e2).mono (by decide)
  have hb0:b≠0:=by have:=S.b0;omega
  refine⟨_,rfl,_,rfl,rfl,_,_,rfl,_,_,rfl,_,_,rfl,_,_,rfl,rfl,?_⟩
  refine⟨_,rfl,_,rfl,_,rfl,ia bt,_,rfl,_,rfl,p*t+x,b,rfl,rfl,hb0,big hp ⟨S.x0,S.x1⟩,bb,?_⟩
  refine⟨_,rfl,_,rfl,_,rfl,ia bt,_,rfl,_,rfl,q*t+y,b,rfl,rfl,hb0,big hq ⟨S.y0,S.y1⟩,bb,nbL rfl,?_⟩
  rw[Ma.kW,Ma.kW]
  exact rtn k
theorem mO:FnScope ["_law_scale_here","_law_shuts"] ["_law_scale_here","_law_shuts"] (ao fH):=by walk_at "sc"
inductive Cn_law_made(s v:D)(M:MH)(Q:DK):Prop
 |mk (t b x y:Int) (l:Addr) (ws:List (Int×Int×Int×Int)) (hh0:s=scl t b x y) (hh1:v=.ref l) (hh2:M l=some (.lst (ws.map uw))) (hh3:Scl t b x y) (hh4:ws.length<=1000) (hh5:(∀w∈ws,Uok (10^6) w)) (hh6:Q (.tup (ws.map (rwl t b x y))) M):Cn_law_made s v M Q
def dm:SpD:=fun ds M Q=>match ds with
 |[s,v]=>Cn_law_made s v M Q
 |_=>False
theorem l0:∀ds M Q,dm ds M Q->ds.length=2:=fun ds M Q h=>by
 unfold dm at h;split at h
 ·rfl
 ·exact h.elim
theorem nX(T:Tx K mg):Cal P w K mg base 3 "_law_made" dm:=by
 refine a9 (k:=2) T.f_law_made mO (fun _ _ _ _ _ _ us hl=>by obtain⟨_,_,rfl⟩:=SD.bF hl;rfl) l0 fun f cdv A outer s H E hr=>⟨_,(ak (av (cI mD rfl T.b_tuple lX (aa (qM (CScope.of (xs:=["_law_first","_law_second"]) (js:=[0]) rfl) rfl (fB (dv 1)) (fun _ _ _ _=>eR) (fun _ _ _ _=>(aH (aa (aj (iL T).m hr (aa (dv 2) (aa (dv 0) af))) (aa (aj (iL T).m hr (aa (dv 2) (aa (dv 1) af))) af))))) af)))),fun ds M Q h=>?r⟩
 case r=>
  unfold dm at h
  split at h
  case h_2=>exact h.elim
  obtain⟨t,b,x,y,l,ws,rfl,rfl,hM,S,hl,hw,k⟩:=h
  refine⟨_,rfl,ws.map uw,hM,comp_map (fun i=>((ws.map (rwl t b x y))[i]?).getD .non) (by simp;omega) (fun p ys hp=>?_) ?_ (fun p hp=>⟨_,ag,?_⟩)⟩
  ·show(ay M p _) l=_;rw[au (aN hM hp)];exact hM
  ·intro i e M' hi he _;have he:(ws.map uw)[i]?=some e:=he;rw[List.getElem?_map]at he;cases ew:ws[i]? with
   |none=>rw[ew]at he;cases he
   |some w=>
    rw[ew]at he
    cases he
    obtain⟨u1,u2,u3,u4⟩:=hw w (List.mem_of_getElem? ew)
    refine⟨_,⟨_,rfl,rfl,rfl⟩,fun K hK=>?_⟩
    have hK':=hK M' .refl
    rw[getD_map ew]at hK'
    refine⟨_,rfl,_,rfl,t,b,x,y,w.1,w.2.1,rfl,rfl,S,u1,u2,?_⟩
    exact⟨_,rfl,_,rfl,t,b,x,y,w.2.2.1,w.2.2.2,rfl,rfl,S,u3,u4,nbL rfl,hK'⟩
  ·refine⟨_,.new hp .refl,?_⟩
   have e:(List.range (ws.map uw).length).map (fun i=>((ws.map (rwl t b x y))[i]?).getD .non)=ws.map (rwl t b x y):=by
    have:=SD.range_getD (ws.map (rwl t b x y))
    rw[List.length_map]at this ⊢
    exact this
   dsimp only;rw[e];exact k
theorem wX:FnScope ["one","other"] ["one","other"] (ao rn):=by walk_at "sc"
inductive Cn_gap(x y:D)(M:MH)(Q:DK):Prop
 |mk (t1 b1 t2 b2:Int) (hh0:x=.tup [.int t1,.int b1]) (hh1:y=.tup [.int t2,.int b2]) (hh2:Bd 1000000 t1) (hh3:Bd 1000000 b1) (hh4:Bd 1000000 t2) (hh5:Bd 1000000 b2) (hh6:Q (.tup [.int (t1*b2-t2*b1),.int (b1*b2)]) M):Cn_gap x y M Q
def k8:SpD:=fun ds M Q=>match ds with
 |[x,y]=>Cn_gap x y M Q
 |_=>False
theorem vJ:∀ds M Q,k8 ds M Q->ds.length=2:=fun ds M Q h=>by
 unfold k8 at h;split at h
 ·rfl
 ·exact h.elim
theorem lB(T:Tx K mg):Cal P w K mg base 1 "gap" k8:=by
 refine a9 (k:=0) T.f_gap wX (fun _ _ _ _ _ _ us hl=>by obtain⟨_,_,rfl⟩:=SD.bF hl;rfl) vJ fun f cdv A outer s H E hr=>⟨_,(ak (av (aH (aa (ar bP (ar aI (aq (dv 0) ae) (aq (dv 1) ae)) (ar aI (aq (dv 1) ae) (aq (dv 0) ae))) (aa (ar aI (aq (dv 0) ae) (aq (dv 1) ae)) af))))),fun ds M Q h=>?r⟩
 case r=>
  unfold k8 at h
  split at h
  case h_2=>exact h.elim
  obtain⟨t1,b1,t2,b2,rfl,rfl,h1,h2,h3,h4,k⟩:=h
  refine⟨_,rfl,_,rfl,_,rfl,_,rfl,cS h1 h4,_,rfl,_,rfl,_,rfl,_,rfl,cS h3 h2,trivial,?_⟩
  exact⟨_,rfl,_,rfl,_,rfl,_,rfl,cS h2 h4,nbL rfl,rtn k⟩
theorem cB:FnScope ["wall","spot","a","b","c","d","x","y","across","up","along","high"] ["wall","spot"] (ao oo):=by walk_at "sc"
inductive Cn_lean(u v:D)(M:MH)(Q:DK):Prop
 |mk (n:Nat) (a b c d x y:Rat) (hh0:u=Ma.wll a b c d) (hh1:v=Ma.spt x y) (hh2:Ma.Bq n a) (hh3:Ma.Bq n b) (hh4:Ma.Bq n c) (hh5:Ma.Bq n d) (hh6:Ma.Bq n x) (hh7:Ma.Bq n y) (hh8:n<=20000) (hh9:∀t e:Int,0<e->Rat.divInt t e=Ma.cr a b c d x y->Bd (8*n+3) t->Bd (8*n+3) e->Q (.tup [.int t,.int e]) M):Cn_lean u v M Q
def ie:SpD:=fun ds M Q=>match ds with
 |[u,v]=>Cn_lean u v M Q
 |_=>False
theorem tO:∀ds M Q,ie ds M Q->ds.length=2:=fun ds M Q h=>by
 unfold ie at h;split at h
 ·rfl
 ·exact h.elim
theorem m7(T:Tx K mg):Cal P w K mg base 2 "lean" ie:=by
 refine a9 (k:=1) T.f_lean cB (fun _ _ _ _ _ _ us hl=>by obtain⟨_,_,rfl⟩:=SD.bF hl;rfl) tO fun f cdv A outer s H E hr=>⟨_,(ai (dW (dv 0) (bX rfl (aE (bX rfl (aE (aG 2 cB.nd) (aE (aG 3 cB.nd) bq))) (aE (bX rfl (aE (aG 4 cB.nd) (aE (aG 5 cB.nd) bq))) bq)))) (ai (dW (dv 1) (bX rfl (aE (aG 6 cB.nd) (aE (aG 7 cB.nd) bq)))) (ai (fP 8 9 rfl cB.nd (aa (aj (lB T).m hr (aa (dv 4) (aa (dv 2) af))) (aa (aj (lB T).m hr (aa (dv 5) (aa (dv 3) af))) af))) (ai (fP 10 11 rfl cB.nd (aa (aj (lB T).m hr (aa (dv 6) (aa (dv 2) af))) (aa (aj (lB T).m hr (aa (dv 7) (aa (dv 3) af))) af))) (ak (av (aj (lB T).m hr (aa (aH (aa (ar aI (aq (dv 8) ae) (aq (dv 11) ae)) (aa (ar aI (aq (dv 8) ae) (aq (dv 11) ae)) af))) (aa (aH (aa (ar aI (aq (dv 9) ae) (aq (dv 10) ae)) (aa (ar aI (aq (dv 9) ae) (aq (dv 10) ae)) af))) af))))))))),fun ds M Q h=>?r⟩
 case r=>
  unfold ie at h
  split at h
  case h_2=>exact h.elim
  obtain⟨n,a,b,c,d,x,y,rfl,rfl,ha,hb,hc,hd,hx,hy,hn,k⟩:=h
  have mo:∀{m:Nat} {i:Int},Bd m i->m<=1000000->Bd 1000000 i:=fun z l=>z.mono l
  have q1:=hc.j9 ha
  have q2:=hd.j9 hb
  have q3:=hx.j9 ha
  have q4:=hy.j9 hb
  have e1:=hc.2.mul ha.2
  have e2:=hd.2.mul hb.2
  have e3:=hx.2.mul ha.2
  have e4:=hy.2.mul hb.2
  refine⟨_,rfl,_,rfl,rfl,_,_,rfl,⟨_,rfl,rfl,_,_,rfl,_,_,rfl,rfl,?_⟩⟩
  refine⟨_,_,rfl,⟨_,rfl,rfl,_,_,rfl,_,_,rfl,rfl,?_⟩⟩
  refine⟨rfl,_,rfl,_,rfl,rfl,_,_,rfl,_,_,rfl,rfl,?_⟩
  refine⟨_,rfl,_,rfl,_,_,_,_,rfl,rfl,mo hc.1 (by omega),mo hc.2 (by omega),mo ha.1 (by omega),mo ha.2 (by omega),?_⟩
  refine⟨_,rfl,_,rfl,_,_,_,_,rfl,rfl,mo hd.1 (by omega),mo hd.2 (by omega),mo hb.1 (by omega),mo hb.2 (by omega),?_⟩
  refine⟨_,_,rfl,?_⟩
  refine⟨_,rfl,_,rfl,_,_,_,_,rfl,rfl,mo hx.1 (by omega),mo hx.2 (by omega),mo ha.1 (by omega),mo ha.2 (by omega),?_⟩
  refine⟨_,rfl,_,rfl,_,_,_,_,rfl,rfl,mo hy.1 (by omega),mo hy.2 (by omega),mo hb.1 (by omega),mo hb.2 (by omega),?_⟩
  refine⟨_,_,rfl,?_⟩
  refine⟨_,rfl,_,rfl,_,rfl,_,rfl,cS (mo q1 (by omega)) (mo q4 (by omega)),?_⟩
  refine⟨_,rfl,_,rfl,_,rfl,_,rfl,cS (mo e1 (by omega)) (mo e4 (by omega)),nbL rfl,?_⟩
  refine⟨_,rfl,_,rfl,_,rfl,_,rfl,cS (mo q2 (by omega)) (mo q3 (by omega)),?_⟩
  refine⟨_,rfl,_,rfl,_,rfl,_,rfl,cS (mo e2 (by omega)) (mo e3 (by omega)),nbL rfl,?_⟩
  refine⟨_,_,_,_,rfl,rfl,mo (q1.mul q4) (by omega),mo (e1.mul e4) (by omega),mo (q2.mul q3) (by omega),mo (e2.mul e3) (by omega),?_⟩
  have pe:∀q r:Rat,0<(q.den:Int)*(r.den:Int):=fun q r=>Int.mul_pos (Ma.den_pos q) (Ma.den_pos r)
  refine rtn (k _ _ (Int.mul_pos (Int.mul_pos (pe c a) (pe y b)) (Int.mul_pos (pe d b) (pe x a))) (Ma.tX a b c d x y) ?_ ?_)
  ·exact((((q1.mul q4).mul (e2.mul e3)).mono (show _<=8*n+2 by omega)).sub (((q2.mul q3).mul (e1.mul e4)).mono (show _<=8*n+2 by omega)))
  ·exact((e1.mul e4).mul (e2.mul e3)).mono (by omega)
theorem iR:FnScope ["wall","spot","top"] ["wall","spot"] (ao gJ):=by walk_at "sc"
inductive Cn_side_of(u v:D)(M:MH)(Q:DK):Prop
 |mk (n:Nat) (a b c d x y:Rat) (hh0:u=Ma.wll a b c d) (hh1:v=Ma.spt x y) (hh2:Ma.Bq n a) (hh3:Ma.Bq n b) (hh4:Ma.Bq n c) (hh5:Ma.Bq n d) (hh6:Ma.Bq n x) (hh7:Ma.Bq n y) (hh8:n<=1900) (hh9:Q (.int (Ma.sgn (Ma.cr a b c d x y))) M):Cn_side_of u v M Q
def dM:SpD:=fun ds M Q=>match ds with
 |[u,v]=>Cn_side_of u v M Q
 |_=>False
theorem mV:∀ds M Q,dM ds M Q->ds.length=2:=fun ds M Q h=>by
 unfold dM at h;split at h
 ·rfl
 ·exact h.elim
theorem eX(T:Tx K mg):Cal P w K mg base 3 "side_of" dM:=by
 refine a9 (k:=2) T.f_side_of iR (fun _ _ _ _ _ _ us hl=>by obtain⟨_,_,rfl⟩:=SD.bF hl;rfl) mV fun f cdv A outer s H E hr=>⟨_,(ai (aC 2 iR.nd (aq (aj (m7 T).m hr (aa (dv 0) (aa (dv 1) af))) ae)) (ai (aP (aJ (d6 hr.units) (dv 2) ae) (ak (av ae)) aD) (ai (aP (aJ (gA hr.units) (dv 2) ae) (ak (av (rJ kI ae))) aD) (ak (av ae))))),fun ds M Q h=>?r⟩
 case r=>
  unfold dM at h
  split at h
  case h_2=>exact h.elim
  obtain⟨n,a,b,c,d,x,y,rfl,rfl,ha,hb,hc,hd,hx,hy,hn,k⟩:=h
  refine⟨_,rfl,_,rfl,n,a,b,c,d,x,y,rfl,rfl,ha,hb,hc,hd,hx,hy,by omega,fun t e he hte _ _=>⟨_,rfl,?_⟩⟩
  rw[<-hte,Ma.tL he]at k
  refine⟨_,rfl,trivial,_,rfl,?_⟩
  refine bN (fun h=>?_) (fun h=>?_)
  ·rw[if_pos (by simpa using h)]at k;exact rtn k
  rw[if_neg (by simpa using h)]at k
  refine⟨_,rfl,trivial,_,rfl,?_⟩
  refine bN (fun h=>?_) (fun h=>?_)
  ·rw[if_pos (by simpa using h)]at k;exact rtn k
  ·rw[if_neg (by simpa using h)]at k;exact rtn k
theorem nY:FnScope ["one","other"] ["one","other"] (ao gF):=by walk_at "sc"
inductive Cn_is_less(x y:D)(M:MH)(Q:DK):Prop
 |mk (q r:Rat) (hh0:x=Ma.fr q) (hh1:y=Ma.fr r) (hh2:Ma.Bq 100000 q) (hh3:Ma.Bq 100000 r) (hh4:Q (.bl (decide (q<r))) M):Cn_is_less x y M Q
def dI:SpD:=fun ds M Q=>match ds with
 |[x,y]=>Cn_is_less x y M Q
 |_=>False
theorem nE:∀ds M Q,dI ds M Q->ds.length=2:=fun ds M Q h=>by
 unfold dI at h;split at h
 ·rfl
 ·exact h.elim
theorem jI(T:Tx K mg):Cal P w K mg base 1 "is_less" dI:=by
 refine a9 (k:=0) T.f_is_less nY (fun _ _ _ _ _ _ us hl=>by obtain⟨_,_,rfl⟩:=SD.bF hl;rfl) nE fun f cdv A outer s H E hr=>⟨_,(ak (av (cy (gA hr.units) (ar aI (aq (dv 0) ae) (aq (dv 1) ae)) (ar aI (aq (dv 1) ae) (aq (dv 0) ae))))),fun ds M Q h=>?r⟩
 case r=>
  unfold dI at h
  split at h
  case h_2=>exact h.elim
  obtain⟨q,r,rfl,rfl,h1,h2,k⟩:=h
  refine⟨_,rfl,_,rfl,_,rfl,_,rfl,cS (h1.1.mono (by decide)) (h2.2.mono (by decide)),?_⟩
  refine⟨_,rfl,_,rfl,_,rfl,_,rfl,cS (h2.1.mono (by decide)) (h1.2.mono (by decide)),trivial,?_⟩
  dsimp only
  rw[Ma.y3]
  exact rtn k
theorem mK:FnScope ["one","other"] ["one","other"] (ao fM):=by walk_at "sc"
inductive Cn_is_ahead(x y:D)(M:MH)(Q:DK):Prop
 |mk (a b c d:Rat) (hh0:x=Ma.spt a b) (hh1:y=Ma.spt c d) (hh2:Ma.Bq 100000 a) (hh3:Ma.Bq 100000 b) (hh4:Ma.Bq 100000 c) (hh5:Ma.Bq 100000 d) (hh6:Q (.bl (decide (a<c\/a=c/\b<d))) M):Cn_is_ahead x y M Q
def cZ:SpD:=fun ds M Q=>match ds with
 |[x,y]=>Cn_is_ahead x y M Q
 |_=>False
theorem lG:∀ds M Q,cZ ds M Q->ds.length=2:=fun ds M Q h=>by
 unfold cZ at h;split at h
 ·rfl
 ·exact h.elim
theorem dS(T:Tx K mg):Cal P w K mg base 2 "is_ahead" cZ:=by
 refine a9 (k:=1) T.f_is_ahead mK (fun _ _ _ _ _ _ us hl=>by obtain⟨_,_,rfl⟩:=SD.bF hl;rfl) lG fun f cdv A outer s H E hr=>⟨_,(ai (aP (aJ (cK hr.units) (aq (dv 0) ae) (aq (dv 1) ae)) (ak (av (aj (jI T).m hr (aa (aq (dv 0) ae) (aa (aq (dv 1) ae) af))))) aD) (ak (av (aj (jI T).m hr (aa (aq (dv 0) ae) (aa (aq (dv 1) ae) af)))))),fun ds M Q h=>?r⟩
 case r=>
  unfold cZ at h
  split at h
  case h_2=>exact h.elim
  obtain⟨a,b,c,d,rfl,rfl,h1,h2,h3,h4,k⟩:=h
  refine⟨_,rfl,_,rfl,_,rfl,_,rfl,_,_,Pd.of rfl,Pd.of rfl,rfl,rfl,?_⟩
  rw[Ma.n8]
  refine⟨_,rfl,?_⟩
  refine bN (fun h=>?_) (fun h=>?_)
  ·have e:a=c:=by simpa using h
   subst e;refine⟨_,rfl,_,rfl,_,rfl,_,rfl,b,d,rfl,rfl,h2,h4,?_⟩
   have z:(a<a\/a=a/\b<d)↔b<d:=by
    have:=Rat.lt_irrefl (a:=a)
    simp[this]
   rw[decide_eq_decide.mpr z]at k;exact rtn k
  ·have e:¬a=c:=by simpa using h
   refine⟨_,rfl,_,rfl,_,rfl,_,rfl,a,c,rfl,rfl,h1,h3,?_⟩;have z:(a<c\/a=c/\b<d)↔a<c:=by simp[e]
   rw[decide_eq_decide.mpr z]at k;exact rtn k
theorem mI:FnScope ["one","other"] ["one","other"] (ao fu):=by walk_at "sc"
inductive Cn_later_of(x y:D)(M:MH)(Q:DK):Prop
 |mk (a b e f:Rat) (hh0:x=Ma.spt a b) (hh1:y=Ma.spt e f) (hh2:Ma.Bq 100000 a) (hh3:Ma.Bq 100000 b) (hh4:Ma.Bq 100000 e) (hh5:Ma.Bq 100000 f) (hh6:∀s:Rat×Rat,s=(if Ma.ah e f a b then(a,b)else(e,f))->Q (Ma.spt s.1 s.2) M):Cn_later_of x y M Q
def dj:SpD:=fun ds M Q=>match ds with
 |[x,y]=>Cn_later_of x y M Q
 |_=>False
theorem mR:∀ds M Q,dj ds M Q->ds.length=2:=fun ds M Q h=>by
 unfold dj at h;split at h
 ·rfl
 ·exact h.elim
theorem nW(T:Tx K mg):Cal P w K mg base 3 "later_of" dj:=by
 refine a9 (k:=2) T.f_later_of mI (fun _ _ _ _ _ _ us hl=>by obtain⟨_,_,rfl⟩:=SD.bF hl;rfl) mR fun f cdv A outer s H E hr=>⟨_,(ak (av (sQ (cm (aj (dS T).m hr (aa (dv 1) (aa (dv 0) af)))) (dv 0) (dv 1)))),fun ds M Q h=>?r⟩
 case r=>
  unfold dj at h
  split at h
  case h_2=>exact h.elim
  obtain⟨a,b,e,f,rfl,rfl,h1,h2,h3,h4,k⟩:=h
  refine⟨_,rfl,_,rfl,e,f,a,b,rfl,rfl,h3,h4,h1,h2,_,rfl,?_⟩
  refine bN (fun h=>?_) (fun h=>?_)
  ·have z:Ma.ah e f a b:=by simpa[Ma.ah]using h
   have:=k (a,b) (by rw[if_pos z]);exact⟨_,rfl,rtn this⟩
  ·have z:¬Ma.ah e f a b:=by simpa[Ma.ah]using h
   have:=k (e,f) (by rw[if_neg z]);exact⟨_,rfl,rtn this⟩
theorem jq:FnScope ["one","other"] ["one","other"] (ao d7):=by walk_at "sc"
inductive Cn_earlier_of(x y:D)(M:MH)(Q:DK):Prop
 |mk (c d g h:Rat) (hh0:x=Ma.spt c d) (hh1:y=Ma.spt g h) (hh2:Ma.Bq 100000 c) (hh3:Ma.Bq 100000 d) (hh4:Ma.Bq 100000 g) (hh5:Ma.Bq 100000 h) (hh6:∀s:Rat×Rat,s=(if Ma.ah c d g h then(c,d)else(g,h))->Q (Ma.spt s.1 s.2) M):Cn_earlier_of x y M Q
def b6:SpD:=fun ds M Q=>match ds with
 |[x,y]=>Cn_earlier_of x y M Q
 |_=>False
theorem jv:∀ds M Q,b6 ds M Q->ds.length=2:=fun ds M Q h=>by
 unfold b6 at h;split at h
 ·rfl
 ·exact h.elim
theorem kA(T:Tx K mg):Cal P w K mg base 3 "earlier_of" b6:=by
 refine a9 (k:=2) T.f_earlier_of jq (fun _ _ _ _ _ _ us hl=>by obtain⟨_,_,rfl⟩:=SD.bF hl;rfl) jv fun f cdv A outer s H E hr=>⟨_,(ak (av (sQ (cm (aj (dS T).m hr (aa (dv 0) (aa (dv 1) af)))) (dv 0) (dv 1)))),fun ds M Q h=>?r⟩
 case r=>
  unfold b6 at h
  split at h
  case h_2=>exact h.elim
  obtain⟨c,d,g,h',rfl,rfl,h1,h2,h3,h4,k⟩:=h
  refine⟨_,rfl,_,rfl,c,d,g,h',rfl,rfl,h1,h2,h3,h4,_,rfl,?_⟩
  refine bN (fun h=>?_) (fun h=>?_)
  ·have z:Ma.ah c d g h':=by simpa[Ma.ah]using h
   have:=k (c,d) (by rw[if_pos z]);exact⟨_,rfl,rtn this⟩
  ·have z:¬Ma.ah c d g h':=by simpa[Ma.ah]using h
   have:=k (g,h') (by rw[if_neg z]);exact⟨_,rfl,rtn this⟩
theorem cA:FnScope ["one","other"] ["one","other"] (ao bH):=by walk_at "sc"
inductive Cn_greatest_divisor(x y:D)(M:MH)(Q:DK):Prop
 |mk (a b:Nat) (hh0:x=.int (a:Int)) (hh1:y=.int (b:Int)) (hh2:Q (.int ((Nat.gcd a b:Nat):Int)) M):Cn_greatest_divisor x y M Q
def a6:SpD:=fun ds M Q=>match ds with
 |[x,y]=>Cn_greatest_divisor x y M Q
 |_=>False
theorem fc:∀ds M Q,a6 ds M Q->ds.length=2:=fun ds M Q h=>by
 unfold a6 at h;split at h
 ·rfl
 ·exact h.elim
theorem fE(T:Tx K mg):Cal P w K mg base 1 "greatest_divisor" a6:=by
 refine a9 (k:=0) T.f_greatest_divisor cA (fun _ _ _ _ _ _ us hl=>by obtain⟨_,_,rfl⟩:=SD.bF hl;rfl) fc fun f cdv A outer s H E hr=>⟨_,(ai (mh PassesOwn.never (aJ (j8 hr.units) (dv 1) ae) (ak (fP 0 1 rfl cA.nd (aa (dv 1) (aa (ar fz (dv 0) (dv 1)) af))))) (ak (av (dv 0)))),fun ds M Q h=>?r⟩
 case r=>
  unfold a6 at h
  split at h
  case h_2=>exact h.elim
  obtain⟨a,b,rfl,rfl,q⟩:=h
  refine⟨fun m δ M'=>M'=M/\∃x y:Nat,δ=[some (.int x),some (.int y)]/\Nat.gcd x y=Nat.gcd a b/\m=y,⟨_,rfl,_,_,rfl,rfl,rfl⟩,?_⟩
  rintro m δ M' ⟨rfl,x,y,rfl,hxy,hm⟩
  refine⟨_,rfl,_,rfl,?_⟩
  refine bN (fun h=>?_) (fun h=>?_)
  ·have hy:(y:Int)≠0:=by simpa using h
   refine⟨_,rfl,_,rfl,_,rfl,hy,_,_,rfl,?_⟩;have hy':0<y:=by omega
   refine⟨x%y,by rw[hm];exact Nat.mod_lt _ hy',rfl,y,x%y,?_,?_,rfl⟩
   ·rw[<-Ma.pO];rfl
   ·rw[<-hxy,Nat.gcd_comm x y,Nat.gcd_rec y x,Nat.gcd_comm]
  ·have hy:y=0:=by simpa using h
   subst hy;rw[Nat.gcd_zero_right]at hxy;subst hxy;exact⟨_,rfl,rtn q⟩
theorem eC:FnScope ["top","bottom","divisor"] ["top","bottom"] (ao fS):=by walk_at "sc"
inductive Cn_fraction(x y:D)(M:MH)(Q:DK):Prop
 |mk (t:_) (b:_) (hh0:x=.int t) (hh1:y=.int b) (hh2:b≠0) (hh3:Bd 8000 t) (hh4:Bd 8000 b) (hh5:Q (Ma.fr (Rat.divInt t b)) M):Cn_fraction x y M Q
def cW:SpD:=fun ds M Q=>match ds with
 |[x,y]=>Cn_fraction x y M Q
 |_=>False
theorem lQ:∀ds M Q,cW ds M Q->ds.length=2:=fun ds M Q h=>by
 unfold cW at h;split at h
 ·rfl
 ·exact h.elim
theorem bj(T:Tx K mg):Cal P w K mg base 2 "fraction" cW:=by
 refine a9 (k:=1) T.f_fraction eC (fun _ _ _ _ _ _ us hl=>by obtain⟨_,_,rfl⟩:=SD.bF hl;rfl) lQ fun f cdv A outer s H E hr=>⟨_,(ai (aP (aJ (cK hr.units) (dv 1) ae) (ak iU) aD) (ai (aC 2 eC.nd (aj (fE T).m hr (aa (ax ly rfl T.b_abs kQ (aa (dv 0) af)) (aa (ax ly rfl T.b_abs kQ (aa (dv 1) af)) af)))) (ai (aP (aJ (gA hr.units) (dv 1) ae) (ak (aC 2 eC.nd (rJ kI (dv 2)))) aD) (ak (av (aH (aa (ar jO (dv 0) (dv 2)) (aa (ar jO (dv 1) (dv 2)) af)))))))),fun ds M Q h=>?r⟩
 case r=>
  unfold cW at h
  split at h
  case h_2=>exact h.elim
  obtain⟨t,b,rfl,rfl,hb,ht,hbb,q⟩:=h
  have hg:=Ma.pG (t:=t) hb
  have hgd:Bd 8000 ((Nat.gcd t.natAbs b.natAbs:Nat):Int):=hbb.of_le (by simpa using Nat.gcd_le_right t.natAbs (show 0<b.natAbs by omega))
  refine⟨_,rfl,_,rfl,e9 (decide_eq_false hb) ?_⟩
  refine⟨_,rfl,_,rfl,t.natAbs,b.natAbs,rfl,rfl,?_⟩
  refine⟨_,rfl,trivial,_,rfl,?_⟩
  refine bN (fun h=>?_) (fun h=>?_)
  ·have hneg:b<0:=by simpa using h
   obtain⟨e1,e2⟩:=Ma.pJ (t:=t) hneg;refine⟨_,rfl,_,rfl,_,rfl,⟨by omega,hgd.neg⟩,_,rfl,_,rfl,⟨by omega,hgd.neg⟩,nbL rfl,?_⟩;dsimp only;rw[e1,e2];exact rtn q
  ·have hpos:0<b:=by
    have:¬b<0:=by simpa using h
    omega
   obtain⟨e1,e2⟩:=Ma.oW (t:=t) hpos;refine⟨_,rfl,_,rfl,⟨by omega,hgd⟩,_,rfl,_,rfl,⟨by omega,hgd⟩,nbL rfl,?_⟩;dsimp only;rw[e1,e2];exact rtn q
theorem eO:FnScope ["spot","x","y"] ["spot"] (ao fV):=by walk_at "sc"
inductive Cn_own_spot(x:D)(M:MH)(Q:DK):Prop
 |mk (a b:Rat) (hh0:x=Ma.spt a b) (hh1:Ma.Bq 8000 a) (hh2:Ma.Bq 8000 b) (hh3:Q (Ma.spt a b) M):Cn_own_spot x M Q
def cY:SpD:=fun ds M Q=>match ds with
 |[x]=>Cn_own_spot x M Q
 |_=>False
theorem mz:∀ds M Q,cY ds M Q->ds.length=1:=fun ds M Q h=>by
 unfold cY at h;split at h
 ·rfl
 ·exact h.elim
theorem fo(T:Tx K mg):Cal P w K mg base 3 "own_spot" cY:=by
 refine a9 (k:=2) T.f_own_spot eO (fun _ _ _ _ _ _ us hl=>by obtain⟨_,rfl⟩:=SD.ll hl;rfl) mz fun f cdv A outer s H E hr=>⟨_,(ai (dW (dv 0) (bX rfl (aE (aG 1 eO.nd) (aE (aG 2 eO.nd) bq)))) (ak (av (aH (aa (aj (bj T).m hr (aa (aq (dv 1) ae) (aa (aq (dv 1) ae) af))) (aa (aj (bj T).m hr (aa (aq (dv 2) ae) (aa (aq (dv 2) ae) af))) af)))))),fun ds M Q h=>?r⟩
 case r=>
  unfold cY at h
  split at h
  case h_2=>exact h.elim
  obtain⟨a,b,rfl,h1,h2,k⟩:=h
  refine⟨_,rfl,_,rfl,rfl,_,_,rfl,_,_,rfl,rfl,?_⟩
  refine⟨_,rfl,_,rfl,_,rfl,_,rfl,a.num,(a.den:Int),rfl,rfl,Ma.dz a,h1.1,h1.2,?_⟩
  refine⟨_,rfl,_,rfl,_,rfl,_,rfl,b.num,(b.den:Int),rfl,rfl,Ma.dz b,h2.1,h2.2,nbL rfl,?_⟩
  rw[Rat.num_divInt_den,Rat.num_divInt_den]
  exact rtn k
theorem l7:FnScope ["wall"] ["wall"] (ao fq):=by walk_at "sc"
inductive Cn_own_wall(x:D)(M:MH)(Q:DK):Prop
 |mk (a b c d:Rat) (hh0:x=Ma.wll a b c d) (hh1:Ma.Bq 8000 a) (hh2:Ma.Bq 8000 b) (hh3:Ma.Bq 8000 c) (hh4:Ma.Bq 8000 d) (hh5:Q (Ma.wll a b c d) M):Cn_own_wall x M Q
def cV:SpD:=fun ds M Q=>match ds with
 |[x]=>Cn_own_wall x M Q
 |_=>False
theorem mL:∀ds M Q,cV ds M Q->ds.length=1:=fun ds M Q h=>by
 unfold cV at h;split at h
 ·rfl
 ·exact h.elim
theorem jd(T:Tx K mg):Cal P w K mg base 4 "own_wall" cV:=by
 refine a9 (k:=3) T.f_own_wall l7 (fun _ _ _ _ _ _ us hl=>by obtain⟨_,rfl⟩:=SD.ll hl;rfl) mL fun f cdv A outer s H E hr=>⟨_,(ak (av (aH (aa (aj (fo T).m hr (aa (aq (dv 0) ae) af)) (aa (aj (fo T).m hr (aa (aq (dv 0) ae) af)) af))))),fun ds M Q h=>?r⟩
 case r=>
  unfold cV at h
  split at h
  case h_2=>exact h.elim
  obtain⟨a,b,c,d,rfl,h1,h2,h3,h4,k⟩:=h
  exact⟨_,rfl,_,rfl,a,b,rfl,h1,h2,_,rfl,_,rfl,c,d,rfl,h3,h4,nbL rfl,rtn k⟩
theorem bG:FnScope ["one","other","start","end"] ["one","other"] (ao bQ):=by walk_at "sc"
inductive Cn_meeting_in_line(u v:D)(M:MH)(Q:DK):Prop
 |mk (a b c d e f g h:Rat) (hh0:u=Ma.wll a b c d) (hh1:v=Ma.wll e f g h) (hh2:Ma.Bq 60 a) (hh3:Ma.Bq 60 b) (hh4:Ma.Bq 60 c) (hh5:Ma.Bq 60 d) (hh6:Ma.Bq 60 e) (hh7:Ma.Bq 60 f) (hh8:Ma.Bq 60 g) (hh9:Ma.Bq 60 h) (hh10:Q (ue a b c d e f g h) M):Cn_meeting_in_line u v M Q
def a7:SpD:=fun ds M Q=>match ds with
 |[u,v]=>Cn_meeting_in_line u v M Q
 |_=>False
theorem fO:∀ds M Q,a7 ds M Q->ds.length=2:=fun ds M Q h=>by
 unfold a7 at h;split at h
 ·rfl
 ·exact h.elim
theorem gp(T:Tx K mg):Cal P w K mg base 5 "meeting_in_line" a7:=by
 refine a9 (k:=4) T.f_meeting_in_line bG (fun _ _ _ _ _ _ us hl=>by obtain⟨_,_,rfl⟩:=SD.bF hl;rfl) fO fun f cdv A outer s H E hr=>⟨_,(ai (aC 2 bG.nd (aj (nW T).m hr (aa (aq (dv 0) ae) (aa (aq (dv 1) ae) af)))) (ai (aC 3 bG.nd (aj (kA T).m hr (aa (aq (dv 0) ae) (aa (aq (dv 1) ae) af)))) (ai (aP (cm (aj (dS T).m hr (aa (dv 2) (aa (dv 3) af)))) (ak (av (aH (aa cM (aa (aj (jd T).m hr (aa (aH (aa (dv 2) (aa (dv 3) af))) af)) af))))) aD) (ai (aP (cm (aj (dS T).m hr (aa (dv 3) (aa (dv 2) af)))) (ak (av cj)) aD) (ak (av (aH (aa cM (aa (aj (fo T).m hr (aa (dv 2) af)) af))))))))),fun ds M Q h=>?r⟩
 case r=>
  unfold a7 at h
  split at h
  case h_2=>exact h.elim
  obtain⟨a,b,c,d,e,f,g,h',rfl,rfl,h1,h2,h3,h4,h5,h6,h7,h8,k⟩:=h
  have mo:∀{n:Nat} {q:Rat},Ma.Bq 60 q->60<=n->Ma.Bq n q:=fun z l=>z.mono l
  refine⟨_,rfl,_,rfl,_,rfl,_,rfl,a,b,e,f,rfl,rfl,mo h1 (by decide),mo h2 (by decide),mo h5 (by decide),mo h6 (by decide),fun s hs=>?_⟩
  refine⟨_,rfl,_,rfl,_,rfl,_,rfl,c,d,g,h',rfl,rfl,mo h3 (by decide),mo h4 (by decide),mo h7 (by decide),mo h8 (by decide),fun n hn=>?_⟩
  have bs:Ma.Bq 60 s.1/\Ma.Bq 60 s.2:=by
   rw[hs];split
   ·exact⟨h1,h2⟩
   ·exact⟨h5,h6⟩
  have bn:Ma.Bq 60 n.1/\Ma.Bq 60 n.2:=by
   rw[hn];split
   ·exact⟨h3,h4⟩
   ·exact⟨h7,h8⟩
  unfold ue at k
  rw[<-hs,<-hn]at k
  dsimp only at k
  obtain⟨s1,s2⟩:=s
  obtain⟨n1,n2⟩:=n
  dsimp only at bs bn k
  refine⟨_,rfl,_,rfl,s1,s2,n1,n2,rfl,rfl,mo bs.1 (by decide),mo bs.2 (by decide),mo bn.1 (by decide),mo bn.2 (by decide),_,rfl,?_⟩
  refine bN (fun z=>?_) (fun z=>?_)
  ·have z:Ma.ah s1 s2 n1 n2:=by simpa[Ma.ah]using z
   rw[if_pos z]at k;exact⟨_,rfl,_,rfl,nbL rfl,s1,s2,n1,n2,rfl,mo bs.1 (by decide),mo bs.2 (by decide),mo bn.1 (by decide),mo bn.2 (by decide),nbL rfl,rtn k⟩
  have z:¬Ma.ah s1 s2 n1 n2:=by simpa[Ma.ah]using z
  rw[if_neg z]at k
  refine⟨_,rfl,_,rfl,n1,n2,s1,s2,rfl,rfl,mo bn.1 (by decide),mo bn.2 (by decide),mo bs.1 (by decide),mo bs.2 (by decide),_,rfl,?_⟩
  refine bN (fun y=>?_) (fun y=>?_)
  ·have y:Ma.ah n1 n2 s1 s2:=by simpa[Ma.ah]using y
   rw[if_pos y]at k;exact rtn k
  ·have y:¬Ma.ah n1 n2 s1 s2:=by simpa[Ma.ah]using y
   rw[if_neg y]at k;exact⟨_,rfl,s1,s2,rfl,mo bs.1 (by decide),mo bs.2 (by decide),nbL rfl,rtn k⟩
theorem tZ:FnScope ["one","other"] ["one","other"] (ao nK):=by walk_at "sc"
inductive Cn_over(x y:D)(M:MH)(Q:DK):Prop
 |mk (n:Nat) (q r:Rat) (hh0:x=Ma.fr q) (hh1:y=Ma.fr r) (hh2:Ma.Bq n q) (hh3:Ma.Bq n r) (hh4:2*n+1<=8000) (hh5:r≠0) (hh6:Q (Ma.fr (q/r)) M):Cn_over x y M Q
def iq:SpD:=fun ds M Q=>match ds with
 |[x,y]=>Cn_over x y M Q
 |_=>False
theorem uP:∀ds M Q,iq ds M Q->ds.length=2:=fun ds M Q h=>by
 unfold iq at h;split at h
 ·rfl
 ·exact h.elim
theorem vX(T:Tx K mg):Cal P w K mg base 3 "over" iq:=by
 refine a9 (k:=2) T.f_over tZ (fun _ _ _ _ _ _ us hl=>by obtain⟨_,_,rfl⟩:=SD.bF hl;rfl) uP fun f cdv A outer s H E hr=>⟨_,(ak (av (aj (bj T).m hr (aa (ar aI (aq (dv 0) ae) (aq (dv 1) ae)) (aa (ar aI (aq (dv 0) ae) (aq (dv 1) ae)) af))))),fun ds M Q h=>?r⟩
 case r=>
  unfold iq at h
  split at h
  case h_2=>exact h.elim
  obtain⟨n,q,r,rfl,rfl,h1,h2,hn,h0,k⟩:=h
  obtain⟨m1,m2,m3,m4⟩:=h1.mOk h2 (by omega)
  have hr0:r.num≠0:=fun z=>h0 (Rat.num_eq_zero.mp z)
  refine⟨_,rfl,_,rfl,_,rfl,_,rfl,m2,_,rfl,_,rfl,_,rfl,_,rfl,cS (h1.2.mono (by omega)) (h2.1.mono (by omega)),?_⟩
  refine⟨_,_,rfl,rfl,Int.mul_ne_zero (Ma.dz q) hr0,((h1.1.mul h2.2).mono (by omega)),((h1.2.mul h2.1).mono (by omega)),?_⟩
  rw[Ma.div_eq]
  exact rtn k
theorem uM:FnScope ["one","other"] ["one","other"] (ao nh):=by walk_at "sc"
inductive Cn_less(x y:D)(M:MH)(Q:DK):Prop
 |mk (n:Nat) (q r:Rat) (hh0:x=Ma.fr q) (hh1:y=Ma.fr r) (hh2:Ma.Bq n q) (hh3:Ma.Bq n r) (hh4:2*n+1<=8000) (hh5:Q (Ma.fr (q-r)) M):Cn_less x y M Q
def ip:SpD:=fun ds M Q=>match ds with
 |[x,y]=>Cn_less x y M Q
 |_=>False
theorem t7:∀ds M Q,ip ds M Q->ds.length=2:=fun ds M Q h=>by
 unfold ip at h;split at h
 ·rfl
 ·exact h.elim
theorem qJ(T:Tx K mg):Cal P w K mg base 3 "less" ip:=by
 refine a9 (k:=2) T.f_less uM (fun _ _ _ _ _ _ us hl=>by obtain⟨_,_,rfl⟩:=SD.bF hl;rfl) t7 fun f cdv A outer s H E hr=>⟨_,(ak (av (aj (bj T).m hr (aa (ar bP (ar aI (aq (dv 0) ae) (aq (dv 1) ae)) (ar aI (aq (dv 1) ae) (aq (dv 0) ae))) (aa (ar aI (aq (dv 0) ae) (aq (dv 1) ae)) af))))),fun ds M Q h=>?r⟩
 case r=>
  unfold ip at h
  split at h
  case h_2=>exact h.elim
  obtain⟨n,q,r,rfl,rfl,h1,h2,hn,k⟩:=h
  obtain⟨m1,m2,m3,m4⟩:=h1.mOk h2 (by omega)
  refine⟨_,rfl,_,rfl,_,rfl,_,rfl,m2,_,rfl,_,rfl,_,rfl,_,rfl,m3,trivial,_,rfl,_,rfl,_,rfl,_,rfl,m4,?_⟩
  refine⟨_,_,rfl,rfl,Ma.gh q r,(h1.j9 h2).mono hn,(h1.mS h2).mono hn,?_⟩
  rw[Ma.sub_eq]
  exact rtn k
theorem tI:FnScope ["one","other"] ["one","other"] (ao nr):=by walk_at "sc"
inductive Cn_plus(x y:D)(M:MH)(Q:DK):Prop
 |mk (n:Nat) (q r:Rat) (hh0:x=Ma.fr q) (hh1:y=Ma.fr r) (hh2:Ma.Bq n q) (hh3:Ma.Bq n r) (hh4:2*n+1<=8000) (hh5:Q (Ma.fr (q+r)) M):Cn_plus x y M Q
def il:SpD:=fun ds M Q=>match ds with
 |[x,y]=>Cn_plus x y M Q
 |_=>False
theorem tY:∀ds M Q,il ds M Q->ds.length=2:=fun ds M Q h=>by
 unfold il at h;split at h
 ·rfl
 ·exact h.elim
theorem v9(T:Tx K mg):Cal P w K mg base 3 "plus" il:=by
 refine a9 (k:=2) T.f_plus tI (fun _ _ _ _ _ _ us hl=>by obtain⟨_,_,rfl⟩:=SD.bF hl;rfl) tY fun f cdv A outer s H E hr=>⟨_,(ak (av (aj (bj T).m hr (aa (ar aS (ar aI (aq (dv 0) ae) (aq (dv 1) ae)) (ar aI (aq (dv 1) ae) (aq (dv 0) ae))) (aa (ar aI (aq (dv 0) ae) (aq (dv 1) ae)) af))))),fun ds M Q h=>?r⟩
 case r=>
  unfold il at h
  split at h
  case h_2=>exact h.elim
  obtain⟨n,q,r,rfl,rfl,h1,h2,hn,k⟩:=h
  obtain⟨m1,m2,m3,m4⟩:=h1.mOk h2 (by omega)
  refine⟨_,rfl,_,rfl,_,rfl,_,rfl,m2,_,rfl,_,rfl,_,rfl,_,rfl,m3,_,rfl,_,rfl,_,rfl,_,rfl,m4,?_⟩
  refine⟨_,_,rfl,rfl,Ma.gh q r,(h1.zd h2).mono hn,(h1.mS h2).mono hn,?_⟩
  rw[Ma.add_eq]
  exact rtn k
theorem si:FnScope ["one","other"] ["one","other"] (ao kX):=by walk_at "sc"
inductive Cn_times(x y:D)(M:MH)(Q:DK):Prop
 |mk (n:Nat) (q r:Rat) (hh0:x=Ma.fr q) (hh1:y=Ma.fr r) (hh2:Ma.Bq n q) (hh3:Ma.Bq n r) (hh4:2*n+1<=8000) (hh5:Q (Ma.fr (q*r)) M):Cn_times x y M Q
def gw:SpD:=fun ds M Q=>match ds with
 |[x,y]=>Cn_times x y M Q
 |_=>False
theorem qP:∀ds M Q,gw ds M Q->ds.length=2:=fun ds M Q h=>by
 unfold gw at h;split at h
 ·rfl
 ·exact h.elim
theorem sY(T:Tx K mg):Cal P w K mg base 3 "times" gw:=by
 refine a9 (k:=2) T.f_times si (fun _ _ _ _ _ _ us hl=>by obtain⟨_,_,rfl⟩:=SD.bF hl;rfl) qP fun f cdv A outer s H E hr=>⟨_,(ak (av (aj (bj T).m hr (aa (ar aI (aq (dv 0) ae) (aq (dv 1) ae)) (aa (ar aI (aq (dv 0) ae) (aq (dv 1) ae)) af))))),fun ds M Q h=>?r⟩
 case r=>
  unfold gw at h
  split at h
  case h_2=>exact h.elim
  obtain⟨n,q,r,rfl,rfl,h1,h2,hn,k⟩:=h
  obtain⟨m1,m2,m3,m4⟩:=h1.mOk h2 (by omega)
  refine⟨_,rfl,_,rfl,_,rfl,_,rfl,m1,_,rfl,_,rfl,_,rfl,_,rfl,m4,?_⟩
  refine⟨_,_,rfl,rfl,Ma.gh q r,(h1.u7 h2).mono hn,(h1.mS h2).mono hn,?_⟩
  rw[Ma.mul_eq]
  exact rtn k
theorem gi:FnScope ["start","end","share"] ["start","end","share"] (ao bY):=by walk_at "sc"
inductive Cn_number_between(x y z:D)(M:MH)(Q:DK):Prop
 |mk (p q s:Rat) (hh0:x=Ma.fr p) (hh1:y=Ma.fr q) (hh2:z=Ma.fr s) (hh3:Ma.Bq 60 p) (hh4:Ma.Bq 60 q) (hh5:Ma.Bq 1935 s) (hh6:Q (Ma.fr (btw p q s)) M):Cn_number_between x y z M Q
def ba:SpD:=fun ds M Q=>match ds with
 |[x,y,z]=>Cn_number_between x y z M Q
 |_=>False
theorem gb:∀ds M Q,ba ds M Q->ds.length=3:=fun ds M Q h=>by
 unfold ba at h;split at h
 ·rfl
 ·exact h.elim
theorem dA(T:Tx K mg):Cal P w K mg base 4 "number_between" ba:=by
 refine a9 (k:=3) T.f_number_between gi (fun _ _ _ _ _ _ us hl=>by obtain⟨_,_,_,rfl⟩:=SD.wR hl;rfl) gb fun f cdv A outer s H E hr=>⟨_,(ak (av (aj (v9 T).m hr (aa (dv 0) (aa (aj (sY T).m hr (aa (dv 2) (aa (aj (qJ T).m hr (aa (dv 1) (aa (dv 0) af))) af))) af))))),fun ds M Q h=>?r⟩
 case r=>
  unfold ba at h
  split at h
  case h_2=>exact h.elim
  obtain⟨p,q,s,rfl,rfl,rfl,h1,h2,h3,k⟩:=h
  refine⟨_,rfl,_,rfl,_,rfl,_,rfl,60,q,p,rfl,rfl,h2,h1,by decide,?_⟩
  refine⟨1935,s,q-p,rfl,rfl,h3,(h2.sub h1).mono (by decide),by decide,?_⟩
  exact⟨3871,p,s*(q-p),rfl,rfl,h1.mono (by decide),(h3.mul ((h2.sub h1).mono (by decide))).mono (by decide),by decide,rtn k⟩
theorem aK:FnScope ["one","other","start","end","top","bottom","from_start","share"] ["one","other"] (ao cg):=by walk_at "sc"
inductive Cn_crossing_spot(u v:D)(M:MH)(Q:DK):Prop
 |mk (a b c d e f g h:Rat) (hh0:u=Ma.wll a b c d) (hh1:v=Ma.wll e f g h) (hh2:Ma.Bq 60 a) (hh3:Ma.Bq 60 b) (hh4:Ma.Bq 60 c) (hh5:Ma.Bq 60 d) (hh6:Ma.Bq 60 e) (hh7:Ma.Bq 60 f) (hh8:Ma.Bq 60 g) (hh9:Ma.Bq 60 h) (hh10:Ma.cr a b c d e f-Ma.cr a b c d g h≠0) (hh11:Q (Ma.spt (btw e g (Ma.cr a b c d e f/(Ma.cr a b c d e f-Ma.cr a b c d g h))) (btw f h (Ma.cr a b c d e f/(Ma.cr a b c d e f-Ma.cr a b c d g h)))) M):Cn_crossing_spot u v M Q
def bu:SpD:=fun ds M Q=>match ds with
 |[u,v]=>Cn_crossing_spot u v M Q
 |_=>False
theorem gz:∀ds M Q,bu ds M Q->ds.length=2:=fun ds M Q h=>by
 unfold bu at h;split at h
 ·rfl
 ·exact h.elim
theorem hZ(T:Tx K mg):Cal P w K mg base 5 "crossing_spot" bu:=by
 refine a9 (k:=4) T.f_crossing_spot aK (fun _ _ _ _ _ _ us hl=>by obtain⟨_,_,rfl⟩:=SD.bF hl;rfl) gz fun f cdv A outer s H E hr=>⟨_,(ai (dW (dv 1) (bX rfl (aE (aG 2 aK.nd) (aE (aG 3 aK.nd) bq)))) (ai (dW (aj (m7 T).m hr (aa (dv 0) (aa (dv 2) af))) (bX rfl (aE (aG 4 aK.nd) (aE (aG 5 aK.nd) bq)))) (ai (aC 6 aK.nd (aj (bj T).m hr (aa (dv 4) (aa (dv 5) af)))) (ai (dW (aj (m7 T).m hr (aa (dv 0) (aa (dv 3) af))) (bX rfl (aE (aG 4 aK.nd) (aE (aG 5 aK.nd) bq)))) (ai (aC 7 aK.nd (aj (vX T).m hr (aa (dv 6) (aa (aj (qJ T).m hr (aa (dv 6) (aa (aj (bj T).m hr (aa (dv 4) (aa (dv 5) af))) af))) af)))) (ak (av (aH (aa (aj (dA T).m hr (aa (aq (dv 2) ae) (aa (aq (dv 3) ae) (aa (dv 7) af)))) (aa (aj (dA T).m hr (aa (aq (dv 2) ae) (aa (aq (dv 3) ae) (aa (dv 7) af)))) af)))))))))),fun ds M Q h=>?r⟩
 case r=>
  unfold bu at h
  split at h
  case h_2=>exact h.elim
  obtain⟨a,b,c,d,e,f,g,h',rfl,rfl,h1,h2,h3,h4,h5,h6,h7,h8,h0,k⟩:=h
  refine⟨_,rfl,_,rfl,rfl,_,_,rfl,_,_,rfl,rfl,?_⟩
  refine⟨_,rfl,_,rfl,60,a,b,c,d,e,f,rfl,rfl,h1,h2,h3,h4,h5,h6,by decide,fun t1 e1 he1 q1 bt1 be1=>?_⟩
  refine⟨_,rfl,rfl,_,_,rfl,_,_,rfl,rfl,?_⟩
  refine⟨_,rfl,_,rfl,t1,e1,rfl,rfl,by omega,bt1.mono (by decide),be1.mono (by decide),?_⟩
  refine⟨_,rfl,_,rfl,60,a,b,c,d,g,h',rfl,rfl,h1,h2,h3,h4,h7,h8,by decide,fun t2 e2 he2 q2 bt2 be2=>?_⟩
  refine⟨_,rfl,rfl,_,_,rfl,_,_,rfl,rfl,?_⟩
  have b1:Ma.Bq 483 (Ma.cr a b c d e f):=by rw[<-q1];exact .divInt (by omega) bt1 be1
  have b2:Ma.Bq 483 (Ma.cr a b c d g h'):=by rw[<-q2];exact .divInt (by omega) bt2 be2
  rw[q1]
  refine⟨_,rfl,_,rfl,_,rfl,_,rfl,t2,e2,rfl,rfl,by omega,bt2.mono (by decide),be2.mono (by decide),?_⟩
  rw[q2]
  refine⟨483,_,_,rfl,rfl,b1,b2,by decide,?_⟩
  refine⟨967,_,_,rfl,rfl,b1.mono (by decide),b1.sub b2,by decide,h0,?_⟩
  have bs:Ma.Bq 1935 (Ma.cr a b c d e f/(Ma.cr a b c d e f-Ma.cr a b c d g h')):=by
   rw[<-Ma.div_eq]
   have hz:(Ma.cr a b c d e f-Ma.cr a b c d g h').num≠0:=fun z=>h0 (Rat.num_eq_zero.mp z)
   have y1:=b1.mono (show 483<=967 by decide)
   have y2:=b1.sub b2
   exact .divInt (Int.mul_ne_zero (Ma.dz _) hz) ((y1.1.mul y2.2).mono (by decide)) ((y1.2.mul y2.1).mono (by decide))
  generalize Ma.cr a b c d e f/(Ma.cr a b c d e f-Ma.cr a b c d g h')=sh at bs k
  refine⟨_,rfl,_,rfl,_,rfl,_,rfl,_,rfl,e,g,sh,rfl,rfl,rfl,h5,h7,bs,?_⟩
  exact⟨_,rfl,_,rfl,_,rfl,_,rfl,_,rfl,f,h',sh,rfl,rfl,rfl,h6,h8,bs,nbL rfl,rtn k⟩
theorem iQ:FnScope ["one","other","first_side","second_side"] ["one","other"] (ao gI):=by walk_at "sc"
inductive Cn_meeting(u v:D)(M:MH)(Q:DK):Prop
 |mk (a b c d e f g h:Rat) (hh0:u=Ma.wll a b c d) (hh1:v=Ma.wll e f g h) (hh2:Ma.Bq 60 a) (hh3:Ma.Bq 60 b) (hh4:Ma.Bq 60 c) (hh5:Ma.Bq 60 d) (hh6:Ma.Bq 60 e) (hh7:Ma.Bq 60 f) (hh8:Ma.Bq 60 g) (hh9:Ma.Bq 60 h) (hh10:Q (jT a b c d e f g h) M):Cn_meeting u v M Q
def dZ:SpD:=fun ds M Q=>match ds with
 |[u,v]=>Cn_meeting u v M Q
 |_=>False
theorem nv:∀ds M Q,dZ ds M Q->ds.length=2:=fun ds M Q h=>by
 unfold dZ at h;split at h
 ·rfl
 ·exact h.elim
theorem qx(T:Tx K mg):Cal P w K mg base 6 "meeting" dZ:=by
 refine a9 (k:=5) T.f_meeting iQ (fun _ _ _ _ _ _ us hl=>by obtain⟨_,_,rfl⟩:=SD.bF hl;rfl) nv fun f cdv A outer s H E hr=>⟨_,(ai (fP 2 3 rfl iQ.nd (aa (aj (eX T).m hr (aa (dv 0) (aa (aq (dv 1) ae) af))) (aa (aj (eX T).m hr (aa (dv 0) (aa (aq (dv 1) ae) af))) af))) (ai (aP (mP (fJ (aJ (cK hr.units) (dv 2) ae) (dX (aJ (cK hr.units) (dv 3) ae)))) (ak (av (aj (gp T).m hr (aa (dv 0) (aa (dv 1) af))))) aD) (ai (aP (mP (yy (aJ (d6 hr.units) (ar aI (dv 2) (dv 3)) ae) (xF (aJ (d6 hr.units) (ar aI (aj (eX T).m hr (aa (dv 1) (aa (aq (dv 0) ae) af))) (aj (eX T).m hr (aa (dv 1) (aa (aq (dv 0) ae) af)))) ae)))) (ak (av cj)) aD) (ak (av (aH (aa cM (aa (aj (hZ T).m hr (aa (dv 0) (aa (dv 1) af))) af)))))))),fun ds M Q h=>?r⟩
 case r=>
  unfold dZ at h
  split at h
  case h_2=>exact h.elim
  obtain⟨a,b,c,d,e,f,g,h',rfl,rfl,h1,h2,h3,h4,h5,h6,h7,h8,k⟩:=h
  unfold jT at k
  refine⟨_,rfl,_,rfl,_,rfl,60,a,b,c,d,e,f,rfl,rfl,h1,h2,h3,h4,h5,h6,by decide,?_⟩
  refine⟨_,rfl,_,rfl,_,rfl,60,a,b,c,d,g,h',rfl,rfl,h1,h2,h3,h4,h7,h8,by decide,?_⟩
  refine⟨_,_,rfl,?_⟩
  have sb:∀z:Rat,Bd 64 (Ma.sgn z):=wo
  (try dsimp only[SD.aR])
  (try dsimp only[SD.eG,SD.dE,SD.aR,SD.fj,SD.fm,SD.bS,SD.dw,SD.tBD,SD.fh])
  refine rL (decide (Ma.sgn (Ma.cr a b c d e f)=0)) (decide (Ma.sgn (Ma.cr a b c d g h')=0)) (fun K hK=>⟨_,rfl,_,rfl,hK⟩) (fun _ K hK=>⟨_,rfl,_,rfl,hK⟩) ?_
  rw[<-Bool.decide_and]
  refine bN (fun z=>?_) (fun z=>?_)
  ·have z:Ma.sgn (Ma.cr a b c d e f)=0/\Ma.sgn (Ma.cr a b c d g h')=0:=by simpa using z
   rw[if_pos z]at k;exact⟨_,rfl,_,rfl,a,b,c,d,e,f,g,h',rfl,rfl,h1,h2,h3,h4,h5,h6,h7,h8,rtn k⟩
  have z:¬(Ma.sgn (Ma.cr a b c d e f)=0/\Ma.sgn (Ma.cr a b c d g h')=0):=by simpa using z
  rw[if_neg z]at k
  refine orT (decide (0<Ma.sgn (Ma.cr a b c d e f)*Ma.sgn (Ma.cr a b c d g h'))) (decide (0<Ma.sgn (Ma.cr e f g h' a b)*Ma.sgn (Ma.cr e f g h' c d))) (fun K hK=>⟨_,rfl,_,rfl,bg (sb _),trivial,_,rfl,hK⟩) (fun _ K hK=>⟨_,rfl,_,rfl,_,rfl,60,e,f,g,h',a,b,rfl,rfl,h5,h6,h7,h8,h1,h2,by decide,_,rfl,_,rfl,_,rfl,60,e,f,g,h',c,d,rfl,rfl,h5,h6,h7,h8,h3,h4,by decide,bg (sb _),trivial,_,rfl,hK⟩) ?_
  rw[<-Bool.decide_or]
  refine bN (fun y=>?_) (fun y=>?_)
  ·rw[if_pos (by simpa using y)]at k;exact rtn k
  ·have y:¬(0<Ma.sgn (Ma.cr a b c d e f)*Ma.sgn (Ma.cr a b c d g h')\/0<Ma.sgn (Ma.cr e f g h' a b)*Ma.sgn (Ma.cr e f g h' c d)):=by simpa using y
   rw[if_neg y]at k;refine⟨_,rfl,_,rfl,a,b,c,d,e,f,g,h',rfl,rfl,h1,h2,h3,h4,h5,h6,h7,h8,?_,nbL rfl,rtn k⟩;intro hz;have hz:Ma.cr a b c d e f=Ma.cr a b c d g h':=by grind
   rw[hz]at y z;have:Ma.sgn (Ma.cr a b c d g h')≠0:=fun q=>z ⟨q,q⟩;have hs:=jS (Ma.cr a b c d g h');rcases hs with q|q|q
   ·rw[q]at y;exact y (.inl (by decide))
   ·rw[q]at y;exact y (.inl (by decide))
   ·exact this q
theorem cz:FnScope ["one","other","met"] ["one","other"] (ao bE):=by walk_at "sc"
theorem bwx{t b X Y:Int}(S:Scl t b X Y){w:Wl}(h:Bw 1000 w):Ma.Bq 60 (Ma.ut t b X 1 w.1)/\Ma.Bq 60 (Ma.ut t b Y 1 w.2.1)/\Ma.Bq 60 (Ma.ut t b X 1 w.2.2.1)/\Ma.Bq 60 (Ma.ut t b Y 1 w.2.2.2):=⟨(S.b10 h.u.1).1,(S.b10 h.u.2.1).2,(S.b10 h.u.2.2.1).1,(S.b10 h.u.2.2.2).2⟩
inductive Cn_meet_as_in_plots(u v:D)(M:MH)(Q:DK):Prop
 |mk (t b X Y:Int) (U V:Wl) (hh0:u=rwl t b X Y U) (hh1:v=rwl t b X Y V) (hh2:Scl t b X Y) (hh3:Bw 1000 U) (hh4:Bw 1000 V) (hh5:Q (.bl (aO U V)) M):Cn_meet_as_in_plots u v M Q
def aZ:SpD:=fun ds M Q=>match ds with
 |[u,v]=>Cn_meet_as_in_plots u v M Q
 |_=>False
theorem fg:∀ds M Q,aZ ds M Q->ds.length=2:=fun ds M Q h=>by
 unfold aZ at h;split at h
 ·rfl
 ·exact h.elim
theorem fF(T:Tx K mg):Cal P w K mg base 7 "meet_as_in_plots" aZ:=by
 refine a9 (k:=6) T.f_meet_as_in_plots cz (fun _ _ _ _ _ _ us hl=>by obtain⟨_,_,rfl⟩:=SD.bF hl;rfl) fg fun f cdv A outer s H E hr=>⟨_,(ai (aC 2 cz.nd (aj (qx T).m hr (aa (dv 0) (aa (dv 1) af)))) (ai (aP (aJ uR (dv 2) cj) (ak (av l5)) aD) (ak (av (ji (cy (cK hr.units) (aq (dv 2) ae) cM) (ji (cy (vk (wa hr)) (aq (dv 2) ae) (dv 0) (by with_unfolding_all rfl)) (kL (cy (vk (wa hr)) (aq (dv 2) ae) (dv 1) (by with_unfolding_all rfl))))))))),fun ds M Q h=>?r⟩
 case r=>
  unfold aZ at h
  split at h
  case h_2=>exact h.elim
  obtain⟨t,b,X,Y,U,V,rfl,rfl,S,HU,HV,k⟩:=h
  obtain⟨u1,u2,u3,u4⟩:=bwx S HU
  obtain⟨v1,v2,v3,v4⟩:=bwx S HV
  refine⟨_,rfl,_,rfl,_,_,_,_,_,_,_,_,rfl,rfl,u1,u2,u3,u4,v1,v2,v3,v4,?_⟩
  have m:=meets (X:=X) (Y:=Y) S.t0 S.b0 HU.o HV.o
  unfold mtD at m
  generalize jT (Ma.ut t b X 1 U.1) (Ma.ut t b Y 1 U.2.1) (Ma.ut t b X 1 U.2.2.1) (Ma.ut t b Y 1 U.2.2.2) (Ma.ut t b X 1 V.1) (Ma.ut t b Y 1 V.2.1) (Ma.ut t b X 1 V.2.2.1) (Ma.ut t b Y 1 V.2.2.2)=d at m
  have okS:∀{x:Str},PyData.strOk x=true->SeqAt.shaped (.str x)=true:=fun{x} h=>Bool.and_eq_true_iff.mpr ⟨by rw[PyData.canLay0];exact h,decide_eq_true (nbL rfl)⟩
  cases m with
  |non h=>
   rw[h]at k
   exact⟨_,rfl,_,rfl,_,rfl,lU rfl (rtn k)⟩
  |str h=>
   rw[h]at k
   refine⟨_,rfl,_,rfl,_,rfl,e9 rfl ?_⟩
   (try dsimp only[SD.eG,SD.dE,SD.aR,SD.fj,SD.fm,SD.bS,SD.dw,SD.tBD,SD.fh])
   refine qa false true (fun K hK=>?_) (fun z=>absurd z Bool.false_ne_true) (rtn k)
   refine⟨_,rfl,_,rfl,_,_,.str _,.str _,okS nG,okS lA,?_⟩
   exact hK
  |spot h=>
   rename_i x y
   refine⟨_,rfl,_,rfl,_,rfl,e9 rfl ?_⟩
   (try dsimp only[SD.eG,SD.dE,SD.aR,SD.fj,SD.fm,SD.bS,SD.dw,SD.tBD,SD.fh])
   refine qa true (inS t b X Y U x y&&inS t b X Y V x y) (fun K hK=>?_) (fun _ K hK=>?_) (rtn (by rw[Bool.true_and,<-h];exact k))
   ·refine⟨_,rfl,_,rfl,_,_,.str _,.str _,okS lA,okS lA,?_⟩;rw[ib];exact hK
   ·exact qa _ _ (fun K hK=>⟨_,rfl,_,rfl,_,rfl,so _ _ hK⟩) (fun _ K hK=>⟨_,rfl,_,rfl,_,rfl,so _ _ hK⟩) hK
theorem b5:FnScope ["walls","wall","number","other"] ["walls","wall"] (ao cw):=by walk_at "sc"
inductive Cn_first_crossed(u v:D)(M:MH)(Q:DK):Prop
 |mk (a:Addr) (t b X Y:Int) (us:List Wl) (W:Wl) (hh0:u=.ref a) (hh1:v=rwl t b X Y W) (hh2:M a=some (.lst (us.map (rwl t b X Y)))) (hh3:Scl t b X Y) (hh4:Bw 1000 W) (hh5:(∀U∈us,Bw 1000 U)) (hh6:Q (opD (fcr W us)) M):Cn_first_crossed u v M Q
def br:SpD:=fun ds M Q=>match ds with
 |[u,v]=>Cn_first_crossed u v M Q
 |_=>False
theorem gK:∀ds M Q,br ds M Q->ds.length=2:=fun ds M Q h=>by
 unfold br at h;split at h
 ·rfl
 ·exact h.elim
theorem ec(T:Tx K mg):Cal P w K mg base 8 "first_crossed" br:=by
 refine a9 (k:=7) T.f_first_crossed b5 (fun _ _ _ _ _ _ us hl=>by obtain⟨_,_,rfl⟩:=SD.bF hl;rfl) gK fun f cdv A outer s H E hr=>⟨_,(ai (iH PassesOwn.never rfl (kj rfl T.b_enumerate (aa (dv 0) af)) (bX rfl (aE (aG 2 b5.nd) (aE (aG 3 b5.nd) bq))) (ak (aP (rV (cm (aj (fF T).m hr (aa (dv 1) (aa (dv 3) af))))) (ak (av (dv 2))) aD))) (ak (av cj))),fun ds M Q h=>?r⟩
 case r=>
  unfold br at h
  split at h
  case h_2=>exact h.elim
  obtain⟨a,t,b,X,Y,us,W,rfl,rfl,ha,S,HW,hU,k⟩:=h
  refine⟨_,rfl,a,_,rfl,ha,?_⟩
  refine⟨fun i δ M'=>M'=M/\(∃o2 o3,δ=[some (.ref a),some (rwl t b X Y W),o2,o3])/\∀j U',j<i->us[j]?=some U'->aO W U'=true,⟨rfl,⟨_,_,rfl⟩,fun j U' h=>by omega⟩,fun i δ M' _ z=>by obtain⟨rfl,_⟩:=z;exact ha,?_,?_⟩
  ·rintro i d δ M' hi hd ⟨rfl,⟨o2,o3,rfl⟩,kp⟩;have hd:((us.map (rwl t b X Y))[i]?).map (fun d=>D.tup [.int (i:Int),d])=some d:=hd;rw[List.getElem?_map]at hd;cases eu:us[i]? with
   |none=>rw[eu]at hd;cases hd
   |some U=>
    rw[eu]at hd
    cases hd
    have q:=hU U (List.mem_of_getElem? eu)
    refine⟨_,rfl,rfl,_,_,rfl,_,_,rfl,rfl,?_⟩
    refine⟨_,rfl,_,rfl,t,b,X,Y,W,U,rfl,rfl,S,HW,q,_,rfl,?_⟩
    cases hf:aO W U with
    |true=>
     refine e9 rfl ⟨rfl,⟨_,_,rfl⟩,fun j U' hj e=>?_⟩
     by_cases z:j=i
     ·subst z;rw[eu]at e;cases e;exact hf
     ·exact kp j U' (by omega) e
    |false=>
     refine lU rfl ⟨_,rfl,rtn ?_⟩
     rw[mQ eu hf kp]at k
     exact k
  ·rintro δ M' ⟨rfl,⟨o2,o3,rfl⟩,kp⟩;rw[lW fun j U' e=>kp j U' (by have:=(List.getElem?_eq_some_iff.mp e).1;show j<(us.map (rwl t b X Y)).length;simp;omega) e]at k;exact rtn k
theorem lP:FnScope ["walls"] ["walls"] (ao fU):=by walk_at "sc"
inductive Cn_own_plot(u:D)(M:MH)(Q:DK):Prop
 |mk (a:Addr) (t b X Y:Int) (us:List Wl) (hh0:u=.ref a) (hh1:M a=some (.lst (us.map (rwl t b X Y)))) (hh2:Scl t b X Y) (hh3:(∀U∈us,Bw 1000 U)) (hh4:us.length<=1000) (hh5:Q (.tup (us.map (rwl t b X Y))) M):Cn_own_plot u M Q
def dh:SpD:=fun ds M Q=>match ds with
 |[u]=>Cn_own_plot u M Q
 |_=>False
theorem mx:∀ds M Q,dh ds M Q->ds.length=1:=fun ds M Q h=>by
 unfold dh at h;split at h
 ·rfl
 ·exact h.elim
theorem om(T:Tx K mg):Cal P w K mg base 5 "own_plot" dh:=by
 refine a9 (k:=4) T.f_own_plot lP (fun _ _ _ _ _ _ us hl=>by obtain⟨_,rfl⟩:=SD.ll hl;rfl) mx fun f cdv A outer s H E hr=>⟨_,(ak (av (cI mD rfl T.b_tuple lX (aa (iA (CScope.of (xs:=["wall"]) (js:=[]) rfl) rfl (fB (dv 0)) (fun _ _ _ _=>eR) (fun _ _ _ _=>(aj (jd T).m hr (aa (dv 0) af)))) af)))),fun ds M Q h=>?r⟩
 case r=>
  unfold dh at h
  split at h
  case h_2=>exact h.elim
  obtain⟨a,t,b,X,Y,us,rfl,ha,S,hU,hl,k⟩:=h
  refine⟨_,rfl,us.map (rwl t b X Y),ha,comp_map (fun j=>(((us.map (rwl t b X Y))[j]?).getD .non)) (by show(us.map (rwl t b X Y)).length<=1000000;simp;omega) (fun p ys hp=>by show(ay M p _) a=_;rw[au (aN ha hp)];exact ha) ?_ (fun p hp=>?_)⟩
  ·intro i e' M2 hi he' _;have he':(us.map (rwl t b X Y))[i]?=some e':=he';rw[List.getElem?_map]at he';cases eu:us[i]? with
   |none=>rw[eu]at he';cases he'
   |some U=>
    rw[eu]at he'
    cases he'
    obtain⟨u1,u2,u3,u4⟩:=bwx S (hU U (List.mem_of_getElem? eu))
    have ev:((us.map (rwl t b X Y))[i]?).getD D.non=rwl t b X Y U:=by rw[List.getElem?_map,eu];rfl
    refine⟨_,rfl,fun K hK=>?_⟩
    rw[ev]at hK
    exact⟨_,rfl,_,_,_,_,rfl,u1.mono (by decide),u2.mono (by decide),u3.mono (by decide),u4.mono (by decide),hK _ .refl⟩
  have e:=SD.range_getD (us.map (rwl t b X Y))
  dsimp only
  rw[e]
  exact⟨_,ag,M,.new hp .refl,k⟩
theorem bo:FnScope ["walls","number","wall","other"] ["walls"] (ao gQ):=by walk_at "sc"
theorem mF{α:Type}(f:α->D)(l:List α)(i:Nat)(hi:i<=l.length):SD.cutD (l.map f) none (some (i:Int))=(l.take i).map f:=by unfold SD.cutD;rw[HT.tq,HT.sH,List.length_map,Nat.min_eq_left hi,Nat.sub_zero,List.drop_zero,List.map_take]
inductive Cn_plot_of(u:D)(M:MH)(Q:DK):Prop
 |mk (a:Addr) (t b X Y:Int) (us:List Wl) (hh0:u=.ref a) (hh1:M a=some (.lst (us.map (rwl t b X Y)))) (hh2:Scl t b X Y) (hh3:(∀U∈us,Bw 1000 U)) (hh4:us.length<=40) (hh5:(∀(i:Nat) W,us[i]?=some W->fcr W (us.take i)=none)) (hh6:Q (.tup (us.map (rwl t b X Y))) M):Cn_plot_of u M Q
def dO:SpD:=fun ds M Q=>match ds with
 |[u]=>Cn_plot_of u M Q
 |_=>False
theorem ng:∀ds M Q,dO ds M Q->ds.length=1:=fun ds M Q h=>by
 unfold dO at h;split at h
 ·rfl
 ·exact h.elim
theorem qo(T:Tx K mg):Cal P w K mg base 9 "plot_of" dO:=by
 refine a9 (k:=8) T.f_plot_of bo (fun _ _ _ _ _ _ us hl=>by obtain⟨_,rfl⟩:=SD.ll hl;rfl) ng fun f cdv A outer s H E hr=>⟨_,(ai (aP (aJ (d6 hr.units) (ax ck rfl T.b_len cx (aa (dv 0) af)) (mM rfl T.g_MOST_WALLS)) (ak iU) aD) (ai (iH PassesOwn.never rfl (kj rfl T.b_enumerate (aa (dv 0) af)) (bX rfl (aE (aG 1 bo.nd) (aE (aG 2 bo.nd) bq))) (ai (aC 3 bo.nd (aj (ec T).m hr (aa (lD (dv 0) pq (pA (dv 1))) (aa (dv 2) af)))) (ak (aP (aJ lE (dv 3) cj) (ak iU) aD)))) (ak (av (aj (om T).m hr (aa (dv 0) af)))))),fun ds M Q h=>?r⟩
 case r=>
  unfold dO at h
  split at h
  case h_2=>exact h.elim
  obtain⟨a,t,b,X,Y,us,rfl,ha,S,hU,hl,hF,k⟩:=h
  refine⟨_,rfl,_,ha,trivial,_,rfl,e9 (decide_eq_false (by simp;omega)) ?_⟩
  dsimp only[SD.bS]
  refine⟨_,rfl,a,_,rfl,ha,?_⟩
  refine⟨fun i δ M'=>SD.Sub M M'/\∃o1 o2 o3,δ=[some (.ref a),o1,o2,o3],⟨.refl,_,_,_,rfl⟩,fun i δ M' _ z=>z.1 a _ ha,?_,?_⟩
  ·rintro i d δ M' hi hd ⟨sb,o1,o2,o3,rfl⟩;have hd:((us.map (rwl t b X Y))[i]?).map (fun d=>D.tup [.int (i:Int),d])=some d:=hd;rw[List.getElem?_map]at hd;cases eu:us[i]? with
   |none=>rw[eu]at hd;cases hd
   |some W=>
    rw[eu]at hd
    cases hd
    have hil:i<us.length:=(List.getElem?_eq_some_iff.mp eu).1
    have ha':=sb a _ ha
    refine⟨_,rfl,rfl,_,_,rfl,_,_,rfl,rfl,?_⟩
    refine⟨_,rfl,_,rfl,_,rfl,_,ha',fun p hp=>?_⟩
    rw[mF _ _ _ (by omega)]
    refine⟨_,rfl,p,t,b,X,Y,us.take i,W,rfl,rfl,ag,S,hU W (List.mem_of_getElem? eu),fun U hUm=>hU U (List.mem_of_mem_take hUm),?_⟩
    rw[hF i W eu]
    exact⟨_,rfl,_,rfl,_,rfl,e9 rfl ⟨.new hp sb,_,_,_,rfl⟩⟩
  ·rintro δ M' ⟨sb,o1,o2,o3,rfl⟩;exact⟨_,rfl,a,t,b,X,Y,us,rfl,sb a _ ha,S,hU,by omega,M,sb,k⟩
def dg(K:PySem.W.Frag):nT:=fun ds M R=>match ds with
 |[u]=>∃(a:Addr) (t b X Y:Int) (us:List Wl),u=.ref a/\M a=some (.lst (us.map (rwl t b X Y)))/\Scl t b X Y/\(∀U∈us,Bw 1000 U)/\us.length<=100/\
  ((40<us.length/\∀M' dx,SD.Sub M M'->M' dx=some (lH [("count",.int (us.length:Int))])->R (cl K "TooMany") (some dx) M')\/
   (us.length<=40/\∃i j W,us[i]?=some W/\fcr W (us.take i)=some j/\(∀i' W',i'<i->us[i']?=some W'->fcr W' (us.take i')=none)/\∀M' dx,SD.Sub M M'->M' dx=some (lH [("wall",.int (i:Int)),("other",.int (j:Int))])->R (cl K "Crossing") (some dx) M'))
 |_=>False
theorem lV(K:PySem.W.Frag):∀ds M Q,dg K ds M Q->ds.length=1:=fun ds M Q h=>by
 unfold dg at h;split at h
 ·rfl
 ·exact h.elim
theorem pQ(T:Tx K mg):kb P w K mg base 9 "plot_of" (dg K):=by
 refine ze (k:=8) (N:=["walls","number","wall","other"]) (ps:=["walls"]) T.f_plot_of bo (fun _ _ _ _ _ _ us hl=>match us,hl with|[_],_=>rfl) (lV K) fun f cdv A outer s H E R hr hE=>⟨_,(ai (aP (aJ (d6 hr.units) (ax ck rfl T.b_len cx (aa (dv 0) af)) (mM rfl T.g_MOST_WALLS)) (ak (jX hE ((iI T).mono (by decide)) hr (aa (ax ck rfl T.b_len cx (aa (dv 0) af)) af))) aD)
  (ai (iH xr rfl (kj rfl T.b_enumerate (aa (dv 0) af)) (bX rfl (aE (aG 1 bo.nd) (aE (aG 2 bo.nd) bq))) (ai (aC 3 bo.nd (aj (ec T).m hr (aa (lD (dv 0) pq (pA (dv 1))) (aa (dv 2) af))))
  (ak (aP (aJ lE (dv 3) cj) (ak (jX hE ((eN T).mono (by decide)) hr (aa (dv 1) (aa (dv 3) af)))) aD))))
  qq)),fun ds M h=>?r⟩
 case r=>
  unfold dg at h
  split at h
  case h_2=>exact h.elim
  obtain⟨a,t,b,X,Y,us,rfl,ha,S,hU,h100,h⟩:=h
  refine⟨_,rfl,_,ha,trivial,_,rfl,?_⟩
  rcases h with⟨hl,k⟩|⟨hl,i0,j0,W0,e0,f0,bef,k⟩
  ·refine lU (decide_eq_true (by simp;omega)) ?_;refine⟨_,rfl,_,ha,rfl,(show 1<=1000 by decide),fun d hd=>?_,fun dx hdx=>?_⟩
   ·rw[List.mem_singleton.mp hd,List.length_map];exact .int (by omega) (by omega)
   ·rw[List.length_map];exact k _ dx (.new hdx .refl) ag
  ·refine e9 (decide_eq_false (by simp;omega)) ?_;dsimp only[SD.bS];refine⟨_,rfl,a,_,rfl,ha,?_⟩;refine⟨fun i δ M'=>i<=i0/\SD.Sub M M'/\∃o1 o2 o3,δ=[some (.ref a),o1,o2,o3],⟨Nat.zero_le _,.refl,_,_,_,rfl⟩,fun i δ M' _ z=>z.2.1 a _ ha,?_,?_⟩
   ·rintro i d δ M' hi hd ⟨hle,sb,o1,o2,o3,rfl⟩;have hd:((us.map (rwl t b X Y))[i]?).map (fun d=>D.tup [.int (i:Int),d])=some d:=hd;rw[List.getElem?_map]at hd;cases eu:us[i]? with
    |none=>rw[eu]at hd;cases hd
    |some W=>
     rw[eu]at hd
     cases hd
     have hil:i<us.length:=(List.getElem?_eq_some_iff.mp eu).1
     have ha':=sb a _ ha
     refine⟨_,rfl,rfl,_,_,rfl,_,_,rfl,rfl,?_⟩
     refine⟨_,rfl,_,rfl,_,rfl,_,ha',fun p hp=>?_⟩
     rw[mF _ _ _ (by omega)]
     refine⟨_,rfl,p,t,b,X,Y,us.take i,W,rfl,rfl,ag,S,hU W (List.mem_of_getElem? eu),fun U hUm=>hU U (List.mem_of_mem_take hUm),?_⟩
     by_cases z:i=i0
     ·subst z;rw[e0]at eu;cases eu;rw[f0];have hj:=rO f0;rw[List.length_take]at hj;refine⟨_,rfl,_,rfl,_,rfl,lU rfl ?_⟩;refine⟨_,rfl,_,rfl,rfl,(show 2<=1000 by decide),fun d hd=>?_,fun dx hdx=>?_⟩
      ·rcases List.mem_cons.mp hd with y|y
       ·rw[y];exact .int (by omega) (by omega)
       ·rw[List.mem_singleton.mp y];exact .int (by omega) (by omega)
      ·exact k _ dx (.new hdx (.new hp sb)) ag
     ·rw[bef i W (by omega) eu];exact⟨_,rfl,_,rfl,_,rfl,e9 rfl ⟨by omega,.new hp sb,_,_,_,rfl⟩⟩
   ·rintro δ M' ⟨hle,sb,o1,o2,o3,rfl⟩;have:=(List.getElem?_eq_some_iff.mp e0).1;have hle:(us.map (rwl t b X Y)).length<=i0:=hle;rw[List.length_map]at hle;omega
theorem d4:FnScope ["_law_heard","_law_place","_law_kinds"] ["_law_heard","_law_place"] (ao eJ):=by walk_at "sc"
def cE(K:PySem.W.Frag):SpD:=fun ds M Q=>match ds with
 |[x,y]=>∃(a:Addr) (dd:Option Addr) (n:Int),x=.ref a/\y=.int n/\((n=6/\M a=some (cH (cl K "TooMany") dd))\/(n=1/\M a=some (cH (cl K "Crossing") dd)))/\Q (.bl true) M
 |_=>False
theorem kl(K:PySem.W.Frag):∀ds M Q,(cE K) ds M Q->ds.length=2:=fun ds M Q h=>by
 unfold cE at h;split at h
 ·rfl
 ·exact h.elim
theorem g7(T:Tx K mg):Cal P w K mg base 1 "_law_alone" (cE K):=by
 refine a9 (k:=0) T.f_law_alone d4 (fun _ _ _ _ _ _ us hl=>by obtain⟨_,_,rfl⟩:=SD.bF hl;rfl) (kl K) fun f cdv A outer s H E hr=>⟨_,(ai (aC 2 d4.nd (fX (aa (ax (aY (K:=K) rfl) rfl T.b_isinstance aL (aa (dv 0) (aa (dJ rfl T.r_Absent) af))) (aa (ax (aY (K:=K) rfl) rfl T.b_isinstance aL (aa (dv 0) (aa (dJ rfl T.r_Crossing) af))) (aa (ax (aY (K:=K) rfl) rfl T.b_isinstance aL (aa (dv 0) (aa (dJ rfl T.r_NoFraction) af))) af))))) (ai (aC 2 d4.nd (ar aS (dv 2) (fX (aa (ax (aY (K:=K) rfl) rfl T.b_isinstance aL (aa (dv 0) (aa (dJ rfl T.r_NoRow) af))) (aa (ax (aY (K:=K) rfl) rfl T.b_isinstance aL (aa (dv 0) (aa (dJ rfl T.r_NoText) af))) (aa (ax (aY (K:=K) rfl) rfl T.b_isinstance aL (aa (dv 0) (aa (dJ rfl T.r_NoWall) af))) af)))))) (ai (kP (g8 (dv 2) (aa (ax (aY (K:=K) rfl) rfl T.b_isinstance aL (aa (dv 0) (aa (dJ rfl T.r_TooMany) af))) af))) (ak (av (ji (ax (aY (K:=K) rfl) rfl T.b_isinstance aL (aa (dv 0) (aa (ym rfl T.b_ValueError jw) af))) (ji (cy (cK hr.units) (mZ (dv 2) (aa l5 af)) ae) (kL (aq (dv 2) (dv 1)))))))))),fun ds M Q h=>?r⟩
 case r=>
  unfold cE at h
  split at h
  case h_2=>exact h.elim
  obtain⟨a,dd,n,rfl,rfl,hh,q⟩:=h
  have fa:∃(C:Addr) (b2 b7:Bool),M a=some (cH C dd)/\ErrK K C/\PySem.W.kitOne K (.ref C) (.ref (cl K "Absent"))=some false/\PySem.W.kitOne K (.ref C) (.ref (cl K "Crossing"))=some b2/\PySem.W.kitOne K (.ref C) (.ref (cl K "NoFraction"))=some false/\PySem.W.kitOne K (.ref C) (.ref (cl K "NoRow"))=some false/\PySem.W.kitOne K (.ref C) (.ref (cl K "NoText"))=some false/\PySem.W.kitOne K (.ref C) (.ref (cl K "NoWall"))=some false/\PySem.W.kitOne K (.ref C) (.ref (cl K "TooMany"))=some b7/\PySem.W.kitOne K (.ref C) (.type "ValueError")=some true/\(((List.countP (·==true) [false,b2,false,false,false,false,b7]:Nat):Int)=1)/\atI (List.map D.bl [false,b2,false,false,false,false,b7]) n=some (.bl true):=by
   rcases hh with⟨rfl,hM⟩|⟨rfl,hM⟩
   ·exact⟨_,false,true,hM,T.ek_TooMany,T.ki_TooMany_Absent,T.ki_TooMany_Crossing,T.ki_TooMany_NoFraction,T.ki_TooMany_NoRow,T.ki_TooMany_NoText,T.ki_TooMany_NoWall,T.ki_TooMany_TooMany,T.kv_TooMany,rfl,rfl⟩
   ·exact⟨_,true,false,hM,T.ek_Crossing,T.ki_Crossing_Absent,T.ki_Crossing_Crossing,T.ki_Crossing_NoFraction,T.ki_Crossing_NoRow,T.ki_Crossing_NoText,T.ki_Crossing_NoWall,T.ki_Crossing_TooMany,T.kv_Crossing,rfl,rfl⟩
  clear hh
  obtain⟨C,b2,b7,hM,ek,k1,k2,k3,k4,k5,k6,k7,kv,cnt,hat⟩:=fa
  refine⟨_,rfl,.inr ⟨a,_,_,_,_,_,rfl,hM,ek,rfl,k1,?_⟩⟩
  refine⟨_,rfl,.inr ⟨a,_,_,_,_,_,rfl,hM,ek,rfl,k2,?_⟩⟩
  refine⟨_,rfl,.inr ⟨a,_,_,_,_,_,rfl,hM,ek,rfl,k3,?_⟩⟩
  refine⟨nbL rfl,fun l hl=>?_⟩
  have nal:a≠l:=aN hM hl
  have hM1:(ay M l (.lst [.bl false,.bl b2,.bl false])) a=some (cH C dd):=by rw[au nal];exact hM
  refine⟨_,rfl,_,rfl,.inr ⟨a,_,_,_,_,_,rfl,hM1,ek,rfl,k4,?_⟩⟩
  refine⟨_,rfl,.inr ⟨a,_,_,_,_,_,rfl,hM1,ek,rfl,k5,?_⟩⟩
  refine⟨_,rfl,.inr ⟨a,_,_,_,_,_,rfl,hM1,ek,rfl,k6,?_⟩⟩
  refine⟨nbL rfl,fun l2 hl2=>?_⟩
  have n12:l≠l2:=fun e=>by subst e;rw[ag]at hl2;cases hl2
  refine⟨_,_,(by rw[au n12,ag]),ag,nbL rfl,fun l3 hl3=>?_⟩
  have na2:a≠l2:=aN hM1 hl2
  have hM1b:(ay (ay M l (.lst [.bl false,.bl b2,.bl false])) l2 (.lst [.bl false,.bl false,.bl false])) a=some (cH C dd):=by rw[au na2];exact hM1
  have na3:a≠l3:=aN hM1b hl3
  have hM2:(ay (ay (ay M l (.lst [.bl false,.bl b2,.bl false])) l2 (.lst [.bl false,.bl false,.bl false])) l3 (.lst ([.bl false,.bl b2,.bl false]++[.bl false,.bl false,.bl false]))) a=some (cH C dd):=by rw[au na3];exact hM1b
  refine⟨_,rfl,_,_,rfl,ag,?_⟩
  refine⟨_,rfl,.inr ⟨a,_,_,_,_,_,rfl,hM2,ek,rfl,k7,?_⟩⟩
  refine⟨_,_,rfl,ag,nbL rfl,?_⟩
  rw[bL]
  generalize hMM:ay (ay (ay M l (.lst [.bl false,.bl b2,.bl false])) l2 (.lst [.bl false,.bl false,.bl false])) l3 _=M5
  have hl5:M5 l3=some (.lst (List.map D.bl [false,b2,false,false,false,false,b7])):=by rw[<-hMM,ag];rfl
  have hM5:M5 a=some (cH C dd):=by rw[<-hMM,au na3];exact hM1b
  have hS5:Sub M M5:=by rw[<-hMM];exact .new hl3 (.new hl2 (.new hl .refl))
  (try dsimp only[SD.eG,SD.dE,SD.aR,SD.fj,SD.fm,SD.bS,SD.dw,SD.tBD,SD.fh])
  refine qa true true (fun K' hK=>⟨_,rfl,.inr ⟨a,_,_,_,_,_,rfl,hM5,ek,rfl,kv,hK⟩⟩) (fun _ K' hK=>?_) ⟨_,hS5,q⟩
  refine qa true true (fun K' hK=>⟨_,rfl,l3,_,rfl,hl5,_,rfl,hl5,?_⟩) (fun _ K' hK=>⟨_,rfl,_,rfl,_,_,hl5,hat,hK⟩) hK
  rw[cnt]
  exact hK
theorem bM:FnScope ["_law_shuts","_law_heard","_law_found","e"] ["_law_shuts"] (ao fL):=by walk_at "sc"
def cT(K:PySem.W.Frag):SpD:=fun ds M Q=>match ds with
 |[u]=>∃(a:Addr) (t b X Y:Int) (us:List Wl),u=.ref a/\M a=some (.lst (us.map (rwl t b X Y)))/\Scl t b X Y/\(∀U∈us,Bw 1000 U)/\us.length<=100/\Q (og us (.tup (us.map (rwl t b X Y)))) M
 |_=>False
theorem mJ(K:PySem.W.Frag):∀ds M Q,(cT K) ds M Q->ds.length=1:=fun ds M Q h=>by
 unfold cT at h;split at h
 ·rfl
 ·exact h.elim
theorem nZ(T:Tx K mg):Cal P w K mg base 10 "_law_told" (cT K):=by
 refine a9 (k:=9) T.f_law_told bM (fun _ _ _ _ _ _ us hl=>by obtain⟨_,rfl⟩:=SD.ll hl;rfl) (mJ K) fun f cdv A outer s H E hr=>⟨_,(ai (aC 1 bM.nd cj) (ai (aC 2 bM.nd cj) (ai (uf 3 bM.nd T.e_SpotError T.r_SpotError T.eb_SpotError (ak (aC 2 bM.nd (aj (qo T).m hr (aa (dv 0) af)))) (tQ (qf ((pQ T).mono (by decide)) hr (aa (dv 0) af)) rfl) (fun _=>(ak (aC 1 bM.nd (dv 3))))) (ai (aP (aJ uR (dv 1) cj) (ak (av (aH (aa cM (aa (dv 2) af))))) aD) (ai (aP (mP (fJ (cm (ax (aY (K:=K) rfl) rfl T.b_isinstance aL (aa (dv 1) (aa (dJ rfl T.r_TooMany) af)))) (dX (cm (aj (g7 T).m hr (aa (dv 1) (aa ae af))))))) (ak (av (aH (aa cM (aa (eP (dv 1)) af))))) aD) (ai (aP (mP (fJ (cm (ax (aY (K:=K) rfl) rfl T.b_isinstance aL (aa (dv 1) (aa (dJ rfl T.r_Crossing) af)))) (dX (cm (aj (g7 T).m hr (aa (dv 1) (aa ae af))))))) (ak (av (aH (aa cM (aa (eP (dv 1)) (aa (eP (dv 1)) af)))))) aD) (ak (av (aH (aa cM af)))))))))),fun ds M Q h=>?r⟩
 case r=>
  unfold cT at h
  split at h
  case h_2=>exact h.elim
  obtain⟨a,t,b,X,Y,us,rfl,ha,S,hU,hl,k⟩:=h
  unfold og at k
  (try dsimp only[SD.aR])
  by_cases h40:40<us.length
  ·rw[if_pos h40]at k;refine .inr ⟨_,rfl,a,t,b,X,Y,us,rfl,ha,S,hU,hl,.inl ⟨h40,fun M' dx sb hf=>⟨T.es_TooMany_SpotError,fun e he=>?_⟩⟩⟩;have hE:(ay M' e (cH (cl K "TooMany") (some dx))) e=some (cH (cl K "TooMany") (some dx)):=ag;have hF:(ay M' e (cH (cl K "TooMany") (some dx))) dx=some (lH [("count",.int (us.length:Int))]):=by rw[au (aN hf he)];exact hf
   have sb2:SD.Sub M (ay M' e (cH (cl K "TooMany") (some dx))):=.new he sb;generalize ay M' e (cH (cl K "TooMany") (some dx))=M2 at hE hF sb2 ⊢;refine⟨_,rfl,?_⟩;(try dsimp only[SD.aR])
   refine⟨_,rfl,_,rfl,_,rfl,e9 rfl ?_⟩;(try dsimp only[SD.eG,SD.dE,SD.aR,SD.fj,SD.fm,SD.bS,SD.dw,SD.tBD,SD.fh])
   refine rL true true (fun K' hK=>⟨_,rfl,.inr ⟨e,_,_,_,_,_,rfl,hE,T.ek_TooMany,rfl,T.ki_TooMany_TooMany,_,rfl,hK⟩⟩) (fun _ K' hK=>⟨_,rfl,e,_,6,rfl,rfl,.inl ⟨rfl,hE⟩,_,rfl,hK⟩) ?_;refine lU rfl ?_;exact⟨_,rfl,e,_,dx,_,_,rfl,hE,hF,⟨T.ek_TooMany.c,T.hd_TooMany,T.fn_TooMany_count⟩,rfl,.int (by omega) (by omega),nbL rfl,⟨_,sb2,k⟩⟩
  ·rw[if_neg h40]at k;rcases vH us with hn|⟨i,j,W,eW,fW,bef⟩
   ·rw[mq hn]at k;refine .inl ⟨_,rfl,a,t,b,X,Y,us,rfl,ha,S,hU,by omega,hn,?_⟩;(try dsimp only[SD.aR])
    refine⟨_,rfl,_,rfl,_,rfl,lU rfl ?_⟩;exact⟨_,rfl,nbL rfl,rtn k⟩
   ·rw[lC eW fW bef]at k;have li:=(List.getElem?_eq_some_iff.mp eW).1;have lj:=rO fW;rw[List.length_take]at lj;refine .inr ⟨_,rfl,a,t,b,X,Y,us,rfl,ha,S,hU,hl,.inr ⟨by omega,i,j,W,eW,fW,bef,fun M' dx sb hf=>⟨T.es_Crossing_SpotError,fun e he=>?_⟩⟩⟩;have hE:(ay M' e (cH (cl K "Crossing") (some dx))) e=some (cH (cl K "Crossing") (some dx)):=ag;have hF:(ay M' e (cH (cl K "Crossing") (some dx))) dx=some (lH [("wall",.int (i:Int)),("other",.int (j:Int))]):=by rw[au (aN hf he)];exact hf
    have sb2:SD.Sub M (ay M' e (cH (cl K "Crossing") (some dx))):=.new he sb;generalize ay M' e (cH (cl K "Crossing") (some dx))=M2 at hE hF sb2 ⊢;refine⟨_,rfl,?_⟩;(try dsimp only[SD.aR])
    refine⟨_,rfl,_,rfl,_,rfl,e9 rfl ?_⟩;(try dsimp only[SD.eG,SD.dE,SD.aR,SD.fj,SD.fm,SD.bS,SD.dw,SD.tBD,SD.fh])
    refine rL false true (fun K' hK=>⟨_,rfl,.inr ⟨e,_,_,_,_,_,rfl,hE,T.ek_Crossing,rfl,T.ki_Crossing_TooMany,_,rfl,hK⟩⟩) (fun z=>absurd z Bool.false_ne_true) ?_;refine e9 rfl ?_;refine rL true true (fun K' hK=>⟨_,rfl,.inr ⟨e,_,_,_,_,_,rfl,hE,T.ek_Crossing,rfl,T.ki_Crossing_Crossing,_,rfl,hK⟩⟩) (fun _ K' hK=>⟨_,rfl,e,_,1,rfl,rfl,.inr ⟨rfl,hE⟩,_,rfl,hK⟩) ?_;refine lU rfl ?_;refine⟨_,rfl,e,_,dx,_,_,rfl,hE,hF,⟨T.ek_Crossing.c,T.hd_Crossing,T.fn_Crossing_wall⟩,rfl,.int (by omega) (by omega),?_⟩;exact⟨_,rfl,e,_,dx,_,_,rfl,hE,hF,⟨T.ek_Crossing.c,T.hd_Crossing,T.fn_Crossing_other⟩,rfl,.int (by omega) (by omega),nbL rfl,⟨_,sb2,k⟩⟩
theorem fw:FnScope ["_law_shuts","_law_made_here","_law_number","_law_other"] ["_law_shuts","_law_made_here"] (ao gC):=by walk_at "sc"
inductive Cn_law_due(u d:D)(M:MH)(Q:DK):Prop
 |mk (l:Addr) (ws:List Wl) (hh0:u=.ref l) (hh1:M l=some (.lst (ws.map uw))) (hh2:(∀w∈ws,Bw 1000 w)) (hh3:ws.length<=100) (hh4:Q (og ws d) M):Cn_law_due u d M Q
def d9:SpD:=fun ds M Q=>match ds with
 |[u,d]=>Cn_law_due u d M Q
 |_=>False
theorem nH:∀ds M Q,d9 ds M Q->ds.length=2:=fun ds M Q h=>by
 unfold d9 at h;split at h
 ·rfl
 ·exact h.elim
theorem p8(T:Tx K mg):Cal P w K mg base 4 "_law_due" d9:=by
 refine a9 (k:=3) T.f_law_due fw (fun _ _ _ _ _ _ us hl=>by obtain⟨_,_,rfl⟩:=SD.bF hl;rfl) nH fun f cdv A outer s H E hr=>⟨_,(ai (aP (aJ (d6 hr.units) (ax ck rfl T.b_len cx (aa (dv 0) af)) ae) (ak (av (aH (aa cM (aa (ax ck rfl T.b_len cx (aa (dv 0) af)) af))))) aD) (ai (gr PassesOwn.never rfl rfl T.b_range (aa (ax ck rfl T.b_len cx (aa (dv 0) af)) af) (aG 2 fw.nd) (ak (gr PassesOwn.never rfl rfl T.b_range (aa (dv 2) af) (aG 3 fw.nd) (ak (aP (rV (cm (aj (iT T).m hr (aa (aq (dv 0) (dv 2)) (aa (aq (dv 0) (dv 3)) af))))) (ak (av (aH (aa cM (aa (dv 2) (aa (dv 3) af)))))) aD))))) (ak (av (aH (aa cM (aa (dv 1) af))))))),fun ds M Q h=>?r⟩
 case r=>
  unfold d9 at h
  split at h
  case h_2=>exact h.elim
  obtain⟨l,ws,rfl,hl,hW,h100,k⟩:=h
  rename_i d
  refine⟨_,rfl,_,hl,trivial,_,rfl,?_⟩
  unfold og at k
  refine bN (fun h=>?_) (fun h=>?_)
  ·have h:40<ws.length:=by simp at h;omega
   rw[if_pos h]at k;refine⟨_,rfl,_,hl,nbL rfl,rtn ?_⟩;rw[List.length_map];exact k
  have h:¬40<ws.length:=by simp at h;omega
  rw[if_neg h]at k
  dsimp only[SD.bS]
  refine⟨_,rfl,_,hl,ws.length,by rw[List.length_map],by omega,fun i δ M'=>M'=M/\(∃o2 o3,δ=[some (.ref l),some d,o2,o3])/\∀i' W,i'<i->ws[i']?=some W->fcr W (ws.take i')=none,⟨rfl,⟨_,_,rfl⟩,fun i' W h=>by omega⟩,?_,?_⟩
  ·rintro i δ M' hi ⟨rfl,⟨o2,o3,rfl⟩,bef⟩;obtain⟨W,eW⟩:∃W,ws[i]?=some W:=⟨ws[i],List.getElem?_eq_getElem hi⟩;refine⟨_,rfl,i,rfl,by omega,fun j δ M''=>M''=M'/\(∃o3,δ=[some (.ref l),some d,some (.int (i:Int)),o3])/\∀j' U,j'<j->ws[j']?=some U->aO W U=true,⟨rfl,⟨_,rfl⟩,fun j' U h=>by omega⟩,?_,?_⟩
   ·rintro j δ M'' hj ⟨rfl,⟨o3,rfl⟩,kp⟩;obtain⟨U,eU⟩:∃U,ws[j]?=some U:=⟨ws[j],List.getElem?_eq_getElem (by omega)⟩;have e1:atI (ws.map uw) (i:Int)=some (uw W):=ik (by rw[List.getElem?_map,eW];rfl);have e2:atI (ws.map uw) (j:Int)=some (uw U):=ik (by rw[List.getElem?_map,eU];rfl);refine⟨_,rfl,_,rfl,_,_,hl,e1,_,rfl,_,rfl,_,_,hl,e2,W,U,rfl,rfl,hW W (List.mem_of_getElem? eW),hW U (List.mem_of_getElem? eU),_,rfl,?_⟩;cases hf:aO W U with
    |true=>
     refine e9 rfl ⟨rfl,⟨_,rfl⟩,fun j' U' hj' e=>?_⟩
     by_cases z:j'=j
     ·subst z;rw[eU]at e;cases e;exact hf
     ·exact kp j' U' (by omega) e
    |false=>
     refine lU rfl ?_
     have ft:fcr W (ws.take i)=some j:=by refine mQ (U:=U) (by rw[List.getElem?_take_of_lt hj];exact eU) hf fun j' U' hj' e=>kp j' U' hj' ?_;rw[List.getElem?_take_of_lt (by omega)]at e;exact e
     rw[lC eW ft bef]at k
     exact⟨_,rfl,_,rfl,nbL rfl,rtn k⟩
   ·rintro δ M'' ⟨rfl,⟨o3,rfl⟩,kp⟩;refine⟨rfl,⟨_,_,rfl⟩,fun i' W' hi' e=>?_⟩;by_cases z:i'=i
    ·subst z;rw[eW]at e;cases e;refine lW fun j U e=>?_
     have hj:j<i':=by
      have:=(List.getElem?_eq_some_iff.mp e).1
      rw[List.length_take]at this;omega
     rw[List.getElem?_take_of_lt hj]at e;exact kp j U hj e
    ·exact bef i' W' (by omega) e
  ·rintro δ M' ⟨rfl,⟨o2,o3,rfl⟩,bef⟩;rw[mq fun i W e=>bef i W (List.getElem?_eq_some_iff.mp e).1 e]at k;exact⟨_,rfl,nbL rfl,rtn k⟩
theorem eo:FnScope ["_law_script","_law_k","_law_row","_law_scale_here","_law_shuts","_law_turn_here","_law_made_here"] ["_law_script"] (ao sL):=by walk_at "sc"
theorem ins_map(ws:List Wl)(j:Nat)(w:Wl):m6 (ws.map uw) j (uw w)=(ws.take j++w::ws.drop j).map uw:=by unfold m6;simp[List.map_take,List.map_drop]
def w41(j:Nat):Wl:=((j:Int),9,(j:Int),10+(j:Int).fmod 3)
theorem wC{j:Nat}(h:j<=100):Bw 1000 (w41 j):=by have a:0<=(j:Int).fmod 3:=Int.fmod_nonneg_of_pos _ (by decide);have b:(j:Int).fmod 3<3:=Int.fmod_lt_of_pos _ (by decide);exact⟨by unfold Uok w41;dsimp only;omega,by unfold Ow w41;dsimp only;omega⟩
theorem yp{n:Int}{ws:List Wl}{w:Wl}(h:∀u∈ws,Bw n u)(hn:0<=n)(hw:Bw (3*n) w)(j:Nat):∀u∈ws.take j++w::ws.drop j,Bw (3*n) u:=fun u hu=>by
 rcases List.mem_append.mp hu with z|z
 ·exact(h u (List.mem_of_mem_take z)).mono (by omega)
 ·rcases List.mem_cons.mp z with y|y
  ·rw[y];exact hw
  ·exact(h u (List.mem_of_mem_drop y)).mono (by omega)
inductive Cn_law(x:D)(M:MH)(Q:DK):Prop
 |mk (ns:_) (hh0:x=.rol (List.map D.int ns)) (hh1:ns.length<=63) (hh2:∀M',Q (.bl true) M'):Cn_law x M Q
def gH:SpD:=fun ds M Q=>match ds with
 |[x]=>Cn_law x M Q
 |_=>False
theorem xf:∀ds M Q,gH ds M Q->ds.length=1:=fun ds M Q h=>by
 unfold gH at h;split at h
 ·rfl
 ·exact h.elim
theorem yT{P:Program}{w:World}{K:PySem.W.Frag}{mg:Str->Option Value}{fa:Addr}(T:Tx K mg)(hfa:mg "law"=some (.ref fa)):∃fd,(∀(s:Shared) (u:Value),BindsTo s fd ⟨[u],[]⟩ [("_law_script",u)])/\∀base:Heap,FnOk P w K mg base CX0 11 fa fd ["_law_script"] (fK K gH):=by
 refine zy (k:=10) (N:=["_law_script","_law_k","_law_row","_law_scale_here","_law_shuts","_law_turn_here","_law_made_here"]) T.f_law hfa eo (fun _ _ _ _ _ _ us hl=>by obtain⟨_,rfl⟩:=SD.ll hl;rfl) xf fun base f cdv A outer s H E hr=>⟨_,(ai (gr PassesOwn.never rfl rfl T.b_range (aa (ax (kr rfl hr.units) rfl T.b_max nA (aa ae (aa (ax (lb rfl hr.units) rfl T.b_min n9 (aa ae (aa (ax ck rfl T.b_len cx (aa (dv 0) af)) af))) af))) af) (aG 1 eo.nd) (ai (aC 2 eo.nd (fX (aa (aj (jm T).m hr (aa (dv 0) (aa (dv 1) af))) (aa ae af)))) (ai (aC 3 eo.nd (aj (mn T).m hr (aa (dv 2) af))) (ai (aC 4 eo.nd (aj (gB T).m hr (aa (dv 2) (aa ae (aa ae af))))) (ai (gr PassesOwn.never rfl rfl T.b_range (aa (ar aS ae (aj (aw T).m hr (aa (dv 2) (aa ae af)))) af) (aG 5 eo.nd) (ak (kP (lO (dv 4) (aa (aj (aw T).m hr (aa (dv 2) (aa (ar aS (ax ck rfl T.b_len cx (aa (dv 4) af)) ae) af))) (aa (aj (nu T).m hr (aa (dv 2) (aa (dv 4) af))) af)))))) (ai (aP (aJ (cK hr.units) (aj (aw T).m hr (aa (dv 2) (aa ae af))) ae) (ak (aC 4 eo.nd (ar aS (dv 4) (iA (CScope.of (xs:=["_law_k"]) (js:=[]) rfl) rfl (qt rfl T.b_range (aa (ar bP (ar aS ae (aj (aw T).m hr (aa (dv 2) (aa ae af)))) (ax ck rfl T.b_len cx (aa (dv 4) af))) af)) (fun _ _ _ _=>eR) (fun _ _ _ _=>(aH (aa (aH (aa (dv 0) (aa ae af))) (aa (aH (aa (dv 0) (aa (ar aS ae (ar fz (dv 0) ae)) af))) af)))))))) aD) (ai (aC 6 eo.nd (aj (nX T).m hr (aa (dv 3) (aa (dv 4) af)))) (ak (aP (aJ (j8 hr.units) (aj (nZ T).m hr (aa (cI sZ rfl T.b_list ua (aa (dv 6) af)) af)) (aj (p8 T).m hr (aa (dv 4) (aa (dv 6) af)))) (ak (av l5)) aD))))))))) (ak (av (cy (cK hr.units) (aH (aa (eP (nj ((iI T).mono (by decide)) hr (aa ae af))) (aa (eP (nj ((eN T).mono (by decide)) hr (aa cj (aa ae af)))) (aa (eP (nj ((eN T).mono (by decide)) hr (aa cj (aa ae af)))) af)))) (aH (aa ae (aa cj (aa ae af)))))))),fun ds M Q h=>?r⟩
 case r=>
  unfold gH at h
  split at h
  case h_2=>exact h.elim
  obtain⟨ns,rfl,hl,k⟩:=h
  refine⟨_,rfl,(max 1 (min 4 (((List.map D.int ns).length:Nat):Int))).toNat,?_,by omega,fun i δ M=>∃o1 o2 o3 o4 o5 o6,δ=[some (.rol (List.map D.int ns)),o1,o2,o3,o4,o5,o6],⟨_,_,_,_,_,_,rfl⟩,?_,?_⟩
  ·rw[Int.toNat_of_nonneg (by omega)]
  rotate_left
  ·rintro δ M ⟨o1,o2,o3,o4,o5,o6,rfl⟩;refine⟨rfl,by decide,fun d hd=>by rw[List.mem_singleton.mp hd];exact .int (by decide) (by decide),fun a dx ha hd ne=>?_⟩;refine⟨a,_,dx,_,_,rfl,by rw[au ne,ag],ag,⟨T.ek_TooMany.c,T.hd_TooMany,T.fn_TooMany_count⟩,rfl,.int (by decide) (by decide),?_⟩
   refine⟨rfl,by decide,fun d hd=>by rcases List.mem_cons.mp hd with z|z;· rw[z];exact .non
                                     ·rw[List.mem_singleton.mp z];exact .int (by decide) (by decide),fun a dx ha hd ne=>?_⟩
   refine⟨a,_,dx,_,_,rfl,by rw[au ne,ag],ag,⟨T.ek_Crossing.c,T.hd_Crossing,T.fn_Crossing_wall⟩,rfl,.non,?_⟩
   refine⟨rfl,by decide,fun d hd=>by rcases List.mem_cons.mp hd with z|z;· rw[z];exact .non
                                     ·rw[List.mem_singleton.mp z];exact .int (by decide) (by decide),fun a dx ha hd ne=>?_⟩
   refine⟨a,_,dx,_,_,rfl,by rw[au ne,ag],ag,⟨T.ek_Crossing.c,T.hd_Crossing,T.fn_Crossing_other⟩,rfl,.int (by decide) (by decide),?_⟩;refine⟨nbL rfl,nbL rfl,?_⟩;refine⟨_,_,Pd.of rfl,Pd.of rfl,rfl,rfl,?_⟩;rw[show PyData.eqv (.tuple [.int 3,.none,.int 2]) (.tuple [.int 3,.none,.int 2])=true by decide +kernel];exact rtn (k _)
  rintro i δ M hi ⟨o1,o2,o3,o4,o5,o6,rfl⟩
  refine⟨_,rfl,_,rfl,ns,i,rfl,rfl,by omega,fun z=>⟨nbL rfl,fun row hrow=>?_⟩⟩
  refine⟨_,rfl,row,z,0,rfl,ag,by decide,by decide,fun x1 c1 t b sx sy S h1 h2=>?_⟩
  refine⟨_,rfl,row,x1,c1,8,rfl,rfl,by decide,rfl,ag,h1,by omega,fun M2 x2 c2 l ws nrl hr2 hl2 g0 g1 g2 g3=>?_⟩
  (try dsimp only[SD.aR])
  refine d5 (fun δ M'=>∃(x c:Int) (ws:List Wl) (o5:Option D),δ=[some (.rol (List.map D.int ns)),some (.int (i:Int)),some (.ref row),some (scl t b sx sy),some (.ref l),o5,o6]/\M' row=some (.lst [.int x,.int c])/\M' l=some (.lst (ws.map uw))/\0<=c/\c<=5000/\ws.length<=16/\(∀w∈ws,Bw 1000 w)) ?_ (fun hu=>?_)
  rotate_left
  ·refine⟨_,rfl,row,3,x2,c2,rfl,rfl,hr2,g0,by omega,by decide,bO (by decide),fun x3 v3 h30 h31=>?_⟩;refine⟨(1+v3).toNat,?_,by omega,fun j δ M'=>∃(x c:Int) (ws:List Wl) (o5:Option D),δ=[some (.rol (List.map D.int ns)),some (.int (i:Int)),some (.ref row),some (scl t b sx sy),some (.ref l),o5,o6]/\M' row=some (.lst [.int x,.int c])/\M' l=some (.lst (ws.map uw))/\0<=c/\c<=c2+1+20*j/\ws.length<=12+j/\(∀w∈ws,Bw (20*3^j) w),?_,?_,?_⟩
   ·rw[Int.toNat_of_nonneg (by omega)]
   ·exact⟨x3,c2+1,ws,_,rfl,ag,by rw[au nrl.symm];exact hl2,by omega,by omega,by omega,fun w hw=>nO (g3 w hw)⟩
   ·rintro j δ M' hj ⟨x,c,us,o5,rfl,hr,hl,d0,d1,d2,d3⟩;have j3:j<3:=by omega
    refine⟨_,rfl,l,_,rfl,hl,_,rfl,_,rfl,_,hl,row,((us.map uw).length:Int)+1,x,c,rfl,rfl,hr,d0,by omega,by omega,bO (by simp;omega),fun x4 v4 h40 h41=>?_⟩;have n3:(20:Int)<=20*3^j/\20*3^j<=(300:Int):=by rcases(show j=0\/j=1\/j=2 by omega)with rfl|rfl|rfl<;>decide
    refine⟨_,rfl,_,rfl,row,l,x4,c+1,20*3^j,us,rfl,rfl,nrl,ag,by rw[au nrl.symm];exact hl,by omega,by omega,n3.1,n3.2,by omega,d3,fun M5 x5 c5 w hr5 hl5 e0 e1 bw=>?_⟩;rw[List.length_map]at h41;refine⟨us.map uw,uw w,v4.toNat,by rw[Int.toNat_of_nonneg h40],hl5,by simp;omega,by simp;omega,?_⟩;refine⟨x5,c5,us.take v4.toNat++w::us.drop v4.toNat,_,rfl,by rw[au nrl];exact hr5,by rw[ag,ins_map],e0,by omega,by simp;omega,fun u hq=>?_⟩;have:=yp d3 (by omega) bw v4.toNat u hq;rw[show(20:Int)*3^(j+1)=3*(20*3^j) by rw[Int.pow_succ];grind];exact this
   ·rintro δ M' ⟨x,c,us,o5,rfl,hr,hl,d0,d1,d2,d3⟩;refine hu _ _ ⟨x,c,us,_,rfl,hr,hl,d0,by omega,by omega,fun w hw=>(d3 w hw).mono ?_⟩;rcases(show(1+v3).toNat=1\/(1+v3).toNat=2\/(1+v3).toNat=3 by omega)with e|e|e<;>rw[e]<;>decide
  clear hl2 hr2 g0 g1 g2 g3
  rintro δ M3 ⟨x3,c3,ws,o5,rfl,hr3,hl3,d0,d1,d2,d3⟩
  refine d5 (fun δ M'=>∃(l':Addr) (ws:List Wl),δ=[some (.rol (List.map D.int ns)),some (.int (i:Int)),some (.ref row),some (scl t b sx sy),some (.ref l'),o5,o6]/\M' l'=some (.lst (ws.map uw))/\ws.length<=100/\(∀w∈ws,Bw 1000 w)) ?_ (fun hu=>?_)
  rotate_left
  ·refine⟨_,rfl,row,8,x3,c3,rfl,rfl,hr3,d0,by omega,by decide,bO (by decide),fun x4 v4 h40 h41=>⟨_,rfl,?_⟩⟩;have hl4:(ay M3 row (.lst [.int x4,.int (c3+1)])) l=some (.lst (ws.map uw)):=by rw[au nrl.symm];exact hl3
   have hr4:(ay M3 row (.lst [.int x4,.int (c3+1)])) row=some (.lst [.int x4,.int (c3+1)]):=ag;generalize ay M3 row (.lst [.int x4,.int (c3+1)])=M4 at hl4 hr4 ⊢;refine bN (fun _=>?_) (fun _=>hu _ _ ⟨l,ws,rfl,hl4,by omega,d3⟩);refine⟨_,rfl,_,rfl,row,5,x4,c3+1,rfl,rfl,hr4,by omega,by omega,by decide,bO (by decide),fun x5 v5 h50 h51=>?_⟩;have hl5:(ay M4 row (.lst [.int x5,.int (c3+1+1)])) l=some (.lst (ws.map uw)):=by rw[au nrl.symm];exact hl4
   generalize ay M4 row (.lst [.int x5,.int (c3+1+1)])=M5 at hl5 ⊢;refine⟨_,rfl,_,hl5,trivial,?_⟩;refine⟨(41+v5-((ws.map uw).length:Int)).toNat,?_,by simp;omega,comp_map (fun j=>uw (w41 j)) (by simp;omega) (fun _ _ _=>trivial) ?_ (fun p hp=>?_)⟩
   ·rw[List.length_map,Int.toNat_of_nonneg (by omega)]
   ·intro j e' M6 hj he' _;cases he';exact⟨_,rfl,fun K hK=>⟨_,rfl,nbL rfl,_,rfl,_,rfl,(show(3:Int)≠0 by decide),nbL rfl,nbL rfl,hK _ .refl⟩⟩
   ·have nlp:l≠p:=aN hl5 hp;have h1k:1000<=sizeLine:=nbL rfl;refine⟨_,_,by rw[au nlp];exact hl5,ag,by simp;omega,fun p2 hp2=>?_⟩;refine hu _ _ ⟨p2,ws++(List.range (41+v5-((ws.map uw).length:Int)).toNat).map w41,rfl,?_,by simp;omega,fun w hw=>?_⟩
    ·rw[ag,List.map_append,List.map_map];rfl
    ·rcases List.mem_append.mp hw with y|y
     ·exact d3 w y
     ·obtain⟨j,hj,rfl⟩:=List.mem_map.mp y;rw[List.mem_range,List.length_map]at hj;exact wC (by omega)
  clear hl3 hr3 d0 d1 d2 d3
  rintro δ M4 ⟨l',ws,rfl,hl4,h100,hW⟩
  refine⟨_,rfl,_,rfl,t,b,sx,sy,l',ws,rfl,rfl,hl4,S,by omega,fun w hw=>?_,?_⟩
  ·have:=(hW w hw).u;unfold Uok at *;omega
  refine⟨_,rfl,fun p hp=>?_⟩
  have nlp:l'≠p:=aN hl4 hp
  have hl5:(ay M4 p (.lst (ws.map (rwl t b sx sy)))) l'=some (.lst (ws.map uw)):=by rw[au nlp];exact hl4
  refine⟨p,t,b,sx,sy,ws,rfl,ag,S,hW,by omega,?_⟩
  refine⟨_,rfl,_,rfl,l',ws,rfl,hl5,hW,by omega,?_⟩
  refine vC ws ws _ _ ⟨_,rfl,e9 rfl ⟨_,_,_,_,_,_,rfl⟩⟩
theorem xh(ns:List Int)(M:MH)(h:ns.length<=63):gH [.rol (ns.map D.int)] M (fun d _=>d=.bl true):=⟨ns,rfl,h,fun _=>rfl⟩
def kE(P:Params)(n:String)(k:Nat)(v:Value):DictEntry:={ hash:=PyData.keyHash P (Str.ofString n),key:=.str (Str.ofString n) k,val:=v }
def kF(i:Nat)(n m:String)(k c:Nat):Obj:={ cls:=.type "function",data:=.func { name:=Str.ofString n,qualname:=Str.ofString n,params:=bD (top i),body:=.stmts (aV (top i)),scope:=ao (top i),globals:=nat_lit 3,closure:=[],defaults:=.none,kwdefaults:=.none,pyModule:=.str (Str.ofString m) k,code:=.ref c } }
def kD0(P:Params):List DictEntry:=[kE P "__name__" (nat_lit 165) (.str (Str.ofString "law_spotlook_k09_no_plots") 575),kE P "__doc__" (nat_lit 166) (.none),kE P "__package__" (nat_lit 167) (.none),kE P "__loader__" (nat_lit 168) (.builtin "__main__.__loader__#opaque"),kE P "__spec__" (nat_lit 169) (.none),kE P "__annotations__" (nat_lit 170) (.ref (nat_lit 6)),kE P "__builtins__" (nat_lit 171) (.ref (nat_lit 4)),kE P "__file__" (nat_lit 173) (.str (Str.ofString "/claim/cut.py") 172)]
def kD1(P:Params):List DictEntry:=[kE P "__cached__" (nat_lit 174) (.none),kE P "SpotError" (nat_lit 206) (.ref (nat_lit 24)),kE P "NoFraction" (nat_lit 222) (.ref (nat_lit 37)),kE P "NoWall" (nat_lit 238) (.ref (nat_lit 49)),kE P "TooMany" (nat_lit 263) (.ref (nat_lit 68)),kE P "Crossing" (nat_lit 290) (.ref (nat_lit 87)),kE P "Absent" (nat_lit 315) (.ref (nat_lit 106)),kE P "NoText" (nat_lit 340) (.ref (nat_lit 125))]
def kD2(P:Params):List DictEntry:=[kE P "NoRow" (nat_lit 356) (.ref (nat_lit 137)),kE P "greatest_divisor" (nat_lit 366) (.ref (nat_lit 146)),kE P "fraction" (nat_lit 375) (.ref (nat_lit 153)),kE P "plus" (nat_lit 383) (.ref (nat_lit 160)),kE P "less" (nat_lit 391) (.ref (nat_lit 167)),kE P "times" (nat_lit 399) (.ref (nat_lit 174)),kE P "over" (nat_lit 407) (.ref (nat_lit 181)),kE P "is_less" (nat_lit 415) (.ref (nat_lit 188))]
def kD3(P:Params):List DictEntry:=[kE P "is_ahead" (nat_lit 425) (.ref (nat_lit 195)),kE P "later_of" (nat_lit 433) (.ref (nat_lit 202)),kE P "earlier_of" (nat_lit 441) (.ref (nat_lit 209)),kE P "own_spot" (nat_lit 450) (.ref (nat_lit 216)),kE P "own_wall" (nat_lit 457) (.ref (nat_lit 223)),kE P "gap" (nat_lit 465) (.ref (nat_lit 230)),kE P "lean" (nat_lit 483) (.ref (nat_lit 237)),kE P "side_of" (nat_lit 492) (.ref (nat_lit 244))]
def kD4(P:Params):List DictEntry:=[kE P "MOST_WALLS" (nat_lit 496) (.int 40 495),kE P "meeting" (nat_lit 506) (.ref (nat_lit 251)),kE P "meeting_in_line" (nat_lit 516) (.ref (nat_lit 258)),kE P "crossing_spot" (nat_lit 530) (.ref (nat_lit 265)),kE P "number_between" (nat_lit 539) (.ref (nat_lit 272)),kE P "meet_as_in_plots" (nat_lit 548) (.ref (nat_lit 279)),kE P "first_crossed" (nat_lit 558) (.ref (nat_lit 286)),kE P "plot_of" (nat_lit 568) (.ref (nat_lit 293))]
def kD5(P:Params):List DictEntry:=[kE P "own_plot" (nat_lit 574) (.ref (nat_lit 298)),kE P "_law_cell_at" (nat_lit 584) (.ref (nat_lit 305)),kE P "_law_take" (nat_lit 594) (.ref (nat_lit 312)),kE P "_law_low" (nat_lit 604) (.ref (nat_lit 319)),kE P "_law_scale" (nat_lit 614) (.ref (nat_lit 326)),kE P "_law_spot" (nat_lit 626) (.ref (nat_lit 333)),kE P "_law_made" (nat_lit 632) (.ref (nat_lit 338)),kE P "_law_turn" (nat_lit 644) (.ref (nat_lit 345))]
def kD6(P:Params):List DictEntry:=[kE P "_law_on" (nat_lit 652) (.ref (nat_lit 352)),kE P "_law_fair" (nat_lit 658) (.ref (nat_lit 357)),kE P "_law_shuts_here" (nat_lit 664) (.ref (nat_lit 362)),kE P "_law_alone" (nat_lit 673) (.ref (nat_lit 369)),kE P "_law_told" (nat_lit 683) (.ref (nat_lit 376)),kE P "_law_more" (nat_lit 695) (.ref (nat_lit 383)),kE P "_law_due" (nat_lit 705) (.ref (nat_lit 390)),kE P "law" (nat_lit 711) (.ref (nat_lit 395))]
def kG(P:Params):Obj:={ cls:=.type "dict",data:=.dict (List.toArray (kD0 P++(kD1 P++(kD2 P++(kD3 P++(kD4 P++(kD5 P++(kD6 P)))))))) 56 }
def kCo(n:String)(a0:Nat)(a1:Nat)(a2:Nat)(a3:Nat)(a4:Nat)(a8:Nat)(a11:Nat)(a13:Nat)(a14:Nat)(a15:Nat)(a16:Nat)(a17:Nat)(a18:Nat):Obj:={ cls:=.type "code",data:=.fields #[.str (Str.ofString n) a0,.str (Str.ofString n) a1,.str (Str.ofString "/claim/cut.py") a2,.int (Int.ofNat a3) 0,.int (Int.ofNat a4) 0,.int 0 0,.int 0 0,.int 3 0,.ref a8,.bool true,.int 181 0,.ref a11,.none,.ref a13,.ref a14,.ref a15,.int (Int.ofNat a16) 0,.int (Int.ofNat a17) 0,.str (Str.ofString "/claim/cut.py") a18] }
def kM(i j:Nat)(n q m:String)(k c:Nat):Obj:={ cls:=.type "function",data:=.func { name:=Str.ofString n,qualname:=Str.ofString q,params:=bD (SD.lT (top i) j),body:=.stmts (aV (SD.lT (top i) j)),scope:=ao (SD.lT (top i) j),globals:=nat_lit 3,closure:=[],defaults:=.none,kwdefaults:=.none,pyModule:=.str (Str.ofString m) k,code:=.ref c } }
def zB(P:Params):Obj:={ cls:=.type "dict",data:=.dict (List.toArray [kE P "__module__" (nat_lit 196) (.str (Str.ofString "spotlook.errors") 187),kE P "__firstlineno__" (nat_lit 200) (.int 2 199),kE P "__static_attributes__" (nat_lit 201) (.ref (nat_lit 22)),kE P "__weakref__" (nat_lit 203) (.ref (nat_lit 25)),kE P "__doc__" (nat_lit 204) (.none)]) 3 }
def zD(P:Params):Obj:={ cls:=.type "dict",data:=.dict (List.toArray [kE P "__module__" (nat_lit 214) (.str (Str.ofString "spotlook.errors") 187),kE P "__firstlineno__" (nat_lit 218) (.int 4 217),kE P "__static_attributes__" (nat_lit 219) (.ref (nat_lit 35)),kE P "__doc__" (nat_lit 220) (.none)]) 2 }
def zr(P:Params):Obj:={ cls:=.type "dict",data:=.dict (List.toArray [kE P "__module__" (nat_lit 230) (.str (Str.ofString "spotlook.errors") 187),kE P "__firstlineno__" (nat_lit 234) (.int 6 233),kE P "__static_attributes__" (nat_lit 235) (.ref (nat_lit 47)),kE P "__doc__" (nat_lit 236) (.none)]) 2 }
def zF(P:Params):Obj:={ cls:=.type "dict",data:=.dict (List.toArray [kE P "__module__" (nat_lit 246) (.str (Str.ofString "spotlook.errors") 187),kE P "__firstlineno__" (nat_lit 250) (.int 8 249),kE P "__init__" (nat_lit 258) (.ref (nat_lit 65)),kE P "__static_attributes__" (nat_lit 260) (.ref (nat_lit 66)),kE P "__doc__" (nat_lit 261) (.none)]) 2 }
def zx(P:Params):Obj:={ cls:=.type "dict",data:=.dict (List.toArray [kE P "__module__" (nat_lit 271) (.str (Str.ofString "spotlook.errors") 187),kE P "__firstlineno__" (nat_lit 275) (.int 13 274),kE P "__init__" (nat_lit 284) (.ref (nat_lit 84)),kE P "__static_attributes__" (nat_lit 287) (.ref (nat_lit 85)),kE P "__doc__" (nat_lit 288) (.none)]) 2 }
def yY(P:Params):Obj:={ cls:=.type "dict",data:=.dict (List.toArray [kE P "__module__" (nat_lit 298) (.str (Str.ofString "spotlook.errors") 187),kE P "__firstlineno__" (nat_lit 302) (.int 19 301),kE P "__init__" (nat_lit 310) (.ref (nat_lit 103)),kE P "__static_attributes__" (nat_lit 312) (.ref (nat_lit 104)),kE P "__doc__" (nat_lit 313) (.none)]) 2 }
def xS(P:Params):Obj:={ cls:=.type "dict",data:=.dict (List.toArray [kE P "__module__" (nat_lit 323) (.str (Str.ofString "spotlook.errors") 187),kE P "__firstlineno__" (nat_lit 327) (.int 24 326),kE P "__init__" (nat_lit 335) (.ref (nat_lit 122)),kE P "__static_attributes__" (nat_lit 337) (.ref (nat_lit 123)),kE P "__doc__" (nat_lit 338) (.none)]) 2 }
def yH(P:Params):Obj:={ cls:=.type "dict",data:=.dict (List.toArray [kE P "__module__" (nat_lit 348) (.str (Str.ofString "spotlook.errors") 187),kE P "__firstlineno__" (nat_lit 352) (.int 29 351),kE P "__static_attributes__" (nat_lit 353) (.ref (nat_lit 135)),kE P "__doc__" (nat_lit 354) (.none)]) 2 }
def kN(l:List Obj)(i:Nat):Obj:=l.getD i { cls:=.none,data:=.dict #[] }
def kL0:List Obj:=[{ cls:=.none,data:=.dict #[] 0 },{ cls:=.type "type",data:=.cls { name:=(Str.ofString "SpotError"),bases:=[(.type "ValueError")],mro:=[(.ref (nat_lit 24)),(.type "ValueError"),(.type "Exception"),(.type "BaseException"),(.type "object")],ns:=23,qualname:=(Str.ofString "SpotError"),hasDict:=true,slotNames:=[],subclasses:=[(.ref (nat_lit 37)),(.ref (nat_lit 49)),(.ref (nat_lit 68)),(.ref (nat_lit 87)),(.ref (nat_lit 106)),(.ref (nat_lit 125)),(.ref (nat_lit 137))],abstract:=false,collection:=none,hasDel:=false },slots:=#[(some (.ref (nat_lit 15))),none,(some (.str (Str.ofString "SpotError") 189)),(some (.str (Str.ofString "SpotError") 197)),(some (.builtin "ValueError.__new__")),(some (.bool true))] },{ cls:=.type "type",data:=.cls { name:=(Str.ofString "NoFraction"),bases:=[(.ref (nat_lit 24))],mro:=[(.ref (nat_lit 37)),(.ref (nat_lit 24)),(.type "ValueError"),(.type "Exception"),(.type "BaseException"),(.type "object")],ns:=36,qualname:=(Str.ofString "NoFraction"),hasDict:=true,slotNames:=[],subclasses:=[],abstract:=false,collection:=none,hasDel:=false },slots:=#[(some (.ref (nat_lit 28))),none,(some (.str (Str.ofString "NoFraction") 207)),(some (.str (Str.ofString "NoFraction") 215)),(some (.builtin "ValueError.__new__")),(some (.bool true))] },{ cls:=.type "type",data:=.cls { name:=(Str.ofString "NoWall"),bases:=[(.ref (nat_lit 24))],mro:=[(.ref (nat_lit 49)),(.ref (nat_lit 24)),(.type "ValueError"),(.type "Exception"),(.type "BaseException"),(.type "object")],ns:=48,qualname:=(Str.ofString "NoWall"),hasDict:=true,slotNames:=[],subclasses:=[],abstract:=false,collection:=none,hasDel:=false },slots:=#[(some (.ref (nat_lit 40))),none,(some (.str (Str.ofString "NoWall") 223)),(some (.str (Str.ofString "NoWall") 231)),(some (.builtin "ValueError.__new__")),(some (.bool true))] },{ cls:=.type "code",data:=.fields #[(.str (Str.ofString "__init__") 251),(.str (Str.ofString "TooMany.__init__") 252),(.str (Str.ofString "/claim/cut.py") 253),(.int 10 0),(.int 2 0),(.int 0 0),(.int 0 0),(.int 3 0),(.ref 59),(.bool true),(.int 181 0),(.ref 60),.none,(.ref 61),(.ref 62),(.ref 63),(.int 256 0),(.int 10 0),(.str (Str.ofString "/claim/cut.py") 257)] },kM (nat_lit 4) (nat_lit 0) "__init__" "TooMany.__init__" "spotlook.errors" (nat_lit 187) (nat_lit 64),{ cls:=.type "type",data:=.cls { name:=(Str.ofString "TooMany"),bases:=[(.ref (nat_lit 24))],mro:=[(.ref (nat_lit 68)),(.ref (nat_lit 24)),(.type "ValueError"),(.type "Exception"),(.type "BaseException"),(.type "object")],ns:=67,qualname:=(Str.ofString "TooMany"),hasDict:=true,slotNames:=[],subclasses:=[],abstract:=false,collection:=none,hasDel:=false },slots:=#[(some (.ref (nat_lit 52))),none,(some (.str (Str.ofString "TooMany") 239)),(some (.str (Str.ofString "TooMany") 247)),(some (.builtin "ValueError.__new__")),(some (.bool true))] },{ cls:=.type "code",data:=.fields #[(.str (Str.ofString "__init__") 276),(.str (Str.ofString "Crossing.__init__") 277),(.str (Str.ofString "/claim/cut.py") 278),(.int 15 0),(.int 3 0),(.int 0 0),(.int 0 0),(.int 3 0),(.ref 78),(.bool true),(.int 181 0),(.ref 79),.none,(.ref 80),(.ref 81),(.ref 82),(.int 282 0),(.int 15 0),(.str (Str.ofString "/claim/cut.py") 283)] }]
def kL1:List Obj:=[kM (nat_lit 5) (nat_lit 0) "__init__" "Crossing.__init__" "spotlook.errors" (nat_lit 187) (nat_lit 83),{ cls:=.type "type",data:=.cls { name:=(Str.ofString "Crossing"),bases:=[(.ref (nat_lit 24))],mro:=[(.ref (nat_lit 87)),(.ref (nat_lit 24)),(.type "ValueError"),(.type "Exception"),(.type "BaseException"),(.type "object")],ns:=86,qualname:=(Str.ofString "Crossing"),hasDict:=true,slotNames:=[],subclasses:=[],abstract:=false,collection:=none,hasDel:=false },slots:=#[(some (.ref (nat_lit 71))),none,(some (.str (Str.ofString "Crossing") 264)),(some (.str (Str.ofString "Crossing") 272)),(some (.builtin "ValueError.__new__")),(some (.bool true))] },{ cls:=.type "code",data:=.fields #[(.str (Str.ofString "__init__") 303),(.str (Str.ofString "Absent.__init__") 304),(.str (Str.ofString "/claim/cut.py") 305),(.int 21 0),(.int 2 0),(.int 0 0),(.int 0 0),(.int 3 0),(.ref 97),(.bool true),(.int 181 0),(.ref 98),.none,(.ref 99),(.ref 100),(.ref 101),(.int 308 0),(.int 21 0),(.str (Str.ofString "/claim/cut.py") 309)] },kM (nat_lit 6) (nat_lit 0) "__init__" "Absent.__init__" "spotlook.errors" (nat_lit 187) (nat_lit 102),{ cls:=.type "type",data:=.cls { name:=(Str.ofString "Absent"),bases:=[(.ref (nat_lit 24))],mro:=[(.ref (nat_lit 106)),(.ref (nat_lit 24)),(.type "ValueError"),(.type "Exception"),(.type "BaseException"),(.type "object")],ns:=105,qualname:=(Str.ofString "Absent"),hasDict:=true,slotNames:=[],subclasses:=[],abstract:=false,collection:=none,hasDel:=false },slots:=#[(some (.ref (nat_lit 90))),none,(some (.str (Str.ofString "Absent") 291)),(some (.str (Str.ofString "Absent") 299)),(some (.builtin "ValueError.__new__")),(some (.bool true))] },{ cls:=.type "code",data:=.fields #[(.str (Str.ofString "__init__") 328),(.str (Str.ofString "NoText.__init__") 329),(.str (Str.ofString "/claim/cut.py") 330),(.int 26 0),(.int 2 0),(.int 0 0),(.int 0 0),(.int 3 0),(.ref 116),(.bool true),(.int 181 0),(.ref 117),.none,(.ref 118),(.ref 119),(.ref 120),(.int 333 0),(.int 26 0),(.str (Str.ofString "/claim/cut.py") 334)] },kM (nat_lit 7) (nat_lit 0) "__init__" "NoText.__init__" "spotlook.errors" (nat_lit 187) (nat_lit 121),{ cls:=.type "type",data:=.cls { name:=(Str.ofString "NoText"),bases:=[(.ref (nat_lit 24))],mro:=[(.ref (nat_lit 125)),(.ref (nat_lit 24)),(.type "ValueError"),(.type "Exception"),(.type "BaseException"),(.type "object")],ns:=124,qualname:=(Str.ofString "NoText"),hasDict:=true,slotNames:=[],subclasses:=[],abstract:=false,collection:=none,hasDel:=false },slots:=#[(some (.ref (nat_lit 109))),none,(some (.str (Str.ofString "NoText") 316)),(some (.str (Str.ofString "NoText") 324)),(some (.builtin "ValueError.__new__")),(some (.bool true))] }]
def kL2:List Obj:=[{ cls:=.type "type",data:=.cls { name:=(Str.ofString "NoRow"),bases:=[(.ref (nat_lit 24))],mro:=[(.ref (nat_lit 137)),(.ref (nat_lit 24)),(.type "ValueError"),(.type "Exception"),(.type "BaseException"),(.type "object")],ns:=136,qualname:=(Str.ofString "NoRow"),hasDict:=true,slotNames:=[],subclasses:=[],abstract:=false,collection:=none,hasDel:=false },slots:=#[(some (.ref (nat_lit 128))),none,(some (.str (Str.ofString "NoRow") 341)),(some (.str (Str.ofString "NoRow") 349)),(some (.builtin "ValueError.__new__")),(some (.bool true))] },kCo "greatest_divisor" (nat_lit 359) (nat_lit 360) (nat_lit 361) (nat_lit 32) (nat_lit 2) (nat_lit 140) (nat_lit 141) (nat_lit 142) (nat_lit 143) (nat_lit 144) (nat_lit 364) (nat_lit 32) (nat_lit 365),kF (nat_lit 10) "greatest_divisor" "spotlook.fractions" (nat_lit 357) (nat_lit 145),kCo "fraction" (nat_lit 367) (nat_lit 368) (nat_lit 369) (nat_lit 36) (nat_lit 2) (nat_lit 147) (nat_lit 148) (nat_lit 149) (nat_lit 150) (nat_lit 151) (nat_lit 373) (nat_lit 36) (nat_lit 374),kF (nat_lit 11) "fraction" "spotlook.fractions" (nat_lit 357) (nat_lit 152),kCo "plus" (nat_lit 376) (nat_lit 377) (nat_lit 378) (nat_lit 43) (nat_lit 2) (nat_lit 154) (nat_lit 155) (nat_lit 156) (nat_lit 157) (nat_lit 158) (nat_lit 381) (nat_lit 43) (nat_lit 382),kF (nat_lit 12) "plus" "spotlook.fractions" (nat_lit 357) (nat_lit 159),kCo "less" (nat_lit 384) (nat_lit 385) (nat_lit 386) (nat_lit 45) (nat_lit 2) (nat_lit 161) (nat_lit 162) (nat_lit 163) (nat_lit 164) (nat_lit 165) (nat_lit 389) (nat_lit 45) (nat_lit 390)]
def kL3:List Obj:=[kF (nat_lit 13) "less" "spotlook.fractions" (nat_lit 357) (nat_lit 166),kCo "times" (nat_lit 392) (nat_lit 393) (nat_lit 394) (nat_lit 47) (nat_lit 2) (nat_lit 168) (nat_lit 169) (nat_lit 170) (nat_lit 171) (nat_lit 172) (nat_lit 397) (nat_lit 47) (nat_lit 398),kF (nat_lit 14) "times" "spotlook.fractions" (nat_lit 357) (nat_lit 173),kCo "over" (nat_lit 400) (nat_lit 401) (nat_lit 402) (nat_lit 49) (nat_lit 2) (nat_lit 175) (nat_lit 176) (nat_lit 177) (nat_lit 178) (nat_lit 179) (nat_lit 405) (nat_lit 49) (nat_lit 406),kF (nat_lit 15) "over" "spotlook.fractions" (nat_lit 357) (nat_lit 180),kCo "is_less" (nat_lit 408) (nat_lit 409) (nat_lit 410) (nat_lit 51) (nat_lit 2) (nat_lit 182) (nat_lit 183) (nat_lit 184) (nat_lit 185) (nat_lit 186) (nat_lit 413) (nat_lit 51) (nat_lit 414),kF (nat_lit 16) "is_less" "spotlook.fractions" (nat_lit 357) (nat_lit 187),kCo "is_ahead" (nat_lit 418) (nat_lit 419) (nat_lit 420) (nat_lit 54) (nat_lit 2) (nat_lit 189) (nat_lit 190) (nat_lit 191) (nat_lit 192) (nat_lit 193) (nat_lit 423) (nat_lit 54) (nat_lit 424)]
def kL4:List Obj:=[kF (nat_lit 18) "is_ahead" "spotlook.spots" (nat_lit 416) (nat_lit 194),kCo "later_of" (nat_lit 426) (nat_lit 427) (nat_lit 428) (nat_lit 58) (nat_lit 2) (nat_lit 196) (nat_lit 197) (nat_lit 198) (nat_lit 199) (nat_lit 200) (nat_lit 431) (nat_lit 58) (nat_lit 432),kF (nat_lit 19) "later_of" "spotlook.spots" (nat_lit 416) (nat_lit 201),kCo "earlier_of" (nat_lit 434) (nat_lit 435) (nat_lit 436) (nat_lit 60) (nat_lit 2) (nat_lit 203) (nat_lit 204) (nat_lit 205) (nat_lit 206) (nat_lit 207) (nat_lit 439) (nat_lit 60) (nat_lit 440),kF (nat_lit 20) "earlier_of" "spotlook.spots" (nat_lit 416) (nat_lit 208),kCo "own_spot" (nat_lit 442) (nat_lit 443) (nat_lit 444) (nat_lit 62) (nat_lit 1) (nat_lit 210) (nat_lit 211) (nat_lit 212) (nat_lit 213) (nat_lit 214) (nat_lit 448) (nat_lit 62) (nat_lit 449),kF (nat_lit 21) "own_spot" "spotlook.spots" (nat_lit 416) (nat_lit 215),kCo "own_wall" (nat_lit 451) (nat_lit 452) (nat_lit 453) (nat_lit 65) (nat_lit 1) (nat_lit 217) (nat_lit 218) (nat_lit 219) (nat_lit 220) (nat_lit 221) (nat_lit 455) (nat_lit 65) (nat_lit 456)]
def kL5:List Obj:=[kF (nat_lit 22) "own_wall" "spotlook.spots" (nat_lit 416) (nat_lit 222),kCo "gap" (nat_lit 458) (nat_lit 459) (nat_lit 460) (nat_lit 67) (nat_lit 2) (nat_lit 224) (nat_lit 225) (nat_lit 226) (nat_lit 227) (nat_lit 228) (nat_lit 463) (nat_lit 67) (nat_lit 464),kF (nat_lit 23) "gap" "spotlook.spots" (nat_lit 416) (nat_lit 229),kCo "lean" (nat_lit 466) (nat_lit 467) (nat_lit 468) (nat_lit 69) (nat_lit 2) (nat_lit 231) (nat_lit 232) (nat_lit 233) (nat_lit 234) (nat_lit 235) (nat_lit 481) (nat_lit 69) (nat_lit 482),kF (nat_lit 24) "lean" "spotlook.spots" (nat_lit 416) (nat_lit 236),kCo "side_of" (nat_lit 484) (nat_lit 485) (nat_lit 486) (nat_lit 75) (nat_lit 2) (nat_lit 238) (nat_lit 239) (nat_lit 240) (nat_lit 241) (nat_lit 242) (nat_lit 490) (nat_lit 75) (nat_lit 491),kF (nat_lit 25) "side_of" "spotlook.spots" (nat_lit 416) (nat_lit 243),kCo "meeting" (nat_lit 497) (nat_lit 498) (nat_lit 499) (nat_lit 84) (nat_lit 2) (nat_lit 245) (nat_lit 246) (nat_lit 247) (nat_lit 248) (nat_lit 249) (nat_lit 504) (nat_lit 84) (nat_lit 505)]
def kL6:List Obj:=[kF (nat_lit 28) "meeting" "spotlook.plots" (nat_lit 493) (nat_lit 250),kCo "meeting_in_line" (nat_lit 507) (nat_lit 508) (nat_lit 509) (nat_lit 91) (nat_lit 2) (nat_lit 252) (nat_lit 253) (nat_lit 254) (nat_lit 255) (nat_lit 256) (nat_lit 514) (nat_lit 91) (nat_lit 515),kF (nat_lit 29) "meeting_in_line" "spotlook.plots" (nat_lit 493) (nat_lit 257),kCo "crossing_spot" (nat_lit 517) (nat_lit 518) (nat_lit 519) (nat_lit 99) (nat_lit 2) (nat_lit 259) (nat_lit 260) (nat_lit 261) (nat_lit 262) (nat_lit 263) (nat_lit 528) (nat_lit 99) (nat_lit 529),kF (nat_lit 30) "crossing_spot" "spotlook.plots" (nat_lit 493) (nat_lit 264),kCo "number_between" (nat_lit 531) (nat_lit 532) (nat_lit 533) (nat_lit 106) (nat_lit 3) (nat_lit 266) (nat_lit 267) (nat_lit 268) (nat_lit 269) (nat_lit 270) (nat_lit 537) (nat_lit 106) (nat_lit 538),kF (nat_lit 31) "number_between" "spotlook.plots" (nat_lit 493) (nat_lit 271),kCo "meet_as_in_plots" (nat_lit 540) (nat_lit 541) (nat_lit 542) (nat_lit 108) (nat_lit 2) (nat_lit 273) (nat_lit 274) (nat_lit 275) (nat_lit 276) (nat_lit 277) (nat_lit 546) (nat_lit 108) (nat_lit 547)]
def kL7:List Obj:=[kF (nat_lit 32) "meet_as_in_plots" "spotlook.plots" (nat_lit 493) (nat_lit 278),kCo "first_crossed" (nat_lit 549) (nat_lit 550) (nat_lit 551) (nat_lit 113) (nat_lit 2) (nat_lit 280) (nat_lit 281) (nat_lit 282) (nat_lit 283) (nat_lit 284) (nat_lit 556) (nat_lit 113) (nat_lit 557),kF (nat_lit 33) "first_crossed" "spotlook.plots" (nat_lit 493) (nat_lit 285),kCo "plot_of" (nat_lit 559) (nat_lit 560) (nat_lit 561) (nat_lit 118) (nat_lit 1) (nat_lit 287) (nat_lit 288) (nat_lit 289) (nat_lit 290) (nat_lit 291) (nat_lit 566) (nat_lit 118) (nat_lit 567),kF (nat_lit 34) "plot_of" "spotlook.plots" (nat_lit 493) (nat_lit 292),{ cls:=.type "code",data:=.fields #[(.str (Str.ofString "own_plot") 569),(.str (Str.ofString "own_plot") 570),(.str (Str.ofString "/claim/cut.py") 571),(.int 126 0),(.int 1 0),(.int 0 0),(.int 0 0),(.int 3 0),(.ref 294),(.bool true),(.int 181 0),(.ref 295),.none,.none,.none,(.ref 296),(.int 572 0),(.int 126 0),(.str (Str.ofString "/claim/cut.py") 573)] },kF (nat_lit 35) "own_plot" "spotlook.plots" (nat_lit 493) (nat_lit 297),kCo "_law_cell_at" (nat_lit 577) (nat_lit 578) (nat_lit 579) (nat_lit 129) (nat_lit 2) (nat_lit 299) (nat_lit 300) (nat_lit 301) (nat_lit 302) (nat_lit 303) (nat_lit 582) (nat_lit 129) (nat_lit 583)]
def kL8:List Obj:=[kF (nat_lit 37) "_law_cell_at" "law_spotlook_k09_no_plots" (nat_lit 575) (nat_lit 304),kCo "_law_take" (nat_lit 585) (nat_lit 586) (nat_lit 587) (nat_lit 133) (nat_lit 2) (nat_lit 306) (nat_lit 307) (nat_lit 308) (nat_lit 309) (nat_lit 310) (nat_lit 592) (nat_lit 133) (nat_lit 593),kF (nat_lit 38) "_law_take" "law_spotlook_k09_no_plots" (nat_lit 575) (nat_lit 311),kCo "_law_low" (nat_lit 595) (nat_lit 596) (nat_lit 597) (nat_lit 142) (nat_lit 2) (nat_lit 313) (nat_lit 314) (nat_lit 315) (nat_lit 316) (nat_lit 317) (nat_lit 602) (nat_lit 142) (nat_lit 603),kF (nat_lit 39) "_law_low" "law_spotlook_k09_no_plots" (nat_lit 575) (nat_lit 318),kCo "_law_scale" (nat_lit 605) (nat_lit 606) (nat_lit 607) (nat_lit 150) (nat_lit 1) (nat_lit 320) (nat_lit 321) (nat_lit 322) (nat_lit 323) (nat_lit 324) (nat_lit 612) (nat_lit 150) (nat_lit 613),kF (nat_lit 40) "_law_scale" "law_spotlook_k09_no_plots" (nat_lit 575) (nat_lit 325),kCo "_law_spot" (nat_lit 615) (nat_lit 616) (nat_lit 617) (nat_lit 156) (nat_lit 2) (nat_lit 327) (nat_lit 328) (nat_lit 329) (nat_lit 330) (nat_lit 331) (nat_lit 624) (nat_lit 156) (nat_lit 625)]
def kL9:List Obj:=[kF (nat_lit 41) "_law_spot" "law_spotlook_k09_no_plots" (nat_lit 575) (nat_lit 332),{ cls:=.type "code",data:=.fields #[(.str (Str.ofString "_law_made") 627),(.str (Str.ofString "_law_made") 628),(.str (Str.ofString "/claim/cut.py") 629),(.int 159 0),(.int 2 0),(.int 0 0),(.int 0 0),(.int 3 0),(.ref 334),(.bool true),(.int 181 0),(.ref 335),.none,.none,.none,(.ref 336),(.int 630 0),(.int 159 0),(.str (Str.ofString "/claim/cut.py") 631)] },kF (nat_lit 42) "_law_made" "law_spotlook_k09_no_plots" (nat_lit 575) (nat_lit 337),kCo "_law_turn" (nat_lit 633) (nat_lit 634) (nat_lit 635) (nat_lit 161) (nat_lit 3) (nat_lit 339) (nat_lit 340) (nat_lit 341) (nat_lit 342) (nat_lit 343) (nat_lit 642) (nat_lit 161) (nat_lit 643),kF (nat_lit 43) "_law_turn" "law_spotlook_k09_no_plots" (nat_lit 575) (nat_lit 344),kCo "_law_on" (nat_lit 645) (nat_lit 646) (nat_lit 647) (nat_lit 166) (nat_lit 2) (nat_lit 346) (nat_lit 347) (nat_lit 348) (nat_lit 349) (nat_lit 350) (nat_lit 650) (nat_lit 166) (nat_lit 651),kF (nat_lit 44) "_law_on" "law_spotlook_k09_no_plots" (nat_lit 575) (nat_lit 351),{ cls:=.type "code",data:=.fields #[(.str (Str.ofString "_law_fair") 653),(.str (Str.ofString "_law_fair") 654),(.str (Str.ofString "/claim/cut.py") 655),(.int 168 0),(.int 2 0),(.int 0 0),(.int 0 0),(.int 3 0),(.ref 353),(.bool true),(.int 181 0),(.ref 354),.none,.none,.none,(.ref 355),(.int 656 0),(.int 168 0),(.str (Str.ofString "/claim/cut.py") 657)] }]
def kL10:List Obj:=[kF (nat_lit 45) "_law_fair" "law_spotlook_k09_no_plots" (nat_lit 575) (nat_lit 356),{ cls:=.type "code",data:=.fields #[(.str (Str.ofString "_law_shuts_here") 659),(.str (Str.ofString "_law_shuts_here") 660),(.str (Str.ofString "/claim/cut.py") 661),(.int 178 0),(.int 3 0),(.int 0 0),(.int 0 0),(.int 3 0),(.ref 358),(.bool true),(.int 181 0),(.ref 359),.none,.none,.none,(.ref 360),(.int 662 0),(.int 178 0),(.str (Str.ofString "/claim/cut.py") 663)] },kF (nat_lit 46) "_law_shuts_here" "law_spotlook_k09_no_plots" (nat_lit 575) (nat_lit 361),kCo "_law_alone" (nat_lit 665) (nat_lit 666) (nat_lit 667) (nat_lit 189) (nat_lit 2) (nat_lit 363) (nat_lit 364) (nat_lit 365) (nat_lit 366) (nat_lit 367) (nat_lit 671) (nat_lit 189) (nat_lit 672),kF (nat_lit 47) "_law_alone" "law_spotlook_k09_no_plots" (nat_lit 575) (nat_lit 368),kCo "_law_told" (nat_lit 674) (nat_lit 675) (nat_lit 676) (nat_lit 194) (nat_lit 1) (nat_lit 370) (nat_lit 371) (nat_lit 372) (nat_lit 373) (nat_lit 374) (nat_lit 681) (nat_lit 194) (nat_lit 682),kF (nat_lit 48) "_law_told" "law_spotlook_k09_no_plots" (nat_lit 575) (nat_lit 375),kCo "_law_more" (nat_lit 684) (nat_lit 685) (nat_lit 686) (nat_lit 208) (nat_lit 2) (nat_lit 377) (nat_lit 378) (nat_lit 379) (nat_lit 380) (nat_lit 381) (nat_lit 693) (nat_lit 208) (nat_lit 694)]
def kL11:List Obj:=[kF (nat_lit 49) "_law_more" "law_spotlook_k09_no_plots" (nat_lit 575) (nat_lit 382),kCo "_law_due" (nat_lit 696) (nat_lit 697) (nat_lit 698) (nat_lit 223) (nat_lit 2) (nat_lit 384) (nat_lit 385) (nat_lit 386) (nat_lit 387) (nat_lit 388) (nat_lit 703) (nat_lit 223) (nat_lit 704),kF (nat_lit 50) "_law_due" "law_spotlook_k09_no_plots" (nat_lit 575) (nat_lit 389),{ cls:=.type "code",data:=.fields #[(.str (Str.ofString "law") 706),(.str (Str.ofString "law") 707),(.str (Str.ofString "/claim/cut.py") 708),(.int 231 0),(.int 1 0),(.int 0 0),(.int 0 0),(.int 3 0),(.ref 391),(.bool true),(.int 181 0),(.ref 392),.none,.none,.none,(.ref 393),(.int 709 0),(.int 231 0),(.str (Str.ofString "/claim/cut.py") 710)] },kF (nat_lit 51) "law" "law_spotlook_k09_no_plots" (nat_lit 575) (nat_lit 394)]
def kK:Params->PySem.W.Frag:=fun P=>(nat_lit 2,kN kL0 (nat_lit 0))::(nat_lit 3,kG P)::(nat_lit 23,zB P)::(nat_lit 24,kN kL0 (nat_lit 1))::(nat_lit 36,zD P)::(nat_lit 37,kN kL0 (nat_lit 2))::(nat_lit 48,zr P)::(nat_lit 49,kN kL0 (nat_lit 3))::(nat_lit 64,kN kL0 (nat_lit 4))::(nat_lit 65,kN kL0 (nat_lit 5))::(nat_lit 67,zF P)::(nat_lit 68,kN kL0 (nat_lit 6))::(nat_lit 83,kN kL0 (nat_lit 7))::(nat_lit 84,kN kL1 (nat_lit 0))::(nat_lit 86,zx P)::(nat_lit 87,kN kL1 (nat_lit 1))::(nat_lit 102,kN kL1 (nat_lit 2))::(nat_lit 103,kN kL1 (nat_lit 3))::(nat_lit 105,yY P)::(nat_lit 106,kN kL1 (nat_lit 4))::(nat_lit 121,kN kL1 (nat_lit 5))::(nat_lit 122,kN kL1 (nat_lit 6))::(nat_lit 124,xS P)::(nat_lit 125,kN kL1 (nat_lit 7))::(nat_lit 136,yH P)::(nat_lit 137,kN kL2 (nat_lit 0))::(nat_lit 145,kN kL2 (nat_lit 1))::(nat_lit 146,kN kL2 (nat_lit 2))::(nat_lit 152,kN kL2 (nat_lit 3))::(nat_lit 153,kN kL2 (nat_lit 4))::(nat_lit 159,kN kL2 (nat_lit 5))::(nat_lit 160,kN kL2 (nat_lit 6))::(nat_lit 166,kN kL2 (nat_lit 7))::(nat_lit 167,kN kL3 (nat_lit 0))::(nat_lit 173,kN kL3 (nat_lit 1))::(nat_lit 174,kN kL3 (nat_lit 2))::(nat_lit 180,kN kL3 (nat_lit 3))::(nat_lit 181,kN kL3 (nat_lit 4))::(nat_lit 187,kN kL3 (nat_lit 5))::(nat_lit 188,kN kL3 (nat_lit 6))::(nat_lit 194,kN kL3 (nat_lit 7))::(nat_lit 195,kN kL4 (nat_lit 0))::(nat_lit 201,kN kL4 (nat_lit 1))::(nat_lit 202,kN kL4 (nat_lit 2))::(nat_lit 208,kN kL4 (nat_lit 3))::(nat_lit 209,kN kL4 (nat_lit 4))::(nat_lit 215,kN kL4 (nat_lit 5))::(nat_lit 216,kN kL4 (nat_lit 6))::(nat_lit 222,kN kL4 (nat_lit 7))::(nat_lit 223,kN kL5 (nat_lit 0))::(nat_lit 229,kN kL5 (nat_lit 1))::(nat_lit 230,kN kL5 (nat_lit 2))::(nat_lit 236,kN kL5 (nat_lit 3))::(nat_lit 237,kN kL5 (nat_lit 4))::(nat_lit 243,kN kL5 (nat_lit 5))::(nat_lit 244,kN kL5 (nat_lit 6))::(nat_lit 250,kN kL5 (nat_lit 7))::(nat_lit 251,kN kL6 (nat_lit 0))::(nat_lit 257,kN kL6 (nat_lit 1))::(nat_lit 258,kN kL6 (nat_lit 2))::(nat_lit 264,kN kL6 (nat_lit 3))::(nat_lit 265,kN kL6 (nat_lit 4))::(nat_lit 271,kN kL6 (nat_lit 5))::(nat_lit 272,kN kL6 (nat_lit 6))::(nat_lit 278,kN kL6 (nat_lit 7))::(nat_lit 279,kN kL7 (nat_lit 0))::(nat_lit 285,kN kL7 (nat_lit 1))::(nat_lit 286,kN kL7 (nat_lit 2))::(nat_lit 292,kN kL7 (nat_lit 3))::(nat_lit 293,kN kL7 (nat_lit 4))::(nat_lit 297,kN kL7 (nat_lit 5))::(nat_lit 298,kN kL7 (nat_lit 6))::(nat_lit 304,kN kL7 (nat_lit 7))::(nat_lit 305,kN kL8 (nat_lit 0))::(nat_lit 311,kN kL8 (nat_lit 1))::(nat_lit 312,kN kL8 (nat_lit 2))::(nat_lit 318,kN kL8 (nat_lit 3))::(nat_lit 319,kN kL8 (nat_lit 4))::(nat_lit 325,kN kL8 (nat_lit 5))::(nat_lit 326,kN kL8 (nat_lit 6))::(nat_lit 332,kN kL8 (nat_lit 7))::(nat_lit 333,kN kL9 (nat_lit 0))::(nat_lit 337,kN kL9 (nat_lit 1))::(nat_lit 338,kN kL9 (nat_lit 2))::(nat_lit 344,kN kL9 (nat_lit 3))::(nat_lit 345,kN kL9 (nat_lit 4))::(nat_lit 351,kN kL9 (nat_lit 5))::(nat_lit 352,kN kL9 (nat_lit 6))::(nat_lit 356,kN kL9 (nat_lit 7))::(nat_lit 357,kN kL10 (nat_lit 0))::(nat_lit 361,kN kL10 (nat_lit 1))::(nat_lit 362,kN kL10 (nat_lit 2))::(nat_lit 368,kN kL10 (nat_lit 3))::(nat_lit 369,kN kL10 (nat_lit 4))::(nat_lit 375,kN kL10 (nat_lit 5))::(nat_lit 376,kN kL10 (nat_lit 6))::(nat_lit 382,kN kL10 (nat_lit 7))::(nat_lit 383,kN kL11 (nat_lit 0))::(nat_lit 389,kN kL11 (nat_lit 1))::(nat_lit 390,kN kL11 (nat_lit 2))::(nat_lit 394,kN kL11 (nat_lit 3))::(nat_lit 395,kN kL11 (nat_lit 4))::[]
end Q_k09_no_plots
namespace Q_k09_no_plots
open PySem L2
inductive Tg{A:Type}(a:A):Type where|mk:Tg a
noncomputable def pk{A:Type}{a:A}(_:Tg a):A:=a
noncomputable def hE(P:Params)(n:Str)(k:Nat)(v:Value):DictEntry:={ hash:=PyData.keyHash P n,key:=.str n k,val:=v }
noncomputable def kU(s:Stmt)(n q:Str)(g:Nat)(m c:Value):FuncData:={ name:=n,qualname:=q,params:=bD s,body:=.stmts (aV s),scope:=ao s,globals:=g,closure:=[],defaults:=.none,kwdefaults:=.none,pyModule:=m,code:=c }
noncomputable def kC(s:Stmt)(i:Nat):Stmt:=match s with
 |.ClassDef (body:=b) ..=>b.getD i (.Pass ⟨0,0,0,0⟩)
 |s=>s
noncomputable def kTu(l:List Value):Obj:={ cls:=.type "tuple",data:=.seq l.toArray 0 }
noncomputable def kFd(l:List Value):Obj:={ cls:=.none,data:=.fields l.toArray }
local macro_rules | `(tactic| walk_at "st") => `(tactic| (intro t; (conv at t => (arg 1; whnf)); exact pk (.mk : type_of% t)))
noncomputable def st0:Stmt:=by refine'(?_:Tg (top 0)->Stmt) .mk;walk_at "st"
noncomputable def st1:Stmt:=by refine'(?_:Tg (top 1)->Stmt) .mk;walk_at "st"
noncomputable def st2:Stmt:=by refine'(?_:Tg (top 2)->Stmt) .mk;walk_at "st"
noncomputable def st3:Stmt:=by refine'(?_:Tg (top 3)->Stmt) .mk;walk_at "st"
noncomputable def st4:Stmt:=by refine'(?_:Tg (top 4)->Stmt) .mk;walk_at "st"
noncomputable def st5:Stmt:=by refine'(?_:Tg (top 5)->Stmt) .mk;walk_at "st"
noncomputable def st6:Stmt:=by refine'(?_:Tg (top 6)->Stmt) .mk;walk_at "st"
noncomputable def st7:Stmt:=by refine'(?_:Tg (top 7)->Stmt) .mk;walk_at "st"
noncomputable def st8:Stmt:=by refine'(?_:Tg (top 8)->Stmt) .mk;walk_at "st"
noncomputable def st9:Stmt:=by refine'(?_:Tg (top 9)->Stmt) .mk;walk_at "st"
noncomputable def st10:Stmt:=by refine'(?_:Tg (top 10)->Stmt) .mk;walk_at "st"
noncomputable def st11:Stmt:=by refine'(?_:Tg (top 11)->Stmt) .mk;walk_at "st"
noncomputable def st12:Stmt:=by refine'(?_:Tg (top 12)->Stmt) .mk;walk_at "st"
noncomputable def st13:Stmt:=by refine'(?_:Tg (top 13)->Stmt) .mk;walk_at "st"
noncomputable def st14:Stmt:=by refine'(?_:Tg (top 14)->Stmt) .mk;walk_at "st"
noncomputable def st15:Stmt:=by refine'(?_:Tg (top 15)->Stmt) .mk;walk_at "st"
noncomputable def st16:Stmt:=by refine'(?_:Tg (top 16)->Stmt) .mk;walk_at "st"
noncomputable def st17:Stmt:=by refine'(?_:Tg (top 17)->Stmt) .mk;walk_at "st"
noncomputable def st18:Stmt:=by refine'(?_:Tg (top 18)->Stmt) .mk;walk_at "st"
noncomputable def st19:Stmt:=by refine'(?_:Tg (top 19)->Stmt) .mk;walk_at "st"
noncomputable def st20:Stmt:=by refine'(?_:Tg (top 20)->Stmt) .mk;walk_at "st"
noncomputable def st21:Stmt:=by refine'(?_:Tg (top 21)->Stmt) .mk;walk_at "st"
noncomputable def st22:Stmt:=by refine'(?_:Tg (top 22)->Stmt) .mk;walk_at "st"
noncomputable def st23:Stmt:=by refine'(?_:Tg (top 23)->Stmt) .mk;walk_at "st"
noncomputable def st24:Stmt:=by refine'(?_:Tg (top 24)->Stmt) .mk;walk_at "st"
noncomputable def st25:Stmt:=by refine'(?_:Tg (top 25)->Stmt) .mk;walk_at "st"
noncomputable def st26:Stmt:=by refine'(?_:Tg (top 26)->Stmt) .mk;walk_at "st"
noncomputable def st27:Stmt:=by refine'(?_:Tg (top 27)->Stmt) .mk;walk_at "st"
noncomputable def st28:Stmt:=by refine'(?_:Tg (top 28)->Stmt) .mk;walk_at "st"
noncomputable def st29:Stmt:=by refine'(?_:Tg (top 29)->Stmt) .mk;walk_at "st"
noncomputable def st30:Stmt:=by refine'(?_:Tg (top 30)->Stmt) .mk;walk_at "st"
noncomputable def st31:Stmt:=by refine'(?_:Tg (top 31)->Stmt) .mk;walk_at "st"
noncomputable def st32:Stmt:=by refine'(?_:Tg (top 32)->Stmt) .mk;walk_at "st"
noncomputable def st33:Stmt:=by refine'(?_:Tg (top 33)->Stmt) .mk;walk_at "st"
noncomputable def st34:Stmt:=by refine'(?_:Tg (top 34)->Stmt) .mk;walk_at "st"
noncomputable def st35:Stmt:=by refine'(?_:Tg (top 35)->Stmt) .mk;walk_at "st"
noncomputable def st36:Stmt:=by refine'(?_:Tg (top 36)->Stmt) .mk;walk_at "st"
noncomputable def st37:Stmt:=by refine'(?_:Tg (top 37)->Stmt) .mk;walk_at "st"
noncomputable def st38:Stmt:=by refine'(?_:Tg (top 38)->Stmt) .mk;walk_at "st"
noncomputable def st39:Stmt:=by refine'(?_:Tg (top 39)->Stmt) .mk;walk_at "st"
noncomputable def st40:Stmt:=by refine'(?_:Tg (top 40)->Stmt) .mk;walk_at "st"
noncomputable def st41:Stmt:=by refine'(?_:Tg (top 41)->Stmt) .mk;walk_at "st"
noncomputable def st42:Stmt:=by refine'(?_:Tg (top 42)->Stmt) .mk;walk_at "st"
noncomputable def st43:Stmt:=by refine'(?_:Tg (top 43)->Stmt) .mk;walk_at "st"
noncomputable def st44:Stmt:=by refine'(?_:Tg (top 44)->Stmt) .mk;walk_at "st"
noncomputable def st45:Stmt:=by refine'(?_:Tg (top 45)->Stmt) .mk;walk_at "st"
noncomputable def st46:Stmt:=by refine'(?_:Tg (top 46)->Stmt) .mk;walk_at "st"
noncomputable def st47:Stmt:=by refine'(?_:Tg (top 47)->Stmt) .mk;walk_at "st"
noncomputable def st48:Stmt:=by refine'(?_:Tg (top 48)->Stmt) .mk;walk_at "st"
noncomputable def st49:Stmt:=by refine'(?_:Tg (top 49)->Stmt) .mk;walk_at "st"
noncomputable def st50:Stmt:=by refine'(?_:Tg (top 50)->Stmt) .mk;walk_at "st"
noncomputable def st51:Stmt:=by refine'(?_:Tg (top 51)->Stmt) .mk;walk_at "st"
noncomputable def scp:Scope:=by refine'(?_:Tg (PySem.Challenge.pw_spotlook_k09_no_plots.main.scope)->Scope) .mk;walk_at "st"
noncomputable def fil:Str:=by refine'(?_:Tg (PySem.Challenge.pw_spotlook_k09_no_plots.main.file)->Str) .mk;walk_at "st"
noncomputable def giv:Given:=by refine'(?_:Tg (PySem.Challenge.pw_spotlook_k09_no_plots.given)->Given) .mk;walk_at "st"
noncomputable def pw2:Program:={ main:={ body:=[st0,st1,st2,st3,st4,st5,st6,st7,st8,st9,st10,st11,st12,st13,st14,st15,st16,st17,st18,st19,st20,st21,st22,st23,st24,st25,st26,st27,st28,st29,st30,st31,st32,st33,st34,st35,st36,st37,st38,st39,st40,st41,st42,st43,st44,st45,st46,st47,st48,st49,st50,st51],scope:=scp,futureAnnotations:=false,file:=fil,more:=[] },modules:=[],parses:=[],absent:=[],harvested:=[],given:=giv }
noncomputable def vw:Program:={ pw2 with main:={ pw2.main with body:=[st1,st2,st3,st4,st5,st6,st7,st8,st10,st11,st12,st13,st14,st15,st16,st18,st19,st20,st21,st22,st23,st24,st25,st27,st28,st29,st30,st31,st32,st33,st34,st35,st37,st38,st39,st40,st41,st42,st43,st44,st45,st46,st47,st48,st49,st50,st51] } }
noncomputable def sx0:List Stmt:=[st0,st1]
noncomputable def sx1:List Stmt:=[st2]
noncomputable def sx2:List Stmt:=[st3]
noncomputable def sx3:List Stmt:=[st4]
noncomputable def sx4:List Stmt:=[st5]
noncomputable def sx5:List Stmt:=[st6]
noncomputable def sx6:List Stmt:=[st7]
noncomputable def sx7:List Stmt:=[st8,st9,st10,st11,st12,st13,st14]
noncomputable def sx8:List Stmt:=[st15,st16,st17,st18,st19,st20,st21,st22,st23,st24,st25,st26,st27,st28]
noncomputable def sx9:List Stmt:=[st29,st30,st31,st32,st33,st34,st35,st36,st37,st38,st39,st40,st41]
noncomputable def sx10:List Stmt:=[st42,st43,st44,st45,st46,st47,st48,st49,st50,st51]
noncomputable def en3_0(P:Params):List DictEntry:=[hE P (Str.ofString "__doc__") 166 .none,hE P (Str.ofString "__package__") 167 .none,hE P (Str.ofString "__loader__") 168 (.builtin "__main__.__loader__#opaque"),hE P (Str.ofString "__spec__") 169 .none,hE P (Str.ofString "__annotations__") 170 (.ref 6),hE P (Str.ofString "__builtins__") 171 (.ref 4),hE P (Str.ofString "__file__") 173 (.str (Str.ofString "/claim/cut.py") 172),hE P (Str.ofString "__cached__") 174 .none]
noncomputable def en3_1(P:Params):List DictEntry:=[hE P (Str.ofString "SpotError") 206 (.ref 24),hE P (Str.ofString "NoFraction") 222 (.ref 37),hE P (Str.ofString "NoWall") 238 (.ref 49),hE P (Str.ofString "TooMany") 263 (.ref 68),hE P (Str.ofString "Crossing") 290 (.ref 87),hE P (Str.ofString "Absent") 315 (.ref 106),hE P (Str.ofString "NoText") 340 (.ref 125),hE P (Str.ofString "NoRow") 356 (.ref 137)]
noncomputable def en3_2(P:Params):List DictEntry:=[hE P (Str.ofString "greatest_divisor") 366 (.ref 146),hE P (Str.ofString "fraction") 375 (.ref 153),hE P (Str.ofString "plus") 383 (.ref 160),hE P (Str.ofString "less") 391 (.ref 167),hE P (Str.ofString "times") 399 (.ref 174),hE P (Str.ofString "over") 407 (.ref 181),hE P (Str.ofString "is_less") 415 (.ref 188),hE P (Str.ofString "is_ahead") 425 (.ref 195)]
noncomputable def en3_3(P:Params):List DictEntry:=[hE P (Str.ofString "later_of") 433 (.ref 202),hE P (Str.ofString "earlier_of") 441 (.ref 209),hE P (Str.ofString "own_spot") 450 (.ref 216),hE P (Str.ofString "own_wall") 457 (.ref 223),hE P (Str.ofString "gap") 465 (.ref 230),hE P (Str.ofString "lean") 483 (.ref 237),hE P (Str.ofString "side_of") 492 (.ref 244),hE P (Str.ofString "MOST_WALLS") 496 (.int 40 495)]
noncomputable def en3_4(P:Params):List DictEntry:=[hE P (Str.ofString "meeting") 506 (.ref 251),hE P (Str.ofString "meeting_in_line") 516 (.ref 258),hE P (Str.ofString "crossing_spot") 530 (.ref 265),hE P (Str.ofString "number_between") 539 (.ref 272),hE P (Str.ofString "meet_as_in_plots") 548 (.ref 279),hE P (Str.ofString "first_crossed") 558 (.ref 286),hE P (Str.ofString "plot_of") 568 (.ref 293),hE P (Str.ofString "own_plot") 574 (.ref 298)]
noncomputable def en3_5(P:Params):List DictEntry:=[hE P (Str.ofString "_law_cell_at") 584 (.ref 305),hE P (Str.ofString "_law_take") 594 (.ref 312),hE P (Str.ofString "_law_low") 604 (.ref 319),hE P (Str.ofString "_law_scale") 614 (.ref 326),hE P (Str.ofString "_law_spot") 626 (.ref 333),hE P (Str.ofString "_law_made") 632 (.ref 338),hE P (Str.ofString "_law_turn") 644 (.ref 345),hE P (Str.ofString "_law_on") 652 (.ref 352)]
noncomputable def en3_6(P:Params):List DictEntry:=[hE P (Str.ofString "_law_fair") 658 (.ref 357),hE P (Str.ofString "_law_shuts_here") 664 (.ref 362),hE P (Str.ofString "_law_alone") 673 (.ref 369),hE P (Str.ofString "_law_told") 683 (.ref 376),hE P (Str.ofString "_law_more") 695 (.ref 383),hE P (Str.ofString "_law_due") 705 (.ref 390),hE P (Str.ofString "law") 711 (.ref 395)]
noncomputable def en3(P:Params):List DictEntry:=en3_0 P++(en3_1 P++(en3_2 P++(en3_3 P++(en3_4 P++(en3_5 P++(en3_6 P))))))
noncomputable def fl12:List Value:=[(.int 2 0),(.int 0 0),(.ref 20),(.int 4 0),(.int 0 0),(.ref 33),(.int 6 0),(.int 0 0),(.ref 45),(.int 8 0),(.int 0 0),(.ref 57),(.int 13 0),(.int 0 0),(.ref 76),(.int 19 0),(.int 0 0),(.ref 95),(.int 24 0),(.int 0 0),(.ref 114),(.int 29 0),(.int 0 0),(.ref 133),(.int 32 0),(.int 0 0),(.ref 145),(.int 36 0),(.int 0 0),(.ref 152),(.int 43 0),(.int 0 0),(.ref 159),(.int 45 0),(.int 0 0),(.ref 166),(.int 47 0),(.int 0 0),(.ref 173),(.int 49 0),(.int 0 0),(.ref 180),(.int 51 0),(.int 0 0),(.ref 187),(.int 54 0),(.int 0 0),(.ref 194),(.int 58 0),(.int 0 0),(.ref 201),(.int 60 0),(.int 0 0),(.ref 208),(.int 62 0),(.int 0 0),(.ref 215),(.int 65 0),(.int 0 0),(.ref 222),(.int 67 0),(.int 0 0),(.ref 229),(.int 69 0),(.int 0 0),(.ref 236),(.int 75 0),(.int 0 0),(.ref 243),(.int 84 0),(.int 0 0),(.ref 250),(.int 91 0),(.int 0 0),(.ref 257),(.int 99 0),(.int 0 0),(.ref 264),(.int 106 0),(.int 0 0),(.ref 271),(.int 108 0),(.int 0 0),(.ref 278),(.int 113 0),(.int 0 0),(.ref 285),(.int 118 0),(.int 0 0),(.ref 292),(.int 126 0),(.int 0 0),(.ref 297),(.int 129 0),(.int 0 0),(.ref 304),(.int 133 0),(.int 0 0),(.ref 311),(.int 142 0),(.int 0 0),(.ref 318),(.int 150 0),(.int 0 0),(.ref 325),(.int 156 0),(.int 0 0),(.ref 332),(.int 159 0),(.int 0 0),(.ref 337),(.int 161 0),(.int 0 0),(.ref 344),(.int 166 0),(.int 0 0),(.ref 351),(.int 168 0),(.int 0 0),(.ref 356),(.int 178 0),(.int 0 0),(.ref 361),(.int 189 0),(.int 0 0),(.ref 368),(.int 194 0),(.int 0 0),(.ref 375),(.int 208 0),(.int 0 0),(.ref 382),(.int 223 0),(.int 0 0),(.ref 389),(.int 231 0),(.int 0 0),(.ref 394)]
noncomputable def hC(n:Str)(s0 s1 s2 s18 r8 r11 r13 r14 r15 i3 i4 i5 i6 i7 i10 i16 i17:Nat)(b9:Bool):Obj:={ cls:=.type "code",data:=.fields #[.str n s0,.str n s1,.str (Str.ofString "/claim/cut.py") s2,.int (Int.ofNat i3) 0,.int (Int.ofNat i4) 0,.int (Int.ofNat i5) 0,.int (Int.ofNat i6) 0,.int (Int.ofNat i7) 0,.ref r8,.bool b9,.int (Int.ofNat i10) 0,.ref r11,.none,.ref r13,.ref r14,.ref r15,.int (Int.ofNat i16) 0,.int (Int.ofNat i17) 0,.str (Str.ofString "/claim/cut.py") s18] }
noncomputable def hF(t:Value)(s:Stmt)(n:Str)(g:Nat)(m c:Value):Obj:={ cls:=t,data:=.func (kU s n n g m c) }
noncomputable def ob11:Obj:=kTu []
noncomputable def ob12:Obj:={ cls:=.none,data:=.fields (List.toArray (fl12.take 0)) }
noncomputable def ob13:Obj:={ cls:=(.type "code"),data:=(.fields #[(.str (Str.ofString "<module>") 182),(.str (Str.ofString "<module>") 183),(.str (Str.ofString "/claim/cut.py") 184),(.int 1 0),(.int 0 0),(.int 0 0),(.int 0 0),(.int 0 0),(.ref 11),(.bool false),(.int 181 0),(.ref 12),.none,.none,.none,.none,(.int 185 0),(.int 1 0),(.str (Str.ofString "/claim/cut.py") 186)]) }
noncomputable def ob14:Obj:={ cls:=(.type "frame"),slots:=#[(some (.ref 13)),(some (.ref 3)),(some (.ref 3)),none,(some (.str (Str.ofString "__main__") 164)),none,(some (.ref 0))] }
noncomputable def ob15(P:Params):Obj:={ cls:=(.type "dict"),data:=.dict (List.toArray (hE P (Str.ofString "__name__") 165 (.str (Str.ofString "spotlook.errors") 187)::(en3 P).take 9)) 10 }
noncomputable def ob16:Obj:={ cls:=.none,data:=.fields (List.toArray (fl12.take 3)) }
noncomputable def ob17:Obj:=kTu [(.type "ValueError")]
noncomputable def ob18:Obj:={ cls:=(.type "builtin_function_or_method"),data:=(.fields #[(.builtin "type.__prepare__"),(.type "type")]) }
noncomputable def ob19(P:Params):Obj:={ cls:=(.type "dict"),data:=.dict (List.toArray [hE P (Str.ofString "__module__") 196 (.str (Str.ofString "spotlook.errors") 187),hE P (Str.ofString "__qualname__") 198 (.str (Str.ofString "SpotError") 197),hE P (Str.ofString "__firstlineno__") 200 (.int 2 199),hE P (Str.ofString "__static_attributes__") 201 (.ref 22)]) 4 }
noncomputable def ob20:Obj:={ cls:=(.type "code"),data:=(.fields #[(.str (Str.ofString "SpotError") 191),(.str (Str.ofString "SpotError") 192),(.str (Str.ofString "/claim/cut.py") 193),(.int 2 0),(.int 0 0),(.int 0 0),(.int 0 0),(.int 0 0),(.ref 18),(.bool false),(.int 181 0),(.ref 19),.none,.none,.none,.none,(.int 194 0),(.int 2 0),(.str (Str.ofString "/claim/cut.py") 195)]) }
noncomputable def ob21:Obj:={ cls:=(.type "frame"),slots:=#[(some (.ref 20)),(some (.ref 3)),(some (.ref 17)),none,(some (.str (Str.ofString "spotlook.errors") 187)),none,(some (.ref 0))] }
noncomputable def ob22(P:Params):Obj:={ cls:=(.type "dict"),data:=.dict (List.toArray [hE P (Str.ofString "__module__") 196 (.str (Str.ofString "spotlook.errors") 187),hE P (Str.ofString "__firstlineno__") 200 (.int 2 199),hE P (Str.ofString "__static_attributes__") 201 (.ref 22),hE P (Str.ofString "__weakref__") 203 (.ref 25),hE P (Str.ofString "__doc__") 204 .none]) 3 }
noncomputable def ob23:Obj:={ cls:=(.type "type"),data:=(.cls { name:=(Str.ofString "SpotError"),bases:=[(.type "ValueError")],mro:=[(.ref 24),(.type "ValueError"),(.type "Exception"),(.type "BaseException"),(.type "object")],ns:=23,qualname:=(Str.ofString "SpotError"),hasDict:=true,slotNames:=[],subclasses:=[],abstract:=false,collection:=none,hasDel:=false }),slots:=#[(some (.ref 15)),none,(some (.str (Str.ofString "SpotError") 189)),(some (.str (Str.ofString "SpotError") 197)),(some (.builtin "ValueError.__new__")),(some (.bool true))] }
noncomputable def ob24:Obj:={ cls:=(.type "getset_descriptor"),data:=(.fields #[(.str (Str.ofString "__weakref__") 202),(.ref 24),(.builtin "ExceptionGroup.__weakref__"),.none]) }
noncomputable def ob25:Obj:={ cls:=(.type "super"),data:=(.fields #[(.ref 24),(.ref 24),(.ref 24)]) }
noncomputable def ob26:Obj:={ cls:=(.type "builtin_function_or_method"),data:=(.fields #[(.builtin "object.__init_subclass__"),(.ref 24)]) }
noncomputable def ob27(P:Params):Obj:={ cls:=(.type "dict"),data:=.dict (List.toArray (hE P (Str.ofString "__name__") 165 (.str (Str.ofString "spotlook.errors") 187)::(en3 P).take 10)) 11 }
noncomputable def ob28:Obj:={ cls:=.none,data:=.fields (List.toArray (fl12.take 6)) }
noncomputable def ob29:Obj:={ cls:=(.type "type"),data:=(.cls { name:=(Str.ofString "SpotError"),bases:=[(.type "ValueError")],mro:=[(.ref 24),(.type "ValueError"),(.type "Exception"),(.type "BaseException"),(.type "object")],ns:=23,qualname:=(Str.ofString "SpotError"),hasDict:=true,slotNames:=[],subclasses:=[(.ref 37)],abstract:=false,collection:=none,hasDel:=false }),slots:=#[(some (.ref 15)),none,(some (.str (Str.ofString "SpotError") 189)),(some (.str (Str.ofString "SpotError") 197)),(some (.builtin "ValueError.__new__")),(some (.bool true))] }
noncomputable def ob30:Obj:=kTu [(.ref 24)]
noncomputable def ob31(P:Params):Obj:={ cls:=(.type "dict"),data:=.dict (List.toArray [hE P (Str.ofString "__module__") 214 (.str (Str.ofString "spotlook.errors") 187),hE P (Str.ofString "__qualname__") 216 (.str (Str.ofString "NoFraction") 215),hE P (Str.ofString "__firstlineno__") 218 (.int 4 217),hE P (Str.ofString "__static_attributes__") 219 (.ref 35)]) 4 }
noncomputable def ob32:Obj:={ cls:=(.type "code"),data:=(.fields #[(.str (Str.ofString "NoFraction") 209),(.str (Str.ofString "NoFraction") 210),(.str (Str.ofString "/claim/cut.py") 211),(.int 4 0),(.int 0 0),(.int 0 0),(.int 0 0),(.int 0 0),(.ref 31),(.bool false),(.int 181 0),(.ref 32),.none,.none,.none,.none,(.int 212 0),(.int 4 0),(.str (Str.ofString "/claim/cut.py") 213)]) }
noncomputable def ob33:Obj:={ cls:=(.type "frame"),slots:=#[(some (.ref 33)),(some (.ref 3)),(some (.ref 30)),none,(some (.str (Str.ofString "spotlook.errors") 187)),none,(some (.ref 0))] }
noncomputable def ob34(P:Params):Obj:={ cls:=(.type "dict"),data:=.dict (List.toArray [hE P (Str.ofString "__module__") 214 (.str (Str.ofString "spotlook.errors") 187),hE P (Str.ofString "__firstlineno__") 218 (.int 4 217),hE P (Str.ofString "__static_attributes__") 219 (.ref 35),hE P (Str.ofString "__doc__") 220 .none]) 2 }
noncomputable def ob35:Obj:={ cls:=(.type "type"),data:=(.cls { name:=(Str.ofString "NoFraction"),bases:=[(.ref 24)],mro:=[(.ref 37),(.ref 24),(.type "ValueError"),(.type "Exception"),(.type "BaseException"),(.type "object")],ns:=36,qualname:=(Str.ofString "NoFraction"),hasDict:=true,slotNames:=[],subclasses:=[],abstract:=false,collection:=none,hasDel:=false }),slots:=#[(some (.ref 28)),none,(some (.str (Str.ofString "NoFraction") 207)),(some (.str (Str.ofString "NoFraction") 215)),(some (.builtin "ValueError.__new__")),(some (.bool true))] }
noncomputable def ob36:Obj:={ cls:=(.type "super"),data:=(.fields #[(.ref 37),(.ref 37),(.ref 37)]) }
noncomputable def ob37:Obj:={ cls:=(.type "builtin_function_or_method"),data:=(.fields #[(.builtin "object.__init_subclass__"),(.ref 37)]) }
noncomputable def ob38(P:Params):Obj:={ cls:=(.type "dict"),data:=.dict (List.toArray (hE P (Str.ofString "__name__") 165 (.str (Str.ofString "spotlook.errors") 187)::(en3 P).take 11)) 12 }
noncomputable def ob39:Obj:={ cls:=.none,data:=.fields (List.toArray (fl12.take 9)) }
noncomputable def ob40:Obj:={ cls:=(.type "type"),data:=(.cls { name:=(Str.ofString "SpotError"),bases:=[(.type "ValueError")],mro:=[(.ref 24),(.type "ValueError"),(.type "Exception"),(.type "BaseException"),(.type "object")],ns:=23,qualname:=(Str.ofString "SpotError"),hasDict:=true,slotNames:=[],subclasses:=[(.ref 37),(.ref 49)],abstract:=false,collection:=none,hasDel:=false }),slots:=#[(some (.ref 15)),none,(some (.str (Str.ofString "SpotError") 189)),(some (.str (Str.ofString "SpotError") 197)),(some (.builtin "ValueError.__new__")),(some (.bool true))] }
noncomputable def ob41(P:Params):Obj:={ cls:=(.type "dict"),data:=.dict (List.toArray [hE P (Str.ofString "__module__") 230 (.str (Str.ofString "spotlook.errors") 187),hE P (Str.ofString "__qualname__") 232 (.str (Str.ofString "NoWall") 231),hE P (Str.ofString "__firstlineno__") 234 (.int 6 233),hE P (Str.ofString "__static_attributes__") 235 (.ref 47)]) 4 }
noncomputable def ob42:Obj:={ cls:=(.type "code"),data:=(.fields #[(.str (Str.ofString "NoWall") 225),(.str (Str.ofString "NoWall") 226),(.str (Str.ofString "/claim/cut.py") 227),(.int 6 0),(.int 0 0),(.int 0 0),(.int 0 0),(.int 0 0),(.ref 43),(.bool false),(.int 181 0),(.ref 44),.none,.none,.none,.none,(.int 228 0),(.int 6 0),(.str (Str.ofString "/claim/cut.py") 229)]) }
noncomputable def ob43:Obj:={ cls:=(.type "frame"),slots:=#[(some (.ref 45)),(some (.ref 3)),(some (.ref 42)),none,(some (.str (Str.ofString "spotlook.errors") 187)),none,(some (.ref 0))] }
noncomputable def ob44(P:Params):Obj:={ cls:=(.type "dict"),data:=.dict (List.toArray [hE P (Str.ofString "__module__") 230 (.str (Str.ofString "spotlook.errors") 187),hE P (Str.ofString "__firstlineno__") 234 (.int 6 233),hE P (Str.ofString "__static_attributes__") 235 (.ref 47),hE P (Str.ofString "__doc__") 236 .none]) 2 }
noncomputable def ob45:Obj:={ cls:=(.type "type"),data:=(.cls { name:=(Str.ofString "NoWall"),bases:=[(.ref 24)],mro:=[(.ref 49),(.ref 24),(.type "ValueError"),(.type "Exception"),(.type "BaseException"),(.type "object")],ns:=48,qualname:=(Str.ofString "NoWall"),hasDict:=true,slotNames:=[],subclasses:=[],abstract:=false,collection:=none,hasDel:=false }),slots:=#[(some (.ref 40)),none,(some (.str (Str.ofString "NoWall") 223)),(some (.str (Str.ofString "NoWall") 231)),(some (.builtin "ValueError.__new__")),(some (.bool true))] }
noncomputable def ob46:Obj:={ cls:=(.type "super"),data:=(.fields #[(.ref 49),(.ref 49),(.ref 49)]) }
noncomputable def ob47:Obj:={ cls:=(.type "builtin_function_or_method"),data:=(.fields #[(.builtin "object.__init_subclass__"),(.ref 49)]) }
noncomputable def ob48(P:Params):Obj:={ cls:=(.type "dict"),data:=.dict (List.toArray (hE P (Str.ofString "__name__") 165 (.str (Str.ofString "spotlook.errors") 187)::(en3 P).take 12)) 13 }
noncomputable def ob49:Obj:={ cls:=.none,data:=.fields (List.toArray (fl12.take 12)) }
noncomputable def ob50:Obj:={ cls:=(.type "type"),data:=(.cls { name:=(Str.ofString "SpotError"),bases:=[(.type "ValueError")],mro:=[(.ref 24),(.type "ValueError"),(.type "Exception"),(.type "BaseException"),(.type "object")],ns:=23,qualname:=(Str.ofString "SpotError"),hasDict:=true,slotNames:=[],subclasses:=[(.ref 37),(.ref 49),(.ref 68)],abstract:=false,collection:=none,hasDel:=false }),slots:=#[(some (.ref 15)),none,(some (.str (Str.ofString "SpotError") 189)),(some (.str (Str.ofString "SpotError") 197)),(some (.builtin "ValueError.__new__")),(some (.bool true))] }
noncomputable def ob51(P:Params):Obj:={ cls:=(.type "dict"),data:=.dict (List.toArray [hE P (Str.ofString "__module__") 246 (.str (Str.ofString "spotlook.errors") 187),hE P (Str.ofString "__qualname__") 248 (.str (Str.ofString "TooMany") 247),hE P (Str.ofString "__firstlineno__") 250 (.int 8 249),hE P (Str.ofString "__init__") 258 (.ref 65),hE P (Str.ofString "__static_attributes__") 260 (.ref 66)]) 5 }
noncomputable def ob52:Obj:=kFd [(.int 10 0),(.int 4 0),(.ref 64)]
noncomputable def ob53:Obj:={ cls:=(.type "code"),data:=(.fields #[(.str (Str.ofString "TooMany") 241),(.str (Str.ofString "TooMany") 242),(.str (Str.ofString "/claim/cut.py") 243),(.int 8 0),(.int 0 0),(.int 0 0),(.int 0 0),(.int 0 0),(.ref 55),(.bool false),(.int 181 0),(.ref 56),.none,.none,.none,.none,(.int 244 0),(.int 8 0),(.str (Str.ofString "/claim/cut.py") 245)]) }
noncomputable def ob54:Obj:={ cls:=(.type "frame"),slots:=#[(some (.ref 57)),(some (.ref 3)),(some (.ref 54)),none,(some (.str (Str.ofString "spotlook.errors") 187)),none,(some (.ref 0))] }
noncomputable def ob55:Obj:=kTu [(.str (Str.ofString "self") 254),(.str (Str.ofString "count") 255)]
noncomputable def ob56:Obj:={ cls:=.none,data:=(.func (kU (kC st4 0) (Str.ofString "__init__") (Str.ofString "TooMany.__init__") 0 .none .none)) }
noncomputable def ob57:Obj:={ cls:=(.type "code"),data:=(.fields #[(.str (Str.ofString "__init__") 251),(.str (Str.ofString "TooMany.__init__") 252),(.str (Str.ofString "/claim/cut.py") 253),(.int 10 0),(.int 2 0),(.int 0 0),(.int 0 0),(.int 3 0),(.ref 59),(.bool true),(.int 181 0),(.ref 60),.none,(.ref 61),(.ref 62),(.ref 63),(.int 256 0),(.int 10 0),(.str (Str.ofString "/claim/cut.py") 257)]) }
noncomputable def ob58:Obj:={ cls:=(.type "function"),data:=(.func (kU (kC st4 0) (Str.ofString "__init__") (Str.ofString "TooMany.__init__") 3 (.str (Str.ofString "spotlook.errors") 187) (.ref 64))) }
noncomputable def ob59:Obj:=kTu [(.str (Str.ofString "count") 259)]
noncomputable def ob60(P:Params):Obj:={ cls:=(.type "dict"),data:=.dict (List.toArray [hE P (Str.ofString "__module__") 246 (.str (Str.ofString "spotlook.errors") 187),hE P (Str.ofString "__firstlineno__") 250 (.int 8 249),hE P (Str.ofString "__init__") 258 (.ref 65),hE P (Str.ofString "__static_attributes__") 260 (.ref 66),hE P (Str.ofString "__doc__") 261 .none]) 2 }
noncomputable def ob61:Obj:={ cls:=(.type "type"),data:=(.cls { name:=(Str.ofString "TooMany"),bases:=[(.ref 24)],mro:=[(.ref 68),(.ref 24),(.type "ValueError"),(.type "Exception"),(.type "BaseException"),(.type "object")],ns:=67,qualname:=(Str.ofString "TooMany"),hasDict:=true,slotNames:=[],subclasses:=[],abstract:=false,collection:=none,hasDel:=false }),slots:=#[(some (.ref 52)),none,(some (.str (Str.ofString "TooMany") 239)),(some (.str (Str.ofString "TooMany") 247)),(some (.builtin "ValueError.__new__")),(some (.bool true))] }
noncomputable def ob62:Obj:={ cls:=(.type "super"),data:=(.fields #[(.ref 68),(.ref 68),(.ref 68)]) }
noncomputable def ob63:Obj:={ cls:=(.type "builtin_function_or_method"),data:=(.fields #[(.builtin "object.__init_subclass__"),(.ref 68)]) }
noncomputable def ob64(P:Params):Obj:={ cls:=(.type "dict"),data:=.dict (List.toArray (hE P (Str.ofString "__name__") 165 (.str (Str.ofString "spotlook.errors") 187)::(en3 P).take 13)) 14 }
noncomputable def ob65:Obj:={ cls:=.none,data:=.fields (List.toArray (fl12.take 15)) }
noncomputable def ob66:Obj:={ cls:=(.type "type"),data:=(.cls { name:=(Str.ofString "SpotError"),bases:=[(.type "ValueError")],mro:=[(.ref 24),(.type "ValueError"),(.type "Exception"),(.type "BaseException"),(.type "object")],ns:=23,qualname:=(Str.ofString "SpotError"),hasDict:=true,slotNames:=[],subclasses:=[(.ref 37),(.ref 49),(.ref 68),(.ref 87)],abstract:=false,collection:=none,hasDel:=false }),slots:=#[(some (.ref 15)),none,(some (.str (Str.ofString "SpotError") 189)),(some (.str (Str.ofString "SpotError") 197)),(some (.builtin "ValueError.__new__")),(some (.bool true))] }
noncomputable def ob67(P:Params):Obj:={ cls:=(.type "dict"),data:=.dict (List.toArray [hE P (Str.ofString "__module__") 271 (.str (Str.ofString "spotlook.errors") 187),hE P (Str.ofString "__qualname__") 273 (.str (Str.ofString "Crossing") 272),hE P (Str.ofString "__firstlineno__") 275 (.int 13 274),hE P (Str.ofString "__init__") 284 (.ref 84),hE P (Str.ofString "__static_attributes__") 287 (.ref 85)]) 5 }
noncomputable def ob68:Obj:=kFd [(.int 15 0),(.int 4 0),(.ref 83)]
noncomputable def ob69:Obj:={ cls:=(.type "code"),data:=(.fields #[(.str (Str.ofString "Crossing") 266),(.str (Str.ofString "Crossing") 267),(.str (Str.ofString "/claim/cut.py") 268),(.int 13 0),(.int 0 0),(.int 0 0),(.int 0 0),(.int 0 0),(.ref 74),(.bool false),(.int 181 0),(.ref 75),.none,.none,.none,.none,(.int 269 0),(.int 13 0),(.str (Str.ofString "/claim/cut.py") 270)]) }
noncomputable def ob70:Obj:={ cls:=(.type "frame"),slots:=#[(some (.ref 76)),(some (.ref 3)),(some (.ref 73)),none,(some (.str (Str.ofString "spotlook.errors") 187)),none,(some (.ref 0))] }
noncomputable def ob71:Obj:=kTu [(.str (Str.ofString "self") 279),(.str (Str.ofString "wall") 280),(.str (Str.ofString "other") 281)]
noncomputable def ob72:Obj:={ cls:=.none,data:=(.func (kU (kC st5 0) (Str.ofString "__init__") (Str.ofString "Crossing.__init__") 0 .none .none)) }
noncomputable def ob73:Obj:={ cls:=(.type "code"),data:=(.fields #[(.str (Str.ofString "__init__") 276),(.str (Str.ofString "Crossing.__init__") 277),(.str (Str.ofString "/claim/cut.py") 278),(.int 15 0),(.int 3 0),(.int 0 0),(.int 0 0),(.int 3 0),(.ref 78),(.bool true),(.int 181 0),(.ref 79),.none,(.ref 80),(.ref 81),(.ref 82),(.int 282 0),(.int 15 0),(.str (Str.ofString "/claim/cut.py") 283)]) }
noncomputable def ob74:Obj:={ cls:=(.type "function"),data:=(.func (kU (kC st5 0) (Str.ofString "__init__") (Str.ofString "Crossing.__init__") 3 (.str (Str.ofString "spotlook.errors") 187) (.ref 83))) }
noncomputable def ob75:Obj:=kTu [(.str (Str.ofString "other") 285),(.str (Str.ofString "wall") 286)]
noncomputable def ob76(P:Params):Obj:={ cls:=(.type "dict"),data:=.dict (List.toArray [hE P (Str.ofString "__module__") 271 (.str (Str.ofString "spotlook.errors") 187),hE P (Str.ofString "__firstlineno__") 275 (.int 13 274),hE P (Str.ofString "__init__") 284 (.ref 84),hE P (Str.ofString "__static_attributes__") 287 (.ref 85),hE P (Str.ofString "__doc__") 288 .none]) 2 }
noncomputable def ob77:Obj:={ cls:=(.type "type"),data:=(.cls { name:=(Str.ofString "Crossing"),bases:=[(.ref 24)],mro:=[(.ref 87),(.ref 24),(.type "ValueError"),(.type "Exception"),(.type "BaseException"),(.type "object")],ns:=86,qualname:=(Str.ofString "Crossing"),hasDict:=true,slotNames:=[],subclasses:=[],abstract:=false,collection:=none,hasDel:=false }),slots:=#[(some (.ref 71)),none,(some (.str (Str.ofString "Crossing") 264)),(some (.str (Str.ofString "Crossing") 272)),(some (.builtin "ValueError.__new__")),(some (.bool true))] }
noncomputable def ob78:Obj:={ cls:=(.type "super"),data:=(.fields #[(.ref 87),(.ref 87),(.ref 87)]) }
noncomputable def ob79:Obj:={ cls:=(.type "builtin_function_or_method"),data:=(.fields #[(.builtin "object.__init_subclass__"),(.ref 87)]) }
noncomputable def ob80(P:Params):Obj:={ cls:=(.type "dict"),data:=.dict (List.toArray (hE P (Str.ofString "__name__") 165 (.str (Str.ofString "spotlook.errors") 187)::(en3 P).take 14)) 15 }
noncomputable def ob81:Obj:={ cls:=.none,data:=.fields (List.toArray (fl12.take 18)) }
noncomputable def ob82:Obj:={ cls:=(.type "type"),data:=(.cls { name:=(Str.ofString "SpotError"),bases:=[(.type "ValueError")],mro:=[(.ref 24),(.type "ValueError"),(.type "Exception"),(.type "BaseException"),(.type "object")],ns:=23,qualname:=(Str.ofString "SpotError"),hasDict:=true,slotNames:=[],subclasses:=[(.ref 37),(.ref 49),(.ref 68),(.ref 87),(.ref 106)],abstract:=false,collection:=none,hasDel:=false }),slots:=#[(some (.ref 15)),none,(some (.str (Str.ofString "SpotError") 189)),(some (.str (Str.ofString "SpotError") 197)),(some (.builtin "ValueError.__new__")),(some (.bool true))] }
noncomputable def ob83(P:Params):Obj:={ cls:=(.type "dict"),data:=.dict (List.toArray [hE P (Str.ofString "__module__") 298 (.str (Str.ofString "spotlook.errors") 187),hE P (Str.ofString "__qualname__") 300 (.str (Str.ofString "Absent") 299),hE P (Str.ofString "__firstlineno__") 302 (.int 19 301),hE P (Str.ofString "__init__") 310 (.ref 103),hE P (Str.ofString "__static_attributes__") 312 (.ref 104)]) 5 }
noncomputable def ob84:Obj:=kFd [(.int 21 0),(.int 4 0),(.ref 102)]
noncomputable def ob85:Obj:={ cls:=(.type "code"),data:=(.fields #[(.str (Str.ofString "Absent") 293),(.str (Str.ofString "Absent") 294),(.str (Str.ofString "/claim/cut.py") 295),(.int 19 0),(.int 0 0),(.int 0 0),(.int 0 0),(.int 0 0),(.ref 93),(.bool false),(.int 181 0),(.ref 94),.none,.none,.none,.none,(.int 296 0),(.int 19 0),(.str (Str.ofString "/claim/cut.py") 297)]) }
noncomputable def ob86:Obj:={ cls:=(.type "frame"),slots:=#[(some (.ref 95)),(some (.ref 3)),(some (.ref 92)),none,(some (.str (Str.ofString "spotlook.errors") 187)),none,(some (.ref 0))] }
noncomputable def ob87:Obj:=kTu [(.str (Str.ofString "self") 306),(.str (Str.ofString "number") 307)]
noncomputable def ob88:Obj:={ cls:=.none,data:=(.func (kU (kC st6 0) (Str.ofString "__init__") (Str.ofString "Absent.__init__") 0 .none .none)) }
noncomputable def ob89:Obj:={ cls:=(.type "code"),data:=(.fields #[(.str (Str.ofString "__init__") 303),(.str (Str.ofString "Absent.__init__") 304),(.str (Str.ofString "/claim/cut.py") 305),(.int 21 0),(.int 2 0),(.int 0 0),(.int 0 0),(.int 3 0),(.ref 97),(.bool true),(.int 181 0),(.ref 98),.none,(.ref 99),(.ref 100),(.ref 101),(.int 308 0),(.int 21 0),(.str (Str.ofString "/claim/cut.py") 309)]) }
noncomputable def ob90:Obj:={ cls:=(.type "function"),data:=(.func (kU (kC st6 0) (Str.ofString "__init__") (Str.ofString "Absent.__init__") 3 (.str (Str.ofString "spotlook.errors") 187) (.ref 102))) }
noncomputable def ob91:Obj:=kTu [(.str (Str.ofString "number") 311)]
noncomputable def ob92(P:Params):Obj:={ cls:=(.type "dict"),data:=.dict (List.toArray [hE P (Str.ofString "__module__") 298 (.str (Str.ofString "spotlook.errors") 187),hE P (Str.ofString "__firstlineno__") 302 (.int 19 301),hE P (Str.ofString "__init__") 310 (.ref 103),hE P (Str.ofString "__static_attributes__") 312 (.ref 104),hE P (Str.ofString "__doc__") 313 .none]) 2 }
noncomputable def ob93:Obj:={ cls:=(.type "type"),data:=(.cls { name:=(Str.ofString "Absent"),bases:=[(.ref 24)],mro:=[(.ref 106),(.ref 24),(.type "ValueError"),(.type "Exception"),(.type "BaseException"),(.type "object")],ns:=105,qualname:=(Str.ofString "Absent"),hasDict:=true,slotNames:=[],subclasses:=[],abstract:=false,collection:=none,hasDel:=false }),slots:=#[(some (.ref 90)),none,(some (.str (Str.ofString "Absent") 291)),(some (.str (Str.ofString "Absent") 299)),(some (.builtin "ValueError.__new__")),(some (.bool true))] }
noncomputable def ob94:Obj:={ cls:=(.type "super"),data:=(.fields #[(.ref 106),(.ref 106),(.ref 106)]) }
noncomputable def ob95:Obj:={ cls:=(.type "builtin_function_or_method"),data:=(.fields #[(.builtin "object.__init_subclass__"),(.ref 106)]) }
noncomputable def ob96(P:Params):Obj:={ cls:=(.type "dict"),data:=.dict (List.toArray (hE P (Str.ofString "__name__") 165 (.str (Str.ofString "spotlook.errors") 187)::(en3 P).take 15)) 16 }
noncomputable def ob97:Obj:={ cls:=.none,data:=.fields (List.toArray (fl12.take 21)) }
noncomputable def ob98:Obj:={ cls:=(.type "type"),data:=(.cls { name:=(Str.ofString "SpotError"),bases:=[(.type "ValueError")],mro:=[(.ref 24),(.type "ValueError"),(.type "Exception"),(.type "BaseException"),(.type "object")],ns:=23,qualname:=(Str.ofString "SpotError"),hasDict:=true,slotNames:=[],subclasses:=[(.ref 37),(.ref 49),(.ref 68),(.ref 87),(.ref 106),(.ref 125)],abstract:=false,collection:=none,hasDel:=false }),slots:=#[(some (.ref 15)),none,(some (.str (Str.ofString "SpotError") 189)),(some (.str (Str.ofString "SpotError") 197)),(some (.builtin "ValueError.__new__")),(some (.bool true))] }
noncomputable def ob99(P:Params):Obj:={ cls:=(.type "dict"),data:=.dict (List.toArray [hE P (Str.ofString "__module__") 323 (.str (Str.ofString "spotlook.errors") 187),hE P (Str.ofString "__qualname__") 325 (.str (Str.ofString "NoText") 324),hE P (Str.ofString "__firstlineno__") 327 (.int 24 326),hE P (Str.ofString "__init__") 335 (.ref 122),hE P (Str.ofString "__static_attributes__") 337 (.ref 123)]) 5 }
noncomputable def ob100:Obj:=kFd [(.int 26 0),(.int 4 0),(.ref 121)]
noncomputable def ob101:Obj:={ cls:=(.type "code"),data:=(.fields #[(.str (Str.ofString "NoText") 318),(.str (Str.ofString "NoText") 319),(.str (Str.ofString "/claim/cut.py") 320),(.int 24 0),(.int 0 0),(.int 0 0),(.int 0 0),(.int 0 0),(.ref 112),(.bool false),(.int 181 0),(.ref 113),.none,.none,.none,.none,(.int 321 0),(.int 24 0),(.str (Str.ofString "/claim/cut.py") 322)]) }
noncomputable def ob102:Obj:={ cls:=(.type "frame"),slots:=#[(some (.ref 114)),(some (.ref 3)),(some (.ref 111)),none,(some (.str (Str.ofString "spotlook.errors") 187)),none,(some (.ref 0))] }
noncomputable def ob103:Obj:=kTu [(.str (Str.ofString "self") 331),(.str (Str.ofString "row") 332)]
noncomputable def ob104:Obj:={ cls:=.none,data:=(.func (kU (kC st7 0) (Str.ofString "__init__") (Str.ofString "NoText.__init__") 0 .none .none)) }
noncomputable def ob105:Obj:={ cls:=(.type "code"),data:=(.fields #[(.str (Str.ofString "__init__") 328),(.str (Str.ofString "NoText.__init__") 329),(.str (Str.ofString "/claim/cut.py") 330),(.int 26 0),(.int 2 0),(.int 0 0),(.int 0 0),(.int 3 0),(.ref 116),(.bool true),(.int 181 0),(.ref 117),.none,(.ref 118),(.ref 119),(.ref 120),(.int 333 0),(.int 26 0),(.str (Str.ofString "/claim/cut.py") 334)]) }
noncomputable def ob106:Obj:={ cls:=(.type "function"),data:=(.func (kU (kC st7 0) (Str.ofString "__init__") (Str.ofString "NoText.__init__") 3 (.str (Str.ofString "spotlook.errors") 187) (.ref 121))) }
noncomputable def ob107:Obj:=kTu [(.str (Str.ofString "row") 336)]
noncomputable def ob108(P:Params):Obj:={ cls:=(.type "dict"),data:=.dict (List.toArray [hE P (Str.ofString "__module__") 323 (.str (Str.ofString "spotlook.errors") 187),hE P (Str.ofString "__firstlineno__") 327 (.int 24 326),hE P (Str.ofString "__init__") 335 (.ref 122),hE P (Str.ofString "__static_attributes__") 337 (.ref 123),hE P (Str.ofString "__doc__") 338 .none]) 2 }
noncomputable def ob109:Obj:={ cls:=(.type "type"),data:=(.cls { name:=(Str.ofString "NoText"),bases:=[(.ref 24)],mro:=[(.ref 125),(.ref 24),(.type "ValueError"),(.type "Exception"),(.type "BaseException"),(.type "object")],ns:=124,qualname:=(Str.ofString "NoText"),hasDict:=true,slotNames:=[],subclasses:=[],abstract:=false,collection:=none,hasDel:=false }),slots:=#[(some (.ref 109)),none,(some (.str (Str.ofString "NoText") 316)),(some (.str (Str.ofString "NoText") 324)),(some (.builtin "ValueError.__new__")),(some (.bool true))] }
noncomputable def ob110:Obj:={ cls:=(.type "super"),data:=(.fields #[(.ref 125),(.ref 125),(.ref 125)]) }
noncomputable def ob111:Obj:={ cls:=(.type "builtin_function_or_method"),data:=(.fields #[(.builtin "object.__init_subclass__"),(.ref 125)]) }
noncomputable def ob112(P:Params):Obj:={ cls:=(.type "dict"),data:=.dict (List.toArray (hE P (Str.ofString "__name__") 165 (.str (Str.ofString "spotlook.fractions") 357)::(en3 P).take 21)) 22 }
noncomputable def ob113:Obj:={ cls:=.none,data:=.fields (List.toArray (fl12.take 39)) }
noncomputable def ob114:Obj:={ cls:=(.type "type"),data:=(.cls { name:=(Str.ofString "SpotError"),bases:=[(.type "ValueError")],mro:=[(.ref 24),(.type "ValueError"),(.type "Exception"),(.type "BaseException"),(.type "object")],ns:=23,qualname:=(Str.ofString "SpotError"),hasDict:=true,slotNames:=[],subclasses:=[(.ref 37),(.ref 49),(.ref 68),(.ref 87),(.ref 106),(.ref 125),(.ref 137)],abstract:=false,collection:=none,hasDel:=false }),slots:=#[(some (.ref 15)),none,(some (.str (Str.ofString "SpotError") 189)),(some (.str (Str.ofString "SpotError") 197)),(some (.builtin "ValueError.__new__")),(some (.bool true))] }
noncomputable def ob115(P:Params):Obj:={ cls:=(.type "dict"),data:=.dict (List.toArray [hE P (Str.ofString "__module__") 348 (.str (Str.ofString "spotlook.errors") 187),hE P (Str.ofString "__qualname__") 350 (.str (Str.ofString "NoRow") 349),hE P (Str.ofString "__firstlineno__") 352 (.int 29 351),hE P (Str.ofString "__static_attributes__") 353 (.ref 135)]) 4 }
noncomputable def ob116:Obj:={ cls:=(.type "code"),data:=(.fields #[(.str (Str.ofString "NoRow") 343),(.str (Str.ofString "NoRow") 344),(.str (Str.ofString "/claim/cut.py") 345),(.int 29 0),(.int 0 0),(.int 0 0),(.int 0 0),(.int 0 0),(.ref 131),(.bool false),(.int 181 0),(.ref 132),.none,.none,.none,.none,(.int 346 0),(.int 29 0),(.str (Str.ofString "/claim/cut.py") 347)]) }
noncomputable def ob117:Obj:={ cls:=(.type "frame"),slots:=#[(some (.ref 133)),(some (.ref 3)),(some (.ref 130)),none,(some (.str (Str.ofString "spotlook.errors") 187)),none,(some (.ref 0))] }
noncomputable def ob118(P:Params):Obj:={ cls:=(.type "dict"),data:=.dict (List.toArray [hE P (Str.ofString "__module__") 348 (.str (Str.ofString "spotlook.errors") 187),hE P (Str.ofString "__firstlineno__") 352 (.int 29 351),hE P (Str.ofString "__static_attributes__") 353 (.ref 135),hE P (Str.ofString "__doc__") 354 .none]) 2 }
noncomputable def ob119:Obj:={ cls:=(.type "type"),data:=(.cls { name:=(Str.ofString "NoRow"),bases:=[(.ref 24)],mro:=[(.ref 137),(.ref 24),(.type "ValueError"),(.type "Exception"),(.type "BaseException"),(.type "object")],ns:=136,qualname:=(Str.ofString "NoRow"),hasDict:=true,slotNames:=[],subclasses:=[],abstract:=false,collection:=none,hasDel:=false }),slots:=#[(some (.ref 128)),none,(some (.str (Str.ofString "NoRow") 341)),(some (.str (Str.ofString "NoRow") 349)),(some (.builtin "ValueError.__new__")),(some (.bool true))] }
noncomputable def ob120:Obj:={ cls:=(.type "super"),data:=(.fields #[(.ref 137),(.ref 137),(.ref 137)]) }
noncomputable def ob121:Obj:={ cls:=(.type "builtin_function_or_method"),data:=(.fields #[(.builtin "object.__init_subclass__"),(.ref 137)]) }
noncomputable def ob122:Obj:=kTu [(.str (Str.ofString "one") 362),(.str (Str.ofString "other") 363)]
noncomputable def ob123:Obj:=hF .none st10 (Str.ofString "greatest_divisor") 0 .none .none
noncomputable def ob124:Obj:=hC (Str.ofString "greatest_divisor") 359 360 361 365 140 141 142 143 144 32 2 0 0 3 181 364 32 true
noncomputable def ob125:Obj:=hF (.type "function") st10 (Str.ofString "greatest_divisor") 3 (.str (Str.ofString "spotlook.fractions") 357) (.ref 145)
noncomputable def ob126:Obj:=kTu [(.str (Str.ofString "top") 370),(.str (Str.ofString "bottom") 371),(.str (Str.ofString "divisor") 372)]
noncomputable def ob127:Obj:=hF .none st11 (Str.ofString "fraction") 0 .none .none
noncomputable def ob128:Obj:=hC (Str.ofString "fraction") 367 368 369 374 147 148 149 150 151 36 2 0 0 3 181 373 36 true
noncomputable def ob129:Obj:=hF (.type "function") st11 (Str.ofString "fraction") 3 (.str (Str.ofString "spotlook.fractions") 357) (.ref 152)
noncomputable def ob130:Obj:=kTu [(.str (Str.ofString "one") 379),(.str (Str.ofString "other") 380)]
noncomputable def ob131:Obj:=hF .none st12 (Str.ofString "plus") 0 .none .none
noncomputable def ob132:Obj:=hC (Str.ofString "plus") 376 377 378 382 154 155 156 157 158 43 2 0 0 3 181 381 43 true
noncomputable def ob133:Obj:=hF (.type "function") st12 (Str.ofString "plus") 3 (.str (Str.ofString "spotlook.fractions") 357) (.ref 159)
noncomputable def ob134:Obj:=kTu [(.str (Str.ofString "one") 387),(.str (Str.ofString "other") 388)]
noncomputable def ob135:Obj:=hF .none st13 (Str.ofString "less") 0 .none .none
noncomputable def ob136:Obj:=hC (Str.ofString "less") 384 385 386 390 161 162 163 164 165 45 2 0 0 3 181 389 45 true
noncomputable def ob137:Obj:=hF (.type "function") st13 (Str.ofString "less") 3 (.str (Str.ofString "spotlook.fractions") 357) (.ref 166)
noncomputable def ob138:Obj:=kTu [(.str (Str.ofString "one") 395),(.str (Str.ofString "other") 396)]
noncomputable def ob139:Obj:=hF .none st14 (Str.ofString "times") 0 .none .none
noncomputable def ob140:Obj:=hC (Str.ofString "times") 392 393 394 398 168 169 170 171 172 47 2 0 0 3 181 397 47 true
noncomputable def ob141:Obj:=hF (.type "function") st14 (Str.ofString "times") 3 (.str (Str.ofString "spotlook.fractions") 357) (.ref 173)
noncomputable def ob142(P:Params):Obj:={ cls:=(.type "dict"),data:=.dict (List.toArray (hE P (Str.ofString "__name__") 165 (.str (Str.ofString "spotlook.plots") 493)::(en3 P).take 33)) 34 }
noncomputable def ob143:Obj:={ cls:=.none,data:=.fields (List.toArray (fl12.take 72)) }
noncomputable def ob144:Obj:=kTu [(.str (Str.ofString "one") 403),(.str (Str.ofString "other") 404)]
noncomputable def ob145:Obj:=hF .none st15 (Str.ofString "over") 0 .none .none
noncomputable def ob146:Obj:=hC (Str.ofString "over") 400 401 402 406 175 176 177 178 179 49 2 0 0 3 181 405 49 true
noncomputable def ob147:Obj:=hF (.type "function") st15 (Str.ofString "over") 3 (.str (Str.ofString "spotlook.fractions") 357) (.ref 180)
noncomputable def ob148:Obj:=kTu [(.str (Str.ofString "one") 411),(.str (Str.ofString "other") 412)]
noncomputable def ob149:Obj:=hF .none st16 (Str.ofString "is_less") 0 .none .none
noncomputable def ob150:Obj:=hC (Str.ofString "is_less") 408 409 410 414 182 183 184 185 186 51 2 0 0 3 181 413 51 true
noncomputable def ob151:Obj:=hF (.type "function") st16 (Str.ofString "is_less") 3 (.str (Str.ofString "spotlook.fractions") 357) (.ref 187)
noncomputable def ob152:Obj:=kTu [(.str (Str.ofString "one") 421),(.str (Str.ofString "other") 422)]
noncomputable def ob153:Obj:=hF .none st18 (Str.ofString "is_ahead") 0 .none .none
noncomputable def ob154:Obj:=hC (Str.ofString "is_ahead") 418 419 420 424 189 190 191 192 193 54 2 0 0 3 181 423 54 true
noncomputable def ob155:Obj:=hF (.type "function") st18 (Str.ofString "is_ahead") 3 (.str (Str.ofString "spotlook.spots") 416) (.ref 194)
noncomputable def ob156:Obj:=kTu [(.str (Str.ofString "one") 429),(.str (Str.ofString "other") 430)]
noncomputable def ob157:Obj:=hF .none st19 (Str.ofString "later_of") 0 .none .none
noncomputable def ob158:Obj:=hC (Str.ofString "later_of") 426 427 428 432 196 197 198 199 200 58 2 0 0 3 181 431 58 true
noncomputable def ob159:Obj:=hF (.type "function") st19 (Str.ofString "later_of") 3 (.str (Str.ofString "spotlook.spots") 416) (.ref 201)
noncomputable def ob160:Obj:=kTu [(.str (Str.ofString "one") 437),(.str (Str.ofString "other") 438)]
noncomputable def ob161:Obj:=hF .none st20 (Str.ofString "earlier_of") 0 .none .none
noncomputable def ob162:Obj:=hC (Str.ofString "earlier_of") 434 435 436 440 203 204 205 206 207 60 2 0 0 3 181 439 60 true
noncomputable def ob163:Obj:=hF (.type "function") st20 (Str.ofString "earlier_of") 3 (.str (Str.ofString "spotlook.spots") 416) (.ref 208)
noncomputable def ob164:Obj:=kTu [(.str (Str.ofString "spot") 445),(.str (Str.ofString "x") 446),(.str (Str.ofString "y") 447)]
noncomputable def ob165:Obj:=hF .none st21 (Str.ofString "own_spot") 0 .none .none
noncomputable def ob166:Obj:=hC (Str.ofString "own_spot") 442 443 444 449 210 211 212 213 214 62 1 0 0 3 181 448 62 true
noncomputable def ob167:Obj:=hF (.type "function") st21 (Str.ofString "own_spot") 3 (.str (Str.ofString "spotlook.spots") 416) (.ref 215)
noncomputable def ob168:Obj:=kTu [(.str (Str.ofString "wall") 454)]
noncomputable def ob169:Obj:=hF .none st22 (Str.ofString "own_wall") 0 .none .none
noncomputable def ob170:Obj:=hC (Str.ofString "own_wall") 451 452 453 456 217 218 219 220 221 65 1 0 0 3 181 455 65 true
noncomputable def ob171:Obj:=hF (.type "function") st22 (Str.ofString "own_wall") 3 (.str (Str.ofString "spotlook.spots") 416) (.ref 222)
noncomputable def ob172:Obj:=kTu [(.str (Str.ofString "one") 461),(.str (Str.ofString "other") 462)]
noncomputable def ob173:Obj:=hF .none st23 (Str.ofString "gap") 0 .none .none
noncomputable def ob174:Obj:=hC (Str.ofString "gap") 458 459 460 464 224 225 226 227 228 67 2 0 0 3 181 463 67 true
noncomputable def ob175:Obj:=hF (.type "function") st23 (Str.ofString "gap") 3 (.str (Str.ofString "spotlook.spots") 416) (.ref 229)
noncomputable def ob176:Obj:=kTu [(.str (Str.ofString "wall") 469),(.str (Str.ofString "spot") 470),(.str (Str.ofString "a") 471),(.str (Str.ofString "b") 472),(.str (Str.ofString "c") 473),(.str (Str.ofString "d") 474),(.str (Str.ofString "x") 475),(.str (Str.ofString "y") 476),(.str (Str.ofString "across") 477),(.str (Str.ofString "up") 478),(.str (Str.ofString "along") 479),(.str (Str.ofString "high") 480)]
noncomputable def ob177:Obj:=hF .none st24 (Str.ofString "lean") 0 .none .none
noncomputable def ob178:Obj:=hC (Str.ofString "lean") 466 467 468 482 231 232 233 234 235 69 2 0 0 3 181 481 69 true
noncomputable def ob179:Obj:=hF (.type "function") st24 (Str.ofString "lean") 3 (.str (Str.ofString "spotlook.spots") 416) (.ref 236)
noncomputable def ob180:Obj:=kTu [(.str (Str.ofString "wall") 487),(.str (Str.ofString "spot") 488),(.str (Str.ofString "top") 489)]
noncomputable def ob181:Obj:=hF .none st25 (Str.ofString "side_of") 0 .none .none
noncomputable def ob182:Obj:=hC (Str.ofString "side_of") 484 485 486 491 238 239 240 241 242 75 2 0 0 3 181 490 75 true
noncomputable def ob183:Obj:=hF (.type "function") st25 (Str.ofString "side_of") 3 (.str (Str.ofString "spotlook.spots") 416) (.ref 243)
noncomputable def ob184:Obj:=kTu [(.str (Str.ofString "one") 500),(.str (Str.ofString "other") 501),(.str (Str.ofString "first_side") 502),(.str (Str.ofString "second_side") 503)]
noncomputable def ob185:Obj:=hF .none st28 (Str.ofString "meeting") 0 .none .none
noncomputable def ob186:Obj:=hC (Str.ofString "meeting") 497 498 499 505 245 246 247 248 249 84 2 0 0 3 181 504 84 true
noncomputable def ob187:Obj:=hF (.type "function") st28 (Str.ofString "meeting") 3 (.str (Str.ofString "spotlook.plots") 493) (.ref 250)
noncomputable def ob188(P:Params):Obj:={ cls:=(.type "dict"),data:=.dict (List.toArray (hE P (Str.ofString "__name__") 165 (.str (Str.ofString "law_spotlook_k09_no_plots") 575)::(en3 P).take 45)) 46 }
noncomputable def ob189:Obj:={ cls:=.none,data:=.fields (List.toArray (fl12.take 108)) }
noncomputable def ob190:Obj:=kTu [(.str (Str.ofString "one") 510),(.str (Str.ofString "other") 511),(.str (Str.ofString "start") 512),(.str (Str.ofString "end") 513)]
noncomputable def ob191:Obj:=hF .none st29 (Str.ofString "meeting_in_line") 0 .none .none
noncomputable def ob192:Obj:=hC (Str.ofString "meeting_in_line") 507 508 509 515 252 253 254 255 256 91 2 0 0 3 181 514 91 true
noncomputable def ob193:Obj:=hF (.type "function") st29 (Str.ofString "meeting_in_line") 3 (.str (Str.ofString "spotlook.plots") 493) (.ref 257)
noncomputable def ob194:Obj:=kTu [(.str (Str.ofString "one") 520),(.str (Str.ofString "other") 521),(.str (Str.ofString "start") 522),(.str (Str.ofString "end") 523),(.str (Str.ofString "top") 524),(.str (Str.ofString "bottom") 525),(.str (Str.ofString "from_start") 526),(.str (Str.ofString "share") 527)]
noncomputable def ob195:Obj:=hF .none st30 (Str.ofString "crossing_spot") 0 .none .none
noncomputable def ob196:Obj:=hC (Str.ofString "crossing_spot") 517 518 519 529 259 260 261 262 263 99 2 0 0 3 181 528 99 true
noncomputable def ob197:Obj:=hF (.type "function") st30 (Str.ofString "crossing_spot") 3 (.str (Str.ofString "spotlook.plots") 493) (.ref 264)
noncomputable def ob198:Obj:=kTu [(.str (Str.ofString "start") 534),(.str (Str.ofString "end") 535),(.str (Str.ofString "share") 536)]
noncomputable def ob199:Obj:=hF .none st31 (Str.ofString "number_between") 0 .none .none
noncomputable def ob200:Obj:=hC (Str.ofString "number_between") 531 532 533 538 266 267 268 269 270 106 3 0 0 3 181 537 106 true
noncomputable def ob201:Obj:=hF (.type "function") st31 (Str.ofString "number_between") 3 (.str (Str.ofString "spotlook.plots") 493) (.ref 271)
noncomputable def ob202:Obj:=kTu [(.str (Str.ofString "one") 543),(.str (Str.ofString "other") 544),(.str (Str.ofString "met") 545)]
noncomputable def ob203:Obj:=hF .none st32 (Str.ofString "meet_as_in_plots") 0 .none .none
noncomputable def ob204:Obj:=hC (Str.ofString "meet_as_in_plots") 540 541 542 547 273 274 275 276 277 108 2 0 0 3 181 546 108 true
noncomputable def ob205:Obj:=hF (.type "function") st32 (Str.ofString "meet_as_in_plots") 3 (.str (Str.ofString "spotlook.plots") 493) (.ref 278)
noncomputable def ob206:Obj:=kTu [(.str (Str.ofString "walls") 552),(.str (Str.ofString "wall") 553),(.str (Str.ofString "number") 554),(.str (Str.ofString "other") 555)]
noncomputable def ob207:Obj:=hF .none st33 (Str.ofString "first_crossed") 0 .none .none
noncomputable def ob208:Obj:=hC (Str.ofString "first_crossed") 549 550 551 557 280 281 282 283 284 113 2 0 0 3 181 556 113 true
noncomputable def ob209:Obj:=hF (.type "function") st33 (Str.ofString "first_crossed") 3 (.str (Str.ofString "spotlook.plots") 493) (.ref 285)
noncomputable def ob210:Obj:=kTu [(.str (Str.ofString "walls") 562),(.str (Str.ofString "number") 563),(.str (Str.ofString "wall") 564),(.str (Str.ofString "other") 565)]
noncomputable def ob211:Obj:=hF .none st34 (Str.ofString "plot_of") 0 .none .none
noncomputable def ob212:Obj:=hC (Str.ofString "plot_of") 559 560 561 567 287 288 289 290 291 118 1 0 0 3 181 566 118 true
noncomputable def ob213:Obj:=hF (.type "function") st34 (Str.ofString "plot_of") 3 (.str (Str.ofString "spotlook.plots") 493) (.ref 292)
noncomputable def ob214:Obj:=hF .none st35 (Str.ofString "own_plot") 0 .none .none
noncomputable def ob215:Obj:={ cls:=(.type "code"),data:=(.fields #[(.str (Str.ofString "own_plot") 569),(.str (Str.ofString "own_plot") 570),(.str (Str.ofString "/claim/cut.py") 571),(.int 126 0),(.int 1 0),(.int 0 0),(.int 0 0),(.int 3 0),(.ref 294),(.bool true),(.int 181 0),(.ref 295),.none,.none,.none,(.ref 296),(.int 572 0),(.int 126 0),(.str (Str.ofString "/claim/cut.py") 573)]) }
noncomputable def ob216:Obj:=hF (.type "function") st35 (Str.ofString "own_plot") 3 (.str (Str.ofString "spotlook.plots") 493) (.ref 297)
noncomputable def ob217:Obj:=kTu [(.str (Str.ofString "_law_script") 580),(.str (Str.ofString "_law_k") 581)]
noncomputable def ob218:Obj:=hF .none st37 (Str.ofString "_law_cell_at") 0 .none .none
noncomputable def ob219:Obj:=hC (Str.ofString "_law_cell_at") 577 578 579 583 299 300 301 302 303 129 2 0 0 3 181 582 129 true
noncomputable def ob220:Obj:=hF (.type "function") st37 (Str.ofString "_law_cell_at") 3 (.str (Str.ofString "law_spotlook_k09_no_plots") 575) (.ref 304)
noncomputable def ob221:Obj:=kTu [(.str (Str.ofString "_law_row") 588),(.str (Str.ofString "_law_base") 589),(.str (Str.ofString "_law_rest") 590),(.str (Str.ofString "_law_number") 591)]
noncomputable def ob222:Obj:=hF .none st38 (Str.ofString "_law_take") 0 .none .none
noncomputable def ob223:Obj:=hC (Str.ofString "_law_take") 585 586 587 593 306 307 308 309 310 133 2 0 0 3 181 592 133 true
noncomputable def ob224:Obj:=hF (.type "function") st38 (Str.ofString "_law_take") 3 (.str (Str.ofString "law_spotlook_k09_no_plots") 575) (.ref 311)
noncomputable def ob225:Obj:=kTu [(.str (Str.ofString "_law_top") 598),(.str (Str.ofString "_law_bottom") 599),(.str (Str.ofString "_law_one") 600),(.str (Str.ofString "_law_other") 601)]
noncomputable def ob226:Obj:=hF .none st39 (Str.ofString "_law_low") 0 .none .none
noncomputable def ob227:Obj:=hC (Str.ofString "_law_low") 595 596 597 603 313 314 315 316 317 142 2 0 0 3 181 602 142 true
noncomputable def ob228:Obj:=hF (.type "function") st39 (Str.ofString "_law_low") 3 (.str (Str.ofString "law_spotlook_k09_no_plots") 575) (.ref 318)
noncomputable def ob229:Obj:=kTu [(.str (Str.ofString "_law_row") 608),(.str (Str.ofString "_law_top") 609),(.str (Str.ofString "_law_bottom") 610),(.str (Str.ofString "_law_far") 611)]
noncomputable def ob230:Obj:=hF .none st40 (Str.ofString "_law_scale") 0 .none .none
noncomputable def ob231:Obj:=hC (Str.ofString "_law_scale") 605 606 607 613 320 321 322 323 324 150 1 0 0 3 181 612 150 true
noncomputable def ob232:Obj:=hF (.type "function") st40 (Str.ofString "_law_scale") 3 (.str (Str.ofString "law_spotlook_k09_no_plots") 575) (.ref 325)
noncomputable def ob233:Obj:=kTu [(.str (Str.ofString "_law_scale_here") 618),(.str (Str.ofString "_law_unit") 619),(.str (Str.ofString "_law_top") 620),(.str (Str.ofString "_law_bottom") 621),(.str (Str.ofString "_law_x") 622),(.str (Str.ofString "_law_y") 623)]
noncomputable def ob234:Obj:=hF .none st41 (Str.ofString "_law_spot") 0 .none .none
noncomputable def ob235:Obj:=hC (Str.ofString "_law_spot") 615 616 617 625 327 328 329 330 331 156 2 0 0 3 181 624 156 true
noncomputable def ob236:Obj:=hF (.type "function") st41 (Str.ofString "_law_spot") 3 (.str (Str.ofString "law_spotlook_k09_no_plots") 575) (.ref 332)
noncomputable def ob237(P:Params):Obj:={ cls:=(.type "dict"),data:=.dict (List.toArray (hE P (Str.ofString "__name__") 165 (.str (Str.ofString "law_spotlook_k09_no_plots") 575)::(en3 P).take 55)) 56 }
noncomputable def ob238:Obj:={ cls:=.none,data:=.fields (List.toArray (fl12.take 138)) }
noncomputable def ob239:Obj:=hF .none st42 (Str.ofString "_law_made") 0 .none .none
noncomputable def ob240:Obj:={ cls:=(.type "code"),data:=(.fields #[(.str (Str.ofString "_law_made") 627),(.str (Str.ofString "_law_made") 628),(.str (Str.ofString "/claim/cut.py") 629),(.int 159 0),(.int 2 0),(.int 0 0),(.int 0 0),(.int 3 0),(.ref 334),(.bool true),(.int 181 0),(.ref 335),.none,.none,.none,(.ref 336),(.int 630 0),(.int 159 0),(.str (Str.ofString "/claim/cut.py") 631)]) }
noncomputable def ob241:Obj:=hF (.type "function") st42 (Str.ofString "_law_made") 3 (.str (Str.ofString "law_spotlook_k09_no_plots") 575) (.ref 337)
noncomputable def ob242:Obj:=kTu [(.str (Str.ofString "_law_one") 636),(.str (Str.ofString "_law_two") 637),(.str (Str.ofString "_law_three") 638),(.str (Str.ofString "_law_far") 639),(.str (Str.ofString "_law_beside") 640),(.str (Str.ofString "_law_found") 641)]
noncomputable def ob243:Obj:=hF .none st43 (Str.ofString "_law_turn") 0 .none .none
noncomputable def ob244:Obj:=hC (Str.ofString "_law_turn") 633 634 635 643 339 340 341 342 343 161 3 0 0 3 181 642 161 true
noncomputable def ob245:Obj:=hF (.type "function") st43 (Str.ofString "_law_turn") 3 (.str (Str.ofString "law_spotlook_k09_no_plots") 575) (.ref 344)
noncomputable def ob246:Obj:=kTu [(.str (Str.ofString "_law_shut") 648),(.str (Str.ofString "_law_spot_here") 649)]
noncomputable def ob247:Obj:=hF .none st44 (Str.ofString "_law_on") 0 .none .none
noncomputable def ob248:Obj:=hC (Str.ofString "_law_on") 645 646 647 651 346 347 348 349 350 166 2 0 0 3 181 650 166 true
noncomputable def ob249:Obj:=hF (.type "function") st44 (Str.ofString "_law_on") 3 (.str (Str.ofString "law_spotlook_k09_no_plots") 575) (.ref 351)
noncomputable def ob250:Obj:=hF .none st45 (Str.ofString "_law_fair") 0 .none .none
noncomputable def ob251:Obj:={ cls:=(.type "code"),data:=(.fields #[(.str (Str.ofString "_law_fair") 653),(.str (Str.ofString "_law_fair") 654),(.str (Str.ofString "/claim/cut.py") 655),(.int 168 0),(.int 2 0),(.int 0 0),(.int 0 0),(.int 3 0),(.ref 353),(.bool true),(.int 181 0),(.ref 354),.none,.none,.none,(.ref 355),(.int 656 0),(.int 168 0),(.str (Str.ofString "/claim/cut.py") 657)]) }
noncomputable def ob252:Obj:=hF (.type "function") st45 (Str.ofString "_law_fair") 3 (.str (Str.ofString "law_spotlook_k09_no_plots") 575) (.ref 356)
noncomputable def ob253:Obj:=hF .none st46 (Str.ofString "_law_shuts_here") 0 .none .none
noncomputable def ob254:Obj:={ cls:=(.type "code"),data:=(.fields #[(.str (Str.ofString "_law_shuts_here") 659),(.str (Str.ofString "_law_shuts_here") 660),(.str (Str.ofString "/claim/cut.py") 661),(.int 178 0),(.int 3 0),(.int 0 0),(.int 0 0),(.int 3 0),(.ref 358),(.bool true),(.int 181 0),(.ref 359),.none,.none,.none,(.ref 360),(.int 662 0),(.int 178 0),(.str (Str.ofString "/claim/cut.py") 663)]) }
noncomputable def ob255:Obj:=hF (.type "function") st46 (Str.ofString "_law_shuts_here") 3 (.str (Str.ofString "law_spotlook_k09_no_plots") 575) (.ref 361)
noncomputable def ob256:Obj:=kTu [(.str (Str.ofString "_law_heard") 668),(.str (Str.ofString "_law_place") 669),(.str (Str.ofString "_law_kinds") 670)]
noncomputable def ob257:Obj:=hF .none st47 (Str.ofString "_law_alone") 0 .none .none
noncomputable def ob258:Obj:=hC (Str.ofString "_law_alone") 665 666 667 672 363 364 365 366 367 189 2 0 0 3 181 671 189 true
noncomputable def ob259:Obj:=hF (.type "function") st47 (Str.ofString "_law_alone") 3 (.str (Str.ofString "law_spotlook_k09_no_plots") 575) (.ref 368)
noncomputable def ob260:Obj:=kTu [(.str (Str.ofString "_law_shuts") 677),(.str (Str.ofString "_law_heard") 678),(.str (Str.ofString "_law_found") 679),(.str (Str.ofString "e") 680)]
noncomputable def ob261:Obj:=hF .none st48 (Str.ofString "_law_told") 0 .none .none
noncomputable def ob262:Obj:=hC (Str.ofString "_law_told") 674 675 676 682 370 371 372 373 374 194 1 0 0 3 181 681 194 true
noncomputable def ob263:Obj:=hF (.type "function") st48 (Str.ofString "_law_told") 3 (.str (Str.ofString "law_spotlook_k09_no_plots") 575) (.ref 375)
noncomputable def ob264:Obj:=kTu [(.str (Str.ofString "_law_row") 687),(.str (Str.ofString "_law_shuts") 688),(.str (Str.ofString "_law_one") 689),(.str (Str.ofString "_law_other") 690),(.str (Str.ofString "_law_way") 691),(.str (Str.ofString "_law_beside") 692)]
noncomputable def ob265:Obj:=hF .none st49 (Str.ofString "_law_more") 0 .none .none
noncomputable def ob266:Obj:=hC (Str.ofString "_law_more") 684 685 686 694 377 378 379 380 381 208 2 0 0 3 181 693 208 true
noncomputable def ob267:Obj:=hF (.type "function") st49 (Str.ofString "_law_more") 3 (.str (Str.ofString "law_spotlook_k09_no_plots") 575) (.ref 382)
noncomputable def ob268:Obj:=kTu [(.str (Str.ofString "_law_shuts") 699),(.str (Str.ofString "_law_made_here") 700),(.str (Str.ofString "_law_number") 701),(.str (Str.ofString "_law_other") 702)]
noncomputable def ob269:Obj:=hF .none st50 (Str.ofString "_law_due") 0 .none .none
noncomputable def ob270:Obj:=hC (Str.ofString "_law_due") 696 697 698 704 384 385 386 387 388 223 2 0 0 3 181 703 223 true
noncomputable def ob271:Obj:=hF (.type "function") st50 (Str.ofString "_law_due") 3 (.str (Str.ofString "law_spotlook_k09_no_plots") 575) (.ref 389)
noncomputable def ob272:Obj:=hF .none st51 (Str.ofString "law") 0 .none .none
noncomputable def ob273:Obj:={ cls:=(.type "code"),data:=(.fields #[(.str (Str.ofString "law") 706),(.str (Str.ofString "law") 707),(.str (Str.ofString "/claim/cut.py") 708),(.int 231 0),(.int 1 0),(.int 0 0),(.int 0 0),(.int 3 0),(.ref 391),(.bool true),(.int 181 0),(.ref 392),.none,.none,.none,(.ref 393),(.int 709 0),(.int 231 0),(.str (Str.ofString "/claim/cut.py") 710)]) }
noncomputable def ob274:Obj:=hF (.type "function") st51 (Str.ofString "law") 3 (.str (Str.ofString "law_spotlook_k09_no_plots") 575) (.ref 394)
noncomputable def oL0(P:Params):List Obj:=[PySem.W.boot_o_0 P,PySem.W.boot_o_1 P,PySem.W.boot_o_2 P,PySem.W.boot_o_3 P,PySem.W.boot_o_4 P,PySem.W.boot_o_5 P,PySem.W.boot_o_6 P,PySem.W.boot_o_7 P,PySem.W.boot_o_8 P,PySem.W.boot_o_9 P,PySem.W.boot_o_10 P,ob11,ob12,ob13,ob14,ob15 P]
noncomputable def oL1(P:Params):List Obj:=[ob16,ob17,ob18,ob19 P,ob20,ob21,ob22 P,ob23,ob24,ob25,ob26,ob27 P,ob28,ob29,ob30,ob31 P]
noncomputable def oL2(P:Params):List Obj:=[ob32,ob33,ob34 P,ob35,ob36,ob37,ob38 P,ob39,ob40,ob41 P,ob42,ob43,ob44 P,ob45,ob46,ob47]
noncomputable def oL3(P:Params):List Obj:=[ob48 P,ob49,ob50,ob51 P,ob52,ob53,ob54,ob55,ob56,ob57,ob58,ob59,ob60 P,ob61,ob62,ob63]
noncomputable def oL4(P:Params):List Obj:=[ob64 P,ob65,ob66,ob67 P,ob68,ob69,ob70,ob71,ob72,ob73,ob74,ob75,ob76 P,ob77,ob78,ob79]
noncomputable def oL5(P:Params):List Obj:=[ob80 P,ob81,ob82,ob83 P,ob84,ob85,ob86,ob87,ob88,ob89,ob90,ob91,ob92 P,ob93,ob94,ob95]
noncomputable def oL6(P:Params):List Obj:=[ob96 P,ob97,ob98,ob99 P,ob100,ob101,ob102,ob103,ob104,ob105,ob106,ob107,ob108 P,ob109,ob110,ob111]
noncomputable def oL7(P:Params):List Obj:=[ob112 P,ob113,ob114,ob115 P,ob116,ob117,ob118 P,ob119,ob120,ob121,ob122,ob123,ob124,ob125,ob126,ob127]
noncomputable def oL8(P:Params):List Obj:=[ob128,ob129,ob130,ob131,ob132,ob133,ob134,ob135,ob136,ob137,ob138,ob139,ob140,ob141,ob142 P,ob143]
noncomputable def oL9(P:Params):List Obj:=[ob144,ob145,ob146,ob147,ob148,ob149,ob150,ob151,ob152,ob153,ob154,ob155,ob156,ob157,ob158,ob159]
noncomputable def oL10(P:Params):List Obj:=[ob160,ob161,ob162,ob163,ob164,ob165,ob166,ob167,ob168,ob169,ob170,ob171,ob172,ob173,ob174,ob175]
noncomputable def oL11(P:Params):List Obj:=[ob176,ob177,ob178,ob179,ob180,ob181,ob182,ob183,ob184,ob185,ob186,ob187,ob188 P,ob189,ob190,ob191]
noncomputable def oL12(P:Params):List Obj:=[ob192,ob193,ob194,ob195,ob196,ob197,ob198,ob199,ob200,ob201,ob202,ob203,ob204,ob205,ob206,ob207]
noncomputable def oL13(P:Params):List Obj:=[ob208,ob209,ob210,ob211,ob212,ob213,ob214,ob215,ob216,ob217,ob218,ob219,ob220,ob221,ob222,ob223]
noncomputable def oL14(P:Params):List Obj:=[ob224,ob225,ob226,ob227,ob228,ob229,ob230,ob231,ob232,ob233,ob234,ob235,ob236,ob237 P,ob238,ob239]
noncomputable def oL15(P:Params):List Obj:=[ob240,ob241,ob242,ob243,ob244,ob245,ob246,ob247,ob248,ob249,ob250,ob251,ob252,ob253,ob254,ob255]
noncomputable def oL16(P:Params):List Obj:=[ob256,ob257,ob258,ob259,ob260,ob261,ob262,ob263,ob264,ob265,ob266,ob267,ob268,ob269,ob270,ob271]
noncomputable def oL17(P:Params):List Obj:=[ob272,ob273,ob274]
noncomputable def fA(c i:Nat)(P:Params):Obj:=(([oL0 P,oL1 P,oL2 P,oL3 P,oL4 P,oL5 P,oL6 P,oL7 P,oL8 P,oL9 P,oL10 P,oL11 P,oL12 P,oL13 P,oL14 P,oL15 P,oL16 P,oL17 P]:List (List Obj)).getD c []).getD i { cls:=.none }
noncomputable def tW0(n:Nat->Nat->PySem.W.BT->PySem.W.BT->PySem.W.BT)(e:PySem.W.BT):PySem.W.BT:=(n 0 0 (n 0 1 (n 0 3 (n 0 7 e e) (n 0 11 e e)) (n 0 5 (n 0 9 e e) (n 0 13 e e))) (n 0 2 (n 0 4 (n 0 8 e e) (n 0 12 e e)) (n 0 6 (n 0 10 e e) (n 0 14 e e))))
noncomputable def tX0(f:Nat->Nat->Params->Obj)(P:Params):PySem.W.BT:=tW0 (fun c i=>.node (f c i P)) .nil
noncomputable def tW1(n:Nat->Nat->PySem.W.BT->PySem.W.BT->PySem.W.BT)(e:PySem.W.BT):PySem.W.BT:=(n 0 0 (n 0 1 (n 0 15 (n 0 7 (n 1 1 e e) (n 1 6 e e)) (n 0 11 (n 0 12 e e) (n 1 10 e e))) (n 0 5 (n 0 9 (n 1 3 e e) (n 1 8 e e)) (n 0 13 (n 1 5 e e) e))) (n 0 2 (n 0 4 (n 0 8 (n 1 2 e e) (n 1 7 e e)) (n 1 0 (n 1 4 e e) e)) (n 0 6 (n 0 10 (n 0 11 e e) (n 1 9 e e)) (n 0 14 (n 0 11 e e) e))))
noncomputable def tX1(f:Nat->Nat->Params->Obj)(P:Params):PySem.W.BT:=tW1 (fun c i=>.node (f c i P)) .nil
noncomputable def tW2(n:Nat->Nat->PySem.W.BT->PySem.W.BT->PySem.W.BT)(e:PySem.W.BT):PySem.W.BT:=(n 0 0 (n 0 1 (n 1 11 (n 0 7 (n 1 1 (n 0 11 e e) e) (n 1 6 (n 2 5 e e) e)) (n 0 11 (n 0 12 (n 0 11 e e) e) (n 1 10 e e))) (n 0 5 (n 0 9 (n 1 3 (n 2 0 e e) e) (n 1 8 e e)) (n 0 13 (n 1 5 (n 2 3 e e) e) (n 1 2 e e)))) (n 0 2 (n 0 4 (n 0 8 (n 1 2 (n 0 12 e e) e) (n 1 13 e e)) (n 1 12 (n 1 4 (n 2 2 e e) e) (n 1 14 e e))) (n 0 6 (n 0 10 (n 0 11 (n 2 1 e e) e) (n 1 9 e e)) (n 0 14 (n 0 11 (n 2 4 e e) e) (n 1 15 e e)))))
noncomputable def tX2(f:Nat->Nat->Params->Obj)(P:Params):PySem.W.BT:=tW2 (fun c i=>.node (f c i P)) .nil
noncomputable def tW3(n:Nat->Nat->PySem.W.BT->PySem.W.BT->PySem.W.BT)(e:PySem.W.BT):PySem.W.BT:=(n 0 0 (n 0 1 (n 2 6 (n 0 7 (n 1 1 (n 0 11 e e) (n 0 11 e e)) (n 1 6 (n 2 5 e e) e)) (n 0 11 (n 0 12 (n 0 11 e e) (n 2 15 e e)) (n 1 10 (n 0 11 e e) e))) (n 0 5 (n 0 9 (n 1 3 (n 2 0 e e) (n 2 13 e e)) (n 1 8 (n 1 2 e e) e)) (n 0 13 (n 1 5 (n 2 3 e e) e) (n 1 2 (n 2 10 e e) e)))) (n 0 2 (n 0 4 (n 0 8 (n 1 2 (n 0 12 e e) (n 2 12 e e)) (n 2 8 (n 1 14 e e) e)) (n 2 7 (n 1 4 (n 2 2 e e) e) (n 1 14 (n 0 12 e e) e))) (n 0 6 (n 0 10 (n 0 11 (n 2 1 e e) (n 2 14 e e)) (n 1 9 (n 2 9 e e) e)) (n 0 14 (n 0 11 (n 2 4 e e) e) (n 1 15 (n 2 11 e e) e)))))
noncomputable def tX3(f:Nat->Nat->Params->Obj)(P:Params):PySem.W.BT:=tW3 (fun c i=>.node (f c i P)) .nil
noncomputable def tW4(n:Nat->Nat->PySem.W.BT->PySem.W.BT->PySem.W.BT)(e:PySem.W.BT):PySem.W.BT:=(n 0 0 (n 0 1 (n 3 0 (n 0 7 (n 1 1 (n 0 11 (n 3 8 e e) e) (n 0 11 e e)) (n 1 6 (n 2 5 e e) (n 0 11 e e))) (n 0 11 (n 0 12 (n 0 11 (n 3 12 e e) e) (n 2 15 e e)) (n 1 10 (n 0 11 e e) (n 0 11 e e)))) (n 0 5 (n 0 9 (n 1 3 (n 2 0 (n 3 10 e e) e) (n 2 13 e e)) (n 1 8 (n 1 2 e e) (n 3 5 e e))) (n 0 13 (n 1 5 (n 2 3 (n 3 14 e e) e) (n 1 2 e e)) (n 1 2 (n 2 10 e e) (n 3 7 e e))))) (n 0 2 (n 0 4 (n 0 8 (n 1 2 (n 0 12 (n 3 9 e e) e) (n 2 12 e e)) (n 3 2 (n 1 14 e e) (n 3 4 e e))) (n 3 1 (n 1 4 (n 2 2 (n 3 13 e e) e) (n 1 14 e e)) (n 1 14 (n 0 12 e e) (n 0 12 e e)))) (n 0 6 (n 0 10 (n 0 11 (n 2 1 (n 3 11 e e) e) (n 2 14 e e)) (n 1 9 (n 2 9 e e) (n 3 6 e e))) (n 0 14 (n 0 11 (n 2 4 (n 3 15 e e) e) (n 3 3 e e)) (n 1 15 (n 2 11 e e) (n 0 11 e e))))))
noncomputable def tX4(f:Nat->Nat->Params->Obj)(P:Params):PySem.W.BT:=tW4 (fun c i=>.node (f c i P)) .nil
noncomputable def tW5(n:Nat->Nat->PySem.W.BT->PySem.W.BT->PySem.W.BT)(e:PySem.W.BT):PySem.W.BT:=(n 0 0 (n 0 1 (n 4 0 (n 0 7 (n 1 1 (n 0 11 (n 3 8 e e) e) (n 0 11 (n 0 12 e e) e)) (n 1 6 (n 2 5 (n 1 14 e e) e) (n 0 11 (n 4 13 e e) e))) (n 0 11 (n 0 12 (n 0 11 (n 3 12 e e) e) (n 2 15 (n 4 9 e e) e)) (n 1 10 (n 0 11 (n 4 4 e e) e) (n 0 11 e e)))) (n 0 5 (n 0 9 (n 1 3 (n 2 0 (n 3 10 e e) e) (n 2 13 (n 0 11 e e) e)) (n 1 8 (n 1 2 (n 4 3 e e) e) (n 3 5 (n 4 15 e e) e))) (n 0 13 (n 1 5 (n 2 3 (n 3 14 e e) e) (n 1 2 (n 4 11 e e) e)) (n 1 2 (n 2 10 (n 4 6 e e) e) (n 3 7 e e))))) (n 0 2 (n 0 4 (n 0 8 (n 1 2 (n 0 12 (n 3 9 e e) e) (n 2 12 (n 4 7 e e) e)) (n 4 2 (n 1 14 (n 1 2 e e) e) (n 3 4 (n 4 14 e e) e))) (n 4 1 (n 1 4 (n 2 2 (n 3 13 e e) e) (n 1 14 (n 4 10 e e) e)) (n 1 14 (n 0 12 (n 4 5 e e) e) (n 0 12 e e)))) (n 0 6 (n 0 10 (n 0 11 (n 2 1 (n 3 11 e e) e) (n 2 14 (n 4 8 e e) e)) (n 1 9 (n 2 9 (n 0 11 e e) e) (n 3 6 e e))) (n 0 14 (n 0 11 (n 2 4 (n 3 15 e e) e) (n 3 3 (n 4 12 e e) e)) (n 1 15 (n 2 11 (n 0 11 e e) e) (n 0 11 e e))))))
noncomputable def tX5(f:Nat->Nat->Params->Obj)(P:Params):PySem.W.BT:=tW5 (fun c i=>.node (f c i P)) .nil
noncomputable def tW6(n:Nat->Nat->PySem.W.BT->PySem.W.BT->PySem.W.BT)(e:PySem.W.BT):PySem.W.BT:=(n 0 0 (n 0 1 (n 5 0 (n 0 7 (n 1 1 (n 0 11 (n 3 8 e e) (n 5 5 e e)) (n 0 11 (n 0 12 e e) e)) (n 1 6 (n 2 5 (n 1 14 e e) (n 5 10 e e)) (n 0 11 (n 4 13 e e) e))) (n 0 11 (n 0 12 (n 0 11 (n 3 12 e e) (n 5 7 e e)) (n 2 15 (n 4 9 e e) e)) (n 1 10 (n 0 11 (n 4 4 e e) (n 5 14 e e)) (n 0 11 (n 1 2 e e) e)))) (n 0 5 (n 0 9 (n 1 3 (n 2 0 (n 3 10 e e) (n 0 11 e e)) (n 2 13 (n 0 11 e e) e)) (n 1 8 (n 1 2 (n 4 3 e e) (n 5 12 e e)) (n 3 5 (n 4 15 e e) e))) (n 0 13 (n 1 5 (n 2 3 (n 3 14 e e) (n 5 8 e e)) (n 1 2 (n 4 11 e e) e)) (n 1 2 (n 2 10 (n 4 6 e e) e) (n 3 7 (n 0 11 e e) e))))) (n 0 2 (n 0 4 (n 0 8 (n 1 2 (n 0 12 (n 3 9 e e) (n 5 6 e e)) (n 2 12 (n 4 7 e e) e)) (n 5 2 (n 1 14 (n 1 2 e e) (n 5 11 e e)) (n 3 4 (n 4 14 e e) e))) (n 5 1 (n 1 4 (n 2 2 (n 3 13 e e) (n 0 11 e e)) (n 1 14 (n 4 10 e e) e)) (n 1 14 (n 0 12 (n 4 5 e e) (n 5 15 e e)) (n 0 12 (n 5 3 e e) e)))) (n 0 6 (n 0 10 (n 0 11 (n 2 1 (n 3 11 e e) (n 0 12 e e)) (n 2 14 (n 4 8 e e) e)) (n 1 9 (n 2 9 (n 0 11 e e) (n 5 13 e e)) (n 3 6 (n 1 14 e e) e))) (n 0 14 (n 0 11 (n 2 4 (n 3 15 e e) (n 5 9 e e)) (n 3 3 (n 4 12 e e) e)) (n 1 15 (n 2 11 (n 0 11 e e) e) (n 0 11 (n 5 4 e e) e))))))
noncomputable def tX6(f:Nat->Nat->Params->Obj)(P:Params):PySem.W.BT:=tW6 (fun c i=>.node (f c i P)) .nil
noncomputable def tW7(n:Nat->Nat->PySem.W.BT->PySem.W.BT->PySem.W.BT)(e:PySem.W.BT):PySem.W.BT:=(n 0 0 (n 0 1 (n 6 0 (n 0 7 (n 1 1 (n 0 11 (n 3 8 (n 6 15 e e) e) (n 5 5 e e)) (n 0 11 (n 0 12 e e) (n 6 3 e e))) (n 1 6 (n 2 5 (n 1 14 e e) (n 5 10 e e)) (n 0 11 (n 4 13 e e) (n 0 11 e e)))) (n 0 11 (n 0 12 (n 0 11 (n 3 12 e e) (n 5 7 e e)) (n 2 15 (n 4 9 e e) (n 6 6 e e))) (n 1 10 (n 0 11 (n 4 4 e e) (n 5 14 e e)) (n 0 11 (n 1 2 e e) (n 6 11 e e))))) (n 0 5 (n 0 9 (n 1 3 (n 2 0 (n 3 10 e e) (n 0 11 e e)) (n 2 13 (n 0 11 e e) (n 6 4 e e))) (n 1 8 (n 1 2 (n 4 3 e e) (n 5 12 e e)) (n 3 5 (n 4 15 e e) (n 6 9 e e)))) (n 0 13 (n 1 5 (n 2 3 (n 3 14 e e) (n 5 8 e e)) (n 1 2 (n 4 11 e e) (n 0 12 e e))) (n 1 2 (n 2 10 (n 4 6 e e) (n 1 14 e e)) (n 3 7 (n 0 11 e e) (n 6 13 e e)))))) (n 0 2 (n 0 4 (n 0 8 (n 1 2 (n 0 12 (n 3 9 e e) (n 5 6 e e)) (n 2 12 (n 4 7 e e) (n 0 11 e e))) (n 6 2 (n 1 14 (n 1 2 e e) (n 5 11 e e)) (n 3 4 (n 4 14 e e) (n 6 8 e e)))) (n 6 1 (n 1 4 (n 2 2 (n 3 13 e e) (n 0 11 e e)) (n 1 14 (n 4 10 e e) (n 0 11 e e))) (n 1 14 (n 0 12 (n 4 5 e e) (n 5 15 e e)) (n 0 12 (n 5 3 e e) (n 6 12 e e))))) (n 0 6 (n 0 10 (n 0 11 (n 2 1 (n 3 11 e e) (n 0 12 e e)) (n 2 14 (n 4 8 e e) (n 6 5 e e))) (n 1 9 (n 2 9 (n 0 11 e e) (n 5 13 e e)) (n 3 6 (n 1 14 e e) (n 6 10 e e)))) (n 0 14 (n 0 11 (n 2 4 (n 3 15 e e) (n 5 9 e e)) (n 3 3 (n 4 12 e e) (n 6 7 e e))) (n 1 15 (n 2 11 (n 0 11 e e) (n 1 2 e e)) (n 0 11 (n 5 4 e e) (n 6 14 e e)))))))
noncomputable def tX7(f:Nat->Nat->Params->Obj)(P:Params):PySem.W.BT:=tW7 (fun c i=>.node (f c i P)) .nil
noncomputable def tW8(n:Nat->Nat->PySem.W.BT->PySem.W.BT->PySem.W.BT)(e:PySem.W.BT):PySem.W.BT:=(n 0 0 (n 0 1 (n 7 0 (n 0 7 (n 1 1 (n 0 11 (n 3 8 (n 6 15 e e) e) (n 5 5 (n 8 4 e e) e)) (n 0 11 (n 0 12 (n 0 11 e e) e) (n 6 3 e e))) (n 1 6 (n 2 5 (n 1 14 (n 0 11 e e) e) (n 5 10 (n 8 9 e e) e)) (n 0 11 (n 4 13 (n 7 15 e e) e) (n 0 11 e e)))) (n 0 11 (n 0 12 (n 0 11 (n 3 12 (n 0 11 e e) e) (n 5 7 (n 8 6 e e) e)) (n 2 15 (n 4 9 (n 0 11 e e) e) (n 6 6 e e))) (n 1 10 (n 0 11 (n 4 4 (n 7 9 e e) e) (n 5 14 (n 0 11 e e) e)) (n 0 11 (n 1 2 (n 0 12 e e) e) (n 6 11 e e))))) (n 0 5 (n 0 9 (n 1 3 (n 2 0 (n 3 10 (n 1 2 e e) e) (n 0 11 (n 0 11 e e) e)) (n 2 13 (n 0 11 (n 7 12 e e) e) (n 6 4 e e))) (n 1 8 (n 1 2 (n 4 3 (n 7 7 e e) e) (n 5 12 (n 0 12 e e) e)) (n 3 5 (n 4 15 (n 8 1 e e) e) (n 6 9 e e)))) (n 0 13 (n 1 5 (n 2 3 (n 3 14 (n 7 4 e e) e) (n 5 8 (n 8 7 e e) e)) (n 1 2 (n 4 11 (n 7 14 e e) e) (n 0 12 e e))) (n 1 2 (n 2 10 (n 4 6 (n 0 12 e e) e) (n 1 14 (n 8 12 e e) e)) (n 3 7 (n 0 11 (n 0 11 e e) e) (n 6 13 e e)))))) (n 0 2 (n 0 4 (n 0 8 (n 1 2 (n 0 12 (n 3 9 (n 1 14 e e) e) (n 5 6 (n 8 5 e e) e)) (n 2 12 (n 4 7 (n 7 11 e e) e) (n 0 11 e e))) (n 7 2 (n 1 14 (n 1 2 (n 7 6 e e) e) (n 5 11 (n 0 11 e e) e)) (n 3 4 (n 4 14 (n 8 0 e e) e) (n 6 8 e e)))) (n 7 1 (n 1 4 (n 2 2 (n 3 13 (n 0 12 e e) e) (n 0 11 (n 0 11 e e) e)) (n 1 14 (n 4 10 (n 0 12 e e) e) (n 0 11 e e))) (n 1 14 (n 0 12 (n 4 5 (n 0 11 e e) e) (n 5 15 (n 8 11 e e) e)) (n 0 12 (n 5 3 (n 8 2 e e) e) (n 6 12 e e))))) (n 0 6 (n 0 10 (n 0 11 (n 2 1 (n 3 11 (n 7 3 e e) e) (n 0 12 (n 0 12 e e) e)) (n 2 14 (n 4 8 (n 7 13 e e) e) (n 6 5 e e))) (n 1 9 (n 2 9 (n 0 11 (n 7 8 e e) e) (n 5 13 (n 8 10 e e) e)) (n 3 6 (n 1 14 (n 0 11 e e) e) (n 6 10 e e)))) (n 0 14 (n 0 11 (n 2 4 (n 3 15 (n 7 5 e e) e) (n 5 9 (n 8 8 e e) e)) (n 3 3 (n 4 12 (n 0 11 e e) e) (n 6 7 e e))) (n 1 15 (n 2 11 (n 0 11 (n 7 10 e e) e) (n 1 2 (n 8 13 e e) e)) (n 0 11 (n 5 4 (n 8 3 e e) e) (n 6 14 e e)))))))
noncomputable def tX8(f:Nat->Nat->Params->Obj)(P:Params):PySem.W.BT:=tW8 (fun c i=>.node (f c i P)) .nil
noncomputable def tW9(n:Nat->Nat->PySem.W.BT->PySem.W.BT->PySem.W.BT)(e:PySem.W.BT):PySem.W.BT:=(n 0 0 (n 0 1 (n 8 14 (n 0 7 (n 1 1 (n 0 11 (n 3 8 (n 6 15 e e) (n 9 8 e e)) (n 5 5 (n 8 4 e e) (n 10 11 e e))) (n 0 11 (n 0 12 (n 0 11 e e) (n 10 1 e e)) (n 6 3 (n 0 11 e e) (n 0 12 e e)))) (n 1 6 (n 2 5 (n 1 14 (n 0 11 e e) (n 0 11 e e)) (n 5 10 (n 8 9 e e) (n 0 11 e e))) (n 0 11 (n 4 13 (n 7 15 e e) (n 10 6 e e)) (n 0 11 (n 0 12 e e) (n 11 8 e e))))) (n 0 11 (n 0 12 (n 0 11 (n 3 12 (n 0 11 e e) (n 9 11 e e)) (n 5 7 (n 8 6 e e) (n 0 11 e e))) (n 2 15 (n 4 9 (n 0 11 e e) (n 0 12 e e)) (n 6 6 (n 9 1 e e) (n 11 6 e e)))) (n 1 10 (n 0 11 (n 4 4 (n 7 9 e e) (n 0 11 e e)) (n 5 14 (n 0 11 e e) (n 11 1 e e))) (n 0 11 (n 1 2 (n 0 12 e e) (n 10 8 e e)) (n 6 11 (n 9 6 e e) (n 11 11 e e)))))) (n 0 5 (n 0 9 (n 1 3 (n 2 0 (n 3 10 (n 1 2 e e) (n 9 9 e e)) (n 0 11 (n 0 11 e e) (n 0 12 e e))) (n 2 13 (n 0 11 (n 7 12 e e) (n 10 3 e e)) (n 6 4 (n 9 0 e e) (n 0 11 e e)))) (n 1 8 (n 1 2 (n 4 3 (n 7 7 e e) (n 9 14 e e)) (n 5 12 (n 0 12 e e) (n 11 0 e e))) (n 3 5 (n 4 15 (n 8 1 e e) (n 0 11 e e)) (n 6 9 (n 0 11 e e) (n 11 9 e e))))) (n 0 13 (n 1 5 (n 2 3 (n 3 14 (n 7 4 e e) (n 0 12 e e)) (n 5 8 (n 8 7 e e) (n 10 14 e e))) (n 1 2 (n 4 11 (n 7 14 e e) (n 0 11 e e)) (n 0 12 (n 9 3 e e) (n 0 11 e e)))) (n 1 2 (n 2 10 (n 4 6 (n 0 12 e e) (n 10 0 e e)) (n 1 14 (n 8 12 e e) (n 11 3 e e))) (n 3 7 (n 0 11 (n 0 11 e e) (n 10 9 e e)) (n 6 13 (n 0 11 e e) e)))))) (n 0 2 (n 0 4 (n 0 8 (n 1 2 (n 0 12 (n 3 9 (n 1 14 e e) (n 0 11 e e)) (n 5 6 (n 8 5 e e) (n 0 11 e e))) (n 2 12 (n 4 7 (n 7 11 e e) (n 10 2 e e)) (n 0 11 (n 0 12 e e) (n 11 4 e e)))) (n 7 2 (n 1 14 (n 1 2 (n 7 6 e e) (n 9 13 e e)) (n 5 11 (n 0 11 e e) (n 0 12 e e))) (n 3 4 (n 4 14 (n 8 0 e e) (n 10 7 e e)) (n 6 8 (n 9 4 e e) (n 0 11 e e))))) (n 8 15 (n 1 4 (n 2 2 (n 3 13 (n 0 12 e e) (n 0 11 e e)) (n 0 11 (n 0 11 e e) (n 10 13 e e))) (n 1 14 (n 4 10 (n 0 12 e e) (n 10 4 e e)) (n 0 11 (n 9 2 e e) (n 11 7 e e)))) (n 1 14 (n 0 12 (n 4 5 (n 0 11 e e) (n 0 12 e e)) (n 5 15 (n 8 11 e e) (n 11 2 e e))) (n 0 12 (n 5 3 (n 8 2 e e) (n 0 11 e e)) (n 6 12 (n 9 7 e e) e))))) (n 0 6 (n 0 10 (n 0 11 (n 2 1 (n 3 11 (n 7 3 e e) (n 9 10 e e)) (n 0 12 (n 0 12 e e) (n 10 12 e e))) (n 2 14 (n 4 8 (n 7 13 e e) (n 0 11 e e)) (n 6 5 (n 0 11 e e) (n 11 5 e e)))) (n 1 9 (n 2 9 (n 0 11 (n 7 8 e e) (n 9 15 e e)) (n 5 13 (n 8 10 e e) (n 0 11 e e))) (n 3 6 (n 1 14 (n 0 11 e e) (n 0 12 e e)) (n 6 10 (n 9 5 e e) (n 11 10 e e))))) (n 0 14 (n 0 11 (n 2 4 (n 3 15 (n 7 5 e e) (n 9 12 e e)) (n 5 9 (n 8 8 e e) (n 10 15 e e))) (n 3 3 (n 4 12 (n 0 11 e e) (n 10 5 e e)) (n 6 7 (n 0 11 e e) (n 0 12 e e)))) (n 1 15 (n 2 11 (n 0 11 (n 7 10 e e) (n 0 11 e e)) (n 1 2 (n 8 13 e e) (n 0 11 e e))) (n 0 11 (n 5 4 (n 8 3 e e) (n 10 10 e e)) (n 6 14 (n 0 12 e e) e)))))))
noncomputable def tX9(f:Nat->Nat->Params->Obj)(P:Params):PySem.W.BT:=tW9 (fun c i=>.node (f c i P)) .nil
noncomputable def tW10(n:Nat->Nat->PySem.W.BT->PySem.W.BT->PySem.W.BT)(e:PySem.W.BT):PySem.W.BT:=(n 0 0 (n 0 1 (n 11 12 (n 0 7 (n 1 1 (n 0 11 (n 3 8 (n 6 15 (n 0 11 e e) e) (n 9 8 (n 14 4 e e) e)) (n 5 5 (n 8 4 (n 0 11 e e) e) (n 10 11 e e))) (n 0 11 (n 0 12 (n 0 11 (n 12 8 e e) e) (n 10 1 e e)) (n 6 3 (n 0 11 (n 13 10 e e) e) (n 0 12 e e)))) (n 1 6 (n 2 5 (n 1 14 (n 0 11 (n 12 3 e e) e) (n 0 11 (n 0 11 e e) e)) (n 5 10 (n 8 9 (n 0 12 e e) e) (n 0 11 e e))) (n 0 11 (n 4 13 (n 7 15 (n 12 13 e e) e) (n 10 6 e e)) (n 0 11 (n 0 12 (n 13 15 e e) e) (n 11 8 e e))))) (n 0 11 (n 0 12 (n 0 11 (n 3 12 (n 0 11 (n 0 11 e e) e) (n 9 11 (n 0 11 e e) e)) (n 5 7 (n 8 6 (n 13 3 e e) e) (n 0 11 e e))) (n 2 15 (n 4 9 (n 0 11 (n 12 10 e e) e) (n 0 12 e e)) (n 6 6 (n 9 1 (n 0 12 e e) e) (n 11 6 e e)))) (n 1 10 (n 0 11 (n 4 4 (n 7 9 (n 0 12 e e) e) (n 0 11 (n 14 10 e e) e)) (n 5 14 (n 0 11 (n 0 11 e e) e) (n 11 1 e e))) (n 0 11 (n 1 2 (n 0 12 (n 0 11 e e) e) (n 10 8 e e)) (n 6 11 (n 9 6 (n 14 1 e e) e) (n 11 11 e e)))))) (n 0 5 (n 0 9 (n 1 3 (n 2 0 (n 3 10 (n 1 2 (n 12 0 e e) e) (n 9 9 (n 0 12 e e) e)) (n 0 11 (n 0 11 (n 13 2 e e) e) (n 0 12 e e))) (n 2 13 (n 0 11 (n 7 12 (n 0 11 e e) e) (n 10 3 e e)) (n 6 4 (n 9 0 (n 13 12 e e) e) (n 0 11 e e)))) (n 1 8 (n 1 2 (n 4 3 (n 7 7 (n 12 5 e e) e) (n 9 14 (n 14 9 e e) e)) (n 5 12 (n 0 12 (n 13 7 e e) e) (n 11 0 e e))) (n 3 5 (n 4 15 (n 8 1 (n 0 12 e e) e) (n 0 11 e e)) (n 6 9 (n 0 11 (n 0 11 e e) e) (n 11 9 e e))))) (n 0 13 (n 1 5 (n 2 3 (n 3 14 (n 7 4 (n 12 2 e e) e) (n 0 12 (n 14 7 e e) e)) (n 5 8 (n 8 7 (n 13 5 e e) e) (n 10 14 e e))) (n 1 2 (n 4 11 (n 7 14 (n 12 11 e e) e) (n 0 11 e e)) (n 0 12 (n 9 3 (n 0 11 e e) e) (n 0 11 e e)))) (n 1 2 (n 2 10 (n 4 6 (n 0 12 (n 0 11 e e) e) (n 10 0 (n 14 12 e e) e)) (n 1 14 (n 8 12 (n 13 9 e e) e) (n 11 3 e e))) (n 3 7 (n 0 11 (n 0 11 (n 13 0 e e) e) (n 10 9 e e)) (n 6 13 (n 0 11 (n 14 2 e e) e) (n 0 12 e e))))))) (n 0 2 (n 0 4 (n 0 8 (n 1 2 (n 0 12 (n 3 9 (n 1 14 (n 11 15 e e) e) (n 0 11 (n 0 11 e e) e)) (n 5 6 (n 8 5 (n 0 12 e e) e) (n 0 11 e e))) (n 2 12 (n 4 7 (n 7 11 (n 12 9 e e) e) (n 10 2 e e)) (n 0 11 (n 0 12 (n 13 11 e e) e) (n 11 4 e e)))) (n 7 2 (n 1 14 (n 1 2 (n 7 6 (n 12 4 e e) e) (n 9 13 (n 0 12 e e) e)) (n 5 11 (n 0 11 (n 13 6 e e) e) (n 0 12 e e))) (n 3 4 (n 4 14 (n 8 0 (n 0 11 e e) e) (n 10 7 e e)) (n 6 8 (n 9 4 (n 14 0 e e) e) (n 0 11 e e))))) (n 11 13 (n 1 4 (n 2 2 (n 3 13 (n 0 12 (n 0 12 e e) e) (n 0 11 (n 14 6 e e) e)) (n 0 11 (n 0 11 (n 13 4 e e) e) (n 10 13 e e))) (n 1 14 (n 4 10 (n 0 12 (n 0 11 e e) e) (n 10 4 e e)) (n 0 11 (n 9 2 (n 13 13 e e) e) (n 11 7 e e)))) (n 1 14 (n 0 12 (n 4 5 (n 0 11 (n 12 6 e e) e) (n 0 12 (n 14 11 e e) e)) (n 5 15 (n 8 11 (n 0 12 e e) e) (n 11 2 e e))) (n 0 12 (n 5 3 (n 8 2 (n 12 15 e e) e) (n 0 11 e e)) (n 6 12 (n 9 7 (n 0 11 e e) e) (n 0 11 e e)))))) (n 0 6 (n 0 10 (n 0 11 (n 2 1 (n 3 11 (n 7 3 (n 12 1 e e) e) (n 9 10 (n 14 5 e e) e)) (n 0 12 (n 0 12 (n 0 11 e e) e) (n 10 12 e e))) (n 2 14 (n 4 8 (n 7 13 (n 0 12 e e) e) (n 0 11 e e)) (n 6 5 (n 0 11 (n 0 11 e e) e) (n 11 5 e e)))) (n 1 9 (n 2 9 (n 0 11 (n 7 8 (n 0 11 e e) e) (n 9 15 (n 0 11 e e) e)) (n 5 13 (n 8 10 (n 13 8 e e) e) (n 0 11 e e))) (n 3 6 (n 1 14 (n 0 11 (n 12 14 e e) e) (n 0 12 e e)) (n 6 10 (n 9 5 (n 0 12 e e) e) (n 11 10 e e))))) (n 0 14 (n 0 11 (n 2 4 (n 3 15 (n 7 5 (n 0 11 e e) e) (n 9 12 (n 14 8 e e) e)) (n 5 9 (n 8 8 (n 0 11 e e) e) (n 10 15 e e))) (n 3 3 (n 4 12 (n 0 11 (n 12 12 e e) e) (n 10 5 e e)) (n 6 7 (n 0 11 (n 13 14 e e) e) (n 0 12 e e)))) (n 1 15 (n 2 11 (n 0 11 (n 7 10 (n 12 7 e e) e) (n 0 11 e e)) (n 1 2 (n 8 13 (n 0 11 e e) e) (n 0 11 e e))) (n 0 11 (n 5 4 (n 8 3 (n 13 1 e e) e) (n 10 10 e e)) (n 6 14 (n 0 12 (n 14 3 e e) e) (n 11 14 e e))))))))
noncomputable def tX10(f:Nat->Nat->Params->Obj)(P:Params):PySem.W.BT:=tW10 (fun c i=>.node (f c i P)) .nil
noncomputable def tW11(n:Nat->Nat->PySem.W.BT->PySem.W.BT->PySem.W.BT)(e:PySem.W.BT):PySem.W.BT:=(n 0 0 (n 0 1 (n 14 13 (n 0 7 (n 1 1 (n 0 11 (n 3 8 (n 6 15 (n 0 11 e e) (n 16 11 e e)) (n 9 8 (n 14 4 e e) e)) (n 5 5 (n 8 4 (n 0 11 e e) e) (n 10 11 (n 15 8 e e) e))) (n 0 11 (n 0 12 (n 0 11 (n 12 8 e e) e) (n 10 1 (n 0 12 e e) e)) (n 6 3 (n 0 11 (n 13 10 e e) e) (n 0 12 (n 16 1 e e) e)))) (n 1 6 (n 2 5 (n 1 14 (n 0 11 (n 12 3 e e) (n 0 11 e e)) (n 0 11 (n 0 11 e e) e)) (n 5 10 (n 8 9 (n 0 12 e e) e) (n 0 11 (n 0 12 e e) e))) (n 0 11 (n 4 13 (n 7 15 (n 12 13 e e) e) (n 10 6 (n 15 3 e e) e)) (n 0 11 (n 0 12 (n 13 15 e e) e) (n 11 8 (n 16 6 e e) e))))) (n 0 11 (n 0 12 (n 0 11 (n 3 12 (n 0 11 (n 0 11 e e) (n 0 11 e e)) (n 9 11 (n 0 11 e e) e)) (n 5 7 (n 8 6 (n 13 3 e e) e) (n 0 11 (n 15 10 e e) e))) (n 2 15 (n 4 9 (n 0 11 (n 12 10 e e) e) (n 0 12 (n 0 11 e e) e)) (n 6 6 (n 9 1 (n 0 12 e e) e) (n 11 6 (n 0 12 e e) e)))) (n 1 10 (n 0 11 (n 4 4 (n 7 9 (n 0 12 e e) (n 17 2 e e)) (n 0 11 (n 14 10 e e) e)) (n 5 14 (n 0 11 (n 0 11 e e) e) (n 11 1 (n 0 11 e e) e))) (n 0 11 (n 1 2 (n 0 12 (n 0 11 e e) e) (n 10 8 (n 0 12 e e) e)) (n 6 11 (n 9 6 (n 14 1 e e) e) (n 11 11 (n 16 8 e e) e)))))) (n 0 5 (n 0 9 (n 1 3 (n 2 0 (n 3 10 (n 1 2 (n 12 0 e e) (n 0 12 e e)) (n 9 9 (n 0 12 e e) e)) (n 0 11 (n 0 11 (n 13 2 e e) e) (n 0 12 (n 0 11 e e) e))) (n 2 13 (n 0 11 (n 7 12 (n 0 11 e e) e) (n 10 3 (n 15 0 e e) e)) (n 6 4 (n 9 0 (n 13 12 e e) e) (n 0 11 (n 16 3 e e) e)))) (n 1 8 (n 1 2 (n 4 3 (n 7 7 (n 12 5 e e) (n 17 0 e e)) (n 9 14 (n 14 9 e e) e)) (n 5 12 (n 0 12 (n 13 7 e e) e) (n 11 0 (n 15 14 e e) e))) (n 3 5 (n 4 15 (n 8 1 (n 0 12 e e) e) (n 0 11 (n 15 5 e e) e)) (n 6 9 (n 0 11 (n 0 11 e e) e) (n 11 9 (n 0 11 e e) e))))) (n 0 13 (n 1 5 (n 2 3 (n 3 14 (n 7 4 (n 12 2 e e) (n 16 14 e e)) (n 0 12 (n 14 7 e e) e)) (n 5 8 (n 8 7 (n 13 5 e e) e) (n 10 14 (n 15 12 e e) e))) (n 1 2 (n 4 11 (n 7 14 (n 12 11 e e) e) (n 0 11 (n 15 2 e e) e)) (n 0 12 (n 9 3 (n 0 11 e e) e) (n 0 11 (n 0 11 e e) e)))) (n 1 2 (n 2 10 (n 4 6 (n 0 12 (n 0 11 e e) e) (n 10 0 (n 14 12 e e) e)) (n 1 14 (n 8 12 (n 13 9 e e) e) (n 11 3 (n 16 0 e e) e))) (n 3 7 (n 0 11 (n 0 11 (n 13 0 e e) e) (n 10 9 (n 0 11 e e) e)) (n 6 13 (n 0 11 (n 14 2 e e) e) (n 0 12 (n 16 9 e e) e))))))) (n 0 2 (n 0 4 (n 0 8 (n 1 2 (n 0 12 (n 3 9 (n 1 14 (n 11 15 e e) (n 0 11 e e)) (n 0 11 (n 0 11 e e) e)) (n 5 6 (n 8 5 (n 0 12 e e) e) (n 0 11 (n 15 9 e e) e))) (n 2 12 (n 4 7 (n 7 11 (n 12 9 e e) e) (n 10 2 (n 14 15 e e) e)) (n 0 11 (n 0 12 (n 13 11 e e) e) (n 11 4 (n 16 2 e e) e)))) (n 7 2 (n 1 14 (n 1 2 (n 7 6 (n 12 4 e e) (n 0 12 e e)) (n 9 13 (n 0 12 e e) e)) (n 5 11 (n 0 11 (n 13 6 e e) e) (n 0 12 (n 15 13 e e) e))) (n 3 4 (n 4 14 (n 8 0 (n 0 11 e e) e) (n 10 7 (n 15 4 e e) e)) (n 6 8 (n 9 4 (n 14 0 e e) e) (n 0 11 (n 16 7 e e) e))))) (n 14 14 (n 1 4 (n 2 2 (n 3 13 (n 0 12 (n 0 12 e e) (n 16 13 e e)) (n 0 11 (n 14 6 e e) e)) (n 0 11 (n 0 11 (n 13 4 e e) e) (n 10 13 (n 15 11 e e) e))) (n 1 14 (n 4 10 (n 0 12 (n 0 11 e e) e) (n 10 4 (n 0 12 e e) e)) (n 0 11 (n 9 2 (n 13 13 e e) e) (n 11 7 (n 16 4 e e) e)))) (n 1 14 (n 0 12 (n 4 5 (n 0 11 (n 12 6 e e) e) (n 0 12 (n 14 11 e e) e)) (n 5 15 (n 8 11 (n 0 12 e e) e) (n 11 2 (n 0 12 e e) e))) (n 0 12 (n 5 3 (n 8 2 (n 12 15 e e) e) (n 0 11 (n 15 6 e e) e)) (n 6 12 (n 9 7 (n 0 11 e e) e) (n 0 11 (n 0 11 e e) e)))))) (n 0 6 (n 0 10 (n 0 11 (n 2 1 (n 3 11 (n 7 3 (n 12 1 e e) (n 16 12 e e)) (n 9 10 (n 14 5 e e) e)) (n 0 12 (n 0 12 (n 0 11 e e) e) (n 10 12 (n 0 12 e e) e))) (n 2 14 (n 4 8 (n 7 13 (n 0 12 e e) e) (n 0 11 (n 15 1 e e) e)) (n 6 5 (n 0 11 (n 0 11 e e) e) (n 11 5 (n 0 11 e e) e)))) (n 1 9 (n 2 9 (n 0 11 (n 7 8 (n 0 11 e e) (n 17 1 e e)) (n 9 15 (n 0 11 e e) e)) (n 5 13 (n 8 10 (n 13 8 e e) e) (n 0 11 (n 15 15 e e) e))) (n 3 6 (n 1 14 (n 0 11 (n 12 14 e e) e) (n 0 12 (n 0 11 e e) e)) (n 6 10 (n 9 5 (n 0 12 e e) e) (n 11 10 (n 0 12 e e) e))))) (n 0 14 (n 0 11 (n 2 4 (n 3 15 (n 7 5 (n 0 11 e e) (n 16 15 e e)) (n 9 12 (n 14 8 e e) e)) (n 5 9 (n 8 8 (n 0 11 e e) e) (n 10 15 (n 0 11 e e) e))) (n 3 3 (n 4 12 (n 0 11 (n 12 12 e e) e) (n 10 5 (n 0 11 e e) e)) (n 6 7 (n 0 11 (n 13 14 e e) e) (n 0 12 (n 16 5 e e) e)))) (n 1 15 (n 2 11 (n 0 11 (n 7 10 (n 12 7 e e) e) (n 0 11 (n 0 11 e e) e)) (n 1 2 (n 8 13 (n 0 11 e e) e) (n 0 11 (n 0 11 e e) e))) (n 0 11 (n 5 4 (n 8 3 (n 13 1 e e) e) (n 10 10 (n 15 7 e e) e)) (n 6 14 (n 0 12 (n 14 3 e e) e) (n 11 14 (n 16 10 e e) e))))))))
noncomputable def tX11(f:Nat->Nat->Params->Obj)(P:Params):PySem.W.BT:=tW11 (fun c i=>.node (f c i P)) .nil
noncomputable def hX0(f:Nat->Nat->Params->Obj)(P:Params):Heap:=⟨⟨[f 0 0 P,f 0 1 P,f 0 2 P,f 0 3 P,f 0 4 P,f 0 5 P,f 0 6 P,f 0 7 P,f 0 8 P,f 0 9 P,f 0 10 P,f 0 11 P,f 0 12 P,f 0 13 P,f 0 14 P]⟩,{}⟩
noncomputable def hX1(f:Nat->Nat->Params->Obj)(P:Params):Heap:=⟨⟨[f 0 0 P,f 0 1 P,f 0 2 P,f 14 13 P,f 0 4 P,f 0 5 P,f 0 6 P,f 0 7 P,f 0 8 P,f 0 9 P,f 0 10 P,f 0 11 P,f 14 14 P,f 0 13 P,f 0 14 P,f 1 1 P,f 1 2 P,f 1 3 P,f 0 11 P,f 0 12 P,f 1 4 P,f 1 5 P,f 0 11 P,f 1 6 P,f 7 2 P,f 1 8 P,f 1 9 P,f 1 10 P,f 1 14 P,f 1 2 P,f 1 15 P,f 0 11 P,f 0 12 P,f 2 0 P,f 2 1 P,f 0 11 P,f 2 2 P,f 2 3 P,f 2 4 P,f 2 5 P,f 1 14 P,f 1 2 P,f 2 9 P,f 0 11 P,f 0 12 P,f 2 10 P,f 2 11 P,f 0 11 P,f 2 12 P,f 2 13 P,f 2 14 P,f 2 15 P,f 1 14 P,f 1 2 P,f 3 3 P,f 0 11 P,f 3 4 P,f 3 5 P,f 3 6 P,f 0 11 P,f 0 12 P,f 3 7 P,f 0 11 P,f 3 8 P,f 3 9 P,f 3 10 P,f 3 11 P,f 3 12 P,f 3 13 P,f 3 14 P,f 3 15 P,f 1 14 P,f 1 2 P,f 4 3 P,f 0 11 P,f 4 4 P,f 4 5 P,f 4 6 P,f 0 11 P,f 0 12 P,f 4 7 P,f 0 11 P,f 4 8 P,f 4 9 P,f 4 10 P,f 4 11 P,f 4 12 P,f 4 13 P,f 4 14 P,f 4 15 P,f 1 14 P,f 1 2 P,f 5 3 P,f 0 11 P,f 5 4 P,f 5 5 P,f 5 6 P,f 0 11 P,f 0 12 P,f 5 7 P,f 0 11 P,f 5 8 P,f 5 9 P,f 5 10 P,f 5 11 P,f 5 12 P,f 5 13 P,f 5 14 P,f 5 15 P,f 1 14 P,f 1 2 P,f 6 3 P,f 0 11 P,f 6 4 P,f 6 5 P,f 6 6 P,f 0 11 P,f 0 12 P,f 6 7 P,f 0 11 P,f 6 8 P,f 6 9 P,f 6 10 P,f 6 11 P,f 6 12 P,f 6 13 P,f 6 14 P,f 6 15 P,f 1 14 P,f 1 2 P,f 7 3 P,f 0 11 P,f 0 12 P,f 7 4 P,f 7 5 P,f 0 11 P,f 7 6 P,f 7 7 P,f 7 8 P,f 7 9 P,f 0 11 P,f 0 12 P,f 7 10 P,f 0 11 P,f 7 11 P,f 7 12 P,f 7 13 P,f 0 11 P,f 0 12 P,f 7 14 P,f 0 11 P,f 7 15 P,f 8 0 P,f 8 1 P,f 0 11 P,f 0 12 P,f 8 2 P,f 0 11 P,f 8 3 P,f 8 4 P,f 8 5 P,f 0 11 P,f 0 12 P,f 8 6 P,f 0 11 P,f 8 7 P,f 8 8 P,f 8 9 P,f 0 11 P,f 0 12 P,f 8 10 P,f 0 11 P,f 8 11 P,f 8 12 P,f 8 13 P,f 0 11 P,f 0 12 P,f 9 0 P,f 0 11 P,f 9 1 P,f 9 2 P,f 9 3 P,f 0 11 P,f 0 12 P,f 9 4 P,f 0 11 P,f 9 5 P,f 9 6 P,f 9 7 P,f 0 11 P,f 0 12 P,f 9 8 P,f 0 11 P,f 9 9 P,f 9 10 P,f 9 11 P,f 0 11 P,f 0 12 P,f 9 12 P,f 0 11 P,f 9 13 P,f 9 14 P,f 9 15 P,f 0 11 P,f 0 12 P,f 10 0 P,f 0 11 P,f 10 1 P,f 10 2 P,f 10 3 P,f 0 11 P,f 0 12 P,f 10 4 P,f 0 11 P,f 10 5 P,f 10 6 P,f 10 7 P,f 0 11 P,f 0 12 P,f 10 8 P,f 0 11 P,f 10 9 P,f 10 10 P,f 10 11 P,f 0 11 P,f 0 12 P,f 10 12 P,f 0 11 P,f 10 13 P,f 10 14 P,f 10 15 P,f 0 11 P,f 0 12 P,f 11 0 P,f 0 11 P,f 11 1 P,f 11 2 P,f 11 3 P,f 0 11 P,f 0 12 P,f 11 4 P,f 0 11 P,f 11 5 P,f 11 6 P,f 11 7 P,f 0 11 P,f 0 12 P,f 11 8 P,f 0 11 P,f 11 9 P,f 11 10 P,f 11 11 P,f 0 11 P,f 0 12 P,f 11 14 P,f 0 11 P,f 11 15 P,f 12 0 P,f 12 1 P,f 0 11 P,f 0 12 P,f 12 2 P,f 0 11 P,f 12 3 P,f 12 4 P,f 12 5 P,f 0 11 P,f 0 12 P,f 12 6 P,f 0 11 P,f 12 7 P,f 12 8 P,f 12 9 P,f 0 11 P,f 0 12 P,f 12 10 P,f 0 11 P,f 12 11 P,f 12 12 P,f 12 13 P,f 0 11 P,f 0 12 P,f 12 14 P,f 0 11 P,f 12 15 P,f 13 0 P,f 13 1 P,f 0 11 P,f 0 12 P,f 13 2 P,f 0 11 P,f 13 3 P,f 13 4 P,f 13 5 P,f 0 11 P,f 0 12 P,f 13 6 P,f 13 7 P,f 13 8 P,f 0 11 P,f 0 12 P,f 13 9 P,f 0 11 P,f 13 10 P,f 13 11 P,f 13 12 P,f 0 11 P,f 0 12 P,f 13 13 P,f 0 11 P,f 13 14 P,f 13 15 P,f 14 0 P,f 0 11 P,f 0 12 P,f 14 1 P,f 0 11 P,f 14 2 P,f 14 3 P,f 14 4 P,f 0 11 P,f 0 12 P,f 14 5 P,f 0 11 P,f 14 6 P,f 14 7 P,f 14 8 P,f 0 11 P,f 0 12 P,f 14 9 P,f 0 11 P,f 14 10 P,f 14 11 P,f 14 12 P,f 0 11 P,f 0 12 P,f 14 15 P,f 15 0 P,f 15 1 P,f 0 11 P,f 0 12 P,f 15 2 P,f 0 11 P,f 15 3 P,f 15 4 P,f 15 5 P,f 0 11 P,f 0 12 P,f 15 6 P,f 0 11 P,f 15 7 P,f 15 8 P,f 15 9 P,f 0 11 P,f 0 12 P,f 15 10 P,f 15 11 P,f 15 12 P,f 0 11 P,f 0 12 P,f 15 13 P,f 15 14 P,f 15 15 P,f 0 11 P,f 0 12 P,f 16 0 P,f 0 11 P,f 16 1 P,f 16 2 P,f 16 3 P,f 0 11 P,f 0 12 P,f 16 4 P,f 0 11 P,f 16 5 P,f 16 6 P,f 16 7 P,f 0 11 P,f 0 12 P,f 16 8 P,f 0 11 P,f 16 9 P,f 16 10 P,f 16 11 P,f 0 11 P,f 0 12 P,f 16 12 P,f 0 11 P,f 16 13 P,f 16 14 P,f 16 15 P,f 0 11 P,f 0 12 P,f 17 0 P,f 17 1 P,f 17 2 P]⟩,{}⟩
theorem laid:(fun(_:Program) (_:Program) (_:Nat->Nat->Params->Obj) (_:List Stmt) (_:List Stmt) (_:List Stmt) (_:List Stmt) (_:List Stmt) (_:List Stmt) (_:List Stmt) (_:List Stmt) (_:List Stmt) (_:List Stmt) (_:List Stmt)=>true) pw2 vw fA sx0 sx1 sx2 sx3 sx4 sx5 sx6 sx7 sx8 sx9 sx10=true:=by k_qdec
end Q_k09_no_plots
noncomputable def PySem.W.Fast.tw13703377748068794325:PySem.Program:=PySem.W.Fast.tw421262886286470352
theorem PySem.W.Fast.te13703377748068794325:PySem.Challenge.pw_spotlook_k09_no_plots=PySem.W.Fast.tw13703377748068794325:=Eq.trans (by kernel_rfl:PySem.Challenge.pw_spotlook_k09_no_plots=Q_k09_no_plots.pw2) PySem.W.Fast.te421262886286470352
noncomputable def PySem.W.Fast.tw1350401793663295641:PySem.Program:=PySem.W.Fast.tw5125819257136418855
theorem PySem.W.Fast.te1350401793663295641:Q_k09_no_plots.vw=PySem.W.Fast.tw1350401793663295641:=PySem.W.Fast.te5125819257136418855
noncomputable def PySem.W.Fast.tw589815644205949013:List PySem.Stmt:=PySem.W.Fast.tw13060172530139915616
theorem PySem.W.Fast.te589815644205949013:Q_k09_no_plots.sx0=PySem.W.Fast.tw589815644205949013:=PySem.W.Fast.te13060172530139915616
noncomputable def PySem.W.Fast.tw9195646398026684740:List PySem.Stmt:=PySem.W.Fast.tw16092791911114258076
theorem PySem.W.Fast.te9195646398026684740:Q_k09_no_plots.sx1=PySem.W.Fast.tw9195646398026684740:=PySem.W.Fast.te16092791911114258076
noncomputable def PySem.W.Fast.tw9916218528934770535:List PySem.Stmt:=PySem.W.Fast.tw7562615642688610327
theorem PySem.W.Fast.te9916218528934770535:Q_k09_no_plots.sx2=PySem.W.Fast.tw9916218528934770535:=PySem.W.Fast.te7562615642688610327
noncomputable def PySem.W.Fast.tw2377540514625995917:List PySem.Stmt:=PySem.W.Fast.tw15020479372465673537
theorem PySem.W.Fast.te2377540514625995917:Q_k09_no_plots.sx3=PySem.W.Fast.tw2377540514625995917:=PySem.W.Fast.te15020479372465673537
noncomputable def PySem.W.Fast.tw15448571318794436631:List PySem.Stmt:=PySem.W.Fast.tw6640338912128325985
theorem PySem.W.Fast.te15448571318794436631:Q_k09_no_plots.sx4=PySem.W.Fast.tw15448571318794436631:=PySem.W.Fast.te6640338912128325985
noncomputable def PySem.W.Fast.tw7478867992756937303:List PySem.Stmt:=PySem.W.Fast.tw10428739463684035472
theorem PySem.W.Fast.te7478867992756937303:Q_k09_no_plots.sx5=PySem.W.Fast.tw7478867992756937303:=PySem.W.Fast.te10428739463684035472
noncomputable def PySem.W.Fast.tw4644007234090635299:List PySem.Stmt:=PySem.W.Fast.tw11794786331593728580
theorem PySem.W.Fast.te4644007234090635299:Q_k09_no_plots.sx6=PySem.W.Fast.tw4644007234090635299:=PySem.W.Fast.te11794786331593728580
noncomputable def PySem.W.Fast.tw17707218889671093775:List PySem.Stmt:=PySem.W.Fast.tw10068166316286510430
theorem PySem.W.Fast.te17707218889671093775:Q_k09_no_plots.sx7=PySem.W.Fast.tw17707218889671093775:=PySem.W.Fast.te10068166316286510430
noncomputable def PySem.W.Fast.tw2547302717140194389:List PySem.Stmt:=PySem.W.Fast.tw2016953143648725319
theorem PySem.W.Fast.te2547302717140194389:Q_k09_no_plots.sx8=PySem.W.Fast.tw2547302717140194389:=PySem.W.Fast.te2016953143648725319
noncomputable def PySem.W.Fast.tw12479743953813267427:List PySem.Stmt:=PySem.W.Fast.tw6323957578776628988
theorem PySem.W.Fast.te12479743953813267427:Q_k09_no_plots.sx9=PySem.W.Fast.tw12479743953813267427:=PySem.W.Fast.te6323957578776628988
noncomputable def PySem.W.Fast.tw11349190116399342174:List PySem.Stmt:=PySem.W.Fast.tw2117354199788980592
theorem PySem.W.Fast.te11349190116399342174:Q_k09_no_plots.sx10=PySem.W.Fast.tw11349190116399342174:=PySem.W.Fast.te2117354199788980592
noncomputable def PySem.W.Fast.tw10918718049652385310:PySem.Params->PySem.W.BT:=Q_k09_no_plots.tX0 PySem.W.Fast.tw17407877497895291922
theorem PySem.W.Fast.te10918718049652385310:Q_k09_no_plots.tX0 Q_k09_no_plots.fA=PySem.W.Fast.tw10918718049652385310:=congrArg Q_k09_no_plots.tX0 PySem.W.Fast.te17407877497895291922
noncomputable def PySem.W.Fast.tw13640011314460131603:PySem.Params->PySem.W.BT:=Q_k09_no_plots.tX1 PySem.W.Fast.tw17407877497895291922
theorem PySem.W.Fast.te13640011314460131603:Q_k09_no_plots.tX1 Q_k09_no_plots.fA=PySem.W.Fast.tw13640011314460131603:=congrArg Q_k09_no_plots.tX1 PySem.W.Fast.te17407877497895291922
noncomputable def PySem.W.Fast.tw4311027657515093013:PySem.Params->PySem.W.BT:=Q_k09_no_plots.tX2 PySem.W.Fast.tw17407877497895291922
theorem PySem.W.Fast.te4311027657515093013:Q_k09_no_plots.tX2 Q_k09_no_plots.fA=PySem.W.Fast.tw4311027657515093013:=congrArg Q_k09_no_plots.tX2 PySem.W.Fast.te17407877497895291922
noncomputable def PySem.W.Fast.tw9797536086367895535:PySem.Params->PySem.W.BT:=Q_k09_no_plots.tX3 PySem.W.Fast.tw17407877497895291922
theorem PySem.W.Fast.te9797536086367895535:Q_k09_no_plots.tX3 Q_k09_no_plots.fA=PySem.W.Fast.tw9797536086367895535:=congrArg Q_k09_no_plots.tX3 PySem.W.Fast.te17407877497895291922
noncomputable def PySem.W.Fast.tw5806371747476247437:PySem.Params->PySem.W.BT:=Q_k09_no_plots.tX4 PySem.W.Fast.tw17407877497895291922
theorem PySem.W.Fast.te5806371747476247437:Q_k09_no_plots.tX4 Q_k09_no_plots.fA=PySem.W.Fast.tw5806371747476247437:=congrArg Q_k09_no_plots.tX4 PySem.W.Fast.te17407877497895291922
noncomputable def PySem.W.Fast.tw6937963532385703732:PySem.Params->PySem.W.BT:=Q_k09_no_plots.tX5 PySem.W.Fast.tw17407877497895291922
theorem PySem.W.Fast.te6937963532385703732:Q_k09_no_plots.tX5 Q_k09_no_plots.fA=PySem.W.Fast.tw6937963532385703732:=congrArg Q_k09_no_plots.tX5 PySem.W.Fast.te17407877497895291922
noncomputable def PySem.W.Fast.tw15254785241550485436:PySem.Params->PySem.W.BT:=Q_k09_no_plots.tX6 PySem.W.Fast.tw17407877497895291922
theorem PySem.W.Fast.te15254785241550485436:Q_k09_no_plots.tX6 Q_k09_no_plots.fA=PySem.W.Fast.tw15254785241550485436:=congrArg Q_k09_no_plots.tX6 PySem.W.Fast.te17407877497895291922
noncomputable def PySem.W.Fast.tw1361158762900467710:PySem.Params->PySem.W.BT:=Q_k09_no_plots.tX7 PySem.W.Fast.tw17407877497895291922
theorem PySem.W.Fast.te1361158762900467710:Q_k09_no_plots.tX7 Q_k09_no_plots.fA=PySem.W.Fast.tw1361158762900467710:=congrArg Q_k09_no_plots.tX7 PySem.W.Fast.te17407877497895291922
noncomputable def PySem.W.Fast.tw4055507103744946567:PySem.Params->PySem.W.BT:=Q_k09_no_plots.tX8 PySem.W.Fast.tw17407877497895291922
theorem PySem.W.Fast.te4055507103744946567:Q_k09_no_plots.tX8 Q_k09_no_plots.fA=PySem.W.Fast.tw4055507103744946567:=congrArg Q_k09_no_plots.tX8 PySem.W.Fast.te17407877497895291922
noncomputable def PySem.W.Fast.tw17795071097681551912:PySem.Params->PySem.W.BT:=Q_k09_no_plots.tX9 PySem.W.Fast.tw17407877497895291922
theorem PySem.W.Fast.te17795071097681551912:Q_k09_no_plots.tX9 Q_k09_no_plots.fA=PySem.W.Fast.tw17795071097681551912:=congrArg Q_k09_no_plots.tX9 PySem.W.Fast.te17407877497895291922
noncomputable def PySem.W.Fast.tw11618092152595744483:PySem.Params->PySem.W.BT:=Q_k09_no_plots.tX10 PySem.W.Fast.tw17407877497895291922
theorem PySem.W.Fast.te11618092152595744483:Q_k09_no_plots.tX10 Q_k09_no_plots.fA=PySem.W.Fast.tw11618092152595744483:=congrArg Q_k09_no_plots.tX10 PySem.W.Fast.te17407877497895291922
noncomputable def PySem.W.Fast.tw14170851800761811872:PySem.Params->PySem.W.BT:=Q_k09_no_plots.tX11 PySem.W.Fast.tw17407877497895291922
theorem PySem.W.Fast.te14170851800761811872:Q_k09_no_plots.tX11 Q_k09_no_plots.fA=PySem.W.Fast.tw14170851800761811872:=congrArg Q_k09_no_plots.tX11 PySem.W.Fast.te17407877497895291922
noncomputable def PySem.W.Fast.tw7235734083055034060:PySem.Params->PySem.Heap:=Q_k09_no_plots.hX0 PySem.W.Fast.tw17407877497895291922
theorem PySem.W.Fast.te7235734083055034060:Q_k09_no_plots.hX0 Q_k09_no_plots.fA=PySem.W.Fast.tw7235734083055034060:=congrArg Q_k09_no_plots.hX0 PySem.W.Fast.te17407877497895291922
noncomputable def PySem.W.Fast.tw2855657021683992979:PySem.Params->PySem.Heap:=Q_k09_no_plots.hX1 PySem.W.Fast.tw17407877497895291922
theorem PySem.W.Fast.te2855657021683992979:Q_k09_no_plots.hX1 Q_k09_no_plots.fA=PySem.W.Fast.tw2855657021683992979:=congrArg Q_k09_no_plots.hX1 PySem.W.Fast.te17407877497895291922
open PySem PySem.W PyProof.Rows
set_option maxRecDepth 100000 in
set_option maxHeartbeats 0 in
theorem PySem.Challenge.cw_spotlook_k09_no_plots_holds : PySem.Challenge.rw_spotlook_k09_no_plots.Holds := by
 w_on;o_law;o_head (PySem.W.kHook Q_k09_no_plots.kK [nat_lit 2,nat_lit 3,nat_lit 23,nat_lit 24,nat_lit 36,nat_lit 37,nat_lit 48,nat_lit 49,nat_lit 64,nat_lit 65,nat_lit 67,nat_lit 68,nat_lit 83,nat_lit 84,nat_lit 86,nat_lit 87,nat_lit 102,nat_lit 103,nat_lit 105,nat_lit 106,nat_lit 121,nat_lit 122,nat_lit 124,nat_lit 125,nat_lit 136,nat_lit 137,nat_lit 145,nat_lit 146,nat_lit 152,nat_lit 153,nat_lit 159,nat_lit 160,nat_lit 166,nat_lit 167,nat_lit 173,nat_lit 174,nat_lit 180,nat_lit 181,nat_lit 187,nat_lit 188,nat_lit 194,nat_lit 195,nat_lit 201,nat_lit 202,nat_lit 208,nat_lit 209,nat_lit 215,nat_lit 216,nat_lit 222,nat_lit 223,nat_lit 229,nat_lit 230,nat_lit 236,nat_lit 237,nat_lit 243,nat_lit 244,nat_lit 250,nat_lit 251,nat_lit 257,nat_lit 258,nat_lit 264,nat_lit 265,nat_lit 271,nat_lit 272,nat_lit 278,nat_lit 279,nat_lit 285,nat_lit 286,nat_lit 292,nat_lit 293,nat_lit 297,nat_lit 298,nat_lit 304,nat_lit 305,nat_lit 311,nat_lit 312,nat_lit 318,nat_lit 319,nat_lit 325,nat_lit 326,nat_lit 332,nat_lit 333,nat_lit 337,nat_lit 338,nat_lit 344,nat_lit 345,nat_lit 351,nat_lit 352,nat_lit 356,nat_lit 357,nat_lit 361,nat_lit 362,nat_lit 368,nat_lit 369,nat_lit 375,nat_lit 376,nat_lit 382,nat_lit 383,nat_lit 389,nat_lit 390,nat_lit 394,nat_lit 395] (fun _=>by kernel_rfl));(case hw=>w_witness2)
 k_fill
 refine SD.r0 (k:=11) (x:="_law_script") (sp:=Q_k09_no_plots.gH) (l:=PySem.Challenge.rw_spotlook_k09_no_plots) rfl rfl ⟨rfl,by decide,by decide⟩ (fun w h Y=>PySem.W.kIn_of Y) ?F Q_k09_no_plots.xh
 case F=>
  intro w mg fa h KX G hmg
  have t_law_cell_at:SD.Txt (L2.KOf KX) mg "_law_cell_at" Q_k09_no_plots.du:=by
   dsimp only[L2.KOf]
   refine' SD.Txt.mk KX G ?a ?l ?c ?k
   (case a=>k_is);(case l=>k_is);(case c=>k_is);(case k=>k_is)
  have t_law_take:SD.Txt (L2.KOf KX) mg "_law_take" Q_k09_no_plots.fv:=by
   dsimp only[L2.KOf]
   refine' SD.Txt.mk KX G ?a ?l ?c ?k
   (case a=>k_is);(case l=>k_is);(case c=>k_is);(case k=>k_is)
  have t_law_scale:SD.Txt (L2.KOf KX) mg "_law_scale" Q_k09_no_plots.el:=by
   dsimp only[L2.KOf]
   refine' SD.Txt.mk KX G ?a ?l ?c ?k
   (case a=>k_is);(case l=>k_is);(case c=>k_is);(case k=>k_is)
  have t_law_turn:SD.Txt (L2.KOf KX) mg "_law_turn" Q_k09_no_plots.fN:=by
   dsimp only[L2.KOf]
   refine' SD.Txt.mk KX G ?a ?l ?c ?k
   (case a=>k_is);(case l=>k_is);(case c=>k_is);(case k=>k_is)
  have t_law_on:SD.Txt (L2.KOf KX) mg "_law_on" Q_k09_no_plots.iN:=by
   dsimp only[L2.KOf]
   refine' SD.Txt.mk KX G ?a ?l ?c ?k
   (case a=>k_is);(case l=>k_is);(case c=>k_is);(case k=>k_is)
  have t_law_fair:SD.Txt (L2.KOf KX) mg "_law_fair" Q_k09_no_plots.fY:=by
   dsimp only[L2.KOf]
   refine' SD.Txt.mk KX G ?a ?l ?c ?k
   (case a=>k_is);(case l=>k_is);(case c=>k_is);(case k=>k_is)
  have t_law_shuts_here:SD.Txt (L2.KOf KX) mg "_law_shuts_here" Q_k09_no_plots.bV:=by
   dsimp only[L2.KOf]
   refine' SD.Txt.mk KX G ?a ?l ?c ?k
   (case a=>k_is);(case l=>k_is);(case c=>k_is);(case k=>k_is)
  have t_law_more:SD.Txt (L2.KOf KX) mg "_law_more" Q_k09_no_plots.fD:=by
   dsimp only[L2.KOf]
   refine' SD.Txt.mk KX G ?a ?l ?c ?k
   (case a=>k_is);(case l=>k_is);(case c=>k_is);(case k=>k_is)
  have t_law_low:SD.Txt (L2.KOf KX) mg "_law_low" Q_k09_no_plots.gx:=by
   dsimp only[L2.KOf]
   refine' SD.Txt.mk KX G ?a ?l ?c ?k
   (case a=>k_is);(case l=>k_is);(case c=>k_is);(case k=>k_is)
  have t_law_spot:SD.Txt (L2.KOf KX) mg "_law_spot" Q_k09_no_plots.fR:=by
   dsimp only[L2.KOf]
   refine' SD.Txt.mk KX G ?a ?l ?c ?k
   (case a=>k_is);(case l=>k_is);(case c=>k_is);(case k=>k_is)
  have t_law_made:SD.Txt (L2.KOf KX) mg "_law_made" Q_k09_no_plots.fH:=by
   dsimp only[L2.KOf]
   refine' SD.Txt.mk KX G ?a ?l ?c ?k
   (case a=>k_is);(case l=>k_is);(case c=>k_is);(case k=>k_is)
  have t_gap:SD.Txt (L2.KOf KX) mg "gap" Q_k09_no_plots.rn:=by
   dsimp only[L2.KOf]
   refine' SD.Txt.mk KX G ?a ?l ?c ?k
   (case a=>k_is);(case l=>k_is);(case c=>k_is);(case k=>k_is)
  have t_lean:SD.Txt (L2.KOf KX) mg "lean" Q_k09_no_plots.oo:=by
   dsimp only[L2.KOf]
   refine' SD.Txt.mk KX G ?a ?l ?c ?k
   (case a=>k_is);(case l=>k_is);(case c=>k_is);(case k=>k_is)
  have t_side_of:SD.Txt (L2.KOf KX) mg "side_of" Q_k09_no_plots.gJ:=by
   dsimp only[L2.KOf]
   refine' SD.Txt.mk KX G ?a ?l ?c ?k
   (case a=>k_is);(case l=>k_is);(case c=>k_is);(case k=>k_is)
  have t_is_less:SD.Txt (L2.KOf KX) mg "is_less" Q_k09_no_plots.gF:=by
   dsimp only[L2.KOf]
   refine' SD.Txt.mk KX G ?a ?l ?c ?k
   (case a=>k_is);(case l=>k_is);(case c=>k_is);(case k=>k_is)
  have t_is_ahead:SD.Txt (L2.KOf KX) mg "is_ahead" Q_k09_no_plots.fM:=by
   dsimp only[L2.KOf]
   refine' SD.Txt.mk KX G ?a ?l ?c ?k
   (case a=>k_is);(case l=>k_is);(case c=>k_is);(case k=>k_is)
  have t_later_of:SD.Txt (L2.KOf KX) mg "later_of" Q_k09_no_plots.fu:=by
   dsimp only[L2.KOf]
   refine' SD.Txt.mk KX G ?a ?l ?c ?k
   (case a=>k_is);(case l=>k_is);(case c=>k_is);(case k=>k_is)
  have t_earlier_of:SD.Txt (L2.KOf KX) mg "earlier_of" Q_k09_no_plots.d7:=by
   dsimp only[L2.KOf]
   refine' SD.Txt.mk KX G ?a ?l ?c ?k
   (case a=>k_is);(case l=>k_is);(case c=>k_is);(case k=>k_is)
  have t_greatest_divisor:SD.Txt (L2.KOf KX) mg "greatest_divisor" Q_k09_no_plots.bH:=by
   dsimp only[L2.KOf]
   refine' SD.Txt.mk KX G ?a ?l ?c ?k
   (case a=>k_is);(case l=>k_is);(case c=>k_is);(case k=>k_is)
  have t_fraction:SD.Txt (L2.KOf KX) mg "fraction" Q_k09_no_plots.fS:=by
   dsimp only[L2.KOf]
   refine' SD.Txt.mk KX G ?a ?l ?c ?k
   (case a=>k_is);(case l=>k_is);(case c=>k_is);(case k=>k_is)
  have t_own_spot:SD.Txt (L2.KOf KX) mg "own_spot" Q_k09_no_plots.fV:=by
   dsimp only[L2.KOf]
   refine' SD.Txt.mk KX G ?a ?l ?c ?k
   (case a=>k_is);(case l=>k_is);(case c=>k_is);(case k=>k_is)
  have t_own_wall:SD.Txt (L2.KOf KX) mg "own_wall" Q_k09_no_plots.fq:=by
   dsimp only[L2.KOf]
   refine' SD.Txt.mk KX G ?a ?l ?c ?k
   (case a=>k_is);(case l=>k_is);(case c=>k_is);(case k=>k_is)
  have t_meeting_in_line:SD.Txt (L2.KOf KX) mg "meeting_in_line" Q_k09_no_plots.bQ:=by
   dsimp only[L2.KOf]
   refine' SD.Txt.mk KX G ?a ?l ?c ?k
   (case a=>k_is);(case l=>k_is);(case c=>k_is);(case k=>k_is)
  have t_over:SD.Txt (L2.KOf KX) mg "over" Q_k09_no_plots.nK:=by
   dsimp only[L2.KOf]
   refine' SD.Txt.mk KX G ?a ?l ?c ?k
   (case a=>k_is);(case l=>k_is);(case c=>k_is);(case k=>k_is)
  have t_less:SD.Txt (L2.KOf KX) mg "less" Q_k09_no_plots.nh:=by
   dsimp only[L2.KOf]
   refine' SD.Txt.mk KX G ?a ?l ?c ?k
   (case a=>k_is);(case l=>k_is);(case c=>k_is);(case k=>k_is)
  have t_plus:SD.Txt (L2.KOf KX) mg "plus" Q_k09_no_plots.nr:=by
   dsimp only[L2.KOf]
   refine' SD.Txt.mk KX G ?a ?l ?c ?k
   (case a=>k_is);(case l=>k_is);(case c=>k_is);(case k=>k_is)
  have t_times:SD.Txt (L2.KOf KX) mg "times" Q_k09_no_plots.kX:=by
   dsimp only[L2.KOf]
   refine' SD.Txt.mk KX G ?a ?l ?c ?k
   (case a=>k_is);(case l=>k_is);(case c=>k_is);(case k=>k_is)
  have t_number_between:SD.Txt (L2.KOf KX) mg "number_between" Q_k09_no_plots.bY:=by
   dsimp only[L2.KOf]
   refine' SD.Txt.mk KX G ?a ?l ?c ?k
   (case a=>k_is);(case l=>k_is);(case c=>k_is);(case k=>k_is)
  have t_crossing_spot:SD.Txt (L2.KOf KX) mg "crossing_spot" Q_k09_no_plots.cg:=by
   dsimp only[L2.KOf]
   refine' SD.Txt.mk KX G ?a ?l ?c ?k
   (case a=>k_is);(case l=>k_is);(case c=>k_is);(case k=>k_is)
  have t_meeting:SD.Txt (L2.KOf KX) mg "meeting" Q_k09_no_plots.gI:=by
   dsimp only[L2.KOf]
   refine' SD.Txt.mk KX G ?a ?l ?c ?k
   (case a=>k_is);(case l=>k_is);(case c=>k_is);(case k=>k_is)
  have t_meet_as_in_plots:SD.Txt (L2.KOf KX) mg "meet_as_in_plots" Q_k09_no_plots.bE:=by
   dsimp only[L2.KOf]
   refine' SD.Txt.mk KX G ?a ?l ?c ?k
   (case a=>k_is);(case l=>k_is);(case c=>k_is);(case k=>k_is)
  have t_first_crossed:SD.Txt (L2.KOf KX) mg "first_crossed" Q_k09_no_plots.cw:=by
   dsimp only[L2.KOf]
   refine' SD.Txt.mk KX G ?a ?l ?c ?k
   (case a=>k_is);(case l=>k_is);(case c=>k_is);(case k=>k_is)
  have t_own_plot:SD.Txt (L2.KOf KX) mg "own_plot" Q_k09_no_plots.fU:=by
   dsimp only[L2.KOf]
   refine' SD.Txt.mk KX G ?a ?l ?c ?k
   (case a=>k_is);(case l=>k_is);(case c=>k_is);(case k=>k_is)
  have t_plot_of:SD.Txt (L2.KOf KX) mg "plot_of" Q_k09_no_plots.gQ:=by
   dsimp only[L2.KOf]
   refine' SD.Txt.mk KX G ?a ?l ?c ?k
   (case a=>k_is);(case l=>k_is);(case c=>k_is);(case k=>k_is)
  have t_law_alone:SD.Txt (L2.KOf KX) mg "_law_alone" Q_k09_no_plots.eJ:=by
   dsimp only[L2.KOf]
   refine' SD.Txt.mk KX G ?a ?l ?c ?k
   (case a=>k_is);(case l=>k_is);(case c=>k_is);(case k=>k_is)
  have t_law_told:SD.Txt (L2.KOf KX) mg "_law_told" Q_k09_no_plots.fL:=by
   dsimp only[L2.KOf]
   refine' SD.Txt.mk KX G ?a ?l ?c ?k
   (case a=>k_is);(case l=>k_is);(case c=>k_is);(case k=>k_is)
  have t_law_due:SD.Txt (L2.KOf KX) mg "_law_due" Q_k09_no_plots.gC:=by
   dsimp only[L2.KOf]
   refine' SD.Txt.mk KX G ?a ?l ?c ?k
   (case a=>k_is);(case l=>k_is);(case c=>k_is);(case k=>k_is)
  have t_law:SD.Txt (L2.KOf KX) mg "law" Q_k09_no_plots.sL:=by
   dsimp only[L2.KOf]
   refine' SD.Txt.mk KX G ?a ?l ?c ?k
   (case a=>k_is);(case l=>k_is);(case c=>k_is);(case k=>k_is)
  have b_ValueError:mg "ValueError"=none:=by
   refine' PySem.W.mg_none_of KX G ?a
   (case a=>k_is)
  have b_abs:mg "abs"=none:=by
   refine' PySem.W.mg_none_of KX G ?a
   (case a=>k_is)
  have b_all:mg "all"=none:=by
   refine' PySem.W.mg_none_of KX G ?a
   (case a=>k_is)
  have b_enumerate:mg "enumerate"=none:=by
   refine' PySem.W.mg_none_of KX G ?a
   (case a=>k_is)
  have b_int:mg "int"=none:=by
   refine' PySem.W.mg_none_of KX G ?a
   (case a=>k_is)
  have b_isinstance:mg "isinstance"=none:=by
   refine' PySem.W.mg_none_of KX G ?a
   (case a=>k_is)
  have b_len:mg "len"=none:=by
   refine' PySem.W.mg_none_of KX G ?a
   (case a=>k_is)
  have b_list:mg "list"=none:=by
   refine' PySem.W.mg_none_of KX G ?a
   (case a=>k_is)
  have b_max:mg "max"=none:=by
   refine' PySem.W.mg_none_of KX G ?a
   (case a=>k_is)
  have b_min:mg "min"=none:=by
   refine' PySem.W.mg_none_of KX G ?a
   (case a=>k_is)
  have b_range:mg "range"=none:=by
   refine' PySem.W.mg_none_of KX G ?a
   (case a=>k_is)
  have b_tuple:mg "tuple"=none:=by
   refine' PySem.W.mg_none_of KX G ?a
   (case a=>k_is)
  have g_MOST_WALLS:∃t,mg "MOST_WALLS"=some (.int 40 t):=by
   refine' SD.yX KX G ?a
   (case a=>k_is)
  have r_Absent:mg "Absent"=some (.ref (SD.cl (L2.KOf KX) "Absent")):=by
   dsimp only[L2.KOf]
   refine' SD.gU KX G ?a
   (case a=>k_is)
  have r_Crossing:mg "Crossing"=some (.ref (SD.cl (L2.KOf KX) "Crossing")):=by
   dsimp only[L2.KOf]
   refine' SD.gU KX G ?a
   (case a=>k_is)
  have r_NoFraction:mg "NoFraction"=some (.ref (SD.cl (L2.KOf KX) "NoFraction")):=by
   dsimp only[L2.KOf]
   refine' SD.gU KX G ?a
   (case a=>k_is)
  have r_NoRow:mg "NoRow"=some (.ref (SD.cl (L2.KOf KX) "NoRow")):=by
   dsimp only[L2.KOf]
   refine' SD.gU KX G ?a
   (case a=>k_is)
  have r_NoText:mg "NoText"=some (.ref (SD.cl (L2.KOf KX) "NoText")):=by
   dsimp only[L2.KOf]
   refine' SD.gU KX G ?a
   (case a=>k_is)
  have r_NoWall:mg "NoWall"=some (.ref (SD.cl (L2.KOf KX) "NoWall")):=by
   dsimp only[L2.KOf]
   refine' SD.gU KX G ?a
   (case a=>k_is)
  have r_SpotError:mg "SpotError"=some (.ref (SD.cl (L2.KOf KX) "SpotError")):=by
   dsimp only[L2.KOf]
   refine' SD.gU KX G ?a
   (case a=>k_is)
  have r_TooMany:mg "TooMany"=some (.ref (SD.cl (L2.KOf KX) "TooMany")):=by
   dsimp only[L2.KOf]
   refine' SD.gU KX G ?a
   (case a=>k_is)
  have e_SpotError:SD.ClsE (L2.KOf KX) "SpotError" (SD.cl (L2.KOf KX) "SpotError"):=by
   dsimp only[L2.KOf]
   refine' SD.zQ ?a ?b
   (case a=>k_is);(case b=>k_exc)
  have eb_SpotError:PySem.W.subIn (L2.KOf KX) (.ref (SD.cl (L2.KOf KX) "SpotError")) (.type "BaseException")=some true:=by
   dsimp only[L2.KOf]
   refine' SD.kS ?a ?b
   (case a=>k_is);(case b=>k_is)
  have B_SpotError:SD.ClsB (L2.KOf KX) (SD.cl (L2.KOf KX) "SpotError"):=by
   dsimp only[L2.KOf]
   refine' SD.uO ?a ?b ?c ?d
   (case a=>k_is);(case b=>k_is);(case c=>k_is);(case d=>k_is)
  have eb_Crossing:PySem.W.subIn (L2.KOf KX) (.ref (SD.cl (L2.KOf KX) "Crossing")) (.type "BaseException")=some true:=by
   dsimp only[L2.KOf]
   refine' SD.kS ?a ?b
   (case a=>k_is);(case b=>k_is)
  have es_Crossing_SpotError:PySem.W.subIn (L2.KOf KX) (.ref (SD.cl (L2.KOf KX) "Crossing")) (.ref (SD.cl (L2.KOf KX) "SpotError"))=some true:=by
   dsimp only[L2.KOf]
   refine' SD.sj ?a ?b ?c
   (case a=>k_is);(case b=>k_is);(case c=>k_is)
  have fn_Crossing_wall:PySem.W.findIn (L2.KOf KX) (.ref (SD.cl (L2.KOf KX) "Crossing")) "wall"=some none:=by
   dsimp only[L2.KOf]
   refine' SD.mT ?a ?b
   (case a=>k_is);(case b=>k_is)
  have fn_Crossing_other:PySem.W.findIn (L2.KOf KX) (.ref (SD.cl (L2.KOf KX) "Crossing")) "other"=some none:=by
   dsimp only[L2.KOf]
   refine' SD.mT ?a ?b
   (case a=>k_is);(case b=>k_is)
  have hd_Crossing:PySem.W.hasDictIn (L2.KOf KX) (SD.cl (L2.KOf KX) "Crossing")=true:=by
   dsimp only[L2.KOf]
   refine' SD.vq ?a ?b
   (case a=>k_is);(case b=>k_is)
  have m_Crossing:∃fI fd,SD.ClsI (L2.KOf KX) (SD.cl (L2.KOf KX) "Crossing") (SD.cl (L2.KOf KX) "SpotError") fI/\L2.Fun (L2.KOf KX) "__init__" "Crossing.__init__" Q_k09_no_plots.eg fI fd:=by
   dsimp only[L2.KOf]
   refine' SD.oH ?a ?b ?l ?lN ?ok ?ni ?e ?fn ?kp ?hd ?sa ?ob ?lf ?cf ?kf
   (case a=>k_is);(case b=>k_is);(case l=>k_is);(case lN=>k_is);(case ok=>rfl);(case ni=>k_is);(case e=>k_exc);(case fn=>k_is);(case kp=>k_is);(case hd=>k_is);(case sa=>k_is);(case ob=>k_is);(case lf=>k_is);(case cf=>k_is);(case kf=>k_is)
  have ek_Crossing:SD.ErrK (L2.KOf KX) (SD.cl (L2.KOf KX) "Crossing"):=by
   dsimp only[L2.KOf]
   refine' SD.uZ ?a ?b ?c ?d ?e ?f ?g
   (case a=>k_is);(case b=>k_is);(case c=>k_is);(case d=>k_is);(case e=>k_is);(case f=>k_is);(case g=>k_is)
  have kv_Crossing:PySem.W.kitOne (L2.KOf KX) (.ref (SD.cl (L2.KOf KX) "Crossing")) (.type "ValueError")=some true:=by
   dsimp only[L2.KOf]
   refine' SD.oP ?a ?b (by decide +kernel)
   (case a=>k_is);(case b=>k_is)
  have ki_Crossing_Absent:PySem.W.kitOne (L2.KOf KX) (.ref (SD.cl (L2.KOf KX) "Crossing")) (.ref (SD.cl (L2.KOf KX) "Absent"))=some false:=by
   dsimp only[L2.KOf]
   refine' SD.cu ?a ?b ?c ?d ?e
   (case a=>k_is);(case b=>k_is);(case c=>k_is);(case d=>k_is);(case e=>with_unfolding_all rfl)
  have ki_Crossing_Crossing:PySem.W.kitOne (L2.KOf KX) (.ref (SD.cl (L2.KOf KX) "Crossing")) (.ref (SD.cl (L2.KOf KX) "Crossing"))=some true:=by
   dsimp only[L2.KOf]
   refine' SD.pI
  have ki_Crossing_NoFraction:PySem.W.kitOne (L2.KOf KX) (.ref (SD.cl (L2.KOf KX) "Crossing")) (.ref (SD.cl (L2.KOf KX) "NoFraction"))=some false:=by
   dsimp only[L2.KOf]
   refine' SD.cu ?a ?b ?c ?d ?e
   (case a=>k_is);(case b=>k_is);(case c=>k_is);(case d=>k_is);(case e=>with_unfolding_all rfl)
  have ki_Crossing_NoRow:PySem.W.kitOne (L2.KOf KX) (.ref (SD.cl (L2.KOf KX) "Crossing")) (.ref (SD.cl (L2.KOf KX) "NoRow"))=some false:=by
   dsimp only[L2.KOf]
   refine' SD.cu ?a ?b ?c ?d ?e
   (case a=>k_is);(case b=>k_is);(case c=>k_is);(case d=>k_is);(case e=>with_unfolding_all rfl)
  have ki_Crossing_NoText:PySem.W.kitOne (L2.KOf KX) (.ref (SD.cl (L2.KOf KX) "Crossing")) (.ref (SD.cl (L2.KOf KX) "NoText"))=some false:=by
   dsimp only[L2.KOf]
   refine' SD.cu ?a ?b ?c ?d ?e
   (case a=>k_is);(case b=>k_is);(case c=>k_is);(case d=>k_is);(case e=>with_unfolding_all rfl)
  have ki_Crossing_NoWall:PySem.W.kitOne (L2.KOf KX) (.ref (SD.cl (L2.KOf KX) "Crossing")) (.ref (SD.cl (L2.KOf KX) "NoWall"))=some false:=by
   dsimp only[L2.KOf]
   refine' SD.cu ?a ?b ?c ?d ?e
   (case a=>k_is);(case b=>k_is);(case c=>k_is);(case d=>k_is);(case e=>with_unfolding_all rfl)
  have ki_Crossing_TooMany:PySem.W.kitOne (L2.KOf KX) (.ref (SD.cl (L2.KOf KX) "Crossing")) (.ref (SD.cl (L2.KOf KX) "TooMany"))=some false:=by
   dsimp only[L2.KOf]
   refine' SD.cu ?a ?b ?c ?d ?e
   (case a=>k_is);(case b=>k_is);(case c=>k_is);(case d=>k_is);(case e=>with_unfolding_all rfl)
  have eb_TooMany:PySem.W.subIn (L2.KOf KX) (.ref (SD.cl (L2.KOf KX) "TooMany")) (.type "BaseException")=some true:=by
   dsimp only[L2.KOf]
   refine' SD.kS ?a ?b
   (case a=>k_is);(case b=>k_is)
  have es_TooMany_SpotError:PySem.W.subIn (L2.KOf KX) (.ref (SD.cl (L2.KOf KX) "TooMany")) (.ref (SD.cl (L2.KOf KX) "SpotError"))=some true:=by
   dsimp only[L2.KOf]
   refine' SD.sj ?a ?b ?c
   (case a=>k_is);(case b=>k_is);(case c=>k_is)
  have fn_TooMany_count:PySem.W.findIn (L2.KOf KX) (.ref (SD.cl (L2.KOf KX) "TooMany")) "count"=some none:=by
   dsimp only[L2.KOf]
   refine' SD.mT ?a ?b
   (case a=>k_is);(case b=>k_is)
  have hd_TooMany:PySem.W.hasDictIn (L2.KOf KX) (SD.cl (L2.KOf KX) "TooMany")=true:=by
   dsimp only[L2.KOf]
   refine' SD.vq ?a ?b
   (case a=>k_is);(case b=>k_is)
  have m_TooMany:∃fI fd,SD.ClsI (L2.KOf KX) (SD.cl (L2.KOf KX) "TooMany") (SD.cl (L2.KOf KX) "SpotError") fI/\L2.Fun (L2.KOf KX) "__init__" "TooMany.__init__" Q_k09_no_plots.fQ fI fd:=by
   dsimp only[L2.KOf]
   refine' SD.oH ?a ?b ?l ?lN ?ok ?ni ?e ?fn ?kp ?hd ?sa ?ob ?lf ?cf ?kf
   (case a=>k_is);(case b=>k_is);(case l=>k_is);(case lN=>k_is);(case ok=>rfl);(case ni=>k_is);(case e=>k_exc);(case fn=>k_is);(case kp=>k_is);(case hd=>k_is);(case sa=>k_is);(case ob=>k_is);(case lf=>k_is);(case cf=>k_is);(case kf=>k_is)
  have ek_TooMany:SD.ErrK (L2.KOf KX) (SD.cl (L2.KOf KX) "TooMany"):=by
   dsimp only[L2.KOf]
   refine' SD.uZ ?a ?b ?c ?d ?e ?f ?g
   (case a=>k_is);(case b=>k_is);(case c=>k_is);(case d=>k_is);(case e=>k_is);(case f=>k_is);(case g=>k_is)
  have kv_TooMany:PySem.W.kitOne (L2.KOf KX) (.ref (SD.cl (L2.KOf KX) "TooMany")) (.type "ValueError")=some true:=by
   dsimp only[L2.KOf]
   refine' SD.oP ?a ?b (by decide +kernel)
   (case a=>k_is);(case b=>k_is)
  have ki_TooMany_Absent:PySem.W.kitOne (L2.KOf KX) (.ref (SD.cl (L2.KOf KX) "TooMany")) (.ref (SD.cl (L2.KOf KX) "Absent"))=some false:=by
   dsimp only[L2.KOf]
   refine' SD.cu ?a ?b ?c ?d ?e
   (case a=>k_is);(case b=>k_is);(case c=>k_is);(case d=>k_is);(case e=>with_unfolding_all rfl)
  have ki_TooMany_Crossing:PySem.W.kitOne (L2.KOf KX) (.ref (SD.cl (L2.KOf KX) "TooMany")) (.ref (SD.cl (L2.KOf KX) "Crossing"))=some false:=by
   dsimp only[L2.KOf]
   refine' SD.cu ?a ?b ?c ?d ?e
   (case a=>k_is);(case b=>k_is);(case c=>k_is);(case d=>k_is);(case e=>with_unfolding_all rfl)
  have ki_TooMany_NoFraction:PySem.W.kitOne (L2.KOf KX) (.ref (SD.cl (L2.KOf KX) "TooMany")) (.ref (SD.cl (L2.KOf KX) "NoFraction"))=some false:=by
   dsimp only[L2.KOf]
   refine' SD.cu ?a ?b ?c ?d ?e
   (case a=>k_is);(case b=>k_is);(case c=>k_is);(case d=>k_is);(case e=>with_unfolding_all rfl)
  have ki_TooMany_NoRow:PySem.W.kitOne (L2.KOf KX) (.ref (SD.cl (L2.KOf KX) "TooMany")) (.ref (SD.cl (L2.KOf KX) "NoRow"))=some false:=by
   dsimp only[L2.KOf]
   refine' SD.cu ?a ?b ?c ?d ?e
   (case a=>k_is);(case b=>k_is);(case c=>k_is);(case d=>k_is);(case e=>with_unfolding_all rfl)
  have ki_TooMany_NoText:PySem.W.kitOne (L2.KOf KX) (.ref (SD.cl (L2.KOf KX) "TooMany")) (.ref (SD.cl (L2.KOf KX) "NoText"))=some false:=by
   dsimp only[L2.KOf]
   refine' SD.cu ?a ?b ?c ?d ?e
   (case a=>k_is);(case b=>k_is);(case c=>k_is);(case d=>k_is);(case e=>with_unfolding_all rfl)
  have ki_TooMany_NoWall:PySem.W.kitOne (L2.KOf KX) (.ref (SD.cl (L2.KOf KX) "TooMany")) (.ref (SD.cl (L2.KOf KX) "NoWall"))=some false:=by
   dsimp only[L2.KOf]
   refine' SD.cu ?a ?b ?c ?d ?e
   (case a=>k_is);(case b=>k_is);(case c=>k_is);(case d=>k_is);(case e=>with_unfolding_all rfl)
  have ki_TooMany_TooMany:PySem.W.kitOne (L2.KOf KX) (.ref (SD.cl (L2.KOf KX) "TooMany")) (.ref (SD.cl (L2.KOf KX) "TooMany"))=some true:=by
   dsimp only[L2.KOf]
   refine' SD.pI
  exact Q_k09_no_plots.yT ⟨t_law_cell_at,t_law_take,t_law_scale,t_law_turn,t_law_on,t_law_fair,t_law_shuts_here,t_law_more,t_law_low,t_law_spot,t_law_made,t_gap,t_lean,t_side_of,t_is_less,t_is_ahead,t_later_of,t_earlier_of,t_greatest_divisor,t_fraction,t_own_spot,t_own_wall,t_meeting_in_line,t_over,t_less,t_plus,t_times,t_number_between,t_crossing_spot,t_meeting,t_meet_as_in_plots,t_first_crossed,t_own_plot,t_plot_of,t_law_alone,t_law_told,t_law_due,t_law,b_ValueError,b_abs,b_all,b_enumerate,b_int,b_isinstance,b_len,b_list,b_max,b_min,b_range,b_tuple,g_MOST_WALLS,r_Absent,r_Crossing,r_NoFraction,r_NoRow,r_NoText,r_NoWall,r_SpotError,r_TooMany,e_SpotError,eb_SpotError,B_SpotError,eb_Crossing,es_Crossing_SpotError,fn_Crossing_wall,fn_Crossing_other,hd_Crossing,m_Crossing,ek_Crossing,kv_Crossing,ki_Crossing_Absent,ki_Crossing_Crossing,ki_Crossing_NoFraction,ki_Crossing_NoRow,ki_Crossing_NoText,ki_Crossing_NoWall,ki_Crossing_TooMany,eb_TooMany,es_TooMany_SpotError,fn_TooMany_count,hd_TooMany,m_TooMany,ek_TooMany,kv_TooMany,ki_TooMany_Absent,ki_TooMany_Crossing,ki_TooMany_NoFraction,ki_TooMany_NoRow,ki_TooMany_NoText,ki_TooMany_NoWall,ki_TooMany_TooMany⟩ hmg
