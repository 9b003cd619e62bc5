import PyProof.Rows.All
import Wide.All
import OpenK.AllK
import Wide.FinOn
import Lean
import PyProof.EqAt
import PyProof.EqKinds
import PyProof.TupleCall
import PySem.Challenge.RW_spotlook_k12_whole_parted_covers_the_sam
open Array renaming length_toList->B4,forIn_toList->BC
open Bool renaming false_ne_true->AD,false_eq_true->AM,and_eq_true->Bv,not_true->BE
open Classical renaming byContradiction->B3
open False renaming elim->BB
open ForInStep renaming yield->BW
open Int renaming sign_eq_neg_one_of_neg->Bj,sign_eq_one_of_pos->Bx,mul_pos->BQ,ofNat->Cu
open LawfulMonad renaming pure_bind->C6
open List renaming length_map->A4,getElem?_eq_some_iff->A6,size_toArray->Ar,map_cons->Av,mem_of_getElem?->Ax,getElem?_map->Az,getElem?_eq_getElem->AE,mem_append->AH,pairwise_iff_getElem->AL,toArray->AN,mem_append_right->AO,length_cons->AS,mem_cons_of_mem->AV,mem_cons_self->AW,mem_singleton->AY,map_append->B0,find?_cons->B6,mem_cons->Ba,length_append->Bb,getElem?_append_right->Bg,getD_eq_getElem?_getD->Bl,getElem?_append_left->Bn,mem_map->Bo,lookup_cons->Bs,length_take->Bu,map_nil->BF,length_nil->BJ,range->BV,map->BZ,getElem_of_mem->C0,map_map->C3,zip_cons_cons->C9,forIn_cons->Cc,any_cons->Cp,forIn_nil->Cs,take_succ->Ct
open Nat renaming le_refl->A7,lt_of_lt_of_le->Aw,ne_of_lt->AJ,zero_le->B2,le_trans->B8,le_of_lt->Ce,lt_irrefl->Ck
open PyProof.Rows renaming seqObj->B9,IntsAre->By,callWith_type1->C1
open PySem renaming wpAny_bind->cc,Value->A1,Shared->A2,wpAny_pure->A5,wpAny->A9,Program->Au,model->Ay,Params->AA,starEach->AF,mem_of_lookup->AG,sizeLine->AI,wpAny_mono->AK,Around->AQ,World->AU,compareOp->AX,wpAny_newObj_type->AZ,foldedSetIterable->B5,bootBuiltins->Be,DictEntry->Bk,mainGlobals->Bm,cLine->Bp,wpAny_holding->Br,cellsFrom->BD,wpAny_seqItems->BG,wpAny_loadPart'->BI,Spec->BM,NameKind->BN,wpAny_typeNameOfWhole_keyiter->BR,wpAny_pyNext_tuple_item->BU,Scope->BY,sizeLine_eq->C4,wpAny_tryCatch->Ca,wpAny_passesOwn->Cb,wpAny_truthy_bool->Cf,binaryOp->Cg,wpAny_letGo->Ci,assignEach->Cm,plainId_quiet->Co,PyData->Cr,sysModules->Cv,backTo->Cy,Paired->Cz,Builtin->CA
open PySem.Around renaming under_plainId->BP
open PySem.Challenge renaming pw_spotlook_k12_whole_parted_covers_the_sam->AB
open PySem.F renaming slot_dict_keyiterator_next->Bz,plain_max_loop->C7,plain_min_loop->C8
open PySem.Heap renaming get?_push_of_some->A3,lt_size->A8,get?_push_size->Aq,get?_update_other->AR,get?_update_self->BL,size_push->BO,SameBut->Cw
open PySem.NameKind renaming free->C5
open PySem.Obj renaming mapSeq->Bh
open PySem.PassesOwn renaming never->B1
open PySem.PyData renaming eqv->Bi,eqvAll->Cn
open PySem.SeqAt renaming shaped->C2
open PySem.Str renaming ofString->Bf
open PySem.Value renaming ref->BH,none->Cj
open PySem.W renaming Frag->A0,BT->As,mg_none_of->Bc,fnOf->Bt,kla_obj->BA,keepIn->Cq
open Rat renaming num_divInt_den->B7,mul_pos->BK,intCast_mul->BX,intCast_sub->Cd
local macro_rules | `(↑$n:num) => `(nat_lit $n)
set_option Elab.async false
set_option linter.all false
set_option maxRecDepth 100000
set_option maxHeartbeats 4000000
theorem nbL{n m:Nat}(h:Nat.ble n m=true):n<=m:=Nat.le_of_ble_eq_true h
namespace L2
open PySem PySem.Spec PyProof.Rows
abbrev Key:=Sum Int Str
def vn:Key->A1->Bool
 |.inl k,v=>Value.isInt k v
 |.inr x,v=>Value.isStrOf x v
def Ac(w:AU):Key->Int
 |.inl k=>hashInt k
 |.inr x=>hashStr w x
theorem aS:∀{k:Key} {v:A1},vn k v=true->(∃i t,k=Sum.inl i/\v=Value.int i t)\/(∃x t,k=Sum.inr x/\v=Value.str x t)
 |.inl i,v,h=>by
  obtain⟨t,e⟩:=Value.isInt_shape (k:=i) (v:=v) h
  exact .inl ⟨i,t,rfl,e⟩
 |.inr x,v,h=>by
  obtain⟨t,e⟩:=Value.isStrOf_shape (x:=x) (v:=v) h
  exact .inr ⟨x,t,rfl,e⟩
theorem vV(a b:Int):decide ((Sum.inl a:Key)=Sum.inl b)=(a==b):=by
 by_cases e:a=b
 ·subst e;simp
 ·have h:¬(Sum.inl a:Key)=Sum.inl b:=fun q=>e (Sum.inl.inj q);rw[decide_eq_false h];exact(beq_eq_false_iff_ne.mpr e).symm
theorem xp(a b:Str):decide ((Sum.inr a:Key)=Sum.inr b)=decide (a=b):=by
 by_cases e:a=b
 ·subst e;simp
 ·have h:¬(Sum.inr a:Key)=Sum.inr b:=fun q=>e (Sum.inr.inj q);rw[decide_eq_false h,decide_eq_false e]
theorem vS(a:Int)(b:Str):decide ((Sum.inl a:Key)=Sum.inr b)=false:=decide_eq_false (fun q=>nomatch q)
theorem wQ(a:Str)(b:Int):decide ((Sum.inr a:Key)=Sum.inl b)=false:=decide_eq_false (fun q=>nomatch q)
def m5(prog:Au)(w:AU):PySem.KeyKind prog w Key where
 is:=vn
 hash:=Ac w
 inj:=fun v a b ha hb=>by
  rcases aS ha with⟨i,t,rfl,rfl⟩|⟨x,t,rfl,rfl⟩
  ·rcases aS hb with⟨j,u,rfl,e⟩|⟨y,u,rfl,e⟩
   ·injection e with e1 _;rw[e1]
   ·exact nomatch e
  ·rcases aS hb with⟨j,u,rfl,e⟩|⟨y,u,rfl,e⟩
   ·exact nomatch e
   ·injection e with e1 _;rw[e1]
 byValue:=fun k v h=>by
  rcases aS h with⟨i,t,rfl,rfl⟩|⟨x,t,rfl,rfl⟩<;>rfl
 pyHash:=fun hv h=>by
  rcases aS hv with⟨i,t,rfl,rfl⟩|⟨x,t,rfl,rfl⟩
  ·exact wpAny_pyHash_int h
  ·exact wpAny_pyHash_str h
 eqBool:=fun hu hv h=>by
  rcases aS hu with⟨i,t,rfl,rfl⟩|⟨x,t,rfl,rfl⟩
  ·rcases aS hv with⟨j,u,rfl,rfl⟩|⟨y,u,rfl,rfl⟩
   ·rw[vV]at h;exact wpAny_eqBool_int h
   ·rw[vS]at h;exact SeqAt.EqAt.int_str i t y u _ _ _ _ h
  ·rcases aS hv with⟨j,u,rfl,rfl⟩|⟨y,u,rfl,rfl⟩
   ·rw[wQ]at h;exact SeqAt.EqAt.str_int x t j u _ _ _ _ h
   ·rw[xp]at h;exact wpAny_eqBool_str h
 «strs»:=fun k x t v h=>by
  rcases aS h with⟨i,u,rfl,e⟩|⟨y,u,rfl,e⟩
  ·exact nomatch e
  ·injection e with e1 _
   subst e1
   cases v<;>rfl
inductive V where
 |non|bl (b:Bool)|int (i:Int)|str (x:Str)|byt (b:Array UInt8)|flt (b:UInt64)|ref (a:Addr)|ty (n:String)
 deriving DecidableEq
def RelV:V->A1->Prop
 |.non,u=>u=Cj
 |.bl b,u=>u=Value.bool b
 |.int i,u=>∃t,u=Value.int i t
 |.str x,u=>∃t,u=Value.str x t
 |.byt b,u=>∃t,u=Value.bytes b t
 |.flt b,u=>∃t,u=Value.float b t
 |.ref a,u=>u=BH a
 |.ty n,u=>u=Value.type n
abbrev Vals:List V->List A1->Prop:=Cz RelV
theorem Vals.length{xs:List V}{us:List A1}(r:Vals xs us):xs.length=us.length:=Paired.length r
theorem Vals.get:∀{xs:List V} {us:List A1} {i:Nat} {x:V},Vals xs us->xs[i]?=some x->∃u,us[i]?=some u/\RelV x u
 |_,_,_,_,.nil,e=>by simp at e
 |_,_,0,_,.cons r _,e=>by simp at e;subst e;exact⟨_,rfl,r⟩
 |_,_,i+1,x,.cons _ t,e=>by
  obtain⟨u,h1,h2⟩:=Vals.get (i:=i) (x:=x) t (by simpa using e)
  exact⟨u,by simpa using h1,h2⟩
theorem Vals.set{x:V}{u:A1}(r:RelV x u):∀{xs:List V} {us:List A1} (i:Nat),Vals xs us->Vals (xs.set i x) (us.set i u)
 |_,_,_,.nil=>.nil
 |_,_,0,.cons _ t=>.cons r t
 |_,_,i+1,.cons q t=>.cons q (Vals.set r i t)
theorem Vals.append:∀{xs ys:List V} {us ws:List A1},Vals xs us->Vals ys ws->Vals (xs++ys) (us++ws)
 |_,_,_,_,.nil,s=>s
 |_,_,_,_,.cons r t,s=>.cons r (Vals.append t s)
theorem Vals.take:∀{xs:List V} {us:List A1} (n:Nat),Vals xs us->Vals (xs.take n) (us.take n)
 |_,_,0,_=>.nil
 |_,_,_+1,.nil=>.nil
 |_,_,n+1,.cons r t=>.cons r (Vals.take n t)
theorem Vals.drop:∀{xs:List V} {us:List A1} (n:Nat),Vals xs us->Vals (xs.drop n) (us.drop n)
 |_,_,0,r=>r
 |_,_,_+1,.nil=>.nil
 |_,_,n+1,.cons _ t=>Vals.drop n t
def yq:Option V->Option A1->Prop
 |some v,some u=>RelV v u
 |none,none=>True
 |_,_=>False
def KV{κ:Type}:List (κ×V)->List (κ×A1)->Prop:=Cz fun(p:κ×V) (q:κ×A1)=>p.1=q.1/\RelV p.2 q.2
def kV:Key->V
 |.inl i=>.int i
 |.inr x=>.str x
inductive HO where
 |lst (xs:List V)
 |tup (xs:List V)
 |dK (kvs:List (Key×V))|dT (kvs:List (List Key×V))
 |set (S:Int->Bool) (n:Nat)
 |ins (C dx:Addr) (fs:List (Str×V))
 |own (x:Addr)
 |xd (fs:List (Str×V))
 |met (f x:Addr)
 |rng (lo hi:Int)
 |frz (o:Obj) (u:HO)
 |tbl (ps:Array A1)
 |ext (φ:Heap->Prop)
abbrev Hp:=Addr->Option HO
def upd(H:Hp)(a:Addr)(o:HO):Hp:=fun b=>if b=a then some o else H b
theorem aD{H:Hp}{a:Addr}{o:HO}:upd H a o a=some o:=by unfold upd;rw[if_pos rfl]
theorem aF{H:Hp}{a b:Addr}{o:HO}(h:b≠a):upd H a o b=H b:=by unfold upd;rw[if_neg h]
theorem cC{H:Hp}{a b:Addr}{o:HO}(h:H a=some o)(h':H b=none):a≠b:=by intro e;subst e;rw[h]at h';cases h'
section
variable(P:Au)(w:AU)
def bo(H:Hp)(h:Heap)(a:Addr):HO->Prop
 |.lst xs=>xs.length<=AI/\∃(its:List A1) (n:Nat),Vals xs its/\h.get? a=some { cls:=.type "list",data:=.seq its.toArray n }
 |.tup xs=>xs.length<=AI/\∃its:List A1,Vals xs its/\IsTup h a its.toArray
 |.dK kvs=>kvs.length<=AI/\(a==Cv)=false/\∃vs,KV kvs vs/\h.DictOf (m5 P w) a vs
 |.dT kvs=>kvs.length<=AI/\(a==Cv)=false/\∃xs:List (List Key×Addr×A1),
  Cz (fun(p:List Key×V) (q:List Key×Addr×A1)=>p.1=q.1/\H q.2.1=some (.tup (p.1.map kV))/\RelV p.2 q.2.2) kvs xs/\
  ∃o es ep,h.get? a=some o/\o.ExactDict/\o.data=.dict es ep/\es.toList=xs.map (entryOfKey (tupleKind (m5 P w)))/\(xs.map (·.1)).Nodup
 |.set S n=>h.SetOf (intKind P w) a S n
 |.ins C dx fs=>H dx=some (.own a)/\fs.length<=1000/\dx≠a/\h.get? a=some (PySem.W.instObj C dx)/\
  ∃mA,h.Ns1 dx mA/\(∀f,yq (fs.lookup f) (mA f))/\PySem.Within mA (fs.map (·.1))
 |.own _=>∃o,h.get? a=some o
 |.xd fs=>∃mA,h.Ns1 a mA/\∀f,yq (fs.lookup f) (mA f)
 |.rng lo hi=>∃t u v,h.get? a=some { cls:=.type "range",data:=.fields #[.int lo t,.int hi u,.int 1 v] }
 |.frz o u=>h.get? a=some o/\bo H h a u
 |.tbl ps=>h.get? a=some { cls:=.none,data:=.fields ps }
 |.met f x=>h.get? a=some (PySem.W.methodObj (.ref f) (.ref x))
 |.ext φ=>φ h/\(∃o,h.get? a=some o)/\∀h1 h2:Heap,φ h1->(∀o,h1.get? a=some o->h2.get? a=some o)->φ h2
def HOk(H:Hp)(h:Heap):Prop:=∀a o,H a=some o->bo P w H h a o
end
section
variable{P:Au}{w:AU}{H H':Hp}{h h':Heap}{a:Addr}{o:HO}
theorem bo.lt(x:bo P w H h a o):a<h.objs.size:=by
 cases o with
 |lst xs=>obtain⟨_,_,_,_,e⟩:=x;exact A8 e
 |tup xs=>obtain⟨_,_,_,p⟩:=x;exact p.lt
 |dK kvs=>obtain⟨_,_,_,_,o,_,_,e,_⟩:=x;exact A8 e
 |dT kvs=>obtain⟨_,_,_,_,o,_,_,e,_⟩:=x;exact A8 e
 |set S n=>obtain⟨o,_,_,_,e,_⟩:=x;exact A8 e
 |ins C dx fs=>obtain⟨_,_,_,e,_⟩:=x;exact A8 e
 |own y=>obtain⟨_,e⟩:=x;exact A8 e
 |xd fs=>obtain⟨_,⟨_,_,_,e,_⟩,_⟩:=x;exact A8 e
 |rng lo hi=>obtain⟨_,_,_,e⟩:=x;exact A8 e
 |frz ob u=>obtain⟨e,_⟩:=x;exact A8 e
 |tbl ps=>exact A8 (show h.get? a=some _ from x)
 |met f y=>exact A8 (show h.get? a=some _ from x)
 |ext φ=>obtain⟨_,⟨_,e⟩,_⟩:=x;exact A8 e
theorem Paired.yM{α β:Type}{F G:α->β->Prop}:∀{l₁:List α} {l₂:List β},Cz F l₁ l₂->(∀a b,F a b->G a b)->Cz G l₁ l₂
 |_,_,.nil,_=>.nil
 |_,_,.cons r t,f=>.cons (f _ _ r) (Paired.yM t f)
theorem bo.dt(x:bo P w H h a o)(k:∀b u,(b=a\/H b=some (.own a))->h.get? b=some u->h'.get? b=some u) (ho:∀b,H b=some (.own a)->H' b=some (.own a)) (ht:∀b xs,H b=some (.tup xs)->H' b=some (.tup xs)):bo P w H' h' a o:=by
 induction o with
 |lst xs=>obtain⟨z,its,n,r,e⟩:=x;exact⟨z,its,n,r,k _ _ (.inl rfl) e⟩
 |tup xs=>obtain⟨z,its,r,ob,e,c⟩:=x;exact⟨z,its,r,ob,k _ _ (.inl rfl) e,c⟩
 |dK kvs=>obtain⟨z,y,vs,r,ob,es,ep,e,c⟩:=x;exact⟨z,y,vs,r,ob,es,ep,k _ _ (.inl rfl) e,c⟩
 |dT kvs=>
  obtain⟨z,y,xs,r,ob,es,ep,e,c⟩:=x
  exact⟨z,y,xs,Paired.yM r fun p q z=>⟨z.1,ht _ _ z.2.1,z.2.2⟩,ob,es,ep,k _ _ (.inl rfl) e,c⟩
 |set S n=>obtain⟨ob,es,ep,t,e,c⟩:=x;exact⟨ob,es,ep,t,k _ _ (.inl rfl) e,c⟩
 |ins C dx fs=>
  obtain⟨d,z,ne,e,mA,⟨od,es,ep,e2,c⟩,r⟩:=x
  exact⟨ho _ d,z,ne,k _ _ (.inl rfl) e,mA,⟨od,es,ep,k _ _ (.inr d) e2,c⟩,r⟩
 |own y=>obtain⟨ob,e⟩:=x;exact⟨ob,k _ _ (.inl rfl) e⟩
 |xd fs=>obtain⟨mA,⟨od,es,ep,e,c⟩,r⟩:=x;exact⟨mA,⟨od,es,ep,k _ _ (.inl rfl) e,c⟩,r⟩
 |rng lo hi=>obtain⟨t,u,v,e⟩:=x;exact⟨t,u,v,k _ _ (.inl rfl) e⟩
 |frz ob u ih=>obtain⟨e,q⟩:=x;exact⟨k _ _ (.inl rfl) e,ih q⟩
 |tbl ps=>
  have e:h.get? a=some { cls:=.none,data:=.fields ps }:=x
  show h'.get? a=some { cls:=.none,data:=.fields ps }
  exact k a _ (.inl rfl) e
 |met f y=>
  have e:h.get? a=some (PySem.W.methodObj (.ref f) (.ref y)):=x
  show h'.get? a=some (PySem.W.methodObj (.ref f) (.ref y))
  exact k a _ (.inl rfl) e
 |ext φ=>obtain⟨p,⟨o,e⟩,st⟩:=x;exact⟨st _ _ p fun o q=>k _ _ (.inl rfl) q,⟨o,k _ _ (.inl rfl) e⟩,st⟩
theorem HOk.lt(x:HOk P w H h)(e:H a=some o):a<h.objs.size:=(x a o e).lt
theorem HOk.fresh(x:HOk P w H h)(e:h.objs.size<=a):H a=none:=by
 cases q:H a with
 |none=>rfl
 |some u=>exact absurd (Aw (x.lt q) e) (Ck _)
theorem HOk.kept(x:HOk P w H h)(k:∀b u,h.get? b=some u->h'.get? b=some u):HOk P w H h':=fun a o e=>(x a o e).dt (fun b u _ q=>k b u q) (fun _ q=>q) fun _ _ q=>q
theorem HOk.laid(x:HOk P w H h)(k:∀b u,h.get? b=some u->h'.get? b=some u)(hp:h.objs.size<=a)(new:bo P w (upd H a o) h' a o):HOk P w (upd H a o) h':=fun b u e=>by
 have hn:=x.fresh hp;by_cases hb:b=a
 ·subst hb;rw[aD]at e;cases e;exact new
 ·rw[aF hb]at e;exact(x b u e).dt (fun c v _ q=>k c v q) (fun c q=>by rw[aF (cC q hn)];exact q) fun c xs q=>by rw[aF (cC q hn)];exact q
end
def Rd(H:Hp)(a:Addr)(u:HO):Prop:=H a=some u\/∃o,H a=some (.frz o u)
theorem Rd.ok{P:Au}{w:AU}{H:Hp}{h:Heap}{a:Addr}{u:HO}(r:Rd H a u)(x:HOk P w H h):bo P w H h a u:=by
 rcases r with r|⟨o,r⟩
 ·exact x a u r
 ·obtain⟨_,q⟩:=x a _ r;exact q
def Mut:Option HO->Prop
 |some (.lst _)=>True
 |some (.dK _)=>True
 |some (.dT _)=>True
 |some (.set _ _)=>True
 |some (.ins _ _ _)=>True
 |some (.ext _)=>True
 |_=>False
section
variable{P:Au}{w:AU}{H:Hp}{h h':Heap}{x e:Addr}{o':HO}
theorem HOk.write(ok:HOk P w H h)(mu:Mut (H x))(he:e=x\/H e=some (.own x))(k:∀b u,b≠e->h.get? b=some u->h'.get? b=some u)(heo:∃u,h'.get? e=some u)
 (new:bo P w (upd H x o') h' x o'):HOk P w (upd H x o') h':=fun b u q=>by
 have nown:∀c y,H c=some (.own y)->c≠x:=fun c y r z=>by subst z;rw[r]at mu;exact mu
 have ntup:∀c xs,H c=some (.tup xs)->c≠x:=fun c xs r z=>by subst z;rw[r]at mu;exact mu
 by_cases hb:b=x
 ·subst hb;rw[aD]at q;cases q;exact new
 ·rw[aF hb]at q
  by_cases hbe:b=e
  ·have q':H b=some (.own x):=by
    rcases he with z|z
    ·exact absurd (hbe.trans z) hb
    ·rw[hbe];exact z
   rw[q]at q';cases q'
   obtain⟨v,hv⟩:=heo
   exact⟨v,by rw[hbe];exact hv⟩
  ·refine(ok b u q).dt (fun c v hc r=>k c v ?_ r) (fun c r=>by rw[aF (nown c b r)];exact r) fun c xs r=>by rw[aF (ntup c xs r)];exact r
   rcases hc with rfl|hc
   ·exact hbe
   ·rintro rfl
    rcases he with z|z
    ·exact nown c b hc z
    ·rw[hc]at z;cases z;exact hb rfl
end
structure Un(fs ex:List Addr)(H H':Hp)(h h':Heap):Prop where
 keep:∀b o,h.get? b=some o->H b=none->b∉fs->b∉ex->h'.get? b=some o
 slot:∀b o,h.get? b=some o->H b=none->b∈fs->b∉ex->∃sl,h'.get? b=some { o with slots:=sl }
 free:∀b o,h.get? b=some o->H b=none->b∉ex->H' b=none
 there:∀b o,h.get? b=some o->b∉ex->∃o',h'.get? b=some o'
 tups:∀b xs,H b=some (.tup xs)->H' b=some (.tup xs)
 frzs:∀b o u,H b=some (.frz o u)->H' b=some (.frz o u)
 tbls:∀b ps,H b=some (.tbl ps)->∃more,H' b=some (.tbl (ps++more))
section
variable{fs fs' ex ex':List Addr}{H H1 H2:Hp}{h h1 h2 h':Heap}{a x e:Addr}{o:HO}
theorem Un.any(u:Un fs ex H H1 h h1){b:Addr}{ob:Obj}(q:h.get? b=some ob)(n:H b=none)(hx:b∉ex):∃sl,h1.get? b=some { ob with slots:=sl }:=by
 by_cases hb:b∈fs
 ·exact u.slot b ob q n hb hx
 ·exact⟨ob.slots,u.keep b ob q n hb hx⟩
theorem Un.kept(k:∀b u,h.get? b=some u->h'.get? b=some u):Un fs ex H H h h':=⟨fun b ob q _ _ _=>k b ob q,fun b ob q _ _ _=>⟨ob.slots,k b ob q⟩,fun _ _ _ n _=>n,fun b ob q _=>⟨ob,k b ob q⟩,fun _ _ q=>q,fun _ _ _ q=>q,fun _ ps q=>⟨#[],by rw[q];simp⟩⟩
theorem Un.refl:Un fs ex H H h h:=Un.kept fun _ _ q=>q
theorem Un.laid(k:∀b u,h.get? b=some u->h'.get? b=some u)(hp:h.objs.size<=a)(hn:H a=none):Un fs ex H (upd H a o) h h' where
 keep:=fun b u q _ _ _=>k b u q
 slot:=fun b u q _ _ _=>⟨u.slots,k b u q⟩
 free:=fun b u q n _=>by rw[aF (AJ (Aw (A8 q) hp))];exact n
 there:=fun b u q _=>⟨u,k b u q⟩
 tups:=fun b xs q=>by rw[aF (cC q hn)];exact q
 frzs:=fun b u xs q=>by rw[aF (cC q hn)];exact q
 tbls:=fun b ps q=>⟨#[],by rw[aF (cC q hn),q];simp⟩
theorem Un.write(mu:Mut (H x))(he:e=x\/H e=some (.own x))(k:∀b u,b≠e->h.get? b=some u->h'.get? b=some u)(heo:∃u,h'.get? e=some u):Un fs ex H (upd H x o) h h':=by
 have hx:∀b,H b=none->b≠x:=fun b n z=>by subst z;rw[n]at mu;exact mu
 have hb:∀b,H b=none->b≠e:=fun b n z=>by
  subst z;rcases he with r|r
  ·exact hx b n r
  ·rw[n]at r;cases r
 have hm:∀b u,H b=some u->¬Mut (some u)->b≠x:=fun b u q nm z=>by subst z;rw[q]at mu;exact nm mu
 refine⟨fun b u q n _ _=>k b u (hb b n) q,fun b u q n _ _=>⟨u.slots,k b u (hb b n) q⟩,fun b u q n _=>by rw[aF (hx b n)];exact n,fun b u q _=>?_,fun b xs q=>by rw[aF (hm b _ q fun z=>z)];exact q,fun b u xs q=>by rw[aF (hm b _ q fun z=>z)];exact q,fun b ps q=>⟨#[],by rw[aF (hm b _ q fun z=>z),q];simp⟩⟩;by_cases hbe:b=e
 ·subst hbe;exact heo
 ·exact⟨u,k b u hbe q⟩
end
def trk(h:Heap)(H:Hp):List Addr:=(BV h.objs.size).filter fun a=>(H a).isSome
def fE(h:Heap)(H:Hp):Heap:=PySem.W.hideAll h (trk h H)
theorem je(h:Heap)(H:Hp):(fE h H).objs.size=h.objs.size:=PySem.W.hideAll_size _ _
theorem eX{h:Heap}{H:Hp}{b:Addr}{o:Obj}(e:h.get? b=some o)(n:H b=none):(fE h H).get? b=some o:=
 PySem.W.hideAll_get _ e fun hm=>by
  have q:(H b).isSome=true:=(List.mem_filter.mp hm).2
  rw[n]at q;simp at q
theorem jE{h:Heap}{H:Hp}{b:Addr}{o:Obj}(e:(fE h H).get? b=some o):h.get? b=some o/\H b=none:=by
 have e':h.get? b=some o:=PySem.W.of_hideAll (trk h H) e;refine⟨e',?_⟩;cases q:H b with
 |none=>rfl
 |some x=>
  have hm:b∈trk h H:=List.mem_filter.mpr ⟨List.mem_range.mpr (A8 e'),by simp[q]⟩
  have z:(fE h H).get? b=none:=PySem.W.hideAll_none (trk h H) hm
  rw[z]at e;cases e
structure Mod(K:A0)(mg:Str->Option A1)(base:Heap):Prop where
 kin:K.In base
 glob:base.Ns Bm mg
 blt:∃mb,base.Ns builtinsNs mb/\∀x:Str,x≠"__name__"->mb x=Be x
 nolimit:base.NoLimit
structure Cx where
 prog:Au
 w:AU
 K:A0
 mg:Str->Option A1
 base:Heap
 A:AQ
 N:List Str
 s₀:A2
 H₀:Hp
 env:Env
 outer:List Env
 stack:List Env
 ex:List Addr
 fn:Str->Bool
 calm:Bool
 pn:List (Addr×Obj)
 xe:A1->A2->Prop
def frs(l:List Env):List Addr:=l.filterMap (·.frame)
abbrev Cx.fs(X:Cx):List Addr:=frs X.outer
def Vis(sc:BY)(x:Str):Prop:=sc.names.lookup x=some .local\/sc.names.lookup x=some .cell\/sc.names.lookup x=some .free
def Loc(sc:BY)(x:Str):Prop:=sc.names.lookup x=some .local\/sc.names.lookup x=some .cell
def Look(env:Env)(h:Heap)(m:Str->Option A1)(x:Str)(u:A1):Prop:=
 (env.kindOf x=some .local/\m x=some u)\/((env.kindOf x=some .cell\/env.kindOf x=some .free)/\∃c,env.cells.lookup x=some c/\h.IsCell c (some u))
structure Cx.Ok(X:Cx):Prop where
 mod:Mod X.K X.mg X.base
 kind:X.env.scope.kind=.function
 glob:X.env.globals=Bm
 blt:X.env.builtins=builtinsNs
 above:X.s₀.heap.objs.size<=X.env.locals
 inj:∀x y c,X.env.cells.lookup x=some c->X.env.cells.lookup y=some c->x=y
 has:∀x,(X.env.kindOf x=some .cell\/X.env.kindOf x=some .free)->∃c,X.env.cells.lookup x=some c
 cab:∀x c,X.fn x=true->X.env.cells.lookup x=some c->X.s₀.heap.objs.size<=c
 hd:X.calm=true->X.A.handled=none
 frames:X.A.frames=some X.stack
 stk:X.stack=X.outer\/(X.stack=X.env::X.outer/\X.env.frame=some X.env.locals)
 exf:∀b∈X.ex,b≠X.env.locals/\∀x c,X.env.cells.lookup x=some c->c≠b
 bs:∀b o,X.base.get? b=some o->X.s₀.heap.get? b=some o/\X.H₀ b=none
 bsz:X.base.objs.size<=X.s₀.heap.objs.size
 noex:∀b o,X.base.get? b=some o->b∉X.ex
 exfs:∀b∈X.ex,b∉X.fs
 dZ:X.s₀.heap.FunFrames X.base X.outer
 frf:∀b∈X.fs,X.H₀ b=none
structure Inv(X:Cx)(pins:List (Addr×Obj))(σ:List (Option V))(H:Hp)(s:A2):Prop where
 ok:X.Ok
 os:s.os=X.s₀.os
 bare:AllBare s.gens
 base:Un X.fs X.ex X.H₀ H X.s₀.heap s.heap
 loc:∃m,s.heap.Ns X.env.locals m/\∀(i:Nat) (x:Str) (v:V),X.N[i]?=some x->σ[i]?=some (some v)->Vis X.env.scope x->∃u,RelV v u/\Look X.env s.heap m x u
 cell:∀x c,X.env.cells.lookup x=some c->∃v,s.heap.IsCell c v
 free:H X.env.locals=none
 freeC:∀x c,X.env.cells.lookup x=some c->H c=none
 pin:∀p∈X.pn++pins,s.heap.get? p.1=some p.2/\H p.1=none/\p.1≠X.env.locals/\p.1∉X.fs/\∀v,p.2.data≠.cell v
 hok:HOk X.prog X.w H s.heap
 len:σ.length=X.N.length
section
variable{X:Cx}{pins:List (Addr×Obj)}{σ:List (Option V)}{H H':Hp}{s:A2}{h':Heap}
theorem Cx.Ok.z7(ok:X.Ok){b:Addr}{o:Obj}(e:X.base.get? b=some o):b∉X.fs:=fun hb=>by have:=(ok.dZ.mem hb).1;rw[e]at this;cases this
theorem Inv.bs(I:Inv X pins σ H s):∀b o,X.base.get? b=some o->s.heap.get? b=some o/\H b=none:=fun b o e=>⟨I.base.keep b o (I.ok.bs b o e).1 (I.ok.bs b o e).2 (I.ok.z7 e) (I.ok.noex b o e),I.base.free b o (I.ok.bs b o e).1 (I.ok.bs b o e).2 (I.ok.noex b o e)⟩
theorem Inv.bk(I:Inv X pins σ H s):∀b o,X.base.get? b=some o->s.heap.get? b=some o:=fun b o e=>(I.bs b o e).1
theorem Inv.mod(I:Inv X pins σ H s):Mod X.K X.mg X.base:=I.ok.mod
theorem Inv.kIn(I:Inv X pins σ H s):X.K.In s.heap:=I.ok.mod.kin.keeps I.bk
theorem Inv.lt(I:Inv X pins σ H s):X.env.locals<s.heap.objs.size:=let⟨_,hn,_⟩:=I.loc;hn.lt
theorem Inv.sz(I:Inv X pins σ H s):X.s₀.heap.objs.size<=s.heap.objs.size:=B8 I.ok.above (Ce I.lt)
theorem Inv.An(I:Inv X pins σ H s){a:Addr}(h:s.heap.objs.size<=a):a∉X.fs:=fun hb=>by obtain⟨_,o,ho,_⟩:=I.ok.dZ.mem hb;exact absurd (Aw (A8 ho) (B8 I.sz h)) (Ck _)
theorem Inv.cne(I:Inv X pins σ H s):∀x c,X.env.cells.lookup x=some c->c≠X.env.locals:=fun x c e z=>by obtain⟨v,o,ho,hd⟩:=I.cell x c e;obtain⟨m,⟨o',es,ep,ho',hd',_⟩,_⟩:=I.loc;rw[z,ho']at ho;cases ho;rw[hd']at hd;cases hd
theorem Inv.dZ(I:Inv X pins σ H s):s.heap.FunFrames X.base X.outer:=by
 have all:∀(l:List Env),(∀b∈frs l,b∈X.fs)->X.s₀.heap.FunFrames X.base l->s.heap.FunFrames X.base l:=by
  intro l
  induction l with
  |nil=>intro _ _;trivial
  |cons env r ih=>
   intro hs hl
   obtain⟨hk,⟨L,o,hf,hn,ho,hd⟩,hr⟩:=hl
   have hL:L∈X.fs:=hs L (by unfold frs;rw[List.filterMap_cons,hf];exact AW)
   obtain⟨sl,e⟩:=I.base.slot L o ho (I.ok.frf L hL) hL fun z=>I.ok.exfs L z hL
   exact⟨hk,⟨L,_,hf,hn,e,hd⟩,ih (fun b hb=>hs b (by unfold frs;rw[List.filterMap_cons,hf];exact AV _ hb)) hr⟩
 exact all X.outer (fun _ hb=>hb) I.ok.dZ
theorem Inv.stack(I:Inv X pins σ H s):s.heap.FunFrames X.base X.stack:=by
 rcases I.ok.stk with e|⟨e,hf⟩
 ·rw[e];exact I.dZ
 ·rw[e];obtain⟨m,hn,_⟩:=I.loc;refine .cons (by rw[I.ok.kind];decide) hf hn ?_ I.dZ;exact Heap.get?_none_of_le (B8 I.ok.bsz I.ok.above)
theorem Inv.j0(I:Inv X pins σ H s):∀b∈frs X.stack,b∈X.env.locals::X.fs:=fun b hb=>by
 rcases I.ok.stk with e|⟨e,hf⟩
 ·rw[e]at hb;exact AV _ hb
 ·rw[e]at hb;unfold frs at hb;rw[List.filterMap_cons,hf]at hb;exact hb
theorem Inv.nW(I:Inv X pins σ H s):∀b∈frs X.stack,H b=none:=fun b hb=>by
 rcases Ba.mp (I.j0 b hb)with e|hb
 ·rw[e];exact I.free
 ·obtain⟨_,o,ho,_⟩:=I.ok.dZ.mem hb;exact I.base.free b o ho (I.ok.frf b hb) fun z=>I.ok.exfs b z hb
theorem Inv.step{g':Array GenState}{t':Nat}{d':Drawn}{ch:List Addr}(I:Inv X pins σ H s)
 (hch:∀b∈ch,(b∈X.ex\/X.s₀.heap.objs.size<=b)/\b≠X.env.locals/\(∀x c,X.env.cells.lookup x=some c->c≠b)/\∀p∈X.pn++pins,p.1≠b)
 (keep:∀b o,b≠X.env.locals->b∉X.fs->b∉ch->s.heap.get? b=some o->H b=none->h'.get? b=some o)
 (slot:∀b o,b≠X.env.locals->b∈X.fs->b∉ch->s.heap.get? b=some o->H b=none->∃sl,h'.get? b=some { o with slots:=sl }) (free:∀b o,b∉ch->s.heap.get? b=some o->H b=none->H' b=none)
 (there:∀b o,b∉ch->s.heap.get? b=some o->∃o',h'.get? b=some o')
 (tups:∀b xs,H b=some (.tup xs)->H' b=some (.tup xs)) (frzs:∀b o u,H b=some (.frz o u)->H' b=some (.frz o u)) (tbls:∀b ps,H b=some (.tbl ps)->∃more,H' b=some (.tbl (ps++more)))
 (ns:∀m,s.heap.Ns X.env.locals m->h'.Ns X.env.locals m) (hok:HOk X.prog X.w H' h') (hg:AllBare g') :
 Inv X pins σ H' { s with heap:=h',gens:=g',drawn:=d',toks:=t' }:=by
 have neL:∀b o,X.s₀.heap.get? b=some o->b≠X.env.locals:=fun b o e=>AJ (Aw (A8 e) I.ok.above)
 have neC:∀b o,X.s₀.heap.get? b=some o->b∉X.ex->b∉ch:=fun b o e hx hb=>by
  rcases(hch b hb).1 with z|z
  ·exact hx z
  ·exact absurd (Aw (A8 e) z) (Ck _)
 have cellK:∀x c,X.env.cells.lookup x=some c->∀v,s.heap.IsCell c v->h'.IsCell c v:=fun x c e v zz1_0=>by
  obtain⟨o,ho,hd⟩:=zz1_0
  have nch:c∉ch:=fun z=>(hch c z).2.2.1 x c e rfl
  by_cases hc:c∈X.fs
  ·obtain⟨sl,q⟩:=slot c o (I.cne x c e) hc nch ho (I.freeC x c e)
   exact⟨_,q,hd⟩
  ·exact⟨o,keep c o (I.cne x c e) hc nch ho (I.freeC x c e),hd⟩
 refine⟨I.ok,I.os,hg,⟨fun b o e n hb hx=>?_,fun b o e n hb hx=>?_,fun b o e n hx=>?_,fun b o e hx=>?_,fun b xs e=>tups b xs (I.base.tups b xs e),fun b o xs e=>frzs b o xs (I.base.frzs b o xs e),fun b ps e=>?_⟩,?_,fun x c e=>?_,?_,fun x c e=>?_,fun p hp=>?_,hok,I.len⟩
 ·exact keep b o (neL b o e) hb (neC b o e hx) (I.base.keep b o e n hb hx) (I.base.free b o e n hx)
 ·obtain⟨sl,e1⟩:=I.base.slot b o e n hb hx
  obtain⟨sl',e2⟩:=slot b _ (neL b o e) hb (neC b o e hx) e1 (I.base.free b o e n hx)
  exact⟨sl',e2⟩
 ·obtain⟨o',e1⟩:=I.base.there b o e hx
  exact free b o' (neC b o e hx) e1 (I.base.free b o e n hx)
 ·obtain⟨o',e1⟩:=I.base.there b o e hx
  exact there b o' (neC b o e hx) e1
 ·obtain⟨m1,e1⟩:=I.base.tbls b ps e
  obtain⟨m2,e2⟩:=tbls b _ e1
  exact⟨m1++m2,by rw[e2,Array.append_assoc]⟩
 ·obtain⟨m,hn,hl⟩:=I.loc
  refine⟨m,ns m hn,fun i x v e1 e2 e3=>?_⟩
  obtain⟨u,r,l⟩:=hl i x v e1 e2 e3
  refine⟨u,r,?_⟩
  rcases l with l|⟨k,c,e,z⟩
  ·exact .inl l
  ·exact .inr ⟨k,c,e,cellK x c e _ z⟩
 ·obtain⟨v,z⟩:=I.cell x c e
  exact⟨v,cellK x c e v z⟩
 ·obtain⟨m,⟨o,_,_,ho,_⟩,_⟩:=I.loc
  exact free _ o (fun z=>(hch _ z).2.1 rfl) ho I.free
 ·obtain⟨v,o,ho,hd⟩:=I.cell x c e
  exact free c o (fun z=>(hch c z).2.2.1 x c e rfl) ho (I.freeC x c e)
 ·obtain⟨e,n,ne,nf,d⟩:=I.pin p hp
  have nch:p.1∉ch:=fun z=>(hch p.1 z).2.2.2 p hp rfl
  exact⟨keep p.1 p.2 ne nf nch e n,free p.1 p.2 nch e n,ne,nf,d⟩
theorem Inv.un{t':Nat}(I:Inv X pins σ H s)(u:Un X.fs [] H H' s.heap h')(hok:HOk X.prog X.w H' h'):Inv X pins σ H' { s with heap:=h',toks:=t' }:=by
 obtain⟨m,⟨o,es,ep,ho,r⟩,_⟩:=id I.loc;obtain⟨sl,hL⟩:=u.any ho I.free (by simp)
 exact I.step (g':=s.gens) (d':=s.drawn) (ch:=[]) (fun _ z=>nomatch z) (fun b o _ hb _ e n=>u.keep b o e n hb (by simp)) (fun b o _ hb _ e n=>u.slot b o e n hb (by simp)) (fun b o _ e n=>u.free b o e n (by simp)) (fun b o _ e=>u.there b o e (by simp)) u.tups u.frzs u.tbls (fun m' hm=>by
  obtain⟨o',es',ep',ho',r'⟩:=hm
  rw[ho]at ho';cases ho'
  exact⟨_,es',ep',hL,r'⟩) hok I.bare
theorem Inv.call{g':Array GenState}{t':Nat}{d':Drawn}{ch:List Addr}(I:Inv X pins σ H s)(u:Un (frs X.stack) ch H H' s.heap h')(hok:HOk X.prog X.w H' h')(hg:AllBare g') (hch:∀b∈ch,(b∈X.ex\/X.s₀.heap.objs.size<=b)/\b≠X.env.locals/\(∀x c,X.env.cells.lookup x=some c->c≠b)/\∀p∈X.pn++pins,p.1≠b) : Inv X pins σ H' { s with heap:=h',gens:=g',drawn:=d',toks:=t' }:=by
 obtain⟨m,⟨o,es,ep,ho,r⟩,_⟩:=id I.loc;obtain⟨sl,hL⟩:=u.any ho I.free fun z=>(hch _ z).2.1 rfl
 exact I.step (ch:=ch) hch (fun b o hL hb hc e n=>u.keep b o e n (fun z=>(Ba.mp (I.j0 b z)).elim hL hb) hc) (fun b o _ _ hc e n=>u.any e n hc) (fun b o hc e n=>u.free b o e n hc) (fun b o hc e=>u.there b o e hc) u.tups u.frzs u.tbls (fun m' hm=>by
  obtain⟨o',es',ep',ho',r'⟩:=hm
  rw[ho]at ho';cases ho'
  exact⟨_,es',ep',hL,r'⟩) hok hg
theorem Inv.turned{t':Nat}{it:Addr}(I:Inv X pins σ H s)(k:∀b o,b≠it->s.heap.get? b=some o->h'.get? b=some o)(hn:H it=none)(hL:it≠X.env.locals)
 (h1:it∈X.ex\/X.s₀.heap.objs.size<=it) (h2:∀x c,X.env.cells.lookup x=some c->c≠it) (h3:∀p∈X.pn++pins,p.1≠it):Inv X pins σ H { s with heap:=h',toks:=t' }:=by
 have nit:∀b u,H b=some u->b≠it:=fun b u e z=>by rw[z,hn]at e;cases e
 refine I.step (g':=s.gens) (d':=s.drawn) (ch:=[it]) (fun b hb=>?_) (fun b o _ _ hc e _=>k b o (fun z=>hc (by simp[z])) e) (fun b o _ _ hc e _=>⟨o.slots,k b o (fun z=>hc (by simp[z])) e⟩) (fun _ _ _ _ n=>n)
  (fun b o hc e=>⟨o,k b o (fun z=>hc (by simp[z])) e⟩) (fun _ _ e=>e) (fun _ _ _ e=>e) (fun b ps e=>⟨#[],by rw[e];simp⟩) (fun m hm=>?_) (fun b u e=>?_) I.bare
 ·have e:b=it:=by simpa using hb
  subst e
  exact⟨h1,hL,h2,h3⟩
 ·obtain⟨o,es,ep,ho,r⟩:=hm
  exact⟨o,es,ep,k _ o (Ne.symm hL) ho,r⟩
 ·refine(I.hok b u e).dt (fun c v hc q=>k c v ?_ q) (fun _ q=>q) fun _ _ q=>q
  rcases hc with z|z
  ·rw[z];exact nit b u e
  ·exact nit c _ z
theorem Inv.tok(I:Inv X pins σ H s)(t:Nat):Inv X pins σ H { s with toks:=t }:=I.un (h':=s.heap) (t':=t) Un.refl I.hok
theorem Inv.kept{t':Nat}(I:Inv X pins σ H s)(k:∀b u,s.heap.get? b=some u->h'.get? b=some u):Inv X pins σ H { s with heap:=h',toks:=t' }:=I.un (Un.kept k) (I.hok.kept k)
theorem Inv.laid{a:Addr}{o:HO}{t':Nat}(I:Inv X pins σ H s)(k:∀b u,s.heap.get? b=some u->h'.get? b=some u)(hp:s.heap.objs.size<=a)(new:bo X.prog X.w (upd H a o) h' a o) : Inv X pins σ (upd H a o) { s with heap:=h',toks:=t' }:=I.un (Un.laid k hp (I.hok.fresh hp)) (I.hok.laid k hp new)
theorem Inv.write{x e:Addr}{o:HO}{t':Nat}(I:Inv X pins σ H s)(mu:Mut (H x))(he:e=x\/H e=some (.own x))(k:∀b u,b≠e->s.heap.get? b=some u->h'.get? b=some u)(heo:∃u,h'.get? e=some u) (new:bo X.prog X.w (upd H x o) h' x o):Inv X pins σ (upd H x o) { s with heap:=h',toks:=t' }:=I.un (Un.write mu he k heo) (I.hok.write mu he k heo new)
theorem Inv.oh{pins':List (Addr×Obj)}(I:Inv X pins σ H s)(h:∀p∈pins',s.heap.get? p.1=some p.2/\H p.1=none/\p.1≠X.env.locals/\p.1∉X.fs/\∀v,p.2.data≠.cell v):Inv X pins' σ H s:=⟨I.ok,I.os,I.bare,I.base,I.loc,I.cell,I.free,I.freeC,fun p hp=>(AH.mp hp).elim (fun z=>I.pin p (List.mem_append_left _ z)) (h p),I.hok,I.len⟩
theorem lH{N:List Str}(hN:N.Nodup){i j:Nat}{x:Str}(a:N[i]?=some x)(b:N[j]?=some x):i=j:=by obtain⟨h1,e1⟩:=A6.mp a;obtain⟨h2,e2⟩:=A6.mp b;exact(List.getElem_inj hN).mp (e1.trans e2.symm)
theorem jf{M:Model}{A:AQ}{E:A1->A2->Prop}{i:Nat}{x:Str}{v:V}{u:A1}{Q:Unit->A2->Prop}(I:Inv X pins σ H s)(hN:X.N.Nodup)(hi:X.N[i]?=some x)(hx:Loc X.env.scope x)(r:RelV v u)
 (h:∀s',Inv X pins (σ.set i (some v)) H s'->(∃a,Cw a s.heap s'.heap/\(a=X.env.locals\/X.env.cells.lookup x=some a))->Q () s') (hf:X.fn x=true\/X.env.scope.names.lookup x=some .local:=by first|exact .inl rfl|exact .inr rfl|assumption):A9 M A (storeName X.env x u) Q E s:=by
 obtain⟨m,hn,hl⟩:=id I.loc
 have hcls:(X.env.scope.kind==.class||(X.env.scope.kind==.module&&X.env.locals != X.env.globals))=false:=by rw[I.ok.kind];rfl
 have hiσ:i<σ.length:=by rw[I.len];exact(A6.mp hi).1
 have cne:=I.cne
 have tracked:∀{a:Addr} {h':Heap},(∃o,s.heap.get? a=some o/\H a=none)->Cw a s.heap h'->HOk X.prog X.w H h':=fun{a h'} ha hs b ob e=>by
  obtain⟨_,_,hfree⟩:=ha
  refine(I.hok b ob e).dt (fun c w' hc q=>(hs.2 c ?_).trans q) (fun _ q=>q) fun _ _ q=>q
  rintro rfl
  rcases hc with rfl|hc
  ·rw[hfree]at e;cases e
  ·rw[hfree]at hc;cases hc
 rcases hx with hk|hk
 ·refine wpAny_storeName_local hk hn (fun h' hn' hs=>?_) hcls
  obtain⟨oL,_,_,hoL,_⟩:=id hn
  refine h _ ⟨I.ok,I.os,I.bare,⟨fun b o e n hb hx=>?_,fun b o e n hb hx=>?_,I.base.free,fun b o e hx=>?_,I.base.tups,I.base.frzs,I.base.tbls⟩,⟨_,hn',fun j y v' e1 e2 e3=>?_⟩,fun y c e=>?_,I.free,I.freeC,fun p hp=>?_,tracked ⟨oL,hoL,I.free⟩ hs,by simpa using I.len⟩ ⟨_,hs,.inl rfl⟩
  ·exact(hs.2 b (AJ (Aw (A8 e) I.ok.above))).trans (I.base.keep b o e n hb hx)
  ·obtain⟨sl,e1⟩:=I.base.slot b o e n hb hx
   exact⟨sl,(hs.2 b (AJ (Aw (A8 e) I.ok.above))).trans e1⟩
  ·obtain⟨o',e1⟩:=I.base.there b o e hx
   exact⟨o',(hs.2 b (AJ (Aw (A8 e) I.ok.above))).trans e1⟩
  ·by_cases hj:j=i
   ·subst hj
    rw[hi]at e1;cases e1
    rw[List.getElem?_set_self hiσ]at e2
    cases e2
    exact⟨u,r,.inl ⟨hk,by simp⟩⟩
   ·rw[List.getElem?_set_ne (Ne.symm hj)]at e2
    obtain⟨u',r',q⟩:=hl j y v' e1 e2 e3
    refine⟨u',r',?_⟩
    rcases q with⟨k,e⟩|⟨k,c,e,z⟩
    ·refine .inl ⟨k,?_⟩
     have:y≠x:=fun e=>hj (lH hN e1 (e▸hi))
     simp[this,e]
    ·exact .inr ⟨k,c,e,z.sameBut hs (cne y c e)⟩
  ·obtain⟨w',z⟩:=I.cell y c e
   exact⟨w',z.sameBut hs (cne y c e)⟩
  ·obtain⟨e,n,ne,nf,d⟩:=I.pin p hp
   exact⟨(hs.2 p.1 ne).trans e,n,ne,nf,d⟩
 ·have hfn:X.fn x=true:=by
   rcases hf with z|z
   ·exact z
   ·rw[z]at hk;cases hk
  obtain⟨c,hc⟩:=I.ok.has x (.inl hk)
  obtain⟨w',z⟩:=I.cell x c hc
  refine wpAny_storeName_cell I.ok.kind hk hc z (fun h' hc' hs=>?_)
  obtain⟨oc,hoc,hocd⟩:=id z
  refine h { s with heap:=h' } ⟨I.ok,I.os,I.bare,⟨fun b o e n hb hx=>?_,fun b o e n hb hx=>?_,I.base.free,fun b o e hx=>?_,I.base.tups,I.base.frzs,I.base.tbls⟩,⟨m,hn.sameBut hs (Ne.symm (cne x c hc)),fun j y v' e1 e2 e3=>?_⟩,fun y c' e=>?_,I.free,I.freeC,fun p hp=>?_,tracked ⟨oc,hoc,I.freeC x c hc⟩ hs,by simpa using I.len⟩ ⟨c,hs,.inr hc⟩
  ·exact(hs.2 b (AJ (Aw (A8 e) (I.ok.cab x c hfn hc)))).trans (I.base.keep b o e n hb hx)
  ·obtain⟨sl,e1⟩:=I.base.slot b o e n hb hx
   exact⟨sl,(hs.2 b (AJ (Aw (A8 e) (I.ok.cab x c hfn hc)))).trans e1⟩
  ·obtain⟨o',e1⟩:=I.base.there b o e hx
   exact⟨o',(hs.2 b (AJ (Aw (A8 e) (I.ok.cab x c hfn hc)))).trans e1⟩
  ·by_cases hj:j=i
   ·subst hj
    rw[hi]at e1;cases e1
    rw[List.getElem?_set_self hiσ]at e2
    cases e2
    exact⟨u,r,.inr ⟨.inl hk,c,hc,hc'⟩⟩
   ·rw[List.getElem?_set_ne (Ne.symm hj)]at e2
    obtain⟨u',r',q⟩:=hl j y v' e1 e2 e3
    refine⟨u',r',?_⟩
    rcases q with q|⟨k,c',e,z'⟩
    ·exact .inl q
    ·refine .inr ⟨k,c',e,z'.sameBut hs ?_⟩
     rintro rfl
     exact hj (lH hN e1 (I.ok.inj _ _ _ e hc▸hi))
  ·by_cases hcc:c'=c
   ·subst hcc;exact⟨_,hc'⟩
   ·obtain⟨w2,z2⟩:=I.cell y c' e
    exact⟨w2,z2.sameBut hs hcc⟩
  ·obtain⟨e,n,ne,nf,d⟩:=I.pin p hp
   refine⟨(hs.2 p.1 ?_).trans e,n,ne,nf,d⟩
   intro q
   rw[q,hoc]at e
   have q':oc=p.2:=Option.some.inj e
   exact d w' (by rw[<-q'];exact hocd)
theorem fj{M:Model}{A:AQ}{E:A1->A2->Prop}{i:Nat}{x:Str}{v:V}{u:A1}{Q:Unit->A2->Prop}(I:Inv X pins σ H s)(hN:X.N.Nodup)(hi:X.N[i]?=some x)(hx:Loc X.env.scope x)(r:RelV v u) (h:∀s',Inv X pins (σ.set i (some v)) H s'->Q () s') (hf:X.fn x=true\/X.env.scope.names.lookup x=some .local:=by first|exact .inl rfl|exact .inr rfl|assumption):A9 M A (storeName X.env x u) Q E s:=jf I hN hi hx r (fun s' I' _=>h s' I') hf
theorem Inv.u9{s':A2}{ch:List Addr}(I:Inv X pins σ H s)(ho:s'.os=s.os)(u:Un (frs X.stack) ch H H' s.heap s'.heap)(hok:HOk X.prog X.w H' s'.heap)(hg:AllBare s'.gens)
 (hch:∀b∈ch,(b∈X.ex\/X.s₀.heap.objs.size<=b)/\b≠X.env.locals/\(∀x c,X.env.cells.lookup x=some c->c≠b)/\∀p∈X.pn++pins,p.1≠b):Inv X pins σ H' s':=by
 obtain⟨h',g',d',t',o'⟩:=s'
 have e:o'=s.os:=ho
 subst e
 exact I.call (g':=g') (t':=t') (d':=d') u hok hg hch
end
abbrev XK:=A1->Option Addr->Hp->Prop
abbrev St:=List (Option V)
abbrev VK:=V->Hp->Prop
abbrev TE:=St->Hp->VK->Prop
abbrev TT:=St->Hp->(Bool->Hp->Prop)->Prop
abbrev TA:=St->Hp->(List V->Hp->Prop)->Prop
structure Ends where
 nx:St->Hp->Prop
 rt:VK
 bk:St->Hp->Prop:=fun _ _=>False
 ct:St->Hp->Prop:=fun _ _=>False
abbrev TS:=Ends->St->Hp->Prop
def EP(X:Cx)(pins:List (Addr×Obj))(σ:St)(Q:VK)(u:A1)(s':A2):Prop:=∃v H',Inv X pins σ H' s'/\RelV v u/\Q v H'
def TP(X:Cx)(pins:List (Addr×Obj))(σ:St)(Q:Bool->Hp->Prop)(b:Bool)(s':A2):Prop:=∃H',Inv X pins σ H' s'/\Q b H'
def AP(X:Cx)(pins:List (Addr×Obj))(σ:St)(Q:List V->Hp->Prop)(us:List A1)(s':A2):Prop:=∃vs H',Inv X pins σ H' s'/\Vals vs us/\Q vs H'
def SP(X:Cx)(pins:List (Addr×Obj))(D:Ends)(f:Flow)(s':A2):Prop:=
 match f with
 |.next=>∃σ' H',Inv X pins σ' H' s'/\D.nx σ' H'
 |.brk=>∃σ' H',Inv X pins σ' H' s'/\D.bk σ' H'
 |.cont=>∃σ' H',Inv X pins σ' H' s'/\D.ct σ' H'
 |.ret u=>∃v σ' H',Inv X pins σ' H' s'/\RelV v u/\D.rt v H'
def PE(X:Cx)(e:Expr)(t:TE):Prop:=
 ∀(pins:List (Addr×Obj)) (s:A2) (σ:St) (H:Hp) (Q:VK),Inv X pins σ H s->t σ H Q->A9 (Ay X.prog X.w) X.A (eval e X.env) (EP X pins σ Q) X.xe s
def PT(X:Cx)(e:Expr)(t:TT):Prop:=
 ∀(pins:List (Addr×Obj)) (s:A2) (σ:St) (H:Hp) (Q:Bool->Hp->Prop),Inv X pins σ H s->t σ H Q->A9 (Ay X.prog X.w) X.A (isTrue e X.env (eval e X.env)) (TP X pins σ Q) X.xe s
def PW(X:Cx)(e:Expr)(t:TT):Prop:=
 ∀(whole:Sem A1) (pins:List (Addr×Obj)) (s:A2) (σ:St) (H:Hp) (Q:Bool->Hp->Prop),Inv X pins σ H s->t σ H Q->A9 (Ay X.prog X.w) X.A (isTrue e X.env whole) (TP X pins σ Q) X.xe s
theorem PW.pt{X:Cx}{e:Expr}{t:TT}(h:PW X e t):PT X e t:=h _
def PA(X:Cx)(es:List Expr)(t:TA):Prop:=
 ∀(pos:Pos) (pins:List (Addr×Obj)) (s:A2) (σ:St) (H:Hp) (Q:List V->Hp->Prop),Inv X pins σ H s->t σ H Q->A9 (Ay X.prog X.w) X.A (spliced (Cy pos (AF es X.env))) (AP X pins σ Q) X.xe s
def PS(X:Cx)(st:Stmt)(t:TS):Prop:=
 ∀(pins:List (Addr×Obj)) (s:A2) (σ:St) (H:Hp) (D:Ends),Inv X pins σ H s->t D σ H->A9 (Ay X.prog X.w) X.A (exec st X.env) (SP X pins D) X.xe s
def PSs(X:Cx)(st:List Stmt)(t:TS):Prop:=
 ∀(pins:List (Addr×Obj)) (s:A2) (σ:St) (H:Hp) (D:Ends),Inv X pins σ H s->t D σ H->A9 (Ay X.prog X.w) X.A (execs st X.env) (SP X pins D) X.xe s
theorem thn{α:Type}{t:Sem α}{Q Q':α->A2->Prop}{M:Model}{A:AQ}{E:A1->A2->Prop}{s:A2}(h:A9 M A t Q E s)(hQ:∀a s,Q a s->Q' a s):A9 M A t Q' E s:=AK h hQ fun _ _ x=>x
section
variable{X:Cx}
def zT(i:Nat):TE:=fun σ H Q=>∃v,σ[i]?=some (some v)/\Q v H
def tC(v:V):TE:=fun _ H Q=>Q v H
theorem xn{i:Nat}{x:Str}{pos:Pos}(hN:X.N[i]?=some x)(hv:Vis X.env.scope x)(hd:(x==("__debug__":Str))=false:=by decide)(hcd:(x==("__classdict__":Str))=false:=by decide):PE X (.Name x pos) (zT i):=by
 intro pins s σ H Q I h;obtain⟨v,e,h⟩:=h;obtain⟨m,hn,hl⟩:=I.loc;obtain⟨u,r,l⟩:=hl i x v hN e hv;have fin:EP X pins σ Q u s:=⟨v,H,I,r,h⟩;rcases l with⟨hk,hm⟩|⟨hk,c,hc,hcell⟩
 ·exact wpAny_Name (wpAny_loadName_local I.ok.kind hk hn hm fin) hd
 ·rcases hk with hk|hk
  ·exact wpAny_Name (wpAny_loadName_cell I.ok.kind hk hc hcell fin) hd
  ·exact wpAny_Name (wpAny_loadName_free I.ok.kind hk hc hcell fin hcd) hd
theorem xP{i j pos}:PE X (.Constant (.int i) j pos) (tC (.int i)):=fun _ _ _ H _ I h=>wpAny_Constant_int ⟨.int i,H,I.tok _,⟨_,rfl⟩,h⟩
theorem yf{b j pos}:PE X (.Constant (.bool b) j pos) (tC (.bl b)):=fun _ _ _ H _ I h=>Constant_bool ⟨.bl b,H,I,rfl,h⟩
theorem vO{j pos}:PE X (.Constant .none j pos) (tC .non):=fun _ _ _ H _ I h=>Constant_none ⟨.non,H,I,rfl,h⟩
theorem xM{x j pos}:PE X (.Constant (.str x) j pos) (tC (.str x)):=fun _ _ _ H _ I h=>Calls.Constant_str ⟨.str x,H,I.tok _,⟨_,rfl⟩,h⟩
def Gl(X:Cx)(x:Str):Prop:=X.env.kindOf x=some .globalImplicit
theorem m7{E:A1->A2->Prop}{pins:List (Addr×Obj)}{s:A2}{σ:St}{H:Hp}{x:Str}{u:A1}{pos:Pos}{Q:A1->A2->Prop}(I:Inv X pins σ H s)(hg:Gl X x)(hm:X.mg x=some u)(h:Q u s) (hd:(x==("__debug__":Str))=false:=by decide):A9 (Ay X.prog X.w) X.A (eval (.Name x pos) X.env) Q E s:=Calls.Name_function_global I.ok.kind hg (Calls.loadGlobal_global (by rw[I.ok.glob];exact I.mod.glob.keeps I.bk) hm h) hd
theorem fN{E:A1->A2->Prop}{pins:List (Addr×Obj)}{s:A2}{σ:St}{H:Hp}{x:Str}{u:A1}{pos:Pos}{Q:A1->A2->Prop}(I:Inv X pins σ H s)(hg:Gl X x)(hm:X.mg x=none)(hv:Be x=some u)(h:Q u s) (hn:x≠"__name__":=by decide) (hd:(x==("__debug__":Str))=false:=by decide):A9 (Ay X.prog X.w) X.A (eval (.Name x pos) X.env) Q E s:=by obtain⟨mb,h1,h2⟩:=I.mod.blt;exact Calls.Name_function_global I.ok.kind hg (Calls.loadGlobal_builtin (by rw[I.ok.glob];exact I.mod.glob.keeps I.bk) hm (by rw[I.ok.blt];exact h1.keeps I.bk) ((h2 x hn).trans hv) h) hd
theorem ud{x:Str}{v:V}{u:A1}{pos:Pos}(hg:Gl X x)(hm:X.mg x=some u)(r:RelV v u)(hd:(x==("__debug__":Str))=false:=by decide):PE X (.Name x pos) (tC v):=fun _ _ _ H _ I h=>m7 I hg hm ⟨v,H,I,r,h⟩ hd
variable{a b:Expr}{ta tb:TE}{pos:Pos}
def tB(t:TE):TT:=fun σ H Q=>t σ H fun x H1=>∃c,x=.bl c/\Q c H1
theorem xy{e:Expr}{t:TE}(h:PE X e t)(he:∀whole,isTrue e X.env whole=(do let v <-whole;standAt e.pos;holding [v] (truthy v)):=by intro _;rfl):PT X e (tB t):=by intro pins s σ H Q I hw;refine isTrue_plain (thn (h pins s σ H _ I hw) fun v s1 zz7_0=>?_) (he _);obtain⟨x,H1,I1,r1,q1⟩:=zz7_0;obtain⟨d,rfl,q⟩:=q1;cases r1;exact Cf ⟨H1,I1,q⟩
variable{tA tB':TT}{rest:List Expr}
def Af(t u:TT):TT:=fun σ H Q=>t σ H fun c H1=>if c=true then u σ H1 Q else Q false H1
def tOr(t u:TT):TT:=fun σ H Q=>t σ H fun c H1=>if c=true then Q true H1 else u σ H1 Q
def Ab(t:TT):TT:=fun σ H Q=>t σ H fun c H1=>Q (!c) H1
theorem sJ(ha:PT X a tA):PW X (.BoolOp .And [a] pos) tA:=by
 intro wh pins s σ H Q I h;refine isTrue_and (thn (ha pins s σ H Q I h) fun c s1 e=>?_);cases c with
 |true=>exact isTrue_and_nil e
 |false=>exact e
theorem vX(ha:PT X a tA):PW X (.BoolOp .Or [a] pos) tA:=by
 intro wh pins s σ H Q I h;refine isTrue_or (thn (ha pins s σ H Q I h) fun c s1 e=>?_);cases c with
 |false=>exact isTrue_or_nil e
 |true=>exact e
theorem vE(ha:PT X a tA)(hb:PW X (.BoolOp .And (b::rest) pos) tB'):PW X (.BoolOp .And (a::b::rest) pos) (Af tA tB'):=by
 intro wh pins s σ H Q I h;refine isTrue_and (thn (ha pins s σ H _ I h) fun c s1 zz8_0=>?_);obtain⟨H1,I1,q1⟩:=zz8_0;cases c with
 |true=>exact hb wh pins s1 σ H1 Q I1 q1
 |false=>exact⟨H1,I1,q1⟩
theorem y6(ha:PT X a tA)(hb:PW X (.BoolOp .Or (b::rest) pos) tB'):PW X (.BoolOp .Or (a::b::rest) pos) (tOr tA tB'):=by
 intro wh pins s σ H Q I h;refine isTrue_or (thn (ha pins s σ H _ I h) fun c s1 zz9_0=>?_);obtain⟨H1,I1,q1⟩:=zz9_0;cases c with
 |true=>exact⟨H1,I1,q1⟩
 |false=>exact hb wh pins s1 σ H1 Q I1 q1
theorem xH(ha:PT X a tA):PT X (.UnaryOp .Not a pos) (Ab tA):=by intro pins s σ H Q I h;exact isTrue_not (ha pins s σ H (fun c H1=>Q (!c) H1) I h)
def zm(ta tb:TE):TE:=fun σ H Q=>ta σ H fun x H1=>∃c,x=.bl c/\if c=true then tb σ H1 Q else Q (.bl false) H1
def yX(ta:TE):TE:=fun σ H Q=>ta σ H fun x H1=>∃c,x=.bl c/\Q (.bl (!c)) H1
theorem vD{op}{t:TE}(h:PE X a t):PE X (.BoolOp op [a] pos) t:=fun pins s σ H Q I hw=>BoolOp_one (h pins s σ H Q I hw)
theorem xk(ha:PE X a ta)(hb:PE X (.BoolOp .And (b::rest) pos) tb):PE X (.BoolOp .And (a::b::rest) pos) (zm ta tb):=by
 intro pins s σ H Q I h;refine BoolOp_and (thn (ha pins s σ H _ I h) fun v s1 zz10_0=>?_);obtain⟨x,H1,I1,r1,q1⟩:=zz10_0;obtain⟨c,rfl,q1⟩:=q1;cases r1;refine Cf ?_;cases c with
 |true=>exact hb pins s1 σ H1 Q I1 q1
 |false=>exact⟨.bl false,H1,I1,rfl,q1⟩
theorem xD(ha:PE X a ta):PE X (.UnaryOp .Not a pos) (yX ta):=by intro pins s σ H Q I h;refine UnaryOp_ (thn (ha pins s σ H _ I h) fun v s1 zz12_0=>?_);obtain⟨x,H1,I1,r1,q1⟩:=zz12_0;obtain⟨c,rfl,q1⟩:=q1;cases r1;exact not_of (Cf ⟨.bl (!c),H1,I1,rfl,q1⟩)
def tIf(t:TT)(ta tb:TE):TE:=fun σ H Q=>t σ H fun c H1=>if c=true then ta σ H1 Q else tb σ H1 Q
theorem rC{c:Expr}(hc:PT X c tA)(ha:PE X a ta)(hb:PE X b tb):PE X (.IfExp c a b pos) (tIf tA ta tb):=by
 intro pins s σ H Q I h;refine wpAny_IfExp (thn (hc pins s σ H _ I h) fun d s1 zz13_0=>?_);obtain⟨H1,I1,q1⟩:=zz13_0;cases d with
 |true=>exact ha pins s1 σ H1 Q I1 q1
 |false=>exact hb pins s1 σ H1 Q I1 q1
end
def SqL(K:A0)(H:Hp)(a:Addr)(xs:List V):Prop:=
 Rd H a (.lst xs)\/
  ∃(o:Obj) (its:Array A1) (n:Nat),K.lookup a=some o/\o.cls=.type "list"/\o.dict=none/\o.data=.seq its n/\its.size<=AI/\Vals xs its.toList
def SqT(K:A0)(H:Hp)(a:Addr)(xs:List V):Prop:=
 Rd H a (.tup xs)\/
  ∃(o:Obj) (its:Array A1) (n:Nat),K.lookup a=some o/\o.cls=.type "tuple"/\o.data=.seq its n/\its.size<=AI/\Vals xs its.toList
def Ak:A1->Option V
 |.none=>some .non
 |.bool b=>some (.bl b)
 |.int i _=>some (.int i)
 |.str x _=>some (.str x)
 |.bytes b _=>some (.byt b)
 |.float b _=>some (.flt b)
 |.ref a=>some (.ref a)
 |.type n=>some (.ty n)
 |_=>none
theorem RelV.abs{x:V}{u:A1}(r:RelV x u):Ak u=some x:=by
 cases x with
 |non=>cases r;rfl
 |bl _=>cases r;rfl
 |int _=>obtain⟨t,rfl⟩:=r;rfl
 |str _=>obtain⟨t,rfl⟩:=r;rfl
 |byt _=>obtain⟨t,rfl⟩:=r;rfl
 |flt _=>obtain⟨t,rfl⟩:=r;rfl
 |ref _=>cases r;rfl
 |ty _=>cases r;rfl
theorem RelV.inj{x y:V}{u:A1}(r:RelV x u)(q:RelV y u):x=y:=Option.some.inj (r.abs.symm.trans q.abs)
theorem Vals.inj:∀{xs ys:List V} {us:List A1},Vals xs us->Vals ys us->xs=ys
 |_,_,_,.nil,.nil=>rfl
 |_,_,_,.cons r t,.cons r' t'=>by rw[r.inj r',Vals.inj t t']
section
variable{X:Cx}{pins:List (Addr×Obj)}{σ:St}{H:Hp}{s:A2}{a:Addr}{xs ys:List V}
theorem SqL.of{K:A0}(h:H a=some (.lst xs)):SqL K H a xs:=.inl (.inl h)
theorem SqT.of{K:A0}(h:H a=some (.tup xs)):SqT K H a xs:=.inl (.inl h)
theorem Inv.list(I:Inv X pins σ H s)(h:SqL X.K H a xs):∃its:List A1,Vals xs its/\PlainL s.heap a its.toArray/\xs.length<=AI:=by
 rcases h with h|⟨o,its,n,hk,hc,hd,hs,hz,r⟩
 ·obtain⟨z,its,n,r,e⟩:=h.ok I.hok;exact⟨its,r,⟨_,n,e,rfl,rfl,rfl⟩,z⟩
 ·refine⟨its.toList,r,⟨o,n,I.kIn a o hk,hc,hd,by simpa using hs⟩,?_⟩;have e:=r.length;simp only[B4]at e;omega
theorem Inv.tuple(I:Inv X pins σ H s)(h:SqT X.K H a xs):∃its:List A1,Vals xs its/\IsTup s.heap a its.toArray/\xs.length<=AI:=by
 rcases h with h|⟨o,its,n,hk,hc,hs,hz,r⟩
 ·obtain⟨z,its,r,p⟩:=h.ok I.hok;exact⟨its,r,p,z⟩
 ·refine⟨its.toList,r,⟨o,I.kIn a o hk,hc,n,by simpa using hs⟩,?_⟩;have e:=r.length;simp only[B4]at e;omega
theorem Inv.eW(I:Inv X pins σ H s)(h:SqL X.K H a xs)(h':SqL X.K H a ys):xs=ys:=by
 obtain⟨its,r,⟨o,n,e,_,_,d⟩,_⟩:=I.list h;obtain⟨its',r',⟨o',n',e',_,_,d'⟩,_⟩:=I.list h';rw[e]at e';cases e';rw[d]at d';injection d' with d1 _;have:its=its':=by simpa using congrArg Array.toList d1
 subst this;exact r.inj r'
theorem Inv.oX(I:Inv X pins σ H s)(h:SqT X.K H a xs)(h':SqT X.K H a ys):xs=ys:=by
 obtain⟨its,r,⟨o,e,_,n,d⟩,_⟩:=I.tuple h;obtain⟨its',r',⟨o',e',_,n',d'⟩,_⟩:=I.tuple h';rw[e]at e';cases e';rw[d]at d';injection d' with d1 _;have:its=its':=by simpa using congrArg Array.toList d1
 subst this;exact r.inj r'
end
abbrev Cx.iC(X:Cx)(E:A1->A2->Prop):Cx:={ X with xe:=E }
abbrev Cx.nox(X:Cx):Cx:=X.iC fun _ _=>False
theorem Cx.Ok.iC{X:Cx}(ok:X.Ok)(E:A1->A2->Prop):(X.iC E).Ok:=⟨ok.mod,ok.kind,ok.glob,ok.blt,ok.above,ok.inj,ok.has,ok.cab,ok.hd,ok.frames,ok.stk,ok.exf,ok.bs,ok.bsz,ok.noex,ok.exfs,ok.dZ,ok.frf⟩
theorem Cx.Ok.dz{X:Cx}{E:A1->A2->Prop}(ok:(X.iC E).Ok):X.Ok:=⟨ok.mod,ok.kind,ok.glob,ok.blt,ok.above,ok.inj,ok.has,ok.cab,ok.hd,ok.frames,ok.stk,ok.exf,ok.bs,ok.bsz,ok.noex,ok.exfs,ok.dZ,ok.frf⟩
section
variable{X:Cx}{pins:List (Addr×Obj)}{σ:St}{H:Hp}{s:A2}{E:A1->A2->Prop}
theorem Inv.iC(I:Inv X pins σ H s)(E:A1->A2->Prop):Inv (X.iC E) pins σ H s:=⟨I.ok.iC E,I.os,I.bare,I.base,I.loc,I.cell,I.free,I.freeC,I.pin,I.hok,I.len⟩
theorem Inv.dz(I:Inv (X.iC E) pins σ H s):Inv X pins σ H s:=⟨I.ok.dz,I.os,I.bare,I.base,I.loc,I.cell,I.free,I.freeC,I.pin,I.hok,I.len⟩
theorem SP.dz{D:Ends}{f:Flow}{s':A2}(h:SP (X.iC E) pins D f s'):SP X pins D f s':=by
 cases f with
 |next=>obtain⟨σ',H',I,q⟩:=h;exact⟨σ',H',I.dz,q⟩
 |brk=>obtain⟨σ',H',I,q⟩:=h;exact⟨σ',H',I.dz,q⟩
 |cont=>obtain⟨σ',H',I,q⟩:=h;exact⟨σ',H',I.dz,q⟩
 |ret u=>obtain⟨v,σ',H',I,r,q⟩:=h;exact⟨v,σ',H',I.dz,r,q⟩
theorem PSs.nox{st:List Stmt}{t:TS}(h:PSs X.nox st t):PSs X st t:=fun pins s σ H D I hw=>AK (h pins s σ H D (I.iC _) hw) (fun _ _ q=>q.dz) fun _ _ z=>BB z
end
section
variable{X:Cx}{st:Stmt}{rest:List Stmt}{t u:TS}{e:Expr}{te:TE}{pos:Pos}
def zB:TS:=fun D σ H=>D.nx σ H
def zQ(t u:TS):TS:=fun D σ H=>t { D with nx:=u D } σ H
theorem tW:PSs X [] zB:=fun _ _ σ H _ I h=>wpAny_execs_nil ⟨σ,H,I,h⟩
theorem rM(h1:PS X st t)(h2:PSs X rest u):PSs X (st::rest) (zQ t u):=by
 intro pins s σ H D I h;refine wpAny_execs_cons (thn (h1 pins s σ H { D with nx:=u D } I h) fun f s1 q=>?_);cases f with
 |next=>
  obtain⟨σ',H',I',q⟩:=q
  exact h2 pins s1 σ' H' D I' q
 |ret v=>exact q
 |brk=>exact q
 |cont=>exact q
theorem sZ(h1:PS X st t):PSs X [st] t:=by
 intro pins s σ H D I h;refine wpAny_execs_cons (thn (h1 pins s σ H D I h) fun f s1 q=>?_);cases f with
 |next=>exact wpAny_execs_nil q
 |ret v=>exact q
 |brk=>exact q
 |cont=>exact q
theorem Inv.quiet{pins:List (Addr×Obj)}{σ:St}{H:Hp}{s:A2}(I:Inv X pins σ H s):interactive X.env=false:=by simp[interactive,I.ok.kind]
def yp(te:TE):TS:=fun D σ H=>te σ H fun _ H1=>D.nx σ H1
theorem sG(he:PE X e te)(hs:swapsWith e none pos.line X.env=pure false:=by rfl):PS X (.Expr e pos) (yp te):=by intro pins s σ H D I h;exact wpAny_Expr_any (thn (he pins s σ H _ I h) fun v s1 zz16_0=>by obtain⟨x,H1,I1,r1,q1⟩:=zz16_0;exact(⟨σ,H1,I1,q1⟩)) I.quiet hs
def Al(te:TE):TS:=fun D σ H=>te σ H D.rt
theorem vK(he:PE X e te):PS X (.Return (some e) pos) (Al te):=by intro pins s σ H D I h;exact wpAny_Return_some (thn (he pins s σ H _ I h) fun v s1 zz17_0=>by obtain⟨x,H1,I1,r1,q1⟩:=zz17_0;exact(⟨x,σ,H1,I1,r1,q1⟩))
def zS(c:TT)(t u:TS):TS:=fun D σ H=>c σ H fun b H1=>if b=true then t D σ H1 else u D σ H1
theorem yQ{c:Expr}{a b:List Stmt}{tc:TT}(hc:PT X c tc)(ha:PSs X a t)(hb:PSs X b u):PS X (.If c a b pos) (zS tc t u):=by
 intro pins s σ H D I h;refine wpAny_If (thn (hc pins s σ H _ I h) fun d s1 zz18_0=>?_);obtain⟨H1,I1,q1⟩:=zz18_0;cases d with
 |true=>exact ha pins s1 σ H1 D I1 q1
 |false=>exact hb pins s1 σ H1 D I1 q1
def yb:TS:=fun _ _ _=>False
theorem rX:PS X st yb:=fun _ _ _ _ _ _ h=>h.elim
end
abbrev TG:=V->St->Hp->(St->Hp->Prop)->Prop
abbrev TGs:=List V->St->Hp->(St->Hp->Prop)->Prop
def PG(X:Cx)(target:Expr)(t:TG):Prop:=
 ∀(pins:List (Addr×Obj)) (s:A2) (σ:St) (H:Hp) (v:V) (u:A1) (Q:St->Hp->Prop),Inv X pins σ H s->RelV v u->t v σ H Q->
  A9 (Ay X.prog X.w) X.A (assign target X.env u) (fun _ s'=>∃σ' H',Inv X pins σ' H' s'/\Q σ' H') X.xe s
def PGs(X:Cx)(ts:List Expr)(t:TGs):Prop:=
 ∀(pins:List (Addr×Obj)) (s:A2) (σ:St) (H:Hp) (vs:List V) (us:List A1) (Q:St->Hp->Prop),Inv X pins σ H s->Vals vs us->t vs σ H Q->
  A9 (Ay X.prog X.w) X.A (assignInOrder ((Cm ts X.env).map (·.2)) us) (fun _ s'=>∃σ' H',Inv X pins σ' H' s'/\Q σ' H') X.xe s
abbrev wk:=V->V->V->Hp->(Hp->Prop)->Prop
def y8(X:Cx)(t:wk):Prop:=
 ∀(pins:List (Addr×Obj)) (s:A2) (σ:St) (H:Hp) (o i v:V) (ov iv u:A1) (Q:Hp->Prop),Inv X pins σ H s->RelV o ov->RelV i iv->RelV v u->t o i v H Q->
  A9 (Ay X.prog X.w) X.A (setItem ov iv u) (fun _ s'=>∃H',Inv X pins σ H' s'/\Q H') X.xe s
section
variable{X:Cx}{pos:Pos}
def cH(i:Nat):TG:=fun v σ H Q=>Q (σ.set i (some v)) H
theorem mP{i:Nat}{x:Str}(hN:X.N.Nodup)(hi:X.N[i]?=some x)(hx:Loc X.env.scope x)(hf:X.fn x=true\/X.env.scope.names.lookup x=some .local:=by first|exact .inl rfl|exact .inr rfl|assumption):PG X (.Name x pos) (cH i):=by intro pins s σ H v u Q I r h;exact wpAny_assign_Name (fj I hN hi hx r (fun s' I'=>⟨_,H,I',h⟩) hf)
def rj:TGs:=fun vs σ H Q=>vs=[]/\Q σ H
def dA(t:TG)(u:TGs):TGs:=fun vs σ H Q=>∃v r,vs=v::r/\t v σ H fun σ' H'=>u r σ' H' Q
theorem jV:PGs X [] rj:=by intro pins s σ H vs us Q I r h;obtain⟨e,h⟩:=h;subst e;cases r;exact assignInOrder_nil ⟨σ,H,I,h⟩
theorem cY{e:Expr}{es:List Expr}{t:TG}{u:TGs}(h1:PG X e t)(h2:PGs X es u) (hs:(Cm (e::es) X.env).map (·.2)=assign e X.env::(Cm es X.env).map (·.2):=by rfl):PGs X (e::es) (dA t u):=by
 intro pins s σ H vs us Q I r h;obtain⟨v,vr,e1,h⟩:=h;subst e1;cases r with
 |cons r rr=>
  rw[hs]
  refine assignInOrder_cons (thn (h1 pins s σ H _ _ _ I r h) fun _ s1 zz19_0=>?_)
  obtain⟨σ1,H1,I1,q1⟩:=zz19_0
  exact h2 pins s1 σ1 H1 _ _ Q I1 rr q1
def qD(K:A0)(n:Nat)(t:TGs):TG:=fun v σ H Q=>∃a xs,v=.ref a/\SqT K H a xs/\xs.length=n/\t xs σ H Q
theorem lR{es:List Expr}{k:Nat}{t:TGs}{n:Nat}(hc:X.calm=true)(h:PGs X es t)
 (hn:(Cm es X.env).length=n:=by rfl) (hst:(Cm es X.env).findIdx? (·.1)=none:=by rfl):PG X (.Tuple es k pos) (qD X.K n t):=by
 intro pins s σ H v u Q I r hw
 obtain⟨a,xs,e1,hq,hl,hw⟩:=hw
 subst e1
 cases r
 obtain⟨its,rv,ht,hz⟩:=I.tuple hq
 refine assign_Tuple_tuple (I.ok.hd hc) ht (by simp[hn,<-hl,rv.length]) hst fun h' hx=>?_
 have I1:Inv X pins σ H { s with heap:=h' }:=I.kept (t':=s.toks) fun b o e=>hx b o (AJ (A8 e)) e
 exact h pins _ σ H xs _ Q I1 (by simpa using rv) hw
def z5(to ti:TE)(t:wk):TG:=fun v σ H Q=>to σ H fun o H1=>ti σ H1 fun i H2=>t o i v H2 fun H3=>Q σ H3
theorem wg{o i:Expr}{to ti:TE}{t:wk}(ho:PE X o to)(hi:PE X i ti)(hs:y8 X t)
 (ha:∀v,assign (.Subscript o i pos) X.env v=(do
  let ov <-holding [v] (eval o X.env)
  let iv <-holding [v,ov] (eval i X.env)
  standAt pos
  holding [v,ov,iv] (setItem ov iv v)
  release [v,ov,iv] []):=by intro _;rfl):PG X (.Subscript o i pos) (z5 to ti t):=by
 intro pins s σ H v u Q I r h
 rw[ha]
 refine cc (Br (thn (ho pins s σ H _ I h) fun ov s1 zz20_0=>?_))
 obtain⟨x,H1,I1,r1,q1⟩:=zz20_0
 refine cc (Br (thn (hi pins s1 σ H1 _ I1 q1) fun iv s2 zz21_0=>?_))
 obtain⟨y,H2,I2,r2,q2⟩:=zz21_0
 refine cc (wpAny_standAt (cc (Br (thn (hs pins s2 σ H2 x y v ov iv u _ I2 r1 r2 r q2) fun _ s3 zz22_0=>?_))))
 obtain⟨H3,I3,q3⟩:=zz22_0
 exact wpAny_release ⟨σ,H3,I3,q3⟩
def xw(te:TE)(g:TG):TS:=fun D σ H=>te σ H fun x H1=>g x σ H1 D.nx
theorem xx{tg e:Expr}{te:TE}{g:TG}(he:PE X e te)(hg:PG X tg g)(hs:swapsWithSole [tg] e pos.line X.env=pure false:=by rfl)(hw:swappedStores [tg] e X.env=pure none:=by rfl) (h1:(Cm [tg] X.env).map (·.2)=[assign tg X.env]:=by rfl):PS X (.Assign [tg] e pos) (xw te g):=by intro pins s σ H D I h;refine wpAny_Assign_stores (thn (he pins s σ H _ I h) fun v s1 zz23_0=>?_) hs hw;obtain⟨x,H1,I1,r1,q1⟩:=zz23_0;rw[h1];exact thn (hg pins s1 σ H1 x v _ I1 r1 q1) fun _ s2 q=>q
theorem xr{i:Nat}{x:Str}{e:Expr}{te:TE}{pos':Pos}(hN:X.N.Nodup)(hi:X.N[i]?=some x)(hx:Loc X.env.scope x)(he:PE X e te)(hs:swapsWith e (some (.Name x pos')) pos.line X.env=pure false:=by rfl)(hf:X.fn x=true\/X.env.scope.names.lookup x=some .local:=by first|exact .inl rfl|exact .inr rfl|assumption) : PS X (.Assign [.Name x pos'] e pos) (xw te (cH i)):=by intro pins s σ H D I h;refine wpAny_Assign_Name (thn (he pins s σ H _ I h) fun v s1 zz24_0=>?_) hs;obtain⟨y,H1,I1,r1,q1⟩:=zz24_0;exact fj I1 hN hi hx r1 (fun s2 I2=>⟨_,H1,I2,q1⟩) hf
def zU(i j:Nat)(ta:TA):TS:=fun D σ H=>ta σ H fun vs H1=>∃v w,vs=[v,w]/\D.nx ((σ.set i (some v)).set j (some w)) H1
theorem xt{i j:Nat}{x y:Str}{a b:Expr}{ta:TA}{px py pt:Pos}{kt k2 pt2}(hc:X.calm=true)(hN:X.N.Nodup)(hi:X.N[i]?=some x)(hj:X.N[j]?=some y)(hij:i≠j)
 (hx:X.env.scope.names.lookup x=some .local) (hy:X.env.scope.names.lookup y=some .local) (ha:PA X [a,b] ta)
 (hw:swappedStores [.Tuple [.Name x px,.Name y py] kt pt] (.Tuple [a,b] k2 pt2) X.env=pure (some [x,y]))
 (hs:swapsWithSole [.Tuple [.Name x px,.Name y py] kt pt] (.Tuple [a,b] k2 pt2) pos.line X.env=pure false:=by rfl) :
 PS X (.Assign [.Tuple [.Name x px,.Name y py] kt pt] (.Tuple [a,b] k2 pt2) pos) (zU i j ta):=by
 intro pins s σ H D I h
 rw[exec_Assign_arm]
 refine cc (wpAny_standAt ?_)
 rw[hs]
 refine cc (A5 ?_)
 rw[if_neg (by decide)]
 refine cc (Tuple_ (thn (ha _ pins s σ H _ I h) fun us s1 zz25_0=>?_))
 obtain⟨vs,H1,I1,r1,q1⟩:=zz25_0
 obtain⟨v,w,e1,q1⟩:=q1
 subst e1
 obtain⟨u1,u2,rfl,rv,rw'⟩:∃u1 u2,us=[u1,u2]/\RelV v u1/\RelV w u2:=by
  cases r1 with
  |cons p q=>
   cases q with
   |cons p' q'=>
    cases q'
    exact⟨_,_,rfl,p,p'⟩
 refine AZ ?_ (by show 2<=AI;decide)
 have I2:Inv X pins σ H1 { s1 with heap:=s1.heap.push { cls:=.type "tuple",data:=.seq [u1,u2].toArray } }:=I1.kept (t':=s1.toks) fun b o e=>A3 _ e
 rw[hw]
 refine cc (A5 ?_)
 show A9 (Ay X.prog X.w) X.A (do rule "assign.swapped-stores";let items <-unpackItems (.ref s1.heap.objs.size) 2 none;assignInOrder [fun v=>bindName X.env y v,fun v=>bindName X.env x v] items.reverse;pure Flow.next) _ _ _
 refine cc (wpAny_rule (cc (unpackItems_tuple (items:=#[u1,u2]) (I.ok.hd hc) (IsTup.new s1.heap _) fun h' hx'=>?_)))
 have I3:=I2.kept (h':=h') (t':=s1.toks) fun b o e=>hx' b o (AJ (A8 e)) e
 show A9 _ _ (assignInOrder [fun v=>bindName X.env y v,fun v=>bindName X.env x v] [u2,u1] >>= fun _=>pure Flow.next) _ _ _
 refine cc (assignInOrder_cons (wpAny_bindName (fj I3 hN hj (.inl hy) rw' (fun s2 I4=>?_) (.inr hy))))
 refine assignInOrder_cons (wpAny_bindName (fj I4 hN hi (.inl hx) rv (fun s3 I5=>assignInOrder_nil (A5 ?_)) (.inr hx)))
 rw[List.set_comm _ _ (Ne.symm hij)]at I5
 exact⟨_,H1,I5,q1⟩
end
section
variable{X:Cx}{pos:Pos}
def vU(c:TT)(tb:TS):TS:=fun D σ H=>∃W:Nat->St->Hp->Prop,(∃m,W m σ H)/\∀m σ H,W m σ H->
 c σ H fun b H1=>if b=true then ∃N:St->Hp->Prop,(∀σ' H',N σ' H'->∃m',m'<m/\W m' σ' H')/\tb { D with nx:=N,ct:=N,bk:=D.nx } σ H1 else D.nx σ H1
theorem qL{c:Expr}{body:List Stmt}{tc:TT}{tb:TS}(hp:PassesOwn (Ay X.prog X.w) X.A X.env X.xe)(hc:PT X c tc)(hb:PSs X body tb):PS X (.While c body [] pos) (vU tc tb):=by
 intro pins s σ H D I h;obtain⟨W,⟨m0,w0⟩,turn⟩:=h;refine wpAny_While (codeAny_whileLoop (fun n s'=>∃σ' H',Inv X pins σ' H' s'/\W n σ' H') ?_ m0 ⟨σ,H,I,w0⟩);rintro n s1 ⟨σ1,H1,I1,w1⟩;refine Cb hp (thn (hc pins s1 σ1 H1 _ I1 (turn n σ1 H1 w1)) fun b s2 zz34_0=>?_);obtain⟨H2,I2,q2⟩:=zz34_0;cases b with
 |true=>
  obtain⟨N,hN,q2⟩:=q2
  rw[if_pos rfl]
  refine Cb hp (thn (hb pins s2 σ1 H2 _ I2 q2) fun f s3 q3=>?_)
  cases f with
  |next=>
   obtain⟨σ3,H3,I3,n3⟩:=q3
   obtain⟨m',hm,w3⟩:=hN σ3 H3 n3
   exact⟨m',hm,σ3,H3,I3,w3⟩
  |cont=>
   obtain⟨σ3,H3,I3,n3⟩:=q3
   obtain⟨m',hm,w3⟩:=hN σ3 H3 n3
   exact⟨m',hm,σ3,H3,I3,w3⟩
  |brk=>exact q3
  |ret v=>exact q3
 |false=>
  rw[if_neg AD]
  exact wpAny_execs_nil ⟨σ1,H2,I2,q2⟩
end
structure It where
 go:Nat->Hp->Prop
 yld:Nat->Hp->V->Hp->Prop
 stop:Nat->Hp->Prop
def ck(X:Cx)(pins:List (Addr×Obj))(H:Hp)(b:Addr):Prop:=
 H b=none/\b≠X.env.locals/\b∉X.fs/\(b∈X.ex\/X.s₀.heap.objs.size<=b)/\(∀x c,X.env.cells.lookup x=some c->c≠b)/\∀p∈X.pn++pins,p.1≠b
theorem Inv.oU{X:Cx}{pins:List (Addr×Obj)}{σ:St}{H H':Hp}{s:A2}{b:Addr}(I:Inv X pins σ H s)(hb:s.heap.objs.size<=b)(hn:H' b=none):ck X pins H' b:=by
 refine⟨hn,Nat.ne_of_gt (Aw I.lt hb),I.An hb,.inr (B8 I.sz hb),fun x c e z=>?_,fun p hp z=>?_⟩
 ·obtain⟨v,q⟩:=I.cell x c e;exact absurd (Aw q.lt (by rw[z];exact hb)) (Ck _)
 ·exact absurd (Aw (A8 (I.pin p hp).1) (by rw[z];exact hb)) (Ck _)
structure Turn(P:Au)(w:AU)(K:A0)(tg:Expr)(J:It)(fp:List Addr)(it:Addr)(tn:Nat->Heap->Prop):Prop where
 mem:it∈fp
 obj:∀i h,tn i h->∀b∈fp,∃o,h.get? b=some o/\∀v,o.data≠.cell v
 keep:∀i h h',tn i h->(∀b∈fp,∀o,h.get? b=some o->h'.get? b=some o)->tn i h'
 item:∀(X:Cx),X.prog=P->X.w=w->X.K=K->X.calm=true->∀(i:Nat) (pins:List (Addr×Obj)) (s:A2) (σ:St) (H:Hp) (E:A1->A2->Prop),Inv X pins σ H s->(∀b∈fp,ck X pins H b)->tn i s.heap->J.go i H->
  A9 (Ay P w) X.A (pyNext (.ref it)) (fun r s1=>∃u,r=some u/\
   A9 (Ay P w) X.A (letOwnedTupleGo tg (.ref it) u) (fun _ s2=>∃x H',Inv X pins σ H' s2/\RelV x u/\J.yld i H x H'/\tn (i+1) s2.heap/\∀b∈fp,H' b=none) E s1) E s
 done:∀(X:Cx),X.prog=P->X.w=w->X.K=K->X.calm=true->∀(i:Nat) (pins:List (Addr×Obj)) (s:A2) (σ:St) (H:Hp) (E:A1->A2->Prop),Inv X pins σ H s->(∀b∈fp,ck X pins H b)->tn i s.heap->J.stop i H->
  A9 (Ay P w) X.A (pyNext (.ref it)) (fun r s1=>r=none/\Inv X pins σ H s1) E s
 self:∀(A:AQ) (i:Nat) (s:A2) (Q:A1->A2->Prop) (E:A1->A2->Prop),tn i s.heap->Q (.ref it) s->A9 (Ay P w) A (pyIter (.ref it)) Q E s
abbrev TI:=St->Hp->(It->Hp->Prop)->Prop
def PIE(X:Cx)(pins:List (Addr×Obj))(σ:St)(tg:Expr)(R:It->Hp->Prop)(itv:A1)(s2:A2):Prop:=
 ∃(it:Addr) (fp:List Addr) (tn:Nat->Heap->Prop) (J:It) (H':Hp),itv=.ref it/\Inv X pins σ H' s2/\Turn X.prog X.w X.K tg J fp it tn/\tn 0 s2.heap/\(∀b∈fp,ck X pins H' b)/\R J H'
def PI(X:Cx)(tg iter:Expr)(wi:TI):Prop:=
 ∀(pins:List (Addr×Obj)) (s:A2) (σ:St) (H:Hp) (R:It->Hp->Prop),Inv X pins σ H s->wi σ H R->
  A9 (Ay X.prog X.w) X.A (eval iter X.env) (fun v s1=>A9 (Ay X.prog X.w) X.A (pyIter v) (PIE X pins σ tg R) X.xe s1) X.xe s
theorem p9{M:Model}{A:AQ}{E:A1->A2->Prop}{s:A2}{tg:Expr}{it:Addr}{u:A1}{o:Obj}{n:String}{vs:Array A1}{Q:Unit->A2->Prop}(ho:s.heap.get? it=some o)(hc:o.cls=.type n)(hd:o.data=.fields vs) (hn:["enumerate","zip","dict_itemiterator","dict_reverseitemiterator","odict_iterator","itertools.zip_longest","itertools.pairwise"].contains n=false) (hQ:Q () s):A9 M A (letOwnedTupleGo tg (.ref it) u) Q E s:=by
 unfold letOwnedTupleGo
 cases tg<;>first
  |exact A5 hQ
  |(cases u<;>first
   |exact A5 hQ
   |(refine cc (wpAny_load ho ?_)
     rw[hc,hd]
     show A9 M A (if(["enumerate","zip","dict_itemiterator","dict_reverseitemiterator","odict_iterator","itertools.zip_longest","itertools.pairwise"].contains n&&vs[0]?==some (rawInt _))=true then _ else _) Q E s
     rw[if_neg (by intro h;rw[hn,Bool.false_and]at h;cases h)]
     exact A5 hQ))
def Itl(K:A0)(a:Addr):It:=
 ⟨fun i H=>∃xs x,SqL K H a xs/\xs[i]?=some x,fun i H x H'=>H'=H/\∀xs,SqL K H a xs->xs[i]?=some x,fun i H=>∃xs,SqL K H a xs/\xs.length<=i⟩
def Itt(K:A0)(a:Addr):It:=
 ⟨fun i H=>∃xs x,SqT K H a xs/\xs[i]?=some x,fun i H x H'=>H'=H/\∀xs,SqT K H a xs->xs[i]?=some x,fun i H=>∃xs,SqT K H a xs/\xs.length<=i⟩
def Itr(lo:Int)(n:Nat):It:=⟨fun i _=>i<n,fun i H x H'=>H'=H/\x=.int (lo+i),fun i _=>n<=i⟩
theorem oz{P:Au}{w:AU}{K:A0}{tg:Expr}(a it:Addr):Turn P w K tg (Itl K a) [it] it (fun i h=>h.IsListIter it a i) where
 mem:=by simp
 obj:=fun i h st b hb=>by
  have e:b=it:=by simpa using hb
  subst e
  obtain⟨o,e,c,d⟩:=st
  exact⟨o,e,fun v z=>by rw[d]at z;cases z⟩
 keep:=fun i h h' st k=>st.at fun o e=>k it (by simp) o e
 item:=by
  intro X hP hw hK hc i pins s σ H E I hf st hg
  subst hP hw hK
  obtain⟨xs,x,hq,hx⟩:=hg
  obtain⟨its,rv,p,hz⟩:=I.list hq
  obtain⟨u,hu,ru⟩:=rv.get hx
  obtain⟨f0,f1,f2,f3,f4,f5⟩:=hf it (by simp)
  refine wpAny_pyNext_list_item st p.isList (x:=u) (by simpa using hu) fun h' st' sb=>?_
  have I1:Inv X pins σ H { s with heap:=h' }:=I.turned (t':=s.toks) (fun b o hb e=>(sb.2 b hb).trans e) f0 f1 f3 f4 f5
  obtain⟨o,e,c,d⟩:=id st'
  exact⟨u,rfl,p9 (s:={ s with heap:=h' }) e c d (by decide) ⟨x,H,I1,ru,⟨rfl,fun ys hy=>by rw[I.eW hy hq];exact hx⟩,st',fun b hb=>(hf b hb).1⟩⟩
 done:=by
  intro X hP hw hK hc i pins s σ H E I hf st hg
  subst hP hw hK
  obtain⟨xs,hq,hx⟩:=hg
  obtain⟨its,rv,p,hz⟩:=I.list hq
  obtain⟨f0,f1,f2,f3,f4,f5⟩:=hf it (by simp)
  have hl:=rv.length
  exact wpAny_pyNext_list_end (I.ok.hd hc) st p.isList (by simp;omega) fun h' eb=>⟨rfl,I.turned (t':=s.toks) (fun b o hb e=>eb b o hb e) f0 f1 f3 f4 f5⟩
 self:=fun _ _ _ _ _ st h=>wpAny_pyIter_listiter st h
theorem mr{P:Au}{w:AU}{K:A0}{tg:Expr}(a it:Addr):Turn P w K tg (Itt K a) [it] it (fun i h=>h.IsTupleIter it a i) where
 mem:=by simp
 obj:=fun i h st b hb=>by
  have e:b=it:=by simpa using hb
  subst e
  obtain⟨o,e,c,d⟩:=st
  exact⟨o,e,fun v z=>by rw[d]at z;cases z⟩
 keep:=fun i h h' st k=>st.at fun o e=>k it (by simp) o e
 item:=by
  intro X hP hw hK hc i pins s σ H E I hf st hg
  subst hP hw hK
  obtain⟨xs,x,hq,hx⟩:=hg
  obtain⟨its,rv,p,hz⟩:=I.tuple hq
  obtain⟨u,hu,ru⟩:=rv.get hx
  obtain⟨f0,f1,f2,f3,f4,f5⟩:=hf it (by simp)
  refine BU st (show s.heap.IsTuple a its.toArray from p) (x:=u) (by simpa using hu) fun h' st' sb=>?_
  have I1:Inv X pins σ H { s with heap:=h' }:=I.turned (t':=s.toks) (fun b o hb e=>(sb.2 b hb).trans e) f0 f1 f3 f4 f5
  obtain⟨o,e,c,d⟩:=id st'
  exact⟨u,rfl,p9 (s:={ s with heap:=h' }) e c d (by decide) ⟨x,H,I1,ru,⟨rfl,fun ys hy=>by rw[I.oX hy hq];exact hx⟩,st',fun b hb=>(hf b hb).1⟩⟩
 done:=by
  intro X hP hw hK hc i pins s σ H E I hf st hg
  subst hP hw hK
  obtain⟨xs,hq,hx⟩:=hg
  obtain⟨its,rv,p,hz⟩:=I.tuple hq
  obtain⟨f0,f1,f2,f3,f4,f5⟩:=hf it (by simp)
  have hl:=rv.length
  exact wpAny_pyNext_tuple_end (I.ok.hd hc) st (show s.heap.IsTuple a its.toArray from p) (by simp;omega) fun h' eb=>⟨rfl,I.turned (t':=s.toks) (fun b o hb e=>eb b o hb e) f0 f1 f3 f4 f5⟩
 self:=fun _ _ _ _ _ st h=>wpAny_pyIter_tupleiter st h
theorem lJ{P:Au}{w:AU}{K:A0}{tg:Expr}(it:Addr)(lo:Int)(n:Nat):Turn P w K tg (Itr lo n) [it] it (fun i h=>IsRangeIter h it (lo+(i:Nat)*1) ((n:Int)-(i:Nat)) 1) where
 mem:=by simp
 obj:=fun i h st b hb=>by
  have e:b=it:=by simpa using hb
  subst e
  exact⟨_,st,fun v z=>by
   have z':Data.fields _=Data.cell v:=z
   cases z'⟩
 keep:=fun i h h' st k=>k it (by simp) _ st
 item:=by
  intro X hP hw hK hc i pins s σ H E I hf st hg
  subst hP hw hK
  obtain⟨f0,f1,f2,f3,f4,f5⟩:=hf it (by simp)
  have W:=Walks.range (prog:=X.prog) (w:=X.w) (I.ok.hd hc) it lo 1 n
  refine W.item i s _ _ hg st fun v h' tk hv st' kk=>?_
  obtain⟨t,rfl⟩:=hv
  have I1:Inv X pins σ H { s with heap:=h',toks:=tk }:=I.turned (fun b o hb e=>kk b o (by simpa using hb) e) f0 f1 f3 f4 f5
  refine⟨_,rfl,p9 (s:={ s with heap:=h',toks:=tk }) (n:="range_iterator") st' rfl rfl (by decide) ⟨.int (lo+i),H,I1,⟨t,?_⟩,⟨rfl,rfl⟩,st',fun b hb=>(hf b hb).1⟩⟩
  rw[Int.mul_one]
 done:=by
  intro X hP hw hK hc i pins s σ H E I hf st hg
  subst hP hw hK
  obtain⟨f0,f1,f2,f3,f4,f5⟩:=hf it (by simp)
  exact wpAny_pyNext_range_end (I.ok.hd hc) st (by have:n<=i:=hg;omega) fun h' eb=>⟨rfl,I.turned (t':=s.toks) (fun b o hb e=>eb b o hb e) f0 f1 f3 f4 f5⟩
 self:=fun _ _ _ _ _ st h=>wpAny_pyIter_rangeiter st h
section
variable{X:Cx}{tg:Expr}
theorem qK{pins:List (Addr×Obj)}{σ:St}{H:Hp}{s:A2}{R:It->Hp->Prop}{E:A1->A2->Prop}{lo hi:Int}{t u v:Tok}{tk:Nat}(I:Inv X pins σ H s)(h1:-(2^62)<=lo)(h2:lo<2^62)(h3:-(2^62)<=hi)(h4:hi<2^62)
 (q:R (Itr lo (hi-lo).toNat) H):A9 (Ay X.prog X.w) X.A (pyIter (.ref s.heap.objs.size)) (PIE X pins σ tg R) E { s with heap:=s.heap.push { cls:=.type "range",data:=.fields #[.int lo t,.int hi u,.int 1 v] },toks:=tk }:=by
 refine wpAny_pyIter_range (IsRange.new ..) (small_one h1 h2 h3 h4) ?_
 have I1:Inv X pins σ H { s with heap:=s.heap.push { cls:=.type "range",data:=.fields #[.int lo t,.int hi u,.int 1 v] },toks:=tk }:=I.kept fun b o e=>A3 _ e
 refine⟨(s.heap.push { cls:=.type "range",data:=.fields #[.int lo t,.int hi u,.int 1 v] }).objs.size,[(s.heap.push { cls:=.type "range",data:=.fields #[.int lo t,.int hi u,.int 1 v] }).objs.size],_,_,H,rfl,
  I1.kept (t':=tk) fun b o e=>A3 _ e,lJ _ lo (hi-lo).toNat,?_,fun b hb=>?_,q⟩
 ·have e1:lo+((0:Nat):Int)*1=lo:=by simp
  have e2:(((hi-lo).toNat:Nat):Int)-((0:Nat):Int)=Builtin.Range.rangeSize lo hi 1:=by rw[rangeSize_one];split<;>omega
  show IsRangeIter _ _ (lo+((0:Nat):Int)*1) ((((hi-lo).toNat:Nat):Int)-((0:Nat):Int)) 1
  rw[e1,e2]
  exact Aq _ rfl
 ·have e:b=(s.heap.push { cls:=.type "range",data:=.fields #[.int lo t,.int hi u,.int 1 v] }).objs.size:=by simpa using hb
  subst e
  exact I1.oU (A7 _) (I1.hok.fresh (A7 _))
def yN(ta:TA):TI:=fun σ H R=>ta σ H fun vs H1=>∃j:Int,vs=[.int j]/\-(2^62)<=j/\j<2^62/\R (Itr 0 j.toNat) H1
theorem jl{a:Expr}{ta:TA}{p pos:Pos}(hg:Gl X "range")(hm:X.mg "range"=none)(ha:PA X [a] ta)(hs:AF [a] X.env=[(false,eval a X.env)]:=by rfl):PI X tg (.Call (.Name "range" p) [a] [] pos) (yN ta):=by
 intro pins s σ H R I h;refine Call_ (fN I hg hm boot_range (C1 (thn (ha pos pins s σ H _ I h) fun us s1 zz37_0=>?_) hs rfl));obtain⟨vs,H1,I1,r1,q1⟩:=zz37_0;obtain⟨j,e,q1,q2,q⟩:=q1;subst e;cases r1 with
 |cons r rr=>
  cases rr
  obtain⟨t,rfl⟩:=r
  exact call_range_1 (qK I1 (by omega) (by omega) q1 q2 (by simpa using q))
def zN(wi:TI)(g:TG)(tb:TS):TS:=fun D σ H=>wi σ H fun J H1=>∃W:Nat->Nat->St->Hp->Prop,(∃m,W 0 m σ H1)/\∀i m σ H,W i m σ H->
 (J.stop i H/\D.nx σ H)\/(J.go i H/\∃N:St->Hp->Prop,(∀σ' H',N σ' H'->∃m',m'<m/\W (i+1) m' σ' H')/\∀x H',J.yld i H x H'->g x σ H' fun σ2 H2=>tb { D with nx:=N,ct:=N,bk:=D.nx } σ2 H2)
def fK(fp:List Addr)(h:Heap):List (Addr×Obj):=fp.filterMap fun b=>(h.get? b).map fun o=>(b,o)
theorem bR{fp:List Addr}{h:Heap}{b:Addr}{o:Obj}(hb:b∈fp)(e:h.get? b=some o):(b,o)∈fK fp h:=List.mem_filterMap.mpr ⟨b,hb,by rw[e];rfl⟩
theorem pj{fp:List Addr}{h:Heap}{p:Addr×Obj}(hp:p∈fK fp h):p.1∈fp/\h.get? p.1=some p.2:=by
 obtain⟨b,hb,e⟩:=List.mem_filterMap.mp hp;cases q:h.get? b with
 |none=>rw[q]at e;cases e
 |some o=>
  rw[q]at e
  have e':(b,o)=p:=Option.some.inj e
  subst e'
  exact⟨hb,q⟩
theorem Inv.pinned{pins:List (Addr×Obj)}{σ:St}{H:Hp}{s:A2}{fp:List Addr}(I:Inv X pins σ H s)(hf:∀b∈fp,ck X pins H b)(ho:∀b∈fp,∃o,s.heap.get? b=some o/\∀v,o.data≠.cell v):Inv X (pins++fK fp s.heap) σ H s:=
 I.oh fun p hp=>(AH.mp hp).elim (fun z=>I.pin p (AO _ z)) fun z=>by
  obtain⟨hb,e⟩:=pj z
  obtain⟨f0,f1,f2,_⟩:=hf p.1 hb
  obtain⟨o,e',d⟩:=ho p.1 hb
  rw[e]at e';cases e'
  exact⟨e,f0,f1,f2,d⟩
theorem Inv.dF{pins pl:List (Addr×Obj)}{σ:St}{H:Hp}{s:A2}(I:Inv X (pins++pl) σ H s):Inv X pins σ H s:=I.oh fun p hp=>I.pin p (AO _ (List.mem_append_left _ hp))
theorem qf{iter:Expr}{body:List Stmt}{wi:TI}{g:TG}{tb:TS}{pos:Pos}(hp:PassesOwn (Ay X.prog X.w) X.A X.env X.xe)(hc:X.calm=true)(hi:PI X tg iter wi)(hg:PG X tg g)(hb:PSs X body tb)
 (hs:∀x,B5 iter X.env x=pure x:=by intro _;rfl):PS X (.For tg iter body [] pos) (zN wi g tb):=by
 intro pins s σ H D I h
 refine wpAny_For (thn (hi pins s σ H _ I h) fun v s1 h1=>thn h1 fun itv s2 h2=>?_) hs
 obtain⟨it,fp,tn,J,H2,e,I2,T,st2,f2,W,⟨m0,w0⟩,turn⟩:=h2
 subst e
 have stat:∀{H':Hp},(∀b∈fp,H' b=none)->∀b∈fp,ck X pins H' b:=fun hn b hb=>⟨hn b hb,(f2 b hb).2⟩
 refine codeAny_forLoop_any (fun n s'=>∃i σ' H',Inv X pins σ' H' s'/\tn i s'.heap/\(∀b∈fp,H' b=none)/\W i n σ' H') ?_ m0 ⟨0,σ,H2,I2,st2,fun b hb=>(f2 b hb).1,w0⟩
 rintro n s3 ⟨i,σ3,H3,I3,st3,fr3,w3⟩
 rcases turn i n σ3 H3 w3 with⟨stop,qn⟩|⟨go,N,hN,step⟩
 ·refine Cb hp (thn (T.done X rfl rfl rfl hc i pins s3 σ3 H3 X.xe I3 (stat fr3) st3 stop) fun r s4 zz38_0=>?_)
  obtain⟨hr,I4⟩:=zz38_0
  subst hr
  exact wpAny_execs_nil ⟨σ3,H3,I4,qn⟩
 ·refine Cb hp (thn (T.item X rfl rfl rfl hc i pins s3 σ3 H3 X.xe I3 (stat fr3) st3 go) fun r s4 zz39_0=>?_)
  obtain⟨u,hr,h4⟩:=zz39_0
  subst hr
  refine Cb hp (thn h4 fun _ s5 zz40_0=>?_)
  obtain⟨x,H5,I5,r5,y5,st5,fr5⟩:=zz40_0
  have I5':=I5.pinned (stat fr5) (T.obj _ _ st5)
  refine Cb hp (thn (hg _ s5 σ3 H5 x u _ I5' r5 (step x H5 y5)) fun _ s6 zz41_0=>?_)
  obtain⟨σ6,H6,I6,q6⟩:=zz41_0
  refine Cb hp (thn (hb _ s6 σ6 H6 _ I6 q6) fun f s7 q7=>?_)
  have again:∀{σ7:St} {H7:Hp},Inv X (pins++fK fp s5.heap) σ7 H7 s7->N σ7 H7->∃m,m<n/\∃i σ' H',Inv X pins σ' H' s7/\tn i s7.heap/\(∀b∈fp,H' b=none)/\W i m σ' H':=fun{σ7 H7} I7 n7=>by
   obtain⟨m',hm,w7⟩:=hN σ7 H7 n7
   refine⟨m',hm,i+1,σ7,H7,I7.dF,T.keep _ _ _ st5 fun b hb o e=>(I7.pin (b,o) (AO _ (AO _ (bR hb e)))).1,fun b hb=>?_,w7⟩
   obtain⟨o,e,d⟩:=T.obj _ _ st5 b hb
   exact(I7.pin (b,o) (AO _ (AO _ (bR hb e)))).2.1
  cases f with
  |next=>obtain⟨σ7,H7,I7,n7⟩:=q7;exact again I7 n7
  |cont=>obtain⟨σ7,H7,I7,n7⟩:=q7;exact again I7 n7
  |brk=>obtain⟨σ7,H7,I7,q7⟩:=q7;exact⟨σ7,H7,I7.dF,q7⟩
  |ret v=>obtain⟨x7,σ7,H7,I7,r7,q7⟩:=q7;exact⟨x7,σ7,H7,I7.dF,r7,q7⟩
end
theorem pq{lo:Int}{n:Nat}{g:TG}{tb:TS}{D:Ends}{σ:St}{H:Hp}(Pv:Nat->St->Hp->Prop)(h0:Pv 0 σ H)
 (hs:∀i σ H,i<n->Pv i σ H->g (.int (lo+i)) σ H fun σ2 H2=>tb { D with nx:=Pv (i+1),ct:=Pv (i+1),bk:=D.nx } σ2 H2) (hd:∀σ H,Pv n σ H->D.nx σ H) :
 ∃W:Nat->Nat->St->Hp->Prop,(∃m,W 0 m σ H)/\∀i m σ H,W i m σ H->
  ((Itr lo n).stop i H/\D.nx σ H)\/((Itr lo n).go i H/\∃N:St->Hp->Prop,(∀σ' H',N σ' H'->∃m',m'<m/\W (i+1) m' σ' H')/\∀x H',(Itr lo n).yld i H x H'->g x σ H' fun σ2 H2=>tb { D with nx:=N,ct:=N,bk:=D.nx } σ2 H2):=by
 refine⟨fun i m σ H=>m=n-i/\i<=n/\Pv i σ H,⟨n,by simp,B2 _,h0⟩,?_⟩
 rintro i m σ H ⟨rfl,hi,p⟩
 by_cases hlt:i<n
 ·refine .inr ⟨hlt,Pv (i+1),fun σ' H' p'=>⟨n-(i+1),by omega,rfl,hlt,p'⟩,fun x H' y=>?_⟩
  obtain⟨e,y⟩:=y
  subst e y
  exact hs i σ _ hlt p
 ·have e:i=n:=by omega
  subst e
  exact .inl ⟨A7 _,hd σ H p⟩
abbrev R2:=V->V->Hp->VK->Prop
def OpR(X:Cx)(f:A1->A1->Sem A1)(r:R2):Prop:=
 ∀(pins:List (Addr×Obj)) (s:A2) (σ:St) (H:Hp) (x y:V) (v u:A1) (Q:VK),Inv X pins σ H s->RelV x v->RelV y u->r x y H Q->
  A9 (Ay X.prog X.w) X.A (f v u) (EP X pins σ Q) X.xe s
def UnR(X:Cx)(f:A1->Sem A1)(r:V->Hp->VK->Prop):Prop:=
 ∀(pins:List (Addr×Obj)) (s:A2) (σ:St) (H:Hp) (x:V) (v:A1) (Q:VK),Inv X pins σ H s->RelV x v->r x H Q->
  A9 (Ay X.prog X.w) X.A (f v) (EP X pins σ Q) X.xe s
def br(X:Cx)(f:A1)(r:List V->Hp->VK->Prop):Prop:=
 ∀(pins:List (Addr×Obj)) (s:A2) (σ:St) (H:Hp) (xs:List V) (us:List A1) (Q:VK),Inv X pins σ H s->Vals xs us->r xs H Q->
  A9 (Ay X.prog X.w) X.A (call f us) (EP X pins σ Q) X.xe s
def tOp(r:R2)(ta tb:TE):TE:=fun σ H Q=>ta σ H fun x H1=>tb σ H1 fun y H2=>r x y H2 Q
def tUn(r:V->Hp->VK->Prop)(ta:TE):TE:=fun σ H Q=>ta σ H fun x H1=>r x H1 Q
def rI(C:Int->Int->Prop)(g:Int->Int->V):R2:=fun x y H Q=>∃i j,x=.int i/\y=.int j/\C i j/\Q (g i j) H
def rI0(g:Int->Int->V):R2:=fun x y H Q=>∃i j,x=.int i/\y=.int j/\Q (g i j) H
def rU(g:Int->V):V->Hp->VK->Prop:=fun x H Q=>∃i,x=.int i/\Q (g i) H
section
variable{X:Cx}{a b c:Expr}{ta tb tc:TE}{pos:Pos}
theorem wu(ha:PE X a ta)(hb:PE X b tb){pins:List (Addr×Obj)}{s:A2}{σ:St}{H:Hp}{R:V->V->Hp->Prop}(I:Inv X pins σ H s) (h:ta σ H fun x H1=>tb σ H1 fun y H2=>R x y H2) {Q:A1->A2->Prop} {f:A1->A1->Sem A1} (hf:∀v u s2 x y H2,Inv X pins σ H2 s2->RelV x v->RelV y u->R x y H2->A9 (Ay X.prog X.w) X.A (f v u) Q X.xe s2) : A9 (Ay X.prog X.w) X.A (eval a X.env) (fun v s₁=>A9 (Ay X.prog X.w) X.A (eval b X.env) (fun u s₂=>A9 (Ay X.prog X.w) X.A (f v u) Q X.xe s₂) X.xe s₁) X.xe s:=by refine thn (ha pins s σ H _ I h) fun v s1 zz43_0=>?_;obtain⟨x,H1,I1,r1,q1⟩:=zz43_0;refine thn (hb pins s1 σ H1 _ I1 q1) fun u s2 zz44_0=>?_;obtain⟨y,H2,I2,r2,q2⟩:=zz44_0;exact hf v u s2 x y H2 I2 r1 r2 q2
theorem yD{op:Operator}{r:R2}(ho:OpR X (Cg op) r)(ha:PE X a ta)(hb:PE X b tb):PE X (.BinOp a op b pos) (tOp r ta tb):=by intro pins s σ H Q I h;exact wpAny_BinOp (wu ha hb I h fun v u s2 x y H2 I2 rx ry q=>ho pins s2 σ H2 x y v u Q I2 rx ry q)
theorem yg{op:UnaryOp}{r:V->Hp->VK->Prop}(ho:UnR X (unaryOp op) r)(ha:PE X a ta):PE X (.UnaryOp op a pos) (tUn r ta):=by intro pins s σ H Q I h;exact UnaryOp_ (thn (ha pins s σ H _ I h) fun v s1 zz45_0=>by obtain⟨x,H1,I1,r1,q1⟩:=zz45_0;exact(ho pins s1 σ H1 x v Q I1 r1 q1))
theorem opI{f:A1->A1->Sem A1}{C:Int->Int->Prop}{g:Int->Int->Int} (rule:∀(i j:Int) (t u:Tok) (s:A2) (Q:A1->A2->Prop) (E:A1->A2->Prop),C i j->Q (.int (g i j) s.toks) { s with toks:=s.toks+1 }->A9 (Ay X.prog X.w) X.A (f (.int i t) (.int j u)) Q E s) : OpR X f (rI C fun i j=>.int (g i j)):=by intro pins s σ H x y v u Q I rx ry h;obtain⟨i,j,rfl,rfl,hc,q⟩:=h;obtain⟨t,rfl⟩:=rx;obtain⟨t',rfl⟩:=ry;exact rule i j t t' s _ _ hc ⟨.int (g i j),H,I.tok _,⟨_,rfl⟩,q⟩
theorem zh{f:A1->A1->Sem A1}{g:Int->Int->Int} (rule:∀(i j:Int) (t u:Tok) (s:A2) (Q:A1->A2->Prop) (E:A1->A2->Prop),Q (.int (g i j) s.toks) { s with toks:=s.toks+1 }->A9 (Ay X.prog X.w) X.A (f (.int i t) (.int j u)) Q E s) : OpR X f (rI0 fun i j=>.int (g i j)):=by intro pins s σ H x y v u Q I rx ry h;obtain⟨i,j,rfl,rfl,q⟩:=h;obtain⟨t,rfl⟩:=rx;obtain⟨t',rfl⟩:=ry;exact rule i j t t' s _ _ ⟨.int (g i j),H,I.tok _,⟨_,rfl⟩,q⟩
theorem vT{f:A1->A1->Sem A1}{g:Int->Int->Bool} (rule:∀(i j:Int) (t u:Tok) (s:A2) (Q:A1->A2->Prop) (E:A1->A2->Prop),Q (.bool (g i j)) s->A9 (Ay X.prog X.w) X.A (f (.int i t) (.int j u)) Q E s) : OpR X f (rI0 fun i j=>.bl (g i j)):=by intro pins s σ H x y v u Q I rx ry h;obtain⟨i,j,rfl,rfl,q⟩:=h;obtain⟨t,rfl⟩:=rx;obtain⟨t',rfl⟩:=ry;exact rule i j t t' s _ _ ⟨.bl (g i j),H,I,rfl,q⟩
def yr(i j:Int):Prop:=0<=j/\j<=1000000/\i.natAbs<2^64
theorem xI:OpR X (Cg .Add) (rI0 fun i j=>.int (i+j)):=zh fun _ _ _ _ _ _ _ q=>add_int q
theorem xJ:OpR X (Cg .Sub) (rI0 fun i j=>.int (i-j)):=zh fun _ _ _ _ _ _ _ q=>sub_int q
theorem uh:OpR X (Cg .Mod) (rI (fun _ j=>j≠0) fun i j=>.int (i.fmod j)):=opI fun _ _ _ _ _ _ _ hc q=>mod_int' hc q
theorem xO:OpR X (Cg .Pow) (rI yr fun i j=>.int (i^j.toNat)):=opI fun _ _ _ _ _ _ _ hc q=>pow_int_small hc.1 hc.2.1 hc.2.2 q
theorem unI{f:A1->Sem A1}{g:Int->Int} (rule:∀(i:Int) (t:Tok) (s:A2) (Q:A1->A2->Prop) (E:A1->A2->Prop),Q (.int (g i) s.toks) { s with toks:=s.toks+1 }->A9 (Ay X.prog X.w) X.A (f (.int i t)) Q E s) : UnR X f (rU fun i=>.int (g i)):=by intro pins s σ H x v Q I rx h;obtain⟨i,rfl,q⟩:=h;obtain⟨t,rfl⟩:=rx;exact rule i t s _ _ ⟨.int (g i),H,I.tok _,⟨_,rfl⟩,q⟩
theorem wG:UnR X (unaryOp .USub) (rU fun i=>.int (-i)):=unI fun _ _ _ _ _ q=>neg_int q
end
section
variable{X:Cx}{a b c:Expr}{ta tb tc:TE}{pos:Pos}
theorem yZ:OpR X (AX .Lt) (rI0 fun i j=>.bl (decide (i<j))):=vT fun _ _ _ _ _ _ _ q=>lt_int q
theorem zi:OpR X (AX .Gt) (rI0 fun i j=>.bl (decide (j<i))):=vT fun _ _ _ _ _ _ _ q=>gt_int q
theorem zd:OpR X (AX .GtE) (rI0 fun i j=>.bl (decide (j<=i))):=vT fun _ _ _ _ _ _ _ q=>ge_int q
theorem OpR.or{f:A1->A1->Sem A1}{r r':R2}(h:OpR X f r)(h':OpR X f r'):OpR X f (fun x y H Q=>r x y H Q\/r' x y H Q):=by
 intro pins s σ H x y v u Q I rx ry q;rcases q with q|q
 ·exact h pins s σ H x y v u Q I rx ry q
 ·exact h' pins s σ H x y v u Q I rx ry q
theorem qo(b:Expr){op:CmpOp}(h:op≠.In:=by decide)(h2:op≠.NotIn:=by decide):behindInMarks op b=false:=by
 have e1:(op==CmpOp.In)=false:=by cases op<;>first|rfl|exact absurd rfl h
 have e2:(op==CmpOp.NotIn)=false:=by cases op<;>first|rfl|exact absurd rfl h2
 cases b<;>simp[behindInMarks,e1,e2]
theorem sH{op:CmpOp}{r:R2}(ho:OpR X (AX op) r)(ha:PE X a ta)(hb:PE X b tb)(hm:behindInMarks op b=false):PE X (.Compare a [op] [b] pos) (tOp r ta tb):=by intro pins s σ H Q I h;exact wpAny_Compare1 (wu ha hb I h fun v u s2 x y H2 I2 rx ry q=>ho pins s2 σ H2 x y v u Q I2 rx ry q) hm
def vf(t:TE):TT:=fun σ H Q=>t σ H fun x H'=>∃k,x=.bl k/\Q k H'
theorem t9{op:CmpOp}{r:R2}(ho:OpR X (AX op) r)(ha:PE X a ta)(hb:PE X b tb)(hm:behindInMarks op b=false):PT X (.Compare a [op] [b] pos) (vf (tOp r ta tb)):=by intro pins s σ H Q I h;refine wpAny_isTrue_Compare1 (thn (ha pins s σ H _ I h) fun v s1 ⟨x,H1,I1,r1,q1⟩=>thn (hb pins s1 σ H1 _ I1 q1) fun u s2 ⟨y,H2,I2,r2,q2⟩=>thn (ho pins s2 σ H2 x y v u _ I2 r1 r2 q2) fun c s3 ⟨z,H3,I3,r3,k,e,q3⟩=>?_) hm;subst e;cases r3;exact Cf ⟨H3,I3,q3⟩
theorem ib:(AI:Nat)<2^63:=by rw[C4];decide
theorem vals1{x:V}{us:List A1}(r:Vals [x] us):∃u,us=[u]/\RelV x u:=by
 cases r with
 |cons r1 r2=>cases r2;exact⟨_,rfl,r1⟩
theorem vals2{x y:V}{us:List A1}(r:Vals [x,y] us):∃u w',us=[u,w']/\RelV x u/\RelV y w':=by
 cases r with
 |cons r1 r2=>
  cases r2 with
  |cons r3 r4=>cases r4;exact⟨_,_,rfl,r1,r3⟩
theorem rq:br X (.builtin "abs") (fun xs H Q=>∃i,xs=[.int i]/\Q (.int (if i<0 then -i else i)) H):=by intro pins s σ H xs us Q I r h;obtain⟨i,rfl,q⟩:=h;obtain⟨u,rfl,t,rfl⟩:=vals1 r;exact call_abs_int fun u tk=>⟨.int (if i<0 then -i else i),H,I.tok _,⟨_,rfl⟩,q⟩
theorem oW(hc:X.calm=true):br X (.builtin "max") (fun xs H Q=>∃i j,xs=[.int i,.int j]/\Q (.int (if j>i then j else i)) H):=by
 intro pins s σ H xs us Q I r h;obtain⟨i,j,rfl,q⟩:=h;obtain⟨u,w',rfl,⟨t,rfl⟩,⟨t',rfl⟩⟩:=vals2 r;refine max_two_ints (I.ok.hd hc) fun h' tk k=>⟨_,H,I.kept k,?_,q⟩;by_cases hj:j>i
 ·rw[if_pos hj,if_pos hj];exact⟨_,rfl⟩
 ·rw[if_neg hj,if_neg hj];exact⟨_,rfl⟩
theorem oI(hc:X.calm=true):br X (.builtin "min") (fun xs H Q=>∃i j,xs=[.int i,.int j]/\Q (.int (if j<i then j else i)) H):=by
 intro pins s σ H xs us Q I r h;obtain⟨i,j,rfl,q⟩:=h;obtain⟨u,w',rfl,⟨t,rfl⟩,⟨t',rfl⟩⟩:=vals2 r;refine min_two_ints (I.ok.hd hc) fun h' tk k=>⟨_,H,I.kept k,?_,q⟩;by_cases hj:j<i
 ·rw[if_pos hj,if_pos hj];exact⟨_,rfl⟩
 ·rw[if_neg hj,if_neg hj];exact⟨_,rfl⟩
theorem pB:br X (.type "int") (fun xs H Q=>(∃i,xs=[.int i]/\Q (.int i) H)\/∃k,xs=[.bl k]/\Q (.int (if k then 1 else 0)) H):=by
 intro pins s σ H xs us Q I r h;rcases h with⟨i,rfl,q⟩|⟨k,rfl,q⟩
 ·obtain⟨u,rfl,t,rfl⟩:=vals1 r;exact call_int_int ⟨.int i,H,I,⟨_,rfl⟩,q⟩
 ·obtain⟨u,rfl,r1⟩:=vals1 r;cases r1;exact call_int_bool ⟨.int (if k then 1 else 0),H,I.tok _,⟨_,rfl⟩,q⟩
end
structure Room(k:Nat)(A:AQ):Prop where
 hd:A.handled=none
 dp:A.depth+3*k+5<recursionLimit
 un:A.units+16*k+200<Bp
theorem Room.mono{j k:Nat}{A:AQ}(r:Room k A)(h:j<=k):Room j A:=⟨r.hd,by have:=r.dp;omega,by have:=r.un;omega⟩
theorem Room.deeper{k:Nat}{A:AQ}(r:Room (k+1) A)(env:Env):Room k (A.deeper env):=⟨r.hd,by have:=r.dp;show A.depth+1+3*k+5<_;omega,by have:=r.un;show A.units+3+16*k+200<_;omega⟩
theorem Room.in1{k:Nat}{A:AQ}(r:Room (k+1) A):Room k A.in1:=⟨r.hd,by have:=r.dp;show A.depth+3*k+5<_;omega,by have:=r.un;show A.units+1+16*k+200<_;omega⟩
theorem Room.depth{k:Nat}{A:AQ}(r:Room k A):A.depth<recursionLimit:=by have:=r.dp;omega
theorem Room.units{k:Nat}{A:AQ}(r:Room k A):A.units+64<Bp:=by have:=r.un;omega
def z8:TA:=fun _ H Q=>Q [] H
def zp(ta:TE)(tr:TA):TA:=fun σ H Q=>ta σ H fun x H1=>tr σ H1 fun xs H2=>Q (x::xs) H2
section
variable{X:Cx}{e:Expr}{es:List Expr}{te:TE}{t:TA}{pos:Pos}
theorem xb:PA X [] z8:=fun _ _ _ _ H Q I h=>Calls.spliced_nil ⟨[],H,I,.nil,h⟩
theorem sO(ha:PE X e te)(hr:PA X es t)(hs:AF (e::es) X.env=(false,eval e X.env)::AF es X.env:=by rfl):PA X (e::es) (zp te t):=by intro pos pins s σ H Q I h;rw[hs];show A9 _ _ (spliced ((false,eval e X.env)::Cy pos (AF es X.env))) _ _ s;refine Calls.spliced_cons (thn (ha pins s σ H _ I h) fun u s1 zz55_0=>?_);obtain⟨x,H1,I1,r1,q1⟩:=zz55_0;exact thn (hr pos pins s1 σ H1 _ I1 q1) fun us s2 zz56_0=>by obtain⟨xs,H2,I2,r2,q2⟩:=zz56_0;exact(⟨x::xs,H2,I2,.cons r1 r2,q2⟩)
def Ae(t:TA):TE:=fun σ H Q=>t σ H fun xs H1=>xs.length<=AI/\∀p,H1 p=none->Q (.ref p) (upd H1 p (.tup xs))
def z4(t:TA):TE:=fun σ H Q=>t σ H fun xs H1=>xs.length<=AI/\∀p,H1 p=none->Q (.ref p) (upd H1 p (.lst xs))
theorem wm{x1}(h:PA X es t):PE X (.Tuple es x1 pos) (Ae t):=by intro pins s σ H Q I hq;refine wpAny_Tuple_spliced (thn (h pos pins s σ H _ I hq) fun us s1 ⟨xs,H1,I1,r,z,q⟩=>⟨by rw[<-r.length];exact z,?_⟩);have hf:H1 s1.heap.objs.size=none:=I1.hok.fresh (A7 _);refine⟨.ref s1.heap.objs.size,upd H1 s1.heap.objs.size (.tup xs),I1.laid (t':=s1.toks) (fun b u e=>A3 _ e) (A7 _) ?_,rfl,q _ hf⟩;exact⟨z,us,r,⟨_,Aq _ rfl,rfl,_,rfl⟩⟩
theorem vY(h:PA X es t):PE X (.List es pos) (z4 t):=by intro pins s σ H Q I hq;refine wpAny_List_spliced (thn (h pos pins s σ H _ I hq) fun us s1 ⟨xs,H1,I1,r,z,q⟩=>⟨by rw[<-r.length];exact z,?_⟩);have hf:H1 s1.heap.objs.size=none:=I1.hok.fresh (A7 _);refine⟨.ref s1.heap.objs.size,upd H1 s1.heap.objs.size (.lst xs),I1.laid (t':=s1.toks) (fun b u e=>A3 _ e) (A7 _) ?_,rfl,q _ hf⟩;exact⟨z,us,0,r,Aq _ rfl⟩
end
abbrev Sp:=List V->Hp->VK->XK->Prop
abbrev CXT:=List Env->Hp->A2->XK->A1->A2->Prop
structure Env0(P:Au)(w:AU)(K:A0)(mg:Str->Option A1)(base:Heap)(A:AQ)(outer:List Env)(s:A2)(H:Hp):Prop where
 frames:A.frames=some outer
 mod:Mod K mg base
 bs:∀b o,base.get? b=some o->s.heap.get? b=some o/\H b=none
 bsz:base.objs.size<=s.heap.objs.size
 dZ:s.heap.FunFrames base outer
 frf:∀b∈frs outer,H b=none
 hok:HOk P w H s.heap
 bare:AllBare s.gens
def CE(outer:List Env)(P:Au)(w:AU)(H:Hp)(s:A2)(Q:VK)(u:A1)(s':A2):Prop:=
 ∃v H',s'.os=s.os/\AllBare s'.gens/\Un (frs outer) [] H H' s.heap s'.heap/\HOk P w H' s'.heap/\RelV v u/\Q v H'
def CR(CX:CXT)(outer:List Env)(P:Au)(w:AU)(H:Hp)(s:A2)(Q:VK)(E:XK)(r:Result)(s':A2):Prop:=
 match r with
 |.ok (.ret u)=>CE outer P w H s Q u s'
 |.ok _=>False
 |.error e=>CX outer H s E e s'
structure FnOk(P:Au)(w:AU)(K:A0)(mg:Str->Option A1)(base:Heap)(CX:CXT)(k:Nat)(f:Addr)(fd:FuncData)(ps:List Str)(sp:Sp):Prop where
 len:∀vs H Q E,sp vs H Q E->vs.length=ps.length
 run:∀(A:AQ) (outer:List Env) (s:A2) (H:Hp) (args:Args) (us:List A1) (vs:List V) (Q:VK) (E:XK),Room k A->Env0 P w K mg base A outer s H->BindsTo s fd args (ps.zip us)->Vals vs us->sp vs H Q E->
  codeAny (Ay P w) A (.call (.ref f) args) (CR CX outer P w H s Q E) s
theorem FnOk.mono{P:Au}{w:AU}{K:A0}{mg:Str->Option A1}{base:Heap}{CX:CXT}{j k:Nat}{f:Addr}{fd:FuncData}{ps:List Str}{sp:Sp}(F:FnOk P w K mg base CX j f fd ps sp)(h:j<=k) : FnOk P w K mg base CX k f fd ps sp:=⟨F.len,fun A outer s H args us vs Q E hr=>F.run A outer s H args us vs Q E (hr.mono h)⟩
section
variable{X:Cx}{pins:List (Addr×Obj)}{σ:St}{H:Hp}{s s':A2}
theorem Inv.zx(I:Inv X pins σ H s):Env0 X.prog X.w X.K X.mg X.base X.A X.stack s H:=⟨I.ok.frames,I.ok.mod,I.bs,B8 I.ok.bsz I.sz,I.stack,I.nW,I.hok,I.bare⟩
theorem Inv.after{Q:VK}{u:A1}(I:Inv X pins σ H s)(h:CE X.stack X.prog X.w H s Q u s'):EP X pins σ Q u s':=by obtain⟨v,H',os,bare,un,hok,r,q⟩:=h;obtain⟨hh,g,d,t,os'⟩:=s';obtain rfl:os'=s.os:=os;exact⟨v,H',I.call (h':=hh) (g':=g) (d':=d) (t':=t) (ch:=[]) un hok bare (fun b z=>absurd z (by simp)),r,q⟩
end
def yo(sp:Sp)(dvs:List V)(E:XK)(t:TA):TE:=fun σ H Q=>t σ H fun vs H1=>sp (vs++dvs) H1 Q E
def Binds(K:A0)(fd:FuncData)(ps:List Str)(ds:List A1):Prop:=
 ∀(s:A2) (us:List A1),K.In s.heap->(us++ds).length=ps.length->BindsTo s fd ⟨us,[]⟩ (ps.zip (us++ds))
theorem Binds.all{K:A0}{fd:FuncData}{ps:List Str}(h:∀us:List A1,us.length=ps.length->bindArgs fd ⟨us,[]⟩=pure (ps.zip us)):Binds K fd ps []:=fun s us _ hl=>by rw[List.append_nil]at hl ⊢;exact .of_eq (h us hl)
def Passes(CX:CXT)(X:Cx)(E:XK):Prop:=∀(pins:List (Addr×Obj)) (σ:St) (H:Hp) (s:A2) (e:A1) (s':A2),Inv X pins σ H s->CX X.stack H s E e s'->X.xe e s'
section
variable{X:Cx}{CX:CXT}{k:Nat}{f C:Addr}{fd:FuncData}{ps:List Str}{sp:Sp}{dvs:List V}{ds:List A1}{E:XK}{x m:Str}{p pos apos:Pos}{e o:Expr}{es:List Expr}{ta:TE}{t:TA}
theorem wD{pins:List (Addr×Obj)}{σ:St}{H:Hp}{s:A2}{Q:VK}{us:List A1}{vs:List V}(F:FnOk X.prog X.w X.K X.mg X.base CX k f fd ps sp)(hr:Room k X.A)(hb:Binds X.K fd ps ds)(hd:Vals dvs ds)(hx:Passes CX X E)
 (I:Inv X pins σ H s) (r:Vals vs us) (h:sp (vs++dvs) H Q E):A9 (Ay X.prog X.w) X.A (call (.ref f) us) (EP X pins σ Q) X.xe s:=by
 have r2:Vals (vs++dvs) (us++ds):=r.append hd
 have hl:(us++ds).length=ps.length:=by rw[<-r2.length];exact F.len _ _ _ _ h
 refine wpAny_call (codeAny_mono (F.run X.A X.stack s H ⟨us,[]⟩ (us++ds) (vs++dvs) Q E hr I.zx (hb s us I.kIn hl) r2 h) fun r s' hq=>?_)
 cases r with
 |error e=>exact hx pins σ H s e s' I hq
 |ok fl=>
  cases fl with
  |ret u=>exact I.after hq
  |next=>exact BB hq
  |brk=>exact BB hq
  |cont=>exact BB hq
theorem uA(F:FnOk X.prog X.w X.K X.mg X.base CX k f fd ps sp)(hr:Room k X.A)(hg:Gl X x)(hm:X.mg x=some (.ref f))(hk:Cq X.K (.ref f)=true)(hb:Binds X.K fd ps ds)(hd:Vals dvs ds)(hx:Passes CX X E) (ha:PA X (e::es) t) (hdb:(x==("__debug__":Str))=false:=by decide) (he:AF (e::es) X.env=(false,eval e X.env)::AF es X.env:=by rfl) (hpl:(Cy pos (AF es X.env)).any (·.1)=false:=by rfl) : PE X (.Call (.Name x p) (e::es) [] pos) (yo sp dvs E t):=by intro pins s σ H Q I h;refine wpAny_Call_Name_kw (m7 I hg hm ?_ hdb);refine PySem.W.callWith_K (h₀:=X.base) I.ok.mod.kin hk (thn (ha pos pins s σ H _ I h) fun us s1 ⟨vs,H1,I1,r,q⟩=>⟨I1.kIn,?_⟩) he hpl;exact wD F hr hb hd hx I1 r q
end
structure FnScope(N P:List Str)(sc:BY):Prop where
 kind:sc.kind=.function
 co:sc.isCoroutine=false
 gen:sc.isGenerator=false
 nd:N.Nodup
 pre:N.take P.length=P
 par:∀x∈P,sc.names.lookup x=some .local\/sc.names.lookup x=some .cell
 nofree:∀y∈sc.names,y.2≠.free
theorem jm{kindOf:Str->Option BN}{x:Str}:∀{binds:List (Str×A1)} {m:Str->Option A1},(∀v,(x,v)∉binds)->bindL kindOf binds m x=m x
 |[],_,_=>rfl
 |(n,v)::r,m,h=>by
  unfold bindL
  rw[jm fun w hw=>h w (AV _ hw)]
  split
  ·have:x≠n:=by rintro rfl;exact h v AW
   simp[this]
  ·rfl
theorem iP{kindOf:Str->Option BN}{x:Str}:∀{binds:List (Str×A1)} {m:Str->Option A1},(∀v,(x,v)∉binds)->bindC kindOf binds m x=m x
 |[],_,_=>rfl
 |(n,v)::r,m,h=>by
  unfold bindC
  rw[iP fun w hw=>h w (AV _ hw)]
  split
  ·rfl
  ·have:x≠n:=by rintro rfl;exact h v AW
   simp[this]
theorem iU{kindOf:Str->Option BN}{x:Str}{v:A1}:∀{P:List Str} {vs:List A1} {i:Nat} {m:Str->Option A1},P.Nodup->P[i]?=some x->vs[i]?=some v->kindOf x=some .local->
 bindL kindOf (P.zip vs) m x=some v
 |[],_,_,_,_,h,_,_=>by simp at h
 |_::_,[],_,_,_,_,h,_=>by simp at h
 |p::P,w::vs,0,m,nd,h1,h2,hk=>by
  simp at h1 h2;subst h1;subst h2
  show bindL kindOf ((p,w)::P.zip vs) m p=_
  unfold bindL
  rw[jm fun v hv=>(List.nodup_cons.mp nd).1 (List.of_mem_zip hv).1,if_pos hk]
  simp
 |p::P,w::vs,i+1,m,nd,h1,h2,hk=>by
  show bindL kindOf ((p,w)::P.zip vs) m x=_
  unfold bindL
  exact iU (i:=i) (List.nodup_cons.mp nd).2 (by simpa using h1) (by simpa using h2) hk
theorem jr{kindOf:Str->Option BN}{x:Str}{v:A1}:∀{P:List Str} {vs:List A1} {i:Nat} {m:Str->Option A1},P.Nodup->P[i]?=some x->vs[i]?=some v->kindOf x≠some .local->
 bindC kindOf (P.zip vs) m x=some v
 |[],_,_,_,_,h,_,_=>by simp at h
 |_::_,[],_,_,_,_,h,_=>by simp at h
 |p::P,w::vs,0,m,nd,h1,h2,hk=>by
  simp at h1 h2;subst h1;subst h2
  show bindC kindOf ((p,w)::P.zip vs) m p=_
  unfold bindC
  rw[iP fun v hv=>(List.nodup_cons.mp nd).1 (List.of_mem_zip hv).1,if_neg hk]
  simp
 |p::P,w::vs,i+1,m,nd,h1,h2,hk=>by
  show bindC kindOf ((p,w)::P.zip vs) m x=_
  unfold bindC
  exact jr (i:=i) (List.nodup_cons.mp nd).2 (by simpa using h1) (by simpa using h2) hk
def start(N:List Str)(vs:List V):St:=vs.map some++List.replicate (N.length-vs.length) none
def fy(CX:CXT)(P:Au)(w:AU)(K:A0)(mg:Str->Option A1)(base:Heap)(N:List Str)(qual:Str)(scope:BY)(f:Addr)(cd:A1)(A:AQ)(outer:List Env)(s:A2)(H:Hp)(E:XK):Cx where
 prog:=P
 w:=w
 K:=K
 mg:=mg
 base:=base
 A:=A.deeper (envOfC qual scope s.heap.objs.size f cd)
 N:=N
 s₀:=s
 H₀:=H
 env:=envOfC qual scope s.heap.objs.size f cd
 outer:=outer
 stack:=envOfC qual scope s.heap.objs.size f cd::outer
 ex:=[]
 calm:=true
 fn:=fun _=>true
 pn:=[]
 xe:=fun e s'=>A9 (Ay P w) (A.deeper (envOfC qual scope s.heap.objs.size f cd)) (leaving (envOfC qual scope s.heap.objs.size f cd) e) (fun _ s''=>CX outer H s E e s'') (fun e' s''=>CX outer H s E e' s'') s'
theorem iq{sc:BY}{n:Nat}{x:Str}(h:sc.names.lookup x=some .cell):∃c,(BD n sc.names []).lookup x=some c:=by have q:=PySem.W.cellsFrom_some sc.names n [] (.inl h);exact Option.isSome_iff_exists.mp q
theorem oV{CX:CXT}{P:Au}{w:AU}{K:A0}{mg:Str->Option A1}{base:Heap}{N ps:List Str}{qual:Str}{scope:BY}{f:Addr}{cd:A1}{A:AQ}{outer:List Env}{s s1:A2}{H:Hp}{E:XK}{us:List A1}{vs:List V}
 (S:FnScope N ps scope) (hd:A.handled=none) (e0:Env0 P w K mg base A outer s H) (hl:vs.length=ps.length) (r:Vals vs us)
 (x:InCallC s s.heap.objs.size (bindL (envOfC qual scope s.heap.objs.size f cd).kindOf (ps.zip us) fun _=>none) (BD (s.heap.objs.size+1) scope.names []) (bindC (envOfC qual scope s.heap.objs.size f cd).kindOf (ps.zip us) fun _=>none) s1) :
 Inv (fy CX P w K mg base N qual scope f cd A outer s H E) [] (start N vs) H s1:=by
 have hpl:ps.length<=N.length:=by have:=congrArg List.length S.pre;rw[Bu]at this;omega
 obtain⟨h1,tk,rfl,hk⟩:=x.done
 have noA:∀b:Addr,b∉(fy CX P w K mg base N qual scope f cd A outer s H E).ex:=fun b z=>absurd (show b∈([]:List Addr)from z) (by simp)
 refine⟨⟨e0.mod,S.kind,rfl,rfl,A7 _,fun y z c h1 h2=>?_,fun y hy=>?_,fun y c _ h=>?_,fun _=>hd,Around.frames_deeper e0.frames,.inr ⟨rfl,rfl⟩,fun b z=>absurd z (noA b),e0.bs,e0.bsz,fun b _ _=>noA b,fun b z=>absurd z (noA b),e0.dZ,e0.frf⟩,
  rfl,e0.bare,Un.kept hk,⟨_,x.toInCall.ns,fun i y v h1 h2 h3=>?_⟩,fun y c h=>⟨_,x.cell y c h⟩,e0.hok.fresh (A7 _),fun y c h=>?_,fun p hp=>absurd (show p∈([]:List (Addr×Obj))from hp) (by simp),e0.hok.kept hk,?_⟩
 ·exact name_of_addr x.apart (AG h1) (AG h2)
 ·have hy:scope.names.lookup y=some .cell\/scope.names.lookup y=some .free:=hy
  rcases hy with hy|hy
  ·exact iq hy
  ·exact absurd rfl (S.nofree _ (AG hy))
 ·exact Ce (x.above y c (AG h))
 ·have hi:i<vs.length:=by
   unfold start at h2
   by_cases hi:i<vs.length
   ·exact hi
   ·rw[Bg (by simpa using hi)]at h2
    rw[List.getElem?_replicate]at h2
    split at h2<;>cases h2
  have ha:vs[i]?=some v:=by
   unfold start at h2
   rw[Bn (by simpa using hi),Az]at h2
   cases e:vs[i]? with
   |none=>rw[e]at h2;cases h2
   |some a=>rw[e]at h2;cases h2;rfl
  obtain⟨u,hu,rv⟩:=r.get ha
  have hp:ps[i]?=some y:=by
   rw[<-S.pre,List.getElem?_take_of_lt (by omega)];exact h1
  have ndP:ps.Nodup:=by rw[<-S.pre];exact S.nd.sublist (List.take_sublist _ _)
  refine⟨u,rv,?_⟩
  rcases S.par y (Ax hp)with k|k
  ·exact .inl ⟨k,iU ndP hp hu k⟩
  ·obtain⟨c,e⟩:=iq (n:=s.heap.objs.size+1) k
   refine .inr ⟨.inl k,c,e,?_⟩
   have q:=x.cell y c e
   rw[jr ndP hp hu (by show scope.names.lookup y≠_;rw[k];decide)]at q
   exact q
 ·exact e0.hok.fresh (Ce (x.above y c (AG h)))
 ·unfold start
  show _=N.length
  rw[Bb,A4,List.length_replicate]
  omega
theorem uY{CX:CXT}{P:Au}{w:AU}{K:A0}{mg:Str->Option A1}{base:Heap}{k:Nat}{f:Addr}{name qual:Str}{params:Arguments}{body:List Stmt}{scope:BY}{dV kV doc pm cdv ct oc:A1}{an od:Option Addr}
 {osl:Array (Option A1)} {N ps:List Str} {sp:Sp} (lk:K.lookup f=some ⟨oc,od,.func (Bt name qual params body scope dV kV doc pm an cdv ct),osl⟩) (hcd:PySem.W.codeIn K cdv qual=true) (S:FnScope N ps scope)
 (len:∀vs H Q E,sp vs H Q E->vs.length=ps.length)
 (hbody:∀(A:AQ) (outer:List Env) (s:A2) (H:Hp) (vs:List V) (Q:VK) (E:XK),Room k (A.deeper (envOfC qual scope s.heap.objs.size f cdv))->sp vs H Q E->
  ∃t,PSs (fy CX P w K mg base N qual scope f cdv A outer s H E) body t/\t { nx:=fun _ H'=>Q .non H',rt:=Q } (start N vs) H) :
 FnOk P w K mg base CX (k+1) f (Bt name qual params body scope dV kV doc pm an cdv ct) ps sp:=by
 refine⟨len,fun A outer s H args us vs Q E hr e0 hb r hsp=>?_⟩
 have hl:=len _ _ _ _ hsp
 have KX:K.In s.heap:=e0.mod.kin.keeps fun b o e=>(e0.bs b o e).1
 have lim:s.heap.NoLimit:=e0.mod.nolimit.keeps fun b o e=>(e0.bs b o e).1
 have hkind:∀y∈ps.zip us,scope.names.lookup y.1=some .local\/(scope.names.lookup y.1=some .cell/\((BD (s.heap.objs.size+1) scope.names []).lookup y.1).isSome=true):=fun zz62_0 hy=>by
  obtain⟨n,v⟩:=zz62_0
  rcases S.par n (List.of_mem_zip hy).1 with q|q
  ·exact .inl q
  ·exact .inr ⟨q,PySem.W.cellsFrom_some _ _ _ (.inl q)⟩
 refine codeAny_call_function hr.depth (KX _ _ lk) rfl S.co S.gen rfl (PySem.W.codeRec_of KX hcd) (hb _ _ _ _ ?_)
 refine wpAny_newFunctionEnv_cells S.kind hkind fun env he s1 x=>?_
 subst he
 refine⟨lim.keeps x.toInCall.keep,codeAny_func ?_⟩
 obtain⟨t,ht,hq⟩:=hbody A outer s H vs Q E (hr.deeper _) hsp
 have I:Inv (fy CX P w K mg base N qual scope f cdv A outer s H E) [] (start N vs) H s1:=oV S hr.hd e0 hl r x
 refine AK (ht [] s1 (start N vs) H _ I hq) (fun fl s' hs=>?_) fun e s' hs=>hs
 have fin:∀{σ':St} {H':Hp} {v:V} {u:A1},Inv (fy CX P w K mg base N qual scope f cdv A outer s H E) [] σ' H' s'->RelV v u->Q v H'->CE outer P w H s Q u s':=
  fun{σ' H' v u} J rv q=>⟨v,H',J.os,J.bare,J.base,J.hok,rv,q⟩
 cases fl with
 |ret u=>
  obtain⟨v,σ',H',J,rv,q⟩:=hs
  exact fin J rv q
 |next=>
  obtain⟨σ',H',J,q⟩:=hs
  exact fin (v:=V.non) (u:=Cj) J rfl q
 |brk=>
  obtain⟨_,_,_,q⟩:=hs
  exact BB q
 |cont=>
  obtain⟨_,_,_,q⟩:=hs
  exact BB q
section
variable{X:Cx}{x:Str}{p pos:Pos}{e:Expr}{es:List Expr}{t:TA}{id T:String}{r:List V->Hp->VK->Prop}
def tCB(r:List V->Hp->VK->Prop)(t:TA):TE:=fun σ H Q=>t σ H fun vs H1=>r vs H1 Q
theorem qX(hc:br X (.builtin id) r)(hg:Gl X x)(hm:X.mg x=none)(hv:Be x=some (.builtin id))(ha:PA X (e::es) t)(hn:x≠"__name__":=by decide)(hdb:(x==("__debug__":Str))=false:=by decide) (he:AF (e::es) X.env=(false,eval e X.env)::AF es X.env:=by rfl) (hpl:(Cy pos (AF es X.env)).any (·.1)=false:=by rfl):PE X (.Call (.Name x p) (e::es) [] pos) (tCB r t):=by intro pins s σ H Q I h;refine wpAny_Call_Name_kw (fN I hg hm hv ?_ hn hdb);exact PyProof.Rows.callWith_builtin1 (thn (ha pos pins s σ H _ I h) fun us s1 zz63_0=>by obtain⟨vs,H1,I1,r1,q1⟩:=zz63_0;exact(hc pins s1 σ H1 vs us Q I1 r1 q1)) he hpl
theorem oG(hc:br X (.type T) r)(hg:Gl X x)(hm:X.mg x=none)(hv:Be x=some (.type T))(ha:PA X (e::es) t)(hn:x≠"__name__":=by decide)(hdb:(x==("__debug__":Str))=false:=by decide) (he:AF (e::es) X.env=(false,eval e X.env)::AF es X.env:=by rfl) (hpl:(Cy pos (AF es X.env)).any (·.1)=false:=by rfl):PE X (.Call (.Name x p) (e::es) [] pos) (tCB r t):=by intro pins s σ H Q I h;refine wpAny_Call_Name_kw (fN I hg hm hv ?_ hn hdb);exact C1 (thn (ha pos pins s σ H _ I h) fun us s1 zz64_0=>by obtain⟨vs,H1,I1,r1,q1⟩:=zz64_0;exact(hc pins s1 σ H1 vs us Q I1 r1 q1)) he hpl
end
end L2
namespace HT
open PySem PyProof.Rows
def lexLt:List Int->List Int->Bool
 |[],[]=>false
 |[],_::_=>true
 |_::_,[]=>false
 |x::xs,y::ys=>if x=y then lexLt xs ys else decide (x<y)
theorem lO(x y:Int)(xs ys:List Int):lexLt (x::xs) (y::ys)=if x=y then lexLt xs ys else decide (x<y):=rfl
theorem iD:lexLt [] []=false:=rfl
theorem gq(y:Int)(ys:List Int):lexLt [] (y::ys)=true:=rfl
theorem gA(x:Int)(xs:List Int):lexLt (x::xs) []=false:=rfl
theorem iz(A:AQ)(s:A2)(a:Int)(t:Tok)(c:Int)(u:Tok):∃e,SeqAt.EqAt A s (.int a t) (.int c u) e/\(e=true↔a=c):=⟨(a==c),SeqAt.EqAt.int_int a t c u,by simp⟩
theorem rD(A:AQ)(s:A2)(a:Int)(t:Tok)(c:Int)(u:Tok)(prog:Au)(w:AU)(E:A1->A2->Prop)(Q:A1->A2->Prop)(h:Q (.bool (decide (a<c))) s) : A9 (Ay prog w) A (richCompare .Lt (.int a t) (.int c u)) Q E s:=(PyProof.Rows.lt_int h:A9 (Ay prog w) A (AX .Lt (.int a t) (.int c u)) Q E s)
section
open PySem.SeqAt
open PySem.AutoSeq1 (wpAny_loadPart')
open PySem.MeetsSeq PySem.MeetsSeq2 PySem.MeetsSeq3
theorem iH(l b:Addr)(items items2:Array A1)(n n2:Nat)(dd dd2:Option Addr)(sl sl2:Array (Option A1))(ns ms:List Int)(hi:By items.toList ns)(hj:By items2.toList ms) :
 Meets (CA.«tuple.__lt__» ⟨[.ref l,.ref b],[]⟩)
  (fun _ R s=>s.heap.get? l=some { cls:=.type "tuple",dict:=dd,data:=.seq items n,slots:=sl }/\s.heap.get? b=some { cls:=.type "tuple",dict:=dd2,data:=.seq items2 n2,slots:=sl2 }/\
   R (.ok (.ret (.bool (lexLt ns ms)))) s):=
 .of_wp fun prog w A R s h=>by
  obtain⟨hp,g,d,tk,os⟩:=s;obtain⟨hl,hb,h⟩:=h
  have f2:=AutoSeq1.sub_tuple_tuple
  have z1:items.size=ns.length:=by rw[<-hi.length];simp
  have z2:items2.size=ms.length:=by rw[<-hj.length];simp
  wp_walk using BI hl,BI hb,wpAny_forIn_list _ (fun rest b s'=>b.1=none/\s'=⟨hp,g,d,tk,os⟩/\∃(vs ws:List A1) (ns' ms':List Int),rest=vs.zip ws/\
   By vs ns'/\By ws ms'/\ns'.length+items2.size=ms'.length+items.size/\R (.ok (.ret (.bool (lexLt ns' ms')))) ⟨hp,g,d,tk,os⟩) _
  case turn=>
   rintro⟨y,x⟩ rest b s' ⟨hb',rfl,vs,ws,ns',ms',hz,hvi,hwi,hlen,hR⟩
   cases hvi with
   |nil=>rw[List.zip_nil_left]at hz;cases hz
   |cons a t hvi'=>
    cases hwi with
    |nil=>rw[List.zip_nil_right]at hz;cases hz
    |cons c u hwi'=>
     rw[C9]at hz
     injection hz with hyx hrest
     injection hyx with hy hx
     subst hy hx
     rw[lO]at hR
     simp only[AS]at hlen
     obtain⟨e,he,hiff⟩:=iz A.in1 ⟨hp,g,d,tk,os⟩ a t c u
     refine cc (he prog w _ _ ?_)
     cases e with
     |true=>
      rw[if_pos (hiff.mp rfl)]at hR
      wp_walk
      exact⟨rfl,rfl,_,_,_,_,hrest,hvi',hwi',by omega,hR⟩
     |false=>
      rw[if_neg (fun q=>absurd (hiff.mpr q) AD)]at hR
      have hri:=rD A.in1 ⟨hp,g,d,tk,os⟩ a t c u prog w
      wp_walk using hri
      exact⟨_,rfl,by simpa using hR⟩
  case fin=>
   rintro⟨b1,b2⟩ s' ⟨hb',rfl,vs,ws,ns',ms',hz,hvi,hwi,hlen,hR⟩
   simp only at hb'
   subst hb'
   have hv:lexLt ns' ms'=decide (items.size<items2.size):=by
    cases hvi with
    |nil=>
     cases hwi with
     |nil=>
      simp only[BJ]at hlen
      rw[iD]
      exact(decide_eq_false (by omega)).symm
     |cons c u hw=>
      simp only[BJ,AS]at hlen
      rw[gq]
      exact(decide_eq_true (by omega)).symm
    |cons a t hv=>
     cases hwi with
     |nil=>
      simp only[BJ,AS]at hlen
      rw[gA]
      exact(decide_eq_false (by omega)).symm
     |cons c u hw=>
      rw[C9]at hz
      cases hz
   rw[hv]at hR
   wp_walk
   exact⟨_,rfl,by simpa[Builtin.Tuple.tupleCompareSizes]using hR⟩
  case h=>
   exact⟨rfl,rfl,items.toList,items2.toList,ns,ms,rfl,hi,hj,by omega,h⟩
end
section
variable{prog:Au}{w:AU}{A:AQ}{E:A1->A2->Prop}{s:A2}
theorem gI{l b:Addr}{items items2:Array A1}{ns ms:List Int}{Q:A1->A2->Prop}(hl:IsTup s.heap l items)(hb:IsTup s.heap b items2)(hi:By items.toList ns)(hj:By items2.toList ms) (hu:A.units<Bp) (h:Q (.bool (lexLt ns ms)) s):A9 (Ay prog w) A (AX .Lt (.ref l) (.ref b)) Q E s:=by obtain⟨⟨cls,dd,data,sl⟩,ho,hc,n,hd⟩:=id hl;obtain⟨⟨cls2,dd2,data2,sl2⟩,ho2,hc2,n2,hd2⟩:=id hb;simp only at hc hd hc2 hd2;subst hc hd hc2 hd2;exact richCompare_meets_room (op:=.Lt) ⟨_,ho,rfl⟩ ⟨_,ho2,rfl⟩ PySem.F.slot_tuple_lt PySem.F.entry_tuple_lt (PySem.F.args_tuple_lt_2 _ _) (iH l b items items2 n n2 dd dd2 sl sl2 ns ms hi hj) ⟨ho,ho2,show Value.bool (lexLt ns ms)≠Value.notImplemented/\Q (.bool (lexLt ns ms)) s from⟨(fun x=>nomatch x),h⟩⟩ hu
theorem tu{t b:Addr}{vs ws:List A1}{Q:A1->A2->Prop}(ht:IsTup s.heap t vs.toArray)(hb:IsTup s.heap b ws.toArray)(hv:vs≠[])
 (h1:ws=[]->Q (.ref t) s) (h2:ws≠[]->Q (.ref s.heap.objs.size) { s with heap:=s.heap.push { cls:=.type "tuple",data:=.seq (vs++ws).toArray } })
 (hsz:vs.length+ws.length<=AI):A9 (Ay prog w) A (Cg .Add (.ref t) (.ref b)) Q E s:=by
 obtain⟨⟨cls,dd,data,sl⟩,ho,hc,n,hd⟩:=id ht
 obtain⟨⟨cls2,dd2,data2,sl2⟩,ho2,hc2,n2,hd2⟩:=id hb
 simp only at hc hd hc2 hd2
 subst hc hd hc2 hd2
 have e:vs.toArray++ws.toArray=(vs++ws).toArray:=by simp
 by_cases hw:ws=[]
 ·exact concat_meets ⟨_,ho,rfl⟩ ⟨_,ho2,rfl⟩ noFill_tuple_add seq_tuple_add PySem.F.slot_tuple_add PySem.F.entry_tuple_add (PySem.F.args_tuple_add_2 _ _)
   (tuple_addW1 t b vs.toArray ws.toArray n n2 dd dd2 sl sl2 (by simpa using hv) (by simp[hw])) ⟨ho,ho2,h1 hw⟩
 ·refine concat_meets ⟨_,ho,rfl⟩ ⟨_,ho2,rfl⟩ noFill_tuple_add seq_tuple_add PySem.F.slot_tuple_add PySem.F.entry_tuple_add (PySem.F.args_tuple_add_2 _ _)
   (tuple_addW2 t b vs.toArray ws.toArray n n2 dd dd2 sl sl2 (by simpa using hv) (by simpa using hw) (by rw[Ar,Ar];exact hsz)) ⟨ho,ho2,?_⟩
  rw[e]
  exact h2 hw
def sIx(n d:Nat):Option Int->Nat
 |none=>d
 |some v=>if v<0 then(v+(n:Int)).toNat else min v.toNat n
theorem lB(n d:Nat):sIx n d none=d:=rfl
theorem n4(n d k:Nat):sIx n d (some (k:Int))=min k n:=by show(if(k:Int)<0 then((k:Int)+(n:Int)).toNat else min (k:Int).toNat n)=min k n;rw[if_neg (by omega),Int.toNat_natCast]
theorem vW(n d:Nat)(hd:d<=n)(o:Option Int):sIx n d o<=n:=by
 cases o with
 |none=>exact hd
 |some v=>
  show(if v<0 then(v+(n:Int)).toNat else min v.toNat n)<=n
  by_cases hv:v<0
  ·rw[if_pos hv];omega
  ·rw[if_neg hv];exact Nat.min_le_right _ _
theorem nQ(v:Int)(n d:Nat):(if v<0 then max (v+(n:Int)) 0 else min v (n:Int))=((sIx n d (some v):Nat):Int):=by
 show(if v<0 then max (v+(n:Int)) 0 else min v (n:Int))=(((if v<0 then(v+(n:Int)).toNat else min v.toNat n):Nat):Int);by_cases hv:v<0
 ·simp only[if_pos hv];omega
 ·simp only[if_neg hv];omega
theorem lK(lo hi:Option Int)(n:Nat):Builtin.Slice.sliceAdjust lo hi 1 (n:Int)=(((sIx n 0 lo:Nat):Int),((sIx n n hi:Nat):Int)):=by
 have h1:¬((1:Int)<0):=by omega
 unfold Builtin.Slice.sliceAdjust;simp only[h1,if_false];refine Prod.ext ?_ ?_
 ·cases lo with
  |none=>rfl
  |some v=>exact nQ v n 0
 ·cases hi with
  |none=>rfl
  |some v=>exact nQ v n n
theorem mq(i j:Nat):Builtin.Slice.slicePlaces (i:Int) (j:Int) 1=j-i:=by
 unfold Builtin.Slice.slicePlaces;have h1:(1:Int)>0:=by omega
 simp only[h1,if_true,Int.ediv_one];split<;>omega
theorem gC{v:A1}{o:Option Int}{Q:Option Int->A2->Prop}(p:IsPart v o)(h:Q o s):A9 (Ay prog w) A (Builtin.Slice.slicePartIndex v) Q E s:=by
 cases p with
 |none=>exact slicePart_none h
 |int i t=>exact slicePart_int h
theorem fQ{sl:Addr}{vl vu:A1}{lo hi:Option Int}{n:Nat}{Q:Int×Int×Nat->A2->Prop}(hs:s.heap.IsSliceOf sl vl vu .none)(pl:IsPart vl lo)(pu:IsPart vu hi)
 (h:Q (((sIx n 0 lo:Nat):Int),1,sIx n n hi-sIx n 0 lo) s):A9 (Ay prog w) A (Builtin.Slice.sliceApplied (.ref sl) (pure (n:Int))) Q E s:=by
 obtain⟨os,hos,hcs,hds⟩:=id hs
 unfold Builtin.Slice.sliceApplied Builtin.Slice.sliceFields
 refine cc (cc (wpAny_field hos hds (x:=vl) rfl (cc (wpAny_field hos hds (x:=vu) rfl (cc (wpAny_field hos hds (x:=.none) rfl (A5 ?_)))))))
 refine cc (slicePart_none ?_)
 show A9 _ _ (if((1:Int)==0)=true then _ else _) _ _ s
 rw[if_neg (by decide)]
 refine cc (gC pl (cc (gC pu (cc (A5 ?_)))))
 show A9 _ _ (match Builtin.Slice.sliceAdjust lo hi 1 (n:Int)with|(lo,hi)=>pure (lo,(1:Int),Builtin.Slice.slicePlaces lo hi 1)) _ _ s
 rw[lK lo hi n]
 show A9 _ _ (pure (((sIx n 0 lo:Nat):Int),(1:Int),Builtin.Slice.slicePlaces ((sIx n 0 lo:Nat):Int) ((sIx n n hi:Nat):Int) 1)) _ _ s
 rw[mq]
 exact A5 h
theorem sg(xs:Array A1)(i k:Nat):((BV k).filterMap fun(m:Nat)=>xs[((i:Int)+(m:Int)*1).toNat]?).toArray=((xs.toList.drop i).take k).toArray:=by
 have e:(fun(m:Nat)=>xs[((i:Int)+(m:Int)*1).toNat]?)=fun m=>xs[i+m]?:=by
  funext m
  have:((i:Int)+(m:Int)*1).toNat=i+m:=by omega
  rw[this]
 rw[e];have:=pick_run xs i k;rw[List.filterMap_map]at this;have e2:((fun x=>xs[x]?)∘fun x=>i+x)=fun m=>xs[i+m]?:=rfl;rw[e2]at this;rw[this]
theorem eO{t sl:Addr}{items:Array A1}{vl vu:A1}{lo hi:Option Int}{Q:A1->A2->Prop}(ht:IsTup s.heap t items)(hs:s.heap.IsSliceOf sl vl vu .none)(pl:IsPart vl lo)(pu:IsPart vu hi)
 (hw:¬(sIx items.size 0 lo=0/\sIx items.size items.size hi=items.size))
 (h:Q (.ref s.heap.objs.size) { s with heap:=s.heap.push { cls:=.type "tuple",data:=.seq ((items.toList.drop (sIx items.size 0 lo)).take (sIx items.size items.size hi-sIx items.size 0 lo)).toArray } })
 (hsz:items.size<=AI):A9 (Ay prog w) A (getItem (.ref t) (.ref sl)) Q E s:=by
 have htake:sizeOk (.seq ((items.toList.drop (sIx items.size 0 lo)).take (sIx items.size items.size hi-sIx items.size 0 lo)).toArray):=by
  show((items.toList.drop (sIx items.size 0 lo)).take (sIx items.size items.size hi-sIx items.size 0 lo)).toArray.size<=AI
  rw[Ar,Bu,List.length_drop,B4]
  omega
 have hj:sIx items.size items.size hi<=items.size:=vW _ _ (A7 _) hi
 obtain⟨os,hos,hcs,hds⟩:=id hs
 have hTs:s.TypeIs (.ref sl) "slice":=⟨os,hos,hcs⟩
 unfold getItem
 try with_reducible refine Br ?_
 first|refine cc (A5 ?_)|skip
 refine cc (wpAny_sequenceKey ht.typeIs (by decide) ?_)
 refine cc (wpAny_callSpecial?_slot (name:=Bf "__getitem__") ht.typeIs PyProof.Rows.slot_tuple_getitem
  (wpAny_call_entry PyProof.Rows.slot_tuple_getitem ht.typeIs entry_tuple_getitem ?_ (args_tuple_getitem _ _)))
 show A9 _ _ (Builtin.Tuple.tupleItemsOf (.ref t) >>= _) _ _ s
 refine cc (tupleItemsOf_ ht ?_)
 refine cc (wpAny_typeOf hTs ?_)
 rw[if_pos (by decide)]
 refine cc (fQ hs pl pu ?_)
 have hno:¬((((sIx items.size 0 lo:Nat):Int)==0&&(1:Int)==1&&(sIx items.size items.size hi-sIx items.size 0 lo)==items.size)=true):=by
  intro q
  rw[Bv,Bv]at q
  have q1:((sIx items.size 0 lo:Nat):Int)=0:=eq_of_beq q.1.1
  have q2:sIx items.size items.size hi-sIx items.size 0 lo=items.size:=eq_of_beq q.2
  exact hw ⟨by omega,by omega⟩
 show A9 _ _ (if(((sIx items.size 0 lo:Nat):Int)==0&&(1:Int)==1&&(sIx items.size items.size hi-sIx items.size 0 lo)==items.size)=true then _ else _) _ _ s
 rw[if_neg hno,sg]
 first
  |exact cc (m:=Builtin.Tuple.tupleExact _) (AZ (A5 ⟨_,rfl,A5 h⟩) htake)
  |exact cc (m:=Builtin.Tuple.tupleExact _) (AZ (cc (A5 (A5 ⟨_,rfl,A5 h⟩))) htake)
  |exact cc (cc (m:=Builtin.Tuple.tupleExact _) (AZ (A5 (A5 ⟨_,rfl,A5 h⟩)) htake))
  |exact cc (cc (m:=Builtin.Tuple.tupleExact _) (AZ (A5 ⟨_,rfl,A5 h⟩) htake))
end
end HT
namespace L2
open PySem PySem.Spec PyProof.Rows
abbrev TO:=St->Hp->(Option Int->Hp->Prop)->Prop
def PO(X:Cx)(e:Option Expr)(t:TO):Prop:=
 ∀(pins:List (Addr×Obj)) (s:A2) (σ:St) (H:Hp) (Q:Option Int->Hp->Prop),Inv X pins σ H s->t σ H Q->
  A9 (Ay X.prog X.w) X.A (evalPart e X.env) (fun u s'=>∃o H',Inv X pins σ H' s'/\IsPart u o/\Q o H') X.xe s
def uJ:TO:=fun _ H Q=>Q none H
def ye(t:TE):TO:=fun σ H Q=>t σ H fun x H1=>∃i,x=.int i/\Q (some i) H1
theorem intsAre_of{ns:List Int}:∀{us:List A1},Vals (ns.map V.int) us->By us ns:=by
 induction ns with
 |nil=>intro us r;rw[BF]at r;cases r;exact .nil
 |cons n ns ih=>
  intro us r
  rw[Av]at r
  cases r with
  |cons r1 r2=>
   obtain⟨t,e⟩:=r1
   subst e
   exact .cons n t (ih r2)
section
variable{X:Cx}{e:Expr}{te:TE}{lo hi:Option Expr}{tl th:TO}{pos p2:Pos}
theorem tH:PO X none uJ:=by intro pins s σ H Q I h;rw[evalPart_none];exact A5 ⟨none,H,I,.none,h⟩
theorem tR(h:PE X e te):PO X (some e) (ye te):=by intro pins s σ H Q I hw;rw[evalPart_some];refine thn (h pins s σ H _ I hw) fun u s1 zz65_0=>?_;obtain⟨x,H1,I1,r1,q1⟩:=zz65_0;obtain⟨i,rfl,q⟩:=q1;obtain⟨t,rfl⟩:=r1;exact⟨some i,H1,I1,.int i t,q⟩
def SlR(X:Cx)(r:V->Option Int->Option Int->Hp->VK->Prop):Prop:=
 ∀(pins:List (Addr×Obj)) (s:A2) (σ:St) (H:Hp) (x:V) (v vl vu:A1) (lo hi:Option Int) (sl:Addr) (Q:VK),Inv X pins σ H s->RelV x v->s.heap.IsSliceOf sl vl vu .none->IsPart vl lo->IsPart vu hi->r x lo hi H Q->
  ∃T id,typeLookup (.type T) "__getitem__"=pure (some (.builtin id))/\s.TypeIs v T/\A9 (Ay X.prog X.w) X.A (getItem v (.ref sl)) (EP X pins σ Q) X.xe s
theorem SlR.or{r r':V->Option Int->Option Int->Hp->VK->Prop}(h:SlR X r)(h':SlR X r'):SlR X (fun x lo hi H Q=>r x lo hi H Q\/r' x lo hi H Q):=by
 intro pins s σ H x v vl vu lo hi sl Q I rx hs pl pu q;rcases q with q|q
 ·exact h pins s σ H x v vl vu lo hi sl Q I rx hs pl pu q
 ·exact h' pins s σ H x v vl vu lo hi sl Q I rx hs pl pu q
def tSl(r:V->Option Int->Option Int->Hp->VK->Prop)(te:TE)(tl th:TO):TE:=fun σ H Q=>te σ H fun x H1=>tl σ H1 fun l H2=>th σ H2 fun u H3=>r x l u H3 Q
theorem si{r:V->Option Int->Option Int->Hp->VK->Prop}(hr:SlR X r)(he:PE X e te)(hl:PO X lo tl)(hu:PO X hi th):PE X (.Subscript e (.Slice lo hi none p2) pos) (tSl r te tl th):=by intro pins s σ H Q I h;refine Subscript_ (thn (he pins s σ H _ I h) fun v s1 zz66_0=>?_);obtain⟨x,H1,I1,r1,q1⟩:=zz66_0;refine wpAny_Slice (thn (hl pins s1 σ H1 _ I1 q1) fun vl s2 ⟨l,H2,I2,pl,q2⟩=>thn (hu pins s2 σ H2 _ I2 q2) fun vu s3 zz67_0=>?_);obtain⟨u,H3,I3,pu,q3⟩:=zz67_0;rw[evalPart_none];refine A5 ?_;have I4:Inv X pins σ H3 { s3 with heap:=s3.heap.push { cls:=.type "slice",data:=.fields #[vl,vu,.none] } }:=I3.kept (t':=s3.toks) fun b ob q=>A3 _ q;obtain⟨T,id,hT,ht,hg⟩:=hr pins { s3 with heap:=s3.heap.push { cls:=.type "slice",data:=.fields #[vl,vu,.none] } } σ H3 x v vl vu l u s3.heap.objs.size Q I4 r1 (Heap.IsSliceOf.new ..) pl pu q3;show A9 (Ay X.prog X.w) X.A (subscriptTail e (.Slice lo hi none p2) v (.ref s3.heap.objs.size)) (EP X pins σ Q) X.xe { s3 with heap:=s3.heap.push { cls:=.type "slice",data:=.fields #[vl,vu,.none] } };exact tail_any (ops:=[.ref s3.heap.objs.size,v]) ht hT hg (by with_unfolding_all rfl)
def kL(xs:List V)(lo hi:Option Int):List V:=(xs.drop (HT.sIx xs.length 0 lo)).take (HT.sIx xs.length xs.length hi-HT.sIx xs.length 0 lo)
theorem fV(xs:List V)(lo hi:Option Int):(kL xs lo hi).length<=xs.length:=by unfold kL;rw[Bu,List.length_drop];omega
def Ap(K:A0):V->Option Int->Option Int->Hp->VK->Prop:=fun x lo hi H Q=>∃a xs,x=.ref a/\SqT K H a xs/\
 ¬(HT.sIx xs.length 0 lo=0/\HT.sIx xs.length xs.length hi=xs.length)/\∀p,H p=none->Q (.ref p) (upd H p (.tup (kL xs lo hi)))
theorem vN:SlR X (Ap X.K):=by
 intro pins s σ H x v vl vu lo hi sl Q I rx hs pl pu h;obtain⟨a,xs,rfl,hx,hw,q⟩:=h;cases rx;obtain⟨its,r,ht,hz⟩:=I.tuple hx;have hlen:its.toArray.size=xs.length:=by rw[Ar];exact r.length.symm
 refine⟨"tuple",_,PyProof.Rows.slot_tuple_getitem.lookup,ht.typeIs,?_⟩;refine HT.eO ht hs pl pu (by rw[hlen];exact hw) ?_ (by rw[hlen];exact hz);rw[hlen];refine⟨.ref s.heap.objs.size,_,I.laid (t':=s.toks) (o:=.tup (kL xs lo hi)) (fun b ob q=>A3 _ q) (A7 _) ?_,rfl,q _ (I.hok.fresh (A7 _))⟩;exact⟨B8 (fV xs lo hi) hz,_,(r.drop (HT.sIx xs.length 0 lo)).take (HT.sIx xs.length xs.length hi-HT.sIx xs.length 0 lo),IsTup.new _ _⟩
def Ag(K:A0):R2:=fun x y H Q=>∃a b ns ms,x=.ref a/\y=.ref b/\SqT K H a (ns.map V.int)/\SqT K H b (ms.map V.int)/\Q (.bl (HT.lexLt ns ms)) H
theorem vH(hu:X.A.units<Bp):OpR X (AX .Lt) (Ag X.K):=by intro pins s σ H x y v u Q I rx ry h;obtain⟨a,b,ns,ms,rfl,rfl,ha,hb,q⟩:=h;cases rx;cases ry;obtain⟨its,r1,p1,_⟩:=I.tuple ha;obtain⟨its2,r2,p2,_⟩:=I.tuple hb;have i1:By its.toArray.toList ns:=intsAre_of r1;have i2:By its2.toArray.toList ms:=intsAre_of r2;exact HT.gI p1 p2 i1 i2 hu ⟨.bl (HT.lexLt ns ms),H,I,rfl,q⟩
def zD(K:A0):R2:=fun x y H Q=>∃a b xs ys,x=.ref a/\y=.ref b/\SqT K H a xs/\SqT K H b ys/\xs≠[]/\xs.length+ys.length<=AI/\
 (ys=[]->Q (.ref a) H)/\(ys≠[]->∀p,H p=none->Q (.ref p) (upd H p (.tup (xs++ys))))
theorem Vals.j8{xs:List V}{us:List A1}(r:Vals xs us):us=[]↔xs=[]:=by
 cases r with
 |nil=>simp
 |cons _ _=>simp
theorem sV:OpR X (Cg .Add) (zD X.K):=by intro pins s σ H x y v u Q I rx ry h;obtain⟨a,b,xs,ys,rfl,rfl,ha,hb,hx,hz,q1,q2⟩:=h;cases rx;cases ry;obtain⟨its,r1,p1,_⟩:=I.tuple ha;obtain⟨its2,r2,p2,_⟩:=I.tuple hb;refine HT.tu p1 p2 (fun z=>hx (r1.j8.mp z)) (fun z=>⟨.ref a,H,I,rfl,q1 (r2.j8.mp z)⟩) (fun z=>?_) (by rw[<-r1.length,<-r2.length];exact hz);refine⟨.ref s.heap.objs.size,_,I.laid (t':=s.toks) (o:=.tup (xs++ys)) (fun b ob q=>A3 _ q) (A7 _) ?_,rfl,q2 (fun w=>z (r2.j8.mpr w)) _ (I.hok.fresh (A7 _))⟩;exact⟨by rw[Bb];exact hz,_,r1.append r2,IsTup.new _ _⟩
end
def ixN(n:Nat)(i:Int):Option Nat:=if 0<=i then(if i<n then some i.toNat else none)else if -(n:Int)<=i then some (i+n).toNat else none
def atI{α:Type}(xs:List α)(i:Int):Option α:=(ixN xs.length i).bind fun j=>xs[j]?
theorem nE{n:Nat}{i:Int}{j:Nat}(h:ixN n i=some j):seqIndex? i n=some j/\j<n/\-(n:Int)<=i/\i<n:=by
 unfold ixN at h;by_cases h0:0<=i
 ·rw[if_pos h0]at h;by_cases h1:i<n
  ·rw[if_pos h1]at h;have e:i.toNat=j:=Option.some.inj h;exact⟨by rw[seqIndex_of h0 h1,e],by omega,by omega,h1⟩
  ·rw[if_neg h1]at h;cases h
 ·rw[if_neg h0]at h;by_cases h1:-(n:Int)<=i
  ·rw[if_pos h1]at h;have e:(i+n).toNat=j:=Option.some.inj h;exact⟨by rw[seqIndex_neg (by omega) h1,e],by omega,h1,by omega⟩
  ·rw[if_neg h1]at h;cases h
theorem jN{α:Type}{xs:List α}{i:Int}{v:α}(h:atI xs i=some v):∃j,seqIndex? i xs.length=some j/\xs[j]?=some v/\j<xs.length/\-(xs.length:Int)<=i/\i<xs.length:=by
 unfold atI at h;cases e:ixN xs.length i with
 |none=>rw[e]at h;cases h
 |some j=>
  rw[e]at h
  obtain⟨h1,h2,h3,h4⟩:=nE e
  exact⟨j,h1,h,h2,h3,h4⟩
theorem jW{α:Type}{xs:List α}{j:Nat}{v:α}(h:xs[j]?=some v):atI xs (j:Int)=some v:=by
 have hj:j<xs.length:=(A6.mp h).1;have e:ixN xs.length (j:Int)=some j:=by unfold ixN;rw[if_pos (by omega),if_pos (by omega)];simp
 unfold atI;rw[e];exact h
def jR(b:Expr):Prop:=∀o i,subscripted b false o i=operate [o,i] (getItem o i)
def IxR(X:Cx)(r:R2):Prop:=
 ∀(value slice:Expr) (pins:List (Addr×Obj)) (s:A2) (σ:St) (H:Hp) (x y:V) (v u:A1) (Q:VK),Inv X pins σ H s->RelV x v->RelV y u->r x y H Q->
  subscripted slice false v u=operate [v,u] (getItem v u)->A9 (Ay X.prog X.w) X.A (subscriptTail value slice v u) (EP X pins σ Q) X.xe s
def MtR(X:Cx)(id:String)(r:V->List V->Hp->VK->Prop):Prop:=
 ∀(pins:List (Addr×Obj)) (s:A2) (σ:St) (H:Hp) (x:V) (xs:List V) (v:A1) (us:List A1) (Q:VK),Inv X pins σ H s->RelV x v->Vals xs us->r x xs H Q->
  A9 (Ay X.prog X.w) X.A (call (.builtin id) (v::us)) (EP X pins σ Q) X.xe s
section
variable{X:Cx}{a b:Expr}{ta tb:TE}{pos:Pos}
theorem IxR.or{r r':R2}(h:IxR X r)(h':IxR X r'):IxR X (fun x y H Q=>r x y H Q\/r' x y H Q):=by
 intro value slice pins s σ H x y v u Q I rx ry q hs;rcases q with q|q
 ·exact h value slice pins s σ H x y v u Q I rx ry q hs
 ·exact h' value slice pins s σ H x y v u Q I rx ry q hs
theorem yC{r:R2}(hr:IxR X r)(ha:PE X a ta)(hb:PE X b tb)(hs:jR b):PE X (.Subscript a b pos) (tOp r ta tb):=by intro pins s σ H Q I h;exact Subscript_ (wu ha hb I h fun v u s2 x y H2 I2 rx ry q=>hr a b pins s2 σ H2 x y v u Q I2 rx ry q (hs _ _))
def zI(K:A0):R2:=fun x y H Q=>∃p xs i v,x=.ref p/\y=.int i/\SqL K H p xs/\atI xs i=some v/\Q v H
def zf(K:A0):R2:=fun x y H Q=>∃p xs i v,x=.ref p/\y=.int i/\SqT K H p xs/\atI xs i=some v/\Q v H
def yt:R2:=fun x y H Q=>∃z i c,x=.str z/\y=.int i/\z.length<=AI/\atI z.cps.toList i=some c/\Q (.str ⟨#[c]⟩) H
theorem ui:IxR X (zI X.K):=by
 intro value slice pins s σ H x y v u Q I rx ry h hs;obtain⟨p,xs,i,z,rfl,rfl,hq,he,q⟩:=h;cases rx;obtain⟨t,rfl⟩:=ry;obtain⟨its,r,pl,hz⟩:=I.list hq;obtain⟨j,h1,h2,h3,h4,h5⟩:=jN he;obtain⟨w,ew,rw'⟩:=r.get h2;have hl:=r.length;have hn:=ib;have fin:EP X pins σ Q w s:=⟨z,H,I,rw',q⟩;by_cases h0:0<=i
 ·have hj:i.toNat=j:=by rw[seqIndex_of h0 h5]at h1;exact Option.some.inj h1
  exact item_listR pl.isList h0 (by omega) (by rw[hj];simpa using ew) fin hs
 ·have hj:(i+(its.toArray.size:Int)).toNat=j:=by rw[seqIndex_neg (by omega) h4]at h1;rw[Ar,<-hl];exact Option.some.inj h1
  exact subscriptTail_builtinR (x:=w) pl.isList.typeIs slot_list_getitem.lookup (wpAny_getItem_list_neg (Q:=fun r s'=>r=w/\EP X pins σ Q r s') pl.isList (by omega) (by rw[Ar]<;>omega) (by omega) (by rw[hj];simpa using ew) ⟨rfl,fin⟩) hs
theorem vI:IxR X (zf X.K):=by intro value slice pins s σ H x y v u Q I rx ry h hs;obtain⟨p,xs,i,z,rfl,rfl,hq,he,q⟩:=h;cases rx;obtain⟨t,rfl⟩:=ry;obtain⟨its,r,pl,hz⟩:=I.tuple hq;obtain⟨j,h1,h2,h3,h4,h5⟩:=jN he;obtain⟨w,ew,rw'⟩:=r.get h2;have hl:=r.length;have hn:=ib;have fin:EP X pins σ Q w s:=⟨z,H,I,rw',q⟩;exact subscriptTail_builtinR (x:=w) pl.typeIs slot_tuple_getitem.lookup (getItem_tuple (j:=j) (Q:=fun r s'=>r=w/\EP X pins σ Q r s') pl (by omega) (by omega) (by rw[Ar,<-hl];exact h1) (by simpa using ew) ⟨rfl,fin⟩) hs
theorem wY:IxR X yt:=by
 intro value slice pins s σ H x y v u Q I rx ry h hs;obtain⟨z,i,c,rfl,rfl,hz,he,q⟩:=h;obtain⟨t,rfl⟩:=rx;obtain⟨t',rfl⟩:=ry;obtain⟨j,h1,h2,h3,h4,h5⟩:=jN he;have hl:z.cps.toList.length=z.length:=by simp[Str.length]
 rw[hl]at h1 h4 h5;have hn:=ib
 exact tail_any (typeIs_str s z t) slot_str_getitem.lookup (getItem_str (c:=c) (by
  have e1:decide (i < -(2^63:Int))=false:=decide_eq_false (by omega)
  have e2:decide (i≥2^63)=false:=decide_eq_false (by omega)
  rw[e1,e2,Bool.or_false]) (by rw[h1];simpa using h2) ⟨.str ⟨#[c]⟩,H,I.tok _,⟨_,rfl⟩,q⟩) hs
def rIx(K:A0):R2:=fun x y H Q=>zI K x y H Q\/zf K x y H Q\/yt x y H Q
theorem x9:IxR X (rIx X.K):=ui.or (vI.or wY)
theorem mM(its:List A1)(n j:Nat)(u:A1):Bh (·.setIfInBounds j u) { cls:=.type "list",data:=.seq its.toArray n }={ cls:=.type "list",data:=.seq (its.set j u).toArray n }:=by simp[Bh]
theorem Inv.lst{pins:List (Addr×Obj)}{σ:St}{H:Hp}{s:A2}{p:Addr}{xs:List V}(I:Inv X pins σ H s)(h:H p=some (.lst xs)) : ∃(its:List A1) (n:Nat),Vals xs its/\s.heap.get? p=some { cls:=.type "list",data:=.seq its.toArray n }/\xs.length<=AI:=by obtain⟨z,its,n,r,e⟩:=I.hok p _ h;exact⟨its,n,r,e,z⟩
theorem Inv.vM{pins:List (Addr×Obj)}{σ:St}{H:Hp}{s:A2}{p:Addr}{xs ys:List V}{its its':List A1}{n n':Nat}{f:Obj->Obj}(I:Inv X pins σ H s)(h:H p=some (.lst xs))
 (ho:s.heap.get? p=some { cls:=.type "list",data:=.seq its.toArray n }) (hf:f { cls:=.type "list",data:=.seq its.toArray n }={ cls:=.type "list",data:=.seq its'.toArray n' }) (r:Vals ys its') (hz:ys.length<=AI) (t:Nat) :
 Inv X pins σ (upd H p (.lst ys)) { s with heap:=s.heap.update p f,toks:=t }:=by
 have e:(s.heap.update p f).get? p=some { cls:=.type "list",data:=.seq its'.toArray n' }:=by
  rw[BL f ho (by rw[hf]<;>rfl),hf]
 refine I.write (x:=p) (e:=p) (by rw[h];trivial) (.inl rfl) (fun b u hb q=>(AR _ _ (Ne.symm hb)).trans q) ⟨_,e⟩ ?_
 exact⟨hz,its',n',r,e⟩
def zc:V->V->V->Hp->(Hp->Prop)->Prop:=fun o i v H Q=>∃p xs k j,o=.ref p/\i=.int k/\H p=some (.lst xs)/\ixN xs.length k=some j/\Q (upd H p (.lst (xs.set j v)))
theorem set_list:y8 X zc:=by
 intro pins s σ H o i v ov iv u Q I ro ri rv h;obtain⟨p,xs,k,j,rfl,rfl,hp,hj,q⟩:=h;cases ro;obtain⟨t,rfl⟩:=ri;obtain⟨its,n,r,ho,hz⟩:=I.lst hp;obtain⟨h1,h2,h3,h4⟩:=nE hj;have hl:=r.length;have hn:=ib;have I':Inv X pins σ (upd H p (.lst (xs.set j v))) { s with heap:=s.heap.update p (Bh (·.setIfInBounds j u)) }:=I.vM hp ho (mM its n j u) (r.set rv j) (by rw[List.length_set];exact hz) s.toks;by_cases h0:0<=k
 ·have hk:k.toNat=j:=by rw[seqIndex_of h0 h4]at h1;exact Option.some.inj h1
  exact PySem.W.ki_setAt ho h0 (by omega) (by rw[Ar,<-hl];exact h4) (by rw[hk];exact⟨_,I',q⟩)
 ·have hk:(k+(its.toArray.size:Int)).toNat=j:=by rw[seqIndex_neg (by omega) h3]at h1;rw[Ar,<-hl];exact Option.some.inj h1
  exact PySem.W.ki_setBack ho (by omega) (by rw[Ar,<-hl];exact h3) (by omega) (by rw[hk];exact⟨_,I',q⟩)
theorem jJ(lo hi:Option Int)(n:Nat):(sliceBounds lo hi none n).1=((HT.sIx n 0 lo:Nat):Int)/\(sliceBounds lo hi none n).2.1=((HT.sIx n n hi:Nat):Int)/\(sliceBounds lo hi none n).2.2=1:=by
 refine⟨?_,?_,rfl⟩
 ·cases lo with
  |none=>simp[sliceBounds,HT.sIx]
  |some i=>
   simp only[sliceBounds,HT.sIx,Option.getD_none,show(1:Int)>0 by decide,if_true]
   by_cases h:i<0
   ·simp only[h,if_true]<;>omega
   ·simp only[h,if_false]<;>omega
 ·cases hi with
  |none=>simp[sliceBounds,HT.sIx]
  |some i=>
   simp only[sliceBounds,HT.sIx,Option.getD_none,show(1:Int)>0 by decide,if_true]
   by_cases h:i<0
   ·simp only[h,if_true]<;>omega
   ·simp only[h,if_false]<;>omega
theorem iG(its:List A1)(lo hi:Option Int):slicePick its.toArray lo hi none=((its.drop (HT.sIx its.length 0 lo)).take (HT.sIx its.length its.length hi-HT.sIx its.length 0 lo)).toArray:=by obtain⟨h1,h2,h3⟩:=jJ lo hi its.toArray.size;unfold slicePick;rw[h1,h2,h3];simp only[sliceRange_one,pick_run,Ar]<;>rfl
def zX(K:A0):V->Option Int->Option Int->Hp->VK->Prop:=fun x lo hi H Q=>∃a xs,x=.ref a/\SqL K H a xs/\∀p,H p=none->Q (.ref p) (upd H p (.lst (kL xs lo hi)))
theorem uc:SlR X (zX X.K):=by intro pins s σ H x v vl vu lo hi sl Q I rx hs pl pu h;obtain⟨a,xs,rfl,hx,q⟩:=h;cases rx;obtain⟨its,r,ht,hz⟩:=I.list hx;have hlen:=r.length;refine⟨"list",_,slot_list_getitem.lookup,ht.isList.typeIs,?_⟩;refine wpAny_getItem_list_slice ht.isList hs pl pu .none (by simp) ?_ (by rw[Ar]<;>omega);rw[iG,<-hlen];refine⟨.ref s.heap.objs.size,_,I.laid (t':=s.toks) (o:=.lst (kL xs lo hi)) (fun b ob q=>A3 _ q) (A7 _) ?_,rfl,q _ (I.hok.fresh (A7 _))⟩;exact⟨B8 (fV xs lo hi) hz,_,0,(r.drop (HT.sIx xs.length 0 lo)).take (HT.sIx xs.length xs.length hi-HT.sIx xs.length 0 lo),Aq _ rfl⟩
theorem jM:br X (.builtin "len") (fun xs H Q=>∃p ys,xs=[.ref p]/\(SqL X.K H p ys\/SqT X.K H p ys)/\Q (.int ys.length) H):=by
 intro pins s σ H xs us Q I r h;obtain⟨p,ys,rfl,hq,q⟩:=h;obtain⟨u,rfl,rx⟩:=vals1 r;cases rx;have hn:=ib;rcases hq with hq|hq
 ·obtain⟨its,r',pl,hz⟩:=I.list hq;have hlen:=r'.length;exact Calls.call_len_list pl.isList (by simp only[Ar]<;>omega) ⟨.int ys.length,H,I.tok _,⟨s.toks+1,by rw[Ar,hlen]⟩,q⟩
 ·obtain⟨its,r',pl,hz⟩:=I.tuple hq;have hlen:=r'.length;exact len_tuple pl (by simp only[Ar]<;>omega) ⟨.int ys.length,H,I.tok _,⟨s.toks+1,by rw[Ar,hlen]⟩,q⟩
theorem br.or{f:A1}{r r':List V->Hp->VK->Prop}(h:br X f r)(h':br X f r'):br X f (fun xs H Q=>r xs H Q\/r' xs H Q):=by
 intro pins s σ H xs us Q I rs q;rcases q with q|q
 ·exact h pins s σ H xs us Q I rs q
 ·exact h' pins s σ H xs us Q I rs q
theorem jZ:br X (.type "list") (fun xs H Q=>∃p ys,xs=[.ref p]/\(SqL X.K H p ys\/SqT X.K H p ys)/\∀l,H l=none->Q (.ref l) (upd H l (.lst ys))):=by
 intro pins s σ H xs us Q I r h;obtain⟨p,ys,rfl,hq,q⟩:=h;obtain⟨u,rfl,rx⟩:=vals1 r;cases rx;have fin:∀(its:List A1),Vals ys its->ys.length<=AI->∀(h':Heap) (c':Nat),(∀b o',s.heap.get? b=some o'->h'.get? b=some o')->h'.get? s.heap.objs.size=some { cls:=.type "list",dict:=none,data:=.seq its.toArray c',slots:=#[] }->EP X pins σ Q (.ref s.heap.objs.size) { s with heap:=h' }:=fun its r' hz h' c' kp e=>⟨.ref s.heap.objs.size,_,I.laid (t':=s.toks) kp (A7 _) (show bo X.prog X.w _ h' _ (.lst ys)from⟨hz,its,c',r',e⟩),rfl,q _ (I.hok.fresh (A7 _))⟩;rcases hq with hq|hq
 ·obtain⟨its,r',pl,hz⟩:=I.list hq;have hlen:=r'.length;obtain⟨o,ho,hc,n,hd⟩:=pl.isList;exact call_list_seq p (.inl rfl) ho hc hd (fun h' c' kp e=>fin its r' hz h' c' kp e) (by simp only[Ar]<;>omega)
 ·obtain⟨its,r',pl,hz⟩:=I.tuple hq;have hlen:=r'.length;obtain⟨o,ho,hc,n,hd⟩:=pl;exact call_list_seq p (.inr rfl) ho hc hd (fun h' c' kp e=>fin its r' hz h' c' kp e) (by simp only[Ar]<;>omega)
theorem iO:br X (.type "tuple") (fun xs H Q=>∃p ys,xs=[.ref p]/\((SqL X.K H p ys/\∀l,H l=none->Q (.ref l) (upd H l (.tup ys)))\/(SqT X.K H p ys/\Q (.ref p) H))):=by
 intro pins s σ H xs us Q I r h;obtain⟨p,ys,rfl,h⟩:=h;obtain⟨u,rfl,rx⟩:=vals1 r;cases rx;rcases h with⟨hq,q⟩|⟨hq,q⟩
 ·obtain⟨its,r',pl,hz⟩:=I.list hq;have hlen:=r'.length;refine call_tuple_list pl.isList (fun h' kp=>?_) (by simp only[Ar]<;>omega);have I1:Inv X pins σ H { s with heap:=h' }:=I.kept (t':=s.toks) kp;have I2:Inv X pins σ (upd H h'.objs.size (.tup ys)) { s with heap:=h'.push { cls:=.type "tuple",data:=.seq its.toArray } }:=I1.laid (t':=s.toks) (fun b o e=>A3 _ e) (A7 _) (show bo X.prog X.w _ _ _ (.tup ys)from⟨hz,its,r',IsTup.new _ _⟩);exact⟨.ref h'.objs.size,_,I2,rfl,q _ (I1.hok.fresh (A7 _))⟩
 ·obtain⟨its,r',pl,hz⟩:=I.tuple hq;exact call_tuple_same pl ⟨.ref p,H,I,rfl,q⟩
def tyV(K:A0)(T:String)(x:V)(H:Hp):Prop:=match x with
 |.str _=>T="str"
 |.int _=>T="int"
 |.ref p=>(T="list"/\∃xs,SqL K H p xs)\/(T="tuple"/\∃o,K.lookup p=some o/\o.cls=.type "tuple"/\o.dict=none)\/
  (T="dict"/\((∃kvs,H p=some (.dK kvs))\/∃kvs,H p=some (.dT kvs)))\/(T="set"/\∃S n,H p=some (.set S n))
 |_=>False
theorem vL{pins:List (Addr×Obj)}{σ:St}{H:Hp}{s:A2}{T:String}{x:V}{v:A1}(I:Inv X pins σ H s)(r:RelV x v)(ty:tyV X.K T x H) : s.TypeIs v T/\∀a,v=.ref a->∃ob,s.heap.get? a=some ob/\ob.dict=none:=by
 cases x with
 |str z=>
  obtain⟨t,rfl⟩:=r
  cases (show T="str" from ty)
  exact⟨typeIs_str s z t,fun _ e=>nomatch e⟩
 |int i=>
  obtain⟨t,rfl⟩:=r
  cases (show T="int" from ty)
  exact⟨typeIs_int s i t,fun _ e=>nomatch e⟩
 |ref p=>
  cases r
  rcases ty with⟨rfl,xs,hq⟩|⟨rfl,o,hk,hc,hd⟩|⟨rfl,hk⟩|⟨rfl,S,n,hk⟩
  ·obtain⟨its,_,pl,_⟩:=I.list hq;refine⟨pl.isList.typeIs,fun a e=>?_⟩;cases e;obtain⟨o,n,e,c,hd,_⟩:=pl;exact⟨o,e,hd⟩
  ·refine⟨⟨o,I.kIn p o hk,hc⟩,fun a e=>?_⟩;cases e;exact⟨o,I.kIn _ o hk,hd⟩
  ·have z:∃o,s.heap.get? p=some o/\o.ExactDict:=by
    rcases hk with⟨kvs,hk⟩|⟨kvs,hk⟩
    ·obtain⟨_,_,_,_,o,_,_,e,ex,_⟩:=I.hok p _ hk;exact⟨o,e,ex⟩
    ·obtain⟨_,_,_,_,o,_,_,e,ex,_⟩:=I.hok p _ hk;exact⟨o,e,ex⟩
   obtain⟨o,e,ex⟩:=z;refine⟨⟨o,e,ex.1⟩,fun a e2=>?_⟩;cases e2;exact⟨o,e,ex.2.1⟩
  ·obtain⟨o,_,_,_,e,ex,_⟩:=I.hok p _ hk;refine⟨⟨o,e,ex.1⟩,fun a e2=>?_⟩;cases e2;exact⟨o,e,ex.2.1⟩
 |_=>exact BB ty
def tBM(K:A0)(T:String)(r:V->List V->Hp->VK->Prop)(to:TE)(t:TA):TE:=fun σ H Q=>to σ H fun x H1=>tyV K T x H1/\t σ H1 fun xs H2=>r x xs H2 Q
variable{o e:Expr}{es:List Expr}{to:TE}{t:TA}{name:Str}{apos cpos:Pos}{T id:String}{r:V->List V->Hp->VK->Prop}
theorem vt(pa:PlainAttrs T)(slot:Slot T name id)(hty:typeOf (.builtin id)=pure (.type "method_descriptor"))(hm:MtR X id r)(ho:PE X o to)(ha:PA X (e::es) t)
 (hbase:attributeBase o name X.env (eval o X.env)=eval o X.env:=by rfl)
 (hfew:((Cy cpos (AF (e::es) X.env)).all (fun x=>!x.1)&&(backToKw cpos (keywordEach [] X.env)).all (fun x=>x.1.isSome)
  && decide ((e::es).length+([]:List Keyword).length+(if([]:List Keyword).isEmpty then 0 else 1)<30))=true:=by rfl)
 (hline:(apos.endLine==cpos.line)=true:=by rfl) (hs:AF (e::es) X.env=(false,eval e X.env)::AF es X.env:=by rfl) (hplain:(Cy cpos (AF es X.env)).any (·.1)=false:=by rfl) :
 PE X (.Call (.Attribute o name apos) (e::es) [] cpos) (tBM X.K T r to t):=by
 intro pins s σ H Q I h
 refine wpAny_Call_method_late hbase hfew hline rfl (thn (ho pins s σ H _ I h) fun v s1 zz69_0=>?_)
 obtain⟨x,H1,I1,r1,ty,q1⟩:=zz69_0
 obtain⟨h1,h2⟩:=vL I1 r1 ty
 refine⟨T,id,pa,slot,hty,h1,h2,?_⟩
 have hA:=ha cpos pins s1 σ H1 _ I1 q1
 rw[hs]at hA ⊢
 refine Calls.callWith_builtin (by show(false||(Cy cpos (AF es X.env)).any (·.1))=false;rw[hplain]<;>rfl) (Calls.evalArgs_plain ?_)
 exact thn hA fun us s2 zz70_0=>by obtain⟨vs,H2,I2,r2,q2⟩:=zz70_0;exact(hm pins s2 σ H2 x vs v us Q I2 r1 r2 q2)
/- xs.append(e),list.index on a module's tuple .. are MtR facts of 06m -/
end
def MtM(X:Cx)(id:String)(r:V->List V->Hp->VK->Prop):Prop:=
 ∀(pins:List (Addr×Obj)) (s:A2) (σ:St) (H:Hp) (x:V) (xs:List V) (v:A1) (us:List A1) (Q:VK),Inv X pins σ H s->RelV x v->Vals xs us->r x xs H Q->
  A9 (Ay X.prog X.w) X.A (call (.builtin id) (v::us)) (EP X pins σ Q) X.xe s
theorem Vals.one:∀{x:V} {us:List A1},Vals [x] us->∃u,us=[u]/\RelV x u
 |_,_,.cons r .nil=>⟨_,rfl,r⟩
theorem Vals.two:∀{x y:V} {us:List A1},Vals [x,y] us->∃u v,us=[u,v]/\RelV x u/\RelV y v
 |_,_,_,.cons r (.cons q .nil)=>⟨_,_,rfl,r,q⟩
section
variable{X:Cx}{pins:List (Addr×Obj)}{σ:St}{H:Hp}{s:A2}{l b:Addr}{xs ys zs:List V}
theorem Inv.yT{its its':List A1}{n:Nat}{f:Array A1->Array A1}{t':Nat}(I:Inv X pins σ H s)(hH:H l=some (.lst xs))
 (e:s.heap.get? l=some { cls:=.type "list",data:=.seq its.toArray n }) (hf:f its.toArray=its'.toArray) (hv:Vals ys its') (hz:ys.length<=AI) :
 Inv X pins σ (upd H l (.lst ys)) { s with heap:=s.heap.update l (Bh f),toks:=t' }:=by
 have q:=PySem.IsL.update e f
 rw[hf]at q
 refine I.write (x:=l) (e:=l) (by rw[hH];exact trivial) (.inl rfl) (fun b' u hb hu=>(AR s.heap (Bh f) (Ne.symm hb)).trans hu) ⟨_,q⟩ ?_
 exact⟨hz,its',_,hv,q⟩
theorem Inv.zY{its:List A1}{t':Nat}(I:Inv X pins σ H s)(hv:Vals ys its)(hz:ys.length<=AI) : Inv X pins σ (upd H s.heap.objs.size (.lst ys)) { s with heap:=s.heap.push { cls:=.type "list",data:=.seq its.toArray },toks:=t' }:=I.laid (fun _ _ q=>A3 _ q) (A7 _) ⟨hz,its,0,hv,Aq _ rfl⟩
theorem Inv.fresh(I:Inv X pins σ H s):H s.heap.objs.size=none:=I.hok.fresh (A7 _)
theorem Inv.lM(I:Inv X pins σ H s)(hH:H l=some (.lst xs)):xs.length<=AI/\∃(its:List A1) (n:Nat),Vals xs its/\xs.length=its.length/\s.heap.get? l=some { cls:=.type "list",data:=.seq its.toArray n }:=by obtain⟨z,its,n,r,e⟩:=I.hok l _ hH;exact⟨z,its,n,r,r.length,e⟩
end
section
variable{X:Cx}
def tM:V->List V->Hp->VK->Prop:=fun x vs H Q=>∃l xs y,x=.ref l/\vs=[y]/\H l=some (.lst xs)/\xs.length<AI/\Q .non (upd H l (.lst (xs++[y])))
theorem jv:MtM X "list.append" tM:=by intro pins s σ H x vs v us Q I rx rv h;obtain⟨l,xs,y,rfl,rfl,hH,hz,q⟩:=h;cases rx;obtain⟨u,rfl,ru⟩:=rv.one;obtain⟨z,its,n,r,hl,e⟩:=I.lM hH;refine call_meets F.slot_list_append ⟨_,e,rfl⟩ F.entry_list_append (F.args_list_append_2 _ _) (PySem.list_append l its.toArray n u (by rw[Ar];omega)) ⟨e,?_⟩;refine⟨.non,_,I.yT (its':=its++[u]) hH e (by simp) (r.append (.cons ru .nil)) ?_,rfl,q⟩;rw[Bb,List.length_singleton];omega
def zM:R2:=fun x y H Q=>∃l b xs zs,x=.ref l/\y=.ref b/\H l=some (.lst xs)/\H b=some (.lst zs)/\xs.length+zs.length<=AI/\∀p,H p=none->Q (.ref p) (upd H p (.lst (xs++zs)))
theorem xK:OpR X (Cg .Add) zM:=by
 intro pins s σ H x y v u Q I rx ry h;obtain⟨l,b,xs,zs,rfl,rfl,hH,hB,hz,q⟩:=h;cases rx;cases ry;obtain⟨z,its,n,r,hl,e⟩:=I.lM hH;obtain⟨z2,its2,n2,r2,hl2,e2⟩:=I.lM hB;refine PySem.P.add_list e e2 ?_ (by rw[Ar,Ar];omega);have ea:its.toArray++its2.toArray=(its++its2).toArray:=by simp
 rw[ea];exact⟨.ref _,_,I.zY (t':=s.toks) (r.append r2) (by rw[Bb];omega),rfl,q _ I.fresh⟩
end
end L2
namespace Att
open PySem PySem.W PySem.Calls PyProof.Rows
theorem fY{P:AA}{h:Heap}:∀(ns:List Int) (vs:List A1),WellAll P h vs (ns.map WData.int)->By vs ns:=by
 intro ns
 induction ns with
 |nil=>
  intro vs w
  rw[BF]at w
  cases w
  exact .nil
 |cons n ns ih=>
  intro vs w
  rw[Av]at w
  cases w with
  |cons a b=>
   cases a
   exact .cons _ _ (ih _ b)
theorem oC{l:OpenLaw}{n:Nat}(hn:l.most=some n){P:AA}{h:Heap}{args:List WData}{vals:List A1}
 (hpre:l.row.toRowW.claim.pre args=true) (hwl:WellAll P h vals args) :
 ∃a vs ns,vals=[BH a]/\args=[WData.list (ns.map WData.int)]/\h.get? a=some { cls:=.type "list",data:=.seq vs.toArray }/\By vs ns/\ns.length<=n:=by
 have hsh:WShape.hasAll [] args [.list .int]=true:=(pre_splitW hpre).1
 have hc:l.pre.holds [] { args:=args }=true:=(pre_splitW hpre).2
 obtain⟨d,r,rfl,h1,h2⟩:=hasAllW_cons hsh
 obtain rfl:=hasAllW_nil h2
 obtain⟨xs,rfl,h3⟩:=hasW_list h1
 obtain⟨ns,rfl⟩:=items_int h3
 have hlen:ns.length<=n:=by
  unfold OpenLaw.pre at hc
  have h4:(WTm.not (.lt (.lit (.int (n:Int))) (.len (.arg 0)))).holds [] { args:=[.list (ns.map .int)] }=true:=by
   have h4:=(holds_andW hc).1
   rw[hn]at h4
   exact h4
  have h5:=condW_of h4 (w_not (w_lt w_lit (w_len_list (w_arg rfl))))
  rw[A4]at h5
  refine Nat.le_of_not_lt fun q=>?_
  have q':(n:Int)<((ns.length:Nat):Int):=by omega
  first
   |(rw[decide_eq_true q']at h5;exact absurd h5 (by decide))
   |(simp at h5;omega)
 cases hwl with
 |cons w1 w2=>
  cases w2
  cases w1 with
  |list ho hall=>exact⟨_,_,ns,rfl,rfl,ho,fY ns _ hall,hlen⟩
theorem pE(l:OpenLaw)(args:List WData):l.row.toRowW.claim.post args (.bool true) args=true:=
 postW_of (r:=l.row.toRowW) (X:=(true==true))
  (show WShape.has [] (.bool true) .bool=true by first|rfl|decide|simp[WShape.has,WShape.arms,WShape.armsAll])
  (show(WTm.eq .res (.lit (.bool true))).value [] { args:=args,res:=some (.bool true),after:=args }=some (.bool (true==true))from w_eq_bool (w_res rfl) w_lit) rfl
theorem kh{l:OpenLaw}{n:Nat}{q:Au}{loose:List Str}{XP:(Str->Option A1)->Heap->Prop}{YP:AU->Heap->Prop}{d:DefRec}
 (hn:l.most=some n) (hdf:d.params.defaults=[])
 (call:∀(w:AU) (s₀ s₁:A2) (mg mb:Str->Option A1) (fa:Addr) (o:Obj) (pm cd doc:A1) (a:Addr) (vs:List A1) (ns:List Int),
  Ground q loose [] XP w s₀ mg mb s₁.heap->YP w s₁.heap->
  s₁.heap.get? fa=some o->o.data=.func (docDef d.name d.params d.body d.scope pm cd doc)->s₁.heap.CodeRec cd d.name->mg d.name=some (.ref fa)->
  s₁.heap.get? a=some { cls:=.type "list",data:=.seq vs.toArray }->By vs ns->ns.length<=n->s₁.gens=#[]->
  codeAny (Ay l.prog w) callerA (.call (.ref fa) ⟨[.ref a],[]⟩) (fun r s'=>r=.ok (.ret (.bool true))/\OldK s₁.heap s'.heap/\s'.os=s₁.os/\AllBare s'.gens) s₁) :
 WalkO q loose XP YP l.row.toRowW d [] (fun f vs=>PySem.call f vs):=by
 intro w s₀ s₁ mg mb G Y fa o pm cd doc dV kV ho hd hcd hD hmg hg args vals as hpre hlay hrd hwl hlo
 obtain rfl:dV=.none:=Dflts.none hD hdf
 obtain rfl:kV=.none:=Dflts.noKw hD
 obtain⟨a,vs,ns,rfl,rfl,hobj,hints,hlen⟩:=oC hn hpre hwl
 refine enter_call (codeAny_mono (call w s₀ s₁ mg mb fa o pm cd doc a vs ns G Y ho (fd_plain hd) hcd hmg hobj hints hlen hg) fun r s' hq=>?_)
 obtain⟨rfl,h2,h3,h4⟩:=hq
 exact⟨.inl ⟨.bool true,.bool true,[],rfl,fun _=>rfl,.bool true,pE l _,fun _=>⟨List.Pairwise.nil,fun _ hm=>(nomatch hm)⟩⟩,h2,h3,h4⟩
section
variable{prog:Au}{w:AU}{A:AQ}{E:A1->A2->Prop}{s:A2}{K:Frag}
end
end Att
namespace L2
open PySem PySem.Spec PyProof.Rows
theorem ja:∀{vs:List A1} {ns:List Int},By vs ns->Vals (ns.map V.int) vs
 |_,_,.nil=>.nil
 |_,_,.cons n t h=>.cons ⟨t,rfl⟩ (ja h)
abbrev KOf{K:A0}{h:Heap}(_:K.In h):A0:=K
def aZ(s:Stmt):Arguments:=match s with
 |.FunctionDef _ a _ _ _ _ _ _ _ _=>a
 |_=>{ posonlyargs:=[],args:=[],vararg:=none,kwonlyargs:=[],kw_defaults:=[],kwarg:=none,defaults:=[] }
def aN(s:Stmt):List Stmt:=match s with
 |.FunctionDef _ _ b _ _ _ _ _ _ _=>b
 |_=>[]
def ak(s:Stmt):BY:=match s with
 |.FunctionDef _ _ _ _ _ _ sc _ _ _=>sc
 |_=>{ kind:=.function,names:=[],isGenerator:=false,isCoroutine:=false }
abbrev CX0:CXT:=fun _ _ _ _ _ _=>False
abbrev E0:XK:=fun _ _ _=>False
theorem yR{X:Cx}:Passes CX0 X E0:=fun _ _ _ _ _ _ _ h=>h.elim
structure Fun(K:A0)(x qual:Str)(st:Stmt)(f:Addr)(fd:FuncData):Prop where
 ex:∃(oc:A1) (od:Option Addr) (kV doc pm:A1) (an:Option Addr) (cdv ct:A1) (osl:Array (Option A1)),
  fd=Bt x qual (aZ st) (aN st) (ak st) .none kV doc pm an cdv ct/\K.lookup f=some ⟨oc,od,.func fd,osl⟩/\PySem.W.codeIn K cdv qual=true
 kp:Cq K (.ref f)=true
section
variable{P:Au}{w:AU}{K:A0}{mg:Str->Option A1}{base:Heap}
theorem Fun.ok{x qual:Str}{st:Stmt}{f:Addr}{fd:FuncData}{N ps:List Str}{k:Nat}{sp:Sp}(F:Fun K x qual st f fd)(S:FnScope N ps (ak st))(len:∀vs H Q E,sp vs H Q E->vs.length=ps.length)
 (hbody:∀(cdv:A1) (A:AQ) (outer:List Env) (s:A2) (H:Hp) (vs:List V) (Q:VK) (E:XK),Room k (A.deeper (envOfC qual (ak st) s.heap.objs.size f cdv))->sp vs H Q E->
  ∃t,PSs (fy CX0 P w K mg base N qual (ak st) f cdv A outer s H E).nox (aN st) t/\t { nx:=fun _ H'=>Q .non H',rt:=Q } (start N vs) H):FnOk P w K mg base CX0 (k+1) f fd ps sp:=by
 obtain⟨oc,od,kV,doc,pm,an,cdv,ct,osl,rfl,lk,hcd⟩:=F.ex
 refine uY lk hcd S len fun A outer s H vs Q E hr hsp=>?_
 obtain⟨t,h,q⟩:=hbody cdv A outer s H vs Q E hr hsp
 exact⟨t,h.nox,q⟩
theorem Fun.binds{x qual:Str}{st:Stmt}{f:Addr}{fd:FuncData}{ps:List Str}(F:Fun K x qual st f fd) (h:∀(kV doc pm:A1) (an:Option Addr) (cdv ct:A1) (us:List A1),us.length=ps.length->bindArgs (Bt x qual (aZ st) (aN st) (ak st) .none kV doc pm an cdv ct) ⟨us,[]⟩=pure (ps.zip us)):Binds K fd ps []:=by obtain⟨oc,od,kV,doc,pm,an,cdv,ct,osl,rfl,lk,hcd⟩:=F.ex;exact .all (h kV doc pm an cdv ct)
theorem xQ{x qual:Str}{st:Stmt}{f:Addr}{oc:A1}{od an:Option Addr}{osl:Array (Option A1)}{kV doc pm cdv ct:A1}(l:K.lookup f=some ⟨oc,od,.func (Bt x qual (aZ st) (aN st) (ak st) .none kV doc pm an cdv ct),osl⟩) (c:PySem.W.codeIn K cdv qual=true) (k:Cq K (.ref f)=true):Fun K x qual st f (Bt x qual (aZ st) (aN st) (ak st) .none kV doc pm an cdv ct):=⟨⟨oc,od,kV,doc,pm,an,cdv,ct,osl,rfl,l,c⟩,k⟩
end
theorem zW{A B:Prop}(h:A):if true=true then A else B:=by rw[if_pos rfl];exact h
theorem b7{c A B:Prop}[Decidable c](h1:c->A)(h2:¬c->B):if c then A else B:=by
 by_cases h:c
 ·rw[if_pos h];exact h1 h
 ·rw[if_neg h];exact h2 h
section
variable{X:Cx}{pins:List (Addr×Obj)}{σ:St}{H:Hp}{s:A2}{a:Addr}{y v:V}{u r:A1}{o:Option V}{A:AQ}{E:A1->A2->Prop}
theorem Inv.big(I:Inv X pins σ H s):Cv<s.heap.objs.size:=by have h:Bm<s.heap.objs.size:=(I.mod.glob.keeps I.bk).lt;exact Nat.lt_trans (by decide) h
theorem jz{h':Heap}{t':Nat}{ob:HO}(I:Inv X pins σ H s)(mu:Mut (H a))(hs:Cw a s.heap h')(he:∃q,h'.get? a=some q)(new:bo X.prog X.w (upd H a ob) h' a ob) : Inv X pins σ (upd H a ob) { s with heap:=h',toks:=t' }:=I.write (x:=a) (e:=a) mu (.inl rfl) (fun b q hb z=>(hs.2 b hb).trans z) he new
end
def yi(i:Expr):Prop:=∀ov iv,subscripted i false ov iv=operate [ov,iv] (getItem ov iv)
end L2
namespace SD
theorem xg{α:Type}{l:List α}(h:l.length=1):∃a,l=[a]:=by
 cases l with
 |nil=>cases h
 |cons a l=>
  cases l with
  |nil=>exact⟨a,rfl⟩
  |cons b l=>cases h
theorem Ao{α:Type}{n:Nat}{l:List α}(h:l.length=n+1):∃a r,l=a::r/\r.length=n:=by
 cases l with
 |nil=>cases h
 |cons a l=>exact⟨a,l,rfl,Nat.succ.inj h⟩
theorem yd{α:Type}{l:List α}(h:l.length=2):∃a b,l=[a,b]:=by obtain⟨a,r,rfl,h2⟩:=Ao h;obtain⟨b,rfl⟩:=xg h2;exact⟨a,b,rfl⟩
open PySem PySem.Spec PyProof.Rows L2
inductive D where
 |non|bl (b:Bool)|int (i:Int)|str (x:Str)|ty (n:String)|ref (a:Addr)|rol (ds:List D)|tup (ds:List D)
def SqF(K:A0)(H:Hp)(a:Addr)(xs:List V):Prop:=
 (∃o,H a=some (.frz o (.lst xs)))\/
  ∃(o:Obj) (its:Array A1) (n:Nat),K.lookup a=some o/\o.cls=.type "list"/\o.dict=none/\o.data=.seq its n/\its.size<=AI/\Vals xs its.toList
theorem SqF.sql{K:A0}{H:Hp}{a:Addr}{xs:List V}(h:SqF K H a xs):SqL K H a xs:=by
 rcases h with h|h
 ·exact .inl (.inr h)
 ·exact .inr h
mutual
def Rep(K:A0)(H:Hp):D->V->Prop
 |.non,v=>v=.non
 |.bl b,v=>v=.bl b
 |.int i,v=>v=.int i
 |.str x,v=>v=.str x
 |.ty n,v=>v=.ty n
 |.ref a,v=>v=.ref a
 |.rol ds,v=>∃a xs,v=.ref a/\SqF K H a xs/\av K H ds xs
 |.tup ds,v=>∃a xs,v=.ref a/\SqT K H a xs/\av K H ds xs
def av(K:A0)(H:Hp):List D->List V->Prop
 |[],xs=>xs=[]
 |d::ds,xs=>∃x r,xs=x::r/\Rep K H d x/\av K H ds r
end
structure Grow(K:A0)(H H':Hp):Prop where
 t:∀a xs,SqT K H a xs->SqT K H' a xs
 f:∀a xs,SqF K H a xs->SqF K H' a xs
theorem Grow.refl{K:A0}{H:Hp}:Grow K H H:=⟨fun _ _ h=>h,fun _ _ h=>h⟩
theorem Grow.trans{K:A0}{H H1 H2:Hp}(a:Grow K H H1)(b:Grow K H1 H2):Grow K H H2:=⟨fun x y h=>b.t x y (a.t x y h),fun x y h=>b.f x y (a.f x y h)⟩
theorem Grow.put{K:A0}{H:Hp}{p:Addr}{o:HO}(h1:∀xs,H p≠some (.tup xs))(h2:∀u xs,H p≠some (.frz u xs)):Grow K H (upd H p o):=by
 refine⟨fun a xs h=>?_,fun a xs h=>?_⟩
 ·rcases h with(h|⟨u,h⟩)|h
  ·exact .inl (.inl (by rw[aF (by intro e;subst e;exact h1 _ h)];exact h))
  ·exact .inl (.inr ⟨u,by rw[aF (by intro e;subst e;exact h2 _ _ h)];exact h⟩)
  ·exact .inr h
 ·rcases h with⟨u,h⟩|h
  ·exact .inl ⟨u,by rw[aF (by intro e;subst e;exact h2 _ _ h)];exact h⟩
  ·exact .inr h
theorem Grow.new{K:A0}{H:Hp}{p:Addr}{o:HO}(h:H p=none):Grow K H (upd H p o):=.put (fun xs e=>by rw[h]at e;cases e) (fun u xs e=>by rw[h]at e;cases e)
theorem Grow.lst{K:A0}{H:Hp}{p:Addr}{o:HO}{xs:List V}(h:H p=some (.lst xs)):Grow K H (upd H p o):=.put (fun ys e=>by rw[h]at e;cases e) (fun u ys e=>by rw[h]at e;cases e)
mutual
theorem Rep.mono{K:A0}{H H':Hp}(g:Grow K H H'):∀{d:D} {v:V},Rep K H d v->Rep K H' d v
 |.non,_,h=>h
 |.bl _,_,h=>h
 |.int _,_,h=>h
 |.str _,_,h=>h
 |.ty _,_,h=>h
 |.ref _,_,h=>h
 |.rol ds,_,h=>by
  rw[Rep]at h ⊢
  obtain⟨a,xs,e,h1,h2⟩:=h
  exact⟨a,xs,e,g.f _ _ h1,av.mono g h2⟩
 |.tup ds,_,h=>by
  rw[Rep]at h ⊢
  obtain⟨a,xs,e,h1,h2⟩:=h
  exact⟨a,xs,e,g.t _ _ h1,av.mono g h2⟩
theorem av.mono{K:A0}{H H':Hp}(g:Grow K H H'):∀{ds:List D} {xs:List V},av K H ds xs->av K H' ds xs
 |[],_,h=>h
 |d::ds,_,h=>by
  rw[av]at h ⊢
  obtain⟨x,r,e,h1,h2⟩:=h
  exact⟨x,r,e,Rep.mono g h1,av.mono g h2⟩
end
section
variable{K:A0}{H H':Hp}
theorem av.nil:av K H [] []:=by rw[av]
theorem av.cons{d:D}{ds:List D}{x:V}{r:List V}(a:Rep K H d x)(b:av K H ds r):av K H (d::ds) (x::r):=by rw[av];exact⟨x,r,rfl,a,b⟩
theorem av.length:∀{ds:List D} {xs:List V},av K H ds xs->ds.length=xs.length
 |[],xs,h=>by rw[av]at h;subst h;rfl
 |d::ds,xs,h=>by
  rw[av]at h
  obtain⟨x,r,rfl,_,h2⟩:=h
  simp[av.length h2]
theorem av.get:∀{ds:List D} {xs:List V} {i:Nat} {d:D},av K H ds xs->ds[i]?=some d->∃x,xs[i]?=some x/\Rep K H d x
 |[],_,_,_,_,e=>by simp at e
 |_::_,xs,0,_,h,e=>by
  rw[av]at h
  obtain⟨x,r,rfl,h1,_⟩:=h
  simp at e;subst e
  exact⟨x,rfl,h1⟩
 |_::ds,xs,i+1,d,h,e=>by
  rw[av]at h
  obtain⟨x,r,rfl,_,h2⟩:=h
  simpa using av.get (i:=i) (d:=d) h2 (by simpa using e)
theorem av.set{d:D}{x:V}(a:Rep K H d x):∀{ds:List D} {xs:List V} (i:Nat),av K H ds xs->av K H (ds.set i d) (xs.set i x)
 |[],_,_,h=>by rw[av]at h;subst h;simp[av.nil]
 |_::_,_,0,h=>by
  rw[av]at h
  obtain⟨y,r,rfl,_,h2⟩:=h
  exact .cons a h2
 |_::ds,_,i+1,h=>by
  rw[av]at h
  obtain⟨y,r,rfl,h1,h2⟩:=h
  exact .cons h1 (av.set a i h2)
theorem av.append:∀{ds es:List D} {xs ys:List V},av K H ds xs->av K H es ys->av K H (ds++es) (xs++ys)
 |[],_,_,_,h,k=>by rw[av]at h;subst h;exact k
 |_::ds,_,_,_,h,k=>by
  rw[av]at h
  obtain⟨y,r,rfl,h1,h2⟩:=h
  exact .cons h1 (av.append h2 k)
theorem av.of_get:∀{ds:List D} {xs:List V},ds.length=xs.length->(∀(i:Nat) d x,ds[i]?=some d->xs[i]?=some x->Rep K H d x)->av K H ds xs
 |[],[],_,_=>.nil
 |[],_::_,h,_=>by simp at h
 |_::_,[],h,_=>by simp at h
 |d::ds,x::xs,h,k=>.cons (k 0 d x rfl rfl) (av.of_get (by simpa using h) fun i d x a b=>k (i+1) d x (by simpa using a) (by simpa using b))
theorem av.take{ds:List D}{xs:List V}(n:Nat)(h:av K H ds xs):av K H (ds.take n) (xs.take n):=by
 refine .of_get (by simp[h.length]) fun i d x a b=>?_
 have hi:i<n:=by
  rw[List.getElem?_take]at a;split at a
  ·assumption
  ·cases a
 rw[List.getElem?_take_of_lt hi]at a b;obtain⟨y,e,r⟩:=h.get a;rw[e]at b;cases b;exact r
theorem av.drop{ds:List D}{xs:List V}(n:Nat)(h:av K H ds xs):av K H (ds.drop n) (xs.drop n):=by refine .of_get (by simp[h.length]) fun i d x a b=>?_;rw[List.getElem?_drop]at a b;obtain⟨y,e,r⟩:=h.get a;rw[e]at b;cases b;exact r
theorem ft:∀(ns:List Int),av K H (ns.map D.int) (ns.map V.int)
 |[]=>.nil
 |n::ns=>.cons (by rw[Rep]) (ft ns)
end
def Aa(a C:Addr):Heap->Prop:=fun h=>∃o,h.get? a=some o/\o.cls=.ref C
inductive MO where
 |lst (ds:List D)|err (C:Addr)
 |dct (n:Nat) (P:List Int->Bool)
 |gen (A:A0->Hp->Addr->Prop)
abbrev MH:=Addr->Option MO
def lT(K:A0)(H:Hp)(a:Addr):MO->Prop
 |.lst ds=>∃xs,H a=some (.lst xs)/\av K H ds xs
 |.err C=>H a=some (.ext (Aa a C))
 |.dct n P=>∃kvs:List (List Key×V),H a=some (.dT kvs)/\kvs.length<=n/\∀k:List Int,(kvs.any fun kv=>decide (kv.1=k.map Sum.inl))=P k
 |.gen A=>A K H a/\H a≠none/\∀H',Grow K H H'->H' a=H a->A K H' a
def Abs(K:A0)(H:Hp)(M:MH):Prop:=∀a o,M a=some o->lT K H a o
def aA(M:MH)(a:Addr)(o:MO):MH:=fun b=>if b=a then some o else M b
theorem ag{M:MH}{a:Addr}{o:MO}:aA M a o a=some o:=by unfold aA;rw[if_pos rfl]
theorem ao{M:MH}{a b:Addr}{o:MO}(h:b≠a):aA M a o b=M b:=by unfold aA;rw[if_neg h]
theorem cy{M:MH}{a:Addr}{o u:MO}:aA (aA M a o) a u=aA M a u:=by funext b;unfold aA;split<;>rfl
section
variable{K:A0}{H H':Hp}{M:MH}
theorem lT.some{a:Addr}{o:MO}(h:lT K H a o):H a≠none:=by
 cases o with
 |lst ds=>
  obtain⟨xs,h1,_⟩:=h
  rw[h1];simp
 |err C=>rw[show H a=_ from h];simp
 |dct n P=>
  obtain⟨kvs,h1,_⟩:=h
  rw[h1];simp
 |gen A=>exact h.2.1
theorem Abs.fresh(h:Abs K H M){p:Addr}(hp:H p=none):M p=none:=by
 cases e:M p with
 |none=>rfl
 |some o=>exact absurd hp (h p o e).some
theorem lT.dt{a:Addr}{o:MO}(g:Grow K H H')(e:H' a=H a)(h:lT K H a o):lT K H' a o:=by
 cases o with
 |lst ds=>
  obtain⟨xs,h1,h2⟩:=h
  exact⟨xs,e.trans h1,h2.mono g⟩
 |err C=>exact e.trans h
 |dct n P=>
  obtain⟨kvs,h1,h2⟩:=h
  exact⟨kvs,e.trans h1,h2⟩
 |gen A=>exact⟨h.2.2 H' g e,fun z=>h.2.1 (by rw[<-e];exact z),fun H2 g2 e2=>h.2.2 H2 (g.trans g2) (e2.trans e)⟩
theorem Abs.new{p:Addr}{o:HO}(h:Abs K H M)(hp:H p=none):Abs K (upd H p o) M:=fun a u e=>by
 have ne:a≠p:=fun z=>by subst z;rw[h.fresh hp]at e;cases e
 exact(h a u e).dt (.new hp) (aF ne)
theorem Abs.bF{p:Addr}{xs:List V}{ds:List D}(h:Abs K H M)(hp:H p=none)(r:av K H ds xs):Abs K (upd H p (.lst xs)) (aA M p (.lst ds)):=fun a u e=>by
 by_cases ne:a=p
 ·subst ne;rw[ag]at e;cases e;exact⟨xs,aD,r.mono (.new hp)⟩
 ·rw[ao ne]at e;exact(h a u e).dt (.new hp) (aF ne)
theorem Abs.tJ{p:Addr}{xs ys:List V}{ds:List D}(h:Abs K H M)(hp:H p=some (.lst xs))(r:av K H ds ys):Abs K (upd H p (.lst ys)) (aA M p (.lst ds)):=fun a u e=>by
 by_cases ne:a=p
 ·subst ne;rw[ag]at e;cases e;exact⟨ys,aD,r.mono (.lst hp)⟩
 ·rw[ao ne]at e;exact(h a u e).dt (.lst hp) (aF ne)
theorem Abs.sub{M':MH}(h:Abs K H M)(s:∀a o,M' a=some o->M a=some o):Abs K H M':=fun a o e=>h a o (s a o e)
end
abbrev DS:=List (Option D)
structure Slots(K:A0)(H:Hp)(δ:DS)(σ:L2.St):Prop where
 len:δ.length=σ.length
 at':∀(i:Nat) d,δ[i]?=some (some d)->∃v,σ[i]?=some (some v)/\Rep K H d v
section
variable{K:A0}{H H':Hp}{δ:DS}{σ:L2.St}
theorem Slots.mono(g:Grow K H H')(h:Slots K H δ σ):Slots K H' δ σ:=⟨h.len,fun i d e=>let⟨v,a,b⟩:=h.at' i d e;⟨v,a,b.mono g⟩⟩
theorem Slots.set{d:D}{v:V}(r:Rep K H d v)(i:Nat)(h:Slots K H δ σ):Slots K H (δ.set i (some d)) (σ.set i (some v)):=by
 refine⟨by simp[h.len],fun j e q=>?_⟩;rw[List.getElem?_set]at q;by_cases hij:i=j
 ·subst hij;rw[if_pos rfl]at q;by_cases hl:i<δ.length
  ·rw[if_pos hl]at q;cases q;exact⟨v,by rw[List.getElem?_set,if_pos rfl,if_pos (by rw[<-h.len];exact hl)],r⟩
  ·rw[if_neg hl]at q;cases q
 ·rw[if_neg hij]at q;obtain⟨v',e1,e2⟩:=h.at' j e q;exact⟨v',by rw[List.getElem?_set,if_neg hij];exact e1,e2⟩
theorem fW{N:List Str}{ds:List D}{vs:List V}(r:av K H ds vs):Slots K H (ds.map some++List.replicate (N.length-ds.length) none) (L2.start N vs):=by
 have hl:=r.length;refine⟨by unfold L2.start;simp[hl],fun i d e=>?_⟩;unfold L2.start;by_cases hi:i<ds.length
 ·rw[Bn (by simpa using hi),Az]at e;cases q:ds[i]? with
  |none=>rw[q]at e;cases e
  |some d'=>
   rw[q]at e;cases e
   obtain⟨x,e1,e2⟩:=r.get q
   refine⟨x,?_,e2⟩
   rw[Bn (by simp;omega),Az,e1];rfl
 ·rw[Bg (by simpa using hi),List.getElem?_replicate]at e;split at e<;>cases e
end
abbrev DK:=D->MH->Prop
abbrev TD:=DS->MH->DK->Prop
abbrev TTD:=DS->MH->(Bool->MH->Prop)->Prop
abbrev TAD:=DS->MH->(List D->MH->Prop)->Prop
structure EndsD where
 nx:DS->MH->Prop
 rt:DK
 bk:DS->MH->Prop:=fun _ _=>False
 ct:DS->MH->Prop:=fun _ _=>False
abbrev TSD:=EndsD->DS->MH->Prop
section
variable(K:A0)
def Fin(H:Hp)(R:DK)(Q:VK):Prop:=∀d M' v H',Grow K H H'->Rep K H' d v->Abs K H' M'->R d M'->Q v H'
def tE(H:Hp)(R:Bool->MH->Prop)(Q:Bool->Hp->Prop):Prop:=∀b M' H',Grow K H H'->Abs K H' M'->R b M'->Q b H'
def FinA(H:Hp)(R:List D->MH->Prop)(Q:List V->Hp->Prop):Prop:=∀ds M' vs H',Grow K H H'->av K H' ds vs->Abs K H' M'->R ds M'->Q vs H'
def lift(t:TD):TE:=fun σ H Q=>∃δ M R,Slots K H δ σ/\Abs K H M/\t δ M R/\Fin K H R Q
def liftT(t:TTD):TT:=fun σ H Q=>∃δ M R,Slots K H δ σ/\Abs K H M/\t δ M R/\tE K H R Q
def sr(t:TAD):TA:=fun σ H Q=>∃δ M R,Slots K H δ σ/\Abs K H M/\t δ M R/\FinA K H R Q
structure EndsOk(H:Hp)(B:EndsD)(E:Ends):Prop where
 nx:∀δ M σ H',Grow K H H'->Slots K H' δ σ->Abs K H' M->B.nx δ M->E.nx σ H'
 rt:∀d M v H',Grow K H H'->Rep K H' d v->Abs K H' M->B.rt d M->E.rt v H'
 bk:∀δ M σ H',Grow K H H'->Slots K H' δ σ->Abs K H' M->B.bk δ M->E.bk σ H'
 ct:∀δ M σ H',Grow K H H'->Slots K H' δ σ->Abs K H' M->B.ct δ M->E.ct σ H'
def u0(t:TSD):TS:=fun E σ H=>∃δ M,Slots K H δ σ/\Abs K H M/\∃B,EndsOk K H B E/\t B δ M
end
def DE(X:Cx)(e:Expr)(t:TD):Prop:=PE X e (lift X.K t)
def DT(X:Cx)(e:Expr)(t:TTD):Prop:=PT X e (liftT X.K t)
def DW(X:Cx)(e:Expr)(t:TTD):Prop:=PW X e (liftT X.K t)
def DA(X:Cx)(es:List Expr)(t:TAD):Prop:=PA X es (sr X.K t)
def DSt(X:Cx)(st:Stmt)(t:TSD):Prop:=PS X st (u0 X.K t)
def DSs(X:Cx)(st:List Stmt)(t:TSD):Prop:=PSs X st (u0 X.K t)
theorem aT{X:Cx}{e:Expr}{t t':TE}(h:PE X e t)(k:∀σ H Q,t' σ H Q->t σ H Q):PE X e t':=fun pins s σ H Q I q=>h pins s σ H Q I (k σ H Q q)
theorem mH{X:Cx}{e:Expr}{t t':TT}(h:PT X e t)(k:∀σ H Q,t' σ H Q->t σ H Q):PT X e t':=fun pins s σ H Q I q=>h pins s σ H Q I (k σ H Q q)
theorem qc{X:Cx}{e:Expr}{t t':TT}(h:PW X e t)(k:∀σ H Q,t' σ H Q->t σ H Q):PW X e t':=fun wh pins s σ H Q I q=>h wh pins s σ H Q I (k σ H Q q)
theorem rP{X:Cx}{e:List Expr}{t t':TA}(h:PA X e t)(k:∀σ H Q,t' σ H Q->t σ H Q):PA X e t':=fun pos pins s σ H Q I q=>h pos pins s σ H Q I (k σ H Q q)
theorem b8{X:Cx}{e:Stmt}{t t':TS}(h:PS X e t)(k:∀D σ H,t' D σ H->t D σ H):PS X e t':=fun pins s σ H D I q=>h pins s σ H D I (k D σ H q)
theorem nG{X:Cx}{e:List Stmt}{t t':TS}(h:PSs X e t)(k:∀D σ H,t' D σ H->t D σ H):PSs X e t':=fun pins s σ H D I q=>h pins s σ H D I (k D σ H q)
section
variable{K:A0}{H H1 H':Hp}
theorem Fin.go{R:DK}{Q:VK}(g:Grow K H H1)(h:Fin K H R Q):Fin K H1 R Q:=fun d M v H' g'=>h d M v H' (g.trans g')
theorem tE.go{R:Bool->MH->Prop}{Q:Bool->Hp->Prop}(g:Grow K H H1)(h:tE K H R Q):tE K H1 R Q:=fun b M H' g'=>h b M H' (g.trans g')
theorem EndsOk.go{B:EndsD}{E:Ends}(g:Grow K H H1)(h:EndsOk K H B E):EndsOk K H1 B E:=⟨fun d M v H' g'=>h.nx d M v H' (g.trans g'),fun d M v H' g'=>h.rt d M v H' (g.trans g'),fun d M v H' g'=>h.bk d M v H' (g.trans g'),fun d M v H' g'=>h.ct d M v H' (g.trans g')⟩
end
section
variable{X:Cx}
inductive tVarD(i:Nat)(δ:DS)(M:MH)(Q:DK):Prop
 |mk (d:D) (h:δ[i]?=some (some d)) (q:Q d M):tVarD i δ M Q
def tCD(d:D):TD:=fun _ M Q=>Q d M
theorem dv(i:Nat){x:Str}{pos:Pos}(hN:X.N[i]?=some x:=by rfl)(hv:Vis X.env.scope x:=by first|exact Or.inl rfl|exact Or.inr (Or.inl rfl)|exact Or.inr (Or.inr rfl))(hd:(x==("__debug__":Str))=false:=by decide)
 (hcd:(x==("__classdict__":Str))=false:=by decide):DE X (.Name x pos) (tVarD i):=
 aT (xn hN hv hd hcd) fun σ H Q z9=>by
  obtain⟨δ,M,R,hs,hM,⟨d,e,r⟩,fin⟩:=z9
  obtain⟨v,e1,e2⟩:=hs.at' i d e
  exact⟨v,e1,fin d M v H .refl e2 hM r⟩
theorem dc{e:Expr}{v:V}{d:D}(h:PE X e (tC v))(r:∀H,Rep X.K H d v):DE X e (tCD d):=aT h fun σ H Q zz1_0=>by obtain⟨δ,M,R,hs,hM,q,fin⟩:=zz1_0;exact(fin d M v H .refl (r H) hM q)
theorem af{i j pos}:DE X (.Constant (.int i) j pos) (tCD (.int i)):=dc xP fun _=>by rw[Rep]
theorem eP{i j pos}:DE X (.Constant (.bool i) j pos) (tCD (.bl i)):=dc yf fun _=>by rw[Rep]
theorem fH{j pos}:DE X (.Constant .none j pos) (tCD .non):=dc vO fun _=>by rw[Rep]
theorem gD{x j pos}:DE X (.Constant (.str x) j pos) (tCD (.str x)):=dc xM fun _=>by rw[Rep]
end
abbrev R2D:=D->D->MH->DK->Prop
def j9(K:A0)(r:R2D):R2:=fun v u H Q=>∃x y M R,Rep K H x v/\Rep K H y u/\Abs K H M/\r x y M R/\Fin K H R Q
def OpD(X:Cx)(f:A1->A1->Sem A1)(r:R2D):Prop:=OpR X f (j9 X.K r)
def oB(r:R2D)(ta tb:TD):TD:=fun δ M Q=>ta δ M fun x M1=>tb δ M1 fun y M2=>r x y M2 Q
theorem fO{X:Cx}{f:A1->A1->Sem A1}{r r':R2}(h:OpR X f r)(k:∀x y H Q,r' x y H Q->r x y H Q):OpR X f r':=fun pins s σ H x y v u Q I a b q=>h pins s σ H x y v u Q I a b (k _ _ _ _ q)
theorem gf{K:A0}{r:R2D}{ta tb:TD}{σ:L2.St}{H:Hp}{Q:VK}(h:lift K (oB r ta tb) σ H Q):tOp (j9 K r) (lift K ta) (lift K tb) σ H Q:=by obtain⟨δ,M,R,hs,hM,q,fin⟩:=h;refine⟨δ,M,_,hs,hM,q,fun x M1 v H1 g1 r1 a1 q1=>?_⟩;exact⟨δ,M1,_,hs.mono g1,a1,q1,fun y M2 u H2 g2 r2 a2 q2=>⟨x,y,M2,R,r1.mono g2,r2,a2,q2,fin.go (g1.trans g2)⟩⟩
section
variable{X:Cx}{a b:Expr}{ta tb:TD}{pos:Pos}
theorem ar{op:Operator}{r:R2D}(ho:OpD X (Cg op) r)(ha:DE X a ta)(hb:DE X b tb):DE X (.BinOp a op b pos) (oB r ta tb):=aT (yD ho ha hb) fun _ _ _ h=>gf h
theorem dP{op:CmpOp}{r:R2D}(ho:OpD X (AX op) r)(ha:DE X a ta)(hb:DE X b tb)(hm:behindInMarks op b=false:=by exact qo _):DE X (.Compare a [op] [b] pos) (oB r ta tb):=aT (sH ho ha hb hm) fun _ _ _ h=>gf h
inductive IsBl(x:D)(M:MH)(Q:Bool->MH->Prop):Prop
 |mk (c:Bool) (h:x=.bl c) (q:Q c M):IsBl x M Q
def tBD(t:TD):TTD:=fun δ M Q=>t δ M fun x M1=>IsBl x M1 Q
theorem jk{K:A0}{t:TD}{t':TE}(ht:∀σ H Q,lift K t σ H Q->t' σ H Q){σ:L2.St}{H:Hp}{Q:Bool->Hp->Prop}(h:liftT K (tBD t) σ H Q):vf t' σ H Q:=by obtain⟨δ,M,R,hs,hM,q,fin⟩:=h;refine ht _ _ _ ⟨δ,M,_,hs,hM,q,fun x M1 v H1 g1 r1 a1 zz2_0=>?_⟩;obtain⟨c,e,q1⟩:=zz2_0;subst e;rw[Rep]at r1;exact⟨c,r1,fin c M1 H1 g1 a1 q1⟩
theorem aL{op:CmpOp}{r:R2D}(ho:OpD X (AX op) r)(ha:DE X a ta)(hb:DE X b tb)(hm:behindInMarks op b=false:=by exact qo _):DT X (.Compare a [op] [b] pos) (tBD (oB r ta tb)):=mH (t9 ho ha hb hm) fun _ _ _ h=>jk (fun _ _ _ h=>gf h) h
theorem eJ{e:Expr}{t:TD}(h:DE X e t)(he:∀whole,isTrue e X.env whole=(do let v <-whole;standAt e.pos;holding [v] (truthy v)):=by intro _;rfl):DT X e (tBD t):=
 mH (xy h he) fun _ _ _ h=>jk (t':=lift X.K t) (fun _ _ _ h=>h) h
end
section
variable{X:Cx}{a b c:Expr}{ta tb:TD}{tA tB':TTD}{rest:List Expr}{pos:Pos}
def uX(t u:TTD):TTD:=fun δ M Q=>t δ M fun c M1=>if c=true then u δ M1 Q else Q false M1
def yE(t u:TTD):TTD:=fun δ M Q=>t δ M fun c M1=>if c=true then Q true M1 else u δ M1 Q
def nk(t:TTD):TTD:=fun δ M Q=>t δ M fun c M1=>Q (!c) M1
theorem e7(ha:DT X a tA):DW X (.BoolOp .And [a] pos) tA:=sJ ha
theorem sk(ha:DT X a tA):DW X (.BoolOp .Or [a] pos) tA:=vX ha
theorem gQ(ha:DT X a tA)(hb:DW X (.BoolOp .And (b::rest) pos) tB'):DW X (.BoolOp .And (a::b::rest) pos) (uX tA tB'):=
 qc (vE ha hb) fun σ H Q zz3_0=>by obtain⟨δ,M,R,hs,hM,q,fin⟩:=zz3_0;exact(⟨δ,M,_,hs,hM,q,fun c M1 H1 g1 a1 q1=>by
  cases c with
  |true=>rw[if_pos rfl]at q1 ⊢;exact⟨δ,M1,R,hs.mono g1,a1,q1,fin.go g1⟩
  |false=>rw[if_neg AD]at q1 ⊢;exact fin _ _ _ g1 a1 q1⟩)
theorem vz(ha:DT X a tA)(hb:DW X (.BoolOp .Or (b::rest) pos) tB'):DW X (.BoolOp .Or (a::b::rest) pos) (yE tA tB'):=
 qc (y6 ha hb) fun σ H Q zz4_0=>by obtain⟨δ,M,R,hs,hM,q,fin⟩:=zz4_0;exact(⟨δ,M,_,hs,hM,q,fun c M1 H1 g1 a1 q1=>by
  cases c with
  |true=>rw[if_pos rfl]at q1 ⊢;exact fin _ _ _ g1 a1 q1
  |false=>rw[if_neg AD]at q1 ⊢;exact⟨δ,M1,R,hs.mono g1,a1,q1,fin.go g1⟩⟩)
theorem mG{e:Expr}{t:TTD}(h:DW X e t):DT X e t:=PW.pt h
theorem xR(ha:DT X a tA):DT X (.UnaryOp .Not a pos) (nk tA):=mH (xH ha) fun σ H Q zz5_0=>by obtain⟨δ,M,R,hs,hM,q,fin⟩:=zz5_0;exact(⟨δ,M,_,hs,hM,q,fun c M1 H1 g1 a1 q1=>fin _ _ _ g1 a1 q1⟩)
def rY(ta tb:TD):TD:=fun δ M Q=>ta δ M fun x M1=>IsBl x M1 fun c M1=>if c=true then tb δ M1 Q else Q (.bl false) M1
def vP(ta:TD):TD:=fun δ M Q=>ta δ M fun x M1=>IsBl x M1 fun c M1=>Q (.bl (!c)) M1
theorem rZ{op}{t:TD}(h:DE X a t):DE X (.BoolOp op [a] pos) t:=vD h
theorem jx(ha:DE X a ta)(hb:DE X (.BoolOp .And (b::rest) pos) tb):DE X (.BoolOp .And (a::b::rest) pos) (rY ta tb):=
 aT (xk ha hb) fun σ H Q ⟨δ,M,R,hs,hM,q,fin⟩=>⟨δ,M,_,hs,hM,q,fun x M1 v H1 g1 r1 a1 z9=>by
  obtain⟨c,e,q1⟩:=z9
  subst e
  rw[Rep]at r1
  refine⟨c,r1,?_⟩
  cases c with
  |true=>rw[if_pos rfl]at q1 ⊢;exact⟨δ,M1,R,hs.mono g1,a1,q1,fin.go g1⟩
  |false=>rw[if_neg AD]at q1 ⊢;exact fin _ _ _ _ g1 (by rw[Rep]) a1 q1⟩
theorem pI(ha:DE X a ta):DE X (.UnaryOp .Not a pos) (vP ta):=
 aT (xD ha) fun σ H Q zz6_0=>by obtain⟨δ,M,R,hs,hM,q,fin⟩:=zz6_0;exact(⟨δ,M,_,hs,hM,q,fun x M1 v H1 g1 r1 a1 z9=>by
  obtain⟨c,e,q1⟩:=z9
  subst e
  rw[Rep]at r1
  exact⟨c,r1,fin _ _ _ _ g1 (by rw[Rep]) a1 q1⟩⟩)
def zZ(t:TTD)(ta tb:TD):TD:=fun δ M Q=>t δ M fun c M1=>if c=true then ta δ M1 Q else tb δ M1 Q
theorem qA(hc:DT X c tA)(ha:DE X a ta)(hb:DE X b tb):DE X (.IfExp c a b pos) (zZ tA ta tb):=
 aT (rC hc ha hb) fun σ H Q zz7_0=>by obtain⟨δ,M,R,hs,hM,q,fin⟩:=zz7_0;exact(⟨δ,M,_,hs,hM,q,fun c M1 H1 g1 a1 q1=>by
  cases c with
  |true=>rw[if_pos rfl]at q1 ⊢;exact⟨δ,M1,R,hs.mono g1,a1,q1,fin.go g1⟩
  |false=>rw[if_neg AD]at q1 ⊢;exact⟨δ,M1,R,hs.mono g1,a1,q1,fin.go g1⟩⟩)
end
def Aj(r:D->MH->DK->Prop)(ta:TD):TD:=fun δ M Q=>ta δ M fun x M1=>r x M1 Q
def vp(K:A0)(r:D->MH->DK->Prop):V->Hp->VK->Prop:=fun v H Q=>∃x M R,Rep K H x v/\Abs K H M/\r x M R/\Fin K H R Q
theorem qj{X:Cx}{a:Expr}{ta:TD}{pos:Pos}{op:UnaryOp}{r:D->MH->DK->Prop}(ho:UnR X (unaryOp op) (vp X.K r))(ha:DE X a ta):DE X (.UnaryOp op a pos) (Aj r ta):=aT (yg ho ha) fun σ H Q zz8_0=>by obtain⟨δ,M,R,hs,hM,q,fin⟩:=zz8_0;exact(⟨δ,M,_,hs,hM,q,fun x M1 v H1 g1 r1 a1 q1=>⟨x,M1,R,r1,a1,q1,fin.go g1⟩⟩)
def nt:TAD:=fun _ M Q=>Q [] M
def eL(ta:TD)(tr:TAD):TAD:=fun δ M Q=>ta δ M fun x M1=>tr δ M1 fun xs M2=>Q (x::xs) M2
section
variable{X:Cx}{e:Expr}{es:List Expr}{te:TD}{t:TAD}{pos:Pos}
theorem ae:DA X [] nt:=rP xb fun σ H Q zz9_0=>by obtain⟨δ,M,R,hs,hM,q,fin⟩:=zz9_0;exact(fin _ _ _ _ .refl .nil hM q)
theorem ab(ha:DE X e te)(hr:DA X es t)(hs:AF (e::es) X.env=(false,eval e X.env)::AF es X.env:=by rfl):DA X (e::es) (eL te t):=
 rP (sO ha hr hs) fun σ H Q zz10_0=>by obtain⟨δ,M,R,hs,hM,q,fin⟩:=zz10_0;exact(⟨δ,M,_,hs,hM,q,fun x M1 v H1 g1 r1 a1 q1=>
  ⟨δ,M1,_,hs.mono g1,a1,q1,fun xs M2 vs H2 g2 r2 a2 q2=>fin _ _ _ _ (g1.trans g2) (.cons (r1.mono g2) r2) a2 q2⟩⟩)
def vA(t:TAD):TD:=fun δ M Q=>t δ M fun xs M1=>xs.length<=AI/\Q (.tup xs) M1
def yk(t:TAD):TD:=fun δ M Q=>t δ M fun xs M1=>xs.length<=AI/\∀p,M1 p=none->Q (.ref p) (aA M1 p (.lst xs))
theorem aQ{x1}(h:DA X es t):DE X (.Tuple es x1 pos) (vA t):=aT (wm h) fun σ H Q zz11_0=>by obtain⟨δ,M,R,hs,hM,q,fin⟩:=zz11_0;exact(⟨δ,M,_,hs,hM,q,fun xs M1 vs H1 g1 r1 a1 zz12_0=>by obtain⟨z,q1⟩:=zz12_0;exact(⟨by rw[<-r1.length];exact z,fun p hp=>fin _ _ _ _ (g1.trans (.new hp)) (by rw[Rep];exact⟨p,vs,rfl,SqT.of aD,r1.mono (.new hp)⟩) (a1.new hp) q1⟩)⟩)
theorem fG(h:DA X es t):DE X (.List es pos) (yk t):=aT (vY h) fun σ H Q zz13_0=>by obtain⟨δ,M,R,hs,hM,q,fin⟩:=zz13_0;exact(⟨δ,M,_,hs,hM,q,fun xs M1 vs H1 g1 r1 a1 zz14_0=>by obtain⟨z,q1⟩:=zz14_0;exact(⟨by rw[<-r1.length];exact z,fun p hp=>fin _ _ _ _ (g1.trans (.new hp)) (by rw[Rep]) (a1.bF hp r1) (q1 p (a1.fresh hp))⟩)⟩)
end
def IxD(X:Cx)(r:R2D):Prop:=IxR X (j9 X.K r)
theorem xB{X:Cx}{r r':R2}(h:IxR X r)(k:∀x y H Q,r' x y H Q->r x y H Q):IxR X r':=fun e1 e2 pins s σ H x y v u Q I a b q=>h e1 e2 pins s σ H x y v u Q I a b (k _ _ _ _ q)
theorem xW{X:Cx}{a b:Expr}{ta tb:TD}{pos:Pos}{r:R2D}(hr:IxD X r)(ha:DE X a ta)(hb:DE X b tb)(hs:jR b):DE X (.Subscript a b pos) (oB r ta tb):=aT (yC hr ha hb hs) fun _ _ _ h=>gf h
inductive AtD(ds:List D)(i:Int)(M:MH)(Q:DK):Prop
 |mk (d:D) (h:atI ds i=some d) (q:Q d M):AtD ds i M Q
inductive AtM(a:Addr)(i:Int)(M:MH)(Q:DK):Prop
 |mk (ds:List D) (d:D) (h:M a=some (.lst ds)) (q:atI ds i=some d/\Q d M):AtM a i M Q
def vF:R2D:=fun x y M Q=>match x,y with
 |.tup ds,.int i=>AtD ds i M Q
 |.rol ds,.int i=>AtD ds i M Q
 |.ref a,.int i=>AtM a i M Q
 |_,_=>False
theorem av.atI{K:A0}{H:Hp}{ds:List D}{xs:List V}{i:Int}{d:D}(h:av K H ds xs)(e:L2.atI ds i=some d):∃x,L2.atI xs i=some x/\Rep K H d x:=by
 unfold L2.atI at e ⊢;rw[<-h.length];cases q:ixN ds.length i with
 |none=>rw[q]at e;cases e
 |some j=>
  rw[q]at e
  exact h.get e
theorem oA{K:A0}{v u:V}{H:Hp}{Q:VK}(h:j9 K vF v u H Q):rIx K v u H Q:=by
 obtain⟨x,y,M,R,r1,r2,a,q,fin⟩:=h;unfold vF at q;split at q
 ·obtain⟨d,e,q⟩:=q;obtain rfl:u=.int _:=r2;rw[Rep]at r1;obtain⟨p,xs,rfl,hq,rs⟩:=r1;obtain⟨x,e1,e2⟩:=rs.atI e;exact .inr (.inl ⟨p,xs,_,x,rfl,rfl,hq,e1,fin _ _ _ _ .refl e2 a q⟩)
 ·obtain⟨d,e,q⟩:=q;obtain rfl:u=.int _:=r2;rw[Rep]at r1;obtain⟨p,xs,rfl,hq,rs⟩:=r1;obtain⟨x,e1,e2⟩:=rs.atI e;exact .inl ⟨p,xs,_,x,rfl,rfl,hq.sql,e1,fin _ _ _ _ .refl e2 a q⟩
 ·obtain⟨ds,d,e0,e,q⟩:=q;obtain rfl:u=.int _:=r2;obtain rfl:v=.ref _:=r1;obtain⟨xs,hx,rs⟩:=a _ _ e0;obtain⟨x,e1,e2⟩:=rs.atI e;exact .inl ⟨_,xs,_,x,rfl,rfl,SqL.of hx,e1,fin _ _ _ _ .refl e2 a q⟩
 ·exact q.elim
theorem au{X:Cx}{a b:Expr}{ta tb:TD}{pos:Pos}(ha:DE X a ta)(hb:DE X b tb)(hs:jR b:=by exact fun _ _=>rfl):DE X (.Subscript a b pos) (oB vF ta tb):=xW (xB x9 fun _ _ _ _ h=>oA h) ha hb hs
def Bd(n:Nat)(i:Int):Prop:=i.natAbs<2^n
instance(n:Nat)(i:Int):Decidable (Bd n i):=inferInstanceAs (Decidable (i.natAbs<2^n))
theorem Bd.mono{m n:Nat}{i:Int}(h:Bd m i)(l:m<=n):Bd n i:=Aw h (Nat.pow_le_pow_right (by decide) l)
theorem Bd.bits{n:Nat}{i:Int}(h:Bd n i):Builtin.Int.intBits i<=n:=by
 unfold Builtin.Int.intBits;split
 ·exact B2 _
 ·rename_i hz;have h0:i.natAbs≠0:=fun e=>hz (by simpa using Int.natAbs_eq_zero.mp e);exact(Nat.log2_lt h0).mpr h
theorem Bd.log2{n:Nat}{i:Int}(h:Bd n i)(hn:0<n):i.natAbs.log2<n:=by
 by_cases h0:i.natAbs=0
 ·rw[h0];simpa using hn
 ·exact(Nat.log2_lt h0).mpr h
theorem Bd.mul{m n:Nat}{i j:Int}(a:Bd m i)(b:Bd n j):Bd (m+n) (i*j):=by unfold Bd at *;rw[Int.natAbs_mul,Nat.pow_add];exact Nat.mul_lt_mul'' a b
theorem Bd.add{n:Nat}{i j:Int}(a:Bd n i)(b:Bd n j):Bd (n+1) (i+j):=by unfold Bd at *;rw[Nat.pow_succ];have:=Int.natAbs_add_le i j;omega
theorem Bd.sub{n:Nat}{i j:Int}(a:Bd n i)(b:Bd n j):Bd (n+1) (i-j):=by unfold Bd at *;rw[Nat.pow_succ];have:=Int.natAbs_sub_le i j;omega
theorem Bd.neg{n:Nat}{i:Int}(a:Bd n i):Bd n (-i):=by unfold Bd at *;rw[Int.natAbs_neg];exact a
theorem Bd.of_le{n:Nat}{i j:Int}(a:Bd n i)(b:j.natAbs<=i.natAbs):Bd n j:=Nat.lt_of_le_of_lt b a
theorem bM{n:Nat}{i:Int}(h:i.natAbs<2^64)(l:64<=n:=by decide):Bd n i:=Bd.mono (m:=64) h l
theorem cK{i j:Int}(a:Bd 1000000 i)(b:Bd 1000000 j):IntMulOk i j:=.of_bits (B8 a.bits (by decide)) (B8 b.bits (by decide))
theorem bB{i j:Int}(a:Bd 64 i):IntMulOk i j:=.of_left a.bits
theorem bV{i j:Int}(a:Bd 64 j):IntMulOk i j:=.of_right a.bits
def rI2(C:Int->Int->Prop)(g:Int->Int->D):R2D:=fun x y M Q=>match x,y with
 |.int i,.int j=>C i j/\Q (g i j) M
 |_,_=>False
section
variable{X:Cx}
theorem cP{f:A1->A1->Sem A1}{C:Int->Int->Prop}{g:Int->Int->V}{g':Int->Int->D}(h:OpR X f (rI C g))(e:∀i j H,Rep X.K H (g' i j) (g i j)):OpD X f (rI2 C g'):=
 fO h fun v u H Q z9=>by
  obtain⟨x,y,M,R,r1,r2,a,q,fin⟩:=z9
  unfold rI2 at q
  split at q
  ·obtain rfl:v=.int _:=r1
   obtain rfl:u=.int _:=r2
   exact⟨_,_,rfl,rfl,q.1,fin _ _ _ _ .refl (e _ _ _) a q.2⟩
  ·exact q.elim
theorem ri0{f:A1->A1->Sem A1}{g:Int->Int->V}(h:OpR X f (rI0 g)):OpR X f (rI (fun _ _=>True) g):=fO h fun x y H Q zz1_0=>by obtain⟨i,j,a,b,_,q⟩:=zz1_0;exact(⟨i,j,a,b,q⟩)
def yY:R2D:=rI2 (fun _ _=>True) fun i j=>.int (i-j)
def yL:R2D:=rI2 IntMulOk fun i j=>.int (i*j)
def CFd(i j:Int):Prop:=j≠0/\Bd 8000 j
def zR:R2D:=rI2 CFd fun i j=>.int (i.fdiv j)
def yK:R2D:=rI2 (fun _ j=>j≠0) fun i j=>.int (i.fmod j)
def yc:R2D:=rI2 yr fun i j=>.int (i^j.toNat)
def zO:R2D:=rI2 (fun _ _=>True) fun i j=>.bl (decide (i<j))
def zP:R2D:=rI2 (fun _ _=>True) fun i j=>.bl (decide (j<i))
def Ad:R2D:=rI2 (fun _ _=>True) fun i j=>.bl (decide (j<=i))
theorem eH:OpD X (Cg .Sub) yY:=cP (ri0 xJ) fun _ _ _=>by rw[Rep]
theorem aG:OpD X (Cg .Mult) yL:=cP (opI fun _ _ _ _ _ _ _ hc q=>mul_int q hc) fun _ _ _=>by rw[Rep]
theorem gV:OpD X (Cg .FloorDiv) zR:=cP (opI fun _ _ _ _ _ _ _ hc q=>floordiv_int hc.1 q (.inl (PyProof.noPylong_of_log2 (Nat.lt_trans (hc.2.log2 (by decide)) (by decide))))) fun _ _ _=>by rw[Rep]
theorem fD:OpD X (Cg .Mod) yK:=cP uh fun _ _ _=>by rw[Rep]
theorem fB:OpD X (Cg .Pow) yc:=cP xO fun _ _ _=>by rw[Rep]
theorem yV:OpD X (AX .Lt) zO:=cP (ri0 yZ) fun _ _ _=>by rw[Rep]
theorem zo:OpD X (AX .Gt) zP:=cP (ri0 zi) fun _ _ _=>by rw[Rep]
theorem yP:OpD X (AX .GtE) Ad:=cP (ri0 zd) fun _ _ _=>by rw[Rep]
def uV:D->MH->DK->Prop:=fun x M Q=>match x with
 |.int i=>Q (.int (-i)) M
 |_=>False
theorem jK:UnR X (unaryOp .USub) (vp X.K uV):=fun pins s σ H x v Q I r zz2_0=>by obtain⟨d,M,R,r1,a,q,fin⟩:=zz2_0;exact(wG pins s σ H x v Q I r (by
 unfold uV at q
 split at q
 ·obtain rfl:x=.int _:=r1;exact⟨_,rfl,fin _ _ _ _ .refl (by rw[Rep]) a q⟩
 ·exact q.elim))
def vm:R2D:=fun x y M Q=>match x,y with
 |.int i,.int j=>Q (.int (i+j)) M
 |.tup a,.tup b=>a≠[]/\a.length+b.length<=AI/\Q (.tup (a++b)) M
 |.ref a,.ref b=>∃xs ys,M a=some (.lst xs)/\M b=some (.lst ys)/\xs.length+ys.length<=AI/\∀p,M p=none->Q (.ref p) (aA M p (.lst (xs++ys)))
 |_,_=>False
theorem aO:OpD X (Cg .Add) vm:=fO (xI.or (sV.or xK)) fun v u H Q z9=>by
 obtain⟨x,y,M,R,r1,r2,a,q,fin⟩:=z9;unfold vm at q;split at q
 ·obtain rfl:v=.int _:=r1;obtain rfl:u=.int _:=r2;exact .inl ⟨_,_,rfl,rfl,fin _ _ _ _ .refl (by rw[Rep]) a q⟩
 ·rename_i da db;obtain⟨hn,hl,q⟩:=q;rw[Rep]at r1;obtain⟨p,xs,rfl,hx,rx⟩:=r1;obtain⟨p',ys,rfl,hy,ry⟩:∃a xs,u=V.ref a/\SqT X.K H a xs/\av X.K H db xs:=by rw[Rep]at r2;exact r2
  have l1:=rx.length;have l2:=ry.length;refine .inr (.inl ⟨p,p',xs,ys,rfl,rfl,hx,hy,?_,by omega,fun e=>?_,fun _ z hz=>?_⟩)
  ·intro e;subst e;exact hn (List.length_eq_zero_iff.mp (by simpa using l1))
  ·subst e;obtain rfl:db=[]:=List.length_eq_zero_iff.mp (by simpa using l2);exact fin _ _ _ _ .refl (by rw[Rep,List.append_nil];exact⟨p,xs,rfl,hx,rx⟩) a q
  ·exact fin _ _ _ _ (.new hz) (by rw[Rep];exact⟨z,_,rfl,SqT.of aD,(rx.append ry).mono (.new hz)⟩) (a.new hz) q
 ·obtain⟨ds,es,e1,e2,hl,q⟩:=q;obtain rfl:v=.ref _:=r1;obtain rfl:u=.ref _:=r2;obtain⟨xs,hx,rx⟩:=a _ _ e1;obtain⟨ys,hy,ry⟩:=a _ _ e2;have l1:=rx.length;have l2:=ry.length;exact .inr (.inr ⟨_,_,xs,ys,rfl,rfl,hx,hy,by omega,fun z hz=>fin _ _ _ _ (.new hz) (by rw[Rep]) (a.bF hz (rx.append ry)) (q z (a.fresh hz))⟩)
 ·exact q.elim
end
mutual
inductive Pd(M:MH):D->Cr->Prop
 |non:Pd M .non .none
 |bl (b:Bool):Pd M (.bl b) (.bool b)
 |int (i:Int):Pd M (.int i) (.int i)
 |str (x:Str):Pd M (.str x) (.str x)
 |tup {ds:List D} {ps:List Cr}:Pds M ds ps->Pd M (.tup ds) (.tuple ps)
 |rol {ds:List D} {ps:List Cr}:Pds M ds ps->Pd M (.rol ds) (.list ps)
 |lst {a:Addr} {ds:List D} {ps:List Cr}:M a=some (.lst ds)->Pds M ds ps->Pd M (.ref a) (.list ps)
inductive Pds(M:MH):List D->List Cr->Prop
 |nil:Pds M [] []
 |cons {d:D} {ds:List D} {p:Cr} {ps:List Cr}:Pd M d p->Pds M ds ps->Pds M (d::ds) (p::ps)
end
mutual
def pdO:D->Option Cr
 |.non=>some .none
 |.bl b=>some (.bool b)
 |.int i=>some (.int i)
 |.str x=>some (.str x)
 |.tup ds=>match mf ds with
  |some ps=>some (.tuple ps)
  |none=>none
 |_=>none
def mf:List D->Option (List Cr)
 |[]=>some []
 |d::ds=>match pdO d,mf ds with
  |some p,some ps=>some (p::ps)
  |_,_=>none
end
mutual
theorem Pd.of{M:MH}:∀{d:D} {p:Cr},pdO d=some p->Pd M d p
 |.non,p,h=>by rw[pdO]at h;cases h;exact .non
 |.bl b,p,h=>by rw[pdO]at h;cases h;exact .bl b
 |.int i,p,h=>by rw[pdO]at h;cases h;exact .int i
 |.str x,p,h=>by rw[pdO]at h;cases h;exact .str x
 |.ty _,p,h=>by simp[pdO]at h
 |.ref _,p,h=>by simp[pdO]at h
 |.rol _,p,h=>by simp[pdO]at h
 |.tup ds,p,h=>by
  rw[pdO]at h
  cases e:mf ds with
  |none=>rw[e]at h;cases h
  |some ps=>rw[e]at h;cases h;exact .tup (Pds.of e)
theorem Pds.of{M:MH}:∀{ds:List D} {ps:List Cr},mf ds=some ps->Pds M ds ps
 |[],ps,h=>by rw[mf]at h;cases h;exact .nil
 |d::ds,ps,h=>by
  rw[mf]at h
  cases e1:pdO d with
  |none=>rw[e1]at h;cases h
  |some p=>
   cases e2:mf ds with
   |none=>rw[e1,e2]at h;cases h
   |some qs=>rw[e1,e2]at h;cases h;exact .cons (Pd.of e1) (Pds.of e2)
end
section
variable{X:Cx}{pins:List (Addr×Obj)}{σ:L2.St}{H:Hp}{s:A2}{M:MH}
mutual
theorem bZ(I:Inv X pins σ H s)(hM:Abs X.K H M):∀{d:D} {p:Cr} {v:V} {u:A1},Pd M d p->Rep X.K H d v->L2.RelV v u->∃as,Reads s.heap u p as
 |_,_,_,_,.non,r,e=>by rw[Rep]at r;subst r;cases e;exact⟨_,.none⟩
 |_,_,_,_,.bl b,r,e=>by rw[Rep]at r;subst r;cases e;exact⟨_,.bool b⟩
 |_,_,_,_,.int i,r,e=>by rw[Rep]at r;subst r;obtain⟨t,rfl⟩:=e;exact⟨_,.int i t⟩
 |_,_,_,_,.str x,r,e=>by rw[Rep]at r;subst r;obtain⟨t,rfl⟩:=e;exact⟨_,.str x t⟩
 |_,_,_,_,.tup hp,r,e=>by
  rw[Rep]at r
  obtain⟨a,xs,rfl,hq,rs⟩:=r
  cases e
  obtain⟨its,rv,⟨o,h1,h2,n,h3⟩,_⟩:=I.tuple hq
  obtain⟨as,hh⟩:=dX I hM hp rs rv
  exact⟨as,reads_tuple_at h1 h2 h3 (by simpa using hh)⟩
 |_,_,_,_,.rol hp,r,e=>by
  rw[Rep]at r
  obtain⟨a,xs,rfl,hq,rs⟩:=r
  cases e
  obtain⟨its,rv,⟨o,n,h1,h2,_,h3⟩,_⟩:=I.list hq.sql
  obtain⟨as,hh⟩:=dX I hM hp rs rv
  exact⟨_,reads_list_at h1 h2 h3 (by simpa using hh)⟩
 |_,_,_,_,.lst ha hp,r,e=>by
  rw[Rep]at r
  subst r
  cases e
  obtain⟨xs,hx,rs⟩:=hM _ _ ha
  obtain⟨its,rv,⟨o,n,h1,h2,_,h3⟩,_⟩:=I.list (SqL.of hx)
  obtain⟨as,hh⟩:=dX I hM hp rs rv
  exact⟨_,reads_list_at h1 h2 h3 (by simpa using hh)⟩
theorem dX(I:Inv X pins σ H s)(hM:Abs X.K H M):∀{ds:List D} {ps:List Cr} {vs:List V} {us:List A1},Pds M ds ps->av X.K H ds vs->Vals vs us->∃as,ReadsAll s.heap us ps as
 |_,_,_,_,.nil,r,e=>by rw[av]at r;subst r;cases e;exact⟨_,.nil⟩
 |_,_,_,_,.cons h1 h2,r,e=>by
  rw[av]at r
  obtain⟨x,r,rfl,r1,r2⟩:=r
  cases e with
  |cons e1 e2=>
   obtain⟨as,q1⟩:=bZ I hM h1 r1 e1
   obtain⟨bs,q2⟩:=dX I hM h2 r2 e2
   exact⟨_,.cons q1 q2⟩
end
end
inductive rEqG(g:Bool->Bool)(x y:D)(M:MH)(Q:DK):Prop
 |mk (p q:Cr) (h1:Pd M x p) (h2:Pd M y q) (h3:C2 p=true) (h4:C2 q=true) (hq:Q (.bl (g (Bi p q))) M):rEqG g x y M Q
def yv:R2D:=fun x y M Q=>match x,y with
 |.int i,.int j=>Q (.bl (decide (i=j))) M
 |.bl i,.bl j=>Q (.bl (decide (i=j))) M
 |x,y=>rEqG (fun b=>b) x y M Q
def vQ:R2D:=fun x y M Q=>match x,y with
 |.int i,.int j=>Q (.bl (!decide (i=j))) M
 |.bl i,.bl j=>Q (.bl (!decide (i=j))) M
 |x,y=>rEqG (fun b=>!b) x y M Q
section
variable{X:Cx}
theorem wM(hu:X.A.units+64<Bp):OpD X (AX .Eq) (rEqG fun b=>b):=by intro pins s σ H v u v' u' Q I rv ru h;obtain⟨x,y,M,R,r1,r2,a,⟨p,q,p1,p2,s1,s2,hq⟩,fin⟩:=h;obtain⟨as,q1⟩:=bZ I a p1 r1 rv;obtain⟨bs,q2⟩:=bZ I a p2 r2 ru;exact eq_dataH q1 q2 s1 s2 hu ⟨.bl _,H,I,rfl,fin _ _ _ _ .refl (by rw[Rep]) a hq⟩
theorem v9(hu:X.A.units+64<Bp):OpD X (AX .NotEq) (rEqG fun b=>!b):=by intro pins s σ H v u v' u' Q I rv ru h;obtain⟨x,y,M,R,r1,r2,a,⟨p,q,p1,p2,s1,s2,hq⟩,fin⟩:=h;obtain⟨as,q1⟩:=bZ I a p1 r1 rv;obtain⟨bs,q2⟩:=bZ I a p2 r2 ru;exact ne_dataH q1 q2 s1 s2 hu ⟨.bl _,H,I,rfl,fin _ _ _ _ .refl (by rw[Rep]) a hq⟩
theorem jD{i j:Int}:(i==j)=decide (i=j):=by by_cases h:i=j<;>simp[h]
theorem kX{i j:Bool}:(i==j)=decide (i=j):=by cases i<;>cases j<;>rfl
theorem cZ(hu:X.A.units+64<Bp):OpD X (AX .Eq) yv:=fO (wM hu) fun v u H Q z9=>by
 obtain⟨x,y,M,R,r1,r2,a,q,fin⟩:=z9;refine⟨x,y,M,R,r1,r2,a,?_,fin⟩;unfold yv at q;split at q
 ·exact⟨_,_,.int _,.int _,rfl,rfl,by simpa[Bi,jD]using q⟩
 ·exact⟨_,_,.bl _,.bl _,rfl,rfl,by simpa[Bi,kX]using q⟩
 ·exact q
theorem ij(hu:X.A.units+64<Bp):OpD X (AX .NotEq) vQ:=fO (v9 hu) fun v u H Q z9=>by
 obtain⟨x,y,M,R,r1,r2,a,q,fin⟩:=z9;refine⟨x,y,M,R,r1,r2,a,?_,fin⟩;unfold vQ at q;split at q
 ·exact⟨_,_,.int _,.int _,rfl,rfl,by simpa[Bi,jD]using q⟩
 ·exact⟨_,_,.bl _,.bl _,rfl,rfl,by simpa[Bi,kX]using q⟩
 ·exact q
def isC:D->D->Option Bool
 |.non,.non=>some true
 |.non,.bl _=>some false
 |.bl _,.non=>some false
 |.bl a,.bl b=>some (decide (a=b))
 |_,.non=>some false
 |_,.bl _=>some false
 |_,_=>none
inductive rIsG(g:Bool->Bool)(x y:D)(M:MH)(Q:DK):Prop
 |mk (b:Bool) (h:isC x y=some b) (q:Q (.bl (g b)) M):rIsG g x y M Q
def Am:R2D:=rIsG fun b=>b
def um:R2D:=rIsG fun b=>!b
theorem iZ{K:A0}{H:Hp}{x y:D}{b:Bool}{v u:V}{v' u':A1}(h:isC x y=some b)(r1:Rep K H x v)(r2:Rep K H y u)(rv:L2.RelV v v')(ru:L2.RelV u u'):plainIs v' u'=true/\(v'==u')=b:=by
 have hu:u'=.none\/∃c,u'=.bool c:=by
  cases y with
  |non=>rw[Rep]at r2;subst r2;exact .inl ru
  |bl c=>rw[Rep]at r2;subst r2;exact .inr ⟨c,ru⟩
  |_=>cases x<;>exact absurd (show(none:Option Bool)=some b from h) (fun z=>nomatch z)
 cases x with
 |non=>
  rw[Rep]at r1;subst r1;cases (show v'=Cj from rv)
  cases y<;>try exact absurd (show(none:Option Bool)=some b from h) (fun z=>nomatch z)
  ·rw[Rep]at r2;subst r2;cases (show u'=Cj from ru);cases (show some true=some b from h);exact⟨rfl,rfl⟩
  ·rw[Rep]at r2;subst r2;cases (show u'=Value.bool _ from ru);cases (show some false=some b from h);exact⟨rfl,rfl⟩
 |bl c=>
  rw[Rep]at r1;subst r1;cases (show v'=Value.bool _ from rv)
  cases y<;>try exact absurd (show(none:Option Bool)=some b from h) (fun z=>nomatch z)
  ·rw[Rep]at r2;subst r2;cases (show u'=Cj from ru);cases (show some false=some b from h);exact⟨rfl,rfl⟩
  ·rename_i c';rw[Rep]at r2;subst r2;cases (show u'=Value.bool _ from ru);cases (show some (decide (c=c'))=some b from h);refine⟨rfl,?_⟩;cases c<;>cases c'<;>rfl
 |int i=>
  rw[Rep]at r1;subst r1;obtain⟨t,rfl⟩:=rv
  cases y<;>first|exact absurd (show(none:Option Bool)=some b from h) (fun z=>nomatch z)|(cases (show some false=some b from h);rcases hu with rfl|⟨c,rfl⟩<;>exact⟨rfl,rfl⟩)
 |str i=>
  rw[Rep]at r1;subst r1;obtain⟨t,rfl⟩:=rv
  cases y<;>first|exact absurd (show(none:Option Bool)=some b from h) (fun z=>nomatch z)|(cases (show some false=some b from h);rcases hu with rfl|⟨c,rfl⟩<;>exact⟨rfl,rfl⟩)
 |ty i=>
  rw[Rep]at r1;subst r1;cases (show v'=Value.type _ from rv)
  cases y<;>first|exact absurd (show(none:Option Bool)=some b from h) (fun z=>nomatch z)|(cases (show some false=some b from h);rcases hu with rfl|⟨c,rfl⟩<;>exact⟨rfl,rfl⟩)
 |ref i=>
  rw[Rep]at r1;subst r1;cases (show v'=BH _ from rv)
  cases y<;>first|exact absurd (show(none:Option Bool)=some b from h) (fun z=>nomatch z)|(cases (show some false=some b from h);rcases hu with rfl|⟨c,rfl⟩<;>exact⟨rfl,rfl⟩)
 |rol i=>
  rw[Rep]at r1;obtain⟨a,xs,rfl,_,_⟩:=r1;cases (show v'=BH _ from rv)
  cases y<;>first|exact absurd (show(none:Option Bool)=some b from h) (fun z=>nomatch z)|(cases (show some false=some b from h);rcases hu with rfl|⟨c,rfl⟩<;>exact⟨rfl,rfl⟩)
 |tup i=>
  rw[Rep]at r1;obtain⟨a,xs,rfl,_,_⟩:=r1;cases (show v'=BH _ from rv)
  cases y<;>first|exact absurd (show(none:Option Bool)=some b from h) (fun z=>nomatch z)|(cases (show some false=some b from h);rcases hu with rfl|⟨c,rfl⟩<;>exact⟨rfl,rfl⟩)
theorem yF:OpD X (AX .Is) Am:=by intro pins s σ H v u v' u' Q I rv ru h;obtain⟨x,y,M,R,r1,r2,a,⟨b,e,q⟩,fin⟩:=h;obtain⟨e1,e2⟩:=iZ e r1 r2 rv ru;exact wpAny_is_plain e1 ⟨.bl b,H,I,by rw[e2];rfl,fin _ _ _ _ .refl (by rw[Rep]) a q⟩
theorem kn:OpD X (AX .IsNot) um:=by intro pins s σ H v u v' u' Q I rv ru h;obtain⟨x,y,M,R,r1,r2,a,⟨b,e,q⟩,fin⟩:=h;obtain⟨e1,e2⟩:=iZ e r1 r2 rv ru;exact wpAny_isNot_plain e1 ⟨.bl (!b),H,I,by rw[e2];rfl,fin _ _ _ _ .refl (by rw[Rep]) a q⟩
end
abbrev RC:=List D->MH->DK->Prop
def vg(K:A0)(r:RC):List V->Hp->VK->Prop:=fun vs H Q=>∃ds M R,av K H ds vs/\Abs K H M/\r ds M R/\Fin K H R Q
def cL(X:Cx)(f:A1)(r:RC):Prop:=br X f (vg X.K r)
theorem bP{X:Cx}{f:A1}{r r':List V->Hp->VK->Prop}(h:br X f r)(k:∀xs H Q,r' xs H Q->r xs H Q):br X f r':=fun pins s σ H xs us Q I a q=>h pins s σ H xs us Q I a (k _ _ _ q)
def wC(r:RC)(t:TAD):TD:=fun δ M Q=>t δ M fun ds M1=>r ds M1 Q
theorem mU{K:A0}{r:RC}{t:TAD}{σ:L2.St}{H:Hp}{Q:VK}(h:lift K (wC r t) σ H Q):tCB (vg K r) (sr K t) σ H Q:=by obtain⟨δ,M,R,hs,hM,q,fin⟩:=h;exact⟨δ,M,_,hs,hM,q,fun ds M1 vs H1 g1 r1 a1 q1=>⟨ds,M1,R,r1,a1,q1,fin.go g1⟩⟩
section
variable{X:Cx}{x:Str}{p pos:Pos}{e:Expr}{es:List Expr}{t:TAD}{id T:String}{r:RC}
theorem aP(hc:cL X (.builtin id) r)(hg:Gl X x)(hm:X.mg x=none)(hv:Be x=some (.builtin id))(ha:DA X (e::es) t)(hn:x≠"__name__":=by decide)(hdb:(x==("__debug__":Str))=false:=by decide) (he:AF (e::es) X.env=(false,eval e X.env)::AF es X.env:=by rfl) (hpl:(Cy pos (AF es X.env)).any (·.1)=false:=by rfl):DE X (.Call (.Name x p) (e::es) [] pos) (wC r t):=aT (qX hc hg hm hv ha hn hdb he hpl) fun _ _ _ h=>mU h
theorem aU(hc:cL X (.type T) r)(hg:Gl X x)(hm:X.mg x=none)(hv:Be x=some (.type T))(ha:DA X (e::es) t)(hn:x≠"__name__":=by decide)(hdb:(x==("__debug__":Str))=false:=by decide) (he:AF (e::es) X.env=(false,eval e X.env)::AF es X.env:=by rfl) (hpl:(Cy pos (AF es X.env)).any (·.1)=false:=by rfl):DE X (.Call (.Name x p) (e::es) [] pos) (wC r t):=aT (oG hc hg hm hv ha hn hdb he hpl) fun _ _ _ h=>mU h
theorem bz{K:A0}{H:Hp}{d:D}{vs:List V}(h:av K H [d] vs):∃v,vs=[v]/\Rep K H d v:=by rw[av]at h;obtain⟨x,r,rfl,h1,h2⟩:=h;rw[av]at h2;subst h2;exact⟨x,rfl,h1⟩
theorem dr{K:A0}{H:Hp}{d e:D}{vs:List V}(h:av K H [d,e] vs):∃v u,vs=[v,u]/\Rep K H d v/\Rep K H e u:=by rw[av]at h;obtain⟨x,r,rfl,h1,h2⟩:=h;obtain⟨u,rfl,h3⟩:=bz h2;exact⟨x,u,rfl,h1,h3⟩
def yu:RC:=fun ds M Q=>match ds with
 |[.int i]=>Q (.int (i.natAbs:Int)) M
 |_=>False
theorem j5:cL X (.builtin "abs") yu:=bP rq fun vs H Q z9=>by
 obtain⟨ds,M,R,rs,a,q,fin⟩:=z9;unfold yu at q;split at q
 ·rename_i i;obtain⟨v,rfl,r⟩:=bz rs;rw[Rep]at r;subst r;have e:(if i<0 then -i else i)=(i.natAbs:Int):=by split<;>omega
  exact⟨_,rfl,fin _ _ _ _ .refl (by rw[Rep,e]) a q⟩
 ·exact q.elim
def yy:RC:=fun ds M Q=>match ds with
 |[.int i,.int j]=>Q (.int (max i j)) M
 |_=>False
def yx:RC:=fun ds M Q=>match ds with
 |[.int i,.int j]=>Q (.int (min i j)) M
 |_=>False
theorem wq(hc:X.calm=true):cL X (.builtin "max") yy:=bP (oW hc) fun vs H Q z9=>by
 obtain⟨ds,M,R,rs,a,q,fin⟩:=z9;unfold yy at q;split at q
 ·rename_i i j;obtain⟨v,u,rfl,r,r'⟩:=dr rs;rw[Rep]at r;subst r;have r2:u=.int j:=by rw[Rep]at r';exact r'
  subst r2;have e:(if j>i then j else i)=max i j:=by split<;>omega
  exact⟨_,_,rfl,fin _ _ _ _ .refl (by rw[Rep,e]) a q⟩
 ·exact q.elim
theorem xj(hc:X.calm=true):cL X (.builtin "min") yx:=bP (oI hc) fun vs H Q z9=>by
 obtain⟨ds,M,R,rs,a,q,fin⟩:=z9;unfold yx at q;split at q
 ·rename_i i j;obtain⟨v,u,rfl,r,r'⟩:=dr rs;rw[Rep]at r;subst r;have r2:u=.int j:=by rw[Rep]at r';exact r'
  subst r2;have e:(if j<i then j else i)=min i j:=by split<;>omega
  exact⟨_,_,rfl,fin _ _ _ _ .refl (by rw[Rep,e]) a q⟩
 ·exact q.elim
def zb:RC:=fun ds M Q=>match ds with
 |[.tup xs]=>Q (.int (xs.length:Int)) M
 |[.rol xs]=>Q (.int (xs.length:Int)) M
 |[.ref l]=>∃xs,M l=some (.lst xs)/\Q (.int (xs.length:Int)) M
 |_=>False
theorem ee:cL X (.builtin "len") zb:=bP jM fun vs H Q z9=>by
 obtain⟨ds,M,R,rs,a,q,fin⟩:=z9;unfold zb at q;split at q
 ·obtain⟨v,rfl,r⟩:=bz rs;rw[Rep]at r;obtain⟨l,xs,rfl,h1,h2⟩:=r;exact⟨l,xs,rfl,.inr h1,fin _ _ _ _ .refl (by rw[Rep,h2.length]) a q⟩
 ·obtain⟨v,rfl,r⟩:=bz rs;rw[Rep]at r;obtain⟨l,xs,rfl,h1,h2⟩:=r;exact⟨l,xs,rfl,.inl h1.sql,fin _ _ _ _ .refl (by rw[Rep,h2.length]) a q⟩
 ·obtain⟨v,rfl,r⟩:=bz rs;rw[Rep]at r;subst r;obtain⟨xs,e,q⟩:=q;obtain⟨ys,h1,h2⟩:=a _ _ e;exact⟨_,ys,rfl,.inl (SqL.of h1),fin _ _ _ _ .refl (by rw[Rep,h2.length]) a q⟩
 ·exact q.elim
def rW:RC:=fun ds M Q=>match ds with
 |[.tup xs]=>Q (.tup xs) M
 |[.rol xs]=>Q (.tup xs) M
 |[.ref l]=>∃xs,M l=some (.lst xs)/\Q (.tup xs) M
 |_=>False
theorem g8:cL X (.type "tuple") rW:=bP iO fun vs H Q z9=>by
 obtain⟨ds,M,R,rs,a,q,fin⟩:=z9;unfold rW at q;split at q
 ·obtain⟨v,rfl,r⟩:=bz rs;rw[Rep]at r;obtain⟨l,xs,rfl,h1,h2⟩:=r;exact⟨l,xs,rfl,.inr ⟨h1,fin _ _ _ _ .refl (by rw[Rep];exact⟨l,xs,rfl,h1,h2⟩) a q⟩⟩
 ·obtain⟨v,rfl,r⟩:=bz rs;rw[Rep]at r;obtain⟨l,xs,rfl,h1,h2⟩:=r;exact⟨l,xs,rfl,.inl ⟨h1.sql,fun p hp=>fin _ _ _ _ (.new hp) (by rw[Rep];exact⟨p,xs,rfl,SqT.of aD,h2.mono (.new hp)⟩) (a.new hp) q⟩⟩
 ·obtain⟨v,rfl,r⟩:=bz rs;rw[Rep]at r;subst r;obtain⟨xs,e,q⟩:=q;obtain⟨ys,h1,h2⟩:=a _ _ e;exact⟨_,ys,rfl,.inl ⟨SqL.of h1,fun p hp=>fin _ _ _ _ (.new hp) (by rw[Rep];exact⟨p,ys,rfl,SqT.of aD,h2.mono (.new hp)⟩) (a.new hp) q⟩⟩
 ·exact q.elim
def vb:RC:=fun ds M Q=>match ds with
 |[.int i]=>Q (.int i) M
 |[.bl k]=>Q (.int (if k=true then 1 else 0)) M
 |_=>False
theorem qh:cL X (.type "int") vb:=bP pB fun vs H Q z9=>by
 obtain⟨ds,M,R,rs,a,q,fin⟩:=z9;unfold vb at q;split at q
 ·obtain⟨v,rfl,r⟩:=bz rs;rw[Rep]at r;subst r;exact .inl ⟨_,rfl,fin _ _ _ _ .refl (by rw[Rep]) a q⟩
 ·obtain⟨v,rfl,r⟩:=bz rs;rw[Rep]at r;subst r;exact .inr ⟨_,rfl,fin _ _ _ _ .refl (by rw[Rep]) a q⟩
 ·exact q.elim
end
abbrev TGD:=D->DS->MH->(DS->MH->Prop)->Prop
abbrev l3:=List D->DS->MH->(DS->MH->Prop)->Prop
section
variable(K:A0)
def sf(H:Hp)(R:DS->MH->Prop)(Q:L2.St->Hp->Prop):Prop:=∀δ' M' σ' H',Grow K H H'->Slots K H' δ' σ'->Abs K H' M'->R δ' M'->Q σ' H'
def zj(t:TGD):TG:=fun v σ H Q=>∃d δ M R,Rep K H d v/\Slots K H δ σ/\Abs K H M/\t d δ M R/\sf K H R Q
def xC(t:l3):TGs:=fun vs σ H Q=>∃ds δ M R,av K H ds vs/\Slots K H δ σ/\Abs K H M/\t ds δ M R/\sf K H R Q
end
theorem sf.go{K:A0}{H H1:Hp}{R:DS->MH->Prop}{Q:L2.St->Hp->Prop}(g:Grow K H H1)(h:sf K H R Q):sf K H1 R Q:=fun d M v H' g'=>h d M v H' (g.trans g')
def DG(X:Cx)(e:Expr)(t:TGD):Prop:=PG X e (zj X.K t)
def DGs(X:Cx)(es:List Expr)(t:l3):Prop:=PGs X es (xC X.K t)
theorem l4{X:Cx}{e:Expr}{t t':TG}(h:PG X e t)(k:∀v σ H Q,t' v σ H Q->t v σ H Q):PG X e t':=fun pins s σ H v u Q I r q=>h pins s σ H v u Q I r (k _ _ _ _ q)
theorem nY{X:Cx}{e:List Expr}{t t':TGs}(h:PGs X e t)(k:∀v σ H Q,t' v σ H Q->t v σ H Q):PGs X e t':=fun pins s σ H v u Q I r q=>h pins s σ H v u Q I r (k _ _ _ _ q)
section
variable{X:Cx}{pos:Pos}
def bg(i:Nat):TGD:=fun d δ M Q=>Q (δ.set i (some d)) M
theorem aB(i:Nat){x:Str}(hN:X.N.Nodup)(hi:X.N[i]?=some x:=by rfl)(hx:Loc X.env.scope x:=by first|exact Or.inl rfl|exact Or.inr rfl)(hf:X.fn x=true\/X.env.scope.names.lookup x=some .local:=by first|exact .inl rfl|exact .inr rfl|assumption):DG X (.Name x pos) (bg i):=l4 (mP hN hi hx hf) fun v σ H Q zz1_0=>by obtain⟨d,δ,M,R,r,hs,a,q,fin⟩:=zz1_0;exact(fin _ _ _ _ .refl (hs.set r i) a q)
def vd:l3:=fun ds δ M Q=>ds=[]/\Q δ M
inductive gConsD(t:TGD)(u:l3)(ds:List D)(δ:DS)(M:MH)(Q:DS->MH->Prop):Prop
 |mk (d:D) (r:List D) (h:ds=d::r) (q:t d δ M fun δ' M'=>u r δ' M' Q):gConsD t u ds δ M Q
theorem aY:DGs X [] vd:=nY jV fun vs σ H Q z9=>by obtain⟨ds,δ,M,R,rs,hs,a,⟨e,q⟩,fin⟩:=z9;subst e;rw[av]at rs;exact⟨rs,fin _ _ _ _ .refl hs a q⟩
theorem aC{e:Expr}{es:List Expr}{t:TGD}{u:l3}(h1:DG X e t)(h2:DGs X es u) (hs:(Cm (e::es) X.env).map (·.2)=assign e X.env::(Cm es X.env).map (·.2):=by rfl):DGs X (e::es) (gConsD t u):=nY (cY h1 h2 hs) fun vs σ H Q z9=>by obtain⟨ds,δ,M,R,rs,hs,a,⟨d,r,e,q⟩,fin⟩:=z9;subst e;rw[av]at rs;obtain⟨x,xs,rfl,r1,r2⟩:=rs;exact⟨x,xs,rfl,d,δ,M,_,r1,hs,a,q,fun δ' M' σ' H' g' s' a' q'=>⟨r,δ',M',R,r2.mono g',s',a',q',fin.go g'⟩⟩
inductive gTupD(n:Nat)(t:l3)(d:D)(δ:DS)(M:MH)(Q:DS->MH->Prop):Prop
 |mk (ds:List D) (h:d=.tup ds) (q:ds.length=n/\t ds δ M Q):gTupD n t d δ M Q
theorem bD{es:List Expr}{k:Nat}{t:l3}{n:Nat}(hc:X.calm=true)(h:DGs X es t) (hn:(Cm es X.env).length=n:=by rfl) (hst:(Cm es X.env).findIdx? (·.1)=none:=by rfl):DG X (.Tuple es k pos) (gTupD n t):=l4 (lR hc h hn hst) fun v σ H Q z9=>by obtain⟨d,δ,M,R,r,hs,a,⟨ds,e,hl,q⟩,fin⟩:=z9;subst e;rw[Rep]at r;obtain⟨p,xs,rfl,h1,h2⟩:=r;exact⟨p,xs,rfl,h1,by rw[<-h2.length];exact hl,ds,δ,M,R,h2,hs,a,q,fin⟩
def uW:D->D->D->MH->(MH->Prop)->Prop:=fun o i v M Q=>match o,i with
 |.ref p,.int k=>∃ds j,M p=some (.lst ds)/\ixN ds.length k=some j/\Q (aA M p (.lst (ds.set j v)))
 |_,_=>False
def zH(to ti:TD):TGD:=fun v δ M Q=>to δ M fun o M1=>ti δ M1 fun i M2=>uW o i v M2 fun M3=>Q δ M3
theorem qU{o i:Expr}{to ti:TD}(ho:DE X o to)(hi:DE X i ti)
 (ha:∀v,assign (.Subscript o i pos) X.env v=(do
  let ov <-holding [v] (eval o X.env)
  let iv <-holding [v,ov] (eval i X.env)
  standAt pos
  holding [v,ov,iv] (setItem ov iv v)
  release [v,ov,iv] []):=by intro _;rfl):DG X (.Subscript o i pos) (zH to ti):=
 l4 (wg ho hi set_list ha) fun v σ H Q ⟨d,δ,M,R,r,hs,a,q,fin⟩=>
  ⟨δ,M,_,hs,a,q,fun o M1 vo H1 g1 r1 a1 q1=>⟨δ,M1,_,hs.mono g1,a1,q1,fun i M2 vi H2 g2 r2 a2 q2=>by
   unfold uW at q2
   split at q2
   ·obtain⟨ds,j,e1,e2,q2⟩:=q2
    obtain rfl:vo=.ref _:=r1
    obtain rfl:vi=.int _:=r2
    obtain⟨xs,h1,h2⟩:=a2 _ _ e1
    refine⟨_,xs,_,j,rfl,rfl,h1,by rw[<-h2.length];exact e2,?_⟩
    have g3:Grow X.K H2 (upd H2 _ (.lst (xs.set j v))):=.lst h1
    exact fin _ _ _ _ ((g1.trans g2).trans g3) (hs.mono ((g1.trans g2).trans g3)) (a2.tJ h1 (h2.set (r.mono (g1.trans g2)) j)) q2
   ·exact q2.elim⟩⟩
end
section
variable{X:Cx}{pos:Pos}{st:Stmt}{rest:List Stmt}{t u:TSD}
def fJ:TSD:=fun B δ M=>B.nx δ M
def iT(t u:TSD):TSD:=fun B δ M=>t { B with nx:=u B } δ M
theorem aJ:DSs X [] fJ:=nG tW fun E σ H zz2_0=>by obtain⟨δ,M,hs,a,B,ok,q⟩:=zz2_0;exact(ok.nx _ _ _ _ .refl hs a q)
theorem aj(h1:DSt X st t)(h2:DSs X rest u):DSs X (st::rest) (iT t u):=nG (rM h1 h2) fun E σ H zz3_0=>by obtain⟨δ,M,hs,a,B,ok,q⟩:=zz3_0;exact(⟨δ,M,hs,a,{ B with nx:=u B },⟨fun δ' M' σ' H' g s' a' q'=>⟨δ',M',s',a',B,ok.go g,q'⟩,ok.rt,ok.bk,ok.ct⟩,q⟩)
theorem aq(h1:DSt X st t):DSs X [st] t:=sZ h1
def tI:TSD:=fun _ _ _=>False
theorem eT:DSt X st tI:=b8 rX fun E σ H zz7_0=>by obtain⟨δ,M,hs,a,B,ok,q⟩:=zz7_0;exact(q.elim)
def kg(te:TD):TSD:=fun B δ M=>te δ M fun _ M1=>B.nx δ M1
theorem gd{e:Expr}{te:TD}(he:DE X e te)(hs:swapsWith e none pos.line X.env=pure false:=by rfl):DSt X (.Expr e pos) (kg te):=b8 (sG he hs) fun E σ H zz9_0=>by obtain⟨δ,M,hs,a,B,ok,q⟩:=zz9_0;exact(⟨δ,M,_,hs,a,q,fun d M1 v H1 g1 r1 a1 q1=>ok.nx _ _ _ _ g1 (hs.mono g1) a1 q1⟩)
def nV(te:TD):TSD:=fun B δ M=>te δ M B.rt
theorem az{e:Expr}{te:TD}(he:DE X e te):DSt X (.Return (some e) pos) (nV te):=b8 (vK he) fun E σ H zz10_0=>by obtain⟨δ,M,hs,a,B,ok,q⟩:=zz10_0;exact(⟨δ,M,_,hs,a,q,fun d M1 v H1 g1 r1 a1 q1=>ok.rt _ _ _ _ g1 r1 a1 q1⟩)
def nU(c:TTD)(t u:TSD):TSD:=fun B δ M=>c δ M fun b M1=>if b=true then t B δ M1 else u B δ M1
theorem aW{c:Expr}{a b:List Stmt}{tc:TTD}(hc:DT X c tc)(ha:DSs X a t)(hb:DSs X b u):DSt X (.If c a b pos) (nU tc t u):=
 b8 (yQ hc ha hb) fun E σ H zz12_0=>by obtain⟨δ,M,hs,a,B,ok,q⟩:=zz12_0;exact(⟨δ,M,_,hs,a,q,fun c M1 H1 g1 a1 q1=>by
  cases c with
  |true=>rw[if_pos rfl]at q1 ⊢;exact⟨δ,M1,hs.mono g1,a1,B,ok.go g1,q1⟩
  |false=>rw[if_neg AD]at q1 ⊢;exact⟨δ,M1,hs.mono g1,a1,B,ok.go g1,q1⟩⟩)
def fU(te:TD)(g:TGD):TSD:=fun B δ M=>te δ M fun d M1=>g d δ M1 B.nx
theorem cG{tg e:Expr}{te:TD}{g:TGD}(he:DE X e te)(hg:DG X tg g)(hs:swapsWithSole [tg] e pos.line X.env=pure false:=by rfl)(hw:swappedStores [tg] e X.env=pure none:=by rfl)
 (h1:(Cm [tg] X.env).map (·.2)=[assign tg X.env]:=by rfl):DSt X (.Assign [tg] e pos) (fU te g):=
 b8 (xx he hg hs hw h1) fun E σ H zz13_0=>by obtain⟨δ,M,hs,a,B,ok,q⟩:=zz13_0;exact(⟨δ,M,_,hs,a,q,fun d M1 v H1 g1 r1 a1 q1=>
  ⟨d,δ,M1,B.nx,r1,hs.mono g1,a1,q1,fun δ' M' σ' H' g' s' a' q'=>ok.nx _ _ _ _ (g1.trans g') s' a' q'⟩⟩)
theorem aH(i:Nat){x:Str}{e:Expr}{te:TD}{pos':Pos}(hN:X.N.Nodup)(he:DE X e te)(hi:X.N[i]?=some x:=by rfl)(hx:Loc X.env.scope x:=by first|exact Or.inl rfl|exact Or.inr rfl)(hs:swapsWith e (some (.Name x pos')) pos.line X.env=pure false:=by rfl) (hf:X.fn x=true\/X.env.scope.names.lookup x=some .local:=by first|exact .inl rfl|exact .inr rfl|assumption):DSt X (.Assign [.Name x pos'] e pos) (fU te (bg i)):=b8 (xr hN hi hx he hs hf) fun E σ H zz14_0=>by obtain⟨δ,M,hs,a,B,ok,q⟩:=zz14_0;exact(⟨δ,M,_,hs,a,q,fun d M1 v H1 g1 r1 a1 q1=>ok.nx _ _ _ _ g1 ((hs.mono g1).set r1 i) a1 q1⟩)
def zr(i j:Nat)(ta:TAD):TSD:=fun B δ M=>ta δ M fun ds M1=>∃d e,ds=[d,e]/\B.nx ((δ.set i (some d)).set j (some e)) M1
theorem dH(i j:Nat){x y:Str}{a b:Expr}{ta:TAD}{px py pt:Pos}{kt k2 pt2}(hc:X.calm=true)(hN:X.N.Nodup)(ha:DA X [a,b] ta)(hij:i≠j:=by decide)(hi:X.N[i]?=some x:=by rfl)(hj:X.N[j]?=some y:=by rfl)
 (hx:X.env.scope.names.lookup x=some .local:=by rfl) (hy:X.env.scope.names.lookup y=some .local:=by rfl)
 (hw:swappedStores [.Tuple [.Name x px,.Name y py] kt pt] (.Tuple [a,b] k2 pt2) X.env=pure (some [x,y]):=by rfl)
 (hs:swapsWithSole [.Tuple [.Name x px,.Name y py] kt pt] (.Tuple [a,b] k2 pt2) pos.line X.env=pure false:=by rfl) :
 DSt X (.Assign [.Tuple [.Name x px,.Name y py] kt pt] (.Tuple [a,b] k2 pt2) pos) (zr i j ta):=
 b8 (xt hc hN hi hj hij hx hy ha hw hs) fun E σ H zz15_0=>by obtain⟨δ,M,hs,a,B,ok,q⟩:=zz15_0;exact(⟨δ,M,_,hs,a,q,fun ds M1 vs H1 g1 r1 a1 z9=>by
  obtain⟨d,e,z,q1⟩:=z9
  subst z
  obtain⟨v,u,rfl,r2,r3⟩:=dr r1
  exact⟨v,u,rfl,ok.nx _ _ _ _ g1 (((hs.mono g1).set r2 i).set r3 j) a1 q1⟩⟩)
def tK(c:TTD)(tb:TSD):TSD:=fun B δ M=>∃W:Nat->DS->MH->Prop,(∃m,W m δ M)/\∀m δ M,W m δ M->
 c δ M fun b M1=>if b=true then tb { B with nx:=fun δ' M'=>∃m',m'<m/\W m' δ' M',ct:=fun δ' M'=>∃m',m'<m/\W m' δ' M',bk:=B.nx } δ M1 else B.nx δ M1
theorem gX{c:Expr}{body:List Stmt}{tc:TTD}{tb:TSD}(hp:PassesOwn (Ay X.prog X.w) X.A X.env X.xe)(hc:DT X c tc)(hb:DSs X body tb):DSt X (.While c body [] pos) (tK tc tb):=
 b8 (qL hp hc hb) fun E σ H z9=>by
  obtain⟨δ,M,hs,a,B,ok,W,⟨m,w0⟩,turn⟩:=z9
  refine⟨fun m σ H'=>Grow X.K H H'/\∃δ M,Slots X.K H' δ σ/\Abs X.K H' M/\W m δ M,⟨m,.refl,δ,M,hs,a,w0⟩,?_⟩
  rintro m σ H' ⟨g,δ,M,hs,a,w0⟩
  refine⟨δ,M,_,hs,a,turn m δ M w0,fun b M1 H1 g1 a1 q1=>?_⟩
  cases b with
  |true=>
   rw[if_pos rfl]at q1 ⊢
   refine⟨fun σ2 H2=>∃m',m'<m/\(Grow X.K H H2/\∃δ M,Slots X.K H2 δ σ2/\Abs X.K H2 M/\W m' δ M),fun σ' H' h=>h,δ,M1,hs.mono g1,a1,_,?_,q1⟩
   refine⟨fun δ' M' σ' H' g' s' a' zz16_0=>by obtain⟨m',l,w'⟩:=zz16_0;exact(⟨m',l,(g.trans g1).trans g',δ',M',s',a',w'⟩),fun d M v H' g'=>ok.rt d M v H' ((g.trans g1).trans g'),fun δ' M' σ' H' g' s' a' q'=>ok.nx _ _ _ _ ((g.trans g1).trans g') s' a' q',fun δ' M' σ' H' g' s' a' zz17_0=>by obtain⟨m',l,w'⟩:=zz17_0;exact(⟨m',l,(g.trans g1).trans g',δ',M',s',a',w'⟩)⟩
  |false=>
   rw[if_neg AD]at q1 ⊢
   exact ok.nx _ _ _ _ (g.trans g1) (hs.mono g1) a1 q1
inductive ForW(g:TGD)(tb:TSD)(B:EndsD)(n:Nat)(δ0:DS)(M0:MH):Prop
 |mk (W:Nat->DS->MH->Prop) (w0:W 0 δ0 M0) (turn:∀i δ M,i<n->W i δ M->g (.int (i:Int)) δ M fun δ2 M2=>tb { B with nx:=W (i+1),ct:=W (i+1),bk:=B.nx } δ2 M2) (done:∀δ M,W n δ M->B.nx δ M):ForW g tb B n δ0 M0
inductive ForR(g:TGD)(tb:TSD)(B:EndsD)(ds:List D)(δ0:DS)(M0:MH):Prop
 |mk (n:Nat) (e:ds=[.int (n:Int)]) (q:n<2^60/\ForW g tb B n δ0 M0):ForR g tb B ds δ0 M0
def wj(ta:TAD)(g:TGD)(tb:TSD):TSD:=fun B δ M=>ta δ M fun ds M1=>ForR g tb B ds δ M1
theorem nC{tg e:Expr}{body:List Stmt}{ta:TAD}{g:TGD}{tb:TSD}{p p2:Pos}(hp:PassesOwn (Ay X.prog X.w) X.A X.env X.xe)(hc:X.calm=true)(hg:Gl X "range")(hm:X.mg "range"=none)(ha:DA X [e] ta)(hG:DG X tg g)(hb:DSs X body tb)
 (hs:AF [e] X.env=[(false,eval e X.env)]:=by rfl) (hf:∀x,B5 (.Call (.Name "range" p) [e] [] p2) X.env x=pure x:=by intro _;rfl):DSt X (.For tg (.Call (.Name "range" p) [e] [] p2) body [] pos) (wj ta g tb):=
 b8 (qf hp hc (jl hg hm ha hs) hG hb hf) fun E σ H ⟨δ,M,hs,a,B,ok,q⟩=>⟨δ,M,_,hs,a,q,fun ds M1 vs H1 g1 r1 a1 z9=>by
  obtain⟨n,e,hn,W,w0,turn,done⟩:=z9
  subst e
  obtain⟨v,rfl,r⟩:=bz r1
  rw[Rep]at r;subst r
  refine⟨(n:Int),rfl,by omega,by omega,?_⟩
  rw[show((n:Int)).toNat=n from by simp]
  refine pq (fun i σ H'=>Grow X.K H H'/\∃δ M,Slots X.K H' δ σ/\Abs X.K H' M/\W i δ M) ⟨g1,δ,M1,hs.mono g1,a1,w0⟩ ?_ ?_
  ·rintro i σ H2 hi ⟨g2,δ,M,s2,a2,w2⟩
   refine⟨.int (i:Int),δ,M,_,by rw[Rep];simp,s2,a2,turn i δ M hi w2,fun δ3 M3 σ3 H3 g3 s3 a3 q3=>?_⟩
   refine⟨δ3,M3,s3,a3,_,?_,q3⟩
   exact⟨fun δ' M' σ' H' g' s' a' w'=>⟨(g2.trans g3).trans g',δ',M',s',a',w'⟩,fun d M v H' g'=>ok.rt d M v H' ((g2.trans g3).trans g'),fun δ' M' σ' H' g' s' a' q'=>ok.nx _ _ _ _ ((g2.trans g3).trans g') s' a' q',fun δ' M' σ' H' g' s' a' w'=>⟨(g2.trans g3).trans g',δ',M',s',a',w'⟩⟩
  ·rintro σ H2 ⟨g2,δ,M,s2,a2,w2⟩
   exact ok.nx _ _ _ _ g2 s2 a2 (done δ M w2)⟩
end
theorem tw{b:Bool}{A B:Prop}(e:b=true)(h:A):if b=true then A else B:=by rw[if_pos e];exact h
theorem ec{b:Bool}{A B:Prop}(e:b=false)(h:B):if b=true then A else B:=by rw[if_neg (by rw[e];exact AD)];exact h
theorem uz{ta tb:TD}{δ:DS}{M:MH}{Q:DK}(c1 c2:Bool)(ha:∀K:DK,K (.bl c1) M->ta δ M K)(hb:c1=true->∀K:DK,K (.bl c2) M->tb δ M K)(hq:Q (.bl (c1&&c2)) M):rY ta tb δ M Q:=
 ha _ ⟨c1,rfl,by
  cases c1 with
  |true=>rw[if_pos rfl];exact hb rfl _ hq
  |false=>rw[if_neg AD];exact hq⟩
theorem orT{ta tb:TTD}{δ:DS}{M:MH}{Q:Bool->MH->Prop}(c1 c2:Bool)(ha:∀K:Bool->MH->Prop,K c1 M->ta δ M K)(hb:c1=false->∀K:Bool->MH->Prop,K c2 M->tb δ M K)(hq:Q (c1||c2) M):yE ta tb δ M Q:=
 ha _ (by
  cases c1 with
  |true=>rw[if_pos rfl];exact hq
  |false=>rw[if_neg AD];exact hb rfl _ hq)
theorem Ah{ta tb:TTD}{δ:DS}{M:MH}{Q:Bool->MH->Prop}(c1 c2:Bool)(ha:∀K:Bool->MH->Prop,K c1 M->ta δ M K)(hb:c1=true->∀K:Bool->MH->Prop,K c2 M->tb δ M K)(hq:Q (c1&&c2) M):uX ta tb δ M Q:=
 ha _ (by
  cases c1 with
  |true=>rw[if_pos rfl];exact hb rfl _ hq
  |false=>rw[if_neg AD];exact hq)
theorem dh{t u:TSD}{B:EndsD}{δ:DS}{M:MH}(W:DS->MH->Prop)(hu:∀δ' M',W δ' M'->u B δ' M')(ht:(∀δ' M',W δ' M'->u B δ' M')->t { B with nx:=u B } δ M):iT t u B δ M:=ht hu
def Sub(M' M:MH):Prop:=∀a o,M' a=some o->M a=some o
def zV(r:Addr)(M' M:MH):Prop:=∀a o,a≠r->M' a=some o->M a=some o
theorem Sub.refl{M:MH}:Sub M M:=fun _ _ h=>h
theorem Sub.new{M M':MH}{p:Addr}{o:MO}(hp:M p=none)(s:Sub M' M):Sub M' (aA M p o):=fun a u h=>by rw[ao (fun e=>by subst e;rw[s _ _ h]at hp;cases hp)];exact s _ _ h
theorem Sub.zK{M M':MH}{r:Addr}{o:MO}(s:zV r M' M):Sub (aA M' r o) (aA M r o):=fun a u h=>by
 by_cases e:a=r
 ·subst e;rw[ag]at h ⊢;exact h
 ·rw[ao e]at h ⊢;exact s _ _ e h
inductive Ret(Q:DK)(d:D)(M:MH):Prop
 |mk (M':MH) (s:Sub M' M) (q:Q d M'):Ret Q d M
theorem rtn{Q:DK}{d:D}{M:MH}(q:Q d M):Ret Q d M:=⟨M,.refl,q⟩
abbrev SpD:=List D->MH->DK->Prop
def d6(K:A0)(sp:SpD):Sp:=fun vs H Q _=>∃ds M R,av K H ds vs/\Abs K H M/\sp ds M R/\Fin K H R Q
def Cal(P:Au)(w:AU)(K:A0)(mg:Str->Option A1)(base:Heap)(k:Nat)(x:Str)(sp:SpD):Prop:=
 ∃f fd ps,FnOk P w K mg base CX0 k f fd ps (d6 K sp)/\mg x=some (.ref f)/\Cq K (.ref f)=true/\Binds K fd ps []
theorem Cal.mono{P:Au}{w:AU}{K:A0}{mg:Str->Option A1}{base:Heap}{j k:Nat}{x:Str}{sp:SpD}(h:Cal P w K mg base j x sp)(l:j<=k):Cal P w K mg base k x sp:=let⟨f,fd,ps,F,r⟩:=h;⟨f,fd,ps,F.mono l,r⟩
section
variable{X:Cx}{k:Nat}{x:Str}{sp:SpD}{p pos:Pos}{e:Expr}{es:List Expr}{t:TAD}
def qz(sp:SpD)(t:TAD):TD:=fun δ M Q=>t δ M fun ds M1=>sp ds M1 Q
theorem ai(C:Cal X.prog X.w X.K X.mg X.base k x sp)(hr:Room k X.A)(ha:DA X (e::es) t)(hg:Gl X x:=by rfl)(hdb:(x==("__debug__":Str))=false:=by decide)
 (he:AF (e::es) X.env=(false,eval e X.env)::AF es X.env:=by rfl) (hpl:(Cy pos (AF es X.env)).any (·.1)=false:=by rfl):DE X (.Call (.Name x p) (e::es) [] pos) (qz sp t):=by
 obtain⟨f,fd,ps,F,hm,hk,hb⟩:=C
 refine aT (uA F hr hg hm hk hb .nil yR ha hdb he hpl) fun σ H Q zz19_0=>?_
 obtain⟨δ,M,R,hs,hM,q,fin⟩:=zz19_0
 refine⟨δ,M,_,hs,hM,q,fun ds M1 vs H1 g1 r1 a1 q1=>?_⟩
 show d6 X.K sp (vs++[]) H1 Q E0
 rw[List.append_nil]
 exact⟨ds,M1,R,r1,a1,q1,fin.go g1⟩
end
def di(N:List Str)(ds:List D):DS:=ds.map some++List.replicate (N.length-ds.length) none
section
variable{P:Au}{w:AU}{K:A0}{mg:Str->Option A1}{base:Heap}
theorem fnD{x qual:Str}{st:Stmt}{f:Addr}{fd:FuncData}{N ps:List Str}{k:Nat}{sp:SpD}(F:Fun K x qual st f fd)(S:FnScope N ps (ak st))(len:∀ds M Q,sp ds M Q->ds.length=ps.length)
 (hbody:∀X:Cx,X.prog=P->True) (body:∀(cdv:A1) (A:AQ) (outer:List Env) (s:A2) (H:Hp) (E:XK),Room k (A.deeper (envOfC qual (ak st) s.heap.objs.size f cdv))->
  ∃t,DSs (fy CX0 P w K mg base N qual (ak st) f cdv A outer s H E).nox (aN st) t/\∀ds M Q,sp ds M Q->t { nx:=fun _ M'=>Ret Q .non M',rt:=Ret Q } (di N ds) M):FnOk P w K mg base CX0 (k+1) f fd ps (d6 K sp):=by
 refine F.ok S (fun vs H Q E zz20_0=>by obtain⟨ds,M,R,rs,_,q,_⟩:=zz20_0;rw[<-rs.length];exact len _ _ _ q) fun cdv A outer s H vs Q E hr zz21_0=>?_
 obtain⟨ds,M,R,rs,a,q,fin⟩:=zz21_0
 obtain⟨t,h,hq⟩:=body cdv A outer s H E hr
 refine⟨_,h,di N ds,M,fW rs,a,{ nx:=fun _ M'=>Ret R .non M',rt:=Ret R },⟨fun δ' M' σ' H' g s' a' q'=>?_,fun d M' v H' g r a' zz22_0=>by obtain⟨M2,s2,q'⟩:=zz22_0;exact(fin _ _ _ _ g r (a'.sub s2) q'),fun _ _ _ _ _ _ _ z=>z,fun _ _ _ _ _ _ _ z=>z⟩,hq ds M R q⟩
 obtain⟨M2,s2,q'⟩:=q'
 exact fin .non M2 .non H' g (by rw[Rep]) (a'.sub s2) q'
def Txt(K:A0)(mg:Str->Option A1)(x:Str)(st:Stmt):Prop:=∃f fd,Fun K x x st f fd/\mg x=some (.ref f)
theorem Txt.mk{h:Heap}{x:Str}{st:Stmt}{f:Addr}{oc:A1}{od an:Option Addr}{osl:Array (Option A1)}{kV doc pm cdv ct:A1}(X:K.In h)(G:h.Ns Bm mg)(a:PySem.W.nsIn K Bm x=some (some (.ref f))) (l:K.lookup f=some ⟨oc,od,.func (Bt x x (aZ st) (aN st) (ak st) .none kV doc pm an cdv ct),osl⟩) (c:PySem.W.codeIn K cdv x=true) (k:Cq K (.ref f)=true):Txt K mg x st:=⟨f,_,xQ l c k,PySem.W.mg_of X G a⟩
theorem xN{x:Str}{st:Stmt}{N ps:List Str}{k:Nat}{sp:SpD}(T:Txt K mg x st)(S:FnScope N ps (ak st))
 (hb:∀(kV doc pm:A1) (an:Option Addr) (cdv ct:A1) (us:List A1),us.length=ps.length->bindArgs (Bt x x (aZ st) (aN st) (ak st) .none kV doc pm an cdv ct) ⟨us,[]⟩=pure (ps.zip us))
 (len:∀ds M Q,sp ds M Q->ds.length=ps.length)
 (body:∀(f:Addr) (cdv:A1) (A:AQ) (outer:List Env) (s:A2) (H:Hp) (E:XK),Room k (A.deeper (envOfC x (ak st) s.heap.objs.size f cdv))->
  ∃t,DSs (fy CX0 P w K mg base N x (ak st) f cdv A outer s H E).nox (aN st) t/\∀ds M Q,sp ds M Q->t { nx:=fun _ M'=>Ret Q .non M',rt:=Ret Q } (di N ds) M):Cal P w K mg base (k+1) x sp:=by
 obtain⟨f,fd,F,hm⟩:=T
 exact⟨f,fd,ps,fnD F S len (fun _ _=>trivial) (body f),hm,F.kp,F.binds hb⟩
end
theorem j6:Be "abs"=some (.builtin "abs"):=by decide +kernel
theorem pS:Be "max"=some (.builtin "max"):=by decide +kernel
theorem qp:Be "min"=some (.builtin "min"):=by decide +kernel
theorem dG:Be "len"=some (.builtin "len"):=by decide +kernel
theorem il:Be "tuple"=some (.type "tuple"):=by decide +kernel
theorem dW:Be "list"=some (.type "list"):=by decide +kernel
theorem pH:Be "int"=some (.type "int"):=by decide +kernel
section
variable{P:Au}{w:AU}{K:A0}{mg:Str->Option A1}
theorem Ai{x:Str}{st:Stmt}{N:List Str}{p:Str}{k:Nat}{sp:SpD}{fa:Addr}(T:Txt K mg x st)(hfa:mg x=some (.ref fa))(S:FnScope N [p] (ak st))
 (hb:∀(kV doc pm:A1) (an:Option Addr) (cdv ct:A1) (us:List A1),us.length=[p].length->bindArgs (Bt x x (aZ st) (aN st) (ak st) .none kV doc pm an cdv ct) ⟨us,[]⟩=pure ([p].zip us))
 (len:∀ds M Q,sp ds M Q->ds.length=[p].length)
 (body:∀(base:Heap) (f:Addr) (cdv:A1) (A:AQ) (outer:List Env) (s:A2) (H:Hp) (E:XK),Room k (A.deeper (envOfC x (ak st) s.heap.objs.size f cdv))->
  ∃t,DSs (fy CX0 P w K mg base N x (ak st) f cdv A outer s H E).nox (aN st) t/\∀ds M Q,sp ds M Q->t { nx:=fun _ M'=>Ret Q .non M',rt:=Ret Q } (di N ds) M) :
 ∃fd,(∀(s:A2) (u:A1),BindsTo s fd ⟨[u],[]⟩ [(p,u)])/\∀base:Heap,FnOk P w K mg base CX0 (k+1) fa fd [p] (d6 K sp):=by
 obtain⟨f,fd,F,hm⟩:=T
 have e:=hfa.symm.trans hm
 cases e
 refine⟨fd,fun s u=>?_,fun base=>fnD F S len (fun _ _=>trivial) (body base _)⟩
 obtain⟨oc,od,kV,doc,pm,an,cdv,ct,osl,rfl,lk,hcd⟩:=F.ex
 exact .of_eq (hb kV doc pm an cdv ct [u] rfl)
end
end SD
namespace Ma
open PySem PySem.Spec PyProof.Rows L2 SD
abbrev fr(q:Rat):D:=.tup [.int q.num,.int (q.den:Int)]
theorem den_pos(q:Rat):(0:Int)<(q.den:Int):=by have:=q.den_pos;omega
def Bq(n:Nat)(q:Rat):Prop:=Bd n q.num/\Bd n (q.den:Int)
theorem Bq.mono{m n:Nat}{q:Rat}(h:Bq m q)(l:m<=n):Bq n q:=⟨h.1.mono l,h.2.mono l⟩
theorem k5{t b:Int}(hb:0<b):t.fdiv b=t/b:=Int.fdiv_eq_ediv_of_nonneg _ (by omega)
theorem fdiv_neg{t b:Int}(hd:b ∣ t)(hb:0<b):t.fdiv (-b)=-(t/b):=by
 obtain⟨c,rfl⟩:=hd;have hb':b≠0:=by omega
 rw[Int.mul_ediv_cancel_left _ hb'];have:b*c=-b * -c:=by rw[Int.neg_mul_neg]
 rw[this];exact Int.mul_fdiv_cancel_left _ (by omega)
theorem nX(t b:Int):((Nat.gcd t.natAbs b.natAbs:Nat):Int) ∣ t:=Int.ofNat_dvd_left.mpr (Nat.gcd_dvd_left _ _)
theorem mV(t b:Int):((Nat.gcd t.natAbs b.natAbs:Nat):Int) ∣ b:=Int.ofNat_dvd_left.mpr (Nat.gcd_dvd_right _ _)
theorem iS(t b:Int):Int.gcd b t=Nat.gcd t.natAbs b.natAbs:=by unfold Int.gcd;exact Nat.gcd_comm _ _
theorem og{t b:Int}(hb:b≠0):0<Nat.gcd t.natAbs b.natAbs:=Nat.gcd_pos_of_pos_right _ (by omega)
theorem mW{t b:Int}(hb:0<b):t.fdiv (Nat.gcd t.natAbs b.natAbs:Nat)=(Rat.divInt t b).num/\b.fdiv (Nat.gcd t.natAbs b.natAbs:Nat)=((Rat.divInt t b).den:Int):=by
 have hg:=og (t:=t) (b:=b) (by omega);rw[k5 (by omega),k5 (by omega),Rat.num_divInt,Rat.den_divInt,if_neg (by omega),Bx hb,Int.one_mul,iS];refine⟨rfl,?_⟩;rw[Int.natCast_ediv]
 congr 1
 omega
theorem oo{t b:Int}(hb:b<0):t.fdiv (-((Nat.gcd t.natAbs b.natAbs:Nat):Int))=(Rat.divInt t b).num/\b.fdiv (-((Nat.gcd t.natAbs b.natAbs:Nat):Int))=((Rat.divInt t b).den:Int):=by
 have hg:=og (t:=t) (b:=b) (by omega);rw[fdiv_neg (nX t b) (by omega),fdiv_neg (mV t b) (by omega),Rat.num_divInt,Rat.den_divInt,if_neg (by omega),Bj hb,iS];constructor
 ·rw[show(-1:Int)*t=-t from by omega,Int.neg_ediv_of_dvd (nX t b)]
 ·rw[Int.natCast_ediv,show((b.natAbs:Nat):Int)=-b from by omega,Int.neg_ediv_of_dvd (mV t b)]
theorem mi{t b:Int}(hb:b≠0):(Rat.divInt t b).num.natAbs<=t.natAbs/\(Rat.divInt t b).den<=b.natAbs:=by
 constructor
 ·rw[Rat.num_divInt];refine B8 (Int.natAbs_ediv_le_natAbs _ _) ?_;rw[Int.natAbs_mul];rcases Int.lt_trichotomy b 0 with h|h|h
  ·rw[Bj h];simp
  ·exact absurd h hb
  ·rw[Bx h];simp
 ·rw[Rat.den_divInt,if_neg hb];exact Nat.div_le_self _ _
theorem Bq.divInt{n:Nat}{t b:Int}(hb:b≠0)(h1:Bd n t)(h2:Bd n b):Bq n (Rat.divInt t b):=by obtain⟨a1,a2⟩:=mi (t:=t) hb;exact⟨Nat.lt_of_le_of_lt a1 h1,Nat.lt_of_le_of_lt (by simpa using a2) h2⟩
theorem oe(x y:Nat):Int.fmod (x:Int) (y:Int)=((x%y:Nat):Int):=by rw[Int.fmod_eq_emod_of_nonneg _ (by omega)];rfl
theorem wO(q r:Rat):Bi (.tuple [.int q.num,.int (q.den:Int)]) (.tuple [.int r.num,.int (r.den:Int)])=decide (q=r):=by
 simp only[Bi,Cn,Bool.and_true];by_cases h:q=r
 ·subst h;simp
 ·rw[decide_eq_false h];rw[Bool.eq_false_iff];intro z;rw[Bv,beq_iff_eq,beq_iff_eq]at z;exact h (Rat.ext z.1 (by have:=z.2;omega))
theorem yH(q r:Rat):decide (q.num*(r.den:Int)<r.num*(q.den:Int))=decide (q<r):=by rw[decide_eq_decide,Rat.lt_iff]
abbrev spt(a b:Rat):D:=.tup [fr a,fr b]
theorem cQ(q:Rat):(q.den:Int)≠0:=by have:=q.den_pos;omega
theorem add_eq(q r:Rat):Rat.divInt (q.num*(r.den:Int)+r.num*(q.den:Int)) ((q.den:Int)*(r.den:Int))=q+r:=by rw[<-Rat.divInt_add_divInt _ _ (cQ q) (cQ r),B7,B7]
theorem sub_eq(q r:Rat):Rat.divInt (q.num*(r.den:Int)-r.num*(q.den:Int)) ((q.den:Int)*(r.den:Int))=q-r:=by rw[<-Rat.divInt_sub_divInt _ _ (cQ q) (cQ r),B7,B7]
theorem mul_eq(q r:Rat):Rat.divInt (q.num*r.num) ((q.den:Int)*(r.den:Int))=q*r:=by rw[<-Rat.divInt_mul_divInt,B7,B7]
theorem div_eq(q r:Rat):Rat.divInt (q.num*(r.den:Int)) ((q.den:Int)*r.num)=q/r:=by rw[<-Rat.divInt_mul_divInt,B7,<-Rat.inv_divInt,B7,Rat.div_def]
theorem eQ(q r:Rat):(q.den:Int)*(r.den:Int)≠0:=Int.mul_ne_zero (cQ q) (cQ r)
theorem Bq.yW{n:Nat}{q r:Rat}(a:Bq n q)(b:Bq n r):Bd (2*n+1) (q.num*(r.den:Int)+r.num*(q.den:Int)):=((a.1.mul b.2).add (b.1.mul a.2)).mono (by omega)
theorem Bq.jo{n:Nat}{q r:Rat}(a:Bq n q)(b:Bq n r):Bd (2*n+1) (q.num*(r.den:Int)-r.num*(q.den:Int)):=((a.1.mul b.2).sub (b.1.mul a.2)).mono (by omega)
theorem Bq.yO{n:Nat}{q r:Rat}(a:Bq n q)(b:Bq n r):Bd (2*n+1) (q.num*r.num):=(a.1.mul b.1).mono (by omega)
theorem Bq.nD{n:Nat}{q r:Rat}(a:Bq n q)(b:Bq n r):Bd (2*n+1) ((q.den:Int)*(r.den:Int)):=(a.2.mul b.2).mono (by omega)
theorem Bq.sub{n:Nat}{q r:Rat}(a:Bq n q)(b:Bq n r):Bq (2*n+1) (q-r):=by rw[<-sub_eq];exact .divInt (eQ q r) (a.jo b) (a.nD b)
theorem Bq.mOk{n:Nat}{q r:Rat}(a:Bq n q)(b:Bq n r)(h:n<=8000):IntMulOk q.num r.num/\IntMulOk q.num (r.den:Int)/\IntMulOk r.num (q.den:Int)/\IntMulOk (q.den:Int) (r.den:Int):=
 have m:∀{i:Int},Bd n i->Bd 1000000 i:=fun z=>z.mono (by omega)
 ⟨cK (m a.1) (m b.1),cK (m a.1) (m b.2),cK (m b.1) (m a.2),cK (m a.2) (m b.2)⟩
def sgn(z:Rat):Int:=if 0<z then 1 else if z<0 then -1 else 0
def cr(a b c d x y:Rat):Rat:=(c-a)*(y-b)-(d-b)*(x-a)
abbrev wll(a b c d:Rat):D:=.tup [spt a b,spt c d]
def ah(a b c d:Rat):Prop:=a<c\/a=c/\b<d
instance(a b c d:Rat):Decidable (ah a b c d):=inferInstanceAs (Decidable (_\/_))
theorem kH(z:Rat):sgn z=0↔z=0:=by
 unfold sgn;split
 ·grind
 ·split<;>grind
theorem pos_int{i:Int}(h:0<i):(0:Rat)<(i:Rat):=by rw[Rat.lt_iff];simpa using h
end Ma
namespace SD
open PySem PySem.Spec PyProof.Rows L2
def cS(names:List (Str×BN))(env:Env):List (Str×Addr):=(names.filter fun y=>y.2==.free).reverse.map fun y=>(y.1,(env.cells.lookup y.1).getD 0)
theorem gS{scope:BY}{env:Env}(h:∀y∈scope.names,y.2=.free->∃c,env.cells.lookup y.1=some c):closureFor scope env=pure (cS scope.names env):=by
 have key:∀(names:List (Str×BN)) (acc:List (Str×Addr)),(∀y∈names,y.2=.free->∃c,env.cells.lookup y.1=some c)->
  (forIn names acc (fun(x:Str×BN) (r:List (Str×Addr))=>if(x.2==C5)=true then do let a <-cellOf env x.1;pure (BW ((x.1,a)::r))else pure (BW r)):Sem (List (Str×Addr)))=pure (cS names env++acc):=by
  intro names
  induction names with
  |nil=>intro acc _;rfl
  |cons y ys ih=>
   intro acc hy
   obtain⟨n,k⟩:=y
   rw[Cc]
   by_cases hk:(k==C5)=true
   ·obtain⟨c,hc⟩:=hy (n,k) (AW ..) (by simpa using hk)
    have e1:cellOf env n=pure c:=by unfold cellOf;rw[hc]
    dsimp only
    rw[if_pos hk,e1]
    simp only[C6]
    rw[ih _ fun y hm=>hy y (AV _ hm)]
    unfold cS
    rw[List.filter_cons_of_pos (by simpa using hk),List.reverse_cons,B0,List.append_assoc]
    simp[hc]
   ·dsimp only
    rw[if_neg hk]
    simp only[C6]
    rw[ih _ fun y hm=>hy y (AV _ hm)]
    unfold cS
    rw[List.filter_cons_of_neg (by simpa using hk)]
 have:=key scope.names [] h;rw[List.append_nil]at this;unfold closureFor;exact Eq.trans (congrArg (fun t:Sem (List (Str×Addr))=>t >>= fun cs=>pure cs) this) rfl
theorem lE{env:Env}{y:Str}{c:Addr}:∀{names:List (Str×BN)},(∀z∈names,z.2=.free->∃c,env.cells.lookup z.1=some c)->(cS names env).lookup y=some c->env.cells.lookup y=some c:=by intro names h e;have hm:=AG e;unfold cS at hm;obtain⟨z,hz,e2⟩:=Bo.mp hm;rw[List.mem_reverse,List.mem_filter]at hz;obtain⟨c',hc⟩:=h z hz.1 (by simpa using hz.2);rw[hc]at e2;cases e2;exact hc
theorem lr{env:Env}{y:Str}{names:List (Str×BN)}(hm:(y,C5)∈names):∃c,(cS names env).lookup y=some c:=by
 cases e:(cS names env).lookup y with
 |some c=>exact⟨c,rfl⟩
 |none=>
  have:=List.lookup_eq_none_iff.mp e (y,(env.cells.lookup y).getD 0) (Bo.mpr ⟨(y,.free),List.mem_reverse.mpr (List.mem_filter.mpr ⟨hm,rfl⟩),rfl⟩)
  simp at this
theorem dQ{env:Env}(hk:env.scope.kind=.function):∀{names:List (Str×BN)} {y:Str} {k:BN},
 (names.map fun(n,k)=>if(k==C5&&env.scope.kind==.function&&env.kindOf n==some .cell)then(n,NameKind.cell)else(n,k)).lookup y=some k->
  names.lookup y=some k\/(k=.cell/\names.lookup y=some .free)
 |[],_,_,h=>by simp at h
 |(n,q)::r,y,k,h=>by
  have ih:=@dQ env hk r y k
  rw[Av]at h
  dsimp only at h
  by_cases hy:(y==n)=true
  ·by_cases hc:(q==C5&&env.scope.kind==.function&&env.kindOf n==some .cell)=true
   ·rw[if_pos hc,Bs,hy]at h
    have hf:q=.free:=by
     rw[Bv,Bv]at hc
     simpa using hc.1.1
    cases h
    right
    exact⟨rfl,by rw[Bs,hy,hf]⟩
   ·rw[if_neg hc,Bs,hy]at h
    left
    rw[Bs,hy];exact h
  ·have hy':(y==n)=false:=by simpa using hy
   have h':(r.map fun(n,k)=>if(k==C5&&env.scope.kind==.function&&env.kindOf n==some .cell)then(n,NameKind.cell)else(n,k)).lookup y=some k:=by
    split at h
    ·rw[Bs,hy']at h;exact h
    ·rw[Bs,hy']at h;exact h
   rw[Bs,hy']
   exact ih h'
theorem jX{X:Cx}{tg iter:Expr}{wi wi':TI}(h:PI X tg iter wi)(k:∀σ H R,wi' σ H R->wi σ H R):PI X tg iter wi':=fun pins s σ H R I q=>h pins s σ H R I (k _ _ _ q)
def zL(K:A0)(tl:TE):TI:=fun σ H R=>tl σ H fun x H1=>∃a,x=.ref a/\(((∃xs,SqL K H1 a xs)/\R (Itl K a) H1)\/((∃xs,SqT K H1 a xs)/\R (Itt K a) H1))
theorem vG{X:Cx}{tg l:Expr}{tl:TE}(hl:PE X l tl):PI X tg l (zL X.K tl):=by
 intro pins s σ H R I h;refine thn (hl pins s σ H _ I h) fun v s1 zz1_0=>?_;obtain⟨x,H1,I1,r1,q1⟩:=zz1_0;obtain⟨a,e,z⟩:=q1;subst e;cases r1
 have fp:∀b∈[s1.heap.objs.size],ck X pins H1 b:=fun b hb=>by
  obtain rfl:b=s1.heap.objs.size:=by simpa using hb
  exact I1.oU (A7 _) (I1.hok.fresh (A7 _))
 rcases z with⟨⟨xs,hq⟩,q⟩|⟨⟨xs,hq⟩,q⟩
 ·obtain⟨its,rv,p,hz⟩:=I1.list hq;exact wpAny_pyIter_list p.isList ⟨_,[s1.heap.objs.size],_,_,H1,rfl,I1.kept (t':=s1.toks) fun b o e=>A3 _ e,oz a _,⟨_,Aq _ rfl,rfl,rfl⟩,fp,q⟩
 ·obtain⟨its,rv,p,hz⟩:=I1.tuple hq;exact wpAny_pyIter_tuple (show s1.heap.IsTuple a its.toArray from p) ⟨_,[s1.heap.objs.size],_,_,H1,rfl,I1.kept (t':=s1.toks) fun b o e=>A3 _ e,mr a _,⟨_,Aq _ rfl,rfl,rfl⟩,fp,q⟩
structure ItD where
 n:Nat
 item:Nat->Option D
 C:MH->Prop
abbrev TID:=DS->MH->(ItD->MH->Prop)->Prop
structure ItOk(K:A0)(H1:Hp)(I:ItD)(J:It):Prop where
 stop:∀H2 M2,Grow K H1 H2->Abs K H2 M2->I.C M2->J.stop I.n H2
 go:∀i H2 M2,i<I.n->Grow K H1 H2->Abs K H2 M2->I.C M2->J.go i H2
 yld:∀i H2 M2 v H3,i<I.n->Grow K H1 H2->Abs K H2 M2->I.C M2->J.yld i H2 v H3->Grow K H2 H3/\Abs K H3 M2/\∃d,I.item i=some d/\Rep K H3 d v
def ot(K:A0)(t:TID):TI:=fun σ H R=>∃δ M RD,Slots K H δ σ/\Abs K H M/\t δ M RD/\∀I M' H' J,Grow K H H'->Abs K H' M'->RD I M'->ItOk K H' I J->R J H'
def DI(X:Cx)(tg iter:Expr)(t:TID):Prop:=PI X tg iter (ot X.K t)
def qx(M:MH):D->List D->Prop
 |.tup ds,es=>es=ds
 |.rol ds,es=>es=ds
 |.ref a,es=>M a=some (.lst es)
 |_,_=>False
inductive Rn1(ds:List D)(M:MH)(R:ItD->MH->Prop):Prop
 |mk (n:Nat) (h:ds=[.int (n:Int)]) (q:n<2^60/\R ⟨n,fun i=>some (.int (i:Int)),fun _=>True⟩ M):Rn1 ds M R
inductive Sq1(d:D)(M:MH)(R:ItD->MH->Prop):Prop
 |mk (ds:List D) (h:qx M d ds) (q:R ⟨ds.length,fun i=>ds[i]?,fun M=>qx M d ds⟩ M):Sq1 d M R
def zy(ta:TAD):TID:=fun δ M R=>ta δ M fun ds M1=>Rn1 ds M1 R
def zG(tl:TD):TID:=fun δ M R=>tl δ M fun d M1=>Sq1 d M1 R
section
variable{X:Cx}{tg:Expr}
theorem pb{a:Expr}{ta:TAD}{p pos:Pos}(hg:Gl X "range")(hm:X.mg "range"=none)(ha:DA X [a] ta)(hs:AF [a] X.env=[(false,eval a X.env)]:=by rfl):DI X tg (.Call (.Name "range" p) [a] [] pos) (zy ta):=
 jX (jl hg hm ha hs) fun σ H R ⟨δ,M,RD,hs,hM,q,fin⟩=>⟨δ,M,_,hs,hM,q,fun ds M1 vs H1 g1 r1 a1 z9=>by
  obtain⟨n,e,hn,q1⟩:=z9
  subst e
  obtain⟨v,rfl,r⟩:=bz r1
  rw[Rep]at r;subst r
  refine⟨(n:Int),rfl,by omega,by omega,fin _ M1 H1 _ g1 a1 q1 ⟨fun _ _ _ _ _=>by show((n:Int)).toNat<=n;simp,fun i _ _ hi _ _ _=>by show i<((n:Int)).toNat;simpa using hi,?_⟩⟩
  rintro i H2 M2 v H3 hi g2 a2 _ ⟨rfl,rfl⟩
  exact⟨.refl,a2,_,rfl,by rw[Rep];simp⟩⟩
theorem b6{l:Expr}{tl:TD}(hl:DE X l tl):DI X tg l (zG tl):=
 jX (vG hl) fun σ H R ⟨δ,M,RD,hs,hM,q,fin⟩=>⟨δ,M,_,hs,hM,q,fun d M1 v H1 g1 r1 a1 z9=>by
  obtain⟨ds,sq,q1⟩:=z9
  cases d with
  |tup es=>
   obtain rfl:ds=es:=sq
   rw[Rep]at r1
   obtain⟨a,xs,rfl,hq,rs⟩:=r1
   refine⟨a,rfl,.inr ⟨⟨xs,hq⟩,fin _ M1 H1 _ g1 a1 q1 ⟨fun H2 _ g2 _ _=>⟨xs,g2.t _ _ hq,by rw[rs.length];exact A7 _⟩,fun i H2 _ hi g2 _ _=>?_,?_⟩⟩⟩
   ·have hi':i<xs.length:=by rw[<-rs.length];exact hi
    exact⟨xs,xs[i],g2.t _ _ hq,by simp[hi']⟩
   ·rintro i H2 M2 v H3 hi g2 a2 _ ⟨rfl,hy⟩
    have hi:i<ds.length:=hi
    obtain⟨x,e1,e2⟩:=(rs.mono g2).get (show ds[i]?=some ds[i] by simp[hi])
    have:=hy xs (g2.t _ _ hq)
    rw[e1]at this;cases this
    exact⟨.refl,a2,_,by simp[hi],e2⟩
  |rol es=>
   obtain rfl:ds=es:=sq
   rw[Rep]at r1
   obtain⟨a,xs,rfl,hq,rs⟩:=r1
   refine⟨a,rfl,.inl ⟨⟨xs,hq.sql⟩,fin _ M1 H1 _ g1 a1 q1 ⟨fun H2 _ g2 _ _=>⟨xs,(g2.f _ _ hq).sql,by rw[rs.length];exact A7 _⟩,fun i H2 _ hi g2 _ _=>?_,?_⟩⟩⟩
   ·have hi':i<xs.length:=by rw[<-rs.length];exact hi
    exact⟨xs,xs[i],(g2.f _ _ hq).sql,by simp[hi']⟩
   ·rintro i H2 M2 v H3 hi g2 a2 _ ⟨rfl,hy⟩
    have hi:i<ds.length:=hi
    obtain⟨x,e1,e2⟩:=(rs.mono g2).get (show ds[i]?=some ds[i] by simp[hi])
    have:=hy xs (g2.f _ _ hq).sql
    rw[e1]at this;cases this
    exact⟨.refl,a2,_,by simp[hi],e2⟩
  |ref a=>
   rw[Rep]at r1;subst r1
   obtain⟨xs,hx,rs⟩:=a1 _ _ (show M1 a=some (.lst ds)from sq)
   refine⟨a,rfl,.inl ⟨⟨xs,SqL.of hx⟩,fin _ M1 H1 _ g1 a1 q1 ⟨fun H2 M2 g2 a2 c2=>?_,fun i H2 M2 hi g2 a2 c2=>?_,?_⟩⟩⟩
   ·obtain⟨ys,hy,ry⟩:=a2 _ _ (show M2 a=some (.lst ds)from c2)
    exact⟨ys,SqL.of hy,by rw[ry.length];exact A7 _⟩
   ·obtain⟨ys,hy,ry⟩:=a2 _ _ (show M2 a=some (.lst ds)from c2)
    have hi':i<ys.length:=by rw[<-ry.length];exact hi
    exact⟨ys,ys[i],SqL.of hy,by simp[hi']⟩
   ·rintro i H2 M2 v H3 hi g2 a2 c2 ⟨rfl,hy⟩
    have hi:i<ds.length:=hi
    obtain⟨ys,hys,ry⟩:=a2 _ _ (show M2 a=some (.lst ds)from c2)
    obtain⟨x,e1,e2⟩:=ry.get (show ds[i]?=some ds[i] by simp[hi])
    have:=hy ys (SqL.of hys)
    rw[e1]at this;cases this
    exact⟨.refl,a2,_,by simp[hi],e2⟩
  |_=>exact sq.elim⟩
inductive ForD(g:TGD)(tb:TSD)(B:EndsD)(I:ItD)(δ0:DS)(M0:MH):Prop
 |mk (W:Nat->DS->MH->Prop) (w0:W 0 δ0 M0) (hC:∀i δ M,i<=I.n->W i δ M->I.C M) (turn:∀i d δ M,i<I.n->I.item i=some d->W i δ M->g d δ M fun δ2 M2=>tb { B with nx:=W (i+1),ct:=W (i+1),bk:=B.nx } δ2 M2) (done:∀δ M,W I.n δ M->B.nx δ M):ForD g tb B I δ0 M0
def rB(wd:TID)(g:TGD)(tb:TSD):TSD:=fun B δ M=>wd δ M fun I M1=>ForD g tb B I δ M1
theorem cI{iter:Expr}{body:List Stmt}{wd:TID}{g:TGD}{tb:TSD}{pos:Pos}(hp:PassesOwn (Ay X.prog X.w) X.A X.env X.xe)(hc:X.calm=true)(hi:DI X tg iter wd)(hG:DG X tg g)(hb:DSs X body tb)
 (hf:∀x,B5 iter X.env x=pure x:=by intro _;rfl):DSt X (.For tg iter body [] pos) (rB wd g tb):=
 b8 (qf hp hc hi hG hb hf) fun E σ H ⟨δ,M,hs,a,B,ok,q⟩=>⟨δ,M,_,hs,a,q,fun I M1 H1 J g1 a1 z9 io=>by
  obtain⟨W,w0,hC,turn,done⟩:=z9
  refine⟨fun i m σ H2=>m=I.n-i/\i<=I.n/\Grow X.K H1 H2/\∃δ M,Slots X.K H2 δ σ/\Abs X.K H2 M/\W i δ M,⟨I.n,by simp,B2 _,.refl,δ,M1,hs.mono g1,a1,w0⟩,?_⟩
  rintro i m σ H2 ⟨rfl,hi,g2,δ2,M2,s2,a2,w2⟩
  by_cases hlt:i<I.n
  ·refine .inr ⟨io.go i H2 M2 hlt g2 a2 (hC _ _ _ hi w2),fun σ' H3=>Grow X.K H1 H3/\∃δ M,Slots X.K H3 δ σ'/\Abs X.K H3 M/\W (i+1) δ M,fun σ' H3 z=>⟨I.n-(i+1),by omega,rfl,hlt,z⟩,fun x H3 y=>?_⟩
   obtain⟨g3,a3,d,ed,rd⟩:=io.yld i H2 M2 x H3 hlt g2 a2 (hC _ _ _ hi w2) y
   refine⟨d,δ2,M2,_,rd,s2.mono g3,a3,turn i d δ2 M2 hlt ed w2,fun δ4 M4 σ4 H4 g4 s4 a4 q4=>⟨δ4,M4,s4,a4,_,?_,q4⟩⟩
   have G:Grow X.K H1 H4:=(g2.trans g3).trans g4
   exact⟨fun δ' M' σ' H' g' s' a' w'=>⟨G.trans g',δ',M',s',a',w'⟩,fun d M v H' g'=>ok.rt d M v H' ((g1.trans G).trans g'),fun δ' M' σ' H' g' s' a' q'=>ok.nx _ _ _ _ ((g1.trans G).trans g') s' a' q',fun δ' M' σ' H' g' s' a' w'=>⟨G.trans g',δ',M',s',a',w'⟩⟩
  ·obtain rfl:i=I.n:=by omega
   exact .inl ⟨io.stop H2 M2 g2 a2 (hC _ _ _ hi w2),ok.nx _ _ _ _ (g1.trans g2) s2 a2 (done δ2 M2 w2)⟩⟩
end
end SD
namespace Ma
open SD
theorem ia{a b:Int}(h:0<b):0<Rat.divInt a b↔0<a:=by
 have h1:=Rat.divInt_nonneg_iff_of_pos_right (a:=-a) h;rw[<-Rat.neg_divInt]at h1;have:¬(0<=-Rat.divInt a b)↔0<Rat.divInt a b:=by constructor<;>intro z<;>grind
 rw[<-this,h1];omega
theorem lU{a b:Int}(h:0<b):Rat.divInt a b<0↔a<0:=by
 have h1:=Rat.divInt_nonneg_iff_of_pos_right (a:=a) h;have:¬(0<=Rat.divInt a b)↔Rat.divInt a b<0:=by constructor<;>intro z<;>grind
 rw[<-this,h1];omega
theorem tO{t b:Int}(h:0<b):sgn (Rat.divInt t b)=if 0<t then 1 else if t<0 then -1 else 0:=by unfold sgn;simp only[ia h,lU h]
theorem sU(a b c d x y:Rat) :
 Rat.divInt ((c.num*(a.den:Int)-a.num*(c.den:Int))*(y.num*(b.den:Int)-b.num*(y.den:Int))*((d.den:Int)*(b.den:Int)*((x.den:Int)*(a.den:Int))) -
  (d.num*(b.den:Int)-b.num*(d.den:Int))*(x.num*(a.den:Int)-a.num*(x.den:Int))*((c.den:Int)*(a.den:Int)*((y.den:Int)*(b.den:Int))))
  ((c.den:Int)*(a.den:Int)*((y.den:Int)*(b.den:Int))*((d.den:Int)*(b.den:Int)*((x.den:Int)*(a.den:Int))))=cr a b c d x y:=by
 rw[<-Rat.divInt_sub_divInt _ _ (Int.mul_ne_zero (eQ c a) (eQ y b)) (Int.mul_ne_zero (eQ d b) (eQ x a)),<-Rat.divInt_mul_divInt,<-Rat.divInt_mul_divInt,sub_eq,sub_eq,sub_eq,sub_eq]
 rfl
end Ma
namespace SD
open PySem PySem.Spec PyProof.Rows L2
abbrev NoE:A1->A2->Prop:=fun _ _=>False
def cN(X:Cx)(xs:List Str)(js:List Nat):List Str:=xs++js.map fun j=>(X.N[j]?).getD ("":Str)
def cσ(os:L2.St)(js:List Nat)(σ:L2.St):L2.St:=os++js.map fun j=>(σ[j]?).join
theorem bJ:∀(names:List (Str×BN)) (n:Nat) (acc:List (Str×Addr)),BD n names acc=BD n names []++acc
 |[],_,_=>rfl
 |(x,k)::r,n,acc=>by
  unfold BD
  split
  ·rw[bJ r (n+1) ((x,n)::acc),bJ r (n+1) [(x,n)],List.append_assoc];rfl
  ·exact bJ r n acc
theorem fv:∀(names:List (Str×BN)) (n:Nat) {y:Str} {c:Addr},(y,c)∈BD n names []->(y,NameKind.cell)∈names
 |[],_,_,_,h=>by cases h
 |(x,k)::r,n,y,c,h=>by
  unfold BD at h
  split at h
  ·rename_i hk
   rw[bJ]at h
   rcases AH.mp h with h|h
   ·exact AV _ (fv r _ h)
   ·have e:(y,c)=(x,n):=by simpa using h
    cases e
    obtain rfl:k=.cell:=by simpa using hk
    exact AW
  ·exact AV _ (fv r _ h)
theorem kr{l r:List (Str×Addr)}{y:Str}{c:Addr}(h:(l++r).lookup y=some c):l.lookup y=some c\/(l.lookup y=none/\r.lookup y=some c):=by
 rw[List.lookup_append]at h;cases e:l.lookup y with
 |some c'=>rw[e]at h;exact .inl h
 |none=>rw[e]at h;exact .inr ⟨rfl,h⟩
theorem pK{env:Env}{y:Str}{c:Addr}{names:List (Str×BN)}(h:(cS names env).lookup y=some c):(y,C5)∈names:=by
 have hm:=AG h;unfold cS at hm;obtain⟨z,hz,e⟩:=Bo.mp hm;rw[List.mem_reverse,List.mem_filter]at hz;obtain⟨n,k⟩:=z;obtain rfl:k=.free:=by simpa using hz.2
 cases e;exact hz.1
theorem dm{env:Env}{k:BN}(hk:k≠.free):∀{names:List (Str×BN)} {x:Str},names.lookup x=some k->
 (names.map fun(n,k)=>if(k==C5&&env.scope.kind==.function&&env.kindOf n==some .cell)then(n,NameKind.cell)else(n,k)).lookup x=some k
 |[],_,h=>by simp at h
 |(n,q)::r,x,h=>by
  have ih:=@dm env k hk r x
  rw[Av]
  dsimp only
  by_cases hx:(x==n)=true
  ·rw[Bs,hx]at h
   cases h
   rw[if_neg (by intro z;rw[Bv,Bv]at z;exact hk (by simpa using z.1.1)),Bs,hx]
  ·have hx':(x==n)=false:=by simpa using hx
   rw[Bs,hx']at h
   split<;>(rw[Bs,hx'];exact ih h)
theorem nK{M:Model}{A:AQ}{E:A1->A2->Prop}{s:A2}{scope:BY}{globals:Addr}{cl:List (Str×Addr)}{qual:Str}{env:Env}{Q:Env->A2->Prop} (h:Q { scope:=scope,locals:=s.heap.objs.size,globals:=globals,cells:=BD (s.heap.objs.size+1) scope.names cl,qual:=qual,func:=none,code:=env.code,frame:=env.frame,builtins:=env.builtins } { s with heap:=pushCells (s.heap.push { cls:=.type "dict",data:=.dict #[] }) scope.names }) : A9 M A (newFunctionEnv scope globals cl [] qual none .none (some env)) Q E s:=by simp only[newFunctionEnv,Option.isSome_some,if_true];refine cc (wpAny_alloc ?_);refine cc (wpAny_layCells _ (fun name kind cells=>by cases hkc:kind==NameKind.cell<;>simp[hkc]) _ _ _ _ ?_);rw[show({ s with heap:=s.heap.push { cls:=.type "dict",data:=.dict #[] } }:A2).heap.objs.size=s.heap.objs.size+1 from BO ..];refine cc ?_;rw[Cs];exact A5 (A5 h)
def iI(scope:BY)(C:Addr)(env:Env):Env:=
 { scope:=relabel scope env,locals:=C,globals:=env.globals,cells:=BD (C+1) scope.names (cS scope.names env),qual:=env.qual,func:=none,code:=env.code,frame:=env.frame,builtins:=env.builtins }
def cxC(X:Cx)(xs:List Str)(js:List Nat)(scope:BY)(C:Addr)(s:A2)(H:Hp)(fp:List Addr):Cx where
 prog:=X.prog
 w:=X.w
 K:=X.K
 mg:=X.mg
 base:=X.base
 A:=X.A
 N:=cN X xs js
 s₀:=s
 H₀:=H
 env:=iI scope C X.env
 outer:=X.stack
 stack:=X.stack
 ex:=fp
 fn:=fun y=>xs.contains y
 calm:=X.calm
 pn:=[]
 xe:=fun _ _=>False
structure CScope(X:Cx)(xs:List Str)(js:List Nat)(scope:BY):Prop where
 kind:scope.kind=.function
 cell:∀y∈scope.names,y.2=.cell->y.1∈xs
 free':∀y∈scope.names,y.2=.free->y.1∉xs
 names:∀y∈scope.names,y.2=.local->scope.names.lookup y.1=some .local
 own:∀x∈xs,scope.names.lookup x=some .local\/scope.names.lookup x=some .cell
 out:∀y∈scope.names,y.2=.free->X.env.kindOf y.1=some .cell\/X.env.kindOf y.1=some .free
 nd:(cN X xs js).Nodup
 js:∀j∈js,scope.names.lookup ((X.N[j]?).getD ("":Str))≠some .local
section
variable{X:Cx}{xs:List Str}{js:List Nat}{scope:BY}{pins:List (Addr×Obj)}{σ:L2.St}{H:Hp}{s:A2}{fp:List Addr}
theorem CScope.cells(c:CScope X xs js scope)(ok:X.Ok):∀y∈scope.names,y.2=.free->∃a,X.env.cells.lookup y.1=some a:=fun y hy hf=>ok.has _ (c.out y hy hf)
theorem CScope.xT(c:CScope X xs js scope)(ok:X.Ok):closureFor scope X.env=pure (cS scope.names X.env):=gS (c.cells ok)
theorem CScope.kindOf(c:CScope X xs js scope)(ok:X.Ok){C:Addr}{y:Str}{k:BN}(e:(iI scope C X.env).kindOf y=some k):scope.names.lookup y=some k\/(k=.cell/\scope.names.lookup y=some .free):=dQ ok.kind e
theorem ll(c:CScope X xs js scope)(I:Inv X pins σ H s)(hf:∀b∈fp,ck X pins H b)(hfp:∀b∈fp,b<s.heap.objs.size){h':Heap}(eh:h'=pushCells (s.heap.push { cls:=.type "dict",data:=.dict #[] }) scope.names)(k:∀b o,s.heap.get? b=some o->h'.get? b=some o) :
 Inv (cxC X xs js scope s.heap.objs.size s H fp) [] (cσ (List.replicate xs.length none) js σ) H { s with heap:=h' }:=by
 have ok:=I.ok
 have hn:h'.Ns s.heap.objs.size fun _=>none:=by rw[eh];exact(Heap.Ns.new s.heap (.type "dict")).keeps (pushCells_keeps _ _)
 have cok:CellsOk h' (s.heap.objs.size+1) (BD (s.heap.objs.size+1) scope.names []):=by
  have:=cellsFrom_ok scope.names (s.heap.push { cls:=.type "dict",data:=.dict #[] }) (s.heap.objs.size+1) [] ⟨fun _ _ hm=>(nomatch hm),List.Pairwise.nil⟩ (by rw[BO];exact A7 _)
  rw[BO]at this
  rw[eh];exact this
 have cl:∀{y:Str} {a:Addr},(cS scope.names X.env).lookup y=some a->X.env.cells.lookup y=some a:=fun e=>lE (c.cells ok) e
 have olt:∀{y:Str} {a:Addr},X.env.cells.lookup y=some a->a<s.heap.objs.size:=fun e=>by obtain⟨v,z⟩:=I.cell _ _ e;exact z.lt
 have both:∀{y:Str} {a:Addr},(iI scope s.heap.objs.size X.env).cells.lookup y=some a->((y,a)∈BD (s.heap.objs.size+1) scope.names []/\s.heap.objs.size<a)\/X.env.cells.lookup y=some a:=fun{y a} e=>by
  have e:(BD (s.heap.objs.size+1) scope.names (cS scope.names X.env)).lookup y=some a:=e
  rw[bJ]at e
  rcases kr e with z|⟨_,z⟩
  ·exact .inl ⟨AG z,(cok.empty _ _ (AG z)).2⟩
  ·exact .inr (cl z)
 have free:∀{y:Str},(iI scope s.heap.objs.size X.env).kindOf y=some .cell\/(iI scope s.heap.objs.size X.env).kindOf y=some .free->scope.names.lookup y=some .cell\/scope.names.lookup y=some .free:=fun{y} e=>by
  rcases e with e|e
  ·rcases c.kindOf ok e with z|⟨_,z⟩
   ·exact .inl z
   ·exact .inr z
  ·rcases c.kindOf ok e with z|⟨z,_⟩
   ·exact .inr z
   ·cases z
 refine⟨⟨ok.mod,c.kind,ok.glob,ok.blt,A7 _,fun y z a h1 h2=>?_,fun y hy=>?_,fun y a h e=>?_,ok.hd,ok.frames,.inl rfl,fun b hb=>⟨AJ (hfp b hb),fun y a e=>?_⟩,
  I.bs,B8 ok.bsz I.sz,fun b o e hb=>?_,fun b hb=>?_,I.stack,I.nW⟩,rfl,I.bare,Un.kept k,?_,fun y a e=>?_,I.hok.fresh (A7 _),fun y a e=>?_,fun p hp=>absurd (show p∈([]:List (Addr×Obj))from hp) (by simp),I.hok.kept k,?_⟩
 ·rcases both h1 with⟨m1,l1⟩|o1<;>rcases both h2 with⟨m2,l2⟩|o2
  ·exact name_of_addr cok.apart m1 m2
  ·exact absurd (olt o2) (Nat.not_lt.mpr (Ce l1))
  ·exact absurd (olt o1) (Nat.not_lt.mpr (Ce l2))
  ·exact ok.inj y z a o1 o2
 ·show ∃c,(BD (s.heap.objs.size+1) scope.names (cS scope.names X.env)).lookup y=some c
  rw[bJ,List.lookup_append]
  rcases free hy with z|z
  ·obtain⟨a,e⟩:=iq (n:=s.heap.objs.size+1) z
   exact⟨a,by rw[e];rfl⟩
  ·obtain⟨a,e⟩:=lr (env:=X.env) (AG z)
   cases q:(BD (s.heap.objs.size+1) scope.names []).lookup y with
   |none=>exact⟨a,by rw[e];rfl⟩
   |some a'=>exact⟨a',rfl⟩
 ·have hx:y∈xs:=by simpa[cxC]using h
  have e:(BD (s.heap.objs.size+1) scope.names (cS scope.names X.env)).lookup y=some a:=e
  rw[bJ]at e
  rcases kr e with z|⟨_,z⟩
  ·exact Ce (cok.empty _ _ (AG z)).2
  ·exact absurd hx (c.free' _ (pK z) rfl)
 ·rcases both e with⟨_,l⟩|o
  ·exact Nat.ne_of_gt (Nat.lt_trans (hfp b hb) l)
  ·exact(hf b hb).2.2.2.2.1 y a o
 ·rcases(hf b hb).2.2.2.1 with z|z
  ·exact ok.noex b o e z
  ·exact absurd (Aw (Aw (A8 e) ok.bsz) z) (Ck _)
 ·intro z
  rcases Ba.mp (I.j0 b z)with y|y
  ·exact(hf b hb).2.1 y
  ·exact(hf b hb).2.2.1 y
 ·refine⟨_,hn,fun i y v h1 h2 h3=>?_⟩
  have h1:(xs++js.map fun j=>(X.N[j]?).getD ("":Str))[i]?=some y:=h1
  have h2:(List.replicate xs.length (none:Option V)++js.map fun j=>(σ[j]?).join)[i]?=some (some v):=h2
  by_cases hi:i<xs.length
  ·rw[Bn (by simpa using hi),List.getElem?_replicate,if_pos hi]at h2
   cases h2
  ·have hout:y∉xs:=fun hy=>by
    rw[Bg (by omega)]at h1
    have nd:=c.nd
    unfold cN at nd
    exact(List.nodup_append.mp nd).2.2 y hy y (Ax h1) rfl
   rw[Bg (by omega)]at h1
   rw[Bg (by simp;omega)]at h2
   rw[List.length_replicate]at h2
   rw[Az]at h1 h2
   cases ej:js[i-xs.length]? with
   |none=>rw[ej]at h1;cases h1
   |some j=>
    rw[ej]at h1 h2
    have e1:(X.N[j]?).getD ("":Str)=y:=Option.some.inj h1
    have e2:(σ[j]?).join=some v:=Option.some.inj h2
    have e3:σ[j]?=some (some v):=by
     cases q:σ[j]? with
     |none=>rw[q]at e2;cases e2
     |some o=>rw[q]at e2;exact congrArg some e2
    have hj:j<X.N.length:=by rw[<-I.len];exact(A6.mp e3).1
    have e4:X.N[j]?=some y:=by
     rw[AE hj]at e1 ⊢
     exact congrArg some e1
    have nl:scope.names.lookup y≠some .local:=by
     have:=c.js j (Ax ej)
     rw[e1]at this
     exact this
    have kc:(iI scope s.heap.objs.size X.env).kindOf y=some .cell\/(iI scope s.heap.objs.size X.env).kindOf y=some .free:=by
     rcases h3 with z|z|z
     ·rcases c.kindOf (C:=s.heap.objs.size) ok z with q|⟨q,_⟩
      ·exact absurd q nl
      ·cases q
     ·exact .inl z
     ·exact .inr z
    have hm:(y,C5)∈scope.names:=by
     rcases free kc with z|z
     ·exact absurd (c.cell _ (AG z) rfl) hout
     ·exact AG z
    obtain⟨a,ha⟩:=lr (env:=X.env) hm
    have ha2:(iI scope s.heap.objs.size X.env).cells.lookup y=some a:=by
     show(BD (s.heap.objs.size+1) scope.names (cS scope.names X.env)).lookup y=some a
     rw[bJ,List.lookup_append]
     cases q:(BD (s.heap.objs.size+1) scope.names []).lookup y with
     |none=>rw[ha];rfl
     |some a'=>exact absurd (c.cell _ (fv _ _ (AG q)) rfl) hout
    have hvis:Vis X.env.scope y:=by
     rcases c.out _ hm rfl with z|z
     ·exact .inr (.inl z)
     ·exact .inr (.inr z)
    obtain⟨m,_,hl⟩:=I.loc
    obtain⟨u,r,l⟩:=hl j y v e4 e3 hvis
    refine⟨u,r,?_⟩
    rcases l with⟨z,_⟩|⟨_,a',ha',o,ho,hd⟩
    ·rcases c.out _ hm rfl with q|q
     ·have z':X.env.kindOf y=some .local:=z
      rw[q]at z';cases z'
     ·have z':X.env.kindOf y=some .local:=z
      rw[q]at z';cases z'
    ·refine .inr ⟨kc,a',?_,o,k _ _ ho,hd⟩
     have:=cl ha
     rw[ha']at this
     cases this
     exact ha2
 ·rcases both e with⟨m,_⟩|o
  ·exact⟨_,(cok.empty _ _ m).1⟩
  ·obtain⟨v,o,ho,hd⟩:=I.cell y a o
   exact⟨v,o,k _ _ ho,hd⟩
 ·rcases both e with⟨_,l⟩|o
  ·exact I.hok.fresh (Ce l)
  ·exact I.freeC y a o
 ·show(cσ (List.replicate xs.length none) js σ).length=(cN X xs js).length
  unfold cσ cN
  simp
end
def PTs(X:Cx)(ifs:List Expr)(t:TT):Prop:=∀(pins:List (Addr×Obj)) (s:A2) (σ:L2.St) (H:Hp) (Q:Bool->Hp->Prop),Inv X pins σ H s->t σ H Q->
 A9 (Ay X.prog X.w) X.A (forIn ifs true fun c r=>if r=true then do let ok <-isTrue c X.env (eval c X.env);pure (BW ok)else pure (BW r)) (TP X pins σ Q) X.xe s
theorem ug{X:Cx}:PTs X [] (fun _ H Q=>Q true H):=fun pins s σ H Q I q=>wpAny_tests_nil ⟨H,I,q⟩
theorem oT{prog:Au}{w:AU}{A:AQ}{R:Result->A2->Prop}{s:A2}{elt target iter:Expr}{ifs:List Expr}{scope:BY}{pos:Pos}{it acc:A1}{env:Env}(J:Nat->A2->Prop)
 (step:∀n s,J n s->A9 (Ay prog w) A (pyNext it) (fun r s1=>match r with
  |none=>R (.ok .next) s1
  |some v=>A9 (Ay prog w) A (letOwnedTupleGo target it v) (fun _ s2=>A9 (Ay prog w) A (assign target env v) (fun _ s3=>
   A9 (Ay prog w) A (forIn ifs true fun c r=>if r=true then do let ok <-isTrue c env (eval c env);pure (BW ok)else pure (BW r)) (fun ok s4=>
    if ok=true then A9 (Ay prog w) A (eval elt env) (fun x s5=>A9 (Ay prog w) A (call (.builtin "list.append") [acc,x]) (fun _ s6=>∃m,m<n/\J m s6) NoE s5) NoE s4
    else ∃m,m<n/\J m s4) NoE s3) NoE s2) NoE s1) NoE s)
 (n:Nat) (h:J n s):codeAny (Ay prog w) A (.compLoop (.ListComp elt [⟨target,iter,ifs,0⟩] scope pos) 0 it acc env) R s:=by
 have no:∀{E:A1->A2->Prop} e s',NoE e s'->E e s':=fun _ _ z=>z.elim
 refine codeAny_loop rfl J (fun n s hJ=>?_) n h
 show A9 _ _ (Sem.onRaise (compTurn (.ListComp elt [⟨target,iter,ifs,0⟩] scope pos) 0 it acc env) (fun x=>do noteFrame x env;theTreesLotGoes x)) _ _ s
 refine wpAny_noted ?_
 rw[compTurn_list]
 refine cc (wpAny_standAt (cc (AK (step n s hJ) (fun r s1 h1=>?_) no)))
 cases r with
 |none=>exact A5 h1
 |some v=>
  refine cc (AK h1 (fun _ s2 h2=>cc (AK h2 (fun _ s3 h3=>cc (AK h3 (fun ok s4 h4=>?_) no)) no)) no)
  cases ok with
  |false=>exact A5 ⟨rfl,h4⟩
  |true=>exact cc (cc (AK h4 (fun x s5 h5=>cc (AK h5 (fun _ s6 h6=>A5 (A5 ⟨rfl,h6⟩)) no)) no))
abbrev Own:=V->Hp->L2.St->Prop
structure TgOk(n:Nat)(g:TG)(own:Own):Prop where
 len:∀y H os,own y H os->os.length=n
 run:∀y H os0 tail os (Q:L2.St->Hp->Prop),os0.length=n->own y H os->Q (os++tail) H->g y (os0++tail) H Q
def u7(js:List Nat)(own:Own)(tc:TT)(te:TE)(σ:L2.St)(J:It)(H1:Hp)(Q:VK):Prop:=∀D,H1 D=none->∃W:Nat->Nat->Hp->Prop,(∃m,W 0 m (upd H1 D (.lst [])))/\∀i m H,W i m H->
 (J.stop i H/\Q (.ref D) H)\/(J.go i H/\∀y H',J.yld i H y H'->∃os,own y H' os/\tc (cσ os js σ) H' fun b H2=>if b=true then
  te (cσ os js σ) H2 fun v H3=>∃xs,H3 D=some (.lst xs)/\xs.length<AI/\∃m',m'<m/\W (i+1) m' (upd H3 D (.lst (xs++[v])))else ∃m',m'<m/\W (i+1) m' H2)
def my(js:List Nat)(own:Own)(wi:TI)(tc:TT)(te:TE):TE:=fun σ H Q=>wi σ H fun J H1=>u7 js own tc te σ J H1 Q
section
variable{X:Cx}{xs:List Str}{tg:Expr}{pos:Pos}{js:List Nat}{scope:BY}{elt iter:Expr}{ifs:List Expr}{te:TE}{tc:TT}{g:TG}{own:Own}{wi:TI}{pins:List (Addr×Obj)}{σ:L2.St}{H:Hp}{s:A2}{fp:List Addr}{it:Addr}{tn:Nat->Heap->Prop}{J:It}
theorem lD(c:CScope X xs js scope)(hc:X.calm=true)(hG:TgOk xs.length g own)(hg:∀C s H fp,PG (cxC X xs js scope C s H fp) tg g)(ht:∀C s H fp,PTs (cxC X xs js scope C s H fp) ifs tc)(he:∀C s H fp,PE (cxC X xs js scope C s H fp) elt te)
 {R:A1->Addr->Result->A2->Prop} {E:A1->A2->Prop} {Q:VK}
 (I:Inv X pins σ H s) (T:Turn X.prog X.w X.K tg J fp it tn) (st:tn 0 s.heap) (hf:∀b∈fp,ck X pins H b) (wc:u7 js own tc te σ J H Q)
 (hR:∀D C H' s',Inv X pins σ H' s'->ck X pins H' C->(∃m,s'.heap.Ns C m)->Q (.ref D) H'->R (.ref D) C (.ok .next) s') :
 A9 (Ay X.prog X.w) X.A (newList []) (fun acc s₃=>A9 (Ay X.prog X.w) X.A (newFunctionEnv scope X.env.globals (cS scope.names X.env) [] X.env.qual none .none (some X.env)) (fun cenv s₄=>
  codeAny (Ay X.prog X.w) X.A (.compStart (.ListComp elt [⟨tg,iter,ifs,0⟩] scope pos) 0 (.ref it) acc { cenv with scope:=relabel scope X.env }) (R acc cenv.locals) s₄) E s₃) E s:=by
 have hfp:∀b∈fp,b<s.heap.objs.size:=fun b hb=>let⟨o,e,_⟩:=T.obj 0 _ st b hb;A8 e
 have hD:H s.heap.objs.size=none:=I.hok.fresh (A7 _)
 refine AZ (nK ?_)
 generalize hh:s.heap.push { cls:=.type "list",dict:=none,data:=.seq ([]:List A1).toArray }=h3
 generalize hh1:pushCells (({ s with heap:=h3 }:A2).heap.push { cls:=.type "dict",data:=.dict #[] }) scope.names=h₁
 have k3:∀b o,s.heap.get? b=some o->h3.get? b=some o:=fun b o e=>by rw[<-hh];exact A3 _ e
 have I3:Inv X pins σ (upd H s.heap.objs.size (.lst [])) { s with heap:=h3 }:=by
  refine I.laid (t':=s.toks) k3 (A7 _) ?_
  refine⟨B2 _,[],0,.nil,?_⟩
  rw[<-hh]
  exact Aq _ rfl
 have hf3:∀b∈fp,ck X pins (upd H s.heap.objs.size (.lst [])) b:=fun b hb=>⟨by rw[aF (AJ (hfp b hb))];exact(hf b hb).1,(hf b hb).2⟩
 have hsz:h3.objs.size=s.heap.objs.size+1:=by rw[<-hh,BO]
 have hfp3:∀b∈fp,b<h3.objs.size:=fun b hb=>by rw[hsz];exact Nat.lt_succ_of_lt (hfp b hb)
 have k4:∀b o,h3.get? b=some o->h₁.get? b=some o:=fun b o e=>by rw[<-hh1];exact pushCells_keeps _ _ b o (A3 _ e)
 have I4:=ll c I3 hf3 hfp3 (h':=h₁) hh1.symm k4
 obtain⟨W,⟨m0,w0⟩,turn⟩:=wc _ hD
 have st4:tn 0 h₁:=T.keep 0 _ _ st fun b hb o e=>k4 b o (k3 b o e)
 generalize hX:cxC X xs js scope h3.objs.size { s with heap:=h3 } (upd H s.heap.objs.size (.lst [])) fp=X' at I4
 have fok:∀{pins':List (Addr×Obj)} {H':Hp} {σ':L2.St} {s':A2},Inv X' [] σ' H' s'->(∀b∈fp,H' b=none)->∀b∈fp,ck X' [] H' b:=fun{pins' H' σ' s'} J' hn b hb=>by
  subst hX
  obtain⟨a1,a2⟩:=J'.ok.exf b hb
  exact⟨hn b hb,a1,J'.ok.exfs b hb,.inl hb,a2,fun p hp=>absurd (show p∈([]:List (Addr×Obj))from hp) (by simp)⟩
 have loop:codeAny (Ay X.prog X.w) X.A (.compLoop (.ListComp elt [⟨tg,iter,ifs,0⟩] scope pos) 0 (.ref it) (.ref s.heap.objs.size) (iI scope h3.objs.size X.env)) (R (.ref s.heap.objs.size) h3.objs.size)
  { s with heap:=h₁ }:=by
  refine oT (fun n s'=>∃i os H',os.length=xs.length/\Inv X' [] (cσ os js σ) H' s'/\tn i s'.heap/\(∀b∈fp,H' b=none)/\W i n H') ?_ m0 ⟨0,_,_,by simp,I4,st4,fun b hb=>(hf3 b hb).1,w0⟩
  rintro n s5 ⟨i,os,H5,hl5,I5,st5,fr5,w5⟩
  rcases turn i n H5 w5 with⟨stop,q⟩|⟨go,step⟩
  ·subst hX
   refine AK (T.done (cxC X xs js scope h3.objs.size { s with heap:=h3 } (upd H s.heap.objs.size (.lst [])) fp) rfl rfl rfl hc i [] s5 _ H5 NoE I5 (fok (pins':=[]) I5 fr5) st5 stop) (fun r s6 zz1_0=>?_) fun _ _ z=>z
   obtain⟨hr,I6⟩:=zz1_0
   subst hr
   refine hR _ _ H5 s6 (I3.u9 I6.os I6.base I6.hok I6.bare fun b hb=>⟨(hf3 b hb).2.2.2.1,(hf3 b hb).2.1,(hf3 b hb).2.2.2.2.1,(hf3 b hb).2.2.2.2.2⟩) (I3.oU (A7 _) I6.free) (let⟨m,hm,_⟩:=I6.loc;⟨m,hm⟩) q
  ·subst hX
   refine AK (T.item (cxC X xs js scope h3.objs.size { s with heap:=h3 } (upd H s.heap.objs.size (.lst [])) fp) rfl rfl rfl hc i [] s5 _ H5 NoE I5 (fok (pins':=[]) I5 fr5) st5 go) (fun r s6 zz2_0=>?_) fun _ _ z=>z
   obtain⟨u,hr,h6⟩:=zz2_0
   subst hr
   refine AK h6 (fun _ s7 zz3_0=>?_) fun _ _ z=>z
   obtain⟨y,H7,I7,r7,y7,st7,fr7⟩:=zz3_0
   have I7':=I7.pinned (fok (pins':=[]) I7 fr7) (T.obj _ _ st7)
   obtain⟨os8,ow8,q8⟩:=step y H7 y7
   have l8:=hG.len _ _ _ ow8
   refine AK (hg _ _ _ _ _ s7 _ H7 y u (fun σ' H'=>σ'=cσ os8 js σ/\H'=H7) I7' r7 (hG.run y H7 os _ os8 _ hl5 ow8 ⟨rfl,rfl⟩)) (fun _ s8 zz4_0=>?_) fun _ _ z=>z
   obtain⟨σ8,H8,I8,e8,e8'⟩:=zz4_0
   subst e8 e8'
   refine AK (ht _ _ _ _ _ s8 _ _ _ I8 q8) (fun ok s9 zz5_0=>?_) fun _ _ z=>z
   obtain⟨H9,I9,q9⟩:=zz5_0
   have back:∀{m':Nat} {H10:Hp} {s10:A2},Inv (cxC X xs js scope h3.objs.size { s with heap:=h3 } (upd H s.heap.objs.size (.lst [])) fp) ([]++fK fp s7.heap) (cσ os8 js σ) H10 s10->m'<n->W (i+1) m' H10->
    ∃m,m<n/\∃i os H',os.length=xs.length/\Inv (cxC X xs js scope h3.objs.size { s with heap:=h3 } (upd H s.heap.objs.size (.lst [])) fp) [] (cσ os js σ) H' s10/\tn i s10.heap/\(∀b∈fp,H' b=none)/\W i m H':=fun{m' H10 s10} I10 hm' w10=>by
    refine⟨m',hm',i+1,os8,H10,l8,I10.dF,T.keep _ _ _ st7 fun b hb o e=>(I10.pin (b,o) (AO _ (AO _ (bR hb e)))).1,fun b hb=>?_,w10⟩
    obtain⟨o',e,d⟩:=T.obj _ _ st7 b hb
    exact(I10.pin (b,o') (AO _ (AO _ (bR hb e)))).2.1
   cases ok with
   |false=>
    rw[if_neg AD]at q9 ⊢
    obtain⟨m',hm',w9⟩:=q9
    exact back I9 hm' w9
   |true=>
    rw[if_pos rfl]at q9 ⊢
    refine AK (he _ _ _ _ _ s9 _ _ _ I9 q9) (fun v s10 zz6_0=>?_) fun _ _ z=>z
    obtain⟨vv,H10,I10,r10,ys,hd10,hl10,q10⟩:=zz6_0
    refine AK (jv (X:=(cxC X xs js scope h3.objs.size { s with heap:=h3 } (upd H s.heap.objs.size (.lst [])) fp)) _ s10 _ H10 (.ref s.heap.objs.size) [vv] (.ref s.heap.objs.size) [v] (fun _ H'=>∃m',m'<n/\W (i+1) m' H') I10 rfl (.cons r10 .nil) ⟨_,ys,vv,rfl,rfl,hd10,hl10,q10⟩) (fun _ s11 zz7_0=>?_) fun _ _ z=>z
    obtain⟨_,H11,I11,_,m',hm',w11⟩:=zz7_0
    exact back I11 hm' w11
 exact codeAny_compStart_list loop (T.self X.A 0 _ _ _ st4 loop)
theorem uD(c:CScope X xs js scope)(hc:X.calm=true)(hi:PI X tg iter wi)(hG:TgOk xs.length g own)(hg:∀C s H fp,PG (cxC X xs js scope C s H fp) tg g)(ht:∀C s H fp,PTs (cxC X xs js scope C s H fp) ifs tc)(he:∀C s H fp,PE (cxC X xs js scope C s H fp) elt te)(hs:∀x,B5 iter X.env x=pure x:=by intro _;rfl) : PE X (.ListComp elt [⟨tg,iter,ifs,0⟩] scope pos) (my js own wi tc te):=by intro pins s σ H Q I h;rw[eval_ListComp];refine wpAny_comprehension_free (use:=none) rfl hs (c.xT I.ok) c.kind c.names (thn (hi pins s σ H _ I h) fun v s1 h1=>thn h1 fun itv s2 zz8_0=>?_);obtain⟨it,fp,tn,J,H2,e,I2,T,st,f2,w⟩:=zz8_0;subst e;refine lD (R:=fun acc C=>compPost (Ay X.prog X.w) X.A X.xe none (EP X pins σ Q) acc C) c hc hG hg ht he I2 T st f2 w fun D C H' s' I' fC zz9_0 q=>?_;obtain⟨m,hm⟩:=zz9_0;exact⟨m,hm,fun h' hsb=>⟨.ref D,H',I'.turned (t':=s'.toks) (fun b o ne e=>hsb.extBut b o ne e) fC.1 fC.2.1 fC.2.2.2.1 fC.2.2.2.2.1 fC.2.2.2.2.2,rfl,q⟩⟩
theorem sM{i:Nat}{y:Str}{py spos:Pos}(c:CScope X xs js scope)(hc:X.calm=true)(hN:X.N.Nodup)(hi:PI X tg iter wi)(hG:TgOk xs.length g own)(hg:∀C s H fp,PG (cxC X xs js scope C s H fp) tg g)(ht:∀C s H fp,PTs (cxC X xs js scope C s H fp) ifs tc)(he:∀C s H fp,PE (cxC X xs js scope C s H fp) elt te)(hy:X.N[i]?=some y)(hl:X.env.scope.names.lookup y=some .local)
 (hsw:swapsWith (.ListComp elt [⟨tg,iter,ifs,0⟩] scope pos) (some (.Name y py)) spos.line X.env=pure true) (hs:∀x,B5 iter X.env x=pure x:=by intro _;rfl) :
 PS X (.Assign [.Name y py] (.ListComp elt [⟨tg,iter,ifs,0⟩] scope pos) spos) (xw (my js own wi tc te) (cH i)):=by
 intro pins s σ H B I h
 rw[exec_Assign_Name_used _ _ _ _ hsw]
 refine cc (wpAny_standAt (cc ?_))
 show A9 _ X.A (do let _ <-comprehension (.ListComp elt [⟨tg,iter,ifs,0⟩] scope pos) scope X.env _ (newList []) false (eval iter X.env) (some (assign (.Name y py) X.env))) _ _ s
 refine cc (AK (wpAny_comprehension_free (use:=some (assign (.Name y py) X.env)) (Q:=fun _ s'=>SP X pins B .next s') rfl hs (c.xT I.ok) c.kind c.names
  (thn (hi pins s σ H _ I h) fun v s1 h1=>thn h1 fun itv s2 z=>?_)) (fun _ s' hq=>A5 (A5 hq)) fun _ _ e=>e)
 obtain⟨it,fp,tn,J,H2,e,I2,T,st,f2,w⟩:=z
 subst e
 refine lD (R:=fun acc C=>compPost (Ay X.prog X.w) X.A X.xe (some (assign (.Name y py) X.env)) (fun _ s'=>SP X pins B .next s') acc C) c hc hG hg ht he I2 T st f2 w fun D C H' s' I' fC zz10_0 q=>?_
 obtain⟨m,hm⟩:=zz10_0
 show A9 _ X.A (assign (.Name y py) X.env (.ref D)) _ _ _
 refine wpAny_assign_Name (jf I' hN hy (.inl hl) (v:=.ref D) rfl (fun s9 I9 zz11_0=>?_) (.inr hl))
 obtain⟨a,sb,ha⟩:=zz11_0
 have hne:C≠a:=by
  rcases ha with z|z
  ·rw[z];exact fC.2.1
  ·exact fun e=>fC.2.2.2.2.1 y a z e.symm
 refine⟨m,hm.sameBut sb hne,fun h' hsb=>?_⟩
 exact⟨_,H',I9.turned (t':=s9.toks) (fun b o ne e=>hsb.extBut b o ne e) fC.1 fC.2.1 fC.2.2.2.1 fC.2.2.2.2.1 fC.2.2.2.2.2,q⟩
end
inductive Tgt where
 |one|many (n:Nat)
def lI(K:A0):Tgt->Own
 |.one=>fun y _ os=>os=[some y]
 |.many n=>fun y H os=>∃a xs,y=.ref a/\SqT K H a xs/\xs.length=n/\os=xs.map some
theorem qb{K:A0}:TgOk 1 (cH 0) (lI K .one):=⟨fun _ _ os h=>by rw[h];rfl,fun y H os0 tail os Q hl ho q=>by
 obtain⟨o,rfl⟩:=xg hl
 rw[show os=[some y]from ho]at q;exact q⟩
theorem sE{K:A0}:TgOk 2 (qD K 2 (dA (cH 0) (dA (cH 1) rj))) (lI K (.many 2)):=⟨fun _ _ os z=>by
 obtain⟨a,xs,_,_,hl,e⟩:=z
 rw[e];simpa using hl,fun y H os0 tail os Q hl z q=>by
 obtain⟨a,xs,e,hq,hx,ho⟩:=z
 obtain⟨o,o',rfl⟩:=yd hl
 obtain⟨u,v,rfl⟩:=yd hx
 rw[ho]at q;exact⟨a,_,e,hq,hx,u,_,rfl,v,_,rfl,rfl,q⟩⟩
theorem rA{K:A0}:TgOk 3 (qD K 3 (dA (cH 0) (dA (cH 1) (dA (cH 2) rj)))) (lI K (.many 3)):=⟨fun _ _ os zz1_0=>by obtain⟨a,xs,_,_,hl,e⟩:=zz1_0;rw[e];simpa using hl,fun y H os0 tail os Q hl z9 q=>by
 obtain⟨a,xs,e,hq,hx,ho⟩:=z9
 match os0,hl,xs,hx with
 |[o,o',o''],_,[u,v,w],hx=>rw[ho]at q;exact⟨a,_,e,hq,hx,u,_,rfl,v,_,rfl,w,_,rfl,rfl,q⟩⟩
def t5:Tgt->D->DS->Prop
 |.one,d,os=>os=[some d]
 |.many n,d,os=>∃ds,d=.tup ds/\ds.length=n/\os=ds.map some
def cδ(os:DS)(js:List Nat)(δ:DS):DS:=os++js.map fun j=>(δ[j]?).join
theorem nN{K:A0}{H:Hp}{δ os:DS}{σ us:L2.St}{js:List Nat}(hs:Slots K H δ σ)(r:Slots K H os us):Slots K H (cδ os js δ) (cσ us js σ):=by
 refine⟨by simp[cδ,cσ,r.len],fun i e q=>?_⟩;unfold cδ at q;unfold cσ;by_cases hi:i<os.length
 ·rw[Bn hi]at q;rw[Bn (by rw[<-r.len];exact hi)];exact r.at' i e q
 ·rw[Bg (by omega)]at q;rw[Bg (by rw[<-r.len];omega),<-r.len];rw[Az]at q ⊢;cases ej:js[i-os.length]? with
  |none=>rw[ej]at q;cases q
  |some j=>
   rw[ej]at q
   have e2:(δ[j]?).join=some e:=Option.some.inj q
   have e3:δ[j]?=some (some e):=by
    cases z:δ[j]? with
    |none=>rw[z]at e2;cases e2
    |some o=>rw[z]at e2;exact congrArg some e2
   obtain⟨v',e4,e5⟩:=hs.at' j e e3
   exact⟨v',by rw[show(some j).map (fun j=>(σ[j]?).join)=some ((σ[j]?).join)from rfl,e4];rfl,e5⟩
theorem iY{K:A0}{H:Hp}{ds:List D}{xs:List V}(r:av K H ds xs):Slots K H (ds.map some) (xs.map some):=by
 refine⟨by simp[r.length],fun i d e=>?_⟩;rw[Az]at e ⊢;cases q:ds[i]? with
 |none=>rw[q]at e;cases e
 |some d'=>
  rw[q]at e;cases e
  obtain⟨x,e1,e2⟩:=r.get q
  exact⟨x,by rw[e1];rfl,e2⟩
theorem lu{K:A0}{H:Hp}{tk:Tgt}{d:D}{v:V}{os:DS}(r:Rep K H d v)(h:t5 tk d os):∃us,lI K tk v H us/\Slots K H os us:=by
 cases tk with
 |one=>
  rw[show os=[some d]from h]
  exact⟨[some v],rfl,iY (.cons r .nil)⟩
 |many n=>
  obtain⟨ds,rfl,hl,rfl⟩:=h
  rw[Rep]at r
  obtain⟨a,xs,rfl,hq,rs⟩:=r
  exact⟨_,⟨a,xs,rfl,hq,by rw[<-rs.length];exact hl,rfl⟩,iY rs⟩
def gn:TTD:=fun _ M Q=>Q true M
def vq(I:ItD)(tk:Tgt)(js:List Nat)(tc:TTD)(te:TD)(δ:DS)(M1:MH)(Q:DK):Prop:=I.n<=1000000/\∀p,M1 p=none->∃W:Nat->List D->MH->Prop,W 0 [] (aA M1 p (.lst []))/\(∀i ys M,i<=I.n->W i ys M->I.C M)/\
 (∀i ys d M,i<I.n->I.item i=some d->W i ys M->∃os,t5 tk d os/\tc (cδ os js δ) M fun b M2=>if b=true then te (cδ os js δ) M2 fun e M'=>∃M3,Sub M3 M'/\M3 p=some (.lst ys)/\W (i+1) (ys++[e]) (aA M3 p (.lst (ys++[e])))else ∃M3,Sub M3 M2/\W (i+1) ys M3)/\∀ys M,W I.n ys M->Q (.ref p) M
def eE(wd:TID)(tk:Tgt)(js:List Nat)(tc:TTD)(te:TD):TD:=fun δ M Q=>wd δ M fun I M1=>vq I tk js tc te δ M1 Q
section
variable{X:Cx}{K:A0}
theorem jg{wd:TID}{tk:Tgt}{js:List Nat}{tc:TTD}{te:TD}{σ:L2.St}{H:Hp}{Q:VK}(h:lift K (eE wd tk js tc te) σ H Q):my js (lI K tk) (ot K wd) (liftT K tc) (lift K te) σ H Q:=by
 obtain⟨δ,M,R,hs,hM,q,fin⟩:=h;refine⟨δ,M,_,hs,hM,q,fun I M1 H1 J g1 a1 kc io p hp=>?_⟩;obtain⟨hn,kc⟩:=kc;obtain⟨W,w0,hC,turn,done⟩:=kc p (a1.fresh hp);refine⟨fun i m H2=>m=I.n-i/\i<=I.n/\Grow K H1 H2/\∃ys M,ys.length<=i/\Abs K H2 M/\W i ys M,⟨I.n,by simp,B2 _,.new hp,[],_,A7 _,a1.bF hp .nil,w0⟩,?_⟩;rintro i m H2 ⟨rfl,hi,g2,ys,M2,hl,a2,w2⟩;by_cases hin:i<I.n
 ·refine .inr ⟨io.go i H2 M2 hin g2 a2 (hC _ _ _ hi w2),fun v H3 hy=>?_⟩;obtain⟨g3,a3,d,ed,rd⟩:=io.yld i H2 M2 v H3 hin g2 a2 (hC _ _ _ hi w2) hy;obtain⟨os,ow,q3⟩:=turn i ys d M2 hin ed w2;obtain⟨us,uv,su⟩:=lu rd ow;have s3:=nN (js:=js) (hs.mono ((g1.trans g2).trans g3)) su;refine⟨us,uv,cδ os js δ,M2,_,s3,a3,q3,fun b M4 H4 g4 a4 q4=>?_⟩;cases b with
  |false=>
   rw[if_neg AD]at q4 ⊢
   obtain⟨M5,s5,w5⟩:=q4
   exact⟨I.n-(i+1),by omega,rfl,hin,(g2.trans g3).trans g4,ys,M5,by omega,a4.sub s5,w5⟩
  |true=>
   rw[if_pos rfl]at q4 ⊢
   refine⟨cδ os js δ,M4,_,s3.mono g4,a4,q4,fun e M' u H5 g5 r5 a5 zz2_0=>?_⟩
   obtain⟨M6,s6,e6,w6⟩:=zz2_0
   obtain⟨zs,hx,rs⟩:=(a5.sub s6) _ _ e6
   refine⟨zs,hx,?_,I.n-(i+1),by omega,rfl,hin,(((g2.trans g3).trans g4).trans g5).trans (.lst hx),ys++[e],_,by simp;omega,(a5.sub s6).tJ hx (rs.append (.cons r5 .nil)),w6⟩
   rw[<-rs.length]
   exact Nat.lt_of_le_of_lt hl (Aw hin (B8 hn (by decide)))
 ·obtain rfl:i=I.n:=by omega
  exact .inl ⟨io.stop H2 M2 g2 a2 (hC _ _ _ hi w2),fin _ _ _ _ (g1.trans g2) (by rw[Rep]) a2 (done ys M2 w2)⟩
variable{xs:List Str}{tg:Expr}{pos:Pos}{js:List Nat}{scope:BY}{elt iter:Expr}{ifs:List Expr}{te:TD}{tc:TTD}{g:TG}{tk:Tgt}{wd:TID}
def DTs(X:Cx)(ifs:List Expr)(t:TTD):Prop:=PTs X ifs (liftT X.K t)
theorem dR:DTs X [] gn:=fun pins s σ H Q I zz3_0=>by obtain⟨δ,M,R,hs,hM,q,fin⟩:=zz3_0;exact(ug pins s σ H Q I (fin _ _ _ .refl hM q))
theorem jQ(c:CScope X xs js scope)(hc:X.calm=true)(hi:DI X tg iter wd)(hG:TgOk xs.length g (lI X.K tk))(hg:∀C s H fp,PG (cxC X xs js scope C s H fp) tg g)(ht:∀C s H fp,DTs (cxC X xs js scope C s H fp) ifs tc)(he:∀C s H fp,DE (cxC X xs js scope C s H fp) elt te) (hs:∀x,B5 iter X.env x=pure x:=by intro _;rfl):DE X (.ListComp elt [⟨tg,iter,ifs,0⟩] scope pos) (eE wd tk js tc te):=aT (uD (te:=lift X.K te) (tc:=liftT X.K tc) c hc hi hG hg ht he hs) fun _ _ _ h=>jg h
theorem tX(i:Nat){y:Str}{py spos:Pos}(hN:X.N.Nodup)(c:CScope X xs js scope)(hc:X.calm=true)(hi:DI X tg iter wd)(hG:TgOk xs.length g (lI X.K tk))(hg:∀C s H fp,PG (cxC X xs js scope C s H fp) tg g)(ht:∀C s H fp,DTs (cxC X xs js scope C s H fp) ifs tc)(he:∀C s H fp,DE (cxC X xs js scope C s H fp) elt te) (hy:X.N[i]?=some y:=by rfl) (hl:X.env.scope.names.lookup y=some .local:=by rfl) (hsw:swapsWith (.ListComp elt [⟨tg,iter,ifs,0⟩] scope pos) (some (.Name y py)) spos.line X.env=pure true:=by rfl) (hs:∀x,B5 iter X.env x=pure x:=by intro _;rfl) : DSt X (.Assign [.Name y py] (.ListComp elt [⟨tg,iter,ifs,0⟩] scope pos) spos) (fU (eE wd tk js tc te) (bg i)):=b8 (sM (te:=lift X.K te) (tc:=liftT X.K tc) c hc hN hi hG hg ht he hy hl hsw hs) fun E σ H zz4_0=>by obtain⟨δ,M,hs,a,B,ok,q⟩:=zz4_0;exact(jg ⟨δ,M,_,hs,a,q,fun d M1 v H1 g1 r1 a1 q1=>ok.nx _ _ _ _ g1 ((hs.mono g1).set r1 i) a1 q1⟩)
theorem comp_map{I:ItD}{tk:Tgt}{js:List Nat}{te:TD}{δ:DS}{M1:MH}{Q:DK}(f:Nat->D)(hn:I.n<=1000000)(hC:∀p ys,M1 p=none->I.C (aA M1 p (.lst ys))) (h:∀i d M,i<I.n->I.item i=some d->Sub M1 M->∃os,t5 tk d os/\∀K:DK,(∀M',Sub M M'->K (f i) M')->te (cδ os js δ) M K) (hq:∀p,M1 p=none->Q (.ref p) (aA M1 p (.lst ((BV I.n).map f)))):vq I tk js gn te δ M1 Q:=by
 refine⟨hn,fun p hp=>⟨fun i ys M=>ys=(BV i).map f/\M=aA M1 p (.lst ys),⟨rfl,rfl⟩,?_,?_,?_⟩⟩
 ·rintro i ys M _ ⟨_,rfl⟩;exact hC p ys hp
 ·rintro i ys d M hi hd ⟨rfl,rfl⟩;obtain⟨os,ow,k⟩:=h i d _ hi hd (.new hp .refl);refine⟨os,ow,?_⟩;unfold gn;refine zW (k _ ?_);exact fun M' s'=>⟨_,s',ag,by rw[List.range_succ,B0];rfl,by rw[cy]⟩
 ·rintro ys M ⟨rfl,rfl⟩;exact hq p hp
end
def zu(X:Cx)(xs:List Str)(js:List Nat)(scope:BY):Bool:=
 scope.kind==.function&&scope.names.all (fun y=>(y.2 != .cell||xs.contains y.1)&&(y.2 != .free||!xs.contains y.1))&&scope.names.all (fun y=>y.2 != .local||scope.names.lookup y.1==some .local)&&xs.all (fun x=>scope.names.lookup x==some .local||scope.names.lookup x==some .cell) &&
  scope.names.all (fun y=>y.2 != .free||(X.env.kindOf y.1==some .cell||X.env.kindOf y.1==some .free))&&decide (cN X xs js).Nodup&&js.all (fun j=>scope.names.lookup ((X.N[j]?).getD ("":Str)) != some .local)
theorem CScope.of{X:Cx}{xs:List Str}{js:List Nat}{scope:BY}(h:zu X xs js scope=true):CScope X xs js scope:=by
 unfold zu at h;simp only[Bv]at h;obtain⟨⟨⟨⟨⟨⟨h1,h2⟩,h3⟩,h4⟩,h5⟩,h6⟩,h7⟩:=h;refine⟨by simpa using h1,fun y hy hc=>?_,fun y hy hf=>?_,fun y hy hl=>?_,fun x hx=>?_,fun y hy hf=>?_,of_decide_eq_true h6,fun j hj=>?_⟩
 ·have:=List.all_eq_true.mp h2 y hy;rw[hc]at this;simpa using this
 ·have:=List.all_eq_true.mp h2 y hy;rw[hf]at this;simpa using this
 ·have:=List.all_eq_true.mp h3 y hy;rw[hl]at this;simpa using this
 ·have:=List.all_eq_true.mp h4 x hx;simpa using this
 ·have:=List.all_eq_true.mp h5 y hy;rw[hf]at this;simpa using this
 ·have:=List.all_eq_true.mp h7 j hj;simpa using this
abbrev TOD:=DS->MH->(Option Int->MH->Prop)->Prop
def mO(K:A0)(t:TOD):TO:=fun σ H Q=>∃δ M R,Slots K H δ σ/\Abs K H M/\t δ M R/\∀o M' H',Grow K H H'->Abs K H' M'->R o M'->Q o H'
def kD:TOD:=fun _ M Q=>Q none M
def sF(t:TD):TOD:=fun δ M Q=>t δ M fun x M1=>∃i,x=.int i/\Q (some i) M1
def cutD(xs:List D)(lo hi:Option Int):List D:=(xs.drop (HT.sIx xs.length 0 lo)).take (HT.sIx xs.length xs.length hi-HT.sIx xs.length 0 lo)
def zE:D->Option Int->Option Int->MH->DK->Prop:=fun x lo hi M Q=>match x with
 |.ref a=>∃ds,M a=some (.lst ds)/\∀p,M p=none->Q (.ref p) (aA M p (.lst (cutD ds lo hi)))
 |.rol ds=>∀p,M p=none->Q (.ref p) (aA M p (.lst (cutD ds lo hi)))
 |.tup ds=>¬(HT.sIx ds.length 0 lo=0/\HT.sIx ds.length ds.length hi=ds.length)/\Q (.tup (cutD ds lo hi)) M
 |_=>False
def yS(te:TD)(tl th:TOD):TD:=fun δ M Q=>te δ M fun x M1=>tl δ M1 fun l M2=>th δ M2 fun u M3=>zE x l u M3 Q
theorem av.cut{K:A0}{H:Hp}{ds:List D}{xs:List V}(h:av K H ds xs)(lo hi:Option Int):av K H (cutD ds lo hi) (kL xs lo hi):=by unfold cutD kL;rw[h.length];exact(h.drop _).take _
section
variable{X:Cx}{e a:Expr}{te:TD}{tl th:TOD}{lo hi:Option Expr}{pos p2:Pos}
theorem rT{e:Option Expr}{t t':TO}(h:PO X e t)(k:∀σ H Q,t' σ H Q->t σ H Q):PO X e t':=fun pins s σ H Q I q=>h pins s σ H Q I (k _ _ _ q)
theorem oq:PO X none (mO X.K kD):=rT tH fun σ H Q zz5_0=>by obtain⟨δ,M,R,hs,a,q,fin⟩:=zz5_0;exact(fin _ _ _ .refl a q)
theorem nR(h:DE X e te):PO X (some e) (mO X.K (sF te)):=rT (tR h) fun σ H Q zz6_0=>by obtain⟨δ,M,R,hs,a,q,fin⟩:=zz6_0;exact(⟨δ,M,_,hs,a,q,fun d M1 v H1 g1 r1 a1 z9=>by
 obtain⟨i,ei,q1⟩:=z9
 subst ei
 rw[Rep]at r1
 exact⟨i,r1,fin _ _ _ g1 a1 q1⟩⟩)
theorem k6(he:DE X a te)(hl:PO X lo (mO X.K tl))(hu:PO X hi (mO X.K th)):DE X (.Subscript a (.Slice lo hi none p2) pos) (yS te tl th):=
 aT (si (uc.or vN) he hl hu) fun σ H Q zz7_0=>by obtain⟨δ,M,R,hs,a,q,fin⟩:=zz7_0;exact(⟨δ,M,_,hs,a,q,fun x M1 v H1 g1 r1 a1 q1=>⟨δ,M1,_,hs.mono g1,a1,q1,fun l M2 H2 g2 a2 q2=>⟨δ,M2,_,hs.mono (g1.trans g2),a2,q2,fun u M3 H3 g3 a3 q3=>by
  have G:=(g1.trans g2).trans g3
  have r3:=r1.mono (g2.trans g3)
  unfold zE at q3
  split at q3
  ·obtain⟨ds,e3,q3⟩:=q3
   obtain rfl:v=.ref _:=r3
   obtain⟨xs,hx,rs⟩:=a3 _ _ e3
   exact .inl ⟨_,xs,rfl,SqL.of hx,fun z hz=>fin _ _ _ _ (G.trans (.new hz)) (by rw[Rep]) (a3.bF hz (rs.cut _ _)) (q3 z (a3.fresh hz))⟩
  ·rw[Rep]at r3
   obtain⟨b,xs,rfl,hx,rs⟩:=r3
   exact .inl ⟨_,xs,rfl,hx.sql,fun z hz=>fin _ _ _ _ (G.trans (.new hz)) (by rw[Rep]) (a3.bF hz (rs.cut _ _)) (q3 z (a3.fresh hz))⟩
  ·obtain⟨hw,q3⟩:=q3
   rw[Rep]at r3
   obtain⟨b,xs,rfl,hx,rs⟩:=r3
   exact .inr ⟨_,xs,rfl,hx,by rw[<-rs.length];exact hw,fun z hz=>fin _ _ _ _ (G.trans (.new hz)) (by rw[Rep];exact⟨z,_,rfl,SqT.of aD,(rs.cut _ _).mono (.new hz)⟩) (a3.new hz) q3⟩
  ·exact q3.elim⟩⟩⟩)
end
section
variable{X:Cx}{x y z:Str}{px py pz pt pos:Pos}{kt:Nat}{js:List Nat}{scope:BY}{elt iter:Expr}{ifs:List Expr}{te:TD}{tc:TTD}{wd:TID}{xs:List Str}
theorem eA(c:CScope X xs js scope)(i:Nat)(hx:xs[i]?=some x){C:Addr}{s:A2}{H:Hp}{fp:List Addr}:PG (cxC X xs js scope C s H fp) (.Name x px) (cH i):=by
 have hi:i<xs.length:=(A6.mp hx).1;have hm:=Ax hx
 have hl:Loc (cxC X xs js scope C s H fp).env.scope x:=by
  rcases c.own x hm with z|z
  ·exact .inl (dm (by decide) z)
  ·exact .inr (dm (by decide) z)
 refine mP (i:=i) c.nd ?_ hl (.inl (by show xs.contains x=true;simpa using hm));show(xs++js.map fun j=>(X.N[j]?).getD ("":Str))[i]?=some x;rw[Bn hi];exact hx
theorem nB(c:CScope X [x,y] js scope)(hc:X.calm=true){C:Addr}{s:A2}{H:Hp}{fp:List Addr}:PG (cxC X [x,y] js scope C s H fp) (.Tuple [.Name x px,.Name y py] kt pt) (qD X.K 2 (dA (cH 0) (dA (cH 1) rj))):=lR (X:=cxC X [x,y] js scope C s H fp) hc (cY (eA c 0 rfl) (cY (eA c 1 rfl) jV)) rfl rfl
theorem uf(c:CScope X [x,y,z] js scope)(hc:X.calm=true){C:Addr}{s:A2}{H:Hp}{fp:List Addr}:PG (cxC X [x,y,z] js scope C s H fp) (.Tuple [.Name x px,.Name y py,.Name z pz] kt pt) (qD X.K 3 (dA (cH 0) (dA (cH 1) (dA (cH 2) rj)))):=lR (X:=cxC X [x,y,z] js scope C s H fp) hc (cY (eA c 0 rfl) (cY (eA c 1 rfl) (cY (eA c 2 rfl) jV))) rfl rfl
theorem kQ(c:CScope X [x] js scope)(hc:X.calm=true)(hi:DI X (.Name x px) iter wd)(ht:∀C s H fp,DTs (cxC X [x] js scope C s H fp) ifs tc)(he:∀C s H fp,DE (cxC X [x] js scope C s H fp) elt te) (hs:∀x,B5 iter X.env x=pure x:=by intro _;rfl):DE X (.ListComp elt [⟨.Name x px,iter,ifs,0⟩] scope pos) (eE wd .one js tc te):=jQ c hc hi qb (fun _ _ _ _=>eA c 0 rfl) ht he hs
theorem qJ(c:CScope X [x,y] js scope)(hc:X.calm=true)(hi:DI X (.Tuple [.Name x px,.Name y py] kt pt) iter wd)(ht:∀C s H fp,DTs (cxC X [x,y] js scope C s H fp) ifs tc)(he:∀C s H fp,DE (cxC X [x,y] js scope C s H fp) elt te) (hs:∀x,B5 iter X.env x=pure x:=by intro _;rfl):DE X (.ListComp elt [⟨.Tuple [.Name x px,.Name y py] kt pt,iter,ifs,0⟩] scope pos) (eE wd (.many 2) js tc te):=jQ c hc hi sE (fun _ _ _ _=>nB c hc) ht he hs
theorem qr(c:CScope X [x,y,z] js scope)(hc:X.calm=true)(hi:DI X (.Tuple [.Name x px,.Name y py,.Name z pz] kt pt) iter wd)(ht:∀C s H fp,DTs (cxC X [x,y,z] js scope C s H fp) ifs tc)(he:∀C s H fp,DE (cxC X [x,y,z] js scope C s H fp) elt te) (hs:∀x,B5 iter X.env x=pure x:=by intro _;rfl):DE X (.ListComp elt [⟨.Tuple [.Name x px,.Name y py,.Name z pz] kt pt,iter,ifs,0⟩] scope pos) (eE wd (.many 3) js tc te):=jQ c hc hi rA (fun _ _ _ _=>uf c hc) ht he hs
theorem rp(i:Nat){v:Str}{pv spos:Pos}(hN:X.N.Nodup)(c:CScope X [x] js scope)(hc:X.calm=true)(hi:DI X (.Name x px) iter wd)(ht:∀C s H fp,DTs (cxC X [x] js scope C s H fp) ifs tc)(he:∀C s H fp,DE (cxC X [x] js scope C s H fp) elt te) (hy:X.N[i]?=some v:=by rfl) (hl:X.env.scope.names.lookup v=some .local:=by rfl) (hsw:swapsWith (.ListComp elt [⟨.Name x px,iter,ifs,0⟩] scope pos) (some (.Name v pv)) spos.line X.env=pure true:=by rfl) (hs:∀x,B5 iter X.env x=pure x:=by intro _;rfl) : DSt X (.Assign [.Name v pv] (.ListComp elt [⟨.Name x px,iter,ifs,0⟩] scope pos) spos) (fU (eE wd .one js tc te) (bg i)):=tX i hN c hc hi qb (fun _ _ _ _=>eA c 0 rfl) ht he hy hl hsw hs
end
section
variable{prog:Au}{w:AU}{A:AQ}{E:A1->A2->Prop}{s:A2}
theorem max_two{a b:A1}{c:Bool}{Q:A1->A2->Prop}(hh:A.handled=none)
 (cmp:∀(t:A2) (Q':A1->A2->Prop) (E':A1->A2->Prop),(∀x o,s.heap.get? x=some o->t.heap.get? x=some o)->Q' (.bool c) t->A9 (Ay prog w) A.in1 (richCompare .Gt b a) Q' E' t)
 (h:∀h' tk,(∀x o,s.heap.get? x=some o->h'.get? x=some o)->Q (if c=true then b else a) { s with heap:=h',toks:=tk }) :
 A9 (Ay prog w) A (call (.builtin "max") [a,b]) Q E s:=by
 have nm:(toString "max"++toString ".loop":String)="max.loop":=by decide
 refine call_function_tree F.kind_max F.plain_max F.entry_max (F.args_max2 _ _) ?_
 show A9 _ A.in1 (Builtin.Builtins.bindParams "max" ["key","default"] 0 ⟨[],[]⟩ >>= fun _=>_) _ _ s
 refine cc (wpAny_of_eq (a:=[none,none]) rfl ?_)
 show A9 _ A.in1 (newTuple [a,b] >>= fun _=>_) _ _ s
 refine cc (AZ ?_)
 generalize e1:s.heap.push { cls:=.type "tuple",dict:=none,data:=.seq ([a,b]:List A1).toArray }=h1
 have k1:∀x o,s.heap.get? x=some o->h1.get? x=some o:=fun x o q=>by rw[<-e1];exact A3 _ q
 have hT:h1.IsTuple s.heap.objs.size #[a,b]:=by rw[<-e1];exact⟨_,Aq _ rfl,rfl,0,rfl⟩
 have z1:h1.objs.size=s.heap.objs.size+1:=by rw[<-e1,BO]
 refine cc (wpAny_pyIter_tuple (s:={ s with heap:=h1 }) hT ?_)
 refine cc (AZ ?_)
 dsimp only
 generalize eI:h1.objs.size=I
 generalize e2:h1.push _=h2
 have k2:∀x o,h1.get? x=some o->h2.get? x=some o:=fun x o q=>by rw[<-e2];exact A3 _ q
 have hI:h2.IsTupleIter I s.heap.objs.size 0:=by rw[<-e2,<-eI];exact⟨_,Aq _ rfl,rfl,rfl⟩
 have z2:h2.objs.size=I+1:=by rw[<-e2,BO,eI]
 generalize eS:h2.objs.size=S
 generalize e3:h2.push _=h3
 have k3:∀x o,h2.get? x=some o->h3.get? x=some o:=fun x o q=>by rw[<-e3];exact A3 _ q
 have hS:h3.get? S=some { cls:=.type "list",dict:=none,data:=.seq #[] 0,slots:=#[] }:=by rw[<-e3,<-eS];exact Aq _ rfl
 have SI:S≠I:=by omega
 have old:∀x o,s.heap.get? x=some o->x≠I/\x≠S:=fun x o q=>⟨AJ (Aw (A8 q) (by omega)),AJ (Aw (A8 q) (by omega))⟩
 have hT3:h3.IsTuple s.heap.objs.size #[a,b]:=by
  obtain⟨o,q,r⟩:=hT
  exact⟨o,k3 _ _ (k2 _ _ q),r⟩
 have hI3:h3.IsTupleIter I s.heap.objs.size 0:=hI.at fun o q=>k3 _ _ q
 have TI:s.heap.objs.size≠I:=by omega
 have TS:s.heap.objs.size≠S:=by omega
 have keep3:∀x o,s.heap.get? x=some o->h3.get? x=some o:=fun x o q=>k3 _ _ (k2 _ _ (k1 _ _ q))
 rw[nm]
 refine A5 ⟨Co C7 _,?_⟩
 have last:∀(t:A2) (v:A1) (n:Nat),t.heap.IsTupleIter I s.heap.objs.size 2->t.heap.IsTuple s.heap.objs.size #[a,b]->t.heap.get? S=some { cls:=.type "list",dict:=none,data:=.seq #[v,v] n,slots:=#[] }->
  (∃h' tk,t={ s with heap:=h',toks:=tk }/\∀x o,s.heap.get? x=some o->h'.get? x=some o)->v=(if c=true then b else a)->codeAny (Ay prog w) A (.builtin "max.loop" ⟨[.ref I,.none,.ref S],[]⟩) (fun r s'=>match r with|.ok (.ret v)=>Q v s'|.ok _=>False|.error e=>E e s') t:=by
  rintro t v n i2 tT lS ⟨h',tk,rfl,kt⟩ ev
  refine codeAny_builtin F.entry_max_loop ?_
  rw[BP C7 _]
  show A9 _ A.in1 (seqItems? (.ref S) >>= fun _=>_) _ _ _
  refine cc (BG lS rfl ?_)
  show A9 _ A.in1 (tryCatch (pyNext (.ref I)) _ >>= fun _=>_) _ _ _
  refine cc (Ca (wpAny_pyNext_tuple_end (A:=A.in1) hh i2 tT (by simp) fun h4 q4=>?_))
  have lS4:h4.get? S=some _:=q4 _ _ SI lS
  show A9 _ A.in1 (updateSeq S (fun _=>#[]) >>= fun _=>_) _ _ _
  refine cc (wpAny_updateSeq lS4 rfl (cc (Ci (A5 ?_))))
  show Q v _
  rw[ev]
  exact h _ _ fun x o q=>(AR _ _ (old x o q).2.symm).trans (q4 x o (old x o q).1 (kt x o q))
 refine codeAny_builtin F.entry_max_loop ?_
 rw[BP C7 _]
 show A9 _ A.in1 (seqItems? (.ref S) >>= fun _=>_) _ _ _
 refine cc (BG (s:={ s with heap:=h3 }) hS rfl ?_)
 show A9 _ A.in1 (tryCatch (pyNext (.ref I)) _ >>= fun _=>_) _ _ _
 refine cc (Ca (BU (s:={ s with heap:=h3 }) hI3 hT3 (x:=a) (by simp) fun h4 i4 q4=>?_))
 have hS4:h4.get? S=some _:=(q4.2 _ SI).trans hS
 have hT4:h4.IsTuple s.heap.objs.size #[a,b]:=by
  obtain⟨o,q,r⟩:=hT3
  exact⟨o,(q4.2 _ TI).trans q,r⟩
 show A9 _ A.in1 (updateSeq S (fun _=>#[a,a]) >>= fun _=>_) _ _ _
 refine cc (wpAny_updateSeq hS4 rfl ?_)
 rw[nm]
 refine A5 ⟨Co C7 _,?_⟩
 generalize e5:h4.update S _=h5
 have o5:∀x,x≠S->h5.get? x=h4.get? x:=fun x q=>by rw[<-e5];exact AR _ _ q.symm
 have hS5:∃n,h5.get? S=some { cls:=.type "list",dict:=none,data:=.seq #[a,a] n,slots:=#[] }:=⟨_,by rw[<-e5];exact BL _ hS4 rfl⟩
 obtain⟨n5,hS5⟩:=hS5
 have i5:h5.IsTupleIter I s.heap.objs.size 1:=i4.at fun o q=>(o5 _ SI.symm).trans q
 have hT5:h5.IsTuple s.heap.objs.size #[a,b]:=by
  obtain⟨o,q,r⟩:=hT4
  exact⟨o,(o5 _ TS).trans q,r⟩
 have keep5:∀x o,s.heap.get? x=some o->h5.get? x=some o:=fun x o q=>(o5 _ (old x o q).2).trans ((q4.2 _ (old x o q).1).trans (keep3 x o q))
 refine codeAny_builtin F.entry_max_loop ?_
 rw[BP C7 _]
 show A9 _ A.in1 (seqItems? (.ref S) >>= fun _=>_) _ _ _
 refine cc (BG (s:={ s with heap:=h5 }) hS5 rfl ?_)
 show A9 _ A.in1 (tryCatch (pyNext (.ref I)) _ >>= fun _=>_) _ _ _
 refine cc (Ca (BU (s:={ s with heap:=h5 }) i5 hT5 (x:=b) (by simp) fun h6 i6 q6=>?_))
 have hS6:h6.get? S=some _:=(q6.2 _ SI).trans hS5
 have hT6:h6.IsTuple s.heap.objs.size #[a,b]:=by
  obtain⟨o,q,r⟩:=hT5
  exact⟨o,(q6.2 _ TI).trans q,r⟩
 have keep6:∀x o,s.heap.get? x=some o->h6.get? x=some o:=fun x o q=>(q6.2 _ (old x o q).1).trans (keep5 x o q)
 show A9 _ A.in1 (tryCatch (holding [b,b] (richCompare .Gt b a >>= fun _=>_)) _ >>= fun _=>_) _ _ _
 refine cc (Ca (Br (cc (cmp _ _ _ keep6 ?_))))
 refine cc (Br (Cf ?_))
 refine cc (Ci (A5 ?_))
 cases c with
 |true=>
  simp only[if_true]at last ⊢
  refine cc (wpAny_updateSeq hS6 rfl (cc (Ci ?_)))
  rw[nm]
  refine A5 ⟨Co C7 _,last _ b _ (i6.at fun o q=>(AR _ _ SI).trans q) ?_ (BL _ hS6 rfl) ⟨_,_,rfl,fun x o q=>(AR _ _ (old x o q).2.symm).trans (keep6 x o q)⟩ rfl⟩
  obtain⟨o,q,r⟩:=hT6
  exact⟨o,(AR _ _ TS.symm).trans q,r⟩
 |false=>
  simp only[AM,if_false]at last ⊢
  refine cc (Ci ?_)
  rw[nm]
  exact A5 ⟨Co C7 _,last _ a _ i6 hT6 hS6 ⟨_,_,rfl,keep6⟩ rfl⟩
theorem min_two{a b:A1}{c:Bool}{Q:A1->A2->Prop}(hh:A.handled=none)
 (cmp:∀(t:A2) (Q':A1->A2->Prop) (E':A1->A2->Prop),(∀x o,s.heap.get? x=some o->t.heap.get? x=some o)->Q' (.bool c) t->A9 (Ay prog w) A.in1 (richCompare .Lt b a) Q' E' t)
 (h:∀h' tk,(∀x o,s.heap.get? x=some o->h'.get? x=some o)->Q (if c=true then b else a) { s with heap:=h',toks:=tk }) :
 A9 (Ay prog w) A (call (.builtin "min") [a,b]) Q E s:=by
 have nm:(toString "min"++toString ".loop":String)="min.loop":=by decide
 refine call_function_tree F.kind_min F.plain_min F.entry_min (F.args_min2 _ _) ?_
 show A9 _ A.in1 (Builtin.Builtins.bindParams "min" ["key","default"] 0 ⟨[],[]⟩ >>= fun _=>_) _ _ s
 refine cc (wpAny_of_eq (a:=[none,none]) rfl ?_)
 show A9 _ A.in1 (newTuple [a,b] >>= fun _=>_) _ _ s
 refine cc (AZ ?_)
 generalize e1:s.heap.push { cls:=.type "tuple",dict:=none,data:=.seq ([a,b]:List A1).toArray }=h1
 have k1:∀x o,s.heap.get? x=some o->h1.get? x=some o:=fun x o q=>by rw[<-e1];exact A3 _ q
 have hT:h1.IsTuple s.heap.objs.size #[a,b]:=by rw[<-e1];exact⟨_,Aq _ rfl,rfl,0,rfl⟩
 have z1:h1.objs.size=s.heap.objs.size+1:=by rw[<-e1,BO]
 refine cc (wpAny_pyIter_tuple (s:={ s with heap:=h1 }) hT ?_)
 refine cc (AZ ?_)
 dsimp only
 generalize eI:h1.objs.size=I
 generalize e2:h1.push _=h2
 have k2:∀x o,h1.get? x=some o->h2.get? x=some o:=fun x o q=>by rw[<-e2];exact A3 _ q
 have hI:h2.IsTupleIter I s.heap.objs.size 0:=by rw[<-e2,<-eI];exact⟨_,Aq _ rfl,rfl,rfl⟩
 have z2:h2.objs.size=I+1:=by rw[<-e2,BO,eI]
 generalize eS:h2.objs.size=S
 generalize e3:h2.push _=h3
 have k3:∀x o,h2.get? x=some o->h3.get? x=some o:=fun x o q=>by rw[<-e3];exact A3 _ q
 have hS:h3.get? S=some { cls:=.type "list",dict:=none,data:=.seq #[] 0,slots:=#[] }:=by rw[<-e3,<-eS];exact Aq _ rfl
 have SI:S≠I:=by omega
 have old:∀x o,s.heap.get? x=some o->x≠I/\x≠S:=fun x o q=>⟨AJ (Aw (A8 q) (by omega)),AJ (Aw (A8 q) (by omega))⟩
 have hT3:h3.IsTuple s.heap.objs.size #[a,b]:=by
  obtain⟨o,q,r⟩:=hT
  exact⟨o,k3 _ _ (k2 _ _ q),r⟩
 have hI3:h3.IsTupleIter I s.heap.objs.size 0:=hI.at fun o q=>k3 _ _ q
 have TI:s.heap.objs.size≠I:=by omega
 have TS:s.heap.objs.size≠S:=by omega
 have keep3:∀x o,s.heap.get? x=some o->h3.get? x=some o:=fun x o q=>k3 _ _ (k2 _ _ (k1 _ _ q))
 rw[nm]
 refine A5 ⟨Co C8 _,?_⟩
 have last:∀(t:A2) (v:A1) (n:Nat),t.heap.IsTupleIter I s.heap.objs.size 2->t.heap.IsTuple s.heap.objs.size #[a,b]->t.heap.get? S=some { cls:=.type "list",dict:=none,data:=.seq #[v,v] n,slots:=#[] }->
  (∃h' tk,t={ s with heap:=h',toks:=tk }/\∀x o,s.heap.get? x=some o->h'.get? x=some o)->v=(if c=true then b else a)->codeAny (Ay prog w) A (.builtin "min.loop" ⟨[.ref I,.none,.ref S],[]⟩) (fun r s'=>match r with|.ok (.ret v)=>Q v s'|.ok _=>False|.error e=>E e s') t:=by
  rintro t v n i2 tT lS ⟨h',tk,rfl,kt⟩ ev
  refine codeAny_builtin F.entry_min_loop ?_
  rw[BP C8 _]
  show A9 _ A.in1 (seqItems? (.ref S) >>= fun _=>_) _ _ _
  refine cc (BG lS rfl ?_)
  show A9 _ A.in1 (tryCatch (pyNext (.ref I)) _ >>= fun _=>_) _ _ _
  refine cc (Ca (wpAny_pyNext_tuple_end (A:=A.in1) hh i2 tT (by simp) fun h4 q4=>?_))
  have lS4:h4.get? S=some _:=q4 _ _ SI lS
  show A9 _ A.in1 (updateSeq S (fun _=>#[]) >>= fun _=>_) _ _ _
  refine cc (wpAny_updateSeq lS4 rfl (cc (Ci (A5 ?_))))
  show Q v _
  rw[ev]
  exact h _ _ fun x o q=>(AR _ _ (old x o q).2.symm).trans (q4 x o (old x o q).1 (kt x o q))
 refine codeAny_builtin F.entry_min_loop ?_
 rw[BP C8 _]
 show A9 _ A.in1 (seqItems? (.ref S) >>= fun _=>_) _ _ _
 refine cc (BG (s:={ s with heap:=h3 }) hS rfl ?_)
 show A9 _ A.in1 (tryCatch (pyNext (.ref I)) _ >>= fun _=>_) _ _ _
 refine cc (Ca (BU (s:={ s with heap:=h3 }) hI3 hT3 (x:=a) (by simp) fun h4 i4 q4=>?_))
 have hS4:h4.get? S=some _:=(q4.2 _ SI).trans hS
 have hT4:h4.IsTuple s.heap.objs.size #[a,b]:=by
  obtain⟨o,q,r⟩:=hT3
  exact⟨o,(q4.2 _ TI).trans q,r⟩
 show A9 _ A.in1 (updateSeq S (fun _=>#[a,a]) >>= fun _=>_) _ _ _
 refine cc (wpAny_updateSeq hS4 rfl ?_)
 rw[nm]
 refine A5 ⟨Co C8 _,?_⟩
 generalize e5:h4.update S _=h5
 have o5:∀x,x≠S->h5.get? x=h4.get? x:=fun x q=>by rw[<-e5];exact AR _ _ q.symm
 have hS5:∃n,h5.get? S=some { cls:=.type "list",dict:=none,data:=.seq #[a,a] n,slots:=#[] }:=⟨_,by rw[<-e5];exact BL _ hS4 rfl⟩
 obtain⟨n5,hS5⟩:=hS5
 have i5:h5.IsTupleIter I s.heap.objs.size 1:=i4.at fun o q=>(o5 _ SI.symm).trans q
 have hT5:h5.IsTuple s.heap.objs.size #[a,b]:=by
  obtain⟨o,q,r⟩:=hT4
  exact⟨o,(o5 _ TS).trans q,r⟩
 have keep5:∀x o,s.heap.get? x=some o->h5.get? x=some o:=fun x o q=>(o5 _ (old x o q).2).trans ((q4.2 _ (old x o q).1).trans (keep3 x o q))
 refine codeAny_builtin F.entry_min_loop ?_
 rw[BP C8 _]
 show A9 _ A.in1 (seqItems? (.ref S) >>= fun _=>_) _ _ _
 refine cc (BG (s:={ s with heap:=h5 }) hS5 rfl ?_)
 show A9 _ A.in1 (tryCatch (pyNext (.ref I)) _ >>= fun _=>_) _ _ _
 refine cc (Ca (BU (s:={ s with heap:=h5 }) i5 hT5 (x:=b) (by simp) fun h6 i6 q6=>?_))
 have hS6:h6.get? S=some _:=(q6.2 _ SI).trans hS5
 have hT6:h6.IsTuple s.heap.objs.size #[a,b]:=by
  obtain⟨o,q,r⟩:=hT5
  exact⟨o,(q6.2 _ TI).trans q,r⟩
 have keep6:∀x o,s.heap.get? x=some o->h6.get? x=some o:=fun x o q=>(q6.2 _ (old x o q).1).trans (keep5 x o q)
 show A9 _ A.in1 (tryCatch (holding [b,b] (richCompare .Lt b a >>= fun _=>_)) _ >>= fun _=>_) _ _ _
 refine cc (Ca (Br (cc (cmp _ _ _ keep6 ?_))))
 refine cc (Br (Cf ?_))
 refine cc (Ci (A5 ?_))
 cases c with
 |true=>
  simp only[if_true]at last ⊢
  refine cc (wpAny_updateSeq hS6 rfl (cc (Ci ?_)))
  rw[nm]
  refine A5 ⟨Co C8 _,last _ b _ (i6.at fun o q=>(AR _ _ SI).trans q) ?_ (BL _ hS6 rfl) ⟨_,_,rfl,fun x o q=>(AR _ _ (old x o q).2.symm).trans (keep6 x o q)⟩ rfl⟩
  obtain⟨o,q,r⟩:=hT6
  exact⟨o,(AR _ _ TS.symm).trans q,r⟩
 |false=>
  simp only[AM,if_false]at last ⊢
  refine cc (Ci ?_)
  rw[nm]
  exact A5 ⟨Co C8 _,last _ a _ i6 hT6 hS6 ⟨_,_,rfl,keep6⟩ rfl⟩
end
end SD
namespace HT
open PySem PyProof.Rows
def aX:List Int->List Int->Bool
 |[],[]=>false
 |[],_::_=>false
 |_::_,[]=>true
 |x::xs,y::ys=>if x=y then aX xs ys else decide (y<x)
theorem l0(x y:Int)(xs ys:List Int):aX (x::xs) (y::ys)=if x=y then aX xs ys else decide (y<x):=rfl
theorem iL:aX [] []=false:=rfl
theorem gk(y:Int)(ys:List Int):aX [] (y::ys)=false:=rfl
theorem gF(x:Int)(xs:List Int):aX (x::xs) []=true:=rfl
theorem ra(A:AQ)(s:A2)(a:Int)(t:Tok)(c:Int)(u:Tok)(prog:Au)(w:AU)(E:A1->A2->Prop)(Q:A1->A2->Prop)(h:Q (.bool (decide (c<a))) s) : A9 (Ay prog w) A (richCompare .Gt (.int a t) (.int c u)) Q E s:=(PyProof.Rows.gt_int h:A9 (Ay prog w) A (AX .Gt (.int a t) (.int c u)) Q E s)
section
open PySem.SeqAt
open PySem.AutoSeq1 (wpAny_loadPart')
open PySem.MeetsSeq PySem.MeetsSeq2 PySem.MeetsSeq3
theorem iJ(l b:Addr)(items items2:Array A1)(n n2:Nat)(dd dd2:Option Addr)(sl sl2:Array (Option A1))(ns ms:List Int)(hi:By items.toList ns)(hj:By items2.toList ms) :
 Meets (CA.«tuple.__gt__» ⟨[.ref l,.ref b],[]⟩)
  (fun _ R s=>s.heap.get? l=some { cls:=.type "tuple",dict:=dd,data:=.seq items n,slots:=sl }/\s.heap.get? b=some { cls:=.type "tuple",dict:=dd2,data:=.seq items2 n2,slots:=sl2 }/\
   R (.ok (.ret (.bool (aX ns ms)))) s):=
 .of_wp fun prog w A R s h=>by
  obtain⟨hp,g,d,tk,os⟩:=s;obtain⟨hl,hb,h⟩:=h
  have f2:=AutoSeq1.sub_tuple_tuple
  have z1:items.size=ns.length:=by rw[<-hi.length];simp
  have z2:items2.size=ms.length:=by rw[<-hj.length];simp
  wp_walk using BI hl,BI hb,wpAny_forIn_list _ (fun rest b s'=>b.1=none/\s'=⟨hp,g,d,tk,os⟩/\∃(vs ws:List A1) (ns' ms':List Int),rest=vs.zip ws/\
   By vs ns'/\By ws ms'/\ns'.length+items2.size=ms'.length+items.size/\R (.ok (.ret (.bool (aX ns' ms')))) ⟨hp,g,d,tk,os⟩) _
  case turn=>
   rintro⟨y,x⟩ rest b s' ⟨hb',rfl,vs,ws,ns',ms',hz,hvi,hwi,hlen,hR⟩
   cases hvi with
   |nil=>rw[List.zip_nil_left]at hz;cases hz
   |cons a t hvi'=>
    cases hwi with
    |nil=>rw[List.zip_nil_right]at hz;cases hz
    |cons c u hwi'=>
     rw[C9]at hz
     injection hz with hyx hrest
     injection hyx with hy hx
     subst hy hx
     rw[l0]at hR
     simp only[AS]at hlen
     obtain⟨e,he,hiff⟩:=iz A.in1 ⟨hp,g,d,tk,os⟩ a t c u
     refine cc (he prog w _ _ ?_)
     cases e with
     |true=>
      rw[if_pos (hiff.mp rfl)]at hR
      wp_walk
      exact⟨rfl,rfl,_,_,_,_,hrest,hvi',hwi',by omega,hR⟩
     |false=>
      rw[if_neg (fun q=>absurd (hiff.mpr q) AD)]at hR
      have hri:=ra A.in1 ⟨hp,g,d,tk,os⟩ a t c u prog w
      wp_walk using hri
      exact⟨_,rfl,by simpa using hR⟩
  case fin=>
   rintro⟨b1,b2⟩ s' ⟨hb',rfl,vs,ws,ns',ms',hz,hvi,hwi,hlen,hR⟩
   simp only at hb'
   subst hb'
   have hv:aX ns' ms'=decide (items.size>items2.size):=by
    cases hvi with
    |nil=>
     cases hwi with
     |nil=>
      simp only[BJ]at hlen
      rw[iL]
      exact(decide_eq_false (by omega)).symm
     |cons c u hw=>
      simp only[BJ,AS]at hlen
      rw[gk]
      exact(decide_eq_false (by omega)).symm
    |cons a t hv=>
     cases hwi with
     |nil=>
      simp only[BJ,AS]at hlen
      rw[gF]
      exact(decide_eq_true (by omega)).symm
     |cons c u hw=>
      rw[C9]at hz
      cases hz
   rw[hv]at hR
   wp_walk
   exact⟨_,rfl,by simpa[Builtin.Tuple.tupleCompareSizes]using hR⟩
  case h=>
   exact⟨rfl,rfl,items.toList,items2.toList,ns,ms,rfl,hi,hj,by omega,h⟩
end
section
variable{prog:Au}{w:AU}{A:AQ}{E:A1->A2->Prop}{s:A2}
theorem gL{l b:Addr}{items items2:Array A1}{ns ms:List Int}{Q:A1->A2->Prop}(hl:IsTup s.heap l items)(hb:IsTup s.heap b items2)(hi:By items.toList ns)(hj:By items2.toList ms) (hu:A.units<Bp) (h:Q (.bool (aX ns ms)) s):A9 (Ay prog w) A (AX .Gt (.ref l) (.ref b)) Q E s:=by obtain⟨⟨cls,dd,data,sl⟩,ho,hc,n,hd⟩:=id hl;obtain⟨⟨cls2,dd2,data2,sl2⟩,ho2,hc2,n2,hd2⟩:=id hb;simp only at hc hd hc2 hd2;subst hc hd hc2 hd2;exact richCompare_meets_room (op:=.Gt) ⟨_,ho,rfl⟩ ⟨_,ho2,rfl⟩ PySem.F.slot_tuple_gt PySem.F.entry_tuple_gt (PySem.F.args_tuple_gt_2 _ _) (iJ l b items items2 n n2 dd dd2 sl sl2 ns ms hi hj) ⟨ho,ho2,show Value.bool (aX ns ms)≠Value.notImplemented/\Q (.bool (aX ns ms)) s from⟨(fun x=>nomatch x),h⟩⟩ hu
end
end HT
namespace SD
open PySem PySem.Spec PyProof.Rows L2
section
variable{X:Cx}
theorem dj{K:A0}{H:Hp}:∀{ns:List Int} {xs:List V},av K H (ns.map D.int) xs->xs=ns.map V.int
 |[],xs,h=>by rw[BF,av]at h;exact h
 |n::ns,xs,h=>by
  rw[Av,av]at h
  obtain⟨x,r,rfl,h1,h2⟩:=h
  rw[Rep]at h1
  rw[h1,dj h2];rfl
theorem xh(hu:X.A.units<Bp):OpR X (AX .Gt) (fun x y H Q=>∃a b ns ms,x=.ref a/\y=.ref b/\SqT X.K H a (ns.map V.int)/\SqT X.K H b (ms.map V.int)/\Q (.bl (HT.aX ns ms)) H):=by intro pins s σ H x y v u Q I rx ry h;obtain⟨a,b,ns,ms,rfl,rfl,ha,hb,q⟩:=h;cases rx;cases ry;obtain⟨its,r1,p1,_⟩:=I.tuple ha;obtain⟨its2,r2,p2,_⟩:=I.tuple hb;exact HT.gL p1 p2 (intsAre_of r1) (intsAre_of r2) hu ⟨.bl (HT.aX ns ms),H,I,rfl,q⟩
def lh(f:Int->Int->Bool)(g:List Int->List Int->Bool):R2D:=fun x y M Q=>match x,y with
 |.int i,.int j=>True/\Q (.bl (f i j)) M
 |.tup a,.tup b=>∃ns ms,a=BZ D.int ns/\b=BZ D.int ms/\Q (.bl (g ns ms)) M
 |_,_=>False
theorem qd{op:CmpOp}{f:Int->Int->Bool}{g:List Int->List Int->Bool}(h1:OpD X (AX op) (rI2 (fun _ _=>True) fun i j=>.bl (f i j))) (h2:OpR X (AX op) (fun x y H Q=>∃a b ns ms,x=.ref a/\y=.ref b/\SqT X.K H a (ns.map V.int)/\SqT X.K H b (ms.map V.int)/\Q (.bl (g ns ms)) H)):OpD X (AX op) (lh f g):=by
 refine fO (h1.or h2) fun v u H Q zz1_0=>?_;obtain⟨x,y,M,R,r1,r2,a,q,fin⟩:=zz1_0;unfold lh at q;split at q
 ·exact .inl ⟨_,_,M,R,r1,r2,a,q,fin⟩
 ·obtain⟨ns,ms,rfl,rfl,q⟩:=q;rw[Rep]at r1;obtain⟨p,xs,rfl,hx,rx⟩:=r1;obtain⟨p',ys,rfl,hy,ry⟩:∃a xs,u=V.ref a/\SqT X.K H a xs/\av X.K H (BZ D.int ms) xs:=by rw[Rep]at r2;exact r2
  rw[dj rx]at hx;rw[dj ry]at hy;exact .inr ⟨p,p',ns,ms,rfl,rfl,hx,hy,fin _ _ _ _ .refl (by rw[Rep]) a q⟩
 ·exact q.elim
theorem ez(hu:X.A.units+64<Bp):OpD X (AX .Lt) (lh (fun i j=>decide (i<j)) HT.lexLt):=qd yV (vH (by omega))
theorem ig(hu:X.A.units+64<Bp):OpD X (AX .Gt) (lh (fun i j=>decide (j<i)) HT.aX):=qd zo (xh (by omega))
theorem pf(hc:X.calm=true)(hu:X.A.units+64<Bp):br X (.builtin "max") (fun xs H Q=>∃p q ns ms,xs=[.ref p,.ref q]/\SqT X.K H p (ns.map V.int)/\SqT X.K H q (ms.map V.int)/\Q (if HT.aX ms ns=true then .ref q else .ref p) H):=by
 intro pins s σ H xs us Q I r z0;obtain⟨p,q,ns,ms,e,hp,hq,k⟩:=z0;subst e;obtain⟨u,v,rfl,ru,rv⟩:=vals2 r;cases ru;cases rv;obtain⟨its,r1,p1,_⟩:=I.tuple hp;obtain⟨its2,r2,p2,_⟩:=I.tuple hq;refine max_two (c:=HT.aX ms ns) (I.ok.hd hc) (fun t Q' E' kt q'=>?_) fun h' tk kt=>⟨_,H,I.kept kt,?_,k⟩
 ·obtain⟨o1,a1,b1⟩:=p1;obtain⟨o2,a2,b2⟩:=p2;exact HT.gL (A:=X.A.in1) (s:=t) ⟨o2,kt _ _ a2,b2⟩ ⟨o1,kt _ _ a1,b1⟩ (intsAre_of r2) (intsAre_of r1) (by show X.A.units+1<Bp;omega) q'
 ·cases HT.aX ms ns<;>rfl
theorem ou(hc:X.calm=true)(hu:X.A.units+64<Bp):br X (.builtin "min") (fun xs H Q=>∃p q ns ms,xs=[.ref p,.ref q]/\SqT X.K H p (ns.map V.int)/\SqT X.K H q (ms.map V.int)/\Q (if HT.lexLt ms ns=true then .ref q else .ref p) H):=by
 intro pins s σ H xs us Q I r z0;obtain⟨p,q,ns,ms,e,hp,hq,k⟩:=z0;subst e;obtain⟨u,v,rfl,ru,rv⟩:=vals2 r;cases ru;cases rv;obtain⟨its,r1,p1,_⟩:=I.tuple hp;obtain⟨its2,r2,p2,_⟩:=I.tuple hq;refine min_two (c:=HT.lexLt ms ns) (I.ok.hd hc) (fun t Q' E' kt q'=>?_) fun h' tk kt=>⟨_,H,I.kept kt,?_,k⟩
 ·obtain⟨o1,a1,b1⟩:=p1;obtain⟨o2,a2,b2⟩:=p2;exact HT.gI (A:=X.A.in1) (s:=t) ⟨o2,kt _ _ a2,b2⟩ ⟨o1,kt _ _ a1,b1⟩ (intsAre_of r2) (intsAre_of r1) (by show X.A.units+1<Bp;omega) q'
 ·cases HT.lexLt ms ns<;>rfl
def uQ:RC:=fun ds M Q=>match ds with
 |[.int i,.int j]=>Q (.int (max i j)) M
 |[.tup a,.tup b]=>∃ns ms,a=BZ D.int ns/\b=BZ D.int ms/\Q (.tup (BZ D.int (if HT.aX ms ns=true then ms else ns))) M
 |_=>False
def ve:RC:=fun ds M Q=>match ds with
 |[.int i,.int j]=>Q (.int (min i j)) M
 |[.tup a,.tup b]=>∃ns ms,a=BZ D.int ns/\b=BZ D.int ms/\Q (.tup (BZ D.int (if HT.lexLt ms ns=true then ms else ns))) M
 |_=>False
theorem nP(hc:X.calm=true)(hu:X.A.units+64<Bp):cL X (.builtin "max") uQ:=bP (br.or (wq hc) (pf hc hu)) fun vs H Q z9=>by
 obtain⟨ds,M,R,rs,a,q,fin⟩:=z9;unfold uQ at q;split at q
 ·exact .inl ⟨_,M,R,rs,a,q,fin⟩
 ·obtain⟨ns,ms,rfl,rfl,q⟩:=q;obtain⟨v,u,rfl,r1,r2⟩:=dr rs;rw[Rep]at r1;obtain⟨p,xs,rfl,hx,rx⟩:=r1;obtain⟨p',ys,rfl,hy,ry⟩:∃a xs,u=V.ref a/\SqT X.K H a xs/\av X.K H (BZ D.int ms) xs:=by rw[Rep]at r2;exact r2
  have hx':=hx;have hy':=hy;rw[dj rx]at hx';rw[dj ry]at hy';refine .inr ⟨p,p',ns,ms,rfl,hx',hy',fin _ _ _ _ .refl ?_ a q⟩;by_cases z:HT.aX ms ns=true
  ·rw[if_pos z,if_pos z,Rep];exact⟨_,_,rfl,hy,ry⟩
  ·rw[if_neg z,if_neg z,Rep];exact⟨_,_,rfl,hx,rx⟩
 ·exact q.elim
theorem mX(hc:X.calm=true)(hu:X.A.units+64<Bp):cL X (.builtin "min") ve:=bP (br.or (xj hc) (ou hc hu)) fun vs H Q z9=>by
 obtain⟨ds,M,R,rs,a,q,fin⟩:=z9;unfold ve at q;split at q
 ·exact .inl ⟨_,M,R,rs,a,q,fin⟩
 ·obtain⟨ns,ms,rfl,rfl,q⟩:=q;obtain⟨v,u,rfl,r1,r2⟩:=dr rs;rw[Rep]at r1;obtain⟨p,xs,rfl,hx,rx⟩:=r1;obtain⟨p',ys,rfl,hy,ry⟩:∃a xs,u=V.ref a/\SqT X.K H a xs/\av X.K H (BZ D.int ms) xs:=by rw[Rep]at r2;exact r2
  have hx':=hx;have hy':=hy;rw[dj rx]at hx';rw[dj ry]at hy';refine .inr ⟨p,p',ns,ms,rfl,hx',hy',fin _ _ _ _ .refl ?_ a q⟩;by_cases z:HT.lexLt ms ns=true
  ·rw[if_pos z,if_pos z,Rep];exact⟨_,_,rfl,hy,ry⟩
  ·rw[if_neg z,if_neg z,Rep];exact⟨_,_,rfl,hx,rx⟩
 ·exact q.elim
end
end SD
namespace Ma
open SD
theorem sY{p z:Int}(h:0<p):0<p*z↔0<z:=by
 constructor
 ·intro q;by_cases hz:0<z
  ·exact hz
  ·have:p*z<=0:=Int.mul_nonpos_of_nonneg_of_nonpos (by omega) (by omega);omega
 ·exact fun q=>BQ h q
theorem pg{a b c d:Int}(hb:0<b)(hd:0<d):Rat.divInt a b<Rat.divInt c d↔a*d<c*b:=by
 have e:=Rat.divInt_sub_divInt c a (d₁:=d) (d₂:=b) (by omega) (by omega);have h1:Rat.divInt a b<Rat.divInt c d↔0<Rat.divInt c d-Rat.divInt a b:=by constructor<;>intro z<;>grind
 rw[h1,e,ia (BQ hd hb)];omega
def ut(t b X m x:Int):Rat:=Rat.divInt (x*t+X*m) (b*m)
theorem nO{t b X m n x y:Int}(ht:0<t)(hb:0<b)(hm:0<m)(hn:0<n):ut t b X m x<ut t b X n y↔n*x<m*y:=by
 unfold ut;rw[pg (BQ hb hm) (BQ hb hn)];have e:(y*t+X*n)*(b*m)-(x*t+X*m)*(b*n)=(b*t)*(m*y-n*x):=by grind
 have:=sY (z:=m*y-n*x) (BQ hb ht);omega
theorem zk{t b X m n x y:Int}(ht:0<t)(hb:0<b)(hm:0<m)(hn:0<n):ut t b X m x=ut t b X n y↔n*x=m*y:=by
 have h1:=nO (X:=X) (x:=x) (y:=y) ht hb hm hn;have h2:=nO (X:=X) (x:=y) (y:=x) ht hb hn hm;constructor
 ·intro e;have a:¬ut t b X m x<ut t b X n y:=by rw[e];exact Rat.lt_irrefl
  have c:¬ut t b X n y<ut t b X m x:=by rw[e];exact Rat.lt_irrefl
  rw[h1]at a;rw[h2]at c;omega
 ·intro e;have a:¬ut t b X m x<ut t b X n y:=by rw[h1];omega
  have c:¬ut t b X n y<ut t b X m x:=by rw[h2];omega
  grind
theorem pX{t b X x:Int}:Rat.divInt (x*t+X) b=ut t b X 1 x:=by unfold ut;rw[Int.mul_one,Int.mul_one]
theorem ym{t b X Y m n x y u v:Int}(ht:0<t)(hb:0<b)(hm:0<m)(hn:0<n) : ah (ut t b X m x) (ut t b Y m y) (ut t b X n u) (ut t b Y n v)↔HT.lexLt [n*x,n*y] [m*u,m*v]=true:=by
 unfold ah;rw[nO ht hb hm hn,zk ht hb hm hn,nO ht hb hm hn];simp only[HT.lexLt];by_cases h:n*x=m*u
 ·rw[if_pos h];by_cases h2:n*y=m*v
  ·rw[if_pos h2];simp;omega
  ·rw[if_neg h2];simp;omega
 ·rw[if_neg h];simp;omega
theorem fR(a b c d:Int):HT.aX [a,b] [c,d]=HT.lexLt [c,d] [a,b]:=by
 simp only[HT.aX,HT.lexLt];by_cases h:a=c
 ·subst h;rw[if_pos rfl,if_pos rfl];by_cases h2:b=d
  ·subst h2;simp
  ·rw[if_neg h2,if_neg (fun e=>h2 e.symm)]
 ·rw[if_neg h,if_neg (fun e=>h e.symm)]
theorem bS{a b c d:Int}:HT.lexLt [a,b] [c,d]=true↔a<c\/(a=c/\b<d):=by
 simp only[HT.lexLt];by_cases h:a=c
 ·subst h;rw[if_pos rfl];by_cases h2:b=d
  ·subst h2;rw[if_pos rfl];simp
  ·rw[if_neg h2];simp
 ·rw[if_neg h];simp;omega
end Ma
namespace SD
open PySem PySem.Spec PyProof.Rows L2
theorem aw{M:MH}{a p:PySem.Addr}{o:MO}(h:M a=some o)(hp:M p=none):a≠p:=fun e=>by subst e;rw[h]at hp;cases hp
def scl(t b x y:Int):D:=.tup [.int t,.int b,.int x,.int y]
structure Scl(t b x y:Int):Prop where
 t0:0<t
 t1:t<=10^9
 b0:0<b
 b1:b<=10^9
 x0:-(10^17)<=x
 x1:x<=10^17
 y0:-(10^17)<=y
 y1:y<=10^17
def uw(w:Int×Int×Int×Int):D:=.tup [.tup [.int w.1,.int w.2.1],.tup [.int w.2.2.1,.int w.2.2.2]]
def rwl(t b x y:Int)(w:Int×Int×Int×Int):D:=Ma.wll (Ma.ut t b x 1 w.1) (Ma.ut t b y 1 w.2.1) (Ma.ut t b x 1 w.2.2.1) (Ma.ut t b y 1 w.2.2.2)
def Uok(n:Int)(w:Int×Int×Int×Int):Prop:=(-n<=w.1/\w.1<=n)/\(-n<=w.2.1/\w.2.1<=n)/\(-n<=w.2.2.1/\w.2.2.1<=n)/\(-n<=w.2.2.2/\w.2.2.2<=n)
theorem range_getD(l:List D):(BV l.length).map (fun i=>(l[i]?).getD .non)=l:=by refine List.ext_getElem (by simp) fun i h1 h2=>?_;simp[h2]
theorem getD_map{α:Type}{f:α->D}{l:List α}{i:Nat}{a:α}(h:l[i]?=some a):((l.map f)[i]?).getD .non=f a:=by rw[Az,h];rfl
theorem uT{t b x m p:Int}(ht:0<t/\t<=10^9)(hb:0<b/\b<=10^9)(hx:-(10^17)<=x/\x<=10^17)(hm:0<m/\m<=10^6)(hp:-(10^6)<=p/\p<=10^6):Ma.Bq 200 (Ma.ut t b x m p):=by
 have bt:Bd 64 t:=by show t.natAbs<2^64;omega
 have bm:Bd 64 m:=by show m.natAbs<2^64;omega
 have bp:Bd 64 p:=by show p.natAbs<2^64;omega
 have bb:Bd 64 b:=by show b.natAbs<2^64;omega
 have bx:Bd 64 x:=by show x.natAbs<2^64;omega
 refine Ma.Bq.divInt (by have:=BQ hb.1 hm.1;omega) ?_ ((bb.mul bm).mono (by decide));exact((bp.mul bt).add (bx.mul bm)).mono (by decide)
theorem Scl.bx{t b x y m p:Int}(S:Scl t b x y)(hm:0<m/\m<=10^6)(hp:-(10^6)<=p/\p<=10^6):Ma.Bq 200 (Ma.ut t b x m p):=uT ⟨S.t0,S.t1⟩ ⟨S.b0,S.b1⟩ ⟨S.x0,S.x1⟩ hm hp
theorem Scl.by'{t b x y m p:Int}(S:Scl t b x y)(hm:0<m/\m<=10^6)(hp:-(10^6)<=p/\p<=10^6):Ma.Bq 200 (Ma.ut t b y m p):=uT ⟨S.t0,S.t1⟩ ⟨S.b0,S.b1⟩ ⟨S.y0,S.y1⟩ hm hp
theorem tL(a b c d:Int):Bi (.tuple [.int a,.int b]) (.tuple [.int c,.int d])=decide (a=c/\b=d):=by simp only[Bi,Cn,jD,Bool.and_true,Bool.decide_and]
open PySem PySem.Spec PyProof.Rows L2 Ma
instance(a b c d:Rat):Decidable (Ma.ah a b c d):=inferInstanceAs (Decidable (_\/_))
def oM(a b c d e f g h:Rat):D:=
 let s:=if Ma.ah e f a b then(a,b)else(e,f)
 let n:=if Ma.ah c d g h then(c,d)else(g,h)
 if Ma.ah s.1 s.2 n.1 n.2 then .tup [.str "stretch",Ma.wll s.1 s.2 n.1 n.2]else if Ma.ah n.1 n.2 s.1 s.2 then .non else .tup [.str "spot",Ma.spt s.1 s.2]
def btw(x y s:Rat):Rat:=x+s*(y-x)
def h9(a b c d e f g h:Rat):D:=
 if Ma.sgn (Ma.cr a b c d e f)=0/\Ma.sgn (Ma.cr a b c d g h)=0 then oM a b c d e f g h
 else if 0<Ma.sgn (Ma.cr a b c d e f)*Ma.sgn (Ma.cr a b c d g h)\/0<Ma.sgn (Ma.cr e f g h a b)*Ma.sgn (Ma.cr e f g h c d)then .non
 else .tup [.str "spot",Ma.spt (btw e g (Ma.cr a b c d e f/(Ma.cr a b c d e f-Ma.cr a b c d g h))) (btw f h (Ma.cr a b c d e f/(Ma.cr a b c d e f-Ma.cr a b c d g h)))]
def crs(a b c d:Int):Int:=a*d-b*c
def dY(p q e f:Int):Int×Int:=if HT.aX [e,f] [p,q]=true then(e,f)else(p,q)
def eU(r s g h:Int):Int×Int:=if HT.lexLt [g,h] [r,s]=true then(g,h)else(r,s)
def gK(p q r s e f g h:Int):D:=
 let w:=crs (r-p) (s-q) (g-e) (h-f)
 if w=0 then
  if crs (r-p) (s-q) (e-p) (f-q)≠0\/HT.aX [(dY p q e f).1,(dY p q e f).2] [(eU r s g h).1,(eU r s g h).2]=true then .non
  else if(dY p q e f).1=(eU r s g h).1/\(dY p q e f).2=(eU r s g h).2 then .tup [.int (dY p q e f).1,.int (dY p q e f).2,.int 1]
  else .tup [.tup [.int (dY p q e f).1,.int (dY p q e f).2],.tup [.int (eU r s g h).1,.int (eU r s g h).2]]
 else
  let k:=if w<0 then -crs (e-p) (f-q) (g-e) (h-f)else crs (e-p) (f-q) (g-e) (h-f)
  let m:=if w<0 then -crs (e-p) (f-q) (r-p) (s-q)else crs (e-p) (f-q) (r-p) (s-q)
  if min k m<0\/(w.natAbs:Int)<max k m then .non else .tup [.int (p*(w.natAbs:Int)+k*(r-p)),.int (q*(w.natAbs:Int)+k*(s-q)),.int (w.natAbs:Int)]
def y9(t b X Y:Int):D->D
 |.tup [.int x,.int y,.int m]=>.tup [.str "spot",Ma.spt (Ma.ut t b X m x) (Ma.ut t b Y m y)]
 |.tup [.tup [.int x,.int y],.tup [.int u,.int v]]=>.tup [.str "stretch",Ma.wll (Ma.ut t b X 1 x) (Ma.ut t b Y 1 y) (Ma.ut t b X 1 u) (Ma.ut t b Y 1 v)]
 |_=>.non
theorem qC{t b X m x:Int}(hb:0<b)(hm:0<m):Ma.ut t b X m x=((t:Rat)/b)*((x:Rat)/m)+(X:Rat)/b:=by
 unfold Ma.ut;rw[Rat.divInt_eq_div];have h1:(b:Rat)≠0:=by have:=Ma.pos_int hb;grind
 have h2:(m:Rat)≠0:=by have:=Ma.pos_int hm;grind
 rw[Rat.intCast_add,BX,BX,BX];grind
theorem cM{t b X x:Int}(hb:0<b):Ma.ut t b X 1 x=((t:Rat)/b)*(x:Rat)+(X:Rat)/b:=by rw[qC hb (by decide)];have:((1:Int):Rat)=1:=rfl;rw[this];grind
theorem wN(k x y p q r s e f:Rat):Ma.cr (k*p+x) (k*q+y) (k*r+x) (k*s+y) (k*e+x) (k*f+y)=k*k*((r-p)*(f-q)-(s-q)*(e-p)):=by unfold Ma.cr;grind
theorem nZ{t b X Y p q r s e f:Int}(hb:0<b):Ma.cr (Ma.ut t b X 1 p) (Ma.ut t b Y 1 q) (Ma.ut t b X 1 r) (Ma.ut t b Y 1 s) (Ma.ut t b X 1 e) (Ma.ut t b Y 1 f)=((t:Rat)/b)*((t:Rat)/b)*((crs (r-p) (s-q) (e-p) (f-q):Int):Rat):=by rw[cM hb,cM hb,cM hb,cM hb,cM hb,cM hb,wN];unfold crs;rw[Cd,BX,BX,Cd,Cd,Cd,Cd]
theorem sgn_mul{k:Rat}(hk:0<k)(z:Int):Ma.sgn (k*(z:Rat))=Int.sign z:=by
 unfold Ma.sgn;by_cases h1:0<z
 ·rw[if_pos (BK hk (Ma.pos_int h1)),Bx h1]
 ·by_cases h2:z<0
  ·have h3:0<k*((-z:Int):Rat):=BK hk (Ma.pos_int (by omega));rw[Rat.intCast_neg]at h3;rw[if_neg (by grind),if_pos (by grind),Bj h2]
  ·obtain rfl:z=0:=by omega
   have:((0:Int):Rat)=0:=rfl;rw[this];simp
theorem dN{x y:Int}:0<Int.sign x*Int.sign y↔(0<x/\0<y)\/(x<0/\y<0):=by
 rcases Int.lt_trichotomy x 0 with h|h|h<;>rcases Int.lt_trichotomy y 0 with h'|h'|h'
 ·rw[Bj h,Bj h'];omega
 ·subst h';simp
 ·rw[Bj h,Bx h'];omega
 ·subst h;simp
 ·subst h;simp
 ·subst h;simp
 ·rw[Bx h,Bj h'];omega
 ·subst h';simp
 ·rw[Bx h,Bx h'];omega
theorem gM{t b X Y p q e f:Int}(ht:0<t)(hb:0<b):Ma.ah (Ma.ut t b X 1 p) (Ma.ut t b Y 1 q) (Ma.ut t b X 1 e) (Ma.ut t b Y 1 f)↔(p<e\/(p=e/\q<f)):=by rw[Ma.ym ht hb (by decide) (by decide),Ma.bS];omega
theorem ub(p q r s e f g h:Int):crs (r-p) (s-q) (g-p) (h-q)=crs (r-p) (s-q) (e-p) (f-q)+crs (r-p) (s-q) (g-e) (h-f):=by unfold crs;grind
theorem uC(p q e f g h:Int):crs (g-e) (h-f) (p-e) (q-f)=crs (e-p) (f-q) (g-e) (h-f):=by unfold crs;grind
theorem ux(p q r s e f g h:Int):crs (g-e) (h-f) (r-e) (s-f)=crs (e-p) (f-q) (g-e) (h-f)-crs (r-p) (s-q) (g-e) (h-f):=by unfold crs;grind
theorem uF(p q r s e f:Int):crs (e-p) (f-q) (r-p) (s-q)=-crs (r-p) (s-q) (e-p) (f-q):=by unfold crs;grind
theorem yJ(p q r s e f g h:Int):crs (r-p) (s-q) (g-e) (h-f)*(e-p)=crs (e-p) (f-q) (g-e) (h-f)*(r-p)+crs (r-p) (s-q) (e-p) (f-q)*(g-e):=by unfold crs;grind
theorem yA(p q r s e f g h:Int):crs (r-p) (s-q) (g-e) (h-f)*(f-q)=crs (e-p) (f-q) (g-e) (h-f)*(s-q)+crs (r-p) (s-q) (e-p) (f-q)*(h-f):=by unfold crs;grind
theorem xq{k c W G H e g p r:Rat}(hk:k≠0)(hW:W≠0)(id:W*(e-p)=H*(r-p)+G*(g-e)) :
 btw (k*e+c) (k*g+c) (k*k*G/(k*k*G-k*k*(G+W)))=k*(p+H*(r-p)/W)+c:=by
 unfold btw
 have e1:k*k*G-k*k*(G+W)=-(k*k*W):=by grind
 rw[e1]
 grind
theorem qt{t b X Y p q r s e f g h:Int}(ht:0<t)(hb:0<b) :
 h9 (Ma.ut t b X 1 p) (Ma.ut t b Y 1 q) (Ma.ut t b X 1 r) (Ma.ut t b Y 1 s) (Ma.ut t b X 1 e) (Ma.ut t b Y 1 f) (Ma.ut t b X 1 g) (Ma.ut t b Y 1 h)=y9 t b X Y (gK p q r s e f g h):=by
 have htb:0<(t:Rat)/b:=by
  have h1:=Ma.pos_int ht
  have h2:=Ma.pos_int hb
  rw[Rat.div_def]
  exact BK h1 (Rat.inv_pos.mpr h2)
 have hk:=BK htb htb
 unfold h9 gK
 rw[nZ hb,nZ hb,nZ hb,nZ hb,sgn_mul hk,sgn_mul hk,sgn_mul hk,sgn_mul hk,ub p q r s e f g h,uC p q e f g h,ux p q r s e f g h,uF p q r s e f]
 have ix:=yJ p q r s e f g h
 have iy:=yA p q r s e f g h
 generalize crs (r-p) (s-q) (g-e) (h-f)=W at ix iy
 generalize crs (r-p) (s-q) (e-p) (f-q)=G at ix iy
 generalize crs (e-p) (f-q) (g-e) (h-f)=H at ix iy
 dsimp only
 by_cases hW:W=0
 ·subst hW
  rw[if_pos rfl]
  by_cases hG:G=0
  ·subst hG
   rw[if_pos (by simp)]
   unfold oM
   have hs:(if Ma.ah (Ma.ut t b X 1 e) (Ma.ut t b Y 1 f) (Ma.ut t b X 1 p) (Ma.ut t b Y 1 q)then(Ma.ut t b X 1 p,Ma.ut t b Y 1 q)else(Ma.ut t b X 1 e,Ma.ut t b Y 1 f))=(Ma.ut t b X 1 (dY p q e f).1,Ma.ut t b Y 1 (dY p q e f).2):=by
    unfold dY
    rw[Ma.fR]
    by_cases z:HT.lexLt [p,q] [e,f]=true
    ·rw[if_pos z,if_neg]
     rw[gM ht hb]
     rw[Ma.bS]at z
     omega
    ·rw[if_neg z]
     rw[Ma.bS]at z
     by_cases y:Ma.ah (Ma.ut t b X 1 e) (Ma.ut t b Y 1 f) (Ma.ut t b X 1 p) (Ma.ut t b Y 1 q)
     ·rw[if_pos y]
     ·rw[if_neg y]
      rw[gM ht hb]at y
      obtain⟨rfl,rfl⟩:e=p/\f=q:=by omega
      rfl
   have hn:(if Ma.ah (Ma.ut t b X 1 r) (Ma.ut t b Y 1 s) (Ma.ut t b X 1 g) (Ma.ut t b Y 1 h)then(Ma.ut t b X 1 r,Ma.ut t b Y 1 s)else(Ma.ut t b X 1 g,Ma.ut t b Y 1 h))=(Ma.ut t b X 1 (eU r s g h).1,Ma.ut t b Y 1 (eU r s g h).2):=by
    unfold eU
    by_cases z:HT.lexLt [g,h] [r,s]=true
    ·rw[if_pos z,if_neg]
     rw[gM ht hb]
     rw[Ma.bS]at z
     omega
    ·rw[if_neg z]
     rw[Ma.bS]at z
     by_cases y:Ma.ah (Ma.ut t b X 1 r) (Ma.ut t b Y 1 s) (Ma.ut t b X 1 g) (Ma.ut t b Y 1 h)
     ·rw[if_pos y]
     ·rw[if_neg y]
      rw[gM ht hb]at y
      obtain⟨rfl,rfl⟩:g=r/\h=s:=by omega
      rfl
   rw[hs,hn]
   dsimp only
   generalize (dY p q e f).1=x1
   generalize (dY p q e f).2=y1
   generalize (eU r s g h).1=x2
   generalize (eU r s g h).2=y2
   rw[Ma.fR]
   have a1:=gM (X:=X) (Y:=Y) (p:=x1) (q:=y1) (e:=x2) (f:=y2) ht hb
   have a2:=gM (X:=X) (Y:=Y) (p:=x2) (q:=y2) (e:=x1) (f:=y1) ht hb
   have l1:=Ma.bS (a:=x2) (b:=y2) (c:=x1) (d:=y1)
   by_cases z1:Ma.ah (Ma.ut t b X 1 x1) (Ma.ut t b Y 1 y1) (Ma.ut t b X 1 x2) (Ma.ut t b Y 1 y2)
   ·rw[if_pos z1]
    rw[a1]at z1
    rw[if_neg (by rw[l1];omega),if_neg (by omega)]
    rfl
   ·rw[if_neg z1]
    rw[a1]at z1
    by_cases z2:Ma.ah (Ma.ut t b X 1 x2) (Ma.ut t b Y 1 y2) (Ma.ut t b X 1 x1) (Ma.ut t b Y 1 y1)
    ·rw[if_pos z2]
     rw[a2]at z2
     rw[if_pos (by rw[l1];omega)]
     rfl
    ·rw[if_neg z2]
     rw[a2]at z2
     rw[if_neg (by rw[l1];omega),if_pos (by omega)]
     rfl
  ·rw[if_neg (by simp only[Int.sign_eq_zero_iff_zero];omega),if_pos (.inl (by rw[dN];omega)),if_pos (.inl hG)]
   rfl
 ·rw[if_neg (by simp only[Int.sign_eq_zero_iff_zero];omega),if_neg hW]
  by_cases hc:0<Int.sign G*Int.sign (G+W)\/0<Int.sign H*Int.sign (H-W)
  ·rw[if_pos hc]
   rw[dN,dN]at hc
   rw[if_pos]
   ·rfl
   ·by_cases hn:W<0
    ·rw[if_pos hn,if_pos hn];omega
    ·rw[if_neg hn,if_neg hn];omega
  ·rw[if_neg hc]
   rw[dN,dN]at hc
   rw[if_neg]
   ·show D.tup _=D.tup _
    have hWa:0<(W.natAbs:Int):=by omega
    have hWr:(W:Rat)≠0:=fun z=>hW (by have:=Rat.intCast_inj (a:=W) (b:=0);exact this.mp z)
    have hN:((W.natAbs:Int):Rat)≠0:=fun z=>by have:=(Rat.intCast_inj (a:=(W.natAbs:Int)) (b:=0)).mp z;omega
    have co:∀(Z a g' e' r':Int),W*(e'-a)=H*(r'-a)+G*(g'-e')->
     btw (Ma.ut t b Z 1 e') (Ma.ut t b Z 1 g') ((t:Rat)/b*((t:Rat)/b)*(G:Rat)/((t:Rat)/b*((t:Rat)/b)*(G:Rat)-(t:Rat)/b*((t:Rat)/b)*((G+W:Int):Rat))) =
      Ma.ut t b Z (W.natAbs:Int) (a*(W.natAbs:Int)+(if W<0 then -H else H)*(r'-a)):=fun Z a g' e' r' id=>by
     have idq:(W:Rat)*((e':Rat)-a)=H*((r':Rat)-a)+G*((g':Rat)-e'):=by
      have:=congrArg (fun z:Int=>(z:Rat)) id
      simpa[Rat.intCast_add,BX,Cd]using this
     rw[cM hb,cM hb,qC hb hWa,Rat.intCast_add,xq (by grind) hWr idq,Rat.intCast_add,BX,BX,Cd]
     have hq:(((if W<0 then -H else H:Int):Rat))/((W.natAbs:Int):Rat)=(H:Rat)/(W:Rat):=by
      by_cases hn:W<0
      ·rw[if_pos hn,show(W.natAbs:Int)=-W from by omega,Rat.intCast_neg,Rat.intCast_neg]
       grind
      ·rw[if_neg hn,show(W.natAbs:Int)=W from by omega]
     generalize (((if W<0 then -H else H:Int):Rat))=K at hq
     generalize ((W.natAbs:Int):Rat)=N at hq hN
     grind
    rw[co X p g e r ix,co Y q h f s iy]
   ·by_cases hn:W<0
    ·rw[if_pos hn,if_pos hn];omega
    ·rw[if_neg hn,if_neg hn];omega
theorem nM(x:Str):Bi (.str x) (.str x)=true:=by simp[Bi]
theorem eZ:PyData.strOk (Bf "spot")=true:=by decide +kernel
theorem mD:PyData.strOk (Bf "stretch")=true:=by decide +kernel
theorem pU{n:Nat}{a b c d:Int}(ha:Bd n a)(hb:Bd n b)(hc:Bd n c)(hd:Bd n d):Bd (n+n+1) (crs a b c d):=(ha.mul hd).sub (hb.mul hc)
theorem xo{n:Nat}{i:Int}(h:Bd n i):Bd n (i.natAbs:Int):=h.of_le (by simp)
theorem l5{p q r s e f g h:Int}(hp:Bd 6 p)(hq:Bd 6 q)(hr:Bd 6 r)(hs:Bd 6 s)(he:Bd 6 e)(hf:Bd 6 f)(hg:Bd 6 g)(hh:Bd 6 h) :
 gK p q r s e f g h=.non\/(∃x y m,gK p q r s e f g h=.tup [.int x,.int y,.int m]/\Bd 30 x/\Bd 30 y/\Bd 30 m/\0<m)\/
  ∃x y u v,gK p q r s e f g h=.tup [.tup [.int x,.int y],.tup [.int u,.int v]]/\Bd 6 x/\Bd 6 y/\Bd 6 u/\Bd 6 v:=by
 have mx:Bd 6 (dY p q e f).1/\Bd 6 (dY p q e f).2:=by
  unfold dY
  split
  ·exact⟨he,hf⟩
  ·exact⟨hp,hq⟩
 have mn:Bd 6 (eU r s g h).1/\Bd 6 (eU r s g h).2:=by
  unfold eU
  split
  ·exact⟨hg,hh⟩
  ·exact⟨hr,hs⟩
 have bw:=pU (hr.sub hp) (hs.sub hq) (hg.sub he) (hh.sub hf)
 have bk:=pU (he.sub hp) (hf.sub hq) (hg.sub he) (hh.sub hf)
 unfold gK
 dsimp only
 generalize crs (r-p) (s-q) (g-e) (h-f)=W at bw
 generalize crs (e-p) (f-q) (g-e) (h-f)=K at bk
 by_cases hW:W=0
 ·rw[if_pos hW]
  split
  ·exact .inl rfl
  ·split
   ·exact .inr (.inl ⟨_,_,_,rfl,mx.1.mono (by decide),mx.2.mono (by decide),by decide,by decide⟩)
   ·exact .inr (.inr ⟨_,_,_,_,rfl,mx.1,mx.2,mn.1,mn.2⟩)
 ·rw[if_neg hW]
  have bk':Bd 15 (if W<0 then -K else K):=by
   split
   ·exact bk.neg
   ·exact bk
  have ba:=xo bw
  generalize (if W<0 then -K else K)=k at bk'
  generalize (if W<0 then -crs (e-p) (f-q) (r-p) (s-q)else crs (e-p) (f-q) (r-p) (s-q))=m
  by_cases hc:min k m<0\/(W.natAbs:Int)<max k m
  ·rw[if_pos hc]
   exact .inl rfl
  ·rw[if_neg hc]
   refine .inr (.inl ⟨_,_,_,rfl,?_,?_,ba.mono (by decide),by omega⟩)
   ·exact(((hp.mul ba).mono (show 6+15<=22 by decide)).add ((bk'.mul (hr.sub hp)).mono (show 15+7<=22 by decide))).mono (by decide)
   ·exact(((hq.mul ba).mono (show 6+15<=22 by decide)).add ((bk'.mul (hs.sub hq)).mono (show 15+7<=22 by decide))).mono (by decide)
theorem iR(z:Rat):Ma.sgn z=1\/Ma.sgn z=-1\/Ma.sgn z=0:=by
 unfold Ma.sgn;split
 ·exact .inl rfl
 ·split
  ·exact .inr (.inl rfl)
  ·exact .inr (.inr rfl)
theorem xZ(z:Rat):Bd 64 (Ma.sgn z):=by rcases iR z with h|h|h<;>rw[h]<;>decide
end SD
namespace HT
open PySem PyProof.Rows
def cF:List Int->List Int->Bool
 |[],[]=>true
 |[],_::_=>false
 |_::_,[]=>true
 |x::xs,y::ys=>if x=y then cF xs ys else decide (y<=x)
theorem l9(x y:Int)(xs ys:List Int):cF (x::xs) (y::ys)=if x=y then cF xs ys else decide (y<=x):=rfl
theorem iM:cF [] []=true:=rfl
theorem gW(y:Int)(ys:List Int):cF [] (y::ys)=false:=rfl
theorem ik(x:Int)(xs:List Int):cF (x::xs) []=true:=rfl
theorem se(A:AQ)(s:A2)(a:Int)(t:Tok)(c:Int)(u:Tok)(prog:Au)(w:AU)(E:A1->A2->Prop)(Q:A1->A2->Prop)(h:Q (.bool (decide (c<=a))) s) : A9 (Ay prog w) A (richCompare .GtE (.int a t) (.int c u)) Q E s:=(PyProof.Rows.ge_int h:A9 (Ay prog w) A (AX .GtE (.int a t) (.int c u)) Q E s)
section
open PySem.SeqAt
open PySem.AutoSeq1 (wpAny_loadPart')
open PySem.MeetsSeq PySem.MeetsSeq2 PySem.MeetsSeq3
theorem iK(l b:Addr)(items items2:Array A1)(n n2:Nat)(dd dd2:Option Addr)(sl sl2:Array (Option A1))(ns ms:List Int)(hi:By items.toList ns)(hj:By items2.toList ms) :
 Meets (CA.«tuple.__ge__» ⟨[.ref l,.ref b],[]⟩)
  (fun _ R s=>s.heap.get? l=some { cls:=.type "tuple",dict:=dd,data:=.seq items n,slots:=sl }/\s.heap.get? b=some { cls:=.type "tuple",dict:=dd2,data:=.seq items2 n2,slots:=sl2 }/\
   R (.ok (.ret (.bool (cF ns ms)))) s):=
 .of_wp fun prog w A R s h=>by
  obtain⟨hp,g,d,tk,os⟩:=s;obtain⟨hl,hb,h⟩:=h
  have f2:=AutoSeq1.sub_tuple_tuple
  have z1:items.size=ns.length:=by rw[<-hi.length];simp
  have z2:items2.size=ms.length:=by rw[<-hj.length];simp
  wp_walk using BI hl,BI hb,wpAny_forIn_list _ (fun rest b s'=>b.1=none/\s'=⟨hp,g,d,tk,os⟩/\∃(vs ws:List A1) (ns' ms':List Int),rest=vs.zip ws/\
   By vs ns'/\By ws ms'/\ns'.length+items2.size=ms'.length+items.size/\R (.ok (.ret (.bool (cF ns' ms')))) ⟨hp,g,d,tk,os⟩) _
  case turn=>
   rintro⟨y,x⟩ rest b s' ⟨hb',rfl,vs,ws,ns',ms',hz,hvi,hwi,hlen,hR⟩
   cases hvi with
   |nil=>rw[List.zip_nil_left]at hz;cases hz
   |cons a t hvi'=>
    cases hwi with
    |nil=>rw[List.zip_nil_right]at hz;cases hz
    |cons c u hwi'=>
     rw[C9]at hz
     injection hz with hyx hrest
     injection hyx with hy hx
     subst hy hx
     rw[l9]at hR
     simp only[AS]at hlen
     obtain⟨e,he,hiff⟩:=iz A.in1 ⟨hp,g,d,tk,os⟩ a t c u
     refine cc (he prog w _ _ ?_)
     cases e with
     |true=>
      rw[if_pos (hiff.mp rfl)]at hR
      wp_walk
      exact⟨rfl,rfl,_,_,_,_,hrest,hvi',hwi',by omega,hR⟩
     |false=>
      rw[if_neg (fun q=>absurd (hiff.mpr q) AD)]at hR
      have hri:=se A.in1 ⟨hp,g,d,tk,os⟩ a t c u prog w
      wp_walk using hri
      exact⟨_,rfl,by simpa using hR⟩
  case fin=>
   rintro⟨b1,b2⟩ s' ⟨hb',rfl,vs,ws,ns',ms',hz,hvi,hwi,hlen,hR⟩
   simp only at hb'
   subst hb'
   have hv:cF ns' ms'=decide (items.size≥items2.size):=by
    cases hvi with
    |nil=>
     cases hwi with
     |nil=>
      simp only[BJ]at hlen
      rw[iM]
      exact(decide_eq_true (by omega)).symm
     |cons c u hw=>
      simp only[BJ,AS]at hlen
      rw[gW]
      exact(decide_eq_false (by omega)).symm
    |cons a t hv=>
     cases hwi with
     |nil=>
      simp only[BJ,AS]at hlen
      rw[ik]
      exact(decide_eq_true (by omega)).symm
     |cons c u hw=>
      rw[C9]at hz
      cases hz
   rw[hv]at hR
   wp_walk
   exact⟨_,rfl,by simpa[Builtin.Tuple.tupleCompareSizes]using hR⟩
  case h=>
   exact⟨rfl,rfl,items.toList,items2.toList,ns,ms,rfl,hi,hj,by omega,h⟩
end
section
variable{prog:Au}{w:AU}{A:AQ}{E:A1->A2->Prop}{s:A2}
theorem mI{l b:Addr}{items items2:Array A1}{ns ms:List Int}{Q:A1->A2->Prop}(hl:IsTup s.heap l items)(hb:IsTup s.heap b items2)(hi:By items.toList ns)(hj:By items2.toList ms) (hu:A.units<Bp) (h:Q (.bool (cF ns ms)) s):A9 (Ay prog w) A (AX .GtE (.ref l) (.ref b)) Q E s:=by obtain⟨⟨cls,dd,data,sl⟩,ho,hc,n,hd⟩:=id hl;obtain⟨⟨cls2,dd2,data2,sl2⟩,ho2,hc2,n2,hd2⟩:=id hb;simp only at hc hd hc2 hd2;subst hc hd hc2 hd2;exact richCompare_meets_room (op:=.GtE) ⟨_,ho,rfl⟩ ⟨_,ho2,rfl⟩ PySem.F.slot_tuple_ge PySem.F.entry_tuple_ge (PySem.F.args_tuple_ge_2 _ _) (iK l b items items2 n n2 dd dd2 sl sl2 ns ms hi hj) ⟨ho,ho2,show Value.bool (cF ns ms)≠Value.notImplemented/\Q (.bool (cF ns ms)) s from⟨(fun x=>nomatch x),h⟩⟩ hu
end
end HT
namespace SD
open PySem PySem.Spec PyProof.Rows L2
section
variable{X:Cx}
theorem wF(hu:X.A.units<Bp):OpR X (AX .GtE) (fun x y H Q=>∃a b ns ms,x=.ref a/\y=.ref b/\SqT X.K H a (ns.map V.int)/\SqT X.K H b (ms.map V.int)/\Q (.bl (HT.cF ns ms)) H):=by intro pins s σ H x y v u Q I rx ry h;obtain⟨a,b,ns,ms,rfl,rfl,ha,hb,q⟩:=h;cases rx;cases ry;obtain⟨its,r1,p1,_⟩:=I.tuple ha;obtain⟨its2,r2,p2,_⟩:=I.tuple hb;exact HT.mI p1 p2 (intsAre_of r1) (intsAre_of r2) hu ⟨.bl (HT.cF ns ms),H,I,rfl,q⟩
theorem xU(hu:X.A.units+64<Bp):OpD X (AX .GtE) (lh (fun i j=>decide (j<=i)) HT.cF):=qd yP (wF (by omega))
def yB(g:Bool->Bool):R2D:=fun x y M Q=>∃p ps,Pd M x p/\(Pd M y (.list ps)\/Pd M y (.tuple ps))/\C2 p=true/\PyData.canLayAll0 ps=true/\Q (.bl (g (ps.any fun q=>Bi q p))) M
theorem mB{p:Cr}{n:Nat}(h:C2 p=true):min n p.depth<=63+1:=B8 (Nat.min_le_right _ _) (SeqAt.depth_of_shaped h)
theorem qY(hu:X.A.units+66<Bp):OpD X (AX .In) (yB fun b=>b):=by
 intro pins s σ H v u v' u' Q I rv ru h;obtain⟨x,y,M,R,r1,r2,a,⟨p,ps,p1,p2,s1,s2,hq⟩,fin⟩:=h;obtain⟨as,q1⟩:=bZ I a p1 r1 rv;have hm:=mB (n:=PyData.depthAll ps) s1;rcases p2 with p2|p2
 ·obtain⟨bs,q2⟩:=bZ I a p2 r2 ru;exact SeqAt.in_list_reads q2 q1 s2 (SeqAt.canLay_of_shaped s1) (by omega) ⟨.bl _,H,I,rfl,fin _ _ _ _ .refl (by rw[Rep]) a hq⟩
 ·obtain⟨bs,q2⟩:=bZ I a p2 r2 ru;exact SeqAt.in_tuple_reads q2 q1 s2 (SeqAt.canLay_of_shaped s1) (by omega) ⟨.bl _,H,I,rfl,fin _ _ _ _ .refl (by rw[Rep]) a hq⟩
def ze(to:TD)(t:TAD):TD:=fun δ M Q=>to δ M fun x M1=>∃l ys,x=.ref l/\M1 l=some (.lst ys)/\t δ M1 fun ds M2=>∃xs d,ds=[d]/\M2 l=some (.lst xs)/\xs.length<1000000/\Q .non (aA M2 l (.lst (xs++[d])))
variable{o e:Expr}{to:TD}{t:TAD}{apos cpos:Pos}
theorem du(ho:DE X o to)(ha:DA X [e] t)
 (hbase:attributeBase o "append" X.env (eval o X.env)=eval o X.env:=by rfl)
 (hfew:((Cy cpos (AF [e] X.env)).all (fun x=>!x.1)&&(backToKw cpos (keywordEach [] X.env)).all (fun x=>x.1.isSome)
  && decide ([e].length+([]:List Keyword).length+(if([]:List Keyword).isEmpty then 0 else 1)<30))=true:=by rfl)
 (hline:(apos.endLine==cpos.line)=true:=by rfl) (hs:AF [e] X.env=(false,eval e X.env)::AF [] X.env:=by rfl) (hplain:(Cy cpos (AF [] X.env)).any (·.1)=false:=by rfl) :
 DE X (.Call (.Attribute o "append" apos) [e] [] cpos) (ze to t):=
 aT (vt PySem.F.plainAttrs_list PySem.F.slot_list_append PySem.F.type_list_append jv ho ha hbase hfew hline hs hplain) fun σ H Q z9=>by
  obtain⟨δ,M,R,hsl,hM,q,fin⟩:=z9
  refine⟨δ,M,_,hsl,hM,q,fun x M1 v H1 g1 r1 a1 zz1_0=>?_⟩
  obtain⟨l,ys,ex,hl,q1⟩:=zz1_0
  subst ex
  rw[Rep]at r1
  subst r1
  obtain⟨vs,hvs,_⟩:=a1 _ _ hl
  refine⟨.inl ⟨rfl,vs,SqL.of hvs⟩,δ,M1,_,hsl.mono g1,a1,q1,fun ds M2 us H2 g2 r2 a2 zz2_0=>?_⟩
  obtain⟨xs,d,ed,hx,hn,q2⟩:=zz2_0
  subst ed
  obtain⟨u,rfl,ru⟩:=bz r2
  obtain⟨ws,hws,rws⟩:=a2 _ _ hx
  have hlen:=rws.length
  refine⟨l,ws,u,rfl,rfl,hws,Aw (by omega) (show 1000000<=AI from nbL rfl),?_⟩
  exact fin _ _ _ _ (g1.trans (g2.trans (.lst hws))) (by rw[Rep]) (a2.tJ hws (rws.append (.cons ru .nil))) q2
end
theorem iN{k:Nat}{A:AQ}(r:Room k A):A.units+66<Bp:=by have:=r.un;omega
abbrev Wl:=Int×Int×Int×Int
def la(x y:Int):Int:=100*x+y
def l1(w:Wl):Int:=la w.1 w.2.1
def l2(w:Wl):Int:=la w.2.2.1 w.2.2.2
structure Un5(w:Wl):Prop where
 a:0<=w.1/\w.1<=20
 b:0<=w.2.1/\w.2.1<=20
 c:0<=w.2.2.1/\w.2.2.1<=20
 d:0<=w.2.2.2/\w.2.2.2<=20
 lt:l1 w<l2 w
theorem u5{a b c d:Int}(hb:0<=b/\b<=20)(hd:0<=d/\d<=20):HT.lexLt [a,b] [c,d]=decide (la a b<la c d):=by have h:=Ma.bS (a:=a) (b:=b) (c:=c) (d:=d);rw[Bool.eq_iff_iff,h,decide_eq_true_eq];unfold la;omega
theorem yw{a b c d:Int}(hb:0<=b/\b<=20)(hd:0<=d/\d<=20):HT.aX [a,b] [c,d]=decide (la c d<la a b):=by rw[Ma.fR,u5 hd hb]
theorem yI{x y u v:Int}(h1:0<=y/\y<=20)(h2:0<=v/\v<=20):(x=u/\y=v)↔la x y=la u v:=by unfold la;omega
def uwP(w:Wl):Cr:=.tuple [.tuple [.int w.1,.int w.2.1],.tuple [.int w.2.2.1,.int w.2.2.2]]
theorem mE{M:MH}:∀ws:List Wl,Pds M (ws.map uw) (ws.map uwP)
 |[]=>.nil
 |w::ws=>.cons (Pd.of rfl) (mE ws)
theorem rV:∀ws:List Wl,PyData.canLayAll0 (ws.map uwP)=true
 |[]=>rfl
 |w::ws=>by rw[Av,PyData.canLayAll0,rV ws];rfl
theorem qE:∀ws:List Wl,PyData.depthAll (ws.map uwP)<=10
 |[]=>nbL rfl
 |w::ws=>by
  rw[Av,PyData.depthAll]
  exact Nat.max_le.mpr ⟨nbL rfl,qE ws⟩
theorem iX(ws:List Wl):C2 (.list (ws.map uwP))=true:=by unfold C2;have h1:=rV ws;have h2:=qE ws;rw[Bv];refine⟨by rw[PyData.canLay0];exact h1,decide_eq_true ?_⟩;rw[PyData.depth];omega
theorem gG:∀ws:List Wl,Bi (.list (ws.map uwP)) (.list [])=ws.isEmpty
 |[]=>by simp[Bi,Cn]
 |w::ws=>by simp[Bi,Cn]
theorem qw{w:Wl}(h:Un5 w){v:Int}(h0:0<=v)(h1:v<2):∃x y,atI [D.tup [.int w.1,.int w.2.1],.tup [.int w.2.2.1,.int w.2.2.2]] v=some (.tup [.int x,.int y])/\(0<=x/\x<=20)/\(0<=y/\y<=20):=by
 rcases(show v=0\/v=1 by omega)with rfl|rfl
 ·exact⟨_,_,rfl,h.a,h.b⟩
 ·exact⟨_,_,rfl,h.c,h.d⟩
theorem nA{ws:List Wl}{v:Int}(h0:0<=v)(h1:v<ws.length):∃w,w∈ws/\atI (ws.map uw) v=some (uw w):=by
 obtain⟨j,rfl⟩:∃j:Nat,v=(j:Int):=⟨v.toNat,by omega⟩;have hj:j<ws.length:=by omega
 exact⟨ws[j],List.getElem_mem hj,jW (by simp[hj])⟩
theorem pD{p q e f:Int}(hp:0<=p/\p<=20)(hq:0<=q/\q<=20)(he:0<=e/\e<=20)(hf:0<=f/\f<=20)(ne:¬(p=e/\q=f)) :
 ∃w:Wl,(if HT.lexLt [e,f] [p,q]=true then[e,f]else[p,q])=[w.1,w.2.1]/\(if HT.aX [e,f] [p,q]=true then[e,f]else[p,q])=[w.2.2.1,w.2.2.2]/\Un5 w:=by
 rw[u5 hf hq,yw hf hq]
 have nl:la p q≠la e f:=fun z=>ne ((yI hq hf).mpr z)
 by_cases h:la e f<la p q
 ·exact⟨(e,f,p,q),by rw[if_pos (decide_eq_true h)],by rw[if_neg (by simp;omega)],⟨he,hf,hp,hq,h⟩⟩
 ·have h':la p q<la e f:=by omega
  exact⟨(p,q,e,f),by rw[if_neg (by simpa using h)],by rw[if_pos (decide_eq_true h')],⟨hp,hq,he,hf,h'⟩⟩
section
variable{X:Cx}
def fP{α:Type}(xs:List α)(j:Nat)(y:α):List α:=xs.take j++y::xs.drop j
def tY:V->List V->Hp->VK->Prop:=fun x vs H Q=>∃l xs y,∃(k:Int) (j:Nat),x=.ref l/\vs=[.int k,y]/\k=(j:Int)/\H l=some (.lst xs)/\j<=xs.length/\xs.length<1000000/\Q .non (upd H l (.lst (fP xs j y)))
theorem uE(its:List A1)(k:Int)(j:Nat)(u:A1)(hk:k=(j:Int))(hj:j<=its.length) :
 (its.toArray.extract 0 (if k<0 then(k+((its.toArray.size:Nat):Int)).toNat else min k.toNat its.toArray.size)).push u++its.toArray.extract (if k<0 then(k+((its.toArray.size:Nat):Int)).toNat else min k.toNat its.toArray.size)=(fP its j u).toArray:=by
 have e:(if k<0 then(k+((its.toArray.size:Nat):Int)).toNat else min k.toNat its.toArray.size)=j:=by
  rw[if_neg (by omega),Ar];omega
 rw[e]
 apply Array.toList_inj.mp
 simp[fP]
 exact List.take_of_length_le (by simp)
theorem oF:MtM X "list.insert" tY:=by
 intro pins s σ H x vs v us Q I rx rv z0;obtain⟨l,xs,y,k,j,ex,ev,hk,hH,hj,hz,q⟩:=z0;subst ex ev;cases rx;obtain⟨u1,u2,rfl,r1,r2⟩:=rv.two;obtain⟨t,rfl⟩:=r1;obtain⟨z,its,n,r,hl,e⟩:=I.lM hH;have fits:Builtin.List.listFitsIndex k=true:=by unfold Builtin.List.listFitsIndex;simp;omega
 have hsz:its.toArray.size<=AI:=by rw[Ar,<-hl];exact z
 refine call_meets PySem.F.slot_list_insert ⟨_,e,rfl⟩ PySem.F.entry_list_insert (PySem.F.args_list_insert_3 _ _ _) (PySem.AutoSeq1.list_insert_list_int_val_1 l its.toArray n k t u2 (by rw[fits];decide) hsz) ⟨e,?_⟩;refine⟨.non,_,I.yT (its':=fP its j u2) hH e (uE its k j u2 hk (by omega)) ((Vals.take j r).append (.cons r2 (Vals.drop j r))) ?_,rfl,q⟩;show(xs.take j++y::xs.drop j).length<=AI;simp only[Bb,Bu,AS,List.length_drop];have:1000000<=AI:=nbL rfl;omega
def zg(to:TD)(t:TAD):TD:=fun δ M Q=>to δ M fun x M1=>∃l ys,x=.ref l/\M1 l=some (.lst ys)/\t δ M1 fun ds M2=>∃xs d,∃j:Nat,ds=[.int (j:Int),d]/\M2 l=some (.lst xs)/\j<=xs.length/\xs.length<1000000/\Q .non (aA M2 l (.lst (fP xs j d)))
variable{o e1 e2:Expr}{to:TD}{t:TAD}{apos cpos:Pos}
theorem kM(ho:DE X o to)(ha:DA X [e1,e2] t)
 (hbase:attributeBase o "insert" X.env (eval o X.env)=eval o X.env:=by rfl)
 (hfew:((Cy cpos (AF [e1,e2] X.env)).all (fun x=>!x.1)&&(backToKw cpos (keywordEach [] X.env)).all (fun x=>x.1.isSome)
  && decide ([e1,e2].length+([]:List Keyword).length+(if([]:List Keyword).isEmpty then 0 else 1)<30))=true:=by rfl)
 (hline:(apos.endLine==cpos.line)=true:=by rfl) (hs:AF [e1,e2] X.env=(false,eval e1 X.env)::AF [e2] X.env:=by rfl) (hplain:(Cy cpos (AF [e2] X.env)).any (·.1)=false:=by rfl) :
 DE X (.Call (.Attribute o "insert" apos) [e1,e2] [] cpos) (zg to t):=
 aT (vt PySem.F.plainAttrs_list PySem.F.slot_list_insert PySem.F.type_list_insert oF ho ha hbase hfew hline hs hplain) fun σ H Q z9=>by
  obtain⟨δ,M,R,hsl,hM,q,fin⟩:=z9
  refine⟨δ,M,_,hsl,hM,q,fun x M1 v H1 g1 r1 a1 zz1_0=>?_⟩
  obtain⟨l,ys,ex,hl,q1⟩:=zz1_0
  subst ex
  rw[Rep]at r1
  subst r1
  obtain⟨vs,hvs,_⟩:=a1 _ _ hl
  refine⟨.inl ⟨rfl,vs,SqL.of hvs⟩,δ,M1,_,hsl.mono g1,a1,q1,fun ds M2 us H2 g2 r2 a2 zz2_0=>?_⟩
  obtain⟨xs,d,j,ed,hx,hj,hn,q2⟩:=zz2_0
  subst ed
  obtain⟨u1,u2,rfl,ru1,ru2⟩:=dr r2
  rw[Rep]at ru1
  subst ru1
  obtain⟨ws,hws,rws⟩:=a2 _ _ hx
  have hlen:=rws.length
  exact⟨l,ws,u2,_,j,rfl,rfl,rfl,hws,by omega,by omega,fin _ _ _ _ (g1.trans (g2.trans (.lst hws))) (by rw[Rep]) (a2.tJ hws ((rws.take j).append (.cons ru2 (rws.drop j)))) q2⟩
def rn:RC:=fun ds M Q=>match ds with
 |[.ref l]=>∃xs,M l=some (.lst xs)/\∀p,M p=none->Q (.ref p) (aA M p (.lst xs))
 |[.tup xs]=>∀p,M p=none->Q (.ref p) (aA M p (.lst xs))
 |_=>False
theorem tF:cL X (.type "list") rn:=bP jZ fun vs H Q z9=>by
 obtain⟨ds,M,R,rs,a,q,fin⟩:=z9;unfold rn at q;split at q
 ·obtain⟨ys,e,q⟩:=q;obtain⟨v,rfl,r⟩:=bz rs;rw[Rep]at r;subst r;obtain⟨xs,hx,rx⟩:=a _ _ e;exact⟨_,xs,rfl,.inl (SqL.of hx),fun z hz=>fin _ _ _ _ (.new hz) (by rw[Rep]) (a.bF hz rx) (q z (a.fresh hz))⟩
 ·obtain⟨v,rfl,r⟩:=bz rs;rw[Rep]at r;obtain⟨p,xs,rfl,hx,rx⟩:=r;exact⟨_,xs,rfl,.inr hx,fun z hz=>fin _ _ _ _ (.new hz) (by rw[Rep]) (a.bF hz rx) (q z (a.fresh hz))⟩
 ·exact q.elim
end
section
variable{X:Cx}{pins:List (Addr×Obj)}{σ:L2.St}{H:Hp}{s:A2}
theorem mC{h':Heap}{t':Nat}{e it:Addr}(I:Inv X pins σ H s)(k:∀b o,b≠e->b≠it->s.heap.get? b=some o->h'.get? b=some o)(fe:ck X pins H e)(fi:ck X pins H it):Inv X pins σ H { s with heap:=h',toks:=t' }:=by
 obtain⟨e0,e1,_,e3,e4,e5⟩:=fe;obtain⟨i0,i1,_,i3,i4,i5⟩:=fi;have ne:∀b u,H b=some u->b≠e/\b≠it:=fun b u q=>⟨fun z=>(by rw[z,e0]at q;cases q),fun z=>(by rw[z,i0]at q;cases q)⟩;have nc:∀{b:Addr},b∉[e,it]->b≠e/\b≠it:=fun{b} hc=>⟨fun z=>hc (by simp[z]),fun z=>hc (by simp[z])⟩;refine I.step (g':=s.gens) (d':=s.drawn) (ch:=[e,it]) (fun b hb=>?_) (fun b o _ _ hc q _=>k b o (nc hc).1 (nc hc).2 q) (fun b o _ _ hc q _=>⟨o.slots,k b o (nc hc).1 (nc hc).2 q⟩) (fun _ _ _ _ n=>n) (fun b o hc q=>⟨o,k b o (nc hc).1 (nc hc).2 q⟩) (fun _ _ q=>q) (fun _ _ _ q=>q) (fun b ps q=>⟨#[],by rw[q];simp⟩) (fun m hm=>?_) (fun b u q=>?_) I.bare
 ·rcases(show b=e\/b=it by simpa using hb)with rfl|rfl
  ·exact⟨e3,e1,e4,e5⟩
  ·exact⟨i3,i1,i4,i5⟩
 ·obtain⟨o,es,ep,ho,r⟩:=hm;exact⟨o,es,ep,k _ o (Ne.symm e1) (Ne.symm i1) ho,r⟩
 ·refine(I.hok b u q).dt (fun c v hc z=>?_) (fun _ z=>z) fun _ _ z=>z;rcases hc with y|y
  ·subst y;exact k _ v (ne _ u q).1 (ne _ u q).2 z
  ·exact k c v (ne c _ y).1 (ne c _ y).2 z
end
def Ite(K:A0)(a:Addr):It:=
 ⟨fun i H=>∃xs x,SqL K H a xs/\xs[i]?=some x,fun i H x H'=>∃T y,x=.ref T/\H T=none/\H'=upd H T (.tup [.int (i:Int),y])/\∀xs,SqL K H a xs->xs[i]?=some y,fun i H=>∃xs,SqL K H a xs/\xs.length<=i⟩
theorem oE{P:Au}{w:AU}{K:A0}{elts:List Expr}{kt}{pt:Pos}(a e it:Addr)(hei:e≠it):Turn P w K (.Tuple elts kt pt) (Ite K a) [e,it] e (fun i h=>(∃old,IsEnum h e it (i:Int) old)/\h.IsListIter it a i) where
 mem:=by simp
 obj:=fun i h st b hb=>by
  rcases(show b=e\/b=it by simpa using hb)with rfl|rfl
  ·obtain⟨⟨old,q⟩,_⟩:=st
   exact⟨_,q,fun v z=>by
    have z':Data.fields _=Data.cell v:=z
    cases z'⟩
  ·obtain⟨o,q,c,d⟩:=st.2
   exact⟨o,q,fun v z=>by rw[d]at z;cases z⟩
 keep:=fun i h h' st k=>by
  obtain⟨⟨old,q⟩,st⟩:=st
  exact⟨⟨old,k e (by simp) _ q⟩,st.at fun o z=>k it (by simp) o z⟩
 item:=by
  intro X hP hw hK hc i pins s σ H E I hf st hg
  subst hP hw hK
  obtain⟨xs,x,hq,hx⟩:=hg
  obtain⟨its,rv,p,hz⟩:=I.list hq
  obtain⟨u,hu,ru⟩:=rv.get hx
  obtain⟨⟨old,he⟩,hit⟩:=st
  have le:e<s.heap.objs.size:=A8 he
  have li:it<s.heap.objs.size:=by obtain⟨o,q,_⟩:=hit;exact A8 q
  refine wpAny_pyNext_enum_item he hit p.isList (x:=u) (by simpa using hu) hei fun h1 ho hit1 hT hsz hk=>⟨_,rfl,wpAny_letOwnedTupleGo_enum (s:={ s with heap:=h1,toks:=s.toks+1 }) ho fun h2 he2 hs2=>?_⟩
  have hs2:Cw e h1 h2:=hs2
  have fr:=I.fresh
  have I1:Inv X pins σ (upd H s.heap.objs.size (.tup [.int (i:Int),x])) { s with heap:=s.heap.push { cls:=.type "tuple",data:=.seq #[.int (i:Int) s.toks,u] },toks:=s.toks }:=
   I.laid (fun b v q=>A3 _ q) (A7 _) ⟨nbL rfl,[.int (i:Int) s.toks,u],.cons ⟨_,rfl⟩ (.cons ru .nil),⟨_,Aq _ rfl,rfl,_,rfl⟩⟩
  have fk:∀{b:Addr},b<s.heap.objs.size->ck X pins H b->ck X pins (upd H s.heap.objs.size (.tup [.int (i:Int),x])) b:=fun{b} lt f=>⟨by rw[aF (AJ lt)];exact f.1,f.2⟩
  have fe:=fk le (hf e (by simp))
  have fi:=fk li (hf it (by simp))
  have I2:Inv X pins σ (upd H s.heap.objs.size (.tup [.int (i:Int),x])) { s with heap:=h2,toks:=s.toks+1 }:=by
   refine mC (s:={ s with heap:=s.heap.push { cls:=.type "tuple",data:=.seq #[.int (i:Int) s.toks,u] },toks:=s.toks }) I1 (fun b o ne ni q=>?_) fe fi
   have q:(s.heap.push { cls:=.type "tuple",data:=.seq #[.int (i:Int) s.toks,u] }).get? b=some o:=q
   refine(hs2.2 b ne).trans ?_
   rcases Heap.get?_push_cases q with⟨rfl,rfl⟩|q
   ·exact hT
   ·exact hk b o ne ni q
  refine⟨.ref s.heap.objs.size,_,I2,rfl,⟨_,x,rfl,fr,rfl,fun ys hy=>by rw[I.eW hy hq];exact hx⟩,⟨⟨u,?_⟩,hit1.at fun o z=>(hs2.2 it hei.symm).trans z⟩,fun b hb=>?_⟩
  ·have:(((i+1:Nat):Int))=(i:Int)+1:=by omega
   rw[this];exact he2
  ·rcases(show b=e\/b=it by simpa using hb)with rfl|rfl
   ·exact fe.1
   ·exact fi.1
 done:=by
  intro X hP hw hK hc i pins s σ H E I hf st hg
  subst hP hw hK
  obtain⟨xs,hq,hx⟩:=hg
  obtain⟨its,rv,p,hz⟩:=I.list hq
  obtain⟨⟨old,he⟩,hit⟩:=st
  obtain⟨f0,f1,f2,f3,f4,f5⟩:=hf it (by simp)
  have hl:=rv.length
  exact wpAny_pyNext_enum_end (I.ok.hd hc) he hit p.isList (by simp;omega) fun h' eb=>⟨rfl,I.turned (t':=s.toks) (fun b o hb q=>eb b o hb q) f0 f1 f3 f4 f5⟩
 self:=fun _ _ _ _ _ st h=>let⟨⟨_,he⟩,_⟩:=st;wpAny_pyIter_enum he h
theorem jT:Be "enumerate"=some (.type "enumerate"):=by decide +kernel
section
variable{X:Cx}{elts:List Expr}{kt:Nat}{pt:Pos}
def za(K:A0)(ta:TA):TI:=fun σ H R=>ta σ H fun vs H1=>∃a xs,vs=[.ref a]/\H1 a=some (.lst xs)/\R (Ite K a) H1
theorem sS{a:Expr}{ta:TA}{p pos:Pos}(hg:Gl X "enumerate")(hm:X.mg "enumerate"=none)(ha:PA X [a] ta)(hs:AF [a] X.env=[(false,eval a X.env)]:=by rfl):PI X (.Tuple elts kt pt) (.Call (.Name "enumerate" p) [a] [] pos) (za X.K ta):=by
 intro pins s σ H R I h;refine Call_ (fN I hg hm jT (C1 (thn (ha pos pins s σ H _ I h) fun us s1 zz1_0=>?_) hs rfl));obtain⟨vs,H1,I1,r1,q1⟩:=zz1_0;obtain⟨l,xs,ev,hH,q⟩:=q1;subst ev;obtain⟨u,rfl,ru⟩:=r1.one;cases ru;obtain⟨z,its,n,r,hl,e⟩:=I1.lM hH;refine call_enumerate_1 e fun h' he hit hsz hk=>wpAny_pyIter_enum he ?_
 have fp:∀b∈[s1.heap.objs.size+1,s1.heap.objs.size],ck X pins H1 b:=fun b hb=>by
  have hb':s1.heap.objs.size<=b:=by
   rcases(show b=s1.heap.objs.size+1\/b=s1.heap.objs.size by simpa using hb)with rfl|rfl
   ·exact Nat.le_succ _
   ·exact A7 _
  exact I1.oU hb' (I1.hok.fresh hb')
 exact⟨_,[s1.heap.objs.size+1,s1.heap.objs.size],_,_,H1,rfl,I1.kept (t':=s1.toks) hk,oE l _ _ (Nat.succ_ne_self _),⟨⟨_,he⟩,hit⟩,fp,q⟩
def zC(ta:TAD):TID:=fun δ M R=>ta δ M fun ds M1=>∃l es,ds=[.ref l]/\M1 l=some (.lst es)/\R ⟨es.length,fun i=>(es[i]?).map fun d=>.tup [.int (i:Int),d],fun M=>M l=some (.lst es)⟩ M1
theorem jI{a:Expr}{ta:TAD}{p pos:Pos}(hg:Gl X "enumerate")(hm:X.mg "enumerate"=none)(ha:DA X [a] ta)(hs:AF [a] X.env=[(false,eval a X.env)]:=by rfl):DI X (.Tuple elts kt pt) (.Call (.Name "enumerate" p) [a] [] pos) (zC ta):=
 jX (sS hg hm ha hs) fun σ H R ⟨δ,M,RD,hs,hM,q,fin⟩=>⟨δ,M,_,hs,hM,q,fun ds M1 vs H1 g1 r1 a1 z9=>by
  obtain⟨l,es,e,hl,q1⟩:=z9
  subst e
  obtain⟨v,rfl,r⟩:=bz r1
  rw[Rep]at r;subst r
  obtain⟨xs,hx,rs⟩:=a1 _ _ hl
  refine⟨l,xs,rfl,hx,fin _ M1 H1 _ g1 a1 q1 ⟨fun H2 M2 g2 a2 c2=>?_,fun i H2 M2 hi g2 a2 c2=>?_,?_⟩⟩
  ·obtain⟨ys,hy,ry⟩:=a2 _ _ (show M2 l=some (.lst es)from c2)
   exact⟨ys,SqL.of hy,by rw[<-ry.length];exact A7 _⟩
  ·obtain⟨ys,hy,ry⟩:=a2 _ _ (show M2 l=some (.lst es)from c2)
   have hi':i<ys.length:=by rw[<-ry.length];exact hi
   exact⟨ys,ys[i],SqL.of hy,by simp[hi']⟩
  ·rintro i H2 M2 v H3 hi g2 a2 c2 ⟨T,y,rfl,hT,rfl,hy⟩
   have hi:i<es.length:=hi
   obtain⟨ys,hys,ry⟩:=a2 _ _ (show M2 l=some (.lst es)from c2)
   obtain⟨x,e1,e2⟩:=ry.get (show es[i]?=some es[i] by simp[hi])
   have:=hy ys (SqL.of hys)
   rw[e1]at this;cases this
   exact⟨.new hT,a2.new hT,.tup [.int (i:Int),es[i]],by simp[hi],by rw[Rep];exact⟨T,_,rfl,SqT.of aD,.cons (by rw[Rep]) (.cons (e2.mono (.new hT)) .nil)⟩⟩⟩
end
section
variable{X:Cx}
theorem ku{x:Str}{i:Int}{pos:Pos}(hg:Gl X x)(hm:∃t,X.mg x=some (.int i t))(hd:(x==("__debug__":Str))=false:=by decide):DE X (.Name x pos) (tCD (.int i)):=by obtain⟨t,hm⟩:=hm;exact dc (ud (v:=.int i) hg hm ⟨t,rfl⟩ hd) fun _=>by rw[Rep]
theorem yU{K:A0}{mg:Str->Option A1}{h:Heap}{x:Str}{i:Int}{t:Tok}(X:K.In h)(G:h.Ns Bm mg)(a:PySem.W.nsIn K Bm x=some (some (.int i t))):∃t,mg x=some (.int i t):=⟨t,PySem.W.mg_of X G a⟩
variable{o:Expr}{to:TD}{apos cpos:Pos}
end
open PySem PySem.Spec PyProof.Rows L2 Ma
def Ow(w:Wl):Prop:=w.1<w.2.2.1\/(w.1=w.2.2.1/\w.2.1<w.2.2.2)
def mtD(t b X Y:Int)(U V:Wl):D:=h9 (Ma.ut t b X 1 U.1) (Ma.ut t b Y 1 U.2.1) (Ma.ut t b X 1 U.2.2.1) (Ma.ut t b Y 1 U.2.2.2) (Ma.ut t b X 1 V.1) (Ma.ut t b Y 1 V.2.1) (Ma.ut t b X 1 V.2.2.1) (Ma.ut t b Y 1 V.2.2.2)
structure Bw(n:Int)(w:Wl):Prop where
 u:Uok n w
 o:Ow w
theorem Bw.mono{m n:Int}{w:Wl}(h:Bw m w)(l:m<=n):Bw n w:=⟨by have:=h.u;unfold Uok at *;omega,h.o⟩
theorem wy{w:Wl}(h:Un5 w):Bw 20 w:=by
 have a:=h.a;have b:=h.b;have c:=h.c;have d:=h.d;have l:=h.lt
 unfold l1 l2 la at l;exact⟨by unfold Uok;omega,by unfold Ow;omega⟩
open PySem PySem.W PySem.Spec PySem.Calls PyProof.Rows Builtin Builtin.ObjectAttr Builtin.Getset_descriptor
section
variable{P:Au}{w:AU}{K:A0}{mg:Str->Option A1}{base:Heap}{N:List Str}{qual:Str}{scope:BY}{f:Addr}{cd:A1}{A:AQ}{outer:List Env}{s:A2}{H:Hp}{E:XK}
end
abbrev SpK:=Int×Int×Int×Int
section
variable{P:Au}{w:AU}
def mN(P:Au)(w:AU)(h:Heap)(n d:Int)(a:Addr):Prop:=IsTupleKey (intKind P w) h [n,d] a
def cJ(P:Au)(w:AU)(h:Heap)(k:SpK)(a:Addr):Prop:=∃o b c m,h.get? a=some o/\o.cls=.type "tuple"/\o.data=.seq #[.ref b,.ref c] m/\mN P w h k.1 k.2.1 b/\mN P w h k.2.2.1 k.2.2.2 c
theorem cJ.inj{h:Heap}{a:Addr}{x y:SpK}(p:cJ P w h x a)(q:cJ P w h y a):x=y:=by
 obtain⟨o,b,c,m,h1,h2,h3,h4,h5⟩:=p;obtain⟨o',b',c',m',g1,g2,g3,g4,g5⟩:=q;rw[h1]at g1;cases g1;rw[h3]at g3;injection g3 with e _;have e1:b=b'/\c=c':=by simpa using e
 obtain⟨rfl,rfl⟩:=e1;have i1:=IsTupleKey.inj h4 g4;have i2:=IsTupleKey.inj h5 g5;obtain⟨x1,x2,x3,x4⟩:=x;obtain⟨y1,y2,y3,y4⟩:=y;simp at i1 i2;obtain⟨rfl,rfl⟩:=i1;obtain⟨rfl,rfl⟩:=i2;rfl
theorem cJ.keeps{h h':Heap}{k:SpK}{a d:Addr}{o:Obj}{es:Array Bk}{ep:Nat}(p:cJ P w h k a)(hd:h.get? d=some o)(he:o.data=.dict es ep)(sb:Cw d h h'):cJ P w h' k a:=by
 obtain⟨oa,b,c,m,h1,h2,h3,h4,h5⟩:=p;have ne:a≠d:=fun z=>by rw[z,hd]at h1;cases h1;rw[he]at h3;cases h3
 exact⟨oa,b,c,m,(sb.2 a ne).trans h1,h2,h3,IsTupleKey.keeps h4 hd he sb,IsTupleKey.keeps h5 hd he sb⟩
def j4(P:Au)(w:AU)(k:SpK):Int:=reduceHash (Builtin.Tuple.tupleHashOf [tupleKeyHash (intKind P w) [k.1,k.2.1],tupleKeyHash (intKind P w) [k.2.2.1,k.2.2.2]])
theorem cJ.hash{A:AQ}{E:A1->A2->Prop}{s:A2}{k:SpK}{a:Addr}{Q:Int->A2->Prop}(hu:A.units+4<Bp)(p:cJ P w s.heap k a)(q:Q (j4 P w k) { s with toks:=s.toks+7 }):A9 (Ay P w) A (pyHash (.ref a)) Q E s:=by
 obtain⟨o,b,c,m,h1,h2,h3,h4,h5⟩:=p;obtain⟨hp,g,d,tk,os⟩:=s;show A9 _ _ (pyHashByItsType (.ref a)) _ _ _;refine PySem.W.pyHash_slot (T:="tuple") ⟨o,h1,h2⟩ F.slot_tuple_hash F.entry_tuple_hash (F.args_tuple_hash_1 _) rfl (.inr (by omega)) ?_;unfold CA.«tuple.__hash__»;simp only[<-BC]
 iterate 4 wp_step
 refine A5 ?_;refine cc (wpAny_tupleItemsOf h1 h3 ?_);refine cc ?_;simp only[Cc,Cs,C6,bind_assoc];refine cc (wpAny_pyHash_tuple (knd:=intKind P w) (by show A.units+1<Bp;omega) h4 ?_);refine cc (wpAny_pyHash_tuple (knd:=intKind P w) (by show A.units+1<Bp;omega) h5 ?_);refine A5 ?_;unfold retInt
 wp_walk
 exact⟨_,_,rfl,q⟩
theorem fh{n:Int}{v:A1}(h:(intKind P w).is n v=true):∃t,v=.int n t:=by
 have h:Value.isInt n v=true:=h;cases v with
 |int i t=>
  have:(i==n)=true:=h
  exact⟨t,by rw[eq_of_beq this]⟩
 |_=>cases h
def sN(n d:Int):Cr:=.tuple [.int n,.int d]
def gm(k:SpK):Cr:=.tuple [sN k.1 k.2.1,sN k.2.2.1 k.2.2.2]
theorem mN.reads{h:Heap}{n d:Int}{a:Addr}(p:mN P w h n d a):∃as,Reads h (.ref a) (sN n d) as:=by
 obtain⟨o,items,m,h1,h2,h3,h4⟩:=p;generalize hl:items.toList=l at h4;cases h4 with
 |cons hx r=>
  cases r with
  |cons hy r=>
   cases r
   obtain⟨t1,rfl⟩:=fh hx
   obtain⟨t2,rfl⟩:=fh hy
   exact⟨_,.tuple h1 h2 h3 (by rw[hl];exact .cons (.int _ _) (.cons (.int _ _) .nil))⟩
theorem cJ.reads{h:Heap}{k:SpK}{a:Addr}(p:cJ P w h k a):∃as,Reads h (.ref a) (gm k) as:=by obtain⟨o,b,c,m,h1,h2,h3,h4,h5⟩:=p;obtain⟨as,r1⟩:=h4.reads;obtain⟨bs,r2⟩:=h5.reads;exact⟨_,.tuple h1 h2 h3 (.cons r1 (.cons r2 .nil))⟩
theorem gv(x y:SpK):(gm x).eqv (gm y)=decide (x=y):=by obtain⟨x1,x2,x3,x4⟩:=x;obtain⟨y1,y2,y3,y4⟩:=y;simp only[gm,sN,Bi,Cn,Bool.and_true];rw[Bool.eq_iff_iff];simp[and_assoc]
theorem cJ.eq{A:AQ}{E:A1->A2->Prop}{s:A2}{x y:SpK}{a b:Addr}{Q:Bool->A2->Prop}(hu:A.units+4<Bp)(p:cJ P w s.heap x a)(p':cJ P w s.heap y b)(q:Q (decide (x=y)) s):A9 (Ay P w) A (eqBool (.ref a) (.ref b)) Q E s:=by obtain⟨as,r1⟩:=p.reads;obtain⟨bs,r2⟩:=p'.reads;have hd:min (gm x).depth (gm y).depth<=3:=B8 (Nat.min_le_left _ _) (nbL rfl);have:=SeqAt.eqAt_reads (gm x) (gm y) A s (.ref a) (.ref b) as bs r1 r2 rfl rfl (by omega);rw[gv]at this;exact this P w E Q q
theorem mN.quiet{A:AQ}{E:A1->A2->Prop}{s:A2}{n d:Int}{a:Addr}{Q:Bool->A2->Prop}(i:Nat)(p:mN P w s.heap n d a)(q:Q true s):A9 (Ay P w) A (eqIsQuiet (i+1) (.ref a)) Q E s:=by
 obtain⟨o,items,m,h1,h2,h3,h4⟩:=p;rw[eqIsQuiet.eq_2];refine cc (wpAny_specialOf ⟨o,h1,h2⟩ F.slot_tuple_eq.lookup ?_);refine cc (wpAny_isInstance ⟨o,h1,h2⟩ isSubtype_tuple_tuple ?_);simp only[BE,AM,if_false];refine cc (BG h1 h3 ?_);simp only[Option.getD_some,<-BC];generalize hl:items.toList=l at h4;cases h4 with
 |cons hx r=>
  cases r with
  |cons hy r=>
   cases r
   obtain⟨t1,rfl⟩:=fh hx
   obtain⟨t2,rfl⟩:=fh hy
   refine cc ?_
   simp only[Cc,Cs,C6,bind_assoc,eqIsQuiet_byValue i (show carriedByValue (.int n t1)=true from rfl),eqIsQuiet_byValue i (show carriedByValue (.int d t2)=true from rfl),BE,AM,if_false]
   refine A5 ?_
   exact A5 q
theorem cJ.quiet{A:AQ}{E:A1->A2->Prop}{s:A2}{k:SpK}{a:Addr}{Q:Bool->A2->Prop}(p:cJ P w s.heap k a)(q:Q true s):A9 (Ay P w) A (eqIsQuiet 8 (.ref a)) Q E s:=by obtain⟨o,b,c,m,h1,h2,h3,h4,h5⟩:=p;rw[eqIsQuiet.eq_2];refine cc (wpAny_specialOf ⟨o,h1,h2⟩ F.slot_tuple_eq.lookup ?_);refine cc (wpAny_isInstance ⟨o,h1,h2⟩ isSubtype_tuple_tuple ?_);simp only[BE,AM,if_false];refine cc (BG h1 h3 ?_);simp only[Option.getD_some,<-BC];refine cc ?_;simp only[Cc,Cs,C6,bind_assoc];refine cc (h4.quiet 6 ?_);simp only[BE,AM,if_false,C6];refine cc (h5.quiet 6 ?_);simp only[BE,AM,if_false,C6];refine A5 ?_;exact A5 q
def cW(P:Au)(w:AU):HeapKind P w SpK where
 is:=cJ P w
 hash:=j4 P w
 draws:=fun _=>7
 room:=fun A=>A.units+4<Bp
 inj:=fun p q=>p.inj q
 keeps:=fun p hd he sb=>p.keeps hd he sb
 pyHash:=fun hu p q=>p.hash hu q
 eqBool:=fun hu p p' q=>p.eq hu p' q
 quiet:=fun p q=>p.quiet q
end
section
variable{X:Cx}{pins:List (Addr×Obj)}{σ:L2.St}{H:Hp}{s:A2}{a b:Addr}{k:SpK}
def bX(K:A0)(H:Hp)(b:Addr)(k:SpK):Prop:=∃f g,SqT K H b [.ref f,.ref g]/\SqT K H f [.int k.1,.int k.2.1]/\SqT K H g [.int k.2.2.1,.int k.2.2.2]
theorem uZ{n d:Int}{f:Addr}(I:L2.Inv X pins σ H s)(h:SqT X.K H f [.int n,.int d]):mN X.prog X.w s.heap n d f:=by
 obtain⟨its,r,ht,_⟩:=I.tuple h;cases r with
 |cons a1 r=>cases r with
  |cons a2 r=>
   cases r
   obtain⟨t1,rfl⟩:=a1
   obtain⟨t2,rfl⟩:=a2
   obtain⟨o,h1,h2,m,h3⟩:=ht
   exact⟨o,_,m,h1,h2,h3,.cons (by show((n==n)=true);simp) (.cons (by show((d==d)=true);simp) .nil)⟩
theorem jb(I:L2.Inv X pins σ H s)(h:bX X.K H b k):cJ X.prog X.w s.heap k b:=by
 obtain⟨f,g,h1,h2,h3⟩:=h;obtain⟨its,r,ht,_⟩:=I.tuple h1;cases r with
 |cons a1 r=>cases r with
  |cons a2 r=>
   cases r
   cases a1
   cases a2
   obtain⟨o,q1,q2,m,q3⟩:=ht
   exact⟨o,f,g,m,q1,q2,q3,uZ I h2,uZ I h3⟩
abbrev SpE:=SpK×Addr×V
def bA(P:Au)(w:AU)(a:Addr)(xs:List SpE):Heap->Prop:=fun h=>(a==Cv)=false/\xs.length<=AI/\(xs.map (·.1)).Nodup/\∃ys:List (SpK×Addr×A1),
 Cz (fun(p:SpE) (q:SpK×Addr×A1)=>p.1=q.1/\p.2.1=q.2.1/\RelV p.2.2 q.2.2) xs ys/\∃o es ep,h.get? a=some o/\o.ExactDict/\o.data=.dict es ep/\es.toList=ys.map (entryOfKey (cW P w))
def d0(xs:List SpE)(k:SpK)(b:Addr)(v:V):List SpE:=if(xs.any fun x=>decide (x.1=k))=true then xs.map (fun x=>if x.1=k then(x.1,x.2.1,v)else x)else xs++[(k,b,v)]
abbrev PrS:=fun(p:SpE) (q:SpK×Addr×A1)=>p.1=q.1/\p.2.1=q.2.1/\RelV p.2.2 q.2.2
theorem gU{xs:List SpE}{ys:List (SpK×Addr×A1)}(r:Cz PrS xs ys):ys.map (·.1)=xs.map (·.1):=by
 induction r with
 |nil=>rfl
 |cons h t ih=>rw[Av,Av,ih,h.1]
theorem tZ{xs:List SpE}{ys:List (SpK×Addr×A1)}(r:Cz PrS xs ys)(k:SpK):(xs.any fun x=>decide (x.1=k))=(atKey ys k).isSome:=by
 induction r with
 |nil=>rfl
 |@cons p q ps qs h t ih=>
  rw[Cp]
  by_cases e:p.1=k
  ·have e':q.1=k:=h.1.symm.trans e;simp[atKey,B6,e,e']
  ·have e':¬q.1=k:=fun z=>e (h.1.trans z);rw[decide_eq_false e,Bool.false_or,ih];simp[atKey,B6,e']
theorem f7{xs:List SpE}{ys:List (SpK×Addr×A1)}(r:Cz PrS xs ys)(k:SpK)(b:Addr){v:V}{u:A1}(rv:RelV v u):Cz PrS (d0 xs k b v) (storedH ys k b u):=by
 unfold d0 storedH;rw[tZ r k];by_cases e:(atKey ys k).isSome=true
 ·rw[if_pos e,if_pos e];clear e
  induction r with
  |nil=>exact .nil
  |@cons p q ps qs h t ih=>
   rw[Av,Av]
   refine .cons ?_ ih
   unfold putAt
   by_cases e:p.1=k
   ·rw[if_pos e,if_pos (h.1.symm.trans e)];exact⟨h.1,h.2.1,rv⟩
   ·rw[if_neg e,if_neg (fun z=>e (h.1.trans z))];exact h
 ·rw[if_neg e,if_neg e];exact Paired.snoc r ⟨rfl,rfl,rv⟩
theorem j2{xs:List SpE}{ys:List (SpK×Addr×A1)}(r:Cz PrS xs ys):xs.length=ys.length:=by
 induction r with
 |nil=>rfl
 |cons h t ih=>rw[AS,AS,ih]
theorem t6{xs:List SpE}{ys:List (SpK×Addr×A1)}(r:Cz PrS xs ys){q:SpK×Addr×A1}(h:q∈ys):∃p∈xs,p.1=q.1/\p.2.1=q.2.1:=by
 induction r with
 |nil=>cases h
 |cons h' t ih=>
  rcases Ba.mp h with z|z
  ·subst z;exact⟨_,by simp,h'.1,h'.2.1⟩
  ·obtain⟨p,hp,e⟩:=ih z;exact⟨p,by simp[hp],e⟩
theorem kY(xs:List SpE)(k:SpK)(b:Addr)(v:V):(d0 xs k b v).length<=xs.length+1:=by
 unfold d0;split
 ·rw[A4];omega
 ·simp
theorem lZ{xs:List SpE}(I:L2.Inv X pins σ H s)(e:H a=some (.ext (bA X.prog X.w a xs)))(hk:∀x∈xs,bX X.K H x.2.1 x.1):(a==Cv)=false/\xs.length<=AI/\∃ys,Cz PrS xs ys/\s.heap.DictOfH (cW X.prog X.w) a ys:=by obtain⟨⟨h1,h2,h3,ys,r,o,es,ep,q1,q2,q3,q4⟩,_⟩:=I.hok a _ e;refine⟨h1,h2,ys,r,o,es,ep,q1,q2,q3,q4,fun x hx=>?_,by rw[gU r];exact h3⟩;obtain⟨p,hp,e1,e2⟩:=t6 r hx;rw[<-e1,<-e2];exact jb I (hk p hp)
theorem kd{P:Au}{w:AU}{xs:List SpE}(h1 h2:Heap)(h:bA P w a xs h1)(k:∀o,h1.get? a=some o->h2.get? a=some o):bA P w a xs h2:=by obtain⟨p1,p2,p3,ys,r,o,es,ep,q1,q⟩:=h;exact⟨p1,p2,p3,ys,r,o,es,ep,k o q1,q⟩
theorem tf{A:AQ}{E:A1->A2->Prop}{Q:Unit->A2->Prop}{xs:List SpE}{v:V}{u:A1}(hu:A.units+8<Bp)(I:L2.Inv X pins σ H s)(e:H a=some (.ext (bA X.prog X.w a xs)))(hk:∀x∈xs,bX X.K H x.2.1 x.1)(hb:bX X.K H b k)(rv:RelV v u)(hl:xs.length<AI)
 (h:∀s',L2.Inv X pins σ (upd H a (.ext (bA X.prog X.w a (d0 xs k b v)))) s'->Q () s'):A9 (Ay X.prog X.w) A (setItem (.ref a) (.ref b) u) Q E s:=by
 obtain⟨hd,hz,ys,r,dd⟩:=lZ I e hk
 refine wpAny_setItem_heap (knd:=cW X.prog X.w) (hsz:=by rw[<-j2 r];exact hz) (show A.in1.units+4<Bp by show A.units+1+4<Bp;omega) (jb I hb) dd fun h' dd' hs=>h _ ?_
 obtain⟨q,es,ep,hq,q2,q3,q4,_,q5⟩:=dd'
 refine jz I (by rw[e];exact True.intro) hs ⟨q,hq⟩ ⟨⟨hd,?_,?_,_,f7 r k b rv,q,es,ep,hq,q2,q3,q4⟩,⟨q,hq⟩,fun h1 h2 x y=>kd h1 h2 x y⟩
 ·have:=kY xs k b v;omega
 ·rw[<-gU (f7 r k b rv)];exact q5
theorem mZ(I:L2.Inv X pins σ H s):L2.Inv X pins σ (upd H s.heap.objs.size (.ext (bA X.prog X.w s.heap.objs.size []))) { s with heap:=s.heap.push { cls:=.type "dict",data:=.dict #[] } }:=
 I.laid (a:=s.heap.objs.size) (t':=s.toks) (fun _ _ q=>A3 _ q) (A7 _)
  ⟨⟨beq_eq_false_iff_ne.mpr (Ne.symm (AJ I.big)),B2 _,List.nodup_nil,[],.nil,_,#[],0,Aq _ rfl,⟨rfl,rfl,rfl⟩,rfl,rfl⟩,⟨_,Aq _ rfl⟩,fun h1 h2 x y=>kd h1 h2 x y⟩
def gi(xs:List SpE)(k:SpK):Option V:=(xs.find? fun x=>decide (x.1=k)).map (·.2.2)
theorem ur{xs:List SpE}{ys:List (SpK×Addr×A1)}(r:Cz PrS xs ys){v:V}(h:gi xs k=some v):∃p:Addr×A1,atKey ys k=some p/\RelV v p.2:=by
 induction r with
 |nil=>cases h
 |@cons p q ps qs h' t ih=>
  by_cases e:p.1=k
  ·have e':q.1=k:=h'.1.symm.trans e;simp[gi,B6,e]at h;subst h;exact⟨q.2,by simp[atKey,B6,e'],h'.2.2⟩
  ·have e':¬q.1=k:=fun z=>e (h'.1.trans z);have h2:gi ps k=some v:=by simpa[gi,B6,e]using h
   obtain⟨p',h3,h4⟩:=ih h2;exact⟨p',by simpa[atKey,B6,e']using h3,h4⟩
theorem tQ{A:AQ}{E:A1->A2->Prop}{Q:A1->A2->Prop}{xs:List SpE}{v:V}(hu:A.units+8<Bp)(I:L2.Inv X pins σ H s)(e:H a=some (.ext (bA X.prog X.w a xs)))(hk:∀x∈xs,bX X.K H x.2.1 x.1)(hb:bX X.K H b k)(hv:gi xs k=some v) (h:∀u s',L2.Inv X pins σ H s'->RelV v u->Q u s'):A9 (Ay X.prog X.w) A (getItem (.ref a) (.ref b)) Q E s:=by obtain⟨hd,hz,ys,r,dd⟩:=lZ I e hk;obtain⟨p,h1,h2⟩:=ur r hv;exact wpAny_getItem_heap (knd:=cW X.prog X.w) (show A.in1.units+4<Bp by show A.units+1+4<Bp;omega) (jb I hb) dd h1 (h _ _ (I.tok _) h2)
end
section
variable{X:Cx}
def xf(X:Cx):TE:=fun _ H Q=>∀p,H p=none->Q (.ref p) (upd H p (.ext (bA X.prog X.w p [])))
theorem pQ{pos:Pos}:PE X (.Dict [] [] pos) (xf X):=fun pins s σ H Q I h=>wpAny_Dict_empty ⟨.ref s.heap.objs.size,_,mZ I,rfl,h _ (I.hok.fresh (A7 _))⟩
structure DsAt(X:Cx)(H:Hp)(a b:Addr)(xs:List SpE)(k:SpK):Prop where
 d:H a=some (.ext (bA X.prog X.w a xs))
 ks:∀x∈xs,bX X.K H x.2.1 x.1
 key:bX X.K H b k
def wo(X:Cx)(td ty:TE):TE:=fun σ H Q=>td σ H fun x H1=>ty σ H1 fun y H2=>∃a b xs k v,x=.ref a/\y=.ref b/\DsAt X H2 a b xs k/\gi xs k=some v/\Q v H2
theorem ya{pins:List (Addr×Obj)}{σ:L2.St}{H:Hp}{s:A2}{a:Addr}{xs:List SpE}(I:L2.Inv X pins σ H s)(e:H a=some (.ext (bA X.prog X.w a xs))):s.TypeIs (.ref a) "dict"/\∀b,BH a=.ref b->∃o,s.heap.get? b=some o/\o.dict=none:=by obtain⟨⟨_,_,_,_,_,o,_,_,q1,q2,_⟩,_⟩:=I.hok a _ e;exact⟨⟨o,q1,q2.1⟩,fun b z=>by cases z;exact⟨o,q1,q2.2.1⟩⟩
theorem qg{o i:Expr}{td ty:TE}{pos:Pos}(hu:X.A.units+8<Bp)(ho:PE X o td)(hi:PE X i ty)(hs:yi i):PE X (.Subscript o i pos) (wo X td ty):=by intro pins s σ H Q I h;refine Subscript_ (thn (ho pins s σ H _ I h) fun v s1 ⟨x,H1,I1,r1,q1⟩=>thn (hi pins s1 σ H1 _ I1 q1) fun u s2 zz1_0=>?_);obtain⟨y,H2,I2,r2,a,b,xs,k,w',ex,ey,D,hv,q⟩:=zz1_0;subst ex ey;cases r1;cases r2;exact tail_any (ya I2 D.d).1 PySem.F.slot_dict_getitem.lookup (tQ hu I2 D.d D.ks D.key hv fun u' s' I' r'=>⟨w',H2,I',r',q⟩) (hs _ _)
def wU(X:Cx)(td ty tv:TE):TS:=fun D σ H=>tv σ H fun v H1=>td σ H1 fun x H2=>ty σ H2 fun y H3=>∃a b xs k,x=.ref a/\y=.ref b/\DsAt X H3 a b xs k/\xs.length<AI/\D.nx σ (upd H3 a (.ext (bA X.prog X.w a (d0 xs k b v))))
theorem rJ{o i value:Expr}{td ty tv:TE}{pos pos':Pos}(hu:X.A.units+8<Bp)(ho:PE X o td)(hi:PE X i ty)(hv:PE X value tv)(hs:swapsWith value (some (.Subscript o i pos')) pos.line X.env=pure false) : PS X (.Assign [.Subscript o i pos'] value pos) (wU X td ty tv):=by intro pins s σ H D I h;refine wpAny_Assign_Subscript (thn (hv pins s σ H _ I h) fun r s1 ⟨v,H1,I1,rv,q1⟩=>thn (ho pins s1 σ H1 _ I1 q1) fun u s2 ⟨x,H2,I2,rx,q2⟩=>thn (hi pins s2 σ H2 _ I2 q2) fun iv s3 zz2_0=>?_) hs;obtain⟨y,H3,I3,ry,a,b,xs,k,ex,ey,A,hl,q3⟩:=zz2_0;subst ex ey;cases rx;cases ry;exact tf hu I3 A.d A.ks A.key rv hl fun s4 I4=>⟨σ,_,I4,q3⟩
end
def spD(k:SpK):D:=.tup [.tup [.int k.1,.int k.2.1],.tup [.int k.2.2.1,.int k.2.2.2]]
section
variable{K:A0}{H H':Hp}{M:MH}{a b:Addr}{k:SpK}
theorem i9{v:V}(r:Rep K H (spD k) v):∃b,v=.ref b/\bX K H b k:=by unfold spD at r;rw[Rep]at r;obtain⟨b,xs,rfl,hx,rs⟩:=r;obtain⟨v1,v2,rfl,r1,r2⟩:=dr rs;rw[Rep]at r1 r2;obtain⟨f,fs,rfl,hf,rf⟩:=r1;obtain⟨g,gs,rfl,hg,rg⟩:=r2;obtain⟨w1,w2,rfl,q1,q2⟩:=dr rf;obtain⟨w3,w4,rfl,q3,q4⟩:=dr rg;rw[Rep]at q1 q2 q3 q4;subst q1 q2 q3 q4;exact⟨b,rfl,f,g,hx,hf,hg⟩
theorem jL(h:bX K H b k):Rep K H (spD k) (.ref b):=by
 obtain⟨f,g,hx,hf,hg⟩:=h;unfold spD;rw[Rep];refine⟨b,_,rfl,hx,?_⟩;have i2:∀(m n:Int),av K H [D.int m,D.int n] [V.int m,V.int n]:=fun m n=>ft [m,n];rw[av];refine⟨_,_,rfl,?_,?_⟩
 ·rw[Rep];exact⟨f,_,rfl,hf,i2 _ _⟩
 ·rw[av];refine⟨_,_,rfl,?_,?_⟩
  ·rw[Rep];exact⟨g,_,rfl,hg,i2 _ _⟩
  ·rw[av]
theorem bX.mono(g:Grow K H H')(h:bX K H b k):bX K H' b k:=by obtain⟨b',e,r⟩:=i9 ((jL h).mono g);cases e;exact r
abbrev SpT:=List (SpK×D)
def dsA(kvs:SpT):A0->Hp->Addr->Prop:=fun K H a=>∃xs:List SpE,(∀P w,H a=some (.ext (bA P w a xs)))/\xs.map (·.1)=kvs.map (·.1)/\(∀x∈xs,bX K H x.2.1 x.1)/\av K H (kvs.map (·.2)) (xs.map (·.2.2))
theorem qv{kvs:SpT}(h:dsA kvs K H a)(g:Grow K H H')(e:H' a=H a):dsA kvs K H' a:=by obtain⟨xs,h1,h2,h3,h4⟩:=h;exact⟨xs,fun P w=>e.trans (h1 P w),h2,fun x hx=>(h3 x hx).mono g,h4.mono g⟩
def dsM(kvs:SpT):MO:=.gen (dsA kvs)
theorem Abs.dsp{kvs:SpT}(h:Abs K H M)(e:M a=some (dsM kvs)):dsA kvs K H a:=(h a _ e).1
theorem dsA.zt{kvs:SpT}(h:dsA kvs K H a)(ne:H a≠none):lT K H a (dsM kvs):=⟨h,ne,fun H' g e=>qv h g e⟩
theorem Abs.uR{p:Addr}(P:Au)(w:AU)(h:Abs K H M)(hp:H p=none):Abs K (upd H p (.ext (bA P w p []))) (aA M p (dsM [])):=fun a u e=>by
 by_cases ne:a=p
 ·subst ne;rw[ag]at e;cases e;exact dsA.zt ⟨[],(fun P w=>aD),rfl,(fun x hx=>by simp at hx),(by simp[av])⟩ (by rw[aD];simp)
 ·rw[ao ne]at e;exact(h a u e).dt (.new hp) (aF ne)
def eY(kvs:SpT)(k:SpK):Option D:=(kvs.find? fun x=>decide (x.1=k)).map (·.2)
def putD(kvs:SpT)(k:SpK)(d:D):SpT:=if(kvs.any fun x=>decide (x.1=k))=true then kvs.map (fun x=>if x.1=k then(x.1,d)else x)else kvs++[(k,d)]
theorem mJ(k:SpK):∀{kvs:SpT} {xs:List SpE},xs.map (·.1)=kvs.map (·.1)->av K H (kvs.map (·.2)) (xs.map (·.2.2))->(∀d,eY kvs k=some d->∃v,gi xs k=some v/\Rep K H d v)/\(eY kvs k=none->gi xs k=none)/\((xs.any fun x=>decide (x.1=k))=kvs.any fun x=>decide (x.1=k))
 |[],[],_,_=>⟨(fun d h=>by simp[eY]at h),(fun _=>rfl),rfl⟩
 |[],x::xs,h,_=>by cases h
 |y::kvs,[],h,_=>by cases h
 |y::kvs,x::xs,h,r=>by
  rw[Av,Av]at h
  injection h with h1 h2
  rw[Av,Av,av]at r
  obtain⟨v,vs,e,r1,r2⟩:=r
  injection e with e1 e2
  subst e1 e2
  obtain⟨i1,i2,i3⟩:=mJ k h2 r2
  by_cases e:y.1=k
  ·have e':x.1=k:=h1.trans e
   refine⟨fun d hd=>?_,fun hn=>?_,?_⟩
   ·simp[eY,B6,e]at hd
    subst hd
    exact⟨x.2.2,by simp[gi,B6,e'],r1⟩
   ·simp[eY,B6,e]at hn
   ·simp[e,e']
  ·have e':¬x.1=k:=fun z=>e (h1.symm.trans z)
   refine⟨fun d hd=>?_,fun hn=>?_,?_⟩
   ·obtain⟨v,q1,q2⟩:=i1 d (by simpa[eY,B6,e]using hd)
    exact⟨v,by simpa[gi,B6,e']using q1,q2⟩
   ·have:=i2 (by simpa[eY,B6,e]using hn)
    simpa[gi,B6,e']using this
   ·rw[Cp,Cp,i3,decide_eq_false e,decide_eq_false e']
theorem mS(k:SpK){d:D}{v:V}(r:Rep K H d v):∀{kvs:SpT} {xs:List SpE},xs.map (·.1)=kvs.map (·.1)->av K H (kvs.map (·.2)) (xs.map (·.2.2))->
 (xs.map fun x=>if x.1=k then(x.1,x.2.1,v)else x).map (·.1)=(kvs.map fun x=>if x.1=k then(x.1,d)else x).map (·.1)/\av K H ((kvs.map fun x=>if x.1=k then(x.1,d)else x).map (·.2)) ((xs.map fun x=>if x.1=k then(x.1,x.2.1,v)else x).map (·.2.2))
 |[],[],_,h=>⟨rfl,h⟩
 |[],x::xs,h,_=>by cases h
 |y::kvs,[],h,_=>by cases h
 |y::kvs,x::xs,h,q=>by
  rw[Av,Av]at h
  injection h with h1 h2
  rw[Av,Av,av]at q
  obtain⟨v',vs,e,r1,r2⟩:=q
  injection e with e1 e2
  subst e1 e2
  obtain⟨i1,i2⟩:=mS k r h2 r2
  by_cases e:y.1=k
  ·have e':x.1=k:=h1.trans e
   simp only[Av,if_pos e,if_pos e']
   exact⟨by rw[i1];exact congrArg (·::_) h1,by rw[av];exact⟨_,_,rfl,r,i2⟩⟩
  ·have e':¬x.1=k:=fun z=>e (h1.symm.trans z)
   simp only[Av,if_neg e,if_neg e']
   exact⟨by rw[i1];exact congrArg (·::_) h1,by rw[av];exact⟨_,_,rfl,r1,i2⟩⟩
theorem wJ{kvs:SpT}{xs:List SpE}{d:D}{v:V}(h1:xs.map (·.1)=kvs.map (·.1))(h2:av K H (kvs.map (·.2)) (xs.map (·.2.2)))(h3:∀x∈xs,bX K H x.2.1 x.1)(hb:bX K H b k)(r:Rep K H d v) : (d0 xs k b v).map (·.1)=(putD kvs k d).map (·.1)/\av K H ((putD kvs k d).map (·.2)) ((d0 xs k b v).map (·.2.2))/\∀x∈d0 xs k b v,bX K H x.2.1 x.1:=by
 unfold d0 putD;rw[(mJ k h1 h2).2.2];by_cases e:(kvs.any fun x=>decide (x.1=k))=true
 ·rw[if_pos e,if_pos e];obtain⟨i1,i2⟩:=mS k r h1 h2;refine⟨i1,i2,fun x hx=>?_⟩;obtain⟨y,hy,rfl⟩:=Bo.mp hx;have:=h3 y hy;by_cases e:y.1=k
  ·rw[if_pos e];exact this
  ·rw[if_neg e];exact this
 ·rw[if_neg e,if_neg e];refine⟨by rw[B0,B0,h1];rfl,?_,fun x hx=>?_⟩
  ·rw[B0,B0];exact h2.append (by rw[Av,Av,BF,BF,av];exact⟨_,_,rfl,r,by rw[av]⟩)
  ·rcases AH.mp hx with z|z
   ·exact h3 x z
   ·have:x=(k,b,v):=by simpa using z
    subst this;exact hb
theorem Grow.ext{φ:Heap->Prop}{o:HO}(h:H a=some (.ext φ)):Grow K H (upd H a o):=.put (fun xs e=>by rw[h]at e;cases e) (fun u xs e=>by rw[h]at e;cases e)
theorem Abs.uO{kvs:SpT}{xs:List SpE}{d:D}{v:V}(P:Au)(w:AU)(h:Abs K H M)(hx:∀P w,H a=some (.ext (bA P w a xs)))(h1:xs.map (·.1)=kvs.map (·.1))(h2:av K H (kvs.map (·.2)) (xs.map (·.2.2)))(h3:∀x∈xs,bX K H x.2.1 x.1)(hb:bX K H b k)(r:Rep K H d v) :
 Abs K (upd H a (.ext (bA P w a (d0 xs k b v)))) (aA M a (dsM (putD kvs k d))):=fun c u e=>by
 have g:Grow K H (upd H a (.ext (bA P w a (d0 xs k b v)))):=.ext (hx P w)
 by_cases ne:c=a
 ·subst ne
  rw[ag]at e;cases e
  obtain⟨q1,q2,q3⟩:=wJ h1 h2 h3 hb r
  exact dsA.zt ⟨_,fun P w=>aD,q1,fun x hx=>(q3 x hx).mono g,q2.mono g⟩ (by rw[aD];simp)
 ·rw[ao ne]at e
  exact(h c u e).dt g (aF ne)
end
section
variable{X:Cx}
def uH:TD:=fun _ M Q=>∀p,M p=none->Q (.ref p) (aA M p (dsM []))
theorem kI{pos:Pos}:DE X (.Dict [] [] pos) uH:=aT pQ fun σ H Q zz1_0=>by obtain⟨δ,M,R,hs,hM,q,fin⟩:=zz1_0;exact(fun p hp=>fin _ _ _ _ (.new hp) (by rw[Rep]) (hM.uR _ _ hp) (q p (hM.fresh hp)))
def uy(td ty:TD):TD:=fun δ M Q=>td δ M fun x M1=>ty δ M1 fun y M2=>∃l kvs k d,x=.ref l/\y=spD k/\M2 l=some (dsM kvs)/\eY kvs k=some d/\Q d M2
theorem kP{o i:Expr}{td ty:TD}{pos:Pos}(hu:X.A.units+66<Bp)(ho:DE X o td)(hi:DE X i ty)(hs:yi i):DE X (.Subscript o i pos) (uy td ty):=
 aT (qg (by omega) ho hi hs) fun σ H Q zz2_0=>by obtain⟨δ,M,R,hs,hM,q,fin⟩:=zz2_0;exact(⟨δ,M,_,hs,hM,q,fun x M1 v H1 g1 r1 a1 q1=>⟨δ,M1,_,hs.mono g1,a1,q1,fun y M2 u H2 g2 r2 a2 zz3_0=>by
  obtain⟨l,kvs,k,d,ex,ey,hl,hv,q2⟩:=zz3_0
  subst ex ey
  rw[Rep]at r1;subst r1
  obtain⟨b,rfl,sp⟩:=i9 r2
  obtain⟨xs,h1,h2,h3,h4⟩:=a2.dsp hl
  obtain⟨v',q3,q4⟩:=(mJ k h2 h4).1 d hv
  exact⟨l,b,xs,k,v',rfl,rfl,⟨h1 _ _,h3,sp⟩,q3,fin _ _ _ _ (g1.trans g2) q4 a2 q2⟩⟩⟩)
def tN(td ty tv:TD):TSD:=fun B δ M=>tv δ M fun d M1=>td δ M1 fun x M2=>ty δ M2 fun y M3=>∃l kvs k,x=.ref l/\y=spD k/\M3 l=some (dsM kvs)/\kvs.length<1000000/\B.nx δ (aA M3 l (dsM (putD kvs k d)))
theorem gR{o i value:Expr}{td ty tv:TD}{pos pos':Pos}(hu:X.A.units+66<Bp)(ho:DE X o td)(hi:DE X i ty)(hv:DE X value tv)(hs:swapsWith value (some (.Subscript o i pos')) pos.line X.env=pure false:=by rfl):DSt X (.Assign [.Subscript o i pos'] value pos) (tN td ty tv):=
 b8 (rJ (by omega) ho hi hv hs) fun D σ H ⟨δ,M,hs,hM,B,ok,q⟩=>⟨δ,M,_,hs,hM,q,fun d M1 v H1 g1 r1 a1 q1=>⟨δ,M1,_,hs.mono g1,a1,q1,fun x M2 u H2 g2 r2 a2 q2=>⟨δ,M2,_,(hs.mono g1).mono g2,a2,q2,fun y M3 u3 H3 g3 r3 a3 ⟨l,kvs,k,ex,ey,hl,hn,q3⟩=>by
  subst ex ey
  rw[Rep]at r2;subst r2
  obtain⟨b,rfl,sp⟩:=i9 r3
  obtain⟨xs,h1,h2,h3,h4⟩:=a3.dsp hl
  have hlen:xs.length=kvs.length:=by have:=congrArg List.length h2;simpa using this
  have sz:1000000<=AI:=nbL rfl
  refine⟨l,b,xs,k,rfl,rfl,⟨h1 _ _,h3,sp⟩,by omega,?_⟩
  have g4:Grow X.K H3 (upd H3 l (.ext (bA X.prog X.w l (d0 xs k b v)))):=.ext (h1 X.prog X.w)
  exact ok.nx _ _ _ _ (((g1.trans g2).trans g3).trans g4) (hs.mono (((g1.trans g2).trans g3).trans g4)) (a3.uO _ _ h1 h2 h4 h3 sp (r1.mono (g2.trans g3))) q3⟩⟩⟩
end
section
variable{α β:Type}{n:Nat}{k:Nat->Int}
def kwp(n:Nat)(k:Nat->Int){α:Type}:PySem.W.KasT α->(α->Prop)->Prop
 |.ret a,Q=>Q a
 |.ask i j f,Q=>i<n/\j<n/\kwp n k (f (decide (k i<k j))) Q
theorem c7{f:α->PySem.W.KasT β}{Q:β->Prop}:∀(t:PySem.W.KasT α),kwp n k t (fun a=>kwp n k (f a) Q)->kwp n k (t.bind f) Q
 |.ret _,h=>h
 |.ask i j g,h=>⟨h.1,h.2.1,c7 _ h.2.2⟩
theorem bL{Q R:α->Prop}(hq:∀a,Q a->R a):∀(t:PySem.W.KasT α),kwp n k t Q->kwp n k t R
 |.ret _,h=>hq _ h
 |.ask i j g,h=>⟨h.1,h.2.1,bL hq _ h.2.2⟩
theorem m9{cmp:Nat->Nat->(Bool->A2->Prop)->A2->Prop}{s:A2}(hc:∀i j (C:Bool->A2->Prop),i<n->j<n->C (decide (k i<k j)) s->cmp i j C s){Q:α->A2->Prop}:∀(t:PySem.W.KasT α),kwp n k t (fun a=>Q a s)->t.kasWp cmp Q s
 |.ret _,h=>h
 |.ask i j g,h=>hc i j _ h.1 h.2.1 (m9 hc _ h.2.2)
structure Pmu(n:Nat)(p:Array Nat):Prop where
 perm:p.Perm (BV n).toArray
theorem Pmu.size{p:Array Nat}(h:Pmu n p):p.size=n:=by have:=h.perm.size_eq;simpa using this
theorem Pmu.lt{p:Array Nat}(h:Pmu n p){i:Nat}(hi:i<n):p.getD i 0<n:=by
 have hi':i<p.size:=by rw[h.size];exact hi
 have:p[i]∈(BV n).toArray:=h.perm.mem_iff.mp (Array.getElem_mem hi');simpa[Array.getD,hi']using this
theorem Pmu.inj{p:Array Nat}(h:Pmu n p){i j:Nat}(hi:i<n)(hj:j<n)(e:p.getD i 0=p.getD j 0):i=j:=by
 have hi':i<p.size:=by rw[h.size];exact hi
 have hj':j<p.size:=by rw[h.size];exact hj
 have nd:p.toList.Nodup:=(Array.perm_iff_toList_perm.mp h.perm).nodup_iff.mpr (by simpa using List.nodup_range);have e':p.toList[i]=p.toList[j]:=by simpa[Array.getD,hi',hj']using e
 have pw:=AL.mp nd;rcases Nat.lt_trichotomy i j with h|h|h
 ·exact absurd e' (pw i j _ _ h)
 ·exact h
 ·exact absurd e'.symm (pw j i _ _ h)
def ky(k:Nat->Int)(p:Array Nat)(i:Nat):Int:=k (p.getD i 0)
def Inj(n:Nat)(k:Nat->Int):Prop:=∀i j,i<n->j<n->k i=k j->i=j
theorem lN(hk:Inj n k){p:Array Nat}(h:Pmu n p){i j:Nat}(hi:i<n)(hj:j<n)(hij:i≠j):ky k p i≠ky k p j:=fun e=>hij (h.inj hi hj (hk _ _ (h.lt hi) (h.lt hj) e))
def Up(k:Nat->Int)(p:Array Nat)(m:Nat):Prop:=∀i j,i<j->j<m->ky k p i<ky k p j
def Dn(k:Nat->Int)(p:Array Nat)(m:Nat):Prop:=∀i j,i<j->j<m->ky k p j<ky k p i
theorem sI{p:Array Nat}{m:Nat}(h1:1<=m)(h:Up k p m)(h2:ky k p (m-1)<ky k p m):Up k p (m+1):=fun i j hij hj=>by
 by_cases e:j=m
 ·subst e;by_cases e':i=j-1
  ·subst e';exact h2
  ·have:=h i (j-1) (by omega) (by omega);omega
 ·exact h i j hij (by omega)
theorem tS{p:Array Nat}{m:Nat}(h1:1<=m)(h:Dn k p m)(h2:ky k p m<ky k p (m-1)):Dn k p (m+1):=fun i j hij hj=>by
 by_cases e:j=m
 ·subst e;by_cases e':i=j-1
  ·subst e';exact h2
  ·have:=h i (j-1) (by omega) (by omega);omega
 ·exact h i j hij (by omega)
theorem ke(hk:Inj n k){p:Array Nat}(hp:Pmu n p):∀(f m:Nat),1<=m->m+f=n->Up k p m->kwp n k (PySem.W.kas_asc p f m) fun r=>m<=r/\r<=n/\Up k p r/\(r=n\/ky k p r<ky k p (r-1))
 |0,m,h1,e,u=>⟨A7 _,by omega,u,.inl (by omega)⟩
 |f+1,m,h1,e,u=>by
  refine⟨hp.lt (by omega),hp.lt (by omega),?_⟩
  by_cases c:k (p.getD m 0)<k (p.getD (m-1) 0)
  ·rw[decide_eq_true c]
   exact⟨A7 _,by omega,u,.inr c⟩
  ·rw[decide_eq_false c]
   have ne:=lN hk hp (i:=m) (j:=m-1) (by omega) (by omega) (by omega)
   refine bL (fun r h=>⟨by omega,h.2⟩) _ (ke hk hp f (m+1) (by omega) (by omega) (sI h1 u ?_))
   unfold ky at ne ⊢;omega
theorem k7(hk:Inj n k){p:Array Nat}(hp:Pmu n p):∀(f m:Nat),1<=m->m+f=n->Dn k p m->kwp n k (PySem.W.kas_desc f p m 0) fun r=>r.1=p/\r.2.2=0/\m<=r.2.1/\r.2.1<=n/\Dn k p r.2.1
 |0,m,h1,e,u=>⟨rfl,rfl,A7 _,by show m<=n;omega,u⟩
 |f+1,m,h1,e,u=>by
  refine⟨hp.lt (by omega),hp.lt (by omega),?_⟩
  by_cases c:k (p.getD m 0)<k (p.getD (m-1) 0)
  ·rw[decide_eq_true c]
   exact bL (fun r h=>⟨h.1,h.2.1,by omega,h.2.2.2⟩) _ (k7 hk hp f (m+1) (by omega) (by omega) (tS h1 u c))
  ·rw[decide_eq_false c]
   have ne:=lN hk hp (i:=m) (j:=m-1) (by omega) (by omega) (by omega)
   have c2:k (p.getD (m-1) 0)<k (p.getD m 0):=by unfold ky at ne;omega
   refine⟨hp.lt (by omega),hp.lt (by omega),?_⟩
   rw[decide_eq_true c2]
   exact⟨rfl,rfl,A7 _,by show m<=n;omega,u⟩
theorem getD_eq(p:Array Nat)(i:Nat):p.getD i 0=(p[i]?).getD 0:=by simp[Array.getD_eq_getD_getElem?]
theorem nv{p:Array Nat}{m:Nat}(hp:Pmu n p):Pmu n (PySem.W.kas_rev p 0 m):=⟨(mirror_perm _ _ _ _).trans hp.perm⟩
theorem wx{p:Array Nat}{m:Nat}(hp:Pmu n p)(hm:m<=n)(h:Dn k p m):Up k (PySem.W.kas_rev p 0 m) m:=fun i j hij hj=>by unfold ky PySem.W.kas_rev;rw[getD_eq,getD_eq,getElem?_mirror_all (by rw[hp.size];exact hm),getElem?_mirror_all (by rw[hp.size];exact hm),if_pos ⟨by omega,by omega⟩,if_pos ⟨by omega,hj⟩,<-getD_eq,<-getD_eq];exact h (0+m-1-j) (0+m-1-i) (by omega) (by omega)
theorem pd(hk:Inj n k){p:Array Nat}(hp:Pmu n p){m:Nat}(h1:1<=m)(hm:m<=n)(d:Dn k p m):kwp n k (PySem.W.kas_tail3 m n p) fun r=>Pmu n r.2/\1<=r.1/\r.1<=n/\Up k r.2 r.1:=c7 _ (bL (fun r h=>show Pmu n _/\_ from⟨nv hp,by show 1<=r;omega,h.2.1,h.2.2.1⟩) _ (ke hk (nv hp) (n-m) m h1 (by omega) (wx hp hm d)))
theorem pA(hk:Inj n k)(hn:2<=n){p:Array Nat}(hp:Pmu n p):kwp n k (PySem.W.kas_count n p) fun r=>Pmu n r.2/\1<=r.1/\r.1<=n/\Up k r.2 r.1:=by
 refine c7 _ (bL (fun r h=>?_) _ (ke hk hp (n-1) 1 (A7 _) (by omega) fun i j hij hj=>by omega));obtain⟨r1,r2,u,hr⟩:=h;by_cases e:r=n
 ·rw[if_pos (by simp[e])];exact⟨hp,r1,r2,u⟩
 ·rw[if_neg (by simp[e])];by_cases e1:r>1
  ·rw[if_pos e1];refine⟨hp.lt (by omega),hp.lt (by omega),?_⟩;have:k (p.getD 0 0)<k (p.getD (r-1) 0):=u 0 (r-1) (by omega) (by omega);rw[decide_eq_true this];exact⟨hp,r1,r2,u⟩
  ·rw[if_neg e1];have er:r=1:=by omega
   subst er;refine c7 _ (bL (fun q h=>?_) _ (k7 hk hp (n-(1+1)) (1+1) (by omega) (by omega) fun i j hij hj=>?_))
   ·obtain⟨e2,e3,e4,e5,d⟩:=h;rw[if_neg (by rw[e3];exact Ck 0),e2];exact pd hk hp (by omega) e5 d
   ·obtain rfl:i=0:=by omega
    obtain rfl:j=1:=by omega
    exact hr.resolve_left e
theorem fo(hk:Inj n k){p:Array Nat}(hp:Pmu n p){m:Nat}(hm:m<n)(u:Up k p m):∀(f l r:Nat),r<=l+f->l<=r->r<=m->(∀i,i<l->ky k p i<ky k p m)->(∀i,r<=i->i<m->ky k p m<ky k p i)->
 kwp n k (PySem.W.kas_place p m f l r) fun x=>x<=m/\(∀i,i<x->ky k p i<ky k p m)/\(∀i,x<=i->i<m->ky k p m<ky k p i)
 |0,l,r,h1,h2,h3,a,b=>⟨by omega,a,fun i hi hm=>b i (by omega) hm⟩
 |f+1,l,r,h1,h2,h3,a,b=>by
  show kwp n k (if l≥r then _ else _) _
  by_cases e:l≥r
  ·rw[if_pos e]
   exact⟨by omega,a,fun i hi hm=>b i (by omega) hm⟩
  ·rw[if_neg e]
   refine⟨hp.lt hm,hp.lt (by omega),?_⟩
   by_cases c:k (p.getD m 0)<k (p.getD ((l+r)/2) 0)
   ·rw[decide_eq_true c]
    refine fo hk hp hm u f l ((l+r)/2) (by omega) (by omega) (by omega) a fun i hi him=>?_
    by_cases ei:i=(l+r)/2
    ·subst ei;exact c
    ·have:=u ((l+r)/2) i (by omega) him
     unfold ky at this ⊢;omega
   ·rw[decide_eq_false c]
    have ne:=lN hk hp (i:=m) (j:=(l+r)/2) hm (by omega) (by omega)
    refine fo hk hp hm u f ((l+r)/2+1) r (by omega) (by omega) h3 (fun i hi=>?_) b
    by_cases ei:i=(l+r)/2
    ·subst ei;unfold ky at ne ⊢;omega
    ·have:=u i ((l+r)/2) (by omega) (by omega)
     unfold ky at ne this ⊢;omega
theorem rN{p:Array Nat}(hp:Pmu n p){m x:Nat}(hm:m<n)(hx:x<=m)(i:Nat):ky k (bubble p m (m-x)) i=if i=x then ky k p m else if x<i/\i<=m then ky k p (i-1)else ky k p i:=by
 unfold ky;rw[getD_eq,getElem?_bubble (by rw[hp.size];exact hm) _ (by omega),show m-(m-x)=x by omega];split
 ·rw[<-getD_eq]
 ·split
  ·rw[<-getD_eq]
  ·rw[<-getD_eq]
theorem nJ(hk:Inj n k):∀(f:Nat) (p:Array Nat) (m:Nat),Pmu n p->m+f=n->Up k p m->kwp n k (PySem.W.kas_bin f p m) fun q=>Pmu n q/\Up k q n
 |0,p,m,hp,e,u=>⟨hp,by rw[show n=m by omega];exact u⟩
 |f+1,p,m,hp,e,u=>by
  have hm:m<n:=by omega
  refine c7 _ (bL (fun x h=>?_) _ (fo hk hp hm u m 0 m (by omega) (by omega) (A7 _) (fun i hi=>by omega) fun i hi him=>by omega))
  obtain⟨hx,a,b⟩:=h
  refine nJ hk f _ (m+1) ⟨(bubble_perm _ _ _).trans hp.perm⟩ (by omega) fun i j hij hj=>?_
  rw[rN hp hm hx,rN hp hm hx]
  by_cases e1:i=x
  ·rw[if_pos e1,if_neg (by omega),if_pos ⟨by omega,by omega⟩]
   exact b _ (by omega) (by omega)
  ·rw[if_neg e1]
   by_cases e2:x<i
   ·rw[if_pos ⟨e2,by omega⟩,if_neg (by omega),if_pos ⟨by omega,by omega⟩]
    exact u _ _ (by omega) (by omega)
   ·rw[if_neg (by omega)]
    by_cases e3:j=x
    ·rw[if_pos e3];exact a i (by omega)
    ·rw[if_neg e3]
     by_cases e4:x<j
     ·rw[if_pos ⟨e4,by omega⟩]
      by_cases e5:i=j-1
      ·omega
      ·exact u _ _ (by omega) (by omega)
     ·rw[if_neg (by omega)]
      exact u _ _ hij (by omega)
theorem p4(hk:Inj n k)(hn:2<=n):kwp n k (PySem.W.kas_sort n) fun p=>Pmu n p/\Up k p n:=by
 refine c7 _ (bL (fun r h=>?_) _ (pA hk hn (p:=(BV n).toArray) ⟨Array.Perm.refl _⟩));obtain⟨hp,h1,h2,u⟩:=h;by_cases e:r.1<n
 ·rw[if_pos e,show max r.1 1=r.1 by omega];exact nJ hk _ _ _ hp (by omega) u
 ·rw[if_neg e];have:r.1=n:=by omega
  exact⟨hp,by rw[this]at u;exact u⟩
end
section
variable{prog:Au}{w:AU}{A:AQ}{E:A1->A2->Prop}{s:A2}
def de(vs:List A1)(p:Array Nat):Array A1:=AN (p.toList.map fun i=>vs.getD i Cj)
end
section
variable{X:Cx}
def p0(us:List (Int×Int))(i:Nat):Int×Int:=us.getD i (0,0)
def pky(us:List (Int×Int))(i:Nat):Int:=100*(p0 us i).1+(p0 us i).2
def Pb(us:List (Int×Int)):Prop:=us.length<64/\us.Nodup/\∀u∈us,0<=u.2/\u.2<100
theorem jU{us:List (Int×Int)}{i:Nat}(h:i<us.length):p0 us i∈us:=by unfold p0;rw[Bl,AE h];exact List.getElem_mem h
theorem Pb.inj{us:List (Int×Int)}(h:Pb us):Inj us.length (pky us):=fun i j hi hj e=>by
 have b1:=h.2.2 _ (jU hi);have b2:=h.2.2 _ (jU hj);unfold pky at e;have e1:p0 us i=p0 us j:=Prod.ext (by omega) (by omega);unfold p0 at e1;rw[Bl,Bl,AE hi,AE hj]at e1;have pw:=AL.mp h.2.1;rcases Nat.lt_trichotomy i j with q|q|q
 ·exact absurd e1 (pw i j _ _ q)
 ·exact q
 ·exact absurd e1.symm (pw j i _ _ q)
theorem uN{xs:List V}{its:List A1}(h:Vals xs its):∀i,RelV (xs.getD i .non) (its.getD i .none):=by
 induction h with
 |nil=>intro i;simp;rfl
 |cons a _ ih=>intro i;cases i with
  |zero=>exact a
  |succ i=>exact ih i
theorem jc{xs:List V}{its:List A1}(h:Vals xs its):∀l:List Nat,Vals (l.map fun i=>xs.getD i .non) (l.map fun i=>its.getD i .none)
 |[]=>.nil
 |i::l=>.cons (uN h i) (jc h l)
variable{prog:Au}{w:AU}{A:AQ}{E:A1->A2->Prop}{s:A2}
theorem t8{x y:Addr}{a b c d:Int}{t1 t2 t3 t4:Tok}{C:Bool->A2->Prop}(hx:IsTup s.heap x #[.int a t1,.int b t2])(hy:IsTup s.heap y #[.int c t3,.int d t4])(hb:0<=b/\b<100)(hd:0<=d/\d<100) (h:C (decide (100*a+b<100*c+d)) s):A9 (Ay prog w) A (keyLt' (tuples' true) (.ref x) (.ref y)) C E s:=by
 obtain⟨ox,gx,_,n,dx⟩:=hx;obtain⟨oy,gy,_,m,dy⟩:=hy;refine PySem.W.kat_lt gx dx gy dy ?_;refine PySem.W.kat_cons (wpAny_eqBool_int ?_);by_cases e:a=c
 ·subst e;rw[show(a==a)=true by simp];refine PySem.W.kat_yes (PySem.W.kat_cons (wpAny_eqBool_int ?_));by_cases e2:b=d
  ·subst e2;rw[show(b==b)=true by simp];refine PySem.W.kat_yes (PySem.W.kat_nil ?_);rw[show decide (100*a+b<100*a+b)=false by simp]at h;exact h
  ·rw[show(b==d)=false by simpa using e2];refine PySem.W.kat_no ?_;rw[show(true&&(0+1==0))=false by rfl];refine PySem.W.kat_one _ _ ?_;rw[show decide (100*a+b<100*a+d)=decide (b<d) by exact decide_eq_decide.mpr (by omega)]at h;exact lt_int h
 ·rw[show(a==c)=false by simpa using e];refine PySem.W.kat_no ?_;show A9 _ _ (oneLt' true _ _) _ _ _;rw[show decide (100*a+b<100*c+d)=decide (a<c) by exact decide_eq_decide.mpr (by omega)]at h;exact oneLt_int h
end
section
variable{X:Cx}
def Prs(K:A0)(H:Hp):List V->List (Int×Int)->Prop
 |[],[]=>True
 |x::xs,u::us=>(∃a,x=.ref a/\SqT K H a [.int u.1,.int u.2])/\Prs K H xs us
 |_,_=>False
theorem Prs.len{K:A0}{H:Hp}:∀{xs:List V} {us:List (Int×Int)},Prs K H xs us->xs.length=us.length
 |[],[],_=>rfl
 |_::_,_::_,h=>by rw[AS,AS,Prs.len h.2]
 |[],_::_,h=>h.elim
 |_::_,[],h=>h.elim
def xm(h:Heap)(v:A1)(u:Int×Int):Prop:=∃a t1 t2,v=.ref a/\IsTup h a #[.int u.1 t1,.int u.2 t2]
theorem rk{pins:List (Addr×Obj)}{σ:List (Option V)}{H:Hp}{s:A2}(I:Inv X pins σ H s){x:V}{v:A1}{u:Int×Int}(h:∃a,x=.ref a/\SqT X.K H a [.int u.1,.int u.2])(r:RelV x v):xm s.heap v u:=by obtain⟨a,rfl,ht⟩:=h;cases r;obtain⟨its,rv,hi,_⟩:=I.tuple ht;obtain⟨y1,y2,rfl,⟨t1,rfl⟩,⟨t2,rfl⟩⟩:=vals2 rv;exact⟨a,t1,t2,rfl,hi⟩
theorem pO{pins:List (Addr×Obj)}{σ:List (Option V)}{H:Hp}{s:A2}(I:Inv X pins σ H s):∀{xs:List V} {us:List (Int×Int)} {its:List A1},Prs X.K H xs us->Vals xs its->∀i,i<us.length->xm s.heap (its.getD i .none) (p0 us i)
 |[],[],_,_,_,i,hi=>by simp at hi
 |x::xs,u::us,_,h,.cons a r,i,hi=>by
  cases i with
  |zero=>exact rk I h.1 a
  |succ i=>exact pO I h.2 r i (by simpa using hi)
 |[],_::_,_,h,_,_,_=>h.elim
 |_::_,[],_,h,_,_,_=>h.elim
theorem k8{h:Heap}:∀{its:List A1} {us:List (Int×Int)},its.length=us.length->(∀i,i<us.length->xm h (its.getD i .none) (p0 us i))->∃fs:List A1,PySem.W.KatTups h its fs/\fs.length=us.length/\∀v∈fs,∃n t,v=Value.int n t
 |[],[],_,_=>⟨[],PySem.W.KatTups.nil,rfl,fun v hv=>by simp at hv⟩
 |v::its,u::us,hl,q=>by
  obtain⟨fs,k1,k2,k3⟩:=k8 (its:=its) (us:=us) (by simpa using hl) fun i hi=>q (i+1) (by simpa using hi)
  obtain⟨a,t1,t2,e,o,ho,hc,n,hd⟩:=q 0 (by simp)
  have e':v=.ref a:=e
  subst e'
  refine⟨.int u.1 t1::fs,PySem.W.KatTups.cons ho hc hd rfl k1,by simp[k2],fun v hv=>?_⟩
  rcases Ba.mp hv with rfl|hv
  ·exact⟨_,_,rfl⟩
  ·exact k3 v hv
 |[],_::_,hl,_=>by simp at hl
 |_::_,[],hl,_=>by simp at hl
theorem pC:Be "sorted"=some (.builtin "sorted"):=by first|exact boot_sorted|rfl
end
def fb(h:Heap)(d:Addr)(es:Array Bk)(ep:Nat):Prop:=∃o,h.get? d=some o/\o.ExactDict/\o.data=.dict es ep
section
variable{prog:Au}{w:AU}{A:AQ}{E:A1->A2->Prop}{s:A2}{d it:Addr}{es:Array Bk}{ep i:Nat}
theorem fb.ty(h:fb s.heap d es ep):s.TypeIs (.ref d) "dict":=let⟨o,a,b,_⟩:=h;⟨o,a,b.1⟩
theorem fb.kept{h h':Heap}(q:fb h d es ep)(k:∀o,h.get? d=some o->h'.get? d=some o):fb h' d es ep:=let⟨o,a,b⟩:=q;⟨o,k o a,b⟩
theorem fb.lt{h:Heap}(q:fb h d es ep):d<h.objs.size:=let⟨_,a,_⟩:=q;A8 a
theorem r9{Q:A1->A2->Prop}(lo:(d==Cv)=false)(hm:fb s.heap d es ep)
 (q:Q (.ref s.heap.objs.size) { s with heap:=s.heap.push { cls:=.type "dict_keyiterator",data:=.fields #[.ref d,.int 0 0,.int es.size 0,.int ep 0] } }):A9 (Ay prog w) A (pyIter (.ref d)) Q E s:=by
 have hT:=hm.ty
 obtain⟨o,g1,g2,g3⟩:=hm
 refine wpAny_pyIter_slot hT F.slot_dict_iter (wpAny_call_entry F.slot_dict_iter hT F.entry_dict_iter ?_ (F.args_dict_iter_1 _))
 unfold CA.«dict.__iter__»
 refine cc ?_
 unfold Builtin.Dict.dictSlotNone
 refine cc (wpAny_notOrdered_dict hT ?_)
 show A9 _ _ (pure (BH d)) _ _ s
 refine A5 ?_
 show A9 _ _ (Builtin.Dict.showsAll d >>= _) _ _ s
 unfold Builtin.Dict.showsAll
 rw[if_neg (by rw[lo];exact AD)]
 refine cc (A5 (cc (wpAny_dictEntries g1 g3 (cc (wpAny_dictEpoch g1 g3 ?_)))))
 refine cc (AZ (A5 ⟨_,rfl,"dict_keyiterator",_,⟨_,Aq _ rfl,rfl⟩,Bz.lookup,?_⟩))
 simpa[rawInt]using q
theorem sA{Q:Option A1->A2->Prop}(hit:s.heap.IsKeyIter it d i es.size ep)(hm:fb s.heap d es ep)(hi:i<es.size)
 (hQ:∀h':Heap,h'.IsKeyIter it d (i+1) es.size ep->Cw it s.heap h'->Q (some es[i].key) { s with heap:=h' }):A9 (Ay prog w) A (pyNext (.ref it)) Q E s:=by
 obtain⟨o,ho,hc,hd⟩:=id hit
 obtain⟨od,g1,g2,g3⟩:=hm
 have hT:=hit.typeIs
 unfold pyNext
 refine cc (wpAny_attempt (wpAny_callSpecial?_slot (name:=Bf "__next__") hT Bz (wpAny_call_entry Bz hT F.entry_dict_keyiterator_next ?_ (F.args_dict_keyiterator_next_1 _))))
 refine cc (A5 (cc (cc ?_)))
 first|refine cc (BR hT (A5 ?_))|refine cc (wpAny_typeNameOf_keyiter hT (A5 ?_))
 refine cc (wpAny_fieldsOf ho hd ?_)
 simp only[show Builtin.Dict_items.ownsTuple "dict_keyiterator"=false by decide,AM,if_false]
 show A9 _ _ (if(BH d==Cj)=true then _ else _) _ _ s
 rw[if_neg (show ¬((BH d==Cj)=true)from AD)]
 refine cc (A5 (cc (wpAny_dictEntries g1 g3 ?_)))
 rw[if_neg (by simp)]
 refine cc (A5 (cc (wpAny_dictEpoch g1 g3 ?_)))
 rw[if_neg (by simp)]
 refine A5 ?_
 simp only[show ¬((i:Int)<0)from by omega,if_false,Int.toNat_natCast,Array.getElem?_eq_getElem hi]
 refine cc ?_
 first|refine cc (BR hT (A5 ?_))|refine cc (wpAny_typeNameOf_keyiter hT (A5 ?_))
 refine cc (wpAny_isOneOf_keyiter hT ?_)
 show A9 _ _ (setField (.ref it) 1 (rawInt ((i:Int)+1)) >>= _) _ _ s
 refine cc (wpAny_setField ho hd (by simp) ?_)
 have n1:(s.heap.update it (Obj.mapFields (·.setIfInBounds 1 (rawInt ((i:Int)+1))))).IsKeyIter it d (i+1) es.size ep:=
  ⟨_,BL _ ho (Obj.isFreed_of_fields (Obj.data_mapFields hd _)),(Obj.cls_mapFields ..).trans hc,by rw[Obj.data_mapFields hd];simp[rawInt]⟩
 refine cc (Br (cc (wpAny_isOneOf_keyiter (s:={ s with heap:=s.heap.update it (Obj.mapFields (·.setIfInBounds 1 (rawInt ((i:Int)+1)))) }) n1.typeIs ?_)))
 show A9 _ _ (pure es[i].key) _ _ _
 exact A5 (A5 ⟨_,rfl,A5 (hQ _ n1 (Heap.SameBut.update ..))⟩)
theorem sL{Q:Option A1->A2->Prop}(hh:A.handled=none)(hit:s.heap.IsKeyIter it d es.size es.size ep)(hm:fb s.heap d es ep)
 (hQ:∀h',Heap.ExtBut it s.heap h'->Q none { s with heap:=h' }):A9 (Ay prog w) A (pyNext (.ref it)) Q E s:=by
 obtain⟨o,ho,hc,hd⟩:=id hit
 obtain⟨od,g1,g2,g3⟩:=hm
 have hT:=hit.typeIs
 unfold pyNext
 refine cc (wpAny_attempt (wpAny_callSpecial?_slot (name:=Bf "__next__") hT Bz (wpAny_call_entry Bz hT F.entry_dict_keyiterator_next ?_ (F.args_dict_keyiterator_next_1 _))))
 refine cc (A5 (cc (cc ?_)))
 first|refine cc (BR hT (A5 ?_))|refine cc (wpAny_typeNameOf_keyiter hT (A5 ?_))
 refine cc (wpAny_fieldsOf ho hd ?_)
 simp only[show Builtin.Dict_items.ownsTuple "dict_keyiterator"=false by decide,AM,if_false]
 show A9 _ _ (if(BH d==Cj)=true then _ else _) _ _ s
 rw[if_neg (show ¬((BH d==Cj)=true)from AD)]
 refine cc (A5 (cc (wpAny_dictEntries g1 g3 ?_)))
 rw[if_neg (by simp)]
 refine cc (A5 (cc (wpAny_dictEpoch g1 g3 ?_)))
 rw[if_neg (by simp)]
 refine A5 ?_
 simp only[show ¬((es.size:Int)<0)from by omega,if_false,Int.toNat_natCast,Array.getElem?_eq_none (A7 es.size)]
 refine cc ?_
 first|refine cc (BR hT (A5 ?_))|refine cc (wpAny_typeNameOf_keyiter hT (A5 ?_))
 show A9 _ _ (setField (.ref it) 0 .none >>= _) _ _ s
 refine cc (wpAny_setField ho hd (by simp) ?_)
 show A9 _ _ (newExc (.type "StopIteration") [] >>= _) _ _ _
 refine cc ?_
 simp only[newExc,newTuple]
 refine cc (AZ ?_ (by size_fits))
 refine cc (m:=firstArgMember _ _) (wpAny_of_eq (a:=Cj) (by first|rfl|(simp only[firstArgMember];rfl)) ?_)
 refine AZ ?_ (by size_fits)
 simp only[raiseNew]
 refine cc (wpAny_handled ?_)
 rw[show A.in1.handled=none from hh]
 refine cc (A5 (wpAny_throw ?_))
 refine cc (wpAny_isInstance (T:="StopIteration") (b:=true) ⟨_,Aq _ rfl,rfl⟩ isSubtype_stop ?_)
 exact A5 (hQ _ (((Heap.SameBut.update ..).extBut.push _).push _))
theorem oZ(hh:A.handled=none)(I d:Addr)(hne:d≠I)(es:Array Bk)(ep:Nat):Walks prog w A I [I,d] [I] es.size (fun i v=>∃e,es[i]?=some e/\v=e.key) (fun i h=>h.IsKeyIter I d i es.size ep/\fb h d es ep) where
 sub:=fun b hb=>by simp at hb;simp[hb]
 frame:=fun _ _ _ st hk=>⟨st.1.at fun o e=>hk I (by simp) o e,st.2.kept fun o e=>hk d (by simp) o e⟩
 item:=fun i s Q E hi st hQ=>sA st.1 st.2 hi fun h' n1 sb=>hQ _ h' s.toks ⟨es[i],by simp[hi],rfl⟩ ⟨n1,st.2.kept fun o e=>(sb.2 d hne).trans e⟩ fun b o hb e=>sb.extBut b o (fun h=>hb (by simp[h])) e
 done:=fun s Q E st hQ=>sL hh st.1 st.2 fun h' he=>hQ h' s.toks fun b o hb e=>he b o (fun h=>hb (by simp[h])) e
 self:=fun _ _ _ _ st hQ=>wpAny_pyIter_keyiter st.1 hQ
theorem om(lo:(d==Cv)=false):PySem.W.KdlSrc prog w "dict" d d es.size (fun i v=>∃e,es[i]?=some e/\v=e.key) (fun h=>fb h d es ep) where
 type:=fun _ hm=>hm.ty
 there:=fun _ hm=>⟨hm.lt,hm.lt⟩
 keep:=fun _ _ hm hk=>hm.kept fun o e=>hk d (.inl rfl) o e
 notList:=by decide
 notTuple:=by decide
 hint:=fun _ _ _ _ hm hq=>PySem.W.kdl_hint_dict hm.ty hq
 iter:=fun _ _ hh hm=>⟨_,_,(fun _ _ hq=>r9 lo hm hq),oZ hh _ d (AJ hm.lt) es ep,⟨⟨_,Aq _ rfl,rfl,rfl⟩,hm.kept fun o e=>A3 _ e⟩⟩
end
section
variable{X:Cx}
theorem rQ{P:Au}{w:AU}{xs:List SpE}{ys:List (SpK×Addr×A1)}(r:Cz PrS xs ys):(ys.map (entryOfKey (cW P w))).map (·.key)=xs.map fun x=>BH x.2.1:=by
 induction r with
 |nil=>rfl
 |cons h t ih=>simp only[Av,ih,h.2.1];rfl
theorem jq:∀xs:List SpE,Vals (xs.map fun x=>V.ref x.2.1) (xs.map fun x=>BH x.2.1)
 |[]=>.nil
 |x::xs=>.cons rfl (jq xs)
theorem kJ(hc:X.calm=true):br X (.type "list") (fun vs H Q=>∃p xs,vs=[.ref p]/\H p=some (.ext (bA X.prog X.w p xs))/\∀l,H l=none->Q (.ref l) (upd H l (.lst (xs.map fun x=>V.ref x.2.1)))):=by
 intro pins s σ H vs us Q I r z0;obtain⟨p,xs,ev,hp,q⟩:=z0;subst ev;obtain⟨u,rfl,ru⟩:=vals1 r;cases ru;obtain⟨⟨h1,h2,h3,ys,r1,o,es,ep,q1,q2,q3,q4⟩,_⟩:=I.hok p _ hp;have hz:es.size=xs.length:=by rw[<-B4,q4,A4,j2 r1]
 refine PySem.W.kdl_call (om (es:=es) (ep:=ep) h1) (I.ok.hd hc) ⟨o,q1,q2,q3⟩ (by rw[hz];exact h2) fun h' tk acc c kp hl it=>?_
 have ea:acc.toList=xs.map fun x=>BH x.2.1:=by
  rw[<-rQ (P:=X.prog) (w:=X.w) r1,<-q4];apply List.ext_getElem?;intro i;by_cases hi:i<es.size
  ·have hi':i<acc.size:=by rw[it.1];exact hi
   obtain⟨e,e1,e2⟩:=it.2 i acc[i] (by simp[hi']);simp[hi',hi]at e1 ⊢;rw[e2,<-e1]
  ·have hi':¬i<acc.size:=by rw[it.1];exact hi
   simp[hi,hi']
 refine⟨.ref s.heap.objs.size,_,I.laid (t':=tk) kp (A7 _) (show bo X.prog X.w _ h' _ (.lst _)from⟨by rw[A4];exact h2,_,c,jq xs,?_⟩),rfl,q _ (I.hok.fresh (A7 _))⟩;rw[<-ea,Array.toArray_toList];exact hl
def xA:RC:=fun ds M Q=>rn ds M Q\/∃l kvs,ds=[.ref l]/\M l=some (dsM kvs)/\∀p,M p=none->Q (.ref p) (aA M p (.lst (kvs.map fun x=>spD x.1)))
theorem ju{K:A0}{H:Hp}:∀{kvs:SpT} {xs:List SpE},xs.map (·.1)=kvs.map (·.1)->(∀x∈xs,bX K H x.2.1 x.1)->av K H (kvs.map fun x=>spD x.1) (xs.map fun x=>V.ref x.2.1)
 |[],[],_,_=>by rw[BF,BF];exact av.nil
 |y::kvs,x::xs,h,k=>by
  rw[Av,Av]at h
  injection h with e1 e2
  rw[Av,Av]
  exact av.cons (by rw[<-e1];exact jL (k x (by simp))) (ju e2 fun z hz=>k z (by simp[hz]))
 |[],_::_,h,_=>by cases h
 |_::_,[],h,_=>by cases h
theorem dJ(hc:X.calm=true):cL X (.type "list") xA:=by
 intro pins s σ H vs us Q I rv z0;obtain⟨ds,M,R,rs,a,q,fin⟩:=z0;rcases q with q|⟨l,kvs,ed,hl,q⟩
 ·exact tF pins s σ H vs us Q I rv ⟨ds,M,R,rs,a,q,fin⟩
 ·subst ed;obtain⟨v,rfl,r⟩:=bz rs;rw[Rep]at r;subst r;obtain⟨xs,h1,h2,h3,h4⟩:=a.dsp hl;exact kJ hc pins s σ H _ us Q I rv ⟨_,xs,rfl,h1 _ _,fun z hz=>fin (.ref z) _ _ _ (.new hz) (by rw[Rep]) (a.bF hz (ju h2 h3)) (q z (a.fresh hz))⟩
end
abbrev WK:=SpK×SpK
section
variable{P:Au}{w:AU}
def dE(P:Au)(w:AU)(h:Heap)(k:WK)(a:Addr):Prop:=∃o b c m,h.get? a=some o/\o.cls=.type "tuple"/\o.data=.seq #[.ref b,.ref c] m/\cJ P w h k.1 b/\cJ P w h k.2 c
theorem dE.inj{h:Heap}{a:Addr}{x y:WK}(p:dE P w h x a)(q:dE P w h y a):x=y:=by
 obtain⟨o,b,c,m,h1,h2,h3,h4,h5⟩:=p;obtain⟨o',b',c',m',g1,g2,g3,g4,g5⟩:=q;rw[h1]at g1;cases g1;rw[h3]at g3;injection g3 with e _;have e1:b=b'/\c=c':=by simpa using e
 obtain⟨rfl,rfl⟩:=e1;exact Prod.ext (h4.inj g4) (h5.inj g5)
theorem dE.keeps{h h':Heap}{k:WK}{a d:Addr}{o:Obj}{es:Array Bk}{ep:Nat}(p:dE P w h k a)(hd:h.get? d=some o)(he:o.data=.dict es ep)(sb:Cw d h h'):dE P w h' k a:=by
 obtain⟨oa,b,c,m,h1,h2,h3,h4,h5⟩:=p;have ne:a≠d:=fun z=>by rw[z,hd]at h1;cases h1;rw[he]at h3;cases h3
 exact⟨oa,b,c,m,(sb.2 a ne).trans h1,h2,h3,h4.keeps hd he sb,h5.keeps hd he sb⟩
def qP(P:Au)(w:AU)(k:WK):Int:=reduceHash (Builtin.Tuple.tupleHashOf [j4 P w k.1,j4 P w k.2])
theorem dE.hash{A:AQ}{E:A1->A2->Prop}{s:A2}{k:WK}{a:Addr}{Q:Int->A2->Prop}(hu:A.units+6<Bp)(p:dE P w s.heap k a)(q:Q (qP P w k) { s with toks:=s.toks+15 }):A9 (Ay P w) A (pyHash (.ref a)) Q E s:=by
 obtain⟨o,b,c,m,h1,h2,h3,h4,h5⟩:=p;obtain⟨hp,g,d,tk,os⟩:=s;show A9 _ _ (pyHashByItsType (.ref a)) _ _ _;refine PySem.W.pyHash_slot (T:="tuple") ⟨o,h1,h2⟩ F.slot_tuple_hash F.entry_tuple_hash (F.args_tuple_hash_1 _) rfl (.inr (by omega)) ?_;unfold CA.«tuple.__hash__»;simp only[<-BC]
 iterate 4 wp_step
 refine A5 ?_;refine cc (wpAny_tupleItemsOf h1 h3 ?_);refine cc ?_;simp only[Cc,Cs,C6,bind_assoc];refine cc (h4.hash (by show A.units+1+4<Bp;omega) ?_);refine cc (cJ.hash (by show A.units+1+4<Bp;omega) h5 ?_);refine A5 ?_;unfold retInt
 wp_walk
 exact⟨_,_,rfl,q⟩
def jO(k:WK):Cr:=.tuple [gm k.1,gm k.2]
theorem dE.reads{h:Heap}{k:WK}{a:Addr}(p:dE P w h k a):∃as,Reads h (.ref a) (jO k) as:=by obtain⟨o,b,c,m,h1,h2,h3,h4,h5⟩:=p;obtain⟨as,r1⟩:=h4.reads;obtain⟨bs,r2⟩:=h5.reads;exact⟨_,.tuple h1 h2 h3 (.cons r1 (.cons r2 .nil))⟩
theorem lC(x y:WK):(jO x).eqv (jO y)=decide (x=y):=by simp only[jO,Bi,Cn,Bool.and_true,gv];rw[Bool.eq_iff_iff];simp[Prod.ext_iff]
theorem dE.eq{A:AQ}{E:A1->A2->Prop}{s:A2}{x y:WK}{a b:Addr}{Q:Bool->A2->Prop}(hu:A.units+6<Bp)(p:dE P w s.heap x a)(p':dE P w s.heap y b)(q:Q (decide (x=y)) s):A9 (Ay P w) A (eqBool (.ref a) (.ref b)) Q E s:=by obtain⟨as,r1⟩:=p.reads;obtain⟨bs,r2⟩:=p'.reads;have hd:min (jO x).depth (jO y).depth<=4:=B8 (Nat.min_le_left _ _) (nbL rfl);have:=SeqAt.eqAt_reads (jO x) (jO y) A s (.ref a) (.ref b) as bs r1 r2 rfl rfl (by omega);rw[lC]at this;exact this P w E Q q
theorem cJ.rb{A:AQ}{E:A1->A2->Prop}{s:A2}{k:SpK}{a:Addr}{Q:Bool->A2->Prop}(i:Nat)(p:cJ P w s.heap k a)(q:Q true s):A9 (Ay P w) A (eqIsQuiet (i+1+1) (.ref a)) Q E s:=by obtain⟨o,b,c,m,h1,h2,h3,h4,h5⟩:=p;rw[eqIsQuiet.eq_2];refine cc (wpAny_specialOf ⟨o,h1,h2⟩ F.slot_tuple_eq.lookup ?_);refine cc (wpAny_isInstance ⟨o,h1,h2⟩ isSubtype_tuple_tuple ?_);simp only[BE,AM,if_false];refine cc (BG h1 h3 ?_);simp only[Option.getD_some,<-BC];refine cc ?_;simp only[Cc,Cs,C6,bind_assoc];refine cc (h4.quiet i ?_);simp only[BE,AM,if_false,C6];refine cc (h5.quiet i ?_);simp only[BE,AM,if_false,C6];refine A5 ?_;exact A5 q
theorem dE.quiet{A:AQ}{E:A1->A2->Prop}{s:A2}{k:WK}{a:Addr}{Q:Bool->A2->Prop}(p:dE P w s.heap k a)(q:Q true s):A9 (Ay P w) A (eqIsQuiet 8 (.ref a)) Q E s:=by obtain⟨o,b,c,m,h1,h2,h3,h4,h5⟩:=p;rw[eqIsQuiet.eq_2];refine cc (wpAny_specialOf ⟨o,h1,h2⟩ F.slot_tuple_eq.lookup ?_);refine cc (wpAny_isInstance ⟨o,h1,h2⟩ isSubtype_tuple_tuple ?_);simp only[BE,AM,if_false];refine cc (BG h1 h3 ?_);simp only[Option.getD_some,<-BC];refine cc ?_;simp only[Cc,Cs,C6,bind_assoc];refine cc (h4.rb 5 ?_);simp only[BE,AM,if_false,C6];refine cc (h5.rb 5 ?_);simp only[BE,AM,if_false,C6];refine A5 ?_;exact A5 q
def fc(P:Au)(w:AU):HeapKind P w WK where
 is:=dE P w
 hash:=qP P w
 draws:=fun _=>15
 room:=fun A=>A.units+6<Bp
 inj:=fun p q=>p.inj q
 keeps:=fun p hd he sb=>p.keeps hd he sb
 pyHash:=fun hu p q=>p.hash hu q
 eqBool:=fun hu p p' q=>p.eq hu p' q
 quiet:=fun p q=>p.quiet q
end
section
variable{X:Cx}{pins:List (Addr×Obj)}{σ:L2.St}{H H':Hp}{s:A2}{a b:Addr}{k:WK}
def g9(K:A0)(H:Hp)(b:Addr)(k:WK):Prop:=∃f g,SqT K H b [.ref f,.ref g]/\bX K H f k.1/\bX K H g k.2
theorem vB(I:L2.Inv X pins σ H s)(h:g9 X.K H b k):dE X.prog X.w s.heap k b:=by
 obtain⟨f,g,h1,h2,h3⟩:=h;obtain⟨its,r,ht,_⟩:=I.tuple h1;cases r with
 |cons a1 r=>cases r with
  |cons a2 r=>
   cases r
   cases a1
   cases a2
   obtain⟨o,q1,q2,m,q3⟩:=ht
   exact⟨o,f,g,m,q1,q2,q3,jb I h2,jb I h3⟩
abbrev WlE:=WK×Addr
def ysW(xs:List WlE):List (WK×Addr×A1):=xs.map fun x=>(x.1,x.2,.bool true)
def gN(xs:List WlE)(k:WK)(b:Addr):List WlE:=if(xs.any fun x=>decide (x.1=k))=true then xs else xs++[(k,b)]
theorem xF(xs:List WlE):(atKey (ysW xs) k).isSome=xs.any fun x=>decide (x.1=k):=by
 induction xs with
 |nil=>rfl
 |cons x xs ih=>
  rw[Cp,<-ih]
  by_cases e:x.1=k
  ·simp[ysW,atKey,B6,e]
  ·simp[ysW,atKey,B6,e]
theorem qN(xs:List WlE):storedH (ysW xs) k b (.bool true)=ysW (gN xs k b):=by
 unfold storedH gN;rw[xF];by_cases e:(xs.any fun x=>decide (x.1=k))=true
 ·rw[if_pos e,if_pos e];unfold ysW;rw[C3];refine List.map_congr_left fun x _=>?_;show putAt k (.bool true) (x.1,x.2,Value.bool true)=_;unfold putAt;split<;>rfl
 ·rw[if_neg e,if_neg e];unfold ysW;rw[B0];rfl
theorem kT(xs:List WlE):(ysW xs).map (·.1)=xs.map (·.1):=by unfold ysW;rw[C3];rfl
def dwF(P:Au)(w:AU)(a:Addr)(xs:List WlE):Heap->Prop:=fun h=>(a==Cv)=false/\xs.length<=AI/\(xs.map (·.1)).Nodup/\∃o es ep,h.get? a=some o/\o.ExactDict/\o.data=.dict es ep/\es.toList=(ysW xs).map (entryOfKey (fc P w))
theorem ql{P:Au}{w:AU}{xs:List WlE}(h1 h2:Heap)(h:dwF P w a xs h1)(k:∀o,h1.get? a=some o->h2.get? a=some o):dwF P w a xs h2:=by obtain⟨p1,p2,p3,o,es,ep,q1,q⟩:=h;exact⟨p1,p2,p3,o,es,ep,k o q1,q⟩
theorem sv(xs:List WlE)(k:WK)(b:Addr):(gN xs k b).length<=xs.length+1:=by
 unfold gN;split
 ·omega
 ·simp
theorem wW{A:AQ}{E:A1->A2->Prop}{Q:Unit->A2->Prop}{xs:List WlE}(hu:A.units+8<Bp)(I:L2.Inv X pins σ H s)(e:H a=some (.ext (dwF X.prog X.w a xs)))(hk:∀x∈xs,g9 X.K H x.2 x.1)(hb:g9 X.K H b k)(hl:xs.length<AI)
 (h:∀s',L2.Inv X pins σ (upd H a (.ext (dwF X.prog X.w a (gN xs k b)))) s'->Q () s'):A9 (Ay X.prog X.w) A (setItem (.ref a) (.ref b) (.bool true)) Q E s:=by
 obtain⟨⟨h1,h2,h3,o,es,ep,q1,q2,q3,q4⟩,_⟩:=I.hok a _ e
 have dd:s.heap.DictOfH (fc X.prog X.w) a (ysW xs):=⟨o,es,ep,q1,q2,q3,q4,fun x hx=>by
  obtain⟨y,hy,rfl⟩:=Bo.mp hx
  exact vB I (hk y hy),by rw[kT];exact h3⟩
 refine wpAny_setItem_heap (knd:=fc X.prog X.w) (hsz:=by unfold ysW;rw[A4];exact h2) (show A.in1.units+6<Bp by show A.units+1+6<Bp;omega) (vB I hb) dd fun h' dd' hs=>h _ ?_
 rw[qN]at dd'
 obtain⟨q,es,ep,hq,q2,q3,q4,_,q5⟩:=dd'
 refine jz I (by rw[e];exact True.intro) hs ⟨q,hq⟩ ⟨⟨h1,?_,?_,q,es,ep,hq,q2,q3,q4⟩,⟨q,hq⟩,fun h1 h2 x y=>ql h1 h2 x y⟩
 ·have:=sv xs k b;omega
 ·rw[<-kT];exact q5
theorem xl(I:L2.Inv X pins σ H s):L2.Inv X pins σ (upd H s.heap.objs.size (.ext (dwF X.prog X.w s.heap.objs.size []))) { s with heap:=s.heap.push { cls:=.type "dict",data:=.dict #[] } }:=
 I.laid (a:=s.heap.objs.size) (t':=s.toks) (fun _ _ q=>A3 _ q) (A7 _)
  ⟨⟨beq_eq_false_iff_ne.mpr (Ne.symm (AJ I.big)),B2 _,List.nodup_nil,_,#[],0,Aq _ rfl,⟨rfl,rfl,rfl⟩,rfl,rfl⟩,⟨_,Aq _ rfl⟩,fun h1 h2 x y=>ql h1 h2 x y⟩
end
section
variable{prog:Au}{w:AU}{A:AQ}{E:A1->A2->Prop}{s:A2}
theorem iE{d:Addr}(hd:(d==Cv)=false):MeetsIn prog w (CA.«dict.__len__» ⟨[.ref d],[]⟩) (fun _ R s=>∃es ep,fb s.heap d es ep/\R (.ok (.ret (.int es.size s.toks))) { s with toks:=s.toks+1 }):=
 .of_wp fun A R s z=>by
  obtain⟨es,ep,⟨o,ho,hc,hdat⟩,h⟩:=z
  show A9 _ _ (dictSize d >>= _) _ _ s
  unfold dictSize
  refine cc (cc (wpAny_dictEntries ho hdat (A5 ?_)))
  show A9 _ _ (Builtin.Dict.pendingCount d >>= _) _ _ s
  refine cc (wpAny_pendingCount_other hd ?_)
  refine wpAny_ret_mkInt ?_
  rw[Nat.add_zero];exact h
theorem jP{d:Addr}{es:Array Bk}{ep:Nat}{Q:A1->A2->Prop}(hd:(d==Cv)=false)(hm:fb s.heap d es ep)(hfit:(es.size:Int)<2^63)
 (h:Q (.int es.size (s.toks+1)) { s with toks:=s.toks+1+1 }):A9 (Ay prog w) A (call (.builtin "len") [.ref d]) Q E s:=by
 refine Calls.call_function_entry kind_len plain_len entry_len (args_len1 _) ?_
 unfold CA.«len»
 refine cc (m:=oneArg "len" _) (A5 ?_)
 refine cc (m:=callSpecial? (.ref d) (Bf "__len__")) (wpAny_callSpecial?_slot (name:=Bf "__len__") hm.ty F.slot_dict_len
  (call_meetsIn F.slot_dict_len hm.ty F.entry_dict_len (F.args_dict_len_1 _) (iE hd) ⟨es,ep,hm,?_⟩))
 show A9 _ _ _ _ _ { s with toks:=s.toks+1 }
 refine cc (Br (A5 ?_))
 refine cc (Ci ?_)
 show A9 _ _ (if((es.size:Nat):Int)<0 then _ else _) _ _ _
 rw[if_neg (by omega)]
 show A9 _ _ (if((es.size:Nat):Int)≥2^63 then _ else _) _ _ _
 rw[if_neg (by omega)]
 exact cc (wpAny_mkInt (A5 ⟨_,rfl,h⟩))
end
def wlD(k:WK):D:=.tup [spD k.1,spD k.2]
section
variable{K:A0}{H H':Hp}{M:MH}{a b:Addr}{k:WK}
theorem yz{v:V}(r:Rep K H (wlD k) v):∃b,v=.ref b/\g9 K H b k:=by unfold wlD at r;rw[Rep]at r;obtain⟨b,xs,rfl,hx,rs⟩:=r;obtain⟨v1,v2,rfl,r1,r2⟩:=dr rs;obtain⟨f,rfl,hf⟩:=i9 r1;obtain⟨g,rfl,hg⟩:=i9 r2;exact⟨b,rfl,f,g,hx,hf,hg⟩
theorem vR(h:g9 K H b k):Rep K H (wlD k) (.ref b):=by obtain⟨f,g,hx,hf,hg⟩:=h;unfold wlD;rw[Rep];exact⟨b,_,rfl,hx,.cons (jL hf) (.cons (jL hg) .nil)⟩
theorem g9.mono(g:Grow K H H')(h:g9 K H b k):g9 K H' b k:=by obtain⟨f,q,hx,hf,hg⟩:=h;exact⟨f,q,g.t _ _ hx,hf.mono g,hg.mono g⟩
def dwA(ks:List WK):A0->Hp->Addr->Prop:=fun K H a=>∃xs:List WlE,(∀P w,H a=some (.ext (dwF P w a xs)))/\xs.map (·.1)=ks/\∀x∈xs,g9 K H x.2 x.1
def dwM(ks:List WK):MO:=.gen (dwA ks)
theorem kB{ks:List WK}(h:dwA ks K H a)(g:Grow K H H')(e:H' a=H a):dwA ks K H' a:=by obtain⟨xs,h1,h2,h3⟩:=h;exact⟨xs,fun P w=>e.trans (h1 P w),h2,fun x hx=>(h3 x hx).mono g⟩
theorem Abs.dw{ks:List WK}(h:Abs K H M)(e:M a=some (dwM ks)):dwA ks K H a:=(h a _ e).1
def addW(ks:List WK)(k:WK):List WK:=if k∈ks then ks else ks++[k]
theorem pF(xs:List WlE)(k:WK)(b:Addr):(gN xs k b).map (·.1)=addW (xs.map (·.1)) k:=by
 have e:(xs.any fun x=>decide (x.1=k))=true↔k∈xs.map (·.1):=by simp[List.any_eq_true]
 unfold gN addW;by_cases h:k∈xs.map (·.1)
 ·rw[if_pos h,if_pos (e.mpr h)]
 ·rw[if_neg h,if_neg (fun z=>h (e.mp z)),B0];rfl
end
section
variable{X:Cx}
def uM:TD:=fun _ M Q=>∀p,M p=none->Q (.ref p) (aA M p (dwM []))
theorem pT{pos:Pos}:DE X (.Dict [] [] pos) uM:=fun pins s σ H Q I z=>by
 obtain⟨δ,M,R,hs,hM,q,fin⟩:=z;have hn:H s.heap.objs.size=none:=I.hok.fresh (A7 _);refine wpAny_Dict_empty ⟨.ref s.heap.objs.size,_,xl I,rfl,fin _ _ _ _ (.new hn) (by rw[Rep]) (fun c u e=>?_) (q _ (hM.fresh hn))⟩;by_cases ne:c=s.heap.objs.size
 ·subst ne;rw[ag]at e;cases e;exact⟨⟨[],fun P w=>aD,rfl,fun x hx=>nomatch hx⟩,by rw[aD];simp,fun H' g e=>kB ⟨[],fun P w=>aD,rfl,fun x hx=>nomatch hx⟩ g e⟩
 ·rw[ao ne]at e;exact(hM c u e).dt (.new hn) (aF ne)
def nL(td ty:TD):TSD:=fun B δ M=>td δ M fun x M2=>ty δ M2 fun y M3=>∃l ks k,x=.ref l/\y=wlD k/\M3 l=some (dwM ks)/\ks.length<1000000/\B.nx δ (aA M3 l (dwM (addW ks k)))
theorem rE{o i:Expr}{td ty:TD}{j:Nat}{pos pos' cp:Pos}(hu:X.A.units+66<Bp)(ho:DE X o td)(hi:DE X i ty)(hs:swapsWith (.Constant (.bool true) j cp) (some (.Subscript o i pos')) pos.line X.env=pure false:=by rfl):DSt X (.Assign [.Subscript o i pos'] (.Constant (.bool true) j cp) pos) (nL td ty):=by
 intro pins s σ H D I z;obtain⟨δ,M,hs',hM,B,ok,q⟩:=z;refine wpAny_Assign_Subscript (thn ((eP (i:=true) (j:=j) (pos:=cp) (X:=X)) pins s σ H _ I ⟨δ,M,fun d M1=>d=.bl true/\M1=M,hs',hM,⟨rfl,rfl⟩,fun d M1 v H1 g1 r1 a1 z=>(show v=.bl true/\Grow X.K H H1/\Abs X.K H1 M from by obtain⟨rfl,rfl⟩:=z;rw[Rep]at r1;exact⟨r1,g1,a1⟩)⟩) fun r s1 z=>?_) hs;obtain⟨v,H1,I1,rv,rfl,g1,a1⟩:=z;obtain rfl:r=.bool true:=rv;refine thn (ho pins s1 σ H1 _ I1 ⟨δ,M,_,hs'.mono g1,a1,q,fun x M2 u H2 g2 r2 a2 q2=>(show ∃x M2,Grow X.K H1 H2/\Rep X.K H2 x u/\Abs X.K H2 M2/\_ from⟨x,M2,g2,r2,a2,q2⟩)⟩) fun u s2 z=>?_;obtain⟨v2,H2,I2,rx,x,M2,g2,r2,a2,q2⟩:=z;refine thn (hi pins s2 σ H2 _ I2 ⟨δ,M2,_,(hs'.mono g1).mono g2,a2,q2,fun y M3 u H3 g3 r3 a3 q3=>(show ∃y M3,Grow X.K H2 H3/\Rep X.K H3 y u/\Abs X.K H3 M3/\_ from⟨y,M3,g3,r3,a3,q3⟩)⟩) fun iv s3 z=>?_;obtain⟨v3,H3,I3,ry,y,M3,g3,r3,a3,l,ks,k,rfl,rfl,hl,hn,q3⟩:=z;rw[Rep]at r2;subst r2;cases rx;obtain⟨b,rfl,sp⟩:=yz r3;cases ry;obtain⟨xs,h1,h2,h3⟩:=a3.dw hl;have hlen:xs.length=ks.length:=by rw[<-h2,A4]
 have sz:1000000<=AI:=nbL rfl;have g4:Grow X.K H3 (upd H3 l (.ext (dwF X.prog X.w l (gN xs k b)))):=.ext (h1 X.prog X.w);refine wW (by omega) I3 (h1 _ _) h3 sp (by omega) fun s4 I4=>⟨σ,_,I4,ok.nx _ _ _ _ (((g1.trans g2).trans g3).trans g4) (hs'.mono (((g1.trans g2).trans g3).trans g4)) (fun c u e=>?_) q3⟩
 have W:∀x∈gN xs k b,g9 X.K H3 x.2 x.1:=fun x hx=>by
  unfold gN at hx;split at hx
  ·exact h3 x hx
  ·rcases AH.mp hx with y|y
   ·exact h3 x y
   ·rw[AY.mp y];exact sp
 by_cases ne:c=l
 ·subst ne;rw[ag]at e;cases e;have D:dwA (addW ks k) X.K (upd H3 c (.ext (dwF X.prog X.w c (gN xs k b)))) c:=⟨_,fun P w=>aD,by rw[pF,h2],fun x hx=>(W x hx).mono g4⟩;exact⟨D,by rw[aD];simp,fun H' g e=>kB D g e⟩
 ·rw[ao ne]at e;exact(a3 c u e).dt g4 (aF ne)
theorem xE(P:Au)(w:AU)(xs:List WlE):((ysW xs).map (entryOfKey (fc P w))).map (·.key)=xs.map fun x=>BH x.2:=by unfold ysW;rw[C3,C3];rfl
theorem qW:∀xs:List WlE,Vals (xs.map fun x=>V.ref x.2) (xs.map fun x=>BH x.2)
 |[]=>.nil
 |x::xs=>.cons rfl (qW xs)
theorem pL{K:A0}{H:Hp}:∀{xs:List WlE},(∀x∈xs,g9 K H x.2 x.1)->av K H ((xs.map (·.1)).map wlD) (xs.map fun x=>V.ref x.2)
 |[],_=>by rw[BF,BF,BF];exact av.nil
 |x::xs,h=>by
  rw[Av,Av,Av]
  exact av.cons (vR (h x (by simp))) (pL fun z hz=>h z (by simp[hz]))
def wH:RC:=fun ds M Q=>∃l ks,ds=[.ref l]/\M l=some (dwM ks)/\∀p,M p=none->Q (.ref p) (aA M p (.lst (ks.map wlD)))
theorem qS(hc:X.calm=true):cL X (.type "list") wH:=by
 intro pins s σ H vs us Q I rv z0;obtain⟨ds,M,R,rs,aM,⟨p,ks,rfl,hl,q⟩,fin⟩:=z0;obtain⟨v,rfl,r⟩:=bz rs;rw[Rep]at r;subst r;obtain⟨u,rfl,ru⟩:=vals1 rv;cases ru;obtain⟨xs,h1',h2',h3'⟩:=aM.dw hl;obtain⟨⟨h1,h2,h3,o,es,ep,q1,q2,q3,q4⟩,_⟩:=I.hok p _ (h1' X.prog X.w);have hz:es.size=xs.length:=by rw[<-B4,q4,A4];unfold ysW;rw[A4]
 refine PySem.W.kdl_call (om (es:=es) (ep:=ep) h1) (I.ok.hd hc) ⟨o,q1,q2,q3⟩ (by rw[hz];exact h2) fun h' tk acc c kp hl' it=>?_
 have ea:acc.toList=xs.map fun x=>BH x.2:=by
  rw[<-xE X.prog X.w,<-q4];apply List.ext_getElem?;intro i;by_cases hi:i<es.size
  ·have hi':i<acc.size:=by rw[it.1];exact hi
   obtain⟨e,e1,e2⟩:=it.2 i acc[i] (by simp[hi']);simp[hi',hi]at e1 ⊢;rw[e2,<-e1]
  ·have hi':¬i<acc.size:=by rw[it.1];exact hi
   simp[hi,hi']
 have hn:H s.heap.objs.size=none:=I.hok.fresh (A7 _);refine⟨.ref s.heap.objs.size,_,I.laid (t':=tk) (o:=.lst (xs.map fun x=>V.ref x.2)) kp (A7 _) (show bo X.prog X.w _ h' _ (.lst _)from⟨by rw[A4];exact h2,_,c,qW xs,?_⟩),rfl,fin _ _ _ _ (.new hn) (by rw[Rep]) (aM.bF hn (by rw[<-h2'];exact pL h3')) (q _ (aM.fresh hn))⟩;rw[<-ea,Array.toArray_toList];exact hl'
def zF:RC:=fun ds M Q=>∃l ks,ds=[.ref l]/\M l=some (dwM ks)/\Q (.int (ks.length:Int)) M
theorem sX:cL X (.builtin "len") zF:=by
 intro pins s σ H vs us Q I rv z0;obtain⟨ds,M,R,rs,aM,⟨p,ks,rfl,hl,q⟩,fin⟩:=z0;obtain⟨v,rfl,r⟩:=bz rs;rw[Rep]at r;subst r;obtain⟨u,rfl,ru⟩:=vals1 rv;cases ru;obtain⟨xs,h1',h2',h3'⟩:=aM.dw hl;obtain⟨⟨h1,h2,h3,o,es,ep,q1,q2,q3,q4⟩,_⟩:=I.hok p _ (h1' X.prog X.w);have hz:es.size=ks.length:=by rw[<-B4,q4,A4];unfold ysW;rw[A4,<-h2',A4]
 have hz2:es.size=xs.length:=by rw[hz,<-h2',A4]
 refine jP h1 ⟨o,q1,q2,q3⟩ (by rw[hz2];rw[C4]at h2;omega) ⟨.int ks.length,H,I.tok _,⟨_,by rw[hz]⟩,fin _ _ _ _ .refl (by rw[Rep]) aM q⟩
end
abbrev Sq:=Rat×Rat
abbrev Pc:=Sq×Sq
def spq(v:Sq):D:=Ma.spt v.1 v.2
def kq(v:Sq):SpK:=(v.1.num,(v.1.den:Int),v.2.num,(v.2.den:Int))
theorem fq{u v:Sq}(h:kq u=kq v):u=v:=by simp only[kq,Prod.mk.injEq]at h;obtain⟨a,b,c,d⟩:=h;exact Prod.ext (Rat.ext a (by omega)) (Rat.ext c (by omega))
def pcq(z:Pc):D:=.tup [spq z.1,spq z.2]
def wkq(z:Pc):WK:=(kq z.1,kq z.2)
theorem nH{y z:Pc}(h:wkq y=wkq z):y=z:=by simp only[wkq,Prod.mk.injEq]at h;exact Prod.ext (fq h.1) (fq h.2)
def BS(v:Sq):Prop:=Ma.Bq 100 v.1/\Ma.Bq 100 v.2
def spP(v:Sq):Cr:=gm (kq v)
theorem mR(u v:Sq):Bi (spP u) (spP v)=decide (u=v):=by unfold spP;rw[gv,decide_eq_decide];exact⟨fq,fun e=>by rw[e]⟩
def plq(u v:Sq):Prop:=Ma.ah u.1 u.2 v.1 v.2
instance(u v:Sq):Decidable (plq u v):=inferInstanceAs (Decidable (Ma.ah _ _ _ _))
def pcl(y z:Pc):Prop:=plq y.1 z.1\/y.1=z.1/\plq y.2 z.2
theorem a9(u v:Sq)(h:plq u v):¬plq v u:=by unfold plq Ma.ah at *;grind
theorem aR(u:Sq):¬plq u u:=fun h=>a9 u u h h
theorem df{u v w:Sq}(h:plq u v)(g:plq v w):plq u w:=by unfold plq Ma.ah at *;grind
theorem c9{u v:Sq}(h:u≠v)(g:¬plq u v):plq v u:=by obtain⟨a,b⟩:=u;obtain⟨c,d⟩:=v;have h:¬(a=c/\b=d):=fun z=>h (by rw[z.1,z.2]);unfold plq Ma.ah at *;dsimp only at *;grind
theorem p7(y z:Pc)(h:pcl y z):¬pcl z y:=by
 rintro(g|⟨e,g⟩)
 ·rcases h with h|⟨e,h⟩
  ·exact a9 _ _ h g
  ·rw[e]at g;exact aR _ g
 ·rcases h with h|⟨_,h⟩
  ·rw[e]at h;exact aR _ h
  ·exact a9 _ _ h g
theorem uniq{α:Type}{r:α->α->Prop}(as:∀a b,r a b->¬r b a):∀{l m:List α},l.Pairwise r->m.Pairwise r->(∀v,v∈l↔v∈m)->l=m
 |[],[],_,_,_=>rfl
 |[],b::m,_,_,h=>nomatch (h b).mpr AW
 |a::l,[],_,_,h=>nomatch (h a).mp AW
 |a::l,b::m,hl,hm,h=>by
  rw[List.pairwise_cons]at hl hm
  have ir:∀x,¬r x x:=fun x q=>as _ _ q q
  have e:a=b:=B3 fun ne=>by
   rcases Ba.mp ((h a).mp AW)with z|z
   ·exact ne z
   ·rcases Ba.mp ((h b).mpr AW)with y|y
    ·exact ne y.symm
    ·exact as _ _ (hl.1 b y) (hm.1 a z)
  subst e
  rw[uniq as hl.2 hm.2 fun v=>⟨fun hv=>?_,fun hv=>?_⟩]
  ·rcases Ba.mp ((h v).mp (AV _ hv))with z|z
   ·subst z;exact absurd (hl.1 v hv) (ir v)
   ·exact z
  ·rcases Ba.mp ((h v).mpr (AV _ hv))with z|z
   ·subst z;exact absurd (hm.1 v hv) (ir v)
   ·exact z
theorem vC{α:Type}{r:α->α->Prop}(as:∀a b,r a b->¬r b a){l:List α}(h:l.Pairwise r):l.Nodup:=h.imp fun{a b} q e=>by subst e;exact as _ _ q q
theorem wR{α:Type}{l m:List α}(hl:l.Nodup)(hm:m.Nodup)(h:∀v,v∈l↔v∈m):l.length=m.length:=((List.perm_ext_iff_of_nodup hl hm).mpr h).length_eq
theorem sR{α:Type}{l:List α}{j:Nat}{u v:α}:v∈fP l j u↔v∈l\/v=u:=by
 have e:v∈l↔v∈l.take j\/v∈l.drop j:=by rw[<-AH,List.take_append_drop]
 unfold fP;rw[AH,Ba,e];constructor
 ·rintro(h|h|h)
  ·exact .inl (.inl h)
  ·exact .inr h
  ·exact .inl (.inr h)
 ·rintro((h|h)|h)
  ·exact .inl h
  ·exact .inr (.inr h)
  ·exact .inr (.inl h)
theorem w8{l:List Sq}{j:Nat}{u:Sq}(h:l.Pairwise plq)(h1:∀i x,i<j->l[i]?=some x->plq x u)(h2:∀i x,j<=i->l[i]?=some x->plq u x):(fP l j u).Pairwise plq:=by
 have a1:∀x∈l.take j,plq x u:=fun x hx=>by obtain⟨i,hi,e⟩:=C0 hx;rw[Bu]at hi;rw[List.getElem_take]at e;exact h1 i x (by omega) (by rw[<-e];exact AE (by omega))
 have a2:∀x∈l.drop j,plq u x:=fun x hx=>by obtain⟨i,hi,e⟩:=C0 hx;rw[List.length_drop]at hi;rw[List.getElem_drop]at e;exact h2 (j+i) x (by omega) (by rw[<-e];exact AE (by omega))
 have hs:(l.take j++l.drop j).Pairwise plq:=by rw[List.take_append_drop];exact h
 rw[List.pairwise_append]at hs;unfold fP;rw[List.pairwise_append,List.pairwise_cons];refine⟨hs.1,⟨a2,hs.2.1⟩,fun x hx y hy=>?_⟩;rcases Ba.mp hy with z|z
 ·rw[z];exact a1 x hx
 ·exact hs.2.2 x hx y z
theorem zq{l:List Sq}{j:Nat}{u:Sq}(h:l.Pairwise plq)(hj:∀x,l[j]?=some x->¬plq x u):∀i x,j<=i->l[i]?=some x->¬plq x u:=fun i x hi e hx=>by
 by_cases z:i=j
 ·subst z;exact hj x e hx
 ·obtain⟨li,ei⟩:=A6.mp e;have lj:j<l.length:=by omega
  have:=AL.mp h j i lj li (by omega);rw[ei]at this;exact hj _ (AE lj) (df this hx)
theorem tG{l:List Sq}{j:Nat}{u:Sq}(h:l.Pairwise plq)(h1:∀i x,i<j->l[i]?=some x->plq x u)(h2:∀i x,j<=i->l[i]?=some x->¬plq x u)(nu:u∉l):(fP l j u).Pairwise plq:=w8 h h1 fun i x hi e=>c9 (fun z=>nu (by rw[<-z];exact Ax e)) (h2 i x hi e)
def Nxt(l:List Sq)(z:Pc):Prop:=∃i:Nat,l[i]?=some z.1/\l[i+1]?=some z.2
theorem Nxt.lt{l:List Sq}{z:Pc}(h:l.Pairwise plq)(n:Nxt l z):plq z.1 z.2:=by obtain⟨i,e1,e2⟩:=n;obtain⟨l1,e1⟩:=A6.mp e1;obtain⟨l2,e2⟩:=A6.mp e2;have:=AL.mp h i (i+1) l1 l2 (by omega);rw[e1,e2]at this;exact this
def eaq(t b X Y:Int)(w:Wl):Sq:=(Ma.ut t b X 1 w.1,Ma.ut t b Y 1 w.2.1)
def ebq(t b X Y:Int)(w:Wl):Sq:=(Ma.ut t b X 1 w.2.2.1,Ma.ut t b Y 1 w.2.2.2)
def tlD(U V:Wl):D:=gK U.1 U.2.1 U.2.2.1 U.2.2.2 V.1 V.2.1 V.2.2.1 V.2.2.2
def pcP(y:Pc):Cr:=jO (wkq y)
theorem jY{M:MH}:∀ys:List Pc,Pds M (ys.map pcq) (ys.map pcP)
 |[]=>.nil
 |y::ys=>.cons (Pd.of rfl) (jY ys)
theorem nI:∀ys:List Pc,PyData.canLayAll0 (ys.map pcP)=true
 |[]=>rfl
 |y::ys=>nI ys
theorem tV(y z:Pc):Bi (pcP y) (pcP z)=decide (y=z):=by unfold pcP;rw[lC,decide_eq_decide];exact⟨nH,fun e=>by rw[e]⟩
def zps(c:List Sq):List Pc:=c.zip c.tail
theorem nF{c:List Sq}{y:Pc}:y∈zps c↔Nxt c y:=by unfold zps Nxt;rw[List.mem_iff_getElem?];refine exists_congr fun i=>?_;rw[List.getElem?_zip_eq_some,List.getElem?_tail]
theorem rK(c:List Sq)(i:Nat):(((c.map spq)[i]?).bind fun d=>(((c.tail).map spq)[i]?).map fun e=>D.tup [d,e])=((zps c)[i]?).map pcq:=by
 unfold zps List.zip;rw[Az,Az,List.getElem?_zipWith];cases c[i]? with
 |none=>rfl
 |some a=>
  cases c.tail[i]? with
  |none=>rfl
  |some b=>rfl
theorem rH{α:Type}(f:α->D)(l:List α):cutD (l.map f) (some 1) none=l.tail.map f:=by
 unfold cutD;rw[show(1:Int)=((1:Nat):Int)from rfl,HT.n4,HT.lB,A4,<-List.map_drop,<-List.map_take];cases l with
 |nil=>rfl
 |cons a l=>simp
theorem gu{M M':MH}{p:Addr}(sb:Sub M M')(hp:M' p=none):M p=none:=by
 cases e:M p with
 |none=>rfl
 |some o=>rw[sb _ _ e]at hp;cases hp
theorem pJ{w:Wl}(h:Bw 30 w):Bd 6 w.1/\Bd 6 w.2.1/\Bd 6 w.2.2.1/\Bd 6 w.2.2.2:=by
 have:=h.u;unfold Uok at this;refine⟨?_,?_,?_,?_⟩
 ·show w.1.natAbs<2^6;omega
 ·show w.2.1.natAbs<2^6;omega
 ·show w.2.2.1.natAbs<2^6;omega
 ·show w.2.2.2.natAbs<2^6;omega
theorem qT{w o:Wl}(hw:Bw 30 w)(ho:Bw 30 o):tlD w o=.non\/(∃x y m,tlD w o=.tup [.int x,.int y,.int m]/\Bd 30 x/\Bd 30 y/\Bd 30 m/\0<m)\/ ∃x y u v,tlD w o=.tup [.tup [.int x,.int y],.tup [.int u,.int v]]/\Bd 6 x/\Bd 6 y/\Bd 6 u/\Bd 6 v:=by obtain⟨a1,a2,a3,a4⟩:=pJ hw;obtain⟨b1,b2,b3,b4⟩:=pJ ho;exact l5 a1 a2 a3 a4 b1 b2 b3 b4
theorem iW{t b x y X' m p:Int}(S:Scl t b x y)(hX:X'=x\/X'=y)(hm:Bd 30 m)(h0:0<m)(hp:Bd 30 p):Ma.Bq 100 (Ma.ut t b X' m p):=by
 have bt:Bd 30 t:=by have:=S.t0;have:=S.t1;show t.natAbs<2^30;omega
 have bb:Bd 30 b:=by have:=S.b0;have:=S.b1;show b.natAbs<2^30;omega
 have bx:Bd 58 X':=by have:=S.x0;have:=S.x1;have:=S.y0;have:=S.y1;show X'.natAbs<2^58;omega
 have hb0:b*m≠0:=by have:=BQ S.b0 h0;omega
 exact .divInt hb0 ((((hp.mul bt).mono (show 30+30<=88 by decide)).add ((bx.mul hm).mono (show 58+30<=88 by decide))).mono (by decide)) ((bb.mul hm).mono (by decide))
theorem xS{t b X Y:Int}(S:Scl t b X Y){w:Wl}(h:Bw 30 w):BS (eaq t b X Y w)/\BS (ebq t b X Y w):=by
 obtain⟨a1,a2,a3,a4⟩:=pJ h;have o:Bd 30 1:=by decide
 exact⟨⟨iW S (.inl rfl) o (by decide) (a1.mono (by decide)),iW S (.inr rfl) o (by decide) (a2.mono (by decide))⟩,iW S (.inl rfl) o (by decide) (a3.mono (by decide)),iW S (.inr rfl) o (by decide) (a4.mono (by decide))⟩
def addQ(us:List Sq)(u:Sq):List Sq:=if u∈us then us else us++[u]
theorem gY{us:List Sq}{u v:Sq}:v∈addQ us u↔v∈us\/v=u:=by
 unfold addQ;split
 ·rename_i h;exact⟨.inl,fun q=>q.elim id fun e=>by rw[e];exact h⟩
 ·rw[AH,AY]
theorem jS{us:List Sq}{u:Sq}(h:us.Nodup):(addQ us u).Nodup:=by
 unfold addQ;split
 ·exact h
 ·rename_i n;rw[List.nodup_append];exact⟨h,by simp,fun a ha b hb e=>by rw[AY.mp hb]at e;subst e;exact n ha⟩
theorem hV(us:List Sq)(u:Sq):(addQ us u).length<=us.length+1:=by
 unfold addQ;split
 ·omega
 ·simp
def ksT(us:List Sq):SpT:=us.map fun u=>(kq u,D.bl true)
theorem kf(us:List Sq):(ksT us).length=us.length:=A4 ..
theorem kZ(us:List Sq):(ksT us).map (fun x=>spD x.1)=us.map spq:=by unfold ksT;rw[C3];rfl
theorem ka(us:List Sq)(u:Sq):putD (ksT us) (kq u) (.bl true)=ksT (addQ us u):=by
 have e:((ksT us).any fun x=>decide (x.1=kq u))=true↔u∈us:=by
  unfold ksT;rw[List.any_map,List.any_eq_true];constructor
  ·rintro⟨v,hv,h⟩;rw[<-fq (of_decide_eq_true h)];exact hv
  ·exact fun h=>⟨u,h,decide_eq_true rfl⟩
 unfold putD addQ;by_cases h:u∈us
 ·rw[if_pos (e.mpr h),if_pos h];refine(List.map_congr_left fun x hx=>?_).trans (List.map_id _);obtain⟨v,hv,rfl⟩:=Bo.mp hx;dsimp only;split<;>rfl
 ·rw[if_neg (fun q=>h (e.mp q)),if_neg h];unfold ksT;rw[B0];rfl
def j3(ps:List Pc)(y:Pc):List Pc:=if y∈ps then ps else ps++[y]
theorem qO{ps:List Pc}{y z:Pc}:z∈j3 ps y↔z∈ps\/z=y:=by
 unfold j3;split
 ·rename_i h;exact⟨.inl,fun q=>q.elim id fun e=>by rw[e];exact h⟩
 ·rw[AH,AY]
theorem uk{ps:List Pc}{y:Pc}(h:ps.Nodup):(j3 ps y).Nodup:=by
 unfold j3;split
 ·exact h
 ·rename_i n;rw[List.nodup_append];exact⟨h,by simp,fun a ha b hb e=>by rw[AY.mp hb]at e;subst e;exact n ha⟩
theorem qQ(ps:List Pc)(y:Pc):(j3 ps y).length<=ps.length+1:=by
 unfold j3;split
 ·omega
 ·simp
theorem rO(ps:List Pc)(y:Pc):addW (ps.map wkq) (wkq y)=(j3 ps y).map wkq:=by
 unfold addW j3;by_cases h:y∈ps
 ·rw[if_pos h,if_pos (Bo.mpr ⟨y,h,rfl⟩)]
 ·rw[if_neg h,if_neg,B0]
  ·rfl
  ·intro q;obtain⟨z,hz,e⟩:=Bo.mp q;rw[nH e]at hz;exact h hz
theorem t7{u v:Sq}(h:spq u=spq v):u=v:=by have h3:spD (kq u)=spD (kq v):=h;refine fq ?_;unfold spD at h3;simp only[D.tup.injEq,List.cons.injEq,D.int.injEq,and_true]at h3;exact Prod.ext h3.1.1 (Prod.ext h3.1.2 (Prod.ext h3.2.1 h3.2.2))
theorem gb{x:Str}{u v:Sq}:D.tup [.str x,spq u]=.tup [.str x,spq v]↔u=v:=⟨fun h=>t7 (by simpa using h),fun h=>by rw[h]⟩
theorem ff{x y:Str}{d e:D}(h:D.tup [.str x,d]=.tup [.str y,e]):x=y:=by simp only[D.tup.injEq,List.cons.injEq,D.str.injEq]at h;exact h.1
theorem qm{t b X Y:Int}(S:Scl t b X Y){w o:Wl}(hw:Bw 30 w)(ho:Bw 30 o):mtD t b X Y w o=.non\/(∃v,mtD t b X Y w o=.tup [.str "spot",spq v]/\BS v)\/∃d,mtD t b X Y w o=.tup [.str "stretch",d]:=by
 have e0:mtD t b X Y w o=y9 t b X Y (tlD w o):=by unfold mtD tlD;rw[qt S.t0 S.b0]
 rcases qT hw ho with e|⟨x,y,m,e,bx,by',bm,hm⟩|⟨x,y,u,u',e,bx,by',bu,bu'⟩
 ·exact .inl (by rw[e0,e];rfl)
 ·exact .inr (.inl ⟨(Ma.ut t b X m x,Ma.ut t b Y m y),by rw[e0,e];rfl,iW S (.inl rfl) bm hm bx,iW S (.inr rfl) bm hm by'⟩)
 ·exact .inr (.inr ⟨_,by rw[e0,e];rfl⟩)
def crQ(w:Pc)(v:Sq):Rat:=Ma.cr w.1.1 w.1.2 w.2.1 w.2.2 v.1 v.2
def On(w:Pc)(v:Sq):Prop:=crQ w v=0/\¬plq v w.1/\¬plq w.2 v
instance(w:Pc)(v:Sq):Decidable (On w v):=inferInstanceAs (Decidable (_/\¬Ma.ah _ _ _ _/\¬Ma.ah _ _ _ _))
def mtQ(w o:Pc):D:=h9 w.1.1 w.1.2 w.2.1 w.2.2 o.1.1 o.1.2 o.2.1 o.2.2
def dd(w o:Pc):Rat:=(w.2.1-w.1.1)*(o.2.2-o.1.2)-(w.2.2-w.1.2)*(o.2.1-o.1.1)
def pt(w:Pc)(s:Rat):Sq:=(w.1.1+s*(w.2.1-w.1.1),w.1.2+s*(w.2.2-w.1.2))
theorem kO{a b:Rat}(h:a*b=0)(ha:a≠0):b=0:=by
 rcases Rat.mul_eq_zero.mp h with z|z
 ·exact absurd z ha
 ·exact z
theorem jF{w:Pc}(h:plq w.1 w.2):w.2.1-w.1.1≠0\/w.2.2-w.1.2≠0:=by
 unfold plq Ma.ah at h;rcases h with h|⟨_,h⟩
 ·left;grind
 ·right;grind
theorem qV{w:Pc}(h:plq w.1 w.2){v:Sq}(hc:crQ w v=0):∃s,v=pt w s:=by
 obtain⟨⟨a,b⟩,c,d⟩:=w;obtain⟨x,y⟩:=v;unfold crQ Ma.cr at hc;unfold pt;dsimp only at *;rcases jF (w:=((a,b),c,d)) h with z|z
 ·refine⟨(x-a)/(c-a),?_⟩;dsimp only at z ⊢;have e1:(x-a)/(c-a)*(c-a)=x-a:=by grind
  refine Prod.ext (by dsimp only;grind) ?_;dsimp only;have e2:(c-a)*((x-a)/(c-a)*(d-b))=(c-a)*(y-b):=by grind
  have:=kO (a:=c-a) (b:=(x-a)/(c-a)*(d-b)-(y-b)) (by grind) z;grind
 ·refine⟨(y-b)/(d-b),?_⟩;dsimp only at z ⊢;have e1:(y-b)/(d-b)*(d-b)=y-b:=by grind
  refine Prod.ext ?_ (by dsimp only;grind);dsimp only;have e2:(d-b)*((y-b)/(d-b)*(c-a))=(d-b)*(x-a):=by grind
  have:=kO (a:=d-b) (b:=(y-b)/(d-b)*(c-a)-(x-a)) (by grind) z;grind
theorem yG(w:Pc)(s:Rat):crQ w (pt w s)=0:=by unfold crQ Ma.cr pt;grind
theorem lt_mul{a b k:Rat}(hk:0<k)(h:a<b):a*k<b*k:=by have:=BK (a:=b-a) (b:=k) (by grind) hk;grind
theorem vh{w:Pc}(h:plq w.1 w.2){s r:Rat}:plq (pt w s) (pt w r)↔s<r:=by
 have half:∀{s r:Rat},s<r->plq (pt w s) (pt w r):=fun{s r} l=>by
  obtain⟨⟨a,b⟩,c,d⟩:=w;unfold plq Ma.ah pt at *;dsimp only at *;rcases h with h|⟨rfl,h⟩
  ·have:=lt_mul (k:=c-a) (by grind) l;left;grind
  ·have:=lt_mul (k:=d-b) (by grind) l;right;constructor<;>grind
 refine⟨fun q=>?_,half⟩;rcases(show s<r\/s=r\/r<s by grind)with z|z|z
 ·exact z
 ·subst z;exact absurd q (aR _)
 ·exact absurd q (a9 _ _ (half z))
theorem pt0(w:Pc):pt w 0=w.1:=by refine Prod.ext ?_ ?_<;>(unfold pt;dsimp only;grind)
theorem pt1(w:Pc):pt w 1=w.2:=by refine Prod.ext ?_ ?_<;>(unfold pt;dsimp only;grind)
theorem jt{w:Pc}(h:plq w.1 w.2)(s:Rat):On w (pt w s)↔0<=s/\s<=1:=by
 unfold On
 have e0:plq (pt w s) w.1↔s<0:=by
  have:=vh h (s:=s) (r:=0)
  rw[pt0]at this;exact this
 have e1:plq w.2 (pt w s)↔1<s:=by
  have:=vh h (s:=1) (r:=s)
  rw[pt1]at this;exact this
 rw[e0,e1];constructor
 ·rintro⟨_,a,b⟩;constructor<;>grind
 ·rintro⟨a,b⟩;exact⟨yG w s,by grind,by grind⟩
theorem qa{w:Pc}(h:plq w.1 w.2){v:Sq}(hv:On w v):∃s,0<=s/\s<=1/\v=pt w s:=by obtain⟨s,rfl⟩:=qV h hv.1;exact⟨s,((jt h s).mp hv).1,((jt h s).mp hv).2,rfl⟩
theorem gT{w:Pc}(h:plq w.1 w.2){a b:Sq}(hab:plq a b)(ha:crQ w a=0)(hb:crQ w b=0)(v:Sq):crQ (a,b) v=0↔crQ w v=0:=by
 have e1:(w.2.1-w.1.1)*crQ (a,b) v=(b.1-a.1)*crQ w v:=by unfold crQ Ma.cr at *;dsimp only;grind
 have e2:(w.2.2-w.1.2)*crQ (a,b) v=(b.2-a.2)*crQ w v:=by unfold crQ Ma.cr at *;dsimp only;grind
 constructor
 ·intro z;rw[z]at e1 e2;rcases jF (w:=(a,b)) hab with q|q
  ·exact kO (a:=b.1-a.1) (by grind) q
  ·exact kO (a:=b.2-a.2) (by grind) q
 ·intro z;rw[z]at e1 e2;rcases jF h with q|q
  ·exact kO (a:=w.2.1-w.1.1) (by grind) q
  ·exact kO (a:=w.2.2-w.1.2) (by grind) q
theorem oP{w:Pc}(h:plq w.1 w.2):On w w.1:=by have:=(jt h 0).mpr (by constructor<;>grind);rw[pt0]at this;exact this
theorem oH{w:Pc}(h:plq w.1 w.2):On w w.2:=by have:=(jt h 1).mpr (by constructor<;>grind);rw[pt1]at this;exact this
theorem ua{a b:Rat}:0<Ma.sgn a*Ma.sgn b↔(0<a/\0<b)\/(a<0/\b<0):=by
 have k:∀z:Rat,(0<z/\Ma.sgn z=1)\/(z<0/\Ma.sgn z=-1)\/(z=0/\Ma.sgn z=0):=fun z=>by
  unfold Ma.sgn;rcases(show 0<z\/z<0\/z=0 by grind)with h|h|h
  ·exact .inl ⟨h,if_pos h⟩
  ·exact .inr (.inl ⟨h,by rw[if_neg (by grind),if_pos h]⟩)
  ·exact .inr (.inr ⟨h,by subst h;rfl⟩)
 rcases k a with⟨h1,e1⟩|⟨h1,e1⟩|⟨h1,e1⟩<;>rcases k b with⟨h2,e2⟩|⟨h2,e2⟩|⟨h2,e2⟩<;>rw[e1,e2]<;>constructor<;>intro q<;>first|(exfalso;revert q;decide)|(clear q;decide)|grind
section
variable{w o:Pc}
theorem qq(r s:Rat)(e:pt w s=pt o r):crQ w o.1=-r*dd w o/\crQ w o.2=(1-r)*dd w o/\crQ o w.1=s*dd w o/\crQ o w.2=-(1-s)*dd w o:=by have h1:w.1.1+s*(w.2.1-w.1.1)=o.1.1+r*(o.2.1-o.1.1):=congrArg Prod.fst e;have h2:w.1.2+s*(w.2.2-w.1.2)=o.1.2+r*(o.2.2-o.1.2):=congrArg Prod.snd e;unfold crQ Ma.cr dd;refine⟨?_,?_,?_,?_⟩<;>grind
theorem qR:crQ w o.2-crQ w o.1=dd w o:=by unfold crQ Ma.cr dd;grind
theorem sD{r D:Rat}(h0:0<=r)(h1:r<=1):¬((0 < -r*D/\0<(1-r)*D)\/(-r*D<0/\(1-r)*D<0)):=by
 rcases(show 0<=D\/D<=0 by grind)with h|h
 ·have a:=Rat.mul_nonneg h0 h;have b:=Rat.mul_nonneg (a:=1-r) (by grind) h;grind
 ·have a:=Rat.mul_nonneg h0 (b:=-D) (by grind);have b:=Rat.mul_nonneg (a:=1-r) (b:=-D) (by grind) (by grind);grind
theorem m6{s D:Rat}(hD:D≠0)(h:¬((0<s*D/\0 < -(1-s)*D)\/(s*D<0/\-(1-s)*D<0))):0<=s/\s<=1:=by
 rcases(show 0<D\/D<0 by grind)with z|z
 ·constructor
  ·apply B3;intro n;have a:=BK (a:=-s) (b:=D) (by grind) z;have b:=BK (a:=1-s) (b:=D) (by grind) z;exact h (.inr ⟨by grind,by grind⟩)
  ·apply B3;intro n;have a:=BK (a:=s) (b:=D) (by grind) z;have b:=BK (a:=s-1) (b:=D) (by grind) z;exact h (.inl ⟨by grind,by grind⟩)
 ·constructor
  ·apply B3;intro n;have a:=BK (a:=-s) (b:=-D) (by grind) (by grind);have b:=BK (a:=1-s) (b:=-D) (by grind) (by grind);exact h (.inl ⟨by grind,by grind⟩)
  ·apply B3;intro n;have a:=BK (a:=s) (b:=-D) (by grind) (by grind);have b:=BK (a:=s-1) (b:=-D) (by grind) (by grind);exact h (.inr ⟨by grind,by grind⟩)
theorem n9:mtQ w o=if crQ w o.1=0/\crQ w o.2=0 then oM w.1.1 w.1.2 w.2.1 w.2.2 o.1.1 o.1.2 o.2.1 o.2.2
 else if((0<crQ w o.1/\0<crQ w o.2)\/(crQ w o.1<0/\crQ w o.2<0))\/((0<crQ o w.1/\0<crQ o w.2)\/(crQ o w.1<0/\crQ o w.2<0))then .non
 else .tup [.str "spot",spq (pt o (crQ w o.1/(crQ w o.1-crQ w o.2)))]:=by
 unfold mtQ h9
 simp only[ua,Ma.kH]
 rfl
theorem pG:oM w.1.1 w.1.2 w.2.1 w.2.2 o.1.1 o.1.2 o.2.1 o.2.2=if plq (if plq o.1 w.1 then w.1 else o.1) (if plq w.2 o.2 then w.2 else o.2)then .tup [.str "stretch",pcq (if plq o.1 w.1 then w.1 else o.1,if plq w.2 o.2 then w.2 else o.2)]
 else if plq (if plq w.2 o.2 then w.2 else o.2) (if plq o.1 w.1 then w.1 else o.1)then .non else .tup [.str "spot",spq (if plq o.1 w.1 then w.1 else o.1)]:=rfl
theorem gc(hw:plq w.1 w.2)(ho:plq o.1 o.2)(hD:dd w o≠0){v:Sq}(h1:On w v)(h2:On o v):mtQ w o=.tup [.str "spot",spq v]:=by
 obtain⟨s,s0,s1,e1⟩:=qa hw h1;obtain⟨r,r0,r1,e2⟩:=qa ho h2;obtain⟨a1,a2,a3,a4⟩:=qq r s (e1.symm.trans e2);rw[n9,a1,a2,a3,a4,if_neg,if_neg]
 ·have:-r*dd w o/(-r*dd w o-(1-r)*dd w o)=r:=by rw[show -r*dd w o-(1-r)*dd w o=-dd w o by grind];grind
  rw[this,e2]
 ·rintro(q|q)
  ·exact sD r0 r1 q
  ·refine sD (r:=s) (D:=-dd w o) s0 s1 ?_;grind
 ·rintro⟨z1,z2⟩;rcases Rat.mul_eq_zero.mp z1 with q|q
  ·rcases Rat.mul_eq_zero.mp z2 with q'|q'
   ·grind
   ·exact hD q'
  ·exact hD q
theorem dU(hw:plq w.1 w.2)(ho:plq o.1 o.2){v:Sq}(h:mtQ w o=.tup [.str "spot",spq v]):On w v/\On o v/\(dd w o=0->(v=w.1/\v=o.2)\/(v=o.1/\v=w.2)):=by
 rw[n9]at h;by_cases c:crQ w o.1=0/\crQ w o.2=0
 ·rw[if_pos c,pG]at h
  have key:∀x u:Sq,(x=w.1\/x=o.1)->(u=w.2\/u=o.2)->(if plq x u then D.tup [.str "stretch",pcq (x,u)]else if plq u x then .non else .tup [.str "spot",spq x])=.tup [.str "spot",spq v]->(v=w.1/\v=o.2)\/(v=o.1/\v=w.2):=fun x u hx hu e=>by
   by_cases z:plq x u
   ·rw[if_pos z]at e;exact absurd (ff e) (by decide)
   ·rw[if_neg z]at e;by_cases z':plq u x
    ·rw[if_pos z']at e;cases e
    ·rw[if_neg z']at e;have e:=gb.mp e;have xu:x=u:=B3 fun ne=>z' (c9 ne z);subst xu;subst e;rcases hx with rfl|rfl
     ·rcases hu with q|q
      ·rw[<-q]at hw;exact absurd hw (aR _)
      ·exact .inl ⟨rfl,q⟩
     ·rcases hu with q|q
      ·exact .inr ⟨rfl,q⟩
      ·rw[<-q]at ho;exact absurd ho (aR _)
  have:=key _ _ (by split<;>simp) (by split<;>simp) h;refine⟨?_,?_,fun _=>this⟩
  ·rcases this with⟨q,_⟩|⟨_,q⟩
   ·rw[q];exact oP hw
   ·rw[q];exact oH hw
  ·rcases this with⟨_,q⟩|⟨q,_⟩
   ·rw[q];exact oH ho
   ·rw[q];exact oP ho
 ·rw[if_neg c]at h;by_cases c2:((0<crQ w o.1/\0<crQ w o.2)\/(crQ w o.1<0/\crQ w o.2<0))\/((0<crQ o w.1/\0<crQ o w.2)\/(crQ o w.1<0/\crQ o w.2<0))
  ·rw[if_pos c2]at h;cases h
  ·rw[if_neg c2]at h;have e:=gb.mp h;have sd:=qR (w:=w) (o:=o);have hD:dd w o≠0:=fun z=>by rw[z]at sd;grind
   generalize hr:crQ w o.1/(crQ w o.1-crQ w o.2)=r at e;have er:r*(crQ w o.1-crQ w o.2)=crQ w o.1:=by rw[<-hr];grind
   have r01:0<=r/\r<=1:=by
    refine m6 (D:=-dd w o) (by grind) fun q=>c2 (.inl ?_)
    have e1:r * -dd w o=crQ w o.1:=by grind
    have e2:-(1-r) * -dd w o=crQ w o.2:=by grind
    rw[e1,e2]at q
    exact q
   have cv:crQ w v=0:=by
    rw[<-e]
    have:crQ w (pt o r)=(1-r)*crQ w o.1+r*crQ w o.2:=by unfold crQ Ma.cr pt;grind
    rw[this];grind
   obtain⟨s,es⟩:=qV hw cv;obtain⟨a1,a2,a3,a4⟩:=qq r s (es.symm.trans e.symm);have s01:0<=s/\s<=1:=m6 hD fun q=>c2 (.inr (by rw[a3,a4];exact q));exact⟨by rw[es];exact(jt hw s).mpr s01,by rw[<-e];exact(jt ho r).mpr r01,fun z=>absurd z hD⟩
theorem vJ(hw:plq w.1 w.2)(ho:plq o.1 o.2){d:D}(h:mtQ w o=.tup [.str "stretch",d]):∃x u,d=pcq (x,u)/\plq x u/\(On w x/\On o x)/\On w u/\On o u:=by
 rw[n9]at h;by_cases c:crQ w o.1=0/\crQ w o.2=0
 ·rw[if_pos c,pG]at h;have ln:=gT hw ho c.1 c.2
  have key:∀x u:Sq,(x=w.1/\plq o.1 w.1\/x=o.1/\¬plq o.1 w.1)->(u=w.2/\plq w.2 o.2\/u=o.2/\¬plq w.2 o.2)->(if plq x u then D.tup [.str "stretch",pcq (x,u)]else if plq u x then .non else .tup [.str "spot",spq x])=.tup [.str "stretch",d]->∃x u,d=pcq (x,u)/\plq x u/\(On w x/\On o x)/\On w u/\On o u:=fun x u hx hu e=>by
   by_cases z:plq x u
   ·rw[if_pos z]at e;have ed:pcq (x,u)=d:=by simp only[D.tup.injEq,List.cons.injEq]at e;exact e.2.1
    have cx:crQ w x=0:=by
     rcases hx with⟨q,_⟩|⟨q,_⟩
     ·rw[q];exact(oP hw).1
     ·rw[q];exact c.1
    have cu:crQ w u=0:=by
     rcases hu with⟨q,_⟩|⟨q,_⟩
     ·rw[q];exact(oH hw).1
     ·rw[q];exact c.2
    have x1:¬plq x w.1/\¬plq x o.1:=by
     rcases hx with⟨q,l⟩|⟨q,l⟩
     ·rw[q];exact⟨aR _,a9 _ _ l⟩
     ·rw[q];exact⟨l,aR _⟩
    have u1:¬plq w.2 u/\¬plq o.2 u:=by
     rcases hu with⟨q,l⟩|⟨q,l⟩
     ·rw[q];exact⟨aR _,a9 _ _ l⟩
     ·rw[q];exact⟨l,aR _⟩
    exact⟨x,u,ed.symm,z,⟨⟨cx,x1.1,fun q=>u1.1 (df q z)⟩,(ln x).mpr cx,x1.2,fun q=>u1.2 (df q z)⟩,⟨cu,fun q=>x1.1 (df z q),u1.1⟩,(ln u).mpr cu,fun q=>x1.2 (df z q),u1.2⟩
   ·rw[if_neg z]at e;by_cases z':plq u x
    ·rw[if_pos z']at e;cases e
    ·rw[if_neg z']at e;exact absurd (ff e) (by decide)
  refine key _ _ ?_ ?_ h
  ·by_cases q:plq o.1 w.1
   ·rw[if_pos q];exact .inl ⟨rfl,q⟩
   ·rw[if_neg q];exact .inr ⟨rfl,q⟩
  ·by_cases q:plq w.2 o.2
   ·rw[if_pos q];exact .inl ⟨rfl,q⟩
   ·rw[if_neg q];exact .inr ⟨rfl,q⟩
 ·rw[if_neg c]at h;split at h
  ·cases h
  ·exact absurd (ff h) (by decide)
theorem uU:mtQ w o=.non\/(∃v,mtQ w o=.tup [.str "spot",spq v])\/∃d,mtQ w o=.tup [.str "stretch",d]:=by
 rw[n9];split
 ·rw[pG];generalize (if plq o.1 w.1 then w.1 else o.1)=x;generalize (if plq w.2 o.2 then w.2 else o.2)=u;split
  ·exact .inr (.inr ⟨_,rfl⟩)
  ·split
   ·exact .inl rfl
   ·exact .inr (.inl ⟨_,rfl⟩)
 ·split
  ·exact .inl rfl
  ·exact .inr (.inl ⟨_,rfl⟩)
end
def PcQ(w o:Pc)(v:Sq):Prop:=(On w o.1/\v=o.1)\/(On w o.2/\v=o.2)\/mtQ w o=.tup [.str "spot",spq v]
def km(us:List Pc)(w:Pc)(v:Sq):Prop:=∃o∈us,PcQ w o v
structure IsCutQ(us:List Pc)(w:Pc)(c:List Sq):Prop where
 up:c.Pairwise plq
 me:∀v,v∈c↔km us w v
theorem IsCutQ.one{us:List Pc}{w:Pc}{c d:List Sq}(h:IsCutQ us w c)(g:IsCutQ us w d):c=d:=uniq a9 h.up g.up fun v=>(h.me v).trans (g.me v).symm
def eV(us:List Pc)(y:Pc):Prop:=∃w∈us,∃c,IsCutQ us w c/\Nxt c y
structure RowQ(us qs:List Pc):Prop where
 up:qs.Pairwise pcl
 me:∀y,y∈qs↔eV us y
def dO(us:List Pc):Prop:=∀u∈us,plq u.1 u.2
theorem mQ{w:Pc}{v:Sq}(h:On w v):(v=w.1\/plq w.1 v)/\(v=w.2\/plq v w.2):=by
 constructor
 ·by_cases e:v=w.1
  ·exact .inl e
  ·exact .inr (c9 e h.2.1)
 ·by_cases e:v=w.2
  ·exact .inl e
  ·exact .inr (c9 (fun q=>e q.symm) h.2.2)
theorem md{w o:Pc}(hw:plq w.1 w.2)(ho:plq o.1 o.2){v:Sq}(h:PcQ w o v):On w v/\On o v:=by
 rcases h with⟨h,rfl⟩|⟨h,rfl⟩|h
 ·exact⟨h,oP ho⟩
 ·exact⟨h,oH ho⟩
 ·exact⟨(dU hw ho h).1,(dU hw ho h).2.1⟩
theorem f9{us:List Pc}(hu:dO us){w:Pc}(hw:w∈us){v:Sq}(h:km us w v):On w v:=by obtain⟨o,ho,h⟩:=h;exact(md (hu w hw) (hu o ho) h).1
theorem yn{w o u:Pc}(hw:plq w.1 w.2)(h1:dd w o=0)(h2:dd w u=0):dd u o=0:=by
 unfold dd at *;rcases jF hw with q|q
 ·exact kO (a:=w.2.1-w.1.1) (by grind) q
 ·exact kO (a:=w.2.2-w.1.2) (by grind) q
theorem kW{us:List Pc}(hu:dO us){w w':Pc}(hw:w∈us)(hw':w'∈us){v:Sq}(on:On w v)(h:km us w' v):km us w v:=by
 have on':=f9 hu hw' h;obtain⟨o,ho,h⟩:=h;have po:=hu o ho;rcases h with⟨h,rfl⟩|⟨h,rfl⟩|h
 ·exact⟨o,ho,.inl ⟨on,rfl⟩⟩
 ·exact⟨o,ho,.inr (.inl ⟨on,rfl⟩)⟩
 ·obtain⟨h1,h2,h3⟩:=dU (hu w' hw') po h;by_cases d1:dd w o=0
  ·by_cases d2:dd w w'=0
   ·rcases h3 (yn (hu w hw) d1 d2)with⟨_,rfl⟩|⟨rfl,_⟩
    ·exact⟨o,ho,.inr (.inl ⟨on,rfl⟩)⟩
    ·exact⟨o,ho,.inl ⟨on,rfl⟩⟩
   ·exact⟨w',hw',.inr (.inr (gc (hu w hw) (hu w' hw') d2 on h1))⟩
  ·exact⟨o,ho,.inr (.inr (gc (hu w hw) po d1 on h2))⟩
theorem bW{c:List Sq}{y:Pc}(n:Nxt c y):y.1∈c/\y.2∈c:=by obtain⟨i,e1,e2⟩:=n;exact⟨Ax e1,Ax e2⟩
theorem xV{c:List Sq}(up:c.Pairwise plq){y:Pc}(n:Nxt c y){v:Sq}(hv:v∈c)(h1:¬plq v y.1)(h2:¬plq y.2 v):v=y.1\/v=y.2:=by
 obtain⟨i,e1,e2⟩:=n;obtain⟨l1,e1⟩:=A6.mp e1;obtain⟨l2,e2⟩:=A6.mp e2;obtain⟨j,lj,ej⟩:=C0 hv;rcases(show j<i\/j=i\/j=i+1\/i+1<j by omega)with z|z|z|z
 ·have:=AL.mp up j i lj l1 z;rw[ej,e1]at this;exact absurd this h1
 ·subst z;exact .inl (ej.symm.trans e1)
 ·subst z;exact .inr (ej.symm.trans e2)
 ·have:=AL.mp up (i+1) j l2 lj z;rw[ej,e2]at this;exact absurd this h2
structure Pce(us:List Pc)(y w:Pc)(c:List Sq):Prop where
 mw:w∈us
 ic:IsCutQ us w c
 nx:Nxt c y
section
variable{us:List Pc}(hu:dO us)
include hu
theorem Pce.lt{y w:Pc}{c:List Sq}(p:Pce us y w c):plq y.1 y.2:=p.nx.lt p.ic.up
theorem Pce.on{y w:Pc}{c:List Sq}(p:Pce us y w c):On w y.1/\On w y.2:=⟨f9 hu p.mw ((p.ic.me _).mp (bW p.nx).1),f9 hu p.mw ((p.ic.me _).mp (bW p.nx).2)⟩
theorem Pce.line{y w:Pc}{c:List Sq}(p:Pce us y w c)(v:Sq):crQ y v=0↔crQ w v=0:=gT (hu w p.mw) (p.lt hu) (p.on hu).1.1 (p.on hu).2.1 v
theorem n6{a b c:Sq}(h:a=b\/plq a b)(g:b=c\/plq b c):a=c\/plq a c:=by
 rcases h with rfl|h
 ·exact g
 ·rcases g with rfl|g
  ·exact .inr h
  ·exact .inr (df h g)
omit hu in
theorem n8{a b:Sq}(h:a=b\/plq a b):¬plq b a:=by
 rcases h with rfl|h
 ·exact aR _
 ·exact a9 _ _ h
omit hu in
theorem jd{a b:Sq}(h:¬plq b a):a=b\/plq a b:=by
 by_cases e:a=b
 ·exact .inl e
 ·exact .inr (c9 (fun q=>e q.symm) h)
theorem Pce.sub{y w:Pc}{c:List Sq}(p:Pce us y w c){v:Sq}(h:On y v):On w v:=by
 obtain⟨o1,o2⟩:=p.on hu;refine⟨(p.line hu v).mp h.1,fun q=>?_,fun q=>?_⟩
 ·exact n8 (n6 hu (jd o1.2.1) (jd h.2.1)) q
 ·exact n8 (n6 hu (jd h.2.2) (jd o2.2.2)) q
theorem Pce.cut{y w:Pc}{c:List Sq}(p:Pce us y w c){v:Sq}(h:On y v)(hv:km us w v):v=y.1\/v=y.2:=xV p.ic.up p.nx ((p.ic.me v).mpr hv) h.2.1 h.2.2
theorem p8{w o:Pc}(hw:w∈us)(ho:o∈us)(d:dd w o=0){v:Sq}(h1:On w v)(h2:On o v)(x:Sq):crQ o x=0↔crQ w x=0:=by
 obtain⟨r,_,_,e⟩:=qa (hu o ho) h2;have e1:crQ w (pt o r)=crQ w o.1+r*dd w o:=by unfold crQ Ma.cr pt dd;grind
 have e2:crQ w o.2=crQ w o.1+dd w o:=by have:=qR (w:=w) (o:=o);grind
 have c:=h1.1;rw[e,e1,d]at c;rw[d]at e2;exact gT (hu w hw) (hu o ho) (by grind) (by grind) x
theorem jh{y z w w':Pc}{c c':List Sq}(p:Pce us y w c)(q:Pce us z w' c')(ne:y≠z){v:Sq}(h1:On y v)(h2:On z v):v=y.1\/v=y.2:=by
 have on1:=p.sub hu h1;have on2:=q.sub hu h2;by_cases d:dd w w'=0
 ·have pl:=p8 hu p.mw q.mw d on1 on2;have al:∀x,On y x->km us w' x->x=y.1\/x=y.2:=fun x hx hc=>p.cut hu hx (kW hu p.mw q.mw (p.sub hu hx) hc);have al':∀x,On z x->km us w x->x=z.1\/x=z.2:=fun x hx hc=>q.cut hu hx (kW hu q.mw p.mw (q.sub hu hx) hc);have lnY:∀x,On w' x->crQ y x=0:=fun x hx=>(p.line hu x).mpr ((pl x).mp hx.1);have lnZ:∀x,On w x->crQ z x=0:=fun x hx=>(q.line hu x).mpr ((pl x).mpr hx.1);have cz1:=(q.ic.me _).mp (bW q.nx).1;have cz2:=(q.ic.me _).mp (bW q.nx).2;have cy1:=(p.ic.me _).mp (bW p.nx).1;have cy2:=(p.ic.me _).mp (bW p.nx).2;have yl:=p.lt hu;apply B3;intro n;have a1:plq y.1 v:=(mQ h1).1.resolve_left fun e=>n (.inl e);have a2:plq v y.2:=(mQ h1).2.resolve_left fun e=>n (.inr e);have b1:=jd h2.2.1;have b2:=jd h2.2.2
  have k1:¬plq y.1 z.1:=fun l=>by
   have l2:plq z.1 y.2:=by
    rcases n6 hu b1 (.inr a2)with e|e
    ·rw[e]at b1;exact absurd a2 (n8 b1)
    ·exact e
   have on:On y z.1:=⟨lnY _ (q.on hu).1,a9 _ _ l,a9 _ _ l2⟩
   rcases al _ on cz1 with e|e
   ·rw[e]at l;exact aR _ l
   ·rw[e]at l2;exact aR _ l2
  have k2:¬plq z.2 y.2:=fun l=>by
   have l2:plq y.1 z.2:=by
    rcases n6 hu (.inr a1) b2 with e|e
    ·rw[<-e]at b2;exact absurd a1 (n8 b2)
    ·exact e
   have on:On y z.2:=⟨lnY _ (q.on hu).2,a9 _ _ l2,a9 _ _ l⟩
   rcases al _ on cz2 with e|e
   ·rw[e]at l2;exact aR _ l2
   ·rw[e]at l;exact aR _ l
  have o1:On z y.1:=⟨lnZ _ (p.on hu).1,k1,fun l=>k2 (df l yl)⟩;have o2:On z y.2:=⟨lnZ _ (p.on hu).2,fun l=>k1 (df yl l),k2⟩;have zl:=q.lt hu;rcases al' _ o1 cy1 with e1|e1
  ·rcases al' _ o2 cy2 with e2|e2
   ·rw[e1,e2]at yl;exact aR _ yl
   ·exact ne (Prod.ext e1 e2)
  ·rw[e1]at yl;exact k2 yl
 ·exact p.cut hu h1 ⟨w',q.mw,.inr (.inr (gc (hu w p.mw) (hu w' q.mw) d on1 on2))⟩
theorem gh{y z:Pc}(p:eV us y)(q:eV us z)(ne:y≠z){v:Sq}(h1:On y v)(h2:On z v):(v=y.1\/v=y.2)/\(v=z.1\/v=z.2):=by obtain⟨w,hw,c,ic,n⟩:=p;obtain⟨w',hw',c',ic',n'⟩:=q;exact⟨jh hu ⟨hw,ic,n⟩ ⟨hw',ic',n'⟩ ne h1 h2,jh hu ⟨hw',ic',n'⟩ ⟨hw,ic,n⟩ (fun e=>ne e.symm) h2 h1⟩
theorem j7{y:Pc}(p:eV us y):plq y.1 y.2:=by obtain⟨w,hw,c,ic,n⟩:=p;exact n.lt ic.up
end
def iV(y z:Pc):Prop:=mtQ y z=.non\/∃v,mtQ y z=.tup [.str "spot",spq v]/\(v=y.1\/v=y.2)/\(v=z.1\/v=z.2)
section
variable{us:List Pc}(hu:dO us)
include hu
theorem sW{y z:Pc}(p:eV us y)(q:eV us z)(ne:y≠z):iV y z:=by
 have ly:=j7 hu p;have lz:=j7 hu q;rcases uU (w:=y) (o:=z)with e|⟨v,e⟩|⟨d,e⟩
 ·exact .inl e
 ·obtain⟨h1,h2,_⟩:=dU ly lz e;exact .inr ⟨v,e,gh hu p q ne h1 h2⟩
 ·obtain⟨x,u,_,l,⟨x1,x2⟩,u1,u2⟩:=vJ ly lz e;obtain⟨a1,a2⟩:=gh hu p q ne x1 x2;obtain⟨b1,b2⟩:=gh hu p q ne u1 u2
  have pick:∀{s:Pc},plq s.1 s.2->(x=s.1\/x=s.2)->(u=s.1\/u=s.2)->x=s.1/\u=s.2:=fun{s} ls hx hu'=>by
   rcases hx with rfl|rfl
   ·rcases hu' with rfl|rfl
    ·exact absurd l (aR _)
    ·exact⟨rfl,rfl⟩
   ·rcases hu' with rfl|rfl
    ·exact absurd l (a9 _ _ ls)
    ·exact absurd l (aR _)
  obtain⟨e1,e2⟩:=pick ly a1 b1;obtain⟨e3,e4⟩:=pick lz a2 b2;exact absurd (Prod.ext (e1.symm.trans e3) (e2.symm.trans e4)) ne
theorem gZ{qs:List Pc}(h:RowQ us qs):dO qs:=fun y hy=>j7 hu ((h.me y).mp hy)
theorem gH{qs:List Pc}(h:RowQ us qs){y:Pc}(hy:y∈qs):IsCutQ qs y [y.1,y.2]:=by
 have ly:=gZ hu h y hy;refine⟨by simp[ly],fun v=>?_⟩;rw[Ba,AY];constructor
 ·rintro(rfl|rfl)
  ·exact⟨y,hy,.inl ⟨oP ly,rfl⟩⟩
  ·exact⟨y,hy,.inr (.inl ⟨oH ly,rfl⟩)⟩
 ·rintro⟨z,hz,q⟩;have lz:=gZ hu h z hz;by_cases e:y=z
  ·subst e;rcases q with⟨_,q⟩|⟨_,q⟩|q
   ·exact .inl q
   ·exact .inr q
   ·rcases(dU ly ly q).2.2 (by unfold dd;grind)with⟨q,_⟩|⟨q,_⟩
    ·exact .inl q
    ·exact .inl q
  ·obtain⟨o1,o2⟩:=md ly lz q;exact(gh hu ((h.me y).mp hy) ((h.me z).mp hz) e o1 o2).1
theorem qG{qs:List Pc}(h:RowQ us qs):RowQ qs qs:=by
 refine⟨h.up,fun y=>⟨fun hy=>⟨y,hy,_,gH hu h hy,0,rfl,rfl⟩,?_⟩⟩;rintro⟨w,hw,c,ic,n⟩;rw[ic.one (gH hu h hw)]at n;obtain⟨i,e1,e2⟩:=n
 match i with
 |0=>
  have h1:w.1=y.1:=by simpa using e1
  have h2:w.2=y.2:=by simpa using e2
  rw[<-show w=y from Prod.ext h1 h2];exact hw
 |i+1=>simp at e2
omit hu in
theorem nh{v:Sq}:∀(a:Sq) (c:List Sq),¬plq v a->(∃u∈a::c,¬plq u v)->v=a\/∃y,Nxt (a::c) y/\¬plq v y.1/\¬plq y.2 v
 |a,[],h,⟨u,hu',n⟩=>by
  rw[AY.mp hu']at n
  exact .inl (B3 fun ne=>n (c9 ne h))
 |a,b::c,h,⟨u,hu',n⟩=>by
  by_cases q:plq b v
  ·rcases Ba.mp hu' with e|e
   ·rw[e]at n
    exact .inl (B3 fun ne=>n (c9 ne h))
   ·rcases nh b c (a9 _ _ q) ⟨u,e,n⟩with e|⟨y,⟨i,e1,e2⟩,h1,h2⟩
    ·rw[e]at q;exact absurd q (aR _)
    ·exact .inr ⟨y,⟨i+1,e1,e2⟩,h1,h2⟩
  ·exact .inr ⟨(a,b),⟨0,rfl,rfl⟩,h,q⟩
theorem cover{qs:List Pc}(h:RowQ us qs)(hc:∀w∈us,∃c,IsCutQ us w c)(v:Sq):(∃u∈us,On u v)↔∃y∈qs,On y v:=by
 constructor
 ·rintro⟨w,hw,on⟩;obtain⟨c,ic⟩:=hc w hw;have lw:=hu w hw;have m1:w.1∈c:=(ic.me _).mpr ⟨w,hw,.inl ⟨oP lw,rfl⟩⟩;have m2:w.2∈c:=(ic.me _).mpr ⟨w,hw,.inr (.inl ⟨oH lw,rfl⟩)⟩
  obtain⟨y,ny,h1,h2⟩:∃y,Nxt c y/\¬plq v y.1/\¬plq y.2 v:=by
   match c,ic,m1,m2 with
   |a::c,ic,m1,m2=>
    have ha:¬plq v a:=by
     have oa:=f9 hu hw ((ic.me a).mp AW)
     have:a=w.1:=by
      rcases Ba.mp m1 with e|e
      ·exact e.symm
      ·exact absurd ((List.pairwise_cons.mp ic.up).1 _ e) oa.2.1
     rw[this];exact on.2.1
    rcases nh a c ha ⟨w.2,m2,on.2.2⟩with e|q
    ·match c,ic,m1,m2 with
     |[],ic,m1,m2=>
      rw[AY.mp m1,AY.mp m2]at lw
      exact absurd lw (aR _)
     |b::c,ic,m1,m2=>
      refine⟨(a,b),⟨0,rfl,rfl⟩,by rw[e];exact aR _,?_⟩
      rw[e]
      exact a9 _ _ ((List.pairwise_cons.mp ic.up).1 b AW)
    ·exact q
  have p:Pce us y w c:=⟨hw,ic,ny⟩;exact⟨y,(h.me y).mpr ⟨w,hw,c,ic,ny⟩,(p.line hu v).mpr on.1,h1,h2⟩
 ·rintro⟨y,hy,on⟩;obtain⟨w,hw,c,ic,n⟩:=(h.me y).mp hy;exact⟨w,hw,Pce.sub hu ⟨hw,ic,n⟩ on⟩
end
theorem sub_len{α:Type}[DecidableEq α]:∀{l m:List α},l.Nodup->(∀x∈l,x∈m)->l.length<=m.length
 |[],_,_,_=>B2 _
 |a::l,m,h,s=>by
  rw[List.nodup_cons]at h
  have ha:=s a AW
  have:=sub_len (m:=m.erase a) h.2 fun x hx=>(List.mem_erase_of_ne (fun e=>by subst e;exact h.1 hx)).mpr (s x (AV _ hx))
  rw[List.length_erase_of_mem ha]at this
  have:=List.length_pos_of_mem ha
  rw[AS];omega
def inn(w:Pc)(v:Sq):Bool:=decide (plq w.1 v/\plq v w.2)
def spotOf:D->List Sq
 |.tup [.str _,.tup [.tup [.int a,.int b],.tup [.int c,.int d]]]=>[(Rat.divInt a b,Rat.divInt c d)]
 |_=>[]
theorem mL(x:Str)(v:Sq):spotOf (.tup [.str x,spq v])=[v]:=by show[(Rat.divInt v.1.num (v.1.den:Int),Rat.divInt v.2.num (v.2.den:Int))]=[v];rw[B7,B7]
theorem hZ(d:D):(spotOf d).length<=1:=by
 unfold spotOf;split
 ·exact A7 _
 ·exact B2 _
def bF(w o:Pc):List Sq:=if dd w o=0 then(if inn w o.1=true then[o.1]else[])++(if inn w o.2=true then[o.2]else[])else spotOf (mtQ w o)
theorem tU{w o:Pc}(hw:plq w.1 w.2)(ho:plq o.1 o.2){v:Sq}(h:PcQ w o v):v=w.1\/v=w.2\/v∈bF w o:=by
 obtain⟨o1,o2⟩:=md hw ho h;by_cases e1:v=w.1
 ·exact .inl e1
 by_cases e2:v=w.2
 ·exact .inr (.inl e2)
 refine .inr (.inr ?_);have i:inn w v=true:=decide_eq_true ⟨(mQ o1).1.resolve_left e1,(mQ o1).2.resolve_left e2⟩;unfold bF;by_cases d:dd w o=0
 ·rw[if_pos d];rcases h with⟨_,rfl⟩|⟨_,rfl⟩|h
  ·rw[if_pos i];simp
  ·rw[if_pos i];simp
  ·rcases(dU hw ho h).2.2 d with⟨q,_⟩|⟨_,q⟩
   ·exact absurd q e1
   ·exact absurd q e2
 ·rw[if_neg d,gc hw ho d o1 o2,mL];simp
theorem sP{w o:Pc}:(bF w o).length+(bF o w).length<=2:=by
 have dsw:dd o w=-dd w o:=by unfold dd;grind
 unfold bF;by_cases d:dd w o=0
 ·have d':dd o w=0:=by rw[dsw,d];grind
  rw[if_pos d,if_pos d'];have a:¬(inn w o.1=true/\inn o w.1=true):=fun zz1_0=>by obtain⟨h1,h2⟩:=zz1_0;exact(a9 _ _ (of_decide_eq_true h1).1 (of_decide_eq_true h2).1)
  have b:¬(inn w o.2=true/\inn o w.2=true):=fun zz2_0=>by obtain⟨h1,h2⟩:=zz2_0;exact(a9 _ _ (of_decide_eq_true h1).2 (of_decide_eq_true h2).2)
  rw[Bb,Bb];by_cases h1:inn w o.1=true<;>by_cases h2:inn o w.1=true<;>by_cases h3:inn w o.2=true<;>by_cases h4:inn o w.2=true<;>simp[h1,h2,h3,h4]at a b ⊢
 ·have:=hZ (mtQ w o);have:=hZ (mtQ o w);rw[if_neg d,if_neg (by rw[dsw];grind)];omega
theorem pV{w:Pc}:(bF w w).length=0:=by unfold bF;rw[if_pos (by unfold dd;grind)];have a:inn w w.1=false:=decide_eq_false fun h=>aR _ h.1;have b:inn w w.2=false:=decide_eq_false fun h=>aR _ h.2;simp[a,b]
def sm{α:Type}(f:α->Nat):List α->Nat
 |[]=>0
 |a::l=>f a+sm f l
theorem jB{α:Type}(f g:α->Nat):∀l:List α,sm (fun a=>f a+g a) l=sm f l+sm g l
 |[]=>rfl
 |a::l=>by simp only[sm,jB f g l];omega
theorem qI{α:Type}{f g:α->Nat}:∀{l:List α},(∀a∈l,f a<=g a)->sm f l<=sm g l
 |[],_=>A7 _
 |a::l,h=>Nat.add_le_add (h a AW) (qI fun x hx=>h x (AV _ hx))
theorem ip{α:Type}(k:Nat):∀l:List α,sm (fun _=>k) l=k*l.length
 |[]=>rfl
 |a::l=>by simp only[sm,ip k l,AS,Nat.mul_add];omega
theorem pN{α β:Type}(f:α->List β):∀l:List α,(l.flatMap f).length=sm (fun a=>(f a).length) l
 |[]=>rfl
 |a::l=>by rw[List.flatMap_cons,Bb,pN f l];rfl
theorem vc:∀us:List Pc,sm (fun w=>sm (fun o=>(bF w o).length) us) us<=us.length*us.length-us.length
 |[]=>A7 _
 |u::us=>by
  have ih:=vc us
  have e:sm (fun w=>sm (fun o=>(bF w o).length) (u::us)) (u::us)=(bF u u).length+sm (fun o=>(bF u o).length+(bF o u).length) us+sm (fun w=>sm (fun o=>(bF w o).length) us) us:=by
   rw[jB]
   show(bF u u).length+sm (fun o=>(bF u o).length) us+sm (fun w=>(bF w u).length+sm (fun o=>(bF w o).length) us) us=_
   rw[jB];omega
  rw[e,pV]
  have b:=qI (f:=fun o=>(bF u o).length+(bF o u).length) (g:=fun _=>2) (l:=us) fun o _=>sP
  rw[ip]at b
  have sq:us.length<=us.length*us.length:=by
   rcases Nat.eq_zero_or_pos us.length with z|z
   ·rw[z];exact B2 _
   ·exact Nat.le_mul_of_pos_left _ z
  rw[AS]
  have e2:(us.length+1)*(us.length+1)=us.length*us.length+2*us.length+1:=by grind
  omega
theorem count_le{us ps:List Pc}(hu:dO us)(nd:ps.Nodup)(me:∀y,y∈ps↔eV us y):ps.length<=us.length*us.length:=by
 classical
 let cf:Pc->List Sq:=fun w=>if h:∃c,IsCutQ us w c then Classical.choose h else[]
 have cf_eq:∀w c,IsCutQ us w c->cf w=c:=fun w c ic=>by
  have h:∃c,IsCutQ us w c:=⟨c,ic⟩
  show(if h:∃c,IsCutQ us w c then Classical.choose h else[])=c
  rw[dif_pos h]
  exact(Classical.choose_spec h).one ic
 have sub:ps.length<=(us.flatMap fun w=>zps (cf w)).length:=sub_len nd fun y hy=>by obtain⟨w,hw,c,ic,n⟩:=(me y).mp hy;exact List.mem_flatMap.mpr ⟨w,hw,by rw[cf_eq w c ic];exact nF.mpr n⟩
 rw[pN]at sub
 have each:∀w∈us,(zps (cf w)).length<=1+sm (fun o=>(bF w o).length) us:=fun w hw=>by
  by_cases h:∃c,IsCutQ us w c
  ·obtain⟨c,ic⟩:=h;rw[cf_eq w c ic]
   have l1:c.length<=([w.1,w.2]++us.flatMap fun o=>bF w o).length:=sub_len (vC a9 ic.up) fun v hv=>by
    obtain⟨o,ho,q⟩:=(ic.me v).mp hv;rcases tU (hu w hw) (hu o ho) q with e|e|e
    ·simp[e]
    ·simp[e]
    ·exact AH.mpr (.inr (List.mem_flatMap.mpr ⟨o,ho,e⟩))
   rw[Bb,pN]at l1;have l2:(zps c).length<=c.length-1:=by unfold zps;rw[List.length_zip,List.length_tail];omega
   have:[w.1,w.2].length=2:=rfl;omega
  ·have:cf w=[]:=by show(if h:∃c,IsCutQ us w c then Classical.choose h else[])=[];rw[dif_neg h]
   rw[this];exact B2 _
 have t:=qI each;rw[jB,ip]at t;have q:=vc us
 have sq:us.length<=us.length*us.length:=by
  rcases Nat.eq_zero_or_pos us.length with z|z
  ·rw[z];exact B2 _
  ·exact Nat.le_mul_of_pos_left _ z
 omega
structure CalV(P:Au)(w:AU)(K:A0)(mg:Str->Option A1)(base:Heap)(k:Nat)(g:Addr)(sp:SpD)(Mc:MH->Prop):Prop where
 ex:∃Pg:Heap->Prop,(∀(M:Model) h,Pg h->∃k,(k=Keeper.frame\/k=Keeper.machine\/k=Keeper.boundFrame)/\PySem.W.Looks M h (keeperOf (.ref g)) k)/\
  ∀(A:AQ) (outer:List Env) (s:A2) (H:Hp) (M:MH),Room k A->Env0 P w K mg base A outer s H->Abs K H M->Mc M->Pg s.heap/\
   ∀(us:List A1) (vs:List V) (Q:VK),Vals vs us->d6 K sp vs H Q E0->codeAny (Ay P w) A (.call (.ref g) ⟨us,[]⟩) (CR CX0 outer P w H s Q E0) s
abbrev gE(scope:BY)(L:Addr)(cl:List (Str×Addr))(qual:Str)(g:Addr)(cd:A1):Env:=newEnv scope L Bm cl (qual++".<locals>.") (some g) cd none builtinsNs
def ki(P:Au)(w:AU)(K:A0)(mg:Str->Option A1)(base:Heap)(N:List Str)(qual:Str)(scope:BY)(cl:List (Str×Addr))(g:Addr)(cd:A1)(A:AQ)(outer:List Env)(s:A2)(H:Hp):Cx where
 prog:=P
 w:=w
 K:=K
 mg:=mg
 base:=base
 A:=A.deeper (gE scope s.heap.objs.size cl qual g cd)
 N:=N
 s₀:=s
 H₀:=H
 env:=gE scope s.heap.objs.size cl qual g cd
 outer:=outer
 stack:=gE scope s.heap.objs.size cl qual g cd::outer
 ex:=[]
 calm:=true
 fn:=fun _=>false
 pn:=[]
 xe:=fun _ _=>False
structure LamScope(x y:Str)(sc:BY):Prop where
 kind:sc.kind=.function
 co:sc.isCoroutine=false
 gen:sc.isGenerator=false
 ne:x≠y
 hx:sc.names.lookup x=some .local
 hy:sc.names.lookup y=some .free
 only:∀z∈sc.names,z.2=.free->z.1=y
 nocell:∀z∈sc.names,z.2≠.cell
section
variable{P:Au}{w:AU}{K:A0}{mg:Str->Option A1}{base:Heap}{qual:Str}{scope:BY}{g c:Addr}{cd:A1}{A:AQ}{outer:List Env}{s:A2}{H:Hp}{x y:Str}
theorem tj{h':Heap}{tk:Nat}{oc:Obj}{u1 u2:A1}{v1 v2:V}(S:LamScope x y scope)(hd:A.handled=none)(e0:Env0 P w K mg base A outer s H)(hc:base.get? c=some oc)(hcd:oc.data=.cell (some u2))(r1:RelV v1 u1)(r2:RelV v2 u2)
 (hns:h'.Ns s.heap.objs.size fun z=>[(x,u1)].reverse.lookup z) (hk:∀b o,s.heap.get? b=some o->h'.get? b=some o) :
 Inv (ki P w K mg base [x,y] qual scope [(y,c)] g cd A outer s H) [] [some v1,some v2] H { s with heap:=h',toks:=tk }:=by
 have noA:∀b:Addr,b∉(ki P w K mg base [x,y] qual scope [(y,c)] g cd A outer s H).ex:=fun b z=>absurd (show b∈([]:List Addr)from z) (by simp)
 have one:∀{z:Str} {d:Addr},([(y,c)]:List (Str×Addr)).lookup z=some d->z=y/\d=c:=fun{z d} e=>by
  have:=AG e
  simpa using this
 have cel:h'.IsCell c (some u2):=⟨oc,hk _ _ (e0.bs c oc hc).1,hcd⟩
 refine⟨⟨e0.mod,S.kind,rfl,rfl,A7 _,fun a b d h1 h2=>?_,fun z hz=>?_,fun z d h _=>Bool.noConfusion h,fun _=>hd,Around.frames_deeper e0.frames,.inr ⟨rfl,rfl⟩,fun b z=>absurd z (noA b),e0.bs,e0.bsz,fun b _ _=>noA b,fun b z=>absurd z (noA b),e0.dZ,e0.frf⟩,
  rfl,e0.bare,Un.kept hk,⟨_,hns,fun i z v h1 h2 h3=>?_⟩,fun z d h=>?_,e0.hok.fresh (A7 _),fun z d h=>?_,fun p hp=>absurd (show p∈([]:List (Addr×Obj))from hp) (by simp),e0.hok.kept hk,rfl⟩
 ·rw[(one h1).1,(one h2).1]
 ·have hz:scope.names.lookup z=some .cell\/scope.names.lookup z=some .free:=hz
  rcases hz with hz|hz
  ·exact absurd rfl (S.nocell _ (AG hz))
  ·have:=S.only _ (AG hz) rfl
   subst this
   exact⟨c,by show([(z,c)]:List (Str×Addr)).lookup z=some c;simp⟩
 ·match i,h1,h2 with
  |0,h1,h2=>
   cases (show some x=some z from h1)
   cases (show some (some v1)=some (some v)from h2)
   exact⟨u1,r1,.inl ⟨S.hx,by show([(x,u1)]:List (Str×A1)).reverse.lookup x=some u1;simp⟩⟩
  |1,h1,h2=>
   cases (show some y=some z from h1)
   cases (show some (some v2)=some (some v)from h2)
   exact⟨u2,r2,.inr ⟨.inr S.hy,c,by show([(y,c)]:List (Str×Addr)).lookup y=some c;simp,cel⟩⟩
  |n+2,h1,_=>exact absurd (show([]:List Str)[n]?=some z from h1) (by simp)
 ·obtain⟨rfl,rfl⟩:=one h
  exact⟨_,cel⟩
 ·obtain⟨rfl,rfl⟩:=one h
  exact(e0.bs _ _ hc).2
theorem tm{k:Nat}{name:Str}{params:Arguments}{body:Expr}{pm ctv:A1}{c':Addr}{oc:Obj}{u1 u2:A1}{v1 v2:V}{t:TE}{Q:VK}(S:LamScope x y scope)(hr:Room (k+1) A)(e0:Env0 P w K mg base A outer s H)(hc:base.get? c=some oc)(hcd:oc.data=.cell (some u2))(r1:RelV v1 u1)(r2:RelV v2 u2)
 (hg:s.heap.get? g=some (BA name qual params body scope [(y,c)] pm c' ctv)) (hrec:s.heap.CodeRec (.ref c') qual)
 (hb:bindArgs (PySem.W.kla_fn name qual params body scope [(y,c)] pm (.ref c') ctv) ⟨[u1],[]⟩=pure [(x,u1)])
 (ht:PE (ki P w K mg base [x,y] qual scope [(y,c)] g (.ref c') A outer s H) body t) (hq:t [some v1,some v2] H Q) :
 codeAny (Ay P w) A (.call (.ref g) ⟨[u1],[]⟩) (CR CX0 outer P w H s Q E0) s:=by
 refine PySem.W.kla_callFunE hr.depth hg rfl S.co S.gen rfl hrec ?_
 rw[hb]
 have lim:s.heap.NoLimit:=e0.mod.nolimit.keeps fun b o e=>(e0.bs b o e).1
 refine A5 (wpAny_newFunctionEnv S.nocell (fun z hz=>?_) (fun h' hns hsb=>?_) S.kind)
 ·have:z=(x,u1):=by simpa using hz
  rw[this];exact S.hx
 have hk:∀b o,s.heap.get? b=some o->h'.get? b=some o:=fun b o e=>hsb.extBut b o (AJ (A8 e)) (A3 _ e)
 refine⟨lim.keeps hk,PySem.W.kla_codeExpr ?_⟩
 have I:=tj (qual:=qual) (g:=g) (cd:=.ref c') (tk:=s.toks+[(x,u1)].length) S hr.hd e0 hc hcd r1 r2 hns hk
 refine AK (ht [] _ _ _ _ I hq) (fun u s' z=>?_) (fun e s' z=>BB z)
 obtain⟨v,H',J,rv,q⟩:=z
 exact⟨v,H',J.os,J.bare,J.base,J.hok,rv,q⟩
end
def bK(a:Addr)(o:Obj):Heap->Prop:=fun h=>h.get? a=some o
def lg(a:Addr)(q:Str):Heap->Prop:=fun h=>h.CodeRec (.ref a) q
def zJ(o:Obj)(d:D)(v:V):MO:=.gen fun K H a=>H a=some (.ext (bK a o))/\Rep K H d v
def wz(q:Str):MO:=.gen fun _ H a=>H a=some (.ext (lg a q))
def so(ps:Array A1):MO:=.gen fun _ H a=>H a=some (.tbl ps)
section
variable{P:Au}{w:AU}{K:A0}{mg:Str->Option A1}{base:Heap}{qual:Str}{scope:BY}{g c:Addr}{x y:Str}
theorem uL{k:Nat}{name:Str}{params:Arguments}{body:Expr}{pm ctv:A1}{c':Addr}{oc:Obj}{u2:A1}{v2:V}{d2:D}{sp:SpD}(S:LamScope x y scope)(hc:base.get? c=some oc)(hcd:oc.data=.cell (some u2))(r2:RelV v2 u2)
 (hb:∀u1,bindArgs (PySem.W.kla_fn name qual params body scope [(y,c)] pm (.ref c') ctv) ⟨[u1],[]⟩=pure [(x,u1)]) (len:∀ds M Q,sp ds M Q->ds.length=1)
 (ht:∀(A:AQ) (outer:List Env) (s:A2) (H:Hp),Room k (A.deeper (gE scope s.heap.objs.size [(y,c)] qual g (.ref c')))->∃t,DE (ki P w K mg base [x,y] qual scope [(y,c)] g (.ref c') A outer s H) body t/\∀d1 M Q,sp [d1] M Q->t [some d1,some d2] M Q) :
 CalV P w K mg base (k+1) g sp (fun M=>M g=some (zJ (BA name qual params body scope [(y,c)] pm c' ctv) d2 v2)/\M c'=some (wz qual)):=by
 refine⟨bK g (BA name qual params body scope [(y,c)] pm c' ctv),fun M h z=>⟨.frame,.inl rfl,(PySem.W.Looks.ld (part:=none) z).andThen .now⟩,fun A outer s H M hr e0 hM hc0=>?_⟩
 obtain⟨hg,hr0⟩:=hc0
 obtain⟨⟨hg1,rd⟩,_⟩:=hM _ _ hg
 obtain⟨hr1,_⟩:=hM _ _ hr0
 obtain⟨f1,_⟩:=e0.hok _ _ hg1
 obtain⟨f2,_⟩:=e0.hok _ _ hr1
 refine⟨f1,fun us vs Q r z=>?_⟩
 obtain⟨ds,M1,R,rs,a1,q,fin⟩:=z
 obtain⟨d1,rfl⟩:∃d1,ds=[d1]:=by
  have:=len _ _ _ q
  match ds,this with
  |[d1],_=>exact⟨d1,rfl⟩
 obtain⟨v1,rfl,rv1⟩:=bz rs
 obtain⟨u1,rfl,ru1⟩:=vals1 r
 obtain⟨t,h1,h2⟩:=ht A outer s H (hr.deeper _)
 refine tm (t:=lift K t) (v2:=v2) S hr e0 hc hcd ru1 r2 f1 f2 (hb u1) h1 ⟨[some d1,some d2],M1,R,⟨rfl,fun i d e=>?_⟩,a1,h2 d1 M1 R q,fin⟩
 match i,e with
 |0,e=>cases (show some (some d1)=some (some d)from e);exact⟨v1,rfl,rv1⟩
 |1,e=>cases (show some (some d2)=some (some d)from e);exact⟨v2,rfl,rd⟩
 |n+2,e=>exact absurd (show([]:List (Option D))[n]?=some (some d)from e) (by simp)
end
def ko(b:Heap)(c:Addr):Hp:=fun a=>if(b.get? a).isSome=true\/a=c then none else some (.tbl #[])
theorem pR{b:Heap}{c a:Addr}(h:(b.get? a).isSome=true\/a=c):ko b c a=none:=if_pos h
theorem rh{b:Heap}{c a:Addr}(h:ko b c a=none):(b.get? a).isSome=true\/a=c:=by
 by_cases z:(b.get? a).isSome=true\/a=c
 ·exact z
 ·unfold ko at h;rw[if_neg z]at h;cases h
theorem jw{h base base':Heap}:∀{l:List Env},h.FunFrames base l->(∀b∈frs l,base'.get? b=none)->h.FunFrames base' l
 |[],_,_=>trivial
 |env::r,z,n=>by
  obtain⟨hk,⟨L,o,hf,hn,ho,hd⟩,hr⟩:=z
  have e:frs (env::r)=L::frs r:=by unfold frs;rw[List.filterMap_cons,hf]
  rw[e]at n
  exact⟨hk,⟨L,o,hf,n L AW,ho,hd⟩,jw hr fun b hb=>n b (AV _ hb)⟩
section
variable{X:Cx}{pins:List (Addr×Obj)}{σ:L2.St}{H:Hp}{s:A2}{y:Str}{c:Addr}
theorem tD(I:Inv X pins σ H s)(hfn:X.fn y=true)(hc:X.env.cells.lookup y=some c):Env0 X.prog X.w X.K X.mg (fE s.heap (ko X.base c)) X.A X.stack s H:=by
 have e0:=I.zx;have kb:∀b o,X.base.get? b=some o->(fE s.heap (ko X.base c)).get? b=some o:=fun b o e=>eX (I.bk b o e) (pR (.inl (by rw[e];rfl)))
 have nf:∀b∈frs X.stack,(fE s.heap (ko X.base c)).get? b=none:=fun b hb=>by
  cases e:(fE s.heap (ko X.base c)).get? b with
  |none=>rfl
  |some o=>
   exfalso
   obtain⟨e1,e2⟩:=jE e
   rcases rh e2 with z|z
   ·have:=(e0.dZ.mem (show b∈X.stack.filterMap (·.frame)from hb)).1;rw[this]at z;cases z
   ·subst z;rcases Ba.mp (I.j0 b hb)with q|q
    ·exact I.cne y b hc q
    ·obtain⟨_,o',ho',_⟩:=I.ok.dZ.mem (show b∈X.outer.filterMap (·.frame)from q);exact absurd (Aw (A8 ho') (I.ok.cab y b hfn hc)) (Ck _)
 obtain⟨mb,h1,h2⟩:=e0.mod.blt;refine⟨e0.frames,⟨e0.mod.kin.keeps kb,e0.mod.glob.keeps kb,⟨mb,h1.keeps kb,h2⟩,e0.mod.nolimit.keeps kb⟩,fun b o e=>?_,Nat.le_of_eq (je _ _),jw e0.dZ nf,e0.frf,e0.hok,e0.bare⟩;obtain⟨e1,e2⟩:=jE e;refine⟨e1,?_⟩;rcases rh e2 with z|z
 ·obtain⟨o',ho'⟩:=Option.isSome_iff_exists.mp z;exact(I.bs b o' ho').2
 ·subst z;exact I.freeC y b hc
end
structure Mk(K:A0)(mg:Str->Option A1)(c0 Pt:Addr):Prop where
 hd:PySem.W.codeHdIn K c0 Pt=true
 bm:∃bm o,mg "__builtins__"=some (.ref bm)/\bm≠builtinsNs/\bm≠Bm/\K.lookup bm=some o/\o.cls=.type "module"/\o.dict=some builtinsNs/\o.data=.plain
def tP(pos:Pos)(c':Addr):Array A1:=#[rawInt pos.line,rawInt pos.col,.ref c']
def cm(q:Str)(Pt:Addr)(pos:Pos)(M:MH):Prop:=M Pt=some (so #[])\/∃c',M Pt=some (so (tP pos c'))/\M c'=some (wz q)/\c'≠Pt
def bO(Pt:Addr)(M M':MH):Prop:=∀a o,a≠Pt->M a=some o->M' a=some o
section
variable{X:Cx}{pins:List (Addr×Obj)}{σ:L2.St}{H:Hp}{s:A2}{c0 Pt:Addr}
theorem sC(I:Inv X pins σ H s)(m:Mk X.K X.mg c0 Pt)(hP:H Pt≠none):s.heap.BuiltinsAt X.mg Pt:=by obtain⟨bm,o,h1,h2,h3,h4,h5⟩:=m.bm;refine⟨bm,o,h1,h2,h3,fun z=>?_,I.kIn _ _ h4,h5⟩;subst z;exact hP (I.bs _ _ (I.mod.kin _ _ h4)).2
theorem zw(I:Inv X pins σ H s)(hP:H Pt≠none):Bm≠Pt:=fun z=>by obtain⟨o,es,ep,e,_⟩:=I.mod.glob;rw[z]at e;exact hP (I.bs _ _ e).2
theorem fM{P:Au}{w:AU}{H':Hp}{h:Heap}{a:Addr}{o:Obj}(e:h.get? a=some o):bo P w H' h a (.ext (bK a o)):=⟨e,⟨o,e⟩,fun h1 h2 z k=>k o z⟩
theorem xi{P:Au}{w:AU}{H':Hp}{h:Heap}{a:Addr}{q:Str}(e:h.CodeRec (.ref a) q):bo P w H' h a (.ext (lg a q)):=by
 refine⟨e,?_,fun h1 h2 z k=>?_⟩
 ·obtain⟨c,oc,vs,tq,hc,ho,_⟩:=e;cases hc;exact⟨oc,ho⟩
 ·obtain⟨c,oc,vs,tq,hc,ho,r⟩:=z;cases hc;exact⟨a,oc,vs,tq,rfl,k oc ho,r⟩
theorem uK{h':Heap}{tk:Nat}{o:Obj}(hfr:o.isFreed=false)(I:Inv X pins σ H s)(k:∀b u,s.heap.get? b=some u->h'.get? b=some u)(hsz:s.heap.objs.size<=h'.objs.size):H h'.objs.size=none/\Inv X pins σ (upd H h'.objs.size (.ext (bK h'.objs.size o))) { s with heap:=h'.push o,toks:=tk }:=by have hn:H h'.objs.size=none:=I.hok.fresh hsz;exact⟨hn,I.laid (t':=tk) (h':=h'.push o) (fun b u e=>A3 _ (k b u e)) hsz (fM (Aq _ hfr))⟩
theorem qk{h':Heap}{tk:Nat}{o:Obj}{q:Str}{c':Addr}{ps more:Array A1}(hfr:o.isFreed=false)(I:Inv X pins σ H s)(hP:H Pt=some (.tbl ps))(hx:Heap.ExtBut Pt s.heap h')(h1:s.heap.objs.size<=c')(h2:c'<h'.objs.size)(hr:h'.CodeRec (.ref c') q)
 (ht:h'.get? Pt=some (PySem.W.tabObj (ps++more))):H c'=none/\H h'.objs.size=none/\Inv X pins σ (upd (upd (upd H Pt (.tbl (ps++more))) c' (.ext (lg c' q))) h'.objs.size (.ext (bK h'.objs.size o))) { s with heap:=h'.push o,toks:=tk }:=by
 have hPs:Pt<s.heap.objs.size:=(I.hok _ _ hP).lt
 have hc:H c'=none:=I.hok.fresh h1
 have hg:H h'.objs.size=none:=I.hok.fresh (B8 h1 (Ce h2))
 have n1:c'≠Pt:=fun z=>by rw[z,hP]at hc;cases hc
 have n2:h'.objs.size≠Pt:=fun z=>by rw[z,hP]at hg;cases hg
 have n3:c'≠h'.objs.size:=AJ h2
 have old:∀{b:Addr} {u:HO},H b=some u->b≠Pt->upd (upd (upd H Pt (.tbl (ps++more))) c' (.ext (lg c' q))) h'.objs.size (.ext (bK h'.objs.size o)) b=some u:=fun{b u} e n=>by
  rw[aF (fun z=>by rw[z,hg]at e;cases e),aF (fun z=>by rw[z,hc]at e;cases e),aF n];exact e
 have oldN:∀{b:Addr},H b=none->b<s.heap.objs.size->upd (upd (upd H Pt (.tbl (ps++more))) c' (.ext (lg c' q))) h'.objs.size (.ext (bK h'.objs.size o)) b=none:=fun{b} e l=>by
  have y1:b≠h'.objs.size:=fun z=>by rw[z]at l;exact absurd l (Nat.not_lt.mpr (B8 h1 (Ce h2)))
  have y2:b≠c':=fun z=>by rw[z]at l;exact absurd l (Nat.not_lt.mpr h1)
  have y3:b≠Pt:=fun z=>by rw[z,hP]at e;cases e
  rw[aF y1,aF y2,aF y3];exact e
 refine⟨hc,hg,I.un (t':=tk) ⟨fun b u e n _ _=>?_,fun b u e n _ _=>⟨u.slots,?_⟩,fun b u e n _=>oldN n (A8 e),fun b u e _=>?_,fun b xs e=>old e (fun z=>by rw[z,hP]at e;cases e),fun b u xs e=>old e (fun z=>by rw[z,hP]at e;cases e),fun b qs e=>?_⟩ fun b u e=>?_⟩
 ·exact A3 _ (hx b u (fun z=>by rw[z,hP]at n;cases n) e)
 ·exact A3 _ (hx b u (fun z=>by rw[z,hP]at n;cases n) e)
 ·by_cases z:b=Pt
  ·subst z;exact⟨_,A3 _ ht⟩
  ·exact⟨u,A3 _ (hx b u z e)⟩
 ·by_cases z:b=Pt
  ·subst z
   rw[hP]at e;cases e
   exact⟨more,by rw[aF n2.symm,aF n1.symm,aD]⟩
  ·exact⟨#[],by rw[old e z];simp⟩
 ·by_cases z1:b=h'.objs.size
  ·subst z1
   rw[aD]at e;cases e
   exact fM (Aq _ hfr)
  ·rw[aF z1]at e
   by_cases z2:b=c'
   ·subst z2
    rw[aD]at e;cases e
    obtain⟨c,oc,vs,tq,hc',ho,r⟩:=hr
    cases hc'
    exact xi ⟨b,oc,vs,tq,rfl,A3 _ ho,r⟩
   ·rw[aF z2]at e
    by_cases z3:b=Pt
    ·subst z3
     rw[aD]at e;cases e
     exact A3 _ ht
    ·rw[aF z3]at e
     refine(I.hok b u e).dt (fun d v hd g=>A3 _ (hx d v ?_ g)) (fun d g=>old g (fun z=>by rw[z,hP]at g;cases g)) fun d xs g=>old g (fun z=>by rw[z,hP]at g;cases g)
     rcases hd with hd|hd
     ·rw[hd];exact z3
     ·intro z;rw[z,hP]at hd;cases hd
end
theorem Abs.lW{K:A0}{H:Hp}{M:MH}{a:Addr}{o:HO}{A:A0->Hp->Addr->Prop}(h:Abs K H M)(g:Grow K H (upd H a o))(z:A K (upd H a o) a)(st:∀H',Grow K (upd H a o) H'->H' a=some o->A K H' a):Abs K (upd H a o) (aA M a (.gen A)):=fun b u e=>by
 by_cases ne:b=a
 ·subst ne;rw[ag]at e;cases e;exact⟨z,by rw[aD];simp,fun H' g' e'=>st H' g' (by rw[e',aD])⟩
 ·rw[ao ne]at e;exact(h b u e).dt g (aF ne)
theorem pZ{names:List (Str×BN)}{env:Env}{y:Str}{c:Addr}(hf:(names.filter fun z=>z.2==.free)=[(y,.free)])(hc:env.cells.lookup y=some c):cS names env=[(y,c)]:=by unfold cS;rw[hf];simp[hc]
section
variable{X:Cx}{x y lx:Str}{j k kk:Nat}{params:Arguments}{body:Expr}{lscope:BY}{lpos p pos:Pos}{e1:Expr}{te:TD}{c0 Pt:Addr}{spg:D->SpD}{spw:Addr->D->(MH->Prop)->SpD}
theorem pP{pins:List (Addr×Obj)}{σ:L2.St}{H:Hp}{s:A2}{M:MH}{c:Addr}{d2:D}{v2:V}{Q:A1->A2->Prop}(hcode:X.env.code=.ref c0)(m:Mk X.K X.mg c0 Pt)(hfil:(lscope.names.filter fun z=>z.2==.free)=[(y,.free)])(hall:∀z∈lscope.names,z.2=.free->z.1=y)
 (hdef:defaultsOf params X.env=([],[])) (I:Inv X pins σ H s) (hM:Abs X.K H M) (hc:X.env.cells.lookup y=some c) (ht:cm (X.env.qual++"<lambda>") Pt lpos M) (rd:Rep X.K H d2 v2)
 (h:∀g c' ctv pm H' M' s',Inv X pins σ H' s'->Grow X.K H H'->Abs X.K H' M'->M' g=some (zJ (BA "<lambda>" (X.env.qual++"<lambda>") params body lscope [(y,c)] pm c' ctv) d2 v2)->M' c'=some (wz (X.env.qual++"<lambda>"))->
  cm (X.env.qual++"<lambda>") Pt lpos M'->bO Pt M M'->Q (.ref g) s') :
 A9 (Ay X.prog X.w) X.A (eval (.Lambda params body lscope lpos) X.env) Q X.xe s:=by
 refine PySem.W.kla_eval hdef ?_
 have hcl:closureFor lscope X.env=pure [(y,c)]:=by
  rw[gS (fun z hz hk=>⟨c,by rw[hall z hz hk];exact hc⟩),pZ hfil hc]
 have hgs:s.heap.Ns Bm X.mg:=I.mod.glob.keeps I.bk
 have C:=PySem.W.codeHd_of_K I.kIn m.hd
 rcases ht with ht|⟨c1,ht,hr1,nc1⟩
 ·obtain⟨hP,_⟩:=hM _ _ ht
  have hP':s.heap.get? Pt=some (PySem.W.tabObj #[]):=I.hok _ _ hP
  have hPn:H Pt≠none:=by rw[hP];simp
  refine PySem.W.kla_makeFunction (mg:=X.mg) hcl I.ok.glob hgs hcode C hP' trivial rfl (zw I hPn) (sC I m hPn) fun c' ctv h' tk hx h1 h2 hrec htb=>?_
  obtain⟨n1,n2,I2⟩:=qk (o:=BA "<lambda>" (X.env.qual++"<lambda>") params body lscope [(y,c)] ((X.mg "__name__").getD .none) c' ctv) (tk:=tk) rfl I hP hx h1 h2 hrec htb
  have nc:c'≠Pt:=fun z=>by rw[z,hP]at n1;cases n1
  have ng:h'.objs.size≠Pt:=fun z=>by rw[z,hP]at n2;cases n2
  have ncg:h'.objs.size≠c':=(AJ h2).symm
  have g1:Grow X.K H (upd H Pt (.tbl (#[]++#[rawInt lpos.line,rawInt lpos.col,.ref c']))):=.put (fun xs e=>by rw[hP]at e;cases e) (fun u xs e=>by rw[hP]at e;cases e)
  have g2:=Grow.new (K:=X.K) (o:=.ext (lg c' (X.env.qual++"<lambda>"))) (show(upd H Pt (.tbl (#[]++#[rawInt lpos.line,rawInt lpos.col,.ref c']))) c'=none by rw[aF nc];exact n1)
  have g3:=Grow.new (K:=X.K) (o:=.ext (bK h'.objs.size (BA "<lambda>" (X.env.qual++"<lambda>") params body lscope [(y,c)] ((X.mg "__name__").getD .none) c' ctv))) (show(upd (upd H Pt (.tbl (#[]++#[rawInt lpos.line,rawInt lpos.col,.ref c']))) c' (.ext (lg c' (X.env.qual++"<lambda>")))) h'.objs.size=none by rw[aF ncg,aF ng];exact n2)
  have gg:=(g1.trans g2).trans g3
  have a1:=hM.lW (A:=fun _ H a=>H a=some (.tbl (tP lpos c'))) g1 aD (fun H' _ e=>e)
  have a2:=a1.lW (A:=fun _ H a=>H a=some (.ext (lg a (X.env.qual++"<lambda>")))) g2 aD (fun H' _ e=>e)
  have a3:=a2.lW (A:=fun K H a=>H a=some (.ext (bK a (BA "<lambda>" (X.env.qual++"<lambda>") params body lscope [(y,c)] ((X.mg "__name__").getD .none) c' ctv)))/\Rep K H d2 v2) g3 ⟨aD,rd.mono gg⟩ (fun H' g' e=>⟨e,(rd.mono gg).mono g'⟩)
  have m1:=hM.fresh n1
  have m2:=hM.fresh n2
  refine h _ c' ctv _ _ _ _ I2 gg a3 ag (by rw[ao ncg.symm,ag];rfl) (.inr ⟨c',by rw[ao ng.symm,ao nc.symm,ag];rfl,by rw[ao ncg.symm,ag];rfl,nc⟩) fun a o na e=>?_
  rw[ao (fun z=>by rw[z,m2]at e;cases e),ao (fun z=>by rw[z,m1]at e;cases e),ao na];exact e
 ·obtain⟨hP,_⟩:=hM _ _ ht
  have hP':s.heap.get? Pt=some (PySem.W.tabObj (tP lpos c1)):=I.hok _ _ hP
  have hPn:H Pt≠none:=by rw[hP];simp
  refine PySem.W.kla_makeFunctionHit (mg:=X.mg) (cv:=.ref c1) hcl I.ok.glob hgs hcode C hP' trivial (by unfold tP rawInt codeAmong;simp) (sC I m hPn) fun ctv h' tk hk hsz=>?_
  obtain⟨n2,I2⟩:=uK (o:=BA "<lambda>" (X.env.qual++"<lambda>") params body lscope [(y,c)] ((X.mg "__name__").getD .none) c1 ctv) (tk:=tk) rfl I hk hsz
  have g3:=Grow.new (K:=X.K) (o:=.ext (bK h'.objs.size (BA "<lambda>" (X.env.qual++"<lambda>") params body lscope [(y,c)] ((X.mg "__name__").getD .none) c1 ctv))) n2
  have a3:=hM.lW (A:=fun K H a=>H a=some (.ext (bK a (BA "<lambda>" (X.env.qual++"<lambda>") params body lscope [(y,c)] ((X.mg "__name__").getD .none) c1 ctv)))/\Rep K H d2 v2) g3 ⟨aD,rd.mono g3⟩ (fun H' g' e=>⟨e,(rd.mono g3).mono g'⟩)
  have m2:=hM.fresh n2
  have k1:Pt≠h'.objs.size:=fun z=>by rw[<-z,ht]at m2;cases m2
  have k2:c1≠h'.objs.size:=fun z=>by rw[<-z,hr1]at m2;cases m2
  refine h _ c1 ctv _ _ _ _ I2 g3 a3 ag (by rw[ao k2];exact hr1) (.inr ⟨c1,by rw[ao k1];exact ht,by rw[ao k2];exact hr1,nc1⟩) fun a o na e=>?_
  rw[ao (fun z=>by rw[z,m2]at e;cases e)];exact e
end
def vj(Pt:Addr)(H:Hp):Prop:=∀b,b≠Pt->H b=none\/∃o xs,H b=some (.frz o (.lst xs))
theorem oJ{P:Au}{w:AU}{K:A0}{mg mb:Str->Option A1}{k:Nat}{fa a Pt c0:Addr}{fd:FuncData}{x:Str}{sp:Sp}{s₁:A2}{vs:List A1}{ns:List Int}
 (KX:K.In s₁.heap) (hns:s₁.heap.Ns Bm mg) (hb:s₁.heap.Ns builtinsNs mb) (hbb:∀x:Str,x≠"__name__"->mb x=Be x) (hlim:s₁.heap.NoLimit) (hg:s₁.gens=#[])
 (ha:s₁.heap.get? a=some { cls:=.type "list",data:=.seq vs.toArray }) (hi:By vs ns) (hl:ns.length<=AI) (hr:Room k callerA) (hT:s₁.heap.get? Pt=some (PySem.W.tabObj #[])) (hKP:K.lookup Pt=none) (hC:PySem.W.codeHdIn K c0 Pt=true)
 (F:∀base:Heap,FnOk P w K mg base CX0 k fa fd [x] sp) (hbind:∀(s:A2) (u:A1),BindsTo s fd ⟨[u],[]⟩ [(x,u)])
 (hsp:∀H:Hp,vj Pt H->H Pt=some (.tbl #[])->SqL K H a (ns.map V.int)->sp [.ref a] H (fun v _=>v=.bl true) fun _ _ _=>False) :
 codeAny (Ay P w) callerA (.call (.ref fa) ⟨[.ref a],[]⟩) (fun r s'=>r=.ok (.ret (.bool true))/\OldK s₁.heap s'.heap/\s'.os=s₁.os/\AllBare s'.gens) s₁:=by
 have rv:=ja hi
 have lenV:=hi.length
 have naP:a≠Pt:=fun z=>by
  rw[z,hT]at ha
  cases ha
 have core:∀H:Hp,vj Pt H->H Pt=some (.tbl #[])->SqL K H a (ns.map V.int)->HOk P w H s₁.heap->(∀b,H b≠none->b=a\/b=Pt)->(H a≠none->K.lookup a=none)->
  codeAny (Ay P w) callerA (.call (.ref fa) ⟨[.ref a],[]⟩) (fun r s'=>r=.ok (.ret (.bool true))/\OldK s₁.heap s'.heap/\s'.os=s₁.os/\AllBare s'.gens) s₁:=by
  intro H hO hP hS hok hA hK
  have noA:∀{b:Addr} {o:Obj} {es:Array Bk} {ep:Nat},s₁.heap.get? b=some o->o.data=.dict es ep->H b=none:=fun{b o es ep} e d=>by
   cases q:H b with
   |none=>rfl
   |some u=>
    rcases hA b (by rw[q];simp)with z|z
    ·rw[z,ha]at e;cases e
     have d':Data.seq vs.toArray _=Data.dict es ep:=d
     cases d'
    ·rw[z,hT]at e;cases e
     have d':Data.fields #[]=Data.dict es ep:=d
     cases d'
  have nsK:∀{b:Addr} {m:Str->Option A1},s₁.heap.Ns b m->(fE s₁.heap H).Ns b m:=fun{b m} z=>by
   obtain⟨o,es,ep,e,d,r⟩:=z
   exact⟨o,es,ep,eX e (noA e d),d,r⟩
  have hKb:K.In (fE s₁.heap H):=fun b o e=>eX (KX b o e) (by
   cases q:H b with
   |none=>rfl
   |some u=>
    rcases hA b (by rw[q];simp)with z|z
    ·subst z
     rw[hK (by rw[q];simp)]at e;cases e
    ·rw[z,hKP]at e;cases e)
  obtain⟨mc,l1,l2⟩:=hlim
  have hM:Mod K mg (fE s₁.heap H):=⟨hKb,nsK hns,⟨mb,nsK hb,hbb⟩,⟨mc,nsK l1,l2⟩⟩
  have e0:Env0 P w K mg (fE s₁.heap H) callerA [] s₁ H:=⟨rfl,hM,fun b o e=>jE e,Nat.le_of_eq (je _ _),trivial,fun b hb=>absurd (show b∈([]:List Addr)from hb) (by simp),hok,.of_eq hg⟩
  refine codeAny_mono ((F _).run callerA [] s₁ H ⟨[.ref a],[]⟩ [.ref a] [.ref a] _ _ hr e0 (hbind s₁ (.ref a)) (.cons rfl .nil) (hsp H hO hP hS)) fun r s' h=>?_
  cases r with
  |error e=>exact BB h
  |ok fl=>
   cases fl with
   |next=>exact BB h
   |brk=>exact BB h
   |cont=>exact BB h
   |ret u=>
    obtain⟨v,H',os,bare,un,hok',r',q⟩:=h
    have q':v=.bl true:=q
    subst q'
    obtain rfl:u=Value.bool true:=r'
    obtain⟨more,hP'⟩:=un.tbls _ _ hP
    have hT':s'.heap.get? Pt=some (PySem.W.tabObj (#[]++more)):=hok' _ _ hP'
    have keep:∀b o,b≠Pt->s₁.heap.get? b=some o->s'.heap.get? b=some o:=fun b o nb e=>by
     cases q:H b with
     |none=>exact un.keep b o e q (by intro z;exact absurd (show b∈([]:List Addr)from z) (by simp)) (by simp)
     |some u=>
      rcases hO b nb with z|⟨ob,xs,z⟩
      ·rw[q]at z;cases z
      ·have z2:=un.frzs b ob _ z
       obtain⟨e1,_⟩:=hok b _ z
       obtain⟨e2,_⟩:=hok' b _ z2
       rw[e]at e1;cases e1
       exact e2
    have C:=PySem.W.codeHd_of_K KX hC
    refine⟨rfl,⟨fun b o e=>?_,fun b o e=>?_⟩,os,bare⟩
    ·by_cases nb:b=Pt
     ·subst nb
      rw[hT]at e;cases e
      exact .inr (.inl ⟨(C.tab hT).isCodeTable,rfl,#[],more,rfl,hT'⟩)
     ·exact .inl (keep b o nb e)
    ·by_cases nb:b=Pt
     ·subst nb;exact⟨_,hT'⟩
     ·exact⟨o,keep b o nb e⟩
 have tab:∀{H:Hp} {b:Addr} {u:HO},b=Pt->H b=some (.tbl #[])->H b=some u->bo P w H s₁.heap b u:=fun{H b u} z e1 e2=>by
  rw[e1]at e2;cases e2
  rw[z];exact hT
 cases hk:K.lookup a with
 |some o=>
  have e:=KX a o hk
  rw[ha]at e
  cases e
  refine core (fun b=>if b=Pt then some (.tbl #[])else none) (fun b nb=>.inl (if_neg nb)) (if_pos rfl) (.inr ⟨_,vs.toArray,_,hk,rfl,rfl,rfl,by rw[Ar,lenV];exact hl,by simpa using rv⟩) (fun b u z=>?_) (fun b z=>?_) fun z=>absurd (if_neg naP) z
  ·by_cases hb:b=Pt
   ·exact tab hb (if_pos hb) z
   ·have z':=(if_neg hb).symm.trans z
    cases z'
  ·by_cases hb:b=Pt
   ·exact .inr hb
   ·exact absurd (if_neg hb) z
 |none=>
  refine core (fun b=>if b=Pt then some (.tbl #[])else if b=a then some (.frz { cls:=.type "list",data:=.seq vs.toArray } (.lst (ns.map V.int)))else none) (fun b nb=>?_) (if_pos rfl) (.inl (.inr ⟨{ cls:=.type "list",data:=.seq vs.toArray },by show(if a=Pt then _ else _)=_;rw[if_neg naP,if_pos rfl]⟩)) (fun b u z=>?_) (fun b z=>?_) fun _=>hk
  ·by_cases hb:b=a
   ·exact .inr ⟨_,_,by show(if b=Pt then _ else _)=_;rw[if_neg nb,if_pos hb]⟩
   ·exact .inl (by show(if b=Pt then _ else _)=_;rw[if_neg nb,if_neg hb])
  ·by_cases hb:b=Pt
   ·exact tab hb (if_pos hb) z
   ·have z1:=(if_neg hb).symm.trans z
    by_cases hb2:b=a
    ·have z':=(if_pos hb2).symm.trans z1
     cases z'
     subst hb2
     exact⟨ha,by rw[A4];exact hl,vs,_,rv,ha⟩
    ·have z':=(if_neg hb2).symm.trans z1
     cases z'
  ·by_cases hb:b=Pt
   ·exact .inr hb
   ·by_cases hb2:b=a
    ·exact .inl hb2
    ·exact absurd (by show(if b=Pt then _ else _)=_;rw[if_neg hb,if_neg hb2]) z
theorem oR{l:PySem.W.OpenLaw}{k:Nat}{q:Au}{loose:List Str}{XP:(Str->Option A1)->Heap->Prop}{YP:AU->Heap->Prop}{d:DefRec}{K:AA->A0}{sp:SpD}{x:Str}{Pt c0:Addr}
 (hn:l.most=some 63) (hdf:d.params.defaults=[]) (hr:Room k callerA)
 (hY:∀(w:AU) (h:Heap),YP w h->(K w.params).In h) (hT:∀(w:AU) (h:Heap),YP w h->h.get? Pt=some (PySem.W.tabObj #[])) (hKP:∀w:AU,(K w.params).lookup Pt=none) (hC:∀w:AU,PySem.W.codeHdIn (K w.params) c0 Pt=true)
 (F:∀(w:AU) (mg:Str->Option A1) (fa:Addr) (h:Heap),(K w.params).In h->h.Ns Bm mg->mg d.name=some (.ref fa)->
  ∃fd:FuncData,(∀(s:A2) (u:A1),BindsTo s fd ⟨[u],[]⟩ [(x,u)])/\
   ∀base:Heap,FnOk l.prog w (K w.params) mg base CX0 k fa fd [x] (d6 (K w.params) sp))
 (hsp:∀(ns:List Int) (M:MH),ns.length<=63->M Pt=some (so #[])->sp [.rol (ns.map D.int)] M (fun d _=>d=.bl true)) :
 PySem.W.WalkO q loose XP YP l.row.toRowW d [] (fun f vs=>PySem.call f vs):=by
 refine Att.kh hn hdf fun w s₀ s₁ mg mb fa o pm cd doc a vs ns G Y ho hd hcd hmg hobj hints hlen hg=>?_
 have KX:=hY w _ Y
 obtain⟨fd,hb,hF⟩:=F w mg fa _ KX G.T.g hmg
 refine oJ KX G.T.g G.T.b G.T.builtins G.T.nolimit hg hobj hints (B8 hlen (by decide)) hr (hT w _ Y) (hKP w) (hC w) hF hb fun H hO hP hS=>?_
 have hF:SqF (K w.params) H a (ns.map V.int):=by
  rcases hS with(z|z)|z
  ·exfalso
   by_cases na:a=Pt
   ·rw[na,hP]at z;cases z
   ·rcases hO a na with y|⟨o,xs,y⟩
    ·rw[z]at y;cases y
    ·rw[z]at y;cases y
  ·exact .inl z
  ·exact .inr z
 refine⟨[.rol (ns.map D.int)],fun b=>if b=Pt then some (so #[])else none,_,.cons (by rw[Rep];exact⟨a,_,rfl,hF,ft ns⟩) .nil,fun b u e=>?_,hsp ns _ hlen (if_pos rfl),fun d M' v H' g r a' e=>?_⟩
 ·by_cases hb:b=Pt
  ·have e':=(if_pos hb).symm.trans e
   cases e'
   rw[hb]
   exact⟨hP,by rw[hP];simp,fun H' _ e=>e.trans hP⟩
  ·have e':=(if_neg hb).symm.trans e
   cases e'
 ·subst e
  rw[Rep]at r
  exact r
def oS(K:A0)(mg:Str->Option A1)(x:Str)(st:Stmt)(c0:Addr):Prop:=
 ∃(f:Addr) (oc:A1) (od:Option Addr) (kV doc pm:A1) (an:Option Addr) (ct:A1) (osl:Array (Option A1)),K.lookup f=some ⟨oc,od,.func (Bt x x (aZ st) (aN st) (ak st) .none kV doc pm an (.ref c0) ct),osl⟩/\PySem.W.codeIn K (.ref c0) x=true/\Cq K (.ref f)=true/\mg x=some (.ref f)
section
variable{P:Au}{w:AU}{K:A0}{mg:Str->Option A1}{base:Heap}
theorem oS.mk{h:Heap}{x:Str}{st:Stmt}{f c0:Addr}{oc:A1}{od an:Option Addr}{osl:Array (Option A1)}{kV doc pm ct:A1}(X:K.In h)(G:h.Ns Bm mg)(a:PySem.W.nsIn K Bm x=some (some (.ref f))) (l:K.lookup f=some ⟨oc,od,.func (Bt x x (aZ st) (aN st) (ak st) .none kV doc pm an (.ref c0) ct),osl⟩) (c:PySem.W.codeIn K (.ref c0) x=true) (k:Cq K (.ref f)=true):oS K mg x st c0:=⟨f,oc,od,kV,doc,pm,an,ct,osl,l,c,k,PySem.W.mg_of X G a⟩
theorem z6{x:Str}{st:Stmt}{N ps:List Str}{k:Nat}{sp:SpD}{c0:Addr}(T:oS K mg x st c0)(S:FnScope N ps (ak st))
 (hb:∀(kV doc pm:A1) (an:Option Addr) (cdv ct:A1) (us:List A1),us.length=ps.length->bindArgs (Bt x x (aZ st) (aN st) (ak st) .none kV doc pm an cdv ct) ⟨us,[]⟩=pure (ps.zip us))
 (len:∀ds M Q,sp ds M Q->ds.length=ps.length)
 (body:∀(f:Addr) (A:AQ) (outer:List Env) (s:A2) (H:Hp) (E:XK),Room k (A.deeper (envOfC x (ak st) s.heap.objs.size f (.ref c0)))->
  ∃t,DSs (fy CX0 P w K mg base N x (ak st) f (.ref c0) A outer s H E).nox (aN st) t/\∀ds M Q,sp ds M Q->t { nx:=fun _ M'=>Ret Q .non M',rt:=Ret Q } (di N ds) M):Cal P w K mg base (k+1) x sp:=by
 obtain⟨f,oc,od,kV,doc,pm,an,ct,osl,lk,hcd,kp,hm⟩:=T
 refine⟨f,_,ps,uY lk hcd S (fun vs H Q E z=>?_) (fun A outer s H vs Q E hr z=>?_),hm,kp,.all fun us hl=>hb kV doc pm an (.ref c0) ct us hl⟩
 ·obtain⟨ds,M,R,rs,_,q,_⟩:=z
  rw[<-rs.length];exact len _ _ _ q
 ·obtain⟨ds,M,R,rs,a,q,fin⟩:=z
  obtain⟨t,h,hq⟩:=body f A outer s H E hr
  refine⟨_,h.nox,di N ds,M,fW rs,a,{ nx:=fun _ M'=>Ret R .non M',rt:=Ret R },⟨fun δ' M' σ' H' g s' a' q'=>?_,fun d M' v H' g r a' q'=>?_,fun _ _ _ _ _ _ _ z=>z,fun _ _ _ _ _ _ _ z=>z⟩,hq ds M R q⟩
  ·obtain⟨M2,s2,q'⟩:=q'
   exact fin .non M2 .non H' g (by rw[Rep]) (a'.sub s2) q'
  ·obtain⟨M2,s2,q'⟩:=q'
   exact fin _ _ _ _ g r (a'.sub s2) q'
theorem zA{h:Heap}{c0 Pt bm:Addr}{o:Obj}(X:K.In h)(G:h.Ns Bm mg)(hd:PySem.W.codeHdIn K c0 Pt=true)(a:PySem.W.nsIn K Bm "__builtins__"=some (some (.ref bm)))(l:K.lookup bm=some o)(h1:bm≠builtinsNs)(h2:bm≠Bm)(h3:o.cls=.type "module")(h4:o.dict=some builtinsNs)(h5:o.data=.plain):Mk K mg c0 Pt:=⟨hd,bm,o,PySem.W.mg_of X G a,h1,h2,l,h3,h4,h5⟩
end
theorem bO.refl{Pt:Addr}{M:MH}:bO Pt M M:=fun _ _ _ h=>h
theorem cm.new{q:Str}{Pt:Addr}{pos:Pos}{M:MH}{p:Addr}{o:MO}(h:cm q Pt pos M)(hp:M p=none):cm q Pt pos (aA M p o):=by
 rcases h with h|⟨c,h1,h2,h3⟩
 ·exact .inl (by rw[ao (fun z=>by rw[z,hp]at h;cases h)];exact h)
 ·exact .inr ⟨c,by rw[ao (fun z=>by rw[z,hp]at h1;cases h1)];exact h1,by rw[ao (fun z=>by rw[z,hp]at h2;cases h2)];exact h2,h3⟩
theorem cm.kx{q:Str}{Pt:Addr}{pos:Pos}{M M':MH}{xs:List Addr}(h:cm q Pt pos M)(k:∀a o,a∉xs->M a=some o->M' a=some o)(hx:∀a∈xs,∀A,M a≠some (.gen A)):cm q Pt pos M':=by
 rcases h with h|⟨c,h1,h2,h3⟩
 ·exact .inl (k _ _ (fun z=>hx _ z _ h) h)
 ·exact .inr ⟨c,k _ _ (fun z=>hx _ z _ h1) h1,k _ _ (fun z=>hx _ z _ h2) h2,h3⟩
theorem cm.sub{q:Str}{Pt:Addr}{pos:Pos}{M M':MH}(h:cm q Pt pos M)(k:Sub M M'):cm q Pt pos M':=h.kx (xs:=[]) (fun a o _ e=>k a o e) (fun _ z=>nomatch z)
theorem cm.upd{q:Str}{Pt:Addr}{pos:Pos}{M:MH}{p:Addr}{o:MO}{ds:List D}(h:cm q Pt pos M)(hp:M p=some (.lst ds)):cm q Pt pos (aA M p o):=h.kx (xs:=[p]) (fun a u n e=>by rw[ao (by simpa using n)];exact e) (fun a ha A e=>by rw[show a=p by simpa using ha,hp]at e;cases e)
def jC(o:Obj):MO:=.gen fun _ H a=>H a=some (.ext (bK a o))
theorem Prs.mono{K:A0}{H H':Hp}(g:Grow K H H'):∀{xs:List V} {us:List (Int×Int)},Prs K H xs us->Prs K H' xs us
 |[],[],_=>trivial
 |_::_,_::_,h=>⟨let⟨a,e,t⟩:=h.1;⟨a,e,g.t _ _ t⟩,Prs.mono g h.2⟩
 |[],_::_,h=>h.elim
 |_::_,[],h=>h.elim
theorem Prs.snoc{K:A0}{H:Hp}{x:V}{u:Int×Int}(z:∃a,x=.ref a/\SqT K H a [.int u.1,.int u.2]):∀{xs:List V} {us:List (Int×Int)},Prs K H xs us->Prs K H (xs++[x]) (us++[u])
 |[],[],_=>⟨z,trivial⟩
 |_::_,_::_,h=>⟨h.1,Prs.snoc z h.2⟩
 |[],_::_,h=>h.elim
 |_::_,[],h=>h.elim
theorem jj{x:V}{u:A1}(r:RelV x u):∀{xs:List V} {us:List A1},Vals xs us->Vals (xs++[x]) (us++[u])
 |[],_,.nil=>.cons r .nil
 |_::_,_,.cons a b=>.cons a (jj r b)
section
variable{X:Cx}{pins:List (Addr×Obj)}{σ:L2.St}{s:A2}
def KyS(X:Cx)(pins:List (Addr×Obj))(σ:L2.St)(H0:Hp)(M2:MH)(a kS:Addr)(e1:Nat)(us:List (Int×Int))(i:Nat)(s':A2):Prop:=
 ∃H' M' kA e ks,Inv X pins σ H' s'/\Grow X.K H0 H'/\Abs X.K H' M'/\Sub M2 M'/\M' a=some (jC (B9 "list" #[] e1))/\M' kS=some (jC (B9 "list" kA e))/\Vals ks kA.toList/\Prs X.K H' ks (us.take i)
theorem uu{H0:Hp}{M2:MH}{a kS g:Addr}{e1:Nat}{us:List (Int×Int)}{ds:List D}{xs:List V}{its:List A1}{Q:PySem.Fin->A2->Prop}{E:A1->A2->Prop}{A:AQ}(hka:kS≠a)(ha:M2 a=none)(hk:M2 kS=none)(rs:av X.K H0 ds xs)(rv:Vals xs its)(hn:us.length=ds.length)(h64:us.length<64)
 (turn:∀i d1 v1 u1 M' H' s',Inv X pins σ H' s'->Abs X.K H' M'->Sub M2 M'->ds[i]?=some d1->Rep X.K H' d1 v1->RelV v1 u1->i<us.length->
  A9 (Ay X.prog X.w) A (call (.ref g) [u1]) (EP X pins σ (fun v H''=>Grow X.K H' H''/\Rep X.K H'' (.tup [.int (p0 us i).1,.int (p0 us i).2]) v/\Abs X.K H'' M')) (fun _ _=>False) s')
 (h0:KyS X pins σ H0 M2 a kS e1 us 0 s)
 (h:∀H' M' kA e ks s',Inv X pins σ H' s'->Grow X.K H0 H'->Abs X.K H' M'->Sub M2 M'->M' a=some (jC (B9 "list" #[] e1))->M' kS=some (jC (B9 "list" kA e))->Vals ks kA.toList->Prs X.K H' ks us->
  A9 (Ay X.prog X.w) A (ksk_end a false its.toArray e1 (.ref kS) kA) Q E s') :
 A9 (Ay X.prog X.w) A (ksk_rest a (.ref g) false its.toArray e1 (.ref kS)) Q E s:=by
 have hl:its.length=us.length:=by rw[<-rv.length,<-rs.length,hn]
 unfold ksk_rest
 refine cc (wpAny_rule ?_)
 first
  |rw[List.forIn_toArray]
  |(rw[<-BC];simp only[List.toList_toArray])
  |rw[<-BC]
 refine cc (ksk_fold (fun i s'=>KyS X pins σ H0 M2 a kS e1 us i s') its 0 s h0 ?step ?done)
 case step=>
  rintro j u1 s' hx ⟨H',M',kA,e,ks,I,g0,aM,sb,hMa,hMk,vk,pk⟩
  simp only[Nat.zero_add]at pk ⊢
  have hj:j<its.length:=(A6.mp hx).1
  have hju:j<us.length:=by omega
  have hjd:j<ds.length:=by omega
  obtain⟨v1,hv1,r1⟩:=rs.get (show ds[j]?=some ds[j]from AE hjd)
  obtain⟨u',hu',ru⟩:=rv.get hv1
  rw[hx]at hu';cases hu'
  refine cc (wpAny_attempt (AK (turn j ds[j] v1 u1 M' H' s' I aM sb (AE hjd) (r1.mono g0) ru hju) (fun r s2 z=>?_) fun _ _ hF=>hF.elim))
  obtain⟨v2,H2,I2,rr,g2,rep2,a2⟩:=z
  try dsimp only
  have oa:s2.heap.get? kS=some (B9 "list" kA e):=(I2.hok _ _ (a2 _ _ hMk).1).1
  have hsz:kA.size<=us.length:=by
   have h1:ks.length=kA.size:=by rw[<-B4];exact vk.length
   have h2:=pk.len
   rw[Bu]at h2
   omega
  obtain⟨c2,hc2⟩:∃c2,(s2.heap.update kS (Bh (·.push r))).get? kS=some (B9 "list" (kA.push r) c2):=⟨_,get?_update_seq oa (·.push r)⟩
  have s1:=Heap.SameBut.update s2.heap kS (Bh (·.push r))
  refine cc (listUpdate_at oa rfl ?_ (by rw[C4];omega) (B8 (Nat.le_of_eq (Array.size_push ..)) (by rw[C4];omega)))
  have hHk:H2 kS=some (.ext (bK kS (B9 "list" kA e))):=(a2 _ _ hMk).1
  have gw:Grow X.K H2 (upd H2 kS (.ext (bK kS (B9 "list" (kA.push r) c2)))):=.ext hHk
  have I3:Inv X pins σ (upd H2 kS (.ext (bK kS (B9 "list" (kA.push r) c2)))) { s2 with heap:=s2.heap.update kS (Bh (·.push r)) }:=I2.write (t':=s2.toks) (x:=kS) (e:=kS) (by rw[hHk];exact True.intro) (.inl rfl) (fun b q hb z=>(s1.2 b hb).trans z) ⟨_,hc2⟩ (fM hc2)
  rw[Rep]at rep2
  obtain⟨pp,zs,rfl,ht,rz⟩:=rep2
  obtain⟨w1,w2,rfl,q1,q2⟩:=dr rz
  rw[Rep]at q1 q2
  subst q1 q2
  refine A5 ⟨rfl,_,aA M' kS (jC (B9 "list" (kA.push r) c2)),kA.push r,c2,ks++[.ref pp],I3,(g0.trans g2).trans gw,a2.lW gw aD (fun H9 _ e9=>e9),fun b o z=>by rw[ao (aw z hk)];exact sb b o z,by rw[ao hka.symm];exact hMa,ag,by simpa using jj rr vk,?_⟩
  have et:us.take (j+1)=us.take j++[p0 us j]:=by
   rw[List.take_add_one,AE hju]
   unfold p0
   rw[Bl,AE hju];rfl
  rw[et]
  exact(pk.mono (g2.trans gw)).snoc ⟨pp,rfl,gw.t _ _ ht⟩
 case done=>
  rintro s' ⟨H',M',kA,e,ks,I,g0,aM,sb,hMa,hMk,vk,pk⟩
  have e3:us.take (0+its.length)=us:=List.take_of_length_le (by omega)
  rw[e3]at pk
  have oa:s'.heap.get? kS=some (B9 "list" kA e):=(I.hok _ _ (aM _ _ hMk).1).1
  try dsimp only
  exact cc (listItems_at oa rfl (h H' M' kA e ks s' I g0 aM sb hMa hMk vk pk))
theorem rL{H':Hp}{M':MH}{a kS:Addr}{e1 e:Nat}{kA:Array A1}{ks xs:List V}{us:List (Int×Int)}{its:List A1}{Q:PySem.Fin->A2->Prop}{E:A1->A2->Prop}{A:AQ}(hka:kS≠a)(I:Inv X pins σ H' s)(aM:Abs X.K H' M')(hMa:M' a=some (jC (B9 "list" #[] e1)))(hMk:M' kS=some (jC (B9 "list" kA e)))
 (vk:Vals ks kA.toList) (pk:Prs X.K H' ks us) (rv:Vals xs its) (hn:us.length=its.length) (hb:Pb us)
 (h:∀π H2 M2 s2,Inv X pins σ H2 s2->Grow X.K H' H2->(∀b,b≠a->b≠kS->M2 b=M' b)->M2 a=none->M2 kS=none->Abs X.K H2 M2->H2 a=some (.lst (π.toList.map fun i=>xs.getD i .non))->Pmu us.length π->Up (pky us) π us.length->Q (.done (.ret .none)) s2) :
 A9 (Ay X.prog X.w) A (ksk_end a false its.toArray e1 (.ref kS) kA) Q E s:=by
 have ok:s.heap.get? kS=some (B9 "list" kA e):=(I.hok _ _ (aM _ _ hMk).1).1
 have oa:s.heap.get? a=some (B9 "list" #[] e1):=(I.hok _ _ (aM _ _ hMa).1).1
 have hHk:H' kS=some (.ext (bK kS (B9 "list" kA e))):=(aM _ _ hMk).1
 have hHa:H' a=some (.ext (bK a (B9 "list" #[] e1))):=(aM _ _ hMa).1
 have h64:its.length<64:=by have:=hb.1;omega
 have hsz:kA.size=its.length:=by
  have h1:ks.length=kA.size:=by rw[<-B4];exact vk.length
  have h2:=pk.len
  omega
 have hkl:kA.toList.length=its.length:=by rw[B4];exact hsz
 have ekA:kA=kA.toList.toArray:=(Array.toArray_toList).symm
 have tail:∀(π:Array Nat) (st:SortSt),Pmu us.length π->Up (pky us) π us.length->arrOf st=π.map (PySem.W.kas_item (kA.zip its.toArray))->failedOf st=none->A9 (Ay X.prog X.w) A (ksk_tail a false e1 (.ref kS) st) Q E s:=fun π st hp hu har hf=>by
  have hout:(arrOf st).map (·.2)=de its π:=by rw[ekA]at har;exact PySem.W.kat_snds hkl har
  have hz:(de its π).size=its.length:=by unfold de;rw[Ar,A4,B4,hp.size,hn]
  have s1:=Heap.SameBut.update s.heap kS (Bh fun _=>(#[]:Array A1))
  have na1:(s.heap.update kS (Bh fun _=>(#[]:Array A1))).get? a=some (B9 "list" #[] e1):=(s1.2 a hka.symm).trans oa
  have s2:=Heap.SameBut.update (s.heap.update kS (Bh fun _=>(#[]:Array A1))) a (Bh fun _=>de its π)
  obtain⟨c2,hc2⟩:∃c2,((s.heap.update kS (Bh fun _=>(#[]:Array A1))).update a (Bh fun _=>de its π)).get? a=some (B9 "list" (de its π) c2):=⟨_,get?_update_seq na1 fun _=>de its π⟩
  obtain⟨c1,hc1⟩:∃c1,(s.heap.update kS (Bh fun _=>(#[]:Array A1))).get? kS=some (B9 "list" #[] c1):=⟨_,get?_update_seq ok fun _=>#[]⟩
  unfold ksk_tail
  try dsimp only
  rw[hout]
  refine cc (listUpdate_at ok rfl ?_ (by rw[hsz,C4];omega) (B2 _))
  refine cc (Ci ?_)
  refine cc (seqEpoch_at na1 rfl ?_)
  refine cc (listUpdate_at na1 rfl ?_ (B2 _) (by show(de its π).size<=_;rw[hz,C4];omega))
  rw[hf]
  simp only[bne_self_eq_false,AM,if_false]
  have I1:=I.write (t':=s.toks) (o:=.ext (bK kS (B9 "list" #[] c1))) (x:=kS) (e:=kS) (h':=s.heap.update kS (Bh fun _=>(#[]:Array A1))) (by rw[hHk];exact True.intro) (.inl rfl) (fun b q hb z=>(s1.2 b hb).trans z) ⟨_,hc1⟩ (fM hc1)
  have hHa1:(upd H' kS (.ext (bK kS (B9 "list" #[] c1)))) a=some (.ext (bK a (B9 "list" #[] e1))):=by rw[aF hka.symm];exact hHa
  have vo:Vals (π.toList.map fun i=>xs.getD i .non) (π.toList.map fun i=>its.getD i .none):=jc rv π.toList
  have I2:=I1.write (t':=s.toks) (o:=.lst (π.toList.map fun i=>xs.getD i .non)) (x:=a) (e:=a) (h':=(s.heap.update kS (Bh fun _=>(#[]:Array A1))).update a (Bh fun _=>de its π)) (by rw[hHa1];exact True.intro) (.inl rfl) (fun b q hb z=>(s2.2 b hb).trans z) ⟨_,hc2⟩
   (show bo X.prog X.w _ _ _ (.lst _)from⟨by rw[A4,B4,hp.size,C4];omega,_,c2,vo,hc2⟩)
  have g1:Grow X.K H' (upd H' kS (.ext (bK kS (B9 "list" #[] c1)))):=.ext hHk
  have g2:Grow X.K (upd H' kS (.ext (bK kS (B9 "list" #[] c1)))) (upd (upd H' kS (.ext (bK kS (B9 "list" #[] c1)))) a (.lst (π.toList.map fun i=>xs.getD i .non))):=.ext hHa1
  refine A5 (h π _ (fun b=>if b=a\/b=kS then none else M' b) _ I2 (g1.trans g2) (fun b n1 n2=>if_neg (by simp[n1,n2])) (if_pos (.inl rfl)) (if_pos (.inr rfl)) (fun b o z=>?_) aD hp hu)
  have z:(if b=a\/b=kS then none else M' b)=some o:=z
  by_cases hbk:b=a\/b=kS
  ·rw[if_pos hbk]at z;cases z
  ·rw[if_neg hbk]at z
   have n1:b≠a:=fun y=>hbk (.inl y)
   have n2:b≠kS:=fun y=>hbk (.inr y)
   exact(aM b o z).dt (g1.trans g2) (by rw[aF n1,aF n2])
 unfold ksk_end
 try dsimp only
 simp only[AM,if_false]
 by_cases h2:its.toArray.size<2
 ·rw[if_pos h2,if_pos h2]
  rw[Ar]at h2
  refine cc (A5 ?_)
  rw[StateT.run_pure]
  refine cc (A5 ?_)
  try dsimp only
  refine tail (BV us.length).toArray _ ⟨Array.Perm.refl _⟩ (fun i j hij hj=>by omega) ?_ rfl
  have e:=PySem.W.kas_range (kA.zip its.toArray)
  rw[show(kA.zip its.toArray).size=us.length by rw[Array.size_zip,hsz,Ar,hn,Nat.min_self]]at e
  exact e.symm
 ·rw[if_neg h2,if_neg h2]
  rw[Ar]at h2
  have tp:=pO I pk vk
  obtain⟨fs,k1,k2,k3⟩:=k8 (h:=s.heap) (its:=kA.toList) (us:=us) (by rw[hkl,hn]) tp
  have kk:A9 (Ay X.prog X.w) A (keyKind' kA) (fun κ s'=>κ=tuples' true/\s'=s) E s:=by
   rw[ekA]
   refine PySem.W.kat_kind (T:=.type "int") k1 (by omega) (fun v hv=>?_) (by decide) ⟨rfl,rfl⟩
   obtain⟨n,t,rfl⟩:=k3 v hv
   exact PySem.W.Looks.now
  refine cc (AK kk (fun κ s' z=>?_) fun _ _ z=>z)
  obtain⟨rfl,rfl⟩:=z
  refine cc (AK (?run:A9 (Ay X.prog X.w) A ((sortRuns').run (SortSt.mk' (tuples' true) (kA.zip its.toArray) #[] 7 none)) (fun r s''=>s''=s'/\∃p,Pmu its.length p/\Up (pky us) p its.length/\arrOf r.2=p.map (PySem.W.kas_item (kA.zip its.toArray))/\failedOf r.2=none) E s') ?_ fun _ _ x=>x)
  case run=>
   rw[ekA]
   refine PySem.W.kat_run (Q:=fun st s''=>s''=s'/\∃p,Pmu its.length p/\Up (pky us) p its.length/\arrOf st=p.map (PySem.W.kas_item (kA.toList.toArray.zip its.toArray))/\failedOf st=none)
    (G:=fun p s''=>s''=s'/\Pmu its.length p/\Up (pky us) p its.length) hkl (by omega) h64 (fun p st s'' _ b1 b2 b3=>⟨b3.1,p,b3.2.1,b3.2.2,b1,b2⟩)
    (m9 (n:=its.length) (k:=pky us) (fun i j C hi hj hC=>?_) _ (bL (fun p q=>⟨rfl,q⟩) _ (p4 (by rw[<-hn];exact hb.inj) (by omega))))
   obtain⟨x,t1,t2,ea,hx⟩:=tp i (by omega)
   obtain⟨y,t3,t4,eb,hy⟩:=tp j (by omega)
   unfold PySem.W.kas_ask
   rw[ea,eb]
   exact t8 hx hy (hb.2.2 _ (jU (by omega))) (hb.2.2 _ (jU (by omega))) hC
  rintro⟨⟨⟩,st⟩ s1 ⟨q0,p,hp,hu,har,hf⟩
  dsimp only at q0 ⊢
  subst q0
  rw[<-hn]at hp hu
  exact tail p st hp hu har hf
end
theorem nS{K:A0}{H:Hp}{ds:List D}{xs:List V}(r:av K H ds xs):∀l:List Nat,av K H (l.map fun i=>ds.getD i .non) (l.map fun i=>xs.getD i .non)
 |[]=>by rw[BF,BF];exact .nil
 |i::l=>by
  rw[Av,Av]
  refine .cons ?_ (nS r l)
  have hl:=r.length
  by_cases h:i<ds.length
  ·obtain⟨x,e,rr⟩:=r.get (show ds[i]?=some ds[i]from AE h)
   simpa[Bl,h,e]using rr
  ·have e1:ds.getD i .non=.non:=by simp[Bl,List.getElem?_eq_none (Nat.le_of_not_lt h)]
   have e2:xs.getD i .non=.non:=by simp[Bl,List.getElem?_eq_none (by omega:xs.length<=i)]
   rw[e1,e2,Rep]
section
variable{X:Cx}{pins:List (Addr×Obj)}{σ:L2.St}{s:A2}{H:Hp}
theorem yj{Q:A1->A2->Prop}{E:A1->A2->Prop}{l g:Addr}{M2:MH}{ds:List D}{us:List (Int×Int)}(I:Inv X pins σ H s)(aM:Abs X.K H M2)(hl:M2 l=some (.lst ds))(hn:us.length=ds.length)(hb:Pb us)
 (turn:∀i d1 v1 u1 M' H' s',Inv X pins σ H' s'->Abs X.K H' M'->Sub M2 M'->ds[i]?=some d1->Rep X.K H' d1 v1->RelV v1 u1->i<us.length->
  A9 (Ay X.prog X.w) X.A.in1.in1 (call (.ref g) [u1]) (EP X pins σ (fun v H''=>Grow X.K H' H''/\Rep X.K H'' (.tup [.int (p0 us i).1,.int (p0 us i).2]) v/\Abs X.K H'' M')) (fun _ _=>False) s')
 (done:∀p π H' M' s',Inv X pins σ H' s'->Grow X.K H H'->Abs X.K H' M'->Sub M2 M'->M2 p=none->M' p=some (.lst (π.toList.map fun i=>ds.getD i .non))->Pmu us.length π->Up (pky us) π us.length->Q (.ref p) s') :
 A9 (Ay X.prog X.w) X.A (call (.builtin "sorted") [.ref l] [(Bf "key",.ref g)]) Q E s:=by
 obtain⟨xs,hx,rs⟩:=aM _ _ hl
 obtain⟨its,rv,p1,hz⟩:=I.list (SqL.of hx)
 have hil:its.length=us.length:=by rw[<-rv.length,<-rs.length,hn]
 have h64:its.length<64:=by have:=hb.1;omega
 refine call_function_entry_kw kind_sorted plain_sorted entry_sorted (ksk_s1 _ _) ?_
 unfold CA.«sorted»
 refine cc (m:=checkCount "sorted" 1 1 _) (A5 ?_)
 refine cc (collect_list p1.isList ?_ (by rw[C4];omega))
 refine cc (wpAny_newList ?_ (by rw[C4];omega))
 generalize e1:((s.heap.push (B9 "list" #[] 0)).update s.heap.objs.size (Bh (·++its.toArray)))=h1
 have z1:h1.objs.size=s.heap.objs.size+1:=by rw[<-e1,Heap.size_update,size_push']
 have o1:∀b o,s.heap.get? b=some o->h1.get? b=some o:=fun b o q=>by
  rw[<-e1,Heap.get?_update_ne _ _ _ _ (AJ (A8 q)),Heap.get?_push_ne _ _ _ (AJ (A8 q))]
  exact q
 show A9 _ _ _ _ _ { s with heap:=h1.push (B9 "list" its.toArray 0) }
 rw[z1]
 have at1:(h1.push (B9 "list" its.toArray 0)).get? (s.heap.objs.size+1)=some (B9 "list" its.toArray 0):=by rw[<-z1];exact Aq _ rfl
 refine cc (Br (wpAny_call_entry_kw slot_list_sort ⟨_,at1,rfl⟩ entry_list_sort ?body (ksk_l1 _ _)))
 show A9 (Ay X.prog X.w) X.A.in1.in1 (CA.«list.sort» ⟨[.ref (s.heap.objs.size+1)],[(Bf "key",.ref g)]⟩) _ _ _
 rw[ksk_t1]
 obtain⟨e0,at2⟩:∃e0,((h1.push (B9 "list" its.toArray 0)).update (s.heap.objs.size+1) (Bh fun _=>#[])).get? (s.heap.objs.size+1)=some (B9 "list" #[] e0):=⟨_,get?_update_seq at1 fun _=>#[]⟩
 unfold ksk_tree
 refine cc (listItems_at at1 rfl ?_)
 refine cc (listUpdate_at at1 rfl ?_ (by rw[Ar,C4];omega) (B2 _))
 refine cc (seqEpoch_at at2 rfl ?_)
 refine cc (wpAny_newTuple ?_ (by show its.length<=_;rw[C4];omega))
 refine cc (wpAny_newList (Br ?_) (B2 _))
 generalize e2:(((h1.push (B9 "list" its.toArray 0)).update (s.heap.objs.size+1) (Bh fun _=>#[])).push (B9 "tuple" its.toArray 0))=h2
 have at3:h2.get? (s.heap.objs.size+1)=some (B9 "list" #[] e0):=by rw[<-e2];exact A3 _ at2
 have z2:h2.objs.size=s.heap.objs.size+3:=by rw[<-e2,size_push',Heap.size_update,size_push',z1]
 have o2:∀b o,s.heap.get? b=some o->h2.get? b=some o:=fun b o q=>by
  rw[<-e2]
  refine A3 _ ?_
  rw[Heap.get?_update_ne _ _ _ _ (AJ (Nat.lt_succ_of_lt (A8 q)))]
  exact A3 _ (o1 b o q)
 have I2:Inv X pins σ (upd H (s.heap.objs.size+1) (.ext (bK (s.heap.objs.size+1) (B9 "list" #[] e0)))) { s with heap:=h2 }:=I.laid (t':=s.toks) (h':=h2) o2 (Nat.le_succ _) (fM at3)
 have I3:=I2.laid (t':=s.toks) (a:=h2.objs.size) (o:=.ext (bK h2.objs.size (B9 "list" #[] 0))) (h':=h2.push (B9 "list" #[] 0)) (fun b u q=>A3 _ q) (A7 _) (fM (Aq _ rfl))
 have fa:H (s.heap.objs.size+1)=none:=I.hok.fresh (Nat.le_succ _)
 have g2:=Grow.new (K:=X.K) (o:=.ext (bK (s.heap.objs.size+1) (B9 "list" #[] e0))) fa
 have fk:(upd H (s.heap.objs.size+1) (.ext (bK (s.heap.objs.size+1) (B9 "list" #[] e0)))) h2.objs.size=none:=I2.hok.fresh (A7 _)
 have g3:=Grow.new (K:=X.K) (o:=.ext (bK h2.objs.size (B9 "list" #[] 0))) fk
 have ne:h2.objs.size≠s.heap.objs.size+1:=by rw[z2];exact fun e=>absurd (id e:@Eq Nat _ _) (by omega)
 have fkH:H h2.objs.size=none:=by rw[aF ne]at fk;exact fk
 have a2:=(aM.lW (A:=fun _ H a=>H a=some (.ext (bK a (B9 "list" #[] e0)))) g2 aD (fun H9 _ e9=>e9)).lW (A:=fun _ H a=>H a=some (.ext (bK a (B9 "list" #[] 0)))) g3 aD (fun H9 _ e9=>e9)
 have ma:=aM.fresh fa
 have mk:=aM.fresh fkH
 have sb0:Sub M2 (aA (aA M2 (s.heap.objs.size+1) (jC (B9 "list" #[] e0))) h2.objs.size (jC (B9 "list" #[] 0))):=fun b o z=>by
  rw[ao (aw z mk),ao (aw z ma)];exact z
 show A9 (Ay X.prog X.w) X.A.in1.in1 (ksk_rest (s.heap.objs.size+1) (.ref g) false its.toArray e0 (.ref h2.objs.size)) _ _ { s with heap:=h2.push (B9 "list" #[] 0) }
 refine uu (X:=X) (H0:=H) (M2:=M2) ne ma mk rs rv hn hb.1 turn ⟨_,_,#[],0,[],I3,g2.trans g3,a2,sb0,by rw[ao ne.symm,ag];rfl,by rw[ag];rfl,.nil,by rw[List.take_zero];trivial⟩ fun H' M' kA e ks s' I' g' aM' sb' hMa hMk vk pk=>?_
 refine rL ne I' aM' hMa hMk vk pk rv hil.symm hb fun π H4 M4 s4 I4 g4 same n1 n2 aM4 hH4 hπ hu=>⟨_,rfl,A5 ⟨_,rfl,?_⟩⟩
 refine done _ π H4 (aA M4 (s.heap.objs.size+1) (.lst (π.toList.map fun i=>ds.getD i .non))) s4 I4 (g'.trans g4) (fun b o z=>?_) (fun b o z=>?_) ma ag hπ hu
 ·by_cases hb':b=s.heap.objs.size+1
  ·subst hb'
   rw[ag]at z;cases z
   exact⟨_,hH4,nS (rs.mono (g'.trans g4)) _⟩
  ·rw[ao hb']at z;exact aM4 b o z
 ·have nb1:=aw z ma
  have nb2:=aw z mk
  rw[ao nb1,same b nb1 nb2];exact sb' b o z
end
def qu(q:Str)(Pt:Addr)(lpos:Pos)(j:Nat)(spg:D->SpD)(ta:TAD):TD:=fun δ M Q=>ta δ M fun es M1=>∃(l:Addr) (ds:List D) (us:List (Int×Int)) (d2:D),es=[.ref l]/\M1 l=some (.lst ds)/\l≠Pt/\δ[j]?=some (some d2)/\cm q Pt lpos M1/\us.length=ds.length/\Pb us/\
 (∀(i:Nat) d M' Q',ds[i]?=some d->bO Pt M1 M'->Q' (.tup [.int (p0 us i).1,.int (p0 us i).2]) M'->spg d2 [d] M' Q')/\
 ∀p π M',M' p=some (.lst (π.toList.map fun i=>ds.getD i .non))->Pmu us.length π->Up (pky us) π us.length->cm q Pt lpos M'->bO Pt M1 M'->Q (.ref p) M'
section
variable{X:Cx}{y lx:Str}{k:Nat}{params:Arguments}{body:Expr}{lscope:BY}{lpos p pos kp:Pos}{e1:Expr}{ta:TAD}{c0 Pt:Addr}{spg:D->SpD}
theorem mK(j:Nat)(hcode:X.env.code=.ref c0)(m:Mk X.K X.mg c0 Pt)(S:LamScope lx y lscope)
 (hb:∀(name qual:Str) (c:Addr) (pm cdv ct u1:A1),bindArgs (PySem.W.kla_fn name qual params body lscope [(y,c)] pm cdv ct) ⟨[u1],[]⟩=pure [(lx,u1)])
 (len:∀d ds M Q,spg d ds M Q->ds.length=1)
 (ht:∀(base:Heap) (g c c':Addr) (d2:D) (A:AQ) (outer:List Env) (s:A2) (H:Hp),Room k (A.deeper (gE lscope s.heap.objs.size [(y,c)] (X.env.qual++"<lambda>") g (.ref c')))->
  ∃t,DE (ki X.prog X.w X.K X.mg base [lx,y] (X.env.qual++"<lambda>") lscope [(y,c)] g (.ref c') A outer s H) body t/\∀d1 M Q,spg d2 [d1] M Q->t [some d1,some d2] M Q)
 (hr:Room (k+1+1+1) X.A) (hm:X.mg "sorted"=none) (ha:DA X [e1] ta)
 (hg:Gl X "sorted":=by rfl) (hfil:(lscope.names.filter fun z=>z.2==.free)=[(y,.free)]:=by rfl) (hdef:defaultsOf params X.env=([],[]):=by rfl) (hfn:X.fn y=true:=by rfl) (hNj:X.N[j]?=some y:=by rfl) (hcy:X.env.scope.names.lookup y=some .cell:=by rfl)
 (he:Cy pos (AF [e1] X.env)=(false,eval e1 X.env)::Cy pos (AF [] X.env):=by rfl) (hpl:(Cy pos (AF [e1] X.env)).any (·.1)=false:=by rfl) :
 DE X (.Call (.Name "sorted" p) [e1] [⟨some "key",.Lambda params body lscope lpos,kp⟩] pos) (qu (X.env.qual++"<lambda>") Pt lpos j spg ta):=by
 intro pins s σ H Q I h
 obtain⟨δ,M,R,hs,hM,q,fin⟩:=h
 refine wpAny_Call_Name_kw (fN I hg hm pC (PyProof.Rows.callWith_kw (thn (ha pos pins s σ H _ I ⟨δ,M,_,hs,hM,q,fun es M1 vs H1 g1 r1 a1 q1=>(show ∃es M1,Grow X.K H H1/\av X.K H1 es vs/\Abs X.K H1 M1/\_ from⟨es,M1,g1,r1,a1,q1⟩)⟩) fun us s1 z=>?_) he hpl rfl rfl))
 obtain⟨vs,H1,I1,rv1,es,M1,g1,r1,a1,l,ds,us',d2,rfl,hl,nlP,hj,htab,hn,hpb,hsp,hq⟩:=z
 obtain⟨v1,rfl,rl⟩:=bz r1
 rw[Rep]at rl;subst rl
 obtain⟨u1,rfl,ru⟩:=vals1 rv1
 cases ru
 obtain⟨v2,hv2,rd⟩:=hs.at' j d2 hj
 obtain⟨c,hc⟩:=I1.ok.has y (.inl hcy)
 refine PyProof.Rows.kws_cons (pP hcode m hfil (fun z hz hk=>S.only z hz hk) hdef I1 a1 hc htab (rd.mono g1) fun g c' ctv pm H2 M2 s2 I2 g2 a2 hgM hcM ht2 hsub=>?_)
 refine PyProof.Rows.kws_nil ?_
 show A9 (Ay X.prog X.w) X.A (call (.builtin "sorted") [.ref l] [(Bf "key",.ref g)]) _ _ _
 have hl2:M2 l=some (.lst ds):=hsub _ _ nlP hl
 refine yj I2 a2 hl2 hn hpb (fun i d1 v1 u1 M' H' s' I' aM' sb' hd r1' ru1 hi=>?_) fun p π H' M' s' I' g' aM' sb' hp hMp hπ hu=>?_
 ·have hsub':bO Pt M1 M':=fun a o na e=>sb' _ _ (hsub a o na e)
  obtain⟨mm,hnn,hll⟩:=I'.loc
  obtain⟨u2,ru2,lk⟩:=hll j y v2 hNj hv2 (.inr (.inl hcy))
  obtain⟨oc,hoc,hod⟩:s'.heap.IsCell c (some u2):=by
   rcases lk with⟨z,_⟩|⟨_,c2,hc2,z⟩
   ·rw[show X.env.kindOf y=X.env.scope.names.lookup y from rfl,hcy]at z;cases z
   ·rw[hc]at hc2;cases hc2;exact z
  have CV:=uL (P:=X.prog) (w:=X.w) (K:=X.K) (mg:=X.mg) (k:=k) (g:=g) (d2:=d2) (base:=fE s'.heap (ko X.base c)) (sp:=spg d2) S (eX hoc (pR (.inr rfl))) hod ru2 (fun u1=>hb "<lambda>" (X.env.qual++"<lambda>") c pm (.ref c') ctv u1) (len d2) (fun A outer s H hr=>ht _ g c c' d2 A outer s H hr)
  obtain⟨Pg,look,run⟩:=CV.ex
  have e0:=tD I' hfn hc
  obtain⟨_,h2⟩:=run X.A.in1.in1 X.stack s' H' M' hr.in1.in1 ⟨e0.frames,e0.mod,e0.bs,e0.bsz,e0.dZ,e0.frf,e0.hok,e0.bare⟩ aM' ⟨sb' _ _ hgM,sb' _ _ hcM⟩
  refine wpAny_call (codeAny_mono (h2 [u1] [v1] (fun v H''=>Grow X.K H' H''/\Rep X.K H'' (.tup [.int (p0 us' i).1,.int (p0 us' i).2]) v/\Abs X.K H'' M') (.cons ru1 .nil) ⟨[d1],M',fun d M''=>d=.tup [.int (p0 us' i).1,.int (p0 us' i).2]/\M''=M',.cons r1' .nil,aM',hsp i d1 M' _ hd hsub' ⟨rfl,rfl⟩,fun d M'' v H'' gg rr aa z=>by obtain⟨rfl,rfl⟩:=z;exact⟨gg,rr,aa⟩⟩) fun r s'' hq'=>?_)
  cases r with
  |error e=>exact BB hq'
  |ok fl=>
   cases fl with
   |ret u=>exact I'.after hq'
   |next=>exact BB hq'
   |brk=>exact BB hq'
   |cont=>exact BB hq'
 ·exact⟨.ref p,H',I',rfl,fin _ M' _ H' ((g1.trans g2).trans g') (by rw[Rep]) aM' (hq p π M' hMp hπ hu (ht2.sub sb') fun a o na e=>sb' _ _ (hsub a o na e))⟩
end
structure Nbs(cs:List Sq)(i:Nat)(kvs:SpT):Prop where
 ks:kvs.map (·.1)=(cs.take i).map kq
 vs:∀j v,j<i->cs[j]?=some v->eY kvs (kq v)=some (.int (j:Int))
theorem Nbs.nil(cs:List Sq):Nbs cs 0 []:=⟨by simp,fun j v h=>absurd h (Nat.not_lt_zero _)⟩
theorem Nbs.len{cs:List Sq}{i:Nat}{kvs:SpT}(h:Nbs cs i kvs):kvs.length<=i:=by have:=congrArg List.length h.ks;rw[A4,A4,Bu]at this;omega
theorem Nbs.put{cs:List Sq}{i:Nat}{kvs:SpT}{v:Sq}(h:Nbs cs i kvs)(up:cs.Pairwise plq)(e:cs[i]?=some v):Nbs cs (i+1) (putD kvs (kq v) (.int (i:Int))):=by
 obtain⟨li,ei⟩:=A6.mp e
 have no:∀x∈kvs,x.1≠kq v:=fun x hx q=>by
  have:x.1∈(cs.take i).map kq:=by rw[<-h.ks];exact Bo.mpr ⟨x,hx,rfl⟩
  obtain⟨u,hu,eu⟩:=Bo.mp this
  obtain⟨j,hj,ej⟩:=C0 hu
  rw[Bu]at hj
  rw[List.getElem_take]at ej
  have:=AL.mp up j i (by omega) li (by omega)
  rw[ej,ei,fq (eu.trans q)]at this
  exact aR _ this
 have nf:(kvs.find? fun x=>decide (x.1=kq v))=none:=List.find?_eq_none.mpr fun x hx=>by simpa using no x hx
 have pe:putD kvs (kq v) (.int (i:Int))=kvs++[(kq v,.int (i:Int))]:=by unfold putD;rw[if_neg];intro q;obtain⟨x,hx,hq⟩:=List.any_eq_true.mp q;exact no x hx (of_decide_eq_true hq)
 rw[pe];refine⟨by rw[B0,h.ks,Ct,e,B0];rfl,fun j u hj eu=>?_⟩;unfold eY;rw[List.find?_append];by_cases z:j=i
 ·subst z;rw[e]at eu;cases eu;rw[nf];simp
 ·have:=h.vs j u (by omega) eu;unfold eY at this;cases q:kvs.find? (fun x=>decide (x.1=kq u))with
  |none=>rw[q]at this;cases this
  |some x=>rw[q]at this;exact this
def ix(cs:List Sq)(v:Sq):Nat:=cs.findIdx fun u=>decide (u=v)
theorem jn{cs:List Sq}{v:Sq}(h:v∈cs):cs[ix cs v]?=some v:=by have hl:ix cs v<cs.length:=List.findIdx_lt_length_of_exists ⟨v,h,decide_eq_true rfl⟩;rw[AE hl];have:=List.findIdx_getElem (w:=hl);exact congrArg some (of_decide_eq_true this)
theorem m8{cs:List Sq}{v:Sq}(h:v∈cs):ix cs v<cs.length:=(A6.mp (jn h)).1
theorem mj{cs:List Sq}{u v:Sq}(hu:u∈cs)(hv:v∈cs)(e:ix cs u=ix cs v):u=v:=by have h1:=jn hu;rw[e,jn hv]at h1;cases h1;rfl
theorem vy{cs:List Sq}(up:cs.Pairwise plq){u v:Sq}(hu:u∈cs)(hv:v∈cs)(h:ix cs u<ix cs v):plq u v:=by obtain⟨l1,e1⟩:=A6.mp (jn hu);obtain⟨l2,e2⟩:=A6.mp (jn hv);have:=AL.mp up _ _ l1 l2 h;rw[e1,e2]at this;exact this
def ixP(cs:List Sq)(y:Pc):Int×Int:=((ix cs y.1:Int),(ix cs y.2:Int))
def pc0(ps:List Pc)(i:Nat):Pc:=ps.getD i ((0,0),(0,0))
section
variable{cs:List Sq}{ps:List Pc}(up:cs.Pairwise plq)(hm:∀y∈ps,y.1∈cs/\y.2∈cs)(hc:cs.length<=80)(hn:ps.length<=40)(nd:ps.Nodup)
include hm hc hn nd
theorem xa:Pb (ps.map (ixP cs)):=by
 refine⟨by rw[A4];omega,?_,fun u hu=>?_⟩
 ·refine List.pairwise_map.mpr (List.Pairwise.imp_of_mem (fun{a b} ha hb h e=>h ?_) nd);unfold ixP at e;simp only[Prod.mk.injEq]at e;exact Prod.ext (mj (hm a ha).1 (hm b hb).1 (by omega)) (mj (hm a ha).2 (hm b hb).2 (by omega))
 ·obtain⟨y,hy,rfl⟩:=Bo.mp hu;have:=m8 (hm y hy).2;show 0<=(ix cs y.2:Int)/\(ix cs y.2:Int)<100;omega
omit nd in
include up in
theorem pW{π:Array Nat}(h:Pmu (ps.map (ixP cs)).length π)(u:Up (pky (ps.map (ixP cs))) π (ps.map (ixP cs)).length):(π.toList.map (pc0 ps)).Pairwise pcl:=by
 rw[AL];intro i j hi hj hij;have sz:=h.size;have hj':j<ps.length:=by rw[A4,B4,sz,A4]at hj;exact hj
 have:=u i j hij (by rw[A4];exact hj');rw[A4]at sz
 have at1:∀a,a<ps.length->p0 (ps.map (ixP cs)) a=ixP cs (pc0 ps a)/\pc0 ps a∈ps:=fun a ha=>by
  have e:ps.getD a ((0,0),(0,0))=ps[a]:=by simp[ha]
  unfold p0 pc0
  rw[e]
  exact⟨by simp[ha],List.getElem_mem ha⟩
 have lt1:∀a,a<ps.length->π.getD a 0<ps.length:=fun a ha=>by
  have:=h.lt (i:=a) (by rw[A4];exact ha)
  rw[A4]at this;exact this
 have ei:π.toList[i]'(by rw[A4]at hi;exact hi)=π.getD i 0:=by
  have:i<π.size:=by omega
  simp[Array.getD,this]
 have ej:π.toList[j]'(by rw[A4]at hj;exact hj)=π.getD j 0:=by
  have:j<π.size:=by omega
  simp[Array.getD,this]
 rw[List.getElem_map,List.getElem_map,ei,ej];obtain⟨a1,a2⟩:=at1 _ (lt1 i (by omega));obtain⟨b1,b2⟩:=at1 _ (lt1 j hj');unfold ky pky at this;rw[a1,b1]at this;generalize pc0 ps (π.getD i 0)=y at *;generalize pc0 ps (π.getD j 0)=z at *;have y2:=m8 (hm y a2).2;have z2:=m8 (hm z b2).2;unfold ixP at this;dsimp only at this;by_cases e:ix cs y.1=ix cs z.1
 ·exact .inr ⟨mj (hm y a2).1 (hm z b2).1 e,vy up (hm y a2).2 (hm z b2).2 (by omega)⟩
 ·exact .inl (vy up (hm y a2).1 (hm z b2).1 (by omega))
omit hm hc hn nd in
theorem ue{π:Array Nat}(h:Pmu ps.length π):(π.toList.map (pc0 ps)).Perm ps/\(π.toList.map fun i=>(ps.map pcq).getD i .non)=(π.toList.map (pc0 ps)).map pcq:=by
 constructor
 ·have e1:=(Array.perm_iff_toList_perm.mp h.perm).map (pc0 ps)
  have e2:(BV ps.length).map (pc0 ps)=ps:=by
   apply List.ext_getElem
   ·simp
   ·intro i h1 h2;simp[pc0,h2]
  simpa[e2]using e1
 ·rw[C3];refine List.map_congr_left fun i hi=>?_
  have hi':i<ps.length:=by
   have:i∈π:=by simpa using hi
   have:=h.perm.mem_iff.mp this
   simpa using this
  simp[pc0,hi']
end
theorem bO.atR{r:Addr}{M M':MH}{o:MO}(h:bO r M M'):bO r M (aA M' r o):=fun a u n e=>by rw[ao n];exact h a u n e
theorem bO.fresh{r p:Addr}{M M':MH}{o:MO}(h:bO r M M')(hp:M' p=none):bO r M (aA M' p o):=fun a u n e=>by rw[ao (aw (h a u n e) hp)];exact h a u n e
theorem bO.old{r p:Addr}{M M':MH}{o:MO}(h:bO r M M')(hp:M p=none):bO r M (aA M' p o):=fun a u n e=>by rw[ao (aw e hp)];exact h a u n e
theorem cm.but{q:Str}{Pt r:Addr}{pos:Pos}{M M':MH}{ds:List D}(h:cm q Pt pos M)(hr:M r=some (.lst ds))(s:bO r M M'):cm q Pt pos M':=h.kx (xs:=[r]) (fun a u n e=>s a u (by simpa using n) e) (fun a ha A e=>by rw[show a=r by simpa using ha,hr]at e;cases e)
theorem cm.ne{q:Str}{Pt:Addr}{pos:Pos}{M:MH}(h:cm q Pt pos M):M Pt≠none:=by rcases h with h|⟨_,h,_⟩<;>rw[h]<;>exact fun z=>nomatch z
theorem cm.eg{q:Str}{Pt:Addr}{pos:Pos}{M:MH}(h:cm q Pt pos M){l:Addr}{ds:List D}(hl:M l=some (.lst ds)):l≠Pt:=fun e=>by subst e;rcases h with h|⟨_,h,_⟩<;>rw[h]at hl<;>cases hl
theorem nz:∀ys:List Pc,PyData.depthAll (ys.map pcP)<=10
 |[]=>B2 _
 |y::ys=>Nat.max_le.mpr ⟨nbL rfl,nz ys⟩
theorem gJ:∀ys:List Pc,Cn (ys.map pcP) (ys.map pcP)=true
 |[]=>rfl
 |y::ys=>by rw[Av,Cn,tV,gJ ys];simp
theorem xX{α:Type}(f:α->D)(l:List α)(i:Nat)(hi:i<=l.length):cutD (l.map f) none (some (i:Int))=(l.take i).map f:=by unfold cutD;rw[HT.n4,HT.lB,A4,Nat.min_eq_left hi,Nat.sub_zero,List.drop_zero,List.map_take]
section
variable{X:Cx}{pins:List (Addr×Obj)}{σ:L2.St}{H:Hp}{s:A2}{a b:Addr}{k:SpK}
theorem sj{A:AQ}{E:A1->A2->Prop}{Q:Unit->A2->Prop}{xs:List SpE}{v:V}{u:A1}(hu:A.units+8<Bp)(I:L2.Inv X pins σ H s)(e:H a=some (.ext (bA X.prog X.w a xs)))(hk:∀x∈xs,bX X.K H x.2.1 x.1)(hb:bX X.K H b k)(rv:RelV v u)(hl:xs.length<AI)
 (h:∀s',L2.Inv X pins σ (upd H a (.ext (bA X.prog X.w a (d0 xs k b v)))) s'->Q () s'):A9 (Ay X.prog X.w) A (dictSet a (.ref b) u) Q E s:=by
 obtain⟨hd,hz,ys,r,dd⟩:=lZ I e hk
 refine wpAny_dictSet_heap (knd:=cW X.prog X.w) (hsz:=by rw[<-j2 r];exact hz) (show A.units+4<Bp by omega) (jb I hb) dd fun h' dd' hs=>h _ ?_
 obtain⟨q,es,ep,hq,q2,q3,q4,_,q5⟩:=dd'
 refine jz I (by rw[e];exact True.intro) hs ⟨q,hq⟩ ⟨⟨hd,?_,?_,_,f7 r k b rv,q,es,ep,hq,q2,q3,q4⟩,⟨q,hq⟩,fun h1 h2 x y=>kd h1 h2 x y⟩
 ·have:=kY xs k b v;omega
 ·rw[<-gU (f7 r k b rv)];exact q5
end
theorem lV{prog:Au}{w:AU}{A:AQ}{R:Result->A2->Prop}{s:A2}{kx vx target iter:Expr}{ifs:List Expr}{scope:BY}{pos:Pos}{it:A1}{D:Addr}{env:Env}(J:Nat->A2->Prop)
 (step:∀n s,J n s->A9 (Ay prog w) A (pyNext it) (fun r s1=>match r with
  |none=>R (.ok .next) s1
  |some v=>A9 (Ay prog w) A (letOwnedTupleGo target it v) (fun _ s2=>A9 (Ay prog w) A (assign target env v) (fun _ s3=>
   A9 (Ay prog w) A (forIn ifs true fun c r=>if r=true then do let ok <-isTrue c env (eval c env);pure (BW ok)else pure (BW r)) (fun ok s4=>
    if ok=true then A9 (Ay prog w) A (eval kx env) (fun kv s5=>A9 (Ay prog w) A (eval vx env) (fun vv s6=>A9 (Ay prog w) A (dictSet D kv vv) (fun _ s7=>∃m,m<n/\J m s7) NoE s6) NoE s5) NoE s4
    else ∃m,m<n/\J m s4) NoE s3) NoE s2) NoE s1) NoE s)
 (n:Nat) (h:J n s):codeAny (Ay prog w) A (.compLoop (.DictComp kx vx [⟨target,iter,ifs,0⟩] scope pos) 0 it (.ref D) env) R s:=by
 have no:∀{E:A1->A2->Prop} e s',NoE e s'->E e s':=fun _ _ z=>z.elim
 refine codeAny_loop rfl J (fun n s hJ=>?_) n h
 show A9 _ _ (Sem.onRaise (compTurn (.DictComp kx vx [⟨target,iter,ifs,0⟩] scope pos) 0 it (.ref D) env) (fun x=>do noteFrame x env;theTreesLotGoes x)) _ _ s
 refine wpAny_noted ?_
 rw[compTurn_dict]
 refine cc (wpAny_standAt (cc (AK (step n s hJ) (fun r s1 h1=>?_) no)))
 cases r with
 |none=>exact A5 h1
 |some v=>
  refine cc (AK h1 (fun _ s2 h2=>cc (AK h2 (fun _ s3 h3=>cc (AK h3 (fun ok s4 h4=>?_) no)) no)) no)
  cases ok with
  |false=>exact A5 ⟨rfl,h4⟩
  |true=>exact cc (cc (AK h4 (fun kv s5 h5=>cc (Br (AK h5 (fun vv s6 h6=>cc (wpAny_standAt (Br (AK h6 (fun _ s7 h7=>A5 ⟨rfl,h7⟩) no)))) no))) no))
def rR(X:Cx)(js:List Nat)(own:Own)(tc:TT)(tk te:TE)(σ:L2.St)(J:It)(H1:Hp)(Q:VK):Prop:=∀D,H1 D=none->∃W:Nat->Nat->Hp->Prop,(∃m,W 0 m (upd H1 D (.ext (bA X.prog X.w D []))))/\∀i m H,W i m H->
 (J.stop i H/\Q (.ref D) H)\/(J.go i H/\∀y H',J.yld i H y H'->∃os,own y H' os/\tc (cσ os js σ) H' fun b H2=>if b=true then
  tk (cσ os js σ) H2 fun kv H3=>te (cσ os js σ) H3 fun v H4=>∃b k xs,kv=.ref b/\H4 D=some (.ext (bA X.prog X.w D xs))/\(∀x∈xs,bX X.K H4 x.2.1 x.1)/\bX X.K H4 b k/\xs.length<AI/\∃m',m'<m/\W (i+1) m' (upd H4 D (.ext (bA X.prog X.w D (d0 xs k b v))))else ∃m',m'<m/\W (i+1) m' H2)
def mT(X:Cx)(js:List Nat)(own:Own)(wi:TI)(tc:TT)(tk te:TE):TE:=fun σ H Q=>wi σ H fun J H1=>rR X js own tc tk te σ J H1 Q
section
variable{X:Cx}{xs:List Str}{tg:Expr}{pos:Pos}{js:List Nat}{scope:BY}{kx vx iter:Expr}{ifs:List Expr}{tk te:TE}{tc:TT}{g:TG}{own:Own}{wi:TI}{pins:List (Addr×Obj)}{σ:L2.St}{H:Hp}{s:A2}{fp:List Addr}{it:Addr}{tn:Nat->Heap->Prop}{J:It}
theorem oO(c:CScope X xs js scope)(hc:X.calm=true)(hG:TgOk xs.length g own)(hg:∀C s H fp,PG (cxC X xs js scope C s H fp) tg g)(ht:∀C s H fp,PTs (cxC X xs js scope C s H fp) ifs tc)(hk:∀C s H fp,PE (cxC X xs js scope C s H fp) kx tk)(he:∀C s H fp,PE (cxC X xs js scope C s H fp) vx te)(hu:X.A.units+8<Bp)
 {R:A1->Addr->Result->A2->Prop} {E:A1->A2->Prop} {Q:VK}
 (I:Inv X pins σ H s) (T:Turn X.prog X.w X.K tg J fp it tn) (st:tn 0 s.heap) (hf:∀b∈fp,ck X pins H b) (wc:rR X js own tc tk te σ J H Q)
 (hR:∀D C H' s',Inv X pins σ H' s'->ck X pins H' C->(∃m,s'.heap.Ns C m)->Q (.ref D) H'->R (.ref D) C (.ok .next) s') :
 A9 (Ay X.prog X.w) X.A newDict (fun acc s₃=>A9 (Ay X.prog X.w) X.A (newFunctionEnv scope X.env.globals (cS scope.names X.env) [] X.env.qual none .none (some X.env)) (fun cenv s₄=>
  codeAny (Ay X.prog X.w) X.A (.compStart (.DictComp kx vx [⟨tg,iter,ifs,0⟩] scope pos) 0 (.ref it) acc { cenv with scope:=relabel scope X.env }) (R acc cenv.locals) s₄) E s₃) E s:=by
 have hfp:∀b∈fp,b<s.heap.objs.size:=fun b hb=>let⟨o,e,_⟩:=T.obj 0 _ st b hb;A8 e
 have hD:H s.heap.objs.size=none:=I.hok.fresh (A7 _)
 refine AZ (nK ?_)
 generalize hh:s.heap.push { cls:=.type "dict",data:=.dict #[] }=h3
 generalize hh1:pushCells (({ s with heap:=h3 }:A2).heap.push { cls:=.type "dict",data:=.dict #[] }) scope.names=h₁
 have k3:∀b o,s.heap.get? b=some o->h3.get? b=some o:=fun b o e=>by rw[<-hh];exact A3 _ e
 have I3:Inv X pins σ (upd H s.heap.objs.size (.ext (bA X.prog X.w s.heap.objs.size []))) { s with heap:=h3 }:=by
  rw[<-hh];exact mZ I
 have hf3:∀b∈fp,ck X pins (upd H s.heap.objs.size (.ext (bA X.prog X.w s.heap.objs.size []))) b:=fun b hb=>⟨by rw[aF (AJ (hfp b hb))];exact(hf b hb).1,(hf b hb).2⟩
 have hsz:h3.objs.size=s.heap.objs.size+1:=by rw[<-hh,BO]
 have hfp3:∀b∈fp,b<h3.objs.size:=fun b hb=>by rw[hsz];exact Nat.lt_succ_of_lt (hfp b hb)
 have k4:∀b o,h3.get? b=some o->h₁.get? b=some o:=fun b o e=>by rw[<-hh1];exact pushCells_keeps _ _ b o (A3 _ e)
 have I4:=ll c I3 hf3 hfp3 (h':=h₁) hh1.symm k4
 obtain⟨W,⟨m0,w0⟩,turn⟩:=wc _ hD
 have st4:tn 0 h₁:=T.keep 0 _ _ st fun b hb o e=>k4 b o (k3 b o e)
 generalize hX:cxC X xs js scope h3.objs.size { s with heap:=h3 } (upd H s.heap.objs.size (.ext (bA X.prog X.w s.heap.objs.size []))) fp=X' at I4
 have fok:∀{pins':List (Addr×Obj)} {H':Hp} {σ':L2.St} {s':A2},Inv X' [] σ' H' s'->(∀b∈fp,H' b=none)->∀b∈fp,ck X' [] H' b:=fun{pins' H' σ' s'} J' hn b hb=>by
  subst hX
  obtain⟨a1,a2⟩:=J'.ok.exf b hb
  exact⟨hn b hb,a1,J'.ok.exfs b hb,.inl hb,a2,fun p hp=>absurd (show p∈([]:List (Addr×Obj))from hp) (by simp)⟩
 have loop:codeAny (Ay X.prog X.w) X.A (.compLoop (.DictComp kx vx [⟨tg,iter,ifs,0⟩] scope pos) 0 (.ref it) (.ref s.heap.objs.size) (iI scope h3.objs.size X.env)) (R (.ref s.heap.objs.size) h3.objs.size)
  { s with heap:=h₁ }:=by
  refine lV (fun n s'=>∃i os H',os.length=xs.length/\Inv X' [] (cσ os js σ) H' s'/\tn i s'.heap/\(∀b∈fp,H' b=none)/\W i n H') ?_ m0 ⟨0,_,_,by simp,I4,st4,fun b hb=>(hf3 b hb).1,w0⟩
  rintro n s5 ⟨i,os,H5,hl5,I5,st5,fr5,w5⟩
  rcases turn i n H5 w5 with⟨stop,q⟩|⟨go,step⟩
  ·subst hX
   refine AK (T.done (cxC X xs js scope h3.objs.size { s with heap:=h3 } (upd H s.heap.objs.size (.ext (bA X.prog X.w s.heap.objs.size []))) fp) rfl rfl rfl hc i [] s5 _ H5 NoE I5 (fok (pins':=[]) I5 fr5) st5 stop) (fun r s6 zz1_0=>?_) fun _ _ z=>z
   obtain⟨hr,I6⟩:=zz1_0
   subst hr
   refine hR _ _ H5 s6 (I3.u9 I6.os I6.base I6.hok I6.bare fun b hb=>⟨(hf3 b hb).2.2.2.1,(hf3 b hb).2.1,(hf3 b hb).2.2.2.2.1,(hf3 b hb).2.2.2.2.2⟩) (I3.oU (A7 _) I6.free) (let⟨m,hm,_⟩:=I6.loc;⟨m,hm⟩) q
  ·subst hX
   refine AK (T.item (cxC X xs js scope h3.objs.size { s with heap:=h3 } (upd H s.heap.objs.size (.ext (bA X.prog X.w s.heap.objs.size []))) fp) rfl rfl rfl hc i [] s5 _ H5 NoE I5 (fok (pins':=[]) I5 fr5) st5 go) (fun r s6 zz2_0=>?_) fun _ _ z=>z
   obtain⟨u,hr,h6⟩:=zz2_0
   subst hr
   refine AK h6 (fun _ s7 zz3_0=>?_) fun _ _ z=>z
   obtain⟨y,H7,I7,r7,y7,st7,fr7⟩:=zz3_0
   have I7':=I7.pinned (fok (pins':=[]) I7 fr7) (T.obj _ _ st7)
   obtain⟨os8,ow8,q8⟩:=step y H7 y7
   have l8:=hG.len _ _ _ ow8
   refine AK (hg _ _ _ _ _ s7 _ H7 y u (fun σ' H'=>σ'=cσ os8 js σ/\H'=H7) I7' r7 (hG.run y H7 os _ os8 _ hl5 ow8 ⟨rfl,rfl⟩)) (fun _ s8 zz4_0=>?_) fun _ _ z=>z
   obtain⟨σ8,H8,I8,e8,e8'⟩:=zz4_0
   subst e8 e8'
   refine AK (ht _ _ _ _ _ s8 _ _ _ I8 q8) (fun ok s9 zz5_0=>?_) fun _ _ z=>z
   obtain⟨H9,I9,q9⟩:=zz5_0
   have back:∀{m':Nat} {H10:Hp} {s10:A2},Inv (cxC X xs js scope h3.objs.size { s with heap:=h3 } (upd H s.heap.objs.size (.ext (bA X.prog X.w s.heap.objs.size []))) fp) ([]++fK fp s7.heap) (cσ os8 js σ) H10 s10->m'<n->W (i+1) m' H10->
    ∃m,m<n/\∃i os H',os.length=xs.length/\Inv (cxC X xs js scope h3.objs.size { s with heap:=h3 } (upd H s.heap.objs.size (.ext (bA X.prog X.w s.heap.objs.size []))) fp) [] (cσ os js σ) H' s10/\tn i s10.heap/\(∀b∈fp,H' b=none)/\W i m H':=fun{m' H10 s10} I10 hm' w10=>by
    refine⟨m',hm',i+1,os8,H10,l8,I10.dF,T.keep _ _ _ st7 fun b hb o e=>(I10.pin (b,o) (AO _ (AO _ (bR hb e)))).1,fun b hb=>?_,w10⟩
    obtain⟨o',e,d⟩:=T.obj _ _ st7 b hb
    exact(I10.pin (b,o') (AO _ (AO _ (bR hb e)))).2.1
   cases ok with
   |false=>
    rw[if_neg AD]at q9 ⊢
    obtain⟨m',hm',w9⟩:=q9
    exact back I9 hm' w9
   |true=>
    rw[if_pos rfl]at q9 ⊢
    refine AK (hk _ _ _ _ _ s9 _ _ _ I9 q9) (fun kv s10 zz6_0=>?_) fun _ _ z=>z
    obtain⟨kk,H10,I10,r10,q10⟩:=zz6_0
    refine AK (he _ _ _ _ _ s10 _ _ _ I10 q10) (fun v s11 zz7_0=>?_) fun _ _ z=>z
    obtain⟨vv,H11,I11,r11,b,k,ys,ek,hd11,hks,hkb,hl11,m',hm',w11⟩:=zz7_0
    subst ek
    cases r10
    exact sj (X:=cxC X xs js scope h3.objs.size { s with heap:=h3 } (upd H s.heap.objs.size (.ext (bA X.prog X.w s.heap.objs.size []))) fp) hu I11 hd11 hks hkb r11 hl11 fun s12 I12=>back I12 hm' w11
 exact codeAny_compStart_dict loop (T.self X.A 0 _ _ _ st4 loop)
theorem rF(c:CScope X xs js scope)(hc:X.calm=true)(hi:PI X tg iter wi)(hG:TgOk xs.length g own)(hg:∀C s H fp,PG (cxC X xs js scope C s H fp) tg g)(ht:∀C s H fp,PTs (cxC X xs js scope C s H fp) ifs tc)(hk:∀C s H fp,PE (cxC X xs js scope C s H fp) kx tk)(he:∀C s H fp,PE (cxC X xs js scope C s H fp) vx te)(hu:X.A.units+8<Bp)(hs:∀x,B5 iter X.env x=pure x:=by intro _;rfl) : PE X (.DictComp kx vx [⟨tg,iter,ifs,0⟩] scope pos) (mT X js own wi tc tk te):=by intro pins s σ H Q I h;rw[arm_eval_DictComp];refine wpAny_comprehension_free (use:=none) rfl hs (c.xT I.ok) c.kind c.names (thn (hi pins s σ H _ I h) fun v s1 h1=>thn h1 fun itv s2 zz8_0=>?_);obtain⟨it,fp,tn,J,H2,e,I2,T,st,f2,w⟩:=zz8_0;subst e;refine oO (R:=fun acc C=>compPost (Ay X.prog X.w) X.A X.xe none (EP X pins σ Q) acc C) c hc hG hg ht hk he hu I2 T st f2 w fun D C H' s' I' fC zz9_0 q=>?_;obtain⟨m,hm⟩:=zz9_0;exact⟨m,hm,fun h' hsb=>⟨.ref D,H',I'.turned (t':=s'.toks) (fun b o ne e=>hsb.extBut b o ne e) fC.1 fC.2.1 fC.2.2.2.1 fC.2.2.2.2.1 fC.2.2.2.2.2,rfl,q⟩⟩
end
def we(I:ItD)(tk:Tgt)(js:List Nat)(tc:TTD)(tx te:TD)(δ:DS)(M1:MH)(Q:DK):Prop:=I.n<=900000/\∀p,M1 p=none->∃W:Nat->SpT->MH->Prop,W 0 [] (aA M1 p (dsM []))/\(∀i kvs M,i<=I.n->W i kvs M->I.C M)/\
 (∀i kvs d M,i<I.n->I.item i=some d->W i kvs M->∃os,t5 tk d os/\tc (cδ os js δ) M fun b M2=>if b=true then tx (cδ os js δ) M2 fun y M3=>te (cδ os js δ) M3 fun e M4=>∃k,y=spD k/\M4 p=some (dsM kvs)/\kvs.length<=i/\W (i+1) (putD kvs k e) (aA M4 p (dsM (putD kvs k e)))else W (i+1) kvs M2)/\∀kvs M,W I.n kvs M->Q (.ref p) M
def nj(wd:TID)(tk:Tgt)(js:List Nat)(tc:TTD)(tx te:TD):TD:=fun δ M Q=>wd δ M fun I M1=>we I tk js tc tx te δ M1 Q
section
variable{X:Cx}
theorem l6{wd:TID}{tk:Tgt}{js:List Nat}{tc:TTD}{tx te:TD}{σ:L2.St}{H:Hp}{Q:VK}(h:lift X.K (nj wd tk js tc tx te) σ H Q):mT X js (lI X.K tk) (ot X.K wd) (liftT X.K tc) (lift X.K tx) (lift X.K te) σ H Q:=by
 obtain⟨δ,M,R,hs,hM,q,fin⟩:=h;refine⟨δ,M,_,hs,hM,q,fun I M1 H1 J g1 a1 kc io p hp=>?_⟩;obtain⟨hn,kc⟩:=kc;obtain⟨W,w0,hC,turn,done⟩:=kc p (a1.fresh hp);refine⟨fun i m H2=>m=I.n-i/\i<=I.n/\Grow X.K H1 H2/\∃kvs M,Abs X.K H2 M/\W i kvs M,⟨I.n,by simp,B2 _,.new hp,[],_,a1.uR _ _ hp,w0⟩,?_⟩;rintro i m H2 ⟨rfl,hi,g2,kvs,M2,a2,w2⟩;by_cases hin:i<I.n
 ·refine .inr ⟨io.go i H2 M2 hin g2 a2 (hC _ _ _ hi w2),fun v H3 hy=>?_⟩;obtain⟨g3,a3,d,ed,rd⟩:=io.yld i H2 M2 v H3 hin g2 a2 (hC _ _ _ hi w2) hy;obtain⟨os,ow,q3⟩:=turn i kvs d M2 hin ed w2;obtain⟨us,uv,su⟩:=lu rd ow;have s3:=nN (js:=js) (hs.mono ((g1.trans g2).trans g3)) su;refine⟨us,uv,cδ os js δ,M2,_,s3,a3,q3,fun b M4 H4 g4 a4 q4=>?_⟩;cases b with
  |false=>
   rw[if_neg AD]at q4 ⊢
   exact⟨I.n-(i+1),by omega,rfl,hin,(g2.trans g3).trans g4,kvs,M4,a4,q4⟩
  |true=>
   rw[if_pos rfl]at q4 ⊢
   refine⟨cδ os js δ,M4,_,s3.mono g4,a4,q4,fun y M5 u H5 g5 r5 a5 q5=>⟨cδ os js δ,M5,_,(s3.mono g4).mono g5,a5,q5,fun e M6 u6 H6 g6 r6 a6 zz12_0=>?_⟩⟩
   obtain⟨k,ey,e6,hl6,w6⟩:=zz12_0
   subst ey
   obtain⟨b,rfl,sp⟩:=i9 (r5.mono g6)
   obtain⟨xs,h1,h2,h3,h4⟩:=a6.dsp e6
   have hlen:xs.length=kvs.length:=by have:=congrArg List.length h2;simpa using this
   have sz:1000000<=AI:=nbL rfl
   have g7:Grow X.K H6 (upd H6 p (.ext (bA X.prog X.w p (d0 xs k b u6)))):=.ext (h1 X.prog X.w)
   exact⟨b,k,xs,rfl,h1 _ _,h3,sp,by omega,I.n-(i+1),by omega,rfl,hin,((((g2.trans g3).trans g4).trans g5).trans g6).trans g7,putD kvs k e,_,a6.uO _ _ h1 h2 h4 h3 sp r6,w6⟩
 ·obtain rfl:i=I.n:=by omega
  exact .inl ⟨io.stop H2 M2 g2 a2 (hC _ _ _ hi w2),fin _ _ _ _ (g1.trans g2) (by rw[Rep]) a2 (done kvs M2 w2)⟩
variable{xs:List Str}{tg:Expr}{pos:Pos}{js:List Nat}{scope:BY}{kx vx iter:Expr}{ifs:List Expr}{tx te:TD}{tc:TTD}{g:TG}{tk:Tgt}{wd:TID}
end
section
variable{X:Cx}{pins:List (Addr×Obj)}{σ:L2.St}{H:Hp}{s:A2}
theorem fX{h':Heap}{t':Nat}{ch:List Addr}(I:Inv X pins σ H s)(k:∀b o,b∉ch->s.heap.get? b=some o->h'.get? b=some o)(f:∀b∈ch,ck X pins H b):Inv X pins σ H { s with heap:=h',toks:=t' }:=by
 have ne:∀b u,H b=some u->b∉ch:=fun b u q hb=>by rw[(f b hb).1]at q;cases q
 refine I.step (g':=s.gens) (d':=s.drawn) (ch:=ch) (fun b hb=>?_) (fun b o _ _ hc q _=>k b o hc q) (fun b o _ _ hc q _=>⟨o.slots,k b o hc q⟩) (fun _ _ _ _ n=>n) (fun b o hc q=>⟨o,k b o hc q⟩) (fun _ _ q=>q) (fun _ _ _ q=>q) (fun b ps q=>⟨#[],by rw[q];simp⟩) (fun m hm=>?_) (fun b u q=>?_) I.bare
 ·obtain⟨e0,e1,_,e3,e4,e5⟩:=f b hb;exact⟨e3,e1,e4,e5⟩
 ·obtain⟨o,es,ep,ho,r⟩:=hm;exact⟨o,es,ep,k _ o (fun hb=>(f _ hb).2.1 rfl) ho,r⟩
 ·refine(I.hok b u q).dt (fun c v hc z=>?_) (fun _ z=>z) fun _ _ z=>z;rcases hc with y|y
  ·subst y;exact k _ v (ne _ u q) z
  ·exact k c v (ne c _ y) z
end
def Itz(K:A0)(a b:Addr):It:=
 ⟨fun i H=>∃xs ys x y,SqL K H a xs/\SqL K H b ys/\xs[i]?=some x/\ys[i]?=some y,fun i H x H'=>∃T y z,x=.ref T/\H T=none/\H'=upd H T (.tup [y,z])/\(∀xs,SqL K H a xs->xs[i]?=some y)/\∀ys,SqL K H b ys->ys[i]?=some z,fun i H=>∃xs ys,SqL K H a xs/\SqL K H b ys/\(xs.length<=i\/ys.length<=i)⟩
theorem rG{P:Au}{w:AU}{K:A0}{elts:List Expr}{kt}{pt:Pos}(a b z TI TO i1 i2:Addr)(D:ZipApart z TI TO i1 i2 a b):Turn P w K (.Tuple elts kt pt) (Itz K a b) [z,TI,TO,i1,i2] z (fun i h=>IsZip h z TI TO .none/\IsPair h TI (.ref i1) (.ref i2)/\(∃p q,IsPair h TO p q)/\h.IsListIter i1 a i/\h.IsListIter i2 b i) where
 mem:=by simp
 obj:=fun i h st c hc=>by
  obtain⟨h1,h2,⟨p,q,h3⟩,h4,h5⟩:=st
  rcases(show c=z\/c=TI\/c=TO\/c=i1\/c=i2 by simpa using hc)with rfl|rfl|rfl|rfl|rfl
  ·exact⟨_,h1,fun v y=>by cases (show Data.fields _=Data.cell v from y)⟩
  ·exact⟨_,h2,fun v y=>by cases (show Data.seq _ _=Data.cell v from y)⟩
  ·exact⟨_,h3,fun v y=>by cases (show Data.seq _ _=Data.cell v from y)⟩
  ·obtain⟨o,q1,_,d⟩:=h4
   exact⟨o,q1,fun v y=>by rw[d]at y;cases y⟩
  ·obtain⟨o,q1,_,d⟩:=h5
   exact⟨o,q1,fun v y=>by rw[d]at y;cases y⟩
 keep:=fun i h h' st k=>by
  obtain⟨h1,h2,⟨p,q,h3⟩,h4,h5⟩:=st
  exact⟨k z (by simp) _ h1,k TI (by simp) _ h2,⟨p,q,k TO (by simp) _ h3⟩,h4.at fun o y=>k i1 (by simp) o y,h5.at fun o y=>k i2 (by simp) o y⟩
 item:=by
  intro X hP hw hK hc i pins s σ H E I hf st hg
  subst hP hw hK
  obtain⟨xs,ys,x,y,hq1,hq2,hx,hy⟩:=hg
  obtain⟨h1,h2,⟨p,q,h3⟩,h4,h5⟩:=st
  obtain⟨its1,rv1,p1,hz1⟩:=I.list hq1
  obtain⟨its2,rv2,p2,hz2⟩:=I.list hq2
  obtain⟨u1,hu1,ru1⟩:=rv1.get hx
  obtain⟨u2,hu2,ru2⟩:=rv2.get hy
  refine wpAny_pyNext_zip_item D h1 h2 h3 h4 h5 p1.isList p2.isList (x:=u1) (y:=u2) (by simpa using hu1) (by simpa using hu2) fun h' a1 a2 a3 a4 a5 a6 a7=>⟨_,rfl,wpAny_letOwnedTupleGo_zip (s:={ s with heap:=h' }) a1 fun h'' b1 b2=>?_⟩
  have b2:Cw z h' h'':=b2
  have fr:=I.fresh
  have lt:∀c∈[z,TI,TO,i1,i2],c<s.heap.objs.size:=fun c hc=>by
   rcases(show c=z\/c=TI\/c=TO\/c=i1\/c=i2 by simpa using hc)with rfl|rfl|rfl|rfl|rfl
   ·exact A8 h1
   ·exact A8 h2
   ·exact A8 h3
   ·obtain⟨o,q1,_⟩:=h4;exact A8 q1
   ·obtain⟨o,q1,_⟩:=h5;exact A8 q1
  have I1:Inv X pins σ (upd H s.heap.objs.size (.tup [x,y])) { s with heap:=s.heap.push { cls:=.type "tuple",data:=.seq #[u1,u2] },toks:=s.toks }:=
   I.laid (fun b v q=>A3 _ q) (A7 _) ⟨nbL rfl,[u1,u2],.cons ru1 (.cons ru2 .nil),⟨_,Aq _ rfl,rfl,_,rfl⟩⟩
  have fk:∀c∈[z,TI,TO,i1,i2],ck X pins (upd H s.heap.objs.size (.tup [x,y])) c:=fun c hc=>⟨by rw[aF (AJ (lt c hc))];exact(hf c hc).1,(hf c hc).2⟩
  have I2:Inv X pins σ (upd H s.heap.objs.size (.tup [x,y])) { s with heap:=h'',toks:=s.toks }:=by
   refine fX (ch:=[z,TO,i1,i2]) (s:={ s with heap:=s.heap.push { cls:=.type "tuple",data:=.seq #[u1,u2] },toks:=s.toks }) I1 (fun c o nc q=>?_) fun c hc=>fk c (by simp at hc ⊢;rcases hc with rfl|rfl|rfl|rfl<;>simp)
   have q:(s.heap.push { cls:=.type "tuple",data:=.seq #[u1,u2] }).get? c=some o:=q
   simp at nc
   refine(b2.2 c nc.1).trans ?_
   rcases Heap.get?_push_cases q with⟨rfl,rfl⟩|q
   ·exact a5
   ·exact a7 c o nc.1 nc.2.1 nc.2.2.1 nc.2.2.2 q
  have kz:∀c o,c≠z->h'.get? c=some o->h''.get? c=some o:=fun c o n e=>(b2.2 c n).trans e
  refine⟨.ref s.heap.objs.size,_,I2,rfl,⟨_,x,y,rfl,fr,rfl,fun zs hzs=>by rw[I.eW hzs hq1];exact hx,fun zs hzs=>by rw[I.eW hzs hq2];exact hy⟩,⟨b1,kz _ _ D.TIz (a7 _ _ D.TIz D.TITO D.TIi1 D.TIi2 h2),⟨_,_,kz _ _ D.TOz a2⟩,a3.at fun o e=>kz _ o D.i1z e,a4.at fun o e=>kz _ o D.i2z e⟩,fun c hc=>(fk c hc).1⟩
 done:=by
  intro X hP hw hK hc i pins s σ H E I hf st hg
  subst hP hw hK
  obtain⟨xs,ys,hq1,hq2,he⟩:=hg
  obtain⟨h1,h2,⟨p,q,h3⟩,h4,h5⟩:=st
  obtain⟨its1,rv1,p1,hz1⟩:=I.list hq1
  obtain⟨its2,rv2,p2,hz2⟩:=I.list hq2
  have l1:=rv1.length
  have l2:=rv2.length
  refine wpAny_pyNext_zip_end (I.ok.hd hc) D h1 h2 h3 h4 h5 p1.isList p2.isList (he.imp (fun e=>by simp;omega) fun e=>by simp;omega) fun h' k=>⟨rfl,?_⟩
  exact fX (t':=s.toks) (ch:=[z,TO,i1,i2]) I (fun c o nc q=>by simp at nc;exact k c o nc.1 nc.2.1 nc.2.2.1 nc.2.2.2 q) fun c hc=>hf c (by simp at hc ⊢;rcases hc with rfl|rfl|rfl|rfl<;>simp)
 self:=fun _ _ _ _ _ st h=>wpAny_pyIter_zip st.1 h
theorem xc{n l1 l2:Nat}(a1:l1<n)(a2:l2<n):ZipApart (n+4) (n+2) (n+3) n (n+1) l1 l2:=by constructor<;>exact fun e=>absurd (id e:@Eq Nat _ _) (by omega)
theorem wI:Be "zip"=some (.type "zip"):=by decide +kernel
section
variable{X:Cx}{elts:List Expr}{kt:Nat}{pt:Pos}
def yh(K:A0)(ta:TA):TI:=fun σ H R=>ta σ H fun vs H1=>∃a b xs ys,vs=[.ref a,.ref b]/\H1 a=some (.lst xs)/\H1 b=some (.lst ys)/\R (Itz K a b) H1
theorem wV{a b:Expr}{ta:TA}{p pos:Pos}(hg:Gl X "zip")(hm:X.mg "zip"=none)(ha:PA X [a,b] ta)(hs:AF [a,b] X.env=(false,eval a X.env)::AF [b] X.env:=by rfl)(hpl:(Cy pos (AF [b] X.env)).any (·.1)=false:=by rfl):PI X (.Tuple elts kt pt) (.Call (.Name "zip" p) [a,b] [] pos) (yh X.K ta):=by
 intro pins s σ H R I h;refine Call_ (fN I hg hm wI (C1 (thn (ha pos pins s σ H _ I h) fun us s1 zz1_0=>?_) hs hpl));obtain⟨vs,H1,I1,r1,q1⟩:=zz1_0;obtain⟨l1,l2,xs,ys,ev,hH1,hH2,q⟩:=q1;subst ev;obtain⟨u1,u2,rfl,ru1,ru2⟩:=vals2 r1;cases ru1;cases ru2;obtain⟨z1,its1,n1,rr1,hl1,e1⟩:=I1.lM hH1;obtain⟨z2,its2,n2,rr2,hl2,e2⟩:=I1.lM hH2;have L1:s1.heap.IsList l1 its1.toArray:=⟨_,e1,rfl,n1,rfl⟩;have L2:s1.heap.IsList l2 its2.toArray:=⟨_,e2,rfl,n2,rfl⟩;have lt1:=A8 e1;have lt2:=A8 e2;refine call_zip_2 L1 L2 fun h' hz hTI hTO hi1 hi2 hsz hk=>wpAny_pyIter_zip hz ?_
 have fp:∀b∈[s1.heap.objs.size+4,s1.heap.objs.size+2,s1.heap.objs.size+3,s1.heap.objs.size,s1.heap.objs.size+1],ck X pins H1 b:=fun b hb=>by
  have hb':s1.heap.objs.size<=b:=by simp at hb;rcases hb with rfl|rfl|rfl|rfl|rfl<;>first|exact Nat.le_add_right _ _|exact A7 _
  exact I1.oU hb' (I1.hok.fresh hb')
 have D:ZipApart (s1.heap.objs.size+4) (s1.heap.objs.size+2) (s1.heap.objs.size+3) s1.heap.objs.size (s1.heap.objs.size+1) l1 l2:=by exact xc lt1 lt2
 exact⟨_,_,_,_,H1,rfl,I1.kept (t':=s1.toks) hk,rG l1 l2 _ _ _ _ _ D,⟨hz,hTI,⟨_,_,hTO⟩,hi1,hi2⟩,fp,q⟩
def xv(ta:TAD):TID:=fun δ M R=>ta δ M fun ds M1=>∃a b es fs,ds=[.ref a,.ref b]/\M1 a=some (.lst es)/\M1 b=some (.lst fs)/\R ⟨min es.length fs.length,fun i=>(es[i]?).bind fun d=>(fs[i]?).map fun e=>.tup [d,e],fun M=>M a=some (.lst es)/\M b=some (.lst fs)⟩ M1
theorem pY{K:A0}{ta:TAD}:∀(σ:L2.St) (H:Hp) R,ot K (xv ta) σ H R->yh K (sr K ta) σ H R:=
 fun σ H R ⟨δ,M,RD,hs,hM,q,fin⟩=>⟨δ,M,_,hs,hM,q,fun ds M1 vs H1 g1 r1 a1 ⟨l1,l2,es,fs,e,hl1,hl2,q1⟩=>by
  subst e
  obtain⟨v1,v2,rfl,r,r'⟩:=dr r1
  rw[Rep]at r r';subst r r'
  obtain⟨xs,hx,rs⟩:=a1 _ _ hl1
  obtain⟨ys,hy,rt⟩:=a1 _ _ hl2
  refine⟨l1,l2,xs,ys,rfl,hx,hy,fin _ M1 H1 _ g1 a1 q1 ⟨fun H2 M2 g2 a2 c2=>?_,fun i H2 M2 hi g2 a2 c2=>?_,?_⟩⟩
  ·obtain⟨c3,c4⟩:=(show M2 l1=some (.lst es)/\M2 l2=some (.lst fs)from c2)
   obtain⟨xs2,hx2,rx2⟩:=a2 _ _ c3
   obtain⟨ys2,hy2,ry2⟩:=a2 _ _ c4
   refine⟨xs2,ys2,SqL.of hx2,SqL.of hy2,?_⟩
   show xs2.length<=min es.length fs.length\/ys2.length<=min es.length fs.length
   rw[<-rx2.length,<-ry2.length];omega
  ·obtain⟨c3,c4⟩:=(show M2 l1=some (.lst es)/\M2 l2=some (.lst fs)from c2)
   obtain⟨xs2,hx2,rx2⟩:=a2 _ _ c3
   obtain⟨ys2,hy2,ry2⟩:=a2 _ _ c4
   have hi:i<min es.length fs.length:=hi
   have h1:i<xs2.length:=by rw[<-rx2.length];omega
   have h2:i<ys2.length:=by rw[<-ry2.length];omega
   exact⟨xs2,ys2,xs2[i],ys2[i],SqL.of hx2,SqL.of hy2,by simp[h1],by simp[h2]⟩
  ·rintro i H2 M2 v H3 hi g2 a2 c2 ⟨T,y,z,rfl,hT,rfl,hy,hz⟩
   obtain⟨c3,c4⟩:=(show M2 l1=some (.lst es)/\M2 l2=some (.lst fs)from c2)
   have hi:i<min es.length fs.length:=hi
   have he:i<es.length:=by omega
   have hf:i<fs.length:=by omega
   obtain⟨xs2,hx2,rx2⟩:=a2 _ _ c3
   obtain⟨ys2,hy2,ry2⟩:=a2 _ _ c4
   obtain⟨x,e1,e2⟩:=rx2.get (show es[i]?=some es[i] by simp[he])
   obtain⟨x',e1',e2'⟩:=ry2.get (show fs[i]?=some fs[i] by simp[hf])
   have t1:=hy xs2 (SqL.of hx2)
   have t2:=hz ys2 (SqL.of hy2)
   rw[e1]at t1;cases t1
   rw[e1']at t2;cases t2
   exact⟨.new hT,a2.new hT,.tup [es[i],fs[i]],by simp[he,hf],by rw[Rep];exact⟨T,_,rfl,SqT.of aD,.cons (e2.mono (.new hT)) (.cons (e2'.mono (.new hT)) .nil)⟩⟩⟩
theorem wB{a b:Expr}{ta:TAD}{p pos:Pos}(hg:Gl X "zip")(hm:X.mg "zip"=none)(ha:DA X [a,b] ta)(hs:AF [a,b] X.env=(false,eval a X.env)::AF [b] X.env:=by rfl)(hpl:(Cy pos (AF [b] X.env)).any (·.1)=false:=by rfl):DI X (.Tuple elts kt pt) (.Call (.Name "zip" p) [a,b] [] pos) (xv ta):=jX (wV hg hm ha hs hpl) pY
end
section
variable{X:Cx}{x y:Str}{px py pt pos:Pos}{kt:Nat}{js:List Nat}{scope:BY}{kx vx iter:Expr}{ifs:List Expr}{tx te:TD}{tc:TTD}{wd:TID}
theorem oN(hu:X.A.units+66<Bp)(c:CScope X [x,y] js scope)(hc:X.calm=true)(hi:DI X (.Tuple [.Name x px,.Name y py] kt pt) iter wd)(ht:∀C s H fp,DTs (cxC X [x,y] js scope C s H fp) ifs tc)(hk:∀C s H fp,DE (cxC X [x,y] js scope C s H fp) kx tx)(he:∀C s H fp,DE (cxC X [x,y] js scope C s H fp) vx te) (hs:∀x,B5 iter X.env x=pure x:=by intro _;rfl):DE X (.DictComp kx vx [⟨.Tuple [.Name x px,.Name y py] kt pt,iter,ifs,0⟩] scope pos) (nj wd (.many 2) js tc tx te):=aT (rF (tk:=lift X.K tx) (te:=lift X.K te) (tc:=liftT X.K tc) c hc hi sE (fun _ _ _ _=>nB c hc) ht hk he (by omega) hs) fun _ _ _ h=>l6 h
end
section
variable{P:Au}{w:AU}{K:A0}{mg:Str->Option A1}{base:Heap}{x:Str}{st:Stmt}{N:List Str}{k:Nat}
def sD1(C:D->MH->DK->Prop):SpD:=fun ds M Q=>match ds with
 |[a]=>C a M Q
 |_=>False
theorem fT{p:Str}{C:D->MH->DK->Prop}(T:Txt K mg x st)(S:FnScope N [p] (ak st))
 (body:∀(f:Addr) (cdv:A1) (A:AQ) (outer:List Env) (s:A2) (H:Hp) (E:XK),Room k (A.deeper (envOfC x (ak st) s.heap.objs.size f cdv))->
  ∃t,DSs (fy CX0 P w K mg base N x (ak st) f cdv A outer s H E).nox (aN st) t/\∀a M Q,C a M Q->t { nx:=fun _ M'=>Ret Q .non M',rt:=Ret Q } (di N [a]) M)
 (hb:∀(kV doc pm:A1) (an:Option Addr) (cdv ct a:A1),bindArgs (Bt x x (aZ st) (aN st) (ak st) .none kV doc pm an cdv ct) ⟨[a],[]⟩=pure ([p].zip [a]):=by intros;rfl):Cal P w K mg base (k+1) x (sD1 C):=by
 refine xN T S (fun kV doc pm an cdv ct us hl=>?_) (fun ds M Q h=>?_) fun f cdv A outer s H E hr=>?_
 ·match us,hl with
  |[_],_=>exact hb ..
 ·unfold sD1 at h
  split at h
  ·rfl
  ·exact h.elim
 ·obtain⟨t,h,hq⟩:=body f cdv A outer s H E hr
  refine⟨t,h,fun ds M Q h=>?_⟩
  unfold sD1 at h
  split at h
  ·exact hq _ _ _ h
  ·exact h.elim
def sD2(C:D->D->MH->DK->Prop):SpD:=fun ds M Q=>match ds with
 |[a,b]=>C a b M Q
 |_=>False
theorem aV{p q:Str}{C:D->D->MH->DK->Prop}(T:Txt K mg x st)(S:FnScope N [p,q] (ak st))
 (body:∀(f:Addr) (cdv:A1) (A:AQ) (outer:List Env) (s:A2) (H:Hp) (E:XK),Room k (A.deeper (envOfC x (ak st) s.heap.objs.size f cdv))->
  ∃t,DSs (fy CX0 P w K mg base N x (ak st) f cdv A outer s H E).nox (aN st) t/\∀a b M Q,C a b M Q->t { nx:=fun _ M'=>Ret Q .non M',rt:=Ret Q } (di N [a,b]) M)
 (hb:∀(kV doc pm:A1) (an:Option Addr) (cdv ct a b:A1),bindArgs (Bt x x (aZ st) (aN st) (ak st) .none kV doc pm an cdv ct) ⟨[a,b],[]⟩=pure ([p,q].zip [a,b]):=by intros;rfl):Cal P w K mg base (k+1) x (sD2 C):=by
 refine xN T S (fun kV doc pm an cdv ct us hl=>?_) (fun ds M Q h=>?_) fun f cdv A outer s H E hr=>?_
 ·match us,hl with
  |[_,_],_=>exact hb ..
 ·unfold sD2 at h
  split at h
  ·rfl
  ·exact h.elim
 ·obtain⟨t,h,hq⟩:=body f cdv A outer s H E hr
  refine⟨t,h,fun ds M Q h=>?_⟩
  unfold sD2 at h
  split at h
  ·exact hq _ _ _ _ h
  ·exact h.elim
def sD3(C:D->D->D->MH->DK->Prop):SpD:=fun ds M Q=>match ds with
 |[a,b,c]=>C a b c M Q
 |_=>False
theorem qi{p q r:Str}{C:D->D->D->MH->DK->Prop}(T:Txt K mg x st)(S:FnScope N [p,q,r] (ak st))
 (body:∀(f:Addr) (cdv:A1) (A:AQ) (outer:List Env) (s:A2) (H:Hp) (E:XK),Room k (A.deeper (envOfC x (ak st) s.heap.objs.size f cdv))->
  ∃t,DSs (fy CX0 P w K mg base N x (ak st) f cdv A outer s H E).nox (aN st) t/\∀a b c M Q,C a b c M Q->t { nx:=fun _ M'=>Ret Q .non M',rt:=Ret Q } (di N [a,b,c]) M)
 (hb:∀(kV doc pm:A1) (an:Option Addr) (cdv ct a b c:A1),bindArgs (Bt x x (aZ st) (aN st) (ak st) .none kV doc pm an cdv ct) ⟨[a,b,c],[]⟩=pure ([p,q,r].zip [a,b,c]):=by intros;rfl):Cal P w K mg base (k+1) x (sD3 C):=by
 refine xN T S (fun kV doc pm an cdv ct us hl=>?_) (fun ds M Q h=>?_) fun f cdv A outer s H E hr=>?_
 ·match us,hl with
  |[_,_,_],_=>exact hb ..
 ·unfold sD3 at h
  split at h
  ·rfl
  ·exact h.elim
 ·obtain⟨t,h,hq⟩:=body f cdv A outer s H E hr
  refine⟨t,h,fun ds M Q h=>?_⟩
  unfold sD3 at h
  split at h
  ·exact hq _ _ _ _ _ h
  ·exact h.elim
end
end SD
namespace QQ
open PySem PySem.Spec PyProof.Rows L2 SD
def top(i:Nat):Stmt:=AB.main.body.getD i (.Pass ⟨0,0,0,0⟩)
abbrev cT:Stmt:=top 41
abbrev d5:Stmt:=top 42
abbrev dI:Stmt:=top 44
abbrev fI:Stmt:=top 47
abbrev fu:Stmt:=top 43
abbrev d8:Stmt:=top 45
abbrev eM:Stmt:=top 46
abbrev fL:Stmt:=top 12
abbrev eN:Stmt:=top 14
abbrev qy:Stmt:=top 21
abbrev l7:Stmt:=top 22
abbrev fw:Stmt:=top 23
abbrev fx:Stmt:=top 24
abbrev bC:Stmt:=top 6
abbrev eC:Stmt:=top 7
abbrev eD:Stmt:=top 19
abbrev eG:Stmt:=top 15
abbrev dq:Stmt:=top 16
abbrev d9:Stmt:=top 20
abbrev bN:Stmt:=top 28
abbrev lY:Stmt:=top 11
abbrev lQ:Stmt:=top 9
abbrev lL:Stmt:=top 8
abbrev j1:Stmt:=top 10
abbrev bT:Stmt:=top 30
abbrev cb:Stmt:=top 29
abbrev fz:Stmt:=top 27
abbrev cR:Stmt:=top 17
abbrev cU:Stmt:=top 18
abbrev fF:Stmt:=top 38
abbrev dn:Stmt:=top 35
abbrev cz:Stmt:=top 39
abbrev gP:Stmt:=top 37
abbrev bH:Stmt:=top 31
abbrev b5:Stmt:=top 32
abbrev eK:Stmt:=top 34
abbrev fm:Stmt:=top 33
abbrev dC:Stmt:=top 48
abbrev cV:Stmt:=top 49
abbrev qe:Stmt:=top 50
local macro_rules | `(tactic| walk_at "sc") => `(tactic| exact ⟨rfl, rfl, rfl, by decide, rfl, by decide, by decide⟩)
theorem _root_.SD.Cal.m{P:Au}{w:AU}{K:A0}{mg:Str->Option A1}{base:Heap}{j k:Nat}{x:Str}{sp:SpD}(h:Cal P w K mg base j x sp)(l:j<=k:=by decide):Cal P w K mg base k x sp:=h.mono l
structure Tx(K:A0)(mg:Str->Option A1):Prop where
 f_law_cell_at:Txt K mg "_law_cell_at" cT
 f_law_take:Txt K mg "_law_take" d5
 f_law_scale:Txt K mg "_law_scale" dI
 f_law_any:Txt K mg "_law_any" fI
 f_law_low:Txt K mg "_law_low" fu
 f_law_spot:Txt K mg "_law_spot" d8
 f_law_made:Txt K mg "_law_made" eM
 f_is_less:Txt K mg "is_less" fL
 f_is_ahead:Txt K mg "is_ahead" eN
 f_gap:Txt K mg "gap" qy
 f_lean:Txt K mg "lean" l7
 f_side_of:Txt K mg "side_of" fw
 f_lies_on:Txt K mg "lies_on" fx
 f_greatest_divisor:Txt K mg "greatest_divisor" bC
 f_fraction:Txt K mg "fraction" eC
 f_own_spot:Txt K mg "own_spot" eD
 f_later_of:Txt K mg "later_of" eG
 f_earlier_of:Txt K mg "earlier_of" dq
 f_own_wall:Txt K mg "own_wall" d9
 f_meeting_in_line:Txt K mg "meeting_in_line" bN
 f_over:Txt K mg "over" lY
 f_less:Txt K mg "less" lQ
 f_plus:Txt K mg "plus" lL
 f_times:Txt K mg "times" j1
 f_number_between:Txt K mg "number_between" bT
 f_crossing_spot:Txt K mg "crossing_spot" cb
 f_meeting:Txt K mg "meeting" fz
 f_place_among:Txt K mg "place_among" cR
 f_ahead_first:Txt K mg "ahead_first" cU
 f_cuts_of:Txt K mg "cuts_of" fF
 f_corners_of:Txt K mg "corners_of" dn
 f_by_ends:Txt K mg "by_ends" cz
 f_parted:Txt K mg "parted" gP
 f_meet_as_in_plots:Txt K mg "meet_as_in_plots" bH
 f_first_crossed:Txt K mg "first_crossed" b5
 f_own_plot:Txt K mg "own_plot" eK
 f_plot_of:Txt K mg "plot_of" fm
 f_law_spots:Txt K mg "_law_spots" dC
 f_law_covered:Txt K mg "_law_covered" cV
 f_law:Txt K mg "law" qe
 fc_by_ends:oS K mg "by_ends" cz 282
 lm:Mk K mg 282 280
 b_abs:mg "abs"=none
 b_enumerate:mg "enumerate"=none
 b_int:mg "int"=none
 b_len:mg "len"=none
 b_list:mg "list"=none
 b_max:mg "max"=none
 b_min:mg "min"=none
 b_range:mg "range"=none
 b_sorted:mg "sorted"=none
 b_tuple:mg "tuple"=none
 b_zip:mg "zip"=none
 g_MOST_WALLS:∃t,mg "MOST_WALLS"=some (.int 40 t)
theorem ie:FnScope ["_law_script","_law_k"] ["_law_script","_law_k"] (ak cT):=by walk_at "sc"
inductive Cn_law_cell_at(x y:D)(M:MH)(Q:DK):Prop
 |mk (ns:_) (k:_) (_:x=.rol (BZ D.int ns)) (_:y=.int k) (_:0<=k) (_:∀z,Q (.int z) M)
variable{P:Au}{w:AU}{K:A0}{mg:Str->Option A1}{base:Heap}
theorem iB(T:Tx K mg):Cal P w K mg base 1 "_law_cell_at" (sD2 Cn_law_cell_at):=by
 refine aV (k:=0) T.f_law_cell_at ie fun f cdv A outer s H E hr=>⟨_,(aj (aW (aL (ez hr.units) (dv 1) (aP ee rfl T.b_len dG (ab (dv 0) ae))) (aq (az (au (dv 0) (dv 1)))) aJ) (aq (az af))),fun _ _ M Q h=>?_⟩;obtain⟨ns,k,rfl,rfl,hk,q⟩:=h;(repeat (first|refine⟨_,rfl,?_⟩|refine⟨trivial,?_⟩|refine⟨_,_,rfl,?_⟩|refine⟨rfl,?_⟩|refine⟨nbL rfl,?_⟩))
 refine b7 (fun hl=>?_) (fun _=>?_)
 ·have hl':k<(ns.length:Int):=by simpa using hl
  obtain⟨j,rfl⟩:∃j:Nat,k=(j:Int):=⟨k.toNat,by omega⟩;have hj:j<ns.length:=by omega
  refine⟨_,rfl,_,rfl,.int ns[j],jW (by simp[hj]),rtn (q _)⟩
 ·exact rtn (q 0)
theorem cO:FnScope ["_law_row","_law_base","_law_rest","_law_number"] ["_law_row","_law_base"] (ak d5):=by walk_at "sc"
inductive Cn_law_take(y z:D)(M:MH)(Q:DK):Prop
 |mk (r:_) (b:_) (x:_) (c:_) (_:y=.ref r) (_:z=.int b) (_:M r=some (.lst [.int x,.int c])) (_:0<=c) (_:c<1000000) (_:0<b) (_:Bd 8000 b) (_:∀x' v,0<=v->v<b->Q (.int v) (aA M r (.lst [.int x',.int (c+1)])))
theorem aE(T:Tx K mg):Cal P w K mg base 1 "_law_take" (sD2 Cn_law_take):=by
 refine aV (k:=0) T.f_law_take cO fun f cdv A outer s H E hr=>⟨_,(aj (cG (ar aO (au (dv 0) af) af) (qU (dv 0) af)) (aj (aW (aL (xU hr.units) (au (dv 0) af) (ar fB af af)) (aj (aH 2 cO.nd (ar eH (au (dv 0) af) (ar fB af af))) (aj (cG (ar aO (ar fB af af) (ar gV (dv 2) (dv 1))) (qU (dv 0) af)) (aq (az (ar fD (dv 2) (dv 1)))))) aJ) (aj (aH 3 cO.nd (ar fD (ar aO (ar aO (ar aO (ar aG (au (dv 0) af) af) (ar aG (ar aG af (au (dv 0) af)) (au (dv 0) af))) (ar aG af (au (dv 0) af))) af) af)) (aj (aH 3 cO.nd (ar fD (ar aO (ar aO (ar aG (dv 3) (dv 3)) (ar aG af (dv 3))) (au (dv 0) af)) af)) (aq (az (ar fD (ar gV (dv 3) af) (dv 1)))))))),fun _ _ M Q h=>?_⟩;obtain⟨r,b,x,c,rfl,rfl,hM,hc0,hc1,hb,hbd,q⟩:=h;have hc64:Bd 64 (c+1):=by show(c+1).natAbs<2^64;omega
 have hb0:b≠0:=by omega
 have hm:∀n:Int,0<=n.fmod b/\n.fmod b<b:=fun n=>⟨Int.fmod_nonneg_of_pos _ hb,Int.fmod_lt_of_pos _ hb⟩;refine⟨_,rfl,_,_,hM,rfl,?_⟩;refine⟨_,rfl,_,_,hM,rfl,?_⟩;refine⟨_,rfl,_,_,ag,rfl,⟨by decide,by decide,by decide⟩,trivial,_,rfl,?_⟩;refine b7 (fun h=>?_) (fun h=>?_)
 ·refine⟨_,rfl,_,_,ag,rfl,⟨by decide,by decide,by decide⟩,trivial,?_⟩;refine⟨⟨by decide,by decide,by decide⟩,_,rfl,_,rfl,⟨hb0,hbd⟩,_,rfl,_,_,ag,rfl,?_⟩;refine⟨_,rfl,_,rfl,hb0,?_⟩;rw[cy];exact rtn (q _ _ (hm _).1 (hm _).2)
 ·refine⟨_,rfl,_,_,ag,rfl,bV (by decide),?_⟩;refine⟨_,rfl,_,_,ag,rfl,bB (by decide),?_⟩;refine⟨_,rfl,_,_,ag,rfl,bV hc64,?_⟩;refine⟨_,rfl,_,_,ag,rfl,bB (by decide),(show(2147483399:Int)≠0 by decide),?_⟩
  have hn:∀n:Int,Bd 64 (n.fmod 2147483399):=fun n=>by
   have h1:=Int.fmod_nonneg_of_pos n (show(0:Int)<2147483399 by decide)
   have h2:=Int.fmod_lt_of_pos n (show(0:Int)<2147483399 by decide)
   show(n.fmod 2147483399).natAbs<2^64
   omega
  refine⟨_,rfl,_,rfl,bB (hn _),_,rfl,bB (by decide),_,rfl,_,_,ag,rfl,(show(2147483647:Int)≠0 by decide),?_⟩;refine⟨_,rfl,⟨by decide,bM (by decide)⟩,_,rfl,hb0,?_⟩;exact rtn (q _ _ (hm _).1 (hm _).2)
theorem cn:FnScope ["_law_row","_law_top","_law_bottom","_law_far"] ["_law_row"] (ak dI):=by walk_at "sc"
inductive Cn_law_scale(u:D)(M:MH)(Q:DK):Prop
 |mk (r:Addr) (x c:Int) (_:u=.ref r) (_:M r=some (.lst [.int x,.int c])) (_:0<=c) (_:c<900000) (_:∀x' c' t b p q,Scl t b p q->0<=c'->c'<=c+10->Q (scl t b p q) (aA M r (.lst [.int x',.int c'])))
theorem kR(T:Tx K mg):Cal P w K mg base 2 "_law_scale" (sD1 Cn_law_scale):=by
 refine fT (k:=1) T.f_law_scale cn fun f cdv A outer s H E hr=>⟨_,(aj (dH 1 2 rfl cn.nd (ab (ar aO af (ai (aE T).m hr (ab (dv 0) (ab af ae)))) (ab (ar aO af (ai (aE T).m hr (ab (dv 0) (ab af ae)))) ae))) (aj (aW (aL (cZ hr.units) (ai (aE T).m hr (ab (dv 0) (ab af ae))) af) (aq (dH 1 2 rfl cn.nd (ab (ar aO af (ai (aE T).m hr (ab (dv 0) (ab (ar fB af af) ae)))) (ab (ar aO af (ai (aE T).m hr (ab (dv 0) (ab (ar fB af af) ae)))) ae)))) aJ) (aj (aH 3 cn.nd (au (fG (ab af (ab (ar fB af af) ae))) (aU qh rfl T.b_int pH (ab (dP (cZ hr.units) (ai (aE T).m hr (ab (dv 0) (ab af ae))) af) ae)))) (aq (az (aQ (ab (dv 1) (ab (dv 2) (ab (ar aG (dv 3) (ar eH (ai (aE T).m hr (ab (dv 0) (ab af ae))) af)) (ab (ar aG (dv 3) (ar eH (ai (aE T).m hr (ab (dv 0) (ab af ae))) af)) ae)))))))))),fun _ M Q h=>?_⟩;obtain⟨r,x,c,rfl,hM,hc0,hc1,k⟩:=h;refine⟨_,rfl,r,6,x,c,rfl,rfl,hM,hc0,by omega,by decide,bM (by decide),fun x1 v1 h10 h11=>?_⟩;refine⟨_,rfl,r,6,x1,c+1,rfl,rfl,ag,by omega,by omega,by decide,bM (by decide),fun x2 v2 h20 h21=>?_⟩;refine⟨_,_,rfl,?_⟩;(try dsimp only[SD.bg])
 refine dh (fun δ M'=>∃x c' t b o3,0<=c'/\c'<=c+5/\(0<t/\t<=10^9/\0<b/\b<=10^9)/\M'=aA M r (.lst [.int x,.int c'])/\δ=[some (.ref r),some (.int t),some (.int b),o3]) ?_ (fun hu=>?_);rotate_left
 ·refine⟨_,rfl,r,4,x2,c+1+1,rfl,rfl,ag,by omega,by omega,by decide,bM (by decide),fun x3 v3 h30 h31=>⟨_,rfl,?_⟩⟩;refine b7 (fun _=>?_) (fun _=>?_)
  ·refine⟨_,rfl,⟨by decide,by decide,by decide⟩,r,10^9,x3,c+1+1+1,rfl,rfl,ag,by omega,by omega,by decide,bM (by decide),fun x4 v4 h40 h41=>?_⟩;refine⟨_,rfl,⟨by decide,by decide,by decide⟩,r,10^9,x4,c+1+1+1+1,rfl,rfl,ag,by omega,by omega,by decide,bM (by decide),fun x5 v5 h50 h51=>?_⟩;refine⟨_,_,rfl,hu _ _ ⟨x5,c+1+1+1+1+1,1+v4,1+v5,none,by omega,by omega,by omega,?_,rfl⟩⟩;simp only[cy]
  ·refine hu _ _ ⟨x3,c+1+1+1,1+v1,1+v2,none,by omega,by omega,by omega,?_,rfl⟩;simp only[cy]
 rintro δ M' ⟨x,c',t,b,o3,hc0',hc1',hb,rfl,rfl⟩;refine⟨⟨by decide,by decide,by decide⟩,nbL rfl,fun p hp=>?_⟩;have npr:r≠p:=aw ag hp;refine⟨_,rfl,r,6,x,c',rfl,rfl,(by rw[ao npr,ag]),by omega,by omega,by decide,bM (by decide),fun x6 v6 h60 h61=>?_⟩
 have hf:∃f:Int,atI [D.int 1,D.int (10^15)] (if decide (v6=0)=true then 1 else 0)=some (.int f)/\1<=f/\f<=10^15:=by
  by_cases z:v6=0
  ·exact⟨10^15,by rw[if_pos (by simpa using z)];rfl,by decide,by decide⟩
  ·exact⟨1,by rw[if_neg (by simpa using z)];rfl,by decide,by decide⟩
 obtain⟨f,ef,hf0,hf1⟩:=hf;refine⟨_,_,(by rw[ao npr.symm,ag];rfl),ef,?_⟩;have bf:Bd 64 f:=by show f.natAbs<2^64;omega
 refine⟨_,rfl,_,rfl,_,rfl,_,rfl,r,41,x6,c'+1,rfl,rfl,ag,by omega,by omega,by decide,bM (by decide),fun x7 v7 h70 h71=>⟨trivial,bB bf,?_⟩⟩;refine⟨_,rfl,_,rfl,r,41,x7,c'+1+1,rfl,rfl,ag,by omega,by omega,by decide,bM (by decide),fun x8 v8 h80 h81=>⟨trivial,bB bf,nbL rfl,?_⟩⟩
 have bnd:∀v:Int,0<=v->v<41->-(10^17)<=f*(v-20)/\f*(v-20)<=10^17:=fun v a b=>by
  have h1:f*(v-20)<=f*20:=Int.mul_le_mul_of_nonneg_left (by omega) (by omega)
  have h2:f*(-20)<=f*(v-20):=Int.mul_le_mul_of_nonneg_left (by omega) (by omega)
  omega
 have q7:=bnd v7 h70 h71;have q8:=bnd v8 h80 h81;refine⟨aA M r (.lst [.int x8,.int (c'+1+1+1)]),?_,k _ _ _ _ _ _ ⟨hb.1,hb.2.1,hb.2.2.1,hb.2.2.2,q7.1,q7.2,q8.1,q8.2⟩ (by omega) (by omega)⟩;simp only[cy];refine .zK ?_;intro a o ne e;have:a≠p:=fun z=>by subst z;rw[ao ne]at hp;rw[hp]at e;cases e
 rw[ao this,ao ne];exact e
theorem bE:FnScope ["_law_row","_law_most","_law_size","_law_shuts","_law_turn","_law_one","_law_other"] ["_law_row","_law_most","_law_size"] (ak fI):=by walk_at "sc"
inductive Cn_law_any(u m n:D)(M:MH)(Q:DK):Prop
 |mk (r:Addr) (x c m' s:Int) (_:u=.ref r) (_:m=.int m') (_:(0<=m'/\m'<=12)) (_:(n=.int s/\1<=s/\s<=6)) (_:M r=some (.lst [.int x,.int c])) (_:0<=c) (_:c<1000) (_:∀(M'':MH) (x' c':Int) (l:Addr) (ws:List Wl),r≠l->bO r M M''->M'' r=some (.lst [.int x',.int c'])->M'' l=some (.lst (ws.map uw))->0<=c'->c'<=c+160->(ws.length:Int)<=m'+1->(∀w∈ws,Un5 w)->Q (.ref l) M'')
theorem oY(T:Tx K mg):Cal P w K mg base 2 "_law_any" (sD3 Cn_law_any):=by
 refine qi (k:=1) T.f_law_any bE fun f cdv A outer s H E hr=>⟨_,(aj (aH 3 bE.nd (fG ae)) (aj (nC B1 rfl rfl T.b_range (ab (ai (aE T).m hr (ab (dv 0) (ab (ar aO (dv 1) af) ae))) ae) (aB 4 bE.nd) (aj (aH 5 bE.nd (aQ (ab (ai (aE T).m hr (ab (dv 0) (ab (dv 2) ae))) (ab (ai (aE T).m hr (ab (dv 0) (ab (dv 2) ae))) ae)))) (aj (aH 6 bE.nd (aQ (ab (ai (aE T).m hr (ab (dv 0) (ab (dv 2) ae))) (ab (ai (aE T).m hr (ab (dv 0) (ab (dv 2) ae))) ae)))) (aj (aW (mG (gQ (aL (ij hr.units) (dv 3) (fG ae)) (e7 (aL (cZ hr.units) (ai (aE T).m hr (ab (dv 0) (ab af ae))) af)))) (aq (aH 5 bE.nd (au (au (dv 3) (ai (aE T).m hr (ab (dv 0) (ab (aP ee rfl T.b_len dG (ab (dv 3) ae)) ae)))) (ai (aE T).m hr (ab (dv 0) (ab af ae)))))) aJ) (aj (aW (aL (cZ hr.units) (dv 5) (dv 6)) (aq (aH 6 bE.nd (aQ (ab (ar aO (ar aO (au (dv 5) af) af) (ai (aE T).m hr (ab (dv 0) (ab af ae)))) (ab (au (dv 5) af) ae))))) aJ) (aq (gd (du (dv 3) (ab (aQ (ab (aP (mX rfl hr.units) rfl T.b_min qp (ab (dv 5) (ab (dv 6) ae))) (ab (aP (nP rfl hr.units) rfl T.b_max pS (ab (dv 5) (ab (dv 6) ae))) ae))) ae))))))))) (aj (aW (mG (gQ (aL (ij hr.units) (dv 3) (fG ae)) (e7 (aL (cZ hr.units) (ai (aE T).m hr (ab (dv 0) (ab af ae))) af)))) (aq (gd (du (dv 3) (ab (au (dv 3) (ai (aE T).m hr (ab (dv 0) (ab (aP ee rfl T.b_len dG (ab (dv 3) ae)) ae)))) ae)))) aJ) (aq (az (dv 3)))))),fun _ _ _ M Q h=>?_⟩;obtain⟨r,x0,c0,m,s,rfl,rfl,hm,⟨rfl,hs0,hs1⟩,hM,hc0,hc1,k⟩:=h;refine⟨nbL rfl,fun l hl=>?_⟩;have nrl:r≠l:=aw hM hl;refine⟨_,rfl,_,rfl,r,m+1,x0,c0,rfl,rfl,(by rw[ao nrl];exact hM),hc0,by omega,by omega,bM (by omega),fun x1 v h0 h1=>?_⟩;refine⟨v.toNat,?_,by omega,fun i δ M'=>∃(x c:Int) (ws:List Wl) (o4 o5 o6:Option D),δ=[some (.ref r),some (.int m),some (.int s),some (.ref l),o4,o5,o6]/\bO r M M'/\M' r=some (.lst [.int x,.int c])/\M' l=some (.lst (ws.map uw))/\0<=c/\c<=c0+1+11*i/\ws.length<=i/\(∀w∈ws,Un5 w),?_,?_,?_⟩
 ·rw[Int.toNat_of_nonneg h0]
 ·refine⟨x1,c0+1,[],_,_,_,rfl,(bO.refl.fresh hl).atR,ag,(by rw[ao nrl.symm,ag];rfl),by omega,by omega,by decide,fun w hw=>absurd hw (by simp)⟩
 rotate_left
 ·rintro δ M' ⟨x,c,ws,o4,o5,o6,rfl,sT,hr',hl',g0,g1,g2,g3⟩;(try dsimp only[SD.bg])
  refine dh (fun δ M'=>∃(x c:Int) (ws:List Wl) (o4 o5 o6:Option D),δ=[some (.ref r),some (.int m),some (.int s),some (.ref l),o4,o5,o6]/\bO r M M'/\M' r=some (.lst [.int x,.int c])/\M' l=some (.lst (ws.map uw))/\0<=c/\c<=c0+160/\(ws.length:Int)<=m+1/\(∀w∈ws,Un5 w)) ?_ (fun hu=>?_);rotate_left;rotate_left
  ·rintro δ M' ⟨x,c,ws,o4,o5,o6,rfl,sT,hr',hl',g0,g1,g2,g3⟩;exact⟨_,rfl,rtn (k M' x c l ws nrl sT hr' hl' g0 (by omega) (by omega) g3)⟩
  refine⟨_,rfl,nbL rfl,fun z hz=>?_⟩;have nrz:r≠z:=aw hr' hz;have nlz:l≠z:=aw hl' hz;have hl5:(aA M' z (.lst [])) l=some (.lst (ws.map uw)):=by rw[ao nlz];exact hl'
  have hr5:(aA M' z (.lst [])) r=some (.lst [.int x,.int c]):=by rw[ao nrz];exact hr'
  refine⟨_,_,.lst hl5 (mE ws),.lst ag .nil,iX ws,rfl,_,rfl,?_⟩;rw[gG];refine b7 (fun hne=>?_) (fun hnil=>?_)
  ·have hpos:0<ws.length:=by
    cases ws with
    |nil=>simp at hne
    |cons w ws=>simp
   refine⟨_,rfl,r,6,x,c,rfl,rfl,hr5,by omega,by omega,by decide,bM (by decide),fun x5 v5 h50 h51=>⟨_,rfl,?_⟩⟩;have hl6:(aA (aA M' z (.lst [])) r (.lst [.int x5,.int (c+1)])) l=some (.lst (ws.map uw)):=by rw[ao nrl.symm];exact hl5
   refine b7 (fun _=>?_) (fun _=>?_)
   ·refine⟨_,rfl,l,_,rfl,hl6,_,rfl,_,rfl,_,rfl,_,hl6,r,((ws.map uw).length:Int),x5,c+1,rfl,rfl,ag,by omega,by omega,by simpa using hpos,bM (by simp;omega),fun x6 v6 h60 h61=>?_⟩;obtain⟨w,hw,ew⟩:=nA (ws:=ws) h60 (by simpa using h61);refine⟨_,_,(by rw[ao nrl.symm];exact hl6),ew,ws.map uw,_,rfl,(by rw[ao nrl.symm];exact hl6),by simp;omega,hu _ _ ⟨x6,_,ws++[w],_,_,_,rfl,(((sT.fresh hz).atR).atR).old hl,(by rw[ao nrl];exact ag),by rw[ag,B0];rfl,by omega,by omega,by simp;omega,fun v hv=>?_⟩⟩;rcases AH.mp hv with y|y
    ·exact g3 v y
    ·rw[AY.mp y];exact g3 w hw
   ·exact hu _ _ ⟨x5,_,ws,_,_,_,rfl,(sT.fresh hz).atR,ag,hl6,by omega,by omega,by omega,g3⟩
  ·refine ec rfl ?_;exact hu _ _ ⟨x,c,ws,_,_,_,rfl,sT.fresh hz,hr5,hl5,by omega,by omega,by omega,g3⟩
 rintro i δ M' hi ⟨x,c,ws,o4,o5,o6,rfl,sT,hr',hl',g0,g1,g2,g3⟩;have hi8:i<=12:=by omega
 refine⟨_,rfl,_,rfl,r,s,x,c,rfl,rfl,hr',g0,by omega,by omega,bM (by omega),fun x1 p hp0 hp1=>?_⟩;refine⟨_,rfl,_,rfl,r,s,x1,c+1,rfl,rfl,ag,by omega,by omega,by omega,bM (by omega),fun x2 q hq0 hq1=>⟨nbL rfl,?_⟩⟩;refine⟨_,rfl,_,rfl,r,s,x2,c+1+1,rfl,rfl,ag,by omega,by omega,by omega,bM (by omega),fun x3 e he0 he1=>?_⟩;refine⟨_,rfl,_,rfl,r,s,x3,c+1+1+1,rfl,rfl,ag,by omega,by omega,by omega,bM (by omega),fun x4 f hf0 hf1=>⟨nbL rfl,?_⟩⟩;have hl4:(aA (aA (aA (aA M' r (.lst [.int x1,.int (c+1)])) r (.lst [.int x2,.int (c+1+1)])) r (.lst [.int x3,.int (c+1+1+1)])) r (.lst [.int x4,.int (c+1+1+1+1)])) l=some (.lst (ws.map uw)):=by rw[ao nrl.symm,ao nrl.symm,ao nrl.symm,ao nrl.symm];exact hl'
 have hr4:(aA (aA (aA (aA M' r (.lst [.int x1,.int (c+1)])) r (.lst [.int x2,.int (c+1+1)])) r (.lst [.int x3,.int (c+1+1+1)])) r (.lst [.int x4,.int (c+1+1+1+1)])) r=some (.lst [.int x4,.int (c+1+1+1+1)]):=ag;have sT4:bO r M (aA (aA (aA (aA M' r (.lst [.int x1,.int (c+1)])) r (.lst [.int x2,.int (c+1+1)])) r (.lst [.int x3,.int (c+1+1+1)])) r (.lst [.int x4,.int (c+1+1+1+1)])):=(((sT.atR).atR).atR).atR;generalize aA (aA (aA (aA M' r (.lst [.int x1,.int (c+1)])) r (.lst [.int x2,.int (c+1+1)])) r (.lst [.int x3,.int (c+1+1+1)])) r (.lst [.int x4,.int (c+1+1+1+1)])=M4 at hl4 hr4 sT4 ⊢;(try dsimp only[SD.bg])
 refine dh (fun δ M'=>∃(x c' p q:Int),δ=[some (.ref r),some (.int m),some (.int s),some (.ref l),some (.int (i:Int)),some (.tup [.int p,.int q]),some (.tup [.int e,.int f])]/\bO r M M'/\M' r=some (.lst [.int x,.int c'])/\M' l=some (.lst (ws.map uw))/\0<=c'/\c'<=c+10/\(0<=p/\p<=20)/\(0<=q/\q<=20)) ?_ (fun hu=>?_);rotate_left
 ·refine⟨_,rfl,nbL rfl,fun z hz=>?_⟩;have nrz:r≠z:=aw hr4 hz;have nlz:l≠z:=aw hl4 hz;have hl5:(aA M4 z (.lst [])) l=some (.lst (ws.map uw)):=by rw[ao nlz];exact hl4
  have hr5:(aA M4 z (.lst [])) r=some (.lst [.int x4,.int (c+1+1+1+1)]):=by rw[ao nrz];exact hr4
  refine⟨_,_,.lst hl5 (mE ws),.lst ag .nil,iX ws,rfl,_,rfl,?_⟩;rw[gG];refine b7 (fun hne=>?_) (fun hnil=>?_)
  ·have hpos:0<ws.length:=by
    cases ws with
    |nil=>simp at hne
    |cons w ws=>simp
   refine⟨_,rfl,r,4,x4,c+1+1+1+1,rfl,rfl,hr5,by omega,by omega,by decide,bM (by decide),fun x5 v5 h50 h51=>⟨_,rfl,?_⟩⟩;have hl6:(aA (aA M4 z (.lst [])) r (.lst [.int x5,.int (c+1+1+1+1+1)])) l=some (.lst (ws.map uw)):=by rw[ao nrl.symm];exact hl5
   refine b7 (fun _=>?_) (fun _=>?_)
   ·refine⟨_,rfl,_,rfl,_,rfl,_,hl6,r,((ws.map uw).length:Int),x5,c+1+1+1+1+1,rfl,rfl,ag,by omega,by omega,by simpa using hpos,bM (by simp;omega),fun x6 v6 h60 h61=>?_⟩;obtain⟨w,hw,ew⟩:=nA (ws:=ws) h60 (by simpa using h61);have hw5:=g3 w hw;refine⟨_,_,(by rw[ao nrl.symm];exact hl6),ew,?_⟩;refine⟨_,rfl,r,2,x6,c+1+1+1+1+1+1,rfl,rfl,ag,by omega,by omega,by decide,bM (by decide),fun x7 v7 h70 h71=>?_⟩;obtain⟨a,b,ea,ha,hb⟩:=qw hw5 h70 h71;refine⟨_,ea,hu _ _ ⟨x7,_,a,b,rfl,(((sT4.fresh hz).atR).atR).atR,ag,(by rw[ao nrl.symm,ao nrl.symm];exact hl6),by omega,by omega,ha,hb⟩⟩
   ·exact hu _ _ ⟨x5,_,p,q,rfl,(sT4.fresh hz).atR,ag,hl6,by omega,by omega,by omega,by omega⟩
  ·refine ec rfl ?_;exact hu _ _ ⟨x4,_,p,q,rfl,sT4.fresh hz,hr5,hl5,by omega,by omega,by omega,by omega⟩
 rintro δ M5 ⟨x5,c5,p,q,rfl,sT5,hr5,hl5,k0,k1,hp,hq⟩;have he:0<=e/\e<=20:=by omega
 have hf:0<=f/\f<=20:=by omega
 have he5:e<=5:=by omega
 refine dh (fun δ M'=>∃(x c' g h:Int),δ=[some (.ref r),some (.int m),some (.int s),some (.ref l),some (.int (i:Int)),some (.tup [.int p,.int q]),some (.tup [.int g,.int h])]/\bO r M M'/\M' r=some (.lst [.int x,.int c'])/\M' l=some (.lst (ws.map uw))/\0<=c'/\c'<=c+11/\(0<=g/\g<=20)/\(0<=h/\h<=20)/\¬(p=g/\q=h)) ?_ (fun hv=>?_);rotate_left
 ·refine⟨_,rfl,_,rfl,_,_,Pd.of rfl,Pd.of rfl,rfl,rfl,_,rfl,?_⟩;rw[tL];refine b7 (fun heq=>?_) (fun hne=>?_)
  ·have heq:p=e/\q=f:=by simpa using heq
   obtain⟨rfl,rfl⟩:=heq;refine⟨_,rfl,_,rfl,_,rfl,r,2,x5,c5,rfl,rfl,hr5,k0,by omega,by decide,bM (by decide),fun x7 v7 h70 h71=>?_⟩;refine⟨_,rfl,_,rfl,nbL rfl,?_⟩;exact hv _ _ ⟨x7,_,p+1+v7,q,rfl,sT5.atR,ag,(by rw[ao nrl.symm];exact hl5),by omega,by omega,by omega,hq,by omega⟩
  ·have hne:¬(p=e/\q=f):=by simpa using hne
   exact hv _ _ ⟨x5,c5,e,f,rfl,sT5,hr5,hl5,k0,by omega,he,hf,hne⟩
 rintro δ M6 ⟨x6,c6,g,h,rfl,sT6,hr6,hl6,n0,n1,hg,hh,hne⟩;refine⟨_,rfl,l,_,rfl,hl6,?_⟩;refine⟨_,rfl,_,rfl,[p,q],[g,h],rfl,rfl,?_⟩;refine⟨_,rfl,_,rfl,[p,q],[g,h],rfl,rfl,nbL rfl,?_⟩;obtain⟨w,e1,e2,hw⟩:=pD hp hq hg hh hne;rw[e1,e2];refine⟨ws.map uw,_,rfl,hl6,by simp;omega,?_⟩;refine⟨x6,c6,ws++[w],_,_,_,rfl,sT6.old hl,by rw[ao nrl];exact hr6,by rw[ag,B0];rfl,n0,by omega,by simp;omega,fun v hv=>?_⟩;rcases AH.mp hv with y|y
 ·exact g3 v y
 ·rw[AY.mp y];exact hw
theorem cA:FnScope ["_law_top","_law_bottom","_law_one","_law_other"] ["_law_top","_law_bottom"] (ak fu):=by walk_at "sc"
inductive Cn_law_low(x y:D)(M:MH)(Q:DK):Prop
 |mk (t:_) (b:_) (_:x=.int t) (_:y=.int b) (_:b≠0) (_:Bd 8000 t) (_:Bd 8000 b) (_:Q (Ma.fr (Rat.divInt t b)) M)
theorem dS(T:Tx K mg):Cal P w K mg base 1 "_law_low" (sD2 Cn_law_low):=by
 refine aV (k:=0) T.f_law_low cA fun f cdv A outer s H E hr=>⟨_,(aj (aH 2 cA.nd (aP j5 rfl T.b_abs j6 (ab (dv 0) ae))) (aj (aH 3 cA.nd (aP j5 rfl T.b_abs j6 (ab (dv 1) ae))) (aj (gX B1 (aL (ij hr.units) (dv 3) af) (aq (dH 2 3 rfl cA.nd (ab (dv 3) (ab (ar fD (dv 2) (dv 3)) ae))))) (aj (aW (aL (ez hr.units) (dv 1) af) (aq (aH 2 cA.nd (qj jK (dv 2)))) aJ) (aq (az (aQ (ab (ar gV (dv 0) (dv 2)) (ab (ar gV (dv 1) (dv 2)) ae))))))))),fun _ _ M Q h=>?_⟩;obtain⟨t,b,rfl,rfl,hb,ht,hbb,q⟩:=h;refine⟨_,rfl,_,rfl,?_⟩;have hg:=Ma.og (t:=t) hb;have hgd:Bd 8000 ((Nat.gcd t.natAbs b.natAbs:Nat):Int):=hbb.of_le (by simpa using Nat.gcd_le_right t.natAbs (show 0<b.natAbs by omega));refine⟨fun m δ M'=>M'=M/\∃x y:Nat,δ=[some (.int t),some (.int b),some (.int x),some (.int y)]/\Nat.gcd x y=Nat.gcd t.natAbs b.natAbs/\m=y,⟨_,rfl,_,_,rfl,rfl,rfl⟩,?_⟩;rintro m δ M' ⟨rfl,x,y,rfl,hxy,hm⟩;refine⟨_,rfl,_,rfl,?_⟩;refine b7 (fun h=>?_) (fun h=>?_)
 ·have hy:(y:Int)≠0:=by simpa using h
  refine⟨_,rfl,_,rfl,_,rfl,hy,_,_,rfl,?_⟩;have hy':0<y:=by omega
  refine⟨x%y,by rw[hm];exact Nat.mod_lt _ hy',rfl,y,x%y,?_,?_,rfl⟩
  ·rw[<-Ma.oe];rfl
  ·rw[<-hxy,Nat.gcd_comm x y,Nat.gcd_rec y x,Nat.gcd_comm]
 ·have hy:y=0:=by simpa using h
  subst hy;rw[Nat.gcd_zero_right]at hxy;subst hxy;(repeat (first|refine⟨_,rfl,?_⟩|refine⟨trivial,?_⟩|refine⟨_,_,rfl,?_⟩|refine⟨rfl,?_⟩|refine⟨nbL rfl,?_⟩))
  refine b7 (fun h=>?_) (fun h=>?_)
  ·have hneg:b<0:=by simpa using h
   obtain⟨e1,e2⟩:=Ma.oo (t:=t) hneg;refine⟨_,rfl,_,rfl,_,rfl,⟨by omega,hgd.neg⟩,_,rfl,_,rfl,⟨by omega,hgd.neg⟩,nbL rfl,?_⟩;dsimp only;rw[e1,e2];exact rtn q
  ·have hpos:0<b:=by
    have:¬b<0:=by simpa using h
    omega
   obtain⟨e1,e2⟩:=Ma.mW (t:=t) hpos;refine⟨_,rfl,_,rfl,⟨by omega,hgd⟩,_,rfl,_,rfl,⟨by omega,hgd⟩,nbL rfl,?_⟩;dsimp only;rw[e1,e2];exact rtn q
theorem bY:FnScope ["_law_scale_here","_law_unit","_law_top","_law_bottom","_law_x","_law_y"] ["_law_scale_here","_law_unit"] (ak d8):=by walk_at "sc"
inductive Cn_law_spot(s v:D)(M:MH)(Q:DK):Prop
 |mk (t b x y p q:Int) (_:s=scl t b x y) (_:v=.tup [.int p,.int q]) (_:Scl t b x y) (_:(-(10^6)<=p/\p<=10^6)) (_:(-(10^6)<=q/\q<=10^6)) (_:Q (Ma.spt (Ma.ut t b x 1 p) (Ma.ut t b y 1 q)) M)
theorem gz(T:Tx K mg):Cal P w K mg base 2 "_law_spot" (sD2 Cn_law_spot):=by
 refine aV (k:=1) T.f_law_spot bY fun f cdv A outer s H E hr=>⟨_,(aj (cG (dv 0) (bD rfl (aC (aB 2 bY.nd) (aC (aB 3 bY.nd) (aC (aB 4 bY.nd) (aC (aB 5 bY.nd) aY)))))) (aq (az (aQ (ab (ai (dS T).m hr (ab (ar aO (ar aG (au (dv 1) af) (dv 2)) (dv 4)) (ab (dv 3) ae))) (ab (ai (dS T).m hr (ab (ar aO (ar aG (au (dv 1) af) (dv 2)) (dv 5)) (ab (dv 3) ae))) ae)))))),fun _ _ M Q h=>?_⟩;obtain⟨t,b,x,y,p,q,rfl,rfl,S,hp,hq,k⟩:=h;have bt:Bd 64 t:=by have:=S.t0;have:=S.t1;show t.natAbs<2^64;omega
 have bp:∀{z:Int},(-(10^6)<=z/\z<=10^6)->Bd 64 z:=fun{z} h=>by show z.natAbs<2^64;omega
 have bb:Bd 8000 b:=by have:=S.b0;have:=S.b1;exact bM (by omega)
 have big:∀{z w:Int},(-(10^6)<=z/\z<=10^6)->(-(10^17)<=w/\w<=10^17)->Bd 8000 (z*t+w):=fun{z w} h1 h2=>by
  have e1:Bd 128 (z*t):=(bp h1).mul bt
  have e2:Bd 128 w:=bM (by omega)
  exact(e1.add e2).mono (by decide)
 have hb0:b≠0:=by have:=S.b0;omega
 refine⟨_,rfl,_,rfl,rfl,_,_,rfl,_,_,rfl,_,_,rfl,_,_,rfl,rfl,?_⟩;refine⟨_,rfl,_,rfl,_,rfl,bV bt,_,rfl,_,rfl,p*t+x,b,rfl,rfl,hb0,big hp ⟨S.x0,S.x1⟩,bb,?_⟩;refine⟨_,rfl,_,rfl,_,rfl,bV bt,_,rfl,_,rfl,q*t+y,b,rfl,rfl,hb0,big hq ⟨S.y0,S.y1⟩,bb,nbL rfl,?_⟩;rw[Ma.pX,Ma.pX];exact rtn k
theorem kl:FnScope ["_law_scale_here","_law_shuts"] ["_law_scale_here","_law_shuts"] (ak eM):=by walk_at "sc"
inductive Cn_law_made(s v:D)(M:MH)(Q:DK):Prop
 |mk (t b x y:Int) (l:Addr) (ws:List (Int×Int×Int×Int)) (_:s=scl t b x y) (_:v=.ref l) (_:M l=some (.lst (ws.map uw))) (_:Scl t b x y) (_:ws.length<=1000) (_:(∀w∈ws,Uok (10^6) w)) (_:Q (.tup (ws.map (rwl t b x y))) M)
theorem mv(T:Tx K mg):Cal P w K mg base 3 "_law_made" (sD2 Cn_law_made):=by
 refine aV (k:=2) T.f_law_made kl fun f cdv A outer s H E hr=>⟨_,(aq (az (aU g8 rfl T.b_tuple il (ab (qJ (CScope.of (xs:=["_law_first","_law_second"]) (js:=[0]) rfl) rfl (b6 (dv 1)) (fun _ _ _ _=>dR) (fun _ _ _ _=>(aQ (ab (ai (gz T).m hr (ab (dv 2) (ab (dv 0) ae))) (ab (ai (gz T).m hr (ab (dv 2) (ab (dv 1) ae))) ae))))) ae)))),fun _ _ M Q h=>?_⟩;obtain⟨t,b,x,y,l,ws,rfl,rfl,hM,S,hl,hw,k⟩:=h;refine⟨_,rfl,ws.map uw,hM,comp_map (fun i=>((ws.map (rwl t b x y))[i]?).getD .non) (by simp;omega) (fun p ys hp=>?_) ?_ (fun p hp=>⟨_,ag,?_⟩)⟩
 ·show(aA M p _) l=_;rw[ao (aw hM hp)];exact hM
 ·intro i e M' hi he _;have he:(ws.map uw)[i]?=some e:=he;rw[Az]at he;cases ew:ws[i]? with
  |none=>rw[ew]at he;cases he
  |some w=>
   rw[ew]at he
   cases he
   obtain⟨u1,u2,u3,u4⟩:=hw w (Ax ew)
   refine⟨_,⟨_,rfl,rfl,rfl⟩,fun K hK=>?_⟩
   have hK':=hK M' .refl
   rw[getD_map ew]at hK'
   refine⟨_,rfl,_,rfl,t,b,x,y,w.1,w.2.1,rfl,rfl,S,u1,u2,?_⟩
   exact⟨_,rfl,_,rfl,t,b,x,y,w.2.2.1,w.2.2.2,rfl,rfl,S,u3,u4,nbL rfl,hK'⟩
 ·refine⟨_,.new hp .refl,?_⟩
  have e:(BV (ws.map uw).length).map (fun i=>((ws.map (rwl t b x y))[i]?).getD .non)=ws.map (rwl t b x y):=by
   have:=SD.range_getD (ws.map (rwl t b x y))
   rw[A4]at this ⊢
   exact this
  dsimp only;rw[e];exact k
theorem mF:FnScope ["one","other"] ["one","other"] (ak fL):=by walk_at "sc"
inductive Cn_is_less(x y:D)(M:MH)(Q:DK):Prop
 |mk (q r:Rat) (_:x=Ma.fr q) (_:y=Ma.fr r) (_:Ma.Bq 100000 q) (_:Ma.Bq 100000 r) (_:Q (.bl (decide (q<r))) M)
theorem i8(T:Tx K mg):Cal P w K mg base 1 "is_less" (sD2 Cn_is_less):=by refine aV (k:=0) T.f_is_less mF fun f cdv A outer s H E hr=>⟨_,(aq (az (dP (ez hr.units) (ar aG (au (dv 0) af) (au (dv 1) af)) (ar aG (au (dv 1) af) (au (dv 0) af))))),fun _ _ M Q h=>?_⟩;obtain⟨q,r,rfl,rfl,h1,h2,k⟩:=h;refine⟨_,rfl,_,rfl,_,rfl,_,rfl,cK (h1.1.mono (by decide)) (h2.2.mono (by decide)),?_⟩;refine⟨_,rfl,_,rfl,_,rfl,_,rfl,cK (h2.1.mono (by decide)) (h1.2.mono (by decide)),trivial,?_⟩;dsimp only;rw[Ma.yH];exact rtn k
theorem lA:FnScope ["one","other"] ["one","other"] (ak eN):=by walk_at "sc"
inductive Cn_is_ahead(x y:D)(M:MH)(Q:DK):Prop
 |mk (a b c d:Rat) (_:x=Ma.spt a b) (_:y=Ma.spt c d) (_:Ma.Bq 100000 a) (_:Ma.Bq 100000 b) (_:Ma.Bq 100000 c) (_:Ma.Bq 100000 d) (_:Q (.bl (decide (a<c\/a=c/\b<d))) M)
theorem bG(T:Tx K mg):Cal P w K mg base 2 "is_ahead" (sD2 Cn_is_ahead):=by
 refine aV (k:=1) T.f_is_ahead lA fun f cdv A outer s H E hr=>⟨_,(aj (aW (aL (cZ hr.units) (au (dv 0) af) (au (dv 1) af)) (aq (az (ai (i8 T).m hr (ab (au (dv 0) af) (ab (au (dv 1) af) ae))))) aJ) (aq (az (ai (i8 T).m hr (ab (au (dv 0) af) (ab (au (dv 1) af) ae)))))),fun _ _ M Q h=>?_⟩;obtain⟨a,b,c,d,rfl,rfl,h1,h2,h3,h4,k⟩:=h;refine⟨_,rfl,_,rfl,_,rfl,_,rfl,_,_,Pd.of rfl,Pd.of rfl,rfl,rfl,?_⟩;rw[Ma.wO];refine⟨_,rfl,?_⟩;refine b7 (fun h=>?_) (fun h=>?_)
 ·have e:a=c:=by simpa using h
  subst e;refine⟨_,rfl,_,rfl,_,rfl,_,rfl,b,d,rfl,rfl,h2,h4,?_⟩
  have z:(a<a\/a=a/\b<d)↔b<d:=by
   have:=Rat.lt_irrefl (a:=a)
   simp[this]
  rw[decide_eq_decide.mpr z]at k;exact rtn k
 ·have e:¬a=c:=by simpa using h
  refine⟨_,rfl,_,rfl,_,rfl,_,rfl,a,c,rfl,rfl,h1,h3,?_⟩;have z:(a<c\/a=c/\b<d)↔a<c:=by simp[e]
  rw[decide_eq_decide.mpr z]at k;exact rtn k
theorem wA:FnScope ["one","other"] ["one","other"] (ak qy):=by walk_at "sc"
inductive Cn_gap(x y:D)(M:MH)(Q:DK):Prop
 |mk (t1 b1 t2 b2:Int) (_:x=.tup [.int t1,.int b1]) (_:y=.tup [.int t2,.int b2]) (_:Bd 1000000 t1) (_:Bd 1000000 b1) (_:Bd 1000000 t2) (_:Bd 1000000 b2) (_:Q (.tup [.int (t1*b2-t2*b1),.int (b1*b2)]) M)
theorem kj(T:Tx K mg):Cal P w K mg base 1 "gap" (sD2 Cn_gap):=by refine aV (k:=0) T.f_gap wA fun f cdv A outer s H E hr=>⟨_,(aq (az (aQ (ab (ar eH (ar aG (au (dv 0) af) (au (dv 1) af)) (ar aG (au (dv 1) af) (au (dv 0) af))) (ab (ar aG (au (dv 0) af) (au (dv 1) af)) ae))))),fun _ _ M Q h=>?_⟩;obtain⟨t1,b1,t2,b2,rfl,rfl,h1,h2,h3,h4,k⟩:=h;refine⟨_,rfl,_,rfl,_,rfl,_,rfl,cK h1 h4,_,rfl,_,rfl,_,rfl,_,rfl,cK h3 h2,trivial,?_⟩;exact⟨_,rfl,_,rfl,_,rfl,_,rfl,cK h2 h4,nbL rfl,rtn k⟩
theorem cq:FnScope ["wall","spot","a","b","c","d","x","y","across","up","along","high"] ["wall","spot"] (ak l7):=by walk_at "sc"
inductive Cn_lean(u v:D)(M:MH)(Q:DK):Prop
 |mk (n:Nat) (a b c d x y:Rat) (_:u=Ma.wll a b c d) (_:v=Ma.spt x y) (_:Ma.Bq n a) (_:Ma.Bq n b) (_:Ma.Bq n c) (_:Ma.Bq n d) (_:Ma.Bq n x) (_:Ma.Bq n y) (_:n<=20000) (_:∀t e:Int,0<e->Rat.divInt t e=Ma.cr a b c d x y->Bd (8*n+3) t->Bd (8*n+3) e->Q (.tup [.int t,.int e]) M)
theorem ml(T:Tx K mg):Cal P w K mg base 2 "lean" (sD2 Cn_lean):=by
 refine aV (k:=1) T.f_lean cq fun f cdv A outer s H E hr=>⟨_,(aj (cG (dv 0) (bD rfl (aC (bD rfl (aC (aB 2 cq.nd) (aC (aB 3 cq.nd) aY))) (aC (bD rfl (aC (aB 4 cq.nd) (aC (aB 5 cq.nd) aY))) aY)))) (aj (cG (dv 1) (bD rfl (aC (aB 6 cq.nd) (aC (aB 7 cq.nd) aY)))) (aj (dH 8 9 rfl cq.nd (ab (ai (kj T).m hr (ab (dv 4) (ab (dv 2) ae))) (ab (ai (kj T).m hr (ab (dv 5) (ab (dv 3) ae))) ae))) (aj (dH 10 11 rfl cq.nd (ab (ai (kj T).m hr (ab (dv 6) (ab (dv 2) ae))) (ab (ai (kj T).m hr (ab (dv 7) (ab (dv 3) ae))) ae))) (aq (az (ai (kj T).m hr (ab (aQ (ab (ar aG (au (dv 8) af) (au (dv 11) af)) (ab (ar aG (au (dv 8) af) (au (dv 11) af)) ae))) (ab (aQ (ab (ar aG (au (dv 9) af) (au (dv 10) af)) (ab (ar aG (au (dv 9) af) (au (dv 10) af)) ae))) ae))))))))),fun _ _ M Q h=>?_⟩;obtain⟨n,a,b,c,d,x,y,rfl,rfl,ha,hb,hc,hd,hx,hy,hn,k⟩:=h;have mo:∀{m:Nat} {i:Int},Bd m i->m<=1000000->Bd 1000000 i:=fun z l=>z.mono l;have q1:=hc.jo ha;have q2:=hd.jo hb;have q3:=hx.jo ha;have q4:=hy.jo hb;have e1:=hc.2.mul ha.2;have e2:=hd.2.mul hb.2;have e3:=hx.2.mul ha.2;have e4:=hy.2.mul hb.2;refine⟨_,rfl,_,rfl,rfl,_,_,rfl,⟨_,rfl,rfl,_,_,rfl,_,_,rfl,rfl,?_⟩⟩;refine⟨_,_,rfl,⟨_,rfl,rfl,_,_,rfl,_,_,rfl,rfl,?_⟩⟩;refine⟨rfl,_,rfl,_,rfl,rfl,_,_,rfl,_,_,rfl,rfl,?_⟩;refine⟨_,rfl,_,rfl,_,_,_,_,rfl,rfl,mo hc.1 (by omega),mo hc.2 (by omega),mo ha.1 (by omega),mo ha.2 (by omega),?_⟩;refine⟨_,rfl,_,rfl,_,_,_,_,rfl,rfl,mo hd.1 (by omega),mo hd.2 (by omega),mo hb.1 (by omega),mo hb.2 (by omega),?_⟩;refine⟨_,_,rfl,?_⟩;refine⟨_,rfl,_,rfl,_,_,_,_,rfl,rfl,mo hx.1 (by omega),mo hx.2 (by omega),mo ha.1 (by omega),mo ha.2 (by omega),?_⟩;refine⟨_,rfl,_,rfl,_,_,_,_,rfl,rfl,mo hy.1 (by omega),mo hy.2 (by omega),mo hb.1 (by omega),mo hb.2 (by omega),?_⟩;refine⟨_,_,rfl,?_⟩;refine⟨_,rfl,_,rfl,_,rfl,_,rfl,cK (mo q1 (by omega)) (mo q4 (by omega)),?_⟩;refine⟨_,rfl,_,rfl,_,rfl,_,rfl,cK (mo e1 (by omega)) (mo e4 (by omega)),nbL rfl,?_⟩;refine⟨_,rfl,_,rfl,_,rfl,_,rfl,cK (mo q2 (by omega)) (mo q3 (by omega)),?_⟩;refine⟨_,rfl,_,rfl,_,rfl,_,rfl,cK (mo e2 (by omega)) (mo e3 (by omega)),nbL rfl,?_⟩;refine⟨_,_,_,_,rfl,rfl,mo (q1.mul q4) (by omega),mo (e1.mul e4) (by omega),mo (q2.mul q3) (by omega),mo (e2.mul e3) (by omega),?_⟩;have pe:∀q r:Rat,0<(q.den:Int)*(r.den:Int):=fun q r=>BQ (Ma.den_pos q) (Ma.den_pos r);refine rtn (k _ _ (BQ (BQ (pe c a) (pe y b)) (BQ (pe d b) (pe x a))) (Ma.sU a b c d x y) ?_ ?_)
 ·exact((((q1.mul q4).mul (e2.mul e3)).mono (show _<=8*n+2 by omega)).sub (((q2.mul q3).mul (e1.mul e4)).mono (show _<=8*n+2 by omega)))
 ·exact((e1.mul e4).mul (e2.mul e3)).mono (by omega)
theorem gr:FnScope ["wall","spot","top"] ["wall","spot"] (ak fw):=by walk_at "sc"
inductive Cn_side_of(u v:D)(M:MH)(Q:DK):Prop
 |mk (n:Nat) (a b c d x y:Rat) (_:u=Ma.wll a b c d) (_:v=Ma.spt x y) (_:Ma.Bq n a) (_:Ma.Bq n b) (_:Ma.Bq n c) (_:Ma.Bq n d) (_:Ma.Bq n x) (_:Ma.Bq n y) (_:n<=1900) (_:Q (.int (Ma.sgn (Ma.cr a b c d x y))) M)
theorem cX(T:Tx K mg):Cal P w K mg base 3 "side_of" (sD2 Cn_side_of):=by
 refine aV (k:=2) T.f_side_of gr fun f cdv A outer s H E hr=>⟨_,(aj (aH 2 gr.nd (au (ai (ml T).m hr (ab (dv 0) (ab (dv 1) ae))) af)) (aj (aW (aL (ig hr.units) (dv 2) af) (aq (az af)) aJ) (aj (aW (aL (ez hr.units) (dv 2) af) (aq (az (qj jK af))) aJ) (aq (az af))))),fun _ _ M Q h=>?_⟩;obtain⟨n,a,b,c,d,x,y,rfl,rfl,ha,hb,hc,hd,hx,hy,hn,k⟩:=h;refine⟨_,rfl,_,rfl,n,a,b,c,d,x,y,rfl,rfl,ha,hb,hc,hd,hx,hy,by omega,fun t e he hte _ _=>⟨_,rfl,?_⟩⟩;rw[<-hte,Ma.tO he]at k;refine⟨_,rfl,trivial,_,rfl,?_⟩;refine b7 (fun h=>?_) (fun h=>?_)
 ·rw[if_pos (by simpa using h)]at k;exact rtn k
 rw[if_neg (by simpa using h)]at k;refine⟨_,rfl,trivial,_,rfl,?_⟩;refine b7 (fun h=>?_) (fun h=>?_)
 ·rw[if_pos (by simpa using h)]at k;exact rtn k
 ·rw[if_neg (by simpa using h)]at k;exact rtn k
theorem eF:FnScope ["wall","spot","first","second"] ["wall","spot"] (ak fx):=by walk_at "sc"
inductive Cn_lies_on(u v:D)(M:MH)(Q:DK):Prop
 |mk (n:Nat) (a b c d x y:Rat) (_:u=Ma.wll a b c d) (_:v=Ma.spt x y) (_:Ma.Bq n a) (_:Ma.Bq n b) (_:Ma.Bq n c) (_:Ma.Bq n d) (_:Ma.Bq n x) (_:Ma.Bq n y) (_:n<=1900) (_:Q (.bl (decide (Ma.cr a b c d x y=0/\¬Ma.ah x y a b/\¬Ma.ah c d x y))) M)
theorem iQ(T:Tx K mg):Cal P w K mg base 4 "lies_on" (sD2 Cn_lies_on):=by
 refine aV (k:=3) T.f_lies_on eF fun f cdv A outer s H E hr=>⟨_,(aj (cG (dv 0) (bD rfl (aC (aB 2 eF.nd) (aC (aB 3 eF.nd) aY)))) (aq (az (jx (dP (cZ hr.units) (ai (cX T).m hr (ab (dv 0) (ab (dv 1) ae))) af) (jx (pI (ai (bG T).m hr (ab (dv 1) (ab (dv 2) ae)))) (rZ (pI (ai (bG T).m hr (ab (dv 3) (ab (dv 1) ae)))))))))),fun _ _ M Q h=>?_⟩;obtain⟨n,a,b,c,d,x,y,rfl,rfl,ha,hb,hc,hd,hx,hy,hn,k⟩:=h;have mo:∀{q:Rat},Ma.Bq n q->Ma.Bq 100000 q:=fun z=>z.mono (by omega);refine⟨_,rfl,_,rfl,rfl,_,_,rfl,_,_,rfl,rfl,?_⟩;(try dsimp only[SD.iT,SD.fU,SD.bg,SD.nU,SD.nV,SD.fJ,SD.kg,SD.tBD,SD.nk])
 refine uz (decide (Ma.sgn (Ma.cr a b c d x y)=0)) (!decide (Ma.ah x y a b)&&!decide (Ma.ah c d x y)) (fun K hK=>⟨_,rfl,_,rfl,n,a,b,c,d,x,y,rfl,rfl,ha,hb,hc,hd,hx,hy,hn,hK⟩) (fun _ K hK=>?_) ?_
 ·refine uz (!decide (Ma.ah x y a b)) (!decide (Ma.ah c d x y)) (fun K hK=>⟨_,rfl,_,rfl,x,y,a,b,rfl,rfl,mo hx,mo hy,mo ha,mo hb,_,rfl,hK⟩) (fun _ K hK=>⟨_,rfl,_,rfl,c,d,x,y,rfl,rfl,mo hc,mo hd,mo hx,mo hy,_,rfl,hK⟩) hK
 have e:(decide (Ma.sgn (Ma.cr a b c d x y)=0)&&(!decide (Ma.ah x y a b)&&!decide (Ma.ah c d x y)))=decide (Ma.cr a b c d x y=0/\¬Ma.ah x y a b/\¬Ma.ah c d x y):=by rw[Bool.decide_and,Bool.decide_and,decide_not,decide_not,decide_eq_decide.mpr (Ma.kH _)]
 rw[e];exact rtn k
theorem cj:FnScope ["one","other"] ["one","other"] (ak bC):=by walk_at "sc"
inductive Cn_greatest_divisor(x y:D)(M:MH)(Q:DK):Prop
 |mk (a b:Nat) (_:x=.int (a:Int)) (_:y=.int (b:Int)) (_:Q (.int ((Nat.gcd a b:Nat):Int)) M)
theorem d7(T:Tx K mg):Cal P w K mg base 1 "greatest_divisor" (sD2 Cn_greatest_divisor):=by
 refine aV (k:=0) T.f_greatest_divisor cj fun f cdv A outer s H E hr=>⟨_,(aj (gX B1 (aL (ij hr.units) (dv 1) af) (aq (dH 0 1 rfl cj.nd (ab (dv 1) (ab (ar fD (dv 0) (dv 1)) ae))))) (aq (az (dv 0)))),fun _ _ M Q h=>?_⟩;obtain⟨a,b,rfl,rfl,q⟩:=h;refine⟨fun m δ M'=>M'=M/\∃x y:Nat,δ=[some (.int x),some (.int y)]/\Nat.gcd x y=Nat.gcd a b/\m=y,⟨_,rfl,_,_,rfl,rfl,rfl⟩,?_⟩;rintro m δ M' ⟨rfl,x,y,rfl,hxy,hm⟩;refine⟨_,rfl,_,rfl,?_⟩;refine b7 (fun h=>?_) (fun h=>?_)
 ·have hy:(y:Int)≠0:=by simpa using h
  refine⟨_,rfl,_,rfl,_,rfl,hy,_,_,rfl,?_⟩;have hy':0<y:=by omega
  refine⟨x%y,by rw[hm];exact Nat.mod_lt _ hy',rfl,y,x%y,?_,?_,rfl⟩
  ·rw[<-Ma.oe];rfl
  ·rw[<-hxy,Nat.gcd_comm x y,Nat.gcd_rec y x,Nat.gcd_comm]
 ·have hy:y=0:=by simpa using h
  subst hy;rw[Nat.gcd_zero_right]at hxy;subst hxy;exact⟨_,rfl,rtn q⟩
theorem dD:FnScope ["top","bottom","divisor"] ["top","bottom"] (ak eC):=by walk_at "sc"
inductive Cn_fraction(x y:D)(M:MH)(Q:DK):Prop
 |mk (t:_) (b:_) (_:x=.int t) (_:y=.int b) (_:b≠0) (_:Bd 8000 t) (_:Bd 8000 b) (_:Q (Ma.fr (Rat.divInt t b)) M)
theorem bj(T:Tx K mg):Cal P w K mg base 2 "fraction" (sD2 Cn_fraction):=by
 refine aV (k:=1) T.f_fraction dD fun f cdv A outer s H E hr=>⟨_,(aj (aW (aL (cZ hr.units) (dv 1) af) (aq eT) aJ) (aj (aH 2 dD.nd (ai (d7 T).m hr (ab (aP j5 rfl T.b_abs j6 (ab (dv 0) ae)) (ab (aP j5 rfl T.b_abs j6 (ab (dv 1) ae)) ae)))) (aj (aW (aL (ez hr.units) (dv 1) af) (aq (aH 2 dD.nd (qj jK (dv 2)))) aJ) (aq (az (aQ (ab (ar gV (dv 0) (dv 2)) (ab (ar gV (dv 1) (dv 2)) ae)))))))),fun _ _ M Q h=>?_⟩;obtain⟨t,b,rfl,rfl,hb,ht,hbb,q⟩:=h;have hg:=Ma.og (t:=t) hb;have hgd:Bd 8000 ((Nat.gcd t.natAbs b.natAbs:Nat):Int):=hbb.of_le (by simpa using Nat.gcd_le_right t.natAbs (show 0<b.natAbs by omega));refine⟨_,rfl,_,rfl,ec (decide_eq_false hb) ?_⟩;refine⟨_,rfl,_,rfl,t.natAbs,b.natAbs,rfl,rfl,?_⟩;refine⟨_,rfl,trivial,_,rfl,?_⟩;refine b7 (fun h=>?_) (fun h=>?_)
 ·have hneg:b<0:=by simpa using h
  obtain⟨e1,e2⟩:=Ma.oo (t:=t) hneg;refine⟨_,rfl,_,rfl,_,rfl,⟨by omega,hgd.neg⟩,_,rfl,_,rfl,⟨by omega,hgd.neg⟩,nbL rfl,?_⟩;dsimp only;rw[e1,e2];exact rtn q
 ·have hpos:0<b:=by
   have:¬b<0:=by simpa using h
   omega
  obtain⟨e1,e2⟩:=Ma.mW (t:=t) hpos;refine⟨_,rfl,_,rfl,⟨by omega,hgd⟩,_,rfl,_,rfl,⟨by omega,hgd⟩,nbL rfl,?_⟩;dsimp only;rw[e1,e2];exact rtn q
theorem dB:FnScope ["spot","x","y"] ["spot"] (ak eD):=by walk_at "sc"
inductive Cn_own_spot(x:D)(M:MH)(Q:DK):Prop
 |mk (a b:Rat) (_:x=Ma.spt a b) (_:Ma.Bq 8000 a) (_:Ma.Bq 8000 b) (_:Q (Ma.spt a b) M)
theorem cD(T:Tx K mg):Cal P w K mg base 3 "own_spot" (sD1 Cn_own_spot):=by refine fT (k:=2) T.f_own_spot dB fun f cdv A outer s H E hr=>⟨_,(aj (cG (dv 0) (bD rfl (aC (aB 1 dB.nd) (aC (aB 2 dB.nd) aY)))) (aq (az (aQ (ab (ai (bj T).m hr (ab (au (dv 1) af) (ab (au (dv 1) af) ae))) (ab (ai (bj T).m hr (ab (au (dv 2) af) (ab (au (dv 2) af) ae))) ae)))))),fun _ M Q h=>?_⟩;obtain⟨a,b,rfl,h1,h2,k⟩:=h;refine⟨_,rfl,_,rfl,rfl,_,_,rfl,_,_,rfl,rfl,?_⟩;refine⟨_,rfl,_,rfl,_,rfl,_,rfl,a.num,(a.den:Int),rfl,rfl,Ma.cQ a,h1.1,h1.2,?_⟩;refine⟨_,rfl,_,rfl,_,rfl,_,rfl,b.num,(b.den:Int),rfl,rfl,Ma.cQ b,h2.1,h2.2,nbL rfl,?_⟩;rw[B7,B7];exact rtn k
theorem lF:FnScope ["one","other"] ["one","other"] (ak eG):=by walk_at "sc"
inductive Cn_later_of(x y:D)(M:MH)(Q:DK):Prop
 |mk (a b e f:Rat) (_:x=Ma.spt a b) (_:y=Ma.spt e f) (_:Ma.Bq 100000 a) (_:Ma.Bq 100000 b) (_:Ma.Bq 100000 e) (_:Ma.Bq 100000 f) (_:∀s:Rat×Rat,s=(if Ma.ah e f a b then(a,b)else(e,f))->Q (Ma.spt s.1 s.2) M)
theorem lX(T:Tx K mg):Cal P w K mg base 3 "later_of" (sD2 Cn_later_of):=by
 refine aV (k:=2) T.f_later_of lF fun f cdv A outer s H E hr=>⟨_,(aq (az (qA (eJ (ai (bG T).m hr (ab (dv 1) (ab (dv 0) ae)))) (dv 0) (dv 1)))),fun _ _ M Q h=>?_⟩;obtain⟨a,b,e,f,rfl,rfl,h1,h2,h3,h4,k⟩:=h;refine⟨_,rfl,_,rfl,e,f,a,b,rfl,rfl,h3,h4,h1,h2,_,rfl,?_⟩;refine b7 (fun h=>?_) (fun h=>?_)
 ·have z:Ma.ah e f a b:=by simpa[Ma.ah]using h
  have:=k (a,b) (by rw[if_pos z]);exact⟨_,rfl,rtn this⟩
 ·have z:¬Ma.ah e f a b:=by simpa[Ma.ah]using h
  have:=k (e,f) (by rw[if_neg z]);exact⟨_,rfl,rtn this⟩
theorem iA:FnScope ["one","other"] ["one","other"] (ak dq):=by walk_at "sc"
inductive Cn_earlier_of(x y:D)(M:MH)(Q:DK):Prop
 |mk (c d g h:Rat) (_:x=Ma.spt c d) (_:y=Ma.spt g h) (_:Ma.Bq 100000 c) (_:Ma.Bq 100000 d) (_:Ma.Bq 100000 g) (_:Ma.Bq 100000 h) (_:∀s:Rat×Rat,s=(if Ma.ah c d g h then(c,d)else(g,h))->Q (Ma.spt s.1 s.2) M)
theorem jH(T:Tx K mg):Cal P w K mg base 3 "earlier_of" (sD2 Cn_earlier_of):=by
 refine aV (k:=2) T.f_earlier_of iA fun f cdv A outer s H E hr=>⟨_,(aq (az (qA (eJ (ai (bG T).m hr (ab (dv 0) (ab (dv 1) ae)))) (dv 0) (dv 1)))),fun _ _ M Q h=>?_⟩;obtain⟨c,d,g,h',rfl,rfl,h1,h2,h3,h4,k⟩:=h;refine⟨_,rfl,_,rfl,c,d,g,h',rfl,rfl,h1,h2,h3,h4,_,rfl,?_⟩;refine b7 (fun h=>?_) (fun h=>?_)
 ·have z:Ma.ah c d g h':=by simpa[Ma.ah]using h
  have:=k (c,d) (by rw[if_pos z]);exact⟨_,rfl,rtn this⟩
 ·have z:¬Ma.ah c d g h':=by simpa[Ma.ah]using h
  have:=k (g,h') (by rw[if_neg z]);exact⟨_,rfl,rtn this⟩
theorem k9:FnScope ["wall"] ["wall"] (ak d9):=by walk_at "sc"
inductive Cn_own_wall(x:D)(M:MH)(Q:DK):Prop
 |mk (a b c d:Rat) (_:x=Ma.wll a b c d) (_:Ma.Bq 8000 a) (_:Ma.Bq 8000 b) (_:Ma.Bq 8000 c) (_:Ma.Bq 8000 d) (_:Q (Ma.wll a b c d) M)
theorem gB(T:Tx K mg):Cal P w K mg base 4 "own_wall" (sD1 Cn_own_wall):=by refine fT (k:=3) T.f_own_wall k9 fun f cdv A outer s H E hr=>⟨_,(aq (az (aQ (ab (ai (cD T).m hr (ab (au (dv 0) af) ae)) (ab (ai (cD T).m hr (ab (au (dv 0) af) ae)) ae))))),fun _ M Q h=>?_⟩;obtain⟨a,b,c,d,rfl,h1,h2,h3,h4,k⟩:=h;exact⟨_,rfl,_,rfl,a,b,rfl,h1,h2,_,rfl,_,rfl,c,d,rfl,h3,h4,nbL rfl,rtn k⟩
theorem bI:FnScope ["one","other","start","end"] ["one","other"] (ak bN):=by walk_at "sc"
inductive Cn_meeting_in_line(u v:D)(M:MH)(Q:DK):Prop
 |mk (a b c d e f g h:Rat) (_:u=Ma.wll a b c d) (_:v=Ma.wll e f g h) (_:Ma.Bq 100 a) (_:Ma.Bq 100 b) (_:Ma.Bq 100 c) (_:Ma.Bq 100 d) (_:Ma.Bq 100 e) (_:Ma.Bq 100 f) (_:Ma.Bq 100 g) (_:Ma.Bq 100 h) (_:Q (oM a b c d e f g h) M)
theorem fg(T:Tx K mg):Cal P w K mg base 5 "meeting_in_line" (sD2 Cn_meeting_in_line):=by
 refine aV (k:=4) T.f_meeting_in_line bI fun f cdv A outer s H E hr=>⟨_,(aj (aH 2 bI.nd (ai (lX T).m hr (ab (au (dv 0) af) (ab (au (dv 1) af) ae)))) (aj (aH 3 bI.nd (ai (jH T).m hr (ab (au (dv 0) af) (ab (au (dv 1) af) ae)))) (aj (aW (eJ (ai (bG T).m hr (ab (dv 2) (ab (dv 3) ae)))) (aq (az (aQ (ab gD (ab (ai (gB T).m hr (ab (aQ (ab (dv 2) (ab (dv 3) ae))) ae)) ae))))) aJ) (aj (aW (eJ (ai (bG T).m hr (ab (dv 3) (ab (dv 2) ae)))) (aq (az fH)) aJ) (aq (az (aQ (ab gD (ab (ai (cD T).m hr (ab (dv 2) ae)) ae))))))))),fun _ _ M Q h=>?_⟩;obtain⟨a,b,c,d,e,f,g,h',rfl,rfl,h1,h2,h3,h4,h5,h6,h7,h8,k⟩:=h;have mo:∀{n:Nat} {q:Rat},Ma.Bq 100 q->100<=n->Ma.Bq n q:=fun z l=>z.mono l;refine⟨_,rfl,_,rfl,_,rfl,_,rfl,a,b,e,f,rfl,rfl,mo h1 (by decide),mo h2 (by decide),mo h5 (by decide),mo h6 (by decide),fun s hs=>?_⟩;refine⟨_,rfl,_,rfl,_,rfl,_,rfl,c,d,g,h',rfl,rfl,mo h3 (by decide),mo h4 (by decide),mo h7 (by decide),mo h8 (by decide),fun n hn=>?_⟩
 have bs:Ma.Bq 100 s.1/\Ma.Bq 100 s.2:=by
  rw[hs];split
  ·exact⟨h1,h2⟩
  ·exact⟨h5,h6⟩
 have bn:Ma.Bq 100 n.1/\Ma.Bq 100 n.2:=by
  rw[hn];split
  ·exact⟨h3,h4⟩
  ·exact⟨h7,h8⟩
 unfold oM at k;rw[<-hs,<-hn]at k;dsimp only at k;obtain⟨s1,s2⟩:=s;obtain⟨n1,n2⟩:=n;dsimp only at bs bn k;refine⟨_,rfl,_,rfl,s1,s2,n1,n2,rfl,rfl,mo bs.1 (by decide),mo bs.2 (by decide),mo bn.1 (by decide),mo bn.2 (by decide),_,rfl,?_⟩;refine b7 (fun z=>?_) (fun z=>?_)
 ·have z:Ma.ah s1 s2 n1 n2:=by simpa[Ma.ah]using z
  rw[if_pos z]at k;exact⟨_,rfl,_,rfl,nbL rfl,s1,s2,n1,n2,rfl,mo bs.1 (by decide),mo bs.2 (by decide),mo bn.1 (by decide),mo bn.2 (by decide),nbL rfl,rtn k⟩
 have z:¬Ma.ah s1 s2 n1 n2:=by simpa[Ma.ah]using z
 rw[if_neg z]at k;refine⟨_,rfl,_,rfl,n1,n2,s1,s2,rfl,rfl,mo bn.1 (by decide),mo bn.2 (by decide),mo bs.1 (by decide),mo bs.2 (by decide),_,rfl,?_⟩;refine b7 (fun y=>?_) (fun y=>?_)
 ·have y:Ma.ah n1 n2 s1 s2:=by simpa[Ma.ah]using y
  rw[if_pos y]at k;exact rtn k
 ·have y:¬Ma.ah n1 n2 s1 s2:=by simpa[Ma.ah]using y
  rw[if_neg y]at k;exact⟨_,rfl,s1,s2,rfl,mo bs.1 (by decide),mo bs.2 (by decide),nbL rfl,rtn k⟩
theorem uI:FnScope ["one","other"] ["one","other"] (ak lY):=by walk_at "sc"
inductive Cn_over(x y:D)(M:MH)(Q:DK):Prop
 |mk (n:Nat) (q r:Rat) (_:x=Ma.fr q) (_:y=Ma.fr r) (_:Ma.Bq n q) (_:Ma.Bq n r) (_:2*n+1<=8000) (_:r≠0) (_:Q (Ma.fr (q/r)) M)
theorem xG(T:Tx K mg):Cal P w K mg base 3 "over" (sD2 Cn_over):=by refine aV (k:=2) T.f_over uI fun f cdv A outer s H E hr=>⟨_,(aq (az (ai (bj T).m hr (ab (ar aG (au (dv 0) af) (au (dv 1) af)) (ab (ar aG (au (dv 0) af) (au (dv 1) af)) ae))))),fun _ _ M Q h=>?_⟩;obtain⟨n,q,r,rfl,rfl,h1,h2,hn,h0,k⟩:=h;obtain⟨m1,m2,m3,m4⟩:=h1.mOk h2 (by omega);have hr0:r.num≠0:=fun z=>h0 (Rat.num_eq_zero.mp z);refine⟨_,rfl,_,rfl,_,rfl,_,rfl,m2,_,rfl,_,rfl,_,rfl,_,rfl,cK (h1.2.mono (by omega)) (h2.1.mono (by omega)),?_⟩;refine⟨_,_,rfl,rfl,Int.mul_ne_zero (Ma.cQ q) hr0,((h1.1.mul h2.2).mono (by omega)),((h1.2.mul h2.1).mono (by omega)),?_⟩;rw[Ma.div_eq];exact rtn k
theorem uj:FnScope ["one","other"] ["one","other"] (ak lQ):=by walk_at "sc"
inductive Cn_less(x y:D)(M:MH)(Q:DK):Prop
 |mk (n:Nat) (q r:Rat) (_:x=Ma.fr q) (_:y=Ma.fr r) (_:Ma.Bq n q) (_:Ma.Bq n r) (_:2*n+1<=8000) (_:Q (Ma.fr (q-r)) M)
theorem qM(T:Tx K mg):Cal P w K mg base 3 "less" (sD2 Cn_less):=by refine aV (k:=2) T.f_less uj fun f cdv A outer s H E hr=>⟨_,(aq (az (ai (bj T).m hr (ab (ar eH (ar aG (au (dv 0) af) (au (dv 1) af)) (ar aG (au (dv 1) af) (au (dv 0) af))) (ab (ar aG (au (dv 0) af) (au (dv 1) af)) ae))))),fun _ _ M Q h=>?_⟩;obtain⟨n,q,r,rfl,rfl,h1,h2,hn,k⟩:=h;obtain⟨m1,m2,m3,m4⟩:=h1.mOk h2 (by omega);refine⟨_,rfl,_,rfl,_,rfl,_,rfl,m2,_,rfl,_,rfl,_,rfl,_,rfl,m3,trivial,_,rfl,_,rfl,_,rfl,_,rfl,m4,?_⟩;refine⟨_,_,rfl,rfl,Ma.eQ q r,(h1.jo h2).mono hn,(h1.nD h2).mono hn,?_⟩;rw[Ma.sub_eq];exact rtn k
theorem uo:FnScope ["one","other"] ["one","other"] (ak lL):=by walk_at "sc"
inductive Cn_plus(x y:D)(M:MH)(Q:DK):Prop
 |mk (n:Nat) (q r:Rat) (_:x=Ma.fr q) (_:y=Ma.fr r) (_:Ma.Bq n q) (_:Ma.Bq n r) (_:2*n+1<=8000) (_:Q (Ma.fr (q+r)) M)
theorem wX(T:Tx K mg):Cal P w K mg base 3 "plus" (sD2 Cn_plus):=by refine aV (k:=2) T.f_plus uo fun f cdv A outer s H E hr=>⟨_,(aq (az (ai (bj T).m hr (ab (ar aO (ar aG (au (dv 0) af) (au (dv 1) af)) (ar aG (au (dv 1) af) (au (dv 0) af))) (ab (ar aG (au (dv 0) af) (au (dv 1) af)) ae))))),fun _ _ M Q h=>?_⟩;obtain⟨n,q,r,rfl,rfl,h1,h2,hn,k⟩:=h;obtain⟨m1,m2,m3,m4⟩:=h1.mOk h2 (by omega);refine⟨_,rfl,_,rfl,_,rfl,_,rfl,m2,_,rfl,_,rfl,_,rfl,_,rfl,m3,_,rfl,_,rfl,_,rfl,_,rfl,m4,?_⟩;refine⟨_,_,rfl,rfl,Ma.eQ q r,(h1.yW h2).mono hn,(h1.nD h2).mono hn,?_⟩;rw[Ma.add_eq];exact rtn k
theorem qZ:FnScope ["one","other"] ["one","other"] (ak j1):=by walk_at "sc"
inductive Cn_times(x y:D)(M:MH)(Q:DK):Prop
 |mk (n:Nat) (q r:Rat) (_:x=Ma.fr q) (_:y=Ma.fr r) (_:Ma.Bq n q) (_:Ma.Bq n r) (_:2*n+1<=8000) (_:Q (Ma.fr (q*r)) M)
theorem uG(T:Tx K mg):Cal P w K mg base 3 "times" (sD2 Cn_times):=by refine aV (k:=2) T.f_times qZ fun f cdv A outer s H E hr=>⟨_,(aq (az (ai (bj T).m hr (ab (ar aG (au (dv 0) af) (au (dv 1) af)) (ab (ar aG (au (dv 0) af) (au (dv 1) af)) ae))))),fun _ _ M Q h=>?_⟩;obtain⟨n,q,r,rfl,rfl,h1,h2,hn,k⟩:=h;obtain⟨m1,m2,m3,m4⟩:=h1.mOk h2 (by omega);refine⟨_,rfl,_,rfl,_,rfl,_,rfl,m1,_,rfl,_,rfl,_,rfl,_,rfl,m4,?_⟩;refine⟨_,_,rfl,rfl,Ma.eQ q r,(h1.yO h2).mono hn,(h1.nD h2).mono hn,?_⟩;rw[Ma.mul_eq];exact rtn k
theorem eR:FnScope ["start","end","share"] ["start","end","share"] (ak bT):=by walk_at "sc"
inductive Cn_number_between(x y z:D)(M:MH)(Q:DK):Prop
 |mk (p q s:Rat) (_:x=Ma.fr p) (_:y=Ma.fr q) (_:z=Ma.fr s) (_:Ma.Bq 100 p) (_:Ma.Bq 100 q) (_:Ma.Bq 3215 s) (_:Q (Ma.fr (btw p q s)) M)
theorem c8(T:Tx K mg):Cal P w K mg base 4 "number_between" (sD3 Cn_number_between):=by
 refine qi (k:=3) T.f_number_between eR fun f cdv A outer s H E hr=>⟨_,(aq (az (ai (wX T).m hr (ab (dv 0) (ab (ai (uG T).m hr (ab (dv 2) (ab (ai (qM T).m hr (ab (dv 1) (ab (dv 0) ae))) ae))) ae))))),fun _ _ _ M Q h=>?_⟩;obtain⟨p,q,s,rfl,rfl,rfl,h1,h2,h3,k⟩:=h;refine⟨_,rfl,_,rfl,_,rfl,_,rfl,100,q,p,rfl,rfl,h2,h1,by decide,?_⟩;refine⟨3215,s,q-p,rfl,rfl,h3,(h2.sub h1).mono (by decide),by decide,?_⟩;have b3:Ma.Bq 3416 (s*(q-p)):=by rw[<-Ma.mul_eq];exact .divInt (Ma.eQ _ _) ((h3.1.mul (h2.sub h1).1).mono (by decide)) ((h3.2.mul (h2.sub h1).2).mono (by decide))
 exact⟨3416,p,s*(q-p),rfl,rfl,h1.mono (by decide),b3,by decide,rtn k⟩
theorem aI:FnScope ["one","other","start","end","top","bottom","from_start","share"] ["one","other"] (ak cb):=by walk_at "sc"
inductive Cn_crossing_spot(u v:D)(M:MH)(Q:DK):Prop
 |mk (a b c d e f g h:Rat) (_:u=Ma.wll a b c d) (_:v=Ma.wll e f g h) (_:Ma.Bq 100 a) (_:Ma.Bq 100 b) (_:Ma.Bq 100 c) (_:Ma.Bq 100 d) (_:Ma.Bq 100 e) (_:Ma.Bq 100 f) (_:Ma.Bq 100 g) (_:Ma.Bq 100 h) (_:Ma.cr a b c d e f-Ma.cr a b c d g h≠0) (_:Q (Ma.spt (btw e g (Ma.cr a b c d e f/(Ma.cr a b c d e f-Ma.cr a b c d g h))) (btw f h (Ma.cr a b c d e f/(Ma.cr a b c d e f-Ma.cr a b c d g h)))) M)
theorem fZ(T:Tx K mg):Cal P w K mg base 5 "crossing_spot" (sD2 Cn_crossing_spot):=by
 refine aV (k:=4) T.f_crossing_spot aI fun f cdv A outer s H E hr=>⟨_,(aj (cG (dv 1) (bD rfl (aC (aB 2 aI.nd) (aC (aB 3 aI.nd) aY)))) (aj (cG (ai (ml T).m hr (ab (dv 0) (ab (dv 2) ae))) (bD rfl (aC (aB 4 aI.nd) (aC (aB 5 aI.nd) aY)))) (aj (aH 6 aI.nd (ai (bj T).m hr (ab (dv 4) (ab (dv 5) ae)))) (aj (cG (ai (ml T).m hr (ab (dv 0) (ab (dv 3) ae))) (bD rfl (aC (aB 4 aI.nd) (aC (aB 5 aI.nd) aY)))) (aj (aH 7 aI.nd (ai (xG T).m hr (ab (dv 6) (ab (ai (qM T).m hr (ab (dv 6) (ab (ai (bj T).m hr (ab (dv 4) (ab (dv 5) ae))) ae))) ae)))) (aq (az (aQ (ab (ai (c8 T).m hr (ab (au (dv 2) af) (ab (au (dv 3) af) (ab (dv 7) ae)))) (ab (ai (c8 T).m hr (ab (au (dv 2) af) (ab (au (dv 3) af) (ab (dv 7) ae)))) ae)))))))))),fun _ _ M Q h=>?_⟩;obtain⟨a,b,c,d,e,f,g,h',rfl,rfl,h1,h2,h3,h4,h5,h6,h7,h8,h0,k⟩:=h;refine⟨_,rfl,_,rfl,rfl,_,_,rfl,_,_,rfl,rfl,?_⟩;refine⟨_,rfl,_,rfl,100,a,b,c,d,e,f,rfl,rfl,h1,h2,h3,h4,h5,h6,by decide,fun t1 e1 he1 q1 bt1 be1=>?_⟩;refine⟨_,rfl,rfl,_,_,rfl,_,_,rfl,rfl,?_⟩;refine⟨_,rfl,_,rfl,t1,e1,rfl,rfl,by omega,bt1.mono (by decide),be1.mono (by decide),?_⟩;refine⟨_,rfl,_,rfl,100,a,b,c,d,g,h',rfl,rfl,h1,h2,h3,h4,h7,h8,by decide,fun t2 e2 he2 q2 bt2 be2=>?_⟩;refine⟨_,rfl,rfl,_,_,rfl,_,_,rfl,rfl,?_⟩;have b1:Ma.Bq 803 (Ma.cr a b c d e f):=by rw[<-q1];exact .divInt (by omega) bt1 be1
 have b2:Ma.Bq 803 (Ma.cr a b c d g h'):=by rw[<-q2];exact .divInt (by omega) bt2 be2
 rw[q1];refine⟨_,rfl,_,rfl,_,rfl,_,rfl,t2,e2,rfl,rfl,by omega,bt2.mono (by decide),be2.mono (by decide),?_⟩;rw[q2];refine⟨803,_,_,rfl,rfl,b1,b2,by decide,?_⟩;refine⟨1607,_,_,rfl,rfl,b1.mono (by decide),b1.sub b2,by decide,h0,?_⟩
 have bs:Ma.Bq 3215 (Ma.cr a b c d e f/(Ma.cr a b c d e f-Ma.cr a b c d g h')):=by
  rw[<-Ma.div_eq]
  have hz:(Ma.cr a b c d e f-Ma.cr a b c d g h').num≠0:=fun z=>h0 (Rat.num_eq_zero.mp z)
  have y1:=b1.mono (show 803<=1607 by decide)
  have y2:=b1.sub b2
  exact .divInt (Int.mul_ne_zero (Ma.cQ _) hz) ((y1.1.mul y2.2).mono (by decide)) ((y1.2.mul y2.1).mono (by decide))
 generalize Ma.cr a b c d e f/(Ma.cr a b c d e f-Ma.cr a b c d g h')=sh at bs k;refine⟨_,rfl,_,rfl,_,rfl,_,rfl,_,rfl,e,g,sh,rfl,rfl,rfl,h5,h7,bs,?_⟩;exact⟨_,rfl,_,rfl,_,rfl,_,rfl,_,rfl,f,h',sh,rfl,rfl,rfl,h6,h8,bs,nbL rfl,rtn k⟩
theorem gO:FnScope ["one","other","first_side","second_side"] ["one","other"] (ak fz):=by walk_at "sc"
inductive Cn_meeting(u v:D)(M:MH)(Q:DK):Prop
 |mk (a b c d e f g h:Rat) (_:u=Ma.wll a b c d) (_:v=Ma.wll e f g h) (_:Ma.Bq 100 a) (_:Ma.Bq 100 b) (_:Ma.Bq 100 c) (_:Ma.Bq 100 d) (_:Ma.Bq 100 e) (_:Ma.Bq 100 f) (_:Ma.Bq 100 g) (_:Ma.Bq 100 h) (_:Q (h9 a b c d e f g h) M)
theorem ji(T:Tx K mg):Cal P w K mg base 6 "meeting" (sD2 Cn_meeting):=by
 refine aV (k:=5) T.f_meeting gO fun f cdv A outer s H E hr=>⟨_,(aj (dH 2 3 rfl gO.nd (ab (ai (cX T).m hr (ab (dv 0) (ab (au (dv 1) af) ae))) (ab (ai (cX T).m hr (ab (dv 0) (ab (au (dv 1) af) ae))) ae))) (aj (aW (mG (gQ (aL (cZ hr.units) (dv 2) af) (e7 (aL (cZ hr.units) (dv 3) af)))) (aq (az (ai (fg T).m hr (ab (dv 0) (ab (dv 1) ae))))) aJ) (aj (aW (mG (vz (aL (ig hr.units) (ar aG (dv 2) (dv 3)) af) (sk (aL (ig hr.units) (ar aG (ai (cX T).m hr (ab (dv 1) (ab (au (dv 0) af) ae))) (ai (cX T).m hr (ab (dv 1) (ab (au (dv 0) af) ae)))) af)))) (aq (az fH)) aJ) (aq (az (aQ (ab gD (ab (ai (fZ T).m hr (ab (dv 0) (ab (dv 1) ae))) ae)))))))),fun _ _ M Q h=>?_⟩;obtain⟨a,b,c,d,e,f,g,h',rfl,rfl,h1,h2,h3,h4,h5,h6,h7,h8,k⟩:=h;unfold h9 at k;refine⟨_,rfl,_,rfl,_,rfl,100,a,b,c,d,e,f,rfl,rfl,h1,h2,h3,h4,h5,h6,by decide,?_⟩;refine⟨_,rfl,_,rfl,_,rfl,100,a,b,c,d,g,h',rfl,rfl,h1,h2,h3,h4,h7,h8,by decide,?_⟩;refine⟨_,_,rfl,?_⟩;have sb:∀z:Rat,Bd 64 (Ma.sgn z):=xZ;(try dsimp only[SD.bg])
 (try dsimp only[SD.iT,SD.fU,SD.bg,SD.nU,SD.nV,SD.fJ,SD.kg,SD.tBD,SD.nk])
 refine Ah (decide (Ma.sgn (Ma.cr a b c d e f)=0)) (decide (Ma.sgn (Ma.cr a b c d g h')=0)) (fun K hK=>⟨_,rfl,_,rfl,hK⟩) (fun _ K hK=>⟨_,rfl,_,rfl,hK⟩) ?_;rw[<-Bool.decide_and];refine b7 (fun z=>?_) (fun z=>?_)
 ·have z:Ma.sgn (Ma.cr a b c d e f)=0/\Ma.sgn (Ma.cr a b c d g h')=0:=by simpa using z
  rw[if_pos z]at k;exact⟨_,rfl,_,rfl,a,b,c,d,e,f,g,h',rfl,rfl,h1,h2,h3,h4,h5,h6,h7,h8,rtn k⟩
 have z:¬(Ma.sgn (Ma.cr a b c d e f)=0/\Ma.sgn (Ma.cr a b c d g h')=0):=by simpa using z
 rw[if_neg z]at k;refine orT (decide (0<Ma.sgn (Ma.cr a b c d e f)*Ma.sgn (Ma.cr a b c d g h'))) (decide (0<Ma.sgn (Ma.cr e f g h' a b)*Ma.sgn (Ma.cr e f g h' c d))) (fun K hK=>⟨_,rfl,_,rfl,bB (sb _),trivial,_,rfl,hK⟩) (fun _ K hK=>⟨_,rfl,_,rfl,_,rfl,100,e,f,g,h',a,b,rfl,rfl,h5,h6,h7,h8,h1,h2,by decide,_,rfl,_,rfl,_,rfl,100,e,f,g,h',c,d,rfl,rfl,h5,h6,h7,h8,h3,h4,by decide,bB (sb _),trivial,_,rfl,hK⟩) ?_;rw[<-Bool.decide_or];refine b7 (fun y=>?_) (fun y=>?_)
 ·rw[if_pos (by simpa using y)]at k;exact rtn k
 ·have y:¬(0<Ma.sgn (Ma.cr a b c d e f)*Ma.sgn (Ma.cr a b c d g h')\/0<Ma.sgn (Ma.cr e f g h' a b)*Ma.sgn (Ma.cr e f g h' c d)):=by simpa using y
  rw[if_neg y]at k;refine⟨_,rfl,_,rfl,a,b,c,d,e,f,g,h',rfl,rfl,h1,h2,h3,h4,h5,h6,h7,h8,?_,nbL rfl,rtn k⟩;intro hz;have hz:Ma.cr a b c d e f=Ma.cr a b c d g h':=by grind
  rw[hz]at y z;have:Ma.sgn (Ma.cr a b c d g h')≠0:=fun q=>z ⟨q,q⟩;have hs:=iR (Ma.cr a b c d g h');rcases hs with q|q|q
  ·rw[q]at y;exact y (.inl (by decide))
  ·rw[q]at y;exact y (.inl (by decide))
  ·exact this q
theorem bh:FnScope ["row","spot","low","high","middle"] ["row","spot"] (ak cR):=by walk_at "sc"
inductive Cn_place_among(x y:D)(M:MH)(Q:DK):Prop
 |mk (l:Addr) (fs:List Sq) (u:Sq) (_:x=.ref l) (_:y=spq u) (_:M l=some (.lst (fs.map spq))) (_:(∀v∈fs,BS v)) (_:BS u) (_:fs.Pairwise plq) (_:∀j:Nat,j<=fs.length->(∀i x,i<j->fs[i]?=some x->plq x u)->(∀i x,j<=i->fs[i]?=some x->¬plq x u)->Q (.int (j:Int)) M)
theorem iF(T:Tx K mg):Cal P w K mg base 3 "place_among" (sD2 Cn_place_among):=by
 refine aV (k:=2) T.f_place_among bh fun f cdv A outer s H E hr=>⟨_,(aj (dH 2 3 rfl bh.nd (ab af (ab (aP ee rfl T.b_len dG (ab (dv 0) ae)) ae))) (aj (gX B1 (aL (ez hr.units) (dv 2) (dv 3)) (aj (aH 4 bh.nd (ar gV (ar aO (dv 2) (dv 3)) af)) (aq (aW (eJ (ai (bG T).m hr (ab (au (dv 0) (dv 4)) (ab (dv 1) ae)))) (aq (aH 2 bh.nd (ar aO (dv 4) af))) (aq (aH 3 bh.nd (dv 4))))))) (aq (az (dv 2))))),fun _ _ M Q h=>?_⟩;obtain⟨l,fs,u,rfl,rfl,hl,hb,hu,up,k⟩:=h;have hN:(fs.map spq).length=fs.length:=A4 ..;refine⟨_,rfl,_,hl,_,_,rfl,?_⟩;refine⟨fun m δ M'=>M'=M/\∃(lo hi:Nat) (o4:Option D),δ=[some (.ref l),some (spq u),some (.int (lo:Int)),some (.int (hi:Int)),o4]/\lo<=hi/\hi<=fs.length/\(∀i x,i<lo->fs[i]?=some x->plq x u)/\(∀i x,hi<=i->fs[i]?=some x->¬plq x u)/\m=hi-lo,⟨_,rfl,0,fs.length,_,by rw[hN];rfl,B2 _,A7 _,fun i x hi=>by omega,fun i x h1 e=>(by rw[List.getElem?_eq_none h1]at e;cases e),rfl⟩,?_⟩;rintro m δ M' ⟨rfl,lo,hi,o4,rfl,h1,h2,a,c,hm⟩;refine⟨_,rfl,_,rfl,trivial,_,rfl,?_⟩;refine b7 (fun h=>?_) (fun h=>?_)
 ·have hlt:lo<hi:=by
   have:(lo:Int)<(hi:Int):=by simpa using h
   omega
  have hmid:Int.fdiv ((lo:Int)+(hi:Int)) 2=(((lo+hi)/2:Nat):Int):=by rw[Int.fdiv_eq_ediv_of_nonneg _ (by decide)];omega
  have hk:(lo+hi)/2<fs.length:=by omega
  refine⟨_,rfl,_,rfl,⟨by decide,bM (by decide)⟩,?_⟩;dsimp only;rw[hmid];have hq0:lo<=(lo+hi)/2/\(lo+hi)/2<hi:=by omega
  generalize (lo+hi)/2=q at hk hq0 ⊢;have em:fs[q]?=some fs[q]:=AE hk;have bq:=hb _ (List.getElem_mem hk);refine⟨_,rfl,_,rfl,_,_,hl,jW (by rw[Az,em];rfl),_,rfl,_,_,_,_,rfl,rfl,bq.1.mono (by decide),bq.2.mono (by decide),hu.1.mono (by decide),hu.2.mono (by decide),_,rfl,?_⟩;refine b7 (fun h=>?_) (fun h=>?_)
  ·have z:plq fs[q] u:=by simpa[plq,Ma.ah]using h
   refine⟨_,rfl,hi-(q+1),by omega,rfl,q+1,hi,_,rfl,by omega,h2,fun i x hi' e=>?_,c,rfl⟩;by_cases y:i=q
   ·subst y;rw[em]at e;cases e;exact z
   ·obtain⟨li,ei⟩:=A6.mp e;have:=AL.mp up i q li hk (by omega);rw[ei]at this;exact df this z
  ·have z:¬plq fs[q] u:=by simpa[plq,Ma.ah]using h
   exact⟨_,rfl,q-lo,by omega,rfl,lo,q,_,rfl,by omega,by omega,a,zq up fun x e=>by rw[em]at e;cases e;exact z,rfl⟩
 ·have:lo=hi:=by
   have:¬(lo:Int)<(hi:Int):=by simpa using h
   omega
  subst this;(repeat (first|refine⟨_,rfl,?_⟩|refine⟨trivial,?_⟩|refine⟨_,_,rfl,?_⟩|refine⟨rfl,?_⟩|refine⟨nbL rfl,?_⟩))
  exact rtn (k lo h2 a c)
theorem cE:FnScope ["spots","row","spot"] ["spots"] (ak cU):=by walk_at "sc"
inductive Cn_ahead_first(x:D)(M:MH)(Q:DK):Prop
 |mk (l:Addr) (us:List Sq) (_:x=.ref l) (_:M l=some (.lst (us.map spq))) (_:us.length<=1000) (_:(∀v∈us,BS v)) (_:us.Nodup) (_:∀(M':MH) (z:Addr) (fs:List Sq),SD.Sub M M'->M z=none->M' z=some (.lst (fs.map spq))->fs.Pairwise plq->(∀v,v∈fs↔v∈us)->fs.length=us.length->Q (.ref z) M')
theorem d4(T:Tx K mg):Cal P w K mg base 4 "ahead_first" (sD1 Cn_ahead_first):=by
 refine fT (k:=3) T.f_ahead_first cE fun f cdv A outer s H E hr=>⟨_,(aj (aH 1 cE.nd (fG ae)) (aj (cI B1 rfl (b6 (dv 0)) (aB 2 cE.nd) (aq (gd (kM (dv 1) (ab (ai (iF T).m hr (ab (dv 1) (ab (dv 2) ae))) (ab (dv 2) ae)))))) (aq (az (dv 1))))),fun _ M Q h=>?_⟩;obtain⟨l,us,rfl,hl,hn,hb,nd,k⟩:=h;refine⟨nbL rfl,fun z hz=>?_⟩;have nlz:l≠z:=aw hl hz;have ul:(us.map spq).length=us.length:=A4 ..;refine⟨_,rfl,us.map spq,(by show(aA M z _) l=_;rw[ao nlz];exact hl),?_⟩;refine⟨fun i δ M'=>∃(fs:List Sq) (o2:Option D),δ=[some (.ref l),some (.ref z),o2]/\SD.Sub M M'/\M' z=some (.lst (fs.map spq))/\fs.Pairwise plq/\(∀v,v∈fs↔v∈us.take i)/\fs.length=i,⟨[],_,rfl,.new hz .refl,ag,.nil,by simp,rfl⟩,fun i δ M' _ q=>let⟨_,_,_,sb,_⟩:=q;sb _ _ hl,?_,?_⟩
 ·rintro i d δ M' hi hd ⟨fs,o2,rfl,sb,hz',up,me,ln⟩;have hd:(us.map spq)[i]?=some d:=hd;rw[Az]at hd;cases eu:us[i]? with
  |none=>rw[eu]at hd;cases hd
  |some u=>
   rw[eu]at hd
   cases hd
   have iu:i<us.length:=(A6.mp eu).1
   have bu:=hb u (Ax eu)
   have nu:u∉fs:=fun hp=>by obtain⟨j,hj,ej⟩:=C0 ((me u).mp hp);rw[Bu]at hj;rw[List.getElem_take]at ej;exact AL.mp nd j i (by omega) iu (by omega) (ej.trans (A6.mp eu).2.symm)
   refine⟨_,rfl,z,_,rfl,hz',_,rfl,_,rfl,z,fs,u,rfl,rfl,hz',fun v hv=>hb v (List.mem_of_mem_take ((me v).mp hv)),bu,up,fun j hj a c=>?_⟩
   refine⟨_,rfl,_,_,j,rfl,hz',by rw[A4];exact hj,by rw[A4];omega,fP fs j u,_,rfl,fun a o h=>?_,by rw[ag];unfold fP;simp,tG up a c nu,fun v=>?_,by unfold fP;simp;omega⟩
   ·rw[ao (aw h hz)];exact sb _ _ h
   ·rw[sR,me v,Ct,eu];simp
 ·rintro δ M' ⟨fs,o2,rfl,sb,hz',up,me,ln⟩;have e:us.take (us.map spq).length=us:=by rw[ul,List.take_length]
  exact⟨_,rfl,M',.refl,k M' z fs sb hz hz' up (fun v=>(me v).trans (by show v∈us.take (us.map spq).length↔_;rw[e])) (ln.trans ul)⟩
theorem cB:FnScope ["wall","walls","cuts","other","end","met"] ["wall","walls"] (ak fF):=by walk_at "sc"
inductive Cn_cuts_of(x y:D)(M:MH)(Q:DK):Prop
 |mk (l:Addr) (us:List Pc) (w:Pc) (_:x=pcq w) (_:y=.ref l) (_:M l=some (.lst (us.map pcq))) (_:us.length<=30) (_:dO us) (_:(∀u∈us,BS u.1/\BS u.2)) (_:w∈us) (_:(∀o∈us,∀v,mtQ w o=.tup [.str "spot",spq v]->BS v)) (_:∀(M':MH) (z:Addr) (cs:List Sq),SD.Sub M M'->M z=none->M' z=some (.lst (cs.map spq))->IsCutQ us w cs->cs.length<=100->Q (.ref z) M')
theorem oD(T:Tx K mg):Cal P w K mg base 7 "cuts_of" (sD2 Cn_cuts_of):=by
 refine aV (k:=6) T.f_cuts_of cB fun f cdv A outer s H E hr=>⟨_,(aj (aH 2 cB.nd kI) (aj (cI B1 rfl (b6 (dv 1)) (aB 3 cB.nd) (aj (cI B1 rfl (b6 (dv 3)) (aB 4 cB.nd) (aq (aW (eJ (ai (iQ T).m hr (ab (dv 0) (ab (dv 4) ae)))) (aq (gR (iN hr) (dv 2) (ai (cD T).m hr (ab (dv 4) ae)) eP)) aJ))) (aj (aH 5 cB.nd (ai (ji T).m hr (ab (dv 0) (ab (dv 3) ae)))) (aq (aW (mG (gQ (aL kn (dv 5) fH) (e7 (aL (cZ hr.units) (au (dv 5) af) gD)))) (aq (gR (iN hr) (dv 2) (au (dv 5) af) eP)) aJ))))) (aq (az (ai (d4 T).m hr (ab (aU (dJ rfl) rfl T.b_list dW (ab (dv 2) ae)) ae)))))),fun _ _ M Q h=>?_⟩;obtain⟨l,us,w,rfl,rfl,hl,hn,hP,hB,mw,hS,k⟩:=h;intro c hc;have nlc:l≠c:=aw hl hc;have wl:(us.map pcq).length=us.length:=A4 ..;obtain⟨wa,wb⟩:=hB w mw;have okS:∀{x:Str},PyData.strOk x=true->C2 (.str x)=true:=fun{x} h=>Bool.and_eq_true_iff.mpr ⟨by rw[PyData.canLay0];exact h,decide_eq_true (nbL rfl)⟩;refine⟨_,rfl,us.map pcq,by show(aA M c _) l=_;rw[ao nlc];exact hl,?_⟩;refine⟨fun i δ M'=>∃(xs:List Sq) (o3 o4 o5:Option D),δ=[some (pcq w),some (.ref l),some (.ref c),o3,o4,o5]/\SD.Sub M M'/\M' c=some (dsM (ksT xs))/\xs.Nodup/\(∀v,v∈xs↔∃o∈us.take i,PcQ w o v)/\xs.length<=3*i,⟨[],_,_,_,rfl,.new hc .refl,ag,List.nodup_nil,by simp,B2 _⟩,fun i δ M' _ q=>let⟨_,_,_,_,_,sb,_⟩:=q;sb _ _ hl,?_,?_⟩;rotate_left
 ·rintro δ M' ⟨xs,o3,o4,o5,rfl,sb,hc',nd,me,ln⟩;have ln:xs.length<=3*(us.map pcq).length:=ln;have me:∀v,v∈xs↔km us w v:=fun v=>by refine(me v).trans ?_;show(∃o∈us.take (us.map pcq).length,_)↔_;rw[wl,List.take_length];rfl
  refine⟨_,rfl,.inr ⟨c,_,rfl,hc',fun p hp=>?_⟩⟩;rw[kZ]
  have bs:∀v∈xs,BS v:=fun v hv=>by
   obtain⟨o,ho,q⟩:=(me v).mp hv;rcases q with⟨_,rfl⟩|⟨_,rfl⟩|q
   ·exact(hB o ho).1
   ·exact(hB o ho).2
   ·exact hS o ho v q
  refine⟨p,xs,rfl,ag,by omega,bs,nd,fun M2 z fs sb2 hz hz2 up me2 ln2=>?_⟩;have sbp:SD.Sub M (aA M' p (.lst (xs.map spq))):=.new hp sb;exact⟨M2,.refl,k M2 z fs (fun a o h=>sb2 _ _ (sbp _ _ h)) (gu sbp hz) hz2 ⟨up,fun v=>(me2 v).trans (me v)⟩ (by omega)⟩
 rintro i d δ M' hi hd ⟨xs,o3,o4,o5,rfl,sb,hc',nd,me,ln⟩;have hd:(us.map pcq)[i]?=some d:=hd;rw[Az]at hd;cases eo:us[i]? with
 |none=>rw[eo]at hd;cases hd
 |some o=>
 rw[eo]at hd;cases hd;have io:i<us.length:=(A6.mp eo).1;have mo:=Ax eo;obtain⟨oa,ob⟩:=hB o mo
 have mt:∀v,(∃o∈us.take (i+1),PcQ w o v)↔(∃o∈us.take i,PcQ w o v)\/PcQ w o v:=fun v=>by
  rw[Ct,eo];constructor
  ·rintro⟨u,hu,h⟩;rcases AH.mp hu with y|y
   ·exact .inl ⟨u,y,h⟩
   ·rw[show u=o by simpa using y]at h;exact .inr h
  ·rintro(⟨u,hu,h⟩|h)
   ·exact⟨u,AH.mpr (.inl hu),h⟩
   ·exact⟨o,by simp,h⟩
 refine dh (fun δ M''=>∃(vs:List Sq) (o4:Option D),δ=[some (pcq w),some (.ref l),some (.ref c),some (pcq o),o4,o5]/\SD.Sub M M''/\M'' c=some (dsM (ksT vs))/\vs.Nodup/\(∀v,v∈vs↔v∈xs\/(On w o.1/\v=o.1)\/(On w o.2/\v=o.2))/\vs.length<=3*i+2) ?_ (fun hu=>?_);rotate_left
 ·refine⟨_,rfl,[spq o.1,spq o.2],rfl,?_⟩;refine⟨fun j δ M''=>∃(vs:List Sq) (o4:Option D),δ=[some (pcq w),some (.ref l),some (.ref c),some (pcq o),o4,o5]/\SD.Sub M M''/\M'' c=some (dsM (ksT vs))/\vs.Nodup/\(∀v,v∈vs↔v∈xs\/(1<=j/\On w o.1/\v=o.1)\/(2<=j/\On w o.2/\v=o.2))/\vs.length<=3*i+j,⟨xs,_,rfl,sb,hc',nd,by simp,by omega⟩,fun i δ M' _ q=>rfl,?_,?_⟩
  ·rintro j d δ M'' hj hd ⟨vs,o4,rfl,sb2,hc2,nd2,me2,ln2⟩;have hj:j<2:=hj
   obtain⟨u,rfl,bu,hu'⟩:∃u,d=spq u/\BS u/\((j=0/\u=o.1)\/(j=1/\u=o.2)):=by
    have hd:([spq o.1,spq o.2]:List D)[j]?=some d:=hd;rcases(show j=0\/j=1 by omega)with rfl|rfl
    ·cases hd;exact⟨_,rfl,oa,.inl ⟨rfl,rfl⟩⟩
    ·cases hd;exact⟨_,rfl,ob,.inr ⟨rfl,rfl⟩⟩
   refine⟨_,rfl,_,rfl,100,_,_,_,_,u.1,u.2,rfl,rfl,wa.1,wa.2,wb.1,wb.2,bu.1,bu.2,by decide,_,rfl,?_⟩;refine b7 (fun h=>?_) (fun h=>?_)
   ·have on:On w u:=of_decide_eq_true h;refine⟨_,rfl,_,rfl,u.1,u.2,rfl,bu.1.mono (by decide),bu.2.mono (by decide),c,_,kq u,rfl,rfl,hc2,by rw[kf];omega,addQ vs u,_,rfl,fun a o h=>?_,by rw[ag,ka],jS nd2,fun v=>?_,by have:=hV vs u;omega⟩
    ·rw[ao (aw h hc)];exact sb2 _ _ h
    ·rw[gY,me2 v];rcases hu' with⟨rfl,rfl⟩|⟨rfl,rfl⟩
     ·simp[on]
     ·simp[on,or_assoc]
   ·have on:¬On w u:=fun q=>by
     have h:=(Bool.not_eq_true _).mp h
     exact of_decide_eq_false (p:=On w u) h q
    refine⟨vs,_,rfl,sb2,hc2,nd2,fun v=>?_,by omega⟩;rw[me2 v];rcases hu' with⟨rfl,rfl⟩|⟨rfl,rfl⟩
    ·simp[on]
    ·simp[on]
  ·rintro δ M'' ⟨vs,o4,rfl,sb2,hc2,nd2,me2,ln2⟩;refine hu _ _ ⟨vs,_,rfl,sb2,hc2,nd2,fun v=>?_,ln2⟩;refine(me2 v).trans ?_;simp
 rintro δ M'' ⟨vs,o4,rfl,sb2,hc2,nd2,me2,ln2⟩;refine⟨_,rfl,_,rfl,_,_,_,_,_,_,_,_,rfl,rfl,wa.1,wa.2,wb.1,wb.2,oa.1,oa.2,ob.1,ob.2,?_⟩;have mem:∀v,v∈vs\/mtQ w o=.tup [.str "spot",spq v]↔∃o∈us.take (i+1),PcQ w o v:=fun v=>by rw[mt v,me2 v,me v];unfold PcQ;rw[or_assoc,or_assoc]
 rcases uU (w:=w) (o:=o)with e|⟨u,e⟩|⟨d,e⟩
 ·have e':=e;unfold mtQ at e';rw[e'];refine⟨_,rfl,_,rfl,_,rfl,ec rfl (ec rfl ?_)⟩;refine⟨vs,_,_,_,rfl,sb2,hc2,nd2,fun v=>?_,by omega⟩;rw[<-mem v,e];simp
 ·have e':=e;unfold mtQ at e';rw[e'];have bu:=hS o mo u e;refine⟨_,rfl,_,rfl,_,rfl,tw rfl ?_⟩;refine⟨_,rfl,_,rfl,_,_,.str _,.str _,okS eZ,okS eZ,_,rfl,?_⟩;rw[nM];refine tw rfl ?_;refine⟨_,rfl,_,rfl,_,rfl,c,_,kq u,rfl,rfl,hc2,by rw[kf];omega,addQ vs u,_,_,_,rfl,fun a o h=>?_,by rw[ag,ka],jS nd2,fun v=>?_,by have:=hV vs u;omega⟩
  ·rw[ao (aw h hc)];exact sb2 _ _ h
  ·rw[gY,<-mem v,e,gb];constructor
   ·rintro(h|h)
    ·exact .inl h
    ·exact .inr h.symm
   ·rintro(h|h)
    ·exact .inl h
    ·exact .inr h.symm
 ·have e':=e;unfold mtQ at e';rw[e'];refine⟨_,rfl,_,rfl,_,rfl,tw rfl ?_⟩;refine⟨_,rfl,_,rfl,_,_,.str _,.str _,okS mD,okS eZ,_,rfl,?_⟩;refine ec rfl ?_;refine⟨vs,_,_,_,rfl,sb2,hc2,nd2,fun v=>?_,by omega⟩;rw[<-mem v,e];exact⟨.inl,fun h=>h.elim id fun q=>absurd (ff q) (by decide)⟩
theorem bU:FnScope ["plot","corners","wall","end"] ["plot"] (ak dn):=by walk_at "sc"
inductive Cn_corners_of(x:D)(M:MH)(Q:DK):Prop
 |mk (l:Addr) (ps:List Pc) (_:x=.ref l) (_:M l=some (.lst (ps.map pcq))) (_:ps.length<=40) (_:(∀y∈ps,BS y.1/\BS y.2)) (_:∀(M':MH) (z:Addr) (cs:List Sq),SD.Sub M M'->M z=none->M' z=some (.lst (cs.map spq))->cs.Pairwise plq->(∀v,v∈cs↔∃y∈ps,v=y.1\/v=y.2)->cs.length<=80->Q (.ref z) M')
theorem jG(T:Tx K mg):Cal P w K mg base 5 "corners_of" (sD1 Cn_corners_of):=by
 refine fT (k:=4) T.f_corners_of bU fun f cdv A outer s H E hr=>⟨_,(aj (aH 1 bU.nd kI) (aj (cI B1 rfl (b6 (dv 0)) (aB 2 bU.nd) (aq (cI B1 rfl (b6 (dv 2)) (aB 3 bU.nd) (aq (gR (iN hr) (dv 1) (ai (cD T).m hr (ab (dv 3) ae)) eP))))) (aq (az (ai (d4 T).m hr (ab (aU (dJ rfl) rfl T.b_list dW (ab (dv 1) ae)) ae)))))),fun _ M Q h=>?_⟩;obtain⟨l,ps,rfl,hl,hn,hB,k⟩:=h;intro c hc;have nlc:l≠c:=aw hl hc;have pl:(ps.map pcq).length=ps.length:=A4 ..;refine⟨_,rfl,ps.map pcq,by show(aA M c _) l=_;rw[ao nlc];exact hl,?_⟩;refine⟨fun i δ M'=>∃(us:List Sq) (o2 o3:Option D),δ=[some (.ref l),some (.ref c),o2,o3]/\SD.Sub M M'/\M' c=some (dsM (ksT us))/\us.Nodup/\(∀v,v∈us↔∃y∈ps.take i,v=y.1\/v=y.2)/\us.length<=2*i,⟨[],_,_,rfl,.new hc .refl,ag,List.nodup_nil,by simp,B2 _⟩,fun i δ M' _ q=>let⟨_,_,_,_,sb,_⟩:=q;sb _ _ hl,?_,?_⟩
 ·rintro i d δ M' hi hd ⟨us,o2,o3,rfl,sb,hc',nd,me,ln⟩;have hd:(ps.map pcq)[i]?=some d:=hd;rw[Az]at hd;cases ey:ps[i]? with
  |none=>rw[ey]at hd;cases hd
  |some y=>
   rw[ey]at hd
   cases hd
   have iy:i<ps.length:=(A6.mp ey).1
   have by':=hB y (Ax ey)
   refine⟨_,rfl,[spq y.1,spq y.2],rfl,?_⟩
   refine⟨fun j δ M''=>∃(vs:List Sq) (o3:Option D),δ=[some (.ref l),some (.ref c),some (pcq y),o3]/\SD.Sub M M''/\M'' c=some (dsM (ksT vs))/\vs.Nodup/\(∀v,v∈vs↔v∈us\/(1<=j/\v=y.1)\/(2<=j/\v=y.2))/\vs.length<=2*i+j,⟨us,_,rfl,sb,hc',nd,by simp,by omega⟩,fun i δ M' _ q=>rfl,?_,?_⟩
   ·rintro j d δ M'' hj hd ⟨vs,o3,rfl,sb2,hc2,nd2,me2,ln2⟩;have hj:j<2:=hj
    obtain⟨u,rfl,bu,hu⟩:∃u,d=spq u/\BS u/\((j=0/\u=y.1)\/(j=1/\u=y.2)):=by
     have hd:([spq y.1,spq y.2]:List D)[j]?=some d:=hd;rcases(show j=0\/j=1 by omega)with rfl|rfl
     ·cases hd;exact⟨_,rfl,by'.1,.inl ⟨rfl,rfl⟩⟩
     ·cases hd;exact⟨_,rfl,by'.2,.inr ⟨rfl,rfl⟩⟩
    refine⟨_,rfl,_,rfl,u.1,u.2,rfl,bu.1.mono (by decide),bu.2.mono (by decide),c,_,kq u,rfl,rfl,hc2,by rw[kf];omega,addQ vs u,_,rfl,fun a o h=>?_,by rw[ag,ka],jS nd2,fun v=>?_,by have:=hV vs u;omega⟩
    ·rw[ao (aw h hc)];exact sb2 _ _ h
    ·rw[gY,me2 v];rcases hu with⟨rfl,rfl⟩|⟨rfl,rfl⟩
     ·simp
     ·simp[or_assoc]
   ·rintro δ M'' ⟨vs,o3,rfl,sb2,hc2,nd2,me2,ln2⟩;refine⟨vs,_,_,rfl,sb2,hc2,nd2,fun v=>?_,by have:vs.length<=2*i+2:=ln2;omega⟩;rw[Ct,ey];refine(me2 v).trans ?_;rw[me v];constructor
    ·rintro(⟨x,hx,h⟩|⟨_,h⟩|⟨_,h⟩)
     ·exact⟨x,AH.mpr (.inl hx),h⟩
     ·exact⟨y,by simp,.inl h⟩
     ·exact⟨y,by simp,.inr h⟩
    ·rintro⟨x,hx,h⟩;rcases AH.mp hx with m|m
     ·exact .inl ⟨x,m,h⟩
     ·rw[show x=y by simpa using m]at h;exact h.elim (fun e=>.inr (.inl ⟨by show 1<=2;omega,e⟩)) fun e=>.inr (.inr ⟨A7 _,e⟩)
 ·rintro δ M' ⟨us,o2,o3,rfl,sb,hc',nd,me,ln⟩;have ln:us.length<=2*(ps.map pcq).length:=ln;refine⟨_,rfl,.inr ⟨c,_,rfl,hc',fun p hp=>?_⟩⟩;rw[kZ];refine⟨p,us,rfl,ag,by omega,fun v hv=>?_,nd,fun M2 z fs sb2 hz hz2 up me2 ln2=>?_⟩
  ·obtain⟨y,hy,e⟩:=(me v).mp hv;have:=hB y (List.mem_of_mem_take hy);rcases e with rfl|rfl
   ·exact this.1
   ·exact this.2
  have sbp:SD.Sub M (aA M' p (.lst (us.map spq))):=.new hp sb;refine⟨M2,.refl,k M2 z fs (fun a o h=>sb2 _ _ (sbp _ _ h)) (gu sbp hz) hz2 up (fun v=>?_) (by omega)⟩;rw[me2 v,me v];show(∃y∈ps.take (ps.map pcq).length,_)↔_;rw[pl,List.take_length]
theorem gj:FnScope ["pieces","numbers"] ["pieces"] (ak cz):=by walk_at "sc"
def lq:Str:=(envOfC "by_ends" (ak cz) 0 0 .none).qual++"<lambda>"
abbrev Tb(M:MH):Prop:=cm lq 280 ⟨159,36,159,88⟩ M
def dg:SpD:=fun ds M Q=>match ds with
 |[x]=>∃(l:Addr) (ps:List Pc),x=.ref l/\M l=some (.lst (ps.map pcq))/\ps.length<=40/\(∀y∈ps,BS y.1/\BS y.2)/\ps.Nodup/\Tb M/\
  ∀(M':MH) (qs:List Pc),Tb M'->bO 280 M M'->qs.Pairwise pcl->(∀y,y∈qs↔y∈ps)->Q (.tup (qs.map pcq)) M'
 |_=>False
theorem lP:∀ds M Q,dg ds M Q->ds.length=1:=fun ds M Q h=>by
 unfold dg at h;split at h
 ·rfl
 ·exact h.elim
def jA(d:D):SpD:=fun ds M Q=>match ds with
 |[x]=>∃(n:Addr) (kvs:SpT) (y:Pc) (i j:Int),d=.ref n/\x=pcq y/\M n=some (dsM kvs)/\eY kvs (kq y.1)=some (.int i)/\eY kvs (kq y.2)=some (.int j)/\Q (.tup [.int i,.int j]) M
 |_=>False
theorem xY(d:D):∀ds M Q,jA d ds M Q->ds.length=1:=fun ds M Q h=>by
 unfold jA at h;split at h
 ·rfl
 ·exact h.elim
theorem oQ(T:Tx K mg):Cal P w K mg base 6 "by_ends" dg:=by
 refine z6 (k:=5) (N:=["pieces","numbers"]) (ps:=["pieces"]) T.fc_by_ends gj (fun _ _ _ _ _ _ us hl=>match us,hl with|[_],_=>rfl) lP fun f A outer s H E hr=>⟨_,(aj (aH 1 gj.nd (oN (iN hr) (CScope.of (xs:=["number","corner"]) (js:=[]) rfl) rfl (jI rfl T.b_enumerate (ab (ai (jG T).m hr (ab (dv 0) ae)) ae)) (fun _ _ _ _=>dR) (fun _ _ _ _=>(dv 1)) (fun _ _ _ _=>(dv 0))))
  (aq (az (aU g8 rfl T.b_tuple il (ab (mK (k:=2) (lx:="piece") (y:="numbers") (Pt:=280) (spg:=jA) 1 rfl T.lm (by refine⟨rfl,rfl,rfl,by decide,rfl,rfl,?_,?_⟩<;>decide) (fun _ _ _ _ _ _ _=>rfl) xY (fun base g c c' d2 A outer s H hr=>⟨_,(aQ (ab (kP (iN hr) (dv 1) (au (dv 0) af) (by intro _ _;with_unfolding_all rfl)) (ab (kP (iN hr) (dv 1) (au (dv 0) af) (by intro _ _;with_unfolding_all rfl)) ae))),fun d1 M Q h=>?l⟩) hr T.b_sorted (ab (dv 0) ae)) ae))))),fun ds M Q h=>?r⟩
 case l=>
  unfold jA at h
  obtain⟨n,kvs,y,i,j,rfl,rfl,hn,h1,h2,k⟩:=h
  exact⟨_,rfl,_,rfl,_,rfl,n,kvs,kq y.1,_,rfl,rfl,hn,h1,_,rfl,_,rfl,_,rfl,n,kvs,kq y.2,_,rfl,rfl,hn,h2,nbL rfl,k⟩
 case r=>
  unfold dg at h
  split at h
  case h_2=>exact h.elim
  obtain⟨l,ps,rfl,hl,hn,hB,nd,hT,k⟩:=h
  refine⟨_,rfl,l,ps,rfl,hl,hn,hB,fun M1 z cs sb1 hz hz1 up me ln=>?_⟩
  have cl:(cs.map spq).length=cs.length:=A4 ..
  refine⟨z,_,rfl,hz1,by show(cs.map spq).length<=_;omega,fun p hp=>?_⟩
  refine⟨fun i kvs M'=>Nbs cs i kvs/\M'=aA M1 p (dsM kvs),⟨.nil cs,rfl⟩,fun i kvs M' _ q=>by obtain⟨_,rfl⟩:=q;show(aA M1 p _) z=_;rw[ao (aw hz1 hp)];exact hz1,?_,?_⟩
  ·rintro i kvs d M' hi hd ⟨nb,rfl⟩;have hd:((cs.map spq)[i]?).map (fun d=>D.tup [.int (i:Int),d])=some d:=hd;rw[Az]at hd;cases ev:cs[i]? with
   |none=>rw[ev]at hd;cases hd
   |some v=>
    rw[ev]at hd
    cases hd
    refine⟨_,⟨_,rfl,rfl,rfl⟩,?_⟩
    dsimp only[SD.gn]
    rw[if_pos rfl]
    refine⟨_,rfl,_,rfl,kq v,rfl,ag,nb.len,nb.put up ev,?_⟩
    rw[cy]
  ·rintro kvs M' ⟨nb,rfl⟩;have nb:Nbs cs cs.length kvs:=by rw[<-cl];exact nb
   have sb2:SD.Sub M (aA M1 p (dsM kvs)):=.new hp sb1;have hl2:=sb2 _ _ hl;have hT2:Tb (aA M1 p (dsM kvs)):=hT.sub sb2;have np:p≠280:=fun e=>by subst e;exact hT.ne (gu sb1 hp)
   have hm:∀y∈ps,y.1∈cs/\y.2∈cs:=fun y hy=>⟨(me _).mpr ⟨y,hy,.inl rfl⟩,(me _).mpr ⟨y,hy,.inr rfl⟩⟩;have va:∀v∈cs,eY kvs (kq v)=some (.int (ix cs v:Int)):=fun v hv=>nb.vs _ v (m8 hv) (jn hv);have ul:(ps.map (ixP cs)).length=ps.length:=A4 ..;refine⟨_,rfl,l,ps.map pcq,ps.map (ixP cs),.ref p,rfl,hl2,hT2.eg hl2,rfl,hT2,by rw[A4,A4],xa hm ln hn nd,fun i d M' Q' hd hs q=>?_,fun p' π M' hp' hπ hu hT' hs=>?_⟩
   ·rw[Az]at hd;cases ey:ps[i]? with
    |none=>rw[ey]at hd;cases hd
    |some y=>
     rw[ey]at hd
     cases hd
     have hy:=Ax ey
     refine⟨p,kvs,y,ix cs y.1,ix cs y.2,rfl,rfl,hs _ _ np ag,va _ (hm y hy).1,va _ (hm y hy).2,?_⟩
     have e:p0 (ps.map (ixP cs)) i=ixP cs y:=by unfold p0;simp[ey]
     rw[e]at q
     exact q
   ·rw[ul]at hπ;obtain⟨e1,e2⟩:=ue hπ;rw[e2]at hp';refine⟨_,hp',rtn (k M' _ hT' (fun a o na e=>hs _ _ na (sb2 _ _ e)) (pW up hm ln hn (by rw[ul];exact hπ) hu) fun y=>e1.mem_iff)⟩
theorem cw:FnScope ["walls","pieces","wall","cuts","start","end"] ["walls"] (ak gP):=by walk_at "sc"
def oi(ws:List Pc)(l c:Addr)(M:MH)(δ:DS)(M':MH):Prop:=∃(ps:List Pc) (o2 o3 o4 o5:Option D),δ=[some (.ref l),some (.ref c),o2,o3,o4,o5]/\SD.Sub M M'/\M' c=some (dwM (ps.map wkq))/\ps.Nodup/\(∀y,y∈ps↔eV ws y)/\(∀w∈ws,∃c,IsCutQ ws w c)/\ps.length<=3000
theorem ph{ws:List Pc}{l c:Addr}{M:MH}{n:Nat}{B:EndsD}{o2 o3 o4 o5:Option D}(n2:2=n)(hl:M l=some (.lst (ws.map pcq)))(hn:ws.length<=30)(hP:dO ws)(hB:∀u∈ws,BS u.1/\BS u.2)(hS:∀w∈ws,∀o∈ws,∀v,mtQ w o=.tup [.str "spot",spq v]->BS v)(hc:M c=none)(hu:∀δ' M',oi ws l c M δ' M'->B.nx δ' M') :
 rB (zG (tVarD 0)) (bg 2) (iT (fU (qz (sD2 Cn_cuts_of) (eL (tVarD 2) (eL (tVarD 0) nt))) (bg 3)) (rB (xv (eL (tVarD 3) (eL (yS (tVarD 3) (sF (tCD (D.int 1))) kD) nt))) (gTupD n (gConsD (bg 4) (gConsD (bg 5) vd))) (nL (tVarD 1) (vA (eL (tVarD 4) (eL (tVarD 5) nt)))))) B [some (.ref l),some (.ref c),o2,o3,o4,o5] (aA M c (dwM [])):=by
 have nlc:l≠c:=aw hl hc
 have wl:(ws.map pcq).length=ws.length:=A4 ..
 refine⟨_,rfl,ws.map pcq,by show(aA M c _) l=_;rw[ao nlc];exact hl,?_⟩
 refine⟨fun i δ M'=>∃(ps:List Pc) (o2 o3 o4 o5:Option D),δ=[some (.ref l),some (.ref c),o2,o3,o4,o5]/\SD.Sub M M'/\M' c=some (dwM (ps.map wkq))/\ps.Nodup/\(∀y,y∈ps↔∃w∈ws.take i,∃c,IsCutQ ws w c/\Nxt c y)/\(∀w∈ws.take i,∃c,IsCutQ ws w c)/\ps.length<=100*i,⟨[],_,_,_,_,rfl,.new hc .refl,ag,List.nodup_nil,by simp,by simp,B2 _⟩,fun i δ M' _ q=>let⟨_,_,_,_,_,_,sb,_⟩:=q;sb _ _ hl,?_,?_⟩
 rotate_left
 ·rintro δ M' ⟨ps,o2,o3,o4,o5,rfl,sb,hc',nd,me,ex,ln⟩
  have ln:ps.length<=100*(ws.map pcq).length:=ln
  refine hu _ _ ⟨ps,_,_,_,_,rfl,sb,hc',nd,fun y=>(me y).trans ?_,fun w hw=>ex w (by rw[wl,List.take_length];exact hw),by omega⟩
  show(∃w∈ws.take (ws.map pcq).length,_)↔_
  rw[wl,List.take_length];rfl
 rintro i d δ M' hi hd ⟨ps,o2,o3,o4,o5,rfl,sb,hc',nd,me,ex,ln⟩
 have hd:(ws.map pcq)[i]?=some d:=hd
 rw[Az]at hd
 cases ew:ws[i]? with
 |none=>rw[ew]at hd;cases hd
 |some w=>
 rw[ew]at hd
 cases hd
 have iw:i<ws.length:=(A6.mp ew).1
 have mw:w∈ws:=Ax ew
 refine⟨_,rfl,_,rfl,l,ws,w,rfl,rfl,sb _ _ hl,hn,hP,hB,mw,hS w mw,fun M3 q cs sb3 hq hq3 ic lc=>?_⟩
 have hc3:=sb3 _ _ hc'
 have sbM:SD.Sub M M3:=fun a o e=>sb3 _ _ (sb _ _ e)
 refine⟨_,rfl,_,rfl,_,rfl,_,hq3,fun s hs=>?_⟩
 rw[rH]
 have nqs:q≠s:=aw hq3 hs
 refine⟨q,s,cs.map spq,cs.tail.map spq,rfl,by rw[ao nqs];exact hq3,ag,?_⟩
 have en:min (cs.map spq).length (cs.tail.map spq).length=(zps cs).length:=by unfold zps;rw[A4,A4,List.length_zip]
 have zl:(zps cs).length<=100:=by unfold zps;rw[List.length_zip];omega
 refine⟨fun j δ M''=>∃(vs:List Pc) (o4 o5:Option D),δ=[some (.ref l),some (.ref c),some (pcq w),some (.ref q),o4,o5]/\SD.Sub M M''/\M'' q=some (.lst (cs.map spq))/\M'' s=some (.lst (cs.tail.map spq))/\M'' c=some (dwM (vs.map wkq))/\vs.Nodup/\(∀y,y∈vs↔y∈ps\/y∈(zps cs).take j)/\vs.length<=100*i+j,⟨ps,_,_,rfl,.new hs sbM,by rw[ao nqs];exact hq3,ag,by rw[ao (aw hc3 hs)];exact hc3,nd,by simp,by omega⟩,fun i δ M' _ z=>let⟨_,_,_,_,_,a,b,_⟩:=z;⟨a,b⟩,?_,?_⟩
 ·rintro j d δ M'' hj hd ⟨vs,o4,o5,rfl,sb2,hq2,hs2,hc2,nd2,me2,ln2⟩
  have hd:(((cs.map spq)[j]?).bind fun d=>(((cs.tail).map spq)[j]?).map fun e=>D.tup [d,e])=some d:=hd
  rw[rK]at hd
  cases ey:(zps cs)[j]? with
  |none=>rw[ey]at hd;cases hd
  |some y=>
   rw[ey]at hd
   cases hd
   have jy:j<(zps cs).length:=(A6.mp ey).1
   have nq:q≠c:=fun e=>by subst e;rw[hq2]at hc2;unfold dwM at hc2;cases hc2
   have ns:s≠c:=fun e=>by subst e;rw[hs2]at hc2;unfold dwM at hc2;cases hc2
   refine⟨_,rfl,n2,_,_,rfl,_,_,rfl,rfl,?_⟩
   refine⟨_,rfl,_,rfl,_,rfl,nbL rfl,c,_,wkq y,rfl,rfl,hc2,by rw[A4];omega,j3 vs y,_,_,rfl,fun a o h=>?_,by rw[ao nq];exact hq2,by rw[ao ns];exact hs2,by rw[ag,rO],uk nd2,fun z=>?_,by have:=qQ vs y;omega⟩
   ·rw[ao (aw h hc)];exact sb2 _ _ h
   ·rw[qO,me2 z,Ct,ey,AH,or_assoc];simp
 ·rintro δ M'' ⟨vs,o4,o5,rfl,sb2,hq2,hs2,hc2,nd2,me2,ln2⟩
  have ln2:vs.length<=100*i+min (cs.map spq).length (cs.tail.map spq).length:=ln2
  refine⟨vs,_,_,_,_,rfl,sb2,hc2,nd2,fun y=>(me2 y).trans ?_,fun x hx=>?_,by omega⟩
  rotate_left
  ·rw[Ct,ew]at hx
   rcases AH.mp hx with m|m
   ·exact ex x m
   ·rw[show x=w by simpa using m];exact⟨cs,ic⟩
  show(_\/y∈(zps cs).take (min (cs.map spq).length (cs.tail.map spq).length))↔_
  rw[en,List.take_length,me y,nF,Ct,ew]
  constructor
  ·rintro(⟨w',hw',h⟩|h)
   ·exact⟨w',AH.mpr (.inl hw'),h⟩
   ·exact⟨w,by simp,cs,ic,h⟩
  ·rintro⟨w',hw',c',ic',h⟩
   rcases AH.mp hw' with m|m
   ·exact .inl ⟨w',m,c',ic',h⟩
   ·rw[show w'=w by simpa using m]at ic'
    rw[ic'.one ic]at h
    exact .inr h
inductive Cn_parted(x:D)(M:MH)(Q:DK):Prop
 |mk (l:Addr) (ws:List Pc) (_:x=.ref l) (_:M l=some (.lst (ws.map pcq))) (_:ws.length<=30) (_:dO ws) (_:(∀u∈ws,BS u.1/\BS u.2)) (_:(∀w∈ws,∀o∈ws,∀v,mtQ w o=.tup [.str "spot",spq v]->BS v)) (_:Tb M) (_:(∀ps:List Pc,ps.Nodup->(∀y,y∈ps↔eV ws y)->ps.length<=40)) (_:∀(M':MH) (qs:List Pc),Tb M'->bO 280 M M'->RowQ ws qs->(∀w∈ws,∃c,IsCutQ ws w c)->Q (.tup (qs.map pcq)) M')
theorem lG(T:Tx K mg):Cal P w K mg base 8 "parted" (sD1 Cn_parted):=by
 refine fT (k:=7) T.f_parted cw fun f cdv A outer s H E hr=>⟨_,(aj (aH 1 cw.nd pT) (aj (cI B1 rfl (b6 (dv 0)) (aB 2 cw.nd) (aj (aH 3 cw.nd (ai (oD T).m hr (ab (dv 2) (ab (dv 0) ae)))) (aq (cI B1 rfl (wB rfl T.b_zip (ab (dv 3) (ab (k6 (dv 3) (nR af) oq) ae))) (bD rfl (aC (aB 4 cw.nd) (aC (aB 5 cw.nd) aY))) (aq (rE (iN hr) (dv 1) (aQ (ab (dv 4) (ab (dv 5) ae))))))))) (aj (aW (aL (ig hr.units) (aP sX rfl T.b_len dG (ab (dv 1) ae)) (ku rfl T.g_MOST_WALLS)) (aq eT) aJ) (aq (az (ai (oQ T).m hr (ab (aU (qS rfl) rfl T.b_list dW (ab (dv 1) ae)) ae))))))),fun _ M Q h=>?_⟩;obtain⟨l,ws,rfl,hl,hn,hP,hB,hS,hT,hN,k⟩:=h;intro c hc;(try dsimp only[SD.bg])
 refine dh (oi ws l c M) ?_ (fun hu=>ph rfl hl hn hP hB hS hc hu);rintro δ M' ⟨ps,o2,o3,o4,o5,rfl,sb,hc',nd,me,ex,ln⟩;have el:=hN ps nd me;refine⟨_,rfl,c,_,rfl,hc',trivial,_,rfl,ec (decide_eq_false (by rw[A4];omega)) ?_⟩;dsimp only[SD.fJ];refine⟨_,rfl,c,_,rfl,hc',fun p hp=>?_⟩;have sb2:SD.Sub M (aA M' p (.lst ((ps.map wkq).map wlD))):=.new hp sb
 have bs:∀y∈ps,BS y.1/\BS y.2:=fun y hy=>by
  obtain⟨w,hw,c,ic,n⟩:=(me y).mp hy
  have bc:∀v∈c,BS v:=fun v hv=>by
   obtain⟨o,ho,q⟩:=(ic.me v).mp hv;rcases q with⟨_,rfl⟩|⟨_,rfl⟩|q
   ·exact(hB o ho).1
   ·exact(hB o ho).2
   ·exact hS w hw o ho v q
  exact⟨bc _ (bW n).1,bc _ (bW n).2⟩
 refine⟨p,ps,rfl,by rw[ag,C3];rfl,el,bs,nd,hT.sub sb2,fun M2 rs hT2 hs2 up2 me2=>?_⟩;exact rtn (k M2 rs hT2 (fun a o na e=>hs2 _ _ na (sb2 _ _ e)) ⟨up2,fun y=>(me2 y).trans (me y)⟩ ex)
theorem cg:FnScope ["one","other","met"] ["one","other"] (ak bH):=by walk_at "sc"
theorem qH{y:Pc}{v:Sq}(h:v=y.1\/v=y.2)(M:MH)(Q:DK)(q:Q (.bl true) M):yB (fun b=>b) (spq v) (pcq y) M Q:=by
 refine⟨spP v,[spP y.1,spP y.2],Pd.of rfl,.inr (Pd.of rfl),rfl,rfl,?_⟩;rw[Cp,Cp,List.any_nil,mR,mR,Bool.or_false];have e:(decide (y.1=v)||decide (y.2=v))=true:=by rcases h with rfl|rfl<;>simp
 rw[e];exact q
inductive Cn_meet_as_in_plots(u v:D)(M:MH)(Q:DK):Prop
 |mk (y z:Pc) (_:u=pcq y) (_:v=pcq z) (_:(BS y.1/\BS y.2)) (_:(BS z.1/\BS z.2)) (_:iV y z) (_:Q (.bl true) M)
theorem eB(T:Tx K mg):Cal P w K mg base 7 "meet_as_in_plots" (sD2 Cn_meet_as_in_plots):=by
 refine aV (k:=6) T.f_meet_as_in_plots cg fun f cdv A outer s H E hr=>⟨_,(aj (aH 2 cg.nd (ai (ji T).m hr (ab (dv 0) (ab (dv 1) ae)))) (aj (aW (aL yF (dv 2) fH) (aq (az eP)) aJ) (aq (az (jx (dP (cZ hr.units) (au (dv 2) af) gD) (jx (dP (qY (iN hr)) (au (dv 2) af) (dv 0) (by with_unfolding_all rfl)) (rZ (dP (qY (iN hr)) (au (dv 2) af) (dv 1) (by with_unfolding_all rfl))))))))),fun _ _ M Q h=>?_⟩;obtain⟨y,z,rfl,rfl,hy,hz,hF,k⟩:=h;refine⟨_,rfl,_,rfl,_,_,_,_,_,_,_,_,rfl,rfl,hy.1.1,hy.1.2,hy.2.1,hy.2.2,hz.1.1,hz.1.2,hz.2.1,hz.2.2,?_⟩;have okS:∀{x:Str},PyData.strOk x=true->C2 (.str x)=true:=fun{x} h=>Bool.and_eq_true_iff.mpr ⟨by rw[PyData.canLay0];exact h,decide_eq_true (nbL rfl)⟩;unfold iV mtQ at hF;rcases hF with e|⟨v,e,e1,e2⟩
 ·rw[e];exact⟨_,rfl,_,rfl,_,rfl,tw rfl (rtn k)⟩
 ·rw[e];refine⟨_,rfl,_,rfl,_,rfl,ec rfl ?_⟩;(try dsimp only[SD.iT,SD.fU,SD.bg,SD.nU,SD.nV,SD.fJ,SD.kg,SD.tBD,SD.nk])
  refine uz true true (fun K hK=>?_) (fun _ K hK=>?_) (rtn k)
  ·refine⟨_,rfl,_,rfl,_,_,.str _,.str _,okS eZ,okS eZ,?_⟩;rw[nM];exact hK
  ·exact uz true true (fun K hK=>⟨_,rfl,_,rfl,_,rfl,qH e1 _ _ hK⟩) (fun _ K hK=>⟨_,rfl,_,rfl,_,rfl,qH e2 _ _ hK⟩) hK
theorem bQ:FnScope ["walls","wall","number","other"] ["walls","wall"] (ak b5):=by walk_at "sc"
inductive Cn_first_crossed(u v:D)(M:MH)(Q:DK):Prop
 |mk (a:Addr) (us:List Pc) (y:Pc) (_:u=.ref a) (_:v=pcq y) (_:M a=some (.lst (us.map pcq))) (_:(BS y.1/\BS y.2)) (_:(∀z∈us,BS z.1/\BS z.2)) (_:(∀z∈us,iV y z)) (_:Q .non M)
theorem f6(T:Tx K mg):Cal P w K mg base 8 "first_crossed" (sD2 Cn_first_crossed):=by
 refine aV (k:=7) T.f_first_crossed bQ fun f cdv A outer s H E hr=>⟨_,(aj (cI B1 rfl (jI rfl T.b_enumerate (ab (dv 0) ae)) (bD rfl (aC (aB 2 bQ.nd) (aC (aB 3 bQ.nd) aY))) (aq (aW (xR (eJ (ai (eB T).m hr (ab (dv 1) (ab (dv 3) ae))))) (aq (az (dv 2))) aJ))) (aq (az fH))),fun _ _ M Q h=>?_⟩;obtain⟨a,us,y,rfl,rfl,ha,hy,hU,hF,k⟩:=h;refine⟨_,rfl,a,_,rfl,ha,?_⟩;refine⟨fun i δ M'=>M'=M/\∃o2 o3,δ=[some (.ref a),some (pcq y),o2,o3],⟨rfl,_,_,rfl⟩,fun i δ M' _ z=>by obtain⟨rfl,_⟩:=z;exact ha,?_,?_⟩
 ·rintro i d δ M' hi hd ⟨rfl,o2,o3,rfl⟩;have hd:((us.map pcq)[i]?).map (fun d=>D.tup [.int (i:Int),d])=some d:=hd;rw[Az]at hd;cases eu:us[i]? with
  |none=>rw[eu]at hd;cases hd
  |some z=>
   rw[eu]at hd
   cases hd
   have mz:=Ax eu
   refine⟨_,rfl,rfl,_,_,rfl,_,_,rfl,rfl,?_⟩
   exact⟨_,rfl,_,rfl,y,z,rfl,rfl,hy,hU z mz,hF z mz,_,rfl,ec rfl ⟨rfl,_,_,rfl⟩⟩
 ·rintro δ M' ⟨rfl,o2,o3,rfl⟩;exact rtn k
theorem lb:FnScope ["walls"] ["walls"] (ak eK):=by walk_at "sc"
inductive Cn_own_plot(u:D)(M:MH)(Q:DK):Prop
 |mk (a:Addr) (us:List Pc) (_:u=.ref a) (_:M a=some (.lst (us.map pcq))) (_:(∀z∈us,BS z.1/\BS z.2)) (_:us.length<=1000) (_:Q (.tup (us.map pcq)) M)
theorem mh(T:Tx K mg):Cal P w K mg base 5 "own_plot" (sD1 Cn_own_plot):=by
 refine fT (k:=4) T.f_own_plot lb fun f cdv A outer s H E hr=>⟨_,(aq (az (aU g8 rfl T.b_tuple il (ab (kQ (CScope.of (xs:=["wall"]) (js:=[]) rfl) rfl (b6 (dv 0)) (fun _ _ _ _=>dR) (fun _ _ _ _=>(ai (gB T).m hr (ab (dv 0) ae)))) ae)))),fun _ M Q h=>?_⟩;obtain⟨a,us,rfl,ha,hU,hl,k⟩:=h;refine⟨_,rfl,us.map pcq,ha,comp_map (fun j=>((us.map pcq)[j]?).getD .non) (by show(us.map pcq).length<=1000000;rw[A4];omega) (fun p ys hp=>by show(aA M p _) a=_;rw[ao (aw ha hp)];exact ha) ?_ (fun p hp=>?_)⟩
 ·intro i e' M2 hi he' _;have he':(us.map pcq)[i]?=some e':=he';rw[Az]at he';cases eu:us[i]? with
  |none=>rw[eu]at he';cases he'
  |some z=>
   rw[eu]at he'
   cases he'
   obtain⟨⟨u1,u2⟩,u3,u4⟩:=hU z (Ax eu)
   refine⟨_,rfl,fun K hK=>?_⟩
   have hK:=hK _ .refl
   rw[getD_map eu]at hK
   exact⟨_,rfl,_,_,_,_,rfl,u1.mono (by decide),u2.mono (by decide),u3.mono (by decide),u4.mono (by decide),hK⟩
 have e:=SD.range_getD (us.map pcq);dsimp only;rw[e];exact⟨_,ag,M,.new hp .refl,k⟩
theorem dk:FnScope ["walls","number","wall","other"] ["walls"] (ak fm):=by walk_at "sc"
inductive Cn_plot_of(u:D)(M:MH)(Q:DK):Prop
 |mk (a:Addr) (us:List Pc) (_:u=.ref a) (_:M a=some (.lst (us.map pcq))) (_:us.length<=40) (_:(∀z∈us,BS z.1/\BS z.2)) (_:(∀(i:Nat) y,us[i]?=some y->∀z∈us.take i,iV y z)) (_:Q (.tup (us.map pcq)) M)
theorem oK(T:Tx K mg):Cal P w K mg base 9 "plot_of" (sD1 Cn_plot_of):=by
 refine fT (k:=8) T.f_plot_of dk fun f cdv A outer s H E hr=>⟨_,(aj (aW (aL (ig hr.units) (aP ee rfl T.b_len dG (ab (dv 0) ae)) (ku rfl T.g_MOST_WALLS)) (aq eT) aJ) (aj (cI B1 rfl (jI rfl T.b_enumerate (ab (dv 0) ae)) (bD rfl (aC (aB 1 dk.nd) (aC (aB 2 dk.nd) aY))) (aj (aH 3 dk.nd (ai (f6 T).m hr (ab (k6 (dv 0) oq (nR (dv 1))) (ab (dv 2) ae)))) (aq (aW (aL kn (dv 3) fH) (aq eT) aJ)))) (aq (az (ai (mh T).m hr (ab (dv 0) ae)))))),fun _ M Q h=>?_⟩;obtain⟨a,us,rfl,ha,hl,hU,hF,k⟩:=h;refine⟨_,rfl,_,ha,trivial,_,rfl,ec (decide_eq_false (by rw[A4];omega)) ?_⟩;dsimp only[SD.fJ];refine⟨_,rfl,a,_,rfl,ha,?_⟩;refine⟨fun i δ M'=>SD.Sub M M'/\∃o1 o2 o3,δ=[some (.ref a),o1,o2,o3],⟨.refl,_,_,_,rfl⟩,fun i δ M' _ z=>z.1 a _ ha,?_,?_⟩
 ·rintro i d δ M' hi hd ⟨sb,o1,o2,o3,rfl⟩;have hd:((us.map pcq)[i]?).map (fun d=>D.tup [.int (i:Int),d])=some d:=hd;rw[Az]at hd;cases eu:us[i]? with
  |none=>rw[eu]at hd;cases hd
  |some y=>
   rw[eu]at hd
   cases hd
   have hil:i<us.length:=(A6.mp eu).1
   have ha':=sb a _ ha
   refine⟨_,rfl,rfl,_,_,rfl,_,_,rfl,rfl,?_⟩
   refine⟨_,rfl,_,rfl,_,rfl,_,ha',fun p hp=>?_⟩
   rw[xX _ _ _ (by omega)]
   refine⟨_,rfl,p,us.take i,y,rfl,rfl,ag,hU y (Ax eu),fun z hz=>hU z (List.mem_of_mem_take hz),hF i y eu,?_⟩
   exact⟨_,rfl,_,rfl,_,rfl,ec rfl ⟨.new hp sb,_,_,_,rfl⟩⟩
 ·rintro δ M' ⟨sb,o1,o2,o3,rfl⟩;exact⟨_,rfl,a,us,rfl,sb a _ ha,hU,by omega,M,sb,k⟩
theorem aK:FnScope ["_law_row","_law_scale_here","_law_shuts","_law_told","_law_first","_law_second","_law_below","_law_part","_law_x","_law_y","_law_top","_law_bottom","_law_far","_law_up"] ["_law_row","_law_scale_here","_law_shuts"] (ak dC):=by walk_at "sc"
def t3(u:Int×Int×Int):D:=.tup [.int u.1,.int u.2.1,.int u.2.2]
structure T3(u:Int×Int×Int):Prop where
 x:-(10^4)<=u.1/\u.1<=10^4
 y:-(10^4)<=u.2.1/\u.2.1<=10^4
 n:0<u.2.2/\u.2.2<=5
theorem pM{a k n m:Int}(h:-n<=a/\a<=n)(hk:-m<=k/\k<=m)(hm:0<=m):-(n*m)<=a*k/\a*k<=n*m:=by
 have h1:(a*k).natAbs<=n.natAbs*m.natAbs:=by rw[Int.natAbs_mul];exact Nat.mul_le_mul (by omega) (by omega)
 have h2:((n.natAbs*m.natAbs:Nat):Int)=n*m:=by rw[Int.natCast_mul,Int.natAbs_of_nonneg (by omega),Int.natAbs_of_nonneg hm]
 omega
theorem nr{a c k m:Int}(ha:-30<=a/\a<=30)(hc:-30<=c/\c<=30)(hk:-9<=k/\k<=9)(hm:-9<=m/\m<=9):-600<=a*k+c*m/\a*k+c*m<=600:=by have:=pM ha hk (by decide);have:=pM hc hm (by decide);omega
inductive Cn_law_spots(u s v:D)(M:MH)(Q:DK):Prop
 |mk (r l:Addr) (x c t b X Y:Int) (ws:List Wl) (_:u=.ref r) (_:s=scl t b X Y) (_:v=.ref l) (_:r≠l) (_:M r=some (.lst [.int x,.int c])) (_:M l=some (.lst (ws.map uw))) (_:0<=c) (_:c<=1000) (_:Scl t b X Y) (_:ws.length<=13) (_:(∀w∈ws,Bw 30 w)) (_:∀(M'':MH) (z:Addr) (vs:List Sq),bO r M M''->M'' z=some (.lst (vs.map spq))->(∀v∈vs,Ma.Bq 1900 v.1/\Ma.Bq 1900 v.2)->vs.length<=100->Q (.ref z) M'')
theorem lp(T:Tx K mg):Cal P w K mg base 2 "_law_spots" (sD3 Cn_law_spots):=by
 refine qi (k:=1) T.f_law_spots aK fun f cdv A outer s H E hr=>⟨_,(aj (rp 3 aK.nd (CScope.of (xs:=["_law_turn"]) (js:=[0]) rfl) rfl (pb rfl T.b_range (ab af ae)) (fun _ _ _ _=>dR) (fun _ _ _ _=>(aQ (ab (ai (aE T).m hr (ab (dv 1) (ab af ae))) (ab (ai (aE T).m hr (ab (dv 1) (ab af ae))) (ab af ae)))))) (aj (cI B1 rfl (b6 (dv 2)) (bD rfl (aC (aB 4 aK.nd) (aC (aB 5 aK.nd) aY))) (aj (aH 6 aK.nd (ar aO af (ai (aE T).m hr (ab (dv 0) (ab af ae))))) (aj (aH 7 aK.nd (ai (aE T).m hr (ab (dv 0) (ab (ar aO (dv 6) af) ae)))) (aj (aH 8 aK.nd (ar aO (ar aG (au (dv 4) af) (ar eH (dv 6) (dv 7))) (ar aG (au (dv 5) af) (dv 7)))) (aj (aH 9 aK.nd (ar aO (ar aG (au (dv 4) af) (ar eH (dv 6) (dv 7))) (ar aG (au (dv 5) af) (dv 7)))) (aq (gd (du (dv 3) (ab (aQ (ab (dv 8) (ab (ar aO (dv 9) (aU qh rfl T.b_int pH (ab (dP (cZ hr.units) (ai (aE T).m hr (ab (dv 0) (ab af ae))) af) ae))) (ab (dv 6) ae)))) ae))))))))) (aj (cG (dv 1) (bD rfl (aC (aB 10 aK.nd) (aC (aB 11 aK.nd) (aC (aB 12 aK.nd) (aC (aB 13 aK.nd) aY)))))) (aq (az (qr (CScope.of (xs:=["_law_x","_law_y","_law_n"]) (js:=[10,12,11,13]) rfl) rfl (b6 (dv 3)) (fun _ _ _ _=>dR) (fun _ _ _ _=>(aQ (ab (ai (dS T).m hr (ab (ar aO (ar aG (dv 0) (dv 3)) (ar aG (dv 4) (dv 2))) (ab (ar aG (dv 5) (dv 2)) ae))) (ab (ai (dS T).m hr (ab (ar aO (ar aG (dv 1) (dv 3)) (ar aG (dv 6) (dv 2))) (ab (ar aG (dv 5) (dv 2)) ae))) ae)))))))))),fun _ _ _ M Q h=>?_⟩;obtain⟨r,l,x0,c0,t,b,X,Y,ws,rfl,rfl,rfl,nrl,hr,hl,hc0,hc1,S,hn,hB,k⟩:=h;have wl:(ws.map uw).length=ws.length:=A4 ..;refine⟨4,rfl,by decide,by show 4<=1000000;decide,fun p hp=>?_⟩;have nrp:r≠p:=aw hr hp;have nlp:l≠p:=aw hl hp;refine⟨fun i ys M'=>∃(x c:Int) (ts:List (Int×Int×Int)),ys=ts.map t3/\bO r M M'/\M' r=some (.lst [.int x,.int c])/\M' p=some (.lst ys)/\0<=c/\c<=c0+2*i/\ts.length<=i/\∀u∈ts,T3 u,⟨x0,c0,[],rfl,bO.refl.fresh hp,by rw[ao nrp];exact hr,ag,hc0,by omega,B2 _,fun u hu=>nomatch hu⟩,fun _ _ _ _ _=>trivial,?_,?_⟩
 ·rintro i ys d M' hi hd ⟨x,c,ts,rfl,sT,hr',hp',g0,g1,g2,g3⟩;have hi:i<4:=hi;refine⟨_,rfl,?_⟩;dsimp only[SD.gn];rw[if_pos rfl];refine⟨_,rfl,r,7,x,c,rfl,rfl,hr',g0,by omega,by decide,bM (by decide),fun x1 v1 h10 h11=>?_⟩;refine⟨_,rfl,r,7,x1,c+1,rfl,rfl,ag,by omega,by omega,by decide,bM (by decide),fun x2 v2 h20 h21=>⟨nbL rfl,?_⟩⟩;refine⟨_,.refl,by rw[ao nrp.symm,ao nrp.symm];exact hp',x2,c+1+1,ts++[(v1,v2,1)],by rw[B0];rfl,((sT.atR).atR).old hp,by rw[ao nrp,ag],ag,by omega,by omega,by rw[Bb];show ts.length+1<=_;omega,fun u hu=>?_⟩;rcases AH.mp hu with y|y
  ·exact g3 u y
  ·rw[AY.mp y];exact⟨⟨by show -(10^4)<=v1;omega,by show v1<=10^4;omega⟩,⟨by show -(10^4)<=v2;omega,by show v2<=10^4;omega⟩,(by decide:(0:Int)<1/\(1:Int)<=5)⟩
 rintro ys M1 ⟨x1,c1,ts1,rfl,sT1,hr1,hp1,g0,g1,g2,g3⟩;have g1:c1<=c0+2*4:=g1;have g2:ts1.length<=4:=g2;refine⟨_,rfl,ws.map uw,sT1 _ _ nrl.symm hl,?_⟩;refine⟨fun i δ M'=>∃(x c:Int) (ts:List (Int×Int×Int)) (o4 o5 o6 o7 o8 o9 o10 o11 o12 o13:Option D),δ=[some (.ref r),some (scl t b X Y),some (.ref l),some (.ref p),o4,o5,o6,o7,o8,o9,o10,o11,o12,o13]/\bO r M M'/\M' r=some (.lst [.int x,.int c])/\M' p=some (.lst (ts.map t3))/\0<=c/\c<=c0+8+3*i/\ts.length<=4+i/\∀u∈ts,T3 u,⟨x1,c1,ts1,_,_,_,_,_,_,_,_,_,_,rfl,sT1,hr1,hp1,g0,by omega,g2,g3⟩,fun i δ M' _ q=>let⟨_,_,_,_,_,_,_,_,_,_,_,_,_,_,sT,_⟩:=q;sT _ _ nrl.symm hl,?_,?_⟩;clear hr1 hp1 sT1 g0 g1 g2 g3
 ·rintro i d δ M' hi hd ⟨x,c,ts,o4,o5,o6,o7,o8,o9,o10,o11,o12,o13,rfl,sT,hr',hp',g0,g1,g2,g3⟩;have hd:(ws.map uw)[i]?=some d:=hd;rw[Az]at hd;cases ew:ws[i]? with
  |none=>rw[ew]at hd;cases hd
  |some w=>
  rw[ew]at hd;cases hd;have iw:i<ws.length:=(A6.mp ew).1;obtain⟨u1,u2,u3,u4⟩:=(hB w (Ax ew)).u;refine⟨_,rfl,rfl,_,_,rfl,_,_,rfl,rfl,?_⟩;refine⟨_,rfl,r,4,x,c,rfl,rfl,hr',g0,by omega,by decide,bM (by decide),fun x1 v1 h10 h11=>?_⟩;refine⟨_,rfl,_,rfl,r,1+v1+2,x1,c+1,rfl,rfl,ag,by omega,by omega,by omega,bM (by omega),fun x2 v2 h20 h21=>?_⟩;have bd:∀{z:Int},(-30<=z/\z<=30)->Bd 64 z:=fun{z} h=>bM (by omega);refine⟨_,rfl,_,rfl,_,rfl,_,rfl,trivial,bB (bd u1),_,rfl,_,rfl,_,rfl,bB (bd u3),?_⟩;refine⟨_,rfl,_,rfl,_,rfl,_,rfl,trivial,bB (bd u2),_,rfl,_,rfl,_,rfl,bB (bd u4),?_⟩;have ax:=nr u1 u3 (k:=1+v1-v2) (m:=v2) (by omega) (by omega);have ay:=nr u2 u4 (k:=1+v1-v2) (m:=v2) (by omega) (by omega);refine⟨_,rfl,p,_,rfl,by rw[ao nrp.symm,ao nrp.symm];exact hp',_,rfl,_,rfl,_,rfl,r,5,x2,c+1+1,rfl,rfl,ag,by omega,by omega,by decide,bM (by decide),fun x3 v3 h30 h31=>?_⟩;generalize w.1*(1+v1-v2)+w.2.2.1*v2=ex at ax ⊢;generalize w.2.1*(1+v1-v2)+w.2.2.2*v2=ey at ay ⊢;have hp3:(aA (aA (aA M' r (.lst [.int x1,.int (c+1)])) r (.lst [.int x2,.int (c+1+1)])) r (.lst [.int x3,.int (c+1+1+1)])) p=some (.lst (ts.map t3)):=by rw[ao nrp.symm,ao nrp.symm,ao nrp.symm];exact hp'
  refine⟨_,rfl,nbL rfl,_,_,rfl,hp3,by rw[A4];omega,?_⟩;have h01:0<=(if decide (v3=0)=true then(1:Int)else 0)/\(if decide (v3=0)=true then(1:Int)else 0)<=1:=by split<;>decide
  generalize (if decide (v3=0)=true then(1:Int)else 0)=e3 at h01 ⊢;refine⟨x3,c+1+1+1,ts++[(ex,ey+e3,1+v1)],_,_,_,_,_,_,_,_,_,_,rfl,(((sT.atR).atR).atR).old hp,by rw[ao nrp,ag],by rw[ag,B0];rfl,by omega,by omega,by rw[Bb];show ts.length+1<=_;omega,fun u hu=>?_⟩;rcases AH.mp hu with y|y
  ·exact g3 u y
  ·rw[AY.mp y];exact⟨⟨by show -(10^4)<=ex;omega,by show ex<=10^4;omega⟩,⟨by show -(10^4)<=ey+e3;omega,by show ey+e3<=10^4;omega⟩,by show 0<1+v1;omega,by show 1+v1<=5;omega⟩
 rintro δ M' ⟨x,c,ts,o4,o5,o6,o7,o8,o9,o10,o11,o12,o13,rfl,sT,hr',hp',g0,g1,g2,g3⟩;have g2:ts.length<=4+(ws.map uw).length:=g2;have tl:(ts.map t3).length=ts.length:=A4 ..;refine⟨_,rfl,_,rfl,rfl,_,_,rfl,_,_,rfl,_,_,rfl,_,_,rfl,rfl,?_⟩;refine⟨_,rfl,ts.map t3,hp',comp_map (fun j=>(((ts.map fun u=>spq (Ma.ut t b X u.2.2 u.1,Ma.ut t b Y u.2.2 u.2.1)))[j]?).getD .non) (by show(ts.map t3).length<=_;omega) (fun p' ys hp2=>by show(aA M' p' _) p=_;rw[ao (aw hp' hp2)];exact hp') ?_ (fun p' hp2=>?_)⟩
 ·intro j e M2 hj he _;have he:(ts.map t3)[j]?=some e:=he;rw[Az]at he;cases eu:ts[j]? with
  |none=>rw[eu]at he;cases he
  |some u=>
   rw[eu]at he
   cases he
   have hu:=g3 u (Ax eu)
   obtain⟨u1,u2,un⟩:=u
   obtain⟨hx,hy,hm⟩:=hu
   dsimp only at hx hy hm
   have bt:Bd 64 t:=by have:=S.t0;have:=S.t1;show t.natAbs<2^64;omega
   have bm:Bd 64 un:=by show un.natAbs<2^64;omega
   have bb:Bd 64 b:=by have:=S.b0;have:=S.b1;show b.natAbs<2^64;omega
   have big:∀{z w:Int},(-(10^4)<=z/\z<=10^4)->(-(10^17)<=w/\w<=10^17)->Bd 8000 (z*t+w*un):=fun{z w} h1 h2=>by
    have e1:Bd 128 (z*t):=Bd.mul (m:=64) (n:=64) (by show z.natAbs<2^64;omega) bt
    have e2:Bd 128 (w*un):=Bd.mul (m:=64) (n:=64) (by show w.natAbs<2^64;omega) bm
    exact(e1.add e2).mono (by decide)
   have hb0:b*un≠0:=by have:=BQ S.b0 hm.1;omega
   have bbm:Bd 8000 (b*un):=(bb.mul bm).mono (by decide)
   refine⟨_,⟨_,rfl,rfl,rfl⟩,fun K hK=>?_⟩
   have hK:=hK _ .refl
   rw[getD_map eu]at hK
   refine⟨_,rfl,_,rfl,bV bt,_,rfl,_,rfl,bV bm,_,rfl,_,rfl,bV bm,u1*t+X*un,b*un,rfl,rfl,hb0,big hx ⟨S.x0,S.x1⟩,bbm,?_⟩
   exact⟨_,rfl,_,rfl,bV bt,_,rfl,_,rfl,bV bm,_,rfl,_,rfl,bV bm,u2*t+Y*un,b*un,rfl,rfl,hb0,big hy ⟨S.y0,S.y1⟩,bbm,nbL rfl,hK⟩
 have e1:(BV (ts.map t3).length).map (fun j=>(((ts.map fun u=>spq (Ma.ut t b X u.2.2 u.1,Ma.ut t b Y u.2.2 u.2.1)))[j]?).getD .non)=(ts.map fun u=>(Ma.ut t b X u.2.2 u.1,Ma.ut t b Y u.2.2 u.2.1)).map spq:=by
  have:=SD.range_getD (ts.map fun u=>spq (Ma.ut t b X u.2.2 u.1,Ma.ut t b Y u.2.2 u.2.1))
  rw[A4]at this ⊢
  rw[this,C3];rfl
 dsimp only;rw[e1];refine rtn (k _ p' _ (sT.fresh hp2) ag (fun v hv=>?_) (by rw[A4];omega));obtain⟨u,hu,rfl⟩:=Bo.mp hv;obtain⟨hx,hy,hm⟩:=g3 u hu;exact⟨(S.bx ⟨hm.1,by omega⟩ ⟨by omega,by omega⟩).mono (by decide),(S.by' ⟨hm.1,by omega⟩ ⟨by omega,by omega⟩).mono (by decide)⟩
theorem gp:FnScope ["_law_shuts","_law_spot_here"] ["_law_shuts","_law_spot_here"] (ak cV):=by walk_at "sc"
theorem sa{M:MH}{p:Addr}{o:MO}(hp:M p=none){v:D}{ds:List D}(h:qx M v ds):qx (aA M p o) v ds:=by
 cases v with
 |ref a=>show(aA M p o) a=_;rw[ao (aw h hp)];exact h
 |tup _=>exact h
 |rol _=>exact h
 |_=>exact h.elim
theorem oj{M:MH}:∀bs:List Bool,Pds M (bs.map D.bl) (bs.map PyData.bool)
 |[]=>.nil
 |b::bs=>.cons (Pd.of rfl) (oj bs)
theorem nT:∀bs:List Bool,PyData.canLayAll0 (bs.map PyData.bool)=true
 |[]=>rfl
 |b::bs=>nT bs
theorem mY:∀bs:List Bool,(bs.map PyData.bool).any (fun q=>Bi q (.bool true))=bs.any id
 |[]=>rfl
 |b::bs=>by rw[Av,Cp,Cp,mY bs];cases b<;>rfl
inductive Cn_law_covered(x y:D)(M:MH)(Q:DK):Prop
 |mk (us:List Pc) (v:Sq) (_:qx M x (us.map pcq)) (_:y=spq v) (_:us.length<=1000) (_:(∀u∈us,BS u.1/\BS u.2)) (_:(Ma.Bq 1900 v.1/\Ma.Bq 1900 v.2)) (_:Q (.bl (us.any fun u=>decide (On u v))) M)
theorem d3(T:Tx K mg):Cal P w K mg base 5 "_law_covered" (sD2 Cn_law_covered):=by
 refine aV (k:=4) T.f_law_covered gp fun f cdv A outer s H E hr=>⟨_,(aq (az (dP (qY (iN hr)) eP (kQ (CScope.of (xs:=["_law_shut"]) (js:=[1]) rfl) rfl (b6 (dv 0)) (fun _ _ _ _=>dR) (fun _ _ _ _=>(ai (iQ T).m hr (ab (dv 0) (ab (dv 1) ae))))) (by with_unfolding_all rfl)))),fun _ _ M Q h=>?_⟩;obtain⟨us,v,hx,rfl,hn,hB,hv,k⟩:=h;have ul:(us.map pcq).length=us.length:=A4 ..;refine⟨_,rfl,us.map pcq,hx,comp_map (fun j=>(((us.map fun u=>D.bl (decide (On u v))))[j]?).getD .non) (by show(us.map pcq).length<=_;omega) (fun p ys hp=>sa hp hx) ?_ (fun p hp=>?_)⟩
 ·intro j e M2 hj he _;have he:(us.map pcq)[j]?=some e:=he;rw[Az]at he;cases eu:us[j]? with
  |none=>rw[eu]at he;cases he
  |some u=>
   rw[eu]at he
   cases he
   obtain⟨⟨b1,b2⟩,b3,b4⟩:=hB u (Ax eu)
   refine⟨_,rfl,fun K hK=>?_⟩
   have hK:=hK _ .refl
   rw[getD_map eu]at hK
   exact⟨_,rfl,_,rfl,1900,_,_,_,_,v.1,v.2,rfl,rfl,b1.mono (by decide),b2.mono (by decide),b3.mono (by decide),b4.mono (by decide),hv.1,hv.2,by decide,hK⟩
 have e1:(BV (us.map pcq).length).map (fun j=>(((us.map fun u=>D.bl (decide (On u v))))[j]?).getD .non)=(us.map fun u=>decide (On u v)).map D.bl:=by
  have:=SD.range_getD (us.map fun u=>D.bl (decide (On u v)))
  rw[A4]at this ⊢
  rw[this,C3];rfl
 dsimp only;rw[e1];refine⟨.bool true,_,Pd.of rfl,.inl (.lst ag (oj _)),rfl,nT _,?_⟩;rw[mY,List.any_map];exact⟨M,.new hp .refl,k⟩
theorem dM:FnScope ["_law_script","_law_k","_law_row","_law_scale_here","_law_shuts","_law_made_here","_law_found","_law_spot_here"] ["_law_script"] (ak qe):=by walk_at "sc"
def uq(t b X Y:Int)(w:Wl):Pc:=(eaq t b X Y w,ebq t b X Y w)
theorem wZ(t b X Y:Int)(ws:List Wl):ws.map (rwl t b X Y)=(ws.map (uq t b X Y)).map pcq:=by rw[C3];rfl
theorem sQ{t b X Y:Int}(S:Scl t b X Y){ws:List Wl}(hB:∀w∈ws,Bw 30 w):dO (ws.map (uq t b X Y))/\(∀u∈ws.map (uq t b X Y),BS u.1/\BS u.2)/\∀w∈ws.map (uq t b X Y),∀o∈ws.map (uq t b X Y),∀v,mtQ w o=.tup [.str "spot",spq v]->BS v:=by
 refine⟨fun u hu=>?_,fun u hu=>?_,fun u hu o ho v e=>?_⟩
 ·obtain⟨w,hw,rfl⟩:=Bo.mp hu;exact(gM S.t0 S.b0).mpr (hB w hw).o
 ·obtain⟨w,hw,rfl⟩:=Bo.mp hu;exact xS S (hB w hw)
 ·obtain⟨w,hw,rfl⟩:=Bo.mp hu;obtain⟨w',hw',rfl⟩:=Bo.mp ho;have e:mtD t b X Y w w'=.tup [.str "spot",spq v]:=e;rcases qm S (hB w hw) (hB w' hw')with q|⟨u,q,bu⟩|⟨d,q⟩
  ·rw[q]at e;cases e
  ·rw[q]at e;rw[<-gb.mp e];exact bu
  ·rw[q]at e;exact absurd (ff e) (by decide)
theorem wK{us qs:List Pc}(hB:∀u∈us,BS u.1/\BS u.2)(hS:∀w∈us,∀o∈us,∀v,mtQ w o=.tup [.str "spot",spq v]->BS v)(h:RowQ us qs):∀y∈qs,BS y.1/\BS y.2:=fun y hy=>by
 obtain⟨w,hw,c,ic,n⟩:=(h.me y).mp hy
 have bc:∀v∈c,BS v:=fun v hv=>by
  obtain⟨o,ho,q⟩:=(ic.me v).mp hv;rcases q with⟨_,rfl⟩|⟨_,rfl⟩|q
  ·exact(hB o ho).1
  ·exact(hB o ho).2
  ·exact hS w hw o ho v q
 exact⟨bc _ (bW n).1,bc _ (bW n).2⟩
theorem wt{us qs:List Pc}(hu:dO us)(bs:∀y∈qs,BS y.1/\BS y.2)(h:RowQ us qs):∀w∈qs,∀o∈qs,∀v,mtQ w o=.tup [.str "spot",spq v]->BS v:=fun w hw o ho v e=>by
 have:=(gH hu h hw).me v;have m:v∈[w.1,w.2]:=this.mpr ⟨o,ho,.inr (.inr e)⟩;rcases Ba.mp m with q|q
 ·rw[q];exact(bs w hw).1
 ·rw[AY.mp q];exact(bs w hw).2
theorem rm(qs:List Pc)(M:MH)(Q:DK)(q:Q (.bl false) M):vQ (.tup (qs.map pcq)) (.tup (qs.map pcq)) M Q:=by
 have sh:C2 (.tuple (qs.map pcP))=true:=by
  have h2:=nz qs
  unfold C2
  rw[Bv]
  refine⟨by rw[PyData.canLay0];exact nI qs,decide_eq_true ?_⟩
  rw[PyData.depth]
  omega
 refine⟨_,_,.tup (jY qs),.tup (jY qs),sh,sh,?_⟩;rw[Bi,gJ];exact q
inductive Cn_law(x:D)(M:MH)(Q:DK):Prop
 |mk (ns:_) (hh0:x=.rol (BZ D.int ns)) (hh1:ns.length<=63) (hh2:Tb M) (hh3:∀M',Q (.bl true) M'):Cn_law x M Q
def fS:SpD:=fun ds M Q=>match ds with
 |[x]=>Cn_law x M Q
 |_=>False
theorem wL:∀ds M Q,fS ds M Q->ds.length=1:=fun ds M Q h=>by
 unfold fS at h;split at h
 ·rfl
 ·exact h.elim
theorem zv{P:Au}{w:AU}{K:A0}{mg:Str->Option A1}{fa:Addr}(T:Tx K mg)(hfa:mg "law"=some (.ref fa)):∃fd,(∀(s:A2) (u:A1),BindsTo s fd ⟨[u],[]⟩ [("_law_script",u)])/\∀base:Heap,FnOk P w K mg base CX0 10 fa fd ["_law_script"] (d6 K fS):=by
 refine Ai (k:=9) (N:=["_law_script","_law_k","_law_row","_law_scale_here","_law_shuts","_law_made_here","_law_found","_law_spot_here"]) T.f_law hfa dM (fun _ _ _ _ _ _ us hl=>by obtain⟨_,rfl⟩:=SD.xg hl;rfl) wL fun base f cdv A outer s H E hr=>⟨_,(aj (nC B1 rfl rfl T.b_range (ab (aP (nP rfl hr.units) rfl T.b_max pS (ab af (ab (aP (mX rfl hr.units) rfl T.b_min qp (ab af (ab (aP ee rfl T.b_len dG (ab (dv 0) ae)) ae))) ae))) ae) (aB 1 dM.nd) (aj (aH 2 dM.nd (fG (ab (ai (iB T).m hr (ab (dv 0) (ab (dv 1) ae))) (ab af ae)))) (aj (aH 3 dM.nd (ai (kR T).m hr (ab (dv 2) ae))) (aj (aH 4 dM.nd (ai (oY T).m hr (ab (dv 2) (ab af (ab af ae))))) (aj (aH 5 dM.nd (aU (dJ rfl) rfl T.b_list dW (ab (ai (mv T).m hr (ab (dv 3) (ab (dv 4) ae))) ae))) (aj (aH 6 dM.nd (ai (lG T).m hr (ab (dv 5) ae))) (aj (aW (mG (vz (aL (ij hr.units) (ai (oK T).m hr (ab (aU (dJ rfl) rfl T.b_list dW (ab (dv 6) ae)) ae)) (dv 6)) (sk (mG (gQ (aL (ez hr.units) (aP ee rfl T.b_len dG (ab (dv 6) ae)) af) (e7 (aL (ij hr.units) (ai (lG T).m hr (ab (aU (dJ rfl) rfl T.b_list dW (ab (dv 6) ae)) ae)) (dv 6)))))))) (aq (az eP)) aJ) (aq (cI B1 rfl (b6 (ai (lp T).m hr (ab (dv 2) (ab (dv 3) (ab (dv 4) ae))))) (aB 7 dM.nd) (aq (aW (aL (ij hr.units) (ai (d3 T).m hr (ab (dv 5) (ab (dv 7) ae))) (ai (d3 T).m hr (ab (dv 6) (ab (dv 7) ae)))) (aq (az eP)) aJ))))))))))) (aq (az eP))),fun ds M Q h=>?r⟩
 case r=>
  unfold fS at h
  split at h
  case h_2=>exact h.elim
  obtain⟨ns,rfl,hl,hT,k⟩:=h
  refine⟨_,rfl,(max 1 (min 2 (((BZ D.int ns).length:Nat):Int))).toNat,?_,by omega,fun i δ M=>∃o1 o2 o3 o4 o5 o6 o7,δ=[some (.rol (BZ D.int ns)),o1,o2,o3,o4,o5,o6,o7]/\Tb M,⟨_,_,_,_,_,_,_,rfl,hT⟩,?_,?_⟩
  ·rw[Int.toNat_of_nonneg (by omega)]
  rotate_left
  ·rintro δ M ⟨o1,o2,o3,o4,o5,o6,o7,rfl,hT⟩;exact rtn (k _)
  rintro i δ M hi ⟨o1,o2,o3,o4,o5,o6,o7,rfl,hT⟩
  refine⟨_,rfl,_,rfl,ns,i,rfl,rfl,by omega,fun z=>⟨nbL rfl,fun row hrow=>?_⟩⟩
  refine⟨_,rfl,row,z,0,rfl,ag,by decide,by decide,fun x1 c1 t b sx sy S h1 h2=>?_⟩
  refine⟨_,rfl,row,x1,c1,5,5,rfl,rfl,by decide,⟨rfl,by decide,by decide⟩,ag,h1,by omega,fun M2 x2 c2 l ws nrl sT hr2 hl2 g0 g1 g2 g3=>?_⟩
  have hTa:Tb (aA (aA M row (.lst [.int z,.int 0])) row (.lst [.int x1,.int c1])):=(hT.new hrow).upd ag
  have hT2:Tb M2:=hTa.but ag sT
  clear hTa sT
  have hB:∀w∈ws,Bw 30 w:=fun w hw=>(wy (g3 w hw)).mono (by decide)
  have hW:∀w∈ws,Uok (10^6) w:=fun w hw=>by
   have:=(hB w hw).u
   unfold Uok at *
   omega
  obtain⟨uP,uB,uS⟩:=sQ S hB
  refine⟨_,rfl,_,rfl,t,b,sx,sy,l,ws,rfl,rfl,hl2,S,by omega,hW,.inl fun p hp=>?_⟩
  rw[wZ]
  have ul:(ws.map (uq t b sx sy)).length=ws.length:=A4 ..
  generalize hus:ws.map (uq t b sx sy)=us at uP uB uS ul ⊢
  have hT3:=hT2.new (o:=.lst (us.map pcq)) hp
  have hl3:(aA M2 p (.lst (us.map pcq))) l=some (.lst (ws.map uw)):=by rw[ao (aw hl2 hp)];exact hl2
  have hr3:(aA M2 p (.lst (us.map pcq))) row=some (.lst [.int x2,.int c2]):=by rw[ao (aw hr2 hp)];exact hr2
  have hp3:(aA M2 p (.lst (us.map pcq))) p=some (.lst (us.map pcq)):=ag
  generalize aA M2 p (.lst (us.map pcq))=M3 at hT3 hl3 hr3 hp3 ⊢
  clear hl2 hr2 hT2 hp
  refine⟨_,rfl,p,us,rfl,hp3,by omega,uP,uB,uS,hT3,fun ps nd me=>?_,fun M4 qs hT4 sT4 hR hC=>?_⟩
  ·have:=count_le uP nd me;have:us.length*us.length<=6*6:=Nat.mul_le_mul (by omega) (by omega);omega
  have hl4:=sT4 _ _ (hT3.eg hl3) hl3
  have hr4:=sT4 _ _ (hT3.eg hr3) hr3
  have hp4:=sT4 _ _ (hT3.eg hp3) hp3
  have qB:=wK uB uS hR
  have qn:qs.Nodup:=vC p7 hR.up
  have q40:qs.length<=40:=by
   have:=count_le uP qn hR.me
   have:us.length*us.length<=6*6:=Nat.mul_le_mul (by omega) (by omega)
   omega
  have qF:∀(i:Nat) y,qs[i]?=some y->∀z∈qs.take i,iV y z:=fun i y e z hz=>by refine sW uP ((hR.me y).mp (Ax e)) ((hR.me z).mp (List.mem_of_mem_take hz)) fun q=>?_;obtain⟨j,hj,ej⟩:=C0 hz;obtain⟨li,ei⟩:=A6.mp e;rw[Bu]at hj;rw[List.getElem_take]at ej;exact AL.mp qn j i (by omega) li (by omega) (ej.trans (q.symm.trans ei.symm))
  (try dsimp only[SD.bg])
  have rS:=qG uP hR
  refine dh (fun δ M'=>δ=[some (.rol (BZ D.int ns)),some (.int (i:Int)),some (.ref row),some (scl t b sx sy),some (.ref l),some (.ref p),some (.tup (qs.map pcq)),o7]/\Tb M'/\M' l=some (.lst (ws.map uw))/\M' row=some (.lst [.int x2,.int c2])/\M' p=some (.lst (us.map pcq))) ?_ (fun hu=>?_)
  rotate_left
  ·refine⟨_,rfl,.inl fun p5 hp5=>?_⟩;have hT5:=hT4.new (o:=.lst (qs.map pcq)) hp5;have hl5:(aA M4 p5 (.lst (qs.map pcq))) l=some (.lst (ws.map uw)):=by rw[ao (aw hl4 hp5)];exact hl4
   have hr5:(aA M4 p5 (.lst (qs.map pcq))) row=some (.lst [.int x2,.int c2]):=by rw[ao (aw hr4 hp5)];exact hr4
   have hp5':(aA M4 p5 (.lst (qs.map pcq))) p=some (.lst (us.map pcq)):=by rw[ao (aw hp4 hp5)];exact hp4
   refine⟨p5,qs,rfl,ag,q40,qB,qF,?_⟩;generalize aA M4 p5 (.lst (qs.map pcq))=M5 at hT5 hl5 hr5 hp5' ⊢;refine⟨_,rfl,rm qs _ _ ⟨_,rfl,ec rfl ?_⟩⟩;refine⟨_,rfl,trivial,_,rfl,?_⟩;refine b7 (fun h=>?_) (fun h=>ec rfl (hu _ _ ⟨rfl,hT5,hl5,hr5,hp5'⟩))
   have q25:qs.length<25:=by
    have:=of_decide_eq_true h
    rw[A4]at this;omega
   refine⟨_,rfl,.inl fun p6 hp6=>?_⟩;have hT6:=hT5.new (o:=.lst (qs.map pcq)) hp6;have sb6:SD.Sub M5 (aA M5 p6 (.lst (qs.map pcq))):=.new hp6 .refl;refine⟨p6,qs,rfl,ag,by omega,gZ uP hR,qB,wt uP qB hR,hT6,fun ps nd me=>?_,fun M7 rs hT7 sT7 hR7 _=>?_⟩
   ·have:=wR nd qn fun y=>(me y).trans (rS.me y).symm;omega
   ·rw[uniq p7 hR7.up rS.up fun y=>(hR7.me y).trans (rS.me y).symm];refine⟨_,rfl,rm qs _ _ ⟨_,rfl,ec rfl (hu _ _ ⟨rfl,hT7,?_,?_,?_⟩)⟩⟩
    ·exact sT7 _ _ (hT6.eg (sb6 _ _ hl5)) (sb6 _ _ hl5)
    ·exact sT7 _ _ (hT6.eg (sb6 _ _ hr5)) (sb6 _ _ hr5)
    ·exact sT7 _ _ (hT6.eg (sb6 _ _ hp5')) (sb6 _ _ hp5')
  clear hl4 hr4 hp4 hT4 sT4
  rintro δ M5 ⟨rfl,hT5,hl5,hr5,hp5⟩
  have npr:p≠row:=fun e=>by
   subst e;rw[hr5]at hp5;cases us with
   |nil=>cases hp5
   |cons u us=>cases hp5
  refine⟨_,rfl,_,rfl,_,rfl,row,l,x2,c2,t,b,sx,sy,ws,rfl,rfl,rfl,nrl,hr5,hl5,g0,by omega,S,by omega,hB,fun M8 zz vs sT8 hz8 bv ln=>?_⟩
  have hT8:Tb M8:=hT5.but hr5 sT8
  have hp8:=sT8 _ _ npr hp5
  refine⟨vs.map spq,hz8,?_⟩
  refine⟨fun j δ M'=>M'=M8/\∃o7,δ=[some (.rol (BZ D.int ns)),some (.int (i:Int)),some (.ref row),some (scl t b sx sy),some (.ref l),some (.ref p),some (.tup (qs.map pcq)),o7],⟨rfl,_,rfl⟩,fun j δ M' _ q=>by obtain⟨rfl,_⟩:=q;exact hz8,?_,?_⟩
  ·rintro j d δ M' hj hd ⟨rfl,o7,rfl⟩;have hd:(vs.map spq)[j]?=some d:=hd;rw[Az]at hd;cases ev:vs[j]? with
   |none=>rw[ev]at hd;cases hd
   |some v=>
    rw[ev]at hd
    cases hd
    have bv':=bv v (Ax ev)
    have e:(us.any fun u=>decide (On u v))=(qs.any fun u=>decide (On u v)):=by
     have:=cover uP hR hC v
     rw[Bool.eq_iff_iff,List.any_eq_true,List.any_eq_true]
     simpa using this
    refine⟨_,rfl,_,rfl,us,v,hp8,rfl,by omega,uB,bv',?_⟩
    refine⟨_,rfl,_,rfl,qs,v,rfl,rfl,by omega,qB,bv',?_⟩
    rw[e]
    generalize (qs.any fun u=>decide (On u v))=bb
    refine⟨_,rfl,?_⟩
    cases bb<;>exact ec rfl ⟨rfl,_,rfl⟩
  ·rintro δ M' ⟨rfl,o7,rfl⟩;exact⟨_,_,_,_,_,_,_,rfl,hT8⟩
theorem vZ(ns:List Int)(M:MH)(h:ns.length<=63)(hM:M 280=some (so #[])):fS [.rol (ns.map D.int)] M (fun d _=>d=.bl true):=⟨ns,rfl,h,.inl hM,fun _=>rfl⟩
def kE(P:AA)(n:String)(k:Nat)(v:A1):Bk:={ hash:=PyData.keyHash P (Bf n),key:=.str (Bf n) k,val:=v }
def kF(i:Nat)(n m:String)(k c:Nat):Obj:={ cls:=.type "function",data:=.func { name:=Bf n,qualname:=Bf n,params:=aZ (top i),body:=.stmts (aN (top i)),scope:=ak (top i),globals:=↑3,closure:=[],defaults:=.none,kwdefaults:=.none,pyModule:=.str (Bf m) k,code:=.ref c } }
def kD0(P:AA):List Bk:=[kE P "__name__" ↑165 (.str "law_spotlook_k12_whole_parted_covers_the_sam" 565),kE P "__doc__" ↑166 (.none),kE P "__package__" ↑167 (.none),kE P "__loader__" ↑168 (.builtin "__main__.__loader__#opaque"),kE P "__spec__" ↑169 (.none),kE P "__annotations__" ↑170 (.ref ↑6),kE P "__builtins__" ↑171 (.ref ↑4),kE P "__file__" ↑173 (.str "/claim/cut.py" 172)]
def kD1(P:AA):List Bk:=[kE P "__cached__" ↑174 (.none),kE P "SpotError" ↑206 (.ref ↑24),kE P "NoFraction" ↑222 (.ref ↑37),kE P "TooMany" ↑247 (.ref ↑56),kE P "Crossing" ↑274 (.ref ↑75),kE P "greatest_divisor" ↑284 (.ref ↑84),kE P "fraction" ↑293 (.ref ↑91),kE P "plus" ↑301 (.ref ↑98)]
def kD2(P:AA):List Bk:=[kE P "less" ↑309 (.ref ↑105),kE P "times" ↑317 (.ref ↑112),kE P "over" ↑325 (.ref ↑119),kE P "is_less" ↑333 (.ref ↑126),kE P "is_ahead" ↑343 (.ref ↑133),kE P "later_of" ↑351 (.ref ↑140),kE P "earlier_of" ↑359 (.ref ↑147),kE P "place_among" ↑370 (.ref ↑154)]
def kD3(P:AA):List Bk:=[kE P "ahead_first" ↑379 (.ref ↑161),kE P "own_spot" ↑388 (.ref ↑168),kE P "own_wall" ↑395 (.ref ↑175),kE P "gap" ↑403 (.ref ↑182),kE P "lean" ↑421 (.ref ↑189),kE P "side_of" ↑430 (.ref ↑196),kE P "lies_on" ↑440 (.ref ↑203),kE P "MOST_WALLS" ↑444 (.int 40 443)]
def kD4(P:AA):List Bk:=[kE P "meeting" ↑454 (.ref ↑210),kE P "meeting_in_line" ↑464 (.ref ↑217),kE P "crossing_spot" ↑478 (.ref ↑224),kE P "number_between" ↑487 (.ref ↑231),kE P "meet_as_in_plots" ↑496 (.ref ↑238),kE P "first_crossed" ↑506 (.ref ↑245),kE P "plot_of" ↑516 (.ref ↑252),kE P "own_plot" ↑522 (.ref ↑257)]
def kD5(P:AA):List Bk:=[kE P "corners_of" ↑532 (.ref ↑264),kE P "parted" ↑546 (.ref ↑271),kE P "cuts_of" ↑558 (.ref ↑278),kE P "by_ends" ↑564 (.ref ↑283),kE P "_law_cell_at" ↑574 (.ref ↑290),kE P "_law_take" ↑584 (.ref ↑297),kE P "_law_low" ↑594 (.ref ↑304),kE P "_law_scale" ↑604 (.ref ↑311)]
def kD6(P:AA):List Bk:=[kE P "_law_spot" ↑616 (.ref ↑318),kE P "_law_made" ↑622 (.ref ↑323),kE P "_law_any" ↑635 (.ref ↑330),kE P "_law_spots" ↑641 (.ref ↑335),kE P "_law_covered" ↑647 (.ref ↑340),kE P "law" ↑661 (.ref ↑347)]
def kG(P:AA):Obj:={ cls:=.type "dict",data:=.dict (AN (kD0 P++(kD1 P++(kD2 P++(kD3 P++(kD4 P++(kD5 P++(kD6 P)))))))) 54 }
def kCo(n:String)(a0:Nat)(a1:Nat)(a2:Nat)(a3:Nat)(a4:Nat)(a8:Nat)(a11:Nat)(a13:Nat)(a14:Nat)(a15:Nat)(a16:Nat)(a17:Nat)(a18:Nat):Obj:={ cls:=.type "code",data:=.fields #[.str (Bf n) a0,.str (Bf n) a1,.str "/claim/cut.py" a2,.int (Cu a3) 0,.int (Cu a4) 0,.int 0 0,.int 0 0,.int 3 0,.ref a8,.bool true,.int 181 0,.ref a11,.none,.ref a13,.ref a14,.ref a15,.int (Cu a16) 0,.int (Cu a17) 0,.str "/claim/cut.py" a18] }
def kN(l:List Obj)(i:Nat):Obj:=l.getD i { cls:=.none,data:=.dict #[] }
def zzD(n q:Str)(a b c l k f r:Nat)(t:Bool)(s:Nat)(x y z:A1)(d e:Nat):Obj:={ cls:=.type "code",data:=.fields #[.str n a,.str q b,.str "/claim/cut.py" c,.int l 0,.int k 0,.int 0 0,.int 0 0,.int f 0,.ref r,.bool t,.int 181 0,.ref s,.none,x,y,z,.int d 0,.int l 0,.str "/claim/cut.py" e] }
def zzK(n:Str)(s g a i j:Nat):Obj:={ cls:=.type "type",data:=.cls { name:=n,bases:=[.ref 24],mro:=[.ref s,.ref 24,.type "ValueError",.type "Exception",.type "BaseException",.type "object"],ns:=g,qualname:=n,hasDict:=true,slotNames:=[],subclasses:=[],abstract:=false,collection:=none,hasDel:=false },slots:=#[some (.ref a),none,some (.str n i),some (.str n j),some (.builtin "ValueError.__new__"),some (.bool true)] }
def zzR(n:Str)(s g a i j:Nat):Obj:={ cls:=.type "type",data:=.cls { name:=n,bases:=[.ref ↑24],mro:=[.ref s,.ref ↑24,.type "ValueError",.type "Exception",.type "BaseException",.type "object"],ns:=g,qualname:=n,hasDict:=true,slotNames:=[],subclasses:=[],abstract:=false,collection:=none,hasDel:=false },slots:=#[some (.ref a),none,some (.str n i),some (.str n j),some (.builtin "ValueError.__new__"),some (.bool true)] }
def zzN:A1:=.str "law_spotlook_k12_whole_parted_covers_the_sam" 565
def zzF(i:Nat)(n:String)(c:Nat):Obj:=kF i n "law_spotlook_k12_whole_parted_covers_the_sam" ↑565 c
def kL0:List Obj:=[{ cls:=.type "module",dict:=some ↑0,data:=.plain },kCo "greatest_divisor" ↑277 ↑278 ↑279 ↑18 ↑2 ↑78 ↑79 ↑80 ↑81 ↑82 ↑282 ↑18 ↑283,kF ↑6 "greatest_divisor" "spotlook.fractions" ↑275 ↑83,kCo "fraction" ↑285 ↑286 ↑287 ↑22 ↑2 ↑85 ↑86 ↑87 ↑88 ↑89 ↑291 ↑22 ↑292,kF ↑7 "fraction" "spotlook.fractions" ↑275 ↑90,kCo "plus" ↑294 ↑295 ↑296 ↑29 ↑2 ↑92 ↑93 ↑94 ↑95 ↑96 ↑299 ↑29 ↑300,kF ↑8 "plus" "spotlook.fractions" ↑275 ↑97,kCo "less" ↑302 ↑303 ↑304 ↑31 ↑2 ↑99 ↑100 ↑101 ↑102 ↑103 ↑307 ↑31 ↑308]
def kL1:List Obj:=[kF ↑9 "less" "spotlook.fractions" ↑275 ↑104,kCo "times" ↑310 ↑311 ↑312 ↑33 ↑2 ↑106 ↑107 ↑108 ↑109 ↑110 ↑315 ↑33 ↑316,kF ↑10 "times" "spotlook.fractions" ↑275 ↑111,kCo "over" ↑318 ↑319 ↑320 ↑35 ↑2 ↑113 ↑114 ↑115 ↑116 ↑117 ↑323 ↑35 ↑324,kF ↑11 "over" "spotlook.fractions" ↑275 ↑118,kCo "is_less" ↑326 ↑327 ↑328 ↑37 ↑2 ↑120 ↑121 ↑122 ↑123 ↑124 ↑331 ↑37 ↑332,kF ↑12 "is_less" "spotlook.fractions" ↑275 ↑125,kCo "is_ahead" ↑336 ↑337 ↑338 ↑40 ↑2 ↑127 ↑128 ↑129 ↑130 ↑131 ↑341 ↑40 ↑342]
def kL2:List Obj:=[kF ↑14 "is_ahead" "spotlook.spots" ↑334 ↑132,kCo "later_of" ↑344 ↑345 ↑346 ↑44 ↑2 ↑134 ↑135 ↑136 ↑137 ↑138 ↑349 ↑44 ↑350,kF ↑15 "later_of" "spotlook.spots" ↑334 ↑139,kCo "earlier_of" ↑352 ↑353 ↑354 ↑46 ↑2 ↑141 ↑142 ↑143 ↑144 ↑145 ↑357 ↑46 ↑358,kF ↑16 "earlier_of" "spotlook.spots" ↑334 ↑146,kCo "place_among" ↑360 ↑361 ↑362 ↑48 ↑2 ↑148 ↑149 ↑150 ↑151 ↑152 ↑368 ↑48 ↑369,kF ↑17 "place_among" "spotlook.spots" ↑334 ↑153,kCo "ahead_first" ↑371 ↑372 ↑373 ↑57 ↑1 ↑155 ↑156 ↑157 ↑158 ↑159 ↑377 ↑57 ↑378]
def kL3:List Obj:=[kF ↑18 "ahead_first" "spotlook.spots" ↑334 ↑160,kCo "own_spot" ↑380 ↑381 ↑382 ↑62 ↑1 ↑162 ↑163 ↑164 ↑165 ↑166 ↑386 ↑62 ↑387,kF ↑19 "own_spot" "spotlook.spots" ↑334 ↑167,kCo "own_wall" ↑389 ↑390 ↑391 ↑65 ↑1 ↑169 ↑170 ↑171 ↑172 ↑173 ↑393 ↑65 ↑394,kF ↑20 "own_wall" "spotlook.spots" ↑334 ↑174,kCo "gap" ↑396 ↑397 ↑398 ↑67 ↑2 ↑176 ↑177 ↑178 ↑179 ↑180 ↑401 ↑67 ↑402,kF ↑21 "gap" "spotlook.spots" ↑334 ↑181,kCo "lean" ↑404 ↑405 ↑406 ↑69 ↑2 ↑183 ↑184 ↑185 ↑186 ↑187 ↑419 ↑69 ↑420]
def kL4:List Obj:=[kF ↑22 "lean" "spotlook.spots" ↑334 ↑188,kCo "side_of" ↑422 ↑423 ↑424 ↑75 ↑2 ↑190 ↑191 ↑192 ↑193 ↑194 ↑428 ↑75 ↑429,kF ↑23 "side_of" "spotlook.spots" ↑334 ↑195,kCo "lies_on" ↑431 ↑432 ↑433 ↑82 ↑2 ↑197 ↑198 ↑199 ↑200 ↑201 ↑438 ↑82 ↑439,kF ↑24 "lies_on" "spotlook.spots" ↑334 ↑202,kCo "meeting" ↑445 ↑446 ↑447 ↑87 ↑2 ↑204 ↑205 ↑206 ↑207 ↑208 ↑452 ↑87 ↑453,kF ↑27 "meeting" "spotlook.plots" ↑441 ↑209,kCo "meeting_in_line" ↑455 ↑456 ↑457 ↑94 ↑2 ↑211 ↑212 ↑213 ↑214 ↑215 ↑462 ↑94 ↑463]
def kL5:List Obj:=[kF ↑28 "meeting_in_line" "spotlook.plots" ↑441 ↑216,kCo "crossing_spot" ↑465 ↑466 ↑467 ↑102 ↑2 ↑218 ↑219 ↑220 ↑221 ↑222 ↑476 ↑102 ↑477,kF ↑29 "crossing_spot" "spotlook.plots" ↑441 ↑223,kCo "number_between" ↑479 ↑480 ↑481 ↑109 ↑3 ↑225 ↑226 ↑227 ↑228 ↑229 ↑485 ↑109 ↑486,kF ↑30 "number_between" "spotlook.plots" ↑441 ↑230,kCo "meet_as_in_plots" ↑488 ↑489 ↑490 ↑111 ↑2 ↑232 ↑233 ↑234 ↑235 ↑236 ↑494 ↑111 ↑495,kF ↑31 "meet_as_in_plots" "spotlook.plots" ↑441 ↑237,kCo "first_crossed" ↑497 ↑498 ↑499 ↑116 ↑2 ↑239 ↑240 ↑241 ↑242 ↑243 ↑504 ↑116 ↑505]
def kL6:List Obj:=[kF ↑32 "first_crossed" "spotlook.plots" ↑441 ↑244,kCo "plot_of" ↑507 ↑508 ↑509 ↑121 ↑1 ↑246 ↑247 ↑248 ↑249 ↑250 ↑514 ↑121 ↑515,kF ↑33 "plot_of" "spotlook.plots" ↑441 ↑251,(zzD "own_plot" "own_plot" 517 518 519 129 1 3 253 true 254 .none .none (.ref 255) 520 521),kF ↑34 "own_plot" "spotlook.plots" ↑441 ↑256,kCo "corners_of" ↑523 ↑524 ↑525 ↑131 ↑1 ↑258 ↑259 ↑260 ↑261 ↑262 ↑530 ↑131 ↑531,kF ↑35 "corners_of" "spotlook.plots" ↑441 ↑263,kCo "parted" ↑535 ↑536 ↑537 ↑138 ↑1 ↑265 ↑266 ↑267 ↑268 ↑269 ↑544 ↑138 ↑545]
def kL7:List Obj:=[kF ↑37 "parted" "spotlook.parting" ↑533 ↑270,kCo "cuts_of" ↑547 ↑548 ↑549 ↑147 ↑2 ↑272 ↑273 ↑274 ↑275 ↑276 ↑556 ↑147 ↑557,kF ↑38 "cuts_of" "spotlook.parting" ↑533 ↑277,(zzD "by_ends" "by_ends" 559 560 561 157 1 3 279 true 280 .none .none (.ref 281) 562 563),kF ↑39 "by_ends" "spotlook.parting" ↑533 ↑282,kCo "_law_cell_at" ↑567 ↑568 ↑569 ↑161 ↑2 ↑284 ↑285 ↑286 ↑287 ↑288 ↑572 ↑161 ↑573,zzF ↑41 "_law_cell_at" ↑289,kCo "_law_take" ↑575 ↑576 ↑577 ↑165 ↑2 ↑291 ↑292 ↑293 ↑294 ↑295 ↑582 ↑165 ↑583]
def kL8:List Obj:=[zzF ↑42 "_law_take" ↑296,kCo "_law_low" ↑585 ↑586 ↑587 ↑174 ↑2 ↑298 ↑299 ↑300 ↑301 ↑302 ↑592 ↑174 ↑593,zzF ↑43 "_law_low" ↑303,kCo "_law_scale" ↑595 ↑596 ↑597 ↑182 ↑1 ↑305 ↑306 ↑307 ↑308 ↑309 ↑602 ↑182 ↑603,zzF ↑44 "_law_scale" ↑310,kCo "_law_spot" ↑605 ↑606 ↑607 ↑188 ↑2 ↑312 ↑313 ↑314 ↑315 ↑316 ↑614 ↑188 ↑615,zzF ↑45 "_law_spot" ↑317,(zzD "_law_made" "_law_made" 617 618 619 191 2 3 319 true 320 .none .none (.ref 321) 620 621)]
def kL9:List Obj:=[zzF ↑46 "_law_made" ↑322,kCo "_law_any" ↑623 ↑624 ↑625 ↑193 ↑3 ↑324 ↑325 ↑326 ↑327 ↑328 ↑633 ↑193 ↑634,zzF ↑47 "_law_any" ↑329,(zzD "_law_spots" "_law_spots" 636 637 638 206 3 3 331 true 332 .none .none (.ref 333) 639 640),zzF ↑48 "_law_spots" ↑334,(zzD "_law_covered" "_law_covered" 642 643 644 216 2 3 336 true 337 .none .none (.ref 338) 645 646),zzF ↑49 "_law_covered" ↑339,kCo "law" ↑648 ↑649 ↑650 ↑218 ↑1 ↑341 ↑342 ↑343 ↑344 ↑345 ↑659 ↑218 ↑660]
def kL10:List Obj:=[zzF ↑50 "law" ↑346]
def kK:AA->A0:=fun P=>(↑3,kG P)::(↑4,kN kL0 ↑0)::(↑83,kN kL0 ↑1)::(↑84,kN kL0 ↑2)::(↑90,kN kL0 ↑3)::(↑91,kN kL0 ↑4)::(↑97,kN kL0 ↑5)::(↑98,kN kL0 ↑6)::(↑104,kN kL0 ↑7)::(↑105,kN kL1 ↑0)::(↑111,kN kL1 ↑1)::(↑112,kN kL1 ↑2)::(↑118,kN kL1 ↑3)::(↑119,kN kL1 ↑4)::(↑125,kN kL1 ↑5)::(↑126,kN kL1 ↑6)::(↑132,kN kL1 ↑7)::(↑133,kN kL2 ↑0)::(↑139,kN kL2 ↑1)::(↑140,kN kL2 ↑2)::(↑146,kN kL2 ↑3)::(↑147,kN kL2 ↑4)::(↑153,kN kL2 ↑5)::(↑154,kN kL2 ↑6)::(↑160,kN kL2 ↑7)::(↑161,kN kL3 ↑0)::(↑167,kN kL3 ↑1)::(↑168,kN kL3 ↑2)::(↑174,kN kL3 ↑3)::(↑175,kN kL3 ↑4)::(↑181,kN kL3 ↑5)::(↑182,kN kL3 ↑6)::(↑188,kN kL3 ↑7)::(↑189,kN kL4 ↑0)::(↑195,kN kL4 ↑1)::(↑196,kN kL4 ↑2)::(↑202,kN kL4 ↑3)::(↑203,kN kL4 ↑4)::(↑209,kN kL4 ↑5)::(↑210,kN kL4 ↑6)::(↑216,kN kL4 ↑7)::(↑217,kN kL5 ↑0)::(↑223,kN kL5 ↑1)::(↑224,kN kL5 ↑2)::(↑230,kN kL5 ↑3)::(↑231,kN kL5 ↑4)::(↑237,kN kL5 ↑5)::(↑238,kN kL5 ↑6)::(↑244,kN kL5 ↑7)::(↑245,kN kL6 ↑0)::(↑251,kN kL6 ↑1)::(↑252,kN kL6 ↑2)::(↑256,kN kL6 ↑3)::(↑257,kN kL6 ↑4)::(↑263,kN kL6 ↑5)::(↑264,kN kL6 ↑6)::(↑270,kN kL6 ↑7)::(↑271,kN kL7 ↑0)::(↑277,kN kL7 ↑1)::(↑278,kN kL7 ↑2)::(↑282,kN kL7 ↑3)::(↑283,kN kL7 ↑4)::(↑289,kN kL7 ↑5)::(↑290,kN kL7 ↑6)::(↑296,kN kL7 ↑7)::(↑297,kN kL8 ↑0)::(↑303,kN kL8 ↑1)::(↑304,kN kL8 ↑2)::(↑310,kN kL8 ↑3)::(↑311,kN kL8 ↑4)::(↑317,kN kL8 ↑5)::(↑318,kN kL8 ↑6)::(↑322,kN kL8 ↑7)::(↑323,kN kL9 ↑0)::(↑329,kN kL9 ↑1)::(↑330,kN kL9 ↑2)::(↑334,kN kL9 ↑3)::(↑335,kN kL9 ↑4)::(↑339,kN kL9 ↑5)::(↑340,kN kL9 ↑6)::(↑346,kN kL9 ↑7)::(↑347,kN kL10 ↑0)::[]
end QQ
namespace QQ
open PySem L2
inductive Tg{A:Type}(a:A):Type where|mk:Tg a
noncomputable def pk{A:Type}{a:A}(_:Tg a):A:=a
noncomputable def hE(P:AA)(n:Str)(k:Nat)(v:A1):Bk:={ hash:=PyData.keyHash P n,key:=.str n k,val:=v }
noncomputable def zzM(k:Nat)(l:List Bk):Obj:={ cls:=.type "dict",data:=.dict (AN l) k }
noncomputable def zzE:A1:=.str "spotlook.errors" 187
noncomputable def kU(s:Stmt)(n q:Str)(g:Nat)(m c:A1):FuncData:={ name:=n,qualname:=q,params:=aZ s,body:=.stmts (aN s),scope:=ak s,globals:=g,closure:=[],defaults:=.none,kwdefaults:=.none,pyModule:=m,code:=c }
noncomputable def kC(s:Stmt)(i:Nat):Stmt:=match s with
 |.ClassDef (body:=b) ..=>b.getD i (.Pass ⟨0,0,0,0⟩)
 |s=>s
noncomputable def kTu(l:List A1):Obj:={ cls:=.type "tuple",data:=.seq l.toArray 0 }
noncomputable def kFd(l:List A1):Obj:={ cls:=.none,data:=.fields l.toArray }
local macro_rules | `(tactic| walk_at "st") => `(tactic| (intro t; (conv at t => (arg 1; whnf)); exact pk (.mk : type_of% t)))
local macro_rules | `(⇑$n:num) => `((by refine' (?_ : Tg (top $n) → Stmt) .mk; walk_at "st" : Stmt))
noncomputable def st0:Stmt:=⇑0
noncomputable def st1:Stmt:=⇑1
noncomputable def st2:Stmt:=⇑2
noncomputable def st3:Stmt:=⇑3
noncomputable def st4:Stmt:=⇑4
noncomputable def st5:Stmt:=⇑5
noncomputable def st6:Stmt:=⇑6
noncomputable def st7:Stmt:=⇑7
noncomputable def st8:Stmt:=⇑8
noncomputable def st9:Stmt:=⇑9
noncomputable def st10:Stmt:=⇑10
noncomputable def st11:Stmt:=⇑11
noncomputable def st12:Stmt:=⇑12
noncomputable def st13:Stmt:=⇑13
noncomputable def st14:Stmt:=⇑14
noncomputable def st15:Stmt:=⇑15
noncomputable def st16:Stmt:=⇑16
noncomputable def st17:Stmt:=⇑17
noncomputable def st18:Stmt:=⇑18
noncomputable def st19:Stmt:=⇑19
noncomputable def st20:Stmt:=⇑20
noncomputable def st21:Stmt:=⇑21
noncomputable def st22:Stmt:=⇑22
noncomputable def st23:Stmt:=⇑23
noncomputable def st24:Stmt:=⇑24
noncomputable def st25:Stmt:=⇑25
noncomputable def st26:Stmt:=⇑26
noncomputable def st27:Stmt:=⇑27
noncomputable def st28:Stmt:=⇑28
noncomputable def st29:Stmt:=⇑29
noncomputable def st30:Stmt:=⇑30
noncomputable def st31:Stmt:=⇑31
noncomputable def st32:Stmt:=⇑32
noncomputable def st33:Stmt:=⇑33
noncomputable def st34:Stmt:=⇑34
noncomputable def st35:Stmt:=⇑35
noncomputable def st36:Stmt:=⇑36
noncomputable def st37:Stmt:=⇑37
noncomputable def st38:Stmt:=⇑38
noncomputable def st39:Stmt:=⇑39
noncomputable def st40:Stmt:=⇑40
noncomputable def st41:Stmt:=⇑41
noncomputable def st42:Stmt:=⇑42
noncomputable def st43:Stmt:=⇑43
noncomputable def st44:Stmt:=⇑44
noncomputable def st45:Stmt:=⇑45
noncomputable def st46:Stmt:=⇑46
noncomputable def st47:Stmt:=⇑47
noncomputable def st48:Stmt:=⇑48
noncomputable def st49:Stmt:=⇑49
noncomputable def st50:Stmt:=⇑50
noncomputable def scp:BY:=by refine'(?_:Tg (AB.main.scope)->BY) .mk;walk_at "st"
noncomputable def fil:Str:=by refine'(?_:Tg (AB.main.file)->Str) .mk;walk_at "st"
noncomputable def giv:Given:=by refine'(?_:Tg (AB.given)->Given) .mk;walk_at "st"
noncomputable def pw2:Au:={ main:={ body:=[st0,st1,st2,st3,st4,st5,st6,st7,st8,st9,st10,st11,st12,st13,st14,st15,st16,st17,st18,st19,st20,st21,st22,st23,st24,st25,st26,st27,st28,st29,st30,st31,st32,st33,st34,st35,st36,st37,st38,st39,st40,st41,st42,st43,st44,st45,st46,st47,st48,st49,st50],scope:=scp,futureAnnotations:=false,file:=fil,more:=[] },modules:=[],parses:=[],absent:=[],harvested:=[],given:=giv }
noncomputable def vw:Au:={ pw2 with main:={ pw2.main with body:=[st1,st2,st3,st4,st6,st7,st8,st9,st10,st11,st12,st14,st15,st16,st17,st18,st19,st20,st21,st22,st23,st24,st26,st27,st28,st29,st30,st31,st32,st33,st34,st35,st37,st38,st39,st41,st42,st43,st44,st45,st46,st47,st48,st49,st50] } }
noncomputable def sx0:List Stmt:=[st0,st1]
noncomputable def sx1:List Stmt:=[st2]
noncomputable def sx2:List Stmt:=[st3]
noncomputable def sx3:List Stmt:=[st4,st5,st6,st7,st8,st9]
noncomputable def sx4:List Stmt:=[st10,st11,st12,st13,st14,st15,st16,st17,st18,st19,st20,st21,st22]
noncomputable def sx5:List Stmt:=[st23,st24,st25,st26,st27,st28,st29,st30,st31,st32,st33,st34,st35,st36]
noncomputable def sx6:List Stmt:=[st37,st38,st39,st40,st41,st42,st43,st44,st45,st46,st47,st48,st49]
noncomputable def sx7:List Stmt:=[st50]
noncomputable def en3_0(P:AA):List Bk:=[hE P "__doc__" 166 .none,hE P "__package__" 167 .none,hE P "__loader__" 168 (.builtin "__main__.__loader__#opaque"),hE P "__spec__" 169 .none,hE P "__annotations__" 170 (.ref 6),hE P "__builtins__" 171 (.ref 4),hE P "__file__" 173 (.str "/claim/cut.py" 172),hE P "__cached__" 174 .none]
noncomputable def en3_1(P:AA):List Bk:=[hE P "SpotError" 206 (.ref 24),hE P "NoFraction" 222 (.ref 37),hE P "TooMany" 247 (.ref 56),hE P "Crossing" 274 (.ref 75),hE P "greatest_divisor" 284 (.ref 84),hE P "fraction" 293 (.ref 91),hE P "plus" 301 (.ref 98),hE P "less" 309 (.ref 105)]
noncomputable def en3_2(P:AA):List Bk:=[hE P "times" 317 (.ref 112),hE P "over" 325 (.ref 119),hE P "is_less" 333 (.ref 126),hE P "is_ahead" 343 (.ref 133),hE P "later_of" 351 (.ref 140),hE P "earlier_of" 359 (.ref 147),hE P "place_among" 370 (.ref 154),hE P "ahead_first" 379 (.ref 161)]
noncomputable def en3_3(P:AA):List Bk:=[hE P "own_spot" 388 (.ref 168),hE P "own_wall" 395 (.ref 175),hE P "gap" 403 (.ref 182),hE P "lean" 421 (.ref 189),hE P "side_of" 430 (.ref 196),hE P "lies_on" 440 (.ref 203),hE P "MOST_WALLS" 444 (.int 40 443),hE P "meeting" 454 (.ref 210)]
noncomputable def en3_4(P:AA):List Bk:=[hE P "meeting_in_line" 464 (.ref 217),hE P "crossing_spot" 478 (.ref 224),hE P "number_between" 487 (.ref 231),hE P "meet_as_in_plots" 496 (.ref 238),hE P "first_crossed" 506 (.ref 245),hE P "plot_of" 516 (.ref 252),hE P "own_plot" 522 (.ref 257),hE P "corners_of" 532 (.ref 264)]
noncomputable def en3_5(P:AA):List Bk:=[hE P "parted" 546 (.ref 271),hE P "cuts_of" 558 (.ref 278),hE P "by_ends" 564 (.ref 283),hE P "_law_cell_at" 574 (.ref 290),hE P "_law_take" 584 (.ref 297),hE P "_law_low" 594 (.ref 304),hE P "_law_scale" 604 (.ref 311),hE P "_law_spot" 616 (.ref 318)]
noncomputable def en3_6(P:AA):List Bk:=[hE P "_law_made" 622 (.ref 323),hE P "_law_any" 635 (.ref 330),hE P "_law_spots" 641 (.ref 335),hE P "_law_covered" 647 (.ref 340),hE P "law" 661 (.ref 347)]
noncomputable def en3(P:AA):List Bk:=en3_0 P++(en3_1 P++(en3_2 P++(en3_3 P++(en3_4 P++(en3_5 P++(en3_6 P))))))
noncomputable def fl12:List A1:=[(.int 2 0),(.int 0 0),(.ref 20),(.int 4 0),(.int 0 0),(.ref 33),(.int 6 0),(.int 0 0),(.ref 45),(.int 11 0),(.int 0 0),(.ref 64),(.int 18 0),(.int 0 0),(.ref 83),(.int 22 0),(.int 0 0),(.ref 90),(.int 29 0),(.int 0 0),(.ref 97),(.int 31 0),(.int 0 0),(.ref 104),(.int 33 0),(.int 0 0),(.ref 111),(.int 35 0),(.int 0 0),(.ref 118),(.int 37 0),(.int 0 0),(.ref 125),(.int 40 0),(.int 0 0),(.ref 132),(.int 44 0),(.int 0 0),(.ref 139),(.int 46 0),(.int 0 0),(.ref 146),(.int 48 0),(.int 0 0),(.ref 153),(.int 57 0),(.int 0 0),(.ref 160),(.int 62 0),(.int 0 0),(.ref 167),(.int 65 0),(.int 0 0),(.ref 174),(.int 67 0),(.int 0 0),(.ref 181),(.int 69 0),(.int 0 0),(.ref 188),(.int 75 0),(.int 0 0),(.ref 195),(.int 82 0),(.int 0 0),(.ref 202),(.int 87 0),(.int 0 0),(.ref 209),(.int 94 0),(.int 0 0),(.ref 216),(.int 102 0),(.int 0 0),(.ref 223),(.int 109 0),(.int 0 0),(.ref 230),(.int 111 0),(.int 0 0),(.ref 237),(.int 116 0),(.int 0 0),(.ref 244),(.int 121 0),(.int 0 0),(.ref 251),(.int 129 0),(.int 0 0),(.ref 256),(.int 131 0),(.int 0 0),(.ref 263),(.int 138 0),(.int 0 0),(.ref 270),(.int 147 0),(.int 0 0),(.ref 277),(.int 157 0),(.int 0 0),(.ref 282),(.int 161 0),(.int 0 0),(.ref 289),(.int 165 0),(.int 0 0),(.ref 296),(.int 174 0),(.int 0 0),(.ref 303),(.int 182 0),(.int 0 0),(.ref 310),(.int 188 0),(.int 0 0),(.ref 317),(.int 191 0),(.int 0 0),(.ref 322),(.int 193 0),(.int 0 0),(.ref 329),(.int 206 0),(.int 0 0),(.ref 334),(.int 216 0),(.int 0 0),(.ref 339),(.int 218 0),(.int 0 0),(.ref 346)]
noncomputable def hC(n:Str)(s0 s1 s2 s18 r8 r11 r13 r14 r15 i3 i4 i5 i6 i7 i10 i16 i17:Nat)(b9:Bool):Obj:={ cls:=.type "code",data:=.fields #[.str n s0,.str n s1,.str "/claim/cut.py" s2,.int (Cu i3) 0,.int (Cu i4) 0,.int (Cu i5) 0,.int (Cu i6) 0,.int (Cu i7) 0,.ref r8,.bool b9,.int (Cu i10) 0,.ref r11,.none,.ref r13,.ref r14,.ref r15,.int (Cu i16) 0,.int (Cu i17) 0,.str "/claim/cut.py" s18] }
noncomputable def hF(t:A1)(s:Stmt)(n:Str)(g:Nat)(m c:A1):Obj:={ cls:=t,data:=.func (kU s n n g m c) }
noncomputable def zzH(s:Stmt)(n:Str)(m:A1)(r:Nat):Obj:=hF (.type "function") s n 3 m (.ref r)
noncomputable def ob11:Obj:=kTu []
noncomputable def ob12:Obj:={ cls:=.none,data:=.fields (AN (fl12.take 0)) }
noncomputable def ob13:Obj:=zzD "<module>" "<module>" 182 183 184 1 0 0 11 false 12 .none .none .none 185 186
noncomputable def ob14:Obj:={ cls:=(.type "frame"),slots:=#[(some (.ref 13)),(some (.ref 3)),(some (.ref 3)),none,(some (.str "__main__" 164)),none,(some (.ref 0))] }
noncomputable def ob15(P:AA):Obj:=zzM 10 (hE P "__name__" 165 zzE::(en3 P).take 9)
noncomputable def ob16:Obj:={ cls:=.none,data:=.fields (AN (fl12.take 3)) }
noncomputable def ob17:Obj:=kTu [(.type "ValueError")]
noncomputable def ob18:Obj:={ cls:=(.type "builtin_function_or_method"),data:=(.fields #[(.builtin "type.__prepare__"),(.type "type")]) }
noncomputable def ob19(P:AA):Obj:=zzM 4 [hE P "__module__" 196 zzE,hE P "__qualname__" 198 (.str "SpotError" 197),hE P "__firstlineno__" 200 (.int 2 199),hE P "__static_attributes__" 201 (.ref 22)]
noncomputable def ob20:Obj:=zzD "SpotError" "SpotError" 191 192 193 2 0 0 18 false 19 .none .none .none 194 195
noncomputable def ob21:Obj:={ cls:=(.type "frame"),slots:=#[(some (.ref 20)),(some (.ref 3)),(some (.ref 17)),none,(some zzE),none,(some (.ref 0))] }
noncomputable def ob22(P:AA):Obj:=zzM 3 [hE P "__module__" 196 zzE,hE P "__firstlineno__" 200 (.int 2 199),hE P "__static_attributes__" 201 (.ref 22),hE P "__weakref__" 203 (.ref 25),hE P "__doc__" 204 .none]
noncomputable def ob23:Obj:={ cls:=(.type "type"),data:=(.cls { name:="SpotError",bases:=[(.type "ValueError")],mro:=[(.ref 24),(.type "ValueError"),(.type "Exception"),(.type "BaseException"),(.type "object")],ns:=23,qualname:="SpotError",hasDict:=true,slotNames:=[],subclasses:=[],abstract:=false,collection:=none,hasDel:=false }),slots:=#[(some (.ref 15)),none,(some (.str "SpotError" 189)),(some (.str "SpotError" 197)),(some (.builtin "ValueError.__new__")),(some (.bool true))] }
noncomputable def ob24:Obj:={ cls:=(.type "getset_descriptor"),data:=(.fields #[(.str "__weakref__" 202),(.ref 24),(.builtin "ExceptionGroup.__weakref__"),.none]) }
noncomputable def ob25:Obj:={ cls:=(.type "super"),data:=(.fields #[(.ref 24),(.ref 24),(.ref 24)]) }
noncomputable def ob26:Obj:={ cls:=(.type "builtin_function_or_method"),data:=(.fields #[(.builtin "object.__init_subclass__"),(.ref 24)]) }
noncomputable def ob27(P:AA):Obj:=zzM 11 (hE P "__name__" 165 zzE::(en3 P).take 10)
noncomputable def ob28:Obj:={ cls:=.none,data:=.fields (AN (fl12.take 6)) }
noncomputable def ob29:Obj:={ cls:=(.type "type"),data:=(.cls { name:="SpotError",bases:=[(.type "ValueError")],mro:=[(.ref 24),(.type "ValueError"),(.type "Exception"),(.type "BaseException"),(.type "object")],ns:=23,qualname:="SpotError",hasDict:=true,slotNames:=[],subclasses:=[(.ref 37)],abstract:=false,collection:=none,hasDel:=false }),slots:=#[(some (.ref 15)),none,(some (.str "SpotError" 189)),(some (.str "SpotError" 197)),(some (.builtin "ValueError.__new__")),(some (.bool true))] }
noncomputable def ob30:Obj:=kTu [(.ref 24)]
noncomputable def ob31(P:AA):Obj:=zzM 4 [hE P "__module__" 214 zzE,hE P "__qualname__" 216 (.str "NoFraction" 215),hE P "__firstlineno__" 218 (.int 4 217),hE P "__static_attributes__" 219 (.ref 35)]
noncomputable def ob32:Obj:=zzD "NoFraction" "NoFraction" 209 210 211 4 0 0 31 false 32 .none .none .none 212 213
noncomputable def ob33:Obj:={ cls:=(.type "frame"),slots:=#[(some (.ref 33)),(some (.ref 3)),(some (.ref 30)),none,(some zzE),none,(some (.ref 0))] }
noncomputable def ob34(P:AA):Obj:=zzM 2 [hE P "__module__" 214 zzE,hE P "__firstlineno__" 218 (.int 4 217),hE P "__static_attributes__" 219 (.ref 35),hE P "__doc__" 220 .none]
noncomputable def ob35:Obj:=zzK "NoFraction" 37 36 28 207 215
noncomputable def ob36:Obj:={ cls:=(.type "super"),data:=(.fields #[(.ref 37),(.ref 37),(.ref 37)]) }
noncomputable def ob37:Obj:={ cls:=(.type "builtin_function_or_method"),data:=(.fields #[(.builtin "object.__init_subclass__"),(.ref 37)]) }
noncomputable def ob38(P:AA):Obj:=zzM 12 (hE P "__name__" 165 zzE::(en3 P).take 11)
noncomputable def ob39:Obj:={ cls:=.none,data:=.fields (AN (fl12.take 9)) }
noncomputable def ob40:Obj:={ cls:=(.type "type"),data:=(.cls { name:="SpotError",bases:=[(.type "ValueError")],mro:=[(.ref 24),(.type "ValueError"),(.type "Exception"),(.type "BaseException"),(.type "object")],ns:=23,qualname:="SpotError",hasDict:=true,slotNames:=[],subclasses:=[(.ref 37),(.ref 56)],abstract:=false,collection:=none,hasDel:=false }),slots:=#[(some (.ref 15)),none,(some (.str "SpotError" 189)),(some (.str "SpotError" 197)),(some (.builtin "ValueError.__new__")),(some (.bool true))] }
noncomputable def ob41(P:AA):Obj:=zzM 5 [hE P "__module__" 230 zzE,hE P "__qualname__" 232 (.str "TooMany" 231),hE P "__firstlineno__" 234 (.int 6 233),hE P "__init__" 242 (.ref 53),hE P "__static_attributes__" 244 (.ref 54)]
noncomputable def ob42:Obj:=kFd [(.int 8 0),(.int 4 0),(.ref 52)]
noncomputable def ob43:Obj:=zzD "TooMany" "TooMany" 225 226 227 6 0 0 43 false 44 .none .none .none 228 229
noncomputable def ob44:Obj:={ cls:=(.type "frame"),slots:=#[(some (.ref 45)),(some (.ref 3)),(some (.ref 42)),none,(some zzE),none,(some (.ref 0))] }
noncomputable def ob45:Obj:=kTu [(.str "self" 238),(.str "count" 239)]
noncomputable def ob46:Obj:={ cls:=.none,data:=(.func (kU (kC st3 0) "__init__" "TooMany.__init__" 0 .none .none)) }
noncomputable def ob47:Obj:=zzD "__init__" "TooMany.__init__" 235 236 237 8 2 3 47 true 48 (.ref 49) (.ref 50) (.ref 51) 240 241
noncomputable def ob48:Obj:={ cls:=(.type "function"),data:=(.func (kU (kC st3 0) "__init__" "TooMany.__init__" 3 zzE (.ref 52))) }
noncomputable def ob49:Obj:=kTu [(.str "count" 243)]
noncomputable def ob50(P:AA):Obj:=zzM 2 [hE P "__module__" 230 zzE,hE P "__firstlineno__" 234 (.int 6 233),hE P "__init__" 242 (.ref 53),hE P "__static_attributes__" 244 (.ref 54),hE P "__doc__" 245 .none]
noncomputable def ob51:Obj:=zzK "TooMany" 56 55 40 223 231
noncomputable def ob52:Obj:={ cls:=(.type "super"),data:=(.fields #[(.ref 56),(.ref 56),(.ref 56)]) }
noncomputable def ob53:Obj:={ cls:=(.type "builtin_function_or_method"),data:=(.fields #[(.builtin "object.__init_subclass__"),(.ref 56)]) }
noncomputable def ob54(P:AA):Obj:=zzM 17 (hE P "__name__" 165 (.str "spotlook.fractions" 275)::(en3 P).take 16)
noncomputable def ob55:Obj:={ cls:=.none,data:=.fields (AN (fl12.take 24)) }
noncomputable def ob56:Obj:={ cls:=(.type "type"),data:=(.cls { name:="SpotError",bases:=[(.type "ValueError")],mro:=[(.ref 24),(.type "ValueError"),(.type "Exception"),(.type "BaseException"),(.type "object")],ns:=23,qualname:="SpotError",hasDict:=true,slotNames:=[],subclasses:=[(.ref 37),(.ref 56),(.ref 75)],abstract:=false,collection:=none,hasDel:=false }),slots:=#[(some (.ref 15)),none,(some (.str "SpotError" 189)),(some (.str "SpotError" 197)),(some (.builtin "ValueError.__new__")),(some (.bool true))] }
noncomputable def ob57(P:AA):Obj:=zzM 5 [hE P "__module__" 255 zzE,hE P "__qualname__" 257 (.str "Crossing" 256),hE P "__firstlineno__" 259 (.int 11 258),hE P "__init__" 268 (.ref 72),hE P "__static_attributes__" 271 (.ref 73)]
noncomputable def ob58:Obj:=kFd [(.int 13 0),(.int 4 0),(.ref 71)]
noncomputable def ob59:Obj:=zzD "Crossing" "Crossing" 250 251 252 11 0 0 62 false 63 .none .none .none 253 254
noncomputable def ob60:Obj:={ cls:=(.type "frame"),slots:=#[(some (.ref 64)),(some (.ref 3)),(some (.ref 61)),none,(some zzE),none,(some (.ref 0))] }
noncomputable def ob61:Obj:=kTu [(.str "self" 263),(.str "wall" 264),(.str "other" 265)]
noncomputable def ob62:Obj:={ cls:=.none,data:=(.func (kU (kC st4 0) "__init__" "Crossing.__init__" 0 .none .none)) }
noncomputable def ob63:Obj:=zzD "__init__" "Crossing.__init__" 260 261 262 13 3 3 66 true 67 (.ref 68) (.ref 69) (.ref 70) 266 267
noncomputable def ob64:Obj:={ cls:=(.type "function"),data:=(.func (kU (kC st4 0) "__init__" "Crossing.__init__" 3 zzE (.ref 71))) }
noncomputable def ob65:Obj:=kTu [(.str "other" 269),(.str "wall" 270)]
noncomputable def ob66(P:AA):Obj:=zzM 2 [hE P "__module__" 255 zzE,hE P "__firstlineno__" 259 (.int 11 258),hE P "__init__" 268 (.ref 72),hE P "__static_attributes__" 271 (.ref 73),hE P "__doc__" 272 .none]
noncomputable def ob67:Obj:=zzK "Crossing" 75 74 59 248 256
noncomputable def ob68:Obj:={ cls:=(.type "super"),data:=(.fields #[(.ref 75),(.ref 75),(.ref 75)]) }
noncomputable def ob69:Obj:={ cls:=(.type "builtin_function_or_method"),data:=(.fields #[(.builtin "object.__init_subclass__"),(.ref 75)]) }
noncomputable def ob70:Obj:=kTu [(.str "one" 280),(.str "other" 281)]
noncomputable def ob71:Obj:=hF .none st6 "greatest_divisor" 0 .none .none
noncomputable def ob72:Obj:=hC "greatest_divisor" 277 278 279 283 78 79 80 81 82 18 2 0 0 3 181 282 18 true
noncomputable def ob73:Obj:=zzH st6 "greatest_divisor" (.str "spotlook.fractions" 275) 83
noncomputable def ob74:Obj:=kTu [(.str "top" 288),(.str "bottom" 289),(.str "divisor" 290)]
noncomputable def ob75:Obj:=hF .none st7 "fraction" 0 .none .none
noncomputable def ob76:Obj:=hC "fraction" 285 286 287 292 85 86 87 88 89 22 2 0 0 3 181 291 22 true
noncomputable def ob77:Obj:=zzH st7 "fraction" (.str "spotlook.fractions" 275) 90
noncomputable def ob78:Obj:=kTu [(.str "one" 297),(.str "other" 298)]
noncomputable def ob79:Obj:=hF .none st8 "plus" 0 .none .none
noncomputable def ob80:Obj:=hC "plus" 294 295 296 300 92 93 94 95 96 29 2 0 0 3 181 299 29 true
noncomputable def ob81:Obj:=zzH st8 "plus" (.str "spotlook.fractions" 275) 97
noncomputable def ob82:Obj:=kTu [(.str "one" 305),(.str "other" 306)]
noncomputable def ob83:Obj:=hF .none st9 "less" 0 .none .none
noncomputable def ob84:Obj:=hC "less" 302 303 304 308 99 100 101 102 103 31 2 0 0 3 181 307 31 true
noncomputable def ob85:Obj:=zzH st9 "less" (.str "spotlook.fractions" 275) 104
noncomputable def ob86(P:AA):Obj:=zzM 29 (hE P "__name__" 165 (.str "spotlook.spots" 334)::(en3 P).take 28)
noncomputable def ob87:Obj:={ cls:=.none,data:=.fields (AN (fl12.take 60)) }
noncomputable def ob88:Obj:=kTu [(.str "one" 313),(.str "other" 314)]
noncomputable def ob89:Obj:=hF .none st10 "times" 0 .none .none
noncomputable def ob90:Obj:=hC "times" 310 311 312 316 106 107 108 109 110 33 2 0 0 3 181 315 33 true
noncomputable def ob91:Obj:=zzH st10 "times" (.str "spotlook.fractions" 275) 111
noncomputable def ob92:Obj:=kTu [(.str "one" 321),(.str "other" 322)]
noncomputable def ob93:Obj:=hF .none st11 "over" 0 .none .none
noncomputable def ob94:Obj:=hC "over" 318 319 320 324 113 114 115 116 117 35 2 0 0 3 181 323 35 true
noncomputable def ob95:Obj:=zzH st11 "over" (.str "spotlook.fractions" 275) 118
noncomputable def ob96:Obj:=kTu [(.str "one" 329),(.str "other" 330)]
noncomputable def ob97:Obj:=hF .none st12 "is_less" 0 .none .none
noncomputable def ob98:Obj:=hC "is_less" 326 327 328 332 120 121 122 123 124 37 2 0 0 3 181 331 37 true
noncomputable def ob99:Obj:=zzH st12 "is_less" (.str "spotlook.fractions" 275) 125
noncomputable def ob100:Obj:=kTu [(.str "one" 339),(.str "other" 340)]
noncomputable def ob101:Obj:=hF .none st14 "is_ahead" 0 .none .none
noncomputable def ob102:Obj:=hC "is_ahead" 336 337 338 342 127 128 129 130 131 40 2 0 0 3 181 341 40 true
noncomputable def ob103:Obj:=zzH st14 "is_ahead" (.str "spotlook.spots" 334) 132
noncomputable def ob104:Obj:=kTu [(.str "one" 347),(.str "other" 348)]
noncomputable def ob105:Obj:=hF .none st15 "later_of" 0 .none .none
noncomputable def ob106:Obj:=hC "later_of" 344 345 346 350 134 135 136 137 138 44 2 0 0 3 181 349 44 true
noncomputable def ob107:Obj:=zzH st15 "later_of" (.str "spotlook.spots" 334) 139
noncomputable def ob108:Obj:=kTu [(.str "one" 355),(.str "other" 356)]
noncomputable def ob109:Obj:=hF .none st16 "earlier_of" 0 .none .none
noncomputable def ob110:Obj:=hC "earlier_of" 352 353 354 358 141 142 143 144 145 46 2 0 0 3 181 357 46 true
noncomputable def ob111:Obj:=zzH st16 "earlier_of" (.str "spotlook.spots" 334) 146
noncomputable def ob112:Obj:=kTu [(.str "row" 363),(.str "spot" 364),(.str "low" 365),(.str "high" 366),(.str "middle" 367)]
noncomputable def ob113:Obj:=hF .none st17 "place_among" 0 .none .none
noncomputable def ob114:Obj:=hC "place_among" 360 361 362 369 148 149 150 151 152 48 2 0 0 3 181 368 48 true
noncomputable def ob115:Obj:=zzH st17 "place_among" (.str "spotlook.spots" 334) 153
noncomputable def ob116:Obj:=kTu [(.str "spots" 374),(.str "row" 375),(.str "spot" 376)]
noncomputable def ob117:Obj:=hF .none st18 "ahead_first" 0 .none .none
noncomputable def ob118:Obj:=hC "ahead_first" 371 372 373 378 155 156 157 158 159 57 1 0 0 3 181 377 57 true
noncomputable def ob119:Obj:=zzH st18 "ahead_first" (.str "spotlook.spots" 334) 160
noncomputable def ob120:Obj:=kTu [(.str "spot" 383),(.str "x" 384),(.str "y" 385)]
noncomputable def ob121:Obj:=hF .none st19 "own_spot" 0 .none .none
noncomputable def ob122:Obj:=hC "own_spot" 380 381 382 387 162 163 164 165 166 62 1 0 0 3 181 386 62 true
noncomputable def ob123:Obj:=zzH st19 "own_spot" (.str "spotlook.spots" 334) 167
noncomputable def ob124:Obj:=kTu [(.str "wall" 392)]
noncomputable def ob125:Obj:=hF .none st20 "own_wall" 0 .none .none
noncomputable def ob126:Obj:=hC "own_wall" 389 390 391 394 169 170 171 172 173 65 1 0 0 3 181 393 65 true
noncomputable def ob127:Obj:=zzH st20 "own_wall" (.str "spotlook.spots" 334) 174
noncomputable def ob128:Obj:=kTu [(.str "one" 399),(.str "other" 400)]
noncomputable def ob129:Obj:=hF .none st21 "gap" 0 .none .none
noncomputable def ob130:Obj:=hC "gap" 396 397 398 402 176 177 178 179 180 67 2 0 0 3 181 401 67 true
noncomputable def ob131:Obj:=zzH st21 "gap" (.str "spotlook.spots" 334) 181
noncomputable def ob132:Obj:=kTu [(.str "wall" 407),(.str "spot" 408),(.str "a" 409),(.str "b" 410),(.str "c" 411),(.str "d" 412),(.str "x" 413),(.str "y" 414),(.str "across" 415),(.str "up" 416),(.str "along" 417),(.str "high" 418)]
noncomputable def ob133:Obj:=hF .none st22 "lean" 0 .none .none
noncomputable def ob134:Obj:=hC "lean" 404 405 406 420 183 184 185 186 187 69 2 0 0 3 181 419 69 true
noncomputable def ob135:Obj:=zzH st22 "lean" (.str "spotlook.spots" 334) 188
noncomputable def ob136(P:AA):Obj:=zzM 41 (hE P "__name__" 165 (.str "spotlook.parting" 533)::(en3 P).take 40)
noncomputable def ob137:Obj:={ cls:=.none,data:=.fields (AN (fl12.take 93)) }
noncomputable def ob138:Obj:=kTu [(.str "wall" 425),(.str "spot" 426),(.str "top" 427)]
noncomputable def ob139:Obj:=hF .none st23 "side_of" 0 .none .none
noncomputable def ob140:Obj:=hC "side_of" 422 423 424 429 190 191 192 193 194 75 2 0 0 3 181 428 75 true
noncomputable def ob141:Obj:=zzH st23 "side_of" (.str "spotlook.spots" 334) 195
noncomputable def ob142:Obj:=kTu [(.str "wall" 434),(.str "spot" 435),(.str "first" 436),(.str "second" 437)]
noncomputable def ob143:Obj:=hF .none st24 "lies_on" 0 .none .none
noncomputable def ob144:Obj:=hC "lies_on" 431 432 433 439 197 198 199 200 201 82 2 0 0 3 181 438 82 true
noncomputable def ob145:Obj:=zzH st24 "lies_on" (.str "spotlook.spots" 334) 202
noncomputable def ob146:Obj:=kTu [(.str "one" 448),(.str "other" 449),(.str "first_side" 450),(.str "second_side" 451)]
noncomputable def ob147:Obj:=hF .none st27 "meeting" 0 .none .none
noncomputable def ob148:Obj:=hC "meeting" 445 446 447 453 204 205 206 207 208 87 2 0 0 3 181 452 87 true
noncomputable def ob149:Obj:=zzH st27 "meeting" (.str "spotlook.plots" 441) 209
noncomputable def ob150:Obj:=kTu [(.str "one" 458),(.str "other" 459),(.str "start" 460),(.str "end" 461)]
noncomputable def ob151:Obj:=hF .none st28 "meeting_in_line" 0 .none .none
noncomputable def ob152:Obj:=hC "meeting_in_line" 455 456 457 463 211 212 213 214 215 94 2 0 0 3 181 462 94 true
noncomputable def ob153:Obj:=zzH st28 "meeting_in_line" (.str "spotlook.plots" 441) 216
noncomputable def ob154:Obj:=kTu [(.str "one" 468),(.str "other" 469),(.str "start" 470),(.str "end" 471),(.str "top" 472),(.str "bottom" 473),(.str "from_start" 474),(.str "share" 475)]
noncomputable def ob155:Obj:=hF .none st29 "crossing_spot" 0 .none .none
noncomputable def ob156:Obj:=hC "crossing_spot" 465 466 467 477 218 219 220 221 222 102 2 0 0 3 181 476 102 true
noncomputable def ob157:Obj:=zzH st29 "crossing_spot" (.str "spotlook.plots" 441) 223
noncomputable def ob158:Obj:=kTu [(.str "start" 482),(.str "end" 483),(.str "share" 484)]
noncomputable def ob159:Obj:=hF .none st30 "number_between" 0 .none .none
noncomputable def ob160:Obj:=hC "number_between" 479 480 481 486 225 226 227 228 229 109 3 0 0 3 181 485 109 true
noncomputable def ob161:Obj:=zzH st30 "number_between" (.str "spotlook.plots" 441) 230
noncomputable def ob162:Obj:=kTu [(.str "one" 491),(.str "other" 492),(.str "met" 493)]
noncomputable def ob163:Obj:=hF .none st31 "meet_as_in_plots" 0 .none .none
noncomputable def ob164:Obj:=hC "meet_as_in_plots" 488 489 490 495 232 233 234 235 236 111 2 0 0 3 181 494 111 true
noncomputable def ob165:Obj:=zzH st31 "meet_as_in_plots" (.str "spotlook.plots" 441) 237
noncomputable def ob166:Obj:=kTu [(.str "walls" 500),(.str "wall" 501),(.str "number" 502),(.str "other" 503)]
noncomputable def ob167:Obj:=hF .none st32 "first_crossed" 0 .none .none
noncomputable def ob168:Obj:=hC "first_crossed" 497 498 499 505 239 240 241 242 243 116 2 0 0 3 181 504 116 true
noncomputable def ob169:Obj:=zzH st32 "first_crossed" (.str "spotlook.plots" 441) 244
noncomputable def ob170:Obj:=kTu [(.str "walls" 510),(.str "number" 511),(.str "wall" 512),(.str "other" 513)]
noncomputable def ob171:Obj:=hF .none st33 "plot_of" 0 .none .none
noncomputable def ob172:Obj:=hC "plot_of" 507 508 509 515 246 247 248 249 250 121 1 0 0 3 181 514 121 true
noncomputable def ob173:Obj:=zzH st33 "plot_of" (.str "spotlook.plots" 441) 251
noncomputable def ob174:Obj:=hF .none st34 "own_plot" 0 .none .none
noncomputable def ob175:Obj:=zzD "own_plot" "own_plot" 517 518 519 129 1 3 253 true 254 .none .none (.ref 255) 520 521
noncomputable def ob176:Obj:=zzH st34 "own_plot" (.str "spotlook.plots" 441) 256
noncomputable def ob177:Obj:=kTu [(.str "plot" 526),(.str "corners" 527),(.str "wall" 528),(.str "end" 529)]
noncomputable def ob178:Obj:=hF .none st35 "corners_of" 0 .none .none
noncomputable def ob179:Obj:=hC "corners_of" 523 524 525 531 258 259 260 261 262 131 1 0 0 3 181 530 131 true
noncomputable def ob180:Obj:=zzH st35 "corners_of" (.str "spotlook.plots" 441) 263
noncomputable def ob181(P:AA):Obj:=zzM 53 (hE P "__name__" 165 zzN::(en3 P).take 52)
noncomputable def ob182:Obj:={ cls:=.none,data:=.fields (AN (fl12.take 129)) }
noncomputable def ob183:Obj:=kTu [(.str "walls" 538),(.str "pieces" 539),(.str "wall" 540),(.str "cuts" 541),(.str "start" 542),(.str "end" 543)]
noncomputable def ob184:Obj:=hF .none st37 "parted" 0 .none .none
noncomputable def ob185:Obj:=hC "parted" 535 536 537 545 265 266 267 268 269 138 1 0 0 3 181 544 138 true
noncomputable def ob186:Obj:=zzH st37 "parted" (.str "spotlook.parting" 533) 270
noncomputable def ob187:Obj:=kTu [(.str "wall" 550),(.str "walls" 551),(.str "cuts" 552),(.str "other" 553),(.str "end" 554),(.str "met" 555)]
noncomputable def ob188:Obj:=hF .none st38 "cuts_of" 0 .none .none
noncomputable def ob189:Obj:=hC "cuts_of" 547 548 549 557 272 273 274 275 276 147 2 0 0 3 181 556 147 true
noncomputable def ob190:Obj:=zzH st38 "cuts_of" (.str "spotlook.parting" 533) 277
noncomputable def ob191:Obj:=hF .none st39 "by_ends" 0 .none .none
noncomputable def ob192:Obj:=zzD "by_ends" "by_ends" 559 560 561 157 1 3 279 true 280 .none .none (.ref 281) 562 563
noncomputable def ob193:Obj:=zzH st39 "by_ends" (.str "spotlook.parting" 533) 282
noncomputable def ob194:Obj:=kTu [(.str "_law_script" 570),(.str "_law_k" 571)]
noncomputable def ob195:Obj:=hF .none st41 "_law_cell_at" 0 .none .none
noncomputable def ob196:Obj:=hC "_law_cell_at" 567 568 569 573 284 285 286 287 288 161 2 0 0 3 181 572 161 true
noncomputable def ob197:Obj:=zzH st41 "_law_cell_at" zzN 289
noncomputable def ob198:Obj:=kTu [(.str "_law_row" 578),(.str "_law_base" 579),(.str "_law_rest" 580),(.str "_law_number" 581)]
noncomputable def ob199:Obj:=hF .none st42 "_law_take" 0 .none .none
noncomputable def ob200:Obj:=hC "_law_take" 575 576 577 583 291 292 293 294 295 165 2 0 0 3 181 582 165 true
noncomputable def ob201:Obj:=zzH st42 "_law_take" zzN 296
noncomputable def ob202:Obj:=kTu [(.str "_law_top" 588),(.str "_law_bottom" 589),(.str "_law_one" 590),(.str "_law_other" 591)]
noncomputable def ob203:Obj:=hF .none st43 "_law_low" 0 .none .none
noncomputable def ob204:Obj:=hC "_law_low" 585 586 587 593 298 299 300 301 302 174 2 0 0 3 181 592 174 true
noncomputable def ob205:Obj:=zzH st43 "_law_low" zzN 303
noncomputable def ob206:Obj:=kTu [(.str "_law_row" 598),(.str "_law_top" 599),(.str "_law_bottom" 600),(.str "_law_far" 601)]
noncomputable def ob207:Obj:=hF .none st44 "_law_scale" 0 .none .none
noncomputable def ob208:Obj:=hC "_law_scale" 595 596 597 603 305 306 307 308 309 182 1 0 0 3 181 602 182 true
noncomputable def ob209:Obj:=zzH st44 "_law_scale" zzN 310
noncomputable def ob210:Obj:=kTu [(.str "_law_scale_here" 608),(.str "_law_unit" 609),(.str "_law_top" 610),(.str "_law_bottom" 611),(.str "_law_x" 612),(.str "_law_y" 613)]
noncomputable def ob211:Obj:=hF .none st45 "_law_spot" 0 .none .none
noncomputable def ob212:Obj:=hC "_law_spot" 605 606 607 615 312 313 314 315 316 188 2 0 0 3 181 614 188 true
noncomputable def ob213:Obj:=zzH st45 "_law_spot" zzN 317
noncomputable def ob214:Obj:=hF .none st46 "_law_made" 0 .none .none
noncomputable def ob215:Obj:=zzD "_law_made" "_law_made" 617 618 619 191 2 3 319 true 320 .none .none (.ref 321) 620 621
noncomputable def ob216:Obj:=zzH st46 "_law_made" zzN 322
noncomputable def ob217:Obj:=kTu [(.str "_law_row" 626),(.str "_law_most" 627),(.str "_law_size" 628),(.str "_law_shuts" 629),(.str "_law_turn" 630),(.str "_law_one" 631),(.str "_law_other" 632)]
noncomputable def ob218:Obj:=hF .none st47 "_law_any" 0 .none .none
noncomputable def ob219:Obj:=hC "_law_any" 623 624 625 634 324 325 326 327 328 193 3 0 0 3 181 633 193 true
noncomputable def ob220:Obj:=zzH st47 "_law_any" zzN 329
noncomputable def ob221:Obj:=hF .none st48 "_law_spots" 0 .none .none
noncomputable def ob222:Obj:=zzD "_law_spots" "_law_spots" 636 637 638 206 3 3 331 true 332 .none .none (.ref 333) 639 640
noncomputable def ob223:Obj:=zzH st48 "_law_spots" zzN 334
noncomputable def ob224:Obj:=hF .none st49 "_law_covered" 0 .none .none
noncomputable def ob225:Obj:=zzD "_law_covered" "_law_covered" 642 643 644 216 2 3 336 true 337 .none .none (.ref 338) 645 646
noncomputable def ob226:Obj:=zzH st49 "_law_covered" zzN 339
noncomputable def ob227(P:AA):Obj:=zzM 54 (hE P "__name__" 165 zzN::(en3 P).take 53)
noncomputable def ob228:Obj:={ cls:=.none,data:=.fields (AN (fl12.take 132)) }
noncomputable def ob229:Obj:=kTu [(.str "_law_script" 651),(.str "_law_k" 652),(.str "_law_row" 653),(.str "_law_scale_here" 654),(.str "_law_shuts" 655),(.str "_law_made_here" 656),(.str "_law_found" 657),(.str "_law_spot_here" 658)]
noncomputable def ob230:Obj:=hF .none st50 "law" 0 .none .none
noncomputable def ob231:Obj:=hC "law" 648 649 650 660 341 342 343 344 345 218 1 0 0 3 181 659 218 true
noncomputable def ob232:Obj:=zzH st50 "law" zzN 346
noncomputable def oL0(P:AA):List Obj:=[PySem.W.boot_o_0 P,PySem.W.boot_o_1 P,PySem.W.boot_o_2 P,PySem.W.boot_o_3 P,PySem.W.boot_o_4 P,PySem.W.boot_o_5 P,PySem.W.boot_o_6 P,PySem.W.boot_o_7 P,PySem.W.boot_o_8 P,PySem.W.boot_o_9 P,PySem.W.boot_o_10 P,ob11,ob12,ob13,ob14,ob15 P]
noncomputable def oL1(P:AA):List Obj:=[ob16,ob17,ob18,ob19 P,ob20,ob21,ob22 P,ob23,ob24,ob25,ob26,ob27 P,ob28,ob29,ob30,ob31 P]
noncomputable def oL2(P:AA):List Obj:=[ob32,ob33,ob34 P,ob35,ob36,ob37,ob38 P,ob39,ob40,ob41 P,ob42,ob43,ob44,ob45,ob46,ob47]
noncomputable def oL3(P:AA):List Obj:=[ob48,ob49,ob50 P,ob51,ob52,ob53,ob54 P,ob55,ob56,ob57 P,ob58,ob59,ob60,ob61,ob62,ob63]
noncomputable def oL4(P:AA):List Obj:=[ob64,ob65,ob66 P,ob67,ob68,ob69,ob70,ob71,ob72,ob73,ob74,ob75,ob76,ob77,ob78,ob79]
noncomputable def oL5(P:AA):List Obj:=[ob80,ob81,ob82,ob83,ob84,ob85,ob86 P,ob87,ob88,ob89,ob90,ob91,ob92,ob93,ob94,ob95]
noncomputable def oL6(P:AA):List Obj:=[ob96,ob97,ob98,ob99,ob100,ob101,ob102,ob103,ob104,ob105,ob106,ob107,ob108,ob109,ob110,ob111]
noncomputable def oL7(P:AA):List Obj:=[ob112,ob113,ob114,ob115,ob116,ob117,ob118,ob119,ob120,ob121,ob122,ob123,ob124,ob125,ob126,ob127]
noncomputable def oL8(P:AA):List Obj:=[ob128,ob129,ob130,ob131,ob132,ob133,ob134,ob135,ob136 P,ob137,ob138,ob139,ob140,ob141,ob142,ob143]
noncomputable def oL9(P:AA):List Obj:=[ob144,ob145,ob146,ob147,ob148,ob149,ob150,ob151,ob152,ob153,ob154,ob155,ob156,ob157,ob158,ob159]
noncomputable def oL10(P:AA):List Obj:=[ob160,ob161,ob162,ob163,ob164,ob165,ob166,ob167,ob168,ob169,ob170,ob171,ob172,ob173,ob174,ob175]
noncomputable def oL11(P:AA):List Obj:=[ob176,ob177,ob178,ob179,ob180,ob181 P,ob182,ob183,ob184,ob185,ob186,ob187,ob188,ob189,ob190,ob191]
noncomputable def oL12(P:AA):List Obj:=[ob192,ob193,ob194,ob195,ob196,ob197,ob198,ob199,ob200,ob201,ob202,ob203,ob204,ob205,ob206,ob207]
noncomputable def oL13(P:AA):List Obj:=[ob208,ob209,ob210,ob211,ob212,ob213,ob214,ob215,ob216,ob217,ob218,ob219,ob220,ob221,ob222,ob223]
noncomputable def oL14(P:AA):List Obj:=[ob224,ob225,ob226,ob227 P,ob228,ob229,ob230,ob231,ob232]
noncomputable def fA(c i:Nat)(P:AA):Obj:=(([oL0 P,oL1 P,oL2 P,oL3 P,oL4 P,oL5 P,oL6 P,oL7 P,oL8 P,oL9 P,oL10 P,oL11 P,oL12 P,oL13 P,oL14 P]:List (List Obj)).getD c []).getD i { cls:=.none }
noncomputable def tW0(n:Nat->As->As->As)(e:As):As:=(fun m:Nat->As=>(n 0 (n 1 (n 3 (m 7) (m 11)) (n 5 (m 9) (m 13))) (n 2 (n 4 (m 8) (m 12)) (n 6 (m 10) (m 14))))) fun a=>n a e e
noncomputable def tX0(f:Nat->Nat->AA->Obj)(P:AA):As:=tW0 (fun k=>.node (f (k/16) (k%16) P)) .nil
noncomputable def tW1(n:Nat->As->As->As)(e:As):As:=(fun m:Nat->As=>(n 0 (n 1 (n 15 (n 7 (m 17) (m 22)) (n 11 (m 12) (m 26))) (n 5 (n 9 (m 19) (m 24)) (n 13 (m 21) e))) (n 2 (n 4 (n 8 (m 18) (m 23)) (n 16 (m 20) e)) (n 6 (n 10 (m 11) (m 25)) (n 14 (m 11) e))))) fun a=>n a e e
noncomputable def tX1(f:Nat->Nat->AA->Obj)(P:AA):As:=tW1 (fun k=>.node (f (k/16) (k%16) P)) .nil
noncomputable def tW2(n:Nat->As->As->As)(e:As):As:=(fun m:Nat->As=>(n 0 (n 1 (n 27 (n 7 (n 17 (m 11) e) (n 22 (m 37) e)) (n 11 (n 12 (m 11) e) (m 26))) (n 5 (n 9 (n 19 (m 32) e) (m 24)) (n 13 (n 21 (m 35) e) (m 18)))) (n 2 (n 4 (n 8 (n 18 (m 12) e) (m 29)) (n 28 (n 20 (m 34) e) (m 30))) (n 6 (n 10 (n 11 (m 33) e) (m 25)) (n 14 (n 11 (m 36) e) (m 31)))))) fun a=>n a e e
noncomputable def tX2(f:Nat->Nat->AA->Obj)(P:AA):As:=tW2 (fun k=>.node (f (k/16) (k%16) P)) .nil
noncomputable def tW3(n:Nat->As->As->As)(e:As):As:=(fun m:Nat->As=>(n 0 (n 1 (n 38 (n 7 (n 17 (m 11) (m 11)) (n 22 (m 37) (m 50))) (n 11 (n 12 (m 11) (m 46)) (n 26 (m 11) e))) (n 5 (n 9 (n 19 (m 32) (m 45)) (n 24 (m 18) (m 52))) (n 13 (n 21 (m 35) (m 48)) (n 18 (m 43) e)))) (n 2 (n 4 (n 8 (n 18 (m 12) (m 12)) (n 40 (m 30) (m 51))) (n 39 (n 20 (m 34) (m 47)) (n 30 (m 42) e))) (n 6 (n 10 (n 11 (m 33) (m 11)) (n 25 (m 41) (m 53))) (n 14 (n 11 (m 36) (m 49)) (n 31 (m 44) e)))))) fun a=>n a e e
noncomputable def tX3(f:Nat->Nat->AA->Obj)(P:AA):As:=tW3 (fun k=>.node (f (k/16) (k%16) P)) .nil
noncomputable def tW4(n:Nat->As->As->As)(e:As):As:=(fun m:Nat->As=>(n 0 (n 1 (n 54 (n 7 (n 17 (n 11 (m 58) (m 11)) (n 11 (m 12) e)) (n 22 (n 37 (m 63) (m 83)) (n 50 (m 74) e))) (n 11 (n 12 (n 11 (m 12) (m 11)) (n 46 (m 72) e)) (n 26 (n 11 (m 67) e) (n 30 (m 77) e)))) (n 5 (n 9 (n 19 (n 32 (m 60) (m 80)) (n 45 (m 11) e)) (n 24 (n 18 (m 65) (m 85)) (n 52 (m 75) e))) (n 13 (n 21 (n 35 (m 11) (m 82)) (n 48 (m 11) e)) (n 18 (n 43 (m 69) e) (n 57 (m 12) e))))) (n 2 (n 4 (n 8 (n 18 (n 12 (m 59) (m 79)) (n 12 (m 70) e)) (n 56 (n 30 (m 64) (m 84)) (n 51 (m 11) e))) (n 55 (n 20 (n 34 (m 61) (m 12)) (n 47 (m 73) e)) (n 30 (n 42 (m 68) e) (n 18 (m 11) e)))) (n 6 (n 10 (n 11 (n 33 (m 11) (m 81)) (n 11 (m 71) e)) (n 25 (n 41 (m 66) e) (n 53 (m 76) e))) (n 14 (n 11 (n 36 (m 62) (m 11)) (n 49 (m 12) e)) (n 31 (n 44 (m 11) e) (n 11 (m 78) e))))))) fun a=>n a e e
noncomputable def tX4(f:Nat->Nat->AA->Obj)(P:AA):As:=tW4 (fun k=>.node (f (k/16) (k%16) P)) .nil
noncomputable def tW5(n:Nat->As->As->As)(e:As):As:=(fun m:Nat->As=>(n 0 (n 1 (n 86 (n 7 (n 17 (n 11 (n 58 (m 11) e) (n 11 (m 117) e)) (n 11 (n 12 (m 108) e) (n 90 (m 127) e))) (n 22 (n 37 (n 63 (m 12) e) (n 83 (m 122) e)) (n 50 (n 74 (m 11) e) (n 95 (m 11) e)))) (n 11 (n 12 (n 11 (n 12 (m 101) e) (n 11 (m 12) e)) (n 46 (n 72 (m 111) e) (n 92 (m 11) e))) (n 26 (n 11 (n 67 (m 106) e) (n 12 (m 124) e)) (n 30 (n 77 (m 11) e) (n 11 (m 133) e))))) (n 5 (n 9 (n 19 (n 32 (n 60 (m 100) e) (n 80 (m 119) e)) (n 45 (n 11 (m 109) e) (n 11 (m 12) e))) (n 24 (n 18 (n 65 (m 11) e) (n 85 (m 11) e)) (n 52 (n 75 (m 114) e) (n 12 (m 132) e)))) (n 13 (n 21 (n 35 (n 11 (m 103) e) (n 82 (m 11) e)) (n 48 (n 11 (m 12) e) (n 93 (m 130) e))) (n 18 (n 43 (n 69 (m 11) e) (n 11 (m 125) e)) (n 57 (n 12 (m 116) e) (n 98 (m 135) e)))))) (n 2 (n 4 (n 8 (n 18 (n 12 (n 59 (m 12) e) (n 79 (m 118) e)) (n 12 (n 70 (m 11) e) (n 91 (m 11) e))) (n 56 (n 30 (n 64 (m 104) e) (n 84 (m 123) e)) (n 51 (n 11 (m 113) e) (n 11 (m 12) e)))) (n 87 (n 20 (n 34 (n 61 (m 102) e) (n 12 (m 120) e)) (n 47 (n 73 (m 11) e) (n 11 (m 129) e))) (n 30 (n 42 (n 68 (m 107) e) (n 88 (m 11) e)) (n 18 (n 11 (m 12) e) (n 97 (m 134) e))))) (n 6 (n 10 (n 11 (n 33 (n 11 (m 11) e) (n 81 (m 11) e)) (n 11 (n 71 (m 110) e) (n 12 (m 128) e))) (n 25 (n 41 (n 66 (m 105) e) (n 11 (m 12) e)) (n 53 (n 76 (m 115) e) (n 96 (m 11) e)))) (n 14 (n 11 (n 36 (n 62 (m 11) e) (n 11 (m 121) e)) (n 49 (n 12 (m 112) e) (n 94 (m 131) e))) (n 31 (n 44 (n 11 (m 12) e) (n 89 (m 126) e)) (n 11 (n 78 (m 11) e) (m 99)))))))) fun a=>n a e e
noncomputable def tX5(f:Nat->Nat->AA->Obj)(P:AA):As:=tW5 (fun k=>.node (f (k/16) (k%16) P)) .nil
noncomputable def tW6(n:Nat->As->As->As)(e:As):As:=(fun m:Nat->As=>(n 0 (n 1 (n 136 (n 7 (n 17 (n 11 (n 58 (n 11 (m 174) e) (m 12)) (n 11 (m 117) (m 156))) (n 11 (n 12 (m 108) (m 11)) (n 90 (m 127) (m 11)))) (n 22 (n 37 (n 63 (n 12 (m 179) e) (m 142)) (n 83 (m 122) (m 161))) (n 50 (n 74 (m 11) (m 151)) (n 95 (m 11) (m 12))))) (n 11 (n 12 (n 11 (n 12 (n 101 (m 12) e) (m 140)) (n 11 (m 12) (m 158))) (n 46 (n 72 (m 111) (m 11)) (n 92 (m 11) (m 167)))) (n 26 (n 11 (n 67 (m 106) (m 145)) (n 12 (m 124) (m 11))) (n 30 (n 77 (m 11) (m 12)) (n 11 (m 133) (m 172)))))) (n 5 (n 9 (n 19 (n 32 (n 60 (n 100 (m 176) e) (m 11)) (n 80 (m 119) (m 11))) (n 45 (n 11 (m 109) (m 148)) (n 11 (m 12) (m 166)))) (n 24 (n 18 (n 65 (m 11) (m 143)) (n 85 (m 11) (m 12))) (n 52 (n 75 (m 114) (m 153)) (n 12 (m 132) (m 11))))) (n 13 (n 21 (n 35 (n 11 (n 103 (m 11) e) (m 11)) (n 82 (m 11) (m 159))) (n 48 (n 11 (m 12) (m 150)) (n 93 (m 130) (m 169)))) (n 18 (n 43 (n 69 (m 11) (m 12)) (n 11 (m 125) (m 164))) (n 57 (n 12 (m 116) (m 11)) (n 98 (m 135) (m 11))))))) (n 2 (n 4 (n 8 (n 18 (n 12 (n 59 (n 12 (m 175) e) (m 138)) (n 79 (m 118) (m 157))) (n 12 (n 70 (m 11) (m 147)) (n 91 (m 11) (m 12)))) (n 56 (n 30 (n 64 (n 104 (m 180) e) (m 11)) (n 84 (m 123) (m 11))) (n 51 (n 11 (m 113) (m 152)) (n 11 (m 12) (m 170))))) (n 137 (n 20 (n 34 (n 61 (n 102 (m 177) e) (m 141)) (n 12 (m 120) (m 11))) (n 47 (n 73 (m 11) (m 12)) (n 11 (m 129) (m 168)))) (n 30 (n 42 (n 68 (m 107) (m 11)) (n 88 (m 11) (m 163))) (n 18 (n 11 (m 12) (m 154)) (n 97 (m 134) (m 173)))))) (n 6 (n 10 (n 11 (n 33 (n 11 (n 11 (m 11) e) (m 139)) (n 81 (m 11) (m 12))) (n 11 (n 71 (m 110) (m 149)) (n 12 (m 128) (m 11)))) (n 25 (n 41 (n 66 (m 105) (m 144)) (n 11 (m 12) (m 162))) (n 53 (n 76 (m 115) (m 11)) (n 96 (m 11) (m 171))))) (n 14 (n 11 (n 36 (n 62 (n 11 (m 178) e) (m 12)) (n 11 (m 121) (m 160))) (n 49 (n 12 (m 112) (m 11)) (n 94 (m 131) (m 11)))) (n 31 (n 44 (n 11 (m 12) (m 146)) (n 89 (m 126) (m 165))) (n 11 (n 78 (m 11) (m 155)) (n 99 (m 11) (m 12))))))))) fun a=>n a e e
noncomputable def tX6(f:Nat->Nat->AA->Obj)(P:AA):As:=tW6 (fun k=>.node (f (k/16) (k%16) P)) .nil
noncomputable def tW7(n:Nat->As->As->As)(e:As):As:=(fun m:Nat->As=>(n 0 (n 1 (n 181 (n 7 (n 17 (n 11 (n 58 (n 11 (m 174) e) (n 12 (m 11) e)) (n 11 (n 117 (m 11) e) (m 156))) (n 11 (n 12 (n 108 (m 186) e) (n 11 (m 223) e)) (n 90 (n 127 (m 204) e) (m 11)))) (n 22 (n 37 (n 63 (n 12 (m 179) e) (n 142 (m 11) e)) (n 83 (n 122 (m 199) e) (m 161))) (n 50 (n 74 (n 11 (m 11) e) (m 151)) (n 95 (n 11 (m 209) e) (m 12))))) (n 11 (n 12 (n 11 (n 12 (n 101 (m 12) e) (n 140 (m 216) e)) (n 11 (n 12 (m 11) e) (m 158))) (n 46 (n 72 (n 111 (m 11) e) (n 11 (m 225) e)) (n 92 (n 11 (m 206) e) (m 167)))) (n 26 (n 11 (n 67 (n 106 (m 183) e) (n 145 (m 11) e)) (n 12 (n 124 (m 12) e) (m 11))) (n 30 (n 77 (n 11 (m 193) e) (m 12)) (n 11 (n 133 (m 11) e) (m 172)))))) (n 5 (n 9 (n 19 (n 32 (n 60 (n 100 (m 176) e) (n 11 (m 214) e)) (n 80 (n 119 (m 196) e) (m 11))) (n 45 (n 11 (n 109 (m 12) e) (n 148 (m 12) e)) (n 11 (n 12 (m 11) e) (m 166)))) (n 24 (n 18 (n 65 (n 11 (m 11) e) (n 143 (m 219) e)) (n 85 (n 11 (m 201) e) (m 12))) (n 52 (n 75 (n 114 (m 191) e) (m 153)) (n 12 (n 132 (m 12) e) (m 11))))) (n 13 (n 21 (n 35 (n 11 (n 103 (m 11) e) (n 11 (m 12) e)) (n 82 (n 11 (m 198) e) (m 159))) (n 48 (n 11 (n 12 (m 189) e) (m 150)) (n 93 (n 130 (m 207) e) (m 169)))) (n 18 (n 43 (n 69 (n 11 (m 184) e) (n 12 (m 221) e)) (n 11 (n 125 (m 11) e) (m 164))) (n 57 (n 12 (n 116 (m 12) e) (m 11)) (n 98 (n 135 (m 212) e) (m 11))))))) (n 2 (n 4 (n 8 (n 18 (n 12 (n 59 (n 12 (m 175) e) (n 138 (m 12) e)) (n 79 (n 118 (m 195) e) (m 157))) (n 12 (n 70 (n 11 (m 11) e) (n 147 (m 11) e)) (n 91 (n 11 (m 205) e) (m 12)))) (n 56 (n 30 (n 64 (n 104 (m 180) e) (n 11 (m 218) e)) (n 84 (n 123 (m 200) e) (m 11))) (n 51 (n 11 (n 113 (m 12) e) (m 152)) (n 11 (n 12 (m 11) e) (m 170))))) (n 182 (n 20 (n 34 (n 61 (n 102 (m 177) e) (n 141 (m 11) e)) (n 12 (n 120 (m 12) e) (m 11))) (n 47 (n 73 (n 11 (m 188) e) (n 12 (m 226) e)) (n 11 (n 129 (m 11) e) (m 168)))) (n 30 (n 42 (n 68 (n 107 (m 11) e) (n 11 (m 12) e)) (n 88 (n 11 (m 202) e) (m 163))) (n 18 (n 11 (n 12 (m 11) e) (m 154)) (n 97 (n 134 (m 211) e) (m 173)))))) (n 6 (n 10 (n 11 (n 33 (n 11 (n 11 (m 11) e) (n 139 (m 215) e)) (n 81 (n 11 (m 197) e) (m 12))) (n 11 (n 71 (n 110 (m 187) e) (n 149 (m 224) e)) (n 12 (n 128 (m 12) e) (m 11)))) (n 25 (n 41 (n 66 (n 105 (m 12) e) (n 144 (m 220) e)) (n 11 (n 12 (m 11) e) (m 162))) (n 53 (n 76 (n 115 (m 192) e) (m 11)) (n 96 (n 11 (m 210) e) (m 171))))) (n 14 (n 11 (n 36 (n 62 (n 11 (m 178) e) (n 12 (m 217) e)) (n 11 (n 121 (m 11) e) (m 160))) (n 49 (n 12 (n 112 (m 190) e) (m 11)) (n 94 (n 131 (m 208) e) (m 11)))) (n 31 (n 44 (n 11 (n 12 (m 185) e) (n 146 (m 222) e)) (n 89 (n 126 (m 203) e) (m 165))) (n 11 (n 78 (n 11 (m 194) e) (m 155)) (n 99 (n 11 (m 213) e) (m 12))))))))) fun a=>n a e e
noncomputable def tX7(f:Nat->Nat->AA->Obj)(P:AA):As:=tW7 (fun k=>.node (f (k/16) (k%16) P)) .nil
noncomputable def tW8(n:Nat->As->As->As)(e:As):As:=(fun m:Nat->As=>(n 0 (n 1 (n 227 (n 7 (n 17 (n 11 (n 58 (n 11 (m 174) e) (n 12 (m 11) e)) (n 11 (n 117 (m 11) e) (m 156))) (n 11 (n 12 (n 108 (m 186) e) (n 11 (m 223) e)) (n 90 (n 127 (m 204) e) (m 11)))) (n 22 (n 37 (n 63 (n 12 (m 179) e) (n 142 (m 11) e)) (n 83 (n 122 (m 199) e) (m 161))) (n 50 (n 74 (n 11 (m 11) e) (n 151 (m 229) e)) (n 95 (n 11 (m 209) e) (m 12))))) (n 11 (n 12 (n 11 (n 12 (n 101 (m 12) e) (n 140 (m 216) e)) (n 11 (n 12 (m 11) e) (m 158))) (n 46 (n 72 (n 111 (m 11) e) (n 11 (m 225) e)) (n 92 (n 11 (m 206) e) (m 167)))) (n 26 (n 11 (n 67 (n 106 (m 183) e) (n 145 (m 11) e)) (n 12 (n 124 (m 12) e) (m 11))) (n 30 (n 77 (n 11 (m 193) e) (n 12 (m 232) e)) (n 11 (n 133 (m 11) e) (m 172)))))) (n 5 (n 9 (n 19 (n 32 (n 60 (n 100 (m 176) e) (n 11 (m 214) e)) (n 80 (n 119 (m 196) e) (m 11))) (n 45 (n 11 (n 109 (m 12) e) (n 148 (m 12) e)) (n 11 (n 12 (m 11) e) (m 166)))) (n 24 (n 18 (n 65 (n 11 (m 11) e) (n 143 (m 219) e)) (n 85 (n 11 (m 201) e) (m 12))) (n 52 (n 75 (n 114 (m 191) e) (n 153 (m 230) e)) (n 12 (n 132 (m 12) e) (m 11))))) (n 13 (n 21 (n 35 (n 11 (n 103 (m 11) e) (n 11 (m 12) e)) (n 82 (n 11 (m 198) e) (m 159))) (n 48 (n 11 (n 12 (m 189) e) (n 150 (m 11) e)) (n 93 (n 130 (m 207) e) (m 169)))) (n 18 (n 43 (n 69 (n 11 (m 184) e) (n 12 (m 221) e)) (n 11 (n 125 (m 11) e) (m 164))) (n 57 (n 12 (n 116 (m 12) e) (m 11)) (n 98 (n 135 (m 212) e) (m 11))))))) (n 2 (n 4 (n 8 (n 18 (n 12 (n 59 (n 12 (m 175) e) (n 138 (m 12) e)) (n 79 (n 118 (m 195) e) (m 157))) (n 12 (n 70 (n 11 (m 11) e) (n 147 (m 11) e)) (n 91 (n 11 (m 205) e) (m 12)))) (n 56 (n 30 (n 64 (n 104 (m 180) e) (n 11 (m 218) e)) (n 84 (n 123 (m 200) e) (m 11))) (n 51 (n 11 (n 113 (m 12) e) (n 152 (m 11) e)) (n 11 (n 12 (m 11) e) (m 170))))) (n 228 (n 20 (n 34 (n 61 (n 102 (m 177) e) (n 141 (m 11) e)) (n 12 (n 120 (m 12) e) (m 11))) (n 47 (n 73 (n 11 (m 188) e) (n 12 (m 226) e)) (n 11 (n 129 (m 11) e) (m 168)))) (n 30 (n 42 (n 68 (n 107 (m 11) e) (n 11 (m 12) e)) (n 88 (n 11 (m 202) e) (m 163))) (n 18 (n 11 (n 12 (m 11) e) (m 154)) (n 97 (n 134 (m 211) e) (m 173)))))) (n 6 (n 10 (n 11 (n 33 (n 11 (n 11 (m 11) e) (n 139 (m 215) e)) (n 81 (n 11 (m 197) e) (m 12))) (n 11 (n 71 (n 110 (m 187) e) (n 149 (m 224) e)) (n 12 (n 128 (m 12) e) (m 11)))) (n 25 (n 41 (n 66 (n 105 (m 12) e) (n 144 (m 220) e)) (n 11 (n 12 (m 11) e) (m 162))) (n 53 (n 76 (n 115 (m 192) e) (n 11 (m 231) e)) (n 96 (n 11 (m 210) e) (m 171))))) (n 14 (n 11 (n 36 (n 62 (n 11 (m 178) e) (n 12 (m 217) e)) (n 11 (n 121 (m 11) e) (m 160))) (n 49 (n 12 (n 112 (m 190) e) (n 11 (m 12) e)) (n 94 (n 131 (m 208) e) (m 11)))) (n 31 (n 44 (n 11 (n 12 (m 185) e) (n 146 (m 222) e)) (n 89 (n 126 (m 203) e) (m 165))) (n 11 (n 78 (n 11 (m 194) e) (m 155)) (n 99 (n 11 (m 213) e) (m 12))))))))) fun a=>n a e e
noncomputable def tX8(f:Nat->Nat->AA->Obj)(P:AA):As:=tW8 (fun k=>.node (f (k/16) (k%16) P)) .nil
noncomputable def hX0(f:Nat->Nat->AA->Obj)(P:AA):Heap:=(fun g:Nat->Obj=>(⟨⟨[g 0,g 1,g 2,g 3,g 4,g 5,g 6,g 7,g 8,g 9,g 10,g 11,g 12,g 13,g 14]⟩,{}⟩:Heap)) fun k=>f (k/16) (k%16) P
noncomputable def hX1(f:Nat->Nat->AA->Obj)(P:AA):Heap:=(fun g:Nat->Obj=>(⟨⟨[g 0,g 1,g 2,g 227,g 4,g 5,g 6,g 7,g 8,g 9,g 10,g 11,g 228,g 13,g 14,g 17,g 18,g 19,g 11,g 12,g 20,g 21,g 11,g 22,g 56,g 24,g 25,g 26,g 30,g 18,g 31,g 11,g 12,g 32,g 33,g 11,g 34,g 35,g 36,g 37,g 30,g 18,g 41,g 11,g 42,g 43,g 44,g 11,g 12,g 45,g 11,g 46,g 47,g 48,g 49,g 50,g 51,g 52,g 53,g 30,g 18,g 57,g 11,g 58,g 59,g 60,g 11,g 12,g 61,g 11,g 62,g 63,g 64,g 65,g 66,g 67,g 68,g 69,g 11,g 12,g 70,g 11,g 71,g 72,g 73,g 11,g 12,g 74,g 11,g 75,g 76,g 77,g 11,g 12,g 78,g 11,g 79,g 80,g 81,g 11,g 12,g 82,g 11,g 83,g 84,g 85,g 11,g 12,g 88,g 11,g 89,g 90,g 91,g 11,g 12,g 92,g 11,g 93,g 94,g 95,g 11,g 12,g 96,g 11,g 97,g 98,g 99,g 11,g 12,g 100,g 11,g 101,g 102,g 103,g 11,g 12,g 104,g 11,g 105,g 106,g 107,g 11,g 12,g 108,g 11,g 109,g 110,g 111,g 11,g 12,g 112,g 11,g 113,g 114,g 115,g 11,g 12,g 116,g 11,g 117,g 118,g 119,g 11,g 12,g 120,g 11,g 121,g 122,g 123,g 11,g 12,g 124,g 11,g 125,g 126,g 127,g 11,g 12,g 128,g 11,g 129,g 130,g 131,g 11,g 12,g 132,g 11,g 133,g 134,g 135,g 11,g 12,g 138,g 11,g 139,g 140,g 141,g 11,g 12,g 142,g 11,g 143,g 144,g 145,g 11,g 12,g 146,g 11,g 147,g 148,g 149,g 11,g 12,g 150,g 11,g 151,g 152,g 153,g 11,g 12,g 154,g 11,g 155,g 156,g 157,g 11,g 12,g 158,g 11,g 159,g 160,g 161,g 11,g 12,g 162,g 11,g 163,g 164,g 165,g 11,g 12,g 166,g 11,g 167,g 168,g 169,g 11,g 12,g 170,g 11,g 171,g 172,g 173,g 11,g 12,g 174,g 175,g 176,g 11,g 12,g 177,g 11,g 178,g 179,g 180,g 11,g 12,g 183,g 11,g 184,g 185,g 186,g 11,g 12,g 187,g 11,g 188,g 189,g 190,g 11,g 12,g 191,g 192,g 193,g 11,g 12,g 194,g 11,g 195,g 196,g 197,g 11,g 12,g 198,g 11,g 199,g 200,g 201,g 11,g 12,g 202,g 11,g 203,g 204,g 205,g 11,g 12,g 206,g 11,g 207,g 208,g 209,g 11,g 12,g 210,g 11,g 211,g 212,g 213,g 11,g 12,g 214,g 215,g 216,g 11,g 12,g 217,g 11,g 218,g 219,g 220,g 11,g 12,g 221,g 222,g 223,g 11,g 12,g 224,g 225,g 226,g 11,g 12,g 229,g 11,g 230,g 231,g 232]⟩,{}⟩:Heap)) fun k=>f (k/16) (k%16) P
theorem laid:(fun(_:Au) (_:Au) (_:Nat->Nat->AA->Obj) (_:List Stmt) (_:List Stmt) (_:List Stmt) (_:List Stmt) (_:List Stmt) (_:List Stmt) (_:List Stmt) (_:List Stmt)=>true) pw2 vw fA sx0 sx1 sx2 sx3 sx4 sx5 sx6 sx7=true:=by k_qdec
end QQ
namespace PySem.W.Fast
noncomputable def tw5059144862150625152:Au:=tw4061903402435717205
theorem te5059144862150625152:AB=tw5059144862150625152:=Eq.trans (by kernel_rfl:AB=QQ.pw2) te4061903402435717205
noncomputable def tw7989128574033801008:Au:=tw2543460329597916322
theorem te7989128574033801008:QQ.vw=tw7989128574033801008:=te2543460329597916322
noncomputable def tw2547141147984914324:List Stmt:=tw4220349153739756805
theorem te2547141147984914324:QQ.sx0=tw2547141147984914324:=te4220349153739756805
noncomputable def tw12307293988185144325:List Stmt:=tw11397161696757032129
theorem te12307293988185144325:QQ.sx1=tw12307293988185144325:=te11397161696757032129
noncomputable def tw12133862869237110182:List Stmt:=tw10303515436491237874
theorem te12133862869237110182:QQ.sx2=tw12133862869237110182:=te10303515436491237874
noncomputable def tw13043989340786211288:List Stmt:=tw12358083906500975388
theorem te13043989340786211288:QQ.sx3=tw13043989340786211288:=te12358083906500975388
noncomputable def tw2672444931330883843:List Stmt:=tw2861187580803015100
theorem te2672444931330883843:QQ.sx4=tw2672444931330883843:=te2861187580803015100
noncomputable def tw10979556329987765653:List Stmt:=tw9932084693255007381
theorem te10979556329987765653:QQ.sx5=tw10979556329987765653:=te9932084693255007381
noncomputable def tw3806470864474479672:List Stmt:=tw1890974291257386441
theorem te3806470864474479672:QQ.sx6=tw3806470864474479672:=te1890974291257386441
noncomputable def tw8166161921826497428:List Stmt:=tw11967835380637100291
theorem te8166161921826497428:QQ.sx7=tw8166161921826497428:=te11967835380637100291
noncomputable def tw3314753067283198687:AA->BT:=QQ.tX0 tw16523235828492288951
theorem te3314753067283198687:QQ.tX0 QQ.fA=tw3314753067283198687:=congrArg QQ.tX0 te16523235828492288951
noncomputable def tw178671513097343658:AA->BT:=QQ.tX1 tw16523235828492288951
theorem te178671513097343658:QQ.tX1 QQ.fA=tw178671513097343658:=congrArg QQ.tX1 te16523235828492288951
noncomputable def tw3752986339044004180:AA->BT:=QQ.tX2 tw16523235828492288951
theorem te3752986339044004180:QQ.tX2 QQ.fA=tw3752986339044004180:=congrArg QQ.tX2 te16523235828492288951
noncomputable def tw7361743126678350095:AA->BT:=QQ.tX3 tw16523235828492288951
theorem te7361743126678350095:QQ.tX3 QQ.fA=tw7361743126678350095:=congrArg QQ.tX3 te16523235828492288951
noncomputable def tw11996640926348791765:AA->BT:=QQ.tX4 tw16523235828492288951
theorem te11996640926348791765:QQ.tX4 QQ.fA=tw11996640926348791765:=congrArg QQ.tX4 te16523235828492288951
noncomputable def tw11233620687477103899:AA->BT:=QQ.tX5 tw16523235828492288951
theorem te11233620687477103899:QQ.tX5 QQ.fA=tw11233620687477103899:=congrArg QQ.tX5 te16523235828492288951
noncomputable def tw7907356510944893971:AA->BT:=QQ.tX6 tw16523235828492288951
theorem te7907356510944893971:QQ.tX6 QQ.fA=tw7907356510944893971:=congrArg QQ.tX6 te16523235828492288951
noncomputable def tw3714547736182828527:AA->BT:=QQ.tX7 tw16523235828492288951
theorem te3714547736182828527:QQ.tX7 QQ.fA=tw3714547736182828527:=congrArg QQ.tX7 te16523235828492288951
noncomputable def tw690158748220523176:AA->BT:=QQ.tX8 tw16523235828492288951
theorem te690158748220523176:QQ.tX8 QQ.fA=tw690158748220523176:=congrArg QQ.tX8 te16523235828492288951
noncomputable def tw9254234321842170509:AA->PySem.Heap:=QQ.hX0 tw16523235828492288951
theorem te9254234321842170509:QQ.hX0 QQ.fA=tw9254234321842170509:=congrArg QQ.hX0 te16523235828492288951
noncomputable def tw2522039997498714563:AA->PySem.Heap:=QQ.hX1 tw16523235828492288951
theorem te2522039997498714563:QQ.hX1 QQ.fA=tw2522039997498714563:=congrArg QQ.hX1 te16523235828492288951
end PySem.W.Fast
open PySem PySem.W PyProof.Rows
set_option maxRecDepth 100000 in
set_option maxHeartbeats 0 in
theorem PySem.Challenge.cw_spotlook_k12_whole_parted_covers_the_sam_holds : PySem.Challenge.rw_spotlook_k12_whole_parted_covers_the_sam.Holds := by
 w_on;o_law;o_head (PySem.W.kmHook QQ.kK [↑3,↑4,↑83,↑84,↑90,↑91,↑97,↑98,↑104,↑105,↑111,↑112,↑118,↑119,↑125,↑126,↑132,↑133,↑139,↑140,↑146,↑147,↑153,↑154,↑160,↑161,↑167,↑168,↑174,↑175,↑181,↑182,↑188,↑189,↑195,↑196,↑202,↑203,↑209,↑210,↑216,↑217,↑223,↑224,↑230,↑231,↑237,↑238,↑244,↑245,↑251,↑252,↑256,↑257,↑263,↑264,↑270,↑271,↑277,↑278,↑282,↑283,↑289,↑290,↑296,↑297,↑303,↑304,↑310,↑311,↑317,↑318,↑322,↑323,↑329,↑330,↑334,↑335,↑339,↑340,↑346,↑347] (fun _=>by kernel_rfl) [280]);(case hw=>w_witness2)
 k_fill
 refine SD.oR (Pt:=280) (c0:=282) (k:=10) (x:="_law_script") (sp:=QQ.fS) (l:=PySem.Challenge.rw_spotlook_k12_whole_parted_covers_the_sam) rfl rfl ⟨rfl,by decide,by decide⟩ (fun w h Y=>PySem.W.km_in_of Y) (fun w h Y=>PySem.W.km_tabs_of Y _ (by simp)) (fun w=>by kernel_rfl) (fun w=>by kernel_rfl) ?F QQ.vZ
 case F=>
  intro w mg fa h KX G hmg
  have t_law_cell_at:SD.Txt (L2.KOf KX) mg "_law_cell_at" QQ.cT:=by
   dsimp only[L2.KOf]
   refine' SD.Txt.mk KX G ?a ?l ?c ?k
   (case a=>k_is);(case l=>k_is);(case c=>k_is);(case k=>k_is)
  have t_law_take:SD.Txt (L2.KOf KX) mg "_law_take" QQ.d5:=by
   dsimp only[L2.KOf]
   refine' SD.Txt.mk KX G ?a ?l ?c ?k
   (case a=>k_is);(case l=>k_is);(case c=>k_is);(case k=>k_is)
  have t_law_scale:SD.Txt (L2.KOf KX) mg "_law_scale" QQ.dI:=by
   dsimp only[L2.KOf]
   refine' SD.Txt.mk KX G ?a ?l ?c ?k
   (case a=>k_is);(case l=>k_is);(case c=>k_is);(case k=>k_is)
  have t_law_any:SD.Txt (L2.KOf KX) mg "_law_any" QQ.fI:=by
   dsimp only[L2.KOf]
   refine' SD.Txt.mk KX G ?a ?l ?c ?k
   (case a=>k_is);(case l=>k_is);(case c=>k_is);(case k=>k_is)
  have t_law_low:SD.Txt (L2.KOf KX) mg "_law_low" QQ.fu:=by
   dsimp only[L2.KOf]
   refine' SD.Txt.mk KX G ?a ?l ?c ?k
   (case a=>k_is);(case l=>k_is);(case c=>k_is);(case k=>k_is)
  have t_law_spot:SD.Txt (L2.KOf KX) mg "_law_spot" QQ.d8:=by
   dsimp only[L2.KOf]
   refine' SD.Txt.mk KX G ?a ?l ?c ?k
   (case a=>k_is);(case l=>k_is);(case c=>k_is);(case k=>k_is)
  have t_law_made:SD.Txt (L2.KOf KX) mg "_law_made" QQ.eM:=by
   dsimp only[L2.KOf]
   refine' SD.Txt.mk KX G ?a ?l ?c ?k
   (case a=>k_is);(case l=>k_is);(case c=>k_is);(case k=>k_is)
  have t_is_less:SD.Txt (L2.KOf KX) mg "is_less" QQ.fL:=by
   dsimp only[L2.KOf]
   refine' SD.Txt.mk KX G ?a ?l ?c ?k
   (case a=>k_is);(case l=>k_is);(case c=>k_is);(case k=>k_is)
  have t_is_ahead:SD.Txt (L2.KOf KX) mg "is_ahead" QQ.eN:=by
   dsimp only[L2.KOf]
   refine' SD.Txt.mk KX G ?a ?l ?c ?k
   (case a=>k_is);(case l=>k_is);(case c=>k_is);(case k=>k_is)
  have t_gap:SD.Txt (L2.KOf KX) mg "gap" QQ.qy:=by
   dsimp only[L2.KOf]
   refine' SD.Txt.mk KX G ?a ?l ?c ?k
   (case a=>k_is);(case l=>k_is);(case c=>k_is);(case k=>k_is)
  have t_lean:SD.Txt (L2.KOf KX) mg "lean" QQ.l7:=by
   dsimp only[L2.KOf]
   refine' SD.Txt.mk KX G ?a ?l ?c ?k
   (case a=>k_is);(case l=>k_is);(case c=>k_is);(case k=>k_is)
  have t_side_of:SD.Txt (L2.KOf KX) mg "side_of" QQ.fw:=by
   dsimp only[L2.KOf]
   refine' SD.Txt.mk KX G ?a ?l ?c ?k
   (case a=>k_is);(case l=>k_is);(case c=>k_is);(case k=>k_is)
  have t_lies_on:SD.Txt (L2.KOf KX) mg "lies_on" QQ.fx:=by
   dsimp only[L2.KOf]
   refine' SD.Txt.mk KX G ?a ?l ?c ?k
   (case a=>k_is);(case l=>k_is);(case c=>k_is);(case k=>k_is)
  have t_greatest_divisor:SD.Txt (L2.KOf KX) mg "greatest_divisor" QQ.bC:=by
   dsimp only[L2.KOf]
   refine' SD.Txt.mk KX G ?a ?l ?c ?k
   (case a=>k_is);(case l=>k_is);(case c=>k_is);(case k=>k_is)
  have t_fraction:SD.Txt (L2.KOf KX) mg "fraction" QQ.eC:=by
   dsimp only[L2.KOf]
   refine' SD.Txt.mk KX G ?a ?l ?c ?k
   (case a=>k_is);(case l=>k_is);(case c=>k_is);(case k=>k_is)
  have t_own_spot:SD.Txt (L2.KOf KX) mg "own_spot" QQ.eD:=by
   dsimp only[L2.KOf]
   refine' SD.Txt.mk KX G ?a ?l ?c ?k
   (case a=>k_is);(case l=>k_is);(case c=>k_is);(case k=>k_is)
  have t_later_of:SD.Txt (L2.KOf KX) mg "later_of" QQ.eG:=by
   dsimp only[L2.KOf]
   refine' SD.Txt.mk KX G ?a ?l ?c ?k
   (case a=>k_is);(case l=>k_is);(case c=>k_is);(case k=>k_is)
  have t_earlier_of:SD.Txt (L2.KOf KX) mg "earlier_of" QQ.dq:=by
   dsimp only[L2.KOf]
   refine' SD.Txt.mk KX G ?a ?l ?c ?k
   (case a=>k_is);(case l=>k_is);(case c=>k_is);(case k=>k_is)
  have t_own_wall:SD.Txt (L2.KOf KX) mg "own_wall" QQ.d9:=by
   dsimp only[L2.KOf]
   refine' SD.Txt.mk KX G ?a ?l ?c ?k
   (case a=>k_is);(case l=>k_is);(case c=>k_is);(case k=>k_is)
  have t_meeting_in_line:SD.Txt (L2.KOf KX) mg "meeting_in_line" QQ.bN:=by
   dsimp only[L2.KOf]
   refine' SD.Txt.mk KX G ?a ?l ?c ?k
   (case a=>k_is);(case l=>k_is);(case c=>k_is);(case k=>k_is)
  have t_over:SD.Txt (L2.KOf KX) mg "over" QQ.lY:=by
   dsimp only[L2.KOf]
   refine' SD.Txt.mk KX G ?a ?l ?c ?k
   (case a=>k_is);(case l=>k_is);(case c=>k_is);(case k=>k_is)
  have t_less:SD.Txt (L2.KOf KX) mg "less" QQ.lQ:=by
   dsimp only[L2.KOf]
   refine' SD.Txt.mk KX G ?a ?l ?c ?k
   (case a=>k_is);(case l=>k_is);(case c=>k_is);(case k=>k_is)
  have t_plus:SD.Txt (L2.KOf KX) mg "plus" QQ.lL:=by
   dsimp only[L2.KOf]
   refine' SD.Txt.mk KX G ?a ?l ?c ?k
   (case a=>k_is);(case l=>k_is);(case c=>k_is);(case k=>k_is)
  have t_times:SD.Txt (L2.KOf KX) mg "times" QQ.j1:=by
   dsimp only[L2.KOf]
   refine' SD.Txt.mk KX G ?a ?l ?c ?k
   (case a=>k_is);(case l=>k_is);(case c=>k_is);(case k=>k_is)
  have t_number_between:SD.Txt (L2.KOf KX) mg "number_between" QQ.bT:=by
   dsimp only[L2.KOf]
   refine' SD.Txt.mk KX G ?a ?l ?c ?k
   (case a=>k_is);(case l=>k_is);(case c=>k_is);(case k=>k_is)
  have t_crossing_spot:SD.Txt (L2.KOf KX) mg "crossing_spot" QQ.cb:=by
   dsimp only[L2.KOf]
   refine' SD.Txt.mk KX G ?a ?l ?c ?k
   (case a=>k_is);(case l=>k_is);(case c=>k_is);(case k=>k_is)
  have t_meeting:SD.Txt (L2.KOf KX) mg "meeting" QQ.fz:=by
   dsimp only[L2.KOf]
   refine' SD.Txt.mk KX G ?a ?l ?c ?k
   (case a=>k_is);(case l=>k_is);(case c=>k_is);(case k=>k_is)
  have t_place_among:SD.Txt (L2.KOf KX) mg "place_among" QQ.cR:=by
   dsimp only[L2.KOf]
   refine' SD.Txt.mk KX G ?a ?l ?c ?k
   (case a=>k_is);(case l=>k_is);(case c=>k_is);(case k=>k_is)
  have t_ahead_first:SD.Txt (L2.KOf KX) mg "ahead_first" QQ.cU:=by
   dsimp only[L2.KOf]
   refine' SD.Txt.mk KX G ?a ?l ?c ?k
   (case a=>k_is);(case l=>k_is);(case c=>k_is);(case k=>k_is)
  have t_cuts_of:SD.Txt (L2.KOf KX) mg "cuts_of" QQ.fF:=by
   dsimp only[L2.KOf]
   refine' SD.Txt.mk KX G ?a ?l ?c ?k
   (case a=>k_is);(case l=>k_is);(case c=>k_is);(case k=>k_is)
  have t_corners_of:SD.Txt (L2.KOf KX) mg "corners_of" QQ.dn:=by
   dsimp only[L2.KOf]
   refine' SD.Txt.mk KX G ?a ?l ?c ?k
   (case a=>k_is);(case l=>k_is);(case c=>k_is);(case k=>k_is)
  have t_by_ends:SD.Txt (L2.KOf KX) mg "by_ends" QQ.cz:=by
   dsimp only[L2.KOf]
   refine' SD.Txt.mk KX G ?a ?l ?c ?k
   (case a=>k_is);(case l=>k_is);(case c=>k_is);(case k=>k_is)
  have t_parted:SD.Txt (L2.KOf KX) mg "parted" QQ.gP:=by
   dsimp only[L2.KOf]
   refine' SD.Txt.mk KX G ?a ?l ?c ?k
   (case a=>k_is);(case l=>k_is);(case c=>k_is);(case k=>k_is)
  have t_meet_as_in_plots:SD.Txt (L2.KOf KX) mg "meet_as_in_plots" QQ.bH:=by
   dsimp only[L2.KOf]
   refine' SD.Txt.mk KX G ?a ?l ?c ?k
   (case a=>k_is);(case l=>k_is);(case c=>k_is);(case k=>k_is)
  have t_first_crossed:SD.Txt (L2.KOf KX) mg "first_crossed" QQ.b5:=by
   dsimp only[L2.KOf]
   refine' SD.Txt.mk KX G ?a ?l ?c ?k
   (case a=>k_is);(case l=>k_is);(case c=>k_is);(case k=>k_is)
  have t_own_plot:SD.Txt (L2.KOf KX) mg "own_plot" QQ.eK:=by
   dsimp only[L2.KOf]
   refine' SD.Txt.mk KX G ?a ?l ?c ?k
   (case a=>k_is);(case l=>k_is);(case c=>k_is);(case k=>k_is)
  have t_plot_of:SD.Txt (L2.KOf KX) mg "plot_of" QQ.fm:=by
   dsimp only[L2.KOf]
   refine' SD.Txt.mk KX G ?a ?l ?c ?k
   (case a=>k_is);(case l=>k_is);(case c=>k_is);(case k=>k_is)
  have t_law_spots:SD.Txt (L2.KOf KX) mg "_law_spots" QQ.dC:=by
   dsimp only[L2.KOf]
   refine' SD.Txt.mk KX G ?a ?l ?c ?k
   (case a=>k_is);(case l=>k_is);(case c=>k_is);(case k=>k_is)
  have t_law_covered:SD.Txt (L2.KOf KX) mg "_law_covered" QQ.cV:=by
   dsimp only[L2.KOf]
   refine' SD.Txt.mk KX G ?a ?l ?c ?k
   (case a=>k_is);(case l=>k_is);(case c=>k_is);(case k=>k_is)
  have t_law:SD.Txt (L2.KOf KX) mg "law" QQ.qe:=by
   dsimp only[L2.KOf]
   refine' SD.Txt.mk KX G ?a ?l ?c ?k
   (case a=>k_is);(case l=>k_is);(case c=>k_is);(case k=>k_is)
  have fc_by_ends:SD.oS (L2.KOf KX) mg "by_ends" QQ.cz 282:=by
   dsimp only[L2.KOf]
   refine' SD.oS.mk KX G ?a ?l ?c ?k
   (case a=>k_is);(case l=>k_is);(case c=>k_is);(case k=>k_is)
  have lm:SD.Mk (L2.KOf KX) mg 282 280:=by
   dsimp only[L2.KOf]
   refine' SD.zA KX G (by kernel_rfl) ?a ?l ?b ?c ?d ?e ?f
   (case a=>k_is);(case l=>k_is);(case b=>decide);(case c=>decide);(case d=>rfl);(case e=>rfl);(case f=>rfl)
  have b_abs:mg "abs"=none:=by
   refine' Bc KX G ?a
   (case a=>k_is)
  have b_enumerate:mg "enumerate"=none:=by
   refine' Bc KX G ?a
   (case a=>k_is)
  have b_int:mg "int"=none:=by
   refine' Bc KX G ?a
   (case a=>k_is)
  have b_len:mg "len"=none:=by
   refine' Bc KX G ?a
   (case a=>k_is)
  have b_list:mg "list"=none:=by
   refine' Bc KX G ?a
   (case a=>k_is)
  have b_max:mg "max"=none:=by
   refine' Bc KX G ?a
   (case a=>k_is)
  have b_min:mg "min"=none:=by
   refine' Bc KX G ?a
   (case a=>k_is)
  have b_range:mg "range"=none:=by
   refine' Bc KX G ?a
   (case a=>k_is)
  have b_sorted:mg "sorted"=none:=by
   refine' Bc KX G ?a
   (case a=>k_is)
  have b_tuple:mg "tuple"=none:=by
   refine' Bc KX G ?a
   (case a=>k_is)
  have b_zip:mg "zip"=none:=by
   refine' Bc KX G ?a
   (case a=>k_is)
  have g_MOST_WALLS:∃t,mg "MOST_WALLS"=some (.int 40 t):=by
   refine' SD.yU KX G ?a
   (case a=>k_is)
  exact QQ.zv ⟨t_law_cell_at,t_law_take,t_law_scale,t_law_any,t_law_low,t_law_spot,t_law_made,t_is_less,t_is_ahead,t_gap,t_lean,t_side_of,t_lies_on,t_greatest_divisor,t_fraction,t_own_spot,t_later_of,t_earlier_of,t_own_wall,t_meeting_in_line,t_over,t_less,t_plus,t_times,t_number_between,t_crossing_spot,t_meeting,t_place_among,t_ahead_first,t_cuts_of,t_corners_of,t_by_ends,t_parted,t_meet_as_in_plots,t_first_crossed,t_own_plot,t_plot_of,t_law_spots,t_law_covered,t_law,fc_by_ends,lm,b_abs,b_enumerate,b_int,b_len,b_list,b_max,b_min,b_range,b_sorted,b_tuple,b_zip,g_MOST_WALLS⟩ hmg
