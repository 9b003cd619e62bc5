import PyProof.Rows.All
import Wide.All
import OpenK.AllK
import Wide.FinOn
import Lean
import PyProof.EqAt
import PyProof.EqKinds
import PyProof.TupleCall
import PySem.Challenge.RW_spotlook_k57_lands_beside_one_another
open Array renaming length_toList->Fm
open Bool renaming false_ne_true->Ei,and_eq_true->F6,false_eq_true->Fb
open False renaming elim->GO
open ForInStep renaming yield->FZ
open Int renaming sign->En,sign_eq_neg_one_of_neg->Ew,lt_trichotomy->Ey,mul_pos->Ez,mul_neg_of_neg_of_pos->EC,mul_neg_of_pos_of_neg->ED,sign_eq_one_of_pos->EF,fdiv_eq_ediv_of_nonneg->EI,mul_pos_of_neg_of_neg->EN,le_of_lt->F8,ofNat->GL
open List renaming map_cons->D7,length_map->D8,getElem?_eq_getElem->E2,getElem?_map->E4,range->E5,find?_cons->E9,size_toArray->Ec,map_append->Eg,mem_append_right->Eh,mem_of_getElem?->Ej,mem_append->Ek,getElem?_eq_some_iff->Eo,replicate->Er,length_cons->EA,mem_map->EJ,mem_cons->EM,getElem?_append_right->ES,getElem_mem->ET,mem_filter->EU,append_nil->EV,getElem?_append_left->EW,map_nil->EX,toArray->F4,pairwise_iff_getElem->F5,take_of_length_le->F9,length_append->Ff,lookup_cons->Fl,mem_cons_of_mem->Fq,take_succ->Fs,length_nil->Ft,length_take->Fu,replicate_succ->Fv,any_cons->Fy,map->FA,length_filter_le->FO,range_succ->G0,sum_cons->Ge,all_eq_true->Gg,zip_cons_cons->Gk,flatten_cons->Gx,nodup_append->Gz,range'->GA,map_map->GB,mem_range->GH
open Nat renaming le_refl->E3,lt_of_lt_of_le->Em,ne_of_lt->Ex,le_trans->ER,zero_le->EZ,gcd->Gq
open PyProof.Rows renaming IntsAre->FD,callWith_type1->G9,seqObj->GK
open PySem renaming wpAny_bind->cc,Value->D4,Shared->D6,wpAny_pure->E1,wpAny->E7,sizeLine->Ea,starEach->Eb,wpAny_mono->Ed,Program->Ee,model->Ef,Params->Et,foldedSetIterable->Eu,World->EB,Around->EE,compareOp->EK,mem_of_lookup->EL,wpAny_newObj_type->EO,wpAny_holding->EY,cLine->F0,bootBuiltins->F7,DictEntry->Fe,wpAny_loadPart'->Fg,backTo->Fn,sysModules->Fp,wpAny_standAt->Fx,Spec->FF,cellsFrom->FG,attributeBase->FH,wpAny_truthy_bool->FI,letOwnedTupleGo->FJ,codeAny_builtin->FK,Paired->FL,binaryOp->FN,keywordEach->FR,PyData->FT,wpAny_typeNameOfWhole_keyiter->FV,wpAny_pyNext_tuple_item->FW,codeAny->FX,Scope->G5,NameKind->G6,wpAny_call_entry->Gf,wpAny_seqItems->Gm,wpAny_tryCatch->Gn,Keyword->Gp,wpAny_passesOwn->Gr,mainGlobals->Gv,FuncData->Gw,atKey->Gy,behindInMarks->GD,assignEach->GF,plainId_quiet->GG,swapsWith->GI,assign->GJ,sizeLine_eq->GN,Builtin->GP
open PySem.Around renaming under_plainId->FU
open PySem.Calls renaming callWith_builtin->Gb
open PySem.Challenge renaming pw_spotlook_k57_lands_beside_one_another->Es
open PySem.F renaming slot_dict_keyiterator_next->FE,plain_max_loop->Gi,plain_min_loop->Gj
open PySem.Heap renaming get?_push_of_some->D9,get?_push_size->E6,lt_size->E8,get?_update_other->EG,get?_update_self->Fw,size_push->Fz,SameBut->G8
open PySem.Heap.SameBut renaming update->G7
open PySem.NameKind renaming free->Gd
open PySem.PassesOwn renaming never->El
open PySem.PyData renaming eqv->EH,int->Fc,depthAll->Fi,eqvAll->Fj,canLayAll0->Fo,showableAll->FP,hasDictAll->FY
open PySem.SeqAt renaming shaped->FQ
open PySem.Str renaming ofString->Ga
open PySem.Value renaming ref->Fd,none->GC
open PySem.W renaming Frag->D5,BT->Ep,fnOf->FC
open Rat renaming intCast_mul->Fh,intCast_sub->Gu
local macro_rules | `(↑$n:num) => `(nat_lit $n)
set_option Elab.async false
set_option linter.all false
set_option maxRecDepth 100000
set_option maxHeartbeats 4000000
theorem nbL{n m:Nat}(h:Nat.ble n m=true):n<=m:=Nat.le_of_ble_eq_true h
namespace L2
open PySem PySem.Spec PyProof.Rows
abbrev Key:=Sum Int Str
def lK:Key->D4->Bool
 |.inl k,v=>Value.isInt k v
 |.inr x,v=>Value.isStrOf x v
def DX(w:EB):Key->Int
 |.inl k=>hashInt k
 |.inr x=>hashStr w x
theorem bw:∀{k:Key} {v:D4},lK k v=true->(∃i t,k=Sum.inl i/\v=Value.int i t)\/(∃x t,k=Sum.inr x/\v=Value.str x t)
 |.inl i,v,h=>by
  obtain⟨t,e⟩:=Value.isInt_shape (k:=i) (v:=v) h
  exact .inl ⟨i,t,rfl,e⟩
 |.inr x,v,h=>by
  obtain⟨t,e⟩:=Value.isStrOf_shape (x:=x) (v:=v) h
  exact .inr ⟨x,t,rfl,e⟩
theorem r9(i:Int)(t:Tok):lK (.inl i) (.int i t)=true:=by simp[lK,Value.isInt]
theorem sA(x:Str)(t:Tok):lK (.inr x) (.str x t)=true:=by simp[lK,Value.isStrOf]
theorem zu(a b:Int):decide ((Sum.inl a:Key)=Sum.inl b)=(a==b):=by
 by_cases e:a=b
 ·subst e;simp
 ·have h:¬(Sum.inl a:Key)=Sum.inl b:=fun q=>e (Sum.inl.inj q);rw[decide_eq_false h];exact(beq_eq_false_iff_ne.mpr e).symm
theorem AF(a b:Str):decide ((Sum.inr a:Key)=Sum.inr b)=decide (a=b):=by
 by_cases e:a=b
 ·subst e;simp
 ·have h:¬(Sum.inr a:Key)=Sum.inr b:=fun q=>e (Sum.inr.inj q);rw[decide_eq_false h,decide_eq_false e]
theorem A9(a:Int)(b:Str):decide ((Sum.inl a:Key)=Sum.inr b)=false:=decide_eq_false (fun q=>nomatch q)
theorem zq(a:Str)(b:Int):decide ((Sum.inr a:Key)=Sum.inl b)=false:=decide_eq_false (fun q=>nomatch q)
def bO(prog:Ee)(w:EB):PySem.KeyKind prog w Key where
 is:=lK
 hash:=DX w
 inj:=fun v a b ha hb=>by
  rcases bw ha with⟨i,t,rfl,rfl⟩|⟨x,t,rfl,rfl⟩
  ·rcases bw hb with⟨j,u,rfl,e⟩|⟨y,u,rfl,e⟩
   ·injection e with e1 _;rw[e1]
   ·exact nomatch e
  ·rcases bw hb with⟨j,u,rfl,e⟩|⟨y,u,rfl,e⟩
   ·exact nomatch e
   ·injection e with e1 _;rw[e1]
 byValue:=fun k v h=>by
  rcases bw h with⟨i,t,rfl,rfl⟩|⟨x,t,rfl,rfl⟩<;>rfl
 pyHash:=fun hv h=>by
  rcases bw hv with⟨i,t,rfl,rfl⟩|⟨x,t,rfl,rfl⟩
  ·exact wpAny_pyHash_int h
  ·exact wpAny_pyHash_str h
 eqBool:=fun hu hv h=>by
  rcases bw hu with⟨i,t,rfl,rfl⟩|⟨x,t,rfl,rfl⟩
  ·rcases bw hv with⟨j,u,rfl,rfl⟩|⟨y,u,rfl,rfl⟩
   ·rw[zu]at h;exact wpAny_eqBool_int h
   ·rw[A9]at h;exact SeqAt.EqAt.int_str i t y u _ _ _ _ h
  ·rcases bw hv with⟨j,u,rfl,rfl⟩|⟨y,u,rfl,rfl⟩
   ·rw[zq]at h;exact SeqAt.EqAt.str_int x t j u _ _ _ _ h
   ·rw[AF]at h;exact wpAny_eqBool_str h
 «strs»:=fun k x t v h=>by
  rcases bw h with⟨i,u,rfl,e⟩|⟨y,u,rfl,e⟩
  ·exact nomatch e
  ·injection e with e1 _
   subst e1
   cases v<;>rfl
theorem mX(prog:Ee)(w:EB)(i:Int)(t:Tok):(bO prog w).is (.inl i) (.int i t)=true:=r9 i t
theorem mV(prog:Ee)(w:EB)(x:Str)(t:Tok):(bO prog w).is (.inr x) (.str x t)=true:=sA x t
inductive V where
 |non|bl (b:Bool)|int (i:Int)|str (x:Str)|byt (b:Array UInt8)|flt (b:UInt64)|ref (a:Addr)|ty (n:String)
 deriving DecidableEq
def RelV:V->D4->Prop
 |.non,u=>u=GC
 |.bl b,u=>u=Value.bool b
 |.int i,u=>∃t,u=Value.int i t
 |.str x,u=>∃t,u=Value.str x t
 |.byt b,u=>∃t,u=Value.bytes b t
 |.flt b,u=>∃t,u=Value.float b t
 |.ref a,u=>u=Fd a
 |.ty n,u=>u=Value.type n
abbrev Vals:List V->List D4->Prop:=FL RelV
theorem Vals.length{xs:List V}{us:List D4}(r:Vals xs us):xs.length=us.length:=Paired.length r
theorem Vals.get:∀{xs:List V} {us:List D4} {i:Nat} {x:V},Vals xs us->xs[i]?=some x->∃u,us[i]?=some u/\RelV x u
 |_,_,_,_,.nil,e=>by simp at e
 |_,_,0,_,.cons r _,e=>by simp at e;subst e;exact⟨_,rfl,r⟩
 |_,_,i+1,x,.cons _ t,e=>by
  obtain⟨u,h1,h2⟩:=Vals.get (i:=i) (x:=x) t (by simpa using e)
  exact⟨u,by simpa using h1,h2⟩
theorem Vals.set{x:V}{u:D4}(r:RelV x u):∀{xs:List V} {us:List D4} (i:Nat),Vals xs us->Vals (xs.set i x) (us.set i u)
 |_,_,_,.nil=>.nil
 |_,_,0,.cons _ t=>.cons r t
 |_,_,i+1,.cons q t=>.cons q (Vals.set r i t)
theorem Vals.append:∀{xs ys:List V} {us ws:List D4},Vals xs us->Vals ys ws->Vals (xs++ys) (us++ws)
 |_,_,_,_,.nil,s=>s
 |_,_,_,_,.cons r t,s=>.cons r (Vals.append t s)
theorem Vals.take:∀{xs:List V} {us:List D4} (n:Nat),Vals xs us->Vals (xs.take n) (us.take n)
 |_,_,0,_=>.nil
 |_,_,_+1,.nil=>.nil
 |_,_,n+1,.cons r t=>.cons r (Vals.take n t)
theorem Vals.drop:∀{xs:List V} {us:List D4} (n:Nat),Vals xs us->Vals (xs.drop n) (us.drop n)
 |_,_,0,r=>r
 |_,_,_+1,.nil=>.nil
 |_,_,n+1,.cons _ t=>Vals.drop n t
def rR:Option V->Option D4->Prop
 |some v,some u=>RelV v u
 |none,none=>True
 |_,_=>False
def KV{κ:Type}:List (κ×V)->List (κ×D4)->Prop:=FL fun(p:κ×V) (q:κ×D4)=>p.1=q.1/\RelV p.2 q.2
def kV:Key->V
 |.inl i=>.int i
 |.inr x=>.str x
inductive HO where
 |lst (xs:List V)
 |tup (xs:List V)
 |dK (kvs:List (Key×V))|dT (kvs:List (List Key×V))
 |set (S:Int->Bool) (n:Nat)
 |ins (C dx:Addr) (fs:List (Str×V))
 |own (x:Addr)
 |xd (fs:List (Str×V))
 |met (f x:Addr)
 |rng (lo hi:Int)
 |frz (o:Obj) (u:HO)
 |tbl (ps:Array D4)
 |ext (φ:Heap->Prop)
abbrev Hp:=Addr->Option HO
def upd(H:Hp)(a:Addr)(o:HO):Hp:=fun b=>if b=a then some o else H b
theorem aK{H:Hp}{a:Addr}{o:HO}:upd H a o a=some o:=by unfold upd;rw[if_pos rfl]
theorem aL{H:Hp}{a b:Addr}{o:HO}(h:b≠a):upd H a o b=H b:=by unfold upd;rw[if_neg h]
theorem Cb{H:Hp}{a b:Addr}{o u:HO}(h:H a=some o)(h':H b=some u)(d:o≠u):a≠b:=by intro e;subst e;rw[h]at h';exact d (Option.some.inj h')
theorem c8{H:Hp}{a b:Addr}{o:HO}(h:H a=some o)(h':H b=none):a≠b:=by intro e;subst e;rw[h]at h';cases h'
section
variable(P:Ee)(w:EB)
def NoD(h:Heap)(a:Addr):Prop:=∃o,h.get? a=some o/\o.dict=none
theorem NoD.new(h:Heap)(u:Array D4):NoD (h.push { cls:=.type "tuple",data:=.seq u }) h.objs.size:=⟨_,E6 _ rfl,rfl⟩
def bL(H:Hp)(h:Heap)(a:Addr):HO->Prop
 |.lst xs=>xs.length<=Ea/\∃(its:List D4) (n:Nat),Vals xs its/\h.get? a=some { cls:=.type "list",data:=.seq its.toArray n }
 |.tup xs=>xs.length<=Ea/\∃its:List D4,Vals xs its/\IsTup h a its.toArray/\NoD h a
 |.dK kvs=>kvs.length<=Ea/\(a==Fp)=false/\∃vs,KV kvs vs/\h.DictOf (bO P w) a vs
 |.dT kvs=>kvs.length<=Ea/\(a==Fp)=false/\∃xs:List (List Key×Addr×D4),
  FL (fun(p:List Key×V) (q:List Key×Addr×D4)=>p.1=q.1/\H q.2.1=some (.tup (p.1.map kV))/\RelV p.2 q.2.2) kvs xs/\
  ∃o es ep,h.get? a=some o/\o.ExactDict/\o.data=.dict es ep/\es.toList=xs.map (entryOfKey (tupleKind (bO P w)))/\(xs.map (·.1)).Nodup
 |.set S n=>h.SetOf (intKind P w) a S n
 |.ins C dx fs=>H dx=some (.own a)/\fs.length<=1000/\dx≠a/\h.get? a=some (PySem.W.instObj C dx)/\
  ∃mA,h.Ns1 dx mA/\(∀f,rR (fs.lookup f) (mA f))/\PySem.Within mA (fs.map (·.1))
 |.own _=>∃o,h.get? a=some o
 |.xd fs=>∃mA,h.Ns1 a mA/\∀f,rR (fs.lookup f) (mA f)
 |.rng lo hi=>∃t u v,h.get? a=some { cls:=.type "range",data:=.fields #[.int lo t,.int hi u,.int 1 v] }
 |.frz o u=>h.get? a=some o/\bL H h a u
 |.tbl ps=>h.get? a=some { cls:=.none,data:=.fields ps }
 |.met f x=>h.get? a=some (PySem.W.methodObj (.ref f) (.ref x))
 |.ext φ=>φ h/\(∃o,h.get? a=some o)/\∀h1 h2:Heap,φ h1->(∀o,h1.get? a=some o->h2.get? a=some o)->φ h2
def HOk(H:Hp)(h:Heap):Prop:=∀a o,H a=some o->bL P w H h a o
end
section
variable{P:Ee}{w:EB}{H H':Hp}{h h':Heap}{a:Addr}{o:HO}
theorem bL.lt(x:bL P w H h a o):a<h.objs.size:=by
 cases o with
 |lst xs=>obtain⟨_,_,_,_,e⟩:=x;exact E8 e
 |tup xs=>obtain⟨_,_,_,p,_⟩:=x;exact p.lt
 |dK kvs=>obtain⟨_,_,_,_,o,_,_,e,_⟩:=x;exact E8 e
 |dT kvs=>obtain⟨_,_,_,_,o,_,_,e,_⟩:=x;exact E8 e
 |set S n=>obtain⟨o,_,_,_,e,_⟩:=x;exact E8 e
 |ins C dx fs=>obtain⟨_,_,_,e,_⟩:=x;exact E8 e
 |own y=>obtain⟨_,e⟩:=x;exact E8 e
 |xd fs=>obtain⟨_,⟨_,_,_,e,_⟩,_⟩:=x;exact E8 e
 |rng lo hi=>obtain⟨_,_,_,e⟩:=x;exact E8 e
 |frz ob u=>obtain⟨e,_⟩:=x;exact E8 e
 |tbl ps=>exact E8 (show h.get? a=some _ from x)
 |met f y=>exact E8 (show h.get? a=some _ from x)
 |ext φ=>obtain⟨_,⟨_,e⟩,_⟩:=x;exact E8 e
theorem Paired.Bh{α β:Type}{F G:α->β->Prop}:∀{l₁:List α} {l₂:List β},FL F l₁ l₂->(∀a b,F a b->G a b)->FL G l₁ l₂
 |_,_,.nil,_=>.nil
 |_,_,.cons r t,f=>.cons (f _ _ r) (Paired.Bh t f)
theorem bL.eQ(x:bL P w H h a o)(k:∀b u,(b=a\/H b=some (.own a))->h.get? b=some u->h'.get? b=some u) (ho:∀b,H b=some (.own a)->H' b=some (.own a)) (ht:∀b xs,H b=some (.tup xs)->H' b=some (.tup xs)):bL P w H' h' a o:=by
 induction o with
 |lst xs=>obtain⟨z,its,n,r,e⟩:=x;exact⟨z,its,n,r,k _ _ (.inl rfl) e⟩
 |tup xs=>obtain⟨z,its,r,⟨ob,e,c⟩,o2,e2,d2⟩:=x;exact⟨z,its,r,⟨ob,k _ _ (.inl rfl) e,c⟩,o2,k _ _ (.inl rfl) e2,d2⟩
 |dK kvs=>obtain⟨z,y,vs,r,ob,es,ep,e,c⟩:=x;exact⟨z,y,vs,r,ob,es,ep,k _ _ (.inl rfl) e,c⟩
 |dT kvs=>
  obtain⟨z,y,xs,r,ob,es,ep,e,c⟩:=x
  exact⟨z,y,xs,Paired.Bh r fun p q z=>⟨z.1,ht _ _ z.2.1,z.2.2⟩,ob,es,ep,k _ _ (.inl rfl) e,c⟩
 |set S n=>obtain⟨ob,es,ep,t,e,c⟩:=x;exact⟨ob,es,ep,t,k _ _ (.inl rfl) e,c⟩
 |ins C dx fs=>
  obtain⟨d,z,ne,e,mA,⟨od,es,ep,e2,c⟩,r⟩:=x
  exact⟨ho _ d,z,ne,k _ _ (.inl rfl) e,mA,⟨od,es,ep,k _ _ (.inr d) e2,c⟩,r⟩
 |own y=>obtain⟨ob,e⟩:=x;exact⟨ob,k _ _ (.inl rfl) e⟩
 |xd fs=>obtain⟨mA,⟨od,es,ep,e,c⟩,r⟩:=x;exact⟨mA,⟨od,es,ep,k _ _ (.inl rfl) e,c⟩,r⟩
 |rng lo hi=>obtain⟨t,u,v,e⟩:=x;exact⟨t,u,v,k _ _ (.inl rfl) e⟩
 |frz ob u ih=>obtain⟨e,q⟩:=x;exact⟨k _ _ (.inl rfl) e,ih q⟩
 |tbl ps=>
  have e:h.get? a=some { cls:=.none,data:=.fields ps }:=x
  show h'.get? a=some { cls:=.none,data:=.fields ps }
  exact k a _ (.inl rfl) e
 |met f y=>
  have e:h.get? a=some (PySem.W.methodObj (.ref f) (.ref y)):=x
  show h'.get? a=some (PySem.W.methodObj (.ref f) (.ref y))
  exact k a _ (.inl rfl) e
 |ext φ=>obtain⟨p,⟨o,e⟩,st⟩:=x;exact⟨st _ _ p fun o q=>k _ _ (.inl rfl) q,⟨o,k _ _ (.inl rfl) e⟩,st⟩
theorem HOk.lt(x:HOk P w H h)(e:H a=some o):a<h.objs.size:=(x a o e).lt
theorem HOk.fresh(x:HOk P w H h)(e:h.objs.size<=a):H a=none:=by
 cases q:H a with
 |none=>rfl
 |some u=>exact absurd (Em (x.lt q) e) (Nat.lt_irrefl _)
theorem HOk.kept(x:HOk P w H h)(k:∀b u,h.get? b=some u->h'.get? b=some u):HOk P w H h':=fun a o e=>(x a o e).eQ (fun b u _ q=>k b u q) (fun _ q=>q) fun _ _ q=>q
theorem HOk.laid(x:HOk P w H h)(k:∀b u,h.get? b=some u->h'.get? b=some u)(hp:h.objs.size<=a)(new:bL P w (upd H a o) h' a o):HOk P w (upd H a o) h':=fun b u e=>by
 have hn:=x.fresh hp;by_cases hb:b=a
 ·subst hb;rw[aK]at e;cases e;exact new
 ·rw[aL hb]at e;exact(x b u e).eQ (fun c v _ q=>k c v q) (fun c q=>by rw[aL (c8 q hn)];exact q) fun c xs q=>by rw[aL (c8 q hn)];exact q
end
def Rd(H:Hp)(a:Addr)(u:HO):Prop:=H a=some u\/∃o,H a=some (.frz o u)
theorem Rd.ok{P:Ee}{w:EB}{H:Hp}{h:Heap}{a:Addr}{u:HO}(r:Rd H a u)(x:HOk P w H h):bL P w H h a u:=by
 rcases r with r|⟨o,r⟩
 ·exact x a u r
 ·obtain⟨_,q⟩:=x a _ r;exact q
def Mut:Option HO->Prop
 |some (.lst _)=>True
 |some (.dK _)=>True
 |some (.dT _)=>True
 |some (.set _ _)=>True
 |some (.ins _ _ _)=>True
 |some (.ext _)=>True
 |_=>False
section
variable{P:Ee}{w:EB}{H:Hp}{h h':Heap}{x e:Addr}{o':HO}
theorem HOk.write(ok:HOk P w H h)(mu:Mut (H x))(he:e=x\/H e=some (.own x))(k:∀b u,b≠e->h.get? b=some u->h'.get? b=some u)(heo:∃u,h'.get? e=some u)
 (new:bL P w (upd H x o') h' x o'):HOk P w (upd H x o') h':=fun b u q=>by
 have nown:∀c y,H c=some (.own y)->c≠x:=fun c y r z=>by subst z;rw[r]at mu;exact mu
 have ntup:∀c xs,H c=some (.tup xs)->c≠x:=fun c xs r z=>by subst z;rw[r]at mu;exact mu
 by_cases hb:b=x
 ·subst hb;rw[aK]at q;cases q;exact new
 ·rw[aL hb]at q
  by_cases hbe:b=e
  ·have q':H b=some (.own x):=by
    rcases he with z|z
    ·exact absurd (hbe.trans z) hb
    ·rw[hbe];exact z
   rw[q]at q';cases q'
   obtain⟨v,hv⟩:=heo
   exact⟨v,by rw[hbe];exact hv⟩
  ·refine(ok b u q).eQ (fun c v hc r=>k c v ?_ r) (fun c r=>by rw[aL (nown c b r)];exact r) fun c xs r=>by rw[aL (ntup c xs r)];exact r
   rcases hc with rfl|hc
   ·exact hbe
   ·rintro rfl
    rcases he with z|z
    ·exact nown c b hc z
    ·rw[hc]at z;cases z;exact hb rfl
end
structure Un(fs ex:List Addr)(H H':Hp)(h h':Heap):Prop where
 keep:∀b o,h.get? b=some o->H b=none->b∉fs->b∉ex->h'.get? b=some o
 slot:∀b o,h.get? b=some o->H b=none->b∈fs->b∉ex->∃sl,h'.get? b=some { o with slots:=sl }
 free:∀b o,h.get? b=some o->H b=none->b∉ex->H' b=none
 there:∀b o,h.get? b=some o->b∉ex->∃o',h'.get? b=some o'
 tups:∀b xs,H b=some (.tup xs)->H' b=some (.tup xs)
 frzs:∀b o u,H b=some (.frz o u)->H' b=some (.frz o u)
 tbls:∀b ps,H b=some (.tbl ps)->∃more,H' b=some (.tbl (ps++more))
section
variable{fs fs' ex ex':List Addr}{H H1 H2:Hp}{h h1 h2 h':Heap}{a x e:Addr}{o:HO}
theorem Un.any(u:Un fs ex H H1 h h1){b:Addr}{ob:Obj}(q:h.get? b=some ob)(n:H b=none)(hx:b∉ex):∃sl,h1.get? b=some { ob with slots:=sl }:=by
 by_cases hb:b∈fs
 ·exact u.slot b ob q n hb hx
 ·exact⟨ob.slots,u.keep b ob q n hb hx⟩
theorem Un.kept(k:∀b u,h.get? b=some u->h'.get? b=some u):Un fs ex H H h h':=⟨fun b ob q _ _ _=>k b ob q,fun b ob q _ _ _=>⟨ob.slots,k b ob q⟩,fun _ _ _ n _=>n,fun b ob q _=>⟨ob,k b ob q⟩,fun _ _ q=>q,fun _ _ _ q=>q,fun _ ps q=>⟨#[],by rw[q];simp⟩⟩
theorem Un.refl:Un fs ex H H h h:=Un.kept fun _ _ q=>q
theorem Un.laid(k:∀b u,h.get? b=some u->h'.get? b=some u)(hp:h.objs.size<=a)(hn:H a=none):Un fs ex H (upd H a o) h h' where
 keep:=fun b u q _ _ _=>k b u q
 slot:=fun b u q _ _ _=>⟨u.slots,k b u q⟩
 free:=fun b u q n _=>by rw[aL (Ex (Em (E8 q) hp))];exact n
 there:=fun b u q _=>⟨u,k b u q⟩
 tups:=fun b xs q=>by rw[aL (c8 q hn)];exact q
 frzs:=fun b u xs q=>by rw[aL (c8 q hn)];exact q
 tbls:=fun b ps q=>⟨#[],by rw[aL (c8 q hn),q];simp⟩
theorem Un.write(mu:Mut (H x))(he:e=x\/H e=some (.own x))(k:∀b u,b≠e->h.get? b=some u->h'.get? b=some u)(heo:∃u,h'.get? e=some u):Un fs ex H (upd H x o) h h':=by
 have hx:∀b,H b=none->b≠x:=fun b n z=>by subst z;rw[n]at mu;exact mu
 have hb:∀b,H b=none->b≠e:=fun b n z=>by
  subst z;rcases he with r|r
  ·exact hx b n r
  ·rw[n]at r;cases r
 have hm:∀b u,H b=some u->¬Mut (some u)->b≠x:=fun b u q nm z=>by subst z;rw[q]at mu;exact nm mu
 refine⟨fun b u q n _ _=>k b u (hb b n) q,fun b u q n _ _=>⟨u.slots,k b u (hb b n) q⟩,fun b u q n _=>by rw[aL (hx b n)];exact n,fun b u q _=>?_,fun b xs q=>by rw[aL (hm b _ q fun z=>z)];exact q,fun b u xs q=>by rw[aL (hm b _ q fun z=>z)];exact q,fun b ps q=>⟨#[],by rw[aL (hm b _ q fun z=>z),q];simp⟩⟩;by_cases hbe:b=e
 ·subst hbe;exact heo
 ·exact⟨u,k b u hbe q⟩
end
def trk(h:Heap)(H:Hp):List Addr:=(E5 h.objs.size).filter fun a=>(H a).isSome
def mR(h:Heap)(H:Hp):Heap:=PySem.W.hideAll h (trk h H)
theorem sF(h:Heap)(H:Hp):(mR h H).objs.size=h.objs.size:=PySem.W.hideAll_size _ _
theorem uB{h:Heap}{H:Hp}{b:Addr}{o:Obj}(e:h.get? b=some o)(n:H b=none):(mR h H).get? b=some o:=
 PySem.W.hideAll_get _ e fun hm=>by
  have q:(H b).isSome=true:=(EU.mp hm).2
  rw[n]at q;simp at q
theorem xw{h:Heap}{H:Hp}{b:Addr}{o:Obj}(e:(mR h H).get? b=some o):h.get? b=some o/\H b=none:=by
 have e':h.get? b=some o:=PySem.W.of_hideAll (trk h H) e;refine⟨e',?_⟩;cases q:H b with
 |none=>rfl
 |some x=>
  have hm:b∈trk h H:=EU.mpr ⟨GH.mpr (E8 e'),by simp[q]⟩
  have z:(mR h H).get? b=none:=PySem.W.hideAll_none (trk h H) hm
  rw[z]at e;cases e
structure Mod(K:D5)(mg:Str->Option D4)(base:Heap):Prop where
 kin:K.In base
 glob:base.Ns Gv mg
 blt:∃mb,base.Ns builtinsNs mb/\∀x:Str,x≠"__name__"->mb x=F7 x
 nolimit:base.NoLimit
structure Cx where
 prog:Ee
 w:EB
 K:D5
 mg:Str->Option D4
 base:Heap
 A:EE
 N:List Str
 s₀:D6
 H₀:Hp
 env:Env
 outer:List Env
 stack:List Env
 ex:List Addr
 fn:Str->Bool
 calm:Bool
 pn:List (Addr×Obj)
 xe:D4->D6->Prop
def frs(l:List Env):List Addr:=l.filterMap (·.frame)
abbrev Cx.fs(X:Cx):List Addr:=frs X.outer
def Vis(sc:G5)(x:Str):Prop:=sc.names.lookup x=some .local\/sc.names.lookup x=some .cell\/sc.names.lookup x=some .free
def Loc(sc:G5)(x:Str):Prop:=sc.names.lookup x=some .local\/sc.names.lookup x=some .cell
def Look(env:Env)(h:Heap)(m:Str->Option D4)(x:Str)(u:D4):Prop:=
 (env.kindOf x=some .local/\m x=some u)\/((env.kindOf x=some .cell\/env.kindOf x=some .free)/\∃c,env.cells.lookup x=some c/\h.IsCell c (some u))
structure Cx.Ok(X:Cx):Prop where
 mod:Mod X.K X.mg X.base
 kind:X.env.scope.kind=.function
 glob:X.env.globals=Gv
 blt:X.env.builtins=builtinsNs
 above:X.s₀.heap.objs.size<=X.env.locals
 inj:∀x y c,X.env.cells.lookup x=some c->X.env.cells.lookup y=some c->x=y
 has:∀x,(X.env.kindOf x=some .cell\/X.env.kindOf x=some .free)->∃c,X.env.cells.lookup x=some c
 cab:∀x c,X.fn x=true->X.env.cells.lookup x=some c->X.s₀.heap.objs.size<=c
 hd:X.calm=true->X.A.handled=none
 frames:X.A.frames=some X.stack
 stk:X.stack=X.outer\/(X.stack=X.env::X.outer/\X.env.frame=some X.env.locals)
 exf:∀b∈X.ex,b≠X.env.locals/\∀x c,X.env.cells.lookup x=some c->c≠b
 bs:∀b o,X.base.get? b=some o->X.s₀.heap.get? b=some o/\X.H₀ b=none
 bsz:X.base.objs.size<=X.s₀.heap.objs.size
 noex:∀b o,X.base.get? b=some o->b∉X.ex
 exfs:∀b∈X.ex,b∉X.fs
 kn:X.s₀.heap.FunFrames X.base X.outer
 frf:∀b∈X.fs,X.H₀ b=none
structure Inv(X:Cx)(pins:List (Addr×Obj))(σ:List (Option V))(H:Hp)(s:D6):Prop where
 ok:X.Ok
 os:s.os=X.s₀.os
 bare:AllBare s.gens
 base:Un X.fs X.ex X.H₀ H X.s₀.heap s.heap
 loc:∃m,s.heap.Ns X.env.locals m/\∀(i:Nat) (x:Str) (v:V),X.N[i]?=some x->σ[i]?=some (some v)->Vis X.env.scope x->∃u,RelV v u/\Look X.env s.heap m x u
 cell:∀x c,X.env.cells.lookup x=some c->∃v,s.heap.IsCell c v
 free:H X.env.locals=none
 freeC:∀x c,X.env.cells.lookup x=some c->H c=none
 pin:∀p∈X.pn++pins,s.heap.get? p.1=some p.2/\H p.1=none/\p.1≠X.env.locals/\p.1∉X.fs/\∀v,p.2.data≠.cell v
 hok:HOk X.prog X.w H s.heap
 len:σ.length=X.N.length
section
variable{X:Cx}{pins:List (Addr×Obj)}{σ:List (Option V)}{H H':Hp}{s:D6}{h':Heap}
theorem Cx.Ok.Dt(ok:X.Ok){b:Addr}{o:Obj}(e:X.base.get? b=some o):b∉X.fs:=fun hb=>by have:=(ok.kn.mem hb).1;rw[e]at this;cases this
theorem Inv.bs(I:Inv X pins σ H s):∀b o,X.base.get? b=some o->s.heap.get? b=some o/\H b=none:=fun b o e=>⟨I.base.keep b o (I.ok.bs b o e).1 (I.ok.bs b o e).2 (I.ok.Dt e) (I.ok.noex b o e),I.base.free b o (I.ok.bs b o e).1 (I.ok.bs b o e).2 (I.ok.noex b o e)⟩
theorem Inv.bk(I:Inv X pins σ H s):∀b o,X.base.get? b=some o->s.heap.get? b=some o:=fun b o e=>(I.bs b o e).1
theorem Inv.mod(I:Inv X pins σ H s):Mod X.K X.mg X.base:=I.ok.mod
theorem Inv.kIn(I:Inv X pins σ H s):X.K.In s.heap:=I.ok.mod.kin.keeps I.bk
theorem Inv.lt(I:Inv X pins σ H s):X.env.locals<s.heap.objs.size:=let⟨_,hn,_⟩:=I.loc;hn.lt
theorem Inv.sz(I:Inv X pins σ H s):X.s₀.heap.objs.size<=s.heap.objs.size:=ER I.ok.above (Nat.le_of_lt I.lt)
theorem Inv.DZ(I:Inv X pins σ H s){a:Addr}(h:s.heap.objs.size<=a):a∉X.fs:=fun hb=>by obtain⟨_,o,ho,_⟩:=I.ok.kn.mem hb;exact absurd (Em (E8 ho) (ER I.sz h)) (Nat.lt_irrefl _)
theorem Inv.cne(I:Inv X pins σ H s):∀x c,X.env.cells.lookup x=some c->c≠X.env.locals:=fun x c e z=>by obtain⟨v,o,ho,hd⟩:=I.cell x c e;obtain⟨m,⟨o',es,ep,ho',hd',_⟩,_⟩:=I.loc;rw[z,ho']at ho;cases ho;rw[hd']at hd;cases hd
theorem Inv.kn(I:Inv X pins σ H s):s.heap.FunFrames X.base X.outer:=by
 have all:∀(l:List Env),(∀b∈frs l,b∈X.fs)->X.s₀.heap.FunFrames X.base l->s.heap.FunFrames X.base l:=by
  intro l
  induction l with
  |nil=>intro _ _;trivial
  |cons env r ih=>
   intro hs hl
   obtain⟨hk,⟨L,o,hf,hn,ho,hd⟩,hr⟩:=hl
   have hL:L∈X.fs:=hs L (by unfold frs;rw[List.filterMap_cons,hf];exact List.mem_cons_self)
   obtain⟨sl,e⟩:=I.base.slot L o ho (I.ok.frf L hL) hL fun z=>I.ok.exfs L z hL
   exact⟨hk,⟨L,_,hf,hn,e,hd⟩,ih (fun b hb=>hs b (by unfold frs;rw[List.filterMap_cons,hf];exact Fq _ hb)) hr⟩
 exact all X.outer (fun _ hb=>hb) I.ok.kn
theorem Inv.stack(I:Inv X pins σ H s):s.heap.FunFrames X.base X.stack:=by
 rcases I.ok.stk with e|⟨e,hf⟩
 ·rw[e];exact I.kn
 ·rw[e];obtain⟨m,hn,_⟩:=I.loc;refine .cons (by rw[I.ok.kind];decide) hf hn ?_ I.kn;exact Heap.get?_none_of_le (ER I.ok.bsz I.ok.above)
theorem Inv.pS(I:Inv X pins σ H s):∀b∈frs X.stack,b∈X.env.locals::X.fs:=fun b hb=>by
 rcases I.ok.stk with e|⟨e,hf⟩
 ·rw[e]at hb;exact Fq _ hb
 ·rw[e]at hb;unfold frs at hb;rw[List.filterMap_cons,hf]at hb;exact hb
theorem Inv.rq(I:Inv X pins σ H s):∀b∈frs X.stack,H b=none:=fun b hb=>by
 rcases EM.mp (I.pS b hb)with e|hb
 ·rw[e];exact I.free
 ·obtain⟨_,o,ho,_⟩:=I.ok.kn.mem hb;exact I.base.free b o ho (I.ok.frf b hb) fun z=>I.ok.exfs b z hb
theorem Inv.step{g':Array GenState}{t':Nat}{d':Drawn}{ch:List Addr}(I:Inv X pins σ H s)
 (hch:∀b∈ch,(b∈X.ex\/X.s₀.heap.objs.size<=b)/\b≠X.env.locals/\(∀x c,X.env.cells.lookup x=some c->c≠b)/\∀p∈X.pn++pins,p.1≠b)
 (keep:∀b o,b≠X.env.locals->b∉X.fs->b∉ch->s.heap.get? b=some o->H b=none->h'.get? b=some o)
 (slot:∀b o,b≠X.env.locals->b∈X.fs->b∉ch->s.heap.get? b=some o->H b=none->∃sl,h'.get? b=some { o with slots:=sl }) (free:∀b o,b∉ch->s.heap.get? b=some o->H b=none->H' b=none)
 (there:∀b o,b∉ch->s.heap.get? b=some o->∃o',h'.get? b=some o')
 (tups:∀b xs,H b=some (.tup xs)->H' b=some (.tup xs)) (frzs:∀b o u,H b=some (.frz o u)->H' b=some (.frz o u)) (tbls:∀b ps,H b=some (.tbl ps)->∃more,H' b=some (.tbl (ps++more)))
 (ns:∀m,s.heap.Ns X.env.locals m->h'.Ns X.env.locals m) (hok:HOk X.prog X.w H' h') (hg:AllBare g') :
 Inv X pins σ H' { s with heap:=h',gens:=g',drawn:=d',toks:=t' }:=by
 have neL:∀b o,X.s₀.heap.get? b=some o->b≠X.env.locals:=fun b o e=>Ex (Em (E8 e) I.ok.above)
 have neC:∀b o,X.s₀.heap.get? b=some o->b∉X.ex->b∉ch:=fun b o e hx hb=>by
  rcases(hch b hb).1 with z|z
  ·exact hx z
  ·exact absurd (Em (E8 e) z) (Nat.lt_irrefl _)
 have cellK:∀x c,X.env.cells.lookup x=some c->∀v,s.heap.IsCell c v->h'.IsCell c v:=fun x c e v zz1_0=>by
  obtain⟨o,ho,hd⟩:=zz1_0
  have nch:c∉ch:=fun z=>(hch c z).2.2.1 x c e rfl
  by_cases hc:c∈X.fs
  ·obtain⟨sl,q⟩:=slot c o (I.cne x c e) hc nch ho (I.freeC x c e)
   exact⟨_,q,hd⟩
  ·exact⟨o,keep c o (I.cne x c e) hc nch ho (I.freeC x c e),hd⟩
 refine⟨I.ok,I.os,hg,⟨fun b o e n hb hx=>?_,fun b o e n hb hx=>?_,fun b o e n hx=>?_,fun b o e hx=>?_,fun b xs e=>tups b xs (I.base.tups b xs e),fun b o xs e=>frzs b o xs (I.base.frzs b o xs e),fun b ps e=>?_⟩,?_,fun x c e=>?_,?_,fun x c e=>?_,fun p hp=>?_,hok,I.len⟩
 ·exact keep b o (neL b o e) hb (neC b o e hx) (I.base.keep b o e n hb hx) (I.base.free b o e n hx)
 ·obtain⟨sl,e1⟩:=I.base.slot b o e n hb hx
  obtain⟨sl',e2⟩:=slot b _ (neL b o e) hb (neC b o e hx) e1 (I.base.free b o e n hx)
  exact⟨sl',e2⟩
 ·obtain⟨o',e1⟩:=I.base.there b o e hx
  exact free b o' (neC b o e hx) e1 (I.base.free b o e n hx)
 ·obtain⟨o',e1⟩:=I.base.there b o e hx
  exact there b o' (neC b o e hx) e1
 ·obtain⟨m1,e1⟩:=I.base.tbls b ps e
  obtain⟨m2,e2⟩:=tbls b _ e1
  exact⟨m1++m2,by rw[e2,Array.append_assoc]⟩
 ·obtain⟨m,hn,hl⟩:=I.loc
  refine⟨m,ns m hn,fun i x v e1 e2 e3=>?_⟩
  obtain⟨u,r,l⟩:=hl i x v e1 e2 e3
  refine⟨u,r,?_⟩
  rcases l with l|⟨k,c,e,z⟩
  ·exact .inl l
  ·exact .inr ⟨k,c,e,cellK x c e _ z⟩
 ·obtain⟨v,z⟩:=I.cell x c e
  exact⟨v,cellK x c e v z⟩
 ·obtain⟨m,⟨o,_,_,ho,_⟩,_⟩:=I.loc
  exact free _ o (fun z=>(hch _ z).2.1 rfl) ho I.free
 ·obtain⟨v,o,ho,hd⟩:=I.cell x c e
  exact free c o (fun z=>(hch c z).2.2.1 x c e rfl) ho (I.freeC x c e)
 ·obtain⟨e,n,ne,nf,d⟩:=I.pin p hp
  have nch:p.1∉ch:=fun z=>(hch p.1 z).2.2.2 p hp rfl
  exact⟨keep p.1 p.2 ne nf nch e n,free p.1 p.2 nch e n,ne,nf,d⟩
theorem Inv.un{t':Nat}(I:Inv X pins σ H s)(u:Un X.fs [] H H' s.heap h')(hok:HOk X.prog X.w H' h'):Inv X pins σ H' { s with heap:=h',toks:=t' }:=by
 obtain⟨m,⟨o,es,ep,ho,r⟩,_⟩:=id I.loc;obtain⟨sl,hL⟩:=u.any ho I.free (by simp)
 exact I.step (g':=s.gens) (d':=s.drawn) (ch:=[]) (fun _ z=>nomatch z) (fun b o _ hb _ e n=>u.keep b o e n hb (by simp)) (fun b o _ hb _ e n=>u.slot b o e n hb (by simp)) (fun b o _ e n=>u.free b o e n (by simp)) (fun b o _ e=>u.there b o e (by simp)) u.tups u.frzs u.tbls (fun m' hm=>by
  obtain⟨o',es',ep',ho',r'⟩:=hm
  rw[ho]at ho';cases ho'
  exact⟨_,es',ep',hL,r'⟩) hok I.bare
theorem Inv.call{g':Array GenState}{t':Nat}{d':Drawn}{ch:List Addr}(I:Inv X pins σ H s)(u:Un (frs X.stack) ch H H' s.heap h')(hok:HOk X.prog X.w H' h')(hg:AllBare g') (hch:∀b∈ch,(b∈X.ex\/X.s₀.heap.objs.size<=b)/\b≠X.env.locals/\(∀x c,X.env.cells.lookup x=some c->c≠b)/\∀p∈X.pn++pins,p.1≠b) : Inv X pins σ H' { s with heap:=h',gens:=g',drawn:=d',toks:=t' }:=by
 obtain⟨m,⟨o,es,ep,ho,r⟩,_⟩:=id I.loc;obtain⟨sl,hL⟩:=u.any ho I.free fun z=>(hch _ z).2.1 rfl
 exact I.step (ch:=ch) hch (fun b o hL hb hc e n=>u.keep b o e n (fun z=>(EM.mp (I.pS b z)).elim hL hb) hc) (fun b o _ _ hc e n=>u.any e n hc) (fun b o hc e n=>u.free b o e n hc) (fun b o hc e=>u.there b o e hc) u.tups u.frzs u.tbls (fun m' hm=>by
  obtain⟨o',es',ep',ho',r'⟩:=hm
  rw[ho]at ho';cases ho'
  exact⟨_,es',ep',hL,r'⟩) hok hg
theorem Inv.turned{t':Nat}{it:Addr}(I:Inv X pins σ H s)(k:∀b o,b≠it->s.heap.get? b=some o->h'.get? b=some o)(hn:H it=none)(hL:it≠X.env.locals)
 (h1:it∈X.ex\/X.s₀.heap.objs.size<=it) (h2:∀x c,X.env.cells.lookup x=some c->c≠it) (h3:∀p∈X.pn++pins,p.1≠it):Inv X pins σ H { s with heap:=h',toks:=t' }:=by
 have nit:∀b u,H b=some u->b≠it:=fun b u e z=>by rw[z,hn]at e;cases e
 refine I.step (g':=s.gens) (d':=s.drawn) (ch:=[it]) (fun b hb=>?_) (fun b o _ _ hc e _=>k b o (fun z=>hc (by simp[z])) e) (fun b o _ _ hc e _=>⟨o.slots,k b o (fun z=>hc (by simp[z])) e⟩) (fun _ _ _ _ n=>n)
  (fun b o hc e=>⟨o,k b o (fun z=>hc (by simp[z])) e⟩) (fun _ _ e=>e) (fun _ _ _ e=>e) (fun b ps e=>⟨#[],by rw[e];simp⟩) (fun m hm=>?_) (fun b u e=>?_) I.bare
 ·have e:b=it:=by simpa using hb
  subst e
  exact⟨h1,hL,h2,h3⟩
 ·obtain⟨o,es,ep,ho,r⟩:=hm
  exact⟨o,es,ep,k _ o (Ne.symm hL) ho,r⟩
 ·refine(I.hok b u e).eQ (fun c v hc q=>k c v ?_ q) (fun _ q=>q) fun _ _ q=>q
  rcases hc with z|z
  ·rw[z];exact nit b u e
  ·exact nit c _ z
theorem Inv.tok(I:Inv X pins σ H s)(t:Nat):Inv X pins σ H { s with toks:=t }:=I.un (h':=s.heap) (t':=t) Un.refl I.hok
theorem Inv.kept{t':Nat}(I:Inv X pins σ H s)(k:∀b u,s.heap.get? b=some u->h'.get? b=some u):Inv X pins σ H { s with heap:=h',toks:=t' }:=I.un (Un.kept k) (I.hok.kept k)
theorem Inv.laid{a:Addr}{o:HO}{t':Nat}(I:Inv X pins σ H s)(k:∀b u,s.heap.get? b=some u->h'.get? b=some u)(hp:s.heap.objs.size<=a)(new:bL X.prog X.w (upd H a o) h' a o) : Inv X pins σ (upd H a o) { s with heap:=h',toks:=t' }:=I.un (Un.laid k hp (I.hok.fresh hp)) (I.hok.laid k hp new)
theorem Inv.write{x e:Addr}{o:HO}{t':Nat}(I:Inv X pins σ H s)(mu:Mut (H x))(he:e=x\/H e=some (.own x))(k:∀b u,b≠e->s.heap.get? b=some u->h'.get? b=some u)(heo:∃u,h'.get? e=some u) (new:bL X.prog X.w (upd H x o) h' x o):Inv X pins σ (upd H x o) { s with heap:=h',toks:=t' }:=I.un (Un.write mu he k heo) (I.hok.write mu he k heo new)
theorem Inv.qy{pins':List (Addr×Obj)}(I:Inv X pins σ H s)(h:∀p∈pins',s.heap.get? p.1=some p.2/\H p.1=none/\p.1≠X.env.locals/\p.1∉X.fs/\∀v,p.2.data≠.cell v):Inv X pins' σ H s:=⟨I.ok,I.os,I.bare,I.base,I.loc,I.cell,I.free,I.freeC,fun p hp=>(Ek.mp hp).elim (fun z=>I.pin p (List.mem_append_left _ z)) (h p),I.hok,I.len⟩
theorem mW{N:List Str}(hN:N.Nodup){i j:Nat}{x:Str}(a:N[i]?=some x)(b:N[j]?=some x):i=j:=by obtain⟨h1,e1⟩:=Eo.mp a;obtain⟨h2,e2⟩:=Eo.mp b;exact(List.getElem_inj hN).mp (e1.trans e2.symm)
theorem gT{M:Model}{A:EE}{E:D4->D6->Prop}{i:Nat}{x:Str}{v:V}{u:D4}{Q:Unit->D6->Prop}(I:Inv X pins σ H s)(hN:X.N.Nodup)(hi:X.N[i]?=some x)(hx:Loc X.env.scope x)(r:RelV v u)
 (h:∀s',Inv X pins (σ.set i (some v)) H s'->(∃a,G8 a s.heap s'.heap/\(a=X.env.locals\/X.env.cells.lookup x=some a))->Q () s') (hf:X.fn x=true\/X.env.scope.names.lookup x=some .local:=by first|exact .inl rfl|exact .inr rfl|assumption):E7 M A (storeName X.env x u) Q E s:=by
 obtain⟨m,hn,hl⟩:=id I.loc
 have hcls:(X.env.scope.kind==.class||(X.env.scope.kind==.module&&X.env.locals != X.env.globals))=false:=by rw[I.ok.kind];rfl
 have hiσ:i<σ.length:=by rw[I.len];exact(Eo.mp hi).1
 have cne:=I.cne
 have tracked:∀{a:Addr} {h':Heap},(∃o,s.heap.get? a=some o/\H a=none)->G8 a s.heap h'->HOk X.prog X.w H h':=fun{a h'} ha hs b ob e=>by
  obtain⟨_,_,hfree⟩:=ha
  refine(I.hok b ob e).eQ (fun c w' hc q=>(hs.2 c ?_).trans q) (fun _ q=>q) fun _ _ q=>q
  rintro rfl
  rcases hc with rfl|hc
  ·rw[hfree]at e;cases e
  ·rw[hfree]at hc;cases hc
 rcases hx with hk|hk
 ·refine wpAny_storeName_local hk hn (fun h' hn' hs=>?_) hcls
  obtain⟨oL,_,_,hoL,_⟩:=id hn
  refine h _ ⟨I.ok,I.os,I.bare,⟨fun b o e n hb hx=>?_,fun b o e n hb hx=>?_,I.base.free,fun b o e hx=>?_,I.base.tups,I.base.frzs,I.base.tbls⟩,⟨_,hn',fun j y v' e1 e2 e3=>?_⟩,fun y c e=>?_,I.free,I.freeC,fun p hp=>?_,tracked ⟨oL,hoL,I.free⟩ hs,by simpa using I.len⟩ ⟨_,hs,.inl rfl⟩
  ·exact(hs.2 b (Ex (Em (E8 e) I.ok.above))).trans (I.base.keep b o e n hb hx)
  ·obtain⟨sl,e1⟩:=I.base.slot b o e n hb hx
   exact⟨sl,(hs.2 b (Ex (Em (E8 e) I.ok.above))).trans e1⟩
  ·obtain⟨o',e1⟩:=I.base.there b o e hx
   exact⟨o',(hs.2 b (Ex (Em (E8 e) I.ok.above))).trans e1⟩
  ·by_cases hj:j=i
   ·subst hj
    rw[hi]at e1;cases e1
    rw[List.getElem?_set_self hiσ]at e2
    cases e2
    exact⟨u,r,.inl ⟨hk,by simp⟩⟩
   ·rw[List.getElem?_set_ne (Ne.symm hj)]at e2
    obtain⟨u',r',q⟩:=hl j y v' e1 e2 e3
    refine⟨u',r',?_⟩
    rcases q with⟨k,e⟩|⟨k,c,e,z⟩
    ·refine .inl ⟨k,?_⟩
     have:y≠x:=fun e=>hj (mW hN e1 (e▸hi))
     simp[this,e]
    ·exact .inr ⟨k,c,e,z.sameBut hs (cne y c e)⟩
  ·obtain⟨w',z⟩:=I.cell y c e
   exact⟨w',z.sameBut hs (cne y c e)⟩
  ·obtain⟨e,n,ne,nf,d⟩:=I.pin p hp
   exact⟨(hs.2 p.1 ne).trans e,n,ne,nf,d⟩
 ·have hfn:X.fn x=true:=by
   rcases hf with z|z
   ·exact z
   ·rw[z]at hk;cases hk
  obtain⟨c,hc⟩:=I.ok.has x (.inl hk)
  obtain⟨w',z⟩:=I.cell x c hc
  refine wpAny_storeName_cell I.ok.kind hk hc z (fun h' hc' hs=>?_)
  obtain⟨oc,hoc,hocd⟩:=id z
  refine h { s with heap:=h' } ⟨I.ok,I.os,I.bare,⟨fun b o e n hb hx=>?_,fun b o e n hb hx=>?_,I.base.free,fun b o e hx=>?_,I.base.tups,I.base.frzs,I.base.tbls⟩,⟨m,hn.sameBut hs (Ne.symm (cne x c hc)),fun j y v' e1 e2 e3=>?_⟩,fun y c' e=>?_,I.free,I.freeC,fun p hp=>?_,tracked ⟨oc,hoc,I.freeC x c hc⟩ hs,by simpa using I.len⟩ ⟨c,hs,.inr hc⟩
  ·exact(hs.2 b (Ex (Em (E8 e) (I.ok.cab x c hfn hc)))).trans (I.base.keep b o e n hb hx)
  ·obtain⟨sl,e1⟩:=I.base.slot b o e n hb hx
   exact⟨sl,(hs.2 b (Ex (Em (E8 e) (I.ok.cab x c hfn hc)))).trans e1⟩
  ·obtain⟨o',e1⟩:=I.base.there b o e hx
   exact⟨o',(hs.2 b (Ex (Em (E8 e) (I.ok.cab x c hfn hc)))).trans e1⟩
  ·by_cases hj:j=i
   ·subst hj
    rw[hi]at e1;cases e1
    rw[List.getElem?_set_self hiσ]at e2
    cases e2
    exact⟨u,r,.inr ⟨.inl hk,c,hc,hc'⟩⟩
   ·rw[List.getElem?_set_ne (Ne.symm hj)]at e2
    obtain⟨u',r',q⟩:=hl j y v' e1 e2 e3
    refine⟨u',r',?_⟩
    rcases q with q|⟨k,c',e,z'⟩
    ·exact .inl q
    ·refine .inr ⟨k,c',e,z'.sameBut hs ?_⟩
     rintro rfl
     exact hj (mW hN e1 (I.ok.inj _ _ _ e hc▸hi))
  ·by_cases hcc:c'=c
   ·subst hcc;exact⟨_,hc'⟩
   ·obtain⟨w2,z2⟩:=I.cell y c' e
    exact⟨w2,z2.sameBut hs hcc⟩
  ·obtain⟨e,n,ne,nf,d⟩:=I.pin p hp
   refine⟨(hs.2 p.1 ?_).trans e,n,ne,nf,d⟩
   intro q
   rw[q,hoc]at e
   have q':oc=p.2:=Option.some.inj e
   exact d w' (by rw[<-q'];exact hocd)
theorem ff{M:Model}{A:EE}{E:D4->D6->Prop}{i:Nat}{x:Str}{v:V}{u:D4}{Q:Unit->D6->Prop}(I:Inv X pins σ H s)(hN:X.N.Nodup)(hi:X.N[i]?=some x)(hx:Loc X.env.scope x)(r:RelV v u) (h:∀s',Inv X pins (σ.set i (some v)) H s'->Q () s') (hf:X.fn x=true\/X.env.scope.names.lookup x=some .local:=by first|exact .inl rfl|exact .inr rfl|assumption):E7 M A (storeName X.env x u) Q E s:=gT I hN hi hx r (fun s' I' _=>h s' I') hf
theorem Inv.uL{s':D6}{ch:List Addr}(I:Inv X pins σ H s)(ho:s'.os=s.os)(u:Un (frs X.stack) ch H H' s.heap s'.heap)(hok:HOk X.prog X.w H' s'.heap)(hg:AllBare s'.gens)
 (hch:∀b∈ch,(b∈X.ex\/X.s₀.heap.objs.size<=b)/\b≠X.env.locals/\(∀x c,X.env.cells.lookup x=some c->c≠b)/\∀p∈X.pn++pins,p.1≠b):Inv X pins σ H' s':=by
 obtain⟨h',g',d',t',o'⟩:=s'
 have e:o'=s.os:=ho
 subst e
 exact I.call (g':=g') (t':=t') (d':=d') u hok hg hch
end
abbrev XK:=D4->Option Addr->Hp->Prop
abbrev St:=List (Option V)
abbrev VK:=V->Hp->Prop
abbrev TE:=St->Hp->VK->Prop
abbrev TT:=St->Hp->(Bool->Hp->Prop)->Prop
abbrev TA:=St->Hp->(List V->Hp->Prop)->Prop
structure Ends where
 nx:St->Hp->Prop
 rt:VK
 bk:St->Hp->Prop:=fun _ _=>False
 ct:St->Hp->Prop:=fun _ _=>False
abbrev TS:=Ends->St->Hp->Prop
def EP(X:Cx)(pins:List (Addr×Obj))(σ:St)(Q:VK)(u:D4)(s':D6):Prop:=∃v H',Inv X pins σ H' s'/\RelV v u/\Q v H'
def TP(X:Cx)(pins:List (Addr×Obj))(σ:St)(Q:Bool->Hp->Prop)(b:Bool)(s':D6):Prop:=∃H',Inv X pins σ H' s'/\Q b H'
def AP(X:Cx)(pins:List (Addr×Obj))(σ:St)(Q:List V->Hp->Prop)(us:List D4)(s':D6):Prop:=∃vs H',Inv X pins σ H' s'/\Vals vs us/\Q vs H'
def SP(X:Cx)(pins:List (Addr×Obj))(D:Ends)(f:Flow)(s':D6):Prop:=
 match f with
 |.next=>∃σ' H',Inv X pins σ' H' s'/\D.nx σ' H'
 |.brk=>∃σ' H',Inv X pins σ' H' s'/\D.bk σ' H'
 |.cont=>∃σ' H',Inv X pins σ' H' s'/\D.ct σ' H'
 |.ret u=>∃v σ' H',Inv X pins σ' H' s'/\RelV v u/\D.rt v H'
def PE(X:Cx)(e:Expr)(t:TE):Prop:=
 ∀(pins:List (Addr×Obj)) (s:D6) (σ:St) (H:Hp) (Q:VK),Inv X pins σ H s->t σ H Q->E7 (Ef X.prog X.w) X.A (eval e X.env) (EP X pins σ Q) X.xe s
def PT(X:Cx)(e:Expr)(t:TT):Prop:=
 ∀(pins:List (Addr×Obj)) (s:D6) (σ:St) (H:Hp) (Q:Bool->Hp->Prop),Inv X pins σ H s->t σ H Q->E7 (Ef X.prog X.w) X.A (isTrue e X.env (eval e X.env)) (TP X pins σ Q) X.xe s
def PW(X:Cx)(e:Expr)(t:TT):Prop:=
 ∀(whole:Sem D4) (pins:List (Addr×Obj)) (s:D6) (σ:St) (H:Hp) (Q:Bool->Hp->Prop),Inv X pins σ H s->t σ H Q->E7 (Ef X.prog X.w) X.A (isTrue e X.env whole) (TP X pins σ Q) X.xe s
theorem PW.pt{X:Cx}{e:Expr}{t:TT}(h:PW X e t):PT X e t:=h _
def PA(X:Cx)(es:List Expr)(t:TA):Prop:=
 ∀(pos:Pos) (pins:List (Addr×Obj)) (s:D6) (σ:St) (H:Hp) (Q:List V->Hp->Prop),Inv X pins σ H s->t σ H Q->E7 (Ef X.prog X.w) X.A (spliced (Fn pos (Eb es X.env))) (AP X pins σ Q) X.xe s
def PS(X:Cx)(st:Stmt)(t:TS):Prop:=
 ∀(pins:List (Addr×Obj)) (s:D6) (σ:St) (H:Hp) (D:Ends),Inv X pins σ H s->t D σ H->E7 (Ef X.prog X.w) X.A (exec st X.env) (SP X pins D) X.xe s
def PSs(X:Cx)(st:List Stmt)(t:TS):Prop:=
 ∀(pins:List (Addr×Obj)) (s:D6) (σ:St) (H:Hp) (D:Ends),Inv X pins σ H s->t D σ H->E7 (Ef X.prog X.w) X.A (execs st X.env) (SP X pins D) X.xe s
theorem thn{α:Type}{t:Sem α}{Q Q':α->D6->Prop}{M:Model}{A:EE}{E:D4->D6->Prop}{s:D6}(h:E7 M A t Q E s)(hQ:∀a s,Q a s->Q' a s):E7 M A t Q' E s:=Ed h hQ fun _ _ x=>x
section
variable{X:Cx}
def Dj(i:Nat):TE:=fun σ H Q=>∃v,σ[i]?=some (some v)/\Q v H
def tC(v:V):TE:=fun _ H Q=>Q v H
theorem Az{i:Nat}{x:Str}{pos:Pos}(hN:X.N[i]?=some x)(hv:Vis X.env.scope x)(hd:(x==("__debug__":Str))=false:=by decide)(hcd:(x==("__classdict__":Str))=false:=by decide):PE X (.Name x pos) (Dj i):=by
 intro pins s σ H Q I h;obtain⟨v,e,h⟩:=h;obtain⟨m,hn,hl⟩:=I.loc;obtain⟨u,r,l⟩:=hl i x v hN e hv;have fin:EP X pins σ Q u s:=⟨v,H,I,r,h⟩;rcases l with⟨hk,hm⟩|⟨hk,c,hc,hcell⟩
 ·exact wpAny_Name (wpAny_loadName_local I.ok.kind hk hn hm fin) hd
 ·rcases hk with hk|hk
  ·exact wpAny_Name (wpAny_loadName_cell I.ok.kind hk hc hcell fin) hd
  ·exact wpAny_Name (wpAny_loadName_free I.ok.kind hk hc hcell fin hcd) hd
theorem wo{i j pos}:PE X (.Constant (.int i) j pos) (tC (.int i)):=fun _ _ _ H _ I h=>wpAny_Constant_int ⟨.int i,H,I.tok _,⟨_,rfl⟩,h⟩
theorem Ca{b j pos}:PE X (.Constant (.bool b) j pos) (tC (.bl b)):=fun _ _ _ H _ I h=>Constant_bool ⟨.bl b,H,I,rfl,h⟩
theorem zI{j pos}:PE X (.Constant .none j pos) (tC .non):=fun _ _ _ H _ I h=>Constant_none ⟨.non,H,I,rfl,h⟩
def Gl(X:Cx)(x:Str):Prop:=X.env.kindOf x=some .globalImplicit
theorem xS{E:D4->D6->Prop}{pins:List (Addr×Obj)}{s:D6}{σ:St}{H:Hp}{x:Str}{u:D4}{pos:Pos}{Q:D4->D6->Prop}(I:Inv X pins σ H s)(hg:Gl X x)(hm:X.mg x=some u)(h:Q u s) (hd:(x==("__debug__":Str))=false:=by decide):E7 (Ef X.prog X.w) X.A (eval (.Name x pos) X.env) Q E s:=Calls.Name_function_global I.ok.kind hg (Calls.loadGlobal_global (by rw[I.ok.glob];exact I.mod.glob.keeps I.bk) hm h) hd
theorem gX{E:D4->D6->Prop}{pins:List (Addr×Obj)}{s:D6}{σ:St}{H:Hp}{x:Str}{u:D4}{pos:Pos}{Q:D4->D6->Prop}(I:Inv X pins σ H s)(hg:Gl X x)(hm:X.mg x=none)(hv:F7 x=some u)(h:Q u s) (hn:x≠"__name__":=by decide) (hd:(x==("__debug__":Str))=false:=by decide):E7 (Ef X.prog X.w) X.A (eval (.Name x pos) X.env) Q E s:=by obtain⟨mb,h1,h2⟩:=I.mod.blt;exact Calls.Name_function_global I.ok.kind hg (Calls.loadGlobal_builtin (by rw[I.ok.glob];exact I.mod.glob.keeps I.bk) hm (by rw[I.ok.blt];exact h1.keeps I.bk) ((h2 x hn).trans hv) h) hd
variable{a b:Expr}{ta tb:TE}{pos:Pos}
def PC(X:Cx)(op:CmpOp)(a b:Expr)(t:TE):Prop:=
 ∀(pins:List (Addr×Obj)) (s:D6) (σ:St) (H:Hp) (Q:VK),Inv X pins σ H s->t σ H Q->
  E7 (Ef X.prog X.w) X.A (eval a X.env) (fun v s₁=>E7 (Ef X.prog X.w) X.A (eval b X.env) (fun u s₂=>E7 (Ef X.prog X.w) X.A (EK op v u) (EP X pins σ Q) X.xe s₂) X.xe s₁) X.xe s
def tB(t:TE):TT:=fun σ H Q=>t σ H fun x H1=>∃c,x=.bl c/\Q c H1
theorem A7{op:CmpOp}{t:TE}(h:PC X op a b t)(h1:GD op b=false:=by first|exact nobehind _ (by decide) (by decide)|rfl):PT X (.Compare a [op] [b] pos) (tB t):=by intro pins s σ H Q I hw;refine wpAny_isTrue_Compare1 (thn (h pins s σ H _ I hw) fun v s1 h1=>thn h1 fun u s2 h2=>thn h2 fun c s3 zz6_0=>?_) h1;obtain⟨x,H1,I1,r1,q1⟩:=zz6_0;obtain⟨d,rfl,q⟩:=q1;cases r1;exact FI ⟨H1,I1,q⟩
theorem AZ{e:Expr}{t:TE}(h:PE X e t)(he:∀whole,isTrue e X.env whole=(do let v <-whole;standAt e.pos;holding [v] (truthy v)):=by intro _;rfl):PT X e (tB t):=by intro pins s σ H Q I hw;refine isTrue_plain (thn (h pins s σ H _ I hw) fun v s1 zz7_0=>?_) (he _);obtain⟨x,H1,I1,r1,q1⟩:=zz7_0;obtain⟨d,rfl,q⟩:=q1;cases r1;exact FI ⟨H1,I1,q⟩
variable{tA tB':TT}{rest:List Expr}
def D0(t u:TT):TT:=fun σ H Q=>t σ H fun c H1=>if c=true then u σ H1 Q else Q false H1
def tOr(t u:TT):TT:=fun σ H Q=>t σ H fun c H1=>if c=true then Q true H1 else u σ H1 Q
def Dx(t:TT):TT:=fun σ H Q=>t σ H fun c H1=>Q (!c) H1
theorem xc(ha:PT X a tA):PW X (.BoolOp .And [a] pos) tA:=by
 intro wh pins s σ H Q I h;refine isTrue_and (thn (ha pins s σ H Q I h) fun c s1 e=>?_);cases c with
 |true=>exact isTrue_and_nil e
 |false=>exact e
theorem zl(ha:PT X a tA):PW X (.BoolOp .Or [a] pos) tA:=by
 intro wh pins s σ H Q I h;refine isTrue_or (thn (ha pins s σ H Q I h) fun c s1 e=>?_);cases c with
 |false=>exact isTrue_or_nil e
 |true=>exact e
theorem Bk(ha:PT X a tA)(hb:PW X (.BoolOp .And (b::rest) pos) tB'):PW X (.BoolOp .And (a::b::rest) pos) (D0 tA tB'):=by
 intro wh pins s σ H Q I h;refine isTrue_and (thn (ha pins s σ H _ I h) fun c s1 zz8_0=>?_);obtain⟨H1,I1,q1⟩:=zz8_0;cases c with
 |true=>exact hb wh pins s1 σ H1 Q I1 q1
 |false=>exact⟨H1,I1,q1⟩
theorem CF(ha:PT X a tA)(hb:PW X (.BoolOp .Or (b::rest) pos) tB'):PW X (.BoolOp .Or (a::b::rest) pos) (tOr tA tB'):=by
 intro wh pins s σ H Q I h;refine isTrue_or (thn (ha pins s σ H _ I h) fun c s1 zz9_0=>?_);obtain⟨H1,I1,q1⟩:=zz9_0;cases c with
 |true=>exact⟨H1,I1,q1⟩
 |false=>exact hb wh pins s1 σ H1 Q I1 q1
theorem Ap(ha:PT X a tA):PT X (.UnaryOp .Not a pos) (Dx tA):=by intro pins s σ H Q I h;exact isTrue_not (ha pins s σ H (fun c H1=>Q (!c) H1) I h)
def C2(ta tb:TE):TE:=fun σ H Q=>ta σ H fun x H1=>∃c,x=.bl c/\if c=true then tb σ H1 Q else Q (.bl false) H1
def Ck(ta:TE):TE:=fun σ H Q=>ta σ H fun x H1=>∃c,x=.bl c/\Q (.bl (!c)) H1
theorem A0{op}{t:TE}(h:PE X a t):PE X (.BoolOp op [a] pos) t:=fun pins s σ H Q I hw=>BoolOp_one (h pins s σ H Q I hw)
theorem AY(ha:PE X a ta)(hb:PE X (.BoolOp .And (b::rest) pos) tb):PE X (.BoolOp .And (a::b::rest) pos) (C2 ta tb):=by
 intro pins s σ H Q I h;refine BoolOp_and (thn (ha pins s σ H _ I h) fun v s1 zz10_0=>?_);obtain⟨x,H1,I1,r1,q1⟩:=zz10_0;obtain⟨c,rfl,q1⟩:=q1;cases r1;refine FI ?_;cases c with
 |true=>exact hb pins s1 σ H1 Q I1 q1
 |false=>exact⟨.bl false,H1,I1,rfl,q1⟩
theorem Bc(ha:PE X a ta):PE X (.UnaryOp .Not a pos) (Ck ta):=by intro pins s σ H Q I h;refine UnaryOp_ (thn (ha pins s σ H _ I h) fun v s1 zz12_0=>?_);obtain⟨x,H1,I1,r1,q1⟩:=zz12_0;obtain⟨c,rfl,q1⟩:=q1;cases r1;exact not_of (FI ⟨.bl (!c),H1,I1,rfl,q1⟩)
def tIf(t:TT)(ta tb:TE):TE:=fun σ H Q=>t σ H fun c H1=>if c=true then ta σ H1 Q else tb σ H1 Q
theorem tN{c:Expr}(hc:PT X c tA)(ha:PE X a ta)(hb:PE X b tb):PE X (.IfExp c a b pos) (tIf tA ta tb):=by
 intro pins s σ H Q I h;refine wpAny_IfExp (thn (hc pins s σ H _ I h) fun d s1 zz13_0=>?_);obtain⟨H1,I1,q1⟩:=zz13_0;cases d with
 |true=>exact ha pins s1 σ H1 Q I1 q1
 |false=>exact hb pins s1 σ H1 Q I1 q1
end
def SqL(K:D5)(H:Hp)(a:Addr)(xs:List V):Prop:=
 Rd H a (.lst xs)\/
  ∃(o:Obj) (its:Array D4) (n:Nat),K.lookup a=some o/\o.cls=.type "list"/\o.dict=none/\o.data=.seq its n/\its.size<=Ea/\Vals xs its.toList
def SqT(K:D5)(H:Hp)(a:Addr)(xs:List V):Prop:=
 Rd H a (.tup xs)\/
  ∃(o:Obj) (its:Array D4) (n:Nat),K.lookup a=some o/\(o.cls=.type "tuple"/\o.dict=none)/\o.data=.seq its n/\its.size<=Ea/\Vals xs its.toList
def DC:D4->Option V
 |.none=>some .non
 |.bool b=>some (.bl b)
 |.int i _=>some (.int i)
 |.str x _=>some (.str x)
 |.bytes b _=>some (.byt b)
 |.float b _=>some (.flt b)
 |.ref a=>some (.ref a)
 |.type n=>some (.ty n)
 |_=>none
theorem RelV.abs{x:V}{u:D4}(r:RelV x u):DC u=some x:=by
 cases x with
 |non=>cases r;rfl
 |bl _=>cases r;rfl
 |int _=>obtain⟨t,rfl⟩:=r;rfl
 |str _=>obtain⟨t,rfl⟩:=r;rfl
 |byt _=>obtain⟨t,rfl⟩:=r;rfl
 |flt _=>obtain⟨t,rfl⟩:=r;rfl
 |ref _=>cases r;rfl
 |ty _=>cases r;rfl
theorem RelV.inj{x y:V}{u:D4}(r:RelV x u)(q:RelV y u):x=y:=Option.some.inj (r.abs.symm.trans q.abs)
theorem Vals.inj:∀{xs ys:List V} {us:List D4},Vals xs us->Vals ys us->xs=ys
 |_,_,_,.nil,.nil=>rfl
 |_,_,_,.cons r t,.cons r' t'=>by rw[r.inj r',Vals.inj t t']
section
variable{X:Cx}{pins:List (Addr×Obj)}{σ:St}{H:Hp}{s:D6}{a:Addr}{xs ys:List V}
theorem SqL.of{K:D5}(h:H a=some (.lst xs)):SqL K H a xs:=.inl (.inl h)
theorem SqT.of{K:D5}(h:H a=some (.tup xs)):SqT K H a xs:=.inl (.inl h)
theorem Inv.list(I:Inv X pins σ H s)(h:SqL X.K H a xs):∃its:List D4,Vals xs its/\PlainL s.heap a its.toArray/\xs.length<=Ea:=by
 rcases h with h|⟨o,its,n,hk,hc,hd,hs,hz,r⟩
 ·obtain⟨z,its,n,r,e⟩:=h.ok I.hok;exact⟨its,r,⟨_,n,e,rfl,rfl,rfl⟩,z⟩
 ·refine⟨its.toList,r,⟨o,n,I.kIn a o hk,hc,hd,by simpa using hs⟩,?_⟩;have e:=r.length;simp only[Fm]at e;omega
theorem Inv.tuple(I:Inv X pins σ H s)(h:SqT X.K H a xs):∃its:List D4,Vals xs its/\IsTup s.heap a its.toArray/\xs.length<=Ea:=by
 rcases h with h|⟨o,its,n,hk,hc,hs,hz,r⟩
 ·obtain⟨z,its,r,p,_⟩:=h.ok I.hok;exact⟨its,r,p,z⟩
 ·refine⟨its.toList,r,⟨o,I.kIn a o hk,hc.1,n,by simpa using hs⟩,?_⟩;have e:=r.length;simp only[Fm]at e;omega
theorem Inv.zB(I:Inv X pins σ H s)(h:SqT X.K H a xs):NoD s.heap a:=by
 rcases h with h|⟨o,its,n,hk,hc,hs,hz,r⟩
 ·obtain⟨z,its,r,_,p⟩:=h.ok I.hok;exact p
 ·exact⟨o,I.kIn a o hk,hc.2⟩
theorem Inv.e9(I:Inv X pins σ H s)(h:SqL X.K H a xs)(h':SqL X.K H a ys):xs=ys:=by
 obtain⟨its,r,⟨o,n,e,_,_,d⟩,_⟩:=I.list h;obtain⟨its',r',⟨o',n',e',_,_,d'⟩,_⟩:=I.list h';rw[e]at e';cases e';rw[d]at d';injection d' with d1 _;have:its=its':=by simpa using congrArg Array.toList d1
 subst this;exact r.inj r'
theorem Inv.sj(I:Inv X pins σ H s)(h:SqT X.K H a xs)(h':SqT X.K H a ys):xs=ys:=by
 obtain⟨its,r,⟨o,e,_,n,d⟩,_⟩:=I.tuple h;obtain⟨its',r',⟨o',e',_,n',d'⟩,_⟩:=I.tuple h';rw[e]at e';cases e';rw[d]at d';injection d' with d1 _;have:its=its':=by simpa using congrArg Array.toList d1
 subst this;exact r.inj r'
end
abbrev Cx.k6(X:Cx)(E:D4->D6->Prop):Cx:={ X with xe:=E }
abbrev Cx.nox(X:Cx):Cx:=X.k6 fun _ _=>False
theorem Cx.Ok.k6{X:Cx}(ok:X.Ok)(E:D4->D6->Prop):(X.k6 E).Ok:=⟨ok.mod,ok.kind,ok.glob,ok.blt,ok.above,ok.inj,ok.has,ok.cab,ok.hd,ok.frames,ok.stk,ok.exf,ok.bs,ok.bsz,ok.noex,ok.exfs,ok.kn,ok.frf⟩
theorem Cx.Ok.eT{X:Cx}{E:D4->D6->Prop}(ok:(X.k6 E).Ok):X.Ok:=⟨ok.mod,ok.kind,ok.glob,ok.blt,ok.above,ok.inj,ok.has,ok.cab,ok.hd,ok.frames,ok.stk,ok.exf,ok.bs,ok.bsz,ok.noex,ok.exfs,ok.kn,ok.frf⟩
section
variable{X:Cx}{pins:List (Addr×Obj)}{σ:St}{H:Hp}{s:D6}{E:D4->D6->Prop}
theorem Inv.k6(I:Inv X pins σ H s)(E:D4->D6->Prop):Inv (X.k6 E) pins σ H s:=⟨I.ok.k6 E,I.os,I.bare,I.base,I.loc,I.cell,I.free,I.freeC,I.pin,I.hok,I.len⟩
theorem Inv.eT(I:Inv (X.k6 E) pins σ H s):Inv X pins σ H s:=⟨I.ok.eT,I.os,I.bare,I.base,I.loc,I.cell,I.free,I.freeC,I.pin,I.hok,I.len⟩
theorem SP.eT{D:Ends}{f:Flow}{s':D6}(h:SP (X.k6 E) pins D f s'):SP X pins D f s':=by
 cases f with
 |next=>obtain⟨σ',H',I,q⟩:=h;exact⟨σ',H',I.eT,q⟩
 |brk=>obtain⟨σ',H',I,q⟩:=h;exact⟨σ',H',I.eT,q⟩
 |cont=>obtain⟨σ',H',I,q⟩:=h;exact⟨σ',H',I.eT,q⟩
 |ret u=>obtain⟨v,σ',H',I,r,q⟩:=h;exact⟨v,σ',H',I.eT,r,q⟩
theorem PSs.nox{st:List Stmt}{t:TS}(h:PSs X.nox st t):PSs X st t:=fun pins s σ H D I hw=>Ed (h pins s σ H D (I.k6 _) hw) (fun _ _ q=>q.eT) fun _ _ z=>GO z
end
section
variable{X:Cx}{st:Stmt}{rest:List Stmt}{t u:TS}{e:Expr}{te:TE}{pos:Pos}
def Bw:TS:=fun D σ H=>D.nx σ H
def DM(t u:TS):TS:=fun D σ H=>t { D with nx:=u D } σ H
theorem xF:PSs X [] Bw:=fun _ _ σ H _ I h=>wpAny_execs_nil ⟨σ,H,I,h⟩
theorem tY(h1:PS X st t)(h2:PSs X rest u):PSs X (st::rest) (DM t u):=by
 intro pins s σ H D I h;refine wpAny_execs_cons (thn (h1 pins s σ H { D with nx:=u D } I h) fun f s1 q=>?_);cases f with
 |next=>
  obtain⟨σ',H',I',q⟩:=q
  exact h2 pins s1 σ' H' D I' q
 |ret v=>exact q
 |brk=>exact q
 |cont=>exact q
theorem x6(h1:PS X st t):PSs X [st] t:=by
 intro pins s σ H D I h;refine wpAny_execs_cons (thn (h1 pins s σ H D I h) fun f s1 q=>?_);cases f with
 |next=>exact wpAny_execs_nil q
 |ret v=>exact q
 |brk=>exact q
 |cont=>exact q
theorem Inv.quiet{pins:List (Addr×Obj)}{σ:St}{H:Hp}{s:D6}(I:Inv X pins σ H s):interactive X.env=false:=by simp[interactive,I.ok.kind]
def BW(te:TE):TS:=fun D σ H=>te σ H fun _ H1=>D.nx σ H1
theorem xT(he:PE X e te)(hs:GI e none pos.line X.env=pure false:=by rfl):PS X (.Expr e pos) (BW te):=by intro pins s σ H D I h;exact wpAny_Expr_any (thn (he pins s σ H _ I h) fun v s1 zz16_0=>by obtain⟨x,H1,I1,r1,q1⟩:=zz16_0;exact(⟨σ,H1,I1,q1⟩)) I.quiet hs
def Dg(te:TE):TS:=fun D σ H=>te σ H D.rt
theorem Ab(he:PE X e te):PS X (.Return (some e) pos) (Dg te):=by intro pins s σ H D I h;exact wpAny_Return_some (thn (he pins s σ H _ I h) fun v s1 zz17_0=>by obtain⟨x,H1,I1,r1,q1⟩:=zz17_0;exact(⟨x,σ,H1,I1,r1,q1⟩))
def Di(c:TT)(t u:TS):TS:=fun D σ H=>c σ H fun b H1=>if b=true then t D σ H1 else u D σ H1
theorem CN{c:Expr}{a b:List Stmt}{tc:TT}(hc:PT X c tc)(ha:PSs X a t)(hb:PSs X b u):PS X (.If c a b pos) (Di tc t u):=by
 intro pins s σ H D I h;refine wpAny_If (thn (hc pins s σ H _ I h) fun d s1 zz18_0=>?_);obtain⟨H1,I1,q1⟩:=zz18_0;cases d with
 |true=>exact ha pins s1 σ H1 D I1 q1
 |false=>exact hb pins s1 σ H1 D I1 q1
def Ae:TS:=fun _ _ _=>False
theorem wt:PS X st Ae:=fun _ _ _ _ _ _ h=>h.elim
end
abbrev TG:=V->St->Hp->(St->Hp->Prop)->Prop
abbrev TGs:=List V->St->Hp->(St->Hp->Prop)->Prop
def PG(X:Cx)(target:Expr)(t:TG):Prop:=
 ∀(pins:List (Addr×Obj)) (s:D6) (σ:St) (H:Hp) (v:V) (u:D4) (Q:St->Hp->Prop),Inv X pins σ H s->RelV v u->t v σ H Q->
  E7 (Ef X.prog X.w) X.A (GJ target X.env u) (fun _ s'=>∃σ' H',Inv X pins σ' H' s'/\Q σ' H') X.xe s
def PGs(X:Cx)(ts:List Expr)(t:TGs):Prop:=
 ∀(pins:List (Addr×Obj)) (s:D6) (σ:St) (H:Hp) (vs:List V) (us:List D4) (Q:St->Hp->Prop),Inv X pins σ H s->Vals vs us->t vs σ H Q->
  E7 (Ef X.prog X.w) X.A (assignInOrder ((GF ts X.env).map (·.2)) us) (fun _ s'=>∃σ' H',Inv X pins σ' H' s'/\Q σ' H') X.xe s
abbrev Bn:=V->V->V->Hp->(Hp->Prop)->Prop
def BS(X:Cx)(t:Bn):Prop:=
 ∀(pins:List (Addr×Obj)) (s:D6) (σ:St) (H:Hp) (o i v:V) (ov iv u:D4) (Q:Hp->Prop),Inv X pins σ H s->RelV o ov->RelV i iv->RelV v u->t o i v H Q->
  E7 (Ef X.prog X.w) X.A (setItem ov iv u) (fun _ s'=>∃H',Inv X pins σ H' s'/\Q H') X.xe s
abbrev TIp:=V->V->Hp->VK->Prop
def PIp(X:Cx)(op:Operator)(t:TIp):Prop:=
 ∀(pins:List (Addr×Obj)) (s:D6) (σ:St) (H:Hp) (x y:V) (v u:D4) (Q:VK),Inv X pins σ H s->RelV x v->RelV y u->t x y H Q->
  E7 (Ef X.prog X.w) X.A (inplaceOp op v u) (EP X pins σ Q) X.xe s
section
variable{X:Cx}{pos:Pos}
def cG(i:Nat):TG:=fun v σ H Q=>Q (σ.set i (some v)) H
theorem rG{i:Nat}{x:Str}(hN:X.N.Nodup)(hi:X.N[i]?=some x)(hx:Loc X.env.scope x)(hf:X.fn x=true\/X.env.scope.names.lookup x=some .local:=by first|exact .inl rfl|exact .inr rfl|assumption):PG X (.Name x pos) (cG i):=by intro pins s σ H v u Q I r h;exact wpAny_assign_Name (ff I hN hi hx r (fun s' I'=>⟨_,H,I',h⟩) hf)
def qq:TGs:=fun vs σ H Q=>vs=[]/\Q σ H
def dZ(t:TG)(u:TGs):TGs:=fun vs σ H Q=>∃v r,vs=v::r/\t v σ H fun σ' H'=>u r σ' H' Q
theorem iX:PGs X [] qq:=by intro pins s σ H vs us Q I r h;obtain⟨e,h⟩:=h;subst e;cases r;exact assignInOrder_nil ⟨σ,H,I,h⟩
theorem c7{e:Expr}{es:List Expr}{t:TG}{u:TGs}(h1:PG X e t)(h2:PGs X es u) (hs:(GF (e::es) X.env).map (·.2)=GJ e X.env::(GF es X.env).map (·.2):=by rfl):PGs X (e::es) (dZ t u):=by
 intro pins s σ H vs us Q I r h;obtain⟨v,vr,e1,h⟩:=h;subst e1;cases r with
 |cons r rr=>
  rw[hs]
  refine assignInOrder_cons (thn (h1 pins s σ H _ _ _ I r h) fun _ s1 zz19_0=>?_)
  obtain⟨σ1,H1,I1,q1⟩:=zz19_0
  exact h2 pins s1 σ1 H1 _ _ Q I1 rr q1
def pZ(K:D5)(n:Nat)(t:TGs):TG:=fun v σ H Q=>∃a xs,v=.ref a/\SqT K H a xs/\xs.length=n/\t xs σ H Q
theorem mD{es:List Expr}{k:Nat}{t:TGs}{n:Nat}(hc:X.calm=true)(h:PGs X es t)
 (hn:(GF es X.env).length=n:=by rfl) (hst:(GF es X.env).findIdx? (·.1)=none:=by rfl):PG X (.Tuple es k pos) (pZ X.K n t):=by
 intro pins s σ H v u Q I r hw
 obtain⟨a,xs,e1,hq,hl,hw⟩:=hw
 subst e1
 cases r
 obtain⟨its,rv,ht,hz⟩:=I.tuple hq
 refine assign_Tuple_tuple (I.ok.hd hc) ht (by simp[hn,<-hl,rv.length]) hst fun h' hx=>?_
 have I1:Inv X pins σ H { s with heap:=h' }:=I.kept (t':=s.toks) fun b o e=>hx b o (Ex (E8 e)) e
 exact h pins _ σ H xs _ Q I1 (by simpa using rv) hw
def D2(to ti:TE)(t:Bn):TG:=fun v σ H Q=>to σ H fun o H1=>ti σ H1 fun i H2=>t o i v H2 fun H3=>Q σ H3
theorem zX{o i:Expr}{to ti:TE}{t:Bn}(ho:PE X o to)(hi:PE X i ti)(hs:BS X t)
 (ha:∀v,GJ (.Subscript o i pos) X.env v=(do
  let ov <-holding [v] (eval o X.env)
  let iv <-holding [v,ov] (eval i X.env)
  standAt pos
  holding [v,ov,iv] (setItem ov iv v)
  release [v,ov,iv] []):=by intro _;rfl):PG X (.Subscript o i pos) (D2 to ti t):=by
 intro pins s σ H v u Q I r h
 rw[ha]
 refine cc (EY (thn (ho pins s σ H _ I h) fun ov s1 zz20_0=>?_))
 obtain⟨x,H1,I1,r1,q1⟩:=zz20_0
 refine cc (EY (thn (hi pins s1 σ H1 _ I1 q1) fun iv s2 zz21_0=>?_))
 obtain⟨y,H2,I2,r2,q2⟩:=zz21_0
 refine cc (Fx (cc (EY (thn (hs pins s2 σ H2 x y v ov iv u _ I2 r1 r2 r q2) fun _ s3 zz22_0=>?_))))
 obtain⟨H3,I3,q3⟩:=zz22_0
 exact wpAny_release ⟨σ,H3,I3,q3⟩
def wU(te:TE)(g:TG):TS:=fun D σ H=>te σ H fun x H1=>g x σ H1 D.nx
theorem Aa{tg e:Expr}{te:TE}{g:TG}(he:PE X e te)(hg:PG X tg g)(hs:swapsWithSole [tg] e pos.line X.env=pure false:=by rfl)(hw:swappedStores [tg] e X.env=pure none:=by rfl) (h1:(GF [tg] X.env).map (·.2)=[GJ tg X.env]:=by rfl):PS X (.Assign [tg] e pos) (wU te g):=by intro pins s σ H D I h;refine wpAny_Assign_stores (thn (he pins s σ H _ I h) fun v s1 zz23_0=>?_) hs hw;obtain⟨x,H1,I1,r1,q1⟩:=zz23_0;rw[h1];exact thn (hg pins s1 σ H1 x v _ I1 r1 q1) fun _ s2 q=>q
theorem Aw{i:Nat}{x:Str}{e:Expr}{te:TE}{pos':Pos}(hN:X.N.Nodup)(hi:X.N[i]?=some x)(hx:Loc X.env.scope x)(he:PE X e te)(hs:GI e (some (.Name x pos')) pos.line X.env=pure false:=by rfl)(hf:X.fn x=true\/X.env.scope.names.lookup x=some .local:=by first|exact .inl rfl|exact .inr rfl|assumption) : PS X (.Assign [.Name x pos'] e pos) (wU te (cG i)):=by intro pins s σ H D I h;refine wpAny_Assign_Name (thn (he pins s σ H _ I h) fun v s1 zz24_0=>?_) hs;obtain⟨y,H1,I1,r1,q1⟩:=zz24_0;exact ff I1 hN hi hx r1 (fun s2 I2=>⟨_,H1,I2,q1⟩) hf
def Dl(i j:Nat)(ta:TA):TS:=fun D σ H=>ta σ H fun vs H1=>∃v w,vs=[v,w]/\D.nx ((σ.set i (some v)).set j (some w)) H1
theorem AQ{i j:Nat}{x y:Str}{a b:Expr}{ta:TA}{px py pt:Pos}{kt k2 pt2}(hc:X.calm=true)(hN:X.N.Nodup)(hi:X.N[i]?=some x)(hj:X.N[j]?=some y)(hij:i≠j)
 (hx:X.env.scope.names.lookup x=some .local) (hy:X.env.scope.names.lookup y=some .local) (ha:PA X [a,b] ta)
 (hw:swappedStores [.Tuple [.Name x px,.Name y py] kt pt] (.Tuple [a,b] k2 pt2) X.env=pure (some [x,y]))
 (hs:swapsWithSole [.Tuple [.Name x px,.Name y py] kt pt] (.Tuple [a,b] k2 pt2) pos.line X.env=pure false:=by rfl) :
 PS X (.Assign [.Tuple [.Name x px,.Name y py] kt pt] (.Tuple [a,b] k2 pt2) pos) (Dl i j ta):=by
 intro pins s σ H D I h
 rw[exec_Assign_arm]
 refine cc (Fx ?_)
 rw[hs]
 refine cc (E1 ?_)
 rw[if_neg (by decide)]
 refine cc (Tuple_ (thn (ha _ pins s σ H _ I h) fun us s1 zz25_0=>?_))
 obtain⟨vs,H1,I1,r1,q1⟩:=zz25_0
 obtain⟨v,w,e1,q1⟩:=q1
 subst e1
 obtain⟨u1,u2,rfl,rv,rw'⟩:∃u1 u2,us=[u1,u2]/\RelV v u1/\RelV w u2:=by
  cases r1 with
  |cons p q=>
   cases q with
   |cons p' q'=>
    cases q'
    exact⟨_,_,rfl,p,p'⟩
 refine EO ?_ (by show 2<=Ea;decide)
 have I2:Inv X pins σ H1 { s1 with heap:=s1.heap.push { cls:=.type "tuple",data:=.seq [u1,u2].toArray } }:=I1.kept (t':=s1.toks) fun b o e=>D9 _ e
 rw[hw]
 refine cc (E1 ?_)
 show E7 (Ef X.prog X.w) X.A (do rule "assign.swapped-stores";let items <-unpackItems (.ref s1.heap.objs.size) 2 none;assignInOrder [fun v=>bindName X.env y v,fun v=>bindName X.env x v] items.reverse;pure Flow.next) _ _ _
 refine cc (wpAny_rule (cc (unpackItems_tuple (items:=#[u1,u2]) (I.ok.hd hc) (IsTup.new s1.heap _) fun h' hx'=>?_)))
 have I3:=I2.kept (h':=h') (t':=s1.toks) fun b o e=>hx' b o (Ex (E8 e)) e
 show E7 _ _ (assignInOrder [fun v=>bindName X.env y v,fun v=>bindName X.env x v] [u2,u1] >>= fun _=>pure Flow.next) _ _ _
 refine cc (assignInOrder_cons (wpAny_bindName (ff I3 hN hj (.inl hy) rw' (fun s2 I4=>?_) (.inr hy))))
 refine assignInOrder_cons (wpAny_bindName (ff I4 hN hi (.inl hx) rv (fun s3 I5=>assignInOrder_nil (E1 ?_)) (.inr hx)))
 rw[List.set_comm _ _ (Ne.symm hij)]at I5
 exact⟨_,H1,I5,q1⟩
def Dd(i:Nat)(te:TE)(ti:TIp):TS:=fun D σ H=>∃x,σ[i]?=some (some x)/\te σ H fun y H1=>ti x y H1 fun z H2=>D.nx (σ.set i (some z)) H2
theorem A4{i:Nat}{x:Str}{e:Expr}{te:TE}{op:Operator}{ti:TIp}{pos':Pos}(hN:X.N.Nodup)(hi:X.N[i]?=some x)(hx:Loc X.env.scope x)(he:PE X e te)(ho:PIp X op ti)(hf:X.fn x=true\/X.env.scope.names.lookup x=some .local:=by first|exact .inl rfl|exact .inr rfl|assumption) :
 PS X (.AugAssign (.Name x pos') op e pos) (Dd i te ti):=by
 intro pins s σ H D I h
 obtain⟨v,e1,h⟩:=h
 obtain⟨m,hn,hl⟩:=I.loc
 have vis:Vis X.env.scope x:=by rcases hx with k|k;exact .inl k;exact .inr (.inl k)
 obtain⟨u,r,l⟩:=hl i x v hi e1 vis
 refine wpAny_AugAssign_Name ?_
 have go:E7 (Ef X.prog X.w) X.A (eval e X.env) (fun w s₂=>E7 (Ef X.prog X.w) X.A (inplaceOp op u w) (fun r s₃=>E7 (Ef X.prog X.w) X.A (storeName X.env x r) (fun _=>SP X pins D .next) X.xe s₃) X.xe s₂) X.xe s:=by
  refine thn (he pins s σ H _ I h) fun w s1 zz26_0=>?_
  obtain⟨y,H1,I1,r1,q1⟩:=zz26_0
  refine thn (ho pins s1 σ H1 v y u w _ I1 r r1 q1) fun z s2 zz27_0=>?_
  obtain⟨zv,H2,I2,r2,q2⟩:=zz27_0
  exact ff I2 hN hi hx r2 (fun s3 I3=>⟨_,H2,I3,q2⟩) hf
 rcases l with⟨hk,hm⟩|⟨hk,c,hc,hcell⟩
 ·exact wpAny_loadName_local I.ok.kind hk hn hm go
 ·rcases hk with hk|hk
  ·exact wpAny_loadName_cell I.ok.kind hk hc hcell go
  ·rcases hx with k|k
   ·have:X.env.scope.names.lookup x=some .free:=hk
    rw[k]at this;cases this
   ·have:X.env.scope.names.lookup x=some .free:=hk
    rw[k]at this;cases this
def ipI(f:Int->Int->Int):TIp:=fun x y H Q=>∃i j,x=.int i/\y=.int j/\Q (.int (f i j)) H
theorem zE:PIp X .Add (ipI fun i j=>i+j):=by intro pins s σ H x y v u Q I r1 r2 h;obtain⟨i,j,e1,e2,q⟩:=h;subst e1;subst e2;obtain⟨t,rfl⟩:=r1;obtain⟨t',rfl⟩:=r2;exact iadd_int ⟨.int _,H,I.tok _,⟨_,rfl⟩,q⟩
theorem AV:PIp X .Sub (ipI fun i j=>i-j):=by intro pins s σ H x y v u Q I r1 r2 h;obtain⟨i,j,e1,e2,q⟩:=h;subst e1;subst e2;obtain⟨t,rfl⟩:=r1;obtain⟨t',rfl⟩:=r2;exact isub_int ⟨.int _,H,I.tok _,⟨_,rfl⟩,q⟩
end
section
variable{X:Cx}{pos:Pos}
def Ai(c:TT)(tb:TS):TS:=fun D σ H=>∃W:Nat->St->Hp->Prop,(∃m,W m σ H)/\∀m σ H,W m σ H->
 c σ H fun b H1=>if b=true then ∃N:St->Hp->Prop,(∀σ' H',N σ' H'->∃m',m'<m/\W m' σ' H')/\tb { D with nx:=N,ct:=N,bk:=D.nx } σ H1 else D.nx σ H1
theorem vk{c:Expr}{body:List Stmt}{tc:TT}{tb:TS}(hp:PassesOwn (Ef X.prog X.w) X.A X.env X.xe)(hc:PT X c tc)(hb:PSs X body tb):PS X (.While c body [] pos) (Ai tc tb):=by
 intro pins s σ H D I h;obtain⟨W,⟨m0,w0⟩,turn⟩:=h;refine wpAny_While (codeAny_whileLoop (fun n s'=>∃σ' H',Inv X pins σ' H' s'/\W n σ' H') ?_ m0 ⟨σ,H,I,w0⟩);rintro n s1 ⟨σ1,H1,I1,w1⟩;refine Gr hp (thn (hc pins s1 σ1 H1 _ I1 (turn n σ1 H1 w1)) fun b s2 zz34_0=>?_);obtain⟨H2,I2,q2⟩:=zz34_0;cases b with
 |true=>
  obtain⟨N,hN,q2⟩:=q2
  rw[if_pos rfl]
  refine Gr hp (thn (hb pins s2 σ1 H2 _ I2 q2) fun f s3 q3=>?_)
  cases f with
  |next=>
   obtain⟨σ3,H3,I3,n3⟩:=q3
   obtain⟨m',hm,w3⟩:=hN σ3 H3 n3
   exact⟨m',hm,σ3,H3,I3,w3⟩
  |cont=>
   obtain⟨σ3,H3,I3,n3⟩:=q3
   obtain⟨m',hm,w3⟩:=hN σ3 H3 n3
   exact⟨m',hm,σ3,H3,I3,w3⟩
  |brk=>exact q3
  |ret v=>exact q3
 |false=>
  rw[if_neg Ei]
  exact wpAny_execs_nil ⟨σ1,H2,I2,q2⟩
end
structure It where
 go:Nat->Hp->Prop
 yld:Nat->Hp->V->Hp->Prop
 stop:Nat->Hp->Prop
def cj(X:Cx)(pins:List (Addr×Obj))(H:Hp)(b:Addr):Prop:=
 H b=none/\b≠X.env.locals/\b∉X.fs/\(b∈X.ex\/X.s₀.heap.objs.size<=b)/\(∀x c,X.env.cells.lookup x=some c->c≠b)/\∀p∈X.pn++pins,p.1≠b
theorem Inv.n8{X:Cx}{pins:List (Addr×Obj)}{σ:St}{H H':Hp}{s:D6}{b:Addr}(I:Inv X pins σ H s)(hb:s.heap.objs.size<=b)(hn:H' b=none):cj X pins H' b:=by
 refine⟨hn,Nat.ne_of_gt (Em I.lt hb),I.DZ hb,.inr (ER I.sz hb),fun x c e z=>?_,fun p hp z=>?_⟩
 ·obtain⟨v,q⟩:=I.cell x c e;exact absurd (Em q.lt (by rw[z];exact hb)) (Nat.lt_irrefl _)
 ·exact absurd (Em (E8 (I.pin p hp).1) (by rw[z];exact hb)) (Nat.lt_irrefl _)
structure Turn(P:Ee)(w:EB)(K:D5)(tg:Expr)(J:It)(fp:List Addr)(it:Addr)(tn:Nat->Heap->Prop):Prop where
 mem:it∈fp
 obj:∀i h,tn i h->∀b∈fp,∃o,h.get? b=some o/\∀v,o.data≠.cell v
 keep:∀i h h',tn i h->(∀b∈fp,∀o,h.get? b=some o->h'.get? b=some o)->tn i h'
 item:∀(X:Cx),X.prog=P->X.w=w->X.K=K->X.calm=true->∀(i:Nat) (pins:List (Addr×Obj)) (s:D6) (σ:St) (H:Hp) (E:D4->D6->Prop),Inv X pins σ H s->(∀b∈fp,cj X pins H b)->tn i s.heap->J.go i H->
  E7 (Ef P w) X.A (pyNext (.ref it)) (fun r s1=>∃u,r=some u/\
   E7 (Ef P w) X.A (FJ tg (.ref it) u) (fun _ s2=>∃x H',Inv X pins σ H' s2/\RelV x u/\J.yld i H x H'/\tn (i+1) s2.heap/\∀b∈fp,H' b=none) E s1) E s
 done:∀(X:Cx),X.prog=P->X.w=w->X.K=K->X.calm=true->∀(i:Nat) (pins:List (Addr×Obj)) (s:D6) (σ:St) (H:Hp) (E:D4->D6->Prop),Inv X pins σ H s->(∀b∈fp,cj X pins H b)->tn i s.heap->J.stop i H->
  E7 (Ef P w) X.A (pyNext (.ref it)) (fun r s1=>r=none/\Inv X pins σ H s1) E s
 self:∀(A:EE) (i:Nat) (s:D6) (Q:D4->D6->Prop) (E:D4->D6->Prop),tn i s.heap->Q (.ref it) s->E7 (Ef P w) A (pyIter (.ref it)) Q E s
abbrev TI:=St->Hp->(It->Hp->Prop)->Prop
def PIE(X:Cx)(pins:List (Addr×Obj))(σ:St)(tg:Expr)(R:It->Hp->Prop)(itv:D4)(s2:D6):Prop:=
 ∃(it:Addr) (fp:List Addr) (tn:Nat->Heap->Prop) (J:It) (H':Hp),itv=.ref it/\Inv X pins σ H' s2/\Turn X.prog X.w X.K tg J fp it tn/\tn 0 s2.heap/\(∀b∈fp,cj X pins H' b)/\R J H'
def PI(X:Cx)(tg iter:Expr)(wi:TI):Prop:=
 ∀(pins:List (Addr×Obj)) (s:D6) (σ:St) (H:Hp) (R:It->Hp->Prop),Inv X pins σ H s->wi σ H R->
  E7 (Ef X.prog X.w) X.A (eval iter X.env) (fun v s1=>E7 (Ef X.prog X.w) X.A (pyIter v) (PIE X pins σ tg R) X.xe s1) X.xe s
theorem uC{M:Model}{A:EE}{E:D4->D6->Prop}{s:D6}{tg:Expr}{it:Addr}{u:D4}{o:Obj}{n:String}{vs:Array D4}{Q:Unit->D6->Prop}(ho:s.heap.get? it=some o)(hc:o.cls=.type n)(hd:o.data=.fields vs) (hn:["enumerate","zip","dict_itemiterator","dict_reverseitemiterator","odict_iterator","itertools.zip_longest","itertools.pairwise"].contains n=false) (hQ:Q () s):E7 M A (FJ tg (.ref it) u) Q E s:=by
 unfold FJ
 cases tg<;>first
  |exact E1 hQ
  |(cases u<;>first
   |exact E1 hQ
   |(refine cc (wpAny_load ho ?_)
     rw[hc,hd]
     show E7 M A (if(["enumerate","zip","dict_itemiterator","dict_reverseitemiterator","odict_iterator","itertools.zip_longest","itertools.pairwise"].contains n&&vs[0]?==some (rawInt _))=true then _ else _) Q E s
     rw[if_neg (by intro h;rw[hn,Bool.false_and]at h;cases h)]
     exact E1 hQ))
def Itl(K:D5)(a:Addr):It:=
 ⟨fun i H=>∃xs x,SqL K H a xs/\xs[i]?=some x,fun i H x H'=>H'=H/\∀xs,SqL K H a xs->xs[i]?=some x,fun i H=>∃xs,SqL K H a xs/\xs.length<=i⟩
def Itt(K:D5)(a:Addr):It:=
 ⟨fun i H=>∃xs x,SqT K H a xs/\xs[i]?=some x,fun i H x H'=>H'=H/\∀xs,SqT K H a xs->xs[i]?=some x,fun i H=>∃xs,SqT K H a xs/\xs.length<=i⟩
def Itr(lo:Int)(n:Nat):It:=⟨fun i _=>i<n,fun i H x H'=>H'=H/\x=.int (lo+i),fun i _=>n<=i⟩
theorem sG{P:Ee}{w:EB}{K:D5}{tg:Expr}(a it:Addr):Turn P w K tg (Itl K a) [it] it (fun i h=>h.IsListIter it a i) where
 mem:=by simp
 obj:=fun i h st b hb=>by
  have e:b=it:=by simpa using hb
  subst e
  obtain⟨o,e,c,d⟩:=st
  exact⟨o,e,fun v z=>by rw[d]at z;cases z⟩
 keep:=fun i h h' st k=>st.at fun o e=>k it (by simp) o e
 item:=by
  intro X hP hw hK hc i pins s σ H E I hf st hg
  subst hP hw hK
  obtain⟨xs,x,hq,hx⟩:=hg
  obtain⟨its,rv,p,hz⟩:=I.list hq
  obtain⟨u,hu,ru⟩:=rv.get hx
  obtain⟨f0,f1,f2,f3,f4,f5⟩:=hf it (by simp)
  refine wpAny_pyNext_list_item st p.isList (x:=u) (by simpa using hu) fun h' st' sb=>?_
  have I1:Inv X pins σ H { s with heap:=h' }:=I.turned (t':=s.toks) (fun b o hb e=>(sb.2 b hb).trans e) f0 f1 f3 f4 f5
  obtain⟨o,e,c,d⟩:=id st'
  exact⟨u,rfl,uC (s:={ s with heap:=h' }) e c d (by decide) ⟨x,H,I1,ru,⟨rfl,fun ys hy=>by rw[I.e9 hy hq];exact hx⟩,st',fun b hb=>(hf b hb).1⟩⟩
 done:=by
  intro X hP hw hK hc i pins s σ H E I hf st hg
  subst hP hw hK
  obtain⟨xs,hq,hx⟩:=hg
  obtain⟨its,rv,p,hz⟩:=I.list hq
  obtain⟨f0,f1,f2,f3,f4,f5⟩:=hf it (by simp)
  have hl:=rv.length
  exact wpAny_pyNext_list_end (I.ok.hd hc) st p.isList (by simp;omega) fun h' eb=>⟨rfl,I.turned (t':=s.toks) (fun b o hb e=>eb b o hb e) f0 f1 f3 f4 f5⟩
 self:=fun _ _ _ _ _ st h=>wpAny_pyIter_listiter st h
theorem pL{P:Ee}{w:EB}{K:D5}{tg:Expr}(a it:Addr):Turn P w K tg (Itt K a) [it] it (fun i h=>h.IsTupleIter it a i) where
 mem:=by simp
 obj:=fun i h st b hb=>by
  have e:b=it:=by simpa using hb
  subst e
  obtain⟨o,e,c,d⟩:=st
  exact⟨o,e,fun v z=>by rw[d]at z;cases z⟩
 keep:=fun i h h' st k=>st.at fun o e=>k it (by simp) o e
 item:=by
  intro X hP hw hK hc i pins s σ H E I hf st hg
  subst hP hw hK
  obtain⟨xs,x,hq,hx⟩:=hg
  obtain⟨its,rv,p,hz⟩:=I.tuple hq
  obtain⟨u,hu,ru⟩:=rv.get hx
  obtain⟨f0,f1,f2,f3,f4,f5⟩:=hf it (by simp)
  refine FW st (show s.heap.IsTuple a its.toArray from p) (x:=u) (by simpa using hu) fun h' st' sb=>?_
  have I1:Inv X pins σ H { s with heap:=h' }:=I.turned (t':=s.toks) (fun b o hb e=>(sb.2 b hb).trans e) f0 f1 f3 f4 f5
  obtain⟨o,e,c,d⟩:=id st'
  exact⟨u,rfl,uC (s:={ s with heap:=h' }) e c d (by decide) ⟨x,H,I1,ru,⟨rfl,fun ys hy=>by rw[I.sj hy hq];exact hx⟩,st',fun b hb=>(hf b hb).1⟩⟩
 done:=by
  intro X hP hw hK hc i pins s σ H E I hf st hg
  subst hP hw hK
  obtain⟨xs,hq,hx⟩:=hg
  obtain⟨its,rv,p,hz⟩:=I.tuple hq
  obtain⟨f0,f1,f2,f3,f4,f5⟩:=hf it (by simp)
  have hl:=rv.length
  exact wpAny_pyNext_tuple_end (I.ok.hd hc) st (show s.heap.IsTuple a its.toArray from p) (by simp;omega) fun h' eb=>⟨rfl,I.turned (t':=s.toks) (fun b o hb e=>eb b o hb e) f0 f1 f3 f4 f5⟩
 self:=fun _ _ _ _ _ st h=>wpAny_pyIter_tupleiter st h
theorem oM{P:Ee}{w:EB}{K:D5}{tg:Expr}(it:Addr)(lo:Int)(n:Nat):Turn P w K tg (Itr lo n) [it] it (fun i h=>IsRangeIter h it (lo+(i:Nat)*1) ((n:Int)-(i:Nat)) 1) where
 mem:=by simp
 obj:=fun i h st b hb=>by
  have e:b=it:=by simpa using hb
  subst e
  exact⟨_,st,fun v z=>by
   have z':Data.fields _=Data.cell v:=z
   cases z'⟩
 keep:=fun i h h' st k=>k it (by simp) _ st
 item:=by
  intro X hP hw hK hc i pins s σ H E I hf st hg
  subst hP hw hK
  obtain⟨f0,f1,f2,f3,f4,f5⟩:=hf it (by simp)
  have W:=Walks.range (prog:=X.prog) (w:=X.w) (I.ok.hd hc) it lo 1 n
  refine W.item i s _ _ hg st fun v h' tk hv st' kk=>?_
  obtain⟨t,rfl⟩:=hv
  have I1:Inv X pins σ H { s with heap:=h',toks:=tk }:=I.turned (fun b o hb e=>kk b o (by simpa using hb) e) f0 f1 f3 f4 f5
  refine⟨_,rfl,uC (s:={ s with heap:=h',toks:=tk }) (n:="range_iterator") st' rfl rfl (by decide) ⟨.int (lo+i),H,I1,⟨t,?_⟩,⟨rfl,rfl⟩,st',fun b hb=>(hf b hb).1⟩⟩
  rw[Int.mul_one]
 done:=by
  intro X hP hw hK hc i pins s σ H E I hf st hg
  subst hP hw hK
  obtain⟨f0,f1,f2,f3,f4,f5⟩:=hf it (by simp)
  exact wpAny_pyNext_range_end (I.ok.hd hc) st (by have:n<=i:=hg;omega) fun h' eb=>⟨rfl,I.turned (t':=s.toks) (fun b o hb e=>eb b o hb e) f0 f1 f3 f4 f5⟩
 self:=fun _ _ _ _ _ st h=>wpAny_pyIter_rangeiter st h
section
variable{X:Cx}{tg:Expr}
theorem tO{pins:List (Addr×Obj)}{σ:St}{H:Hp}{s:D6}{R:It->Hp->Prop}{E:D4->D6->Prop}{lo hi:Int}{t u v:Tok}{tk:Nat}(I:Inv X pins σ H s)(h1:-(2^62)<=lo)(h2:lo<2^62)(h3:-(2^62)<=hi)(h4:hi<2^62)
 (q:R (Itr lo (hi-lo).toNat) H):E7 (Ef X.prog X.w) X.A (pyIter (.ref s.heap.objs.size)) (PIE X pins σ tg R) E { s with heap:=s.heap.push { cls:=.type "range",data:=.fields #[.int lo t,.int hi u,.int 1 v] },toks:=tk }:=by
 refine wpAny_pyIter_range (IsRange.new ..) (small_one h1 h2 h3 h4) ?_
 have I1:Inv X pins σ H { s with heap:=s.heap.push { cls:=.type "range",data:=.fields #[.int lo t,.int hi u,.int 1 v] },toks:=tk }:=I.kept fun b o e=>D9 _ e
 refine⟨(s.heap.push { cls:=.type "range",data:=.fields #[.int lo t,.int hi u,.int 1 v] }).objs.size,[(s.heap.push { cls:=.type "range",data:=.fields #[.int lo t,.int hi u,.int 1 v] }).objs.size],_,_,H,rfl,
  I1.kept (t':=tk) fun b o e=>D9 _ e,oM _ lo (hi-lo).toNat,?_,fun b hb=>?_,q⟩
 ·have e1:lo+((0:Nat):Int)*1=lo:=by simp
  have e2:(((hi-lo).toNat:Nat):Int)-((0:Nat):Int)=Builtin.Range.rangeSize lo hi 1:=by rw[rangeSize_one];split<;>omega
  show IsRangeIter _ _ (lo+((0:Nat):Int)*1) ((((hi-lo).toNat:Nat):Int)-((0:Nat):Int)) 1
  rw[e1,e2]
  exact E6 _ rfl
 ·have e:b=(s.heap.push { cls:=.type "range",data:=.fields #[.int lo t,.int hi u,.int 1 v] }).objs.size:=by simpa using hb
  subst e
  exact I1.n8 (E3 _) (I1.hok.fresh (E3 _))
def Cn(ta:TA):TI:=fun σ H R=>ta σ H fun vs H1=>∃j:Int,vs=[.int j]/\-(2^62)<=j/\j<2^62/\R (Itr 0 j.toNat) H1
theorem lU{a:Expr}{ta:TA}{p pos:Pos}(hg:Gl X "range")(hm:X.mg "range"=none)(ha:PA X [a] ta)(hs:Eb [a] X.env=[(false,eval a X.env)]:=by rfl):PI X tg (.Call (.Name "range" p) [a] [] pos) (Cn ta):=by
 intro pins s σ H R I h;refine Call_ (gX I hg hm boot_range (G9 (thn (ha pos pins s σ H _ I h) fun us s1 zz37_0=>?_) hs rfl));obtain⟨vs,H1,I1,r1,q1⟩:=zz37_0;obtain⟨j,e,q1,q2,q⟩:=q1;subst e;cases r1 with
 |cons r rr=>
  cases rr
  obtain⟨t,rfl⟩:=r
  exact call_range_1 (tO I1 (by omega) (by omega) q1 q2 (by simpa using q))
def D3(wi:TI)(g:TG)(tb:TS):TS:=fun D σ H=>wi σ H fun J H1=>∃W:Nat->Nat->St->Hp->Prop,(∃m,W 0 m σ H1)/\∀i m σ H,W i m σ H->
 (J.stop i H/\D.nx σ H)\/(J.go i H/\∃N:St->Hp->Prop,(∀σ' H',N σ' H'->∃m',m'<m/\W (i+1) m' σ' H')/\∀x H',J.yld i H x H'->g x σ H' fun σ2 H2=>tb { D with nx:=N,ct:=N,bk:=D.nx } σ2 H2)
def eZ(fp:List Addr)(h:Heap):List (Addr×Obj):=fp.filterMap fun b=>(h.get? b).map fun o=>(b,o)
theorem bC{fp:List Addr}{h:Heap}{b:Addr}{o:Obj}(hb:b∈fp)(e:h.get? b=some o):(b,o)∈eZ fp h:=List.mem_filterMap.mpr ⟨b,hb,by rw[e];rfl⟩
theorem sP{fp:List Addr}{h:Heap}{p:Addr×Obj}(hp:p∈eZ fp h):p.1∈fp/\h.get? p.1=some p.2:=by
 obtain⟨b,hb,e⟩:=List.mem_filterMap.mp hp;cases q:h.get? b with
 |none=>rw[q]at e;cases e
 |some o=>
  rw[q]at e
  have e':(b,o)=p:=Option.some.inj e
  subst e'
  exact⟨hb,q⟩
theorem Inv.pinned{pins:List (Addr×Obj)}{σ:St}{H:Hp}{s:D6}{fp:List Addr}(I:Inv X pins σ H s)(hf:∀b∈fp,cj X pins H b)(ho:∀b∈fp,∃o,s.heap.get? b=some o/\∀v,o.data≠.cell v):Inv X (pins++eZ fp s.heap) σ H s:=
 I.qy fun p hp=>(Ek.mp hp).elim (fun z=>I.pin p (Eh _ z)) fun z=>by
  obtain⟨hb,e⟩:=sP z
  obtain⟨f0,f1,f2,_⟩:=hf p.1 hb
  obtain⟨o,e',d⟩:=ho p.1 hb
  rw[e]at e';cases e'
  exact⟨e,f0,f1,f2,d⟩
theorem Inv.dg{pins pl:List (Addr×Obj)}{σ:St}{H:Hp}{s:D6}(I:Inv X (pins++pl) σ H s):Inv X pins σ H s:=I.qy fun p hp=>I.pin p (Eh _ (List.mem_append_left _ hp))
theorem wb{iter:Expr}{body:List Stmt}{wi:TI}{g:TG}{tb:TS}{pos:Pos}(hp:PassesOwn (Ef X.prog X.w) X.A X.env X.xe)(hc:X.calm=true)(hi:PI X tg iter wi)(hg:PG X tg g)(hb:PSs X body tb)
 (hs:∀x,Eu iter X.env x=pure x:=by intro _;rfl):PS X (.For tg iter body [] pos) (D3 wi g tb):=by
 intro pins s σ H D I h
 refine wpAny_For (thn (hi pins s σ H _ I h) fun v s1 h1=>thn h1 fun itv s2 h2=>?_) hs
 obtain⟨it,fp,tn,J,H2,e,I2,T,st2,f2,W,⟨m0,w0⟩,turn⟩:=h2
 subst e
 have stat:∀{H':Hp},(∀b∈fp,H' b=none)->∀b∈fp,cj X pins H' b:=fun hn b hb=>⟨hn b hb,(f2 b hb).2⟩
 refine codeAny_forLoop_any (fun n s'=>∃i σ' H',Inv X pins σ' H' s'/\tn i s'.heap/\(∀b∈fp,H' b=none)/\W i n σ' H') ?_ m0 ⟨0,σ,H2,I2,st2,fun b hb=>(f2 b hb).1,w0⟩
 rintro n s3 ⟨i,σ3,H3,I3,st3,fr3,w3⟩
 rcases turn i n σ3 H3 w3 with⟨stop,qn⟩|⟨go,N,hN,step⟩
 ·refine Gr hp (thn (T.done X rfl rfl rfl hc i pins s3 σ3 H3 X.xe I3 (stat fr3) st3 stop) fun r s4 zz38_0=>?_)
  obtain⟨hr,I4⟩:=zz38_0
  subst hr
  exact wpAny_execs_nil ⟨σ3,H3,I4,qn⟩
 ·refine Gr hp (thn (T.item X rfl rfl rfl hc i pins s3 σ3 H3 X.xe I3 (stat fr3) st3 go) fun r s4 zz39_0=>?_)
  obtain⟨u,hr,h4⟩:=zz39_0
  subst hr
  refine Gr hp (thn h4 fun _ s5 zz40_0=>?_)
  obtain⟨x,H5,I5,r5,y5,st5,fr5⟩:=zz40_0
  have I5':=I5.pinned (stat fr5) (T.obj _ _ st5)
  refine Gr hp (thn (hg _ s5 σ3 H5 x u _ I5' r5 (step x H5 y5)) fun _ s6 zz41_0=>?_)
  obtain⟨σ6,H6,I6,q6⟩:=zz41_0
  refine Gr hp (thn (hb _ s6 σ6 H6 _ I6 q6) fun f s7 q7=>?_)
  have again:∀{σ7:St} {H7:Hp},Inv X (pins++eZ fp s5.heap) σ7 H7 s7->N σ7 H7->∃m,m<n/\∃i σ' H',Inv X pins σ' H' s7/\tn i s7.heap/\(∀b∈fp,H' b=none)/\W i m σ' H':=fun{σ7 H7} I7 n7=>by
   obtain⟨m',hm,w7⟩:=hN σ7 H7 n7
   refine⟨m',hm,i+1,σ7,H7,I7.dg,T.keep _ _ _ st5 fun b hb o e=>(I7.pin (b,o) (Eh _ (Eh _ (bC hb e)))).1,fun b hb=>?_,w7⟩
   obtain⟨o,e,d⟩:=T.obj _ _ st5 b hb
   exact(I7.pin (b,o) (Eh _ (Eh _ (bC hb e)))).2.1
  cases f with
  |next=>obtain⟨σ7,H7,I7,n7⟩:=q7;exact again I7 n7
  |cont=>obtain⟨σ7,H7,I7,n7⟩:=q7;exact again I7 n7
  |brk=>obtain⟨σ7,H7,I7,q7⟩:=q7;exact⟨σ7,H7,I7.dg,q7⟩
  |ret v=>obtain⟨x7,σ7,H7,I7,r7,q7⟩:=q7;exact⟨x7,σ7,H7,I7.dg,r7,q7⟩
end
theorem sJ{lo:Int}{n:Nat}{g:TG}{tb:TS}{D:Ends}{σ:St}{H:Hp}(Pv:Nat->St->Hp->Prop)(h0:Pv 0 σ H)
 (hs:∀i σ H,i<n->Pv i σ H->g (.int (lo+i)) σ H fun σ2 H2=>tb { D with nx:=Pv (i+1),ct:=Pv (i+1),bk:=D.nx } σ2 H2) (hd:∀σ H,Pv n σ H->D.nx σ H) :
 ∃W:Nat->Nat->St->Hp->Prop,(∃m,W 0 m σ H)/\∀i m σ H,W i m σ H->
  ((Itr lo n).stop i H/\D.nx σ H)\/((Itr lo n).go i H/\∃N:St->Hp->Prop,(∀σ' H',N σ' H'->∃m',m'<m/\W (i+1) m' σ' H')/\∀x H',(Itr lo n).yld i H x H'->g x σ H' fun σ2 H2=>tb { D with nx:=N,ct:=N,bk:=D.nx } σ2 H2):=by
 refine⟨fun i m σ H=>m=n-i/\i<=n/\Pv i σ H,⟨n,by simp,EZ _,h0⟩,?_⟩
 rintro i m σ H ⟨rfl,hi,p⟩
 by_cases hlt:i<n
 ·refine .inr ⟨hlt,Pv (i+1),fun σ' H' p'=>⟨n-(i+1),by omega,rfl,hlt,p'⟩,fun x H' y=>?_⟩
  obtain⟨e,y⟩:=y
  subst e y
  exact hs i σ _ hlt p
 ·have e:i=n:=by omega
  subst e
  exact .inl ⟨E3 _,hd σ H p⟩
abbrev R2:=V->V->Hp->VK->Prop
def OpR(X:Cx)(f:D4->D4->Sem D4)(r:R2):Prop:=
 ∀(pins:List (Addr×Obj)) (s:D6) (σ:St) (H:Hp) (x y:V) (v u:D4) (Q:VK),Inv X pins σ H s->RelV x v->RelV y u->r x y H Q->
  E7 (Ef X.prog X.w) X.A (f v u) (EP X pins σ Q) X.xe s
def UnR(X:Cx)(f:D4->Sem D4)(r:V->Hp->VK->Prop):Prop:=
 ∀(pins:List (Addr×Obj)) (s:D6) (σ:St) (H:Hp) (x:V) (v:D4) (Q:VK),Inv X pins σ H s->RelV x v->r x H Q->
  E7 (Ef X.prog X.w) X.A (f v) (EP X pins σ Q) X.xe s
def bM(X:Cx)(f:D4)(r:List V->Hp->VK->Prop):Prop:=
 ∀(pins:List (Addr×Obj)) (s:D6) (σ:St) (H:Hp) (xs:List V) (us:List D4) (Q:VK),Inv X pins σ H s->Vals xs us->r xs H Q->
  E7 (Ef X.prog X.w) X.A (call f us) (EP X pins σ Q) X.xe s
def Dq(X:Cx)(r:V->Hp->(Bool->Hp->Prop)->Prop):Prop:=
 ∀(pins:List (Addr×Obj)) (s:D6) (σ:St) (H:Hp) (x:V) (v:D4) (Q:Bool->Hp->Prop),Inv X pins σ H s->RelV x v->r x H Q->
  E7 (Ef X.prog X.w) X.A (truthy v) (TP X pins σ Q) X.xe s
def tOp(r:R2)(ta tb:TE):TE:=fun σ H Q=>ta σ H fun x H1=>tb σ H1 fun y H2=>r x y H2 Q
def tUn(r:V->Hp->VK->Prop)(ta:TE):TE:=fun σ H Q=>ta σ H fun x H1=>r x H1 Q
def rI(C:Int->Int->Prop)(g:Int->Int->V):R2:=fun x y H Q=>∃i j,x=.int i/\y=.int j/\C i j/\Q (g i j) H
def rI0(g:Int->Int->V):R2:=fun x y H Q=>∃i j,x=.int i/\y=.int j/\Q (g i j) H
def rU(g:Int->V):V->Hp->VK->Prop:=fun x H Q=>∃i,x=.int i/\Q (g i) H
section
variable{X:Cx}{a b c:Expr}{ta tb tc:TE}{pos:Pos}
theorem zF(ha:PE X a ta)(hb:PE X b tb){pins:List (Addr×Obj)}{s:D6}{σ:St}{H:Hp}{R:V->V->Hp->Prop}(I:Inv X pins σ H s) (h:ta σ H fun x H1=>tb σ H1 fun y H2=>R x y H2) {Q:D4->D6->Prop} {f:D4->D4->Sem D4} (hf:∀v u s2 x y H2,Inv X pins σ H2 s2->RelV x v->RelV y u->R x y H2->E7 (Ef X.prog X.w) X.A (f v u) Q X.xe s2) : E7 (Ef X.prog X.w) X.A (eval a X.env) (fun v s₁=>E7 (Ef X.prog X.w) X.A (eval b X.env) (fun u s₂=>E7 (Ef X.prog X.w) X.A (f v u) Q X.xe s₂) X.xe s₁) X.xe s:=by refine thn (ha pins s σ H _ I h) fun v s1 zz43_0=>?_;obtain⟨x,H1,I1,r1,q1⟩:=zz43_0;refine thn (hb pins s1 σ H1 _ I1 q1) fun u s2 zz44_0=>?_;obtain⟨y,H2,I2,r2,q2⟩:=zz44_0;exact hf v u s2 x y H2 I2 r1 r2 q2
theorem CC{op:Operator}{r:R2}(ho:OpR X (FN op) r)(ha:PE X a ta)(hb:PE X b tb):PE X (.BinOp a op b pos) (tOp r ta tb):=by intro pins s σ H Q I h;exact wpAny_BinOp (zF ha hb I h fun v u s2 x y H2 I2 rx ry q=>ho pins s2 σ H2 x y v u Q I2 rx ry q)
theorem CI{op:UnaryOp}{r:V->Hp->VK->Prop}(ho:UnR X (unaryOp op) r)(ha:PE X a ta):PE X (.UnaryOp op a pos) (tUn r ta):=by intro pins s σ H Q I h;exact UnaryOp_ (thn (ha pins s σ H _ I h) fun v s1 zz45_0=>by obtain⟨x,H1,I1,r1,q1⟩:=zz45_0;exact(ho pins s1 σ H1 x v Q I1 r1 q1))
theorem opI{f:D4->D4->Sem D4}{C:Int->Int->Prop}{g:Int->Int->Int} (rule:∀(i j:Int) (t u:Tok) (s:D6) (Q:D4->D6->Prop) (E:D4->D6->Prop),C i j->Q (.int (g i j) s.toks) { s with toks:=s.toks+1 }->E7 (Ef X.prog X.w) X.A (f (.int i t) (.int j u)) Q E s) : OpR X f (rI C fun i j=>.int (g i j)):=by intro pins s σ H x y v u Q I rx ry h;obtain⟨i,j,rfl,rfl,hc,q⟩:=h;obtain⟨t,rfl⟩:=rx;obtain⟨t',rfl⟩:=ry;exact rule i j t t' s _ _ hc ⟨.int (g i j),H,I.tok _,⟨_,rfl⟩,q⟩
theorem zP{f:D4->D4->Sem D4}{g:Int->Int->Int} (rule:∀(i j:Int) (t u:Tok) (s:D6) (Q:D4->D6->Prop) (E:D4->D6->Prop),Q (.int (g i j) s.toks) { s with toks:=s.toks+1 }->E7 (Ef X.prog X.w) X.A (f (.int i t) (.int j u)) Q E s) : OpR X f (rI0 fun i j=>.int (g i j)):=by intro pins s σ H x y v u Q I rx ry h;obtain⟨i,j,rfl,rfl,q⟩:=h;obtain⟨t,rfl⟩:=rx;obtain⟨t',rfl⟩:=ry;exact rule i j t t' s _ _ ⟨.int (g i j),H,I.tok _,⟨_,rfl⟩,q⟩
theorem AA{f:D4->D4->Sem D4}{g:Int->Int->Bool} (rule:∀(i j:Int) (t u:Tok) (s:D6) (Q:D4->D6->Prop) (E:D4->D6->Prop),Q (.bool (g i j)) s->E7 (Ef X.prog X.w) X.A (f (.int i t) (.int j u)) Q E s) : OpR X f (rI0 fun i j=>.bl (g i j)):=by intro pins s σ H x y v u Q I rx ry h;obtain⟨i,j,rfl,rfl,q⟩:=h;obtain⟨t,rfl⟩:=rx;obtain⟨t',rfl⟩:=ry;exact rule i j t t' s _ _ ⟨.bl (g i j),H,I,rfl,q⟩
def CS(i j:Int):Prop:=0<=j/\j<=1000000/\i.natAbs<2^64
theorem za:OpR X (FN .Add) (rI0 fun i j=>.int (i+j)):=zP fun _ _ _ _ _ _ _ q=>add_int q
theorem zx:OpR X (FN .Sub) (rI0 fun i j=>.int (i-j)):=zP fun _ _ _ _ _ _ _ q=>sub_int q
theorem wF:OpR X (FN .Mod) (rI (fun _ j=>j≠0) fun i j=>.int (i.fmod j)):=opI fun _ _ _ _ _ _ _ hc q=>mod_int' hc q
theorem zk:OpR X (FN .Pow) (rI CS fun i j=>.int (i^j.toNat)):=opI fun _ _ _ _ _ _ _ hc q=>pow_int_small hc.1 hc.2.1 hc.2.2 q
theorem AB:OpR X (FN .BitXor) (rI0 fun i j=>.int (Builtin.bitXor i j)):=zP fun _ _ _ _ _ _ _ q=>xor_int q
theorem unI{f:D4->Sem D4}{g:Int->Int} (rule:∀(i:Int) (t:Tok) (s:D6) (Q:D4->D6->Prop) (E:D4->D6->Prop),Q (.int (g i) s.toks) { s with toks:=s.toks+1 }->E7 (Ef X.prog X.w) X.A (f (.int i t)) Q E s) : UnR X f (rU fun i=>.int (g i)):=by intro pins s σ H x v Q I rx h;obtain⟨i,rfl,q⟩:=h;obtain⟨t,rfl⟩:=rx;exact rule i t s _ _ ⟨.int (g i),H,I.tok _,⟨_,rfl⟩,q⟩
theorem AL:UnR X (unaryOp .USub) (rU fun i=>.int (-i)):=unI fun _ _ _ _ _ q=>neg_int q
end
section
variable{X:Cx}{a b c:Expr}{ta tb tc:TE}{pos:Pos}
theorem CZ:OpR X (EK .Lt) (rI0 fun i j=>.bl (decide (i<j))):=AA fun _ _ _ _ _ _ _ q=>lt_int q
theorem CQ:OpR X (EK .LtE) (rI0 fun i j=>.bl (decide (i<=j))):=AA fun _ _ _ _ _ _ _ q=>le_int q
theorem B4:OpR X (EK .Gt) (rI0 fun i j=>.bl (decide (j<i))):=AA fun _ _ _ _ _ _ _ q=>gt_int q
theorem OpR.or{f:D4->D4->Sem D4}{r r':R2}(h:OpR X f r)(h':OpR X f r'):OpR X f (fun x y H Q=>r x y H Q\/r' x y H Q):=by
 intro pins s σ H x y v u Q I rx ry q;rcases q with q|q
 ·exact h pins s σ H x y v u Q I rx ry q
 ·exact h' pins s σ H x y v u Q I rx ry q
theorem uc(b:Expr){op:CmpOp}(h:op≠.In:=by decide)(h2:op≠.NotIn:=by decide):GD op b=false:=by
 have e1:(op==CmpOp.In)=false:=by cases op<;>first|rfl|exact absurd rfl h
 have e2:(op==CmpOp.NotIn)=false:=by cases op<;>first|rfl|exact absurd rfl h2
 cases b<;>simp[GD,e1,e2]
theorem wC{op:CmpOp}{r:R2}(ho:OpR X (EK op) r)(ha:PE X a ta)(hb:PE X b tb)(hm:GD op b=false):PE X (.Compare a [op] [b] pos) (tOp r ta tb):=by intro pins s σ H Q I h;exact wpAny_Compare1 (zF ha hb I h fun v u s2 x y H2 I2 rx ry q=>ho pins s2 σ H2 x y v u Q I2 rx ry q) hm
def yo(t:TE):TT:=fun σ H Q=>t σ H fun x H'=>∃k,x=.bl k/\Q k H'
theorem xY{op:CmpOp}{r:R2}(ho:OpR X (EK op) r)(ha:PE X a ta)(hb:PE X b tb)(hm:GD op b=false):PT X (.Compare a [op] [b] pos) (yo (tOp r ta tb)):=by intro pins s σ H Q I h;refine wpAny_isTrue_Compare1 (thn (ha pins s σ H _ I h) fun v s1 ⟨x,H1,I1,r1,q1⟩=>thn (hb pins s1 σ H1 _ I1 q1) fun u s2 ⟨y,H2,I2,r2,q2⟩=>thn (ho pins s2 σ H2 x y v u _ I2 r1 r2 q2) fun c s3 ⟨z,H3,I3,r3,k,e,q3⟩=>?_) hm;subst e;cases r3;exact FI ⟨H3,I3,q3⟩
def CW(K:D5)(x:V)(H:Hp)(k:Bool):Prop:=
 match x with
 |.non=>k=false
 |.bl b=>k=b
 |.int i=>k=(i != 0)
 |.str y=>y.length<=Ea/\k=((y.length:Int) != 0)
 |.byt y=>y.size<=Ea/\k=((y.size:Int) != 0)
 |.ref p=>(∃xs,SqL K H p xs/\k=!xs.isEmpty)\/(∃xs,SqT K H p xs/\k=!xs.isEmpty)\/∃kvs,H p=some (.dK kvs)/\k=!kvs.isEmpty
 |_=>False
theorem pg{κ:Type}{kvs:List (κ×V)}{vs:List (κ×D4)}(r:KV kvs vs):(!vs.isEmpty)=!kvs.isEmpty:=by cases r<;>rfl
theorem j8{xs:List V}{its:List D4}(r:Vals xs its):(!its.toArray.isEmpty)=!xs.isEmpty:=by cases r<;>simp
theorem ia:(Ea:Nat)<2^63:=by rw[GN];decide
theorem Bl:Dq X (fun x H Q=>∃k,CW X.K x H k/\Q k H):=by
 intro pins s σ H x v Q I rx h;obtain⟨k,e,q⟩:=h;have hl:=ia;have hs:Ea=16777216:=GN;cases x with
 |non=>
  cases rx
  have e':k=false:=e
  subst e'
  exact truthy_none ⟨H,I,q⟩
 |bl b=>
  cases rx
  have e':k=b:=e
  subst e'
  exact FI ⟨H,I,q⟩
 |int i=>
  obtain⟨t,rfl⟩:=rx
  have e':k=(i != 0):=e
  subst e'
  exact PySem.P.truthy_int ⟨H,I,q⟩
 |str y=>
  obtain⟨t,rfl⟩:=rx
  obtain⟨hy,e'⟩:y.length<=Ea/\k=((y.length:Int) != 0):=e
  subst e'
  exact PySem.P.truthy_str (by omega) ⟨H,I.tok _,q⟩
 |byt y=>
  obtain⟨t,rfl⟩:=rx
  obtain⟨hy,e'⟩:y.size<=Ea/\k=((y.size:Int) != 0):=e
  subst e'
  exact PySem.W.truthy_bytes (by omega) ⟨H,I.tok _,q⟩
 |ref p=>
  cases rx
  have e':(∃xs,SqL X.K H p xs/\k=!xs.isEmpty)\/(∃xs,SqT X.K H p xs/\k=!xs.isEmpty)\/∃kvs,H p=some (.dK kvs)/\k=!kvs.isEmpty:=e
  rcases e' with⟨xs,hx,e'⟩|⟨xs,hx,e'⟩|⟨kvs,hx,e'⟩
  ·subst e';obtain⟨its,r,pl,hz⟩:=I.list hx;have hlen:=r.length;exact wpAny_truthy_list pl.isList (by simp only[Ec];omega) ⟨H,I.tok _,by rw[j8 r];exact q⟩
  ·subst e';obtain⟨its,r,pl,hz⟩:=I.tuple hx;have hlen:=r.length;exact truthy_tuple pl (by simp only[Ec];omega) ⟨H,I.tok _,by rw[j8 r];exact q⟩
  ·subst e';obtain⟨hz,hS,vs,r,m⟩:kvs.length<=Ea/\(p==Fp)=false/\∃vs,KV kvs vs/\s.heap.DictOf (bO X.prog X.w) p vs:=I.hok p _ hx;have hlen:kvs.length=vs.length:=Paired.length r;exact wpAny_truthy_dict hS m (by omega) ⟨H,I.tok _,by rw[pg r];exact q⟩
 |_=>exact(show False from e).elim
theorem tL(ha:PE X a ta)(he:∀whole,isTrue a X.env whole=(do let v <-whole;standAt a.pos;holding [v] (truthy v))) :
 PT X a (fun σ H Q=>ta σ H fun x H'=>∃k,CW X.K x H' k/\Q k H'):=by
 intro pins s σ H Q I h
 exact isTrue_plain (thn (ha pins s σ H _ I h) fun v s1 zz48_0=>by obtain⟨x,H1,I1,r1,q1⟩:=zz48_0;exact(Bl pins s1 σ H1 x v Q I1 r1 q1)) (he _)
theorem vals1{x:V}{us:List D4}(r:Vals [x] us):∃u,us=[u]/\RelV x u:=by
 cases r with
 |cons r1 r2=>cases r2;exact⟨_,rfl,r1⟩
theorem vals2{x y:V}{us:List D4}(r:Vals [x,y] us):∃u w',us=[u,w']/\RelV x u/\RelV y w':=by
 cases r with
 |cons r1 r2=>
  cases r2 with
  |cons r3 r4=>cases r4;exact⟨_,_,rfl,r1,r3⟩
theorem t9:bM X (.builtin "abs") (fun xs H Q=>∃i,xs=[.int i]/\Q (.int (if i<0 then -i else i)) H):=by intro pins s σ H xs us Q I r h;obtain⟨i,rfl,q⟩:=h;obtain⟨u,rfl,t,rfl⟩:=vals1 r;exact call_abs_int fun u tk=>⟨.int (if i<0 then -i else i),H,I.tok _,⟨_,rfl⟩,q⟩
theorem so(hc:X.calm=true):bM X (.builtin "max") (fun xs H Q=>∃i j,xs=[.int i,.int j]/\Q (.int (if j>i then j else i)) H):=by
 intro pins s σ H xs us Q I r h;obtain⟨i,j,rfl,q⟩:=h;obtain⟨u,w',rfl,⟨t,rfl⟩,⟨t',rfl⟩⟩:=vals2 r;refine max_two_ints (I.ok.hd hc) fun h' tk k=>⟨_,H,I.kept k,?_,q⟩;by_cases hj:j>i
 ·rw[if_pos hj,if_pos hj];exact⟨_,rfl⟩
 ·rw[if_neg hj,if_neg hj];exact⟨_,rfl⟩
theorem rW(hc:X.calm=true):bM X (.builtin "min") (fun xs H Q=>∃i j,xs=[.int i,.int j]/\Q (.int (if j<i then j else i)) H):=by
 intro pins s σ H xs us Q I r h;obtain⟨i,j,rfl,q⟩:=h;obtain⟨u,w',rfl,⟨t,rfl⟩,⟨t',rfl⟩⟩:=vals2 r;refine min_two_ints (I.ok.hd hc) fun h' tk k=>⟨_,H,I.kept k,?_,q⟩;by_cases hj:j<i
 ·rw[if_pos hj,if_pos hj];exact⟨_,rfl⟩
 ·rw[if_neg hj,if_neg hj];exact⟨_,rfl⟩
theorem rO:bM X (.type "int") (fun xs H Q=>(∃i,xs=[.int i]/\Q (.int i) H)\/∃k,xs=[.bl k]/\Q (.int (if k then 1 else 0)) H):=by
 intro pins s σ H xs us Q I r h;rcases h with⟨i,rfl,q⟩|⟨k,rfl,q⟩
 ·obtain⟨u,rfl,t,rfl⟩:=vals1 r;exact call_int_int ⟨.int i,H,I,⟨_,rfl⟩,q⟩
 ·obtain⟨u,rfl,r1⟩:=vals1 r;cases r1;exact call_int_bool ⟨.int (if k then 1 else 0),H,I.tok _,⟨_,rfl⟩,q⟩
end
section
variable{prog:Ee}{w:EB}{A:EE}{E:D4->D6->Prop}{s:D6}{K:D5}{x dx C f:Addr}{mA:Str->Option D4}{name:Str}{v:D4}
end
section
variable{P:Ee}{w:EB}{H H':Hp}{h h':Heap}{a C dx:Addr}{fs fs':List (Str×V)}
end
section
variable{X:Cx}{pins:List (Addr×Obj)}{σ:St}{H:Hp}{s:D6}{a C dx:Addr}{fs:List (Str×V)}{f:Str}{v:V}{A:EE}{E:D4->D6->Prop}
end
section
variable{X:Cx}{o e value:Expr}{f:Str}{pos pos' tpos:Pos}{ta tv:TE}
end
section
variable{X:Cx}{pins:List (Addr×Obj)}{σ:St}{H:Hp}{s:D6}{A:EE}{E:D4->D6->Prop}{Q:D4->D6->Prop}{c:D4}{b:Bool}
end
structure Room(k:Nat)(A:EE):Prop where
 hd:A.handled=none
 dp:A.depth+3*k+5<recursionLimit
 un:A.units+16*k+200<F0
 gd:A.guards=some []
theorem Room.mono{j k:Nat}{A:EE}(r:Room k A)(h:j<=k):Room j A:=⟨r.hd,by have:=r.dp;omega,by have:=r.un;omega,r.gd⟩
theorem Room.deeper{k:Nat}{A:EE}(r:Room (k+1) A)(env:Env):Room k (A.deeper env):=⟨r.hd,by have:=r.dp;show A.depth+1+3*k+5<_;omega,by have:=r.un;show A.units+3+16*k+200<_;omega,r.gd⟩
theorem Room.depth{k:Nat}{A:EE}(r:Room k A):A.depth<recursionLimit:=by have:=r.dp;omega
theorem Room.units{k:Nat}{A:EE}(r:Room k A):A.units+64<F0:=by have:=r.un;omega
def DD:TA:=fun _ H Q=>Q [] H
def Ci(ta:TE)(tr:TA):TA:=fun σ H Q=>ta σ H fun x H1=>tr σ H1 fun xs H2=>Q (x::xs) H2
section
variable{X:Cx}{e:Expr}{es:List Expr}{te:TE}{t:TA}{pos:Pos}
theorem zt:PA X [] DD:=fun _ _ _ _ H Q I h=>Calls.spliced_nil ⟨[],H,I,.nil,h⟩
theorem xn(ha:PE X e te)(hr:PA X es t)(hs:Eb (e::es) X.env=(false,eval e X.env)::Eb es X.env:=by rfl):PA X (e::es) (Ci te t):=by intro pos pins s σ H Q I h;rw[hs];show E7 _ _ (spliced ((false,eval e X.env)::Fn pos (Eb es X.env))) _ _ s;refine Calls.spliced_cons (thn (ha pins s σ H _ I h) fun u s1 zz55_0=>?_);obtain⟨x,H1,I1,r1,q1⟩:=zz55_0;exact thn (hr pos pins s1 σ H1 _ I1 q1) fun us s2 zz56_0=>by obtain⟨xs,H2,I2,r2,q2⟩:=zz56_0;exact(⟨x::xs,H2,I2,.cons r1 r2,q2⟩)
def DR(t:TA):TE:=fun σ H Q=>t σ H fun xs H1=>xs.length<=Ea/\∀p,H1 p=none->Q (.ref p) (upd H1 p (.tup xs))
def Dz(t:TA):TE:=fun σ H Q=>t σ H fun xs H1=>xs.length<=Ea/\∀p,H1 p=none->Q (.ref p) (upd H1 p (.lst xs))
theorem A8{x1}(h:PA X es t):PE X (.Tuple es x1 pos) (DR t):=by intro pins s σ H Q I hq;refine wpAny_Tuple_spliced (thn (h pos pins s σ H _ I hq) fun us s1 ⟨xs,H1,I1,r,z,q⟩=>⟨by rw[<-r.length];exact z,?_⟩);have hf:H1 s1.heap.objs.size=none:=I1.hok.fresh (E3 _);refine⟨.ref s1.heap.objs.size,upd H1 s1.heap.objs.size (.tup xs),I1.laid (t':=s1.toks) (fun b u e=>D9 _ e) (E3 _) ?_,rfl,q _ hf⟩;exact⟨z,us,r,⟨_,E6 _ rfl,rfl,_,rfl⟩,⟨_,E6 _ rfl,rfl⟩⟩
theorem zH(h:PA X es t):PE X (.List es pos) (Dz t):=by intro pins s σ H Q I hq;refine wpAny_List_spliced (thn (h pos pins s σ H _ I hq) fun us s1 ⟨xs,H1,I1,r,z,q⟩=>⟨by rw[<-r.length];exact z,?_⟩);have hf:H1 s1.heap.objs.size=none:=I1.hok.fresh (E3 _);refine⟨.ref s1.heap.objs.size,upd H1 s1.heap.objs.size (.lst xs),I1.laid (t':=s1.toks) (fun b u e=>D9 _ e) (E3 _) ?_,rfl,q _ hf⟩;exact⟨z,us,0,r,E6 _ rfl⟩
end
abbrev Sp:=List V->Hp->VK->XK->Prop
abbrev CXT:=List Env->Hp->D6->XK->D4->D6->Prop
structure Env0(P:Ee)(w:EB)(K:D5)(mg:Str->Option D4)(base:Heap)(A:EE)(outer:List Env)(s:D6)(H:Hp):Prop where
 frames:A.frames=some outer
 mod:Mod K mg base
 bs:∀b o,base.get? b=some o->s.heap.get? b=some o/\H b=none
 bsz:base.objs.size<=s.heap.objs.size
 kn:s.heap.FunFrames base outer
 frf:∀b∈frs outer,H b=none
 hok:HOk P w H s.heap
 bare:AllBare s.gens
def CE(outer:List Env)(P:Ee)(w:EB)(H:Hp)(s:D6)(Q:VK)(u:D4)(s':D6):Prop:=
 ∃v H',s'.os=s.os/\AllBare s'.gens/\Un (frs outer) [] H H' s.heap s'.heap/\HOk P w H' s'.heap/\RelV v u/\Q v H'
def CR(CX:CXT)(outer:List Env)(P:Ee)(w:EB)(H:Hp)(s:D6)(Q:VK)(E:XK)(r:Result)(s':D6):Prop:=
 match r with
 |.ok (.ret u)=>CE outer P w H s Q u s'
 |.ok _=>False
 |.error e=>CX outer H s E e s'
structure FnOk(P:Ee)(w:EB)(K:D5)(mg:Str->Option D4)(base:Heap)(CX:CXT)(k:Nat)(f:Addr)(fd:Gw)(ps:List Str)(sp:Sp):Prop where
 len:∀vs H Q E,sp vs H Q E->vs.length=ps.length
 run:∀(A:EE) (outer:List Env) (s:D6) (H:Hp) (args:Args) (us:List D4) (vs:List V) (Q:VK) (E:XK),Room k A->Env0 P w K mg base A outer s H->BindsTo s fd args (ps.zip us)->Vals vs us->sp vs H Q E->
  FX (Ef P w) A (.call (.ref f) args) (CR CX outer P w H s Q E) s
theorem FnOk.mono{P:Ee}{w:EB}{K:D5}{mg:Str->Option D4}{base:Heap}{CX:CXT}{j k:Nat}{f:Addr}{fd:Gw}{ps:List Str}{sp:Sp}(F:FnOk P w K mg base CX j f fd ps sp)(h:j<=k) : FnOk P w K mg base CX k f fd ps sp:=⟨F.len,fun A outer s H args us vs Q E hr=>F.run A outer s H args us vs Q E (hr.mono h)⟩
section
variable{X:Cx}{pins:List (Addr×Obj)}{σ:St}{H:Hp}{s s':D6}
theorem Inv.Dc(I:Inv X pins σ H s):Env0 X.prog X.w X.K X.mg X.base X.A X.stack s H:=⟨I.ok.frames,I.ok.mod,I.bs,ER I.ok.bsz I.sz,I.stack,I.rq,I.hok,I.bare⟩
theorem Inv.after{Q:VK}{u:D4}(I:Inv X pins σ H s)(h:CE X.stack X.prog X.w H s Q u s'):EP X pins σ Q u s':=by obtain⟨v,H',os,bare,un,hok,r,q⟩:=h;obtain⟨hh,g,d,t,os'⟩:=s';obtain rfl:os'=s.os:=os;exact⟨v,H',I.call (h':=hh) (g':=g) (d':=d) (t':=t) (ch:=[]) un hok bare (fun b z=>absurd z (by simp)),r,q⟩
end
def CM(sp:Sp)(dvs:List V)(E:XK)(t:TA):TE:=fun σ H Q=>t σ H fun vs H1=>sp (vs++dvs) H1 Q E
def Binds(K:D5)(fd:Gw)(ps:List Str)(ds:List D4):Prop:=
 ∀(s:D6) (us:List D4),K.In s.heap->(us++ds).length=ps.length->BindsTo s fd ⟨us,[]⟩ (ps.zip (us++ds))
theorem Binds.all{K:D5}{fd:Gw}{ps:List Str}(h:∀us:List D4,us.length=ps.length->bindArgs fd ⟨us,[]⟩=pure (ps.zip us)):Binds K fd ps []:=fun s us _ hl=>by rw[EV]at hl ⊢;exact .of_eq (h us hl)
def Passes(CX:CXT)(X:Cx)(E:XK):Prop:=∀(pins:List (Addr×Obj)) (σ:St) (H:Hp) (s:D6) (e:D4) (s':D6),Inv X pins σ H s->CX X.stack H s E e s'->X.xe e s'
section
variable{X:Cx}{CX:CXT}{k:Nat}{f C:Addr}{fd:Gw}{ps:List Str}{sp:Sp}{dvs:List V}{ds:List D4}{E:XK}{x m:Str}{p pos apos:Pos}{e o:Expr}{es:List Expr}{ta:TE}{t:TA}
theorem zS{pins:List (Addr×Obj)}{σ:St}{H:Hp}{s:D6}{Q:VK}{us:List D4}{vs:List V}(F:FnOk X.prog X.w X.K X.mg X.base CX k f fd ps sp)(hr:Room k X.A)(hb:Binds X.K fd ps ds)(hd:Vals dvs ds)(hx:Passes CX X E)
 (I:Inv X pins σ H s) (r:Vals vs us) (h:sp (vs++dvs) H Q E):E7 (Ef X.prog X.w) X.A (call (.ref f) us) (EP X pins σ Q) X.xe s:=by
 have r2:Vals (vs++dvs) (us++ds):=r.append hd
 have hl:(us++ds).length=ps.length:=by rw[<-r2.length];exact F.len _ _ _ _ h
 refine wpAny_call (codeAny_mono (F.run X.A X.stack s H ⟨us,[]⟩ (us++ds) (vs++dvs) Q E hr I.Dc (hb s us I.kIn hl) r2 h) fun r s' hq=>?_)
 cases r with
 |error e=>exact hx pins σ H s e s' I hq
 |ok fl=>
  cases fl with
  |ret u=>exact I.after hq
  |next=>exact GO hq
  |brk=>exact GO hq
  |cont=>exact GO hq
theorem wB(F:FnOk X.prog X.w X.K X.mg X.base CX k f fd ps sp)(hr:Room k X.A)(hg:Gl X x)(hm:X.mg x=some (.ref f))(hk:PySem.W.keepIn X.K (.ref f)=true)(hb:Binds X.K fd ps ds)(hd:Vals dvs ds)(hx:Passes CX X E) (ha:PA X (e::es) t) (hdb:(x==("__debug__":Str))=false:=by decide) (he:Eb (e::es) X.env=(false,eval e X.env)::Eb es X.env:=by rfl) (hpl:(Fn pos (Eb es X.env)).any (·.1)=false:=by rfl) : PE X (.Call (.Name x p) (e::es) [] pos) (CM sp dvs E t):=by intro pins s σ H Q I h;refine wpAny_Call_Name_kw (xS I hg hm ?_ hdb);refine PySem.W.callWith_K (h₀:=X.base) I.ok.mod.kin hk (thn (ha pos pins s σ H _ I h) fun us s1 ⟨vs,H1,I1,r,q⟩=>⟨I1.kIn,?_⟩) he hpl;exact zS F hr hb hd hx I1 r q
end
section
variable{X:Cx}{CX:CXT}{k:Nat}{f C:Addr}{fd:Gw}{ps ks:List Str}{sp:Sp}{E:XK}{x m:Str}{p pos apos kpos:Pos}{e o:Expr}{es:List Expr}{kws:List Gp}{te ta:TE}{t tk:TA}{nm:Option Str}
variable{g:List D4->List D4->List D4}{gV:List V->List V->List V}
end
structure FnScope(N P:List Str)(sc:G5):Prop where
 kind:sc.kind=.function
 co:sc.isCoroutine=false
 gen:sc.isGenerator=false
 nd:N.Nodup
 pre:N.take P.length=P
 par:∀x∈P,sc.names.lookup x=some .local\/sc.names.lookup x=some .cell
 nofree:∀y∈sc.names,y.2≠.free
theorem lM{kindOf:Str->Option G6}{x:Str}:∀{binds:List (Str×D4)} {m:Str->Option D4},(∀v,(x,v)∉binds)->bindL kindOf binds m x=m x
 |[],_,_=>rfl
 |(n,v)::r,m,h=>by
  unfold bindL
  rw[lM fun w hw=>h w (Fq _ hw)]
  split
  ·have:x≠n:=by rintro rfl;exact h v List.mem_cons_self
   simp[this]
  ·rfl
theorem lF{kindOf:Str->Option G6}{x:Str}:∀{binds:List (Str×D4)} {m:Str->Option D4},(∀v,(x,v)∉binds)->bindC kindOf binds m x=m x
 |[],_,_=>rfl
 |(n,v)::r,m,h=>by
  unfold bindC
  rw[lF fun w hw=>h w (Fq _ hw)]
  split
  ·rfl
  ·have:x≠n:=by rintro rfl;exact h v List.mem_cons_self
   simp[this]
theorem lE{kindOf:Str->Option G6}{x:Str}{v:D4}:∀{P:List Str} {vs:List D4} {i:Nat} {m:Str->Option D4},P.Nodup->P[i]?=some x->vs[i]?=some v->kindOf x=some .local->
 bindL kindOf (P.zip vs) m x=some v
 |[],_,_,_,_,h,_,_=>by simp at h
 |_::_,[],_,_,_,_,h,_=>by simp at h
 |p::P,w::vs,0,m,nd,h1,h2,hk=>by
  simp at h1 h2;subst h1;subst h2
  show bindL kindOf ((p,w)::P.zip vs) m p=_
  unfold bindL
  rw[lM fun v hv=>(List.nodup_cons.mp nd).1 (List.of_mem_zip hv).1,if_pos hk]
  simp
 |p::P,w::vs,i+1,m,nd,h1,h2,hk=>by
  show bindL kindOf ((p,w)::P.zip vs) m x=_
  unfold bindL
  exact lE (i:=i) (List.nodup_cons.mp nd).2 (by simpa using h1) (by simpa using h2) hk
theorem lH{kindOf:Str->Option G6}{x:Str}{v:D4}:∀{P:List Str} {vs:List D4} {i:Nat} {m:Str->Option D4},P.Nodup->P[i]?=some x->vs[i]?=some v->kindOf x≠some .local->
 bindC kindOf (P.zip vs) m x=some v
 |[],_,_,_,_,h,_,_=>by simp at h
 |_::_,[],_,_,_,_,h,_=>by simp at h
 |p::P,w::vs,0,m,nd,h1,h2,hk=>by
  simp at h1 h2;subst h1;subst h2
  show bindC kindOf ((p,w)::P.zip vs) m p=_
  unfold bindC
  rw[lF fun v hv=>(List.nodup_cons.mp nd).1 (List.of_mem_zip hv).1,if_neg hk]
  simp
 |p::P,w::vs,i+1,m,nd,h1,h2,hk=>by
  show bindC kindOf ((p,w)::P.zip vs) m x=_
  unfold bindC
  exact lH (i:=i) (List.nodup_cons.mp nd).2 (by simpa using h1) (by simpa using h2) hk
def start(N:List Str)(vs:List V):St:=vs.map some++Er (N.length-vs.length) none
def gR(CX:CXT)(P:Ee)(w:EB)(K:D5)(mg:Str->Option D4)(base:Heap)(N:List Str)(qual:Str)(scope:G5)(f:Addr)(cd:D4)(A:EE)(outer:List Env)(s:D6)(H:Hp)(E:XK):Cx where
 prog:=P
 w:=w
 K:=K
 mg:=mg
 base:=base
 A:=A.deeper (envOfC qual scope s.heap.objs.size f cd)
 N:=N
 s₀:=s
 H₀:=H
 env:=envOfC qual scope s.heap.objs.size f cd
 outer:=outer
 stack:=envOfC qual scope s.heap.objs.size f cd::outer
 ex:=[]
 calm:=true
 fn:=fun _=>true
 pn:=[]
 xe:=fun e s'=>E7 (Ef P w) (A.deeper (envOfC qual scope s.heap.objs.size f cd)) (leaving (envOfC qual scope s.heap.objs.size f cd) e) (fun _ s''=>CX outer H s E e s'') (fun e' s''=>CX outer H s E e' s'') s'
theorem kJ{sc:G5}{n:Nat}{x:Str}(h:sc.names.lookup x=some .cell):∃c,(FG n sc.names []).lookup x=some c:=by have q:=PySem.W.cellsFrom_some sc.names n [] (.inl h);exact Option.isSome_iff_exists.mp q
theorem sX{CX:CXT}{P:Ee}{w:EB}{K:D5}{mg:Str->Option D4}{base:Heap}{N ps:List Str}{qual:Str}{scope:G5}{f:Addr}{cd:D4}{A:EE}{outer:List Env}{s s1:D6}{H:Hp}{E:XK}{us:List D4}{vs:List V}
 (S:FnScope N ps scope) (hd:A.handled=none) (e0:Env0 P w K mg base A outer s H) (hl:vs.length=ps.length) (r:Vals vs us)
 (x:InCallC s s.heap.objs.size (bindL (envOfC qual scope s.heap.objs.size f cd).kindOf (ps.zip us) fun _=>none) (FG (s.heap.objs.size+1) scope.names []) (bindC (envOfC qual scope s.heap.objs.size f cd).kindOf (ps.zip us) fun _=>none) s1) :
 Inv (gR CX P w K mg base N qual scope f cd A outer s H E) [] (start N vs) H s1:=by
 have hpl:ps.length<=N.length:=by have:=congrArg List.length S.pre;rw[Fu]at this;omega
 obtain⟨h1,tk,rfl,hk⟩:=x.done
 have noA:∀b:Addr,b∉(gR CX P w K mg base N qual scope f cd A outer s H E).ex:=fun b z=>absurd (show b∈([]:List Addr)from z) (by simp)
 refine⟨⟨e0.mod,S.kind,rfl,rfl,E3 _,fun y z c h1 h2=>?_,fun y hy=>?_,fun y c _ h=>?_,fun _=>hd,Around.frames_deeper e0.frames,.inr ⟨rfl,rfl⟩,fun b z=>absurd z (noA b),e0.bs,e0.bsz,fun b _ _=>noA b,fun b z=>absurd z (noA b),e0.kn,e0.frf⟩,
  rfl,e0.bare,Un.kept hk,⟨_,x.toInCall.ns,fun i y v h1 h2 h3=>?_⟩,fun y c h=>⟨_,x.cell y c h⟩,e0.hok.fresh (E3 _),fun y c h=>?_,fun p hp=>absurd (show p∈([]:List (Addr×Obj))from hp) (by simp),e0.hok.kept hk,?_⟩
 ·exact name_of_addr x.apart (EL h1) (EL h2)
 ·have hy:scope.names.lookup y=some .cell\/scope.names.lookup y=some .free:=hy
  rcases hy with hy|hy
  ·exact kJ hy
  ·exact absurd rfl (S.nofree _ (EL hy))
 ·exact Nat.le_of_lt (x.above y c (EL h))
 ·have hi:i<vs.length:=by
   unfold start at h2
   by_cases hi:i<vs.length
   ·exact hi
   ·rw[ES (by simpa using hi)]at h2
    rw[List.getElem?_replicate]at h2
    split at h2<;>cases h2
  have ha:vs[i]?=some v:=by
   unfold start at h2
   rw[EW (by simpa using hi),E4]at h2
   cases e:vs[i]? with
   |none=>rw[e]at h2;cases h2
   |some a=>rw[e]at h2;cases h2;rfl
  obtain⟨u,hu,rv⟩:=r.get ha
  have hp:ps[i]?=some y:=by
   rw[<-S.pre,List.getElem?_take_of_lt (by omega)];exact h1
  have ndP:ps.Nodup:=by rw[<-S.pre];exact S.nd.sublist (List.take_sublist _ _)
  refine⟨u,rv,?_⟩
  rcases S.par y (Ej hp)with k|k
  ·exact .inl ⟨k,lE ndP hp hu k⟩
  ·obtain⟨c,e⟩:=kJ (n:=s.heap.objs.size+1) k
   refine .inr ⟨.inl k,c,e,?_⟩
   have q:=x.cell y c e
   rw[lH ndP hp hu (by show scope.names.lookup y≠_;rw[k];decide)]at q
   exact q
 ·exact e0.hok.fresh (Nat.le_of_lt (x.above y c (EL h)))
 ·unfold start
  show _=N.length
  rw[Ff,D8,List.length_replicate]
  omega
theorem C0{CX:CXT}{P:Ee}{w:EB}{K:D5}{mg:Str->Option D4}{base:Heap}{k:Nat}{f:Addr}{name qual:Str}{params:Arguments}{body:List Stmt}{scope:G5}{dV kV doc pm cdv ct oc:D4}{an od:Option Addr}
 {osl:Array (Option D4)} {N ps:List Str} {sp:Sp} (lk:K.lookup f=some ⟨oc,od,.func (FC name qual params body scope dV kV doc pm an cdv ct),osl⟩) (hcd:PySem.W.codeIn K cdv qual=true) (S:FnScope N ps scope)
 (len:∀vs H Q E,sp vs H Q E->vs.length=ps.length)
 (hbody:∀(A:EE) (outer:List Env) (s:D6) (H:Hp) (vs:List V) (Q:VK) (E:XK),Room k (A.deeper (envOfC qual scope s.heap.objs.size f cdv))->sp vs H Q E->
  ∃t,PSs (gR CX P w K mg base N qual scope f cdv A outer s H E) body t/\t { nx:=fun _ H'=>Q .non H',rt:=Q } (start N vs) H) :
 FnOk P w K mg base CX (k+1) f (FC name qual params body scope dV kV doc pm an cdv ct) ps sp:=by
 refine⟨len,fun A outer s H args us vs Q E hr e0 hb r hsp=>?_⟩
 have hl:=len _ _ _ _ hsp
 have KX:K.In s.heap:=e0.mod.kin.keeps fun b o e=>(e0.bs b o e).1
 have lim:s.heap.NoLimit:=e0.mod.nolimit.keeps fun b o e=>(e0.bs b o e).1
 have hkind:∀y∈ps.zip us,scope.names.lookup y.1=some .local\/(scope.names.lookup y.1=some .cell/\((FG (s.heap.objs.size+1) scope.names []).lookup y.1).isSome=true):=fun zz62_0 hy=>by
  obtain⟨n,v⟩:=zz62_0
  rcases S.par n (List.of_mem_zip hy).1 with q|q
  ·exact .inl q
  ·exact .inr ⟨q,PySem.W.cellsFrom_some _ _ _ (.inl q)⟩
 refine codeAny_call_function hr.depth (KX _ _ lk) rfl S.co S.gen rfl (PySem.W.codeRec_of KX hcd) (hb _ _ _ _ ?_)
 refine wpAny_newFunctionEnv_cells S.kind hkind fun env he s1 x=>?_
 subst he
 refine⟨lim.keeps x.toInCall.keep,codeAny_func ?_⟩
 obtain⟨t,ht,hq⟩:=hbody A outer s H vs Q E (hr.deeper _) hsp
 have I:Inv (gR CX P w K mg base N qual scope f cdv A outer s H E) [] (start N vs) H s1:=sX S hr.hd e0 hl r x
 refine Ed (ht [] s1 (start N vs) H _ I hq) (fun fl s' hs=>?_) fun e s' hs=>hs
 have fin:∀{σ':St} {H':Hp} {v:V} {u:D4},Inv (gR CX P w K mg base N qual scope f cdv A outer s H E) [] σ' H' s'->RelV v u->Q v H'->CE outer P w H s Q u s':=
  fun{σ' H' v u} J rv q=>⟨v,H',J.os,J.bare,J.base,J.hok,rv,q⟩
 cases fl with
 |ret u=>
  obtain⟨v,σ',H',J,rv,q⟩:=hs
  exact fin J rv q
 |next=>
  obtain⟨σ',H',J,q⟩:=hs
  exact fin (v:=V.non) (u:=GC) J rfl q
 |brk=>
  obtain⟨_,_,_,q⟩:=hs
  exact GO q
 |cont=>
  obtain⟨_,_,_,q⟩:=hs
  exact GO q
section
variable{X:Cx}{x:Str}{p pos:Pos}{e:Expr}{es:List Expr}{t:TA}{id T:String}{r:List V->Hp->VK->Prop}
def tCB(r:List V->Hp->VK->Prop)(t:TA):TE:=fun σ H Q=>t σ H fun vs H1=>r vs H1 Q
theorem tI(hc:bM X (.builtin id) r)(hg:Gl X x)(hm:X.mg x=none)(hv:F7 x=some (.builtin id))(ha:PA X (e::es) t)(hn:x≠"__name__":=by decide)(hdb:(x==("__debug__":Str))=false:=by decide) (he:Eb (e::es) X.env=(false,eval e X.env)::Eb es X.env:=by rfl) (hpl:(Fn pos (Eb es X.env)).any (·.1)=false:=by rfl):PE X (.Call (.Name x p) (e::es) [] pos) (tCB r t):=by intro pins s σ H Q I h;refine wpAny_Call_Name_kw (gX I hg hm hv ?_ hn hdb);exact PyProof.Rows.callWith_builtin1 (thn (ha pos pins s σ H _ I h) fun us s1 zz63_0=>by obtain⟨vs,H1,I1,r1,q1⟩:=zz63_0;exact(hc pins s1 σ H1 vs us Q I1 r1 q1)) he hpl
theorem tm(hc:bM X (.type T) r)(hg:Gl X x)(hm:X.mg x=none)(hv:F7 x=some (.type T))(ha:PA X (e::es) t)(hn:x≠"__name__":=by decide)(hdb:(x==("__debug__":Str))=false:=by decide) (he:Eb (e::es) X.env=(false,eval e X.env)::Eb es X.env:=by rfl) (hpl:(Fn pos (Eb es X.env)).any (·.1)=false:=by rfl):PE X (.Call (.Name x p) (e::es) [] pos) (tCB r t):=by intro pins s σ H Q I h;refine wpAny_Call_Name_kw (gX I hg hm hv ?_ hn hdb);exact G9 (thn (ha pos pins s σ H _ I h) fun us s1 zz64_0=>by obtain⟨vs,H1,I1,r1,q1⟩:=zz64_0;exact(hc pins s1 σ H1 vs us Q I1 r1 q1)) he hpl
end
end L2
namespace HT
open PySem PyProof.Rows
def lexLt:List Int->List Int->Bool
 |[],[]=>false
 |[],_::_=>true
 |_::_,[]=>false
 |x::xs,y::ys=>if x=y then lexLt xs ys else decide (x<y)
theorem pF(x y:Int)(xs ys:List Int):lexLt (x::xs) (y::ys)=if x=y then lexLt xs ys else decide (x<y):=rfl
theorem ly:lexLt [] []=false:=rfl
theorem ki(y:Int)(ys:List Int):lexLt [] (y::ys)=true:=rfl
theorem kq(x:Int)(xs:List Int):lexLt (x::xs) []=false:=rfl
theorem kI(A:EE)(s:D6)(a:Int)(t:Tok)(c:Int)(u:Tok):∃e,SeqAt.EqAt A s (.int a t) (.int c u) e/\(e=true↔a=c):=⟨(a==c),SeqAt.EqAt.int_int a t c u,by simp⟩
theorem v5(A:EE)(s:D6)(a:Int)(t:Tok)(c:Int)(u:Tok)(prog:Ee)(w:EB)(E:D4->D6->Prop)(Q:D4->D6->Prop)(h:Q (.bool (decide (a<c))) s) : E7 (Ef prog w) A (richCompare .Lt (.int a t) (.int c u)) Q E s:=(PyProof.Rows.lt_int h:E7 (Ef prog w) A (EK .Lt (.int a t) (.int c u)) Q E s)
section
open PySem.SeqAt
open PySem.AutoSeq1 (wpAny_loadPart')
open PySem.MeetsSeq PySem.MeetsSeq2 PySem.MeetsSeq3
theorem kX(l b:Addr)(items items2:Array D4)(n n2:Nat)(dd dd2:Option Addr)(sl sl2:Array (Option D4))(ns ms:List Int)(hi:FD items.toList ns)(hj:FD items2.toList ms) :
 Meets (GP.«tuple.__lt__» ⟨[.ref l,.ref b],[]⟩)
  (fun _ R s=>s.heap.get? l=some { cls:=.type "tuple",dict:=dd,data:=.seq items n,slots:=sl }/\s.heap.get? b=some { cls:=.type "tuple",dict:=dd2,data:=.seq items2 n2,slots:=sl2 }/\
   R (.ok (.ret (.bool (lexLt ns ms)))) s):=
 .of_wp fun prog w A R s h=>by
  obtain⟨hp,g,d,tk,os⟩:=s;obtain⟨hl,hb,h⟩:=h
  have f2:=AutoSeq1.sub_tuple_tuple
  have z1:items.size=ns.length:=by rw[<-hi.length];simp
  have z2:items2.size=ms.length:=by rw[<-hj.length];simp
  wp_walk using Fg hl,Fg hb,wpAny_forIn_list _ (fun rest b s'=>b.1=none/\s'=⟨hp,g,d,tk,os⟩/\∃(vs ws:List D4) (ns' ms':List Int),rest=vs.zip ws/\
   FD vs ns'/\FD ws ms'/\ns'.length+items2.size=ms'.length+items.size/\R (.ok (.ret (.bool (lexLt ns' ms')))) ⟨hp,g,d,tk,os⟩) _
  case turn=>
   rintro⟨y,x⟩ rest b s' ⟨hb',rfl,vs,ws,ns',ms',hz,hvi,hwi,hlen,hR⟩
   cases hvi with
   |nil=>rw[List.zip_nil_left]at hz;cases hz
   |cons a t hvi'=>
    cases hwi with
    |nil=>rw[List.zip_nil_right]at hz;cases hz
    |cons c u hwi'=>
     rw[Gk]at hz
     injection hz with hyx hrest
     injection hyx with hy hx
     subst hy hx
     rw[pF]at hR
     simp only[EA]at hlen
     obtain⟨e,he,hiff⟩:=kI A.in1 ⟨hp,g,d,tk,os⟩ a t c u
     refine cc (he prog w _ _ ?_)
     cases e with
     |true=>
      rw[if_pos (hiff.mp rfl)]at hR
      wp_walk
      exact⟨rfl,rfl,_,_,_,_,hrest,hvi',hwi',by omega,hR⟩
     |false=>
      rw[if_neg (fun q=>absurd (hiff.mpr q) Ei)]at hR
      have hri:=v5 A.in1 ⟨hp,g,d,tk,os⟩ a t c u prog w
      wp_walk using hri
      exact⟨_,rfl,by simpa using hR⟩
  case fin=>
   rintro⟨b1,b2⟩ s' ⟨hb',rfl,vs,ws,ns',ms',hz,hvi,hwi,hlen,hR⟩
   simp only at hb'
   subst hb'
   have hv:lexLt ns' ms'=decide (items.size<items2.size):=by
    cases hvi with
    |nil=>
     cases hwi with
     |nil=>
      simp only[Ft]at hlen
      rw[ly]
      exact(decide_eq_false (by omega)).symm
     |cons c u hw=>
      simp only[Ft,EA]at hlen
      rw[ki]
      exact(decide_eq_true (by omega)).symm
    |cons a t hv=>
     cases hwi with
     |nil=>
      simp only[Ft,EA]at hlen
      rw[kq]
      exact(decide_eq_false (by omega)).symm
     |cons c u hw=>
      rw[Gk]at hz
      cases hz
   rw[hv]at hR
   wp_walk
   exact⟨_,rfl,by simpa[Builtin.Tuple.tupleCompareSizes]using hR⟩
  case h=>
   exact⟨rfl,rfl,items.toList,items2.toList,ns,ms,rfl,hi,hj,by omega,h⟩
end
section
variable{prog:Ee}{w:EB}{A:EE}{E:D4->D6->Prop}{s:D6}
theorem kr{l b:Addr}{items items2:Array D4}{ns ms:List Int}{Q:D4->D6->Prop}(hl:IsTup s.heap l items)(hb:IsTup s.heap b items2)(hi:FD items.toList ns)(hj:FD items2.toList ms) (hu:A.units<F0) (h:Q (.bool (lexLt ns ms)) s):E7 (Ef prog w) A (EK .Lt (.ref l) (.ref b)) Q E s:=by obtain⟨⟨cls,dd,data,sl⟩,ho,hc,n,hd⟩:=id hl;obtain⟨⟨cls2,dd2,data2,sl2⟩,ho2,hc2,n2,hd2⟩:=id hb;simp only at hc hd hc2 hd2;subst hc hd hc2 hd2;exact richCompare_meets_room (op:=.Lt) ⟨_,ho,rfl⟩ ⟨_,ho2,rfl⟩ PySem.F.slot_tuple_lt PySem.F.entry_tuple_lt (PySem.F.args_tuple_lt_2 _ _) (kX l b items items2 n n2 dd dd2 sl sl2 ns ms hi hj) ⟨ho,ho2,show Value.bool (lexLt ns ms)≠Value.notImplemented/\Q (.bool (lexLt ns ms)) s from⟨(fun x=>nomatch x),h⟩⟩ hu
theorem xO{t b:Addr}{vs ws:List D4}{Q:D4->D6->Prop}(ht:IsTup s.heap t vs.toArray)(hb:IsTup s.heap b ws.toArray)(hv:vs≠[])
 (h1:ws=[]->Q (.ref t) s) (h2:ws≠[]->Q (.ref s.heap.objs.size) { s with heap:=s.heap.push { cls:=.type "tuple",data:=.seq (vs++ws).toArray } })
 (hsz:vs.length+ws.length<=Ea):E7 (Ef prog w) A (FN .Add (.ref t) (.ref b)) Q E s:=by
 obtain⟨⟨cls,dd,data,sl⟩,ho,hc,n,hd⟩:=id ht
 obtain⟨⟨cls2,dd2,data2,sl2⟩,ho2,hc2,n2,hd2⟩:=id hb
 simp only at hc hd hc2 hd2
 subst hc hd hc2 hd2
 have e:vs.toArray++ws.toArray=(vs++ws).toArray:=by simp
 by_cases hw:ws=[]
 ·exact concat_meets ⟨_,ho,rfl⟩ ⟨_,ho2,rfl⟩ noFill_tuple_add seq_tuple_add PySem.F.slot_tuple_add PySem.F.entry_tuple_add (PySem.F.args_tuple_add_2 _ _)
   (tuple_addW1 t b vs.toArray ws.toArray n n2 dd dd2 sl sl2 (by simpa using hv) (by simp[hw])) ⟨ho,ho2,h1 hw⟩
 ·refine concat_meets ⟨_,ho,rfl⟩ ⟨_,ho2,rfl⟩ noFill_tuple_add seq_tuple_add PySem.F.slot_tuple_add PySem.F.entry_tuple_add (PySem.F.args_tuple_add_2 _ _)
   (tuple_addW2 t b vs.toArray ws.toArray n n2 dd dd2 sl sl2 (by simpa using hv) (by simpa using hw) (by rw[Ec,Ec];exact hsz)) ⟨ho,ho2,?_⟩
  rw[e]
  exact h2 hw
def sIx(n d:Nat):Option Int->Nat
 |none=>d
 |some v=>if v<0 then(v+(n:Int)).toNat else min v.toNat n
theorem uO(n d:Nat):sIx n d none=d:=rfl
theorem l9(n d k:Nat):sIx n d (some (k:Int))=min k n:=by show(if(k:Int)<0 then((k:Int)+(n:Int)).toNat else min (k:Int).toNat n)=min k n;rw[if_neg (by omega),Int.toNat_natCast]
theorem AW(n d:Nat)(hd:d<=n)(o:Option Int):sIx n d o<=n:=by
 cases o with
 |none=>exact hd
 |some v=>
  show(if v<0 then(v+(n:Int)).toNat else min v.toNat n)<=n
  by_cases hv:v<0
  ·rw[if_pos hv];omega
  ·rw[if_neg hv];exact Nat.min_le_right _ _
theorem rF(v:Int)(n d:Nat):(if v<0 then max (v+(n:Int)) 0 else min v (n:Int))=((sIx n d (some v):Nat):Int):=by
 show(if v<0 then max (v+(n:Int)) 0 else min v (n:Int))=(((if v<0 then(v+(n:Int)).toNat else min v.toNat n):Nat):Int);by_cases hv:v<0
 ·simp only[if_pos hv];omega
 ·simp only[if_neg hv];omega
theorem oW(lo hi:Option Int)(n:Nat):Builtin.Slice.sliceAdjust lo hi 1 (n:Int)=(((sIx n 0 lo:Nat):Int),((sIx n n hi:Nat):Int)):=by
 have h1:¬((1:Int)<0):=by omega
 unfold Builtin.Slice.sliceAdjust;simp only[h1,if_false];refine Prod.ext ?_ ?_
 ·cases lo with
  |none=>rfl
  |some v=>exact rF v n 0
 ·cases hi with
  |none=>rfl
  |some v=>exact rF v n n
theorem pA(i j:Nat):Builtin.Slice.slicePlaces (i:Int) (j:Int) 1=j-i:=by
 unfold Builtin.Slice.slicePlaces;have h1:(1:Int)>0:=by omega
 simp only[h1,if_true,Int.ediv_one];split<;>omega
theorem jy{v:D4}{o:Option Int}{Q:Option Int->D6->Prop}(p:IsPart v o)(h:Q o s):E7 (Ef prog w) A (Builtin.Slice.slicePartIndex v) Q E s:=by
 cases p with
 |none=>exact slicePart_none h
 |int i t=>exact slicePart_int h
theorem ip{sl:Addr}{vl vu:D4}{lo hi:Option Int}{n:Nat}{Q:Int×Int×Nat->D6->Prop}(hs:s.heap.IsSliceOf sl vl vu .none)(pl:IsPart vl lo)(pu:IsPart vu hi)
 (h:Q (((sIx n 0 lo:Nat):Int),1,sIx n n hi-sIx n 0 lo) s):E7 (Ef prog w) A (Builtin.Slice.sliceApplied (.ref sl) (pure (n:Int))) Q E s:=by
 obtain⟨os,hos,hcs,hds⟩:=id hs
 unfold Builtin.Slice.sliceApplied Builtin.Slice.sliceFields
 refine cc (cc (wpAny_field hos hds (x:=vl) rfl (cc (wpAny_field hos hds (x:=vu) rfl (cc (wpAny_field hos hds (x:=.none) rfl (E1 ?_)))))))
 refine cc (slicePart_none ?_)
 show E7 _ _ (if((1:Int)==0)=true then _ else _) _ _ s
 rw[if_neg (by decide)]
 refine cc (jy pl (cc (jy pu (cc (E1 ?_)))))
 show E7 _ _ (match Builtin.Slice.sliceAdjust lo hi 1 (n:Int)with|(lo,hi)=>pure (lo,(1:Int),Builtin.Slice.slicePlaces lo hi 1)) _ _ s
 rw[oW lo hi n]
 show E7 _ _ (pure (((sIx n 0 lo:Nat):Int),(1:Int),Builtin.Slice.slicePlaces ((sIx n 0 lo:Nat):Int) ((sIx n n hi:Nat):Int) 1)) _ _ s
 rw[pA]
 exact E1 h
theorem vm(xs:Array D4)(i k:Nat):((E5 k).filterMap fun(m:Nat)=>xs[((i:Int)+(m:Int)*1).toNat]?).toArray=((xs.toList.drop i).take k).toArray:=by
 have e:(fun(m:Nat)=>xs[((i:Int)+(m:Int)*1).toNat]?)=fun m=>xs[i+m]?:=by
  funext m
  have:((i:Int)+(m:Int)*1).toNat=i+m:=by omega
  rw[this]
 rw[e];have:=pick_run xs i k;rw[List.filterMap_map]at this;have e2:((fun x=>xs[x]?)∘fun x=>i+x)=fun m=>xs[i+m]?:=rfl;rw[e2]at this;rw[this]
theorem gF{t sl:Addr}{items:Array D4}{vl vu:D4}{lo hi:Option Int}{Q:D4->D6->Prop}(ht:IsTup s.heap t items)(hs:s.heap.IsSliceOf sl vl vu .none)(pl:IsPart vl lo)(pu:IsPart vu hi)
 (hw:¬(sIx items.size 0 lo=0/\sIx items.size items.size hi=items.size))
 (h:Q (.ref s.heap.objs.size) { s with heap:=s.heap.push { cls:=.type "tuple",data:=.seq ((items.toList.drop (sIx items.size 0 lo)).take (sIx items.size items.size hi-sIx items.size 0 lo)).toArray } })
 (hsz:items.size<=Ea):E7 (Ef prog w) A (getItem (.ref t) (.ref sl)) Q E s:=by
 have htake:sizeOk (.seq ((items.toList.drop (sIx items.size 0 lo)).take (sIx items.size items.size hi-sIx items.size 0 lo)).toArray):=by
  show((items.toList.drop (sIx items.size 0 lo)).take (sIx items.size items.size hi-sIx items.size 0 lo)).toArray.size<=Ea
  rw[Ec,Fu,List.length_drop,Fm]
  omega
 have hj:sIx items.size items.size hi<=items.size:=AW _ _ (E3 _) hi
 obtain⟨os,hos,hcs,hds⟩:=id hs
 have hTs:s.TypeIs (.ref sl) "slice":=⟨os,hos,hcs⟩
 unfold getItem
 try with_reducible refine EY ?_
 first|refine cc (E1 ?_)|skip
 refine cc (wpAny_sequenceKey ht.typeIs (by decide) ?_)
 refine cc (wpAny_callSpecial?_slot (name:=Ga "__getitem__") ht.typeIs PyProof.Rows.slot_tuple_getitem
  (Gf PyProof.Rows.slot_tuple_getitem ht.typeIs entry_tuple_getitem ?_ (args_tuple_getitem _ _)))
 show E7 _ _ (Builtin.Tuple.tupleItemsOf (.ref t) >>= _) _ _ s
 refine cc (tupleItemsOf_ ht ?_)
 refine cc (wpAny_typeOf hTs ?_)
 rw[if_pos (by decide)]
 refine cc (ip hs pl pu ?_)
 have hno:¬((((sIx items.size 0 lo:Nat):Int)==0&&(1:Int)==1&&(sIx items.size items.size hi-sIx items.size 0 lo)==items.size)=true):=by
  intro q
  rw[F6,F6]at q
  have q1:((sIx items.size 0 lo:Nat):Int)=0:=eq_of_beq q.1.1
  have q2:sIx items.size items.size hi-sIx items.size 0 lo=items.size:=eq_of_beq q.2
  exact hw ⟨by omega,by omega⟩
 show E7 _ _ (if(((sIx items.size 0 lo:Nat):Int)==0&&(1:Int)==1&&(sIx items.size items.size hi-sIx items.size 0 lo)==items.size)=true then _ else _) _ _ s
 rw[if_neg hno,vm]
 first
  |exact cc (m:=Builtin.Tuple.tupleExact _) (EO (E1 ⟨_,rfl,E1 h⟩) htake)
  |exact cc (m:=Builtin.Tuple.tupleExact _) (EO (cc (E1 (E1 ⟨_,rfl,E1 h⟩))) htake)
  |exact cc (cc (m:=Builtin.Tuple.tupleExact _) (EO (E1 (E1 ⟨_,rfl,E1 h⟩)) htake))
  |exact cc (cc (m:=Builtin.Tuple.tupleExact _) (EO (E1 ⟨_,rfl,E1 h⟩) htake))
end
end HT
namespace L2
open PySem PySem.Spec PyProof.Rows
abbrev TO:=St->Hp->(Option Int->Hp->Prop)->Prop
def PO(X:Cx)(e:Option Expr)(t:TO):Prop:=
 ∀(pins:List (Addr×Obj)) (s:D6) (σ:St) (H:Hp) (Q:Option Int->Hp->Prop),Inv X pins σ H s->t σ H Q->
  E7 (Ef X.prog X.w) X.A (evalPart e X.env) (fun u s'=>∃o H',Inv X pins σ H' s'/\IsPart u o/\Q o H') X.xe s
def yi:TO:=fun _ H Q=>Q none H
def C7(t:TE):TO:=fun σ H Q=>t σ H fun x H1=>∃i,x=.int i/\Q (some i) H1
theorem intsAre_of{ns:List Int}:∀{us:List D4},Vals (ns.map V.int) us->FD us ns:=by
 induction ns with
 |nil=>intro us r;rw[EX]at r;cases r;exact .nil
 |cons n ns ih=>
  intro us r
  rw[D7]at r
  cases r with
  |cons r1 r2=>
   obtain⟨t,e⟩:=r1
   subst e
   exact .cons n t (ih r2)
section
variable{X:Cx}{e:Expr}{te:TE}{lo hi:Option Expr}{tl th:TO}{pos p2:Pos}
theorem wV:PO X none yi:=by intro pins s σ H Q I h;rw[evalPart_none];exact E1 ⟨none,H,I,.none,h⟩
theorem xV(h:PE X e te):PO X (some e) (C7 te):=by intro pins s σ H Q I hw;rw[evalPart_some];refine thn (h pins s σ H _ I hw) fun u s1 zz65_0=>?_;obtain⟨x,H1,I1,r1,q1⟩:=zz65_0;obtain⟨i,rfl,q⟩:=q1;obtain⟨t,rfl⟩:=r1;exact⟨some i,H1,I1,.int i t,q⟩
def SlR(X:Cx)(r:V->Option Int->Option Int->Hp->VK->Prop):Prop:=
 ∀(pins:List (Addr×Obj)) (s:D6) (σ:St) (H:Hp) (x:V) (v vl vu:D4) (lo hi:Option Int) (sl:Addr) (Q:VK),Inv X pins σ H s->RelV x v->s.heap.IsSliceOf sl vl vu .none->IsPart vl lo->IsPart vu hi->r x lo hi H Q->
  ∃T id,typeLookup (.type T) "__getitem__"=pure (some (.builtin id))/\s.TypeIs v T/\E7 (Ef X.prog X.w) X.A (getItem v (.ref sl)) (EP X pins σ Q) X.xe s
theorem SlR.or{r r':V->Option Int->Option Int->Hp->VK->Prop}(h:SlR X r)(h':SlR X r'):SlR X (fun x lo hi H Q=>r x lo hi H Q\/r' x lo hi H Q):=by
 intro pins s σ H x v vl vu lo hi sl Q I rx hs pl pu q;rcases q with q|q
 ·exact h pins s σ H x v vl vu lo hi sl Q I rx hs pl pu q
 ·exact h' pins s σ H x v vl vu lo hi sl Q I rx hs pl pu q
def tSl(r:V->Option Int->Option Int->Hp->VK->Prop)(te:TE)(tl th:TO):TE:=fun σ H Q=>te σ H fun x H1=>tl σ H1 fun l H2=>th σ H2 fun u H3=>r x l u H3 Q
theorem ug{r:V->Option Int->Option Int->Hp->VK->Prop}(hr:SlR X r)(he:PE X e te)(hl:PO X lo tl)(hu:PO X hi th):PE X (.Subscript e (.Slice lo hi none p2) pos) (tSl r te tl th):=by intro pins s σ H Q I h;refine Subscript_ (thn (he pins s σ H _ I h) fun v s1 zz66_0=>?_);obtain⟨x,H1,I1,r1,q1⟩:=zz66_0;refine wpAny_Slice (thn (hl pins s1 σ H1 _ I1 q1) fun vl s2 ⟨l,H2,I2,pl,q2⟩=>thn (hu pins s2 σ H2 _ I2 q2) fun vu s3 zz67_0=>?_);obtain⟨u,H3,I3,pu,q3⟩:=zz67_0;rw[evalPart_none];refine E1 ?_;have I4:Inv X pins σ H3 { s3 with heap:=s3.heap.push { cls:=.type "slice",data:=.fields #[vl,vu,.none] } }:=I3.kept (t':=s3.toks) fun b ob q=>D9 _ q;obtain⟨T,id,hT,ht,hg⟩:=hr pins { s3 with heap:=s3.heap.push { cls:=.type "slice",data:=.fields #[vl,vu,.none] } } σ H3 x v vl vu l u s3.heap.objs.size Q I4 r1 (Heap.IsSliceOf.new ..) pl pu q3;show E7 (Ef X.prog X.w) X.A (subscriptTail e (.Slice lo hi none p2) v (.ref s3.heap.objs.size)) (EP X pins σ Q) X.xe { s3 with heap:=s3.heap.push { cls:=.type "slice",data:=.fields #[vl,vu,.none] } };exact tail_any (ops:=[.ref s3.heap.objs.size,v]) ht hT hg (by with_unfolding_all rfl)
def mU(xs:List V)(lo hi:Option Int):List V:=(xs.drop (HT.sIx xs.length 0 lo)).take (HT.sIx xs.length xs.length hi-HT.sIx xs.length 0 lo)
theorem iA(xs:List V)(lo hi:Option Int):(mU xs lo hi).length<=xs.length:=by unfold mU;rw[Fu,List.length_drop];omega
def DN(K:D5):V->Option Int->Option Int->Hp->VK->Prop:=fun x lo hi H Q=>∃a xs,x=.ref a/\SqT K H a xs/\
 ¬(HT.sIx xs.length 0 lo=0/\HT.sIx xs.length xs.length hi=xs.length)/\∀p,H p=none->Q (.ref p) (upd H p (.tup (mU xs lo hi)))
theorem zJ:SlR X (DN X.K):=by
 intro pins s σ H x v vl vu lo hi sl Q I rx hs pl pu h;obtain⟨a,xs,rfl,hx,hw,q⟩:=h;cases rx;obtain⟨its,r,ht,hz⟩:=I.tuple hx;have hlen:its.toArray.size=xs.length:=by rw[Ec];exact r.length.symm
 refine⟨"tuple",_,PyProof.Rows.slot_tuple_getitem.lookup,ht.typeIs,?_⟩;refine HT.gF ht hs pl pu (by rw[hlen];exact hw) ?_ (by rw[hlen];exact hz);rw[hlen];refine⟨.ref s.heap.objs.size,_,I.laid (t':=s.toks) (o:=.tup (mU xs lo hi)) (fun b ob q=>D9 _ q) (E3 _) ?_,rfl,q _ (I.hok.fresh (E3 _))⟩;exact⟨ER (iA xs lo hi) hz,_,(r.drop (HT.sIx xs.length 0 lo)).take (HT.sIx xs.length xs.length hi-HT.sIx xs.length 0 lo),IsTup.new _ _,NoD.new _ _⟩
def Dw(K:D5):R2:=fun x y H Q=>∃a b ns ms,x=.ref a/\y=.ref b/\SqT K H a (ns.map V.int)/\SqT K H b (ms.map V.int)/\Q (.bl (HT.lexLt ns ms)) H
theorem ze(hu:X.A.units<F0):OpR X (EK .Lt) (Dw X.K):=by intro pins s σ H x y v u Q I rx ry h;obtain⟨a,b,ns,ms,rfl,rfl,ha,hb,q⟩:=h;cases rx;cases ry;obtain⟨its,r1,p1,_⟩:=I.tuple ha;obtain⟨its2,r2,p2,_⟩:=I.tuple hb;have i1:FD its.toArray.toList ns:=intsAre_of r1;have i2:FD its2.toArray.toList ms:=intsAre_of r2;exact HT.kr p1 p2 i1 i2 hu ⟨.bl (HT.lexLt ns ms),H,I,rfl,q⟩
def BJ(K:D5):R2:=fun x y H Q=>∃a b xs ys,x=.ref a/\y=.ref b/\SqT K H a xs/\SqT K H b ys/\xs≠[]/\xs.length+ys.length<=Ea/\
 (ys=[]->Q (.ref a) H)/\(ys≠[]->∀p,H p=none->Q (.ref p) (upd H p (.tup (xs++ys))))
theorem Vals.mw{xs:List V}{us:List D4}(r:Vals xs us):us=[]↔xs=[]:=by
 cases r with
 |nil=>simp
 |cons _ _=>simp
theorem xG:OpR X (FN .Add) (BJ X.K):=by intro pins s σ H x y v u Q I rx ry h;obtain⟨a,b,xs,ys,rfl,rfl,ha,hb,hx,hz,q1,q2⟩:=h;cases rx;cases ry;obtain⟨its,r1,p1,_⟩:=I.tuple ha;obtain⟨its2,r2,p2,_⟩:=I.tuple hb;refine HT.xO p1 p2 (fun z=>hx (r1.mw.mp z)) (fun z=>⟨.ref a,H,I,rfl,q1 (r2.mw.mp z)⟩) (fun z=>?_) (by rw[<-r1.length,<-r2.length];exact hz);refine⟨.ref s.heap.objs.size,_,I.laid (t':=s.toks) (o:=.tup (xs++ys)) (fun b ob q=>D9 _ q) (E3 _) ?_,rfl,q2 (fun w=>z (r2.mw.mpr w)) _ (I.hok.fresh (E3 _))⟩;exact⟨by rw[Ff];exact hz,_,r1.append r2,IsTup.new _ _,NoD.new _ _⟩
end
def ixN(n:Nat)(i:Int):Option Nat:=if 0<=i then(if i<n then some i.toNat else none)else if -(n:Int)<=i then some (i+n).toNat else none
def atI{α:Type}(xs:List α)(i:Int):Option α:=(ixN xs.length i).bind fun j=>xs[j]?
theorem rJ{n:Nat}{i:Int}{j:Nat}(h:ixN n i=some j):seqIndex? i n=some j/\j<n/\-(n:Int)<=i/\i<n:=by
 unfold ixN at h;by_cases h0:0<=i
 ·rw[if_pos h0]at h;by_cases h1:i<n
  ·rw[if_pos h1]at h;have e:i.toNat=j:=Option.some.inj h;exact⟨by rw[seqIndex_of h0 h1,e],by omega,by omega,h1⟩
  ·rw[if_neg h1]at h;cases h
 ·rw[if_neg h0]at h;by_cases h1:-(n:Int)<=i
  ·rw[if_pos h1]at h;have e:(i+n).toNat=j:=Option.some.inj h;exact⟨by rw[seqIndex_neg (by omega) h1,e],by omega,h1,by omega⟩
  ·rw[if_neg h1]at h;cases h
theorem my{α:Type}{xs:List α}{i:Int}{v:α}(h:atI xs i=some v):∃j,seqIndex? i xs.length=some j/\xs[j]?=some v/\j<xs.length/\-(xs.length:Int)<=i/\i<xs.length:=by
 unfold atI at h;cases e:ixN xs.length i with
 |none=>rw[e]at h;cases h
 |some j=>
  rw[e]at h
  obtain⟨h1,h2,h3,h4⟩:=rJ e
  exact⟨j,h1,h,h2,h3,h4⟩
theorem cF{α:Type}{xs:List α}{j:Nat}{v:α}(h:xs[j]?=some v):atI xs (j:Int)=some v:=by
 have hj:j<xs.length:=(Eo.mp h).1;have e:ixN xs.length (j:Int)=some j:=by unfold ixN;rw[if_pos (by omega),if_pos (by omega)];simp
 unfold atI;rw[e];exact h
def lW(b:Expr):Prop:=∀o i,subscripted b false o i=operate [o,i] (getItem o i)
def IxR(X:Cx)(r:R2):Prop:=
 ∀(value slice:Expr) (pins:List (Addr×Obj)) (s:D6) (σ:St) (H:Hp) (x y:V) (v u:D4) (Q:VK),Inv X pins σ H s->RelV x v->RelV y u->r x y H Q->
  subscripted slice false v u=operate [v,u] (getItem v u)->E7 (Ef X.prog X.w) X.A (subscriptTail value slice v u) (EP X pins σ Q) X.xe s
def MtR(X:Cx)(id:String)(r:V->List V->Hp->VK->Prop):Prop:=
 ∀(pins:List (Addr×Obj)) (s:D6) (σ:St) (H:Hp) (x:V) (xs:List V) (v:D4) (us:List D4) (Q:VK),Inv X pins σ H s->RelV x v->Vals xs us->r x xs H Q->
  E7 (Ef X.prog X.w) X.A (call (.builtin id) (v::us)) (EP X pins σ Q) X.xe s
section
variable{X:Cx}{a b:Expr}{ta tb:TE}{pos:Pos}
theorem IxR.or{r r':R2}(h:IxR X r)(h':IxR X r'):IxR X (fun x y H Q=>r x y H Q\/r' x y H Q):=by
 intro value slice pins s σ H x y v u Q I rx ry q hs;rcases q with q|q
 ·exact h value slice pins s σ H x y v u Q I rx ry q hs
 ·exact h' value slice pins s σ H x y v u Q I rx ry q hs
theorem CA{r:R2}(hr:IxR X r)(ha:PE X a ta)(hb:PE X b tb)(hs:lW b):PE X (.Subscript a b pos) (tOp r ta tb):=by intro pins s σ H Q I h;exact Subscript_ (zF ha hb I h fun v u s2 x y H2 I2 rx ry q=>hr a b pins s2 σ H2 x y v u Q I2 rx ry q (hs _ _))
def Cv(K:D5):R2:=fun x y H Q=>∃p xs i v,x=.ref p/\y=.int i/\SqL K H p xs/\atI xs i=some v/\Q v H
def B6(K:D5):R2:=fun x y H Q=>∃p xs i v,x=.ref p/\y=.int i/\SqT K H p xs/\atI xs i=some v/\Q v H
def Co:R2:=fun x y H Q=>∃z i c,x=.str z/\y=.int i/\z.length<=Ea/\atI z.cps.toList i=some c/\Q (.str ⟨#[c]⟩) H
theorem xo:IxR X (Cv X.K):=by
 intro value slice pins s σ H x y v u Q I rx ry h hs;obtain⟨p,xs,i,z,rfl,rfl,hq,he,q⟩:=h;cases rx;obtain⟨t,rfl⟩:=ry;obtain⟨its,r,pl,hz⟩:=I.list hq;obtain⟨j,h1,h2,h3,h4,h5⟩:=my he;obtain⟨w,ew,rw'⟩:=r.get h2;have hl:=r.length;have hn:=ia;have fin:EP X pins σ Q w s:=⟨z,H,I,rw',q⟩;by_cases h0:0<=i
 ·have hj:i.toNat=j:=by rw[seqIndex_of h0 h5]at h1;exact Option.some.inj h1
  exact item_listR pl.isList h0 (by omega) (by rw[hj];simpa using ew) fin hs
 ·have hj:(i+(its.toArray.size:Int)).toNat=j:=by rw[seqIndex_neg (by omega) h4]at h1;rw[Ec,<-hl];exact Option.some.inj h1
  exact subscriptTail_builtinR (x:=w) pl.isList.typeIs slot_list_getitem.lookup (wpAny_getItem_list_neg (Q:=fun r s'=>r=w/\EP X pins σ Q r s') pl.isList (by omega) (by rw[Ec]<;>omega) (by omega) (by rw[hj];simpa using ew) ⟨rfl,fin⟩) hs
theorem Ah:IxR X (B6 X.K):=by intro value slice pins s σ H x y v u Q I rx ry h hs;obtain⟨p,xs,i,z,rfl,rfl,hq,he,q⟩:=h;cases rx;obtain⟨t,rfl⟩:=ry;obtain⟨its,r,pl,hz⟩:=I.tuple hq;obtain⟨j,h1,h2,h3,h4,h5⟩:=my he;obtain⟨w,ew,rw'⟩:=r.get h2;have hl:=r.length;have hn:=ia;have fin:EP X pins σ Q w s:=⟨z,H,I,rw',q⟩;exact subscriptTail_builtinR (x:=w) pl.typeIs slot_tuple_getitem.lookup (getItem_tuple (j:=j) (Q:=fun r s'=>r=w/\EP X pins σ Q r s') pl (by omega) (by omega) (by rw[Ec,<-hl];exact h1) (by simpa using ew) ⟨rfl,fin⟩) hs
theorem Bf:IxR X Co:=by
 intro value slice pins s σ H x y v u Q I rx ry h hs;obtain⟨z,i,c,rfl,rfl,hz,he,q⟩:=h;obtain⟨t,rfl⟩:=rx;obtain⟨t',rfl⟩:=ry;obtain⟨j,h1,h2,h3,h4,h5⟩:=my he;have hl:z.cps.toList.length=z.length:=by simp[Str.length]
 rw[hl]at h1 h4 h5;have hn:=ia
 exact tail_any (typeIs_str s z t) slot_str_getitem.lookup (getItem_str (c:=c) (by
  have e1:decide (i < -(2^63:Int))=false:=decide_eq_false (by omega)
  have e2:decide (i≥2^63)=false:=decide_eq_false (by omega)
  rw[e1,e2,Bool.or_false]) (by rw[h1];simpa using h2) ⟨.str ⟨#[c]⟩,H,I.tok _,⟨_,rfl⟩,q⟩) hs
def rIx(K:D5):R2:=fun x y H Q=>Cv K x y H Q\/B6 K x y H Q\/Co x y H Q
theorem Ak:IxR X (rIx X.K):=xo.or (Ah.or Bf)
theorem pN(its:List D4)(n j:Nat)(u:D4):Obj.mapSeq (·.setIfInBounds j u) { cls:=.type "list",data:=.seq its.toArray n }={ cls:=.type "list",data:=.seq (its.set j u).toArray n }:=by simp[Obj.mapSeq]
theorem Inv.lst{pins:List (Addr×Obj)}{σ:St}{H:Hp}{s:D6}{p:Addr}{xs:List V}(I:Inv X pins σ H s)(h:H p=some (.lst xs)) : ∃(its:List D4) (n:Nat),Vals xs its/\s.heap.get? p=some { cls:=.type "list",data:=.seq its.toArray n }/\xs.length<=Ea:=by obtain⟨z,its,n,r,e⟩:=I.hok p _ h;exact⟨its,n,r,e,z⟩
theorem Inv.Ad{pins:List (Addr×Obj)}{σ:St}{H:Hp}{s:D6}{p:Addr}{xs ys:List V}{its its':List D4}{n n':Nat}{f:Obj->Obj}(I:Inv X pins σ H s)(h:H p=some (.lst xs))
 (ho:s.heap.get? p=some { cls:=.type "list",data:=.seq its.toArray n }) (hf:f { cls:=.type "list",data:=.seq its.toArray n }={ cls:=.type "list",data:=.seq its'.toArray n' }) (r:Vals ys its') (hz:ys.length<=Ea) (t:Nat) :
 Inv X pins σ (upd H p (.lst ys)) { s with heap:=s.heap.update p f,toks:=t }:=by
 have e:(s.heap.update p f).get? p=some { cls:=.type "list",data:=.seq its'.toArray n' }:=by
  rw[Fw f ho (by rw[hf]<;>rfl),hf]
 refine I.write (x:=p) (e:=p) (by rw[h];trivial) (.inl rfl) (fun b u hb q=>(EG _ _ (Ne.symm hb)).trans q) ⟨_,e⟩ ?_
 exact⟨hz,its',n',r,e⟩
def Cg:V->V->V->Hp->(Hp->Prop)->Prop:=fun o i v H Q=>∃p xs k j,o=.ref p/\i=.int k/\H p=some (.lst xs)/\ixN xs.length k=some j/\Q (upd H p (.lst (xs.set j v)))
theorem set_list:BS X Cg:=by
 intro pins s σ H o i v ov iv u Q I ro ri rv h;obtain⟨p,xs,k,j,rfl,rfl,hp,hj,q⟩:=h;cases ro;obtain⟨t,rfl⟩:=ri;obtain⟨its,n,r,ho,hz⟩:=I.lst hp;obtain⟨h1,h2,h3,h4⟩:=rJ hj;have hl:=r.length;have hn:=ia;have I':Inv X pins σ (upd H p (.lst (xs.set j v))) { s with heap:=s.heap.update p (Obj.mapSeq (·.setIfInBounds j u)) }:=I.Ad hp ho (pN its n j u) (r.set rv j) (by rw[List.length_set];exact hz) s.toks;by_cases h0:0<=k
 ·have hk:k.toNat=j:=by rw[seqIndex_of h0 h4]at h1;exact Option.some.inj h1
  exact PySem.W.ki_setAt ho h0 (by omega) (by rw[Ec,<-hl];exact h4) (by rw[hk];exact⟨_,I',q⟩)
 ·have hk:(k+(its.toArray.size:Int)).toNat=j:=by rw[seqIndex_neg (by omega) h3]at h1;rw[Ec,<-hl];exact Option.some.inj h1
  exact PySem.W.ki_setBack ho (by omega) (by rw[Ec,<-hl];exact h3) (by omega) (by rw[hk];exact⟨_,I',q⟩)
theorem mm(lo hi:Option Int)(n:Nat):(sliceBounds lo hi none n).1=((HT.sIx n 0 lo:Nat):Int)/\(sliceBounds lo hi none n).2.1=((HT.sIx n n hi:Nat):Int)/\(sliceBounds lo hi none n).2.2=1:=by
 refine⟨?_,?_,rfl⟩
 ·cases lo with
  |none=>simp[sliceBounds,HT.sIx]
  |some i=>
   simp only[sliceBounds,HT.sIx,Option.getD_none,show(1:Int)>0 by decide,if_true]
   by_cases h:i<0
   ·simp only[h,if_true]<;>omega
   ·simp only[h,if_false]<;>omega
 ·cases hi with
  |none=>simp[sliceBounds,HT.sIx]
  |some i=>
   simp only[sliceBounds,HT.sIx,Option.getD_none,show(1:Int)>0 by decide,if_true]
   by_cases h:i<0
   ·simp only[h,if_true]<;>omega
   ·simp only[h,if_false]<;>omega
theorem kY(its:List D4)(lo hi:Option Int):slicePick its.toArray lo hi none=((its.drop (HT.sIx its.length 0 lo)).take (HT.sIx its.length its.length hi-HT.sIx its.length 0 lo)).toArray:=by obtain⟨h1,h2,h3⟩:=mm lo hi its.toArray.size;unfold slicePick;rw[h1,h2,h3];simp only[sliceRange_one,pick_run,Ec]<;>rfl
def C9(K:D5):V->Option Int->Option Int->Hp->VK->Prop:=fun x lo hi H Q=>∃a xs,x=.ref a/\SqL K H a xs/\∀p,H p=none->Q (.ref p) (upd H p (.lst (mU xs lo hi)))
theorem yd:SlR X (C9 X.K):=by intro pins s σ H x v vl vu lo hi sl Q I rx hs pl pu h;obtain⟨a,xs,rfl,hx,q⟩:=h;cases rx;obtain⟨its,r,ht,hz⟩:=I.list hx;have hlen:=r.length;refine⟨"list",_,slot_list_getitem.lookup,ht.isList.typeIs,?_⟩;refine wpAny_getItem_list_slice ht.isList hs pl pu .none (by simp) ?_ (by rw[Ec]<;>omega);rw[kY,<-hlen];refine⟨.ref s.heap.objs.size,_,I.laid (t':=s.toks) (o:=.lst (mU xs lo hi)) (fun b ob q=>D9 _ q) (E3 _) ?_,rfl,q _ (I.hok.fresh (E3 _))⟩;exact⟨ER (iA xs lo hi) hz,_,0,(r.drop (HT.sIx xs.length 0 lo)).take (HT.sIx xs.length xs.length hi-HT.sIx xs.length 0 lo),E6 _ rfl⟩
theorem mh:bM X (.builtin "len") (fun xs H Q=>∃p ys,xs=[.ref p]/\(SqL X.K H p ys\/SqT X.K H p ys)/\Q (.int ys.length) H):=by
 intro pins s σ H xs us Q I r h;obtain⟨p,ys,rfl,hq,q⟩:=h;obtain⟨u,rfl,rx⟩:=vals1 r;cases rx;have hn:=ia;rcases hq with hq|hq
 ·obtain⟨its,r',pl,hz⟩:=I.list hq;have hlen:=r'.length;exact Calls.call_len_list pl.isList (by simp only[Ec]<;>omega) ⟨.int ys.length,H,I.tok _,⟨s.toks+1,by rw[Ec,hlen]⟩,q⟩
 ·obtain⟨its,r',pl,hz⟩:=I.tuple hq;have hlen:=r'.length;exact len_tuple pl (by simp only[Ec]<;>omega) ⟨.int ys.length,H,I.tok _,⟨s.toks+1,by rw[Ec,hlen]⟩,q⟩
theorem bM.or{f:D4}{r r':List V->Hp->VK->Prop}(h:bM X f r)(h':bM X f r'):bM X f (fun xs H Q=>r xs H Q\/r' xs H Q):=by
 intro pins s σ H xs us Q I rs q;rcases q with q|q
 ·exact h pins s σ H xs us Q I rs q
 ·exact h' pins s σ H xs us Q I rs q
theorem l3:bM X (.type "list") (fun xs H Q=>∃p ys,xs=[.ref p]/\(SqL X.K H p ys\/SqT X.K H p ys)/\∀l,H l=none->Q (.ref l) (upd H l (.lst ys))):=by
 intro pins s σ H xs us Q I r h;obtain⟨p,ys,rfl,hq,q⟩:=h;obtain⟨u,rfl,rx⟩:=vals1 r;cases rx;have fin:∀(its:List D4),Vals ys its->ys.length<=Ea->∀(h':Heap) (c':Nat),(∀b o',s.heap.get? b=some o'->h'.get? b=some o')->h'.get? s.heap.objs.size=some { cls:=.type "list",dict:=none,data:=.seq its.toArray c',slots:=#[] }->EP X pins σ Q (.ref s.heap.objs.size) { s with heap:=h' }:=fun its r' hz h' c' kp e=>⟨.ref s.heap.objs.size,_,I.laid (t':=s.toks) kp (E3 _) (show bL X.prog X.w _ h' _ (.lst ys)from⟨hz,its,c',r',e⟩),rfl,q _ (I.hok.fresh (E3 _))⟩;rcases hq with hq|hq
 ·obtain⟨its,r',pl,hz⟩:=I.list hq;have hlen:=r'.length;obtain⟨o,ho,hc,n,hd⟩:=pl.isList;exact call_list_seq p (.inl rfl) ho hc hd (fun h' c' kp e=>fin its r' hz h' c' kp e) (by simp only[Ec]<;>omega)
 ·obtain⟨its,r',pl,hz⟩:=I.tuple hq;have hlen:=r'.length;obtain⟨o,ho,hc,n,hd⟩:=pl;exact call_list_seq p (.inr rfl) ho hc hd (fun h' c' kp e=>fin its r' hz h' c' kp e) (by simp only[Ec]<;>omega)
theorem k9:bM X (.type "tuple") (fun xs H Q=>∃p ys,xs=[.ref p]/\((SqL X.K H p ys/\∀l,H l=none->Q (.ref l) (upd H l (.tup ys)))\/(SqT X.K H p ys/\Q (.ref p) H))):=by
 intro pins s σ H xs us Q I r h;obtain⟨p,ys,rfl,h⟩:=h;obtain⟨u,rfl,rx⟩:=vals1 r;cases rx;rcases h with⟨hq,q⟩|⟨hq,q⟩
 ·obtain⟨its,r',pl,hz⟩:=I.list hq;have hlen:=r'.length;refine call_tuple_list pl.isList (fun h' kp=>?_) (by simp only[Ec]<;>omega);have I1:Inv X pins σ H { s with heap:=h' }:=I.kept (t':=s.toks) kp;have I2:Inv X pins σ (upd H h'.objs.size (.tup ys)) { s with heap:=h'.push { cls:=.type "tuple",data:=.seq its.toArray } }:=I1.laid (t':=s.toks) (fun b o e=>D9 _ e) (E3 _) (show bL X.prog X.w _ _ _ (.tup ys)from⟨hz,its,r',IsTup.new _ _,NoD.new _ _⟩);exact⟨.ref h'.objs.size,_,I2,rfl,q _ (I1.hok.fresh (E3 _))⟩
 ·obtain⟨its,r',pl,hz⟩:=I.tuple hq;exact call_tuple_same pl ⟨.ref p,H,I,rfl,q⟩
def tyV(K:D5)(T:String)(x:V)(H:Hp):Prop:=match x with
 |.str _=>T="str"
 |.int _=>T="int"
 |.ref p=>(T="list"/\∃xs,SqL K H p xs)\/(T="tuple"/\∃o,K.lookup p=some o/\o.cls=.type "tuple"/\o.dict=none)\/
  (T="dict"/\((∃kvs,H p=some (.dK kvs))\/∃kvs,H p=some (.dT kvs)))\/(T="set"/\∃S n,H p=some (.set S n))
 |_=>False
theorem uV{pins:List (Addr×Obj)}{σ:St}{H:Hp}{s:D6}{T:String}{x:V}{v:D4}(I:Inv X pins σ H s)(r:RelV x v)(ty:tyV X.K T x H) : s.TypeIs v T/\∀a,v=.ref a->∃ob,s.heap.get? a=some ob/\ob.dict=none:=by
 cases x with
 |str z=>
  obtain⟨t,rfl⟩:=r
  cases (show T="str" from ty)
  exact⟨typeIs_str s z t,fun _ e=>nomatch e⟩
 |int i=>
  obtain⟨t,rfl⟩:=r
  cases (show T="int" from ty)
  exact⟨typeIs_int s i t,fun _ e=>nomatch e⟩
 |ref p=>
  cases r
  rcases ty with⟨rfl,xs,hq⟩|⟨rfl,o,hk,hc,hd⟩|⟨rfl,hk⟩|⟨rfl,S,n,hk⟩
  ·obtain⟨its,_,pl,_⟩:=I.list hq;refine⟨pl.isList.typeIs,fun a e=>?_⟩;cases e;obtain⟨o,n,e,c,hd,_⟩:=pl;exact⟨o,e,hd⟩
  ·refine⟨⟨o,I.kIn p o hk,hc⟩,fun a e=>?_⟩;cases e;exact⟨o,I.kIn _ o hk,hd⟩
  ·have z:∃o,s.heap.get? p=some o/\o.ExactDict:=by
    rcases hk with⟨kvs,hk⟩|⟨kvs,hk⟩
    ·obtain⟨_,_,_,_,o,_,_,e,ex,_⟩:=I.hok p _ hk;exact⟨o,e,ex⟩
    ·obtain⟨_,_,_,_,o,_,_,e,ex,_⟩:=I.hok p _ hk;exact⟨o,e,ex⟩
   obtain⟨o,e,ex⟩:=z;refine⟨⟨o,e,ex.1⟩,fun a e2=>?_⟩;cases e2;exact⟨o,e,ex.2.1⟩
  ·obtain⟨o,_,_,_,e,ex,_⟩:=I.hok p _ hk;refine⟨⟨o,e,ex.1⟩,fun a e2=>?_⟩;cases e2;exact⟨o,e,ex.2.1⟩
 |_=>exact GO ty
def DQ(K:D5)(T:String)(r:V->List V->Hp->VK->Prop)(to:TE):TE:=fun σ H Q=>to σ H fun x H1=>tyV K T x H1/\r x [] H1 Q
def tBM(K:D5)(T:String)(r:V->List V->Hp->VK->Prop)(to:TE)(t:TA):TE:=fun σ H Q=>to σ H fun x H1=>tyV K T x H1/\t σ H1 fun xs H2=>r x xs H2 Q
variable{o e:Expr}{es:List Expr}{to:TE}{t:TA}{name:Str}{apos cpos:Pos}{T id:String}{r:V->List V->Hp->VK->Prop}
theorem z8(pa:PlainAttrs T)(slot:Slot T name id)(hty:typeOf (.builtin id)=pure (.type "method_descriptor"))(hm:MtR X id r)(ho:PE X o to) (hbase:FH o name X.env (eval o X.env)=eval o X.env:=by rfl) (hline:(apos.endLine==cpos.line)=true:=by rfl):PE X (.Call (.Attribute o name apos) [] [] cpos) (DQ X.K T r to):=by intro pins s σ H Q I h;refine wpAny_Call_method0_late hbase hline (thn (ho pins s σ H _ I h) fun v s1 zz68_0=>?_);obtain⟨x,H1,I1,r1,ty,q1⟩:=zz68_0;obtain⟨h1,h2⟩:=uV I1 r1 ty;exact⟨T,id,pa,slot,hty,h1,h2,Gb rfl (PySem.evalArgs_none (hm pins s1 σ H1 x [] v [] Q I1 r1 .nil q1))⟩
theorem yP(pa:PlainAttrs T)(slot:Slot T name id)(hty:typeOf (.builtin id)=pure (.type "method_descriptor"))(hm:MtR X id r)(ho:PE X o to)(ha:PA X (e::es) t)
 (hbase:FH o name X.env (eval o X.env)=eval o X.env:=by rfl)
 (hfew:((Fn cpos (Eb (e::es) X.env)).all (fun x=>!x.1)&&(backToKw cpos (FR [] X.env)).all (fun x=>x.1.isSome)
  && decide ((e::es).length+([]:List Gp).length+(if([]:List Gp).isEmpty then 0 else 1)<30))=true:=by rfl)
 (hline:(apos.endLine==cpos.line)=true:=by rfl) (hs:Eb (e::es) X.env=(false,eval e X.env)::Eb es X.env:=by rfl) (hplain:(Fn cpos (Eb es X.env)).any (·.1)=false:=by rfl) :
 PE X (.Call (.Attribute o name apos) (e::es) [] cpos) (tBM X.K T r to t):=by
 intro pins s σ H Q I h
 refine wpAny_Call_method_late hbase hfew hline rfl (thn (ho pins s σ H _ I h) fun v s1 zz69_0=>?_)
 obtain⟨x,H1,I1,r1,ty,q1⟩:=zz69_0
 obtain⟨h1,h2⟩:=uV I1 r1 ty
 refine⟨T,id,pa,slot,hty,h1,h2,?_⟩
 have hA:=ha cpos pins s1 σ H1 _ I1 q1
 rw[hs]at hA ⊢
 refine Gb (by show(false||(Fn cpos (Eb es X.env)).any (·.1))=false;rw[hplain]<;>rfl) (Calls.evalArgs_plain ?_)
 exact thn hA fun us s2 zz70_0=>by obtain⟨vs,H2,I2,r2,q2⟩:=zz70_0;exact(hm pins s2 σ H2 x vs v us Q I2 r1 r2 q2)
/- xs.append(e),list.index on a module's tuple .. are MtR facts of 06m -/
end
def MtM(X:Cx)(id:String)(r:V->List V->Hp->VK->Prop):Prop:=
 ∀(pins:List (Addr×Obj)) (s:D6) (σ:St) (H:Hp) (x:V) (xs:List V) (v:D4) (us:List D4) (Q:VK),Inv X pins σ H s->RelV x v->Vals xs us->r x xs H Q->
  E7 (Ef X.prog X.w) X.A (call (.builtin id) (v::us)) (EP X pins σ Q) X.xe s
theorem Vals.one:∀{x:V} {us:List D4},Vals [x] us->∃u,us=[u]/\RelV x u
 |_,_,.cons r .nil=>⟨_,rfl,r⟩
theorem Vals.two:∀{x y:V} {us:List D4},Vals [x,y] us->∃u v,us=[u,v]/\RelV x u/\RelV y v
 |_,_,_,.cons r (.cons q .nil)=>⟨_,_,rfl,r,q⟩
theorem Vals.zero:∀{us:List D4},Vals [] us->us=[]
 |_,.nil=>rfl
theorem Vals.rep{xs:List V}{us:List D4}(h:Vals xs us):∀k:Nat,Vals (Er k xs).flatten (Er k us).flatten
 |0=>.nil
 |k+1=>by
  rw[Fv,Fv,Gx,Gx]
  exact Vals.append h (Vals.rep h k)
theorem foldl_rep(its:List D4):∀(k:Nat) (acc:List D4),
 List.foldl (fun x1 x2=>x1++x2) acc.toArray (Er k its.toArray)=(acc++(Er k its).flatten).toArray
 |0,acc=>by simp
 |k+1,acc=>by
  have e:acc.toArray++its.toArray=(acc++its).toArray:=by simp
  have e2:(acc++its)++(Er k its).flatten=acc++(Er (k+1) its).flatten:=by
   rw[Fv,Gx,List.append_assoc]
  rw[<-e2,<-foldl_rep its k (acc++its),<-e,Fv,List.foldl_cons]
section
variable{X:Cx}{pins:List (Addr×Obj)}{σ:St}{H:Hp}{s:D6}{l b:Addr}{xs ys zs:List V}
theorem Inv.zZ{its its':List D4}{n:Nat}{f:Array D4->Array D4}{t':Nat}(I:Inv X pins σ H s)(hH:H l=some (.lst xs))
 (e:s.heap.get? l=some { cls:=.type "list",data:=.seq its.toArray n }) (hf:f its.toArray=its'.toArray) (hv:Vals ys its') (hz:ys.length<=Ea) :
 Inv X pins σ (upd H l (.lst ys)) { s with heap:=s.heap.update l (Obj.mapSeq f),toks:=t' }:=by
 have q:=PySem.IsL.update e f
 rw[hf]at q
 refine I.write (x:=l) (e:=l) (by rw[hH];exact trivial) (.inl rfl) (fun b' u hb hu=>(EG s.heap (Obj.mapSeq f) (Ne.symm hb)).trans hu) ⟨_,q⟩ ?_
 exact⟨hz,its',_,hv,q⟩
theorem Inv.BG{its:List D4}{t':Nat}(I:Inv X pins σ H s)(hv:Vals ys its)(hz:ys.length<=Ea) : Inv X pins σ (upd H s.heap.objs.size (.lst ys)) { s with heap:=s.heap.push { cls:=.type "list",data:=.seq its.toArray },toks:=t' }:=I.laid (fun _ _ q=>D9 _ q) (E3 _) ⟨hz,its,0,hv,E6 _ rfl⟩
theorem Inv.fresh(I:Inv X pins σ H s):H s.heap.objs.size=none:=I.hok.fresh (E3 _)
theorem Inv.kS(I:Inv X pins σ H s)(hH:H l=some (.lst xs)):xs.length<=Ea/\∃(its:List D4) (n:Nat),Vals xs its/\xs.length=its.length/\s.heap.get? l=some { cls:=.type "list",data:=.seq its.toArray n }:=by obtain⟨z,its,n,r,e⟩:=I.hok l _ hH;exact⟨z,its,n,r,r.length,e⟩
theorem v8{n:Nat}(h:n<=Ea):Builtin.List.listTooLong n=false:=by unfold Builtin.List.listTooLong;exact decide_eq_false (by omega)
end
section
variable{X:Cx}
def xW:V->List V->Hp->VK->Prop:=fun x vs H Q=>∃l xs y,x=.ref l/\vs=[y]/\H l=some (.lst xs)/\xs.length<Ea/\Q .non (upd H l (.lst (xs++[y])))
theorem gJ:MtM X "list.append" xW:=by intro pins s σ H x vs v us Q I rx rv h;obtain⟨l,xs,y,rfl,rfl,hH,hz,q⟩:=h;cases rx;obtain⟨u,rfl,ru⟩:=rv.one;obtain⟨z,its,n,r,hl,e⟩:=I.kS hH;refine call_meets F.slot_list_append ⟨_,e,rfl⟩ F.entry_list_append (F.args_list_append_2 _ _) (PySem.list_append l its.toArray n u (by rw[Ec];omega)) ⟨e,?_⟩;refine⟨.non,_,I.zZ (its':=its++[u]) hH e (by simp) (r.append (.cons ru .nil)) ?_,rfl,q⟩;rw[Ff,List.length_singleton];omega
def zA:V->List V->Hp->VK->Prop:=fun x vs H Q=>∃l xs,x=.ref l/\vs=[]/\H l=some (.lst xs)/\Q .non (upd H l (.lst []))
theorem uK:MtM X "list.clear" zA:=by intro pins s σ H x vs v us Q I rx rv h;obtain⟨l,xs,rfl,rfl,hH,q⟩:=h;cases rx;have hus:=rv.zero;subst hus;obtain⟨z,its,n,r,hl,e⟩:=I.kS hH;refine call_meets F.slot_list_clear ⟨_,e,rfl⟩ F.entry_list_clear (F.args_list_clear_1 _) (AutoSeq1.list_clear_list_0 l its.toArray n (by rw[Ec];omega)) ⟨e,?_⟩;exact⟨.non,_,I.zZ (its':=[]) (ys:=[]) hH e rfl .nil (EZ _),rfl,q⟩
def DF:R2:=fun x y H Q=>∃l b xs zs,x=.ref l/\y=.ref b/\H l=some (.lst xs)/\H b=some (.lst zs)/\xs.length+zs.length<=Ea/\∀p,H p=none->Q (.ref p) (upd H p (.lst (xs++zs)))
theorem zf:OpR X (FN .Add) DF:=by
 intro pins s σ H x y v u Q I rx ry h;obtain⟨l,b,xs,zs,rfl,rfl,hH,hB,hz,q⟩:=h;cases rx;cases ry;obtain⟨z,its,n,r,hl,e⟩:=I.kS hH;obtain⟨z2,its2,n2,r2,hl2,e2⟩:=I.kS hB;refine PySem.P.add_list e e2 ?_ (by rw[Ec,Ec];omega);have ea:its.toArray++its2.toArray=(its++its2).toArray:=by simp
 rw[ea];exact⟨.ref _,_,I.BG (t':=s.toks) (r.append r2) (by rw[Ff];omega),rfl,q _ I.fresh⟩
def Dh:R2:=fun x y H Q=>∃l k xs,x=.ref l/\y=.int k/\H l=some (.lst xs)/\-(2^63)<=k/\k<2^63/\xs.length*k.toNat<=Ea/\
 ∀p,H p=none->Q (.ref p) (upd H p (.lst (Er k.toNat xs).flatten))
theorem len_rep{α:Type}(xs:List α)(k:Nat):(Er k xs).flatten.length=k*xs.length:=by
 induction k with
 |zero=>simp
 |succ k ih=>rw[Fv,Gx,Ff,ih,Nat.succ_mul,Nat.add_comm]
theorem zT:OpR X (FN .Mult) Dh:=by
 intro pins s σ H x y v u Q I rx ry h;obtain⟨l,k,xs,rfl,rfl,hH,h1,h2,hz,q⟩:=h;cases rx;obtain⟨t,rfl⟩:=ry;obtain⟨z,its,n,r,hl,e⟩:=I.kS hH;have hlen:its.toArray.size*k.toNat<=Ea:=by rw[Ec,<-hl];exact hz
 have hcap:¬its.toArray.size*k.toNat>(2^63-1)/8:=by
  have:(Ea:Nat)<=(2^63-1)/8:=by decide
  omega
 have hfit:¬(!Builtin.List.listFitsIndex k)=true:=by rw[fitsIndex_both h1 h2];exact Ei
 have hlong:¬Builtin.List.listTooLong (its.toArray.size*k.toNat)=true:=by rw[v8 hlen];exact Ei
 have hnew:List.foldl (fun x1 x2=>x1++x2) #[] (Er (if its.toArray.isEmpty=true then 0 else k.toNat) its.toArray)=(Er k.toNat its).flatten.toArray:=by
  have f0:∀m:Nat,List.foldl (fun x1 x2=>x1++x2) #[] (Er m its.toArray)=(Er m its).flatten.toArray:=fun m=>by
   have:=foldl_rep its m []
   rw[List.nil_append]at this
   exact this
  rw[f0]
  cases its with
  |nil=>simp
  |cons a r'=>rw[if_neg (by simp)]
 refine wpAny_binaryOp_repeat_ref (T:="list") (U:="int") (by decide) ⟨_,e,rfl⟩ (fun s'=>typeIs_int s' k t) noFill_list_mul F.fills_int_mul F.slot_int_rmul repeat_list F.slot_int_index.lookup
  (call_meets F.slot_int_rmul (typeIs_int s k t) F.entry_int_rmul (F.args_int_rmul_2 _ _) (int___rmul___int_list k t l its.toArray n)
   ⟨e,rfl,⟨_,e,rfl⟩,call_meets F.slot_list_mul ⟨_,e,rfl⟩ F.entry_list_mul (F.args_list_mul_2 _ _) (AutoListH.list___mul___list_int_3 l its.toArray n k t hfit hcap hlong) ⟨e,?_⟩⟩)
 rw[hnew];exact⟨.ref _,_,I.BG (t':=s.toks) (r.rep k.toNat) (by rw[len_rep,Nat.mul_comm];exact hz),rfl,q _ I.fresh⟩
end
section
variable{prog:Ee}{w:EB}{A:EE}{E:D4->D6->Prop}{s:D6}
end
section
variable{X:Cx}
end
end L2
namespace Att
open PySem PySem.W PySem.Calls PyProof.Rows
theorem iT{P:Et}{h:Heap}:∀(ns:List Int) (vs:List D4),WellAll P h vs (ns.map WData.int)->FD vs ns:=by
 intro ns
 induction ns with
 |nil=>
  intro vs w
  rw[EX]at w
  cases w
  exact .nil
 |cons n ns ih=>
  intro vs w
  rw[D7]at w
  cases w with
  |cons a b=>
   cases a
   exact .cons _ _ (ih _ b)
theorem sC{l:OpenLaw}{n:Nat}(hn:l.most=some n){P:Et}{h:Heap}{args:List WData}{vals:List D4}
 (hpre:l.row.toRowW.claim.pre args=true) (hwl:WellAll P h vals args) :
 ∃a vs ns,vals=[Fd a]/\args=[WData.list (ns.map WData.int)]/\h.get? a=some { cls:=.type "list",data:=.seq vs.toArray }/\FD vs ns/\ns.length<=n:=by
 have hsh:WShape.hasAll [] args [.list .int]=true:=(pre_splitW hpre).1
 have hc:l.pre.holds [] { args:=args }=true:=(pre_splitW hpre).2
 obtain⟨d,r,rfl,h1,h2⟩:=hasAllW_cons hsh
 obtain rfl:=hasAllW_nil h2
 obtain⟨xs,rfl,h3⟩:=hasW_list h1
 obtain⟨ns,rfl⟩:=items_int h3
 have hlen:ns.length<=n:=by
  unfold OpenLaw.pre at hc
  have h4:(WTm.not (.lt (.lit (.int (n:Int))) (.len (.arg 0)))).holds [] { args:=[.list (ns.map .int)] }=true:=by
   have h4:=(holds_andW hc).1
   rw[hn]at h4
   exact h4
  have h5:=condW_of h4 (w_not (w_lt w_lit (w_len_list (w_arg rfl))))
  rw[D8]at h5
  refine Nat.le_of_not_lt fun q=>?_
  have q':(n:Int)<((ns.length:Nat):Int):=by omega
  first
   |(rw[decide_eq_true q']at h5;exact absurd h5 (by decide))
   |(simp at h5;omega)
 cases hwl with
 |cons w1 w2=>
  cases w2
  cases w1 with
  |list ho hall=>exact⟨_,_,ns,rfl,rfl,ho,iT ns _ hall,hlen⟩
theorem rZ(l:OpenLaw)(args:List WData):l.row.toRowW.claim.post args (.bool true) args=true:=
 postW_of (r:=l.row.toRowW) (X:=(true==true))
  (show WShape.has [] (.bool true) .bool=true by first|rfl|decide|simp[WShape.has,WShape.arms,WShape.armsAll])
  (show(WTm.eq .res (.lit (.bool true))).value [] { args:=args,res:=some (.bool true),after:=args }=some (.bool (true==true))from w_eq_bool (w_res rfl) w_lit) rfl
theorem og{l:OpenLaw}{n:Nat}{q:Ee}{loose:List Str}{XP:(Str->Option D4)->Heap->Prop}{YP:EB->Heap->Prop}{d:DefRec}
 (hn:l.most=some n) (hdf:d.params.defaults=[])
 (call:∀(w:EB) (s₀ s₁:D6) (mg mb:Str->Option D4) (fa:Addr) (o:Obj) (pm cd doc:D4) (a:Addr) (vs:List D4) (ns:List Int),
  Ground q loose [] XP w s₀ mg mb s₁.heap->YP w s₁.heap->
  s₁.heap.get? fa=some o->o.data=.func (docDef d.name d.params d.body d.scope pm cd doc)->s₁.heap.CodeRec cd d.name->mg d.name=some (.ref fa)->
  s₁.heap.get? a=some { cls:=.type "list",data:=.seq vs.toArray }->FD vs ns->ns.length<=n->s₁.gens=#[]->
  FX (Ef l.prog w) callerA (.call (.ref fa) ⟨[.ref a],[]⟩) (fun r s'=>r=.ok (.ret (.bool true))/\OldK s₁.heap s'.heap/\s'.os=s₁.os/\AllBare s'.gens) s₁) :
 WalkO q loose XP YP l.row.toRowW d [] (fun f vs=>PySem.call f vs):=by
 intro w s₀ s₁ mg mb G Y fa o pm cd doc dV kV ho hd hcd hD hmg hg args vals as hpre hlay hrd hwl hlo
 obtain rfl:dV=.none:=Dflts.none hD hdf
 obtain rfl:kV=.none:=Dflts.noKw hD
 obtain⟨a,vs,ns,rfl,rfl,hobj,hints,hlen⟩:=sC hn hpre hwl
 refine enter_call (codeAny_mono (call w s₀ s₁ mg mb fa o pm cd doc a vs ns G Y ho (fd_plain hd) hcd hmg hobj hints hlen hg) fun r s' hq=>?_)
 obtain⟨rfl,h2,h3,h4⟩:=hq
 exact⟨.inl ⟨.bool true,.bool true,[],rfl,fun _=>rfl,.bool true,rZ l _,fun _=>⟨List.Pairwise.nil,fun _ hm=>(nomatch hm)⟩⟩,h2,h3,h4⟩
section
variable{prog:Ee}{w:EB}{A:EE}{E:D4->D6->Prop}{s:D6}{K:Frag}
end
end Att
namespace L2
open PySem PySem.Spec PyProof.Rows
theorem gN:∀{vs:List D4} {ns:List Int},FD vs ns->Vals (ns.map V.int) vs
 |_,_,.nil=>.nil
 |_,_,.cons n t h=>.cons ⟨t,rfl⟩ (gN h)
def AI(H:Hp):Prop:=∀b,H b=none\/∃o xs,H b=some (.frz o (.lst xs))
theorem ur{P:Ee}{w:EB}{K:D5}{mg mb:Str->Option D4}{CX:CXT}{k:Nat}{fa a:Addr}{fd:Gw}{x:Str}{sp:Sp}{s₁:D6}{vs:List D4}{ns:List Int}
 (KX:K.In s₁.heap) (hns:s₁.heap.Ns Gv mg) (hb:s₁.heap.Ns builtinsNs mb) (hbb:∀x:Str,x≠"__name__"->mb x=F7 x) (hlim:s₁.heap.NoLimit) (hg:s₁.gens=#[])
 (ha:s₁.heap.get? a=some { cls:=.type "list",data:=.seq vs.toArray }) (hi:FD vs ns) (hl:ns.length<=Ea) (hr:Room k callerA)
 (F:∀base:Heap,K.In base->base.Ns Gv mg->FnOk P w K mg base CX k fa fd [x] sp) (hbind:∀(s:D6) (u:D4),BindsTo s fd ⟨[u],[]⟩ [(x,u)])
 (hsp:∀H:Hp,AI H->SqL K H a (ns.map V.int)->sp [.ref a] H (fun v _=>v=.bl true) fun _ _ _=>False)
 (hCX:∀H e s',CX [] H s₁ (fun _ _ _=>False) e s'->False) :
 FX (Ef P w) callerA (.call (.ref fa) ⟨[.ref a],[]⟩) (fun r s'=>r=.ok (.ret (.bool true))/\OldK s₁.heap s'.heap/\s'.os=s₁.os/\AllBare s'.gens) s₁:=by
 have rv:=gN hi
 have lenV:=hi.length
 have core:∀H:Hp,AI H->SqL K H a (ns.map V.int)->HOk P w H s₁.heap->(∀b,H b≠none->b=a)->(H a≠none->K.lookup a=none)->
  FX (Ef P w) callerA (.call (.ref fa) ⟨[.ref a],[]⟩) (fun r s'=>r=.ok (.ret (.bool true))/\OldK s₁.heap s'.heap/\s'.os=s₁.os/\AllBare s'.gens) s₁:=by
  intro H hO hS hok hA hK
  have base_of:∀{b:Addr} {o:Obj},s₁.heap.get? b=some o->H b=none->(mR s₁.heap H).get? b=some o:=fun e n=>uB e n
  have noA:∀{b:Addr} {o:Obj} {es:Array Fe} {ep:Nat},s₁.heap.get? b=some o->o.data=.dict es ep->H b=none:=fun{b o es ep} e d=>by
   cases q:H b with
   |none=>rfl
   |some u=>
    have e':b=a:=hA b (by rw[q];simp)
    subst e'
    rw[ha]at e;cases e
    have d':Data.seq vs.toArray _=Data.dict es ep:=d
    cases d'
  have nsK:∀{b:Addr} {m:Str->Option D4},s₁.heap.Ns b m->(mR s₁.heap H).Ns b m:=fun{b m} zz73_0=>by obtain⟨o,es,ep,e,d,r⟩:=zz73_0;exact(⟨o,es,ep,base_of e (noA e d),d,r⟩)
  have hKb:K.In (mR s₁.heap H):=fun b o e=>base_of (KX b o e) (by
   cases q:H b with
   |none=>rfl
   |some u=>
    have e':b=a:=hA b (by rw[q];simp)
    subst e'
    rw[hK (by rw[q];simp)]at e;cases e)
  have hM:Mod K mg (mR s₁.heap H):=⟨hKb,nsK hns,⟨mb,nsK hb,hbb⟩,let⟨mc,h1,h2⟩:=hlim;⟨mc,nsK h1,h2⟩⟩
  have e0:Env0 P w K mg (mR s₁.heap H) callerA [] s₁ H:=⟨rfl,hM,fun b o e=>xw e,Nat.le_of_eq (sF _ _),trivial,fun b hb=>absurd (show b∈([]:List Addr)from hb) (by simp),hok,.of_eq hg⟩
  refine codeAny_mono ((F _ hKb (nsK hns)).run callerA [] s₁ H ⟨[.ref a],[]⟩ [.ref a] [.ref a] _ _ hr e0 (hbind s₁ (.ref a)) (.cons rfl .nil) (hsp H hO hS)) fun r s' h=>?_
  cases r with
  |error e=>exact(hCX H e s' h).elim
  |ok fl=>
   cases fl with
   |next=>exact GO h
   |brk=>exact GO h
   |cont=>exact GO h
   |ret u=>
    obtain⟨v,H',os,bare,un,hok',r',q⟩:=h
    have q':v=.bl true:=q
    subst q'
    obtain rfl:u=Value.bool true:=r'
    refine⟨rfl,OldK.of_keep fun b o e=>?_,os,bare⟩
    cases q:H b with
    |none=>exact un.keep b o e q (by intro z;exact absurd (show b∈([]:List Addr)from z) (by simp)) (by simp)
    |some u=>
     rcases hO b with z|⟨ob,xs,z⟩
     ·rw[q]at z;cases z
     ·have z2:=un.frzs b ob _ z
      obtain⟨e1,_⟩:=hok b _ z
      obtain⟨e2,_⟩:=hok' b _ z2
      rw[e]at e1;cases e1
      exact e2
 cases hk:K.lookup a with
 |some o=>
  have e:=KX a o hk
  rw[ha]at e
  cases e
  refine core (fun _=>none) (fun _=>.inl rfl) (.inr ⟨_,vs.toArray,_,hk,rfl,rfl,rfl,by rw[Ec,lenV];exact hl,by simpa using rv⟩) (fun b u z=>by have z':(none:Option HO)=some u:=z;cases z') (fun b z=>absurd rfl z) fun z=>absurd rfl z
 |none=>
  refine core (fun b=>if b=a then some (.frz { cls:=.type "list",data:=.seq vs.toArray } (.lst (ns.map V.int)))else none) (fun b=>?_) (.inl (.inr ⟨{ cls:=.type "list",data:=.seq vs.toArray },if_pos rfl⟩)) (fun b u z=>?_) (fun b z=>?_) fun _=>hk
  ·by_cases hb:b=a
   ·exact .inr ⟨_,_,if_pos hb⟩
   ·exact .inl (if_neg hb)
  ·by_cases hb:b=a
   ·have z':=(if_pos hb).symm.trans z
    cases z'
    subst hb
    exact⟨ha,by rw[D8];exact hl,vs,_,rv,ha⟩
   ·have z':=(if_neg hb).symm.trans z
    cases z'
  ·by_cases hb:b=a
   ·exact hb
   ·exact absurd (if_neg hb) z
abbrev KOf{K:D5}{h:Heap}(_:K.In h):D5:=K
theorem xu{l:PySem.W.OpenLaw}{n k:Nat}{q:Ee}{loose:List Str}{XP:(Str->Option D4)->Heap->Prop}{YP:EB->Heap->Prop}{d:DefRec}{K:Et->D5}{CX:EB->CXT}{sp:EB->Sp}{x:Str}
 (hn:l.most=some n) (hn2:n<=Ea) (hdf:d.params.defaults=[]) (hr:Room k callerA)
 (hY:∀(w:EB) (h:Heap),YP w h->(K w.params).In h)
 (F:∀(w:EB) (mg:Str->Option D4) (fa:Addr) (h:Heap),(K w.params).In h->h.Ns Gv mg->mg d.name=some (.ref fa)->
  ∃fd:Gw,(∀(s:D6) (u:D4),BindsTo s fd ⟨[u],[]⟩ [(x,u)])/\
   ∀base:Heap,(K w.params).In base->base.Ns Gv mg->FnOk l.prog w (K w.params) mg base (CX w) k fa fd [x] (sp w))
 (hsp:∀(w:EB) (H:Hp) (a:Addr) (ns:List Int),ns.length<=n->AI H->SqL (K w.params) H a (ns.map V.int)->sp w [.ref a] H (fun v _=>v=.bl true) fun _ _ _=>False)
 (hCX:∀(w:EB) (H:Hp) (s:D6) (e:D4) (s':D6),CX w [] H s (fun _ _ _=>False) e s'->False) :
 PySem.W.WalkO q loose XP YP l.row.toRowW d [] (fun f vs=>PySem.call f vs):=by
 refine Att.og hn hdf fun w s₀ s₁ mg mb fa o pm cd doc a vs ns G Y ho hd hcd hmg hobj hints hlen hg=>?_
 have KX:=hY w _ Y
 obtain⟨fd,hb,hF⟩:=F w mg fa _ KX G.T.g hmg
 exact ur KX G.T.g G.T.b G.T.builtins G.T.nolimit hg hobj hints (ER hlen hn2) hr hF hb (fun H hO hS=>hsp w H a ns hlen hO hS) fun H e s'=>hCX w H s₁ e s'
def bY(s:Stmt):Arguments:=match s with
 |.FunctionDef _ a _ _ _ _ _ _ _ _=>a
 |_=>{ posonlyargs:=[],args:=[],vararg:=none,kwonlyargs:=[],kw_defaults:=[],kwarg:=none,defaults:=[] }
def aS(s:Stmt):List Stmt:=match s with
 |.FunctionDef _ _ b _ _ _ _ _ _ _=>b
 |_=>[]
def ao(s:Stmt):G5:=match s with
 |.FunctionDef _ _ _ _ _ _ sc _ _ _=>sc
 |_=>{ kind:=.function,names:=[],isGenerator:=false,isCoroutine:=false }
abbrev CX0:CXT:=fun _ _ _ _ _ _=>False
abbrev E0:XK:=fun _ _ _=>False
theorem BU{X:Cx}:Passes CX0 X E0:=fun _ _ _ _ _ _ _ h=>h.elim
structure Fun(K:D5)(x qual:Str)(st:Stmt)(f:Addr)(fd:Gw):Prop where
 ex:∃(oc:D4) (od:Option Addr) (kV doc pm:D4) (an:Option Addr) (cdv ct:D4) (osl:Array (Option D4)),
  fd=FC x qual (bY st) (aS st) (ao st) .none kV doc pm an cdv ct/\K.lookup f=some ⟨oc,od,.func fd,osl⟩/\PySem.W.codeIn K cdv qual=true
 kp:PySem.W.keepIn K (.ref f)=true
section
variable{P:Ee}{w:EB}{K:D5}{mg:Str->Option D4}{base:Heap}
theorem Fun.ok{x qual:Str}{st:Stmt}{f:Addr}{fd:Gw}{N ps:List Str}{k:Nat}{sp:Sp}(F:Fun K x qual st f fd)(S:FnScope N ps (ao st))(len:∀vs H Q E,sp vs H Q E->vs.length=ps.length)
 (hbody:∀(cdv:D4) (A:EE) (outer:List Env) (s:D6) (H:Hp) (vs:List V) (Q:VK) (E:XK),Room k (A.deeper (envOfC qual (ao st) s.heap.objs.size f cdv))->sp vs H Q E->
  ∃t,PSs (gR CX0 P w K mg base N qual (ao st) f cdv A outer s H E).nox (aS st) t/\t { nx:=fun _ H'=>Q .non H',rt:=Q } (start N vs) H):FnOk P w K mg base CX0 (k+1) f fd ps sp:=by
 obtain⟨oc,od,kV,doc,pm,an,cdv,ct,osl,rfl,lk,hcd⟩:=F.ex
 refine C0 lk hcd S len fun A outer s H vs Q E hr hsp=>?_
 obtain⟨t,h,q⟩:=hbody cdv A outer s H vs Q E hr hsp
 exact⟨t,h.nox,q⟩
theorem Fun.binds{x qual:Str}{st:Stmt}{f:Addr}{fd:Gw}{ps:List Str}(F:Fun K x qual st f fd) (h:∀(kV doc pm:D4) (an:Option Addr) (cdv ct:D4) (us:List D4),us.length=ps.length->bindArgs (FC x qual (bY st) (aS st) (ao st) .none kV doc pm an cdv ct) ⟨us,[]⟩=pure (ps.zip us)):Binds K fd ps []:=by obtain⟨oc,od,kV,doc,pm,an,cdv,ct,osl,rfl,lk,hcd⟩:=F.ex;exact .all (h kV doc pm an cdv ct)
theorem zo{x qual:Str}{st:Stmt}{f:Addr}{oc:D4}{od an:Option Addr}{osl:Array (Option D4)}{kV doc pm cdv ct:D4}(l:K.lookup f=some ⟨oc,od,.func (FC x qual (bY st) (aS st) (ao st) .none kV doc pm an cdv ct),osl⟩) (c:PySem.W.codeIn K cdv qual=true) (k:PySem.W.keepIn K (.ref f)=true):Fun K x qual st f (FC x qual (bY st) (aS st) (ao st) .none kV doc pm an cdv ct):=⟨⟨oc,od,kV,doc,pm,an,cdv,ct,osl,rfl,l,c⟩,k⟩
end
section
variable{X:Cx}
end
theorem kQ{A B:Prop}(h:A):if true=true then A else B:=by rw[if_pos rfl];exact h
theorem bD{c A B:Prop}[Decidable c](h1:c->A)(h2:¬c->B):if c then A else B:=by
 by_cases h:c
 ·rw[if_pos h];exact h1 h
 ·rw[if_neg h];exact h2 h
section
variable{κ:Type}[DecidableEq κ]
def dI(kvs:List (κ×V))(k:κ):Option V:=(kvs.find? fun kv=>decide (kv.1=k)).map (·.2)
def putK(kvs:List (κ×V))(k:κ)(v:V):List (κ×V):=
 if(kvs.any fun kv=>decide (kv.1=k))=true then kvs.map (fun kv=>if kv.1=k then(kv.1,v)else kv)else kvs++[(k,v)]
theorem bW{p:κ×V}{r:List (κ×V)}{k:κ}(e:p.1=k):dI (p::r) k=some p.2:=by simp[dI,E9,e]
theorem bV{p:κ×V}{r:List (κ×V)}{k:κ}(e:¬p.1=k):dI (p::r) k=dI r k:=by simp[dI,E9,e]
theorem de(k:κ):∀kvs:List (κ×V),(kvs.any fun kv=>decide (kv.1=k))=(dI kvs k).isSome
 |[]=>rfl
 |p::r=>by
  rw[Fy]
  by_cases e:p.1=k
  ·simp only[bW e,decide_eq_true e,Bool.true_or,Option.isSome_some]
  ·rw[bV e,decide_eq_false e,Bool.false_or];exact de k r
theorem m8(k j:κ)(y:V):∀kvs:List (κ×V),dI (kvs.map fun kv=>if kv.1=k then(kv.1,y)else kv) j=(dI kvs j).map fun x=>if j=k then y else x
 |[]=>rfl
 |p::r=>by
  have ih:=m8 k j y r
  rw[D7]
  by_cases h:p.1=k
  ·rw[if_pos h]
   by_cases e:p.1=j
   ·rw[bW (p:=(p.1,y)) e,bW e,Option.map_some,if_pos (e.symm.trans h)]
   ·rw[bV (p:=(p.1,y)) e,bV e,ih]
  ·rw[if_neg h]
   by_cases e:p.1=j
   ·rw[bW (p:=p) e,bW e,Option.map_some,if_neg (fun z=>h (e.trans z))]
   ·rw[bV (p:=p) e,bV e,ih]
theorem lD(k j:κ)(y:V):∀kvs:List (κ×V),dI kvs k=none->dI (kvs++[(k,y)]) j=if j=k then some y else dI kvs j
 |[],_=>by
  by_cases e:k=j
  ·rw[if_pos e.symm];exact bW (p:=(k,y)) e
  ·rw[if_neg (fun z=>e z.symm)];exact bV (p:=(k,y)) e
 |p::r,hn=>by
  rw[List.cons_append]
  have hk:¬p.1=k:=fun z=>by rw[bW z]at hn;cases hn
  rw[bV hk]at hn
  have ih:=lD k j y r hn
  by_cases e:p.1=j
  ·rw[bW e,bW e,if_neg (fun z=>hk (e.trans z))]
  ·rw[bV e,bV e,ih]
theorem uM(kvs:List (κ×V))(k j:κ)(y:V):dI (putK kvs k y) j=if j=k then some y else dI kvs j:=by
 unfold putK;by_cases a:(kvs.any fun kv=>decide (kv.1=k))=true
 ·rw[if_pos a,m8];rw[de]at a;by_cases e:j=k
  ·obtain⟨x,hx⟩:=Option.isSome_iff_exists.mp a;rw[if_pos e,e,hx,Option.map_some,if_pos rfl]
  ·rw[if_neg e];cases dI kvs j with
   |none=>rfl
   |some x=>rw[Option.map_some,if_neg e]
 ·rw[if_neg a];refine lD k j y kvs ?_;rw[de]at a;cases q:dI kvs k with
  |none=>rfl
  |some x=>rw[q]at a;exact(a rfl).elim
theorem eV(kvs:List (κ×V))(k:κ)(v:V):(putK kvs k v).length<=kvs.length+1:=by
 unfold putK;split
 ·rw[D8];omega
 ·rw[Ff,EA,Ft];omega
theorem rR.ic{o:Option V}{u:Option D4}(r:rR o u):o.isSome=u.isSome:=by
 cases o with
 |none=>cases u with
  |none=>rfl
  |some _=>exact(show False from r).elim
 |some _=>cases u with
  |none=>exact(show False from r).elim
  |some _=>rfl
theorem KV.val{kvs:List (κ×V)}{vs:List (κ×D4)}(r:KV kvs vs)(k:κ):rR (dI kvs k) (valueAt vs k):=by
 unfold KV at r
 induction r with
 |nil=>exact True.intro
 |@cons p q ps qs h t ih=>
  obtain⟨h1,h2⟩:=h
  by_cases e:p.1=k
  ·have e':q.1=k:=h1.symm.trans e;have b:valueAt (q::qs) k=some q.2:=by simp[valueAt,E9,e']
   rw[bW e,b];exact h2
  ·have e':¬q.1=k:=fun z=>e (h1.trans z);have b:valueAt (q::qs) k=valueAt qs k:=by simp[valueAt,E9,e']
   rw[bV e,b];exact ih
theorem KV.any{kvs:List (κ×V)}{vs:List (κ×D4)}(r:KV kvs vs)(k:κ):(kvs.any fun kv=>decide (kv.1=k))=vs.any fun kv=>decide (kv.1=k):=by
 unfold KV at r
 induction r with
 |nil=>rfl
 |cons h t ih=>rw[Fy,Fy,ih,h.1]
theorem KV.A3{kvs:List (κ×V)}{vs:List (κ×D4)}(r:KV kvs vs)(k:κ){y:V}{u:D4}(ry:RelV y u) :
 KV (kvs.map fun kv=>if kv.1=k then(kv.1,y)else kv) (vs.map fun kv=>if kv.1=k then(kv.1,u)else kv):=by
 unfold KV at r ⊢
 induction r with
 |nil=>exact .nil
 |@cons p q ps qs h t ih=>
  rw[D7,D7]
  refine .cons ?_ ih
  obtain⟨h1,h2⟩:=h
  by_cases e:p.1=k
  ·rw[if_pos e,if_pos (h1.symm.trans e)];exact⟨h1,ry⟩
  ·rw[if_neg e,if_neg (fun z=>e (h1.trans z))];exact⟨h1,h2⟩
theorem KV.put{kvs:List (κ×V)}{vs:List (κ×D4)}(r:KV kvs vs)(k:κ){y:V}{u:D4}(ry:RelV y u):KV (putK kvs k y) (stored vs k u):=by
 unfold putK stored;rw[r.any k];by_cases e:(vs.any fun kv=>decide (kv.1=k))=true
 ·rw[if_pos e,if_pos e];exact r.A3 k ry
 ·rw[if_neg e,if_neg e];exact Paired.snoc r ⟨rfl,ry⟩
theorem KV.length{kvs:List (κ×V)}{vs:List (κ×D4)}(r:KV kvs vs):kvs.length=vs.length:=Paired.length r
end
theorem vM{P:Ee}{w:EB}{k:Key}{u:D4}(r:RelV (kV k) u):(bO P w).is k u=true:=by
 cases k with
 |inl i=>obtain⟨t,e⟩:=(show ∃t,u=Value.int i t from r);subst e;exact mX P w i t
 |inr x=>obtain⟨t,e⟩:=(show ∃t,u=Value.str x t from r);subst e;exact mV P w x t
theorem lN{P:Ee}{w:EB}:∀{ks:List Key} {us:List D4},Vals (ks.map kV) us->ItemsAre (bO P w) ks us
 |[],_,r=>by rw[EX]at r;cases r;exact .nil
 |k::ks,_,r=>by
  rw[D7]at r
  cases r with
  |cons h t=>exact .cons (vM h) (lN t)
abbrev KT(H:Hp):List (List Key×V)->List (List Key×Addr×D4)->Prop:=FL fun p q=>p.1=q.1/\H q.2.1=some (.tup (p.1.map kV))/\RelV p.2 q.2.2
theorem KT.val{H:Hp}{kvs:List (List Key×V)}{xs:List (List Key×Addr×D4)}(r:KT H kvs xs)(k:List Key):rR (dI kvs k) ((Gy xs k).map (·.2)):=by
 induction r with
 |nil=>exact True.intro
 |@cons p q ps qs h t ih=>
  obtain⟨h1,_,h2⟩:=h
  by_cases e:p.1=k
  ·have e':q.1=k:=h1.symm.trans e;have b:Gy (q::qs) k=some q.2:=by simp[Gy,E9,e']
   rw[bW e,b];exact h2
  ·have e':¬q.1=k:=fun z=>e (h1.trans z);have b:Gy (q::qs) k=Gy qs k:=by simp[Gy,E9,e']
   rw[bV e,b];exact ih
theorem KT.A3{H:Hp}{kvs:List (List Key×V)}{xs:List (List Key×Addr×D4)}(r:KT H kvs xs)(k:List Key){y:V}{u:D4}(ry:RelV y u) :
 KT H (kvs.map fun kv=>if kv.1=k then(kv.1,y)else kv) (xs.map (putAt k u)):=by
 induction r with
 |nil=>exact .nil
 |@cons p q ps qs h t ih=>
  rw[D7,D7]
  refine .cons ?_ ih
  obtain⟨h1,h2,h3⟩:=h
  unfold putAt
  by_cases e:p.1=k
  ·rw[if_pos e,if_pos (h1.symm.trans e)];exact⟨h1,h2,ry⟩
  ·rw[if_neg e,if_neg (fun z=>e (h1.trans z))];exact⟨h1,h2,h3⟩
theorem KT.put{H:Hp}{kvs:List (List Key×V)}{xs:List (List Key×Addr×D4)}(r:KT H kvs xs)(k:List Key){b:Addr}{y:V}{u:D4}(hb:H b=some (.tup (k.map kV)))(ry:RelV y u) :
 KT H (putK kvs k y) (storedH xs k b u):=by
 have e:(kvs.any fun kv=>decide (kv.1=k))=(Gy xs k).isSome:=by
  rw[de,(r.val k).ic,Option.isSome_map]
 unfold putK storedH
 rw[e]
 by_cases q:(Gy xs k).isSome=true
 ·rw[if_pos q,if_pos q];exact r.A3 k ry
 ·rw[if_neg q,if_neg q];exact Paired.snoc r ⟨rfl,hb,ry⟩
theorem KT.keeps{H H':Hp}{kvs:List (List Key×V)}{xs:List (List Key×Addr×D4)}(r:KT H kvs xs)(ht:∀b ys,H b=some (.tup ys)->H' b=some (.tup ys)):KT H' kvs xs:=Paired.Bh r fun _ _ z=>⟨z.1,ht _ _ z.2.1,z.2.2⟩
section
variable{P:Ee}{w:EB}{H:Hp}{h:Heap}{a:Addr}
theorem yW{u:HO}(ok:HOk P w H h)(e:Rd H a u):bL P w H h a u:=e.ok ok
theorem yq{kvs:List (Key×V)}(ok:HOk P w H h)(e:Rd H a (.dK kvs)):kvs.length<=Ea/\(a==Fp)=false/\∃vs,KV kvs vs/\h.DictOf (bO P w) a vs:=show bL P w H h a (.dK kvs)from yW ok e
theorem BM{kvs:List (Key×V)}(ok:HOk P w H h)(e:H a=some (.dK kvs)):kvs.length<=Ea/\(a==Fp)=false/\∃vs,KV kvs vs/\h.DictOf (bO P w) a vs:=yq ok (.inl e)
theorem qr{ks:List Key}(ok:HOk P w H h)(e:H a=some (.tup (ks.map kV))):(tupleKind (bO P w)).is h ks a:=by obtain⟨_,its,r,⟨o,h1,h2,n,h3⟩,_⟩:=(show bL P w H h a (.tup (ks.map kV))from ok a _ e);exact⟨o,its.toArray,n,h1,h2,h3,by simpa using lN r⟩
theorem yM{kvs:List (List Key×V)}(ok:HOk P w H h)(e:Rd H a (.dT kvs)):kvs.length<=Ea/\(a==Fp)=false/\
 ∃xs,KT H kvs xs/\h.DictOfH (tupleKind (bO P w)) a xs:=by
 obtain⟨z,y,xs,r,o,es,ep,h1,h2,h3,h4,h5⟩:=(show bL P w H h a (.dT kvs)from yW ok e)
 refine⟨z,y,xs,r,o,es,ep,h1,h2,h3,h4,fun x hx=>?_,h5⟩
 have all:∀{l:List (List Key×V)} {m:List (List Key×Addr×D4)},KT H l m->∀x∈m,(tupleKind (bO P w)).is h x.1 x.2.1:=by
  intro l m q
  induction q with
  |nil=>intro x hx;exact nomatch hx
  |@cons p q ps qs hq t ih=>
   intro x hx
   rcases EM.mp hx with e|hx
   ·subst e
    exact qr ok (by rw[<-hq.1];exact hq.2.1)
   ·exact ih x hx
 exact all r x hx
theorem BI{kvs:List (List Key×V)}(ok:HOk P w H h)(e:H a=some (.dT kvs)):kvs.length<=Ea/\(a==Fp)=false/\∃xs,KT H kvs xs/\h.DictOfH (tupleKind (bO P w)) a xs:=yM ok (.inl e)
end
def Bj(H:Hp)(a:Addr)(y:V)(r:Option V):Prop:=
 (∃kvs k,Rd H a (.dK kvs)/\y=kV k/\r=dI kvs k)\/∃kvs k b,Rd H a (.dT kvs)/\y=.ref b/\H b=some (.tup (k.map kV))/\r=dI kvs k
def CO(H:Hp)(a:Addr)(y v:V)(H':Hp):Prop:=
 (∃kvs k,H a=some (.dK kvs)/\y=kV k/\kvs.length<Ea/\H'=upd H a (.dK (putK kvs k v)))\/
 ∃kvs k b,H a=some (.dT kvs)/\y=.ref b/\H b=some (.tup (k.map kV))/\kvs.length<Ea/\H'=upd H a (.dT (putK kvs k v))
section
variable{X:Cx}{pins:List (Addr×Obj)}{σ:St}{H:Hp}{s:D6}{a:Addr}{y v:V}{u r:D4}{o:Option V}{A:EE}{E:D4->D6->Prop}
theorem Inv.big(I:Inv X pins σ H s):Fp<s.heap.objs.size:=by have h:Gv<s.heap.objs.size:=(I.mod.glob.keeps I.bk).lt;exact Nat.lt_trans (by decide) h
theorem ye{Q:D4->D6->Prop}(hu:A.units+1<F0)(I:Inv X pins σ H s)(g:Bj H a y o)(ry:RelV y u)(h:∀s',Inv X pins σ H s'->Q (.bool (!o.isSome)) s') : E7 (Ef X.prog X.w) A (EK .NotIn u (.ref a)) Q E s:=by
 rcases g with⟨kvs,k,e,ey,l⟩|⟨kvs,k,b,e,ey,eb,l⟩
 ·subst ey;obtain⟨z,hd,vs,rel,dd⟩:=yq I.hok e;refine wpAny_notIn_of (vM ry) hd dd.mapOf ?_;rw[<-(rel.val k).ic,<-l];exact h _ (I.tok _)
 ·subst ey;cases (show u=Fd b from ry);obtain⟨z,hd,xs,rel,dd⟩:=yM I.hok e;refine wpAny_notIn_heap (tupleKind_room_in1 hu) (qr I.hok eb) hd dd ?_;have q:=(rel.val k).ic;rw[Option.isSome_map]at q;rw[<-q,<-l];exact h _ (I.tok _)
theorem gr{h':Heap}{t':Nat}{ob:HO}(I:Inv X pins σ H s)(mu:Mut (H a))(hs:G8 a s.heap h')(he:∃q,h'.get? a=some q)(new:bL X.prog X.w (upd H a ob) h' a ob) : Inv X pins σ (upd H a ob) { s with heap:=h',toks:=t' }:=I.write (x:=a) (e:=a) mu (.inl rfl) (fun b q hb z=>(hs.2 b hb).trans z) he new
theorem Af{P:Ee}{w:EB}{H':Hp}{h':Heap}{kvs:List (Key×V)}{vs:List (Key×D4)}(z:kvs.length<=Ea)(hd:(a==Fp)=false)(rel:KV kvs vs)(dd:h'.DictOf (bO P w) a vs) : bL P w H' h' a (.dK kvs):=⟨z,hd,vs,rel,dd⟩
theorem sN{H':Hp}{Q:Unit->D6->Prop}(hu:A.units+1<F0)(I:Inv X pins σ H s)(g:CO H a y v H')(ry:RelV y u)(rv:RelV v r)(h:∀s',Inv X pins σ H' s'->Q () s') : E7 (Ef X.prog X.w) A (setItem (.ref a) u r) Q E s:=by
 rcases g with⟨kvs,k,e,ey,l,eH⟩|⟨kvs,k,b,e,ey,eb,l,eH⟩
 ·subst ey eH;obtain⟨z,hd,vs,rel,dd⟩:=BM I.hok e;have hz:vs.length<=Ea:=by rw[<-rel.length];exact z
  have hl:(putK kvs k v).length<=Ea:=by have:=eV kvs k v;omega
  refine wpAny_setItem_pairs (hsz:=hz) (vM ry) dd fun h' dd' hs=>h _ ?_;have he:∃q,h'.get? a=some q:=let⟨q,_,_,hq,_⟩:=dd';⟨q,hq⟩
  exact gr I (by rw[e];exact True.intro) hs he (Af hl hd (rel.put k rv) dd')
 ·subst ey eH;cases (show u=Fd b from ry);obtain⟨z,hd,xs,rel,dd⟩:=BI I.hok e;have hz:xs.length<=Ea:=by rw[<-Paired.length rel];exact z
  have hl:(putK kvs k v).length<=Ea:=by have:=eV kvs k v;omega
  refine wpAny_setItem_heap (hsz:=hz) (tupleKind_room_in1 hu) (qr I.hok eb) dd fun h' dd' hs=>h _ ?_;obtain⟨q,es,ep,hq,h2,h3,h4,_,h5⟩:=dd';refine gr I (by rw[e];exact True.intro) hs ⟨q,hq⟩ ⟨hl,hd,_,(rel.put k eb rv).keeps fun c ys ec=>?_,q,es,ep,hq,h2,h3,h4,h5⟩;rw[aL (Cb ec e (fun z=>nomatch z))];exact ec
end
section
variable{X:Cx}{pins:List (Addr×Obj)}{σ:St}{H:Hp}{s:D6}{a:Addr}{kvs:List (Key×V)}{k:Key}{u:D4}{A:EE}{E:D4->D6->Prop}
end
def ya(i:Expr):Prop:=∀ov iv,subscripted i false ov iv=operate [ov,iv] (getItem ov iv)
def xZ(ty td:TE):TE:=fun σ H Q=>ty σ H fun y H1=>td σ H1 fun x H2=>∃a o,x=.ref a/\Bj H2 a y o/\Q (.bl (!o.isSome)) H2
def BN(td ty tv:TE):TS:=fun D σ H=>tv σ H fun v H1=>td σ H1 fun x H2=>ty σ H2 fun y H3=>∃a H4,x=.ref a/\CO H3 a y v H4/\D.nx σ H4
section
variable{X:Cx}{o i e value:Expr}{pos pos' tpos:Pos}{td ty tv:TE}
theorem sM(hu:X.A.units+1<F0)(hi:PE X i ty)(ho:PE X o td):PC X .NotIn i o (xZ ty td):=by intro pins s σ H Q I h;refine thn (hi pins s σ H _ I h) fun iv s1 ⟨y,H1,I1,ry,q1⟩=>thn (ho pins s1 σ H1 _ I1 q1) fun u s2 ⟨x,H2,I2,rx,a,ov,ex,g,q2⟩=>?_;subst ex;obtain rfl:u=Fd a:=rx;exact ye hu I2 g ry fun s3 I3=>⟨.bl (!ov.isSome),H2,I3,rfl,q2⟩
theorem xA(hu:X.A.units+1<F0)(ho:PE X o td)(hi:PE X i ty)(hv:PE X value tv)(hs:GI value (some (.Subscript o i pos')) pos.line X.env=pure false) : PS X (.Assign [.Subscript o i pos'] value pos) (BN td ty tv):=by intro pins s σ H D I h;refine wpAny_Assign_Subscript (thn (hv pins s σ H _ I h) fun r s1 ⟨v,H1,I1,rv,q1⟩=>thn (ho pins s1 σ H1 _ I1 q1) fun u s2 ⟨x,H2,I2,rx,q2⟩=>thn (hi pins s2 σ H2 _ I2 q2) fun iv s3 ⟨y,H3,I3,ry,a,H4,ex,g,q3⟩=>?_) hs;subst ex;obtain rfl:u=Fd a:=rx;exact sN hu I3 g ry rv fun s4 I4=>⟨σ,H4,I4,q3⟩
end
theorem tM{P:Ee}{w:EB}{H:Hp}(h:Heap)(hb:Fp<h.objs.size):bL P w H (h.push { cls:=.type "dict",data:=.dict #[] }) h.objs.size (.dK []):=⟨EZ _,beq_eq_false_iff_ne.mpr (Ne.symm (Ex hb)),[],.nil,Heap.DictOf.new h⟩
def Bo:TE:=fun _ H Q=>∀p,H p=none->Q (.ref p) (upd H p (.dK []))
section
variable{X:Cx}{pos:Pos}
theorem tF:PE X (.Dict [] [] pos) Bo:=fun pins s σ H Q I h=>wpAny_Dict_empty ⟨.ref s.heap.objs.size,_,I.laid (a:=s.heap.objs.size) (o:=.dK []) (t':=s.toks) (fun _ _ q=>D9 _ q) (E3 _) (tM s.heap I.big),rfl,h _ (I.hok.fresh (E3 _))⟩
end
end L2
namespace SD
theorem AU{α:Type}{l:List α}(h:l.length=1):∃a,l=[a]:=by
 cases l with
 |nil=>cases h
 |cons a l=>
  cases l with
  |nil=>exact⟨a,rfl⟩
  |cons b l=>cases h
theorem Dp{α:Type}{n:Nat}{l:List α}(h:l.length=n+1):∃a r,l=a::r/\r.length=n:=by
 cases l with
 |nil=>cases h
 |cons a l=>exact⟨a,l,rfl,Nat.succ.inj h⟩
theorem zy{α:Type}{l:List α}(h:l.length=2):∃a b,l=[a,b]:=by obtain⟨a,r,rfl,h2⟩:=Dp h;obtain⟨b,rfl⟩:=AU h2;exact⟨a,b,rfl⟩
open PySem PySem.Spec PyProof.Rows L2
inductive D where
 |non|bl (b:Bool)|int (i:Int)|str (x:Str)|ty (n:String)|ref (a:Addr)|rol (ds:List D)|tup (ds:List D)
def SqF(K:D5)(H:Hp)(a:Addr)(xs:List V):Prop:=
 (∃o,H a=some (.frz o (.lst xs)))\/
  ∃(o:Obj) (its:Array D4) (n:Nat),K.lookup a=some o/\o.cls=.type "list"/\o.dict=none/\o.data=.seq its n/\its.size<=Ea/\Vals xs its.toList
theorem SqF.sql{K:D5}{H:Hp}{a:Addr}{xs:List V}(h:SqF K H a xs):SqL K H a xs:=by
 rcases h with h|h
 ·exact .inl (.inr h)
 ·exact .inr h
mutual
def Rep(K:D5)(H:Hp):D->V->Prop
 |.non,v=>v=.non
 |.bl b,v=>v=.bl b
 |.int i,v=>v=.int i
 |.str x,v=>v=.str x
 |.ty n,v=>v=.ty n
 |.ref a,v=>v=.ref a
 |.rol ds,v=>∃a xs,v=.ref a/\SqF K H a xs/\ax K H ds xs
 |.tup ds,v=>∃a xs,v=.ref a/\SqT K H a xs/\ax K H ds xs
def ax(K:D5)(H:Hp):List D->List V->Prop
 |[],xs=>xs=[]
 |d::ds,xs=>∃x r,xs=x::r/\Rep K H d x/\ax K H ds r
end
structure Grow(K:D5)(H H':Hp):Prop where
 t:∀a xs,SqT K H a xs->SqT K H' a xs
 f:∀a xs,SqF K H a xs->SqF K H' a xs
theorem Grow.refl{K:D5}{H:Hp}:Grow K H H:=⟨fun _ _ h=>h,fun _ _ h=>h⟩
theorem Grow.trans{K:D5}{H H1 H2:Hp}(a:Grow K H H1)(b:Grow K H1 H2):Grow K H H2:=⟨fun x y h=>b.t x y (a.t x y h),fun x y h=>b.f x y (a.f x y h)⟩
theorem Grow.put{K:D5}{H:Hp}{p:Addr}{o:HO}(h1:∀xs,H p≠some (.tup xs))(h2:∀u xs,H p≠some (.frz u xs)):Grow K H (upd H p o):=by
 refine⟨fun a xs h=>?_,fun a xs h=>?_⟩
 ·rcases h with(h|⟨u,h⟩)|h
  ·exact .inl (.inl (by rw[aL (by intro e;subst e;exact h1 _ h)];exact h))
  ·exact .inl (.inr ⟨u,by rw[aL (by intro e;subst e;exact h2 _ _ h)];exact h⟩)
  ·exact .inr h
 ·rcases h with⟨u,h⟩|h
  ·exact .inl ⟨u,by rw[aL (by intro e;subst e;exact h2 _ _ h)];exact h⟩
  ·exact .inr h
theorem Grow.new{K:D5}{H:Hp}{p:Addr}{o:HO}(h:H p=none):Grow K H (upd H p o):=.put (fun xs e=>by rw[h]at e;cases e) (fun u xs e=>by rw[h]at e;cases e)
theorem Grow.lst{K:D5}{H:Hp}{p:Addr}{o:HO}{xs:List V}(h:H p=some (.lst xs)):Grow K H (upd H p o):=.put (fun ys e=>by rw[h]at e;cases e) (fun u ys e=>by rw[h]at e;cases e)
mutual
theorem Rep.mono{K:D5}{H H':Hp}(g:Grow K H H'):∀{d:D} {v:V},Rep K H d v->Rep K H' d v
 |.non,_,h=>h
 |.bl _,_,h=>h
 |.int _,_,h=>h
 |.str _,_,h=>h
 |.ty _,_,h=>h
 |.ref _,_,h=>h
 |.rol ds,_,h=>by
  rw[Rep]at h ⊢
  obtain⟨a,xs,e,h1,h2⟩:=h
  exact⟨a,xs,e,g.f _ _ h1,ax.mono g h2⟩
 |.tup ds,_,h=>by
  rw[Rep]at h ⊢
  obtain⟨a,xs,e,h1,h2⟩:=h
  exact⟨a,xs,e,g.t _ _ h1,ax.mono g h2⟩
theorem ax.mono{K:D5}{H H':Hp}(g:Grow K H H'):∀{ds:List D} {xs:List V},ax K H ds xs->ax K H' ds xs
 |[],_,h=>h
 |d::ds,_,h=>by
  rw[ax]at h ⊢
  obtain⟨x,r,e,h1,h2⟩:=h
  exact⟨x,r,e,Rep.mono g h1,ax.mono g h2⟩
end
section
variable{K:D5}{H H':Hp}
theorem ax.nil:ax K H [] []:=by rw[ax]
theorem ax.cons{d:D}{ds:List D}{x:V}{r:List V}(a:Rep K H d x)(b:ax K H ds r):ax K H (d::ds) (x::r):=by rw[ax];exact⟨x,r,rfl,a,b⟩
theorem ax.length:∀{ds:List D} {xs:List V},ax K H ds xs->ds.length=xs.length
 |[],xs,h=>by rw[ax]at h;subst h;rfl
 |d::ds,xs,h=>by
  rw[ax]at h
  obtain⟨x,r,rfl,_,h2⟩:=h
  simp[ax.length h2]
theorem ax.get:∀{ds:List D} {xs:List V} {i:Nat} {d:D},ax K H ds xs->ds[i]?=some d->∃x,xs[i]?=some x/\Rep K H d x
 |[],_,_,_,_,e=>by simp at e
 |_::_,xs,0,_,h,e=>by
  rw[ax]at h
  obtain⟨x,r,rfl,h1,_⟩:=h
  simp at e;subst e
  exact⟨x,rfl,h1⟩
 |_::ds,xs,i+1,d,h,e=>by
  rw[ax]at h
  obtain⟨x,r,rfl,_,h2⟩:=h
  simpa using ax.get (i:=i) (d:=d) h2 (by simpa using e)
theorem ax.set{d:D}{x:V}(a:Rep K H d x):∀{ds:List D} {xs:List V} (i:Nat),ax K H ds xs->ax K H (ds.set i d) (xs.set i x)
 |[],_,_,h=>by rw[ax]at h;subst h;simp[ax.nil]
 |_::_,_,0,h=>by
  rw[ax]at h
  obtain⟨y,r,rfl,_,h2⟩:=h
  exact .cons a h2
 |_::ds,_,i+1,h=>by
  rw[ax]at h
  obtain⟨y,r,rfl,h1,h2⟩:=h
  exact .cons h1 (ax.set a i h2)
theorem ax.append:∀{ds es:List D} {xs ys:List V},ax K H ds xs->ax K H es ys->ax K H (ds++es) (xs++ys)
 |[],_,_,_,h,k=>by rw[ax]at h;subst h;exact k
 |_::ds,_,_,_,h,k=>by
  rw[ax]at h
  obtain⟨y,r,rfl,h1,h2⟩:=h
  exact .cons h1 (ax.append h2 k)
theorem ax.of_get:∀{ds:List D} {xs:List V},ds.length=xs.length->(∀(i:Nat) d x,ds[i]?=some d->xs[i]?=some x->Rep K H d x)->ax K H ds xs
 |[],[],_,_=>.nil
 |[],_::_,h,_=>by simp at h
 |_::_,[],h,_=>by simp at h
 |d::ds,x::xs,h,k=>.cons (k 0 d x rfl rfl) (ax.of_get (by simpa using h) fun i d x a b=>k (i+1) d x (by simpa using a) (by simpa using b))
theorem ax.take{ds:List D}{xs:List V}(n:Nat)(h:ax K H ds xs):ax K H (ds.take n) (xs.take n):=by
 refine .of_get (by simp[h.length]) fun i d x a b=>?_
 have hi:i<n:=by
  rw[List.getElem?_take]at a;split at a
  ·assumption
  ·cases a
 rw[List.getElem?_take_of_lt hi]at a b;obtain⟨y,e,r⟩:=h.get a;rw[e]at b;cases b;exact r
theorem ax.drop{ds:List D}{xs:List V}(n:Nat)(h:ax K H ds xs):ax K H (ds.drop n) (xs.drop n):=by refine .of_get (by simp[h.length]) fun i d x a b=>?_;rw[List.getElem?_drop]at a b;obtain⟨y,e,r⟩:=h.get a;rw[e]at b;cases b;exact r
theorem dJ:∀(ns:List Int),ax K H (ns.map D.int) (ns.map V.int)
 |[]=>.nil
 |n::ns=>.cons (by rw[Rep]) (dJ ns)
end
def Dr(a C:Addr):Heap->Prop:=fun h=>∃o,h.get? a=some o/\o.cls=.ref C
inductive MO where
 |lst (ds:List D)|err (C:Addr)
 |dct (n:Nat) (P:List Int->Bool)
 |gen (A:D5->Hp->Addr->Prop)
abbrev MH:=Addr->Option MO
def lY(K:D5)(H:Hp)(a:Addr):MO->Prop
 |.lst ds=>∃xs,H a=some (.lst xs)/\ax K H ds xs
 |.err C=>H a=some (.ext (Dr a C))
 |.dct n P=>∃kvs:List (List Key×V),H a=some (.dT kvs)/\kvs.length<=n/\∀k:List Int,(kvs.any fun kv=>decide (kv.1=k.map Sum.inl))=P k
 |.gen A=>A K H a/\H a≠none/\∀H',Grow K H H'->H' a=H a->A K H' a
def Abs(K:D5)(H:Hp)(M:MH):Prop:=∀a o,M a=some o->lY K H a o
def aq(M:MH)(a:Addr)(o:MO):MH:=fun b=>if b=a then some o else M b
theorem af{M:MH}{a:Addr}{o:MO}:aq M a o a=some o:=by unfold aq;rw[if_pos rfl]
theorem ai{M:MH}{a b:Addr}{o:MO}(h:b≠a):aq M a o b=M b:=by unfold aq;rw[if_neg h]
theorem bo{M:MH}{a:Addr}{o u:MO}:aq (aq M a o) a u=aq M a u:=by funext b;unfold aq;split<;>rfl
section
variable{K:D5}{H H':Hp}{M:MH}
theorem lY.some{a:Addr}{o:MO}(h:lY K H a o):H a≠none:=by
 cases o with
 |lst ds=>
  obtain⟨xs,h1,_⟩:=h
  rw[h1];simp
 |err C=>rw[show H a=_ from h];simp
 |dct n P=>
  obtain⟨kvs,h1,_⟩:=h
  rw[h1];simp
 |gen A=>exact h.2.1
theorem Abs.fresh(h:Abs K H M){p:Addr}(hp:H p=none):M p=none:=by
 cases e:M p with
 |none=>rfl
 |some o=>exact absurd hp (h p o e).some
theorem lY.eQ{a:Addr}{o:MO}(g:Grow K H H')(e:H' a=H a)(h:lY K H a o):lY K H' a o:=by
 cases o with
 |lst ds=>
  obtain⟨xs,h1,h2⟩:=h
  exact⟨xs,e.trans h1,h2.mono g⟩
 |err C=>exact e.trans h
 |dct n P=>
  obtain⟨kvs,h1,h2⟩:=h
  exact⟨kvs,e.trans h1,h2⟩
 |gen A=>exact⟨h.2.2 H' g e,fun z=>h.2.1 (by rw[<-e];exact z),fun H2 g2 e2=>h.2.2 H2 (g.trans g2) (e2.trans e)⟩
theorem Abs.new{p:Addr}{o:HO}(h:Abs K H M)(hp:H p=none):Abs K (upd H p o) M:=fun a u e=>by
 have ne:a≠p:=fun z=>by subst z;rw[h.fresh hp]at e;cases e
 exact(h a u e).eQ (.new hp) (aL ne)
theorem Abs.gh{p:Addr}{xs:List V}{ds:List D}(h:Abs K H M)(hp:H p=none)(r:ax K H ds xs):Abs K (upd H p (.lst xs)) (aq M p (.lst ds)):=fun a u e=>by
 by_cases ne:a=p
 ·subst ne;rw[af]at e;cases e;exact⟨xs,aK,r.mono (.new hp)⟩
 ·rw[ai ne]at e;exact(h a u e).eQ (.new hp) (aL ne)
theorem Abs.pE{p:Addr}{xs ys:List V}{ds:List D}(h:Abs K H M)(hp:H p=some (.lst xs))(r:ax K H ds ys):Abs K (upd H p (.lst ys)) (aq M p (.lst ds)):=fun a u e=>by
 by_cases ne:a=p
 ·subst ne;rw[af]at e;cases e;exact⟨ys,aK,r.mono (.lst hp)⟩
 ·rw[ai ne]at e;exact(h a u e).eQ (.lst hp) (aL ne)
theorem Abs.sub{M':MH}(h:Abs K H M)(s:∀a o,M' a=some o->M a=some o):Abs K H M':=fun a o e=>h a o (s a o e)
end
abbrev DS:=List (Option D)
structure Slots(K:D5)(H:Hp)(δ:DS)(σ:L2.St):Prop where
 len:δ.length=σ.length
 at':∀(i:Nat) d,δ[i]?=some (some d)->∃v,σ[i]?=some (some v)/\Rep K H d v
section
variable{K:D5}{H H':Hp}{δ:DS}{σ:L2.St}
theorem Slots.mono(g:Grow K H H')(h:Slots K H δ σ):Slots K H' δ σ:=⟨h.len,fun i d e=>let⟨v,a,b⟩:=h.at' i d e;⟨v,a,b.mono g⟩⟩
theorem Slots.set{d:D}{v:V}(r:Rep K H d v)(i:Nat)(h:Slots K H δ σ):Slots K H (δ.set i (some d)) (σ.set i (some v)):=by
 refine⟨by simp[h.len],fun j e q=>?_⟩;rw[List.getElem?_set]at q;by_cases hij:i=j
 ·subst hij;rw[if_pos rfl]at q;by_cases hl:i<δ.length
  ·rw[if_pos hl]at q;cases q;exact⟨v,by rw[List.getElem?_set,if_pos rfl,if_pos (by rw[<-h.len];exact hl)],r⟩
  ·rw[if_neg hl]at q;cases q
 ·rw[if_neg hij]at q;obtain⟨v',e1,e2⟩:=h.at' j e q;exact⟨v',by rw[List.getElem?_set,if_neg hij];exact e1,e2⟩
theorem oD{N:List Str}{ds:List D}{vs:List V}(r:ax K H ds vs):Slots K H (ds.map some++Er (N.length-ds.length) none) (L2.start N vs):=by
 have hl:=r.length;refine⟨by unfold L2.start;simp[hl],fun i d e=>?_⟩;unfold L2.start;by_cases hi:i<ds.length
 ·rw[EW (by simpa using hi),E4]at e;cases q:ds[i]? with
  |none=>rw[q]at e;cases e
  |some d'=>
   rw[q]at e;cases e
   obtain⟨x,e1,e2⟩:=r.get q
   refine⟨x,?_,e2⟩
   rw[EW (by simp;omega),E4,e1];rfl
 ·rw[ES (by simpa using hi),List.getElem?_replicate]at e;split at e<;>cases e
end
abbrev DK:=D->MH->Prop
abbrev TD:=DS->MH->DK->Prop
abbrev TTD:=DS->MH->(Bool->MH->Prop)->Prop
abbrev TAD:=DS->MH->(List D->MH->Prop)->Prop
structure EndsD where
 nx:DS->MH->Prop
 rt:DK
 bk:DS->MH->Prop:=fun _ _=>False
 ct:DS->MH->Prop:=fun _ _=>False
abbrev TSD:=EndsD->DS->MH->Prop
section
variable(K:D5)
def Fin(H:Hp)(R:DK)(Q:VK):Prop:=∀d M' v H',Grow K H H'->Rep K H' d v->Abs K H' M'->R d M'->Q v H'
def xy(H:Hp)(R:Bool->MH->Prop)(Q:Bool->Hp->Prop):Prop:=∀b M' H',Grow K H H'->Abs K H' M'->R b M'->Q b H'
def FinA(H:Hp)(R:List D->MH->Prop)(Q:List V->Hp->Prop):Prop:=∀ds M' vs H',Grow K H H'->ax K H' ds vs->Abs K H' M'->R ds M'->Q vs H'
def lift(t:TD):TE:=fun σ H Q=>∃δ M R,Slots K H δ σ/\Abs K H M/\t δ M R/\Fin K H R Q
def liftT(t:TTD):TT:=fun σ H Q=>∃δ M R,Slots K H δ σ/\Abs K H M/\t δ M R/\xy K H R Q
def yS(t:TAD):TA:=fun σ H Q=>∃δ M R,Slots K H δ σ/\Abs K H M/\t δ M R/\FinA K H R Q
structure EndsOk(H:Hp)(B:EndsD)(E:Ends):Prop where
 nx:∀δ M σ H',Grow K H H'->Slots K H' δ σ->Abs K H' M->B.nx δ M->E.nx σ H'
 rt:∀d M v H',Grow K H H'->Rep K H' d v->Abs K H' M->B.rt d M->E.rt v H'
 bk:∀δ M σ H',Grow K H H'->Slots K H' δ σ->Abs K H' M->B.bk δ M->E.bk σ H'
 ct:∀δ M σ H',Grow K H H'->Slots K H' δ σ->Abs K H' M->B.ct δ M->E.ct σ H'
def yD(t:TSD):TS:=fun E σ H=>∃δ M,Slots K H δ σ/\Abs K H M/\∃B,EndsOk K H B E/\t B δ M
end
def DE(X:Cx)(e:Expr)(t:TD):Prop:=PE X e (lift X.K t)
def DT(X:Cx)(e:Expr)(t:TTD):Prop:=PT X e (liftT X.K t)
def DW(X:Cx)(e:Expr)(t:TTD):Prop:=PW X e (liftT X.K t)
def DA(X:Cx)(es:List Expr)(t:TAD):Prop:=PA X es (yS X.K t)
def DSt(X:Cx)(st:Stmt)(t:TSD):Prop:=PS X st (yD X.K t)
def DSs(X:Cx)(st:List Stmt)(t:TSD):Prop:=PSs X st (yD X.K t)
theorem aO{X:Cx}{e:Expr}{t t':TE}(h:PE X e t)(k:∀σ H Q,t' σ H Q->t σ H Q):PE X e t':=fun pins s σ H Q I q=>h pins s σ H Q I (k σ H Q q)
theorem j6{X:Cx}{e:Expr}{t t':TT}(h:PT X e t)(k:∀σ H Q,t' σ H Q->t σ H Q):PT X e t':=fun pins s σ H Q I q=>h pins s σ H Q I (k σ H Q q)
theorem ud{X:Cx}{e:Expr}{t t':TT}(h:PW X e t)(k:∀σ H Q,t' σ H Q->t σ H Q):PW X e t':=fun wh pins s σ H Q I q=>h wh pins s σ H Q I (k σ H Q q)
theorem vG{X:Cx}{e:List Expr}{t t':TA}(h:PA X e t)(k:∀σ H Q,t' σ H Q->t σ H Q):PA X e t':=fun pos pins s σ H Q I q=>h pos pins s σ H Q I (k σ H Q q)
theorem cD{X:Cx}{e:Stmt}{t t':TS}(h:PS X e t)(k:∀D σ H,t' D σ H->t D σ H):PS X e t':=fun pins s σ H D I q=>h pins s σ H D I (k D σ H q)
theorem rl{X:Cx}{e:List Stmt}{t t':TS}(h:PSs X e t)(k:∀D σ H,t' D σ H->t D σ H):PSs X e t':=fun pins s σ H D I q=>h pins s σ H D I (k D σ H q)
section
variable{K:D5}{H H1 H':Hp}
theorem Fin.go{R:DK}{Q:VK}(g:Grow K H H1)(h:Fin K H R Q):Fin K H1 R Q:=fun d M v H' g'=>h d M v H' (g.trans g')
theorem xy.go{R:Bool->MH->Prop}{Q:Bool->Hp->Prop}(g:Grow K H H1)(h:xy K H R Q):xy K H1 R Q:=fun b M H' g'=>h b M H' (g.trans g')
theorem EndsOk.go{B:EndsD}{E:Ends}(g:Grow K H H1)(h:EndsOk K H B E):EndsOk K H1 B E:=⟨fun d M v H' g'=>h.nx d M v H' (g.trans g'),fun d M v H' g'=>h.rt d M v H' (g.trans g'),fun d M v H' g'=>h.bk d M v H' (g.trans g'),fun d M v H' g'=>h.ct d M v H' (g.trans g')⟩
end
section
variable{X:Cx}
inductive tVarD(i:Nat)(δ:DS)(M:MH)(Q:DK):Prop
 |mk (d:D) (h:δ[i]?=some (some d)) (q:Q d M):tVarD i δ M Q
def tCD(d:D):TD:=fun _ M Q=>Q d M
theorem dv(i:Nat){x:Str}{pos:Pos}(hN:X.N[i]?=some x:=by rfl)(hv:Vis X.env.scope x:=by first|exact Or.inl rfl|exact Or.inr (Or.inl rfl)|exact Or.inr (Or.inr rfl))(hd:(x==("__debug__":Str))=false:=by decide)
 (hcd:(x==("__classdict__":Str))=false:=by decide):DE X (.Name x pos) (tVarD i):=
 aO (Az hN hv hd hcd) fun σ H Q z9=>by
  obtain⟨δ,M,R,hs,hM,⟨d,e,r⟩,fin⟩:=z9
  obtain⟨v,e1,e2⟩:=hs.at' i d e
  exact⟨v,e1,fin d M v H .refl e2 hM r⟩
theorem dc{e:Expr}{v:V}{d:D}(h:PE X e (tC v))(r:∀H,Rep X.K H d v):DE X e (tCD d):=aO h fun σ H Q zz1_0=>by obtain⟨δ,M,R,hs,hM,q,fin⟩:=zz1_0;exact(fin d M v H .refl (r H) hM q)
theorem ae{i j pos}:DE X (.Constant (.int i) j pos) (tCD (.int i)):=dc wo fun _=>by rw[Rep]
theorem lQ{i j pos}:DE X (.Constant (.bool i) j pos) (tCD (.bl i)):=dc Ca fun _=>by rw[Rep]
theorem uE{j pos}:DE X (.Constant .none j pos) (tCD .non):=dc zI fun _=>by rw[Rep]
end
abbrev R2D:=D->D->MH->DK->Prop
def mO(K:D5)(r:R2D):R2:=fun v u H Q=>∃x y M R,Rep K H x v/\Rep K H y u/\Abs K H M/\r x y M R/\Fin K H R Q
def OpD(X:Cx)(f:D4->D4->Sem D4)(r:R2D):Prop:=OpR X f (mO X.K r)
def tq(r:R2D)(ta tb:TD):TD:=fun δ M Q=>ta δ M fun x M1=>tb δ M1 fun y M2=>r x y M2 Q
theorem fU{X:Cx}{f:D4->D4->Sem D4}{r r':R2}(h:OpR X f r)(k:∀x y H Q,r' x y H Q->r x y H Q):OpR X f r':=fun pins s σ H x y v u Q I a b q=>h pins s σ H x y v u Q I a b (k _ _ _ _ q)
theorem iU{K:D5}{r:R2D}{ta tb:TD}{σ:L2.St}{H:Hp}{Q:VK}(h:lift K (tq r ta tb) σ H Q):tOp (mO K r) (lift K ta) (lift K tb) σ H Q:=by obtain⟨δ,M,R,hs,hM,q,fin⟩:=h;refine⟨δ,M,_,hs,hM,q,fun x M1 v H1 g1 r1 a1 q1=>?_⟩;exact⟨δ,M1,_,hs.mono g1,a1,q1,fun y M2 u H2 g2 r2 a2 q2=>⟨x,y,M2,R,r1.mono g2,r2,a2,q2,fin.go (g1.trans g2)⟩⟩
section
variable{X:Cx}{a b:Expr}{ta tb:TD}{pos:Pos}
theorem ar{op:Operator}{r:R2D}(ho:OpD X (FN op) r)(ha:DE X a ta)(hb:DE X b tb):DE X (.BinOp a op b pos) (tq r ta tb):=aO (CC ho ha hb) fun _ _ _ h=>iU h
theorem cu{op:CmpOp}{r:R2D}(ho:OpD X (EK op) r)(ha:DE X a ta)(hb:DE X b tb)(hm:GD op b=false:=by exact uc _):DE X (.Compare a [op] [b] pos) (tq r ta tb):=aO (wC ho ha hb hm) fun _ _ _ h=>iU h
inductive IsBl(x:D)(M:MH)(Q:Bool->MH->Prop):Prop
 |mk (c:Bool) (h:x=.bl c) (q:Q c M):IsBl x M Q
def tBD(t:TD):TTD:=fun δ M Q=>t δ M fun x M1=>IsBl x M1 Q
theorem lC{K:D5}{t:TD}{t':TE}(ht:∀σ H Q,lift K t σ H Q->t' σ H Q){σ:L2.St}{H:Hp}{Q:Bool->Hp->Prop}(h:liftT K (tBD t) σ H Q):yo t' σ H Q:=by obtain⟨δ,M,R,hs,hM,q,fin⟩:=h;refine ht _ _ _ ⟨δ,M,_,hs,hM,q,fun x M1 v H1 g1 r1 a1 zz2_0=>?_⟩;obtain⟨c,e,q1⟩:=zz2_0;subst e;rw[Rep]at r1;exact⟨c,r1,fin c M1 H1 g1 a1 q1⟩
theorem aH{op:CmpOp}{r:R2D}(ho:OpD X (EK op) r)(ha:DE X a ta)(hb:DE X b tb)(hm:GD op b=false:=by exact uc _):DT X (.Compare a [op] [b] pos) (tBD (tq r ta tb)):=j6 (xY ho ha hb hm) fun _ _ _ h=>lC (fun _ _ _ h=>iU h) h
theorem d8{e:Expr}{t:TD}(h:DE X e t)(he:∀whole,isTrue e X.env whole=(do let v <-whole;standAt e.pos;holding [v] (truthy v)):=by intro _;rfl):DT X e (tBD t):=
 j6 (AZ h he) fun _ _ _ h=>lC (t':=lift X.K t) (fun _ _ _ h=>h) h
end
section
variable{X:Cx}{a b c:Expr}{ta tb:TD}{tA tB':TTD}{rest:List Expr}{pos:Pos}
def yE(t u:TTD):TTD:=fun δ M Q=>t δ M fun c M1=>if c=true then u δ M1 Q else Q false M1
def Cs(t u:TTD):TTD:=fun δ M Q=>t δ M fun c M1=>if c=true then Q true M1 else u δ M1 Q
def fR(t:TTD):TTD:=fun δ M Q=>t δ M fun c M1=>Q (!c) M1
theorem gb(ha:DT X a tA):DW X (.BoolOp .And [a] pos) tA:=xc ha
theorem ua(ha:DT X a tA):DW X (.BoolOp .Or [a] pos) tA:=zl ha
theorem jZ(ha:DT X a tA)(hb:DW X (.BoolOp .And (b::rest) pos) tB'):DW X (.BoolOp .And (a::b::rest) pos) (yE tA tB'):=
 ud (Bk ha hb) fun σ H Q zz3_0=>by obtain⟨δ,M,R,hs,hM,q,fin⟩:=zz3_0;exact(⟨δ,M,_,hs,hM,q,fun c M1 H1 g1 a1 q1=>by
  cases c with
  |true=>rw[if_pos rfl]at q1 ⊢;exact⟨δ,M1,R,hs.mono g1,a1,q1,fin.go g1⟩
  |false=>rw[if_neg Ei]at q1 ⊢;exact fin _ _ _ g1 a1 q1⟩)
theorem yY(ha:DT X a tA)(hb:DW X (.BoolOp .Or (b::rest) pos) tB'):DW X (.BoolOp .Or (a::b::rest) pos) (Cs tA tB'):=
 ud (CF ha hb) fun σ H Q zz4_0=>by obtain⟨δ,M,R,hs,hM,q,fin⟩:=zz4_0;exact(⟨δ,M,_,hs,hM,q,fun c M1 H1 g1 a1 q1=>by
  cases c with
  |true=>rw[if_pos rfl]at q1 ⊢;exact fin _ _ _ g1 a1 q1
  |false=>rw[if_neg Ei]at q1 ⊢;exact⟨δ,M1,R,hs.mono g1,a1,q1,fin.go g1⟩⟩)
theorem oZ{e:Expr}{t:TTD}(h:DW X e t):DT X e t:=PW.pt h
theorem wy(ha:DT X a tA):DT X (.UnaryOp .Not a pos) (fR tA):=j6 (Ap ha) fun σ H Q zz5_0=>by obtain⟨δ,M,R,hs,hM,q,fin⟩:=zz5_0;exact(⟨δ,M,_,hs,hM,q,fun c M1 H1 g1 a1 q1=>fin _ _ _ g1 a1 q1⟩)
def uR(ta tb:TD):TD:=fun δ M Q=>ta δ M fun x M1=>IsBl x M1 fun c M1=>if c=true then tb δ M1 Q else Q (.bl false) M1
def AE(ta:TD):TD:=fun δ M Q=>ta δ M fun x M1=>IsBl x M1 fun c M1=>Q (.bl (!c)) M1
theorem l6{op}{t:TD}(h:DE X a t):DE X (.BoolOp op [a] pos) t:=A0 h
theorem jA(ha:DE X a ta)(hb:DE X (.BoolOp .And (b::rest) pos) tb):DE X (.BoolOp .And (a::b::rest) pos) (uR ta tb):=
 aO (AY ha hb) fun σ H Q ⟨δ,M,R,hs,hM,q,fin⟩=>⟨δ,M,_,hs,hM,q,fun x M1 v H1 g1 r1 a1 z9=>by
  obtain⟨c,e,q1⟩:=z9
  subst e
  rw[Rep]at r1
  refine⟨c,r1,?_⟩
  cases c with
  |true=>rw[if_pos rfl]at q1 ⊢;exact⟨δ,M1,R,hs.mono g1,a1,q1,fin.go g1⟩
  |false=>rw[if_neg Ei]at q1 ⊢;exact fin _ _ _ _ g1 (by rw[Rep]) a1 q1⟩
theorem uQ(ha:DE X a ta):DE X (.UnaryOp .Not a pos) (AE ta):=
 aO (Bc ha) fun σ H Q zz6_0=>by obtain⟨δ,M,R,hs,hM,q,fin⟩:=zz6_0;exact(⟨δ,M,_,hs,hM,q,fun x M1 v H1 g1 r1 a1 z9=>by
  obtain⟨c,e,q1⟩:=z9
  subst e
  rw[Rep]at r1
  exact⟨c,r1,fin _ _ _ _ g1 (by rw[Rep]) a1 q1⟩⟩)
def DB(t:TTD)(ta tb:TD):TD:=fun δ M Q=>t δ M fun c M1=>if c=true then ta δ M1 Q else tb δ M1 Q
theorem gY(hc:DT X c tA)(ha:DE X a ta)(hb:DE X b tb):DE X (.IfExp c a b pos) (DB tA ta tb):=
 aO (tN hc ha hb) fun σ H Q zz7_0=>by obtain⟨δ,M,R,hs,hM,q,fin⟩:=zz7_0;exact(⟨δ,M,_,hs,hM,q,fun c M1 H1 g1 a1 q1=>by
  cases c with
  |true=>rw[if_pos rfl]at q1 ⊢;exact⟨δ,M1,R,hs.mono g1,a1,q1,fin.go g1⟩
  |false=>rw[if_neg Ei]at q1 ⊢;exact⟨δ,M1,R,hs.mono g1,a1,q1,fin.go g1⟩⟩)
end
def DJ(r:D->MH->DK->Prop)(ta:TD):TD:=fun δ M Q=>ta δ M fun x M1=>r x M1 Q
def yG(K:D5)(r:D->MH->DK->Prop):V->Hp->VK->Prop:=fun v H Q=>∃x M R,Rep K H x v/\Abs K H M/\r x M R/\Fin K H R Q
theorem nL{X:Cx}{a:Expr}{ta:TD}{pos:Pos}{op:UnaryOp}{r:D->MH->DK->Prop}(ho:UnR X (unaryOp op) (yG X.K r))(ha:DE X a ta):DE X (.UnaryOp op a pos) (DJ r ta):=aO (CI ho ha) fun σ H Q zz8_0=>by obtain⟨δ,M,R,hs,hM,q,fin⟩:=zz8_0;exact(⟨δ,M,_,hs,hM,q,fun x M1 v H1 g1 r1 a1 q1=>⟨x,M1,R,r1,a1,q1,fin.go g1⟩⟩)
def yA:TAD:=fun _ M Q=>Q [] M
def pj(ta:TD)(tr:TAD):TAD:=fun δ M Q=>ta δ M fun x M1=>tr δ M1 fun xs M2=>Q (x::xs) M2
section
variable{X:Cx}{e:Expr}{es:List Expr}{te:TD}{t:TAD}{pos:Pos}
theorem ab:DA X [] yA:=vG zt fun σ H Q zz9_0=>by obtain⟨δ,M,R,hs,hM,q,fin⟩:=zz9_0;exact(fin _ _ _ _ .refl .nil hM q)
theorem aa(ha:DE X e te)(hr:DA X es t)(hs:Eb (e::es) X.env=(false,eval e X.env)::Eb es X.env:=by rfl):DA X (e::es) (pj te t):=
 vG (xn ha hr hs) fun σ H Q zz10_0=>by obtain⟨δ,M,R,hs,hM,q,fin⟩:=zz10_0;exact(⟨δ,M,_,hs,hM,q,fun x M1 v H1 g1 r1 a1 q1=>
  ⟨δ,M1,_,hs.mono g1,a1,q1,fun xs M2 vs H2 g2 r2 a2 q2=>fin _ _ _ _ (g1.trans g2) (.cons (r1.mono g2) r2) a2 q2⟩⟩)
def CJ(t:TAD):TD:=fun δ M Q=>t δ M fun xs M1=>xs.length<=Ea/\Q (.tup xs) M1
def Cj(t:TAD):TD:=fun δ M Q=>t δ M fun xs M1=>xs.length<=Ea/\∀p,M1 p=none->Q (.ref p) (aq M1 p (.lst xs))
theorem aB{x1}(h:DA X es t):DE X (.Tuple es x1 pos) (CJ t):=aO (A8 h) fun σ H Q zz11_0=>by obtain⟨δ,M,R,hs,hM,q,fin⟩:=zz11_0;exact(⟨δ,M,_,hs,hM,q,fun xs M1 vs H1 g1 r1 a1 zz12_0=>by obtain⟨z,q1⟩:=zz12_0;exact(⟨by rw[<-r1.length];exact z,fun p hp=>fin _ _ _ _ (g1.trans (.new hp)) (by rw[Rep];exact⟨p,vs,rfl,SqT.of aK,r1.mono (.new hp)⟩) (a1.new hp) q1⟩)⟩)
theorem bI(h:DA X es t):DE X (.List es pos) (Cj t):=aO (zH h) fun σ H Q zz13_0=>by obtain⟨δ,M,R,hs,hM,q,fin⟩:=zz13_0;exact(⟨δ,M,_,hs,hM,q,fun xs M1 vs H1 g1 r1 a1 zz14_0=>by obtain⟨z,q1⟩:=zz14_0;exact(⟨by rw[<-r1.length];exact z,fun p hp=>fin _ _ _ _ (g1.trans (.new hp)) (by rw[Rep]) (a1.gh hp r1) (q1 p (a1.fresh hp))⟩)⟩)
end
def IxD(X:Cx)(r:R2D):Prop:=IxR X (mO X.K r)
theorem zY{X:Cx}{r r':R2}(h:IxR X r)(k:∀x y H Q,r' x y H Q->r x y H Q):IxR X r':=fun e1 e2 pins s σ H x y v u Q I a b q=>h e1 e2 pins s σ H x y v u Q I a b (k _ _ _ _ q)
theorem zp{X:Cx}{a b:Expr}{ta tb:TD}{pos:Pos}{r:R2D}(hr:IxD X r)(ha:DE X a ta)(hb:DE X b tb)(hs:lW b):DE X (.Subscript a b pos) (tq r ta tb):=aO (CA hr ha hb hs) fun _ _ _ h=>iU h
inductive AtD(ds:List D)(i:Int)(M:MH)(Q:DK):Prop
 |mk (d:D) (h:atI ds i=some d) (q:Q d M):AtD ds i M Q
inductive AtM(a:Addr)(i:Int)(M:MH)(Q:DK):Prop
 |mk (ds:List D) (d:D) (h:M a=some (.lst ds)) (q:atI ds i=some d/\Q d M):AtM a i M Q
def Bg:R2D:=fun x y M Q=>match x,y with
 |.tup ds,.int i=>AtD ds i M Q
 |.rol ds,.int i=>AtD ds i M Q
 |.ref a,.int i=>AtM a i M Q
 |_,_=>False
theorem ax.atI{K:D5}{H:Hp}{ds:List D}{xs:List V}{i:Int}{d:D}(h:ax K H ds xs)(e:L2.atI ds i=some d):∃x,L2.atI xs i=some x/\Rep K H d x:=by
 unfold L2.atI at e ⊢;rw[<-h.length];cases q:ixN ds.length i with
 |none=>rw[q]at e;cases e
 |some j=>
  rw[q]at e
  exact h.get e
theorem sZ{K:D5}{v u:V}{H:Hp}{Q:VK}(h:mO K Bg v u H Q):rIx K v u H Q:=by
 obtain⟨x,y,M,R,r1,r2,a,q,fin⟩:=h;unfold Bg at q;split at q
 ·obtain⟨d,e,q⟩:=q;obtain rfl:u=.int _:=r2;rw[Rep]at r1;obtain⟨p,xs,rfl,hq,rs⟩:=r1;obtain⟨x,e1,e2⟩:=rs.atI e;exact .inr (.inl ⟨p,xs,_,x,rfl,rfl,hq,e1,fin _ _ _ _ .refl e2 a q⟩)
 ·obtain⟨d,e,q⟩:=q;obtain rfl:u=.int _:=r2;rw[Rep]at r1;obtain⟨p,xs,rfl,hq,rs⟩:=r1;obtain⟨x,e1,e2⟩:=rs.atI e;exact .inl ⟨p,xs,_,x,rfl,rfl,hq.sql,e1,fin _ _ _ _ .refl e2 a q⟩
 ·obtain⟨ds,d,e0,e,q⟩:=q;obtain rfl:u=.int _:=r2;obtain rfl:v=.ref _:=r1;obtain⟨xs,hx,rs⟩:=a _ _ e0;obtain⟨x,e1,e2⟩:=rs.atI e;exact .inl ⟨_,xs,_,x,rfl,rfl,SqL.of hx,e1,fin _ _ _ _ .refl e2 a q⟩
 ·exact q.elim
theorem aw{X:Cx}{a b:Expr}{ta tb:TD}{pos:Pos}(ha:DE X a ta)(hb:DE X b tb)(hs:lW b:=by exact fun _ _=>rfl):DE X (.Subscript a b pos) (tq Bg ta tb):=zp (zY Ak fun _ _ _ _ h=>sZ h) ha hb hs
def Bd(n:Nat)(i:Int):Prop:=i.natAbs<2^n
instance(n:Nat)(i:Int):Decidable (Bd n i):=inferInstanceAs (Decidable (i.natAbs<2^n))
theorem Bd.mono{m n:Nat}{i:Int}(h:Bd m i)(l:m<=n):Bd n i:=Em h (Nat.pow_le_pow_right (by decide) l)
theorem Bd.bits{n:Nat}{i:Int}(h:Bd n i):Builtin.Int.intBits i<=n:=by
 unfold Builtin.Int.intBits;split
 ·exact EZ _
 ·rename_i hz;have h0:i.natAbs≠0:=fun e=>hz (by simpa using Int.natAbs_eq_zero.mp e);exact(Nat.log2_lt h0).mpr h
theorem Bd.log2{n:Nat}{i:Int}(h:Bd n i)(hn:0<n):i.natAbs.log2<n:=by
 by_cases h0:i.natAbs=0
 ·rw[h0];simpa using hn
 ·exact(Nat.log2_lt h0).mpr h
theorem Bd.mul{m n:Nat}{i j:Int}(a:Bd m i)(b:Bd n j):Bd (m+n) (i*j):=by unfold Bd at *;rw[Int.natAbs_mul,Nat.pow_add];exact Nat.mul_lt_mul'' a b
theorem Bd.add{n:Nat}{i j:Int}(a:Bd n i)(b:Bd n j):Bd (n+1) (i+j):=by unfold Bd at *;rw[Nat.pow_succ];have:=Int.natAbs_add_le i j;omega
theorem Bd.sub{n:Nat}{i j:Int}(a:Bd n i)(b:Bd n j):Bd (n+1) (i-j):=by unfold Bd at *;rw[Nat.pow_succ];have:=Int.natAbs_sub_le i j;omega
theorem Bd.neg{n:Nat}{i:Int}(a:Bd n i):Bd n (-i):=by unfold Bd at *;rw[Int.natAbs_neg];exact a
theorem Bd.of_le{n:Nat}{i j:Int}(a:Bd n i)(b:j.natAbs<=i.natAbs):Bd n j:=Nat.lt_of_le_of_lt b a
theorem aW{n:Nat}{i:Int}(h:i.natAbs<2^64)(l:64<=n:=by decide):Bd n i:=Bd.mono (m:=64) h l
theorem dz{i j:Int}(a:Bd 1000000 i)(b:Bd 1000000 j):IntMulOk i j:=.of_bits (ER a.bits (by decide)) (ER b.bits (by decide))
theorem aG{i j:Int}(a:Bd 64 i):IntMulOk i j:=.of_left a.bits
theorem xH{i j:Int}(a:Bd 64 j):IntMulOk i j:=.of_right a.bits
def rI2(C:Int->Int->Prop)(g:Int->Int->D):R2D:=fun x y M Q=>match x,y with
 |.int i,.int j=>C i j/\Q (g i j) M
 |_,_=>False
section
variable{X:Cx}
theorem cT{f:D4->D4->Sem D4}{C:Int->Int->Prop}{g:Int->Int->V}{g':Int->Int->D}(h:OpR X f (rI C g))(e:∀i j H,Rep X.K H (g' i j) (g i j)):OpD X f (rI2 C g'):=
 fU h fun v u H Q z9=>by
  obtain⟨x,y,M,R,r1,r2,a,q,fin⟩:=z9
  unfold rI2 at q
  split at q
  ·obtain rfl:v=.int _:=r1
   obtain rfl:u=.int _:=r2
   exact⟨_,_,rfl,rfl,q.1,fin _ _ _ _ .refl (e _ _ _) a q.2⟩
  ·exact q.elim
theorem ri0{f:D4->D4->Sem D4}{g:Int->Int->V}(h:OpR X f (rI0 g)):OpR X f (rI (fun _ _=>True) g):=fU h fun x y H Q zz1_0=>by obtain⟨i,j,a,b,_,q⟩:=zz1_0;exact(⟨i,j,a,b,q⟩)
def Cm:R2D:=rI2 (fun _ _=>True) fun i j=>.int (i-j)
def CH:R2D:=rI2 IntMulOk fun i j=>.int (i*j)
def CFd(i j:Int):Prop:=j≠0/\Bd 8000 j
def De:R2D:=rI2 CFd fun i j=>.int (i.fdiv j)
def CK:R2D:=rI2 (fun _ j=>j≠0) fun i j=>.int (i.fmod j)
def BX:R2D:=rI2 CS fun i j=>.int (i^j.toNat)
def DP:R2D:=rI2 (fun _ _=>True) fun i j=>.bl (decide (i<j))
def DV:R2D:=rI2 (fun _ _=>True) fun i j=>.bl (decide (i<=j))
def DU:R2D:=rI2 (fun _ _=>True) fun i j=>.bl (decide (j<i))
theorem bG:OpD X (FN .Sub) Cm:=cT (ri0 zx) fun _ _ _=>by rw[Rep]
theorem aD:OpD X (FN .Mult) CH:=cT (opI fun _ _ _ _ _ _ _ hc q=>mul_int q hc) fun _ _ _=>by rw[Rep]
theorem eG:OpD X (FN .FloorDiv) De:=cT (opI fun _ _ _ _ _ _ _ hc q=>floordiv_int hc.1 q (.inl (PyProof.noPylong_of_log2 (Nat.lt_trans (hc.2.log2 (by decide)) (by decide))))) fun _ _ _=>by rw[Rep]
theorem d7:OpD X (FN .Mod) CK:=cT wF fun _ _ _=>by rw[Rep]
theorem eY:OpD X (FN .Pow) BX:=cT zk fun _ _ _=>by rw[Rep]
theorem Ct:OpD X (EK .Lt) DP:=cT (ri0 CZ) fun _ _ _=>by rw[Rep]
theorem BP:OpD X (EK .LtE) DV:=cT (ri0 CQ) fun _ _ _=>by rw[Rep]
theorem BQ:OpD X (EK .Gt) DU:=cT (ri0 B4) fun _ _ _=>by rw[Rep]
def yy:D->MH->DK->Prop:=fun x M Q=>match x with
 |.int i=>Q (.int (-i)) M
 |_=>False
theorem gc:UnR X (unaryOp .USub) (yG X.K yy):=fun pins s σ H x v Q I r zz2_0=>by obtain⟨d,M,R,r1,a,q,fin⟩:=zz2_0;exact(AL pins s σ H x v Q I r (by
 unfold yy at q
 split at q
 ·obtain rfl:x=.int _:=r1;exact⟨_,rfl,fin _ _ _ _ .refl (by rw[Rep]) a q⟩
 ·exact q.elim))
def yN:R2D:=fun x y M Q=>match x,y with
 |.int i,.int j=>Q (.int (i+j)) M
 |.tup a,.tup b=>a≠[]/\a.length+b.length<=Ea/\Q (.tup (a++b)) M
 |.ref a,.ref b=>∃xs ys,M a=some (.lst xs)/\M b=some (.lst ys)/\xs.length+ys.length<=Ea/\∀p,M p=none->Q (.ref p) (aq M p (.lst (xs++ys)))
 |_,_=>False
theorem aJ:OpD X (FN .Add) yN:=fU (za.or (xG.or zf)) fun v u H Q z9=>by
 obtain⟨x,y,M,R,r1,r2,a,q,fin⟩:=z9;unfold yN at q;split at q
 ·obtain rfl:v=.int _:=r1;obtain rfl:u=.int _:=r2;exact .inl ⟨_,_,rfl,rfl,fin _ _ _ _ .refl (by rw[Rep]) a q⟩
 ·rename_i da db;obtain⟨hn,hl,q⟩:=q;rw[Rep]at r1;obtain⟨p,xs,rfl,hx,rx⟩:=r1;obtain⟨p',ys,rfl,hy,ry⟩:∃a xs,u=V.ref a/\SqT X.K H a xs/\ax X.K H db xs:=by rw[Rep]at r2;exact r2
  have l1:=rx.length;have l2:=ry.length;refine .inr (.inl ⟨p,p',xs,ys,rfl,rfl,hx,hy,?_,by omega,fun e=>?_,fun _ z hz=>?_⟩)
  ·intro e;subst e;exact hn (List.length_eq_zero_iff.mp (by simpa using l1))
  ·subst e;obtain rfl:db=[]:=List.length_eq_zero_iff.mp (by simpa using l2);exact fin _ _ _ _ .refl (by rw[Rep,EV];exact⟨p,xs,rfl,hx,rx⟩) a q
  ·exact fin _ _ _ _ (.new hz) (by rw[Rep];exact⟨z,_,rfl,SqT.of aK,(rx.append ry).mono (.new hz)⟩) (a.new hz) q
 ·obtain⟨ds,es,e1,e2,hl,q⟩:=q;obtain rfl:v=.ref _:=r1;obtain rfl:u=.ref _:=r2;obtain⟨xs,hx,rx⟩:=a _ _ e1;obtain⟨ys,hy,ry⟩:=a _ _ e2;have l1:=rx.length;have l2:=ry.length;exact .inr (.inr ⟨_,_,xs,ys,rfl,rfl,hx,hy,by omega,fun z hz=>fin _ _ _ _ (.new hz) (by rw[Rep]) (a.gh hz (rx.append ry)) (q z (a.fresh hz))⟩)
 ·exact q.elim
end
mutual
inductive Pd(M:MH):D->FT->Prop
 |non:Pd M .non .none
 |bl (b:Bool):Pd M (.bl b) (.bool b)
 |int (i:Int):Pd M (.int i) (.int i)
 |str (x:Str):Pd M (.str x) (.str x)
 |tup {ds:List D} {ps:List FT}:Pds M ds ps->Pd M (.tup ds) (.tuple ps)
 |rol {ds:List D} {ps:List FT}:Pds M ds ps->Pd M (.rol ds) (.list ps)
 |lst {a:Addr} {ds:List D} {ps:List FT}:M a=some (.lst ds)->Pds M ds ps->Pd M (.ref a) (.list ps)
inductive Pds(M:MH):List D->List FT->Prop
 |nil:Pds M [] []
 |cons {d:D} {ds:List D} {p:FT} {ps:List FT}:Pd M d p->Pds M ds ps->Pds M (d::ds) (p::ps)
end
mutual
def pdO:D->Option FT
 |.non=>some .none
 |.bl b=>some (.bool b)
 |.int i=>some (.int i)
 |.str x=>some (.str x)
 |.tup ds=>match oN ds with
  |some ps=>some (.tuple ps)
  |none=>none
 |_=>none
def oN:List D->Option (List FT)
 |[]=>some []
 |d::ds=>match pdO d,oN ds with
  |some p,some ps=>some (p::ps)
  |_,_=>none
end
mutual
theorem Pd.of{M:MH}:∀{d:D} {p:FT},pdO d=some p->Pd M d p
 |.non,p,h=>by rw[pdO]at h;cases h;exact .non
 |.bl b,p,h=>by rw[pdO]at h;cases h;exact .bl b
 |.int i,p,h=>by rw[pdO]at h;cases h;exact .int i
 |.str x,p,h=>by rw[pdO]at h;cases h;exact .str x
 |.ty _,p,h=>by simp[pdO]at h
 |.ref _,p,h=>by simp[pdO]at h
 |.rol _,p,h=>by simp[pdO]at h
 |.tup ds,p,h=>by
  rw[pdO]at h
  cases e:oN ds with
  |none=>rw[e]at h;cases h
  |some ps=>rw[e]at h;cases h;exact .tup (Pds.of e)
theorem Pds.of{M:MH}:∀{ds:List D} {ps:List FT},oN ds=some ps->Pds M ds ps
 |[],ps,h=>by rw[oN]at h;cases h;exact .nil
 |d::ds,ps,h=>by
  rw[oN]at h
  cases e1:pdO d with
  |none=>rw[e1]at h;cases h
  |some p=>
   cases e2:oN ds with
   |none=>rw[e1,e2]at h;cases h
   |some qs=>rw[e1,e2]at h;cases h;exact .cons (Pd.of e1) (Pds.of e2)
end
section
variable{X:Cx}{pins:List (Addr×Obj)}{σ:L2.St}{H:Hp}{s:D6}{M:MH}
mutual
theorem bU(I:Inv X pins σ H s)(hM:Abs X.K H M):∀{d:D} {p:FT} {v:V} {u:D4},Pd M d p->Rep X.K H d v->L2.RelV v u->∃as,Reads s.heap u p as
 |_,_,_,_,.non,r,e=>by rw[Rep]at r;subst r;cases e;exact⟨_,.none⟩
 |_,_,_,_,.bl b,r,e=>by rw[Rep]at r;subst r;cases e;exact⟨_,.bool b⟩
 |_,_,_,_,.int i,r,e=>by rw[Rep]at r;subst r;obtain⟨t,rfl⟩:=e;exact⟨_,.int i t⟩
 |_,_,_,_,.str x,r,e=>by rw[Rep]at r;subst r;obtain⟨t,rfl⟩:=e;exact⟨_,.str x t⟩
 |_,_,_,_,.tup hp,r,e=>by
  rw[Rep]at r
  obtain⟨a,xs,rfl,hq,rs⟩:=r
  cases e
  obtain⟨its,rv,⟨o,h1,h2,n,h3⟩,_⟩:=I.tuple hq
  obtain⟨as,hh⟩:=fD I hM hp rs rv
  exact⟨as,reads_tuple_at h1 h2 h3 (by simpa using hh)⟩
 |_,_,_,_,.rol hp,r,e=>by
  rw[Rep]at r
  obtain⟨a,xs,rfl,hq,rs⟩:=r
  cases e
  obtain⟨its,rv,⟨o,n,h1,h2,_,h3⟩,_⟩:=I.list hq.sql
  obtain⟨as,hh⟩:=fD I hM hp rs rv
  exact⟨_,reads_list_at h1 h2 h3 (by simpa using hh)⟩
 |_,_,_,_,.lst ha hp,r,e=>by
  rw[Rep]at r
  subst r
  cases e
  obtain⟨xs,hx,rs⟩:=hM _ _ ha
  obtain⟨its,rv,⟨o,n,h1,h2,_,h3⟩,_⟩:=I.list (SqL.of hx)
  obtain⟨as,hh⟩:=fD I hM hp rs rv
  exact⟨_,reads_list_at h1 h2 h3 (by simpa using hh)⟩
theorem fD(I:Inv X pins σ H s)(hM:Abs X.K H M):∀{ds:List D} {ps:List FT} {vs:List V} {us:List D4},Pds M ds ps->ax X.K H ds vs->Vals vs us->∃as,ReadsAll s.heap us ps as
 |_,_,_,_,.nil,r,e=>by rw[ax]at r;subst r;cases e;exact⟨_,.nil⟩
 |_,_,_,_,.cons h1 h2,r,e=>by
  rw[ax]at r
  obtain⟨x,r,rfl,r1,r2⟩:=r
  cases e with
  |cons e1 e2=>
   obtain⟨as,q1⟩:=bU I hM h1 r1 e1
   obtain⟨bs,q2⟩:=fD I hM h2 r2 e2
   exact⟨_,.cons q1 q2⟩
end
end
inductive rEqG(g:Bool->Bool)(x y:D)(M:MH)(Q:DK):Prop
 |mk (p q:FT) (h1:Pd M x p) (h2:Pd M y q) (h3:FQ p=true) (h4:FQ q=true) (hq:Q (.bl (g (EH p q))) M):rEqG g x y M Q
def BL:R2D:=fun x y M Q=>match x,y with
 |.int i,.int j=>Q (.bl (decide (i=j))) M
 |.bl i,.bl j=>Q (.bl (decide (i=j))) M
 |x,y=>rEqG (fun b=>b) x y M Q
def C6:R2D:=fun x y M Q=>match x,y with
 |.int i,.int j=>Q (.bl (!decide (i=j))) M
 |.bl i,.bl j=>Q (.bl (!decide (i=j))) M
 |x,y=>rEqG (fun b=>!b) x y M Q
section
variable{X:Cx}
theorem z5(hu:X.A.units+64<F0):OpD X (EK .Eq) (rEqG fun b=>b):=by intro pins s σ H v u v' u' Q I rv ru h;obtain⟨x,y,M,R,r1,r2,a,⟨p,q,p1,p2,s1,s2,hq⟩,fin⟩:=h;obtain⟨as,q1⟩:=bU I a p1 r1 rv;obtain⟨bs,q2⟩:=bU I a p2 r2 ru;exact eq_dataH q1 q2 s1 s2 hu ⟨.bl _,H,I,rfl,fin _ _ _ _ .refl (by rw[Rep]) a hq⟩
theorem Av(hu:X.A.units+64<F0):OpD X (EK .NotEq) (rEqG fun b=>!b):=by intro pins s σ H v u v' u' Q I rv ru h;obtain⟨x,y,M,R,r1,r2,a,⟨p,q,p1,p2,s1,s2,hq⟩,fin⟩:=h;obtain⟨as,q1⟩:=bU I a p1 r1 rv;obtain⟨bs,q2⟩:=bU I a p2 r2 ru;exact ne_dataH q1 q2 s1 s2 hu ⟨.bl _,H,I,rfl,fin _ _ _ _ .refl (by rw[Rep]) a hq⟩
theorem ja{i j:Int}:(i==j)=decide (i=j):=by by_cases h:i=j<;>simp[h]
theorem nP{i j:Bool}:(i==j)=decide (i=j):=by cases i<;>cases j<;>rfl
theorem b5(hu:X.A.units+64<F0):OpD X (EK .Eq) BL:=fU (z5 hu) fun v u H Q z9=>by
 obtain⟨x,y,M,R,r1,r2,a,q,fin⟩:=z9;refine⟨x,y,M,R,r1,r2,a,?_,fin⟩;unfold BL at q;split at q
 ·exact⟨_,_,.int _,.int _,rfl,rfl,by simpa[EH,ja]using q⟩
 ·exact⟨_,_,.bl _,.bl _,rfl,rfl,by simpa[EH,nP]using q⟩
 ·exact q
theorem jP(hu:X.A.units+64<F0):OpD X (EK .NotEq) C6:=fU (Av hu) fun v u H Q z9=>by
 obtain⟨x,y,M,R,r1,r2,a,q,fin⟩:=z9;refine⟨x,y,M,R,r1,r2,a,?_,fin⟩;unfold C6 at q;split at q
 ·exact⟨_,_,.int _,.int _,rfl,rfl,by simpa[EH,ja]using q⟩
 ·exact⟨_,_,.bl _,.bl _,rfl,rfl,by simpa[EH,nP]using q⟩
 ·exact q
def isC:D->D->Option Bool
 |.non,.non=>some true
 |.non,.bl _=>some false
 |.bl _,.non=>some false
 |.bl a,.bl b=>some (decide (a=b))
 |_,.non=>some false
 |_,.bl _=>some false
 |_,_=>none
inductive rIsG(g:Bool->Bool)(x y:D)(M:MH)(Q:DK):Prop
 |mk (b:Bool) (h:isC x y=some b) (q:Q (.bl (g b)) M):rIsG g x y M Q
def C8:R2D:=rIsG fun b=>b
theorem sU{K:D5}{H:Hp}{x y:D}{b:Bool}{v u:V}{v' u':D4}(h:isC x y=some b)(r1:Rep K H x v)(r2:Rep K H y u)(rv:L2.RelV v v')(ru:L2.RelV u u'):plainIs v' u'=true/\(v'==u')=b:=by
 have hu:u'=.none\/∃c,u'=.bool c:=by
  cases y with
  |non=>rw[Rep]at r2;subst r2;exact .inl ru
  |bl c=>rw[Rep]at r2;subst r2;exact .inr ⟨c,ru⟩
  |_=>cases x<;>exact absurd (show(none:Option Bool)=some b from h) (fun z=>nomatch z)
 cases x with
 |non=>
  rw[Rep]at r1;subst r1;cases (show v'=GC from rv)
  cases y<;>try exact absurd (show(none:Option Bool)=some b from h) (fun z=>nomatch z)
  ·rw[Rep]at r2;subst r2;cases (show u'=GC from ru);cases (show some true=some b from h);exact⟨rfl,rfl⟩
  ·rw[Rep]at r2;subst r2;cases (show u'=Value.bool _ from ru);cases (show some false=some b from h);exact⟨rfl,rfl⟩
 |bl c=>
  rw[Rep]at r1;subst r1;cases (show v'=Value.bool _ from rv)
  cases y<;>try exact absurd (show(none:Option Bool)=some b from h) (fun z=>nomatch z)
  ·rw[Rep]at r2;subst r2;cases (show u'=GC from ru);cases (show some false=some b from h);exact⟨rfl,rfl⟩
  ·rename_i c';rw[Rep]at r2;subst r2;cases (show u'=Value.bool _ from ru);cases (show some (decide (c=c'))=some b from h);refine⟨rfl,?_⟩;cases c<;>cases c'<;>rfl
 |int i=>
  rw[Rep]at r1;subst r1;obtain⟨t,rfl⟩:=rv
  cases y<;>first|exact absurd (show(none:Option Bool)=some b from h) (fun z=>nomatch z)|(cases (show some false=some b from h);rcases hu with rfl|⟨c,rfl⟩<;>exact⟨rfl,rfl⟩)
 |str i=>
  rw[Rep]at r1;subst r1;obtain⟨t,rfl⟩:=rv
  cases y<;>first|exact absurd (show(none:Option Bool)=some b from h) (fun z=>nomatch z)|(cases (show some false=some b from h);rcases hu with rfl|⟨c,rfl⟩<;>exact⟨rfl,rfl⟩)
 |ty i=>
  rw[Rep]at r1;subst r1;cases (show v'=Value.type _ from rv)
  cases y<;>first|exact absurd (show(none:Option Bool)=some b from h) (fun z=>nomatch z)|(cases (show some false=some b from h);rcases hu with rfl|⟨c,rfl⟩<;>exact⟨rfl,rfl⟩)
 |ref i=>
  rw[Rep]at r1;subst r1;cases (show v'=Fd _ from rv)
  cases y<;>first|exact absurd (show(none:Option Bool)=some b from h) (fun z=>nomatch z)|(cases (show some false=some b from h);rcases hu with rfl|⟨c,rfl⟩<;>exact⟨rfl,rfl⟩)
 |rol i=>
  rw[Rep]at r1;obtain⟨a,xs,rfl,_,_⟩:=r1;cases (show v'=Fd _ from rv)
  cases y<;>first|exact absurd (show(none:Option Bool)=some b from h) (fun z=>nomatch z)|(cases (show some false=some b from h);rcases hu with rfl|⟨c,rfl⟩<;>exact⟨rfl,rfl⟩)
 |tup i=>
  rw[Rep]at r1;obtain⟨a,xs,rfl,_,_⟩:=r1;cases (show v'=Fd _ from rv)
  cases y<;>first|exact absurd (show(none:Option Bool)=some b from h) (fun z=>nomatch z)|(cases (show some false=some b from h);rcases hu with rfl|⟨c,rfl⟩<;>exact⟨rfl,rfl⟩)
theorem B1:OpD X (EK .Is) C8:=by intro pins s σ H v u v' u' Q I rv ru h;obtain⟨x,y,M,R,r1,r2,a,⟨b,e,q⟩,fin⟩:=h;obtain⟨e1,e2⟩:=sU e r1 r2 rv ru;exact wpAny_is_plain e1 ⟨.bl b,H,I,by rw[e2];rfl,fin _ _ _ _ .refl (by rw[Rep]) a q⟩
end
abbrev RC:=List D->MH->DK->Prop
def yL(K:D5)(r:RC):List V->Hp->VK->Prop:=fun vs H Q=>∃ds M R,ax K H ds vs/\Abs K H M/\r ds M R/\Fin K H R Q
def cP(X:Cx)(f:D4)(r:RC):Prop:=bM X f (yL X.K r)
theorem bJ{X:Cx}{f:D4}{r r':List V->Hp->VK->Prop}(h:bM X f r)(k:∀xs H Q,r' xs H Q->r xs H Q):bM X f r':=fun pins s σ H xs us Q I a q=>h pins s σ H xs us Q I a (k _ _ _ q)
def An(r:RC)(t:TAD):TD:=fun δ M Q=>t δ M fun ds M1=>r ds M1 Q
theorem rA{K:D5}{r:RC}{t:TAD}{σ:L2.St}{H:Hp}{Q:VK}(h:lift K (An r t) σ H Q):tCB (yL K r) (yS K t) σ H Q:=by obtain⟨δ,M,R,hs,hM,q,fin⟩:=h;exact⟨δ,M,_,hs,hM,q,fun ds M1 vs H1 g1 r1 a1 q1=>⟨ds,M1,R,r1,a1,q1,fin.go g1⟩⟩
section
variable{X:Cx}{x:Str}{p pos:Pos}{e:Expr}{es:List Expr}{t:TAD}{id T:String}{r:RC}
theorem aF(hc:cP X (.builtin id) r)(hg:Gl X x)(hm:X.mg x=none)(hv:F7 x=some (.builtin id))(ha:DA X (e::es) t)(hn:x≠"__name__":=by decide)(hdb:(x==("__debug__":Str))=false:=by decide) (he:Eb (e::es) X.env=(false,eval e X.env)::Eb es X.env:=by rfl) (hpl:(Fn pos (Eb es X.env)).any (·.1)=false:=by rfl):DE X (.Call (.Name x p) (e::es) [] pos) (An r t):=aO (tI hc hg hm hv ha hn hdb he hpl) fun _ _ _ h=>rA h
theorem cY(hc:cP X (.type T) r)(hg:Gl X x)(hm:X.mg x=none)(hv:F7 x=some (.type T))(ha:DA X (e::es) t)(hn:x≠"__name__":=by decide)(hdb:(x==("__debug__":Str))=false:=by decide) (he:Eb (e::es) X.env=(false,eval e X.env)::Eb es X.env:=by rfl) (hpl:(Fn pos (Eb es X.env)).any (·.1)=false:=by rfl):DE X (.Call (.Name x p) (e::es) [] pos) (An r t):=aO (tm hc hg hm hv ha hn hdb he hpl) fun _ _ _ h=>rA h
theorem bN{K:D5}{H:Hp}{d:D}{vs:List V}(h:ax K H [d] vs):∃v,vs=[v]/\Rep K H d v:=by rw[ax]at h;obtain⟨x,r,rfl,h1,h2⟩:=h;rw[ax]at h2;subst h2;exact⟨x,rfl,h1⟩
theorem dt{K:D5}{H:Hp}{d e:D}{vs:List V}(h:ax K H [d,e] vs):∃v u,vs=[v,u]/\Rep K H d v/\Rep K H e u:=by rw[ax]at h;obtain⟨x,r,rfl,h1,h2⟩:=h;obtain⟨u,rfl,h3⟩:=bN h2;exact⟨x,u,rfl,h1,h3⟩
def B8:RC:=fun ds M Q=>match ds with
 |[.int i]=>Q (.int (i.natAbs:Int)) M
 |_=>False
theorem qc:cP X (.builtin "abs") B8:=bJ t9 fun vs H Q z9=>by
 obtain⟨ds,M,R,rs,a,q,fin⟩:=z9;unfold B8 at q;split at q
 ·rename_i i;obtain⟨v,rfl,r⟩:=bN rs;rw[Rep]at r;subst r;have e:(if i<0 then -i else i)=(i.natAbs:Int):=by split<;>omega
  exact⟨_,rfl,fin _ _ _ _ .refl (by rw[Rep,e]) a q⟩
 ·exact q.elim
def BY:RC:=fun ds M Q=>match ds with
 |[.int i,.int j]=>Q (.int (max i j)) M
 |_=>False
def Br:RC:=fun ds M Q=>match ds with
 |[.int i,.int j]=>Q (.int (min i j)) M
 |_=>False
theorem Be(hc:X.calm=true):cP X (.builtin "max") BY:=bJ (so hc) fun vs H Q z9=>by
 obtain⟨ds,M,R,rs,a,q,fin⟩:=z9;unfold BY at q;split at q
 ·rename_i i j;obtain⟨v,u,rfl,r,r'⟩:=dt rs;rw[Rep]at r;subst r;have r2:u=.int j:=by rw[Rep]at r';exact r'
  subst r2;have e:(if j>i then j else i)=max i j:=by split<;>omega
  exact⟨_,_,rfl,fin _ _ _ _ .refl (by rw[Rep,e]) a q⟩
 ·exact q.elim
theorem AR(hc:X.calm=true):cP X (.builtin "min") Br:=bJ (rW hc) fun vs H Q z9=>by
 obtain⟨ds,M,R,rs,a,q,fin⟩:=z9;unfold Br at q;split at q
 ·rename_i i j;obtain⟨v,u,rfl,r,r'⟩:=dt rs;rw[Rep]at r;subst r;have r2:u=.int j:=by rw[Rep]at r';exact r'
  subst r2;have e:(if j<i then j else i)=min i j:=by split<;>omega
  exact⟨_,_,rfl,fin _ _ _ _ .refl (by rw[Rep,e]) a q⟩
 ·exact q.elim
def CB:RC:=fun ds M Q=>match ds with
 |[.tup xs]=>Q (.int (xs.length:Int)) M
 |[.rol xs]=>Q (.int (xs.length:Int)) M
 |[.ref l]=>∃xs,M l=some (.lst xs)/\Q (.int (xs.length:Int)) M
 |_=>False
theorem cv:cP X (.builtin "len") CB:=bJ mh fun vs H Q z9=>by
 obtain⟨ds,M,R,rs,a,q,fin⟩:=z9;unfold CB at q;split at q
 ·obtain⟨v,rfl,r⟩:=bN rs;rw[Rep]at r;obtain⟨l,xs,rfl,h1,h2⟩:=r;exact⟨l,xs,rfl,.inr h1,fin _ _ _ _ .refl (by rw[Rep,h2.length]) a q⟩
 ·obtain⟨v,rfl,r⟩:=bN rs;rw[Rep]at r;obtain⟨l,xs,rfl,h1,h2⟩:=r;exact⟨l,xs,rfl,.inl h1.sql,fin _ _ _ _ .refl (by rw[Rep,h2.length]) a q⟩
 ·obtain⟨v,rfl,r⟩:=bN rs;rw[Rep]at r;subst r;obtain⟨xs,e,q⟩:=q;obtain⟨ys,h1,h2⟩:=a _ _ e;exact⟨_,ys,rfl,.inl (SqL.of h1),fin _ _ _ _ .refl (by rw[Rep,h2.length]) a q⟩
 ·exact q.elim
def uF:RC:=fun ds M Q=>match ds with
 |[.tup xs]=>Q (.tup xs) M
 |[.rol xs]=>Q (.tup xs) M
 |[.ref l]=>∃xs,M l=some (.lst xs)/\Q (.tup xs) M
 |_=>False
theorem n9:cP X (.type "tuple") uF:=bJ k9 fun vs H Q z9=>by
 obtain⟨ds,M,R,rs,a,q,fin⟩:=z9;unfold uF at q;split at q
 ·obtain⟨v,rfl,r⟩:=bN rs;rw[Rep]at r;obtain⟨l,xs,rfl,h1,h2⟩:=r;exact⟨l,xs,rfl,.inr ⟨h1,fin _ _ _ _ .refl (by rw[Rep];exact⟨l,xs,rfl,h1,h2⟩) a q⟩⟩
 ·obtain⟨v,rfl,r⟩:=bN rs;rw[Rep]at r;obtain⟨l,xs,rfl,h1,h2⟩:=r;exact⟨l,xs,rfl,.inl ⟨h1.sql,fun p hp=>fin _ _ _ _ (.new hp) (by rw[Rep];exact⟨p,xs,rfl,SqT.of aK,h2.mono (.new hp)⟩) (a.new hp) q⟩⟩
 ·obtain⟨v,rfl,r⟩:=bN rs;rw[Rep]at r;subst r;obtain⟨xs,e,q⟩:=q;obtain⟨ys,h1,h2⟩:=a _ _ e;exact⟨_,ys,rfl,.inl ⟨SqL.of h1,fun p hp=>fin _ _ _ _ (.new hp) (by rw[Rep];exact⟨p,ys,rfl,SqT.of aK,h2.mono (.new hp)⟩) (a.new hp) q⟩⟩
 ·exact q.elim
def yB:RC:=fun ds M Q=>match ds with
 |[.int i]=>Q (.int i) M
 |[.bl k]=>Q (.int (if k=true then 1 else 0)) M
 |_=>False
theorem tS:cP X (.type "int") yB:=bJ rO fun vs H Q z9=>by
 obtain⟨ds,M,R,rs,a,q,fin⟩:=z9;unfold yB at q;split at q
 ·obtain⟨v,rfl,r⟩:=bN rs;rw[Rep]at r;subst r;exact .inl ⟨_,rfl,fin _ _ _ _ .refl (by rw[Rep]) a q⟩
 ·obtain⟨v,rfl,r⟩:=bN rs;rw[Rep]at r;subst r;exact .inr ⟨_,rfl,fin _ _ _ _ .refl (by rw[Rep]) a q⟩
 ·exact q.elim
end
abbrev TGD:=D->DS->MH->(DS->MH->Prop)->Prop
abbrev qb:=List D->DS->MH->(DS->MH->Prop)->Prop
section
variable(K:D5)
def tw(H:Hp)(R:DS->MH->Prop)(Q:L2.St->Hp->Prop):Prop:=∀δ' M' σ' H',Grow K H H'->Slots K H' δ' σ'->Abs K H' M'->R δ' M'->Q σ' H'
def BH(t:TGD):TG:=fun v σ H Q=>∃d δ M R,Rep K H d v/\Slots K H δ σ/\Abs K H M/\t d δ M R/\tw K H R Q
def AO(t:qb):TGs:=fun vs σ H Q=>∃ds δ M R,ax K H ds vs/\Slots K H δ σ/\Abs K H M/\t ds δ M R/\tw K H R Q
end
theorem tw.go{K:D5}{H H1:Hp}{R:DS->MH->Prop}{Q:L2.St->Hp->Prop}(g:Grow K H H1)(h:tw K H R Q):tw K H1 R Q:=fun d M v H' g'=>h d M v H' (g.trans g')
def DG(X:Cx)(e:Expr)(t:TGD):Prop:=PG X e (BH X.K t)
def DGs(X:Cx)(es:List Expr)(t:qb):Prop:=PGs X es (AO X.K t)
theorem pH{X:Cx}{e:Expr}{t t':TG}(h:PG X e t)(k:∀v σ H Q,t' v σ H Q->t v σ H Q):PG X e t':=fun pins s σ H v u Q I r q=>h pins s σ H v u Q I r (k _ _ _ _ q)
theorem qS{X:Cx}{e:List Expr}{t t':TGs}(h:PGs X e t)(k:∀v σ H Q,t' v σ H Q->t v σ H Q):PGs X e t':=fun pins s σ H v u Q I r q=>h pins s σ H v u Q I r (k _ _ _ _ q)
section
variable{X:Cx}{pos:Pos}
def bF(i:Nat):TGD:=fun d δ M Q=>Q (δ.set i (some d)) M
theorem av(i:Nat){x:Str}(hN:X.N.Nodup)(hi:X.N[i]?=some x:=by rfl)(hx:Loc X.env.scope x:=by first|exact Or.inl rfl|exact Or.inr rfl)(hf:X.fn x=true\/X.env.scope.names.lookup x=some .local:=by first|exact .inl rfl|exact .inr rfl|assumption):DG X (.Name x pos) (bF i):=pH (rG hN hi hx hf) fun v σ H Q zz1_0=>by obtain⟨d,δ,M,R,r,hs,a,q,fin⟩:=zz1_0;exact(fin _ _ _ _ .refl (hs.set r i) a q)
def CD:qb:=fun ds δ M Q=>ds=[]/\Q δ M
inductive gConsD(t:TGD)(u:qb)(ds:List D)(δ:DS)(M:MH)(Q:DS->MH->Prop):Prop
 |mk (d:D) (r:List D) (h:ds=d::r) (q:t d δ M fun δ' M'=>u r δ' M' Q):gConsD t u ds δ M Q
theorem aT:DGs X [] CD:=qS iX fun vs σ H Q z9=>by obtain⟨ds,δ,M,R,rs,hs,a,⟨e,q⟩,fin⟩:=z9;subst e;rw[ax]at rs;exact⟨rs,fin _ _ _ _ .refl hs a q⟩
theorem ay{e:Expr}{es:List Expr}{t:TGD}{u:qb}(h1:DG X e t)(h2:DGs X es u) (hs:(GF (e::es) X.env).map (·.2)=GJ e X.env::(GF es X.env).map (·.2):=by rfl):DGs X (e::es) (gConsD t u):=qS (c7 h1 h2 hs) fun vs σ H Q z9=>by obtain⟨ds,δ,M,R,rs,hs,a,⟨d,r,e,q⟩,fin⟩:=z9;subst e;rw[ax]at rs;obtain⟨x,xs,rfl,r1,r2⟩:=rs;exact⟨x,xs,rfl,d,δ,M,_,r1,hs,a,q,fun δ' M' σ' H' g' s' a' q'=>⟨r,δ',M',R,r2.mono g',s',a',q',fin.go g'⟩⟩
inductive gTupD(n:Nat)(t:qb)(d:D)(δ:DS)(M:MH)(Q:DS->MH->Prop):Prop
 |mk (ds:List D) (h:d=.tup ds) (q:ds.length=n/\t ds δ M Q):gTupD n t d δ M Q
theorem bA{es:List Expr}{k:Nat}{t:qb}{n:Nat}(hc:X.calm=true)(h:DGs X es t) (hn:(GF es X.env).length=n:=by rfl) (hst:(GF es X.env).findIdx? (·.1)=none:=by rfl):DG X (.Tuple es k pos) (gTupD n t):=pH (mD hc h hn hst) fun v σ H Q z9=>by obtain⟨d,δ,M,R,r,hs,a,⟨ds,e,hl,q⟩,fin⟩:=z9;subst e;rw[Rep]at r;obtain⟨p,xs,rfl,h1,h2⟩:=r;exact⟨p,xs,rfl,h1,by rw[<-h2.length];exact hl,ds,δ,M,R,h2,hs,a,q,fin⟩
def yK:D->D->D->MH->(MH->Prop)->Prop:=fun o i v M Q=>match o,i with
 |.ref p,.int k=>∃ds j,M p=some (.lst ds)/\ixN ds.length k=some j/\Q (aq M p (.lst (ds.set j v)))
 |_,_=>False
def C5(to ti:TD):TGD:=fun v δ M Q=>to δ M fun o M1=>ti δ M1 fun i M2=>yK o i v M2 fun M3=>Q δ M3
theorem mC{o i:Expr}{to ti:TD}(ho:DE X o to)(hi:DE X i ti)
 (ha:∀v,GJ (.Subscript o i pos) X.env v=(do
  let ov <-holding [v] (eval o X.env)
  let iv <-holding [v,ov] (eval i X.env)
  standAt pos
  holding [v,ov,iv] (setItem ov iv v)
  release [v,ov,iv] []):=by intro _;rfl):DG X (.Subscript o i pos) (C5 to ti):=
 pH (zX ho hi set_list ha) fun v σ H Q ⟨d,δ,M,R,r,hs,a,q,fin⟩=>
  ⟨δ,M,_,hs,a,q,fun o M1 vo H1 g1 r1 a1 q1=>⟨δ,M1,_,hs.mono g1,a1,q1,fun i M2 vi H2 g2 r2 a2 q2=>by
   unfold yK at q2
   split at q2
   ·obtain⟨ds,j,e1,e2,q2⟩:=q2
    obtain rfl:vo=.ref _:=r1
    obtain rfl:vi=.int _:=r2
    obtain⟨xs,h1,h2⟩:=a2 _ _ e1
    refine⟨_,xs,_,j,rfl,rfl,h1,by rw[<-h2.length];exact e2,?_⟩
    have g3:Grow X.K H2 (upd H2 _ (.lst (xs.set j v))):=.lst h1
    exact fin _ _ _ _ ((g1.trans g2).trans g3) (hs.mono ((g1.trans g2).trans g3)) (a2.pE h1 (h2.set (r.mono (g1.trans g2)) j)) q2
   ·exact q2.elim⟩⟩
end
section
variable{X:Cx}{pos:Pos}{st:Stmt}{rest:List Stmt}{t u:TSD}
def dq:TSD:=fun B δ M=>B.nx δ M
def eW(t u:TSD):TSD:=fun B δ M=>t { B with nx:=u B } δ M
theorem aI:DSs X [] dq:=rl xF fun E σ H zz2_0=>by obtain⟨δ,M,hs,a,B,ok,q⟩:=zz2_0;exact(ok.nx _ _ _ _ .refl hs a q)
theorem ag(h1:DSt X st t)(h2:DSs X rest u):DSs X (st::rest) (eW t u):=rl (tY h1 h2) fun E σ H zz3_0=>by obtain⟨δ,M,hs,a,B,ok,q⟩:=zz3_0;exact(⟨δ,M,hs,a,{ B with nx:=u B },⟨fun δ' M' σ' H' g s' a' q'=>⟨δ',M',s',a',B,ok.go g,q'⟩,ok.rt,ok.bk,ok.ct⟩,q⟩)
theorem aj(h1:DSt X st t):DSs X [st] t:=x6 h1
def yh:TSD:=fun _ _ _=>False
theorem uk:DSt X st yh:=cD wt fun E σ H zz7_0=>by obtain⟨δ,M,hs,a,B,ok,q⟩:=zz7_0;exact(q.elim)
def dH(te:TD):TSD:=fun B δ M=>te δ M fun _ M1=>B.nx δ M1
theorem br{e:Expr}{te:TD}(he:DE X e te)(hs:GI e none pos.line X.env=pure false:=by rfl):DSt X (.Expr e pos) (dH te):=cD (xT he hs) fun E σ H zz9_0=>by obtain⟨δ,M,hs,a,B,ok,q⟩:=zz9_0;exact(⟨δ,M,_,hs,a,q,fun d M1 v H1 g1 r1 a1 q1=>ok.nx _ _ _ _ g1 (hs.mono g1) a1 q1⟩)
def eU(te:TD):TSD:=fun B δ M=>te δ M B.rt
theorem az{e:Expr}{te:TD}(he:DE X e te):DSt X (.Return (some e) pos) (eU te):=cD (Ab he) fun E σ H zz10_0=>by obtain⟨δ,M,hs,a,B,ok,q⟩:=zz10_0;exact(⟨δ,M,_,hs,a,q,fun d M1 v H1 g1 r1 a1 q1=>ok.rt _ _ _ _ g1 r1 a1 q1⟩)
def fN(c:TTD)(t u:TSD):TSD:=fun B δ M=>c δ M fun b M1=>if b=true then t B δ M1 else u B δ M1
theorem bf{c:Expr}{a b:List Stmt}{tc:TTD}(hc:DT X c tc)(ha:DSs X a t)(hb:DSs X b u):DSt X (.If c a b pos) (fN tc t u):=
 cD (CN hc ha hb) fun E σ H zz12_0=>by obtain⟨δ,M,hs,a,B,ok,q⟩:=zz12_0;exact(⟨δ,M,_,hs,a,q,fun c M1 H1 g1 a1 q1=>by
  cases c with
  |true=>rw[if_pos rfl]at q1 ⊢;exact⟨δ,M1,hs.mono g1,a1,B,ok.go g1,q1⟩
  |false=>rw[if_neg Ei]at q1 ⊢;exact⟨δ,M1,hs.mono g1,a1,B,ok.go g1,q1⟩⟩)
def cZ(te:TD)(g:TGD):TSD:=fun B δ M=>te δ M fun d M1=>g d δ M1 B.nx
theorem cf{tg e:Expr}{te:TD}{g:TGD}(he:DE X e te)(hg:DG X tg g)(hs:swapsWithSole [tg] e pos.line X.env=pure false:=by rfl)(hw:swappedStores [tg] e X.env=pure none:=by rfl)
 (h1:(GF [tg] X.env).map (·.2)=[GJ tg X.env]:=by rfl):DSt X (.Assign [tg] e pos) (cZ te g):=
 cD (Aa he hg hs hw h1) fun E σ H zz13_0=>by obtain⟨δ,M,hs,a,B,ok,q⟩:=zz13_0;exact(⟨δ,M,_,hs,a,q,fun d M1 v H1 g1 r1 a1 q1=>
  ⟨d,δ,M1,B.nx,r1,hs.mono g1,a1,q1,fun δ' M' σ' H' g' s' a' q'=>ok.nx _ _ _ _ (g1.trans g') s' a' q'⟩⟩)
theorem aA(i:Nat){x:Str}{e:Expr}{te:TD}{pos':Pos}(hN:X.N.Nodup)(he:DE X e te)(hi:X.N[i]?=some x:=by rfl)(hx:Loc X.env.scope x:=by first|exact Or.inl rfl|exact Or.inr rfl)(hs:GI e (some (.Name x pos')) pos.line X.env=pure false:=by rfl) (hf:X.fn x=true\/X.env.scope.names.lookup x=some .local:=by first|exact .inl rfl|exact .inr rfl|assumption):DSt X (.Assign [.Name x pos'] e pos) (cZ te (bF i)):=cD (Aw hN hi hx he hs hf) fun E σ H zz14_0=>by obtain⟨δ,M,hs,a,B,ok,q⟩:=zz14_0;exact(⟨δ,M,_,hs,a,q,fun d M1 v H1 g1 r1 a1 q1=>ok.nx _ _ _ _ g1 ((hs.mono g1).set r1 i) a1 q1⟩)
def Bt(i j:Nat)(ta:TAD):TSD:=fun B δ M=>ta δ M fun ds M1=>∃d e,ds=[d,e]/\B.nx ((δ.set i (some d)).set j (some e)) M1
theorem fY(i j:Nat){x y:Str}{a b:Expr}{ta:TAD}{px py pt:Pos}{kt k2 pt2}(hc:X.calm=true)(hN:X.N.Nodup)(ha:DA X [a,b] ta)(hij:i≠j:=by decide)(hi:X.N[i]?=some x:=by rfl)(hj:X.N[j]?=some y:=by rfl)
 (hx:X.env.scope.names.lookup x=some .local:=by rfl) (hy:X.env.scope.names.lookup y=some .local:=by rfl)
 (hw:swappedStores [.Tuple [.Name x px,.Name y py] kt pt] (.Tuple [a,b] k2 pt2) X.env=pure (some [x,y]):=by rfl)
 (hs:swapsWithSole [.Tuple [.Name x px,.Name y py] kt pt] (.Tuple [a,b] k2 pt2) pos.line X.env=pure false:=by rfl) :
 DSt X (.Assign [.Tuple [.Name x px,.Name y py] kt pt] (.Tuple [a,b] k2 pt2) pos) (Bt i j ta):=
 cD (AQ hc hN hi hj hij hx hy ha hw hs) fun E σ H zz15_0=>by obtain⟨δ,M,hs,a,B,ok,q⟩:=zz15_0;exact(⟨δ,M,_,hs,a,q,fun ds M1 vs H1 g1 r1 a1 z9=>by
  obtain⟨d,e,z,q1⟩:=z9
  subst z
  obtain⟨v,u,rfl,r2,r3⟩:=dt r1
  exact⟨v,u,rfl,ok.nx _ _ _ _ g1 (((hs.mono g1).set r2 i).set r3 j) a1 q1⟩⟩)
def yk(c:TTD)(tb:TSD):TSD:=fun B δ M=>∃W:Nat->DS->MH->Prop,(∃m,W m δ M)/\∀m δ M,W m δ M->
 c δ M fun b M1=>if b=true then tb { B with nx:=fun δ' M'=>∃m',m'<m/\W m' δ' M',ct:=fun δ' M'=>∃m',m'<m/\W m' δ' M',bk:=B.nx } δ M1 else B.nx δ M1
theorem gw{c:Expr}{body:List Stmt}{tc:TTD}{tb:TSD}(hp:PassesOwn (Ef X.prog X.w) X.A X.env X.xe)(hc:DT X c tc)(hb:DSs X body tb):DSt X (.While c body [] pos) (yk tc tb):=
 cD (vk hp hc hb) fun E σ H z9=>by
  obtain⟨δ,M,hs,a,B,ok,W,⟨m,w0⟩,turn⟩:=z9
  refine⟨fun m σ H'=>Grow X.K H H'/\∃δ M,Slots X.K H' δ σ/\Abs X.K H' M/\W m δ M,⟨m,.refl,δ,M,hs,a,w0⟩,?_⟩
  rintro m σ H' ⟨g,δ,M,hs,a,w0⟩
  refine⟨δ,M,_,hs,a,turn m δ M w0,fun b M1 H1 g1 a1 q1=>?_⟩
  cases b with
  |true=>
   rw[if_pos rfl]at q1 ⊢
   refine⟨fun σ2 H2=>∃m',m'<m/\(Grow X.K H H2/\∃δ M,Slots X.K H2 δ σ2/\Abs X.K H2 M/\W m' δ M),fun σ' H' h=>h,δ,M1,hs.mono g1,a1,_,?_,q1⟩
   refine⟨fun δ' M' σ' H' g' s' a' zz16_0=>by obtain⟨m',l,w'⟩:=zz16_0;exact(⟨m',l,(g.trans g1).trans g',δ',M',s',a',w'⟩),fun d M v H' g'=>ok.rt d M v H' ((g.trans g1).trans g'),fun δ' M' σ' H' g' s' a' q'=>ok.nx _ _ _ _ ((g.trans g1).trans g') s' a' q',fun δ' M' σ' H' g' s' a' zz17_0=>by obtain⟨m',l,w'⟩:=zz17_0;exact(⟨m',l,(g.trans g1).trans g',δ',M',s',a',w'⟩)⟩
  |false=>
   rw[if_neg Ei]at q1 ⊢
   exact ok.nx _ _ _ _ (g.trans g1) (hs.mono g1) a1 q1
inductive ForW(g:TGD)(tb:TSD)(B:EndsD)(n:Nat)(δ0:DS)(M0:MH):Prop
 |mk (W:Nat->DS->MH->Prop) (w0:W 0 δ0 M0) (turn:∀i δ M,i<n->W i δ M->g (.int (i:Int)) δ M fun δ2 M2=>tb { B with nx:=W (i+1),ct:=W (i+1),bk:=B.nx } δ2 M2) (done:∀δ M,W n δ M->B.nx δ M):ForW g tb B n δ0 M0
inductive ForR(g:TGD)(tb:TSD)(B:EndsD)(ds:List D)(δ0:DS)(M0:MH):Prop
 |mk (n:Nat) (e:ds=[.int (n:Int)]) (q:n<2^60/\ForW g tb B n δ0 M0):ForR g tb B ds δ0 M0
def zK(ta:TAD)(g:TGD)(tb:TSD):TSD:=fun B δ M=>ta δ M fun ds M1=>ForR g tb B ds δ M1
theorem d6{tg e:Expr}{body:List Stmt}{ta:TAD}{g:TGD}{tb:TSD}{p p2:Pos}(hp:PassesOwn (Ef X.prog X.w) X.A X.env X.xe)(hc:X.calm=true)(hg:Gl X "range")(hm:X.mg "range"=none)(ha:DA X [e] ta)(hG:DG X tg g)(hb:DSs X body tb)
 (hs:Eb [e] X.env=[(false,eval e X.env)]:=by rfl) (hf:∀x,Eu (.Call (.Name "range" p) [e] [] p2) X.env x=pure x:=by intro _;rfl):DSt X (.For tg (.Call (.Name "range" p) [e] [] p2) body [] pos) (zK ta g tb):=
 cD (wb hp hc (lU hg hm ha hs) hG hb hf) fun E σ H ⟨δ,M,hs,a,B,ok,q⟩=>⟨δ,M,_,hs,a,q,fun ds M1 vs H1 g1 r1 a1 z9=>by
  obtain⟨n,e,hn,W,w0,turn,done⟩:=z9
  subst e
  obtain⟨v,rfl,r⟩:=bN r1
  rw[Rep]at r;subst r
  refine⟨(n:Int),rfl,by omega,by omega,?_⟩
  rw[show((n:Int)).toNat=n from by simp]
  refine sJ (fun i σ H'=>Grow X.K H H'/\∃δ M,Slots X.K H' δ σ/\Abs X.K H' M/\W i δ M) ⟨g1,δ,M1,hs.mono g1,a1,w0⟩ ?_ ?_
  ·rintro i σ H2 hi ⟨g2,δ,M,s2,a2,w2⟩
   refine⟨.int (i:Int),δ,M,_,by rw[Rep];simp,s2,a2,turn i δ M hi w2,fun δ3 M3 σ3 H3 g3 s3 a3 q3=>?_⟩
   refine⟨δ3,M3,s3,a3,_,?_,q3⟩
   exact⟨fun δ' M' σ' H' g' s' a' w'=>⟨(g2.trans g3).trans g',δ',M',s',a',w'⟩,fun d M v H' g'=>ok.rt d M v H' ((g2.trans g3).trans g'),fun δ' M' σ' H' g' s' a' q'=>ok.nx _ _ _ _ ((g2.trans g3).trans g') s' a' q',fun δ' M' σ' H' g' s' a' w'=>⟨(g2.trans g3).trans g',δ',M',s',a',w'⟩⟩
  ·rintro σ H2 ⟨g2,δ,M,s2,a2,w2⟩
   exact ok.nx _ _ _ _ g2 s2 a2 (done δ M w2)⟩
end
theorem wD{b:Bool}{A B:Prop}(e:b=true)(h:A):if b=true then A else B:=by rw[if_pos e];exact h
theorem sf{b:Bool}{A B:Prop}(e:b=false)(h:B):if b=true then A else B:=by rw[if_neg (by rw[e];exact Ei)];exact h
theorem vb{ta tb:TD}{δ:DS}{M:MH}{Q:DK}(c1 c2:Bool)(ha:∀K:DK,K (.bl c1) M->ta δ M K)(hb:c1=true->∀K:DK,K (.bl c2) M->tb δ M K)(hq:Q (.bl (c1&&c2)) M):uR ta tb δ M Q:=
 ha _ ⟨c1,rfl,by
  cases c1 with
  |true=>rw[if_pos rfl];exact hb rfl _ hq
  |false=>rw[if_neg Ei];exact hq⟩
theorem orT{ta tb:TTD}{δ:DS}{M:MH}{Q:Bool->MH->Prop}(c1 c2:Bool)(ha:∀K:Bool->MH->Prop,K c1 M->ta δ M K)(hb:c1=false->∀K:Bool->MH->Prop,K c2 M->tb δ M K)(hq:Q (c1||c2) M):Cs ta tb δ M Q:=
 ha _ (by
  cases c1 with
  |true=>rw[if_pos rfl];exact hq
  |false=>rw[if_neg Ei];exact hb rfl _ hq)
theorem uq{ta tb:TTD}{δ:DS}{M:MH}{Q:Bool->MH->Prop}(c1 c2:Bool)(ha:∀K:Bool->MH->Prop,K c1 M->ta δ M K)(hb:c1=true->∀K:Bool->MH->Prop,K c2 M->tb δ M K)(hq:Q (c1&&c2) M):yE ta tb δ M Q:=
 ha _ (by
  cases c1 with
  |true=>rw[if_pos rfl];exact hb rfl _ hq
  |false=>rw[if_neg Ei];exact hq)
theorem cA{t u:TSD}{B:EndsD}{δ:DS}{M:MH}(W:DS->MH->Prop)(hu:∀δ' M',W δ' M'->u B δ' M')(ht:(∀δ' M',W δ' M'->u B δ' M')->t { B with nx:=u B } δ M):eW t u B δ M:=ht hu
def Sub(M' M:MH):Prop:=∀a o,M' a=some o->M a=some o
theorem Sub.refl{M:MH}:Sub M M:=fun _ _ h=>h
theorem Sub.trans{M M1 M2:MH}(a:Sub M M1)(b:Sub M1 M2):Sub M M2:=fun x o h=>b x o (a x o h)
theorem Sub.new{M M':MH}{p:Addr}{o:MO}(hp:M p=none)(s:Sub M' M):Sub M' (aq M p o):=fun a u h=>by rw[ai (fun e=>by subst e;rw[s _ _ h]at hp;cases hp)];exact s _ _ h
inductive Ret(Q:DK)(d:D)(M:MH):Prop
 |mk (M':MH) (s:Sub M' M) (q:Q d M'):Ret Q d M
theorem rtn{Q:DK}{d:D}{M:MH}(q:Q d M):Ret Q d M:=⟨M,.refl,q⟩
abbrev SpD:=List D->MH->DK->Prop
def fZ(K:D5)(sp:SpD):Sp:=fun vs H Q _=>∃ds M R,ax K H ds vs/\Abs K H M/\sp ds M R/\Fin K H R Q
def Cal(P:Ee)(w:EB)(K:D5)(mg:Str->Option D4)(base:Heap)(k:Nat)(x:Str)(sp:SpD):Prop:=
 ∃f fd ps,FnOk P w K mg base CX0 k f fd ps (fZ K sp)/\mg x=some (.ref f)/\PySem.W.keepIn K (.ref f)=true/\Binds K fd ps []
theorem Cal.mono{P:Ee}{w:EB}{K:D5}{mg:Str->Option D4}{base:Heap}{j k:Nat}{x:Str}{sp:SpD}(h:Cal P w K mg base j x sp)(l:j<=k):Cal P w K mg base k x sp:=let⟨f,fd,ps,F,r⟩:=h;⟨f,fd,ps,F.mono l,r⟩
section
variable{X:Cx}{k:Nat}{x:Str}{sp:SpD}{p pos:Pos}{e:Expr}{es:List Expr}{t:TAD}
def vC(sp:SpD)(t:TAD):TD:=fun δ M Q=>t δ M fun ds M1=>sp ds M1 Q
theorem ak(C:Cal X.prog X.w X.K X.mg X.base k x sp)(hr:Room k X.A)(ha:DA X (e::es) t)(hg:Gl X x:=by rfl)(hdb:(x==("__debug__":Str))=false:=by decide)
 (he:Eb (e::es) X.env=(false,eval e X.env)::Eb es X.env:=by rfl) (hpl:(Fn pos (Eb es X.env)).any (·.1)=false:=by rfl):DE X (.Call (.Name x p) (e::es) [] pos) (vC sp t):=by
 obtain⟨f,fd,ps,F,hm,hk,hb⟩:=C
 refine aO (wB F hr hg hm hk hb .nil BU ha hdb he hpl) fun σ H Q zz19_0=>?_
 obtain⟨δ,M,R,hs,hM,q,fin⟩:=zz19_0
 refine⟨δ,M,_,hs,hM,q,fun ds M1 vs H1 g1 r1 a1 q1=>?_⟩
 show fZ X.K sp (vs++[]) H1 Q E0
 rw[EV]
 exact⟨ds,M1,R,r1,a1,q1,fin.go g1⟩
end
def eP(N:List Str)(ds:List D):DS:=ds.map some++Er (N.length-ds.length) none
section
variable{P:Ee}{w:EB}{K:D5}{mg:Str->Option D4}{base:Heap}
theorem fnD{x qual:Str}{st:Stmt}{f:Addr}{fd:Gw}{N ps:List Str}{k:Nat}{sp:SpD}(F:Fun K x qual st f fd)(S:FnScope N ps (ao st))(len:∀ds M Q,sp ds M Q->ds.length=ps.length)
 (hbody:∀X:Cx,X.prog=P->True) (body:∀(cdv:D4) (A:EE) (outer:List Env) (s:D6) (H:Hp) (E:XK),Room k (A.deeper (envOfC qual (ao st) s.heap.objs.size f cdv))->
  ∃t,DSs (gR CX0 P w K mg base N qual (ao st) f cdv A outer s H E).nox (aS st) t/\∀ds M Q,sp ds M Q->t { nx:=fun _ M'=>Ret Q .non M',rt:=Ret Q } (eP N ds) M):FnOk P w K mg base CX0 (k+1) f fd ps (fZ K sp):=by
 refine F.ok S (fun vs H Q E zz20_0=>by obtain⟨ds,M,R,rs,_,q,_⟩:=zz20_0;rw[<-rs.length];exact len _ _ _ q) fun cdv A outer s H vs Q E hr zz21_0=>?_
 obtain⟨ds,M,R,rs,a,q,fin⟩:=zz21_0
 obtain⟨t,h,hq⟩:=body cdv A outer s H E hr
 refine⟨_,h,eP N ds,M,oD rs,a,{ nx:=fun _ M'=>Ret R .non M',rt:=Ret R },⟨fun δ' M' σ' H' g s' a' q'=>?_,fun d M' v H' g r a' zz22_0=>by obtain⟨M2,s2,q'⟩:=zz22_0;exact(fin _ _ _ _ g r (a'.sub s2) q'),fun _ _ _ _ _ _ _ z=>z,fun _ _ _ _ _ _ _ z=>z⟩,hq ds M R q⟩
 obtain⟨M2,s2,q'⟩:=q'
 exact fin .non M2 .non H' g (by rw[Rep]) (a'.sub s2) q'
def Txt(K:D5)(mg:Str->Option D4)(x:Str)(st:Stmt):Prop:=∃f fd,Fun K x x st f fd/\mg x=some (.ref f)
theorem Txt.mk{h:Heap}{x:Str}{st:Stmt}{f:Addr}{oc:D4}{od an:Option Addr}{osl:Array (Option D4)}{kV doc pm cdv ct:D4}(X:K.In h)(G:h.Ns Gv mg)(a:PySem.W.nsIn K Gv x=some (some (.ref f))) (l:K.lookup f=some ⟨oc,od,.func (FC x x (bY st) (aS st) (ao st) .none kV doc pm an cdv ct),osl⟩) (c:PySem.W.codeIn K cdv x=true) (k:PySem.W.keepIn K (.ref f)=true):Txt K mg x st:=⟨f,_,zo l c k,PySem.W.mg_of X G a⟩
theorem wW{x:Str}{st:Stmt}{N ps:List Str}{k:Nat}{sp:SpD}(T:Txt K mg x st)(S:FnScope N ps (ao st))
 (hb:∀(kV doc pm:D4) (an:Option Addr) (cdv ct:D4) (us:List D4),us.length=ps.length->bindArgs (FC x x (bY st) (aS st) (ao st) .none kV doc pm an cdv ct) ⟨us,[]⟩=pure (ps.zip us))
 (len:∀ds M Q,sp ds M Q->ds.length=ps.length)
 (body:∀(f:Addr) (cdv:D4) (A:EE) (outer:List Env) (s:D6) (H:Hp) (E:XK),Room k (A.deeper (envOfC x (ao st) s.heap.objs.size f cdv))->
  ∃t,DSs (gR CX0 P w K mg base N x (ao st) f cdv A outer s H E).nox (aS st) t/\∀ds M Q,sp ds M Q->t { nx:=fun _ M'=>Ret Q .non M',rt:=Ret Q } (eP N ds) M):Cal P w K mg base (k+1) x sp:=by
 obtain⟨f,fd,F,hm⟩:=T
 exact⟨f,fd,ps,fnD F S len (fun _ _=>trivial) (body f),hm,F.kp,F.binds hb⟩
end
theorem oK:F7 "abs"=some (.builtin "abs"):=by decide +kernel
theorem oX:F7 "max"=some (.builtin "max"):=by decide +kernel
theorem qm:F7 "min"=some (.builtin "min"):=by decide +kernel
theorem cB:F7 "len"=some (.builtin "len"):=by decide +kernel
theorem oo:F7 "tuple"=some (.type "tuple"):=by decide +kernel
theorem rC:F7 "list"=some (.type "list"):=by decide +kernel
theorem vX:F7 "int"=some (.type "int"):=by decide +kernel
section
variable{P:Ee}{w:EB}{K:D5}{mg:Str->Option D4}
theorem DO{x:Str}{st:Stmt}{N:List Str}{p:Str}{k:Nat}{sp:SpD}{fa:Addr}(T:Txt K mg x st)(hfa:mg x=some (.ref fa))(S:FnScope N [p] (ao st))
 (hb:∀(kV doc pm:D4) (an:Option Addr) (cdv ct:D4) (us:List D4),us.length=[p].length->bindArgs (FC x x (bY st) (aS st) (ao st) .none kV doc pm an cdv ct) ⟨us,[]⟩=pure ([p].zip us))
 (len:∀ds M Q,sp ds M Q->ds.length=[p].length)
 (body:∀(base:Heap) (f:Addr) (cdv:D4) (A:EE) (outer:List Env) (s:D6) (H:Hp) (E:XK),Room k (A.deeper (envOfC x (ao st) s.heap.objs.size f cdv))->
  ∃t,DSs (gR CX0 P w K mg base N x (ao st) f cdv A outer s H E).nox (aS st) t/\∀ds M Q,sp ds M Q->t { nx:=fun _ M'=>Ret Q .non M',rt:=Ret Q } (eP N ds) M) :
 ∃fd,(∀(s:D6) (u:D4),BindsTo s fd ⟨[u],[]⟩ [(p,u)])/\∀base:Heap,FnOk P w K mg base CX0 (k+1) fa fd [p] (fZ K sp):=by
 obtain⟨f,fd,F,hm⟩:=T
 have e:=hfa.symm.trans hm
 cases e
 refine⟨fd,fun s u=>?_,fun base=>fnD F S len (fun _ _=>trivial) (body base _)⟩
 obtain⟨oc,od,kV,doc,pm,an,cdv,ct,osl,rfl,lk,hcd⟩:=F.ex
 exact .of_eq (hb kV doc pm an cdv ct [u] rfl)
end
theorem va{l:PySem.W.OpenLaw}{k:Nat}{q:Ee}{loose:List Str}{XP:(Str->Option D4)->Heap->Prop}{YP:EB->Heap->Prop}{d:DefRec}{K:Et->D5}{sp:SpD}{x:Str}
 (hn:l.most=some 63) (hdf:d.params.defaults=[]) (hr:Room k callerA)
 (hY:∀(w:EB) (h:Heap),YP w h->(K w.params).In h)
 (F:∀(w:EB) (mg:Str->Option D4) (fa:Addr) (h:Heap),(K w.params).In h->h.Ns Gv mg->mg d.name=some (.ref fa)->
  ∃fd:Gw,(∀(s:D6) (u:D4),BindsTo s fd ⟨[u],[]⟩ [(x,u)])/\
   ∀base:Heap,FnOk l.prog w (K w.params) mg base CX0 k fa fd [x] (fZ (K w.params) sp))
 (hsp:∀(ns:List Int) (M:MH),ns.length<=63->sp [.rol (ns.map D.int)] M (fun d _=>d=.bl true)) :
 PySem.W.WalkO q loose XP YP l.row.toRowW d [] (fun f vs=>PySem.call f vs):=by
 refine xu (x:=x) (n:=63) (CX:=fun _=>CX0) (sp:=fun w=>fZ (K w.params) sp) hn (by decide) hdf hr hY (fun w mg fa h a b c=>?_) (fun w H a ns hl hO hS=>?_) fun _ _ _ _ _ z=>z
 ·obtain⟨fd,h1,h2⟩:=F w mg fa h a b c
  exact⟨fd,h1,fun base _ _=>h2 base⟩
 ·have hF:SqF (K w.params) H a (ns.map V.int):=by
   rcases hS with(z|z)|z
   ·rcases hO a with y|⟨o,xs,y⟩
    ·rw[z]at y;cases y
    ·rw[z]at y;cases y
   ·exact .inl z
   ·exact .inr z
  refine⟨[.rol (ns.map D.int)],fun _=>none,_,.cons (by rw[Rep];exact⟨a,_,rfl,hF,dJ ns⟩) .nil,(fun _ _ e=>nomatch e:Abs (K w.params) H fun _=>none),hsp ns _ hl,fun d M' v H' g r a' e=>?_⟩
  subst e
  rw[Rep]at r
  exact r
end SD
namespace Ma
open PySem PySem.Spec PyProof.Rows L2 SD
abbrev fr(q:Rat):D:=.tup [.int q.num,.int (q.den:Int)]
theorem den_pos(q:Rat):(0:Int)<(q.den:Int):=by have:=q.den_pos;omega
def Bq(n:Nat)(q:Rat):Prop:=Bd n q.num/\Bd n (q.den:Int)
theorem Bq.mono{m n:Nat}{q:Rat}(h:Bq m q)(l:m<=n):Bq n q:=⟨h.1.mono l,h.2.mono l⟩
theorem nh{t b:Int}(hb:0<b):t.fdiv b=t/b:=EI _ (by omega)
theorem fdiv_neg{t b:Int}(hd:b ∣ t)(hb:0<b):t.fdiv (-b)=-(t/b):=by
 obtain⟨c,rfl⟩:=hd;have hb':b≠0:=by omega
 rw[Int.mul_ediv_cancel_left _ hb'];have:b*c=-b * -c:=by rw[Int.neg_mul_neg]
 rw[this];exact Int.mul_fdiv_cancel_left _ (by omega)
theorem qz(t b:Int):((Gq t.natAbs b.natAbs:Nat):Int) ∣ t:=Int.ofNat_dvd_left.mpr (Nat.gcd_dvd_left _ _)
theorem qK(t b:Int):((Gq t.natAbs b.natAbs:Nat):Int) ∣ b:=Int.ofNat_dvd_left.mpr (Nat.gcd_dvd_right _ _)
theorem lT(t b:Int):Int.gcd b t=Gq t.natAbs b.natAbs:=by unfold Int.gcd;exact Nat.gcd_comm _ _
theorem dR{t b:Int}(hb:b≠0):0<Gq t.natAbs b.natAbs:=Nat.gcd_pos_of_pos_right _ (by omega)
theorem qJ{t b:Int}(hb:0<b):t.fdiv (Gq t.natAbs b.natAbs:Nat)=(Rat.divInt t b).num/\b.fdiv (Gq t.natAbs b.natAbs:Nat)=((Rat.divInt t b).den:Int):=by
 have hg:=dR (t:=t) (b:=b) (by omega);rw[nh (by omega),nh (by omega),Rat.num_divInt,Rat.den_divInt,if_neg (by omega),EF hb,Int.one_mul,lT];refine⟨rfl,?_⟩;rw[Int.natCast_ediv]
 congr 1
 omega
theorem wM{t b:Int}(hb:b<0):t.fdiv (-((Gq t.natAbs b.natAbs:Nat):Int))=(Rat.divInt t b).num/\b.fdiv (-((Gq t.natAbs b.natAbs:Nat):Int))=((Rat.divInt t b).den:Int):=by
 have hg:=dR (t:=t) (b:=b) (by omega);rw[fdiv_neg (qz t b) (by omega),fdiv_neg (qK t b) (by omega),Rat.num_divInt,Rat.den_divInt,if_neg (by omega),Ew hb,lT];constructor
 ·rw[show(-1:Int)*t=-t from by omega,Int.neg_ediv_of_dvd (qz t b)]
 ·rw[Int.natCast_ediv,show((b.natAbs:Nat):Int)=-b from by omega,Int.neg_ediv_of_dvd (qK t b)]
theorem pV{t b:Int}(hb:b≠0):(Rat.divInt t b).num.natAbs<=t.natAbs/\(Rat.divInt t b).den<=b.natAbs:=by
 constructor
 ·rw[Rat.num_divInt];refine ER (Int.natAbs_ediv_le_natAbs _ _) ?_;rw[Int.natAbs_mul];rcases Ey b 0 with h|h|h
  ·rw[Ew h];simp
  ·exact absurd h hb
  ·rw[EF h];simp
 ·rw[Rat.den_divInt,if_neg hb];exact Nat.div_le_self _ _
theorem Bq.divInt{n:Nat}{t b:Int}(hb:b≠0)(h1:Bd n t)(h2:Bd n b):Bq n (Rat.divInt t b):=by obtain⟨a1,a2⟩:=pV (t:=t) hb;exact⟨Nat.lt_of_le_of_lt a1 h1,Nat.lt_of_le_of_lt (by simpa using a2) h2⟩
theorem qP(x y:Nat):Int.fmod (x:Int) (y:Int)=((x%y:Nat):Int):=by rw[Int.fmod_eq_emod_of_nonneg _ (by omega)];rfl
theorem qo(q r:Rat):EH (.tuple [.int q.num,.int (q.den:Int)]) (.tuple [.int r.num,.int (r.den:Int)])=decide (q=r):=by
 simp only[EH,Fj,Bool.and_true];by_cases h:q=r
 ·subst h;simp
 ·rw[decide_eq_false h];rw[Bool.eq_false_iff];intro z;rw[F6,beq_iff_eq,beq_iff_eq]at z;exact h (Rat.ext z.1 (by have:=z.2;omega))
theorem BF(q r:Rat):decide (q.num*(r.den:Int)<r.num*(q.den:Int))=decide (q<r):=by rw[decide_eq_decide,Rat.lt_iff]
abbrev spt(a b:Rat):D:=.tup [fr a,fr b]
theorem iW(a b c d:Rat):EH (.tuple [.tuple [.int a.num,.int (a.den:Int)],.tuple [.int b.num,.int (b.den:Int)]]) (.tuple [.tuple [.int c.num,.int (c.den:Int)],.tuple [.int d.num,.int (d.den:Int)]])=decide (a=c/\b=d):=by rw[EH,Fj,Fj,Fj,qo,qo,Bool.and_true,Bool.decide_and]
theorem fV(q:Rat):(q.den:Int)≠0:=by have:=q.den_pos;omega
theorem sub_eq(q r:Rat):Rat.divInt (q.num*(r.den:Int)-r.num*(q.den:Int)) ((q.den:Int)*(r.den:Int))=q-r:=by rw[<-Rat.divInt_sub_divInt _ _ (fV q) (fV r),Rat.num_divInt_den,Rat.num_divInt_den]
theorem qE(q r:Rat):(q.den:Int)*(r.den:Int)≠0:=Int.mul_ne_zero (fV q) (fV r)
theorem Bq.qI{n:Nat}{q r:Rat}(a:Bq n q)(b:Bq n r):Bd (2*n+1) (q.num*(r.den:Int)-r.num*(q.den:Int)):=((a.1.mul b.2).sub (b.1.mul a.2)).mono (by omega)
def sgn(z:Rat):Int:=if 0<z then 1 else if z<0 then -1 else 0
def cr(a b c d x y:Rat):Rat:=(c-a)*(y-b)-(d-b)*(x-a)
abbrev wll(a b c d:Rat):D:=.tup [spt a b,spt c d]
def ah(a b c d:Rat):Prop:=a<c\/a=c/\b<d
instance(a b c d:Rat):Decidable (ah a b c d):=inferInstanceAs (Decidable (_\/_))
theorem pos_int{i:Int}(h:0<i):(0:Rat)<(i:Rat):=by rw[Rat.lt_iff];simpa using h
end Ma
namespace SD
open PySem PySem.Spec PyProof.Rows L2
def dU(names:List (Str×G6))(env:Env):List (Str×Addr):=(names.filter fun y=>y.2==.free).reverse.map fun y=>(y.1,(env.cells.lookup y.1).getD 0)
theorem p5{scope:G5}{env:Env}(h:∀y∈scope.names,y.2=.free->∃c,env.cells.lookup y.1=some c):closureFor scope env=pure (dU scope.names env):=by
 have key:∀(names:List (Str×G6)) (acc:List (Str×Addr)),(∀y∈names,y.2=.free->∃c,env.cells.lookup y.1=some c)->
  (forIn names acc (fun(x:Str×G6) (r:List (Str×Addr))=>if(x.2==Gd)=true then do let a <-cellOf env x.1;pure (FZ ((x.1,a)::r))else pure (FZ r)):Sem (List (Str×Addr)))=pure (dU names env++acc):=by
  intro names
  induction names with
  |nil=>intro acc _;rfl
  |cons y ys ih=>
   intro acc hy
   obtain⟨n,k⟩:=y
   rw[List.forIn_cons]
   by_cases hk:(k==Gd)=true
   ·obtain⟨c,hc⟩:=hy (n,k) (List.mem_cons_self ..) (by simpa using hk)
    have e1:cellOf env n=pure c:=by unfold cellOf;rw[hc]
    dsimp only
    rw[if_pos hk,e1]
    simp only[pure_bind]
    rw[ih _ fun y hm=>hy y (Fq _ hm)]
    unfold dU
    rw[List.filter_cons_of_pos (by simpa using hk),List.reverse_cons,Eg,List.append_assoc]
    simp[hc]
   ·dsimp only
    rw[if_neg hk]
    simp only[pure_bind]
    rw[ih _ fun y hm=>hy y (Fq _ hm)]
    unfold dU
    rw[List.filter_cons_of_neg (by simpa using hk)]
 have:=key scope.names [] h;rw[EV]at this;unfold closureFor;exact Eq.trans (congrArg (fun t:Sem (List (Str×Addr))=>t >>= fun cs=>pure cs) this) rfl
theorem nV{env:Env}{y:Str}{c:Addr}:∀{names:List (Str×G6)},(∀z∈names,z.2=.free->∃c,env.cells.lookup z.1=some c)->(dU names env).lookup y=some c->env.cells.lookup y=some c:=by intro names h e;have hm:=EL e;unfold dU at hm;obtain⟨z,hz,e2⟩:=EJ.mp hm;rw[List.mem_reverse,EU]at hz;obtain⟨c',hc⟩:=h z hz.1 (by simpa using hz.2);rw[hc]at e2;cases e2;exact hc
theorem nW{env:Env}{y:Str}{names:List (Str×G6)}(hm:(y,Gd)∈names):∃c,(dU names env).lookup y=some c:=by
 cases e:(dU names env).lookup y with
 |some c=>exact⟨c,rfl⟩
 |none=>
  have:=List.lookup_eq_none_iff.mp e (y,(env.cells.lookup y).getD 0) (EJ.mpr ⟨(y,.free),List.mem_reverse.mpr (EU.mpr ⟨hm,rfl⟩),rfl⟩)
  simp at this
theorem fq{env:Env}(hk:env.scope.kind=.function):∀{names:List (Str×G6)} {y:Str} {k:G6},
 (names.map fun(n,k)=>if(k==Gd&&env.scope.kind==.function&&env.kindOf n==some .cell)then(n,NameKind.cell)else(n,k)).lookup y=some k->
  names.lookup y=some k\/(k=.cell/\names.lookup y=some .free)
 |[],_,_,h=>by simp at h
 |(n,q)::r,y,k,h=>by
  have ih:=@fq env hk r y k
  rw[D7]at h
  dsimp only at h
  by_cases hy:(y==n)=true
  ·by_cases hc:(q==Gd&&env.scope.kind==.function&&env.kindOf n==some .cell)=true
   ·rw[if_pos hc,Fl,hy]at h
    have hf:q=.free:=by
     rw[F6,F6]at hc
     simpa using hc.1.1
    cases h
    right
    exact⟨rfl,by rw[Fl,hy,hf]⟩
   ·rw[if_neg hc,Fl,hy]at h
    left
    rw[Fl,hy];exact h
  ·have hy':(y==n)=false:=by simpa using hy
   have h':(r.map fun(n,k)=>if(k==Gd&&env.scope.kind==.function&&env.kindOf n==some .cell)then(n,NameKind.cell)else(n,k)).lookup y=some k:=by
    split at h
    ·rw[Fl,hy']at h;exact h
    ·rw[Fl,hy']at h;exact h
   rw[Fl,hy']
   exact ih h'
theorem jT{X:Cx}{tg iter:Expr}{wi wi':TI}(h:PI X tg iter wi)(k:∀σ H R,wi' σ H R->wi σ H R):PI X tg iter wi':=fun pins s σ H R I q=>h pins s σ H R I (k _ _ _ q)
def Dv(K:D5)(tl:TE):TI:=fun σ H R=>tl σ H fun x H1=>∃a,x=.ref a/\(((∃xs,SqL K H1 a xs)/\R (Itl K a) H1)\/((∃xs,SqT K H1 a xs)/\R (Itt K a) H1))
theorem y8{X:Cx}{tg l:Expr}{tl:TE}(hl:PE X l tl):PI X tg l (Dv X.K tl):=by
 intro pins s σ H R I h;refine thn (hl pins s σ H _ I h) fun v s1 zz1_0=>?_;obtain⟨x,H1,I1,r1,q1⟩:=zz1_0;obtain⟨a,e,z⟩:=q1;subst e;cases r1
 have fp:∀b∈[s1.heap.objs.size],cj X pins H1 b:=fun b hb=>by
  obtain rfl:b=s1.heap.objs.size:=by simpa using hb
  exact I1.n8 (E3 _) (I1.hok.fresh (E3 _))
 rcases z with⟨⟨xs,hq⟩,q⟩|⟨⟨xs,hq⟩,q⟩
 ·obtain⟨its,rv,p,hz⟩:=I1.list hq;exact wpAny_pyIter_list p.isList ⟨_,[s1.heap.objs.size],_,_,H1,rfl,I1.kept (t':=s1.toks) fun b o e=>D9 _ e,sG a _,⟨_,E6 _ rfl,rfl,rfl⟩,fp,q⟩
 ·obtain⟨its,rv,p,hz⟩:=I1.tuple hq;exact wpAny_pyIter_tuple (show s1.heap.IsTuple a its.toArray from p) ⟨_,[s1.heap.objs.size],_,_,H1,rfl,I1.kept (t':=s1.toks) fun b o e=>D9 _ e,pL a _,⟨_,E6 _ rfl,rfl,rfl⟩,fp,q⟩
structure ItD where
 n:Nat
 item:Nat->Option D
 C:MH->Prop
abbrev TID:=DS->MH->(ItD->MH->Prop)->Prop
structure ItOk(K:D5)(H1:Hp)(I:ItD)(J:It):Prop where
 stop:∀H2 M2,Grow K H1 H2->Abs K H2 M2->I.C M2->J.stop I.n H2
 go:∀i H2 M2,i<I.n->Grow K H1 H2->Abs K H2 M2->I.C M2->J.go i H2
 yld:∀i H2 M2 v H3,i<I.n->Grow K H1 H2->Abs K H2 M2->I.C M2->J.yld i H2 v H3->Grow K H2 H3/\Abs K H3 M2/\∃d,I.item i=some d/\Rep K H3 d v
def jB(K:D5)(t:TID):TI:=fun σ H R=>∃δ M RD,Slots K H δ σ/\Abs K H M/\t δ M RD/\∀I M' H' J,Grow K H H'->Abs K H' M'->RD I M'->ItOk K H' I J->R J H'
def DI(X:Cx)(tg iter:Expr)(t:TID):Prop:=PI X tg iter (jB X.K t)
def As(M:MH):D->List D->Prop
 |.tup ds,es=>es=ds
 |.rol ds,es=>es=ds
 |.ref a,es=>M a=some (.lst es)
 |_,_=>False
inductive Rn1(ds:List D)(M:MH)(R:ItD->MH->Prop):Prop
 |mk (n:Nat) (h:ds=[.int (n:Int)]) (q:n<2^60/\R ⟨n,fun i=>some (.int (i:Int)),fun _=>True⟩ M):Rn1 ds M R
inductive Sq1(d:D)(M:MH)(R:ItD->MH->Prop):Prop
 |mk (ds:List D) (h:As M d ds) (q:R ⟨ds.length,fun i=>ds[i]?,fun M=>As M d ds⟩ M):Sq1 d M R
def Cz(ta:TAD):TID:=fun δ M R=>ta δ M fun ds M1=>Rn1 ds M1 R
def Df(tl:TD):TID:=fun δ M R=>tl δ M fun d M1=>Sq1 d M1 R
section
variable{X:Cx}{tg:Expr}
theorem cW{a:Expr}{ta:TAD}{p pos:Pos}(hg:Gl X "range")(hm:X.mg "range"=none)(ha:DA X [a] ta)(hs:Eb [a] X.env=[(false,eval a X.env)]:=by rfl):DI X tg (.Call (.Name "range" p) [a] [] pos) (Cz ta):=
 jT (lU hg hm ha hs) fun σ H R ⟨δ,M,RD,hs,hM,q,fin⟩=>⟨δ,M,_,hs,hM,q,fun ds M1 vs H1 g1 r1 a1 z9=>by
  obtain⟨n,e,hn,q1⟩:=z9
  subst e
  obtain⟨v,rfl,r⟩:=bN r1
  rw[Rep]at r;subst r
  refine⟨(n:Int),rfl,by omega,by omega,fin _ M1 H1 _ g1 a1 q1 ⟨fun _ _ _ _ _=>by show((n:Int)).toNat<=n;simp,fun i _ _ hi _ _ _=>by show i<((n:Int)).toNat;simpa using hi,?_⟩⟩
  rintro i H2 M2 v H3 hi g2 a2 _ ⟨rfl,rfl⟩
  exact⟨.refl,a2,_,rfl,by rw[Rep];simp⟩⟩
theorem aR{l:Expr}{tl:TD}(hl:DE X l tl):DI X tg l (Df tl):=
 jT (y8 hl) fun σ H R ⟨δ,M,RD,hs,hM,q,fin⟩=>⟨δ,M,_,hs,hM,q,fun d M1 v H1 g1 r1 a1 z9=>by
  obtain⟨ds,sq,q1⟩:=z9
  cases d with
  |tup es=>
   obtain rfl:ds=es:=sq
   rw[Rep]at r1
   obtain⟨a,xs,rfl,hq,rs⟩:=r1
   refine⟨a,rfl,.inr ⟨⟨xs,hq⟩,fin _ M1 H1 _ g1 a1 q1 ⟨fun H2 _ g2 _ _=>⟨xs,g2.t _ _ hq,by rw[rs.length];exact E3 _⟩,fun i H2 _ hi g2 _ _=>?_,?_⟩⟩⟩
   ·have hi':i<xs.length:=by rw[<-rs.length];exact hi
    exact⟨xs,xs[i],g2.t _ _ hq,by simp[hi']⟩
   ·rintro i H2 M2 v H3 hi g2 a2 _ ⟨rfl,hy⟩
    have hi:i<ds.length:=hi
    obtain⟨x,e1,e2⟩:=(rs.mono g2).get (show ds[i]?=some ds[i] by simp[hi])
    have:=hy xs (g2.t _ _ hq)
    rw[e1]at this;cases this
    exact⟨.refl,a2,_,by simp[hi],e2⟩
  |rol es=>
   obtain rfl:ds=es:=sq
   rw[Rep]at r1
   obtain⟨a,xs,rfl,hq,rs⟩:=r1
   refine⟨a,rfl,.inl ⟨⟨xs,hq.sql⟩,fin _ M1 H1 _ g1 a1 q1 ⟨fun H2 _ g2 _ _=>⟨xs,(g2.f _ _ hq).sql,by rw[rs.length];exact E3 _⟩,fun i H2 _ hi g2 _ _=>?_,?_⟩⟩⟩
   ·have hi':i<xs.length:=by rw[<-rs.length];exact hi
    exact⟨xs,xs[i],(g2.f _ _ hq).sql,by simp[hi']⟩
   ·rintro i H2 M2 v H3 hi g2 a2 _ ⟨rfl,hy⟩
    have hi:i<ds.length:=hi
    obtain⟨x,e1,e2⟩:=(rs.mono g2).get (show ds[i]?=some ds[i] by simp[hi])
    have:=hy xs (g2.f _ _ hq).sql
    rw[e1]at this;cases this
    exact⟨.refl,a2,_,by simp[hi],e2⟩
  |ref a=>
   rw[Rep]at r1;subst r1
   obtain⟨xs,hx,rs⟩:=a1 _ _ (show M1 a=some (.lst ds)from sq)
   refine⟨a,rfl,.inl ⟨⟨xs,SqL.of hx⟩,fin _ M1 H1 _ g1 a1 q1 ⟨fun H2 M2 g2 a2 c2=>?_,fun i H2 M2 hi g2 a2 c2=>?_,?_⟩⟩⟩
   ·obtain⟨ys,hy,ry⟩:=a2 _ _ (show M2 a=some (.lst ds)from c2)
    exact⟨ys,SqL.of hy,by rw[ry.length];exact E3 _⟩
   ·obtain⟨ys,hy,ry⟩:=a2 _ _ (show M2 a=some (.lst ds)from c2)
    have hi':i<ys.length:=by rw[<-ry.length];exact hi
    exact⟨ys,ys[i],SqL.of hy,by simp[hi']⟩
   ·rintro i H2 M2 v H3 hi g2 a2 c2 ⟨rfl,hy⟩
    have hi:i<ds.length:=hi
    obtain⟨ys,hys,ry⟩:=a2 _ _ (show M2 a=some (.lst ds)from c2)
    obtain⟨x,e1,e2⟩:=ry.get (show ds[i]?=some ds[i] by simp[hi])
    have:=hy ys (SqL.of hys)
    rw[e1]at this;cases this
    exact⟨.refl,a2,_,by simp[hi],e2⟩
  |_=>exact sq.elim⟩
inductive ForD(g:TGD)(tb:TSD)(B:EndsD)(I:ItD)(δ0:DS)(M0:MH):Prop
 |mk (W:Nat->DS->MH->Prop) (w0:W 0 δ0 M0) (hC:∀i δ M,i<=I.n->W i δ M->I.C M) (turn:∀i d δ M,i<I.n->I.item i=some d->W i δ M->g d δ M fun δ2 M2=>tb { B with nx:=W (i+1),ct:=W (i+1),bk:=B.nx } δ2 M2) (done:∀δ M,W I.n δ M->B.nx δ M):ForD g tb B I δ0 M0
def BC(wd:TID)(g:TGD)(tb:TSD):TSD:=fun B δ M=>wd δ M fun I M1=>ForD g tb B I δ M1
theorem bH{iter:Expr}{body:List Stmt}{wd:TID}{g:TGD}{tb:TSD}{pos:Pos}(hp:PassesOwn (Ef X.prog X.w) X.A X.env X.xe)(hc:X.calm=true)(hi:DI X tg iter wd)(hG:DG X tg g)(hb:DSs X body tb)
 (hf:∀x,Eu iter X.env x=pure x:=by intro _;rfl):DSt X (.For tg iter body [] pos) (BC wd g tb):=
 cD (wb hp hc hi hG hb hf) fun E σ H ⟨δ,M,hs,a,B,ok,q⟩=>⟨δ,M,_,hs,a,q,fun I M1 H1 J g1 a1 z9 io=>by
  obtain⟨W,w0,hC,turn,done⟩:=z9
  refine⟨fun i m σ H2=>m=I.n-i/\i<=I.n/\Grow X.K H1 H2/\∃δ M,Slots X.K H2 δ σ/\Abs X.K H2 M/\W i δ M,⟨I.n,by simp,EZ _,.refl,δ,M1,hs.mono g1,a1,w0⟩,?_⟩
  rintro i m σ H2 ⟨rfl,hi,g2,δ2,M2,s2,a2,w2⟩
  by_cases hlt:i<I.n
  ·refine .inr ⟨io.go i H2 M2 hlt g2 a2 (hC _ _ _ hi w2),fun σ' H3=>Grow X.K H1 H3/\∃δ M,Slots X.K H3 δ σ'/\Abs X.K H3 M/\W (i+1) δ M,fun σ' H3 z=>⟨I.n-(i+1),by omega,rfl,hlt,z⟩,fun x H3 y=>?_⟩
   obtain⟨g3,a3,d,ed,rd⟩:=io.yld i H2 M2 x H3 hlt g2 a2 (hC _ _ _ hi w2) y
   refine⟨d,δ2,M2,_,rd,s2.mono g3,a3,turn i d δ2 M2 hlt ed w2,fun δ4 M4 σ4 H4 g4 s4 a4 q4=>⟨δ4,M4,s4,a4,_,?_,q4⟩⟩
   have G:Grow X.K H1 H4:=(g2.trans g3).trans g4
   exact⟨fun δ' M' σ' H' g' s' a' w'=>⟨G.trans g',δ',M',s',a',w'⟩,fun d M v H' g'=>ok.rt d M v H' ((g1.trans G).trans g'),fun δ' M' σ' H' g' s' a' q'=>ok.nx _ _ _ _ ((g1.trans G).trans g') s' a' q',fun δ' M' σ' H' g' s' a' w'=>⟨G.trans g',δ',M',s',a',w'⟩⟩
  ·obtain rfl:i=I.n:=by omega
   exact .inl ⟨io.stop H2 M2 g2 a2 (hC _ _ _ hi w2),ok.nx _ _ _ _ (g1.trans g2) s2 a2 (done δ2 M2 w2)⟩⟩
def BZ(i:Nat)(te:TD)(f:Int->Int->Int):TSD:=fun B δ M=>∃k,δ[i]?=some (some (.int k))/\te δ M fun y M1=>∃j,y=.int j/\B.nx (δ.set i (some (.int (f k j)))) M1
theorem tX(i:Nat){x:Str}{e:Expr}{te:TD}{op:Operator}{f:Int->Int->Int}{pos pos':Pos}(hN:X.N.Nodup)(ho:PIp X op (ipI f))(he:DE X e te)(hi:X.N[i]?=some x:=by rfl)(hx:Loc X.env.scope x:=by first|exact Or.inl rfl|exact Or.inr rfl)
 (hf:X.fn x=true\/X.env.scope.names.lookup x=some .local:=by first|exact .inl rfl|exact .inr rfl|assumption):DSt X (.AugAssign (.Name x pos') op e pos) (BZ i te f):=
 cD (A4 hN hi hx he ho hf) fun E σ H z9=>by
  obtain⟨δ,M,hs,a,B,ok,k,e1,q⟩:=z9
  obtain⟨v,e2,r⟩:=hs.at' i _ e1
  rw[Rep]at r;subst r
  refine⟨_,e2,δ,M,_,hs,a,q,fun y M1 u H1 g1 r1 a1 zz2_0=>?_⟩
  obtain⟨j,ej,q1⟩:=zz2_0
  subst ej
  rw[Rep]at r1;subst r1
  exact⟨k,j,rfl,rfl,ok.nx _ _ _ _ g1 ((hs.mono g1).set (by rw[Rep]) i) a1 q1⟩
end
end SD
namespace Ma
open SD
theorem jn{a b:Int}(h:0<b):0<Rat.divInt a b↔0<a:=by
 have h1:=Rat.divInt_nonneg_iff_of_pos_right (a:=-a) h;rw[<-Rat.neg_divInt]at h1;have:¬(0<=-Rat.divInt a b)↔0<Rat.divInt a b:=by constructor<;>intro z<;>grind
 rw[<-this,h1];omega
theorem oH{a b:Int}(h:0<b):Rat.divInt a b<0↔a<0:=by
 have h1:=Rat.divInt_nonneg_iff_of_pos_right (a:=a) h;have:¬(0<=Rat.divInt a b)↔Rat.divInt a b<0:=by constructor<;>intro z<;>grind
 rw[<-this,h1];omega
theorem xD{t b:Int}(h:0<b):sgn (Rat.divInt t b)=if 0<t then 1 else if t<0 then -1 else 0:=by unfold sgn;simp only[jn h,oH h]
theorem xJ(a b c d x y:Rat) :
 Rat.divInt ((c.num*(a.den:Int)-a.num*(c.den:Int))*(y.num*(b.den:Int)-b.num*(y.den:Int))*((d.den:Int)*(b.den:Int)*((x.den:Int)*(a.den:Int))) -
  (d.num*(b.den:Int)-b.num*(d.den:Int))*(x.num*(a.den:Int)-a.num*(x.den:Int))*((c.den:Int)*(a.den:Int)*((y.den:Int)*(b.den:Int))))
  ((c.den:Int)*(a.den:Int)*((y.den:Int)*(b.den:Int))*((d.den:Int)*(b.den:Int)*((x.den:Int)*(a.den:Int))))=cr a b c d x y:=by
 rw[<-Rat.divInt_sub_divInt _ _ (Int.mul_ne_zero (qE c a) (qE y b)) (Int.mul_ne_zero (qE d b) (qE x a)),<-Rat.divInt_mul_divInt,<-Rat.divInt_mul_divInt,sub_eq,sub_eq,sub_eq,sub_eq]
 rfl
end Ma
namespace SD
open PySem PySem.Spec PyProof.Rows L2
abbrev NoE:D4->D6->Prop:=fun _ _=>False
def cN(X:Cx)(xs:List Str)(js:List Nat):List Str:=xs++js.map fun j=>(X.N[j]?).getD ("":Str)
def cσ(os:L2.St)(js:List Nat)(σ:L2.St):L2.St:=os++js.map fun j=>(σ[j]?).join
theorem ck:∀(names:List (Str×G6)) (n:Nat) (acc:List (Str×Addr)),FG n names acc=FG n names []++acc
 |[],_,_=>rfl
 |(x,k)::r,n,acc=>by
  unfold FG
  split
  ·rw[ck r (n+1) ((x,n)::acc),ck r (n+1) [(x,n)],List.append_assoc];rfl
  ·exact ck r n acc
theorem ie:∀(names:List (Str×G6)) (n:Nat) {y:Str} {c:Addr},(y,c)∈FG n names []->(y,NameKind.cell)∈names
 |[],_,_,_,h=>by cases h
 |(x,k)::r,n,y,c,h=>by
  unfold FG at h
  split at h
  ·rename_i hk
   rw[ck]at h
   rcases Ek.mp h with h|h
   ·exact Fq _ (ie r _ h)
   ·have e:(y,c)=(x,n):=by simpa using h
    cases e
    obtain rfl:k=.cell:=by simpa using hk
    exact List.mem_cons_self
  ·exact Fq _ (ie r _ h)
theorem nI{l r:List (Str×Addr)}{y:Str}{c:Addr}(h:(l++r).lookup y=some c):l.lookup y=some c\/(l.lookup y=none/\r.lookup y=some c):=by
 rw[List.lookup_append]at h;cases e:l.lookup y with
 |some c'=>rw[e]at h;exact .inl h
 |none=>rw[e]at h;exact .inr ⟨rfl,h⟩
theorem tV{env:Env}{y:Str}{c:Addr}{names:List (Str×G6)}(h:(dU names env).lookup y=some c):(y,Gd)∈names:=by
 have hm:=EL h;unfold dU at hm;obtain⟨z,hz,e⟩:=EJ.mp hm;rw[List.mem_reverse,EU]at hz;obtain⟨n,k⟩:=z;obtain rfl:k=.free:=by simpa using hz.2
 cases e;exact hz.1
theorem d9{env:Env}{k:G6}(hk:k≠.free):∀{names:List (Str×G6)} {x:Str},names.lookup x=some k->
 (names.map fun(n,k)=>if(k==Gd&&env.scope.kind==.function&&env.kindOf n==some .cell)then(n,NameKind.cell)else(n,k)).lookup x=some k
 |[],_,h=>by simp at h
 |(n,q)::r,x,h=>by
  have ih:=@d9 env k hk r x
  rw[D7]
  dsimp only
  by_cases hx:(x==n)=true
  ·rw[Fl,hx]at h
   cases h
   rw[if_neg (by intro z;rw[F6,F6]at z;exact hk (by simpa using z.1.1)),Fl,hx]
  ·have hx':(x==n)=false:=by simpa using hx
   rw[Fl,hx']at h
   split<;>(rw[Fl,hx'];exact ih h)
theorem mI{M:Model}{A:EE}{E:D4->D6->Prop}{s:D6}{scope:G5}{globals:Addr}{cl:List (Str×Addr)}{qual:Str}{env:Env}{Q:Env->D6->Prop} (h:Q { scope:=scope,locals:=s.heap.objs.size,globals:=globals,cells:=FG (s.heap.objs.size+1) scope.names cl,qual:=qual,func:=none,code:=env.code,frame:=env.frame,builtins:=env.builtins } { s with heap:=pushCells (s.heap.push { cls:=.type "dict",data:=.dict #[] }) scope.names }) : E7 M A (newFunctionEnv scope globals cl [] qual none .none (some env)) Q E s:=by simp only[newFunctionEnv,Option.isSome_some,if_true];refine cc (wpAny_alloc ?_);refine cc (wpAny_layCells _ (fun name kind cells=>by cases hkc:kind==NameKind.cell<;>simp[hkc]) _ _ _ _ ?_);rw[show({ s with heap:=s.heap.push { cls:=.type "dict",data:=.dict #[] } }:D6).heap.objs.size=s.heap.objs.size+1 from Fz ..];refine cc ?_;rw[List.forIn_nil];exact E1 (E1 h)
def iP(scope:G5)(C:Addr)(env:Env):Env:=
 { scope:=relabel scope env,locals:=C,globals:=env.globals,cells:=FG (C+1) scope.names (dU scope.names env),qual:=env.qual,func:=none,code:=env.code,frame:=env.frame,builtins:=env.builtins }
def cxC(X:Cx)(xs:List Str)(js:List Nat)(scope:G5)(C:Addr)(s:D6)(H:Hp)(fp:List Addr):Cx where
 prog:=X.prog
 w:=X.w
 K:=X.K
 mg:=X.mg
 base:=X.base
 A:=X.A
 N:=cN X xs js
 s₀:=s
 H₀:=H
 env:=iP scope C X.env
 outer:=X.stack
 stack:=X.stack
 ex:=fp
 fn:=fun y=>xs.contains y
 calm:=X.calm
 pn:=[]
 xe:=fun _ _=>False
structure CScope(X:Cx)(xs:List Str)(js:List Nat)(scope:G5):Prop where
 kind:scope.kind=.function
 cell:∀y∈scope.names,y.2=.cell->y.1∈xs
 free':∀y∈scope.names,y.2=.free->y.1∉xs
 names:∀y∈scope.names,y.2=.local->scope.names.lookup y.1=some .local
 own:∀x∈xs,scope.names.lookup x=some .local\/scope.names.lookup x=some .cell
 out:∀y∈scope.names,y.2=.free->X.env.kindOf y.1=some .cell\/X.env.kindOf y.1=some .free
 nd:(cN X xs js).Nodup
 js:∀j∈js,scope.names.lookup ((X.N[j]?).getD ("":Str))≠some .local
section
variable{X:Cx}{xs:List Str}{js:List Nat}{scope:G5}{pins:List (Addr×Obj)}{σ:L2.St}{H:Hp}{s:D6}{fp:List Addr}
theorem CScope.cells(c:CScope X xs js scope)(ok:X.Ok):∀y∈scope.names,y.2=.free->∃a,X.env.cells.lookup y.1=some a:=fun y hy hf=>ok.has _ (c.out y hy hf)
theorem CScope.xt(c:CScope X xs js scope)(ok:X.Ok):closureFor scope X.env=pure (dU scope.names X.env):=p5 (c.cells ok)
theorem CScope.kindOf(c:CScope X xs js scope)(ok:X.Ok){C:Addr}{y:Str}{k:G6}(e:(iP scope C X.env).kindOf y=some k):scope.names.lookup y=some k\/(k=.cell/\scope.names.lookup y=some .free):=fq ok.kind e
theorem kD(c:CScope X xs js scope)(I:Inv X pins σ H s)(hf:∀b∈fp,cj X pins H b)(hfp:∀b∈fp,b<s.heap.objs.size){h':Heap}(eh:h'=pushCells (s.heap.push { cls:=.type "dict",data:=.dict #[] }) scope.names)(k:∀b o,s.heap.get? b=some o->h'.get? b=some o) :
 Inv (cxC X xs js scope s.heap.objs.size s H fp) [] (cσ (Er xs.length none) js σ) H { s with heap:=h' }:=by
 have ok:=I.ok
 have hn:h'.Ns s.heap.objs.size fun _=>none:=by rw[eh];exact(Heap.Ns.new s.heap (.type "dict")).keeps (pushCells_keeps _ _)
 have cok:CellsOk h' (s.heap.objs.size+1) (FG (s.heap.objs.size+1) scope.names []):=by
  have:=cellsFrom_ok scope.names (s.heap.push { cls:=.type "dict",data:=.dict #[] }) (s.heap.objs.size+1) [] ⟨fun _ _ hm=>(nomatch hm),List.Pairwise.nil⟩ (by rw[Fz];exact E3 _)
  rw[Fz]at this
  rw[eh];exact this
 have cl:∀{y:Str} {a:Addr},(dU scope.names X.env).lookup y=some a->X.env.cells.lookup y=some a:=fun e=>nV (c.cells ok) e
 have olt:∀{y:Str} {a:Addr},X.env.cells.lookup y=some a->a<s.heap.objs.size:=fun e=>by obtain⟨v,z⟩:=I.cell _ _ e;exact z.lt
 have both:∀{y:Str} {a:Addr},(iP scope s.heap.objs.size X.env).cells.lookup y=some a->((y,a)∈FG (s.heap.objs.size+1) scope.names []/\s.heap.objs.size<a)\/X.env.cells.lookup y=some a:=fun{y a} e=>by
  have e:(FG (s.heap.objs.size+1) scope.names (dU scope.names X.env)).lookup y=some a:=e
  rw[ck]at e
  rcases nI e with z|⟨_,z⟩
  ·exact .inl ⟨EL z,(cok.empty _ _ (EL z)).2⟩
  ·exact .inr (cl z)
 have free:∀{y:Str},(iP scope s.heap.objs.size X.env).kindOf y=some .cell\/(iP scope s.heap.objs.size X.env).kindOf y=some .free->scope.names.lookup y=some .cell\/scope.names.lookup y=some .free:=fun{y} e=>by
  rcases e with e|e
  ·rcases c.kindOf ok e with z|⟨_,z⟩
   ·exact .inl z
   ·exact .inr z
  ·rcases c.kindOf ok e with z|⟨z,_⟩
   ·exact .inr z
   ·cases z
 refine⟨⟨ok.mod,c.kind,ok.glob,ok.blt,E3 _,fun y z a h1 h2=>?_,fun y hy=>?_,fun y a h e=>?_,ok.hd,ok.frames,.inl rfl,fun b hb=>⟨Ex (hfp b hb),fun y a e=>?_⟩,
  I.bs,ER ok.bsz I.sz,fun b o e hb=>?_,fun b hb=>?_,I.stack,I.rq⟩,rfl,I.bare,Un.kept k,?_,fun y a e=>?_,I.hok.fresh (E3 _),fun y a e=>?_,fun p hp=>absurd (show p∈([]:List (Addr×Obj))from hp) (by simp),I.hok.kept k,?_⟩
 ·rcases both h1 with⟨m1,l1⟩|o1<;>rcases both h2 with⟨m2,l2⟩|o2
  ·exact name_of_addr cok.apart m1 m2
  ·exact absurd (olt o2) (Nat.not_lt.mpr (Nat.le_of_lt l1))
  ·exact absurd (olt o1) (Nat.not_lt.mpr (Nat.le_of_lt l2))
  ·exact ok.inj y z a o1 o2
 ·show ∃c,(FG (s.heap.objs.size+1) scope.names (dU scope.names X.env)).lookup y=some c
  rw[ck,List.lookup_append]
  rcases free hy with z|z
  ·obtain⟨a,e⟩:=kJ (n:=s.heap.objs.size+1) z
   exact⟨a,by rw[e];rfl⟩
  ·obtain⟨a,e⟩:=nW (env:=X.env) (EL z)
   cases q:(FG (s.heap.objs.size+1) scope.names []).lookup y with
   |none=>exact⟨a,by rw[e];rfl⟩
   |some a'=>exact⟨a',rfl⟩
 ·have hx:y∈xs:=by simpa[cxC]using h
  have e:(FG (s.heap.objs.size+1) scope.names (dU scope.names X.env)).lookup y=some a:=e
  rw[ck]at e
  rcases nI e with z|⟨_,z⟩
  ·exact Nat.le_of_lt (cok.empty _ _ (EL z)).2
  ·exact absurd hx (c.free' _ (tV z) rfl)
 ·rcases both e with⟨_,l⟩|o
  ·exact Nat.ne_of_gt (Nat.lt_trans (hfp b hb) l)
  ·exact(hf b hb).2.2.2.2.1 y a o
 ·rcases(hf b hb).2.2.2.1 with z|z
  ·exact ok.noex b o e z
  ·exact absurd (Em (Em (E8 e) ok.bsz) z) (Nat.lt_irrefl _)
 ·intro z
  rcases EM.mp (I.pS b z)with y|y
  ·exact(hf b hb).2.1 y
  ·exact(hf b hb).2.2.1 y
 ·refine⟨_,hn,fun i y v h1 h2 h3=>?_⟩
  have h1:(xs++js.map fun j=>(X.N[j]?).getD ("":Str))[i]?=some y:=h1
  have h2:(Er xs.length (none:Option V)++js.map fun j=>(σ[j]?).join)[i]?=some (some v):=h2
  by_cases hi:i<xs.length
  ·rw[EW (by simpa using hi),List.getElem?_replicate,if_pos hi]at h2
   cases h2
  ·have hout:y∉xs:=fun hy=>by
    rw[ES (by omega)]at h1
    have nd:=c.nd
    unfold cN at nd
    exact(Gz.mp nd).2.2 y hy y (Ej h1) rfl
   rw[ES (by omega)]at h1
   rw[ES (by simp;omega)]at h2
   rw[List.length_replicate]at h2
   rw[E4]at h1 h2
   cases ej:js[i-xs.length]? with
   |none=>rw[ej]at h1;cases h1
   |some j=>
    rw[ej]at h1 h2
    have e1:(X.N[j]?).getD ("":Str)=y:=Option.some.inj h1
    have e2:(σ[j]?).join=some v:=Option.some.inj h2
    have e3:σ[j]?=some (some v):=by
     cases q:σ[j]? with
     |none=>rw[q]at e2;cases e2
     |some o=>rw[q]at e2;exact congrArg some e2
    have hj:j<X.N.length:=by rw[<-I.len];exact(Eo.mp e3).1
    have e4:X.N[j]?=some y:=by
     rw[E2 hj]at e1 ⊢
     exact congrArg some e1
    have nl:scope.names.lookup y≠some .local:=by
     have:=c.js j (Ej ej)
     rw[e1]at this
     exact this
    have kc:(iP scope s.heap.objs.size X.env).kindOf y=some .cell\/(iP scope s.heap.objs.size X.env).kindOf y=some .free:=by
     rcases h3 with z|z|z
     ·rcases c.kindOf (C:=s.heap.objs.size) ok z with q|⟨q,_⟩
      ·exact absurd q nl
      ·cases q
     ·exact .inl z
     ·exact .inr z
    have hm:(y,Gd)∈scope.names:=by
     rcases free kc with z|z
     ·exact absurd (c.cell _ (EL z) rfl) hout
     ·exact EL z
    obtain⟨a,ha⟩:=nW (env:=X.env) hm
    have ha2:(iP scope s.heap.objs.size X.env).cells.lookup y=some a:=by
     show(FG (s.heap.objs.size+1) scope.names (dU scope.names X.env)).lookup y=some a
     rw[ck,List.lookup_append]
     cases q:(FG (s.heap.objs.size+1) scope.names []).lookup y with
     |none=>rw[ha];rfl
     |some a'=>exact absurd (c.cell _ (ie _ _ (EL q)) rfl) hout
    have hvis:Vis X.env.scope y:=by
     rcases c.out _ hm rfl with z|z
     ·exact .inr (.inl z)
     ·exact .inr (.inr z)
    obtain⟨m,_,hl⟩:=I.loc
    obtain⟨u,r,l⟩:=hl j y v e4 e3 hvis
    refine⟨u,r,?_⟩
    rcases l with⟨z,_⟩|⟨_,a',ha',o,ho,hd⟩
    ·rcases c.out _ hm rfl with q|q
     ·have z':X.env.kindOf y=some .local:=z
      rw[q]at z';cases z'
     ·have z':X.env.kindOf y=some .local:=z
      rw[q]at z';cases z'
    ·refine .inr ⟨kc,a',?_,o,k _ _ ho,hd⟩
     have:=cl ha
     rw[ha']at this
     cases this
     exact ha2
 ·rcases both e with⟨m,_⟩|o
  ·exact⟨_,(cok.empty _ _ m).1⟩
  ·obtain⟨v,o,ho,hd⟩:=I.cell y a o
   exact⟨v,o,k _ _ ho,hd⟩
 ·rcases both e with⟨_,l⟩|o
  ·exact I.hok.fresh (Nat.le_of_lt l)
  ·exact I.freeC y a o
 ·show(cσ (Er xs.length none) js σ).length=(cN X xs js).length
  unfold cσ cN
  simp
end
def PTs(X:Cx)(ifs:List Expr)(t:TT):Prop:=∀(pins:List (Addr×Obj)) (s:D6) (σ:L2.St) (H:Hp) (Q:Bool->Hp->Prop),Inv X pins σ H s->t σ H Q->
 E7 (Ef X.prog X.w) X.A (forIn ifs true fun c r=>if r=true then do let ok <-isTrue c X.env (eval c X.env);pure (FZ ok)else pure (FZ r)) (TP X pins σ Q) X.xe s
theorem xr{X:Cx}:PTs X [] (fun _ H Q=>Q true H):=fun pins s σ H Q I q=>wpAny_tests_nil ⟨H,I,q⟩
theorem xK{X:Cx}{c:Expr}{t:TT}(h:PT X c t):PTs X [c] t:=fun pins s σ H Q I q=>wpAny_tests_one (h pins s σ H Q I q)
theorem sr{prog:Ee}{w:EB}{A:EE}{R:Result->D6->Prop}{s:D6}{elt target iter:Expr}{ifs:List Expr}{scope:G5}{pos:Pos}{it acc:D4}{env:Env}(J:Nat->D6->Prop)
 (step:∀n s,J n s->E7 (Ef prog w) A (pyNext it) (fun r s1=>match r with
  |none=>R (.ok .next) s1
  |some v=>E7 (Ef prog w) A (FJ target it v) (fun _ s2=>E7 (Ef prog w) A (GJ target env v) (fun _ s3=>
   E7 (Ef prog w) A (forIn ifs true fun c r=>if r=true then do let ok <-isTrue c env (eval c env);pure (FZ ok)else pure (FZ r)) (fun ok s4=>
    if ok=true then E7 (Ef prog w) A (eval elt env) (fun x s5=>E7 (Ef prog w) A (call (.builtin "list.append") [acc,x]) (fun _ s6=>∃m,m<n/\J m s6) NoE s5) NoE s4
    else ∃m,m<n/\J m s4) NoE s3) NoE s2) NoE s1) NoE s)
 (n:Nat) (h:J n s):FX (Ef prog w) A (.compLoop (.ListComp elt [⟨target,iter,ifs,0⟩] scope pos) 0 it acc env) R s:=by
 have no:∀{E:D4->D6->Prop} e s',NoE e s'->E e s':=fun _ _ z=>z.elim
 refine codeAny_loop rfl J (fun n s hJ=>?_) n h
 show E7 _ _ (Sem.onRaise (compTurn (.ListComp elt [⟨target,iter,ifs,0⟩] scope pos) 0 it acc env) (fun x=>do noteFrame x env;theTreesLotGoes x)) _ _ s
 refine wpAny_noted ?_
 rw[compTurn_list]
 refine cc (Fx (cc (Ed (step n s hJ) (fun r s1 h1=>?_) no)))
 cases r with
 |none=>exact E1 h1
 |some v=>
  refine cc (Ed h1 (fun _ s2 h2=>cc (Ed h2 (fun _ s3 h3=>cc (Ed h3 (fun ok s4 h4=>?_) no)) no)) no)
  cases ok with
  |false=>exact E1 ⟨rfl,h4⟩
  |true=>exact cc (cc (Ed h4 (fun x s5 h5=>cc (Ed h5 (fun _ s6 h6=>E1 (E1 ⟨rfl,h6⟩)) no)) no))
abbrev Own:=V->Hp->L2.St->Prop
structure TgOk(n:Nat)(g:TG)(own:Own):Prop where
 len:∀y H os,own y H os->os.length=n
 run:∀y H os0 tail os (Q:L2.St->Hp->Prop),os0.length=n->own y H os->Q (os++tail) H->g y (os0++tail) H Q
def yu(js:List Nat)(own:Own)(tc:TT)(te:TE)(σ:L2.St)(J:It)(H1:Hp)(Q:VK):Prop:=∀D,H1 D=none->∃W:Nat->Nat->Hp->Prop,(∃m,W 0 m (upd H1 D (.lst [])))/\∀i m H,W i m H->
 (J.stop i H/\Q (.ref D) H)\/(J.go i H/\∀y H',J.yld i H y H'->∃os,own y H' os/\tc (cσ os js σ) H' fun b H2=>if b=true then
  te (cσ os js σ) H2 fun v H3=>∃xs,H3 D=some (.lst xs)/\xs.length<Ea/\∃m',m'<m/\W (i+1) m' (upd H3 D (.lst (xs++[v])))else ∃m',m'<m/\W (i+1) m' H2)
def mr(js:List Nat)(own:Own)(wi:TI)(tc:TT)(te:TE):TE:=fun σ H Q=>wi σ H fun J H1=>yu js own tc te σ J H1 Q
section
variable{X:Cx}{xs:List Str}{tg:Expr}{pos:Pos}{js:List Nat}{scope:G5}{elt iter:Expr}{ifs:List Expr}{te:TE}{tc:TT}{g:TG}{own:Own}{wi:TI}{pins:List (Addr×Obj)}{σ:L2.St}{H:Hp}{s:D6}{fp:List Addr}{it:Addr}{tn:Nat->Heap->Prop}{J:It}
theorem nU(c:CScope X xs js scope)(hc:X.calm=true)(hG:TgOk xs.length g own)(hg:∀C s H fp,PG (cxC X xs js scope C s H fp) tg g)(ht:∀C s H fp,PTs (cxC X xs js scope C s H fp) ifs tc)(he:∀C s H fp,PE (cxC X xs js scope C s H fp) elt te)
 {R:D4->Addr->Result->D6->Prop} {E:D4->D6->Prop} {Q:VK}
 (I:Inv X pins σ H s) (T:Turn X.prog X.w X.K tg J fp it tn) (st:tn 0 s.heap) (hf:∀b∈fp,cj X pins H b) (wc:yu js own tc te σ J H Q)
 (hR:∀D C H' s',Inv X pins σ H' s'->cj X pins H' C->(∃m,s'.heap.Ns C m)->Q (.ref D) H'->R (.ref D) C (.ok .next) s') :
 E7 (Ef X.prog X.w) X.A (newList []) (fun acc s₃=>E7 (Ef X.prog X.w) X.A (newFunctionEnv scope X.env.globals (dU scope.names X.env) [] X.env.qual none .none (some X.env)) (fun cenv s₄=>
  FX (Ef X.prog X.w) X.A (.compStart (.ListComp elt [⟨tg,iter,ifs,0⟩] scope pos) 0 (.ref it) acc { cenv with scope:=relabel scope X.env }) (R acc cenv.locals) s₄) E s₃) E s:=by
 have hfp:∀b∈fp,b<s.heap.objs.size:=fun b hb=>let⟨o,e,_⟩:=T.obj 0 _ st b hb;E8 e
 have hD:H s.heap.objs.size=none:=I.hok.fresh (E3 _)
 refine EO (mI ?_)
 generalize hh:s.heap.push { cls:=.type "list",dict:=none,data:=.seq ([]:List D4).toArray }=h3
 generalize hh1:pushCells (({ s with heap:=h3 }:D6).heap.push { cls:=.type "dict",data:=.dict #[] }) scope.names=h₁
 have k3:∀b o,s.heap.get? b=some o->h3.get? b=some o:=fun b o e=>by rw[<-hh];exact D9 _ e
 have I3:Inv X pins σ (upd H s.heap.objs.size (.lst [])) { s with heap:=h3 }:=by
  refine I.laid (t':=s.toks) k3 (E3 _) ?_
  refine⟨EZ _,[],0,.nil,?_⟩
  rw[<-hh]
  exact E6 _ rfl
 have hf3:∀b∈fp,cj X pins (upd H s.heap.objs.size (.lst [])) b:=fun b hb=>⟨by rw[aL (Ex (hfp b hb))];exact(hf b hb).1,(hf b hb).2⟩
 have hsz:h3.objs.size=s.heap.objs.size+1:=by rw[<-hh,Fz]
 have hfp3:∀b∈fp,b<h3.objs.size:=fun b hb=>by rw[hsz];exact Nat.lt_succ_of_lt (hfp b hb)
 have k4:∀b o,h3.get? b=some o->h₁.get? b=some o:=fun b o e=>by rw[<-hh1];exact pushCells_keeps _ _ b o (D9 _ e)
 have I4:=kD c I3 hf3 hfp3 (h':=h₁) hh1.symm k4
 obtain⟨W,⟨m0,w0⟩,turn⟩:=wc _ hD
 have st4:tn 0 h₁:=T.keep 0 _ _ st fun b hb o e=>k4 b o (k3 b o e)
 generalize hX:cxC X xs js scope h3.objs.size { s with heap:=h3 } (upd H s.heap.objs.size (.lst [])) fp=X' at I4
 have fok:∀{pins':List (Addr×Obj)} {H':Hp} {σ':L2.St} {s':D6},Inv X' [] σ' H' s'->(∀b∈fp,H' b=none)->∀b∈fp,cj X' [] H' b:=fun{pins' H' σ' s'} J' hn b hb=>by
  subst hX
  obtain⟨a1,a2⟩:=J'.ok.exf b hb
  exact⟨hn b hb,a1,J'.ok.exfs b hb,.inl hb,a2,fun p hp=>absurd (show p∈([]:List (Addr×Obj))from hp) (by simp)⟩
 have loop:FX (Ef X.prog X.w) X.A (.compLoop (.ListComp elt [⟨tg,iter,ifs,0⟩] scope pos) 0 (.ref it) (.ref s.heap.objs.size) (iP scope h3.objs.size X.env)) (R (.ref s.heap.objs.size) h3.objs.size)
  { s with heap:=h₁ }:=by
  refine sr (fun n s'=>∃i os H',os.length=xs.length/\Inv X' [] (cσ os js σ) H' s'/\tn i s'.heap/\(∀b∈fp,H' b=none)/\W i n H') ?_ m0 ⟨0,_,_,by simp,I4,st4,fun b hb=>(hf3 b hb).1,w0⟩
  rintro n s5 ⟨i,os,H5,hl5,I5,st5,fr5,w5⟩
  rcases turn i n H5 w5 with⟨stop,q⟩|⟨go,step⟩
  ·subst hX
   refine Ed (T.done (cxC X xs js scope h3.objs.size { s with heap:=h3 } (upd H s.heap.objs.size (.lst [])) fp) rfl rfl rfl hc i [] s5 _ H5 NoE I5 (fok (pins':=[]) I5 fr5) st5 stop) (fun r s6 zz1_0=>?_) fun _ _ z=>z
   obtain⟨hr,I6⟩:=zz1_0
   subst hr
   refine hR _ _ H5 s6 (I3.uL I6.os I6.base I6.hok I6.bare fun b hb=>⟨(hf3 b hb).2.2.2.1,(hf3 b hb).2.1,(hf3 b hb).2.2.2.2.1,(hf3 b hb).2.2.2.2.2⟩) (I3.n8 (E3 _) I6.free) (let⟨m,hm,_⟩:=I6.loc;⟨m,hm⟩) q
  ·subst hX
   refine Ed (T.item (cxC X xs js scope h3.objs.size { s with heap:=h3 } (upd H s.heap.objs.size (.lst [])) fp) rfl rfl rfl hc i [] s5 _ H5 NoE I5 (fok (pins':=[]) I5 fr5) st5 go) (fun r s6 zz2_0=>?_) fun _ _ z=>z
   obtain⟨u,hr,h6⟩:=zz2_0
   subst hr
   refine Ed h6 (fun _ s7 zz3_0=>?_) fun _ _ z=>z
   obtain⟨y,H7,I7,r7,y7,st7,fr7⟩:=zz3_0
   have I7':=I7.pinned (fok (pins':=[]) I7 fr7) (T.obj _ _ st7)
   obtain⟨os8,ow8,q8⟩:=step y H7 y7
   have l8:=hG.len _ _ _ ow8
   refine Ed (hg _ _ _ _ _ s7 _ H7 y u (fun σ' H'=>σ'=cσ os8 js σ/\H'=H7) I7' r7 (hG.run y H7 os _ os8 _ hl5 ow8 ⟨rfl,rfl⟩)) (fun _ s8 zz4_0=>?_) fun _ _ z=>z
   obtain⟨σ8,H8,I8,e8,e8'⟩:=zz4_0
   subst e8 e8'
   refine Ed (ht _ _ _ _ _ s8 _ _ _ I8 q8) (fun ok s9 zz5_0=>?_) fun _ _ z=>z
   obtain⟨H9,I9,q9⟩:=zz5_0
   have back:∀{m':Nat} {H10:Hp} {s10:D6},Inv (cxC X xs js scope h3.objs.size { s with heap:=h3 } (upd H s.heap.objs.size (.lst [])) fp) ([]++eZ fp s7.heap) (cσ os8 js σ) H10 s10->m'<n->W (i+1) m' H10->
    ∃m,m<n/\∃i os H',os.length=xs.length/\Inv (cxC X xs js scope h3.objs.size { s with heap:=h3 } (upd H s.heap.objs.size (.lst [])) fp) [] (cσ os js σ) H' s10/\tn i s10.heap/\(∀b∈fp,H' b=none)/\W i m H':=fun{m' H10 s10} I10 hm' w10=>by
    refine⟨m',hm',i+1,os8,H10,l8,I10.dg,T.keep _ _ _ st7 fun b hb o e=>(I10.pin (b,o) (Eh _ (Eh _ (bC hb e)))).1,fun b hb=>?_,w10⟩
    obtain⟨o',e,d⟩:=T.obj _ _ st7 b hb
    exact(I10.pin (b,o') (Eh _ (Eh _ (bC hb e)))).2.1
   cases ok with
   |false=>
    rw[if_neg Ei]at q9 ⊢
    obtain⟨m',hm',w9⟩:=q9
    exact back I9 hm' w9
   |true=>
    rw[if_pos rfl]at q9 ⊢
    refine Ed (he _ _ _ _ _ s9 _ _ _ I9 q9) (fun v s10 zz6_0=>?_) fun _ _ z=>z
    obtain⟨vv,H10,I10,r10,ys,hd10,hl10,q10⟩:=zz6_0
    refine Ed (gJ (X:=(cxC X xs js scope h3.objs.size { s with heap:=h3 } (upd H s.heap.objs.size (.lst [])) fp)) _ s10 _ H10 (.ref s.heap.objs.size) [vv] (.ref s.heap.objs.size) [v] (fun _ H'=>∃m',m'<n/\W (i+1) m' H') I10 rfl (.cons r10 .nil) ⟨_,ys,vv,rfl,rfl,hd10,hl10,q10⟩) (fun _ s11 zz7_0=>?_) fun _ _ z=>z
    obtain⟨_,H11,I11,_,m',hm',w11⟩:=zz7_0
    exact back I11 hm' w11
 exact codeAny_compStart_list loop (T.self X.A 0 _ _ _ st4 loop)
theorem qQ(c:CScope X xs js scope)(hc:X.calm=true)(hi:PI X tg iter wi)(hG:TgOk xs.length g own)(hg:∀C s H fp,PG (cxC X xs js scope C s H fp) tg g)(ht:∀C s H fp,PTs (cxC X xs js scope C s H fp) ifs tc)(he:∀C s H fp,PE (cxC X xs js scope C s H fp) elt te)(hs:∀x,Eu iter X.env x=pure x:=by intro _;rfl) : PE X (.ListComp elt [⟨tg,iter,ifs,0⟩] scope pos) (mr js own wi tc te):=by intro pins s σ H Q I h;rw[eval_ListComp];refine wpAny_comprehension_free (use:=none) rfl hs (c.xt I.ok) c.kind c.names (thn (hi pins s σ H _ I h) fun v s1 h1=>thn h1 fun itv s2 zz8_0=>?_);obtain⟨it,fp,tn,J,H2,e,I2,T,st,f2,w⟩:=zz8_0;subst e;refine nU (R:=fun acc C=>compPost (Ef X.prog X.w) X.A X.xe none (EP X pins σ Q) acc C) c hc hG hg ht he I2 T st f2 w fun D C H' s' I' fC zz9_0 q=>?_;obtain⟨m,hm⟩:=zz9_0;exact⟨m,hm,fun h' hsb=>⟨.ref D,H',I'.turned (t':=s'.toks) (fun b o ne e=>hsb.extBut b o ne e) fC.1 fC.2.1 fC.2.2.2.1 fC.2.2.2.2.1 fC.2.2.2.2.2,rfl,q⟩⟩
theorem xR{i:Nat}{y:Str}{py spos:Pos}(c:CScope X xs js scope)(hc:X.calm=true)(hN:X.N.Nodup)(hi:PI X tg iter wi)(hG:TgOk xs.length g own)(hg:∀C s H fp,PG (cxC X xs js scope C s H fp) tg g)(ht:∀C s H fp,PTs (cxC X xs js scope C s H fp) ifs tc)(he:∀C s H fp,PE (cxC X xs js scope C s H fp) elt te)(hy:X.N[i]?=some y)(hl:X.env.scope.names.lookup y=some .local)
 (hsw:GI (.ListComp elt [⟨tg,iter,ifs,0⟩] scope pos) (some (.Name y py)) spos.line X.env=pure true) (hs:∀x,Eu iter X.env x=pure x:=by intro _;rfl) :
 PS X (.Assign [.Name y py] (.ListComp elt [⟨tg,iter,ifs,0⟩] scope pos) spos) (wU (mr js own wi tc te) (cG i)):=by
 intro pins s σ H B I h
 rw[exec_Assign_Name_used _ _ _ _ hsw]
 refine cc (Fx (cc ?_))
 show E7 _ X.A (do let _ <-comprehension (.ListComp elt [⟨tg,iter,ifs,0⟩] scope pos) scope X.env _ (newList []) false (eval iter X.env) (some (GJ (.Name y py) X.env))) _ _ s
 refine cc (Ed (wpAny_comprehension_free (use:=some (GJ (.Name y py) X.env)) (Q:=fun _ s'=>SP X pins B .next s') rfl hs (c.xt I.ok) c.kind c.names
  (thn (hi pins s σ H _ I h) fun v s1 h1=>thn h1 fun itv s2 z=>?_)) (fun _ s' hq=>E1 (E1 hq)) fun _ _ e=>e)
 obtain⟨it,fp,tn,J,H2,e,I2,T,st,f2,w⟩:=z
 subst e
 refine nU (R:=fun acc C=>compPost (Ef X.prog X.w) X.A X.xe (some (GJ (.Name y py) X.env)) (fun _ s'=>SP X pins B .next s') acc C) c hc hG hg ht he I2 T st f2 w fun D C H' s' I' fC zz10_0 q=>?_
 obtain⟨m,hm⟩:=zz10_0
 show E7 _ X.A (GJ (.Name y py) X.env (.ref D)) _ _ _
 refine wpAny_assign_Name (gT I' hN hy (.inl hl) (v:=.ref D) rfl (fun s9 I9 zz11_0=>?_) (.inr hl))
 obtain⟨a,sb,ha⟩:=zz11_0
 have hne:C≠a:=by
  rcases ha with z|z
  ·rw[z];exact fC.2.1
  ·exact fun e=>fC.2.2.2.2.1 y a z e.symm
 refine⟨m,hm.sameBut sb hne,fun h' hsb=>?_⟩
 exact⟨_,H',I9.turned (t':=s9.toks) (fun b o ne e=>hsb.extBut b o ne e) fC.1 fC.2.1 fC.2.2.2.1 fC.2.2.2.2.1 fC.2.2.2.2.2,q⟩
end
inductive Tgt where
 |one|many (n:Nat)
def nA(K:D5):Tgt->Own
 |.one=>fun y _ os=>os=[some y]
 |.many n=>fun y H os=>∃a xs,y=.ref a/\SqT K H a xs/\xs.length=n/\os=xs.map some
theorem pG{K:D5}:TgOk 1 (cG 0) (nA K .one):=⟨fun _ _ os h=>by rw[h];rfl,fun y H os0 tail os Q hl ho q=>by
 obtain⟨o,rfl⟩:=AU hl
 rw[show os=[some y]from ho]at q;exact q⟩
theorem Bi{K:D5}:TgOk 2 (pZ K 2 (dZ (cG 0) (dZ (cG 1) qq))) (nA K (.many 2)):=⟨fun _ _ os z=>by
 obtain⟨a,xs,_,_,hl,e⟩:=z
 rw[e];simpa using hl,fun y H os0 tail os Q hl z q=>by
 obtain⟨a,xs,e,hq,hx,ho⟩:=z
 obtain⟨o,o',rfl⟩:=zy hl
 obtain⟨u,v,rfl⟩:=zy hx
 rw[ho]at q;exact⟨a,_,e,hq,hx,u,_,rfl,v,_,rfl,rfl,q⟩⟩
def vq:Tgt->D->DS->Prop
 |.one,d,os=>os=[some d]
 |.many n,d,os=>∃ds,d=.tup ds/\ds.length=n/\os=ds.map some
def cδ(os:DS)(js:List Nat)(δ:DS):DS:=os++js.map fun j=>(δ[j]?).join
theorem gG{K:D5}{H:Hp}{δ os:DS}{σ us:L2.St}{js:List Nat}(hs:Slots K H δ σ)(r:Slots K H os us):Slots K H (cδ os js δ) (cσ us js σ):=by
 refine⟨by simp[cδ,cσ,r.len],fun i e q=>?_⟩;unfold cδ at q;unfold cσ;by_cases hi:i<os.length
 ·rw[EW hi]at q;rw[EW (by rw[<-r.len];exact hi)];exact r.at' i e q
 ·rw[ES (by omega)]at q;rw[ES (by rw[<-r.len];omega),<-r.len];rw[E4]at q ⊢;cases ej:js[i-os.length]? with
  |none=>rw[ej]at q;cases q
  |some j=>
   rw[ej]at q
   have e2:(δ[j]?).join=some e:=Option.some.inj q
   have e3:δ[j]?=some (some e):=by
    cases z:δ[j]? with
    |none=>rw[z]at e2;cases e2
    |some o=>rw[z]at e2;exact congrArg some e2
   obtain⟨v',e4,e5⟩:=hs.at' j e e3
   exact⟨v',by rw[show(some j).map (fun j=>(σ[j]?).join)=some ((σ[j]?).join)from rfl,e4];rfl,e5⟩
theorem fu{K:D5}{H:Hp}{ds:List D}{xs:List V}(r:ax K H ds xs):Slots K H (ds.map some) (xs.map some):=by
 refine⟨by simp[r.length],fun i d e=>?_⟩;rw[E4]at e ⊢;cases q:ds[i]? with
 |none=>rw[q]at e;cases e
 |some d'=>
  rw[q]at e;cases e
  obtain⟨x,e1,e2⟩:=r.get q
  exact⟨x,by rw[e1];rfl,e2⟩
theorem m4{K:D5}{H:Hp}{tk:Tgt}{d:D}{v:V}{os:DS}(r:Rep K H d v)(h:vq tk d os):∃us,nA K tk v H us/\Slots K H os us:=by
 cases tk with
 |one=>
  rw[show os=[some d]from h]
  exact⟨[some v],rfl,fu (.cons r .nil)⟩
 |many n=>
  obtain⟨ds,rfl,hl,rfl⟩:=h
  rw[Rep]at r
  obtain⟨a,xs,rfl,hq,rs⟩:=r
  exact⟨_,⟨a,xs,rfl,hq,by rw[<-rs.length];exact hl,rfl⟩,fu rs⟩
def cM:TTD:=fun _ M Q=>Q true M
def vg(I:ItD)(tk:Tgt)(js:List Nat)(tc:TTD)(te:TD)(δ:DS)(M1:MH)(Q:DK):Prop:=I.n<=1000000/\∀p,M1 p=none->∃W:Nat->List D->MH->Prop,W 0 [] (aq M1 p (.lst []))/\(∀i ys M,i<=I.n->W i ys M->I.C M)/\
 (∀i ys d M,i<I.n->I.item i=some d->W i ys M->∃os,vq tk d os/\tc (cδ os js δ) M fun b M2=>if b=true then te (cδ os js δ) M2 fun e M'=>∃M3,Sub M3 M'/\M3 p=some (.lst ys)/\W (i+1) (ys++[e]) (aq M3 p (.lst (ys++[e])))else ∃M3,Sub M3 M2/\W (i+1) ys M3)/\∀ys M,W I.n ys M->Q (.ref p) M
def gS(wd:TID)(tk:Tgt)(js:List Nat)(tc:TTD)(te:TD):TD:=fun δ M Q=>wd δ M fun I M1=>vg I tk js tc te δ M1 Q
section
variable{X:Cx}{K:D5}
theorem lG{wd:TID}{tk:Tgt}{js:List Nat}{tc:TTD}{te:TD}{σ:L2.St}{H:Hp}{Q:VK}(h:lift K (gS wd tk js tc te) σ H Q):mr js (nA K tk) (jB K wd) (liftT K tc) (lift K te) σ H Q:=by
 obtain⟨δ,M,R,hs,hM,q,fin⟩:=h;refine⟨δ,M,_,hs,hM,q,fun I M1 H1 J g1 a1 kc io p hp=>?_⟩;obtain⟨hn,kc⟩:=kc;obtain⟨W,w0,hC,turn,done⟩:=kc p (a1.fresh hp);refine⟨fun i m H2=>m=I.n-i/\i<=I.n/\Grow K H1 H2/\∃ys M,ys.length<=i/\Abs K H2 M/\W i ys M,⟨I.n,by simp,EZ _,.new hp,[],_,E3 _,a1.gh hp .nil,w0⟩,?_⟩;rintro i m H2 ⟨rfl,hi,g2,ys,M2,hl,a2,w2⟩;by_cases hin:i<I.n
 ·refine .inr ⟨io.go i H2 M2 hin g2 a2 (hC _ _ _ hi w2),fun v H3 hy=>?_⟩;obtain⟨g3,a3,d,ed,rd⟩:=io.yld i H2 M2 v H3 hin g2 a2 (hC _ _ _ hi w2) hy;obtain⟨os,ow,q3⟩:=turn i ys d M2 hin ed w2;obtain⟨us,uv,su⟩:=m4 rd ow;have s3:=gG (js:=js) (hs.mono ((g1.trans g2).trans g3)) su;refine⟨us,uv,cδ os js δ,M2,_,s3,a3,q3,fun b M4 H4 g4 a4 q4=>?_⟩;cases b with
  |false=>
   rw[if_neg Ei]at q4 ⊢
   obtain⟨M5,s5,w5⟩:=q4
   exact⟨I.n-(i+1),by omega,rfl,hin,(g2.trans g3).trans g4,ys,M5,by omega,a4.sub s5,w5⟩
  |true=>
   rw[if_pos rfl]at q4 ⊢
   refine⟨cδ os js δ,M4,_,s3.mono g4,a4,q4,fun e M' u H5 g5 r5 a5 zz2_0=>?_⟩
   obtain⟨M6,s6,e6,w6⟩:=zz2_0
   obtain⟨zs,hx,rs⟩:=(a5.sub s6) _ _ e6
   refine⟨zs,hx,?_,I.n-(i+1),by omega,rfl,hin,(((g2.trans g3).trans g4).trans g5).trans (.lst hx),ys++[e],_,by simp;omega,(a5.sub s6).pE hx (rs.append (.cons r5 .nil)),w6⟩
   rw[<-rs.length]
   exact Nat.lt_of_le_of_lt hl (Em hin (ER hn (by decide)))
 ·obtain rfl:i=I.n:=by omega
  exact .inl ⟨io.stop H2 M2 g2 a2 (hC _ _ _ hi w2),fin _ _ _ _ (g1.trans g2) (by rw[Rep]) a2 (done ys M2 w2)⟩
variable{xs:List Str}{tg:Expr}{pos:Pos}{js:List Nat}{scope:G5}{elt iter:Expr}{ifs:List Expr}{te:TD}{tc:TTD}{g:TG}{tk:Tgt}{wd:TID}
def DTs(X:Cx)(ifs:List Expr)(t:TTD):Prop:=PTs X ifs (liftT X.K t)
theorem cy:DTs X [] cM:=fun pins s σ H Q I zz3_0=>by obtain⟨δ,M,R,hs,hM,q,fin⟩:=zz3_0;exact(xr pins s σ H Q I (fin _ _ _ .refl hM q))
theorem mx{c:Expr}{t:TTD}(h:DT X c t):DTs X [c] t:=xK h
theorem qU(c:CScope X xs js scope)(hc:X.calm=true)(hi:DI X tg iter wd)(hG:TgOk xs.length g (nA X.K tk))(hg:∀C s H fp,PG (cxC X xs js scope C s H fp) tg g)(ht:∀C s H fp,DTs (cxC X xs js scope C s H fp) ifs tc)(he:∀C s H fp,DE (cxC X xs js scope C s H fp) elt te) (hs:∀x,Eu iter X.env x=pure x:=by intro _;rfl):DE X (.ListComp elt [⟨tg,iter,ifs,0⟩] scope pos) (gS wd tk js tc te):=aO (qQ (te:=lift X.K te) (tc:=liftT X.K tc) c hc hi hG hg ht he hs) fun _ _ _ h=>lG h
theorem x9(i:Nat){y:Str}{py spos:Pos}(hN:X.N.Nodup)(c:CScope X xs js scope)(hc:X.calm=true)(hi:DI X tg iter wd)(hG:TgOk xs.length g (nA X.K tk))(hg:∀C s H fp,PG (cxC X xs js scope C s H fp) tg g)(ht:∀C s H fp,DTs (cxC X xs js scope C s H fp) ifs tc)(he:∀C s H fp,DE (cxC X xs js scope C s H fp) elt te) (hy:X.N[i]?=some y:=by rfl) (hl:X.env.scope.names.lookup y=some .local:=by rfl) (hsw:GI (.ListComp elt [⟨tg,iter,ifs,0⟩] scope pos) (some (.Name y py)) spos.line X.env=pure true:=by rfl) (hs:∀x,Eu iter X.env x=pure x:=by intro _;rfl) : DSt X (.Assign [.Name y py] (.ListComp elt [⟨tg,iter,ifs,0⟩] scope pos) spos) (cZ (gS wd tk js tc te) (bF i)):=cD (xR (te:=lift X.K te) (tc:=liftT X.K tc) c hc hN hi hG hg ht he hy hl hsw hs) fun E σ H zz4_0=>by obtain⟨δ,M,hs,a,B,ok,q⟩:=zz4_0;exact(lG ⟨δ,M,_,hs,a,q,fun d M1 v H1 g1 r1 a1 q1=>ok.nx _ _ _ _ g1 ((hs.mono g1).set r1 i) a1 q1⟩)
theorem comp_map{I:ItD}{tk:Tgt}{js:List Nat}{te:TD}{δ:DS}{M1:MH}{Q:DK}(f:Nat->D)(hn:I.n<=1000000)(hC:∀p ys,M1 p=none->I.C (aq M1 p (.lst ys))) (h:∀i d M,i<I.n->I.item i=some d->Sub M1 M->∃os,vq tk d os/\∀K:DK,(∀M',Sub M M'->K (f i) M')->te (cδ os js δ) M K) (hq:∀p,M1 p=none->Q (.ref p) (aq M1 p (.lst ((E5 I.n).map f)))):vg I tk js cM te δ M1 Q:=by
 refine⟨hn,fun p hp=>⟨fun i ys M=>ys=(E5 i).map f/\M=aq M1 p (.lst ys),⟨rfl,rfl⟩,?_,?_,?_⟩⟩
 ·rintro i ys M _ ⟨_,rfl⟩;exact hC p ys hp
 ·rintro i ys d M hi hd ⟨rfl,rfl⟩;obtain⟨os,ow,k⟩:=h i d _ hi hd (.new hp .refl);refine⟨os,ow,?_⟩;unfold cM;refine kQ (k _ ?_);exact fun M' s'=>⟨_,s',af,by rw[G0,Eg];rfl,by rw[bo]⟩
 ·rintro ys M ⟨rfl,rfl⟩;exact hq p hp
end
def B5(X:Cx)(xs:List Str)(js:List Nat)(scope:G5):Bool:=
 scope.kind==.function&&scope.names.all (fun y=>(y.2 != .cell||xs.contains y.1)&&(y.2 != .free||!xs.contains y.1))&&scope.names.all (fun y=>y.2 != .local||scope.names.lookup y.1==some .local)&&xs.all (fun x=>scope.names.lookup x==some .local||scope.names.lookup x==some .cell) &&
  scope.names.all (fun y=>y.2 != .free||(X.env.kindOf y.1==some .cell||X.env.kindOf y.1==some .free))&&decide (cN X xs js).Nodup&&js.all (fun j=>scope.names.lookup ((X.N[j]?).getD ("":Str)) != some .local)
theorem CScope.of{X:Cx}{xs:List Str}{js:List Nat}{scope:G5}(h:B5 X xs js scope=true):CScope X xs js scope:=by
 unfold B5 at h;simp only[F6]at h;obtain⟨⟨⟨⟨⟨⟨h1,h2⟩,h3⟩,h4⟩,h5⟩,h6⟩,h7⟩:=h;refine⟨by simpa using h1,fun y hy hc=>?_,fun y hy hf=>?_,fun y hy hl=>?_,fun x hx=>?_,fun y hy hf=>?_,of_decide_eq_true h6,fun j hj=>?_⟩
 ·have:=Gg.mp h2 y hy;rw[hc]at this;simpa using this
 ·have:=Gg.mp h2 y hy;rw[hf]at this;simpa using this
 ·have:=Gg.mp h3 y hy;rw[hl]at this;simpa using this
 ·have:=Gg.mp h4 x hx;simpa using this
 ·have:=Gg.mp h5 y hy;rw[hf]at this;simpa using this
 ·have:=Gg.mp h7 j hj;simpa using this
abbrev TOD:=DS->MH->(Option Int->MH->Prop)->Prop
def rE(K:D5)(t:TOD):TO:=fun σ H Q=>∃δ M R,Slots K H δ σ/\Abs K H M/\t δ M R/\∀o M' H',Grow K H H'->Abs K H' M'->R o M'->Q o H'
def uo:TOD:=fun _ M Q=>Q none M
def Ao(t:TD):TOD:=fun δ M Q=>t δ M fun x M1=>∃i,x=.int i/\Q (some i) M1
def cutD(xs:List D)(lo hi:Option Int):List D:=(xs.drop (HT.sIx xs.length 0 lo)).take (HT.sIx xs.length xs.length hi-HT.sIx xs.length 0 lo)
def BV:D->Option Int->Option Int->MH->DK->Prop:=fun x lo hi M Q=>match x with
 |.ref a=>∃ds,M a=some (.lst ds)/\∀p,M p=none->Q (.ref p) (aq M p (.lst (cutD ds lo hi)))
 |.rol ds=>∀p,M p=none->Q (.ref p) (aq M p (.lst (cutD ds lo hi)))
 |.tup ds=>¬(HT.sIx ds.length 0 lo=0/\HT.sIx ds.length ds.length hi=ds.length)/\Q (.tup (cutD ds lo hi)) M
 |_=>False
def Ds(te:TD)(tl th:TOD):TD:=fun δ M Q=>te δ M fun x M1=>tl δ M1 fun l M2=>th δ M2 fun u M3=>BV x l u M3 Q
theorem ax.cut{K:D5}{H:Hp}{ds:List D}{xs:List V}(h:ax K H ds xs)(lo hi:Option Int):ax K H (cutD ds lo hi) (mU xs lo hi):=by unfold cutD mU;rw[h.length];exact(h.drop _).take _
section
variable{X:Cx}{e a:Expr}{te:TD}{tl th:TOD}{lo hi:Option Expr}{pos p2:Pos}
theorem vU{e:Option Expr}{t t':TO}(h:PO X e t)(k:∀σ H Q,t' σ H Q->t σ H Q):PO X e t':=fun pins s σ H Q I q=>h pins s σ H Q I (k _ _ _ q)
theorem wA:PO X none (rE X.K uo):=vU wV fun σ H Q zz5_0=>by obtain⟨δ,M,R,hs,a,q,fin⟩:=zz5_0;exact(fin _ _ _ .refl a q)
theorem gv(h:DE X e te):PO X (some e) (rE X.K (Ao te)):=vU (xV h) fun σ H Q zz6_0=>by obtain⟨δ,M,R,hs,a,q,fin⟩:=zz6_0;exact(⟨δ,M,_,hs,a,q,fun d M1 v H1 g1 r1 a1 z9=>by
 obtain⟨i,ei,q1⟩:=z9
 subst ei
 rw[Rep]at r1
 exact⟨i,r1,fin _ _ _ g1 a1 q1⟩⟩)
theorem jN(he:DE X a te)(hl:PO X lo (rE X.K tl))(hu:PO X hi (rE X.K th)):DE X (.Subscript a (.Slice lo hi none p2) pos) (Ds te tl th):=
 aO (ug (yd.or zJ) he hl hu) fun σ H Q zz7_0=>by obtain⟨δ,M,R,hs,a,q,fin⟩:=zz7_0;exact(⟨δ,M,_,hs,a,q,fun x M1 v H1 g1 r1 a1 q1=>⟨δ,M1,_,hs.mono g1,a1,q1,fun l M2 H2 g2 a2 q2=>⟨δ,M2,_,hs.mono (g1.trans g2),a2,q2,fun u M3 H3 g3 a3 q3=>by
  have G:=(g1.trans g2).trans g3
  have r3:=r1.mono (g2.trans g3)
  unfold BV at q3
  split at q3
  ·obtain⟨ds,e3,q3⟩:=q3
   obtain rfl:v=.ref _:=r3
   obtain⟨xs,hx,rs⟩:=a3 _ _ e3
   exact .inl ⟨_,xs,rfl,SqL.of hx,fun z hz=>fin _ _ _ _ (G.trans (.new hz)) (by rw[Rep]) (a3.gh hz (rs.cut _ _)) (q3 z (a3.fresh hz))⟩
  ·rw[Rep]at r3
   obtain⟨b,xs,rfl,hx,rs⟩:=r3
   exact .inl ⟨_,xs,rfl,hx.sql,fun z hz=>fin _ _ _ _ (G.trans (.new hz)) (by rw[Rep]) (a3.gh hz (rs.cut _ _)) (q3 z (a3.fresh hz))⟩
  ·obtain⟨hw,q3⟩:=q3
   rw[Rep]at r3
   obtain⟨b,xs,rfl,hx,rs⟩:=r3
   exact .inr ⟨_,xs,rfl,hx,by rw[<-rs.length];exact hw,fun z hz=>fin _ _ _ _ (G.trans (.new hz)) (by rw[Rep];exact⟨z,_,rfl,SqT.of aK,(rs.cut _ _).mono (.new hz)⟩) (a3.new hz) q3⟩
  ·exact q3.elim⟩⟩⟩)
end
section
variable{X:Cx}{x y z:Str}{px py pz pt pos:Pos}{kt:Nat}{js:List Nat}{scope:G5}{elt iter:Expr}{ifs:List Expr}{te:TD}{tc:TTD}{wd:TID}{xs:List Str}
theorem dG(c:CScope X xs js scope)(i:Nat)(hx:xs[i]?=some x){C:Addr}{s:D6}{H:Hp}{fp:List Addr}:PG (cxC X xs js scope C s H fp) (.Name x px) (cG i):=by
 have hi:i<xs.length:=(Eo.mp hx).1;have hm:=Ej hx
 have hl:Loc (cxC X xs js scope C s H fp).env.scope x:=by
  rcases c.own x hm with z|z
  ·exact .inl (d9 (by decide) z)
  ·exact .inr (d9 (by decide) z)
 refine rG (i:=i) c.nd ?_ hl (.inl (by show xs.contains x=true;simpa using hm));show(xs++js.map fun j=>(X.N[j]?).getD ("":Str))[i]?=some x;rw[EW hi];exact hx
theorem xi(c:CScope X [x,y] js scope)(hc:X.calm=true){C:Addr}{s:D6}{H:Hp}{fp:List Addr}:PG (cxC X [x,y] js scope C s H fp) (.Tuple [.Name x px,.Name y py] kt pt) (pZ X.K 2 (dZ (cG 0) (dZ (cG 1) qq))):=mD (X:=cxC X [x,y] js scope C s H fp) hc (c7 (dG c 0 rfl) (c7 (dG c 1 rfl) iX)) rfl rfl
theorem jo(c:CScope X [x] js scope)(hc:X.calm=true)(hi:DI X (.Name x px) iter wd)(ht:∀C s H fp,DTs (cxC X [x] js scope C s H fp) ifs tc)(he:∀C s H fp,DE (cxC X [x] js scope C s H fp) elt te) (hs:∀x,Eu iter X.env x=pure x:=by intro _;rfl):DE X (.ListComp elt [⟨.Name x px,iter,ifs,0⟩] scope pos) (gS wd .one js tc te):=qU c hc hi pG (fun _ _ _ _=>dG c 0 rfl) ht he hs
theorem nJ(c:CScope X [x,y] js scope)(hc:X.calm=true)(hi:DI X (.Tuple [.Name x px,.Name y py] kt pt) iter wd)(ht:∀C s H fp,DTs (cxC X [x,y] js scope C s H fp) ifs tc)(he:∀C s H fp,DE (cxC X [x,y] js scope C s H fp) elt te) (hs:∀x,Eu iter X.env x=pure x:=by intro _;rfl):DE X (.ListComp elt [⟨.Tuple [.Name x px,.Name y py] kt pt,iter,ifs,0⟩] scope pos) (gS wd (.many 2) js tc te):=qU c hc hi Bi (fun _ _ _ _=>xi c hc) ht he hs
theorem dm(i:Nat){v:Str}{pv spos:Pos}(hN:X.N.Nodup)(c:CScope X [x] js scope)(hc:X.calm=true)(hi:DI X (.Name x px) iter wd)(ht:∀C s H fp,DTs (cxC X [x] js scope C s H fp) ifs tc)(he:∀C s H fp,DE (cxC X [x] js scope C s H fp) elt te) (hy:X.N[i]?=some v:=by rfl) (hl:X.env.scope.names.lookup v=some .local:=by rfl) (hsw:GI (.ListComp elt [⟨.Name x px,iter,ifs,0⟩] scope pos) (some (.Name v pv)) spos.line X.env=pure true:=by rfl) (hs:∀x,Eu iter X.env x=pure x:=by intro _;rfl) : DSt X (.Assign [.Name v pv] (.ListComp elt [⟨.Name x px,iter,ifs,0⟩] scope pos) spos) (cZ (gS wd .one js tc te) (bF i)):=x9 i hN c hc hi pG (fun _ _ _ _=>dG c 0 rfl) ht he hy hl hsw hs
end
section
variable{prog:Ee}{w:EB}{A:EE}{E:D4->D6->Prop}{s:D6}
theorem max_two{a b:D4}{c:Bool}{Q:D4->D6->Prop}(hh:A.handled=none)
 (cmp:∀(t:D6) (Q':D4->D6->Prop) (E':D4->D6->Prop),(∀x o,s.heap.get? x=some o->t.heap.get? x=some o)->Q' (.bool c) t->E7 (Ef prog w) A.in1 (richCompare .Gt b a) Q' E' t)
 (h:∀h' tk,(∀x o,s.heap.get? x=some o->h'.get? x=some o)->Q (if c=true then b else a) { s with heap:=h',toks:=tk }) :
 E7 (Ef prog w) A (call (.builtin "max") [a,b]) Q E s:=by
 have nm:(toString "max"++toString ".loop":String)="max.loop":=by decide
 refine call_function_tree F.kind_max F.plain_max F.entry_max (F.args_max2 _ _) ?_
 show E7 _ A.in1 (Builtin.Builtins.bindParams "max" ["key","default"] 0 ⟨[],[]⟩ >>= fun _=>_) _ _ s
 refine cc (wpAny_of_eq (a:=[none,none]) rfl ?_)
 show E7 _ A.in1 (newTuple [a,b] >>= fun _=>_) _ _ s
 refine cc (EO ?_)
 generalize e1:s.heap.push { cls:=.type "tuple",dict:=none,data:=.seq ([a,b]:List D4).toArray }=h1
 have k1:∀x o,s.heap.get? x=some o->h1.get? x=some o:=fun x o q=>by rw[<-e1];exact D9 _ q
 have hT:h1.IsTuple s.heap.objs.size #[a,b]:=by rw[<-e1];exact⟨_,E6 _ rfl,rfl,0,rfl⟩
 have z1:h1.objs.size=s.heap.objs.size+1:=by rw[<-e1,Fz]
 refine cc (wpAny_pyIter_tuple (s:={ s with heap:=h1 }) hT ?_)
 refine cc (EO ?_)
 dsimp only
 generalize eI:h1.objs.size=I
 generalize e2:h1.push _=h2
 have k2:∀x o,h1.get? x=some o->h2.get? x=some o:=fun x o q=>by rw[<-e2];exact D9 _ q
 have hI:h2.IsTupleIter I s.heap.objs.size 0:=by rw[<-e2,<-eI];exact⟨_,E6 _ rfl,rfl,rfl⟩
 have z2:h2.objs.size=I+1:=by rw[<-e2,Fz,eI]
 generalize eS:h2.objs.size=S
 generalize e3:h2.push _=h3
 have k3:∀x o,h2.get? x=some o->h3.get? x=some o:=fun x o q=>by rw[<-e3];exact D9 _ q
 have hS:h3.get? S=some { cls:=.type "list",dict:=none,data:=.seq #[] 0,slots:=#[] }:=by rw[<-e3,<-eS];exact E6 _ rfl
 have SI:S≠I:=by omega
 have old:∀x o,s.heap.get? x=some o->x≠I/\x≠S:=fun x o q=>⟨Ex (Em (E8 q) (by omega)),Ex (Em (E8 q) (by omega))⟩
 have hT3:h3.IsTuple s.heap.objs.size #[a,b]:=by
  obtain⟨o,q,r⟩:=hT
  exact⟨o,k3 _ _ (k2 _ _ q),r⟩
 have hI3:h3.IsTupleIter I s.heap.objs.size 0:=hI.at fun o q=>k3 _ _ q
 have TI:s.heap.objs.size≠I:=by omega
 have TS:s.heap.objs.size≠S:=by omega
 have keep3:∀x o,s.heap.get? x=some o->h3.get? x=some o:=fun x o q=>k3 _ _ (k2 _ _ (k1 _ _ q))
 rw[nm]
 refine E1 ⟨GG Gi _,?_⟩
 have last:∀(t:D6) (v:D4) (n:Nat),t.heap.IsTupleIter I s.heap.objs.size 2->t.heap.IsTuple s.heap.objs.size #[a,b]->t.heap.get? S=some { cls:=.type "list",dict:=none,data:=.seq #[v,v] n,slots:=#[] }->
  (∃h' tk,t={ s with heap:=h',toks:=tk }/\∀x o,s.heap.get? x=some o->h'.get? x=some o)->v=(if c=true then b else a)->FX (Ef prog w) A (.builtin "max.loop" ⟨[.ref I,.none,.ref S],[]⟩) (fun r s'=>match r with|.ok (.ret v)=>Q v s'|.ok _=>False|.error e=>E e s') t:=by
  rintro t v n i2 tT lS ⟨h',tk,rfl,kt⟩ ev
  refine FK F.entry_max_loop ?_
  rw[FU Gi _]
  show E7 _ A.in1 (seqItems? (.ref S) >>= fun _=>_) _ _ _
  refine cc (Gm lS rfl ?_)
  show E7 _ A.in1 (tryCatch (pyNext (.ref I)) _ >>= fun _=>_) _ _ _
  refine cc (Gn (wpAny_pyNext_tuple_end (A:=A.in1) hh i2 tT (by simp) fun h4 q4=>?_))
  have lS4:h4.get? S=some _:=q4 _ _ SI lS
  show E7 _ A.in1 (updateSeq S (fun _=>#[]) >>= fun _=>_) _ _ _
  refine cc (wpAny_updateSeq lS4 rfl (cc (wpAny_letGo (E1 ?_))))
  show Q v _
  rw[ev]
  exact h _ _ fun x o q=>(EG _ _ (old x o q).2.symm).trans (q4 x o (old x o q).1 (kt x o q))
 refine FK F.entry_max_loop ?_
 rw[FU Gi _]
 show E7 _ A.in1 (seqItems? (.ref S) >>= fun _=>_) _ _ _
 refine cc (Gm (s:={ s with heap:=h3 }) hS rfl ?_)
 show E7 _ A.in1 (tryCatch (pyNext (.ref I)) _ >>= fun _=>_) _ _ _
 refine cc (Gn (FW (s:={ s with heap:=h3 }) hI3 hT3 (x:=a) (by simp) fun h4 i4 q4=>?_))
 have hS4:h4.get? S=some _:=(q4.2 _ SI).trans hS
 have hT4:h4.IsTuple s.heap.objs.size #[a,b]:=by
  obtain⟨o,q,r⟩:=hT3
  exact⟨o,(q4.2 _ TI).trans q,r⟩
 show E7 _ A.in1 (updateSeq S (fun _=>#[a,a]) >>= fun _=>_) _ _ _
 refine cc (wpAny_updateSeq hS4 rfl ?_)
 rw[nm]
 refine E1 ⟨GG Gi _,?_⟩
 generalize e5:h4.update S _=h5
 have o5:∀x,x≠S->h5.get? x=h4.get? x:=fun x q=>by rw[<-e5];exact EG _ _ q.symm
 have hS5:∃n,h5.get? S=some { cls:=.type "list",dict:=none,data:=.seq #[a,a] n,slots:=#[] }:=⟨_,by rw[<-e5];exact Fw _ hS4 rfl⟩
 obtain⟨n5,hS5⟩:=hS5
 have i5:h5.IsTupleIter I s.heap.objs.size 1:=i4.at fun o q=>(o5 _ SI.symm).trans q
 have hT5:h5.IsTuple s.heap.objs.size #[a,b]:=by
  obtain⟨o,q,r⟩:=hT4
  exact⟨o,(o5 _ TS).trans q,r⟩
 have keep5:∀x o,s.heap.get? x=some o->h5.get? x=some o:=fun x o q=>(o5 _ (old x o q).2).trans ((q4.2 _ (old x o q).1).trans (keep3 x o q))
 refine FK F.entry_max_loop ?_
 rw[FU Gi _]
 show E7 _ A.in1 (seqItems? (.ref S) >>= fun _=>_) _ _ _
 refine cc (Gm (s:={ s with heap:=h5 }) hS5 rfl ?_)
 show E7 _ A.in1 (tryCatch (pyNext (.ref I)) _ >>= fun _=>_) _ _ _
 refine cc (Gn (FW (s:={ s with heap:=h5 }) i5 hT5 (x:=b) (by simp) fun h6 i6 q6=>?_))
 have hS6:h6.get? S=some _:=(q6.2 _ SI).trans hS5
 have hT6:h6.IsTuple s.heap.objs.size #[a,b]:=by
  obtain⟨o,q,r⟩:=hT5
  exact⟨o,(q6.2 _ TI).trans q,r⟩
 have keep6:∀x o,s.heap.get? x=some o->h6.get? x=some o:=fun x o q=>(q6.2 _ (old x o q).1).trans (keep5 x o q)
 show E7 _ A.in1 (tryCatch (holding [b,b] (richCompare .Gt b a >>= fun _=>_)) _ >>= fun _=>_) _ _ _
 refine cc (Gn (EY (cc (cmp _ _ _ keep6 ?_))))
 refine cc (EY (FI ?_))
 refine cc (wpAny_letGo (E1 ?_))
 cases c with
 |true=>
  simp only[if_true]at last ⊢
  refine cc (wpAny_updateSeq hS6 rfl (cc (wpAny_letGo ?_)))
  rw[nm]
  refine E1 ⟨GG Gi _,last _ b _ (i6.at fun o q=>(EG _ _ SI).trans q) ?_ (Fw _ hS6 rfl) ⟨_,_,rfl,fun x o q=>(EG _ _ (old x o q).2.symm).trans (keep6 x o q)⟩ rfl⟩
  obtain⟨o,q,r⟩:=hT6
  exact⟨o,(EG _ _ TS.symm).trans q,r⟩
 |false=>
  simp only[Fb,if_false]at last ⊢
  refine cc (wpAny_letGo ?_)
  rw[nm]
  exact E1 ⟨GG Gi _,last _ a _ i6 hT6 hS6 ⟨_,_,rfl,keep6⟩ rfl⟩
theorem min_two{a b:D4}{c:Bool}{Q:D4->D6->Prop}(hh:A.handled=none)
 (cmp:∀(t:D6) (Q':D4->D6->Prop) (E':D4->D6->Prop),(∀x o,s.heap.get? x=some o->t.heap.get? x=some o)->Q' (.bool c) t->E7 (Ef prog w) A.in1 (richCompare .Lt b a) Q' E' t)
 (h:∀h' tk,(∀x o,s.heap.get? x=some o->h'.get? x=some o)->Q (if c=true then b else a) { s with heap:=h',toks:=tk }) :
 E7 (Ef prog w) A (call (.builtin "min") [a,b]) Q E s:=by
 have nm:(toString "min"++toString ".loop":String)="min.loop":=by decide
 refine call_function_tree F.kind_min F.plain_min F.entry_min (F.args_min2 _ _) ?_
 show E7 _ A.in1 (Builtin.Builtins.bindParams "min" ["key","default"] 0 ⟨[],[]⟩ >>= fun _=>_) _ _ s
 refine cc (wpAny_of_eq (a:=[none,none]) rfl ?_)
 show E7 _ A.in1 (newTuple [a,b] >>= fun _=>_) _ _ s
 refine cc (EO ?_)
 generalize e1:s.heap.push { cls:=.type "tuple",dict:=none,data:=.seq ([a,b]:List D4).toArray }=h1
 have k1:∀x o,s.heap.get? x=some o->h1.get? x=some o:=fun x o q=>by rw[<-e1];exact D9 _ q
 have hT:h1.IsTuple s.heap.objs.size #[a,b]:=by rw[<-e1];exact⟨_,E6 _ rfl,rfl,0,rfl⟩
 have z1:h1.objs.size=s.heap.objs.size+1:=by rw[<-e1,Fz]
 refine cc (wpAny_pyIter_tuple (s:={ s with heap:=h1 }) hT ?_)
 refine cc (EO ?_)
 dsimp only
 generalize eI:h1.objs.size=I
 generalize e2:h1.push _=h2
 have k2:∀x o,h1.get? x=some o->h2.get? x=some o:=fun x o q=>by rw[<-e2];exact D9 _ q
 have hI:h2.IsTupleIter I s.heap.objs.size 0:=by rw[<-e2,<-eI];exact⟨_,E6 _ rfl,rfl,rfl⟩
 have z2:h2.objs.size=I+1:=by rw[<-e2,Fz,eI]
 generalize eS:h2.objs.size=S
 generalize e3:h2.push _=h3
 have k3:∀x o,h2.get? x=some o->h3.get? x=some o:=fun x o q=>by rw[<-e3];exact D9 _ q
 have hS:h3.get? S=some { cls:=.type "list",dict:=none,data:=.seq #[] 0,slots:=#[] }:=by rw[<-e3,<-eS];exact E6 _ rfl
 have SI:S≠I:=by omega
 have old:∀x o,s.heap.get? x=some o->x≠I/\x≠S:=fun x o q=>⟨Ex (Em (E8 q) (by omega)),Ex (Em (E8 q) (by omega))⟩
 have hT3:h3.IsTuple s.heap.objs.size #[a,b]:=by
  obtain⟨o,q,r⟩:=hT
  exact⟨o,k3 _ _ (k2 _ _ q),r⟩
 have hI3:h3.IsTupleIter I s.heap.objs.size 0:=hI.at fun o q=>k3 _ _ q
 have TI:s.heap.objs.size≠I:=by omega
 have TS:s.heap.objs.size≠S:=by omega
 have keep3:∀x o,s.heap.get? x=some o->h3.get? x=some o:=fun x o q=>k3 _ _ (k2 _ _ (k1 _ _ q))
 rw[nm]
 refine E1 ⟨GG Gj _,?_⟩
 have last:∀(t:D6) (v:D4) (n:Nat),t.heap.IsTupleIter I s.heap.objs.size 2->t.heap.IsTuple s.heap.objs.size #[a,b]->t.heap.get? S=some { cls:=.type "list",dict:=none,data:=.seq #[v,v] n,slots:=#[] }->
  (∃h' tk,t={ s with heap:=h',toks:=tk }/\∀x o,s.heap.get? x=some o->h'.get? x=some o)->v=(if c=true then b else a)->FX (Ef prog w) A (.builtin "min.loop" ⟨[.ref I,.none,.ref S],[]⟩) (fun r s'=>match r with|.ok (.ret v)=>Q v s'|.ok _=>False|.error e=>E e s') t:=by
  rintro t v n i2 tT lS ⟨h',tk,rfl,kt⟩ ev
  refine FK F.entry_min_loop ?_
  rw[FU Gj _]
  show E7 _ A.in1 (seqItems? (.ref S) >>= fun _=>_) _ _ _
  refine cc (Gm lS rfl ?_)
  show E7 _ A.in1 (tryCatch (pyNext (.ref I)) _ >>= fun _=>_) _ _ _
  refine cc (Gn (wpAny_pyNext_tuple_end (A:=A.in1) hh i2 tT (by simp) fun h4 q4=>?_))
  have lS4:h4.get? S=some _:=q4 _ _ SI lS
  show E7 _ A.in1 (updateSeq S (fun _=>#[]) >>= fun _=>_) _ _ _
  refine cc (wpAny_updateSeq lS4 rfl (cc (wpAny_letGo (E1 ?_))))
  show Q v _
  rw[ev]
  exact h _ _ fun x o q=>(EG _ _ (old x o q).2.symm).trans (q4 x o (old x o q).1 (kt x o q))
 refine FK F.entry_min_loop ?_
 rw[FU Gj _]
 show E7 _ A.in1 (seqItems? (.ref S) >>= fun _=>_) _ _ _
 refine cc (Gm (s:={ s with heap:=h3 }) hS rfl ?_)
 show E7 _ A.in1 (tryCatch (pyNext (.ref I)) _ >>= fun _=>_) _ _ _
 refine cc (Gn (FW (s:={ s with heap:=h3 }) hI3 hT3 (x:=a) (by simp) fun h4 i4 q4=>?_))
 have hS4:h4.get? S=some _:=(q4.2 _ SI).trans hS
 have hT4:h4.IsTuple s.heap.objs.size #[a,b]:=by
  obtain⟨o,q,r⟩:=hT3
  exact⟨o,(q4.2 _ TI).trans q,r⟩
 show E7 _ A.in1 (updateSeq S (fun _=>#[a,a]) >>= fun _=>_) _ _ _
 refine cc (wpAny_updateSeq hS4 rfl ?_)
 rw[nm]
 refine E1 ⟨GG Gj _,?_⟩
 generalize e5:h4.update S _=h5
 have o5:∀x,x≠S->h5.get? x=h4.get? x:=fun x q=>by rw[<-e5];exact EG _ _ q.symm
 have hS5:∃n,h5.get? S=some { cls:=.type "list",dict:=none,data:=.seq #[a,a] n,slots:=#[] }:=⟨_,by rw[<-e5];exact Fw _ hS4 rfl⟩
 obtain⟨n5,hS5⟩:=hS5
 have i5:h5.IsTupleIter I s.heap.objs.size 1:=i4.at fun o q=>(o5 _ SI.symm).trans q
 have hT5:h5.IsTuple s.heap.objs.size #[a,b]:=by
  obtain⟨o,q,r⟩:=hT4
  exact⟨o,(o5 _ TS).trans q,r⟩
 have keep5:∀x o,s.heap.get? x=some o->h5.get? x=some o:=fun x o q=>(o5 _ (old x o q).2).trans ((q4.2 _ (old x o q).1).trans (keep3 x o q))
 refine FK F.entry_min_loop ?_
 rw[FU Gj _]
 show E7 _ A.in1 (seqItems? (.ref S) >>= fun _=>_) _ _ _
 refine cc (Gm (s:={ s with heap:=h5 }) hS5 rfl ?_)
 show E7 _ A.in1 (tryCatch (pyNext (.ref I)) _ >>= fun _=>_) _ _ _
 refine cc (Gn (FW (s:={ s with heap:=h5 }) i5 hT5 (x:=b) (by simp) fun h6 i6 q6=>?_))
 have hS6:h6.get? S=some _:=(q6.2 _ SI).trans hS5
 have hT6:h6.IsTuple s.heap.objs.size #[a,b]:=by
  obtain⟨o,q,r⟩:=hT5
  exact⟨o,(q6.2 _ TI).trans q,r⟩
 have keep6:∀x o,s.heap.get? x=some o->h6.get? x=some o:=fun x o q=>(q6.2 _ (old x o q).1).trans (keep5 x o q)
 show E7 _ A.in1 (tryCatch (holding [b,b] (richCompare .Lt b a >>= fun _=>_)) _ >>= fun _=>_) _ _ _
 refine cc (Gn (EY (cc (cmp _ _ _ keep6 ?_))))
 refine cc (EY (FI ?_))
 refine cc (wpAny_letGo (E1 ?_))
 cases c with
 |true=>
  simp only[if_true]at last ⊢
  refine cc (wpAny_updateSeq hS6 rfl (cc (wpAny_letGo ?_)))
  rw[nm]
  refine E1 ⟨GG Gj _,last _ b _ (i6.at fun o q=>(EG _ _ SI).trans q) ?_ (Fw _ hS6 rfl) ⟨_,_,rfl,fun x o q=>(EG _ _ (old x o q).2.symm).trans (keep6 x o q)⟩ rfl⟩
  obtain⟨o,q,r⟩:=hT6
  exact⟨o,(EG _ _ TS.symm).trans q,r⟩
 |false=>
  simp only[Fb,if_false]at last ⊢
  refine cc (wpAny_letGo ?_)
  rw[nm]
  exact E1 ⟨GG Gj _,last _ a _ i6 hT6 hS6 ⟨_,_,rfl,keep6⟩ rfl⟩
end
end SD
namespace HT
open PySem PyProof.Rows
def lexLe:List Int->List Int->Bool
 |[],[]=>true
 |[],_::_=>true
 |_::_,[]=>false
 |x::xs,y::ys=>if x=y then lexLe xs ys else decide (x<=y)
theorem p7(x y:Int)(xs ys:List Int):lexLe (x::xs) (y::ys)=if x=y then lexLe xs ys else decide (x<=y):=rfl
theorem kT:lexLe [] []=true:=rfl
theorem jU(y:Int)(ys:List Int):lexLe [] (y::ys)=true:=rfl
theorem ji(x:Int)(xs:List Int):lexLe (x::xs) []=false:=rfl
theorem vy(A:EE)(s:D6)(a:Int)(t:Tok)(c:Int)(u:Tok)(prog:Ee)(w:EB)(E:D4->D6->Prop)(Q:D4->D6->Prop)(h:Q (.bool (decide (a<=c))) s) : E7 (Ef prog w) A (richCompare .LtE (.int a t) (.int c u)) Q E s:=(PyProof.Rows.le_int h:E7 (Ef prog w) A (EK .LtE (.int a t) (.int c u)) Q E s)
section
open PySem.SeqAt
open PySem.AutoSeq1 (wpAny_loadPart')
open PySem.MeetsSeq PySem.MeetsSeq2 PySem.MeetsSeq3
theorem kP(l b:Addr)(items items2:Array D4)(n n2:Nat)(dd dd2:Option Addr)(sl sl2:Array (Option D4))(ns ms:List Int)(hi:FD items.toList ns)(hj:FD items2.toList ms) :
 Meets (GP.«tuple.__le__» ⟨[.ref l,.ref b],[]⟩)
  (fun _ R s=>s.heap.get? l=some { cls:=.type "tuple",dict:=dd,data:=.seq items n,slots:=sl }/\s.heap.get? b=some { cls:=.type "tuple",dict:=dd2,data:=.seq items2 n2,slots:=sl2 }/\
   R (.ok (.ret (.bool (lexLe ns ms)))) s):=
 .of_wp fun prog w A R s h=>by
  obtain⟨hp,g,d,tk,os⟩:=s;obtain⟨hl,hb,h⟩:=h
  have f2:=AutoSeq1.sub_tuple_tuple
  have z1:items.size=ns.length:=by rw[<-hi.length];simp
  have z2:items2.size=ms.length:=by rw[<-hj.length];simp
  wp_walk using Fg hl,Fg hb,wpAny_forIn_list _ (fun rest b s'=>b.1=none/\s'=⟨hp,g,d,tk,os⟩/\∃(vs ws:List D4) (ns' ms':List Int),rest=vs.zip ws/\
   FD vs ns'/\FD ws ms'/\ns'.length+items2.size=ms'.length+items.size/\R (.ok (.ret (.bool (lexLe ns' ms')))) ⟨hp,g,d,tk,os⟩) _
  case turn=>
   rintro⟨y,x⟩ rest b s' ⟨hb',rfl,vs,ws,ns',ms',hz,hvi,hwi,hlen,hR⟩
   cases hvi with
   |nil=>rw[List.zip_nil_left]at hz;cases hz
   |cons a t hvi'=>
    cases hwi with
    |nil=>rw[List.zip_nil_right]at hz;cases hz
    |cons c u hwi'=>
     rw[Gk]at hz
     injection hz with hyx hrest
     injection hyx with hy hx
     subst hy hx
     rw[p7]at hR
     simp only[EA]at hlen
     obtain⟨e,he,hiff⟩:=kI A.in1 ⟨hp,g,d,tk,os⟩ a t c u
     refine cc (he prog w _ _ ?_)
     cases e with
     |true=>
      rw[if_pos (hiff.mp rfl)]at hR
      wp_walk
      exact⟨rfl,rfl,_,_,_,_,hrest,hvi',hwi',by omega,hR⟩
     |false=>
      rw[if_neg (fun q=>absurd (hiff.mpr q) Ei)]at hR
      have hri:=vy A.in1 ⟨hp,g,d,tk,os⟩ a t c u prog w
      wp_walk using hri
      exact⟨_,rfl,by simpa using hR⟩
  case fin=>
   rintro⟨b1,b2⟩ s' ⟨hb',rfl,vs,ws,ns',ms',hz,hvi,hwi,hlen,hR⟩
   simp only at hb'
   subst hb'
   have hv:lexLe ns' ms'=decide (items.size<=items2.size):=by
    cases hvi with
    |nil=>
     cases hwi with
     |nil=>
      simp only[Ft]at hlen
      rw[kT]
      exact(decide_eq_true (by omega)).symm
     |cons c u hw=>
      simp only[Ft,EA]at hlen
      rw[jU]
      exact(decide_eq_true (by omega)).symm
    |cons a t hv=>
     cases hwi with
     |nil=>
      simp only[Ft,EA]at hlen
      rw[ji]
      exact(decide_eq_false (by omega)).symm
     |cons c u hw=>
      rw[Gk]at hz
      cases hz
   rw[hv]at hR
   wp_walk
   exact⟨_,rfl,by simpa[Builtin.Tuple.tupleCompareSizes]using hR⟩
  case h=>
   exact⟨rfl,rfl,items.toList,items2.toList,ns,ms,rfl,hi,hj,by omega,h⟩
end
section
variable{prog:Ee}{w:EB}{A:EE}{E:D4->D6->Prop}{s:D6}
theorem pK{l b:Addr}{items items2:Array D4}{ns ms:List Int}{Q:D4->D6->Prop}(hl:IsTup s.heap l items)(hb:IsTup s.heap b items2)(hi:FD items.toList ns)(hj:FD items2.toList ms) (hu:A.units<F0) (h:Q (.bool (lexLe ns ms)) s):E7 (Ef prog w) A (EK .LtE (.ref l) (.ref b)) Q E s:=by obtain⟨⟨cls,dd,data,sl⟩,ho,hc,n,hd⟩:=id hl;obtain⟨⟨cls2,dd2,data2,sl2⟩,ho2,hc2,n2,hd2⟩:=id hb;simp only at hc hd hc2 hd2;subst hc hd hc2 hd2;exact richCompare_meets_room (op:=.LtE) ⟨_,ho,rfl⟩ ⟨_,ho2,rfl⟩ PySem.F.slot_tuple_le PySem.F.entry_tuple_le (PySem.F.args_tuple_le_2 _ _) (kP l b items items2 n n2 dd dd2 sl sl2 ns ms hi hj) ⟨ho,ho2,show Value.bool (lexLe ns ms)≠Value.notImplemented/\Q (.bool (lexLe ns ms)) s from⟨(fun x=>nomatch x),h⟩⟩ hu
end
def bz:List Int->List Int->Bool
 |[],[]=>false
 |[],_::_=>false
 |_::_,[]=>true
 |x::xs,y::ys=>if x=y then bz xs ys else decide (y<x)
theorem qk(x y:Int)(xs ys:List Int):bz (x::xs) (y::ys)=if x=y then bz xs ys else decide (y<x):=rfl
theorem kR:bz [] []=false:=rfl
theorem jq(y:Int)(ys:List Int):bz [] (y::ys)=false:=rfl
theorem j3(x:Int)(xs:List Int):bz (x::xs) []=true:=rfl
theorem vz(A:EE)(s:D6)(a:Int)(t:Tok)(c:Int)(u:Tok)(prog:Ee)(w:EB)(E:D4->D6->Prop)(Q:D4->D6->Prop)(h:Q (.bool (decide (c<a))) s) : E7 (Ef prog w) A (richCompare .Gt (.int a t) (.int c u)) Q E s:=(PyProof.Rows.gt_int h:E7 (Ef prog w) A (EK .Gt (.int a t) (.int c u)) Q E s)
section
open PySem.SeqAt
open PySem.AutoSeq1 (wpAny_loadPart')
open PySem.MeetsSeq PySem.MeetsSeq2 PySem.MeetsSeq3
theorem k5(l b:Addr)(items items2:Array D4)(n n2:Nat)(dd dd2:Option Addr)(sl sl2:Array (Option D4))(ns ms:List Int)(hi:FD items.toList ns)(hj:FD items2.toList ms) :
 Meets (GP.«tuple.__gt__» ⟨[.ref l,.ref b],[]⟩)
  (fun _ R s=>s.heap.get? l=some { cls:=.type "tuple",dict:=dd,data:=.seq items n,slots:=sl }/\s.heap.get? b=some { cls:=.type "tuple",dict:=dd2,data:=.seq items2 n2,slots:=sl2 }/\
   R (.ok (.ret (.bool (bz ns ms)))) s):=
 .of_wp fun prog w A R s h=>by
  obtain⟨hp,g,d,tk,os⟩:=s;obtain⟨hl,hb,h⟩:=h
  have f2:=AutoSeq1.sub_tuple_tuple
  have z1:items.size=ns.length:=by rw[<-hi.length];simp
  have z2:items2.size=ms.length:=by rw[<-hj.length];simp
  wp_walk using Fg hl,Fg hb,wpAny_forIn_list _ (fun rest b s'=>b.1=none/\s'=⟨hp,g,d,tk,os⟩/\∃(vs ws:List D4) (ns' ms':List Int),rest=vs.zip ws/\
   FD vs ns'/\FD ws ms'/\ns'.length+items2.size=ms'.length+items.size/\R (.ok (.ret (.bool (bz ns' ms')))) ⟨hp,g,d,tk,os⟩) _
  case turn=>
   rintro⟨y,x⟩ rest b s' ⟨hb',rfl,vs,ws,ns',ms',hz,hvi,hwi,hlen,hR⟩
   cases hvi with
   |nil=>rw[List.zip_nil_left]at hz;cases hz
   |cons a t hvi'=>
    cases hwi with
    |nil=>rw[List.zip_nil_right]at hz;cases hz
    |cons c u hwi'=>
     rw[Gk]at hz
     injection hz with hyx hrest
     injection hyx with hy hx
     subst hy hx
     rw[qk]at hR
     simp only[EA]at hlen
     obtain⟨e,he,hiff⟩:=kI A.in1 ⟨hp,g,d,tk,os⟩ a t c u
     refine cc (he prog w _ _ ?_)
     cases e with
     |true=>
      rw[if_pos (hiff.mp rfl)]at hR
      wp_walk
      exact⟨rfl,rfl,_,_,_,_,hrest,hvi',hwi',by omega,hR⟩
     |false=>
      rw[if_neg (fun q=>absurd (hiff.mpr q) Ei)]at hR
      have hri:=vz A.in1 ⟨hp,g,d,tk,os⟩ a t c u prog w
      wp_walk using hri
      exact⟨_,rfl,by simpa using hR⟩
  case fin=>
   rintro⟨b1,b2⟩ s' ⟨hb',rfl,vs,ws,ns',ms',hz,hvi,hwi,hlen,hR⟩
   simp only at hb'
   subst hb'
   have hv:bz ns' ms'=decide (items.size>items2.size):=by
    cases hvi with
    |nil=>
     cases hwi with
     |nil=>
      simp only[Ft]at hlen
      rw[kR]
      exact(decide_eq_false (by omega)).symm
     |cons c u hw=>
      simp only[Ft,EA]at hlen
      rw[jq]
      exact(decide_eq_false (by omega)).symm
    |cons a t hv=>
     cases hwi with
     |nil=>
      simp only[Ft,EA]at hlen
      rw[j3]
      exact(decide_eq_true (by omega)).symm
     |cons c u hw=>
      rw[Gk]at hz
      cases hz
   rw[hv]at hR
   wp_walk
   exact⟨_,rfl,by simpa[Builtin.Tuple.tupleCompareSizes]using hR⟩
  case h=>
   exact⟨rfl,rfl,items.toList,items2.toList,ns,ms,rfl,hi,hj,by omega,h⟩
end
section
variable{prog:Ee}{w:EB}{A:EE}{E:D4->D6->Prop}{s:D6}
theorem jw{l b:Addr}{items items2:Array D4}{ns ms:List Int}{Q:D4->D6->Prop}(hl:IsTup s.heap l items)(hb:IsTup s.heap b items2)(hi:FD items.toList ns)(hj:FD items2.toList ms) (hu:A.units<F0) (h:Q (.bool (bz ns ms)) s):E7 (Ef prog w) A (EK .Gt (.ref l) (.ref b)) Q E s:=by obtain⟨⟨cls,dd,data,sl⟩,ho,hc,n,hd⟩:=id hl;obtain⟨⟨cls2,dd2,data2,sl2⟩,ho2,hc2,n2,hd2⟩:=id hb;simp only at hc hd hc2 hd2;subst hc hd hc2 hd2;exact richCompare_meets_room (op:=.Gt) ⟨_,ho,rfl⟩ ⟨_,ho2,rfl⟩ PySem.F.slot_tuple_gt PySem.F.entry_tuple_gt (PySem.F.args_tuple_gt_2 _ _) (k5 l b items items2 n n2 dd dd2 sl sl2 ns ms hi hj) ⟨ho,ho2,show Value.bool (bz ns ms)≠Value.notImplemented/\Q (.bool (bz ns ms)) s from⟨(fun x=>nomatch x),h⟩⟩ hu
end
end HT
namespace SD
open PySem PySem.Spec PyProof.Rows L2
section
variable{X:Cx}
theorem dA{K:D5}{H:Hp}:∀{ns:List Int} {xs:List V},ax K H (ns.map D.int) xs->xs=ns.map V.int
 |[],xs,h=>by rw[EX,ax]at h;exact h
 |n::ns,xs,h=>by
  rw[D7,ax]at h
  obtain⟨x,r,rfl,h1,h2⟩:=h
  rw[Rep]at h1
  rw[h1,dA h2];rfl
theorem AK(hu:X.A.units<F0):OpR X (EK .LtE) (fun x y H Q=>∃a b ns ms,x=.ref a/\y=.ref b/\SqT X.K H a (ns.map V.int)/\SqT X.K H b (ms.map V.int)/\Q (.bl (HT.lexLe ns ms)) H):=by intro pins s σ H x y v u Q I rx ry h;obtain⟨a,b,ns,ms,rfl,rfl,ha,hb,q⟩:=h;cases rx;cases ry;obtain⟨its,r1,p1,_⟩:=I.tuple ha;obtain⟨its2,r2,p2,_⟩:=I.tuple hb;exact HT.pK p1 p2 (intsAre_of r1) (intsAre_of r2) hu ⟨.bl (HT.lexLe ns ms),H,I,rfl,q⟩
theorem Bb(hu:X.A.units<F0):OpR X (EK .Gt) (fun x y H Q=>∃a b ns ms,x=.ref a/\y=.ref b/\SqT X.K H a (ns.map V.int)/\SqT X.K H b (ms.map V.int)/\Q (.bl (HT.bz ns ms)) H):=by intro pins s σ H x y v u Q I rx ry h;obtain⟨a,b,ns,ms,rfl,rfl,ha,hb,q⟩:=h;cases rx;cases ry;obtain⟨its,r1,p1,_⟩:=I.tuple ha;obtain⟨its2,r2,p2,_⟩:=I.tuple hb;exact HT.jw p1 p2 (intsAre_of r1) (intsAre_of r2) hu ⟨.bl (HT.bz ns ms),H,I,rfl,q⟩
def om(f:Int->Int->Bool)(g:List Int->List Int->Bool):R2D:=fun x y M Q=>match x,y with
 |.int i,.int j=>True/\Q (.bl (f i j)) M
 |.tup a,.tup b=>∃ns ms,a=FA D.int ns/\b=FA D.int ms/\Q (.bl (g ns ms)) M
 |_,_=>False
theorem tG{op:CmpOp}{f:Int->Int->Bool}{g:List Int->List Int->Bool}(h1:OpD X (EK op) (rI2 (fun _ _=>True) fun i j=>.bl (f i j))) (h2:OpR X (EK op) (fun x y H Q=>∃a b ns ms,x=.ref a/\y=.ref b/\SqT X.K H a (ns.map V.int)/\SqT X.K H b (ms.map V.int)/\Q (.bl (g ns ms)) H)):OpD X (EK op) (om f g):=by
 refine fU (h1.or h2) fun v u H Q zz1_0=>?_;obtain⟨x,y,M,R,r1,r2,a,q,fin⟩:=zz1_0;unfold om at q;split at q
 ·exact .inl ⟨_,_,M,R,r1,r2,a,q,fin⟩
 ·obtain⟨ns,ms,rfl,rfl,q⟩:=q;rw[Rep]at r1;obtain⟨p,xs,rfl,hx,rx⟩:=r1;obtain⟨p',ys,rfl,hy,ry⟩:∃a xs,u=V.ref a/\SqT X.K H a xs/\ax X.K H (FA D.int ms) xs:=by rw[Rep]at r2;exact r2
  rw[dA rx]at hx;rw[dA ry]at hy;exact .inr ⟨p,p',ns,ms,rfl,rfl,hx,hy,fin _ _ _ _ .refl (by rw[Rep]) a q⟩
 ·exact q.elim
theorem cO(hu:X.A.units+64<F0):OpD X (EK .Lt) (om (fun i j=>decide (i<j)) HT.lexLt):=tG Ct (ze (by omega))
theorem uH(hu:X.A.units+64<F0):OpD X (EK .LtE) (om (fun i j=>decide (i<=j)) HT.lexLe):=tG BP (AK (by omega))
theorem kB(hu:X.A.units+64<F0):OpD X (EK .Gt) (om (fun i j=>decide (j<i)) HT.bz):=tG BQ (Bb (by omega))
theorem sQ(hc:X.calm=true)(hu:X.A.units+64<F0):bM X (.builtin "max") (fun xs H Q=>∃p q ns ms,xs=[.ref p,.ref q]/\SqT X.K H p (ns.map V.int)/\SqT X.K H q (ms.map V.int)/\Q (if HT.bz ms ns=true then .ref q else .ref p) H):=by
 intro pins s σ H xs us Q I r z0;obtain⟨p,q,ns,ms,e,hp,hq,k⟩:=z0;subst e;obtain⟨u,v,rfl,ru,rv⟩:=vals2 r;cases ru;cases rv;obtain⟨its,r1,p1,_⟩:=I.tuple hp;obtain⟨its2,r2,p2,_⟩:=I.tuple hq;refine max_two (c:=HT.bz ms ns) (I.ok.hd hc) (fun t Q' E' kt q'=>?_) fun h' tk kt=>⟨_,H,I.kept kt,?_,k⟩
 ·obtain⟨o1,a1,b1⟩:=p1;obtain⟨o2,a2,b2⟩:=p2;exact HT.jw (A:=X.A.in1) (s:=t) ⟨o2,kt _ _ a2,b2⟩ ⟨o1,kt _ _ a1,b1⟩ (intsAre_of r2) (intsAre_of r1) (by show X.A.units+1<F0;omega) q'
 ·cases HT.bz ms ns<;>rfl
theorem se(hc:X.calm=true)(hu:X.A.units+64<F0):bM X (.builtin "min") (fun xs H Q=>∃p q ns ms,xs=[.ref p,.ref q]/\SqT X.K H p (ns.map V.int)/\SqT X.K H q (ms.map V.int)/\Q (if HT.lexLt ms ns=true then .ref q else .ref p) H):=by
 intro pins s σ H xs us Q I r z0;obtain⟨p,q,ns,ms,e,hp,hq,k⟩:=z0;subst e;obtain⟨u,v,rfl,ru,rv⟩:=vals2 r;cases ru;cases rv;obtain⟨its,r1,p1,_⟩:=I.tuple hp;obtain⟨its2,r2,p2,_⟩:=I.tuple hq;refine min_two (c:=HT.lexLt ms ns) (I.ok.hd hc) (fun t Q' E' kt q'=>?_) fun h' tk kt=>⟨_,H,I.kept kt,?_,k⟩
 ·obtain⟨o1,a1,b1⟩:=p1;obtain⟨o2,a2,b2⟩:=p2;exact HT.kr (A:=X.A.in1) (s:=t) ⟨o2,kt _ _ a2,b2⟩ ⟨o1,kt _ _ a1,b1⟩ (intsAre_of r2) (intsAre_of r1) (by show X.A.units+1<F0;omega) q'
 ·cases HT.lexLt ms ns<;>rfl
def yr:RC:=fun ds M Q=>match ds with
 |[.int i,.int j]=>Q (.int (max i j)) M
 |[.tup a,.tup b]=>∃ns ms,a=FA D.int ns/\b=FA D.int ms/\Q (.tup (FA D.int (if HT.bz ms ns=true then ms else ns))) M
 |_=>False
def yz:RC:=fun ds M Q=>match ds with
 |[.int i,.int j]=>Q (.int (min i j)) M
 |[.tup a,.tup b]=>∃ns ms,a=FA D.int ns/\b=FA D.int ms/\Q (.tup (FA D.int (if HT.lexLt ms ns=true then ms else ns))) M
 |_=>False
theorem ml(hc:X.calm=true)(hu:X.A.units+64<F0):cP X (.builtin "max") yr:=bJ (bM.or (Be hc) (sQ hc hu)) fun vs H Q z9=>by
 obtain⟨ds,M,R,rs,a,q,fin⟩:=z9;unfold yr at q;split at q
 ·exact .inl ⟨_,M,R,rs,a,q,fin⟩
 ·obtain⟨ns,ms,rfl,rfl,q⟩:=q;obtain⟨v,u,rfl,r1,r2⟩:=dt rs;rw[Rep]at r1;obtain⟨p,xs,rfl,hx,rx⟩:=r1;obtain⟨p',ys,rfl,hy,ry⟩:∃a xs,u=V.ref a/\SqT X.K H a xs/\ax X.K H (FA D.int ms) xs:=by rw[Rep]at r2;exact r2
  have hx':=hx;have hy':=hy;rw[dA rx]at hx';rw[dA ry]at hy';refine .inr ⟨p,p',ns,ms,rfl,hx',hy',fin _ _ _ _ .refl ?_ a q⟩;by_cases z:HT.bz ms ns=true
  ·rw[if_pos z,if_pos z,Rep];exact⟨_,_,rfl,hy,ry⟩
  ·rw[if_neg z,if_neg z,Rep];exact⟨_,_,rfl,hx,rx⟩
 ·exact q.elim
theorem mK(hc:X.calm=true)(hu:X.A.units+64<F0):cP X (.builtin "min") yz:=bJ (bM.or (AR hc) (se hc hu)) fun vs H Q z9=>by
 obtain⟨ds,M,R,rs,a,q,fin⟩:=z9;unfold yz at q;split at q
 ·exact .inl ⟨_,M,R,rs,a,q,fin⟩
 ·obtain⟨ns,ms,rfl,rfl,q⟩:=q;obtain⟨v,u,rfl,r1,r2⟩:=dt rs;rw[Rep]at r1;obtain⟨p,xs,rfl,hx,rx⟩:=r1;obtain⟨p',ys,rfl,hy,ry⟩:∃a xs,u=V.ref a/\SqT X.K H a xs/\ax X.K H (FA D.int ms) xs:=by rw[Rep]at r2;exact r2
  have hx':=hx;have hy':=hy;rw[dA rx]at hx';rw[dA ry]at hy';refine .inr ⟨p,p',ns,ms,rfl,hx',hy',fin _ _ _ _ .refl ?_ a q⟩;by_cases z:HT.lexLt ms ns=true
  ·rw[if_pos z,if_pos z,Rep];exact⟨_,_,rfl,hy,ry⟩
  ·rw[if_neg z,if_neg z,Rep];exact⟨_,_,rfl,hx,rx⟩
 ·exact q.elim
end
end SD
namespace Ma
open SD
theorem yj{p z:Int}(h:0<p):0<p*z↔0<z:=by
 constructor
 ·intro q;by_cases hz:0<z
  ·exact hz
  ·have:p*z<=0:=Int.mul_nonpos_of_nonneg_of_nonpos (by omega) (by omega);omega
 ·exact fun q=>Ez h q
theorem rT{a b c d:Int}(hb:0<b)(hd:0<d):Rat.divInt a b<Rat.divInt c d↔a*d<c*b:=by
 have e:=Rat.divInt_sub_divInt c a (d₁:=d) (d₂:=b) (by omega) (by omega);have h1:Rat.divInt a b<Rat.divInt c d↔0<Rat.divInt c d-Rat.divInt a b:=by constructor<;>intro z<;>grind
 rw[h1,e,jn (Ez hd hb)];omega
def ut(t b X m x:Int):Rat:=Rat.divInt (x*t+X*m) (b*m)
theorem qW{t b X m n x y:Int}(ht:0<t)(hb:0<b)(hm:0<m)(hn:0<n):ut t b X m x<ut t b X n y↔n*x<m*y:=by
 unfold ut;rw[rT (Ez hb hm) (Ez hb hn)];have e:(y*t+X*n)*(b*m)-(x*t+X*m)*(b*n)=(b*t)*(m*y-n*x):=by grind
 have:=yj (z:=m*y-n*x) (Ez hb ht);omega
theorem iF{t b X m n x y:Int}(ht:0<t)(hb:0<b)(hm:0<m)(hn:0<n):ut t b X m x=ut t b X n y↔n*x=m*y:=by
 have h1:=qW (X:=X) (x:=x) (y:=y) ht hb hm hn;have h2:=qW (X:=X) (x:=y) (y:=x) ht hb hn hm;constructor
 ·intro e;have a:¬ut t b X m x<ut t b X n y:=by rw[e];exact Rat.lt_irrefl
  have c:¬ut t b X n y<ut t b X m x:=by rw[e];exact Rat.lt_irrefl
  rw[h1]at a;rw[h2]at c;omega
 ·intro e;have a:¬ut t b X m x<ut t b X n y:=by rw[h1];omega
  have c:¬ut t b X n y<ut t b X m x:=by rw[h2];omega
  grind
theorem ub{t b X x:Int}:Rat.divInt (x*t+X) b=ut t b X 1 x:=by unfold ut;rw[Int.mul_one,Int.mul_one]
theorem yt{t b X Y m n x y u v:Int}(ht:0<t)(hb:0<b)(hm:0<m)(hn:0<n) : ah (ut t b X m x) (ut t b Y m y) (ut t b X n u) (ut t b Y n v)↔HT.lexLt [n*x,n*y] [m*u,m*v]=true:=by
 unfold ah;rw[qW ht hb hm hn,iF ht hb hm hn,qW ht hb hm hn];simp only[HT.lexLt];by_cases h:n*x=m*u
 ·rw[if_pos h];by_cases h2:n*y=m*v
  ·rw[if_pos h2];simp;omega
  ·rw[if_neg h2];simp;omega
 ·rw[if_neg h];simp;omega
theorem sD(a b c d:Int):HT.lexLe [a,b] [c,d]=!HT.lexLt [c,d] [a,b]:=by
 simp only[HT.lexLe,HT.lexLt];by_cases h:a=c
 ·subst h;rw[if_pos rfl,if_pos rfl];by_cases h2:b=d
  ·subst h2;rw[if_pos rfl,if_pos rfl];rfl
  ·rw[if_neg h2,if_neg (fun e=>h2 e.symm)];rw[<-decide_not,decide_eq_decide];omega
 ·rw[if_neg h,if_neg (fun e=>h e.symm),<-decide_not,decide_eq_decide];omega
theorem sR(a b c d:Int):HT.bz [a,b] [c,d]=HT.lexLt [c,d] [a,b]:=by
 simp only[HT.bz,HT.lexLt];by_cases h:a=c
 ·subst h;rw[if_pos rfl,if_pos rfl];by_cases h2:b=d
  ·subst h2;simp
  ·rw[if_neg h2,if_neg (fun e=>h2 e.symm)]
 ·rw[if_neg h,if_neg (fun e=>h e.symm)]
theorem ib{a b c d:Int}:HT.lexLt [a,b] [c,d]=true↔a<c\/(a=c/\b<d):=by
 simp only[HT.lexLt];by_cases h:a=c
 ·subst h;rw[if_pos rfl];by_cases h2:b=d
  ·subst h2;rw[if_pos rfl];simp
  ·rw[if_neg h2];simp
 ·rw[if_neg h];simp;omega
end Ma
namespace SD
open PySem PySem.Spec PyProof.Rows L2
theorem au{M:MH}{a p:PySem.Addr}{o:MO}(h:M a=some o)(hp:M p=none):a≠p:=fun e=>by subst e;rw[h]at hp;cases hp
def scl(t b x y:Int):D:=.tup [.int t,.int b,.int x,.int y]
structure Scl(t b x y:Int):Prop where
 t0:0<t
 t1:t<=10^24
 b0:0<b
 b1:b<=10^26
 x0:-(10^30)<=x
 x1:x<=10^30
 y0:-(10^30)<=y
 y1:y<=10^30
def uw(w:Int×Int×Int×Int):D:=.tup [.tup [.int w.1,.int w.2.1],.tup [.int w.2.2.1,.int w.2.2.2]]
def rwl(t b x y:Int)(w:Int×Int×Int×Int):D:=Ma.wll (Ma.ut t b x 1 w.1) (Ma.ut t b y 1 w.2.1) (Ma.ut t b x 1 w.2.2.1) (Ma.ut t b y 1 w.2.2.2)
def Uok(n:Int)(w:Int×Int×Int×Int):Prop:=(-n<=w.1/\w.1<=n)/\(-n<=w.2.1/\w.2.1<=n)/\(-n<=w.2.2.1/\w.2.2.1<=n)/\(-n<=w.2.2.2/\w.2.2.2<=n)
def uby(m:Int)(w:Int×Int×Int×Int):Int×Int×Int×Int:=(m*w.1,m*w.2.1,m*w.2.2.1,m*w.2.2.2)
theorem range_getD(l:List D):(E5 l.length).map (fun i=>(l[i]?).getD .non)=l:=by refine List.ext_getElem (by simp) fun i h1 h2=>?_;simp[h2]
theorem getD_map{α:Type}{f:α->D}{l:List α}{i:Nat}{a:α}(h:l[i]?=some a):((l.map f)[i]?).getD .non=f a:=by rw[E4,h];rfl
theorem yQ{t b x m p:Int}(ht:0<t/\t<=10^24)(hb:0<b/\b<=10^26)(hx:-(10^30)<=x/\x<=10^30)(hm:0<m/\m<=10^6)(hp:-(10^6)<=p/\p<=10^6):Ma.Bq 200 (Ma.ut t b x m p):=by
 have bt:Bd 80 t:=by show t.natAbs<2^80;omega
 have bm:Bd 64 m:=by show m.natAbs<2^64;omega
 have bp:Bd 64 p:=by show p.natAbs<2^64;omega
 have bb:Bd 90 b:=by show b.natAbs<2^90;omega
 have bx:Bd 100 x:=by show x.natAbs<2^100;omega
 refine Ma.Bq.divInt (by have:=Ez hb.1 hm.1;omega) ?_ ((bb.mul bm).mono (by decide));exact(((bp.mul bt).mono (by decide:64+80<=164)).add (bx.mul bm)).mono (by decide)
theorem Scl.bx{t b x y m p:Int}(S:Scl t b x y)(hm:0<m/\m<=10^6)(hp:-(10^6)<=p/\p<=10^6):Ma.Bq 200 (Ma.ut t b x m p):=yQ ⟨S.t0,S.t1⟩ ⟨S.b0,S.b1⟩ ⟨S.x0,S.x1⟩ hm hp
theorem Scl.by'{t b x y m p:Int}(S:Scl t b x y)(hm:0<m/\m<=10^6)(hp:-(10^6)<=p/\p<=10^6):Ma.Bq 200 (Ma.ut t b y m p):=yQ ⟨S.t0,S.t1⟩ ⟨S.b0,S.b1⟩ ⟨S.y0,S.y1⟩ hm hp
theorem lX(a b c d:Int):EH (.tuple [.int a,.int b]) (.tuple [.int c,.int d])=decide (a=c/\b=d):=by simp only[EH,Fj,ja,Bool.and_true,Bool.decide_and]
section
variable{X:Cx}
end
open PySem PySem.Spec PyProof.Rows L2 Ma
instance(a b c d:Rat):Decidable (Ma.ah a b c d):=inferInstanceAs (Decidable (_\/_))
def crs(a b c d:Int):Int:=a*d-b*c
theorem Bp{t b X m x:Int}(hb:0<b)(hm:0<m):Ma.ut t b X m x=((t:Rat)/b)*((x:Rat)/m)+(X:Rat)/b:=by
 unfold Ma.ut;rw[Rat.divInt_eq_div];have h1:(b:Rat)≠0:=by have:=Ma.pos_int hb;grind
 have h2:(m:Rat)≠0:=by have:=Ma.pos_int hm;grind
 rw[Rat.intCast_add,Fh,Fh,Fh];grind
theorem cK{t b X x:Int}(hb:0<b):Ma.ut t b X 1 x=((t:Rat)/b)*(x:Rat)+(X:Rat)/b:=by rw[Bp hb (by decide)];have:((1:Int):Rat)=1:=rfl;rw[this];grind
theorem zU(k x y p q r s e f:Rat):Ma.cr (k*p+x) (k*q+y) (k*r+x) (k*s+y) (k*e+x) (k*f+y)=k*k*((r-p)*(f-q)-(s-q)*(e-p)):=by unfold Ma.cr;grind
theorem Cp{t b X Y p q r s e f:Int}(hb:0<b):Ma.cr (Ma.ut t b X 1 p) (Ma.ut t b Y 1 q) (Ma.ut t b X 1 r) (Ma.ut t b Y 1 s) (Ma.ut t b X 1 e) (Ma.ut t b Y 1 f)=((t:Rat)/b)*((t:Rat)/b)*((crs (r-p) (s-q) (e-p) (f-q):Int):Rat):=by rw[cK hb,cK hb,cK hb,cK hb,cK hb,cK hb,zU];unfold crs;rw[Gu,Fh,Fh,Gu,Gu,Gu,Gu]
theorem sgn_mul{k:Rat}(hk:0<k)(z:Int):Ma.sgn (k*(z:Rat))=En z:=by
 unfold Ma.sgn;by_cases h1:0<z
 ·rw[if_pos (Rat.mul_pos hk (Ma.pos_int h1)),EF h1]
 ·by_cases h2:z<0
  ·have h3:0<k*((-z:Int):Rat):=Rat.mul_pos hk (Ma.pos_int (by omega));rw[Rat.intCast_neg]at h3;rw[if_neg (by grind),if_pos (by grind),Ew h2]
  ·obtain rfl:z=0:=by omega
   have:((0:Int):Rat)=0:=rfl;rw[this];simp
theorem BA{t b X Y p q e f:Int}(ht:0<t)(hb:0<b):Ma.ah (Ma.ut t b X 1 p) (Ma.ut t b Y 1 q) (Ma.ut t b X 1 e) (Ma.ut t b Y 1 f)↔(p<e\/(p=e/\q<f)):=by rw[Ma.yt ht hb (by decide) (by decide),Ma.ib];omega
end SD
namespace HT
open PySem PyProof.Rows
section
open PySem.SeqAt
open PySem.AutoSeq1 (wpAny_loadPart')
open PySem.MeetsSeq PySem.MeetsSeq2 PySem.MeetsSeq3
end
section
variable{prog:Ee}{w:EB}{A:EE}{E:D4->D6->Prop}{s:D6}
end
end HT
namespace SD
open PySem PySem.Spec PyProof.Rows L2
section
variable{X:Cx}
def Cc(g:Bool->Bool):R2D:=fun x y M Q=>∃p ps,Pd M x p/\(Pd M y (.list ps)\/Pd M y (.tuple ps))/\FQ p=true/\Fo ps=true/\Q (.bl (g (ps.any fun q=>EH q p))) M
theorem pR{p:FT}{n:Nat}(h:FQ p=true):min n p.depth<=63+1:=ER (Nat.min_le_right _ _) (SeqAt.depth_of_shaped h)
theorem jh(hu:X.A.units+66<F0):OpD X (EK .NotIn) (Cc fun b=>!b):=by
 intro pins s σ H v u v' u' Q I rv ru h;obtain⟨x,y,M,R,r1,r2,a,⟨p,ps,p1,p2,s1,s2,hq⟩,fin⟩:=h;obtain⟨as,q1⟩:=bU I a p1 r1 rv;have hm:=pR (n:=Fi ps) s1;rcases p2 with p2|p2
 ·obtain⟨bs,q2⟩:=bU I a p2 r2 ru;exact SeqAt.notIn_list_reads q2 q1 s2 (SeqAt.canLay_of_shaped s1) (by omega) ⟨.bl _,H,I,rfl,fin _ _ _ _ .refl (by rw[Rep]) a hq⟩
 ·obtain⟨bs,q2⟩:=bU I a p2 r2 ru;exact SeqAt.notIn_tuple_reads q2 q1 s2 (SeqAt.canLay_of_shaped s1) (by omega) ⟨.bl _,H,I,rfl,fin _ _ _ _ .refl (by rw[Rep]) a hq⟩
def CU(to:TD)(t:TAD):TD:=fun δ M Q=>to δ M fun x M1=>∃l ys,x=.ref l/\M1 l=some (.lst ys)/\t δ M1 fun ds M2=>∃xs d,ds=[d]/\M2 l=some (.lst xs)/\xs.length<1000000/\Q .non (aq M2 l (.lst (xs++[d])))
variable{o e:Expr}{to:TD}{t:TAD}{apos cpos:Pos}
theorem aQ(ho:DE X o to)(ha:DA X [e] t)
 (hbase:FH o "append" X.env (eval o X.env)=eval o X.env:=by rfl)
 (hfew:((Fn cpos (Eb [e] X.env)).all (fun x=>!x.1)&&(backToKw cpos (FR [] X.env)).all (fun x=>x.1.isSome)
  && decide ([e].length+([]:List Gp).length+(if([]:List Gp).isEmpty then 0 else 1)<30))=true:=by rfl)
 (hline:(apos.endLine==cpos.line)=true:=by rfl) (hs:Eb [e] X.env=(false,eval e X.env)::Eb [] X.env:=by rfl) (hplain:(Fn cpos (Eb [] X.env)).any (·.1)=false:=by rfl) :
 DE X (.Call (.Attribute o "append" apos) [e] [] cpos) (CU to t):=
 aO (yP PySem.F.plainAttrs_list PySem.F.slot_list_append PySem.F.type_list_append gJ ho ha hbase hfew hline hs hplain) fun σ H Q z9=>by
  obtain⟨δ,M,R,hsl,hM,q,fin⟩:=z9
  refine⟨δ,M,_,hsl,hM,q,fun x M1 v H1 g1 r1 a1 zz1_0=>?_⟩
  obtain⟨l,ys,ex,hl,q1⟩:=zz1_0
  subst ex
  rw[Rep]at r1
  subst r1
  obtain⟨vs,hvs,_⟩:=a1 _ _ hl
  refine⟨.inl ⟨rfl,vs,SqL.of hvs⟩,δ,M1,_,hsl.mono g1,a1,q1,fun ds M2 us H2 g2 r2 a2 zz2_0=>?_⟩
  obtain⟨xs,d,ed,hx,hn,q2⟩:=zz2_0
  subst ed
  obtain⟨u,rfl,ru⟩:=bN r2
  obtain⟨ws,hws,rws⟩:=a2 _ _ hx
  have hlen:=rws.length
  refine⟨l,ws,u,rfl,rfl,hws,Em (by omega) (show 1000000<=Ea from nbL rfl),?_⟩
  exact fin _ _ _ _ (g1.trans (g2.trans (.lst hws))) (by rw[Rep]) (a2.pE hws (rws.append (.cons ru .nil))) q2
end
theorem iQ{k:Nat}{A:EE}(r:Room k A):A.units+66<F0:=by have:=r.un;omega
abbrev Wl:=Int×Int×Int×Int
def la(x y:Int):Int:=100*x+y
def l1(w:Wl):Int:=la w.1 w.2.1
def l2(w:Wl):Int:=la w.2.2.1 w.2.2.2
def sd(w:Wl)(x y:Int):Int:=crs (w.2.2.1-w.1) (w.2.2.2-w.2.1) (x-w.1) (y-w.2.1)
def sd1(w v:Wl):Int:=sd w v.1 v.2.1
def sd2(w v:Wl):Int:=sd w v.2.2.1 v.2.2.2
structure Un5(w:Wl):Prop where
 a:0<=w.1/\w.1<=20
 b:0<=w.2.1/\w.2.1<=20
 c:0<=w.2.2.1/\w.2.2.1<=20
 d:0<=w.2.2.2/\w.2.2.2<=20
 lt:l1 w<l2 w
def aN(w:Wl)(l s:Int):Prop:=l=l1 w\/l=l2 w\/l<l1 w\/l2 w<l\/s≠0
structure Fair(U V:Wl):Prop where
 ne:¬(l1 U=l1 V/\l2 U=l2 V)
 e1:aN U (l1 V) (sd1 U V)
 e2:aN U (l2 V) (sd2 U V)
 e3:aN V (l1 U) (sd1 V U)
 e4:aN V (l2 U) (sd2 V U)
 pr:0<=En (sd1 U V)*En (sd2 U V)\/0<=En (sd1 V U)*En (sd2 V U)
theorem Fair.swap{U V:Wl}(h:Fair U V):Fair V U:=⟨fun z=>h.ne ⟨z.1.symm,z.2.symm⟩,h.e3,h.e4,h.e1,h.e2,h.pr.symm⟩
def abv(U V:Wl):Bool:=
 if max (l1 U) (l1 V)<min (l2 U) (l2 V)then
  if l1 U=l1 V then(if l2 U<l2 V then decide (0<sd2 V U)else decide (sd2 U V<0))
  else if l1 V<l1 U then decide (0<sd1 V U)else decide (sd1 U V<0)
 else false
theorem sg1(z:Int):En z=1↔0<z:=Int.sign_eq_one_iff_pos
theorem sgm(z:Int):-En z=1↔z<0:=by
 rcases Ey z 0 with h|h|h
 ·rw[Ew h];omega
 ·subst h;simp
 ·rw[EF h];omega
theorem sgp{x y:Int}(h:0<=En x*En y):¬(0<x/\y<0)/\¬(x<0/\0<y):=by
 constructor
 ·rintro⟨a,b⟩;rw[EF a,Ew b]at h;omega
 ·rintro⟨a,b⟩;rw[Ew a,EF b]at h;omega
theorem g9{z k:Int}(hk:0<k)(h:0<z*k):0<z:=by
 rcases Ey z 0 with q|q|q
 ·have:=EC q hk;omega
 ·subst q;simp at h
 ·exact q
theorem me{z k:Int}(hk:0<k)(h:z*k<0):z<0:=by
 rcases Ey z 0 with q|q|q
 ·exact q
 ·subst q;simp at h
 ·have:=Ez q hk;omega
theorem within{a b c d u1 u2 v1 v2:Int}(I1:a*(v2-v1)=d*(u1-v1)-c*(u2-v1))(I2:b*(v2-v1)=d*(u1-v2)-c*(u2-v2))
 (h1:v1<u1) (h2:v1<u2) (h3:u1<v2) (h4:u2<v2) (F:(¬(0<c/\d<0)/\¬(c<0/\0<d))\/(¬(0<a/\b<0)/\¬(a<0/\0<b))) (c0:c≠0) (d0:d≠0):0<c↔0<d:=by
 have k:0<v2-v1:=by omega
 have A1:¬(0<c/\d<0):=fun z9=>by
  obtain⟨x,y⟩:=z9
  have p1:=EC y (show 0<u1-v1 by omega)
  have p2:=Ez x (show 0<u2-v1 by omega)
  have p3:=EN y (show u1-v2<0 by omega)
  have p4:=ED x (show u2-v2<0 by omega)
  have a1:=me (z:=a) k (by omega)
  have b1:=g9 (z:=b) k (by omega)
  omega
 have A2:¬(c<0/\0<d):=fun z9=>by
  obtain⟨x,y⟩:=z9
  have p1:=Ez y (show 0<u1-v1 by omega)
  have p2:=EC x (show 0<u2-v1 by omega)
  have p3:=ED y (show u1-v2<0 by omega)
  have p4:=EN x (show u2-v2<0 by omega)
  have a1:=g9 (z:=a) k (by omega)
  have b1:=me (z:=b) k (by omega)
  omega
 omega
theorem qF{a b c d u1 u2 v1 v2:Int}(I2:b*(v2-v1)=d*(u1-v2)-c*(u2-v2))(I3:c*(u2-u1)=b*(v1-u1)-a*(v2-u1))
 (h1:v1<u1) (h2:u1<v2) (h3:v2<u2) (F:(¬(0<c/\d<0)/\¬(c<0/\0<d))\/(¬(0<a/\b<0)/\¬(a<0/\0<b))) (c0:c≠0) (b0:b≠0):0<c↔b<0:=by
 have e:d*(u1-v2)=-(d*(v2-u1)):=by rw[<-Int.mul_neg];congr 1;omega
 have A1:¬(0<c/\0<b):=fun z9=>by
  obtain⟨x,y⟩:=z9
  have p1:=Ez y (show 0<v2-v1 by omega)
  have p2:=Ez x (show 0<u2-v2 by omega)
  have p3:=Ez x (show 0<u2-u1 by omega)
  have p4:=ED y (show v1-u1<0 by omega)
  have a1:=me (z:=a) (show 0<v2-u1 by omega) (by omega)
  have d1:=me (z:=d) (show 0<v2-u1 by omega) (by omega)
  omega
 have A2:¬(c<0/\b<0):=fun z9=>by
  obtain⟨x,y⟩:=z9
  have p1:=EC y (show 0<v2-v1 by omega)
  have p2:=EC x (show 0<u2-v2 by omega)
  have p3:=EC x (show 0<u2-u1 by omega)
  have p4:=EN y (show v1-u1<0 by omega)
  have a1:=g9 (z:=a) (show 0<v2-u1 by omega) (by omega)
  have d1:=g9 (z:=d) (show 0<v2-u1 by omega) (by omega)
  omega
 omega
theorem xf(U V:Wl):sd1 U V*(l2 V-l1 V)=sd2 V U*(l1 U-l1 V)-sd1 V U*(l2 U-l1 V):=by unfold sd1 sd2 sd l1 l2 la crs;grind
theorem wO(U V:Wl):sd2 U V*(l2 V-l1 V)=sd2 V U*(l1 U-l2 V)-sd1 V U*(l2 U-l2 V):=by unfold sd1 sd2 sd l1 l2 la crs;grind
theorem mG{x y u v:Int}(h1:0<=y/\y<=20)(h2:0<=v/\v<=20)(h:la x y=la u v):x=u/\y=v:=by unfold la at h;omega
theorem yI{U V:Wl}(hU:Un5 U)(hV:Un5 V)(h:l1 U=l1 V):sd1 U V=0:=by obtain⟨e1,e2⟩:=mG hU.b hV.b h;unfold sd1 sd crs;rw[e1,e2];simp
theorem nD{U V:Wl}(hU:Un5 U)(hV:Un5 V)(h:l2 U=l2 V):sd2 U V=0:=by obtain⟨e1,e2⟩:=mG hU.d hV.d h;unfold sd2 sd crs;rw[e1,e2];grind
theorem aN.nz{w:Wl}{l s:Int}(h:aN w l s)(h1:l1 w<l)(h2:l<l2 w):s≠0:=by
 unfold aN at h;rcases h with h|h|h|h|h
 ·omega
 ·omega
 ·omega
 ·omega
 ·exact h
theorem j7{u1 u2 v1 v2:Int}:max u1 v1<min u2 v2↔u1<u2/\u1<v2/\v1<u2/\v1<v2:=by rw[Int.max_lt,Int.lt_min,Int.lt_min,and_assoc]
section
variable{U V:Wl}(ap:max (l1 U) (l1 V)<min (l2 U) (l2 V))
include ap
theorem tJ(z:l1 U<l1 V):abv U V=decide (sd1 U V<0):=by unfold abv;rw[if_pos ap,if_neg (Int.ne_of_lt z),if_neg (Int.not_lt.mpr (F8 z))]
theorem tE(z:l1 V<l1 U):abv U V=decide (0<sd1 V U):=by unfold abv;rw[if_pos ap,if_neg (fun e=>Int.ne_of_lt z e.symm),if_pos z]
theorem vS(z:l1 U=l1 V)(y:l2 U<l2 V):abv U V=decide (0<sd2 V U):=by unfold abv;rw[if_pos ap,if_pos z,if_pos y]
theorem tu(z:l1 U=l1 V)(y:¬l2 U<l2 V):abv U V=decide (sd2 U V<0):=by unfold abv;rw[if_pos ap,if_pos z,if_neg y]
end
theorem t5{a:Int}(h:a≠0):decide (0<a)=!decide (a<0):=by rw[<-decide_not,decide_eq_decide];omega
theorem vN{a:Int}(h:a≠0):decide (a<0)=!decide (0<a):=by rw[<-decide_not,decide_eq_decide];omega
theorem vf{U V:Wl}(hU:Un5 U)(hV:Un5 V)(F:Fair U V)(ap:max (l1 U) (l1 V)<min (l2 U) (l2 V)):abv V U=!abv U V:=by
 have pa:=ap;rw[Int.max_comm,Int.min_comm]at pa;have o:=j7.mp ap;rcases Ey (l1 U) (l1 V)with h|h|h
 ·rw[tE pa h,tJ ap h,t5 (F.e1.nz h o.2.2.1)]
 ·rcases Ey (l2 U) (l2 V)with h'|h'|h'
  ·rw[tu pa h.symm (Int.not_lt.mpr (F8 h')),vS ap h h',vN (F.e4.nz o.2.2.1 h')]
  ·exact absurd ⟨h,h'⟩ F.ne
  ·rw[vS pa h.symm h',tu ap h (Int.not_lt.mpr (F8 h')),t5 (F.e2.nz o.2.1 h')]
 ·rw[tJ pa h,tE ap h,vN (F.e3.nz h o.2.1)]
theorem uX{a b c d:Int}(hb:0<=b/\b<=20)(hd:0<=d/\d<=20):HT.lexLt [a,b] [c,d]=decide (la a b<la c d):=by have h:=Ma.ib (a:=a) (b:=b) (c:=c) (d:=d);rw[Bool.eq_iff_iff,h,decide_eq_true_eq];unfold la;omega
theorem yR{a b c d:Int}(hb:0<=b/\b<=20)(hd:0<=d/\d<=20):HT.lexLe [a,b] [c,d]=decide (la a b<=la c d):=by rw[Ma.sD,uX hd hb,<-decide_not,decide_eq_decide];omega
theorem By{a b c d:Int}(hb:0<=b/\b<=20)(hd:0<=d/\d<=20):HT.bz [a,b] [c,d]=decide (la c d<la a b):=by rw[Ma.sR,uX hd hb]
theorem u5{x y u v:Int}(h1:0<=y/\y<=20)(h2:0<=v/\v<=20):(x=u/\y=v)↔la x y=la u v:=by unfold la;omega
theorem xk{I:ItD}{tk:Tgt}{js:List Nat}{tc:TTD}{te:TD}{δ:DS}{M1:MH}{Q:DK}(f:Nat->Option D)(hn:I.n<=1000000)(hC:∀p ys,M1 p=none->I.C (aq M1 p (.lst ys))) (h:∀i d M,i<I.n->I.item i=some d->Sub M1 M->∃os,vq tk d os/\(∀K:Bool->MH->Prop,K (f i).isSome M->tc (cδ os js δ) M K)/\∀e,f i=some e->∀K:DK,(∀M',Sub M M'->K e M')->te (cδ os js δ) M K) (hq:∀p,M1 p=none->Q (.ref p) (aq M1 p (.lst ((E5 I.n).filterMap f)))):vg I tk js tc te δ M1 Q:=by
 refine⟨hn,fun p hp=>⟨fun i ys M=>ys=(E5 i).filterMap f/\M=aq M1 p (.lst ys),⟨rfl,rfl⟩,?_,?_,?_⟩⟩
 ·rintro i ys M _ ⟨_,rfl⟩;exact hC p ys hp
 ·rintro i ys d M hi hd ⟨rfl,rfl⟩;obtain⟨os,ow,kt,ke⟩:=h i d _ hi hd (.new hp .refl);refine⟨os,ow,kt _ ?_⟩;cases e:f i with
  |none=>
   refine sf rfl ⟨_,.refl,?_,?_⟩
   ·rw[G0,List.filterMap_append];simp[e]
   ·rfl
  |some v=>
   refine wD rfl (ke v e _ fun M' s'=>⟨_,s',af,?_,by rw[bo]⟩)
   rw[G0,List.filterMap_append];simp[e]
 ·rintro ys M ⟨rfl,rfl⟩;exact hq p hp
theorem vI{A:Wl}{x y:Int}(hA:Un5 A)(hy:0<=y/\y<=20)(h:(!(decide (A.1=x/\A.2.1=y)||decide (A.2.2.1=x/\A.2.2.2=y))&&(decide (l1 A<=la x y)&&decide (la x y<=l2 A)&&decide (sd A x y=0)))=false):aN A (la x y) (sd A x y):=by
 unfold aN;by_cases h1:A.1=x/\A.2.1=y
 ·exact .inl ((u5 hA.b hy).mp h1).symm
 ·by_cases h2:A.2.2.1=x/\A.2.2.2=y
  ·exact .inr (.inl ((u5 hA.d hy).mp h2).symm)
  ·rw[decide_eq_false h1,decide_eq_false h2,Bool.or_false,Bool.not_false,Bool.true_and,<-Bool.decide_and,<-Bool.decide_and,decide_eq_false_iff_not]at h;by_cases h3:sd A x y=0
   ·rcases Int.lt_or_le (la x y) (l1 A)with z|z
    ·exact .inr (.inr (.inl z))
    ·rcases Int.lt_or_le (l2 A) (la x y)with z'|z'
     ·exact .inr (.inr (.inr (.inl z')))
     ·exact absurd ⟨⟨z,z'⟩,h3⟩ h
   ·exact .inr (.inr (.inr (.inr h3)))
theorem yx(z:Int):Bd 64 (En z):=by
 rcases Ey z 0 with h|h|h
 ·rw[Ew h];decide
 ·subst h;decide
 ·rw[EF h];decide
def PF(ws:List Wl):Prop:=∀(i j:Nat) (U V:Wl),i≠j->ws[i]?=some U->ws[j]?=some V->Fair U V
theorem Aq:PF []:=fun i j U V _ h=>by simp at h
theorem rV{ws:List Wl}{U:Wl}(h:PF ws)(hU:∀(j:Nat) (w:Wl),ws[j]?=some w->Fair U w):PF (ws++[U]):=by
 intro i j A B hij hA hB
 have get:∀{k:Nat} {C:Wl},(ws++[U])[k]?=some C->ws[k]?=some C\/(k=ws.length/\C=U):=fun{k C} e=>by
  rcases Nat.lt_trichotomy k ws.length with z|z|z
  ·rw[EW z]at e;exact .inl e
  ·subst z;rw[ES (E3 _)]at e;simp at e;exact .inr ⟨rfl,e.symm⟩
  ·rw[List.getElem?_eq_none (by simp;omega)]at e;cases e
 rcases get hA with a|⟨a,rfl⟩<;>rcases get hB with b|⟨b,rfl⟩
 ·exact h i j A B hij a b
 ·exact(hU _ _ a).swap
 ·exact hU _ _ b
 ·omega
theorem rQ{p q e f:Int}(hp:0<=p/\p<=20)(hq:0<=q/\q<=20)(he:0<=e/\e<=20)(hf:0<=f/\f<=20)(ne:¬(p=e/\q=f)) :
 ∃w:Wl,(if HT.lexLt [e,f] [p,q]=true then[e,f]else[p,q])=[w.1,w.2.1]/\(if HT.bz [e,f] [p,q]=true then[e,f]else[p,q])=[w.2.2.1,w.2.2.2]/\Un5 w:=by
 rw[uX hf hq,By hf hq]
 have nl:la p q≠la e f:=fun z=>ne ((u5 hq hf).mpr z)
 by_cases h:la e f<la p q
 ·exact⟨(e,f,p,q),by rw[if_pos (decide_eq_true h)],by rw[if_neg (by simp;omega)],⟨he,hf,hp,hq,h⟩⟩
 ·have h':la p q<la e f:=by omega
  exact⟨(p,q,e,f),by rw[if_neg (by simpa using h)],by rw[if_pos (decide_eq_true h')],⟨hp,hq,he,hf,h'⟩⟩
theorem md{t b X Y p q e f:Int}(ht:0<t)(hb:0<b)(hq:0<=q/\q<=20)(hf:0<=f/\f<=20):Ma.ah (Ma.ut t b X 1 p) (Ma.ut t b Y 1 q) (Ma.ut t b X 1 e) (Ma.ut t b Y 1 f)↔la p q<la e f:=by rw[BA ht hb];unfold la;omega
theorem gH{t b X Y p q e f:Int}(ht:0<t)(hb:0<b)(hq:0<=q/\q<=20)(hf:0<=f/\f<=20):(Ma.ut t b X 1 p=Ma.ut t b X 1 e/\Ma.ut t b Y 1 q=Ma.ut t b Y 1 f)↔la p q=la e f:=by rw[Ma.iF ht hb (by decide) (by decide),Ma.iF ht hb (by decide) (by decide)];unfold la;omega
theorem gO{t b X Y:Int}(ht:0<t)(hb:0<b)(w:Wl)(x y:Int):Ma.sgn (Ma.cr (Ma.ut t b X 1 w.1) (Ma.ut t b Y 1 w.2.1) (Ma.ut t b X 1 w.2.2.1) (Ma.ut t b Y 1 w.2.2.2) (Ma.ut t b X 1 x) (Ma.ut t b Y 1 y))=En (sd w x y):=by
 have k:(0:Rat)<(t:Rat)/b:=by rw[Rat.div_def];exact Rat.mul_pos (Ma.pos_int ht) (Rat.inv_pos.mpr (Ma.pos_int hb))
 rw[Cp hb,sgn_mul (Rat.mul_pos k k)];rfl
theorem Dk(z:Int):En z=-1↔z<0:=by rw[<-sgm];omega
theorem eR{M:MH}:∀ns:List Int,Pds M (ns.map D.int) (ns.map Fc)
 |[]=>.nil
 |n::ns=>.cons (.int n) (eR ns)
theorem lay_ints:∀ns:List Int,Fo (ns.map Fc)=true
 |[]=>rfl
 |n::ns=>by rw[D7,Fo,lay_ints ns];rfl
section
variable{X:Cx}
def eJ{α:Type}(xs:List α)(j:Nat)(y:α):List α:=xs.take j++y::xs.drop j
def wY:V->List V->Hp->VK->Prop:=fun x vs H Q=>∃l xs y,∃(k:Int) (j:Nat),x=.ref l/\vs=[.int k,y]/\k=(j:Int)/\H l=some (.lst xs)/\j<=xs.length/\xs.length<1000000/\Q .non (upd H l (.lst (eJ xs j y)))
theorem wK(its:List D4)(k:Int)(j:Nat)(u:D4)(hk:k=(j:Int))(hj:j<=its.length) :
 (its.toArray.extract 0 (if k<0 then(k+((its.toArray.size:Nat):Int)).toNat else min k.toNat its.toArray.size)).push u++its.toArray.extract (if k<0 then(k+((its.toArray.size:Nat):Int)).toNat else min k.toNat its.toArray.size)=(eJ its j u).toArray:=by
 have e:(if k<0 then(k+((its.toArray.size:Nat):Int)).toNat else min k.toNat its.toArray.size)=j:=by
  rw[if_neg (by omega),Ec];omega
 rw[e]
 apply Array.toList_inj.mp
 simp[eJ]
 exact F9 (by simp)
theorem si:MtM X "list.insert" wY:=by
 intro pins s σ H x vs v us Q I rx rv z0;obtain⟨l,xs,y,k,j,ex,ev,hk,hH,hj,hz,q⟩:=z0;subst ex ev;cases rx;obtain⟨u1,u2,rfl,r1,r2⟩:=rv.two;obtain⟨t,rfl⟩:=r1;obtain⟨z,its,n,r,hl,e⟩:=I.kS hH;have fits:Builtin.List.listFitsIndex k=true:=by unfold Builtin.List.listFitsIndex;simp;omega
 have hsz:its.toArray.size<=Ea:=by rw[Ec,<-hl];exact z
 refine call_meets PySem.F.slot_list_insert ⟨_,e,rfl⟩ PySem.F.entry_list_insert (PySem.F.args_list_insert_3 _ _ _) (PySem.AutoSeq1.list_insert_list_int_val_1 l its.toArray n k t u2 (by rw[fits];decide) hsz) ⟨e,?_⟩;refine⟨.non,_,I.zZ (its':=eJ its j u2) hH e (wK its k j u2 hk (by omega)) ((Vals.take j r).append (.cons r2 (Vals.drop j r))) ?_,rfl,q⟩;show(xs.take j++y::xs.drop j).length<=Ea;simp only[Ff,Fu,EA,List.length_drop];have:1000000<=Ea:=nbL rfl;omega
def CL(to:TD)(t:TAD):TD:=fun δ M Q=>to δ M fun x M1=>∃l ys,x=.ref l/\M1 l=some (.lst ys)/\t δ M1 fun ds M2=>∃xs d,∃j:Nat,ds=[.int (j:Int),d]/\M2 l=some (.lst xs)/\j<=xs.length/\xs.length<1000000/\Q .non (aq M2 l (.lst (eJ xs j d)))
variable{o e1 e2:Expr}{to:TD}{t:TAD}{apos cpos:Pos}
theorem eN(ho:DE X o to)(ha:DA X [e1,e2] t)
 (hbase:FH o "insert" X.env (eval o X.env)=eval o X.env:=by rfl)
 (hfew:((Fn cpos (Eb [e1,e2] X.env)).all (fun x=>!x.1)&&(backToKw cpos (FR [] X.env)).all (fun x=>x.1.isSome)
  && decide ([e1,e2].length+([]:List Gp).length+(if([]:List Gp).isEmpty then 0 else 1)<30))=true:=by rfl)
 (hline:(apos.endLine==cpos.line)=true:=by rfl) (hs:Eb [e1,e2] X.env=(false,eval e1 X.env)::Eb [e2] X.env:=by rfl) (hplain:(Fn cpos (Eb [e2] X.env)).any (·.1)=false:=by rfl) :
 DE X (.Call (.Attribute o "insert" apos) [e1,e2] [] cpos) (CL to t):=
 aO (yP PySem.F.plainAttrs_list PySem.F.slot_list_insert PySem.F.type_list_insert si ho ha hbase hfew hline hs hplain) fun σ H Q z9=>by
  obtain⟨δ,M,R,hsl,hM,q,fin⟩:=z9
  refine⟨δ,M,_,hsl,hM,q,fun x M1 v H1 g1 r1 a1 zz1_0=>?_⟩
  obtain⟨l,ys,ex,hl,q1⟩:=zz1_0
  subst ex
  rw[Rep]at r1
  subst r1
  obtain⟨vs,hvs,_⟩:=a1 _ _ hl
  refine⟨.inl ⟨rfl,vs,SqL.of hvs⟩,δ,M1,_,hsl.mono g1,a1,q1,fun ds M2 us H2 g2 r2 a2 zz2_0=>?_⟩
  obtain⟨xs,d,j,ed,hx,hj,hn,q2⟩:=zz2_0
  subst ed
  obtain⟨u1,u2,rfl,ru1,ru2⟩:=dt r2
  rw[Rep]at ru1
  subst ru1
  obtain⟨ws,hws,rws⟩:=a2 _ _ hx
  have hlen:=rws.length
  exact⟨l,ws,u2,_,j,rfl,rfl,rfl,hws,by omega,by omega,fin _ _ _ _ (g1.trans (g2.trans (.lst hws))) (by rw[Rep]) (a2.pE hws ((rws.take j).append (.cons ru2 (rws.drop j)))) q2⟩
def wj:RC:=fun ds M Q=>match ds with
 |[.ref l]=>∃xs,M l=some (.lst xs)/\∀p,M p=none->Q (.ref p) (aq M p (.lst xs))
 |[.tup xs]=>∀p,M p=none->Q (.ref p) (aq M p (.lst xs))
 |_=>False
theorem xE:cP X (.type "list") wj:=bJ l3 fun vs H Q z9=>by
 obtain⟨ds,M,R,rs,a,q,fin⟩:=z9;unfold wj at q;split at q
 ·obtain⟨ys,e,q⟩:=q;obtain⟨v,rfl,r⟩:=bN rs;rw[Rep]at r;subst r;obtain⟨xs,hx,rx⟩:=a _ _ e;exact⟨_,xs,rfl,.inl (SqL.of hx),fun z hz=>fin _ _ _ _ (.new hz) (by rw[Rep]) (a.gh hz rx) (q z (a.fresh hz))⟩
 ·obtain⟨v,rfl,r⟩:=bN rs;rw[Rep]at r;obtain⟨p,xs,rfl,hx,rx⟩:=r;exact⟨_,xs,rfl,.inr hx,fun z hz=>fin _ _ _ _ (.new hz) (by rw[Rep]) (a.gh hz rx) (q z (a.fresh hz))⟩
 ·exact q.elim
end
def lam(w:Wl):Int:=l2 w-l1 w
def Nm(w:Wl)(t:Int):Int:=2*w.1*lam w+(t-2*l1 w)*(w.2.2.1-w.1)
def Gh(U V:Wl)(t:Int):Int:=Nm V t*lam U-Nm U t*lam V
theorem BR(U V:Wl):Gh U V (2*l1 U)=2*(lam U*sd1 V U):=by unfold Gh Nm lam sd1 sd l1 l2 la crs;grind
theorem BE(U V:Wl):Gh U V (2*l2 U)=2*(lam U*sd2 V U):=by unfold Gh Nm lam sd2 sd l1 l2 la crs;grind
theorem tR(U V:Wl)(t:Int):Gh V U t=-Gh U V t:=by unfold Gh;grind
theorem Du(U V:Wl):Gh U V (2*l1 V)=-(2*(lam V*sd1 U V)):=by rw[<-BR,tR]
theorem Dm(U V:Wl):Gh U V (2*l2 V)=-(2*(lam V*sd2 U V)):=by rw[<-BE,tR]
theorem C1(U V:Wl)(p q t:Int):Gh U V t*(q-p)=Gh U V p*(q-t)+Gh U V q*(t-p):=by unfold Gh Nm;grind
theorem dR{U V:Wl}{p q t:Int}(h1:p<t)(h2:t<q)(gp:0<=Gh U V p)(gq:0<=Gh U V q)(g:0<Gh U V p\/0<Gh U V q):0<Gh U V t:=by
 refine g9 (k:=q-p) (by omega) ?_;rw[C1 U V p q t];have a1:=Int.mul_nonneg gp (show 0<=q-t by omega);have a2:=Int.mul_nonneg gq (show 0<=t-p by omega);rcases g with g|g
 ·have:=Ez g (show 0<q-t by omega);omega
 ·have:=Ez g (show 0<t-p by omega);omega
theorem mx2{a b t:Int}:2*max a b<t↔2*a<t/\2*b<t:=by rw[Int.max_def];split<;>omega
theorem mn2{a b t:Int}:t<2*min a b↔t<2*a/\t<2*b:=by rw[Int.min_def];split<;>omega
theorem uD{a1 a2 a3 b1 b2 b3:Int}(h:a1<b1/\a1<b2/\a1<b3)(h':a2<b1/\a2<b2/\a2<b3)(h'':a3<b1/\a3<b2/\a3<b3):∃t,(2*a1<t/\2*a2<t/\2*a3<t)/\t<2*b1/\t<2*b2/\t<2*b3:=by have k:∀{b},a1<b->a2<b->a3<b->max (max a1 a2) a3<b:=fun x y z=>Int.max_lt.mpr ⟨Int.max_lt.mpr ⟨x,y⟩,z⟩;have l:max (max a1 a2) a3<min (min b1 b2) b3:=Int.lt_min.mpr ⟨Int.lt_min.mpr ⟨k h.1 h'.1 h''.1,k h.2.1 h'.2.1 h''.2.1⟩,k h.2.2 h'.2.2 h''.2.2⟩;have p1:a1<=max (max a1 a2) a3:=Int.le_trans (Int.le_max_left ..) (Int.le_max_left ..);have p2:a2<=max (max a1 a2) a3:=Int.le_trans (Int.le_max_right ..) (Int.le_max_left ..);have p3:a3<=max (max a1 a2) a3:=Int.le_max_right ..;have q1:min (min b1 b2) b3<=b1:=Int.le_trans (Int.min_le_left ..) (Int.min_le_left ..);have q2:min (min b1 b2) b3<=b2:=Int.le_trans (Int.min_le_left ..) (Int.min_le_right ..);have q3:min (min b1 b2) b3<=b3:=Int.min_le_right ..;generalize max (max a1 a2) a3=m at *;generalize min (min b1 b2) b3=n at *;clear h h' h'' k;refine⟨m+n,⟨?_,?_,?_⟩,?_,?_,?_⟩<;>omega
theorem vF{U V:Wl}{t:Int}(hU:Un5 U)(hV:Un5 V)(F:Fair U V)(ap:max (l1 U) (l1 V)<min (l2 U) (l2 V))(t1:2*max (l1 U) (l1 V)<t)(t2:t<2*min (l2 U) (l2 V))(h:abv U V=true):0<Gh U V t:=by
 have hA:l1 U<l1 V->sd1 U V<0:=fun z=>of_decide_eq_true ((tJ ap z).symm.trans h);have hC:l1 V<l1 U->0<sd1 V U:=fun z=>of_decide_eq_true ((tE ap z).symm.trans h);have hD:l1 U=l1 V->l2 U<l2 V->0<sd2 V U:=fun z y=>of_decide_eq_true ((vS ap z y).symm.trans h);have hB:l1 U=l1 V->¬l2 U<l2 V->sd2 U V<0:=fun z y=>of_decide_eq_true ((tu ap z y).symm.trans h);clear h;obtain⟨o1,o2,o3,o4⟩:=j7.mp ap;clear ap;obtain⟨tu1,tv1⟩:=mx2.mp t1;obtain⟨tu2,tv2⟩:=mn2.mp t2;clear t1 t2;have f1:=F.e1.nz;have f2:=F.e2.nz;have f3:=F.e3.nz;have f4:=F.e4.nz;have pr:(¬(0<sd1 V U/\sd2 V U<0)/\¬(sd1 V U<0/\0<sd2 V U))\/(¬(0<sd1 U V/\sd2 U V<0)/\¬(sd1 U V<0/\0<sd2 U V)):=F.pr.elim (fun z=>.inr (sgp z)) (fun z=>.inl (sgp z));have z1:=yI hU hV;have z2:=nD hU hV;have z3:=yI hV hU;have z4:=nD hV hU;have w1:=fun h1 h2 h3 h4 c0 d0=>within (xf U V) (wO U V) h1 h2 h3 h4 pr c0 d0;have w2:=fun h1 h2 h3 h4 c0 d0=>within (xf V U) (wO V U) h1 h2 h3 h4 pr.symm c0 d0;have s1:=fun h1 h2 h3 c0 d0=>qF (wO U V) (xf V U) h1 h2 h3 pr c0 d0;have s2:=fun h1 h2 h3 c0 d0=>qF (wO V U) (xf U V) h1 h2 h3 pr.symm c0 d0;clear pr;have ne:=F.ne;have lu:0<lam U:=by have:=hU.lt;unfold lam;omega
 have lv:0<lam V:=by have:=hV.lt;unfold lam;omega
 have G1:=BR U V;have G2:=BE U V;have G3:=Du U V;have G4:=Dm U V;have P1:0<sd1 V U->0<Gh U V (2*l1 U):=fun z=>by rw[G1];have:=Ez lu z;omega
 have P2:0<sd2 V U->0<Gh U V (2*l2 U):=fun z=>by rw[G2];have:=Ez lu z;omega
 have P3:sd1 U V<0->0<Gh U V (2*l1 V):=fun z=>by rw[G3];have:=ED lv z;omega
 have P4:sd2 U V<0->0<Gh U V (2*l2 V):=fun z=>by rw[G4];have:=ED lv z;omega
 have Z1:sd1 V U=0->Gh U V (2*l1 U)=0:=fun z=>by rw[G1,z];simp
 have Z2:sd2 V U=0->Gh U V (2*l2 U)=0:=fun z=>by rw[G2,z];simp
 rcases Ey (l1 U) (l1 V)with y|y|y<;>rcases Ey (l2 U) (l2 V)with y'|y'|y'
 ·have na:=f1 y o3;have nd:=f4 o3 y';have q:=s2 y o3 y' na nd;have a0:sd1 U V<0:=hA y;have p1:=P3 a0;have p2:=P2 (by omega);exact dR (p:=2*l1 V) (q:=2*l2 U) (by assumption) (by assumption) (F8 p1) (by first|exact F8 p2|exact Int.le_of_eq p2.symm) (.inl p1)
 ·have a0:sd1 U V<0:=hA y;have p1:=P3 a0;have p2:=Z2 (z4 y'.symm);exact dR (p:=2*l1 V) (q:=2*l2 U) (by assumption) (by assumption) (F8 p1) (by first|exact F8 p2|exact Int.le_of_eq p2.symm) (.inl p1)
 ·have na:=f1 y o3;have nb:=f2 (by omega) y';have q:=w2 y (by omega) o3 y' na nb;have a0:sd1 U V<0:=hA y;have p1:=P3 a0;have p2:=P4 (by omega);exact dR (p:=2*l1 V) (q:=2*l2 V) (by assumption) (by assumption) (F8 p1) (by first|exact F8 p2|exact Int.le_of_eq p2.symm) (.inl p1)
 ·have p1:=Z1 (z3 y.symm);have p2:=P2 (hD y y');exact dR (p:=2*l1 U) (q:=2*l2 U) (by assumption) (by assumption) (Int.le_of_eq p1.symm) (F8 p2) (.inr p2)
 ·exact absurd ⟨y,y'⟩ ne
 ·have p1:=Z1 (z3 y.symm);have p2:=P4 (hB y (by omega));exact dR (p:=2*l1 U) (q:=2*l2 V) (by assumption) (by assumption) (Int.le_of_eq p1.symm) (F8 p2) (.inr p2)
 ·have q:=w1 y (by omega) o2 y' (f3 y o2) (f4 (by omega) y');have c0:0<sd1 V U:=hC y;have p1:=P1 c0;have p2:=P2 (by omega);exact dR (p:=2*l1 U) (q:=2*l2 U) (by assumption) (by assumption) (F8 p1) (by first|exact F8 p2|exact Int.le_of_eq p2.symm) (.inl p1)
 ·have c0:0<sd1 V U:=hC y;have p1:=P1 c0;have p2:=Z2 (z4 y'.symm);exact dR (p:=2*l1 U) (q:=2*l2 U) (by assumption) (by assumption) (F8 p1) (by first|exact F8 p2|exact Int.le_of_eq p2.symm) (.inl p1)
 ·have q:=s1 y o2 y' (f3 y o2) (f2 o2 y');have c0:0<sd1 V U:=hC y;have p1:=P1 c0;have p2:=P4 (by omega);exact dR (p:=2*l1 U) (q:=2*l2 V) (by assumption) (by assumption) (F8 p1) (by first|exact F8 p2|exact Int.le_of_eq p2.symm) (.inl p1)
theorem rY{U V W:Wl}(hU:Un5 U)(hV:Un5 V)(hW:Un5 W)(F1:Fair U V)(F2:Fair V W)(F3:Fair U W)(a1:max (l1 U) (l1 V)<min (l2 U) (l2 V))(a2:max (l1 V) (l1 W)<min (l2 V) (l2 W))(a3:max (l1 U) (l1 W)<min (l2 U) (l2 W))
 (h1:abv U V=true) (h2:abv V W=true):abv U W=true:=by
 have o1:=j7.mp a1
 have o2:=j7.mp a2
 have o3:=j7.mp a3
 obtain⟨t,⟨x1,x2,x3⟩,y1,y2,y3⟩:=uD ⟨o1.1,o1.2.1,o3.2.1⟩ ⟨o1.2.2.1,o1.2.2.2,o2.2.1⟩ ⟨o3.2.2.1,o2.2.2.1,o2.2.2.2⟩
 have g1:=vF (t:=t) hU hV F1 a1 (mx2.mpr ⟨x1,x2⟩) (mn2.mpr ⟨y1,y2⟩) h1
 have g2:=vF (t:=t) hV hW F2 a2 (mx2.mpr ⟨x2,x3⟩) (mn2.mpr ⟨y2,y3⟩) h2
 have lu:0<lam U:=by have:=hU.lt;unfold lam;omega
 have lv:0<lam V:=by have:=hV.lt;unfold lam;omega
 have lw:0<lam W:=by have:=hW.lt;unfold lam;omega
 have g3:0<Gh U W t:=by
  refine g9 (k:=lam V) lv ?_
  have e:Gh U W t*lam V=lam U*Gh V W t+lam W*Gh U V t:=by unfold Gh;grind
  rw[e]
  exact Int.add_pos (Ez lu g2) (Ez lw g1)
 cases z:abv U W with
 |true=>rfl
 |false=>
  have n:=vf hU hW F3 a3
  rw[z]at n
  have g4:=vF (t:=t) hW hU F3.swap (by rw[Int.max_comm,Int.min_comm];exact a3) (mx2.mpr ⟨x3,x1⟩) (mn2.mpr ⟨y3,y1⟩) n
  rw[tR]at g4
  omega
theorem tD{U:Wl}(hU:Un5 U):abv U U=false:=by
 unfold abv;split
 ·rw[if_pos rfl,if_neg (by omega),nD hU hU rfl];rfl
 ·rfl
theorem jx{α β:Type}(f:α->β)(xs:List α)(j:Nat)(y:α):eJ (xs.map f) j (f y)=(eJ xs j y).map f:=by unfold eJ;simp[List.map_take,List.map_drop]
theorem fy{α:Type}(xs:List α)(j:Nat)(y:α):(eJ xs j y).Perm (y::xs):=by
 unfold eJ;have h:(xs.take j++y::xs.drop j).Perm (y::(xs.take j++xs.drop j)):=List.perm_middle
 rwa [List.take_append_drop]at h
theorem nH:∀ns:List Int,Fi (ns.map Fc)<=10
 |[]=>nbL rfl
 |n::ns=>by
  rw[D7,Fi]
  exact Nat.max_le.mpr ⟨nbL rfl,nH ns⟩
theorem nt{ps:List FT}(h1:Fo ps=true)(h2:Fi ps<=10):FQ (.list ps)=true:=by unfold FQ;rw[F6];refine⟨by rw[PyData.canLay0];exact h1,decide_eq_true ?_⟩;rw[PyData.depth];omega
theorem shaped_ints(ns:List Int):FQ (.list (ns.map Fc))=true:=nt (lay_ints ns) (nH ns)
theorem iq{α:Type}(p:α->Bool)(f:α->D):∀l:List α,l.filterMap (fun k=>if p k=true then some (f k)else none)=(l.filter p).map f
 |[]=>rfl
 |a::l=>by
  rw[List.filterMap_cons,List.filter_cons]
  cases h:p a
  ·simp[iq p f l]
  ·simp[iq p f l]
def wAt(ws:List Wl)(k:Int):Wl:=(ws[k.toNat]?).getD (0,0,0,0)
theorem bQ{ws:List Wl}{k:Int}(h0:0<=k)(h1:k<ws.length):ws[k.toNat]?=some (wAt ws k)/\atI (ws.map uw) k=some (uw (wAt ws k))/\wAt ws k∈ws:=by
 obtain⟨j,rfl⟩:∃j:Nat,k=(j:Int):=⟨k.toNat,by omega⟩;have hj:j<ws.length:=by omega
 have e:wAt ws (j:Int)=ws[j]:=by unfold wAt;simp[hj]
 refine⟨by rw[e];simp[hj],?_,by rw[e];exact ET hj⟩;rw[e];exact cF (by simp[hj])
theorem wu{R:Int->Int->Bool}:∀fs:List Int,fs≠[]->(∀k∈fs,∀j∈fs,k≠j->R j k=!R k j)->(∀k∈fs,∀j∈fs,∀i∈fs,k≠j->j≠i->k≠i->R k j=true->R j i=true->R k i=true)->∃t∈fs,∀k∈fs,k=t\/R t k=true
 |[],h,_,_=>absurd rfl h
 |[a],_,_,_=>⟨a,by simp,fun k hk=>.inl (by simpa using hk)⟩
 |a::b::l,_,tot,tr=>by
  obtain⟨t,ht,top⟩:=wu (R:=R) (b::l) (by simp) (fun k hk j hj=>tot k (.tail _ hk) j (.tail _ hj)) (fun k hk j hj i hi=>tr k (.tail _ hk) j (.tail _ hj) i (.tail _ hi))
  by_cases e:a=t
  ·subst e
   refine⟨a,by simp,fun k hk=>?_⟩
   rcases EM.mp hk with rfl|hk
   ·exact .inl rfl
   ·exact top k hk
  ·have ta:=tot a (by simp) t (.tail _ ht) e
   cases q:R a t with
   |false=>
    rw[q]at ta
    refine⟨t,.tail _ ht,fun k hk=>?_⟩
    rcases EM.mp hk with rfl|hk
    ·exact .inr ta
    ·exact top k hk
   |true=>
    refine⟨a,by simp,fun k hk=>?_⟩
    rcases EM.mp hk with rfl|hk'
    ·exact .inl rfl
    ·by_cases ka:k=a
     ·exact .inl ka
     ·rcases top k hk' with rfl|z
      ·exact .inr q
      ·by_cases kt:k=t
       ·subst kt;exact .inr q
       ·exact .inr (tr a (by simp) t (.tail _ ht) k hk e (fun y=>kt y.symm) (fun y=>ka y.symm) q z)
theorem pJ{fs:List Int}{t:Int}{p:Int->Bool}(nd:fs.Nodup)(ht:t∈fs)(hp:∀k∈fs,p k=true↔k=t):fs.filter p=[t]:=by
 induction fs with
 |nil=>cases ht
 |cons a l ih=>
  rw[List.nodup_cons]at nd
  rw[List.filter_cons]
  by_cases e:a=t
  ·subst e;rw[if_pos ((hp a (by simp)).mpr rfl)];have:l.filter p=[]:=List.filter_eq_nil_iff.mpr fun k hk hpk=>nd.1 ((hp k (.tail _ hk)).mp hpk▸hk);rw[this]
  ·rw[if_neg (fun z=>e ((hp a (by simp)).mp z))];exact ih nd.2 ((EM.mp ht).resolve_left (fun z=>e z.symm)) fun k hk=>hp k (.tail _ hk)
def frP(q:Rat):FT:=.tuple [.int q.num,.int (q.den:Int)]
def rwP(t b x y:Int)(w:Wl):FT:=.tuple [.tuple [frP (Ma.ut t b x 1 w.1),frP (Ma.ut t b y 1 w.2.1)],.tuple [frP (Ma.ut t b x 1 w.2.2.1),frP (Ma.ut t b y 1 w.2.2.2)]]
theorem vH(t b x y:Int)(w:Wl):EH (rwP t b x y w) (rwP t b x y w)=true:=by simp[rwP,frP,EH,Fj]
theorem wX{a b x y:Int}(h1:-10<=b/\b<=85)(h2:-10<=y/\y<=85):HT.lexLt [a,b] [x,y]=decide (la a b<la x y):=by have h:=Ma.ib (a:=a) (b:=b) (c:=x) (d:=y);rw[Bool.eq_iff_iff,h,decide_eq_true_eq];unfold la;omega
def spB(ws:List Wl)(m s:Int)(j:Nat):Bool:=decide (m*l1 (wAt ws (j:Int))<=s)&&decide (s<m*l2 (wAt ws (j:Int)))
def spK(ws:List Wl)(m s:Int):List Int:=((E5 ws.length).filter (spB ws m s)).map fun j:Nat=>(j:Int)
theorem fG{ws:List Wl}{m s k:Int}(h:k∈spK ws m s):0<=k/\k<ws.length/\m*l1 (wAt ws k)<=s/\s<m*l2 (wAt ws k):=by unfold spK at h;obtain⟨j,hj,rfl⟩:=EJ.mp h;rw[EU,GH]at hj;have:=hj.2;unfold spB at this;rw[F6,decide_eq_true_eq,decide_eq_true_eq]at this;exact⟨by omega,by omega,this.1,this.2⟩
theorem zD(m a b:Int):la (m*a) (m*b)=m*la a b:=by unfold la;grind
theorem over_of{m s a b c d:Int}(hm:0<m)(h1:m*a<=s)(h2:s<m*b)(h3:m*c<=s)(h4:s<m*d):max a c<min b d:=by have e:∀{x y:Int},m*x<=s->s<m*y->x<y:=fun{x y} p q=>Int.lt_of_mul_lt_mul_left (Int.lt_of_le_of_lt p q) (by omega);have:=e h1 h2;have:=e h1 h4;have:=e h3 h2;have:=e h3 h4;omega
theorem tW{ws:List Wl}{fs:List Int}{m s:Int}(hU:∀w∈ws,Un5 w)(hF:PF ws)(hm:0<m)(hs:∀k∈fs,k∈spK ws m s)(hn:fs≠[])(nd:fs.Nodup) :
 ∃t∈fs,(∀w∈fs.map (wAt ws),w=wAt ws t\/(abv (wAt ws t) w=true/\abv w (wAt ws t)=false))/\(fs.filter fun k=>fs.all fun j=>!abv (wAt ws j) (wAt ws k))=[t]:=by
 have sp:=fun k hk=>fG (hs k hk)
 have un:∀k∈fs,Un5 (wAt ws k):=fun k hk=>hU _ (bQ (sp k hk).1 (sp k hk).2.1).2.2
 have fr:∀k∈fs,∀j∈fs,k≠j->Fair (wAt ws k) (wAt ws j):=fun k hk j hj ne=>by
  have a:=sp k hk
  have b:=sp j hj
  exact hF k.toNat j.toNat _ _ (by omega) (bQ a.1 a.2.1).1 (bQ b.1 b.2.1).1
 have ov:∀k∈fs,∀j∈fs,max (l1 (wAt ws k)) (l1 (wAt ws j))<min (l2 (wAt ws k)) (l2 (wAt ws j)):=fun k hk j hj=>
  over_of hm (sp k hk).2.2.1 (sp k hk).2.2.2 (sp j hj).2.2.1 (sp j hj).2.2.2
 have tot:∀k∈fs,∀j∈fs,k≠j->abv (wAt ws j) (wAt ws k)=!abv (wAt ws k) (wAt ws j):=fun k hk j hj ne=>vf (un k hk) (un j hj) (fr k hk j hj ne) (ov k hk j hj)
 obtain⟨t,ht,top⟩:=wu (R:=fun k j=>abv (wAt ws k) (wAt ws j)) fs hn tot (fun k hk j hj i hi a b c p q=>rY (un k hk) (un j hj) (un i hi) (fr k hk j hj a) (fr j hj i hi b) (fr k hk i hi c) (ov k hk j hj) (ov j hj i hi) (ov k hk i hi) p q)
 refine⟨t,ht,fun w hw=>?_,pJ nd ht fun k hk=>?_⟩
 ·obtain⟨k,hk,rfl⟩:=EJ.mp hw
  by_cases e:k=t
  ·exact .inl (by rw[e])
  ·have a:=(top k hk).resolve_left e
   have b:=tot t ht k hk (fun z=>e z.symm)
   rw[a]at b
   exact .inr ⟨a,b⟩
 ·rw[Gg]
  constructor
  ·intro h
   by_cases e:k=t
   ·exact e
   ·have a:=(top k hk).resolve_left e
    have:=h t ht
    rw[a]at this
    cases this
  ·rintro rfl j hj
   by_cases e:j=k
   ·rw[e,tD (un k hk)];rfl
   ·have a:=(top j hj).resolve_left e
    have b:=tot k hk j hj (fun z=>e z.symm)
    rw[b,a];rfl
section
variable{X:Cx}{pins:List (Addr×Obj)}{σ:L2.St}{H:Hp}{s:D6}
theorem j5{h':Heap}{t':Nat}{e it:Addr}(I:Inv X pins σ H s)(k:∀b o,b≠e->b≠it->s.heap.get? b=some o->h'.get? b=some o)(fe:cj X pins H e)(fi:cj X pins H it):Inv X pins σ H { s with heap:=h',toks:=t' }:=by
 obtain⟨e0,e1,_,e3,e4,e5⟩:=fe;obtain⟨i0,i1,_,i3,i4,i5⟩:=fi;have ne:∀b u,H b=some u->b≠e/\b≠it:=fun b u q=>⟨fun z=>(by rw[z,e0]at q;cases q),fun z=>(by rw[z,i0]at q;cases q)⟩;have nc:∀{b:Addr},b∉[e,it]->b≠e/\b≠it:=fun{b} hc=>⟨fun z=>hc (by simp[z]),fun z=>hc (by simp[z])⟩;refine I.step (g':=s.gens) (d':=s.drawn) (ch:=[e,it]) (fun b hb=>?_) (fun b o _ _ hc q _=>k b o (nc hc).1 (nc hc).2 q) (fun b o _ _ hc q _=>⟨o.slots,k b o (nc hc).1 (nc hc).2 q⟩) (fun _ _ _ _ n=>n) (fun b o hc q=>⟨o,k b o (nc hc).1 (nc hc).2 q⟩) (fun _ _ q=>q) (fun _ _ _ q=>q) (fun b ps q=>⟨#[],by rw[q];simp⟩) (fun m hm=>?_) (fun b u q=>?_) I.bare
 ·rcases(show b=e\/b=it by simpa using hb)with rfl|rfl
  ·exact⟨e3,e1,e4,e5⟩
  ·exact⟨i3,i1,i4,i5⟩
 ·obtain⟨o,es,ep,ho,r⟩:=hm;exact⟨o,es,ep,k _ o (Ne.symm e1) (Ne.symm i1) ho,r⟩
 ·refine(I.hok b u q).eQ (fun c v hc z=>?_) (fun _ z=>z) fun _ _ z=>z;rcases hc with y|y
  ·subst y;exact k _ v (ne _ u q).1 (ne _ u q).2 z
  ·exact k c v (ne c _ y).1 (ne c _ y).2 z
end
def Ite(K:D5)(a:Addr):It:=
 ⟨fun i H=>∃xs x,SqL K H a xs/\xs[i]?=some x,fun i H x H'=>∃T y,x=.ref T/\H T=none/\H'=upd H T (.tup [.int (i:Int),y])/\∀xs,SqL K H a xs->xs[i]?=some y,fun i H=>∃xs,SqL K H a xs/\xs.length<=i⟩
theorem r0{P:Ee}{w:EB}{K:D5}{elts:List Expr}{kt}{pt:Pos}(a e it:Addr)(hei:e≠it):Turn P w K (.Tuple elts kt pt) (Ite K a) [e,it] e (fun i h=>(∃old,IsEnum h e it (i:Int) old)/\h.IsListIter it a i) where
 mem:=by simp
 obj:=fun i h st b hb=>by
  rcases(show b=e\/b=it by simpa using hb)with rfl|rfl
  ·obtain⟨⟨old,q⟩,_⟩:=st
   exact⟨_,q,fun v z=>by
    have z':Data.fields _=Data.cell v:=z
    cases z'⟩
  ·obtain⟨o,q,c,d⟩:=st.2
   exact⟨o,q,fun v z=>by rw[d]at z;cases z⟩
 keep:=fun i h h' st k=>by
  obtain⟨⟨old,q⟩,st⟩:=st
  exact⟨⟨old,k e (by simp) _ q⟩,st.at fun o z=>k it (by simp) o z⟩
 item:=by
  intro X hP hw hK hc i pins s σ H E I hf st hg
  subst hP hw hK
  obtain⟨xs,x,hq,hx⟩:=hg
  obtain⟨its,rv,p,hz⟩:=I.list hq
  obtain⟨u,hu,ru⟩:=rv.get hx
  obtain⟨⟨old,he⟩,hit⟩:=st
  have le:e<s.heap.objs.size:=E8 he
  have li:it<s.heap.objs.size:=by obtain⟨o,q,_⟩:=hit;exact E8 q
  refine wpAny_pyNext_enum_item he hit p.isList (x:=u) (by simpa using hu) hei fun h1 ho hit1 hT hsz hk=>⟨_,rfl,wpAny_letOwnedTupleGo_enum (s:={ s with heap:=h1,toks:=s.toks+1 }) ho fun h2 he2 hs2=>?_⟩
  have hs2:G8 e h1 h2:=hs2
  have fr:=I.fresh
  have I1:Inv X pins σ (upd H s.heap.objs.size (.tup [.int (i:Int),x])) { s with heap:=s.heap.push { cls:=.type "tuple",data:=.seq #[.int (i:Int) s.toks,u] },toks:=s.toks }:=
   I.laid (fun b v q=>D9 _ q) (E3 _) ⟨nbL rfl,[.int (i:Int) s.toks,u],.cons ⟨_,rfl⟩ (.cons ru .nil),⟨_,E6 _ rfl,rfl,_,rfl⟩,⟨_,E6 _ rfl,rfl⟩⟩
  have fk:∀{b:Addr},b<s.heap.objs.size->cj X pins H b->cj X pins (upd H s.heap.objs.size (.tup [.int (i:Int),x])) b:=fun{b} lt f=>⟨by rw[aL (Ex lt)];exact f.1,f.2⟩
  have fe:=fk le (hf e (by simp))
  have fi:=fk li (hf it (by simp))
  have I2:Inv X pins σ (upd H s.heap.objs.size (.tup [.int (i:Int),x])) { s with heap:=h2,toks:=s.toks+1 }:=by
   refine j5 (s:={ s with heap:=s.heap.push { cls:=.type "tuple",data:=.seq #[.int (i:Int) s.toks,u] },toks:=s.toks }) I1 (fun b o ne ni q=>?_) fe fi
   have q:(s.heap.push { cls:=.type "tuple",data:=.seq #[.int (i:Int) s.toks,u] }).get? b=some o:=q
   refine(hs2.2 b ne).trans ?_
   rcases Heap.get?_push_cases q with⟨rfl,rfl⟩|q
   ·exact hT
   ·exact hk b o ne ni q
  refine⟨.ref s.heap.objs.size,_,I2,rfl,⟨_,x,rfl,fr,rfl,fun ys hy=>by rw[I.e9 hy hq];exact hx⟩,⟨⟨u,?_⟩,hit1.at fun o z=>(hs2.2 it hei.symm).trans z⟩,fun b hb=>?_⟩
  ·have:(((i+1:Nat):Int))=(i:Int)+1:=by omega
   rw[this];exact he2
  ·rcases(show b=e\/b=it by simpa using hb)with rfl|rfl
   ·exact fe.1
   ·exact fi.1
 done:=by
  intro X hP hw hK hc i pins s σ H E I hf st hg
  subst hP hw hK
  obtain⟨xs,hq,hx⟩:=hg
  obtain⟨its,rv,p,hz⟩:=I.list hq
  obtain⟨⟨old,he⟩,hit⟩:=st
  obtain⟨f0,f1,f2,f3,f4,f5⟩:=hf it (by simp)
  have hl:=rv.length
  exact wpAny_pyNext_enum_end (I.ok.hd hc) he hit p.isList (by simp;omega) fun h' eb=>⟨rfl,I.turned (t':=s.toks) (fun b o hb q=>eb b o hb q) f0 f1 f3 f4 f5⟩
 self:=fun _ _ _ _ _ st h=>let⟨⟨_,he⟩,_⟩:=st;wpAny_pyIter_enum he h
theorem gn:F7 "enumerate"=some (.type "enumerate"):=by decide +kernel
section
variable{X:Cx}{elts:List Expr}{kt:Nat}{pt:Pos}
def CG(K:D5)(ta:TA):TI:=fun σ H R=>ta σ H fun vs H1=>∃a xs,vs=[.ref a]/\H1 a=some (.lst xs)/\R (Ite K a) H1
theorem yn{a:Expr}{ta:TA}{p pos:Pos}(hg:Gl X "enumerate")(hm:X.mg "enumerate"=none)(ha:PA X [a] ta)(hs:Eb [a] X.env=[(false,eval a X.env)]:=by rfl):PI X (.Tuple elts kt pt) (.Call (.Name "enumerate" p) [a] [] pos) (CG X.K ta):=by
 intro pins s σ H R I h;refine Call_ (gX I hg hm gn (G9 (thn (ha pos pins s σ H _ I h) fun us s1 zz1_0=>?_) hs rfl));obtain⟨vs,H1,I1,r1,q1⟩:=zz1_0;obtain⟨l,xs,ev,hH,q⟩:=q1;subst ev;obtain⟨u,rfl,ru⟩:=r1.one;cases ru;obtain⟨z,its,n,r,hl,e⟩:=I1.kS hH;refine call_enumerate_1 e fun h' he hit hsz hk=>wpAny_pyIter_enum he ?_
 have fp:∀b∈[s1.heap.objs.size+1,s1.heap.objs.size],cj X pins H1 b:=fun b hb=>by
  have hb':s1.heap.objs.size<=b:=by
   rcases(show b=s1.heap.objs.size+1\/b=s1.heap.objs.size by simpa using hb)with rfl|rfl
   ·exact Nat.le_succ _
   ·exact E3 _
  exact I1.n8 hb' (I1.hok.fresh hb')
 exact⟨_,[s1.heap.objs.size+1,s1.heap.objs.size],_,_,H1,rfl,I1.kept (t':=s1.toks) hk,r0 l _ _ (Nat.succ_ne_self _),⟨⟨_,he⟩,hit⟩,fp,q⟩
def B7(ta:TAD):TID:=fun δ M R=>ta δ M fun ds M1=>∃l es,ds=[.ref l]/\M1 l=some (.lst es)/\R ⟨es.length,fun i=>(es[i]?).map fun d=>.tup [.int (i:Int),d],fun M=>M l=some (.lst es)⟩ M1
theorem ra{a:Expr}{ta:TAD}{p pos:Pos}(hg:Gl X "enumerate")(hm:X.mg "enumerate"=none)(ha:DA X [a] ta)(hs:Eb [a] X.env=[(false,eval a X.env)]:=by rfl):DI X (.Tuple elts kt pt) (.Call (.Name "enumerate" p) [a] [] pos) (B7 ta):=
 jT (yn hg hm ha hs) fun σ H R ⟨δ,M,RD,hs,hM,q,fin⟩=>⟨δ,M,_,hs,hM,q,fun ds M1 vs H1 g1 r1 a1 z9=>by
  obtain⟨l,es,e,hl,q1⟩:=z9
  subst e
  obtain⟨v,rfl,r⟩:=bN r1
  rw[Rep]at r;subst r
  obtain⟨xs,hx,rs⟩:=a1 _ _ hl
  refine⟨l,xs,rfl,hx,fin _ M1 H1 _ g1 a1 q1 ⟨fun H2 M2 g2 a2 c2=>?_,fun i H2 M2 hi g2 a2 c2=>?_,?_⟩⟩
  ·obtain⟨ys,hy,ry⟩:=a2 _ _ (show M2 l=some (.lst es)from c2)
   exact⟨ys,SqL.of hy,by rw[<-ry.length];exact E3 _⟩
  ·obtain⟨ys,hy,ry⟩:=a2 _ _ (show M2 l=some (.lst es)from c2)
   have hi':i<ys.length:=by rw[<-ry.length];exact hi
   exact⟨ys,ys[i],SqL.of hy,by simp[hi']⟩
  ·rintro i H2 M2 v H3 hi g2 a2 c2 ⟨T,y,rfl,hT,rfl,hy⟩
   have hi:i<es.length:=hi
   obtain⟨ys,hys,ry⟩:=a2 _ _ (show M2 l=some (.lst es)from c2)
   obtain⟨x,e1,e2⟩:=ry.get (show es[i]?=some es[i] by simp[hi])
   have:=hy ys (SqL.of hys)
   rw[e1]at this;cases this
   exact⟨.new hT,a2.new hT,.tup [.int (i:Int),es[i]],by simp[hi],by rw[Rep];exact⟨T,_,rfl,SqT.of aK,.cons (by rw[Rep]) (.cons (e2.mono (.new hT)) .nil)⟩⟩⟩
end
section
variable{X:Cx}
variable{o:Expr}{to:TD}{apos cpos:Pos}
end
end SD
namespace HT
open PySem PyProof.Rows
section
open PySem.SeqAt
open PySem.AutoSeq1 (wpAny_loadPart')
open PySem.MeetsSeq PySem.MeetsSeq2 PySem.MeetsSeq3
theorem kW(l:Addr)(items:Array D4)(n:Nat)(dd:Option Addr)(sl:Array (Option D4))(x:D4)(j:Nat)(hj:j<items.size) :
 Meets (GP.«tuple.index» ⟨[.ref l,x],[]⟩) fun A R s=>s.heap.get? l=some { cls:=.type "tuple",dict:=dd,data:=.seq items n,slots:=sl }/\(∀(i:Nat) (hi:i<items.size),i<=j->EqAt A.in1 s items[i] x (decide (i=j)))/\R (.ok (.ret (.int (j:Int) s.toks))) { s with toks:=s.toks+1 }:=
 .of_wp fun prog w A R s h=>by
  obtain⟨hp,g,d,tk,os⟩:=s;obtain⟨hl,heq,h⟩:=h
  unfold GP.«tuple.index»
  simp only[Std.Legacy.Range.forIn_eq_forIn_range']
  wp_walk using Fg hl,wpAny_forIn_list _ (fun rest b s'=>b=(none,())/\s'=⟨hp,g,d,tk,os⟩/\∃m,m<=j/\rest=GA m (items.size-m) 1) _
  case turn=>
   rintro a rest b s' ⟨rfl,rfl,m,hm,hr⟩
   have hs:items.size-m=(items.size-m-1)+1:=by omega
   rw[hs,List.range'_succ]at hr
   injection hr with h1 h2
   subst h1 h2
   have hms:a<items.size:=by omega
   rw[Array.getElem?_eq_getElem hms]
   refine cc (heq a hms hm prog w _ _ ?_)
   by_cases e1:a=j
   ·subst e1
    rw[decide_eq_true rfl]
    wp_walk
    exact⟨_,rfl,h⟩
   ·rw[decide_eq_false e1]
    wp_walk
    exact⟨rfl,rfl,a+1,by omega,by rw[show items.size-a-1=items.size-(a+1) by omega]⟩
  case fin=>
   rintro b s' ⟨rfl,rfl,m,hm,hr⟩
   have hs:items.size-m=(items.size-m-1)+1:=by omega
   rw[hs,List.range'_succ]at hr
   cases hr
  exact⟨rfl,rfl,0,by omega,by simp[Std.Legacy.Range.size]⟩
end
end HT
namespace SD
open PySem PySem.Spec PyProof.Rows L2
section
variable{X:Cx}
def Cd(to:TD)(t:TAD):TD:=fun δ M Q=>to δ M fun x M1=>∃ys,x=.tup ys/\t δ M1 fun ds M2=>∃d p,∃j:Nat,ds=[d]/\j<ys.length/\Pd M2 d p/\FQ p=true/\
 (∀(i:Nat) (y:D),i<=j->ys[i]?=some y->∃q,Pd M2 y q/\PyData.canLay0 q=true/\EH q p=decide (i=j))/\Q (.int (j:Int)) M2
def C4(K:D5):V->List V->Hp->VK->Prop:=fun x vs H Q=>∃a ys M v d p,∃j:Nat,x=.ref a/\vs=[v]/\Abs K H M/\Rep K H (.tup ys) x/\Rep K H d v/\j<ys.length/\Pd M d p/\FQ p=true/\
 (∀(i:Nat) (y:D),i<=j->ys[i]?=some y->∃q,Pd M y q/\PyData.canLay0 q=true/\EH q p=decide (i=j))/\Q (.int (j:Int)) H
theorem AD(hu:X.A.units+66<F0):MtM X "tuple.index" (C4 X.K):=by
 intro pins s σ H x vs v us Q I rx rv z0;obtain⟨a,ys,M,v1,d,p,j,ex,ev,hM,hx,hd,hj,pd,hsh,hall,q⟩:=z0;subst ex ev;cases rx;obtain⟨u1,rfl,r1⟩:=rv.one;rw[Rep]at hx;obtain⟨a',xs,ea,hq,rs⟩:=hx;cases ea;obtain⟨its,rvs,⟨o,h1,h2,n,h3⟩,hz⟩:=I.tuple hq;obtain⟨as,q1⟩:=bU I hM pd hd r1;have hlen:its.length=ys.length:=by rw[<-rvs.length,rs.length]
 obtain⟨oc,od,odt,osl⟩:=o;cases h2;cases h3;refine call_meets PySem.F.slot_tuple_index ⟨_,h1,rfl⟩ PySem.F.entry_tuple_index (PySem.F.args_tuple_index_2 _ _) (HT.kW a its.toArray n od osl u1 j (by simpa[hlen]using hj)) ⟨h1,fun i hi hij=>?_,?_⟩
 ·have hi':i<ys.length:=by simpa[hlen]using hi
  obtain⟨pq,g1,g2,g3⟩:=hall i ys[i] hij (E2 hi');obtain⟨x1,e1,rx1⟩:=rs.get (E2 hi');obtain⟨u2,e2,ru2⟩:=rvs.get e1;obtain⟨bs,q2⟩:=bU I hM g1 rx1 ru2
  have e3:its.toArray[i]=u2:=by
   have:=Eo.mp e2
   obtain⟨_,e⟩:=this
   simpa using e
  rw[e3,<-g3];have hm:min pq.depth p.depth<=63+1:=ER (Nat.min_le_right _ _) (SeqAt.depth_of_shaped hsh);exact PySem.SeqAt.eqAt_reads _ _ _ _ _ _ _ _ q2 q1 g2 (SeqAt.canLay_of_shaped hsh) (by show X.A.units+1+_<F0;omega)
 ·exact⟨.int _,H,I.tok _,⟨_,rfl⟩,q⟩
theorem zG{o e1:Expr}{to:TE}{t:TA}{apos cpos:Pos}(hu:X.A.units+66<F0)(ho:PE X o to)(ha:PA X [e1] t)
 (hbase:FH o "index" X.env (eval o X.env)=eval o X.env)
 (hfew:((Fn cpos (Eb [e1] X.env)).all (fun x=>!x.1)&&(backToKw cpos (FR [] X.env)).all (fun x=>x.1.isSome)
  && decide ([e1].length+([]:List Gp).length+(if([]:List Gp).isEmpty then 0 else 1)<30))=true)
 (hline:(apos.endLine==cpos.line)=true) (hs:Eb [e1] X.env=(false,eval e1 X.env)::Eb [] X.env) (hplain:(Fn cpos (Eb [] X.env)).any (·.1)=false) :
 PE X (.Call (.Attribute o "index" apos) [e1] [] cpos) (fun σ H Q=>to σ H fun x H1=>(∃p xs,x=.ref p/\SqT X.K H1 p xs)/\t σ H1 fun vs H2=>C4 X.K x vs H2 Q):=by
 intro pins s σ H Q I h
 refine wpAny_Call_method_late hbase hfew hline rfl (thn (ho pins s σ H _ I h) fun v s1 zz1_0=>?_)
 obtain⟨x,H1,I1,r1,⟨p,xs,ex,hq⟩,q1⟩:=zz1_0
 subst ex
 cases r1
 obtain⟨its,_,⟨ob,g1,g2,_⟩,_⟩:=I1.tuple hq
 obtain⟨o2,g3,g4⟩:=I1.zB hq
 refine⟨"tuple","tuple.index",PySem.F.plainAttrs_tuple,PySem.F.slot_tuple_index,PySem.F.type_tuple_index,⟨ob,g1,g2⟩,fun a e=>by cases e;exact⟨o2,g3,g4⟩,?_⟩
 have hA:=ha cpos pins s1 σ H1 _ I1 q1
 rw[hs]at hA ⊢
 refine Gb (by show(false||(Fn cpos (Eb [] X.env)).any (·.1))=false;rw[hplain]<;>rfl) (Calls.evalArgs_plain ?_)
 exact thn hA fun us s2 zz2_0=>by obtain⟨vs,H2,I2,r2,q2⟩:=zz2_0;exact(AD hu pins s2 σ H2 (.ref p) vs (.ref p) us Q I2 rfl r2 q2)
variable{o e1:Expr}{to:TD}{t:TAD}{apos cpos:Pos}
theorem pf(hu:X.A.units+66<F0)(ho:DE X o to)(ha:DA X [e1] t)
 (hbase:FH o "index" X.env (eval o X.env)=eval o X.env:=by rfl)
 (hfew:((Fn cpos (Eb [e1] X.env)).all (fun x=>!x.1)&&(backToKw cpos (FR [] X.env)).all (fun x=>x.1.isSome)
  && decide ([e1].length+([]:List Gp).length+(if([]:List Gp).isEmpty then 0 else 1)<30))=true:=by rfl)
 (hline:(apos.endLine==cpos.line)=true:=by rfl) (hs:Eb [e1] X.env=(false,eval e1 X.env)::Eb [] X.env:=by rfl) (hplain:(Fn cpos (Eb [] X.env)).any (·.1)=false:=by rfl) :
 DE X (.Call (.Attribute o "index" apos) [e1] [] cpos) (Cd to t):=
 aO (zG hu ho ha hbase hfew hline hs hplain) fun σ H Q ⟨δ,M,R,hsl,hM,q,fin⟩=>by
  refine⟨δ,M,_,hsl,hM,q,fun x M1 v H1 g1 r1 a1 zz3_0=>?_⟩
  obtain⟨ys,ex,q1⟩:=zz3_0
  subst ex
  have r1':=r1
  rw[Rep]at r1
  obtain⟨a,xs,rfl,hq,rs⟩:=r1
  refine⟨⟨a,xs,rfl,hq⟩,δ,M1,_,hsl.mono g1,a1,q1,fun ds M2 us H2 g2 r2 a2 zz4_0=>?_⟩
  obtain⟨d,p,j,ed,hj,pd,hsh,hall,q2⟩:=zz4_0
  subst ed
  obtain⟨u1,rfl,ru1⟩:=bN r2
  exact⟨a,ys,M2,u1,d,p,j,rfl,rfl,a2,r1'.mono g2,ru1,hj,pd,hsh,hall,fin _ _ _ _ (g1.trans g2) (by rw[Rep]) a2 q2⟩
def C3(te:TD):TTD:=fun δ M Q=>te δ M fun x M1=>∃l xs,x=.ref l/\M1 l=some (.lst xs)/\Q (!xs.isEmpty) M1
theorem zL{e:Expr}{te:TD}(he:DE X e te)(hw:∀whole,isTrue e X.env whole=(do let v <-whole;standAt e.pos;holding [v] (truthy v)):=by intro _;rfl):DT X e (C3 te):=
 j6 (tL he hw) fun σ H Q ⟨δ,M,R,hs,hM,q,fin⟩=>⟨δ,M,_,hs,hM,q,fun x M1 v H1 g1 r1 a1 ⟨l,xs,ex,hl,q1⟩=>by
  subst ex
  rw[Rep]at r1;subst r1
  obtain⟨ys,hy,ry⟩:=a1 _ _ hl
  refine⟨_,.inl ⟨ys,SqL.of hy,rfl⟩,?_⟩
  have e:ys.isEmpty=xs.isEmpty:=by
   have:=ry.length
   cases xs<;>cases ys<;>simp at this ⊢
  rw[e]
  exact fin _ _ _ g1 a1 q1⟩
end
open PySem PySem.W PySem.Spec PySem.Calls PyProof.Rows Builtin Builtin.ObjectAttr Builtin.Getset_descriptor
section
variable{prog:Ee}{w:EB}{A:EE}{E:D4->D6->Prop}{h:Heap}{g:Array GenState}{d:Drawn}{t:Nat}{os:OsState}{K:Frag}{a C:Addr}{o:Obj}
end
section
variable{P:Ee}{w:EB}{outer:List Env}{H H':Hp}{s s':D6}{a C:Addr}
end
section
variable{P:Ee}{w:EB}{K:D5}{mg:Str->Option D4}{base:Heap}{N:List Str}{qual:Str}{scope:G5}{f:Addr}{cd:D4}{A:EE}{outer:List Env}{s:D6}{H:Hp}{E:XK}
end
section
variable{P:Ee}{w:EB}{K:D5}{mg:Str->Option D4}{base:Heap}{N:List Str}{qual:Str}{scope:G5}{f:Addr}{cd:D4}{A:EE}{outer:List Env}{s:D6}{H:Hp}{E:XK}
end
section
variable{P:Ee}{w:EB}{K:D5}{mg:Str->Option D4}{base:Heap}
end
section
variable{X:Cx}{pins:List (Addr×Obj)}{σ:L2.St}{H:Hp}{s:D6}{a:Addr}
end
section
variable{Y:Cx}{k:Nat}{f:Addr}{fd:Gw}{ps:List Str}{sp:Sp}{x:Str}{p pos:Pos}{e:Expr}{es:List Expr}{t:TA}
end
section
variable{Y:Cx}
end
section
variable{X:Cx}
variable{o e1:Expr}{to:TD}{t:TAD}{apos cpos:Pos}
end
section
variable{K:D5}{x y:Str}{C D:Addr}{b:Bool}
end
section
variable{prog:Ee}{w:EB}{A:EE}{E:D4->D6->Prop}{s:D6}{K:D5}{e C t0:Addr}{oe:Obj}{vs:Array D4}{m:Str}{tk:Tok}
end
section
variable{X:Cx}{pins:List (Addr×Obj)}{σ:L2.St}{H:Hp}{s:D6}{a:Addr}
end
section
variable{X:Cx}{c:Str}{C:Addr}{np cpos pos p:Pos}{e₀:Expr}{te:TA}
end
section
variable{K:D5}{x:Str}{C:Addr}
end
section
variable{X:Cx}{pos:Pos}
variable{x:Str}{e1 e2:Expr}{kt:Nat}{tp np:Pos}{t:TAD}
end
def two(elt t1 i1 t2 i2:Expr)(scope:G5)(pos:Pos):Expr:=.ListComp elt [⟨t1,i1,[],0⟩,⟨t2,i2,[],0⟩] scope pos
theorem B2(elt t1 i1 t2 i2:Expr)(scope:G5)(pos:Pos)(it acc:D4)(env:Env):compTurn (two elt t1 i1 t2 i2 scope pos) 0 it acc env=(do
 standAt i1.pos
 match <-pyNext it with
 |none=>pure (.done .next)
 |some v=>
  FJ t1 it v
  GJ t1 env v
  let x <-eval i2 env
  standAt i2.pos
  let x <-Eu i2 env x
  let _ <-runOwn (.compStart (two elt t1 i1 t2 i2 scope pos) 1 (<-holding [x] (pyIter x)) acc env) env
  again (.compLoop (two elt t1 i1 t2 i2 scope pos) 0 it acc env)):=by rfl
theorem Cr(elt t1 i1 t2 i2:Expr)(scope:G5)(pos:Pos)(it acc:D4)(env:Env):compTurn (two elt t1 i1 t2 i2 scope pos) 1 it acc env=(do
 standAt i2.pos
 match <-pyNext it with
 |none=>pure (.done .next)
 |some v=>
  FJ t2 it v
  GJ t2 env v
  (do let _ <-call (.builtin "list.append") [acc,<-eval elt env])
  again (.compLoop (two elt t1 i1 t2 i2 scope pos) 1 it acc env)):=by rfl
section
variable{prog:Ee}{w:EB}{A:EE}{R:Result->D6->Prop}{s:D6}{elt t1 i1 t2 i2:Expr}{scope:G5}{pos:Pos}{it acc:D4}{env:Env}
theorem AJ(h0:FX (Ef prog w) A (.compLoop (two elt t1 i1 t2 i2 scope pos) 1 it acc env) R s)
 (h:E7 (Ef prog w) A (pyIter it) (fun it' s'=>FX (Ef prog w) A (.compLoop (two elt t1 i1 t2 i2 scope pos) 1 it' acc env) R s') (notedBy (Ef prog w) A env fun x s'=>R (.error x) s') s) :
 FX (Ef prog w) A (.compStart (two elt t1 i1 t2 i2 scope pos) 1 it acc env) R s:=by
 refine codeAny_of_tree ?_
 show E7 _ _ ((compStart (two elt t1 i1 t2 i2 scope pos) 1 it acc env).onRaise (fun x=>do noteFrame x env;standAt theWindowsPlace)) _ _ s
 refine wpAny_notedAt ?_
 unfold compStart
 show E7 _ _ (ask >>= _) _ _ s
 refine cc (wpAny_askSetting (wpAny_ite ?_))
 split
 ·first
   |exact cc (E1 (E1 (And.intro rfl h0)))
   |exact E1 (And.intro rfl h0)
 ·refine cc (wpAny_rule ?_)
  show E7 _ _ (standAt i2.pos >>= _) _ _ s
  exact cc (Fx (cc (Ed h (fun it' s' h'=>E1 (And.intro rfl h')) fun _ _ x=>x)))
theorem BD(J:Nat->D6->Prop)
 (step:∀n s,J n s->E7 (Ef prog w) A (pyNext it) (fun r s1=>match r with
  |none=>R (.ok .next) s1
  |some v=>E7 (Ef prog w) A (FJ t2 it v) (fun _ s2=>E7 (Ef prog w) A (GJ t2 env v) (fun _ s3=>
   E7 (Ef prog w) A (eval elt env) (fun x s5=>E7 (Ef prog w) A (call (.builtin "list.append") [acc,x]) (fun _ s6=>∃m,m<n/\J m s6) NoE s5) NoE s3) NoE s2) NoE s1) NoE s)
 (n:Nat) (h:J n s):FX (Ef prog w) A (.compLoop (two elt t1 i1 t2 i2 scope pos) 1 it acc env) R s:=by
 have no:∀{E:D4->D6->Prop} e s',NoE e s'->E e s':=fun _ _ z=>z.elim
 refine codeAny_loop rfl J (fun n s hJ=>?_) n h
 show E7 _ _ (Sem.onRaise (compTurn (two elt t1 i1 t2 i2 scope pos) 1 it acc env) (fun x=>do noteFrame x env;theTreesLotGoes x)) _ _ s
 refine wpAny_noted ?_
 rw[Cr]
 refine cc (Fx (cc (Ed (step n s hJ) (fun r s1 h1=>?_) no)))
 cases r with
 |none=>exact E1 h1
 |some v=>
  refine cc (Ed h1 (fun _ s2 h2=>cc (Ed h2 (fun _ s3 h3=>?_) no)) no)
  exact cc (cc (Ed h3 (fun x s5 h5=>cc (Ed h5 (fun _ s6 h6=>E1 (E1 ⟨rfl,h6⟩)) no)) no))
theorem Cy(J:Nat->D6->Prop)(hfs:∀x,Eu i2 env x=pure x)
 (step:∀n s,J n s->E7 (Ef prog w) A (pyNext it) (fun r s1=>match r with
  |none=>R (.ok .next) s1
  |some v=>E7 (Ef prog w) A (FJ t1 it v) (fun _ s2=>E7 (Ef prog w) A (GJ t1 env v) (fun _ s3=>
   E7 (Ef prog w) A (eval i2 env) (fun x s4=>E7 (Ef prog w) A (pyIter x) (fun it2 s5=>FX (Ef prog w) A (.compStart (two elt t1 i1 t2 i2 scope pos) 1 it2 acc env) (fun r s6=>match r with
    |.ok _=>∃m,m<n/\J m s6
    |.error e=>False) s5) NoE s4) NoE s3) NoE s2) NoE s1) NoE s)
 (n:Nat) (h:J n s):FX (Ef prog w) A (.compLoop (two elt t1 i1 t2 i2 scope pos) 0 it acc env) R s:=by
 have no:∀{E:D4->D6->Prop} e s',NoE e s'->E e s':=fun _ _ z=>z.elim
 refine codeAny_loop rfl J (fun n s hJ=>?_) n h
 show E7 _ _ (Sem.onRaise (compTurn (two elt t1 i1 t2 i2 scope pos) 0 it acc env) (fun x=>do noteFrame x env;theTreesLotGoes x)) _ _ s
 refine wpAny_noted ?_
 rw[B2]
 refine cc (Fx (cc (Ed (step n s hJ) (fun r s1 h1=>?_) no)))
 cases r with
 |none=>exact E1 h1
 |some v=>
  refine cc (Ed h1 (fun _ s2 h2=>cc (Ed h2 (fun _ s3 h3=>cc (Ed h3 (fun x s4 h4=>?_) no)) no)) no)
  refine cc (Fx ?_)
  rw[hfs]
  refine cc (E1 ?_)
  refine cc (EY (Ed h4 (fun it2 s5 h5=>?_) no))
  refine cc (wpAny_runOwn (codeAny_mono h5 (fun r s6 h6=>?_)))
  cases r with
  |ok f=>exact E1 ⟨rfl,h6⟩
  |error e=>exact h6.elim
end
def Cu(js:List Nat)(wi2:TI)(te:TE)(σ:L2.St)(J:It)(H1:Hp)(Q:VK):Prop:=∀D,H1 D=none->∃W:Nat->Nat->Hp->Prop,(∃m,W 0 m (upd H1 D (.lst [])))/\∀i m H,W i m H->
 (J.stop i H/\Q (.ref D) H)\/(J.go i H/\∀y H',J.yld i H y H'->∀o,wi2 (cσ [some y,o] js σ) H' fun J2 H2=>∃U:Nat->Nat->Hp->Prop,(∃n,U 0 n H2)/\∀j n H3,U j n H3->
  (J2.stop j H3/\∃m',m'<m/\W (i+1) m' H3)\/(J2.go j H3/\∀z H4,J2.yld j H3 z H4->te (cσ [some y,some z] js σ) H4 fun v H5=>∃xs,H5 D=some (.lst xs)/\xs.length<Ea/\∃n',n'<n/\U (j+1) n' (upd H5 D (.lst (xs++[v])))))
def yO(js:List Nat)(wi wi2:TI)(te:TE):TE:=fun σ H Q=>wi σ H fun J H1=>Cu js wi2 te σ J H1 Q
section
variable{X:Cx}{x y:Str}{px py pos:Pos}{js:List Nat}{scope:G5}{elt i1 i2:Expr}{te:TE}{wi wi2:TI}{pins:List (Addr×Obj)}{σ:L2.St}{H:Hp}{s:D6}{fp:List Addr}{it:Addr}{tn:Nat->Heap->Prop}{J:It}
theorem yf(c:CScope X [x,y] js scope)(hc:X.calm=true)(hi2:∀C s H fp,PI (cxC X [x,y] js scope C s H fp) (.Name y py) i2 wi2)(hfs:∀(env:Env) x,Eu i2 env x=pure x)(he:∀C s H fp,PE (cxC X [x,y] js scope C s H fp) elt te)
 {R:D4->Addr->Result->D6->Prop} {E:D4->D6->Prop} {Q:VK}
 (I:Inv X pins σ H s) (T:Turn X.prog X.w X.K (.Name x px) J fp it tn) (st:tn 0 s.heap) (hf:∀b∈fp,cj X pins H b) (wc:Cu js wi2 te σ J H Q)
 (hR:∀D C H' s',Inv X pins σ H' s'->cj X pins H' C->(∃m,s'.heap.Ns C m)->Q (.ref D) H'->R (.ref D) C (.ok .next) s') :
 E7 (Ef X.prog X.w) X.A (newList []) (fun acc s₃=>E7 (Ef X.prog X.w) X.A (newFunctionEnv scope X.env.globals (dU scope.names X.env) [] X.env.qual none .none (some X.env)) (fun cenv s₄=>
  FX (Ef X.prog X.w) X.A (.compStart (two elt (.Name x px) i1 (.Name y py) i2 scope pos) 0 (.ref it) acc { cenv with scope:=relabel scope X.env }) (R acc cenv.locals) s₄) E s₃) E s:=by
 have hg1:∀C s H fp,PG (cxC X [x,y] js scope C s H fp) (.Name x px) (cG 0):=fun _ _ _ _=>dG c 0 rfl
 have hg2:∀C s H fp,PG (cxC X [x,y] js scope C s H fp) (.Name y py) (cG 1):=fun _ _ _ _=>dG c 1 rfl
 have hfp:∀b∈fp,b<s.heap.objs.size:=fun b hb=>let⟨o,e,_⟩:=T.obj 0 _ st b hb;E8 e
 have hD:H s.heap.objs.size=none:=I.hok.fresh (E3 _)
 refine EO (mI ?_)
 generalize hh:s.heap.push { cls:=.type "list",dict:=none,data:=.seq ([]:List D4).toArray }=h3
 generalize hh1:pushCells (({ s with heap:=h3 }:D6).heap.push { cls:=.type "dict",data:=.dict #[] }) scope.names=h₁
 have k3:∀b o,s.heap.get? b=some o->h3.get? b=some o:=fun b o e=>by rw[<-hh];exact D9 _ e
 have I3:Inv X pins σ (upd H s.heap.objs.size (.lst [])) { s with heap:=h3 }:=by
  refine I.laid (t':=s.toks) k3 (E3 _) ?_
  refine⟨EZ _,[],0,.nil,?_⟩
  rw[<-hh]
  exact E6 _ rfl
 have hf3:∀b∈fp,cj X pins (upd H s.heap.objs.size (.lst [])) b:=fun b hb=>⟨by rw[aL (Ex (hfp b hb))];exact(hf b hb).1,(hf b hb).2⟩
 have hsz:h3.objs.size=s.heap.objs.size+1:=by rw[<-hh,Fz]
 have hfp3:∀b∈fp,b<h3.objs.size:=fun b hb=>by rw[hsz];exact Nat.lt_succ_of_lt (hfp b hb)
 have k4:∀b o,h3.get? b=some o->h₁.get? b=some o:=fun b o e=>by rw[<-hh1];exact pushCells_keeps _ _ b o (D9 _ e)
 have I4:=kD c I3 hf3 hfp3 (h':=h₁) hh1.symm k4
 obtain⟨W,⟨m0,w0⟩,turn⟩:=wc _ hD
 have st4:tn 0 h₁:=T.keep 0 _ _ st fun b hb o e=>k4 b o (k3 b o e)
 generalize hX:cxC X [x,y] js scope h3.objs.size { s with heap:=h3 } (upd H s.heap.objs.size (.lst [])) fp=X' at I4
 have fok:∀{pins':List (Addr×Obj)} {H':Hp} {σ':L2.St} {s':D6},Inv X' [] σ' H' s'->(∀b∈fp,H' b=none)->∀b∈fp,cj X' [] H' b:=fun{pins' H' σ' s'} J' hn b hb=>by
  subst hX
  obtain⟨a1,a2⟩:=J'.ok.exf b hb
  exact⟨hn b hb,a1,J'.ok.exfs b hb,.inl hb,a2,fun p hp=>absurd (show p∈([]:List (Addr×Obj))from hp) (by simp)⟩
 have loop:FX (Ef X.prog X.w) X.A (.compLoop (two elt (.Name x px) i1 (.Name y py) i2 scope pos) 0 (.ref it) (.ref s.heap.objs.size) (iP scope h3.objs.size X.env)) (R (.ref s.heap.objs.size) h3.objs.size)
  { s with heap:=h₁ }:=by
  refine Cy (fun n s'=>∃i os H',os.length=2/\Inv X' [] (cσ os js σ) H' s'/\tn i s'.heap/\(∀b∈fp,H' b=none)/\W i n H') (fun x=>hfs _ x) ?_ m0 ⟨0,_,_,by simp,I4,st4,fun b hb=>(hf3 b hb).1,w0⟩
  rintro n s5 ⟨i,os,H5,hl5,I5,st5,fr5,w5⟩
  rcases turn i n H5 w5 with⟨stop,q⟩|⟨go,step⟩
  ·subst hX
   refine Ed (T.done (cxC X [x,y] js scope h3.objs.size { s with heap:=h3 } (upd H s.heap.objs.size (.lst [])) fp) rfl rfl rfl hc i [] s5 _ H5 NoE I5 (fok (pins':=[]) I5 fr5) st5 stop) (fun r s6 z6=>?_) fun _ _ z=>z
   obtain⟨hr,I6⟩:=z6
   subst hr
   refine hR _ _ H5 s6 (I3.uL I6.os I6.base I6.hok I6.bare fun b hb=>⟨(hf3 b hb).2.2.2.1,(hf3 b hb).2.1,(hf3 b hb).2.2.2.2.1,(hf3 b hb).2.2.2.2.2⟩) (I3.n8 (E3 _) I6.free) (let⟨m,hm,_⟩:=I6.loc;⟨m,hm⟩) q
  ·subst hX
   refine Ed (T.item (cxC X [x,y] js scope h3.objs.size { s with heap:=h3 } (upd H s.heap.objs.size (.lst [])) fp) rfl rfl rfl hc i [] s5 _ H5 NoE I5 (fok (pins':=[]) I5 fr5) st5 go) (fun r s6 z6=>?_) fun _ _ z=>z
   obtain⟨u,hr,h6⟩:=z6
   subst hr
   refine Ed h6 (fun _ s7 z7=>?_) fun _ _ z=>z
   obtain⟨yv,H7,I7,r7,y7,st7,fr7⟩:=z7
   have I7':=I7.pinned (fok (pins':=[]) I7 fr7) (T.obj _ _ st7)
   obtain⟨o0,o1,rfl⟩:∃o0 o1,os=[o0,o1]:=by
    exact zy hl5
   refine Ed (hg1 _ _ _ _ _ s7 _ H7 yv u (fun σ' H'=>σ'=cσ [some yv,o1] js σ/\H'=H7) I7' r7 ⟨rfl,rfl⟩) (fun _ s8 zz1_0=>?_) fun _ _ z=>z
   obtain⟨σ8,H8,I8,e8,e8'⟩:=zz1_0
   subst e8 e8'
   have back:∀{m':Nat} {o2:Option V} {H10:Hp} {s10:D6},Inv (cxC X [x,y] js scope h3.objs.size { s with heap:=h3 } (upd H s.heap.objs.size (.lst [])) fp) ([]++eZ fp s7.heap) (cσ [some yv,o2] js σ) H10 s10->m'<n->W (i+1) m' H10->
    ∃m,m<n/\∃i os H',os.length=2/\Inv (cxC X [x,y] js scope h3.objs.size { s with heap:=h3 } (upd H s.heap.objs.size (.lst [])) fp) [] (cσ os js σ) H' s10/\tn i s10.heap/\(∀b∈fp,H' b=none)/\W i m H':=fun{m' o2 H10 s10} I10 hm' w10=>by
    refine⟨m',hm',i+1,_,H10,rfl,I10.dg,T.keep _ _ _ st7 fun b hb o e=>(I10.pin (b,o) (Eh _ (Eh _ (bC hb e)))).1,fun b hb=>?_,w10⟩
    obtain⟨o',e,d⟩:=T.obj _ _ st7 b hb
    exact(I10.pin (b,o') (Eh _ (Eh _ (bC hb e)))).2.1
   refine Ed (hi2 _ _ _ _ _ s8 _ _ _ I8 (step yv H8 y7 o1)) (fun v2 s9 h9=>Ed h9 (fun itv s10 z10=>?_) fun _ _ z=>z) fun _ _ z=>z
   obtain⟨it2,fp2,tn2,J2,H10,e10,I10,T2,st10,f10,U,⟨n0,u0⟩,turn2⟩:=z10
   subst e10
   have loop2:FX (Ef X.prog X.w) X.A (.compLoop (two elt (.Name x px) i1 (.Name y py) i2 scope pos) 1 (.ref it2) (.ref s.heap.objs.size) (iP scope h3.objs.size X.env)) (fun r s6=>match r with
    |.ok _=>∃m,m<n/\∃i os H',os.length=2/\Inv (cxC X [x,y] js scope h3.objs.size { s with heap:=h3 } (upd H s.heap.objs.size (.lst [])) fp) [] (cσ os js σ) H' s6/\tn i s6.heap/\(∀b∈fp,H' b=none)/\W i m H'
    |.error e=>False) s10:=by
    refine BD (fun n2 s'=>∃j o2 H',Inv (cxC X [x,y] js scope h3.objs.size { s with heap:=h3 } (upd H s.heap.objs.size (.lst [])) fp) ([]++eZ fp s7.heap) (cσ [some yv,o2] js σ) H' s'/\tn2 j s'.heap/\(∀b∈fp2,H' b=none)/\U j n2 H') ?_ n0 ⟨0,o1,H10,I10,st10,fun b hb=>(f10 b hb).1,u0⟩
    rintro n2 s11 ⟨j,o2,H11,I11,st11,fr11,u11⟩
    rcases turn2 j n2 H11 u11 with⟨stop2,m',hm',w'⟩|⟨go2,step2⟩
    ·refine Ed (T2.done (cxC X [x,y] js scope h3.objs.size { s with heap:=h3 } (upd H s.heap.objs.size (.lst [])) fp) rfl rfl rfl hc j _ s11 _ H11 NoE I11 (fun b hb=>⟨fr11 b hb,(f10 b hb).2⟩) st11 stop2) (fun r s12 zz2_0=>?_) fun _ _ z=>z
     obtain⟨hr,I12⟩:=zz2_0
     subst hr
     exact back I12 hm' w'
    ·refine Ed (T2.item (cxC X [x,y] js scope h3.objs.size { s with heap:=h3 } (upd H s.heap.objs.size (.lst [])) fp) rfl rfl rfl hc j _ s11 _ H11 NoE I11 (fun b hb=>⟨fr11 b hb,(f10 b hb).2⟩) st11 go2) (fun r s12 zz3_0=>?_) fun _ _ z=>z
     obtain⟨u2,hr,h12⟩:=zz3_0
     subst hr
     refine Ed h12 (fun _ s13 zz4_0=>?_) fun _ _ z=>z
     obtain⟨zv,H13,I13,r13,y13,st13,fr13⟩:=zz4_0
     have I13':=I13.pinned (fun b hb=>⟨fr13 b hb,(f10 b hb).2⟩) (T2.obj _ _ st13)
     refine Ed (hg2 _ _ _ _ _ s13 _ H13 zv u2 (fun σ' H'=>σ'=cσ [some yv,some zv] js σ/\H'=H13) I13' r13 ⟨rfl,rfl⟩) (fun _ s14 zz5_0=>?_) fun _ _ z=>z
     obtain⟨σ14,H14,I14,e14,e14'⟩:=zz5_0
     subst e14 e14'
     refine Ed (he _ _ _ _ _ s14 _ _ _ I14 (step2 zv H14 y13)) (fun v s15 zz6_0=>?_) fun _ _ z=>z
     obtain⟨vv,H15,I15,r15,ys,hd15,hl15,q15⟩:=zz6_0
     refine Ed (gJ (X:=(cxC X [x,y] js scope h3.objs.size { s with heap:=h3 } (upd H s.heap.objs.size (.lst [])) fp)) _ s15 _ H15 (.ref s.heap.objs.size) [vv] (.ref s.heap.objs.size) [v] (fun _ H'=>∃n',n'<n2/\U (j+1) n' H') I15 rfl (.cons r15 .nil) ⟨_,ys,vv,rfl,rfl,hd15,hl15,q15⟩) (fun _ s16 zz7_0=>?_) fun _ _ z=>z
     obtain⟨_,H16,I16,_,n',hn',w16⟩:=zz7_0
     refine⟨n',hn',j+1,_,H16,I16.dg,T2.keep _ _ _ st13 fun b hb o e=>(I16.pin (b,o) (Eh _ (Eh _ (bC hb e)))).1,fun b hb=>?_,w16⟩
     obtain⟨o',e,d⟩:=T2.obj _ _ st13 b hb
     exact(I16.pin (b,o') (Eh _ (Eh _ (bC hb e)))).2.1
   exact AJ loop2 (T2.self X.A 0 _ _ _ st10 loop2)
 exact codeAny_compStart_list loop (T.self X.A 0 _ _ _ st4 loop)
theorem Ba(c:CScope X [x,y] js scope)(hc:X.calm=true)(hi:PI X (.Name x px) i1 wi)(hi2:∀C s H fp,PI (cxC X [x,y] js scope C s H fp) (.Name y py) i2 wi2)(he:∀C s H fp,PE (cxC X [x,y] js scope C s H fp) elt te) (hs:∀x,Eu i1 X.env x=pure x:=by intro _;rfl) (hfs:∀(env:Env) x,Eu i2 env x=pure x:=by intro _ _;rfl) : PE X (two elt (.Name x px) i1 (.Name y py) i2 scope pos) (yO js wi wi2 te):=by intro pins s σ H Q I h;unfold two;rw[eval_ListComp];refine wpAny_comprehension_free (use:=none) rfl hs (c.xt I.ok) c.kind c.names (thn (hi pins s σ H _ I h) fun v s1 h1=>thn h1 fun itv s2 zz8_0=>?_);obtain⟨it,fp,tn,J,H2,e,I2,T,st,f2,w⟩:=zz8_0;subst e;refine yf (R:=fun acc C=>compPost (Ef X.prog X.w) X.A X.xe none (EP X pins σ Q) acc C) c hc hi2 hfs he I2 T st f2 w fun D C H' s' I' fC zz9_0 q=>?_;obtain⟨m,hm⟩:=zz9_0;exact⟨m,hm,fun h' hsb=>⟨.ref D,H',I'.turned (t':=s'.toks) (fun b o ne e=>hsb.extBut b o ne e) fC.1 fC.2.1 fC.2.2.2.1 fC.2.2.2.2.1 fC.2.2.2.2.2,rfl,q⟩⟩
end
def Bv(I:ItD)(js:List Nat)(wd2:TID)(te:TD)(δ:DS)(M1:MH)(Q:DK):Prop:=I.n<=1000/\∀p,M1 p=none->∃W:Nat->List D->MH->Prop,W 0 [] (aq M1 p (.lst []))/\(∀i ys M,i<=I.n->W i ys M->I.C M)/\
 (∀i ys d M,i<I.n->I.item i=some d->W i ys M->wd2 (cδ [some d,none] js δ) M fun I2 M2=>I2.n<=1000/\∃U:Nat->List D->MH->Prop,U 0 ys M2/\(∀j zs M,j<=I2.n->U j zs M->I2.C M)/\
  (∀j zs e M,j<I2.n->I2.item j=some e->U j zs M->te (cδ [some d,some e] js δ) M fun v M'=>∃M3,Sub M3 M'/\M3 p=some (.lst zs)/\U (j+1) (zs++[v]) (aq M3 p (.lst (zs++[v]))))/\∀zs M,U I2.n zs M->W (i+1) zs M)/\∀ys M,W I.n ys M->Q (.ref p) M
def yF(wd:TID)(js:List Nat)(wd2:TID)(te:TD):TD:=fun δ M Q=>wd δ M fun I M1=>Bv I js wd2 te δ M1 Q
theorem p9{K:D5}{H:Hp}{d:D}{v:V}(o:Option V)(r:Rep K H d v):Slots K H [some d,none] [some v,o]:=by
 refine⟨rfl,fun i e h=>?_⟩
 match i,h with
 |0,h=>cases h;exact⟨v,rfl,r⟩
 |1,h=>cases h
theorem pY{K:D5}{H:Hp}{d e:D}{v u:V}(r:Rep K H d v)(q:Rep K H e u):Slots K H [some d,some e] [some v,some u]:=fu (.cons r (.cons q .nil))
theorem ue{K:D5}{wd wd2:TID}{js:List Nat}{te:TD}{σ:L2.St}{H:Hp}{Q:VK}(h:lift K (yF wd js wd2 te) σ H Q):yO js (jB K wd) (jB K wd2) (lift K te) σ H Q:=by
 obtain⟨δ,M,R,hs,hM,q,fin⟩:=h;refine⟨δ,M,_,hs,hM,q,fun I M1 H1 J g1 a1 kc io p hp=>?_⟩;obtain⟨hn,kc⟩:=kc;obtain⟨W,w0,hC,turn,done⟩:=kc p (a1.fresh hp);refine⟨fun i m H2=>m=I.n-i/\i<=I.n/\Grow K H1 H2/\∃ys M,ys.length<=i*1000/\Abs K H2 M/\W i ys M,⟨I.n,by simp,EZ _,.new hp,[],_,EZ _,a1.gh hp .nil,w0⟩,?_⟩;rintro i m H2 ⟨rfl,hi,g2,ys,M2,hl,a2,w2⟩;by_cases hin:i<I.n
 ·refine .inr ⟨io.go i H2 M2 hin g2 a2 (hC _ _ _ hi w2),fun v H3 hy o=>?_⟩;obtain⟨g3,a3,d,ed,rd⟩:=io.yld i H2 M2 v H3 hin g2 a2 (hC _ _ _ hi w2) hy;have q3:=turn i ys d M2 hin ed w2;refine⟨cδ [some d,none] js δ,M2,_,gG (js:=js) (hs.mono ((g1.trans g2).trans g3)) (p9 o rd),a3,q3,fun I2 M4 H4 J2 g4 a4 kc2 io2=>?_⟩;obtain⟨hn2,U,u0,hC2,turn2,done2⟩:=kc2;refine⟨fun j n H5=>n=I2.n-j/\j<=I2.n/\Grow K H4 H5/\∃zs M,zs.length<=i*1000+j/\Abs K H5 M/\U j zs M,⟨I2.n,by simp,EZ _,.refl,ys,M4,by omega,a4,u0⟩,?_⟩;rintro j n H5 ⟨rfl,hj,g5,zs,M5,hl5,a5,w5⟩;by_cases hjn:j<I2.n
  ·refine .inr ⟨io2.go j H5 M5 hjn g5 a5 (hC2 _ _ _ hj w5),fun u H6 hy6=>?_⟩;obtain⟨g6,a6,e,ee,re⟩:=io2.yld j H5 M5 u H6 hjn g5 a5 (hC2 _ _ _ hj w5) hy6;have s6:=gG (js:=js) (hs.mono (((((g1.trans g2).trans g3).trans g4).trans g5).trans g6)) (pY (rd.mono ((g4.trans g5).trans g6)) re);refine⟨cδ [some d,some e] js δ,M5,_,s6,a6,turn2 j zs e M5 hjn ee w5,fun vv M' uu H7 g7 r7 a7 zz10_0=>?_⟩;obtain⟨M8,s8,e8,w8⟩:=zz10_0;obtain⟨ts,hx,rs⟩:=(a7.sub s8) _ _ e8;refine⟨ts,hx,?_,I2.n-(j+1),by omega,rfl,hjn,((g5.trans g6).trans g7).trans (.lst hx),zs++[vv],_,by simp;omega,(a7.sub s8).pE hx (rs.append (.cons r7 .nil)),w8⟩;rw[<-rs.length];have sz:1000000<=Ea:=nbL rfl;omega
  ·obtain rfl:j=I2.n:=by omega
   exact .inl ⟨io2.stop H5 M5 g5 a5 (hC2 _ _ _ hj w5),I.n-(i+1),by omega,rfl,hin,((g2.trans g3).trans g4).trans g5,zs,M5,by omega,a5,done2 _ _ w5⟩
 ·obtain rfl:i=I.n:=by omega
  exact .inl ⟨io.stop H2 M2 g2 a2 (hC _ _ _ hi w2),fin _ _ _ _ (g1.trans g2) (by rw[Rep]) a2 (done ys M2 w2)⟩
section
variable{X:Cx}{x y:Str}{px py pos:Pos}{js:List Nat}{scope:G5}{elt i1 i2:Expr}{te:TD}{wd wd2:TID}
theorem um(c:CScope X [x,y] js scope)(hc:X.calm=true)(hi:DI X (.Name x px) i1 wd)(hi2:∀C s H fp,DI (cxC X [x,y] js scope C s H fp) (.Name y py) i2 wd2)(he:∀C s H fp,DE (cxC X [x,y] js scope C s H fp) elt te) (hs:∀x,Eu i1 X.env x=pure x:=by intro _;rfl) (hfs:∀(env:Env) x,Eu i2 env x=pure x:=by intro _ _;rfl) : DE X (.ListComp elt [⟨.Name x px,i1,[],0⟩,⟨.Name y py,i2,[],0⟩] scope pos) (yF wd js wd2 te):=aO (Ba (te:=lift X.K te) (wi2:=jB X.K wd2) c hc hi hi2 he hs hfs) fun _ _ _ h=>ue h
end
section
variable{prog:Ee}{w:EB}{A:EE}{E:D4->D6->Prop}{s:D6}
end
section
variable{X:Cx}{e st:Expr}{pos p2:Pos}
end
section
variable{X:Cx}
end
abbrev SpK:=Int×Int×Int×Int
section
variable{P:Ee}{w:EB}
def p8(P:Ee)(w:EB)(h:Heap)(n d:Int)(a:Addr):Prop:=IsTupleKey (intKind P w) h [n,d] a
def eO(P:Ee)(w:EB)(h:Heap)(k:SpK)(a:Addr):Prop:=∃o b c m,h.get? a=some o/\o.cls=.type "tuple"/\o.data=.seq #[.ref b,.ref c] m/\p8 P w h k.1 k.2.1 b/\p8 P w h k.2.2.1 k.2.2.2 c
theorem eO.inj{h:Heap}{a:Addr}{x y:SpK}(p:eO P w h x a)(q:eO P w h y a):x=y:=by
 obtain⟨o,b,c,m,h1,h2,h3,h4,h5⟩:=p;obtain⟨o',b',c',m',g1,g2,g3,g4,g5⟩:=q;rw[h1]at g1;cases g1;rw[h3]at g3;injection g3 with e _;have e1:b=b'/\c=c':=by simpa using e
 obtain⟨rfl,rfl⟩:=e1;have i1:=IsTupleKey.inj h4 g4;have i2:=IsTupleKey.inj h5 g5;obtain⟨x1,x2,x3,x4⟩:=x;obtain⟨y1,y2,y3,y4⟩:=y;simp at i1 i2;obtain⟨rfl,rfl⟩:=i1;obtain⟨rfl,rfl⟩:=i2;rfl
theorem eO.keeps{h h':Heap}{k:SpK}{a d:Addr}{o:Obj}{es:Array Fe}{ep:Nat}(p:eO P w h k a)(hd:h.get? d=some o)(he:o.data=.dict es ep)(sb:G8 d h h'):eO P w h' k a:=by
 obtain⟨oa,b,c,m,h1,h2,h3,h4,h5⟩:=p;have ne:a≠d:=fun z=>by rw[z,hd]at h1;cases h1;rw[he]at h3;cases h3
 exact⟨oa,b,c,m,(sb.2 a ne).trans h1,h2,h3,IsTupleKey.keeps h4 hd he sb,IsTupleKey.keeps h5 hd he sb⟩
def vP(P:Ee)(w:EB)(k:SpK):Int:=reduceHash (Builtin.Tuple.tupleHashOf [tupleKeyHash (intKind P w) [k.1,k.2.1],tupleKeyHash (intKind P w) [k.2.2.1,k.2.2.2]])
theorem eO.hash{A:EE}{E:D4->D6->Prop}{s:D6}{k:SpK}{a:Addr}{Q:Int->D6->Prop}(hu:A.units+4<F0)(p:eO P w s.heap k a)(q:Q (vP P w k) { s with toks:=s.toks+7 }):E7 (Ef P w) A (pyHash (.ref a)) Q E s:=by
 obtain⟨o,b,c,m,h1,h2,h3,h4,h5⟩:=p;obtain⟨hp,g,d,tk,os⟩:=s;show E7 _ _ (pyHashByItsType (.ref a)) _ _ _;refine PySem.W.pyHash_slot (T:="tuple") ⟨o,h1,h2⟩ F.slot_tuple_hash F.entry_tuple_hash (F.args_tuple_hash_1 _) rfl (.inr (by omega)) ?_;unfold GP.«tuple.__hash__»;simp only[<-Array.forIn_toList]
 iterate 4 wp_step
 refine E1 ?_;refine cc (wpAny_tupleItemsOf h1 h3 ?_);refine cc ?_;simp only[List.forIn_cons,List.forIn_nil,pure_bind,bind_assoc];refine cc (wpAny_pyHash_tuple (knd:=intKind P w) (by show A.units+1<F0;omega) h4 ?_);refine cc (wpAny_pyHash_tuple (knd:=intKind P w) (by show A.units+1<F0;omega) h5 ?_);refine E1 ?_;unfold retInt
 wp_walk
 exact⟨_,_,rfl,q⟩
theorem f7{n:Int}{v:D4}(h:(intKind P w).is n v=true):∃t,v=.int n t:=by
 have h:Value.isInt n v=true:=h;cases v with
 |int i t=>
  have:(i==n)=true:=h
  exact⟨t,by rw[eq_of_beq this]⟩
 |_=>cases h
def wI(n d:Int):FT:=.tuple [.int n,.int d]
def oj(k:SpK):FT:=.tuple [wI k.1 k.2.1,wI k.2.2.1 k.2.2.2]
theorem p8.reads{h:Heap}{n d:Int}{a:Addr}(p:p8 P w h n d a):∃as,Reads h (.ref a) (wI n d) as:=by
 obtain⟨o,items,m,h1,h2,h3,h4⟩:=p;generalize hl:items.toList=l at h4;cases h4 with
 |cons hx r=>
  cases r with
  |cons hy r=>
   cases r
   obtain⟨t1,rfl⟩:=f7 hx
   obtain⟨t2,rfl⟩:=f7 hy
   exact⟨_,.tuple h1 h2 h3 (by rw[hl];exact .cons (.int _ _) (.cons (.int _ _) .nil))⟩
theorem eO.reads{h:Heap}{k:SpK}{a:Addr}(p:eO P w h k a):∃as,Reads h (.ref a) (oj k) as:=by obtain⟨o,b,c,m,h1,h2,h3,h4,h5⟩:=p;obtain⟨as,r1⟩:=h4.reads;obtain⟨bs,r2⟩:=h5.reads;exact⟨_,.tuple h1 h2 h3 (.cons r1 (.cons r2 .nil))⟩
theorem wq(x y:SpK):(oj x).eqv (oj y)=decide (x=y):=by obtain⟨x1,x2,x3,x4⟩:=x;obtain⟨y1,y2,y3,y4⟩:=y;simp only[oj,wI,EH,Fj,Bool.and_true];rw[Bool.eq_iff_iff];simp[and_assoc]
theorem eO.eq{A:EE}{E:D4->D6->Prop}{s:D6}{x y:SpK}{a b:Addr}{Q:Bool->D6->Prop}(hu:A.units+4<F0)(p:eO P w s.heap x a)(p':eO P w s.heap y b)(q:Q (decide (x=y)) s):E7 (Ef P w) A (eqBool (.ref a) (.ref b)) Q E s:=by obtain⟨as,r1⟩:=p.reads;obtain⟨bs,r2⟩:=p'.reads;have hd:min (oj x).depth (oj y).depth<=3:=ER (Nat.min_le_left _ _) (nbL rfl);have:=SeqAt.eqAt_reads (oj x) (oj y) A s (.ref a) (.ref b) as bs r1 r2 rfl rfl (by omega);rw[wq]at this;exact this P w E Q q
theorem p8.quiet{A:EE}{E:D4->D6->Prop}{s:D6}{n d:Int}{a:Addr}{Q:Bool->D6->Prop}(i:Nat)(p:p8 P w s.heap n d a)(q:Q true s):E7 (Ef P w) A (eqIsQuiet (i+1) (.ref a)) Q E s:=by
 obtain⟨o,items,m,h1,h2,h3,h4⟩:=p;rw[eqIsQuiet.eq_2];refine cc (wpAny_specialOf ⟨o,h1,h2⟩ F.slot_tuple_eq.lookup ?_);refine cc (wpAny_isInstance ⟨o,h1,h2⟩ isSubtype_tuple_tuple ?_);simp only[Bool.not_true,Fb,if_false];refine cc (Gm h1 h3 ?_);simp only[Option.getD_some,<-Array.forIn_toList];generalize hl:items.toList=l at h4;cases h4 with
 |cons hx r=>
  cases r with
  |cons hy r=>
   cases r
   obtain⟨t1,rfl⟩:=f7 hx
   obtain⟨t2,rfl⟩:=f7 hy
   refine cc ?_
   simp only[List.forIn_cons,List.forIn_nil,pure_bind,bind_assoc,eqIsQuiet_byValue i (show carriedByValue (.int n t1)=true from rfl),eqIsQuiet_byValue i (show carriedByValue (.int d t2)=true from rfl),Bool.not_true,Fb,if_false]
   refine E1 ?_
   exact E1 q
theorem eO.quiet{A:EE}{E:D4->D6->Prop}{s:D6}{k:SpK}{a:Addr}{Q:Bool->D6->Prop}(p:eO P w s.heap k a)(q:Q true s):E7 (Ef P w) A (eqIsQuiet 8 (.ref a)) Q E s:=by obtain⟨o,b,c,m,h1,h2,h3,h4,h5⟩:=p;rw[eqIsQuiet.eq_2];refine cc (wpAny_specialOf ⟨o,h1,h2⟩ F.slot_tuple_eq.lookup ?_);refine cc (wpAny_isInstance ⟨o,h1,h2⟩ isSubtype_tuple_tuple ?_);simp only[Bool.not_true,Fb,if_false];refine cc (Gm h1 h3 ?_);simp only[Option.getD_some,<-Array.forIn_toList];refine cc ?_;simp only[List.forIn_cons,List.forIn_nil,pure_bind,bind_assoc];refine cc (h4.quiet 6 ?_);simp only[Bool.not_true,Fb,if_false,pure_bind];refine cc (h5.quiet 6 ?_);simp only[Bool.not_true,Fb,if_false,pure_bind];refine E1 ?_;exact E1 q
def bE(P:Ee)(w:EB):HeapKind P w SpK where
 is:=eO P w
 hash:=vP P w
 draws:=fun _=>7
 room:=fun A=>A.units+4<F0
 inj:=fun p q=>p.inj q
 keeps:=fun p hd he sb=>p.keeps hd he sb
 pyHash:=fun hu p q=>p.hash hu q
 eqBool:=fun hu p p' q=>p.eq hu p' q
 quiet:=fun p q=>p.quiet q
end
section
variable{X:Cx}{pins:List (Addr×Obj)}{σ:L2.St}{H:Hp}{s:D6}{a b:Addr}{k:SpK}
def bj(K:D5)(H:Hp)(b:Addr)(k:SpK):Prop:=∃f g,SqT K H b [.ref f,.ref g]/\SqT K H f [.int k.1,.int k.2.1]/\SqT K H g [.int k.2.2.1,.int k.2.2.2]
theorem vO{n d:Int}{f:Addr}(I:L2.Inv X pins σ H s)(h:SqT X.K H f [.int n,.int d]):p8 X.prog X.w s.heap n d f:=by
 obtain⟨its,r,ht,_⟩:=I.tuple h;cases r with
 |cons a1 r=>cases r with
  |cons a2 r=>
   cases r
   obtain⟨t1,rfl⟩:=a1
   obtain⟨t2,rfl⟩:=a2
   obtain⟨o,h1,h2,m,h3⟩:=ht
   exact⟨o,_,m,h1,h2,h3,.cons (by show((n==n)=true);simp) (.cons (by show((d==d)=true);simp) .nil)⟩
theorem iz(I:L2.Inv X pins σ H s)(h:bj X.K H b k):eO X.prog X.w s.heap k b:=by
 obtain⟨f,g,h1,h2,h3⟩:=h;obtain⟨its,r,ht,_⟩:=I.tuple h1;cases r with
 |cons a1 r=>cases r with
  |cons a2 r=>
   cases r
   cases a1
   cases a2
   obtain⟨o,q1,q2,m,q3⟩:=ht
   exact⟨o,f,g,m,q1,q2,q3,vO I h2,vO I h3⟩
abbrev SpE:=SpK×Addr×V
def aU(P:Ee)(w:EB)(a:Addr)(xs:List SpE):Heap->Prop:=fun h=>(a==Fp)=false/\xs.length<=Ea/\(xs.map (·.1)).Nodup/\∃ys:List (SpK×Addr×D4),
 FL (fun(p:SpE) (q:SpK×Addr×D4)=>p.1=q.1/\p.2.1=q.2.1/\RelV p.2.2 q.2.2) xs ys/\∃o es ep,h.get? a=some o/\o.ExactDict/\o.data=.dict es ep/\es.toList=ys.map (entryOfKey (bE P w))
def cn(xs:List SpE)(k:SpK)(b:Addr)(v:V):List SpE:=if(xs.any fun x=>decide (x.1=k))=true then xs.map (fun x=>if x.1=k then(x.1,x.2.1,v)else x)else xs++[(k,b,v)]
abbrev PrS:=fun(p:SpE) (q:SpK×Addr×D4)=>p.1=q.1/\p.2.1=q.2.1/\RelV p.2.2 q.2.2
theorem dP{xs:List SpE}{ys:List (SpK×Addr×D4)}(r:FL PrS xs ys):ys.map (·.1)=xs.map (·.1):=by
 induction r with
 |nil=>rfl
 |cons h t ih=>rw[D7,D7,ih,h.1]
theorem mf{xs:List SpE}{ys:List (SpK×Addr×D4)}(r:FL PrS xs ys)(k:SpK):(xs.any fun x=>decide (x.1=k))=(Gy ys k).isSome:=by
 induction r with
 |nil=>rfl
 |@cons p q ps qs h t ih=>
  rw[Fy]
  by_cases e:p.1=k
  ·have e':q.1=k:=h.1.symm.trans e;simp[Gy,E9,e,e']
  ·have e':¬q.1=k:=fun z=>e (h.1.trans z);rw[decide_eq_false e,Bool.false_or,ih];simp[Gy,E9,e']
theorem d5{xs:List SpE}{ys:List (SpK×Addr×D4)}(r:FL PrS xs ys)(k:SpK)(b:Addr){v:V}{u:D4}(rv:RelV v u):FL PrS (cn xs k b v) (storedH ys k b u):=by
 unfold cn storedH;rw[mf r k];by_cases e:(Gy ys k).isSome=true
 ·rw[if_pos e,if_pos e];clear e
  induction r with
  |nil=>exact .nil
  |@cons p q ps qs h t ih=>
   rw[D7,D7]
   refine .cons ?_ ih
   unfold putAt
   by_cases e:p.1=k
   ·rw[if_pos e,if_pos (h.1.symm.trans e)];exact⟨h.1,h.2.1,rv⟩
   ·rw[if_neg e,if_neg (fun z=>e (h.1.trans z))];exact h
 ·rw[if_neg e,if_neg e];exact Paired.snoc r ⟨rfl,rfl,rv⟩
theorem fB{xs:List SpE}{ys:List (SpK×Addr×D4)}(r:FL PrS xs ys):xs.length=ys.length:=by
 induction r with
 |nil=>rfl
 |cons h t ih=>rw[EA,EA,ih]
theorem mF{xs:List SpE}{ys:List (SpK×Addr×D4)}(r:FL PrS xs ys){q:SpK×Addr×D4}(h:q∈ys):∃p∈xs,p.1=q.1/\p.2.1=q.2.1:=by
 induction r with
 |nil=>cases h
 |cons h' t ih=>
  rcases EM.mp h with z|z
  ·subst z;exact⟨_,by simp,h'.1,h'.2.1⟩
  ·obtain⟨p,hp,e⟩:=ih z;exact⟨p,by simp[hp],e⟩
theorem gA(xs:List SpE)(k:SpK)(b:Addr)(v:V):(cn xs k b v).length<=xs.length+1:=by
 unfold cn;split
 ·rw[D8];omega
 ·simp
theorem ij{xs:List SpE}(I:L2.Inv X pins σ H s)(e:H a=some (.ext (aU X.prog X.w a xs)))(hk:∀x∈xs,bj X.K H x.2.1 x.1):(a==Fp)=false/\xs.length<=Ea/\∃ys,FL PrS xs ys/\s.heap.DictOfH (bE X.prog X.w) a ys:=by obtain⟨⟨h1,h2,h3,ys,r,o,es,ep,q1,q2,q3,q4⟩,_⟩:=I.hok a _ e;refine⟨h1,h2,ys,r,o,es,ep,q1,q2,q3,q4,fun x hx=>?_,by rw[dP r];exact h3⟩;obtain⟨p,hp,e1,e2⟩:=mF r hx;rw[<-e1,<-e2];exact iz I (hk p hp)
theorem fv{P:Ee}{w:EB}{xs:List SpE}(h1 h2:Heap)(h:aU P w a xs h1)(k:∀o,h1.get? a=some o->h2.get? a=some o):aU P w a xs h2:=by obtain⟨p1,p2,p3,ys,r,o,es,ep,q1,q⟩:=h;exact⟨p1,p2,p3,ys,r,o,es,ep,k o q1,q⟩
theorem i8(I:L2.Inv X pins σ H s):L2.Inv X pins σ (upd H s.heap.objs.size (.ext (aU X.prog X.w s.heap.objs.size []))) { s with heap:=s.heap.push { cls:=.type "dict",data:=.dict #[] } }:=
 I.laid (a:=s.heap.objs.size) (t':=s.toks) (fun _ _ q=>D9 _ q) (E3 _)
  ⟨⟨beq_eq_false_iff_ne.mpr (Ne.symm (Ex I.big)),EZ _,List.nodup_nil,[],.nil,_,#[],0,E6 _ rfl,⟨rfl,rfl,rfl⟩,rfl,rfl⟩,⟨_,E6 _ rfl⟩,fun h1 h2 x y=>fv h1 h2 x y⟩
def bg(xs:List SpE)(k:SpK):Option V:=(xs.find? fun x=>decide (x.1=k)).map (·.2.2)
theorem eA{xs:List SpE}{ys:List (SpK×Addr×D4)}(r:FL PrS xs ys){v:V}(h:bg xs k=some v):∃p:Addr×D4,Gy ys k=some p/\RelV v p.2:=by
 induction r with
 |nil=>cases h
 |@cons p q ps qs h' t ih=>
  by_cases e:p.1=k
  ·have e':q.1=k:=h'.1.symm.trans e;simp[bg,E9,e]at h;subst h;exact⟨q.2,by simp[Gy,E9,e'],h'.2.2⟩
  ·have e':¬q.1=k:=fun z=>e (h'.1.trans z);have h2:bg ps k=some v:=by simpa[bg,E9,e]using h
   obtain⟨p',h3,h4⟩:=ih h2;exact⟨p',by simpa[Gy,E9,e']using h3,h4⟩
theorem mT{A:EE}{E:D4->D6->Prop}{Q:D4->D6->Prop}{xs:List SpE}{v:V}(hu:A.units+8<F0)(I:L2.Inv X pins σ H s)(e:H a=some (.ext (aU X.prog X.w a xs)))(hk:∀x∈xs,bj X.K H x.2.1 x.1)(hb:bj X.K H b k)(hv:bg xs k=some v) (h:∀u s',L2.Inv X pins σ H s'->RelV v u->Q u s'):E7 (Ef X.prog X.w) A (getItem (.ref a) (.ref b)) Q E s:=by obtain⟨hd,hz,ys,r,dd⟩:=ij I e hk;obtain⟨p,h1,h2⟩:=eA r hv;exact wpAny_getItem_heap (knd:=bE X.prog X.w) (show A.in1.units+4<F0 by show A.units+1+4<F0;omega) (iz I hb) dd h1 (h _ _ (I.tok _) h2)
end
section
variable{prog:Ee}{w:EB}{K:Type}[DecidableEq K]{knd:HeapKind prog w K}{A:EE}{E:D4->D6->Prop}{s:D6}
theorem nE{d a:Addr}{xs:List (K×Addr×D4)}{k:K}{v:D4}{Q:D4->D6->Prop}(hu:knd.room A)(hkey:knd.is s.heap k a)(hm:s.heap.DictOfH knd d xs) (h1:∀p,Gy xs k=some p->Q p.2 { s with toks:=s.toks+knd.draws k }) (h2:Gy xs k=none->∀h',h'.DictOfH knd d (storedH xs k a v)->G8 d s.heap h'->Q v { s with heap:=h',toks:=s.toks+knd.draws k }) (hsz:xs.length<=Ea) : E7 (Ef prog w) A (dictSetDefault d (.ref a) v) Q E s:=by
 obtain⟨o,es,ep,ho,hc,hd,he,his,hn⟩:=hm;unfold dictSetDefault
 try with_reducible refine EY ?_
 refine cc (knd.pyHash hu hkey ?_);refine cc (wpAny_dictFind_heap (s:={ s with toks:=s.toks+knd.draws k }) hu hkey ho hd he his hn ?_ ?_)
 ·intro hno;have hnot:k∉xs.map (·.1):=not_mem_keys_of_get hno;have ha:=atKey_none_of_get hno
  refine cc (wpAny_rule (cc (wpAny_updateDictKeys (hz:=by have e:=size_of_entries he;omega) (s:={ s with toks:=s.toks+knd.draws k }) ho hd (E1 (h2 ha _ ⟨_,_,ep+1,Fw _ ho (Obj.isFreed_of_dict (Obj.data_mapDictKeys hd _)),
   hc.mapDictKeys _,Obj.data_mapDictKeys hd _,?_,?_,?_⟩ (G7 ..))))))
  ·rw[storedH_new ha];simp[he,entryOfKey]
  ·rw[storedH_new ha];intro x hx;rcases Ek.mp hx with hx|hx
   ·exact knd.keeps (his x hx) ho hd (G7 ..)
   ·have:x=(k,a,v):=by simpa using hx
    subst this;exact knd.keeps hkey ho hd (G7 ..)
  ·rw[storedH_new ha,Eg,Gz];refine⟨hn,by simp,?_⟩;intro x hx y hy;have:y=k:=by simpa using hy
   subst this;exact fun e=>hnot (e▸hx)
 ·intro j p hj;have ha:=atKey_of_get hn hj;refine cc (wpAny_dictEntries (s:={ s with toks:=s.toks+knd.draws k }) ho hd ?_);rw[entry_at he j,hj];exact cc (wpAny_rule (E1 (h1 p ha)))
theorem iI{d a:Addr}{xs:List (K×Addr×D4)}{k:K}{v:D4}{Q:D4->D6->Prop}(hu:knd.room A.in1)(hkey:knd.is s.heap k a)(hm:s.heap.DictOfH knd d xs)(hd:(d==Fp)=false)
 (h1:∀p,Gy xs k=some p->Q p.2 { s with toks:=s.toks+knd.draws k })
 (h2:Gy xs k=none->∀h',h'.DictOfH knd d (storedH xs k a v)->G8 d s.heap h'->Q v { s with heap:=h',toks:=s.toks+knd.draws k }) (hsz:xs.length<=Ea) :
 E7 (Ef prog w) A (call (.builtin "dict.setdefault") [.ref d,.ref a,v]) Q E s:=by
 refine Gf PySem.F.slot_dict_setdefault hm.typeIs PySem.F.entry_dict_setdefault ?_ (PySem.F.args_dict_setdefault_3 _ _ _)
 unfold GP.«dict.setdefault»
 refine cc ?_
 unfold Builtin.Dict.keyAndDefault
 refine cc (wpAny_notOrdered_dict hm.typeIs ?_)
 show E7 _ _ (pure (d,Fd a,some v)) _ _ s
 refine E1 ?_
 show E7 _ _ (if(d==Fp)=true then _ else(dictSetDefault d (.ref a) v >>= _)) _ _ s
 rw[if_neg (by rw[hd];exact Ei)]
 exact cc (nE hu hkey hm (fun p hp=>E1 ⟨p.2,rfl,h1 p hp⟩) (fun hn h' hm' hs'=>E1 ⟨v,rfl,h2 hn h' hm' hs'⟩) hsz)
end
section
variable{X:Cx}{pins:List (Addr×Obj)}{σ:L2.St}{H:Hp}{s:D6}{a b:Addr}{k:SpK}
theorem kA{xs:List SpE}{ys:List (SpK×Addr×D4)}(r:FL PrS xs ys)(h:bg xs k=none):Gy ys k=none:=by
 induction r with
 |nil=>rfl
 |@cons p q ps qs h' t ih=>
  by_cases e:p.1=k
  ·simp[bg,E9,e]at h
  ·have e':¬q.1=k:=fun z=>e (h'.1.trans z);have h2:bg ps k=none:=by simpa[bg,E9,e]using h
   have:=ih h2;simpa[Gy,E9,e']using this
theorem fW{A:EE}{E:D4->D6->Prop}{Q:D4->D6->Prop}{xs:List SpE}{v:V}{u:D4}(hu:A.units+8<F0)(I:L2.Inv X pins σ H s)(e:H a=some (.ext (aU X.prog X.w a xs)))(hk:∀x∈xs,bj X.K H x.2.1 x.1)(hb:bj X.K H b k)(rv:RelV v u)(hl:xs.length<Ea)
 (h1:∀v' u' s',bg xs k=some v'->L2.Inv X pins σ H s'->RelV v' u'->Q u' s')
 (h2:bg xs k=none->∀s',L2.Inv X pins σ (upd H a (.ext (aU X.prog X.w a (cn xs k b v)))) s'->Q u s'):E7 (Ef X.prog X.w) A (call (.builtin "dict.setdefault") [.ref a,.ref b,u]) Q E s:=by
 obtain⟨hd,hz,ys,r,dd⟩:=ij I e hk
 refine iI (knd:=bE X.prog X.w) (show A.in1.units+4<F0 by show A.units+1+4<F0;omega) (iz I hb) dd hd (fun p hp=>?_) (fun hn h' dd' hs=>?_) (by rw[<-fB r];exact hz)
 ·cases ev:bg xs k with
  |none=>rw[kA r ev]at hp;cases hp
  |some v'=>
   obtain⟨p',h3,h4⟩:=eA r ev
   rw[hp]at h3
   cases h3
   exact h1 v' _ _ ev (I.tok _) h4
 ·have ev:bg xs k=none:=by
   cases ev:bg xs k with
   |none=>rfl
   |some v'=>
    obtain⟨p',h3,_⟩:=eA r ev
    rw[hn]at h3;cases h3
  refine h2 ev _ ?_
  obtain⟨q,es,ep,hq,q2,q3,q4,_,q5⟩:=dd'
  refine gr I (by rw[e];exact True.intro) hs ⟨q,hq⟩ ⟨⟨hd,?_,?_,_,d5 r k b rv,q,es,ep,hq,q2,q3,q4⟩,⟨q,hq⟩,fun h1 h2 x y=>fv h1 h2 x y⟩
  ·have:=gA xs k b v;omega
  ·rw[<-dP (d5 r k b rv)];exact q5
end
section
variable{X:Cx}
def qf(X:Cx):TE:=fun _ H Q=>∀p,H p=none->Q (.ref p) (upd H p (.ext (aU X.prog X.w p [])))
theorem jD{pos:Pos}:PE X (.Dict [] [] pos) (qf X):=fun pins s σ H Q I h=>wpAny_Dict_empty ⟨.ref s.heap.objs.size,_,i8 I,rfl,h _ (I.hok.fresh (E3 _))⟩
structure DsAt(X:Cx)(H:Hp)(a b:Addr)(xs:List SpE)(k:SpK):Prop where
 d:H a=some (.ext (aU X.prog X.w a xs))
 ks:∀x∈xs,bj X.K H x.2.1 x.1
 key:bj X.K H b k
def oR(X:Cx)(td ty:TE):TE:=fun σ H Q=>td σ H fun x H1=>ty σ H1 fun y H2=>∃a b xs k v,x=.ref a/\y=.ref b/\DsAt X H2 a b xs k/\bg xs k=some v/\Q v H2
theorem jM{pins:List (Addr×Obj)}{σ:L2.St}{H:Hp}{s:D6}{a:Addr}{xs:List SpE}(I:L2.Inv X pins σ H s)(e:H a=some (.ext (aU X.prog X.w a xs))):s.TypeIs (.ref a) "dict"/\∀b,Fd a=.ref b->∃o,s.heap.get? b=some o/\o.dict=none:=by obtain⟨⟨_,_,_,_,_,o,_,_,q1,q2,_⟩,_⟩:=I.hok a _ e;exact⟨⟨o,q1,q2.1⟩,fun b z=>by cases z;exact⟨o,q1,q2.2.1⟩⟩
theorem jI{o i:Expr}{td ty:TE}{pos:Pos}(hu:X.A.units+8<F0)(ho:PE X o td)(hi:PE X i ty)(hs:ya i):PE X (.Subscript o i pos) (oR X td ty):=by intro pins s σ H Q I h;refine Subscript_ (thn (ho pins s σ H _ I h) fun v s1 ⟨x,H1,I1,r1,q1⟩=>thn (hi pins s1 σ H1 _ I1 q1) fun u s2 zz1_0=>?_);obtain⟨y,H2,I2,r2,a,b,xs,k,w',ex,ey,D,hv,q⟩:=zz1_0;subst ex ey;cases r1;cases r2;exact tail_any (jM I2 D.d).1 PySem.F.slot_dict_getitem.lookup (mT hu I2 D.d D.ks D.key hv fun u' s' I' r'=>⟨w',H2,I',r',q⟩) (hs _ _)
def vE(X:Cx)(to:TE)(t:TA):TE:=fun σ H Q=>to σ H fun x H1=>∃a xs0,x=.ref a/\H1 a=some (.ext (aU X.prog X.w a xs0))/\t σ H1 fun vs H2=>∃b v xs k,vs=[.ref b,v]/\DsAt X H2 a b xs k/\xs.length<Ea/\
 (∀v',bg xs k=some v'->Q v' H2)/\(bg xs k=none->Q v (upd H2 a (.ext (aU X.prog X.w a (cn xs k b v)))))
theorem mi{o e1 e2:Expr}{to:TE}{t:TA}{apos cpos:Pos}(hu:X.A.units+8<F0)(ho:PE X o to)(ha:PA X [e1,e2] t)
 (hbase:FH o "setdefault" X.env (eval o X.env)=eval o X.env:=by rfl)
 (hfew:((Fn cpos (Eb [e1,e2] X.env)).all (fun x=>!x.1)&&(backToKw cpos (FR [] X.env)).all (fun x=>x.1.isSome)
  && decide ([e1,e2].length+([]:List Gp).length+(if([]:List Gp).isEmpty then 0 else 1)<30))=true:=by rfl)
 (hline:(apos.endLine==cpos.line)=true:=by rfl) (hs:Eb [e1,e2] X.env=(false,eval e1 X.env)::Eb [e2] X.env:=by rfl) (hplain:(Fn cpos (Eb [e2] X.env)).any (·.1)=false:=by rfl) :
 PE X (.Call (.Attribute o "setdefault" apos) [e1,e2] [] cpos) (vE X to t):=by
 intro pins s σ H Q I h
 refine wpAny_Call_method_late hbase hfew hline rfl (thn (ho pins s σ H _ I h) fun v s1 zz3_0=>?_)
 obtain⟨x,H1,I1,r1,a,xs0,ex,e0,q1⟩:=zz3_0
 subst ex
 cases r1
 obtain⟨h1,h2⟩:=jM I1 e0
 refine⟨"dict","dict.setdefault",PySem.F.plainAttrs_dict,PySem.F.slot_dict_setdefault,PySem.F.type_dict_setdefault,h1,h2,?_⟩
 have hA:=ha cpos pins s1 σ H1 _ I1 q1
 rw[hs]at hA ⊢
 refine Gb (by show(false||(Fn cpos (Eb [e2] X.env)).any (·.1))=false;rw[hplain]<;>rfl) (Calls.evalArgs_plain ?_)
 refine thn hA fun us s2 zz4_0=>?_
 obtain⟨vs,H2,I2,r2,b,w',xs,k,ev,D,hl,k1,k2⟩:=zz4_0
 subst ev
 obtain⟨u1,u2,rfl,ru1,ru2⟩:=r2.two
 cases ru1
 exact fW hu I2 D.d D.ks D.key ru2 hl (fun v' u' s' ev I' r'=>⟨v',H2,I',r',k1 v' ev⟩) (fun hn s' I'=>⟨w',_,I',ru2,k2 hn⟩)
end
def spD(k:SpK):D:=.tup [.tup [.int k.1,.int k.2.1],.tup [.int k.2.2.1,.int k.2.2.2]]
section
variable{K:D5}{H H':Hp}{M:MH}{a b:Addr}{k:SpK}
theorem iL{v:V}(r:Rep K H (spD k) v):∃b,v=.ref b/\bj K H b k:=by unfold spD at r;rw[Rep]at r;obtain⟨b,xs,rfl,hx,rs⟩:=r;obtain⟨v1,v2,rfl,r1,r2⟩:=dt rs;rw[Rep]at r1 r2;obtain⟨f,fs,rfl,hf,rf⟩:=r1;obtain⟨g,gs,rfl,hg,rg⟩:=r2;obtain⟨w1,w2,rfl,q1,q2⟩:=dt rf;obtain⟨w3,w4,rfl,q3,q4⟩:=dt rg;rw[Rep]at q1 q2 q3 q4;subst q1 q2 q3 q4;exact⟨b,rfl,f,g,hx,hf,hg⟩
theorem ko(h:bj K H b k):Rep K H (spD k) (.ref b):=by
 obtain⟨f,g,hx,hf,hg⟩:=h;unfold spD;rw[Rep];refine⟨b,_,rfl,hx,?_⟩;have i2:∀(m n:Int),ax K H [D.int m,D.int n] [V.int m,V.int n]:=fun m n=>dJ [m,n];rw[ax];refine⟨_,_,rfl,?_,?_⟩
 ·rw[Rep];exact⟨f,_,rfl,hf,i2 _ _⟩
 ·rw[ax];refine⟨_,_,rfl,?_,?_⟩
  ·rw[Rep];exact⟨g,_,rfl,hg,i2 _ _⟩
  ·rw[ax]
theorem bj.mono(g:Grow K H H')(h:bj K H b k):bj K H' b k:=by obtain⟨b',e,r⟩:=iL ((ko h).mono g);cases e;exact r
abbrev SpT:=List (SpK×D)
def dsA(kvs:SpT):D5->Hp->Addr->Prop:=fun K H a=>∃xs:List SpE,(∀P w,H a=some (.ext (aU P w a xs)))/\xs.map (·.1)=kvs.map (·.1)/\(∀x∈xs,bj K H x.2.1 x.1)/\ax K H (kvs.map (·.2)) (xs.map (·.2.2))
theorem ju{kvs:SpT}(h:dsA kvs K H a)(g:Grow K H H')(e:H' a=H a):dsA kvs K H' a:=by obtain⟨xs,h1,h2,h3,h4⟩:=h;exact⟨xs,fun P w=>e.trans (h1 P w),h2,fun x hx=>(h3 x hx).mono g,h4.mono g⟩
def dsM(kvs:SpT):MO:=.gen (dsA kvs)
theorem Abs.dsp{kvs:SpT}(h:Abs K H M)(e:M a=some (dsM kvs)):dsA kvs K H a:=(h a _ e).1
theorem dsA.nZ{kvs:SpT}(h:dsA kvs K H a)(ne:H a≠none):lY K H a (dsM kvs):=⟨h,ne,fun H' g e=>ju h g e⟩
theorem Abs.qD{p:Addr}(P:Ee)(w:EB)(h:Abs K H M)(hp:H p=none):Abs K (upd H p (.ext (aU P w p []))) (aq M p (dsM [])):=fun a u e=>by
 by_cases ne:a=p
 ·subst ne;rw[af]at e;cases e;exact dsA.nZ ⟨[],(fun P w=>aK),rfl,(fun x hx=>by simp at hx),(by simp[ax])⟩ (by rw[aK];simp)
 ·rw[ai ne]at e;exact(h a u e).eQ (.new hp) (aL ne)
def a9(kvs:SpT)(k:SpK):Option D:=(kvs.find? fun x=>decide (x.1=k)).map (·.2)
def putD(kvs:SpT)(k:SpK)(d:D):SpT:=if(kvs.any fun x=>decide (x.1=k))=true then kvs.map (fun x=>if x.1=k then(x.1,d)else x)else kvs++[(k,d)]
theorem en(k:SpK):∀{kvs:SpT} {xs:List SpE},xs.map (·.1)=kvs.map (·.1)->ax K H (kvs.map (·.2)) (xs.map (·.2.2))->(∀d,a9 kvs k=some d->∃v,bg xs k=some v/\Rep K H d v)/\(a9 kvs k=none->bg xs k=none)/\((xs.any fun x=>decide (x.1=k))=kvs.any fun x=>decide (x.1=k))
 |[],[],_,_=>⟨(fun d h=>by simp[a9]at h),(fun _=>rfl),rfl⟩
 |[],x::xs,h,_=>by cases h
 |y::kvs,[],h,_=>by cases h
 |y::kvs,x::xs,h,r=>by
  rw[D7,D7]at h
  injection h with h1 h2
  rw[D7,D7,ax]at r
  obtain⟨v,vs,e,r1,r2⟩:=r
  injection e with e1 e2
  subst e1 e2
  obtain⟨i1,i2,i3⟩:=en k h2 r2
  by_cases e:y.1=k
  ·have e':x.1=k:=h1.trans e
   refine⟨fun d hd=>?_,fun hn=>?_,?_⟩
   ·simp[a9,E9,e]at hd
    subst hd
    exact⟨x.2.2,by simp[bg,E9,e'],r1⟩
   ·simp[a9,E9,e]at hn
   ·simp[e,e']
  ·have e':¬x.1=k:=fun z=>e (h1.symm.trans z)
   refine⟨fun d hd=>?_,fun hn=>?_,?_⟩
   ·obtain⟨v,q1,q2⟩:=i1 d (by simpa[a9,E9,e]using hd)
    exact⟨v,by simpa[bg,E9,e']using q1,q2⟩
   ·have:=i2 (by simpa[a9,E9,e]using hn)
    simpa[bg,E9,e']using this
   ·rw[Fy,Fy,i3,decide_eq_false e,decide_eq_false e']
theorem gm(k:SpK){d:D}{v:V}(r:Rep K H d v):∀{kvs:SpT} {xs:List SpE},xs.map (·.1)=kvs.map (·.1)->ax K H (kvs.map (·.2)) (xs.map (·.2.2))->
 (xs.map fun x=>if x.1=k then(x.1,x.2.1,v)else x).map (·.1)=(kvs.map fun x=>if x.1=k then(x.1,d)else x).map (·.1)/\ax K H ((kvs.map fun x=>if x.1=k then(x.1,d)else x).map (·.2)) ((xs.map fun x=>if x.1=k then(x.1,x.2.1,v)else x).map (·.2.2))
 |[],[],_,h=>⟨rfl,h⟩
 |[],x::xs,h,_=>by cases h
 |y::kvs,[],h,_=>by cases h
 |y::kvs,x::xs,h,q=>by
  rw[D7,D7]at h
  injection h with h1 h2
  rw[D7,D7,ax]at q
  obtain⟨v',vs,e,r1,r2⟩:=q
  injection e with e1 e2
  subst e1 e2
  obtain⟨i1,i2⟩:=gm k r h2 r2
  by_cases e:y.1=k
  ·have e':x.1=k:=h1.trans e
   simp only[D7,if_pos e,if_pos e']
   exact⟨by rw[i1];exact congrArg (·::_) h1,by rw[ax];exact⟨_,_,rfl,r,i2⟩⟩
  ·have e':¬x.1=k:=fun z=>e (h1.symm.trans z)
   simp only[D7,if_neg e,if_neg e']
   exact⟨by rw[i1];exact congrArg (·::_) h1,by rw[ax];exact⟨_,_,rfl,r1,i2⟩⟩
theorem pX{kvs:SpT}{xs:List SpE}{d:D}{v:V}(h1:xs.map (·.1)=kvs.map (·.1))(h2:ax K H (kvs.map (·.2)) (xs.map (·.2.2)))(h3:∀x∈xs,bj K H x.2.1 x.1)(hb:bj K H b k)(r:Rep K H d v) : (cn xs k b v).map (·.1)=(putD kvs k d).map (·.1)/\ax K H ((putD kvs k d).map (·.2)) ((cn xs k b v).map (·.2.2))/\∀x∈cn xs k b v,bj K H x.2.1 x.1:=by
 unfold cn putD;rw[(en k h1 h2).2.2];by_cases e:(kvs.any fun x=>decide (x.1=k))=true
 ·rw[if_pos e,if_pos e];obtain⟨i1,i2⟩:=gm k r h1 h2;refine⟨i1,i2,fun x hx=>?_⟩;obtain⟨y,hy,rfl⟩:=EJ.mp hx;have:=h3 y hy;by_cases e:y.1=k
  ·rw[if_pos e];exact this
  ·rw[if_neg e];exact this
 ·rw[if_neg e,if_neg e];refine⟨by rw[Eg,Eg,h1];rfl,?_,fun x hx=>?_⟩
  ·rw[Eg,Eg];exact h2.append (by rw[D7,D7,EX,EX,ax];exact⟨_,_,rfl,r,by rw[ax]⟩)
  ·rcases Ek.mp hx with z|z
   ·exact h3 x z
   ·have:x=(k,b,v):=by simpa using z
    subst this;exact hb
theorem Grow.ext{φ:Heap->Prop}{o:HO}(h:H a=some (.ext φ)):Grow K H (upd H a o):=.put (fun xs e=>by rw[h]at e;cases e) (fun u xs e=>by rw[h]at e;cases e)
theorem Abs.qA{kvs:SpT}{xs:List SpE}{d:D}{v:V}(P:Ee)(w:EB)(h:Abs K H M)(hx:∀P w,H a=some (.ext (aU P w a xs)))(h1:xs.map (·.1)=kvs.map (·.1))(h2:ax K H (kvs.map (·.2)) (xs.map (·.2.2)))(h3:∀x∈xs,bj K H x.2.1 x.1)(hb:bj K H b k)(r:Rep K H d v) :
 Abs K (upd H a (.ext (aU P w a (cn xs k b v)))) (aq M a (dsM (putD kvs k d))):=fun c u e=>by
 have g:Grow K H (upd H a (.ext (aU P w a (cn xs k b v)))):=.ext (hx P w)
 by_cases ne:c=a
 ·subst ne
  rw[af]at e;cases e
  obtain⟨q1,q2,q3⟩:=pX h1 h2 h3 hb r
  exact dsA.nZ ⟨_,fun P w=>aK,q1,fun x hx=>(q3 x hx).mono g,q2.mono g⟩ (by rw[aK];simp)
 ·rw[ai ne]at e
  exact(h c u e).eQ g (aL ne)
end
section
variable{X:Cx}
def mP:TD:=fun _ M Q=>∀p,M p=none->Q (.ref p) (aq M p (dsM []))
theorem jX{pos:Pos}:DE X (.Dict [] [] pos) mP:=aO jD fun σ H Q zz1_0=>by obtain⟨δ,M,R,hs,hM,q,fin⟩:=zz1_0;exact(fun p hp=>fin _ _ _ _ (.new hp) (by rw[Rep]) (hM.qD _ _ hp) (q p (hM.fresh hp)))
def mE(td ty:TD):TD:=fun δ M Q=>td δ M fun x M1=>ty δ M1 fun y M2=>∃l kvs k d,x=.ref l/\y=spD k/\M2 l=some (dsM kvs)/\a9 kvs k=some d/\Q d M2
theorem gC{o i:Expr}{td ty:TD}{pos:Pos}(hu:X.A.units+66<F0)(ho:DE X o td)(hi:DE X i ty)(hs:ya i):DE X (.Subscript o i pos) (mE td ty):=
 aO (jI (by omega) ho hi hs) fun σ H Q zz2_0=>by obtain⟨δ,M,R,hs,hM,q,fin⟩:=zz2_0;exact(⟨δ,M,_,hs,hM,q,fun x M1 v H1 g1 r1 a1 q1=>⟨δ,M1,_,hs.mono g1,a1,q1,fun y M2 u H2 g2 r2 a2 zz3_0=>by
  obtain⟨l,kvs,k,d,ex,ey,hl,hv,q2⟩:=zz3_0
  subst ex ey
  rw[Rep]at r1;subst r1
  obtain⟨b,rfl,sp⟩:=iL r2
  obtain⟨xs,h1,h2,h3,h4⟩:=a2.dsp hl
  obtain⟨v',q3,q4⟩:=(en k h2 h4).1 d hv
  exact⟨l,b,xs,k,v',rfl,rfl,⟨h1 _ _,h3,sp⟩,q3,fin _ _ _ _ (g1.trans g2) q4 a2 q2⟩⟩⟩)
def ph(to:TD)(t:TAD):TD:=fun δ M Q=>to δ M fun x M1=>∃l kvs0,x=.ref l/\M1 l=some (dsM kvs0)/\t δ M1 fun ds M2=>∃kvs k d,ds=[spD k,d]/\M2 l=some (dsM kvs)/\kvs.length<1000000/\(∀d',a9 kvs k=some d'->Q d' M2)/\(a9 kvs k=none->Q d (aq M2 l (dsM (putD kvs k d))))
theorem lV{o e1 e2:Expr}{to:TD}{t:TAD}{apos cpos:Pos}(hu:X.A.units+66<F0)(ho:DE X o to)(ha:DA X [e1,e2] t)
 (hbase:FH o "setdefault" X.env (eval o X.env)=eval o X.env:=by rfl)
 (hfew:((Fn cpos (Eb [e1,e2] X.env)).all (fun x=>!x.1)&&(backToKw cpos (FR [] X.env)).all (fun x=>x.1.isSome)
  && decide ([e1,e2].length+([]:List Gp).length+(if([]:List Gp).isEmpty then 0 else 1)<30))=true:=by rfl)
 (hline:(apos.endLine==cpos.line)=true:=by rfl) (hs:Eb [e1,e2] X.env=(false,eval e1 X.env)::Eb [e2] X.env:=by rfl) (hplain:(Fn cpos (Eb [e2] X.env)).any (·.1)=false:=by rfl) :
 DE X (.Call (.Attribute o "setdefault" apos) [e1,e2] [] cpos) (ph to t):=
 aO (mi (by omega) ho ha hbase hfew hline hs hplain) fun σ H Q ⟨δ,M,R,hs,hM,q,fin⟩=>⟨δ,M,_,hs,hM,q,fun x M1 v H1 g1 r1 a1 ⟨l,kvs0,ex,hl0,q1⟩=>by
  subst ex
  rw[Rep]at r1;subst r1
  obtain⟨xs0,h0,_⟩:=a1.dsp hl0
  refine⟨l,xs0,rfl,h0 _ _,δ,M1,_,hs.mono g1,a1,q1,fun ds M2 vs H2 g2 r2 a2 zz4_0=>?_⟩
  obtain⟨kvs,k,d,ed,hl,hn,k1,k2⟩:=zz4_0
  subst ed
  obtain⟨v1,v2,rfl,rv1,rv2⟩:=dt r2
  obtain⟨b,rfl,sp⟩:=iL rv1
  obtain⟨xs,h1,h2,h3,h4⟩:=a2.dsp hl
  have hlen:xs.length=kvs.length:=by have:=congrArg List.length h2;simpa using this
  have sz:1000000<=Ea:=nbL rfl
  have dv:=en k h2 h4
  refine⟨b,v2,xs,k,rfl,⟨h1 _ _,h3,sp⟩,by omega,fun v' hv'=>?_,fun hv'=>?_⟩
  ·cases ed:a9 kvs k with
   |none=>rw[dv.2.1 ed]at hv';cases hv'
   |some d'=>
    obtain⟨v'',q3,q4⟩:=dv.1 d' ed
    rw[hv']at q3;cases q3
    exact fin _ _ _ _ (g1.trans g2) q4 a2 (k1 d' ed)
  ·have ed:a9 kvs k=none:=by
    cases ed:a9 kvs k with
    |none=>rfl
    |some d'=>
     obtain⟨v'',q3,_⟩:=dv.1 d' ed
     rw[hv']at q3;cases q3
   have g4:Grow X.K H2 (upd H2 l (.ext (aU X.prog X.w l (cn xs k b v2)))):=.ext (h1 X.prog X.w)
   exact fin _ _ _ _ ((g1.trans g2).trans g4) (rv2.mono g4) (a2.qA _ _ h1 h2 h4 h3 sp rv2) (k2 ed)⟩
end
theorem Ac(t b X m x:Int):Ma.ut t b X m x=Ma.ut t (b*m) (X*m) 1 x:=by unfold Ma.ut;rw[Int.mul_one,Int.mul_one]
theorem qu{t b X m:Int}(ht:0<t)(hb:0<b)(hm:0<m)(a:Int):Ma.ut t b X 1 a=Ma.ut t (b*m) (X*m) 1 (m*a):=by rw[<-Ac,Ma.iF ht hb (by decide) hm];omega
theorem xU{t b X Y m:Int}(ht:0<t)(hb:0<b)(hm:0<m)(w:Wl)(p q:Int):Ma.sgn (Ma.cr (Ma.ut t b X 1 w.1) (Ma.ut t b Y 1 w.2.1) (Ma.ut t b X 1 w.2.2.1) (Ma.ut t b Y 1 w.2.2.2) (Ma.ut t b X m p) (Ma.ut t b Y m q))=En (sd (uby m w) p q):=by rw[qu ht hb hm,qu ht hb hm,qu ht hb hm,qu ht hb hm,Ac t b X m p,Ac t b Y m q];exact gO ht (Ez hb hm) (uby m w) p q
theorem uP{t b X Y m p q a c:Int}(ht:0<t)(hb:0<b)(hm:0<m/\m<=4)(hq:-10<=q/\q<=85)(hc:0<=c/\c<=20):Ma.ah (Ma.ut t b X m p) (Ma.ut t b Y m q) (Ma.ut t b X 1 a) (Ma.ut t b Y 1 c)↔la p q<m*la a c:=by have e1:=Int.mul_nonneg (show 0<=m by omega) hc.1;have e2:=Int.mul_le_mul hm.2 hc.2 hc.1 (show(0:Int)<=4 by decide);rw[Ma.yt ht hb hm.1 (by decide),Int.one_mul,Int.one_mul,wX hq ⟨by omega,by omega⟩,decide_eq_true_eq,zD]
def sqV(k:Int):Wl:=(k,0,k,1)
def sqH(k y:Int):Wl:=(k,y,k+1,y)
def sqL(m:Int):Nat->List Wl
 |0=>[sqV m]
 |i+1=>sqL m i++[sqH (i:Int) 0,sqH (i:Int) 1,sqV (i:Int)]
theorem qG(m:Int):∀i:Nat,(sqL m i).length=1+3*i
 |0=>rfl
 |i+1=>by rw[sqL,Ff,qG m i];simp;omega
theorem mQ{m:Int}{w:Wl}:∀{i:Nat},w∈sqL m i->w=sqV m\/∃k:Nat,k<i/\(w=sqH (k:Int) 0\/w=sqH (k:Int) 1\/w=sqV (k:Int))
 |0,h=>.inl (List.mem_singleton.mp h)
 |i+1,h=>by
  rw[sqL,Ek]at h
  rcases h with h|h
  ·rcases mQ h with h|⟨k,hk,h⟩
   ·exact .inl h
   ·exact .inr ⟨k,by omega,h⟩
  ·simp only[EM,List.not_mem_nil,or_false]at h
   exact .inr ⟨i,by omega,h⟩
def tK(w:Wl):Prop:=∃k:Int,0<=k/\k<=13/\(w=sqV k\/w=sqH k 0\/w=sqH k 1)
theorem AG{m:Nat}{w:Wl}(hm:m<=13)(h:w∈sqL (m:Int) m):tK w:=by
 rcases mQ h with h|⟨k,hk,h|h|h⟩
 ·exact⟨m,by omega,by omega,.inl h⟩
 ·exact⟨k,by omega,by omega,.inr (.inl h)⟩
 ·exact⟨k,by omega,by omega,.inr (.inr h)⟩
 ·exact⟨k,by omega,by omega,.inl h⟩
theorem Bu{w:Wl}(h:tK w):Un5 w:=by
 obtain⟨k,h0,h1,rfl|rfl|rfl⟩:=h
 ·exact⟨by simp only[sqV];omega,by simp only[sqV];omega,by simp only[sqV];omega,by simp only[sqV];omega,by simp only[sqV,l1,l2,la];omega⟩
 ·exact⟨by simp only[sqH];omega,by simp only[sqH];omega,by simp only[sqH];omega,by simp only[sqH];omega,by simp only[sqH,l1,l2,la];omega⟩
 ·exact⟨by simp only[sqH];omega,by simp only[sqH];omega,by simp only[sqH];omega,by simp only[sqH];omega,by simp only[sqH,l1,l2,la];omega⟩
theorem k7(k x y:Int):sd (sqV k) x y=k-x:=by unfold sd crs sqV;simp;omega
theorem ma(k c x y:Int):sd (sqH k c) x y=y-c:=by unfold sd crs sqH;simp only;rw[show k+1-k=1 by omega,Int.sub_self,Int.one_mul,Int.zero_mul,Int.sub_zero]
theorem nG(z:Int):0<=En z*En z:=by
 rcases Ey z 0 with h|h|h
 ·rw[Ew h];decide
 ·subst h;decide
 ·rw[EF h];decide
theorem vW(z:Int):0<=En z*En (z-1):=by
 rcases Ey z 0 with h|h|h
 ·rw[Ew h,Ew (by omega)];decide
 ·subst h;decide
 ·rcases Ey (z-1) 0 with g|g|g
  ·omega
  ·rw[g];simp
  ·rw[EF h,EF g];decide
theorem xC{U V:Wl}(hU:tK U)(hV:tK V)(ne:U≠V):Fair U V:=by
 have VV:∀k j:Int,k≠j->Fair (sqV k) (sqV j):=fun k j e=>by
  refine⟨?_,?_,?_,?_,?_,.inl ?_⟩
  ·simp only[l1,l2,la,sqV];omega
  ·simp only[aN,sd1,sd2,k7];simp only[l1,l2,la,sqV];omega
  ·simp only[aN,sd1,sd2,k7];simp only[l1,l2,la,sqV];omega
  ·simp only[aN,sd1,sd2,k7];simp only[l1,l2,la,sqV];omega
  ·simp only[aN,sd1,sd2,k7];simp only[l1,l2,la,sqV];omega
  ·simp only[sd1,sd2,k7];exact nG _
 have VH:∀k j y:Int,(y=0\/y=1)->Fair (sqV k) (sqH j y):=fun k j y hy=>by
  refine⟨?_,?_,?_,?_,?_,.inl ?_⟩
  ·simp only[l1,l2,la,sqV,sqH];omega
  ·simp only[aN,sd1,sd2,k7,ma];simp only[l1,l2,la,sqV,sqH];omega
  ·simp only[aN,sd1,sd2,k7,ma];simp only[l1,l2,la,sqV,sqH];omega
  ·simp only[aN,sd1,sd2,k7,ma];simp only[l1,l2,la,sqV,sqH];omega
  ·simp only[aN,sd1,sd2,k7,ma];simp only[l1,l2,la,sqV,sqH];omega
  ·simp only[sd1,sd2,k7];have:=vW (k-j);rw[show k-j-1=k-(j+1) by omega]at this;exact this
 have HH:∀k y j x:Int,(y=0\/y=1)->(x=0\/x=1)->¬(k=j/\y=x)->Fair (sqH k y) (sqH j x):=fun k y j x hy hx e=>by
  refine⟨?_,?_,?_,?_,?_,.inl ?_⟩
  ·simp only[l1,l2,la,sqH];omega
  ·simp only[aN,sd1,sd2,ma];simp only[l1,l2,la,sqH];omega
  ·simp only[aN,sd1,sd2,ma];simp only[l1,l2,la,sqH];omega
  ·simp only[aN,sd1,sd2,ma];simp only[l1,l2,la,sqH];omega
  ·simp only[aN,sd1,sd2,ma];simp only[l1,l2,la,sqH];omega
  ·simp only[sd1,sd2,ma];exact nG _
 have z0:(0:Int)=0\/(0:Int)=1:=.inl rfl;have z1:(1:Int)=0\/(1:Int)=1:=.inr rfl;obtain⟨k,h0,h1,rfl|rfl|rfl⟩:=hU<;>obtain⟨j,g0,g1,rfl|rfl|rfl⟩:=hV
 ·exact VV k j fun z=>ne (by rw[z])
 ·exact VH k j 0 z0
 ·exact VH k j 1 z1
 ·exact(VH j k 0 z0).swap
 ·exact HH k 0 j 0 z0 z0 fun z=>ne (by rw[z.1])
 ·exact HH k 0 j 1 z0 z1 fun z=>by omega
 ·exact(VH j k 1 z1).swap
 ·exact HH k 1 j 0 z1 z0 fun z=>by omega
 ·exact HH k 1 j 1 z1 z1 fun z=>ne (by rw[z.1])
theorem lR(m:Nat):∀i:Nat,i<=m->(sqL (m:Int) i).Nodup
 |0,_=>List.nodup_cons.mpr ⟨by simp,List.nodup_nil⟩
 |i+1,h=>by
  rw[sqL,Gz]
  refine⟨lR m i (by omega),by simp[sqH,sqV],fun a ha b hb e=>?_⟩
  subst e
  have hb':a=sqH (i:Int) 0\/a=sqH (i:Int) 1\/a=sqV (i:Int):=by simpa using hb
  rcases mQ ha with ha|⟨k,hk,ha⟩
  ·subst ha
   rcases hb' with z|z|z<;>simp only[sqV,sqH,Prod.mk.injEq]at z<;>omega
  ·rcases ha with rfl|rfl|rfl<;>rcases hb' with z|z|z<;>simp only[sqV,sqH,Prod.mk.injEq]at z<;>omega
theorem yw{m:Nat}{ws:List Wl}(hm:m<=13)(h:ws.Perm (sqL (m:Int) m)):PF ws/\(∀w∈ws,Un5 w)/\ws.length<=40:=by have is:∀w∈ws,tK w:=fun w hw=>AG hm (h.mem_iff.mp hw);have nd:ws.Nodup:=h.nodup_iff.mpr (lR m m (E3 _));refine⟨fun i j U V hij hU hV=>?_,fun w hw=>Bu (is w hw),by rw[h.length_eq,qG];omega⟩;refine xC (is U (Ej hU)) (is V (Ej hV)) fun e=>?_;subst e;obtain⟨h1,e1⟩:=Eo.mp hU;obtain⟨h2,e2⟩:=Eo.mp hV;exact hij ((List.getElem_inj nd).mp (e1.trans e2.symm))
def bB(ws:List Wl)(m p q:Int)(j:Nat):Bool:=spB ws m (la p q) j&&decide (En (sd (uby m (wAt ws (j:Int))) p q)=1)
def bK(ws:List Wl)(m p q:Int):List Int:=((E5 ws.length).filter (bB ws m p q)).map fun j:Nat=>(j:Int)
theorem fX{ws:List Wl}{m p q k:Int}(h:k∈bK ws m p q):k∈spK ws m (la p q):=by unfold bK at h;obtain⟨j,hj,rfl⟩:=EJ.mp h;rw[EU]at hj;have:=hj.2;unfold bB at this;rw[F6]at this;exact EJ.mpr ⟨j,EU.mpr ⟨hj.1,this.1⟩,rfl⟩
theorem nQ(ws:List Wl)(m p q:Int):(bK ws m p q).Nodup:=by unfold bK List.Nodup;rw[List.pairwise_map];have h:List.Pairwise (fun x y:Nat=>x≠y) ((E5 ws.length).filter (bB ws m p q)):=List.Pairwise.filter _ List.nodup_range;refine List.Pairwise.imp (R:=fun x y:Nat=>x≠y) ?_ h;intro a b hab e;exact hab (by omega)
theorem tU(ws:List Wl)(m p q t b X Y:Int):(E5 (ws.map (rwl t b X Y)).length).filterMap (fun j=>if bB ws m p q j=true then some (rwl t b X Y (wAt ws (j:Int)))else none)=((bK ws m p q).map (wAt ws)).map (rwl t b X Y):=by rw[D8];unfold bK;rw[GB,GB];exact iq (bB ws m p q) (fun j:Nat=>rwl t b X Y (wAt ws (j:Int))) _
theorem zO{t b X Y:Int}(ht:0<t)(hb:0<b){U V:Wl}(hU:Un5 U)(hV:Un5 V)(ne:¬(l1 U=l1 V/\l2 U=l2 V)):EH (rwP t b X Y U) (rwP t b X Y V)=false:=by have h1:=gH (X:=X) (Y:=Y) (p:=U.1) (q:=U.2.1) (e:=V.1) (f:=V.2.1) ht hb hU.b hV.b;have h2:=gH (X:=X) (Y:=Y) (p:=U.2.2.1) (q:=U.2.2.2) (e:=V.2.2.1) (f:=V.2.2.2) ht hb hU.d hV.d;unfold rwP frP;rw[EH,Fj,Fj,Fj,Ma.iW,Ma.iW,Bool.and_true,<-Bool.decide_and,decide_eq_false_iff_not,h1,h2];exact ne
abbrev Vc:=Int×Int
def vc(a b:Vc):Int:=crs a.1 a.2 b.1 b.2
def vl(a:Vc):Int:=la a.1 a.2
theorem hZ(a b:Vc):vc b a=-vc a b:=by unfold vc crs;grind
theorem Bx(b x y z:Vc):vc b y*vc x z=vc b x*vc y z+vc b z*vc x y:=by unfold vc crs;grind
theorem AS(a b c:Vc)(h:vc a b=0):vc b c*vl a=vc a c*vl b:=by unfold vc crs at *;unfold vl la;grind
def Ray(a b:Vc):Prop:=vc a b=0->vl a*vl b<0
theorem gE(z:Int):(z<0/\En z=-1)\/(z=0/\En z=0)\/(0<z/\En z=1):=by
 rcases Ey z 0 with h|h|h
 ·exact .inl ⟨h,Ew h⟩
 ·exact .inr (.inl ⟨h,by subst h;rfl⟩)
 ·exact .inr (.inr ⟨h,EF h⟩)
theorem gz{p q:Int}(h:p*q<0):(p<0/\0<q)\/(0<p/\q<0):=by
 rcases Ey p 0 with a|a|a
 ·rcases Ey q 0 with b|b|b
  ·have:=EN a b;omega
  ·subst b;simp at h
  ·exact .inl ⟨a,b⟩
 ·subst a;simp at h
 ·rcases Ey q 0 with b|b|b
  ·exact .inr ⟨a,b⟩
  ·subst b;simp at h
  ·have:=Ez a b;omega
theorem opp{a b:Vc}(c:Vc)(z:vc a b=0)(h:vl a*vl b<0):En (vc b c)=-En (vc a c):=by
 have e:=AS a b c z;generalize vc b c=p at *;generalize vc a c=q at *;have m1:∀{x y:Int},0<x->0<y->0<x*y:=fun h1 h2=>Ez h1 h2
 rcases gz h with⟨h1,h2⟩|⟨h1,h2⟩<;>rcases gE p with⟨a1,e1⟩|⟨a1,e1⟩|⟨a1,e1⟩<;>rcases gE q with⟨a2,e2⟩|⟨a2,e2⟩|⟨a2,e2⟩<;>rw[e1,e2]<;>first|rfl|(exfalso;subst_vars;first
  |(have k1:=EN a1 h1;have k2:=EC a2 h2;omega)
  |(have k1:=EC a1 h1;have k2:=EN a2 h2;omega)
  |(have k1:=ED a1 h1;have k2:=Ez a2 h2;omega)
  |(have k1:=Ez a1 h1;have k2:=ED a2 h2;omega)
  |(have k1:=EN a1 h1;omega)
  |(have k1:=EC a1 h1;omega)
  |(have k1:=ED a1 h1;omega)
  |(have k1:=Ez a1 h1;omega)
  |(have k2:=EN a2 h2;omega)
  |(have k2:=EC a2 h2;omega)
  |(have k2:=ED a2 h2;omega)
  |(have k2:=Ez a2 h2;omega))
def snr(b x y:Vc):Bool:=if En (vc b x)=En (vc b y)then decide (vc x y<0)else decide (En (vc b x)<En (vc b y))
theorem iV(b x y:Vc):snr b x y=true↔En (vc b x)<En (vc b y)\/(En (vc b x)=En (vc b y)/\vc x y<0):=by
 unfold snr;split
 ·rename_i h;simp;omega
 ·rename_i h;simp;omega
theorem sE{b x y:Vc}(h1:Ray b x)(h2:Ray b y)(h3:Ray x y):snr b x y=true\/snr b y x=true:=by
 rw[iV,iV];rcases Ey (vc x y) 0 with h|h|h
 ·omega
 ·have o:=h3 h;have e:=opp b h o;have e1:vc x b=-vc b x:=hZ b x;have e2:vc y b=-vc b y:=hZ b y;rw[e1,e2,Int.sign_neg,Int.sign_neg]at e;by_cases ne:En (vc b x)=En (vc b y)
  ·have z1:En (vc b x)=0:=by omega
   have z2:En (vc b y)=0:=by omega
   have p1:=gz (h1 (Int.sign_eq_zero_iff_zero.mp z1));have p2:=gz (h2 (Int.sign_eq_zero_iff_zero.mp z2));have p3:=gz o;omega
  ·omega
 ·have:=hZ x y;omega
theorem sT{b x y z:Vc}(h1:Ray b x)(h2:Ray b y)(h3:Ray b z)(a1:snr b x y=true)(a2:snr b y z=true):snr b x z=true:=by
 rw[iV]at *;rcases a1 with a1|⟨a1,b1⟩
 ·left;rcases a2 with a2|⟨a2,b2⟩<;>omega
 ·rcases a2 with a2|⟨a2,b2⟩
  ·left;omega
  ·right;refine⟨by omega,?_⟩;have i:=Bx b x y z;rcases gE (vc b y)with⟨k,e⟩|⟨k,e⟩|⟨k,e⟩
   ·have kx:vc b x<0:=by rcases gE (vc b x)with q|q|q<;>omega
    have kz:vc b z<0:=by rcases gE (vc b z)with q|q|q<;>omega
    have u1:=EN kx b2;have u2:=EN kz b1;rcases Ey (vc x z) 0 with q|q|q
    ·exact q
    ·rw[q]at i;simp at i;omega
    ·have:=EC k q;omega
   ·exfalso;have kx:vc b x=0:=by rcases gE (vc b x)with q|q|q<;>omega
    have p1:=h1 kx;have e:=opp y kx p1;have:En (vc x y)=-1:=Ew b1;rw[k]at e;simp at e;omega
   ·have kx:0<vc b x:=by rcases gE (vc b x)with q|q|q<;>omega
    have kz:0<vc b z:=by rcases gE (vc b z)with q|q|q<;>omega
    have u1:=ED kx b2;have u2:=ED kz b1;rcases Ey (vc x z) 0 with q|q|q
    ·exact q
    ·rw[q]at i;simp at i;omega
    ·have:=Ez k q;omega
theorem xp{a b c:Vc}(h:Ray a b)(s1:snr a c b=true)(s2:snr b c a=true):False:=by
 rw[iV]at s1 s2;have e1:vc b a=-vc a b:=hZ a b;have e2:vc c b=-vc b c:=hZ b c;have e3:vc c a=-vc a c:=hZ a c;rw[e1,Int.sign_neg]at s2;rw[e2]at s1;rw[e3]at s2;by_cases z:vc a b=0
 ·have o:=opp c z (h z);rw[z]at s1 s2;simp at s1 s2;rcases gE (vc a c)with q|q|q<;>rcases gE (vc b c)with r|r|r<;>omega
 ·rcases gE (vc a b)with p|p|p<;>rcases gE (vc a c)with q|q|q<;>rcases gE (vc b c)with r|r|r<;>omega
def rev(w:Wl):Wl:=(w.2.2.1,w.2.2.2,w.1,w.2.1)
def fw(ws:List Wl)(f:Nat):Wl:=if f%2=0 then wAt ws ((f/2:Nat):Int)else rev (wAt ws ((f/2:Nat):Int))
def fa(ws:List Wl)(f:Nat):Vc:=((fw ws f).1,(fw ws f).2.1)
def fb(ws:List Wl)(f:Nat):Vc:=((fw ws f).2.2.1,(fw ws f).2.2.2)
def fd(ws:List Wl)(f:Nat):Vc:=((fw ws f).2.2.1-(fw ws f).1,(fw ws f).2.2.2-(fw ws f).2.1)
def fx(f:Nat):Nat:=if f%2=0 then f+1 else f-1
theorem qO(f:Nat):fx f/2=f/2/\(fx f)%2=1-f%2:=by unfold fx;split<;>omega
theorem yH(f:Nat):fx (fx f)=f:=by unfold fx;split<;>split<;>omega
theorem jl{f n:Nat}(h:f<2*n):fx f<2*n:=by unfold fx;split<;>omega
theorem yU(ws:List Wl)(f:Nat):fw ws (fx f)=rev (fw ws f):=by
 unfold fw;rw[(qO f).1,(qO f).2];by_cases h:f%2=0
 ·rw[if_neg (by omega),if_pos h]
 ·rw[if_pos (by omega),if_neg h];rfl
theorem jj(ws:List Wl)(f:Nat):fa ws (fx f)=fb ws f:=by unfold fa fb;rw[yU];rfl
theorem gL{ws:List Wl}(hU:∀w∈ws,Un5 w)(hF:PF ws){g h:Nat}(hg:g<2*ws.length)(hh:h<2*ws.length)(ne:g≠h)(e:fa ws g=fa ws h):Ray (fd ws g) (fd ws h):=by
 obtain⟨g1,_,g3⟩:=bQ (ws:=ws) (k:=((g/2:Nat):Int)) (by omega) (by omega);obtain⟨h1,_,h3⟩:=bQ (ws:=ws) (k:=((h/2:Nat):Int)) (by omega) (by omega);have U:=hU _ g3;have V:=hU _ h3;rw[Int.toNat_natCast]at g1 h1;unfold fa at e;have e1:=congrArg Prod.fst e;have e2:=congrArg Prod.snd e;unfold fd;unfold fw at *;by_cases same:g/2=h/2
 ·exfalso;rw[<-same]at e1 e2;have lt:=U.lt;unfold l1 l2 la at lt;by_cases p:g%2=0
  ·rw[if_pos p,if_neg (show ¬h%2=0 by omega)]at e1 e2;unfold rev at e1 e2;dsimp only at e1 e2;omega
  ·rw[if_neg p,if_pos (show h%2=0 by omega)]at e1 e2;unfold rev at e1 e2;dsimp only at e1 e2;omega
 ·have F:=hF _ _ _ _ same g1 h1;generalize wAt ws ((g/2:Nat):Int)=u at *;generalize wAt ws ((h/2:Nat):Int)=v at *;intro z;have lu:=U.lt;have lv:=V.lt;unfold vc crs at z;have q2:=F.e2;have q4:=F.e4;have q1:=F.e1;have q3:=F.e3;have qn:=F.ne;unfold aN at q1 q2 q3 q4;unfold vl;by_cases p:g%2=0<;>by_cases q:h%2=0
  ·rw[if_pos p,if_pos q]at z e1 e2 ⊢;exfalso;simp only[]at z e1 e2;have s2:sd2 u v=0:=by unfold sd2 sd crs;grind
   have s4:sd2 v u=0:=by unfold sd2 sd crs;grind
   have el:l1 u=l1 v:=by unfold l1;rw[e1,e2]
   omega
  ·rw[if_pos p,if_neg q]at z e1 e2 ⊢;unfold rev at *;simp only[]at z e1 e2 ⊢;have d1:la (u.2.2.1-u.1) (u.2.2.2-u.2.1)=l2 u-l1 u:=by unfold l1 l2 la;omega
   have d2:la (v.1-v.2.2.1) (v.2.1-v.2.2.2)=-(l2 v-l1 v):=by unfold l1 l2 la;omega
   rw[d1,d2];exact ED (by omega) (by omega)
  ·rw[if_neg p,if_pos q]at z e1 e2 ⊢;unfold rev at *;simp only[]at z e1 e2 ⊢;have d1:la (u.1-u.2.2.1) (u.2.1-u.2.2.2)=-(l2 u-l1 u):=by unfold l1 l2 la;omega
   have d2:la (v.2.2.1-v.1) (v.2.2.2-v.2.1)=l2 v-l1 v:=by unfold l1 l2 la;omega
   rw[d1,d2];exact EC (by omega) (by omega)
  ·rw[if_neg p,if_neg q]at z e1 e2 ⊢;unfold rev at *;exfalso;simp only[]at z e1 e2;have s2:sd1 u v=0:=by unfold sd1 sd crs;grind
   have s4:sd1 v u=0:=by unfold sd1 sd crs;grind
   have el:l2 u=l2 v:=by unfold l2;rw[e1,e2]
   omega
def cQ(R:Nat->Nat->Bool)(o:Option Nat)(g:Nat):Option Nat:=match o with
 |none=>some g
 |some h=>if R g h=true then some g else some h
theorem fold_min{R:Nat->Nat->Bool}{S:Nat->Prop}(tot:∀x y,S x->S y->x≠y->R x y=true\/R y x=true)(tr:∀x y z,S x->S y->S z->R x y=true->R y z=true->R x z=true) :
 ∀(l:List Nat) (h:Nat),S h->(∀x∈l,S x)->∃m,l.foldl (cQ R) (some h)=some m/\S m/\(m=h\/m∈l)/\(h=m\/R m h=true)/\∀x∈l,x=m\/R m x=true
 |[],h,sh,_=>⟨h,rfl,sh,.inl rfl,.inl rfl,fun x hx=>by cases hx⟩
 |g::l,h,sh,hl=>by
  have sg:=hl g (by simp)
  rw[List.foldl_cons]
  by_cases r:R g h=true
  ·obtain⟨m,e,sm,mem,h1,h2⟩:=fold_min tot tr l g sg (fun x hx=>hl x (by simp[hx]))
   have es:cQ R (some h) g=some g:=by unfold cQ;simp[r]
   rw[es]
   refine⟨m,e,sm,?_,?_,?_⟩
   ·rcases mem with z|z
    ·right;simp[z]
    ·right;simp[z]
   ·right
    rcases h1 with z|z
    ·rw[<-z];exact r
    ·exact tr _ _ _ sm sg sh z r
   ·intro x hx
    rcases EM.mp hx with z|z
    ·subst z;exact h1
    ·exact h2 x z
  ·obtain⟨m,e,sm,mem,h1,h2⟩:=fold_min tot tr l h sh (fun x hx=>hl x (by simp[hx]))
   have es:cQ R (some h) g=some h:=by unfold cQ;simp[r]
   rw[es]
   refine⟨m,e,sm,?_,h1,?_⟩
   ·rcases mem with z|z
    ·exact .inl z
    ·right;simp[z]
   ·intro x hx
    rcases EM.mp hx with z|z
    ·subst z
     by_cases ne:x=h
     ·subst ne;exact h1
     ·rcases tot x h sg sh ne with q|q
      ·exact absurd q r
      ·rcases h1 with z|z
       ·right;rw[<-z];exact q
       ·right;exact tr _ _ _ sm sh sg z q
    ·exact h2 x z
def uZ(ws:List Wl)(f g:Nat):Bool:=decide (fa ws g=fb ws f)&&decide (g≠fx f)
def g8(ws:List Wl)(f:Nat):List Nat:=(E5 (2*ws.length)).filter (uZ ws f)
def snF(ws:List Wl)(f g h:Nat):Bool:=snr (fd ws (fx f)) (fd ws g) (fd ws h)
def bh(ws:List Wl)(f:Nat):Nat:=((g8 ws f).foldl (cQ (snF ws f)) none).getD (fx f)
theorem cC{ws:List Wl}{f g:Nat}:g∈g8 ws f↔g<2*ws.length/\fa ws g=fb ws f/\g≠fx f:=by unfold g8 uZ;simp[EU]
theorem iY{ws:List Wl}(hU:∀w∈ws,Un5 w)(hF:PF ws){f:Nat}(hf:f<2*ws.length):(g8 ws f=[]/\bh ws f=fx f)\/(bh ws f∈g8 ws f/\∀x∈g8 ws f,x=bh ws f\/snF ws f (bh ws f) x=true):=by
 unfold bh;cases c:g8 ws f with
 |nil=>exact .inl ⟨rfl,rfl⟩
 |cons g l=>
  right
  have sub:∀x∈g::l,x<2*ws.length/\fa ws x=fb ws f/\x≠fx f:=fun x hx=>cC.mp (by rw[c];exact hx)
  have ry:∀x,(x<2*ws.length/\fa ws x=fb ws f/\x≠fx f)->Ray (fd ws (fx f)) (fd ws x):=fun x hx=>gL hU hF (jl hf) hx.1 (fun z=>hx.2.2 z.symm) (by rw[jj,hx.2.1])
  obtain⟨m,e,sm,mem,h1,h2⟩:=fold_min (R:=snF ws f) (S:=fun x=>x<2*ws.length/\fa ws x=fb ws f/\x≠fx f) (fun x y hx hy ne=>sE (ry x hx) (ry y hy) (gL hU hF hx.1 hy.1 ne (by rw[hx.2.1,hy.2.1]))) (fun x y z hx hy hz a b=>sT (ry x hx) (ry y hy) (ry z hz) a b) l g (sub g (by simp)) (fun x hx=>sub x (by simp[hx]))
  rw[List.foldl_cons]
  have es:cQ (snF ws f) none g=some g:=rfl
  rw[es,e]
  simp only[Option.getD_some]
  refine⟨by rcases mem with z|z<;>simp[z],fun x hx=>?_⟩
  rcases EM.mp hx with z|z
  ·subst z;exact h1
  ·exact h2 x z
theorem Bs{ws:List Wl}(hU:∀w∈ws,Un5 w)(hF:PF ws){f:Nat}(hf:f<2*ws.length):bh ws f<2*ws.length:=by
 rcases iY hU hF hf with⟨_,e⟩|⟨h,_⟩
 ·rw[e];exact jl hf
 ·exact(cC.mp h).1
theorem qT{ws:List Wl}(hU:∀w∈ws,Un5 w)(hF:PF ws){f:Nat}(hf:f<2*ws.length):fa ws (bh ws f)=fb ws f:=by
 rcases iY hU hF hf with⟨_,e⟩|⟨h,_⟩
 ·rw[e,jj]
 ·exact(cC.mp h).2.1
theorem zb{ws:List Wl}(hU:∀w∈ws,Un5 w)(hF:PF ws){f g:Nat}(hf:f<2*ws.length)(hg:g<2*ws.length)(e:bh ws f=bh ws g):f=g:=by
 by_cases ne:fx f=fx g
 ·rw[<-yH f,ne,yH]
 ·exfalso;have c:fb ws f=fb ws g:=by rw[<-qT hU hF hf,<-qT hU hF hg,e]
  have m1:fx g∈g8 ws f:=cC.mpr ⟨jl hg,by rw[jj,c],fun z=>ne z.symm⟩;have m2:fx f∈g8 ws g:=cC.mpr ⟨jl hf,by rw[jj,c],ne⟩;rcases iY hU hF hf with⟨z,_⟩|⟨k1,k2⟩
  ·rw[z]at m1;cases m1
  ·rcases iY hU hF hg with⟨z,_⟩|⟨j1,j2⟩
   ·rw[z]at m2;cases m2
   ·have n1:=(cC.mp k1).2.2;have n2:=(cC.mp j1).2.2;have s1:=(k2 _ m1).resolve_left (fun z=>n2 (by rw[<-e,<-z]));have s2:=(j2 _ m2).resolve_left (fun z=>n1 (by rw[e,<-z]));rw[<-e]at s2;exact xp (gL hU hF (jl hf) (jl hg) ne (by rw[jj,jj,c])) s1 s2
def itb(ws:List Wl)(f:Nat):Nat->Nat
 |0=>f
 |k+1=>bh ws (itb ws f k)
def rn(ws:List Wl)(f k:Nat):List Nat:=(E5 (k+1)).map (itb ws f)
def NR(ws:List Wl)(f k:Nat):Prop:=∀i j,i<j->j<=k->itb ws f i≠itb ws f j
theorem gZ(ws:List Wl)(f k:Nat):(rn ws f k).length=k+1:=by simp[rn]
theorem qH(ws:List Wl)(f k:Nat):rn ws f (k+1)=rn ws f k++[itb ws f (k+1)]:=by unfold rn;rw[G0,Eg];rfl
theorem xN(ws:List Wl)(f:Nat):rn ws f 0=[f]:=rfl
theorem uf:∀(m:Nat) (l:List Nat),l.Nodup->(∀x∈l,x<m)->l.length<=m
 |0,l,_,h=>by
  cases l with
  |nil=>simp
  |cons a l=>exact absurd (h a (by simp)) (by omega)
 |m+1,l,nd,h=>by
  have h1:=uf m (l.erase m) (nd.erase m) (fun x hx=>by
   have:=h x (List.mem_of_mem_erase hx)
   have ne:x≠m:=fun z=>by
    subst z
    exact absurd hx (nd.not_mem_erase)
   omega)
  have:=List.length_erase_le (a:=m) (l:=l)
  by_cases hm:m∈l
  ·have:=List.length_erase_of_mem hm;omega
  ·rw[List.erase_of_not_mem hm]at h1;omega
section
variable{ws:List Wl}(hU:∀w∈ws,Un5 w)(hF:PF ws){f:Nat}(hf:f<2*ws.length)
include hU hF hf
theorem eK:∀k,itb ws f k<2*ws.length
 |0=>hf
 |k+1=>Bs hU hF (eK k)
theorem wN{k:Nat}(h:NR ws f k)(ne:bh ws (itb ws f k)≠f):NR ws f (k+1):=fun i j hij hj e=>by
 by_cases q:j<=k
 ·exact h i j hij q e
 ·have:j=k+1:=by omega
  subst this;cases i with
  |zero=>exact ne e.symm
  |succ i=>exact h i k (by omega) (E3 _) (zb hU hF (eK hU hF hf i) (eK hU hF hf k) e)
theorem rD{k:Nat}(h:NR ws f k):k+1<=2*ws.length:=by
 rw[<-gZ ws f k];refine uf _ _ ?_ (fun x hx=>?_)
 ·unfold rn;rw[List.nodup_iff_pairwise_ne,List.pairwise_map];refine List.Pairwise.imp_of_mem ?_ (List.pairwise_lt_range (n:=k+1));intro a b ha hb hab;exact h a b hab (by have:=GH.mp hb;omega)
 ·unfold rn at hx;obtain⟨i,_,rfl⟩:=EJ.mp hx;exact eK hU hF hf i
end
structure Rng(ws:List Wl)(r:List Nat):Prop where
 ex:∃f k,f<2*ws.length/\k+1<=2*ws.length/\r=rn ws f k/\bh ws (itb ws f k)=f
theorem wJ(ws:List Wl)(f:Nat):NR ws f 0:=fun i j hij hj=>by omega
theorem round0{ws:List Wl}(hU:∀w∈ws,Un5 w)(hF:PF ws){f k:Nat}(hf:f<2*ws.length)(c:bh ws (itb ws f k)=f)(φ:Vc->Rat):((rn ws f k).map fun g=>φ (fb ws g)-φ (fa ws g)).sum=0:=by
 have key:∀k,((rn ws f k).map fun g=>φ (fb ws g)-φ (fa ws g)).sum=φ (fb ws (itb ws f k))-φ (fa ws f):=fun k=>by
  induction k with
  |zero=>rw[xN];simp only[D7,EX,Ge,List.sum_nil,Rat.add_zero];rfl
  |succ k ih=>
   rw[qH,Eg,List.sum_append,ih]
   simp only[D7,EX,Ge,List.sum_nil]
   have:fa ws (itb ws f (k+1))=fb ws (itb ws f k):=qT hU hF (eK hU hF hf k)
   rw[this]
   grind
 rw[key,<-qT hU hF (eK hU hF hf k),c];grind
def twT(ws:List Wl)(g:Nat):Int:=(fa ws g).1*(fb ws g).2-(fb ws g).1*(fa ws g).2
def arT(t b X Y:Int)(ws:List Wl)(g:Nat):Rat:=Ma.ut t b X 1 (fa ws g).1*Ma.ut t b Y 1 (fb ws g).2-Ma.ut t b X 1 (fb ws g).1*Ma.ut t b Y 1 (fa ws g).2
theorem rK(a c d:Rat)(u v w:Nat->Rat):∀l:List Nat,(l.map fun g=>a*u g+(c*v g+d*w g)).sum=a*(l.map u).sum+(c*(l.map v).sum+d*(l.map w).sum)
 |[]=>by simp;grind
 |g::l=>by
  rw[D7,Ge,rK a c d u v w l,D7,Ge,D7,Ge,D7,Ge]
  grind
theorem nX(u:Nat->Int):∀l:List Nat,(l.map fun g=>((u g:Int):Rat)).sum=(((l.map u).sum:Int):Rat)
 |[]=>by simp
 |g::l=>by
  rw[D7,Ge,nX u l,D7,Ge,Rat.intCast_add]
theorem Cf{ws:List Wl}(hU:∀w∈ws,Un5 w)(hF:PF ws){r:List Nat}(h:Rng ws r){t b X Y:Int}(hb:0<b):(r.map (arT t b X Y ws)).sum=((t:Rat)/b)*((t:Rat)/b)*(((r.map (twT ws)).sum:Int):Rat):=by
 obtain⟨f,k,hf,_,rfl,c⟩:=h.ex;have z1:=round0 hU hF hf c (fun p=>((p.1:Int):Rat));have z2:=round0 hU hF hf c (fun p=>((p.2:Int):Rat))
 have e:(arT t b X Y ws)=fun g=>(((t:Rat)/b)*((t:Rat)/b))*((twT ws g:Int):Rat)+((-(((t:Rat)/b)*((Y:Rat)/b)))*((((fb ws g).1:Int):Rat)-(((fa ws g).1:Int):Rat))+(((t:Rat)/b)*((X:Rat)/b))*((((fb ws g).2:Int):Rat)-(((fa ws g).2:Int):Rat))):=by
  funext g
  unfold arT twT;rw[cK hb,cK hb,cK hb,cK hb,Gu,Fh,Fh];grind
 rw[e,rK,nX];rw[z1,z2];grind
theorem rB(q:Rat)(B:Int)(h:(q.den:Int) ∣ B):((q.num*B.fdiv (q.den:Int):Int):Rat)=q*(B:Rat):=by
 obtain⟨k,rfl⟩:=h;have hd:(q.den:Int)≠0:=by have:=q.den_nz;omega
 have e:((q.den:Int)*k).fdiv (q.den:Int)=k:=by rw[EI _ (by omega)];exact Int.mul_ediv_cancel_left k hd
 rw[e,Fh,Fh];have hd':((q.den:Int):Rat)≠0:=fun z=>hd (by exact_mod_cast z)
 have m:q*((q.den:Int):Rat)=(q.num:Rat):=by
  have e:=Rat.num_divInt_den q
  rw[Rat.divInt_eq_div]at e
  rw[<-e]
  have e3:((q.num:Rat)/((q.den:Int):Rat))*((q.den:Int):Rat)=(q.num:Rat):=by grind
  rw[e]at e3 ⊢
  exact e3
 rw[<-m];grind
theorem xa{n d:Int}(hd:0<d):((Rat.divInt n d).den:Int) ∣ d:=by rw[Rat.den_divInt,if_neg (by omega)];have h1:d.natAbs/d.gcd n ∣ d.natAbs:=Nat.div_dvd_of_dvd (Int.ofNat_dvd_left.mp (Int.gcd_dvd_left d n));exact Int.ofNat_dvd_left.mpr h1
section
variable{X:Cx}
def BB:R2D:=rI2 (fun _ _=>True) fun i j=>.int (Builtin.bitXor i j)
theorem zW:OpD X (FN .BitXor) BB:=cT (ri0 AB) fun _ _ _=>by rw[Rep]
variable{o:Expr}{to:TD}{apos cpos:Pos}
def CY(to:TD):TD:=fun δ M Q=>to δ M fun x M1=>∃l ys,x=.ref l/\M1 l=some (.lst ys)/\Q .non (aq M1 l (.lst []))
theorem nM(ho:DE X o to)(hbase:FH o "clear" X.env (eval o X.env)=eval o X.env:=by rfl)(hline:(apos.endLine==cpos.line)=true:=by rfl):DE X (.Call (.Attribute o "clear" apos) [] [] cpos) (CY to):=
 aO (z8 PySem.F.plainAttrs_list PySem.F.slot_list_clear PySem.F.type_list_clear uK ho hbase hline) fun σ H Q ⟨δ,M,R,hsl,hM,q,fin⟩=>by
  refine⟨δ,M,_,hsl,hM,q,fun x M1 v H1 g1 r1 a1 zz1_0=>?_⟩
  obtain⟨l,ys,ex,hl,q1⟩:=zz1_0
  subst ex
  rw[Rep]at r1
  subst r1
  obtain⟨vs,hvs,rvs⟩:=a1 _ _ hl
  exact⟨.inl ⟨rfl,vs,SqL.of hvs⟩,l,vs,rfl,rfl,hvs,fin _ _ _ _ (g1.trans (.lst hvs)) (by rw[Rep]) (a1.pE hvs (by rw[ax])) q1⟩
end
theorem zR:∀f:Nat,f<80->Builtin.bitXor (f:Int) 1=((fx f:Nat):Int):=by decide
def diA(n:Nat)(S:Int->Bool):D5->Hp->Addr->Prop:=fun K H a=>∃kvs:List (Key×V),H a=some (.dK kvs)/\kvs.length<=n/\∀i:Int,(kvs.any fun kv=>decide (kv.1=Sum.inl i))=S i
def diM(n:Nat)(S:Int->Bool):MO:=.gen (diA n S)
section
variable{K:D5}{H H':Hp}{M:MH}{a:Addr}
theorem diA.nZ{n:Nat}{S:Int->Bool}(h:diA n S K H a):lY K H a (diM n S):=⟨h,(by obtain⟨kvs,h1,_⟩:=h;rw[h1];simp),fun H' g e=>let⟨kvs,h1,h2⟩:=h;⟨kvs,e.trans h1,h2⟩⟩
theorem Abs.di{n:Nat}{S:Int->Bool}(h:Abs K H M)(e:M a=some (diM n S)):diA n S K H a:=(h a _ e).1
theorem Abs.Cw{p:Addr}(h:Abs K H M)(hp:H p=none):Abs K (upd H p (.dK [])) (aq M p (diM 0 fun _=>false)):=fun a u e=>by
 by_cases ne:a=p
 ·subst ne;rw[af]at e;cases e;exact diA.nZ ⟨[],aK,E3 _,fun _=>rfl⟩
 ·rw[ai ne]at e;exact(h a u e).eQ (.new hp) (aL ne)
theorem Grow.dK{kvs:List (Key×V)}{o:HO}(h:H a=some (.dK kvs)):Grow K H (upd H a o):=.put (fun xs e=>by rw[h]at e;cases e) (fun u xs e=>by rw[h]at e;cases e)
theorem Abs.Bz{n:Nat}{S:Int->Bool}{kvs:List (Key×V)}{i:Int}{v:V}(h:Abs K H M)(hx:H a=some (.dK kvs))(hn:kvs.length<=n)(hS:∀i:Int,(kvs.any fun kv=>decide (kv.1=Sum.inl i))=S i) : Abs K (upd H a (.dK (putK kvs (.inl i) v))) (aq M a (diM (n+1) fun j=>decide (j=i)||S j)):=fun c u e=>by
 by_cases ne:c=a
 ·subst ne;rw[af]at e;cases e;refine diA.nZ ⟨_,aK,by have:=eV kvs (.inl i) v;omega,fun j=>?_⟩;rw[de,uM];by_cases z:j=i
  ·subst z;rw[if_pos rfl];simp
  ·rw[if_neg (fun q=>z (by injection q)),<-de,hS];simp[z]
 ·rw[ai ne]at e;exact(h c u e).eQ (.dK hx) (aL ne)
end
section
variable{X:Cx}{pos:Pos}
def Au:TD:=fun _ M Q=>∀p,M p=none->Q (.ref p) (aq M p (diM 0 fun _=>false))
theorem uG:DE X (.Dict [] [] pos) Au:=aO tF fun σ H Q zz1_0=>by obtain⟨δ,M,R,hs,hM,q,fin⟩:=zz1_0;exact(fun p hp=>fin _ _ _ _ (.new hp) (by rw[Rep]) (hM.Cw hp) (q p (hM.fresh hp)))
def yT(g:Bool->Bool)(ty td:TD):TD:=fun δ M Q=>ty δ M fun y M1=>td δ M1 fun x M2=>∃i l n S,y=.int i/\x=.ref l/\M2 l=some (diM n S)/\Q (.bl (g (S i))) M2
theorem xQ{K:D5}{g:Bool->Bool}{ty td:TD}{σ:L2.St}{H:Hp}{Q:VK}(h:lift K (yT g ty td) σ H Q) : (lift K ty) σ H fun y H1=>(lift K td) σ H1 fun x H2=>∃a o,x=.ref a/\Bj H2 a y o/\Q (.bl (g o.isSome)) H2:=by obtain⟨δ,M,R,hs,hM,q,fin⟩:=h;refine⟨δ,M,_,hs,hM,q,fun y M1 v H1 g1 r1 a1 q1=>⟨δ,M1,_,hs.mono g1,a1,q1,fun x M2 u H2 g2 r2 a2 zz2_0=>?_⟩⟩;obtain⟨i,l,n,S,ey,ex,hl,q2⟩:=zz2_0;subst ey ex;rw[Rep]at r1;rw[Rep]at r2;subst r1 r2;obtain⟨kvs,h1,h2,h3⟩:=a2.di hl;refine⟨l,dI kvs (.inl i),rfl,.inl ⟨kvs,.inl i,.inl h1,rfl,rfl⟩,?_⟩;rw[<-de,h3];exact fin _ _ _ _ (g1.trans g2) (by rw[Rep]) a2 q2
variable{e1 e2:Expr}{ty td:TD}
theorem oQ(hu:X.A.units+66<F0)(h1:DE X e1 ty)(h2:DE X e2 td)(hm:GD .NotIn e2=false:=by rfl):DT X (.Compare e1 [.NotIn] [e2] pos) (tBD (yT (fun b=>!b) ty td)):=
 j6 (A7 (sM (by omega) h1 h2) hm) fun σ H Q zz5_0=>by obtain⟨δ,M,R,hs,hM,q,fin⟩:=zz5_0;exact(xQ (g:=fun b=>!b) (Q:=fun x H'=>∃c,x=.bl c/\Q c H') ⟨δ,M,_,hs,hM,q,fun d M' v H' g r a zz6_0=>by
  obtain⟨c,ec,z⟩:=zz6_0
  subst ec
  rw[Rep]at r;subst r
  exact⟨c,rfl,fin _ _ _ g a z⟩⟩)
def zm(td ty tv:TD):TSD:=fun B δ M=>tv δ M fun d M1=>td δ M1 fun x M2=>ty δ M2 fun y M3=>∃l i n S,x=.ref l/\y=.int i/\M3 l=some (diM n S)/\n<1000000/\B.nx δ (aq M3 l (diM (n+1) fun j=>decide (j=i)||S j))
theorem uS{o i value:Expr}{tv:TD}{pos':Pos}(hu:X.A.units+66<F0)(ho:DE X o td)(hi:DE X i ty)(hv:DE X value tv)(hs:GI value (some (.Subscript o i pos')) pos.line X.env=pure false:=by rfl):DSt X (.Assign [.Subscript o i pos'] value pos) (zm td ty tv):=
 cD (xA (by omega) ho hi hv hs) fun D σ H zz7_0=>by obtain⟨δ,M,hs,hM,B,ok,q⟩:=zz7_0;exact(⟨δ,M,_,hs,hM,q,fun d M1 v H1 g1 r1 a1 q1=>⟨δ,M1,_,hs.mono g1,a1,q1,fun x M2 u H2 g2 r2 a2 q2=>⟨δ,M2,_,(hs.mono g1).mono g2,a2,q2,fun y M3 u3 H3 g3 r3 a3 zz8_0=>by
  obtain⟨l,i,n,S,ex,ey,hl,hn,q3⟩:=zz8_0
  subst ex ey
  rw[Rep]at r2;rw[Rep]at r3;subst r2 r3
  obtain⟨kvs,h1,h2,h3⟩:=a3.di hl
  have sz:1000000<=Ea:=nbL rfl
  have g4:Grow X.K H3 (upd H3 l (.dK (putK kvs (.inl i) v))):=.dK h1
  exact⟨l,_,rfl,.inl ⟨kvs,.inl i,h1,rfl,by omega,rfl⟩,ok.nx _ _ _ _ (((g1.trans g2).trans g3).trans g4) (hs.mono (((g1.trans g2).trans g3).trans g4)) (a3.Bz h1 h2 h3) q3⟩⟩⟩⟩)
end
section
variable{X:Cx}
end
def Ax(ws:List Wl)(f:Nat)(r:List Nat):Prop:=∃kk,NR ws f kk/\bh ws (itb ws f kk)=f/\r=rn ws f kk
theorem xq{ws:List Wl}{f:Nat}{r r':List Nat}(h:Ax ws f r)(h':Ax ws f r'):r=r':=by
 obtain⟨k,n,e,rfl⟩:=h;obtain⟨k',n',e',rfl⟩:=h';have no:∀{a b:Nat},NR ws f b->bh ws (itb ws f a)=f->¬a<b:=fun{a b} n e l=>n 0 (a+1) (by omega) (by omega) e.symm;have h1:=no n' e;have h2:=no n e';have:k=k':=by omega
 rw[this]
def Rgs(ws:List Wl):Nat->List (List Nat)->Prop
 |0,rs=>rs=[]
 |i+1,rs=>∃qs,Rgs ws i qs/\((i∈qs.flatten/\rs=qs)\/(i∉qs.flatten/\∃r,Ax ws i r/\rs=qs++[r]))
theorem uJ{ws:List Wl}:∀{i:Nat} {rs rs':List (List Nat)},Rgs ws i rs->Rgs ws i rs'->rs=rs'
 |0,rs,rs',h,h'=>by rw[show rs=[]from h,show rs'=[]from h']
 |i+1,rs,rs',⟨qs,h1,h2⟩,⟨qs',h1',h2'⟩=>by
  have:=uJ h1 h1'
  subst this
  rcases h2 with⟨a,rfl⟩|⟨a,r,hr,rfl⟩
  ·rcases h2' with⟨a',rfl⟩|⟨a',_⟩
   ·rfl
   ·exact absurd a a'
  ·rcases h2' with⟨a',_⟩|⟨a',r',hr',rfl⟩
   ·exact absurd a' a
   ·rw[xq hr hr']
def RL(M:MH)(ps:List Addr)(rs:List (List Nat)):Prop:=FL (fun(p:Addr) (r:List Nat)=>M p=some (.lst (r.map fun g:Nat=>D.int (g:Int)))) ps rs
theorem RL.len{M:MH}{ps:List Addr}{rs:List (List Nat)}(h:RL M ps rs):ps.length=rs.length:=by
 unfold RL at h
 induction h with
 |nil=>rfl
 |cons _ _ ih=>rw[EA,EA,ih]
theorem RL.mono{M M':MH}{ps:List Addr}{rs:List (List Nat)}(h:RL M ps rs)(s:∀p∈ps,∀o,M p=some o->M' p=some o):RL M' ps rs:=by
 unfold RL at *
 induction h with
 |nil=>exact .nil
 |cons a _ ih=>exact .cons (s _ (by simp) _ a) (ih fun p hp o e=>s p (by simp[hp]) o e)
theorem RL.snoc{M:MH}{ps:List Addr}{rs:List (List Nat)}{p:Addr}{r:List Nat}(h:RL M ps rs)(e:M p=some (.lst (r.map fun g:Nat=>D.int (g:Int)))):RL M (ps++[p]) (rs++[r]):=Paired.snoc h e
section
variable{α β:Type}{n:Nat}{k:Nat->Int}
def kwp(n:Nat)(k:Nat->Int){α:Type}:PySem.W.KasT α->(α->Prop)->Prop
 |.ret a,Q=>Q a
 |.ask i j f,Q=>i<n/\j<n/\kwp n k (f (decide (k i<k j))) Q
theorem dM{f:α->PySem.W.KasT β}{Q:β->Prop}:∀(t:PySem.W.KasT α),kwp n k t (fun a=>kwp n k (f a) Q)->kwp n k (t.bind f) Q
 |.ret _,h=>h
 |.ask i j g,h=>⟨h.1,h.2.1,dM _ h.2.2⟩
theorem cx{Q R:α->Prop}(hq:∀a,Q a->R a):∀(t:PySem.W.KasT α),kwp n k t Q->kwp n k t R
 |.ret _,h=>hq _ h
 |.ask i j g,h=>⟨h.1,h.2.1,cx hq _ h.2.2⟩
theorem qB{cmp:Nat->Nat->(Bool->D6->Prop)->D6->Prop}{s:D6}(hc:∀i j (C:Bool->D6->Prop),i<n->j<n->C (decide (k i<k j)) s->cmp i j C s){Q:α->D6->Prop}:∀(t:PySem.W.KasT α),kwp n k t (fun a=>Q a s)->t.kasWp cmp Q s
 |.ret _,h=>h
 |.ask i j g,h=>hc i j _ h.1 h.2.1 (qB hc _ h.2.2)
structure Pmu(n:Nat)(p:Array Nat):Prop where
 perm:p.Perm (E5 n).toArray
theorem Pmu.size{p:Array Nat}(h:Pmu n p):p.size=n:=by have:=h.perm.size_eq;simpa using this
theorem Pmu.lt{p:Array Nat}(h:Pmu n p){i:Nat}(hi:i<n):p.getD i 0<n:=by
 have hi':i<p.size:=by rw[h.size];exact hi
 have:p[i]∈(E5 n).toArray:=h.perm.mem_iff.mp (Array.getElem_mem hi');simpa[Array.getD,hi']using this
theorem Pmu.inj{p:Array Nat}(h:Pmu n p){i j:Nat}(hi:i<n)(hj:j<n)(e:p.getD i 0=p.getD j 0):i=j:=by
 have hi':i<p.size:=by rw[h.size];exact hi
 have hj':j<p.size:=by rw[h.size];exact hj
 have nd:p.toList.Nodup:=(Array.perm_iff_toList_perm.mp h.perm).nodup_iff.mpr (by simpa using List.nodup_range);have e':p.toList[i]=p.toList[j]:=by simpa[Array.getD,hi',hj']using e
 have pw:=F5.mp nd;rcases Nat.lt_trichotomy i j with h|h|h
 ·exact absurd e' (pw i j _ _ h)
 ·exact h
 ·exact absurd e'.symm (pw j i _ _ h)
def ky(k:Nat->Int)(p:Array Nat)(i:Nat):Int:=k (p.getD i 0)
def Inj(n:Nat)(k:Nat->Int):Prop:=∀i j,i<n->j<n->k i=k j->i=j
theorem p6(hk:Inj n k){p:Array Nat}(h:Pmu n p){i j:Nat}(hi:i<n)(hj:j<n)(hij:i≠j):ky k p i≠ky k p j:=fun e=>hij (h.inj hi hj (hk _ _ (h.lt hi) (h.lt hj) e))
def Up(k:Nat->Int)(p:Array Nat)(m:Nat):Prop:=∀i j,i<j->j<m->ky k p i<ky k p j
def Dn(k:Nat->Int)(p:Array Nat)(m:Nat):Prop:=∀i j,i<j->j<m->ky k p j<ky k p i
theorem xX{p:Array Nat}{m:Nat}(h1:1<=m)(h:Up k p m)(h2:ky k p (m-1)<ky k p m):Up k p (m+1):=fun i j hij hj=>by
 by_cases e:j=m
 ·subst e;by_cases e':i=j-1
  ·subst e';exact h2
  ·have:=h i (j-1) (by omega) (by omega);omega
 ·exact h i j hij (by omega)
theorem yg{p:Array Nat}{m:Nat}(h1:1<=m)(h:Dn k p m)(h2:ky k p m<ky k p (m-1)):Dn k p (m+1):=fun i j hij hj=>by
 by_cases e:j=m
 ·subst e;by_cases e':i=j-1
  ·subst e';exact h2
  ·have:=h i (j-1) (by omega) (by omega);omega
 ·exact h i j hij (by omega)
theorem mN(hk:Inj n k){p:Array Nat}(hp:Pmu n p):∀(f m:Nat),1<=m->m+f=n->Up k p m->kwp n k (PySem.W.kas_asc p f m) fun r=>m<=r/\r<=n/\Up k p r/\(r=n\/ky k p r<ky k p (r-1))
 |0,m,h1,e,u=>⟨E3 _,by omega,u,.inl (by omega)⟩
 |f+1,m,h1,e,u=>by
  refine⟨hp.lt (by omega),hp.lt (by omega),?_⟩
  by_cases c:k (p.getD m 0)<k (p.getD (m-1) 0)
  ·rw[decide_eq_true c]
   exact⟨E3 _,by omega,u,.inr c⟩
  ·rw[decide_eq_false c]
   have ne:=p6 hk hp (i:=m) (j:=m-1) (by omega) (by omega) (by omega)
   refine cx (fun r h=>⟨by omega,h.2⟩) _ (mN hk hp f (m+1) (by omega) (by omega) (xX h1 u ?_))
   unfold ky at ne ⊢;omega
theorem nR(hk:Inj n k){p:Array Nat}(hp:Pmu n p):∀(f m:Nat),1<=m->m+f=n->Dn k p m->kwp n k (PySem.W.kas_desc f p m 0) fun r=>r.1=p/\r.2.2=0/\m<=r.2.1/\r.2.1<=n/\Dn k p r.2.1
 |0,m,h1,e,u=>⟨rfl,rfl,E3 _,by show m<=n;omega,u⟩
 |f+1,m,h1,e,u=>by
  refine⟨hp.lt (by omega),hp.lt (by omega),?_⟩
  by_cases c:k (p.getD m 0)<k (p.getD (m-1) 0)
  ·rw[decide_eq_true c]
   exact cx (fun r h=>⟨h.1,h.2.1,by omega,h.2.2.2⟩) _ (nR hk hp f (m+1) (by omega) (by omega) (yg h1 u c))
  ·rw[decide_eq_false c]
   have ne:=p6 hk hp (i:=m) (j:=m-1) (by omega) (by omega) (by omega)
   have c2:k (p.getD (m-1) 0)<k (p.getD m 0):=by unfold ky at ne;omega
   refine⟨hp.lt (by omega),hp.lt (by omega),?_⟩
   rw[decide_eq_true c2]
   exact⟨rfl,rfl,E3 _,by show m<=n;omega,u⟩
theorem getD_eq(p:Array Nat)(i:Nat):p.getD i 0=(p[i]?).getD 0:=by simp[Array.getD_eq_getD_getElem?]
theorem rM{p:Array Nat}{m:Nat}(hp:Pmu n p):Pmu n (PySem.W.kas_rev p 0 m):=⟨(mirror_perm _ _ _ _).trans hp.perm⟩
theorem Am{p:Array Nat}{m:Nat}(hp:Pmu n p)(hm:m<=n)(h:Dn k p m):Up k (PySem.W.kas_rev p 0 m) m:=fun i j hij hj=>by unfold ky PySem.W.kas_rev;rw[getD_eq,getD_eq,getElem?_mirror_all (by rw[hp.size];exact hm),getElem?_mirror_all (by rw[hp.size];exact hm),if_pos ⟨by omega,by omega⟩,if_pos ⟨by omega,hj⟩,<-getD_eq,<-getD_eq];exact h (0+m-1-j) (0+m-1-i) (by omega) (by omega)
theorem sW(hk:Inj n k){p:Array Nat}(hp:Pmu n p){m:Nat}(h1:1<=m)(hm:m<=n)(d:Dn k p m):kwp n k (PySem.W.kas_tail3 m n p) fun r=>Pmu n r.2/\1<=r.1/\r.1<=n/\Up k r.2 r.1:=dM _ (cx (fun r h=>show Pmu n _/\_ from⟨rM hp,by show 1<=r;omega,h.2.1,h.2.2.1⟩) _ (mN hk (rM hp) (n-m) m h1 (by omega) (Am hp hm d)))
theorem sv(hk:Inj n k)(hn:2<=n){p:Array Nat}(hp:Pmu n p):kwp n k (PySem.W.kas_count n p) fun r=>Pmu n r.2/\1<=r.1/\r.1<=n/\Up k r.2 r.1:=by
 refine dM _ (cx (fun r h=>?_) _ (mN hk hp (n-1) 1 (E3 _) (by omega) fun i j hij hj=>by omega));obtain⟨r1,r2,u,hr⟩:=h;by_cases e:r=n
 ·rw[if_pos (by simp[e])];exact⟨hp,r1,r2,u⟩
 ·rw[if_neg (by simp[e])];by_cases e1:r>1
  ·rw[if_pos e1];refine⟨hp.lt (by omega),hp.lt (by omega),?_⟩;have:k (p.getD 0 0)<k (p.getD (r-1) 0):=u 0 (r-1) (by omega) (by omega);rw[decide_eq_true this];exact⟨hp,r1,r2,u⟩
  ·rw[if_neg e1];have er:r=1:=by omega
   subst er;refine dM _ (cx (fun q h=>?_) _ (nR hk hp (n-(1+1)) (1+1) (by omega) (by omega) fun i j hij hj=>?_))
   ·obtain⟨e2,e3,e4,e5,d⟩:=h;rw[if_neg (by rw[e3];exact Nat.lt_irrefl 0),e2];exact sW hk hp (by omega) e5 d
   ·obtain rfl:i=0:=by omega
    obtain rfl:j=1:=by omega
    exact hr.resolve_left e
theorem ik(hk:Inj n k){p:Array Nat}(hp:Pmu n p){m:Nat}(hm:m<n)(u:Up k p m):∀(f l r:Nat),r<=l+f->l<=r->r<=m->(∀i,i<l->ky k p i<ky k p m)->(∀i,r<=i->i<m->ky k p m<ky k p i)->
 kwp n k (PySem.W.kas_place p m f l r) fun x=>x<=m/\(∀i,i<x->ky k p i<ky k p m)/\(∀i,x<=i->i<m->ky k p m<ky k p i)
 |0,l,r,h1,h2,h3,a,b=>⟨by omega,a,fun i hi hm=>b i (by omega) hm⟩
 |f+1,l,r,h1,h2,h3,a,b=>by
  show kwp n k (if l≥r then _ else _) _
  by_cases e:l≥r
  ·rw[if_pos e]
   exact⟨by omega,a,fun i hi hm=>b i (by omega) hm⟩
  ·rw[if_neg e]
   refine⟨hp.lt hm,hp.lt (by omega),?_⟩
   by_cases c:k (p.getD m 0)<k (p.getD ((l+r)/2) 0)
   ·rw[decide_eq_true c]
    refine ik hk hp hm u f l ((l+r)/2) (by omega) (by omega) (by omega) a fun i hi him=>?_
    by_cases ei:i=(l+r)/2
    ·subst ei;exact c
    ·have:=u ((l+r)/2) i (by omega) him
     unfold ky at this ⊢;omega
   ·rw[decide_eq_false c]
    have ne:=p6 hk hp (i:=m) (j:=(l+r)/2) hm (by omega) (by omega)
    refine ik hk hp hm u f ((l+r)/2+1) r (by omega) (by omega) h3 (fun i hi=>?_) b
    by_cases ei:i=(l+r)/2
    ·subst ei;unfold ky at ne ⊢;omega
    ·have:=u i ((l+r)/2) (by omega) (by omega)
     unfold ky at ne this ⊢;omega
theorem vL{p:Array Nat}(hp:Pmu n p){m x:Nat}(hm:m<n)(hx:x<=m)(i:Nat):ky k (bubble p m (m-x)) i=if i=x then ky k p m else if x<i/\i<=m then ky k p (i-1)else ky k p i:=by
 unfold ky;rw[getD_eq,getElem?_bubble (by rw[hp.size];exact hm) _ (by omega),show m-(m-x)=x by omega];split
 ·rw[<-getD_eq]
 ·split
  ·rw[<-getD_eq]
  ·rw[<-getD_eq]
theorem qV(hk:Inj n k):∀(f:Nat) (p:Array Nat) (m:Nat),Pmu n p->m+f=n->Up k p m->kwp n k (PySem.W.kas_bin f p m) fun q=>Pmu n q/\Up k q n
 |0,p,m,hp,e,u=>⟨hp,by rw[show n=m by omega];exact u⟩
 |f+1,p,m,hp,e,u=>by
  have hm:m<n:=by omega
  refine dM _ (cx (fun x h=>?_) _ (ik hk hp hm u m 0 m (by omega) (by omega) (E3 _) (fun i hi=>by omega) fun i hi him=>by omega))
  obtain⟨hx,a,b⟩:=h
  refine qV hk f _ (m+1) ⟨(bubble_perm _ _ _).trans hp.perm⟩ (by omega) fun i j hij hj=>?_
  rw[vL hp hm hx,vL hp hm hx]
  by_cases e1:i=x
  ·rw[if_pos e1,if_neg (by omega),if_pos ⟨by omega,by omega⟩]
   exact b _ (by omega) (by omega)
  ·rw[if_neg e1]
   by_cases e2:x<i
   ·rw[if_pos ⟨e2,by omega⟩,if_neg (by omega),if_pos ⟨by omega,by omega⟩]
    exact u _ _ (by omega) (by omega)
   ·rw[if_neg (by omega)]
    by_cases e3:j=x
    ·rw[if_pos e3];exact a i (by omega)
    ·rw[if_neg e3]
     by_cases e4:x<j
     ·rw[if_pos ⟨e4,by omega⟩]
      by_cases e5:i=j-1
      ·omega
      ·exact u _ _ (by omega) (by omega)
     ·rw[if_neg (by omega)]
      exact u _ _ hij (by omega)
theorem vh(hk:Inj n k)(hn:2<=n):kwp n k (PySem.W.kas_sort n) fun p=>Pmu n p/\Up k p n:=by
 refine dM _ (cx (fun r h=>?_) _ (sv hk hn (p:=(E5 n).toArray) ⟨Array.Perm.refl _⟩));obtain⟨hp,h1,h2,u⟩:=h;by_cases e:r.1<n
 ·rw[if_pos e,show max r.1 1=r.1 by omega];exact qV hk _ _ _ hp (by omega) u
 ·rw[if_neg e];have:r.1=n:=by omega
  exact⟨hp,by rw[this]at u;exact u⟩
end
section
variable{prog:Ee}{w:EB}{A:EE}{E:D4->D6->Prop}{s:D6}
abbrev jk(h:Heap)(a:Addr)(vs:List D4):Heap:=((h.update a (Obj.mapSeq fun _=>#[])).push (GK "tuple" vs.toArray 0)).push (GK "list" #[] 0)
theorem wR{h:Heap}{a:Addr}{vs:List D4}{n:Nat}(ho:h.get? a=some (GK "list" vs.toArray n)):∃e,(h.update a (Obj.mapSeq fun _=>#[])).get? a=some (GK "list" #[] e)/\(jk h a vs).get? a=some (GK "list" #[] e):=⟨_,get?_update_seq ho (fun _=>#[]),D9 _ (D9 _ (get?_update_seq ho (fun _=>#[])))⟩
theorem mZ{h:Heap}{a b:Addr}{vs:List D4}{o:Obj}(hb:b≠a)(e:h.get? b=some o):(jk h a vs).get? b=some o:=D9 _ (D9 _ (((G7 h a (Obj.mapSeq fun _=>(#[]:Array D4))).2 b hb).trans e))
def df(vs:List D4)(p:Array Nat):Array D4:=F4 (p.toList.map fun i=>vs.getD i GC)
theorem oq{a:Addr}{vs:List D4}{n:Nat}{k:Nat->Int}{κ:SortKind}{P:PySem.Fin->D6->Prop}(ho:s.heap.get? a=some (GK "list" vs.toArray n))(h64:vs.length<64)(hinj:Inj vs.length k)
 (hk:2<=vs.length->∀(R:SortKind->D6->Prop) (E':D4->D6->Prop),R κ { s with heap:=jk s.heap a vs }->E7 (Ef prog w) A (keyKind' vs.toArray) R E' { s with heap:=jk s.heap a vs })
 (hc:∀i j (C:Bool->D6->Prop),i<vs.length->j<vs.length->C (decide (k i<k j)) { s with heap:=jk s.heap a vs }->PySem.W.kas_ask prog w A κ vs i j C { s with heap:=jk s.heap a vs })
 (h:∀p,Pmu vs.length p->Up k p vs.length->P (.done (.ret .none)) { s with heap:=sortedHeap s.heap a vs (df vs p) }):E7 (Ef prog w) A (GP.«list.sort» ⟨[.ref a],[]⟩) P E s:=by
 obtain⟨e,ho1,ho6⟩:=wR (vs:=vs) ho
 rw[list_sort_plain]
 refine cc (listItems_at ho rfl (cc (listUpdate_at ho rfl ?_ (by rw[Ec,GN];omega) (EZ _))))
 refine cc (seqEpoch_at ho1 rfl (cc (wpAny_newTuple ?_ (by show vs.length<=_;rw[GN];omega))))
 refine cc (wpAny_newList (EY ?_) (EZ _))
 show E7 (Ef prog w) A _ P E { s with heap:=jk s.heap a vs }
 dsimp only
 by_cases h2:¬2<=vs.length
 ·have hn:vs.toArray.size<2:=by rw[Ec];omega
  rw[if_pos hn,if_pos hn]
  refine cc (E1 ?_)
  rw[StateT.run_pure]
  refine cc (E1 ?_)
  dsimp only
  have hp:Pmu vs.length (E5 vs.length).toArray:=⟨Array.Perm.refl _⟩
  have hz:(df vs (E5 vs.length).toArray).size=vs.length:=by unfold df;simp
  have har:arrOf (SortSt.mk' general' (vs.toArray.zip vs.toArray) #[] 7 none)=(E5 vs.length).toArray.map (PySem.W.kas_item (vs.toArray.zip vs.toArray)):=by
   have e:=PySem.W.kas_range (vs.toArray.zip vs.toArray)
   rw[show(vs.toArray.zip vs.toArray).size=vs.length by simp]at e
   exact e.symm
  rw[show(arrOf (SortSt.mk' general' (vs.toArray.zip vs.toArray) #[] 7 none)).map (·.2)=df vs (E5 vs.length).toArray from PySem.W.kat_snds rfl har]
  refine cc (seqEpoch_at ho6 rfl (cc (listUpdate_at ho6 rfl ?_ (EZ _) (by rw[hz,GN];omega))))
  simp only[bne_self_eq_false,Fb,if_false]
  exact E1 (h _ hp fun i j hij hj=>by omega)
 have h2:2<=vs.length:=Decidable.not_not.mp h2
 have hn:¬vs.toArray.size<2:=by rw[Ec];omega
 rw[if_neg hn,if_neg hn]
 refine cc (hk h2 _ _ ?_)
 refine cc (Ed (PySem.W.kat_run (Q:=fun st s'=>s'={ s with heap:=jk s.heap a vs }/\∃p,Pmu vs.length p/\Up k p vs.length/\arrOf st=p.map (PySem.W.kas_item (vs.toArray.zip vs.toArray))/\failedOf st=none)
  (G:=fun p s'=>s'={ s with heap:=jk s.heap a vs }/\Pmu vs.length p/\Up k p vs.length) rfl h2 h64 (fun p st s' _ b1 b2 b3=>⟨b3.1,p,b3.2.1,b3.2.2,b1,b2⟩)
  (qB (n:=vs.length) (k:=k) hc _ (cx (fun p q=>⟨rfl,q⟩) _ (vh hinj h2)))) ?_ fun _ _ x=>x)
 rintro⟨⟨⟩,st⟩ s1 ⟨q0,p,hp,hu,har,hf⟩
 dsimp only at q0 ⊢
 subst q0
 have hz:(df vs p).size=vs.length:=by unfold df;rw[Ec,D8,Fm,hp.size]
 rw[show(arrOf st).map (·.2)=df vs p from PySem.W.kat_snds rfl har]
 refine cc (seqEpoch_at ho6 rfl (cc (listUpdate_at ho6 rfl ?_ (EZ _) (by rw[hz,GN];omega))))
 rw[hf]
 simp only[bne_self_eq_false,Fb,if_false]
 exact E1 (h p hp hu)
theorem sk{l:Addr}{vs:List D4}{k:Nat->Int}{κ:SortKind}{Q:D4->D6->Prop}(hl:s.heap.IsList l vs.toArray)(h64:vs.length<64)(hinj:Inj vs.length k)
 (hk:∀h':Heap,(∀b o,s.heap.get? b=some o->h'.get? b=some o)->2<=vs.length->∀(R:SortKind->D6->Prop) (E':D4->D6->Prop),R κ { s with heap:=h' }->E7 (Ef prog w) A.in1.in1 (keyKind' vs.toArray) R E' { s with heap:=h' })
 (hc:∀h':Heap,(∀b o,s.heap.get? b=some o->h'.get? b=some o)->∀i j (C:Bool->D6->Prop),i<vs.length->j<vs.length->C (decide (k i<k j)) { s with heap:=h' }->PySem.W.kas_ask prog w A.in1.in1 κ vs i j C { s with heap:=h' })
 (h:∀p,Pmu vs.length p->Up k p vs.length->Q (.ref (s.heap.objs.size+1)) { s with heap:=sortedAll s.heap vs (df vs p) }):E7 (Ef prog w) A (call (.builtin "sorted") [.ref l]) Q E s:=by
 refine Calls.call_function_entry kind_sorted plain_sorted entry_sorted (args_sorted1 _) ?_
 unfold GP.«sorted»
 refine cc (m:=checkCount "sorted" 1 1 _) (E1 (cc (collect_list hl ?_ (by rw[GN];omega))))
 refine cc (wpAny_newList ?_ (by rw[GN];omega))
 generalize e1:((s.heap.push (GK "list" #[] 0)).update s.heap.objs.size (Obj.mapSeq (·++vs.toArray)))=h1
 have z1:h1.objs.size=s.heap.objs.size+1:=by rw[<-e1,Heap.size_update,size_push']
 have o1:∀b o,s.heap.get? b=some o->h1.get? b=some o:=fun b o q=>by
  rw[<-e1,Heap.get?_update_ne _ _ _ _ (Ex (E8 q)),Heap.get?_push_ne _ _ _ (Ex (E8 q))]
  exact q
 have at1:(h1.push (GK "list" vs.toArray 0)).get? (s.heap.objs.size+1)=some (GK "list" vs.toArray 0):=by rw[<-z1];exact E6 _ rfl
 show E7 _ _ _ _ _ { s with heap:=h1.push (GK "list" vs.toArray 0) }
 rw[z1]
 have kp:∀b o,s.heap.get? b=some o->(jk (h1.push (GK "list" vs.toArray 0)) (s.heap.objs.size+1) vs).get? b=some o:=fun b o q=>
  mZ (Ex (Nat.lt_succ_of_lt (E8 q))) (D9 _ (o1 b o q))
 refine cc (EY (Gf slot_list_sort ⟨_,at1,rfl⟩ entry_list_sort (oq (s:={ s with heap:=h1.push (GK "list" vs.toArray 0) }) at1 h64 hinj (hk _ kp) (hc _ kp) fun p hp hu=>⟨_,rfl,E1 ⟨_,rfl,?_⟩⟩) (args_list_sort _)))
 have:=h p hp hu
 unfold sortedAll at this
 rw[e1]at this
 exact this
end
section
variable{X:Cx}
def p0(us:List (Int×Int))(i:Nat):Int×Int:=us.getD i (0,0)
def pky(us:List (Int×Int))(i:Nat):Int:=100*(p0 us i).1+(p0 us i).2
def Pb(us:List (Int×Int)):Prop:=us.length<64/\us.Nodup/\∀u∈us,0<=u.2/\u.2<100
theorem eo{us:List (Int×Int)}{i:Nat}(h:i<us.length):p0 us i∈us:=by unfold p0;rw[List.getD_eq_getElem?_getD,E2 h];exact ET h
theorem Pb.inj{us:List (Int×Int)}(h:Pb us):Inj us.length (pky us):=fun i j hi hj e=>by
 have b1:=h.2.2 _ (eo hi);have b2:=h.2.2 _ (eo hj);unfold pky at e;have e1:p0 us i=p0 us j:=Prod.ext (by omega) (by omega);unfold p0 at e1;rw[List.getD_eq_getElem?_getD,List.getD_eq_getElem?_getD,E2 hi,E2 hj]at e1;have pw:=F5.mp h.2.1;rcases Nat.lt_trichotomy i j with q|q|q
 ·exact absurd e1 (pw i j _ _ q)
 ·exact q
 ·exact absurd e1.symm (pw j i _ _ q)
theorem x5{xs:List V}{its:List D4}(h:Vals xs its):∀i,RelV (xs.getD i .non) (its.getD i .none):=by
 induction h with
 |nil=>intro i;simp;rfl
 |cons a _ ih=>intro i;cases i with
  |zero=>exact a
  |succ i=>exact ih i
theorem gW{xs:List V}{its:List D4}(h:Vals xs its):∀l:List Nat,Vals (l.map fun i=>xs.getD i .non) (l.map fun i=>its.getD i .none)
 |[]=>.nil
 |i::l=>.cons (x5 h i) (gW h l)
variable{prog:Ee}{w:EB}{A:EE}{E:D4->D6->Prop}{s:D6}
theorem qX{x y:Addr}{a b c d:Int}{t1 t2 t3 t4:Tok}{C:Bool->D6->Prop}(hx:IsTup s.heap x #[.int a t1,.int b t2])(hy:IsTup s.heap y #[.int c t3,.int d t4])(hb:0<=b/\b<100)(hd:0<=d/\d<100) (h:C (decide (100*a+b<100*c+d)) s):E7 (Ef prog w) A (keyLt' (tuples' true) (.ref x) (.ref y)) C E s:=by
 obtain⟨ox,gx,_,n,dx⟩:=hx;obtain⟨oy,gy,_,m,dy⟩:=hy;refine PySem.W.kat_lt gx dx gy dy ?_;refine PySem.W.kat_cons (wpAny_eqBool_int ?_);by_cases e:a=c
 ·subst e;rw[show(a==a)=true by simp];refine PySem.W.kat_yes (PySem.W.kat_cons (wpAny_eqBool_int ?_));by_cases e2:b=d
  ·subst e2;rw[show(b==b)=true by simp];refine PySem.W.kat_yes (PySem.W.kat_nil ?_);rw[show decide (100*a+b<100*a+b)=false by simp]at h;exact h
  ·rw[show(b==d)=false by simpa using e2];refine PySem.W.kat_no ?_;rw[show(true&&(0+1==0))=false by rfl];refine PySem.W.kat_one _ _ ?_;rw[show decide (100*a+b<100*a+d)=decide (b<d) by exact decide_eq_decide.mpr (by omega)]at h;exact lt_int h
 ·rw[show(a==c)=false by simpa using e];refine PySem.W.kat_no ?_;show E7 _ _ (oneLt' true _ _) _ _ _;rw[show decide (100*a+b<100*c+d)=decide (a<c) by exact decide_eq_decide.mpr (by omega)]at h;exact oneLt_int h
end
section
variable{X:Cx}
def Prs(K:D5)(H:Hp):List V->List (Int×Int)->Prop
 |[],[]=>True
 |x::xs,u::us=>(∃a,x=.ref a/\SqT K H a [.int u.1,.int u.2])/\Prs K H xs us
 |_,_=>False
theorem Prs.len{K:D5}{H:Hp}:∀{xs:List V} {us:List (Int×Int)},Prs K H xs us->xs.length=us.length
 |[],[],_=>rfl
 |_::_,_::_,h=>by rw[EA,EA,Prs.len h.2]
 |[],_::_,h=>h.elim
 |_::_,[],h=>h.elim
def rP(h:Heap)(v:D4)(u:Int×Int):Prop:=∃a t1 t2,v=.ref a/\IsTup h a #[.int u.1 t1,.int u.2 t2]
theorem vK{pins:List (Addr×Obj)}{σ:List (Option V)}{H:Hp}{s:D6}(I:Inv X pins σ H s){x:V}{v:D4}{u:Int×Int}(h:∃a,x=.ref a/\SqT X.K H a [.int u.1,.int u.2])(r:RelV x v):rP s.heap v u:=by obtain⟨a,rfl,ht⟩:=h;cases r;obtain⟨its,rv,hi,_⟩:=I.tuple ht;obtain⟨y1,y2,rfl,⟨t1,rfl⟩,⟨t2,rfl⟩⟩:=vals2 rv;exact⟨a,t1,t2,rfl,hi⟩
theorem qe{pins:List (Addr×Obj)}{σ:List (Option V)}{H:Hp}{s:D6}(I:Inv X pins σ H s):∀{xs:List V} {us:List (Int×Int)} {its:List D4},Prs X.K H xs us->Vals xs its->∀i,i<us.length->rP s.heap (its.getD i .none) (p0 us i)
 |[],[],_,_,_,i,hi=>by simp at hi
 |x::xs,u::us,_,h,.cons a r,i,hi=>by
  cases i with
  |zero=>exact vK I h.1 a
  |succ i=>exact qe I h.2 r i (by simpa using hi)
 |[],_::_,_,h,_,_,_=>h.elim
 |_::_,[],_,h,_,_,_=>h.elim
theorem jE{h:Heap}:∀{its:List D4} {us:List (Int×Int)},its.length=us.length->(∀i,i<us.length->rP h (its.getD i .none) (p0 us i))->∃fs:List D4,PySem.W.KatTups h its fs/\fs.length=us.length/\∀v∈fs,∃n t,v=Value.int n t
 |[],[],_,_=>⟨[],PySem.W.KatTups.nil,rfl,fun v hv=>by simp at hv⟩
 |v::its,u::us,hl,q=>by
  obtain⟨fs,k1,k2,k3⟩:=jE (its:=its) (us:=us) (by simpa using hl) fun i hi=>q (i+1) (by simpa using hi)
  obtain⟨a,t1,t2,e,o,ho,hc,n,hd⟩:=q 0 (by simp)
  have e':v=.ref a:=e
  subst e'
  refine⟨.int u.1 t1::fs,PySem.W.KatTups.cons ho hc hd rfl k1,by simp[k2],fun v hv=>?_⟩
  rcases EM.mp hv with rfl|hv
  ·exact⟨_,_,rfl⟩
  ·exact k3 v hv
 |[],_::_,hl,_=>by simp at hl
 |_::_,[],hl,_=>by simp at hl
theorem rP.kept{h h':Heap}{v:D4}{u:Int×Int}(q:rP h v u)(k:∀b o,h.get? b=some o->h'.get? b=some o):rP h' v u:=by obtain⟨a,t1,t2,e,o,ho,r⟩:=q;exact⟨a,t1,t2,e,o,k _ _ ho,r⟩
theorem qd:bM X (.builtin "sorted") (fun vs H Q=>∃p xs us,vs=[.ref p]/\SqL X.K H p xs/\Prs X.K H xs us/\Pb us/\∀l π,H l=none->Pmu us.length π->Up (pky us) π us.length->Q (.ref l) (upd H l (.lst (π.toList.map fun i=>xs.getD i .non)))):=by
 intro pins s σ H vs us' Q I r z0;obtain⟨l,xs,us,ev,hl,hp,hb,q⟩:=z0;subst ev;obtain⟨u,rfl,ru⟩:=vals1 r;cases ru;obtain⟨its,r1,p1,hz⟩:=I.list hl;have hlen:its.length=us.length:=by rw[<-r1.length,hp.len]
 have tp:=qe I hp r1;refine sk (k:=pky us) (κ:=tuples' true) p1.isList (by rw[hlen];exact hb.1) (by rw[hlen];exact hb.inj) (fun h' kp h2 R E' hr=>?_) (fun h' kp i j C hi hj hC=>?_) fun π hπ hu=>?_
 ·obtain⟨fs,k1,k2,k3⟩:=jE (h:=h') hlen fun i hi=>(tp i hi).kept kp;refine PySem.W.kat_kind (s:={ s with heap:=h' }) (T:=.type "int") k1 (by omega) (fun v hv=>?_) (by decide) hr;obtain⟨n,t,rfl⟩:=k3 v hv;exact PySem.W.Looks.now
 ·obtain⟨a,t1,t2,ea,ha⟩:=(tp i (by omega)).kept kp;obtain⟨b,t3,t4,eb,hb'⟩:=(tp j (by omega)).kept kp;unfold PySem.W.kas_ask;rw[ea,eb];exact qX (s:={ s with heap:=h' }) ha hb' (hb.2.2 _ (eo (by omega))) (hb.2.2 _ (eo (by omega))) hC
 ·rw[hlen]at hπ hu;obtain⟨e,he⟩:=sortedAll_at s.heap its (df its π);refine⟨.ref (s.heap.objs.size+1),_,I.laid (t':=s.toks) (fun b o q=>sortedAll_old q) (Nat.le_succ _) (show bL X.prog X.w _ _ _ (.lst _)from⟨?_,_,e,gW r1 π.toList,he⟩),rfl,q _ π (I.hok.fresh (Nat.le_succ _)) hπ hu⟩;rw[D8,Fm,hπ.size,<-hp.len];exact hz
def prD(u:Int×Int):D:=.tup [.int u.1,.int u.2]
theorem oV{K:D5}{H:Hp}:∀{us:List (Int×Int)} {xs:List V},ax K H (us.map prD) xs->Prs K H xs us
 |[],xs,h=>by
  rw[EX,ax]at h
  subst h;trivial
 |u::us,xs,h=>by
  rw[D7,ax]at h
  obtain⟨x,r,rfl,a,b⟩:=h
  refine⟨?_,oV b⟩
  unfold prD at a
  rw[Rep]at a
  obtain⟨p,ys,rfl,hy,ry⟩:=a
  obtain⟨y1,y2,rfl,e1,e2⟩:=dt ry
  rw[Rep]at e1 e2
  subst e1 e2
  exact⟨p,rfl,hy⟩
theorem qY{K:D5}{H:Hp}:∀{ds:List D} {xs:List V},ax K H ds xs->∀i,i<ds.length->Rep K H (ds.getD i .non) (xs.getD i .non)
 |[],_,_,i,hi=>by simp at hi
 |d::ds,xs,h,i,hi=>by
  rw[ax]at h
  obtain⟨x,r,rfl,a,b⟩:=h
  cases i with
  |zero=>exact a
  |succ i=>exact qY b i (by simpa using hi)
theorem gK{K:D5}{H:Hp}{ds:List D}{xs:List V}(h:ax K H ds xs):∀l:List Nat,(∀i∈l,i<ds.length)->ax K H (l.map fun i=>ds.getD i .non) (l.map fun i=>xs.getD i .non)
 |[],_=>ax.nil
 |i::l,q=>ax.cons (qY h i (q i (by simp))) (gK h l fun j hj=>q j (by simp[hj]))
def plt(u v:Int×Int):Prop:=100*u.1+u.2<100*v.1+v.2
theorem lB{us:List (Int×Int)}{π:Array Nat}(h:Pmu us.length π):(π.toList.map (p0 us)).Perm us:=by
 have e1:=(Array.perm_iff_toList_perm.mp h.perm).map (p0 us)
 have e2:(E5 us.length).map (p0 us)=us:=by
  apply List.ext_getElem
  ·simp
  ·intro i h1 h2;simp[p0,h2]
 simpa[e2]using e1
theorem rh{us:List (Int×Int)}{π:Array Nat}(h:Pmu us.length π)(u:Up (pky us) π us.length):(π.toList.map (p0 us)).Pairwise plt:=by
 rw[F5];intro i j hi hj hij;have hj':j<us.length:=by rw[D8,Fm,h.size]at hj;exact hj
 have:=u i j hij hj';have zi:i<π.size:=by rw[h.size];omega
 have zj:j<π.size:=by rw[h.size];omega
 simpa[plt,ky,pky,Array.getD,zi,zj]using this
theorem mY{us:List (Int×Int)}{π:Array Nat}(h:Pmu us.length π):(π.toList.map fun i=>(us.map prD).getD i .non)=(π.toList.map (p0 us)).map prD:=by
 rw[GB];refine List.map_congr_left fun i hi=>?_
 have hi':i<us.length:=by
  have:i∈π:=by simpa using hi
  have:=h.perm.mem_iff.mp this
  simpa using this
 simp[p0,hi']
def vT:RC:=fun ds M Q=>match ds with
 |[.ref l]=>∃us:List (Int×Int),M l=some (.lst (us.map prD))/\Pb us/\∀(z:Addr) (us':List (Int×Int)),M z=none->us'.Perm us->us'.Pairwise plt->Q (.ref z) (aq M z (.lst (us'.map prD)))
 |_=>False
theorem wz:cP X (.builtin "sorted") vT:=bJ qd fun vs H Q ⟨ds,M,R,rs,a,q,fin⟩=>by
 unfold vT at q;split at q
 ·obtain⟨us,e,hb,q⟩:=q;obtain⟨v,rfl,r⟩:=bN rs;rw[Rep]at r;subst r;obtain⟨xs,hx,rx⟩:=a _ _ e;refine⟨_,xs,us,rfl,SqL.of hx,oV rx,hb,fun z π hz hπ hu=>fin (.ref z) _ _ _ (.new hz) (by rw[Rep]) (a.gh hz (gK rx π.toList fun i hi=>?_)) ?_⟩
  ·have:i∈π:=by simpa using hi
   have:=hπ.perm.mem_iff.mp this;simpa using this
  ·rw[mY hπ];exact q z _ (a.fresh hz) (lB hπ) (rh hπ hu)
 ·exact q.elim
theorem fF:F7 "sorted"=some (.builtin "sorted"):=by first|exact boot_sorted|rfl
end
def iO(h:Heap)(d:Addr)(es:Array Fe)(ep:Nat):Prop:=∃o,h.get? d=some o/\o.ExactDict/\o.data=.dict es ep
section
variable{prog:Ee}{w:EB}{A:EE}{E:D4->D6->Prop}{s:D6}{d it:Addr}{es:Array Fe}{ep i:Nat}
theorem iO.ty(h:iO s.heap d es ep):s.TypeIs (.ref d) "dict":=let⟨o,a,b,_⟩:=h;⟨o,a,b.1⟩
theorem iO.kept{h h':Heap}(q:iO h d es ep)(k:∀o,h.get? d=some o->h'.get? d=some o):iO h' d es ep:=let⟨o,a,b⟩:=q;⟨o,k o a,b⟩
theorem iO.lt{h:Heap}(q:iO h d es ep):d<h.objs.size:=let⟨_,a,_⟩:=q;E8 a
theorem t6{Q:D4->D6->Prop}(lo:(d==Fp)=false)(hm:iO s.heap d es ep)
 (q:Q (.ref s.heap.objs.size) { s with heap:=s.heap.push { cls:=.type "dict_keyiterator",data:=.fields #[.ref d,.int 0 0,.int es.size 0,.int ep 0] } }):E7 (Ef prog w) A (pyIter (.ref d)) Q E s:=by
 have hT:=hm.ty
 obtain⟨o,g1,g2,g3⟩:=hm
 refine wpAny_pyIter_slot hT F.slot_dict_iter (Gf F.slot_dict_iter hT F.entry_dict_iter ?_ (F.args_dict_iter_1 _))
 unfold GP.«dict.__iter__»
 refine cc ?_
 unfold Builtin.Dict.dictSlotNone
 refine cc (wpAny_notOrdered_dict hT ?_)
 show E7 _ _ (pure (Fd d)) _ _ s
 refine E1 ?_
 show E7 _ _ (Builtin.Dict.showsAll d >>= _) _ _ s
 unfold Builtin.Dict.showsAll
 rw[if_neg (by rw[lo];exact Ei)]
 refine cc (E1 (cc (wpAny_dictEntries g1 g3 (cc (wpAny_dictEpoch g1 g3 ?_)))))
 refine cc (EO (E1 ⟨_,rfl,"dict_keyiterator",_,⟨_,E6 _ rfl,rfl⟩,FE.lookup,?_⟩))
 simpa[rawInt]using q
theorem vp{Q:Option D4->D6->Prop}(hit:s.heap.IsKeyIter it d i es.size ep)(hm:iO s.heap d es ep)(hi:i<es.size)
 (hQ:∀h':Heap,h'.IsKeyIter it d (i+1) es.size ep->G8 it s.heap h'->Q (some es[i].key) { s with heap:=h' }):E7 (Ef prog w) A (pyNext (.ref it)) Q E s:=by
 obtain⟨o,ho,hc,hd⟩:=id hit
 obtain⟨od,g1,g2,g3⟩:=hm
 have hT:=hit.typeIs
 unfold pyNext
 refine cc (wpAny_attempt (wpAny_callSpecial?_slot (name:=Ga "__next__") hT FE (Gf FE hT F.entry_dict_keyiterator_next ?_ (F.args_dict_keyiterator_next_1 _))))
 refine cc (E1 (cc (cc ?_)))
 first|refine cc (FV hT (E1 ?_))|refine cc (wpAny_typeNameOf_keyiter hT (E1 ?_))
 refine cc (wpAny_fieldsOf ho hd ?_)
 simp only[show Builtin.Dict_items.ownsTuple "dict_keyiterator"=false by decide,Fb,if_false]
 show E7 _ _ (if(Fd d==GC)=true then _ else _) _ _ s
 rw[if_neg (show ¬((Fd d==GC)=true)from Ei)]
 refine cc (E1 (cc (wpAny_dictEntries g1 g3 ?_)))
 rw[if_neg (by simp)]
 refine cc (E1 (cc (wpAny_dictEpoch g1 g3 ?_)))
 rw[if_neg (by simp)]
 refine E1 ?_
 simp only[show ¬((i:Int)<0)from by omega,if_false,Int.toNat_natCast,Array.getElem?_eq_getElem hi]
 refine cc ?_
 first|refine cc (FV hT (E1 ?_))|refine cc (wpAny_typeNameOf_keyiter hT (E1 ?_))
 refine cc (wpAny_isOneOf_keyiter hT ?_)
 show E7 _ _ (setField (.ref it) 1 (rawInt ((i:Int)+1)) >>= _) _ _ s
 refine cc (wpAny_setField ho hd (by simp) ?_)
 have n1:(s.heap.update it (Obj.mapFields (·.setIfInBounds 1 (rawInt ((i:Int)+1))))).IsKeyIter it d (i+1) es.size ep:=
  ⟨_,Fw _ ho (Obj.isFreed_of_fields (Obj.data_mapFields hd _)),(Obj.cls_mapFields ..).trans hc,by rw[Obj.data_mapFields hd];simp[rawInt]⟩
 refine cc (EY (cc (wpAny_isOneOf_keyiter (s:={ s with heap:=s.heap.update it (Obj.mapFields (·.setIfInBounds 1 (rawInt ((i:Int)+1)))) }) n1.typeIs ?_)))
 show E7 _ _ (pure es[i].key) _ _ _
 exact E1 (E1 ⟨_,rfl,E1 (hQ _ n1 (G7 ..))⟩)
theorem xg{Q:Option D4->D6->Prop}(hh:A.handled=none)(hit:s.heap.IsKeyIter it d es.size es.size ep)(hm:iO s.heap d es ep)
 (hQ:∀h',Heap.ExtBut it s.heap h'->Q none { s with heap:=h' }):E7 (Ef prog w) A (pyNext (.ref it)) Q E s:=by
 obtain⟨o,ho,hc,hd⟩:=id hit
 obtain⟨od,g1,g2,g3⟩:=hm
 have hT:=hit.typeIs
 unfold pyNext
 refine cc (wpAny_attempt (wpAny_callSpecial?_slot (name:=Ga "__next__") hT FE (Gf FE hT F.entry_dict_keyiterator_next ?_ (F.args_dict_keyiterator_next_1 _))))
 refine cc (E1 (cc (cc ?_)))
 first|refine cc (FV hT (E1 ?_))|refine cc (wpAny_typeNameOf_keyiter hT (E1 ?_))
 refine cc (wpAny_fieldsOf ho hd ?_)
 simp only[show Builtin.Dict_items.ownsTuple "dict_keyiterator"=false by decide,Fb,if_false]
 show E7 _ _ (if(Fd d==GC)=true then _ else _) _ _ s
 rw[if_neg (show ¬((Fd d==GC)=true)from Ei)]
 refine cc (E1 (cc (wpAny_dictEntries g1 g3 ?_)))
 rw[if_neg (by simp)]
 refine cc (E1 (cc (wpAny_dictEpoch g1 g3 ?_)))
 rw[if_neg (by simp)]
 refine E1 ?_
 simp only[show ¬((es.size:Int)<0)from by omega,if_false,Int.toNat_natCast,Array.getElem?_eq_none (E3 es.size)]
 refine cc ?_
 first|refine cc (FV hT (E1 ?_))|refine cc (wpAny_typeNameOf_keyiter hT (E1 ?_))
 show E7 _ _ (setField (.ref it) 0 .none >>= _) _ _ s
 refine cc (wpAny_setField ho hd (by simp) ?_)
 show E7 _ _ (newExc (.type "StopIteration") [] >>= _) _ _ _
 refine cc ?_
 simp only[newExc,newTuple]
 refine cc (EO ?_ (by size_fits))
 refine cc (m:=firstArgMember _ _) (wpAny_of_eq (a:=GC) (by first|rfl|(simp only[firstArgMember];rfl)) ?_)
 refine EO ?_ (by size_fits)
 simp only[raiseNew]
 refine cc (wpAny_handled ?_)
 rw[show A.in1.handled=none from hh]
 refine cc (E1 (wpAny_throw ?_))
 refine cc (wpAny_isInstance (T:="StopIteration") (b:=true) ⟨_,E6 _ rfl,rfl⟩ isSubtype_stop ?_)
 exact E1 (hQ _ (((G7 ..).extBut.push _).push _))
theorem sV(hh:A.handled=none)(I d:Addr)(hne:d≠I)(es:Array Fe)(ep:Nat):Walks prog w A I [I,d] [I] es.size (fun i v=>∃e,es[i]?=some e/\v=e.key) (fun i h=>h.IsKeyIter I d i es.size ep/\iO h d es ep) where
 sub:=fun b hb=>by simp at hb;simp[hb]
 frame:=fun _ _ _ st hk=>⟨st.1.at fun o e=>hk I (by simp) o e,st.2.kept fun o e=>hk d (by simp) o e⟩
 item:=fun i s Q E hi st hQ=>vp st.1 st.2 hi fun h' n1 sb=>hQ _ h' s.toks ⟨es[i],by simp[hi],rfl⟩ ⟨n1,st.2.kept fun o e=>(sb.2 d hne).trans e⟩ fun b o hb e=>sb.extBut b o (fun h=>hb (by simp[h])) e
 done:=fun s Q E st hQ=>xg hh st.1 st.2 fun h' he=>hQ h' s.toks fun b o hb e=>he b o (fun h=>hb (by simp[h])) e
 self:=fun _ _ _ _ st hQ=>wpAny_pyIter_keyiter st.1 hQ
theorem qL(lo:(d==Fp)=false):PySem.W.KdlSrc prog w "dict" d d es.size (fun i v=>∃e,es[i]?=some e/\v=e.key) (fun h=>iO h d es ep) where
 type:=fun _ hm=>hm.ty
 there:=fun _ hm=>⟨hm.lt,hm.lt⟩
 keep:=fun _ _ hm hk=>hm.kept fun o e=>hk d (.inl rfl) o e
 notList:=by decide
 notTuple:=by decide
 hint:=fun _ _ _ _ hm hq=>PySem.W.kdl_hint_dict hm.ty hq
 iter:=fun _ _ hh hm=>⟨_,_,(fun _ _ hq=>t6 lo hm hq),sV hh _ d (Ex hm.lt) es ep,⟨⟨_,E6 _ rfl,rfl,rfl⟩,hm.kept fun o e=>D9 _ e⟩⟩
end
section
variable{X:Cx}
theorem jz{P:Ee}{w:EB}{xs:List SpE}{ys:List (SpK×Addr×D4)}(r:FL PrS xs ys):(ys.map (entryOfKey (bE P w))).map (·.key)=xs.map fun x=>Fd x.2.1:=by
 induction r with
 |nil=>rfl
 |cons h t ih=>simp only[D7,ih,h.2.1];rfl
theorem dW:∀xs:List SpE,Vals (xs.map fun x=>V.ref x.2.1) (xs.map fun x=>Fd x.2.1)
 |[]=>.nil
 |x::xs=>.cons rfl (dW xs)
theorem nv(hc:X.calm=true):bM X (.type "list") (fun vs H Q=>∃p xs,vs=[.ref p]/\H p=some (.ext (aU X.prog X.w p xs))/\∀l,H l=none->Q (.ref l) (upd H l (.lst (xs.map fun x=>V.ref x.2.1)))):=by
 intro pins s σ H vs us Q I r z0;obtain⟨p,xs,ev,hp,q⟩:=z0;subst ev;obtain⟨u,rfl,ru⟩:=vals1 r;cases ru;obtain⟨⟨h1,h2,h3,ys,r1,o,es,ep,q1,q2,q3,q4⟩,_⟩:=I.hok p _ hp;have hz:es.size=xs.length:=by rw[<-Fm,q4,D8,fB r1]
 refine PySem.W.kdl_call (qL (es:=es) (ep:=ep) h1) (I.ok.hd hc) ⟨o,q1,q2,q3⟩ (by rw[hz];exact h2) fun h' tk acc c kp hl it=>?_
 have ea:acc.toList=xs.map fun x=>Fd x.2.1:=by
  rw[<-jz (P:=X.prog) (w:=X.w) r1,<-q4];apply List.ext_getElem?;intro i;by_cases hi:i<es.size
  ·have hi':i<acc.size:=by rw[it.1];exact hi
   obtain⟨e,e1,e2⟩:=it.2 i acc[i] (by simp[hi']);simp[hi',hi]at e1 ⊢;rw[e2,<-e1]
  ·have hi':¬i<acc.size:=by rw[it.1];exact hi
   simp[hi,hi']
 refine⟨.ref s.heap.objs.size,_,I.laid (t':=tk) kp (E3 _) (show bL X.prog X.w _ h' _ (.lst _)from⟨by rw[D8];exact h2,_,c,dW xs,?_⟩),rfl,q _ (I.hok.fresh (E3 _))⟩;rw[<-ea,Array.toArray_toList];exact hl
def zM:RC:=fun ds M Q=>wj ds M Q\/∃l kvs,ds=[.ref l]/\M l=some (dsM kvs)/\∀p,M p=none->Q (.ref p) (aq M p (.lst (kvs.map fun x=>spD x.1)))
theorem dN{K:D5}{H:Hp}:∀{kvs:SpT} {xs:List SpE},xs.map (·.1)=kvs.map (·.1)->(∀x∈xs,bj K H x.2.1 x.1)->ax K H (kvs.map fun x=>spD x.1) (xs.map fun x=>V.ref x.2.1)
 |[],[],_,_=>by rw[EX,EX];exact ax.nil
 |y::kvs,x::xs,h,k=>by
  rw[D7,D7]at h
  injection h with e1 e2
  rw[D7,D7]
  exact ax.cons (by rw[<-e1];exact ko (k x (by simp))) (dN e2 fun z hz=>k z (by simp[hz]))
 |[],_::_,h,_=>by cases h
 |_::_,[],h,_=>by cases h
theorem nB(hc:X.calm=true):cP X (.type "list") zM:=by
 intro pins s σ H vs us Q I rv z0;obtain⟨ds,M,R,rs,a,q,fin⟩:=z0;rcases q with q|⟨l,kvs,ed,hl,q⟩
 ·exact xE pins s σ H vs us Q I rv ⟨ds,M,R,rs,a,q,fin⟩
 ·subst ed;obtain⟨v,rfl,r⟩:=bN rs;rw[Rep]at r;subst r;obtain⟨xs,h1,h2,h3,h4⟩:=a.dsp hl;exact nv hc pins s σ H _ us Q I rv ⟨_,xs,rfl,h1 _ _,fun z hz=>fin (.ref z) _ _ _ (.new hz) (by rw[Rep]) (a.gh hz (dN h2 h3)) (q z (a.fresh hz))⟩
end
def gsp(t b X Y:Int)(u:Vc):D:=Ma.spt (Ma.ut t b X 1 u.1) (Ma.ut t b Y 1 u.2)
def gk(t b X Y:Int)(u:Vc):SpK:=((Ma.ut t b X 1 u.1).num,((Ma.ut t b X 1 u.1).den:Int),(Ma.ut t b Y 1 u.2).num,((Ma.ut t b Y 1 u.2).den:Int))
theorem wa(t b X Y:Int)(u:Vc):gsp t b X Y u=spD (gk t b X Y u):=rfl
theorem uN{t b X Y:Int}(ht:0<t)(hb:0<b){p q:Vc}(h:gk t b X Y p=gk t b X Y q):p=q:=by unfold gk at h;injection h with h1 h;injection h with h2 h;injection h with h3 h4;have e1:Ma.ut t b X 1 p.1=Ma.ut t b X 1 q.1:=Rat.ext h1 (by exact_mod_cast h2);have e2:Ma.ut t b Y 1 p.2=Ma.ut t b Y 1 q.2:=Rat.ext h3 (by exact_mod_cast h4);have f1:=(Ma.iF ht hb (by decide) (by decide)).mp e1;have f2:=(Ma.iF ht hb (by decide) (by decide)).mp e2;exact Prod.ext (by omega) (by omega)
def B20(u:Vc):Prop:=(0<=u.1/\u.1<=20)/\(0<=u.2/\u.2<=20)
def ea(w:Wl):Vc:=(w.1,w.2.1)
def eb(w:Wl):Vc:=(w.2.2.1,w.2.2.2)
theorem Un5.ea{w:Wl}(h:Un5 w):B20 (ea w):=⟨h.a,h.b⟩
theorem Un5.eb{w:Wl}(h:Un5 w):B20 (eb w):=⟨h.c,h.d⟩
theorem qM(u:Vc):¬plt u u:=fun h=>by unfold plt at h;omega
theorem m5{a c:List Vc}(hp:a.Perm c)(ha:a.Pairwise plt)(hc:c.Pairwise plt):a=c:=List.Perm.eq_of_pairwise (le:=plt) (fun x y _ _ h1 h2=>by unfold plt at h1 h2;omega) ha hc hp
theorem AN{ps:List Vc}{u:Vc}{j:Nat}(h:ps.Pairwise plt)(hj:j<=ps.length)(h1:∀i,i<j->plt (p0 ps i) u)(h2:∀i,j<=i->i<ps.length->plt u (p0 ps i)):(eJ ps j u).Pairwise plt/\(eJ ps j u).Perm (u::ps):=by
 constructor
 ·unfold eJ;rw[List.pairwise_append]
  have lt:∀x∈ps.take j,plt x u:=fun x hx=>by
   obtain⟨i,hi,rfl⟩:=List.getElem_of_mem hx
   have hi':i<j/\i<ps.length:=by rw[Fu]at hi;omega
   have:=h1 i hi'.1
   unfold p0 at this
   simpa[hi'.2]using this
  have gt:∀x∈ps.drop j,plt u x:=fun x hx=>by
   obtain⟨i,hi,rfl⟩:=List.getElem_of_mem hx
   have hi':j+i<ps.length:=by rw[List.length_drop]at hi;omega
   have:=h2 (j+i) (by omega) hi'
   unfold p0 at this
   simpa[hi']using this
  refine⟨h.sublist (List.take_sublist _ _),List.pairwise_cons.mpr ⟨gt,h.sublist (List.drop_sublist _ _)⟩,fun x hx y hy=>?_⟩;rcases EM.mp hy with rfl|hy
  ·exact lt x hx
  ·have a1:=lt x hx;have a2:=gt y hy;unfold plt at a1 a2 ⊢;omega
 ·unfold eJ;have:(ps.take j++u::ps.drop j).Perm (u::(ps.take j++ps.drop j)):=List.perm_middle
  rwa [List.take_append_drop]at this
theorem wg{t b X Y:Int}(ht:0<t)(hb:0<b){u v:Vc}(hu:B20 u)(hv:B20 v):Ma.ah (Ma.ut t b X 1 u.1) (Ma.ut t b Y 1 u.2) (Ma.ut t b X 1 v.1) (Ma.ut t b Y 1 v.2)↔plt u v:=md ht hb hu.2 hv.2
theorem B20.bx{t b X Y:Int}(S:Scl t b X Y){u:Vc}(h:B20 u):Ma.Bq 200 (Ma.ut t b X 1 u.1):=S.bx (by decide) (by have:=h.1;omega)
theorem B20.by'{t b X Y:Int}(S:Scl t b X Y){u:Vc}(h:B20 u):Ma.Bq 200 (Ma.ut t b Y 1 u.2):=S.by' (by decide) (by have:=h.2;omega)
theorem yc{u v:Vc}(hu:B20 u)(hv:B20 v)(ne:u≠v)(h:¬plt u v):plt v u:=by
 have h1:=hu.2;have h2:=hv.2;unfold plt at h ⊢;by_cases e:100*u.1+u.2=100*v.1+v.2
 ·exact absurd (Prod.ext (by omega) (by omega)) ne
 ·omega
def prP(u:Vc):FT:=.tuple [.int u.1,.int u.2]
theorem qR{M:MH}:∀us:List Vc,Pds M (us.map prD) (us.map prP)
 |[]=>.nil
 |u::us=>.cons (Pd.of rfl) (qR us)
theorem rL:∀us:List Vc,Fo (us.map prP)=true
 |[]=>rfl
 |u::us=>by rw[D7,Fo,rL us];rfl
theorem wL(u:Vc)(us:List Vc):(us.map prP).any (fun q=>EH q (prP u))=decide (u∈us):=by
 rw[List.any_map,Bool.eq_iff_iff,List.any_eq_true,decide_eq_true_eq];constructor
 ·rintro⟨v,hv,e⟩;have e:EH (.tuple [.int v.1,.int v.2]) (.tuple [.int u.1,.int u.2])=true:=e;rw[lX]at e;have e:=of_decide_eq_true e;rw[show u=v from Prod.ext e.1.symm e.2.symm];exact hv
 ·intro h;refine⟨u,h,?_⟩;show EH (.tuple [.int u.1,.int u.2]) (.tuple [.int u.1,.int u.2])=true;rw[lX];exact decide_eq_true ⟨rfl,rfl⟩
theorem zg{M:MH}{l:Addr}{us:List Vc}(u:Vc)(g:Bool->Bool)(Q:DK)(h:M l=some (.lst (us.map prD)))(q:Q (.bl (g (decide (u∈us)))) M):Cc g (prD u) (.ref l) M Q:=by refine⟨_,_,Pd.of (p:=prP u) rfl,.inl (.lst h (qR us)),rfl,rL us,?_⟩;rw[wL];exact q
section
variable{X:Cx}{pins:List (Addr×Obj)}{σ:L2.St}{H:Hp}{s:D6}
theorem iC{h':Heap}{t':Nat}{ch:List Addr}(I:Inv X pins σ H s)(k:∀b o,b∉ch->s.heap.get? b=some o->h'.get? b=some o)(f:∀b∈ch,cj X pins H b):Inv X pins σ H { s with heap:=h',toks:=t' }:=by
 have ne:∀b u,H b=some u->b∉ch:=fun b u q hb=>by rw[(f b hb).1]at q;cases q
 refine I.step (g':=s.gens) (d':=s.drawn) (ch:=ch) (fun b hb=>?_) (fun b o _ _ hc q _=>k b o hc q) (fun b o _ _ hc q _=>⟨o.slots,k b o hc q⟩) (fun _ _ _ _ n=>n) (fun b o hc q=>⟨o,k b o hc q⟩) (fun _ _ q=>q) (fun _ _ _ q=>q) (fun b ps q=>⟨#[],by rw[q];simp⟩) (fun m hm=>?_) (fun b u q=>?_) I.bare
 ·obtain⟨e0,e1,_,e3,e4,e5⟩:=f b hb;exact⟨e3,e1,e4,e5⟩
 ·obtain⟨o,es,ep,ho,r⟩:=hm;exact⟨o,es,ep,k _ o (fun hb=>(f _ hb).2.1 rfl) ho,r⟩
 ·refine(I.hok b u q).eQ (fun c v hc z=>?_) (fun _ z=>z) fun _ _ z=>z;rcases hc with y|y
  ·subst y;exact k _ v (ne _ u q) z
  ·exact k c v (ne c _ y) z
end
def Itz(K:D5)(a b:Addr):It:=
 ⟨fun i H=>∃xs ys x y,SqL K H a xs/\SqL K H b ys/\xs[i]?=some x/\ys[i]?=some y,fun i H x H'=>∃T y z,x=.ref T/\H T=none/\H'=upd H T (.tup [y,z])/\(∀xs,SqL K H a xs->xs[i]?=some y)/\∀ys,SqL K H b ys->ys[i]?=some z,fun i H=>∃xs ys,SqL K H a xs/\SqL K H b ys/\(xs.length<=i\/ys.length<=i)⟩
theorem vj{P:Ee}{w:EB}{K:D5}{elts:List Expr}{kt}{pt:Pos}(a b z TI TO i1 i2:Addr)(D:ZipApart z TI TO i1 i2 a b):Turn P w K (.Tuple elts kt pt) (Itz K a b) [z,TI,TO,i1,i2] z (fun i h=>IsZip h z TI TO .none/\IsPair h TI (.ref i1) (.ref i2)/\(∃p q,IsPair h TO p q)/\h.IsListIter i1 a i/\h.IsListIter i2 b i) where
 mem:=by simp
 obj:=fun i h st c hc=>by
  obtain⟨h1,h2,⟨p,q,h3⟩,h4,h5⟩:=st
  rcases(show c=z\/c=TI\/c=TO\/c=i1\/c=i2 by simpa using hc)with rfl|rfl|rfl|rfl|rfl
  ·exact⟨_,h1,fun v y=>by cases (show Data.fields _=Data.cell v from y)⟩
  ·exact⟨_,h2,fun v y=>by cases (show Data.seq _ _=Data.cell v from y)⟩
  ·exact⟨_,h3,fun v y=>by cases (show Data.seq _ _=Data.cell v from y)⟩
  ·obtain⟨o,q1,_,d⟩:=h4
   exact⟨o,q1,fun v y=>by rw[d]at y;cases y⟩
  ·obtain⟨o,q1,_,d⟩:=h5
   exact⟨o,q1,fun v y=>by rw[d]at y;cases y⟩
 keep:=fun i h h' st k=>by
  obtain⟨h1,h2,⟨p,q,h3⟩,h4,h5⟩:=st
  exact⟨k z (by simp) _ h1,k TI (by simp) _ h2,⟨p,q,k TO (by simp) _ h3⟩,h4.at fun o y=>k i1 (by simp) o y,h5.at fun o y=>k i2 (by simp) o y⟩
 item:=by
  intro X hP hw hK hc i pins s σ H E I hf st hg
  subst hP hw hK
  obtain⟨xs,ys,x,y,hq1,hq2,hx,hy⟩:=hg
  obtain⟨h1,h2,⟨p,q,h3⟩,h4,h5⟩:=st
  obtain⟨its1,rv1,p1,hz1⟩:=I.list hq1
  obtain⟨its2,rv2,p2,hz2⟩:=I.list hq2
  obtain⟨u1,hu1,ru1⟩:=rv1.get hx
  obtain⟨u2,hu2,ru2⟩:=rv2.get hy
  refine wpAny_pyNext_zip_item D h1 h2 h3 h4 h5 p1.isList p2.isList (x:=u1) (y:=u2) (by simpa using hu1) (by simpa using hu2) fun h' a1 a2 a3 a4 a5 a6 a7=>⟨_,rfl,wpAny_letOwnedTupleGo_zip (s:={ s with heap:=h' }) a1 fun h'' b1 b2=>?_⟩
  have b2:G8 z h' h'':=b2
  have fr:=I.fresh
  have lt:∀c∈[z,TI,TO,i1,i2],c<s.heap.objs.size:=fun c hc=>by
   rcases(show c=z\/c=TI\/c=TO\/c=i1\/c=i2 by simpa using hc)with rfl|rfl|rfl|rfl|rfl
   ·exact E8 h1
   ·exact E8 h2
   ·exact E8 h3
   ·obtain⟨o,q1,_⟩:=h4;exact E8 q1
   ·obtain⟨o,q1,_⟩:=h5;exact E8 q1
  have I1:Inv X pins σ (upd H s.heap.objs.size (.tup [x,y])) { s with heap:=s.heap.push { cls:=.type "tuple",data:=.seq #[u1,u2] },toks:=s.toks }:=
   I.laid (fun b v q=>D9 _ q) (E3 _) ⟨nbL rfl,[u1,u2],.cons ru1 (.cons ru2 .nil),⟨_,E6 _ rfl,rfl,_,rfl⟩,⟨_,E6 _ rfl,rfl⟩⟩
  have fk:∀c∈[z,TI,TO,i1,i2],cj X pins (upd H s.heap.objs.size (.tup [x,y])) c:=fun c hc=>⟨by rw[aL (Ex (lt c hc))];exact(hf c hc).1,(hf c hc).2⟩
  have I2:Inv X pins σ (upd H s.heap.objs.size (.tup [x,y])) { s with heap:=h'',toks:=s.toks }:=by
   refine iC (ch:=[z,TO,i1,i2]) (s:={ s with heap:=s.heap.push { cls:=.type "tuple",data:=.seq #[u1,u2] },toks:=s.toks }) I1 (fun c o nc q=>?_) fun c hc=>fk c (by simp at hc ⊢;rcases hc with rfl|rfl|rfl|rfl<;>simp)
   have q:(s.heap.push { cls:=.type "tuple",data:=.seq #[u1,u2] }).get? c=some o:=q
   simp at nc
   refine(b2.2 c nc.1).trans ?_
   rcases Heap.get?_push_cases q with⟨rfl,rfl⟩|q
   ·exact a5
   ·exact a7 c o nc.1 nc.2.1 nc.2.2.1 nc.2.2.2 q
  have kz:∀c o,c≠z->h'.get? c=some o->h''.get? c=some o:=fun c o n e=>(b2.2 c n).trans e
  refine⟨.ref s.heap.objs.size,_,I2,rfl,⟨_,x,y,rfl,fr,rfl,fun zs hzs=>by rw[I.e9 hzs hq1];exact hx,fun zs hzs=>by rw[I.e9 hzs hq2];exact hy⟩,⟨b1,kz _ _ D.TIz (a7 _ _ D.TIz D.TITO D.TIi1 D.TIi2 h2),⟨_,_,kz _ _ D.TOz a2⟩,a3.at fun o e=>kz _ o D.i1z e,a4.at fun o e=>kz _ o D.i2z e⟩,fun c hc=>(fk c hc).1⟩
 done:=by
  intro X hP hw hK hc i pins s σ H E I hf st hg
  subst hP hw hK
  obtain⟨xs,ys,hq1,hq2,he⟩:=hg
  obtain⟨h1,h2,⟨p,q,h3⟩,h4,h5⟩:=st
  obtain⟨its1,rv1,p1,hz1⟩:=I.list hq1
  obtain⟨its2,rv2,p2,hz2⟩:=I.list hq2
  have l1:=rv1.length
  have l2:=rv2.length
  refine wpAny_pyNext_zip_end (I.ok.hd hc) D h1 h2 h3 h4 h5 p1.isList p2.isList (he.imp (fun e=>by simp;omega) fun e=>by simp;omega) fun h' k=>⟨rfl,?_⟩
  exact iC (t':=s.toks) (ch:=[z,TO,i1,i2]) I (fun c o nc q=>by simp at nc;exact k c o nc.1 nc.2.1 nc.2.2.1 nc.2.2.2 q) fun c hc=>hf c (by simp at hc ⊢;rcases hc with rfl|rfl|rfl|rfl<;>simp)
 self:=fun _ _ _ _ _ st h=>wpAny_pyIter_zip st.1 h
theorem y9{n l1 l2:Nat}(a1:l1<n)(a2:l2<n):ZipApart (n+4) (n+2) (n+3) n (n+1) l1 l2:=by constructor<;>exact fun e=>absurd (id e:@Eq Nat _ _) (by omega)
theorem zV:F7 "zip"=some (.type "zip"):=by decide +kernel
section
variable{X:Cx}{elts:List Expr}{kt:Nat}{pt:Pos}
def D1(K:D5)(ta:TA):TI:=fun σ H R=>ta σ H fun vs H1=>∃a b xs ys,vs=[.ref a,.ref b]/\H1 a=some (.lst xs)/\H1 b=some (.lst ys)/\R (Itz K a b) H1
theorem AM{a b:Expr}{ta:TA}{p pos:Pos}(hg:Gl X "zip")(hm:X.mg "zip"=none)(ha:PA X [a,b] ta)(hs:Eb [a,b] X.env=(false,eval a X.env)::Eb [b] X.env:=by rfl)(hpl:(Fn pos (Eb [b] X.env)).any (·.1)=false:=by rfl):PI X (.Tuple elts kt pt) (.Call (.Name "zip" p) [a,b] [] pos) (D1 X.K ta):=by
 intro pins s σ H R I h;refine Call_ (gX I hg hm zV (G9 (thn (ha pos pins s σ H _ I h) fun us s1 zz1_0=>?_) hs hpl));obtain⟨vs,H1,I1,r1,q1⟩:=zz1_0;obtain⟨l1,l2,xs,ys,ev,hH1,hH2,q⟩:=q1;subst ev;obtain⟨u1,u2,rfl,ru1,ru2⟩:=vals2 r1;cases ru1;cases ru2;obtain⟨z1,its1,n1,rr1,hl1,e1⟩:=I1.kS hH1;obtain⟨z2,its2,n2,rr2,hl2,e2⟩:=I1.kS hH2;have L1:s1.heap.IsList l1 its1.toArray:=⟨_,e1,rfl,n1,rfl⟩;have L2:s1.heap.IsList l2 its2.toArray:=⟨_,e2,rfl,n2,rfl⟩;have lt1:=E8 e1;have lt2:=E8 e2;refine call_zip_2 L1 L2 fun h' hz hTI hTO hi1 hi2 hsz hk=>wpAny_pyIter_zip hz ?_
 have fp:∀b∈[s1.heap.objs.size+4,s1.heap.objs.size+2,s1.heap.objs.size+3,s1.heap.objs.size,s1.heap.objs.size+1],cj X pins H1 b:=fun b hb=>by
  have hb':s1.heap.objs.size<=b:=by simp at hb;rcases hb with rfl|rfl|rfl|rfl|rfl<;>first|exact Nat.le_add_right _ _|exact E3 _
  exact I1.n8 hb' (I1.hok.fresh hb')
 have D:ZipApart (s1.heap.objs.size+4) (s1.heap.objs.size+2) (s1.heap.objs.size+3) s1.heap.objs.size (s1.heap.objs.size+1) l1 l2:=by exact y9 lt1 lt2
 exact⟨_,_,_,_,H1,rfl,I1.kept (t':=s1.toks) hk,vj l1 l2 _ _ _ _ _ D,⟨hz,hTI,⟨_,_,hTO⟩,hi1,hi2⟩,fp,q⟩
def DL(ta:TAD):TID:=fun δ M R=>ta δ M fun ds M1=>∃a b es fs,ds=[.ref a,.ref b]/\M1 a=some (.lst es)/\M1 b=some (.lst fs)/\R ⟨min es.length fs.length,fun i=>(es[i]?).bind fun d=>(fs[i]?).map fun e=>.tup [d,e],fun M=>M a=some (.lst es)/\M b=some (.lst fs)⟩ M1
theorem zw{a b:Expr}{ta:TAD}{p pos:Pos}(hg:Gl X "zip")(hm:X.mg "zip"=none)(ha:DA X [a,b] ta)(hs:Eb [a,b] X.env=(false,eval a X.env)::Eb [b] X.env:=by rfl)(hpl:(Fn pos (Eb [b] X.env)).any (·.1)=false:=by rfl):DI X (.Tuple elts kt pt) (.Call (.Name "zip" p) [a,b] [] pos) (DL ta):=
 jT (AM hg hm ha hs hpl) fun σ H R ⟨δ,M,RD,hs,hM,q,fin⟩=>⟨δ,M,_,hs,hM,q,fun ds M1 vs H1 g1 r1 a1 ⟨l1,l2,es,fs,e,hl1,hl2,q1⟩=>by
  subst e
  obtain⟨v1,v2,rfl,r,r'⟩:=dt r1
  rw[Rep]at r r';subst r r'
  obtain⟨xs,hx,rs⟩:=a1 _ _ hl1
  obtain⟨ys,hy,rt⟩:=a1 _ _ hl2
  refine⟨l1,l2,xs,ys,rfl,hx,hy,fin _ M1 H1 _ g1 a1 q1 ⟨fun H2 M2 g2 a2 c2=>?_,fun i H2 M2 hi g2 a2 c2=>?_,?_⟩⟩
  ·obtain⟨c3,c4⟩:=(show M2 l1=some (.lst es)/\M2 l2=some (.lst fs)from c2)
   obtain⟨xs2,hx2,rx2⟩:=a2 _ _ c3
   obtain⟨ys2,hy2,ry2⟩:=a2 _ _ c4
   refine⟨xs2,ys2,SqL.of hx2,SqL.of hy2,?_⟩
   show xs2.length<=min es.length fs.length\/ys2.length<=min es.length fs.length
   rw[<-rx2.length,<-ry2.length];omega
  ·obtain⟨c3,c4⟩:=(show M2 l1=some (.lst es)/\M2 l2=some (.lst fs)from c2)
   obtain⟨xs2,hx2,rx2⟩:=a2 _ _ c3
   obtain⟨ys2,hy2,ry2⟩:=a2 _ _ c4
   have hi:i<min es.length fs.length:=hi
   have h1:i<xs2.length:=by rw[<-rx2.length];omega
   have h2:i<ys2.length:=by rw[<-ry2.length];omega
   exact⟨xs2,ys2,xs2[i],ys2[i],SqL.of hx2,SqL.of hy2,by simp[h1],by simp[h2]⟩
  ·rintro i H2 M2 v H3 hi g2 a2 c2 ⟨T,y,z,rfl,hT,rfl,hy,hz⟩
   obtain⟨c3,c4⟩:=(show M2 l1=some (.lst es)/\M2 l2=some (.lst fs)from c2)
   have hi:i<min es.length fs.length:=hi
   have he:i<es.length:=by omega
   have hf:i<fs.length:=by omega
   obtain⟨xs2,hx2,rx2⟩:=a2 _ _ c3
   obtain⟨ys2,hy2,ry2⟩:=a2 _ _ c4
   obtain⟨x,e1,e2⟩:=rx2.get (show es[i]?=some es[i] by simp[he])
   obtain⟨x',e1',e2'⟩:=ry2.get (show fs[i]?=some fs[i] by simp[hf])
   have t1:=hy xs2 (SqL.of hx2)
   have t2:=hz ys2 (SqL.of hy2)
   rw[e1]at t1;cases t1
   rw[e1']at t2;cases t2
   exact⟨.new hT,a2.new hT,.tup [es[i],fs[i]],by simp[he,hf],by rw[Rep];exact⟨T,_,rfl,SqT.of aK,.cons (e2.mono (.new hT)) (.cons (e2'.mono (.new hT)) .nil)⟩⟩⟩
end
structure Gs(g h:Int):Prop where
 g0:0<g
 g1:g<=12
 h0:0<=h
 h1:h<=24
def gp(g h:Int)(u:Vc):D:=.tup [.int (g*u.1-h),.int (g*u.2-h)]
def gwl(g h:Int)(w:Wl):D:=.tup [gp g h (ea w),gp g h (eb w)]
theorem sI{g h a c:Int}(hg:0<g):g*a-h<g*c-h↔a<c:=by
 constructor
 ·intro e;exact Int.lt_of_mul_lt_mul_left (show g*a<g*c by omega) (by omega)
 ·intro e;have:=Int.mul_lt_mul_of_pos_left e hg;omega
theorem vA{g h a c:Int}(hg:0<g):g*a-h=g*c-h↔a=c:=by have h1:=sI (h:=h) (a:=a) (c:=c) hg;have h2:=sI (h:=h) (a:=c) (c:=a) hg;omega
theorem DH{g h a c:Int}(hg:0<g):g*a-h<=g*c-h↔a<=c:=by have h2:=sI (h:=h) (a:=c) (c:=a) hg;omega
theorem xI{g h a b c d:Int}(hg:0<g):HT.lexLt [g*a-h,g*b-h] [g*c-h,g*d-h]=HT.lexLt [a,b] [c,d]:=by simp only[HT.lexLt,sI hg,vA hg]
theorem xh{g h a b c d:Int}(hg:0<g):HT.bz [g*a-h,g*b-h] [g*c-h,g*d-h]=HT.bz [a,b] [c,d]:=by simp only[HT.bz,sI hg,vA hg,gt_iff_lt]
theorem qx{g h a b c d:Int}(hg:0<g):HT.lexLe [g*a-h,g*b-h] [g*c-h,g*d-h]=HT.lexLe [a,b] [c,d]:=by simp only[HT.lexLe,sI hg,vA hg,DH hg]
theorem Ce(g h a b c d e f:Int):crs (g*c-h-(g*a-h)) (g*d-h-(g*b-h)) (g*e-h-(g*a-h)) (g*f-h-(g*b-h))=(g*g)*crs (c-a) (d-b) (e-a) (f-b):=by unfold crs;grind
theorem BK{g:Int}(hg:0<g)(z:Int):En (g*g*z)=En z:=by have hh:=Ez hg hg;rw[Int.sign_mul,EF hh,Int.one_mul]
theorem ym{g h x:Int}(G:Gs g h)(hx:0<=x/\x<=20):Bd 12 (g*x-h):=by have h1:=G.g0;have h2:=G.g1;have h3:=G.h0;have h4:=G.h1;have a:g*x<=12*20:=Int.mul_le_mul h2 hx.2 hx.1 (by decide);have b:0<=g*x:=Int.mul_nonneg (by omega) hx.1;show(g*x-h).natAbs<2^12;omega
theorem qh{g h:Int}(hg:0<g)(u v:Vc):EH (.tuple [.int (g*u.1-h),.int (g*u.2-h)]) (.tuple [.int (g*v.1-h),.int (g*v.2-h)])=decide (u=v):=by rw[lX,decide_eq_decide,vA hg,vA hg];exact⟨fun e=>Prod.ext e.1 e.2,fun e=>by rw[e];exact⟨rfl,rfl⟩⟩
def Pot(M:MH)(r:Addr)(n:Nat):Prop:=∃a b c:Int,M r=some (.lst [.int a,.int b,.int c])/\0<=a/\0<=b/\b<2147483647/\0<=c/\c<=n
theorem Pot.le{M:MH}{r:Addr}{n m:Nat}(h:Pot M r n)(l:n<=m):Pot M r m:=let⟨a,b,c,h1,h2,h3,h4,h5,h6⟩:=h;⟨a,b,c,h1,h2,h3,h4,h5,by omega⟩
theorem Pot.ne{M:MH}{r p:Addr}{n:Nat}(h:Pot M r n)(hp:M p=none):r≠p:=let⟨_,_,_,h1,_⟩:=h;au h1 hp
theorem Pot.new{M:MH}{r p:Addr}{n:Nat}{o:MO}(h:Pot M r n)(hp:M p=none):Pot (aq M p o) r n:=let⟨a,b,c,h1,h2⟩:=h;⟨a,b,c,by rw[ai (au h1 hp)];exact h1,h2⟩
theorem Pot.upd{M:MH}{r p:Addr}{n:Nat}{o:MO}(h:Pot M r n)(ne:r≠p):Pot (aq M p o) r n:=let⟨a,b,c,h1,h2⟩:=h;⟨a,b,c,by rw[ai ne];exact h1,h2⟩
def Kx(xs:List Addr)(M M':MH):Prop:=∀a o,a∉xs->M a=some o->M' a=some o
theorem Kx.refl{xs:List Addr}{M:MH}:Kx xs M M:=fun _ _ _ h=>h
theorem Kx.trans{xs:List Addr}{M M1 M2:MH}(a:Kx xs M M1)(b:Kx xs M1 M2):Kx xs M M2:=fun x o n h=>b x o n (a x o n h)
theorem Kx.upd{xs:List Addr}{M M1:MH}{p:Addr}{o:MO}(a:Kx xs M M1)(hp:p∈xs):Kx xs M (aq M1 p o):=fun x u n h=>by have ne:x≠p:=fun e=>n (by rw[e];exact hp);rw[ai ne];exact a x u n h
theorem Kx.new{xs:List Addr}{M M1:MH}{p:Addr}{o:MO}(a:Kx xs M M1)(hp:M1 p=none):Kx xs M (aq M1 p o):=fun x u n h=>by rw[ai (au (a x u n h) hp)];exact a x u n h
def gwP(g h:Int)(w:Wl):FT:=.tuple [.tuple [.int (g*w.1-h),.int (g*w.2.1-h)],.tuple [.int (g*w.2.2.1-h),.int (g*w.2.2.2-h)]]
theorem uT{M:MH}(g h:Int):∀ws:List Wl,Pds M (ws.map (gwl g h)) (ws.map (gwP g h))
 |[]=>.nil
 |w::ws=>.cons (Pd.of rfl) (uT g h ws)
theorem vV(g h:Int):∀ws:List Wl,Fo (ws.map (gwP g h))=true
 |[]=>rfl
 |w::ws=>by rw[D7,Fo,vV g h ws];rfl
theorem vd(g h:Int):∀ws:List Wl,Fi (ws.map (gwP g h))<=10
 |[]=>nbL rfl
 |w::ws=>by
  rw[D7,Fi]
  exact Nat.max_le.mpr ⟨nbL rfl,vd g h ws⟩
theorem sH(g h:Int)(ws:List Wl):FQ (.list (ws.map (gwP g h)))=true:=by unfold FQ;have h1:=vV g h ws;have h2:=vd g h ws;rw[F6];refine⟨by rw[PyData.canLay0];exact h1,decide_eq_true ?_⟩;rw[PyData.depth];omega
theorem pW(g h:Int):∀ws:List Wl,EH (.list (ws.map (gwP g h))) (.list [])=ws.isEmpty
 |[]=>by simp[EH,Fj]
 |w::ws=>by simp[EH,Fj]
theorem xB{g h:Int}{ws:List Wl}{v:Int}(h0:0<=v)(h1:v<ws.length):∃w,w∈ws/\atI (ws.map (gwl g h)) v=some (gwl g h w):=by
 obtain⟨j,rfl⟩:∃j:Nat,v=(j:Int):=⟨v.toNat,by omega⟩;have hj:j<ws.length:=by omega
 exact⟨ws[j],ET hj,cF (by simp[hj])⟩
theorem xM{g h:Int}{w:Wl}(W:Un5 w){v:Int}(h0:0<=v)(h1:v<2):∃p,B20 p/\atI [gp g h (ea w),gp g h (eb w)] v=some (gp g h p):=by
 rcases(show v=0\/v=1 by omega)with rfl|rfl
 ·exact⟨_,W.ea,rfl⟩
 ·exact⟨_,W.eb,rfl⟩
theorem ui{ws:List Wl}:PF ws↔ws.Pairwise Fair:=by
 rw[F5];constructor
 ·intro h i j hi hj hij;exact h i j _ _ (by omega) (E2 hi) (E2 hj)
 ·intro h i j U V hij hU hV;obtain⟨hi,rfl⟩:=Eo.mp hU;obtain⟨hj,rfl⟩:=Eo.mp hV;rcases Nat.lt_or_gt_of_ne hij with z|z
  ·exact h i j hi hj z
  ·exact(h j i hj hi z).swap
theorem rj{a b:List Wl}(p:b.Perm a)(h:PF a):PF b:=ui.mpr ((p.pairwise_iff fun{x y} z=>Fair.swap z).mpr (ui.mp h))
theorem zQ{ws:List Wl}{w:Wl}{j:Nat}(h:PF ws)(hw:∀(t:Nat) (v:Wl),ws[t]?=some v->Fair w v):PF (eJ ws j w):=rj (fy ws j w) (rj (List.perm_append_singleton w ws).symm (rV h hw))
theorem xP{g h:Int}(hg:0<g){u v:Vc}(hu:B20 u)(hv:B20 v)(ne:u≠v):∃w:Wl,Un5 w/\(if HT.lexLt [g*v.1-h,g*v.2-h] [g*u.1-h,g*u.2-h]=true then[g*v.1-h,g*v.2-h]else[g*u.1-h,g*u.2-h])=[g*w.1-h,g*w.2.1-h]/\
 (if HT.bz [g*v.1-h,g*v.2-h] [g*u.1-h,g*u.2-h]=true then[g*v.1-h,g*v.2-h]else[g*u.1-h,g*u.2-h])=[g*w.2.2.1-h,g*w.2.2.2-h]:=by
 obtain⟨w,e1,e2,W⟩:=rQ (p:=u.1) (q:=u.2) (e:=v.1) (f:=v.2) hu.1 hu.2 hv.1 hv.2 (fun z=>ne (Prod.ext z.1 z.2))
 refine⟨w,W,?_,?_⟩
 ·rw[xI hg]
  by_cases c:HT.lexLt [v.1,v.2] [u.1,u.2]=true
  ·rw[if_pos c]at e1 ⊢
   injection e1 with a1 a2;injection a2 with a2 _
   rw[a1,a2]
  ·rw[if_neg c]at e1 ⊢
   injection e1 with a1 a2;injection a2 with a2 _
   rw[a1,a2]
 ·rw[xh hg]
  by_cases c:HT.bz [v.1,v.2] [u.1,u.2]=true
  ·rw[if_pos c]at e2 ⊢
   injection e2 with a1 a2;injection a2 with a2 _
   rw[a1,a2]
  ·rw[if_neg c]at e2 ⊢
   injection e2 with a1 a2;injection a2 with a2 _
   rw[a1,a2]
theorem tf{α:Type}(f:α->D)(l:List α):cutD (l.map f) (some 1) none=(l.drop 1).map f:=by
 unfold cutD;rw[show(some 1:Option Int)=some ((1:Nat):Int)from rfl,HT.l9,HT.uO];cases l with
 |nil=>rfl
 |cons a l=>
  have:min 1 ((a::l).map f).length=1:=by simp
  rw[this]
  simp
  exact F9 (by simp)
theorem ve{M:MH}:∀bs:List Bool,Pds M (bs.map D.bl) (bs.map PyData.bool)
 |[]=>.nil
 |b::bs=>.cons (.bl b) (ve bs)
theorem wk:∀bs:List Bool,Fo (bs.map PyData.bool)=true
 |[]=>rfl
 |b::bs=>by rw[D7,Fo,wk bs];rfl
theorem zC(c:Bool)(bs:List Bool):(bs.map PyData.bool).any (fun q=>EH q (.bool c))=bs.any (fun b=>b==c):=by
 rw[List.any_map]
 congr 1
def sqG(m:Nat):Nat->List Wl
 |0=>(GA 0 (m+1)).map fun k:Nat=>sqV (k:Int)
 |i+1=>sqG m i++[sqH (i:Int) 0,sqH (i:Int) 1]
theorem mj(m:Nat):∀i,(sqG m i).length=m+1+2*i
 |0=>by simp[sqG]
 |i+1=>by rw[sqG,Ff,mj m i];simp;omega
theorem m9(m:Nat):∀i k,i+k=m->(sqG m i).Perm (sqL (m:Int) i++(GA i k).map fun k:Nat=>sqV (k:Int))
 |0,k,e=>by
  obtain rfl:k=m:=by omega
  rw[sqG,sqL,List.range'_concat,Eg]
  simpa using(List.perm_append_comm (l₁:=(GA 0 k).map fun k:Nat=>sqV (k:Int)) (l₂:=[sqV (k:Int)]))
 |i+1,k,e=>by
  have ih:=m9 m i (k+1) (by omega)
  rw[List.range'_succ,D7]at ih
  rw[sqG,sqL]
  refine(ih.append_right _).trans ?_
  rw[List.append_assoc,List.append_assoc]
  refine List.Perm.append_left _ ?_
  generalize (GA (i+1) k).map (fun k:Nat=>sqV (k:Int))=R
  have a:(sqV (i:Int)::R++[sqH (i:Int) 0,sqH (i:Int) 1]).Perm ([sqH (i:Int) 0,sqH (i:Int) 1]++(sqV (i:Int)::R)):=List.perm_append_comm
  exact a
theorem rm(m:Nat):(sqG m m).Perm (sqL (m:Int) m):=by have:=m9 m m 0 (by omega);simpa using this
theorem DY(k:Int):gwl 12 0 (sqV k)=.tup [.tup [.int (12*k),.int 0],.tup [.int (12*k),.int 12]]:=by simp[gwl,gp,sqV,ea,eb]
theorem Dy(k:Int):gwl 12 0 (sqH k 0)=.tup [.tup [.int (12*k),.int 0],.tup [.int (12*k+12),.int 0]]/\gwl 12 0 (sqH k 1)=.tup [.tup [.int (12*k),.int 12],.tup [.int (12*k+12),.int 12]]:=by
 have e:12*(k+1)=12*k+12:=by omega
 simp[gwl,gp,sqH,ea,eb,e]
def raw(g h:Int)(w:Wl):Wl:=(g*w.1-h,g*w.2.1-h,g*w.2.2.1-h,g*w.2.2.2-h)
theorem vJ(g h:Int):∀ws:List Wl,(ws.map (raw g h)).map uw=ws.map (gwl g h)
 |[]=>rfl
 |w::ws=>by rw[D7,D7,D7,vJ g h ws];rfl
theorem Aj{g h:Int}(G:Gs g h){w:Wl}(W:Un5 w):Uok (10^3) (raw g h w):=by
 have k:∀{x:Int},(0<=x/\x<=20)->-(10^3)<=g*x-h/\g*x-h<=10^3:=fun{x} hx=>by
  have h1:=G.g0
  have h2:=G.g1
  have h3:=G.h0
  have h4:=G.h1
  have a:g*x<=12*20:=Int.mul_le_mul h2 hx.2 hx.1 (by decide)
  have b:0<=g*x:=Int.mul_nonneg (by omega) hx.1
  omega
 exact⟨k W.a,k W.b,k W.c,k W.d⟩
section
variable{X:Cx}
def vR:FT->Bool
 |.list _=>true
 |.tuple _=>true
 |_=>false
structure Shn(P:FT):Prop where
 s:P.showable=true
 d:P.hasDict=false
 n:P.depth<=40
 l:P.shown.length<=Ea
def yC:RC:=fun ds M Q=>match ds with
 |[d]=>∃P,Pd M d P/\vR P=true/\Shn P/\Q (.str P.shown) M
 |_=>False
theorem qZ(hg:X.A.guards=some [])(hu:X.A.units+64<F0):cP X (.builtin "repr") yC:=by
 intro pins s σ H vs us Q I r ⟨ds,M,R,rs,a,q,fin⟩;unfold yC at q;split at q
 ·obtain⟨P,pd,di,S,q⟩:=q;obtain⟨v,rfl,rv⟩:=bN rs;obtain⟨u,rfl,ru⟩:=vals1 r;obtain⟨as,re⟩:=bU I a pd rv ru;obtain⟨b,rfl⟩:∃b,u=.ref b:=by cases re<;>first|exact⟨_,rfl⟩|cases di
  obtain⟨h,g,d,t,os⟩:=s;refine repr_of_reads' (h₀:=h) re S.s (fun z=>by rw[S.d]at z;cases z) hg (by have:=S.n;omega) (fun _ _ e=>e) (fun h' u tk hk=>?_) S.l;have It:=I.kept (h':=h') (t':=tk) hk;exact⟨.str P.shown,H,It,⟨u,rfl⟩,fin _ _ _ _ .refl (by rw[Rep]) a q⟩
 ·exact q.elim
def B9:R2D:=fun x y M Q=>match x,y with
 |.str a,.str b=>a=b/\Q (.bl true) M
 |_,_=>False
theorem Ag:OpD X (EK .Eq) B9:=by
 intro pins s σ H v u v' u' Q I rv ru h;obtain⟨x,y,M,R,r1,r2,a,q,fin⟩:=h;unfold B9 at q;split at q
 ·obtain⟨rfl,q⟩:=q;rw[Rep]at r1 r2;subst r1 r2;obtain⟨t1,rfl⟩:=rv;obtain⟨t2,rfl⟩:=ru;refine PySem.P.eq_str ?_;rw[beq_self_eq_true];exact⟨.bl true,H,I,rfl,fin _ _ _ _ .refl (by rw[Rep]) a q⟩
 ·exact q.elim
theorem rN:F7 "repr"=some (.builtin "repr"):=boot_repr
end
theorem jb{ws:List Wl}:∀{i:Nat} {rs:List (List Nat)},Rgs ws i rs->rs.length<=i
 |0,rs,h=>by rw[show rs=[]from h];simp
 |i+1,rs,⟨qs,h1,h2⟩=>by
  have:=jb h1
  rcases h2 with⟨_,rfl⟩|⟨_,r,_,rfl⟩
  ·omega
  ·simp;omega
structure RgA(ws:List Wl)(r:List Nat):Prop where
 rng:Rng ws r
 len:r.length<=2*ws.length
 lt:∀g∈r,g<2*ws.length
 pos:0<r.length
theorem iZ{ws:List Wl}(hU:∀w∈ws,Un5 w)(hF:PF ws):∀{i:Nat} {rs:List (List Nat)},i<=2*ws.length->Rgs ws i rs->∀r∈rs,RgA ws r
 |0,rs,_,h,r,hr=>by rw[show rs=[]from h]at hr;cases hr
 |i+1,rs,hi,⟨qs,h1,h2⟩,r,hr=>by
  rcases h2 with⟨_,rfl⟩|⟨_,r',⟨kk,n,e,rfl⟩,rfl⟩
  ·exact iZ hU hF (by omega) h1 r hr
  ·rcases Ek.mp hr with z|z
   ·exact iZ hU hF (by omega) h1 r z
   ·have:r=rn ws i kk:=by simpa using z
    subst this
    have hl:=rD hU hF (show i<2*ws.length by omega) n
    refine⟨⟨i,kk,by omega,hl,rfl,e⟩,by rw[gZ];omega,fun g hg=>?_,by rw[gZ];omega⟩
    unfold rn at hg
    obtain⟨j,_,rfl⟩:=EJ.mp hg
    exact eK hU hF (by omega) j
def b4(ws:List Wl)(r:List Nat):Bool:=decide (0<(r.map (twT ws)).sum)
theorem uI{ws:List Wl}(hU:∀w∈ws,Un5 w)(hF:PF ws){r:List Nat}(R:Rng ws r){t b X Y tot B:Int}(ht:0<t)(hb:0<b)(hB:0<B)(e:(tot:Rat)=(r.map (arT t b X Y ws)).sum*(B:Rat)):decide (0<tot)=b4 ws r:=by
 have cp:∀{z:Int},0<z->(0:Rat)<(z:Rat):=fun{z} h=>by exact_mod_cast h
 have kpos:(0:Rat)<(t:Rat)/b:=by rw[Rat.div_def];exact Rat.mul_pos (Ma.pos_int ht) (Rat.inv_pos.mpr (Ma.pos_int hb))
 have hk:(0:Rat)<((t:Rat)/b)*((t:Rat)/b)*(B:Rat):=Rat.mul_pos (Rat.mul_pos kpos kpos) (cp hB);rw[Cf hU hF R hb]at e;have e1:(tot:Rat)=((t:Rat)/b)*((t:Rat)/b)*(B:Rat)*(((r.map (twT ws)).sum:Int):Rat):=by rw[e];grind
 have s1:=sgn_mul hk (r.map (twT ws)).sum;rw[<-e1]at s1;have s2:=sgn_mul (show(0:Rat)<1 by decide) tot;rw[Rat.one_mul]at s2;rw[s2]at s1;unfold b4;rw[decide_eq_decide,<-Int.sign_eq_one_iff_pos,s1,Int.sign_eq_one_iff_pos]
theorem RL.get{M:MH}{ps:List Addr}{rs:List (List Nat)}(h:RL M ps rs){i:Nat}(hi:i<ps.length):∃r,rs[i]?=some r/\M ps[i]=some (.lst (r.map fun g:Nat=>D.int (g:Int))):=by
 unfold RL at h
 induction h generalizing i with
 |nil=>simp at hi
 |@cons p r ps rs a _ ih=>
  cases i with
  |zero=>exact⟨r,rfl,a⟩
  |succ i=>simpa using ih (by simpa using hi)
theorem iM{α:Type}(f:α->Bool)(l:List α){i:Nat}{r:α}(e:l[i]?=some r):(l.take (i+1)).filter f=(l.take i).filter f++(if f r=true then[r]else[]):=by
 rw[Fs,e,List.filter_append]
 congr 1
 simp[List.filter_cons]
def mn(a c:Vc):Vc:=if la a.1 a.2<la c.1 c.2 then a else c
theorem B3{t b X Y:Int}(ht:0<t)(hb:0<b){u v:Vc}(hu:B20 u)(hv:B20 v):(if Ma.ah (Ma.ut t b X 1 u.1) (Ma.ut t b Y 1 u.2) (Ma.ut t b X 1 v.1) (Ma.ut t b Y 1 v.2)then(Ma.ut t b X 1 u.1,Ma.ut t b Y 1 u.2)else(Ma.ut t b X 1 v.1,Ma.ut t b Y 1 v.2))=(Ma.ut t b X 1 (mn u v).1,Ma.ut t b Y 1 (mn u v).2):=by
 have h:=wg (X:=X) (Y:=Y) ht hb hu hv;unfold plt at h;unfold mn;by_cases z:la u.1 u.2<la v.1 v.2
 ·rw[if_pos (h.mpr z),if_pos z]
 ·rw[if_neg (fun q=>z (h.mp q)),if_neg z]
theorem Ar{u v:Vc}(hu:B20 u)(hv:B20 v):B20 (mn u v):=by
 unfold mn;split
 ·exact hu
 ·exact hv
theorem qa{ws:List Wl}(hU:∀w∈ws,Un5 w){g:Nat}(hg:g<2*ws.length):B20 (fa ws g):=by
 obtain⟨_,_,w3⟩:=bQ (ws:=ws) (k:=((g/2:Nat):Int)) (by omega) (by omega);have W:=hU _ w3;unfold fa fw;by_cases h:g%2=0
 ·rw[if_pos h];exact⟨W.a,W.b⟩
 ·rw[if_neg h];exact⟨W.c,W.d⟩
def fcI(ws:List Wl)(r:List Nat)(i:Nat):Vc:=(r.take i).foldl (fun a g=>mn a (fa ws g)) (fa ws (r.headD 0))
def fc(ws:List Wl)(r:List Nat):Vc:=fcI ws r r.length
theorem oz{ws:List Wl}{r:List Nat}{i g:Nat}(e:r[i]?=some g):fcI ws r (i+1)=mn (fcI ws r i) (fa ws g):=by unfold fcI;rw[Fs,e,List.foldl_append];rfl
theorem mv{ws:List Wl}(hU:∀w∈ws,Un5 w){r:List Nat}(hr:∀g∈r,g<2*ws.length)(hp:0<r.length):∀i,i<=r.length->B20 (fcI ws r i)
 |0,_=>by
  unfold fcI
  cases r with
  |nil=>simp at hp
  |cons g r=>exact qa hU (hr g (by simp))
 |i+1,h=>by
  rw[oz (E2 (show i<r.length by omega))]
  exact Ar (mv hU hr hp i (by omega)) (qa hU (hr _ (ET _)))
def wZ(ws:List Wl)(fs:List Int):Int:=(fs.filter fun k=>fs.all fun j=>!abv (wAt ws j) (wAt ws k)).headD 0
theorem xl{ws:List Wl}(hU:∀w∈ws,Un5 w)(hF:PF ws){p q tt:Int}(htt:tt∈bK ws 1 p q)(h:∀w∈(bK ws 1 p q).map (wAt ws),w=wAt ws tt\/(abv (wAt ws tt) w=true/\abv w (wAt ws tt)=false)):wZ ws (bK ws 1 p q)=tt:=by
 obtain⟨t,h1,h2,h3⟩:=tW hU hF (show(0:Int)<1 by decide) (fun k hk=>fX hk) (List.ne_nil_of_mem htt) (nQ ws 1 p q);unfold wZ;rw[h3];show t=tt
 have e:wAt ws t=wAt ws tt:=by
  rcases h _ (EJ.mpr ⟨t,h1,rfl⟩)with z|z
  ·exact z
  ·rcases h2 _ (EJ.mpr ⟨tt,htt,rfl⟩)with y|y
   ·exact y.symm
   ·rw[y.1]at z;exact absurd z.2 (by decide)
 have a:=fG (fX h1);have c:=fG (fX htt);by_cases ne:t.toNat=tt.toNat
 ·omega
 ·exact absurd ⟨by rw[e],by rw[e]⟩ (hF t.toNat tt.toNat _ _ ne (bQ a.1 a.2.1).1 (bQ c.1 c.2.1).1).ne
def laF(ws:List Wl)(L:List Int)(u:Vc):Int:=if bK ws 1 u.1 u.2=[]then 0 else(L[2*(wZ ws (bK ws 1 u.1 u.2)).toNat]?).getD 0
section
variable{X:Cx}{pins:List (Addr×Obj)}{σ:L2.St}{H:Hp}{s:D6}{a b:Addr}{k:SpK}
theorem vQ{A:EE}{E:D4->D6->Prop}{Q:Unit->D6->Prop}{xs:List SpE}{v:V}{u:D4}(hu:A.units+8<F0)(I:L2.Inv X pins σ H s)(e:H a=some (.ext (aU X.prog X.w a xs)))(hk:∀x∈xs,bj X.K H x.2.1 x.1)(hb:bj X.K H b k)(rv:RelV v u)(hl:xs.length<Ea)
 (h:∀s',L2.Inv X pins σ (upd H a (.ext (aU X.prog X.w a (cn xs k b v)))) s'->Q () s'):E7 (Ef X.prog X.w) A (dictSet a (.ref b) u) Q E s:=by
 obtain⟨hd,hz,ys,r,dd⟩:=ij I e hk
 refine wpAny_dictSet_heap (knd:=bE X.prog X.w) (hsz:=by rw[<-fB r];exact hz) (show A.units+4<F0 by omega) (iz I hb) dd fun h' dd' hs=>h _ ?_
 obtain⟨q,es,ep,hq,q2,q3,q4,_,q5⟩:=dd'
 refine gr I (by rw[e];exact True.intro) hs ⟨q,hq⟩ ⟨⟨hd,?_,?_,_,d5 r k b rv,q,es,ep,hq,q2,q3,q4⟩,⟨q,hq⟩,fun h1 h2 x y=>fv h1 h2 x y⟩
 ·have:=gA xs k b v;omega
 ·rw[<-dP (d5 r k b rv)];exact q5
end
theorem pB{prog:Ee}{w:EB}{A:EE}{R:Result->D6->Prop}{s:D6}{kx vx target iter:Expr}{ifs:List Expr}{scope:G5}{pos:Pos}{it:D4}{D:Addr}{env:Env}(J:Nat->D6->Prop)
 (step:∀n s,J n s->E7 (Ef prog w) A (pyNext it) (fun r s1=>match r with
  |none=>R (.ok .next) s1
  |some v=>E7 (Ef prog w) A (FJ target it v) (fun _ s2=>E7 (Ef prog w) A (GJ target env v) (fun _ s3=>
   E7 (Ef prog w) A (forIn ifs true fun c r=>if r=true then do let ok <-isTrue c env (eval c env);pure (FZ ok)else pure (FZ r)) (fun ok s4=>
    if ok=true then E7 (Ef prog w) A (eval kx env) (fun kv s5=>E7 (Ef prog w) A (eval vx env) (fun vv s6=>E7 (Ef prog w) A (dictSet D kv vv) (fun _ s7=>∃m,m<n/\J m s7) NoE s6) NoE s5) NoE s4
    else ∃m,m<n/\J m s4) NoE s3) NoE s2) NoE s1) NoE s)
 (n:Nat) (h:J n s):FX (Ef prog w) A (.compLoop (.DictComp kx vx [⟨target,iter,ifs,0⟩] scope pos) 0 it (.ref D) env) R s:=by
 have no:∀{E:D4->D6->Prop} e s',NoE e s'->E e s':=fun _ _ z=>z.elim
 refine codeAny_loop rfl J (fun n s hJ=>?_) n h
 show E7 _ _ (Sem.onRaise (compTurn (.DictComp kx vx [⟨target,iter,ifs,0⟩] scope pos) 0 it (.ref D) env) (fun x=>do noteFrame x env;theTreesLotGoes x)) _ _ s
 refine wpAny_noted ?_
 rw[compTurn_dict]
 refine cc (Fx (cc (Ed (step n s hJ) (fun r s1 h1=>?_) no)))
 cases r with
 |none=>exact E1 h1
 |some v=>
  refine cc (Ed h1 (fun _ s2 h2=>cc (Ed h2 (fun _ s3 h3=>cc (Ed h3 (fun ok s4 h4=>?_) no)) no)) no)
  cases ok with
  |false=>exact E1 ⟨rfl,h4⟩
  |true=>exact cc (cc (Ed h4 (fun kv s5 h5=>cc (EY (Ed h5 (fun vv s6 h6=>cc (Fx (EY (Ed h6 (fun _ s7 h7=>E1 ⟨rfl,h7⟩) no)))) no))) no))
def tH(X:Cx)(js:List Nat)(own:Own)(tc:TT)(tk te:TE)(σ:L2.St)(J:It)(H1:Hp)(Q:VK):Prop:=∀D,H1 D=none->∃W:Nat->Nat->Hp->Prop,(∃m,W 0 m (upd H1 D (.ext (aU X.prog X.w D []))))/\∀i m H,W i m H->
 (J.stop i H/\Q (.ref D) H)\/(J.go i H/\∀y H',J.yld i H y H'->∃os,own y H' os/\tc (cσ os js σ) H' fun b H2=>if b=true then
  tk (cσ os js σ) H2 fun kv H3=>te (cσ os js σ) H3 fun v H4=>∃b k xs,kv=.ref b/\H4 D=some (.ext (aU X.prog X.w D xs))/\(∀x∈xs,bj X.K H4 x.2.1 x.1)/\bj X.K H4 b k/\xs.length<Ea/\∃m',m'<m/\W (i+1) m' (upd H4 D (.ext (aU X.prog X.w D (cn xs k b v))))else ∃m',m'<m/\W (i+1) m' H2)
def rp(X:Cx)(js:List Nat)(own:Own)(wi:TI)(tc:TT)(tk te:TE):TE:=fun σ H Q=>wi σ H fun J H1=>tH X js own tc tk te σ J H1 Q
section
variable{X:Cx}{xs:List Str}{tg:Expr}{pos:Pos}{js:List Nat}{scope:G5}{kx vx iter:Expr}{ifs:List Expr}{tk te:TE}{tc:TT}{g:TG}{own:Own}{wi:TI}{pins:List (Addr×Obj)}{σ:L2.St}{H:Hp}{s:D6}{fp:List Addr}{it:Addr}{tn:Nat->Heap->Prop}{J:It}
theorem sS(c:CScope X xs js scope)(hc:X.calm=true)(hG:TgOk xs.length g own)(hg:∀C s H fp,PG (cxC X xs js scope C s H fp) tg g)(ht:∀C s H fp,PTs (cxC X xs js scope C s H fp) ifs tc)(hk:∀C s H fp,PE (cxC X xs js scope C s H fp) kx tk)(he:∀C s H fp,PE (cxC X xs js scope C s H fp) vx te)(hu:X.A.units+8<F0)
 {R:D4->Addr->Result->D6->Prop} {E:D4->D6->Prop} {Q:VK}
 (I:Inv X pins σ H s) (T:Turn X.prog X.w X.K tg J fp it tn) (st:tn 0 s.heap) (hf:∀b∈fp,cj X pins H b) (wc:tH X js own tc tk te σ J H Q)
 (hR:∀D C H' s',Inv X pins σ H' s'->cj X pins H' C->(∃m,s'.heap.Ns C m)->Q (.ref D) H'->R (.ref D) C (.ok .next) s') :
 E7 (Ef X.prog X.w) X.A newDict (fun acc s₃=>E7 (Ef X.prog X.w) X.A (newFunctionEnv scope X.env.globals (dU scope.names X.env) [] X.env.qual none .none (some X.env)) (fun cenv s₄=>
  FX (Ef X.prog X.w) X.A (.compStart (.DictComp kx vx [⟨tg,iter,ifs,0⟩] scope pos) 0 (.ref it) acc { cenv with scope:=relabel scope X.env }) (R acc cenv.locals) s₄) E s₃) E s:=by
 have hfp:∀b∈fp,b<s.heap.objs.size:=fun b hb=>let⟨o,e,_⟩:=T.obj 0 _ st b hb;E8 e
 have hD:H s.heap.objs.size=none:=I.hok.fresh (E3 _)
 refine EO (mI ?_)
 generalize hh:s.heap.push { cls:=.type "dict",data:=.dict #[] }=h3
 generalize hh1:pushCells (({ s with heap:=h3 }:D6).heap.push { cls:=.type "dict",data:=.dict #[] }) scope.names=h₁
 have k3:∀b o,s.heap.get? b=some o->h3.get? b=some o:=fun b o e=>by rw[<-hh];exact D9 _ e
 have I3:Inv X pins σ (upd H s.heap.objs.size (.ext (aU X.prog X.w s.heap.objs.size []))) { s with heap:=h3 }:=by
  rw[<-hh];exact i8 I
 have hf3:∀b∈fp,cj X pins (upd H s.heap.objs.size (.ext (aU X.prog X.w s.heap.objs.size []))) b:=fun b hb=>⟨by rw[aL (Ex (hfp b hb))];exact(hf b hb).1,(hf b hb).2⟩
 have hsz:h3.objs.size=s.heap.objs.size+1:=by rw[<-hh,Fz]
 have hfp3:∀b∈fp,b<h3.objs.size:=fun b hb=>by rw[hsz];exact Nat.lt_succ_of_lt (hfp b hb)
 have k4:∀b o,h3.get? b=some o->h₁.get? b=some o:=fun b o e=>by rw[<-hh1];exact pushCells_keeps _ _ b o (D9 _ e)
 have I4:=kD c I3 hf3 hfp3 (h':=h₁) hh1.symm k4
 obtain⟨W,⟨m0,w0⟩,turn⟩:=wc _ hD
 have st4:tn 0 h₁:=T.keep 0 _ _ st fun b hb o e=>k4 b o (k3 b o e)
 generalize hX:cxC X xs js scope h3.objs.size { s with heap:=h3 } (upd H s.heap.objs.size (.ext (aU X.prog X.w s.heap.objs.size []))) fp=X' at I4
 have fok:∀{pins':List (Addr×Obj)} {H':Hp} {σ':L2.St} {s':D6},Inv X' [] σ' H' s'->(∀b∈fp,H' b=none)->∀b∈fp,cj X' [] H' b:=fun{pins' H' σ' s'} J' hn b hb=>by
  subst hX
  obtain⟨a1,a2⟩:=J'.ok.exf b hb
  exact⟨hn b hb,a1,J'.ok.exfs b hb,.inl hb,a2,fun p hp=>absurd (show p∈([]:List (Addr×Obj))from hp) (by simp)⟩
 have loop:FX (Ef X.prog X.w) X.A (.compLoop (.DictComp kx vx [⟨tg,iter,ifs,0⟩] scope pos) 0 (.ref it) (.ref s.heap.objs.size) (iP scope h3.objs.size X.env)) (R (.ref s.heap.objs.size) h3.objs.size)
  { s with heap:=h₁ }:=by
  refine pB (fun n s'=>∃i os H',os.length=xs.length/\Inv X' [] (cσ os js σ) H' s'/\tn i s'.heap/\(∀b∈fp,H' b=none)/\W i n H') ?_ m0 ⟨0,_,_,by simp,I4,st4,fun b hb=>(hf3 b hb).1,w0⟩
  rintro n s5 ⟨i,os,H5,hl5,I5,st5,fr5,w5⟩
  rcases turn i n H5 w5 with⟨stop,q⟩|⟨go,step⟩
  ·subst hX
   refine Ed (T.done (cxC X xs js scope h3.objs.size { s with heap:=h3 } (upd H s.heap.objs.size (.ext (aU X.prog X.w s.heap.objs.size []))) fp) rfl rfl rfl hc i [] s5 _ H5 NoE I5 (fok (pins':=[]) I5 fr5) st5 stop) (fun r s6 zz1_0=>?_) fun _ _ z=>z
   obtain⟨hr,I6⟩:=zz1_0
   subst hr
   refine hR _ _ H5 s6 (I3.uL I6.os I6.base I6.hok I6.bare fun b hb=>⟨(hf3 b hb).2.2.2.1,(hf3 b hb).2.1,(hf3 b hb).2.2.2.2.1,(hf3 b hb).2.2.2.2.2⟩) (I3.n8 (E3 _) I6.free) (let⟨m,hm,_⟩:=I6.loc;⟨m,hm⟩) q
  ·subst hX
   refine Ed (T.item (cxC X xs js scope h3.objs.size { s with heap:=h3 } (upd H s.heap.objs.size (.ext (aU X.prog X.w s.heap.objs.size []))) fp) rfl rfl rfl hc i [] s5 _ H5 NoE I5 (fok (pins':=[]) I5 fr5) st5 go) (fun r s6 zz2_0=>?_) fun _ _ z=>z
   obtain⟨u,hr,h6⟩:=zz2_0
   subst hr
   refine Ed h6 (fun _ s7 zz3_0=>?_) fun _ _ z=>z
   obtain⟨y,H7,I7,r7,y7,st7,fr7⟩:=zz3_0
   have I7':=I7.pinned (fok (pins':=[]) I7 fr7) (T.obj _ _ st7)
   obtain⟨os8,ow8,q8⟩:=step y H7 y7
   have l8:=hG.len _ _ _ ow8
   refine Ed (hg _ _ _ _ _ s7 _ H7 y u (fun σ' H'=>σ'=cσ os8 js σ/\H'=H7) I7' r7 (hG.run y H7 os _ os8 _ hl5 ow8 ⟨rfl,rfl⟩)) (fun _ s8 zz4_0=>?_) fun _ _ z=>z
   obtain⟨σ8,H8,I8,e8,e8'⟩:=zz4_0
   subst e8 e8'
   refine Ed (ht _ _ _ _ _ s8 _ _ _ I8 q8) (fun ok s9 zz5_0=>?_) fun _ _ z=>z
   obtain⟨H9,I9,q9⟩:=zz5_0
   have back:∀{m':Nat} {H10:Hp} {s10:D6},Inv (cxC X xs js scope h3.objs.size { s with heap:=h3 } (upd H s.heap.objs.size (.ext (aU X.prog X.w s.heap.objs.size []))) fp) ([]++eZ fp s7.heap) (cσ os8 js σ) H10 s10->m'<n->W (i+1) m' H10->
    ∃m,m<n/\∃i os H',os.length=xs.length/\Inv (cxC X xs js scope h3.objs.size { s with heap:=h3 } (upd H s.heap.objs.size (.ext (aU X.prog X.w s.heap.objs.size []))) fp) [] (cσ os js σ) H' s10/\tn i s10.heap/\(∀b∈fp,H' b=none)/\W i m H':=fun{m' H10 s10} I10 hm' w10=>by
    refine⟨m',hm',i+1,os8,H10,l8,I10.dg,T.keep _ _ _ st7 fun b hb o e=>(I10.pin (b,o) (Eh _ (Eh _ (bC hb e)))).1,fun b hb=>?_,w10⟩
    obtain⟨o',e,d⟩:=T.obj _ _ st7 b hb
    exact(I10.pin (b,o') (Eh _ (Eh _ (bC hb e)))).2.1
   cases ok with
   |false=>
    rw[if_neg Ei]at q9 ⊢
    obtain⟨m',hm',w9⟩:=q9
    exact back I9 hm' w9
   |true=>
    rw[if_pos rfl]at q9 ⊢
    refine Ed (hk _ _ _ _ _ s9 _ _ _ I9 q9) (fun kv s10 zz6_0=>?_) fun _ _ z=>z
    obtain⟨kk,H10,I10,r10,q10⟩:=zz6_0
    refine Ed (he _ _ _ _ _ s10 _ _ _ I10 q10) (fun v s11 zz7_0=>?_) fun _ _ z=>z
    obtain⟨vv,H11,I11,r11,b,k,ys,ek,hd11,hks,hkb,hl11,m',hm',w11⟩:=zz7_0
    subst ek
    cases r10
    exact vQ (X:=cxC X xs js scope h3.objs.size { s with heap:=h3 } (upd H s.heap.objs.size (.ext (aU X.prog X.w s.heap.objs.size []))) fp) hu I11 hd11 hks hkb r11 hl11 fun s12 I12=>back I12 hm' w11
 exact codeAny_compStart_dict loop (T.self X.A 0 _ _ _ st4 loop)
theorem uW{i:Nat}{y:Str}{py spos:Pos}(c:CScope X xs js scope)(hc:X.calm=true)(hN:X.N.Nodup)(hi:PI X tg iter wi)(hG:TgOk xs.length g own)(hg:∀C s H fp,PG (cxC X xs js scope C s H fp) tg g)(ht:∀C s H fp,PTs (cxC X xs js scope C s H fp) ifs tc)(hk:∀C s H fp,PE (cxC X xs js scope C s H fp) kx tk)(he:∀C s H fp,PE (cxC X xs js scope C s H fp) vx te)(hu:X.A.units+8<F0)(hy:X.N[i]?=some y)(hl:X.env.scope.names.lookup y=some .local)
 (hsw:GI (.DictComp kx vx [⟨tg,iter,ifs,0⟩] scope pos) (some (.Name y py)) spos.line X.env=pure true) (hs:∀x,Eu iter X.env x=pure x:=by intro _;rfl) :
 PS X (.Assign [.Name y py] (.DictComp kx vx [⟨tg,iter,ifs,0⟩] scope pos) spos) (wU (rp X js own wi tc tk te) (cG i)):=by
 intro pins s σ H B I h
 rw[exec_Assign_Name_used _ _ _ _ hsw]
 refine cc (Fx (cc ?_))
 show E7 _ X.A (do let _ <-comprehension (.DictComp kx vx [⟨tg,iter,ifs,0⟩] scope pos) scope X.env _ newDict false (eval iter X.env) (some (GJ (.Name y py) X.env))) _ _ s
 refine cc (Ed (wpAny_comprehension_free (use:=some (GJ (.Name y py) X.env)) (Q:=fun _ s'=>SP X pins B .next s') rfl hs (c.xt I.ok) c.kind c.names
  (thn (hi pins s σ H _ I h) fun v s1 h1=>thn h1 fun itv s2 ⟨it,fp,tn,J,H2,e,I2,T,st,f2,w⟩=>?_)) (fun _ s' hq=>E1 (E1 hq)) fun _ _ e=>e)
 subst e
 refine sS (R:=fun acc C=>compPost (Ef X.prog X.w) X.A X.xe (some (GJ (.Name y py) X.env)) (fun _ s'=>SP X pins B .next s') acc C) c hc hG hg ht hk he hu I2 T st f2 w fun D C H' s' I' fC zz10_0 q=>?_
 obtain⟨m,hm⟩:=zz10_0
 show E7 _ X.A (GJ (.Name y py) X.env (.ref D)) _ _ _
 refine wpAny_assign_Name (gT I' hN hy (.inl hl) (v:=.ref D) rfl (fun s9 I9 zz11_0=>?_) (.inr hl))
 obtain⟨a,sb,ha⟩:=zz11_0
 have hne:C≠a:=by
  rcases ha with z|z
  ·rw[z];exact fC.2.1
  ·exact fun e=>fC.2.2.2.2.1 y a z e.symm
 refine⟨m,hm.sameBut sb hne,fun h' hsb=>?_⟩
 exact⟨_,H',I9.turned (t':=s9.toks) (fun b o ne e=>hsb.extBut b o ne e) fC.1 fC.2.1 fC.2.2.2.1 fC.2.2.2.2.1 fC.2.2.2.2.2,q⟩
end
def A5(I:ItD)(tk:Tgt)(js:List Nat)(tc:TTD)(tx te:TD)(δ:DS)(M1:MH)(Q:DK):Prop:=I.n<=900000/\∀p,M1 p=none->∃W:Nat->SpT->MH->Prop,W 0 [] (aq M1 p (dsM []))/\(∀i kvs M,i<=I.n->W i kvs M->I.C M)/\
 (∀i kvs d M,i<I.n->I.item i=some d->W i kvs M->∃os,vq tk d os/\tc (cδ os js δ) M fun b M2=>if b=true then tx (cδ os js δ) M2 fun y M3=>te (cδ os js δ) M3 fun e M4=>∃k,y=spD k/\M4 p=some (dsM kvs)/\kvs.length<=i/\W (i+1) (putD kvs k e) (aq M4 p (dsM (putD kvs k e)))else W (i+1) kvs M2)/\∀kvs M,W I.n kvs M->Q (.ref p) M
def l0(wd:TID)(tk:Tgt)(js:List Nat)(tc:TTD)(tx te:TD):TD:=fun δ M Q=>wd δ M fun I M1=>A5 I tk js tc tx te δ M1 Q
section
variable{X:Cx}
theorem pT{wd:TID}{tk:Tgt}{js:List Nat}{tc:TTD}{tx te:TD}{σ:L2.St}{H:Hp}{Q:VK}(h:lift X.K (l0 wd tk js tc tx te) σ H Q):rp X js (nA X.K tk) (jB X.K wd) (liftT X.K tc) (lift X.K tx) (lift X.K te) σ H Q:=by
 obtain⟨δ,M,R,hs,hM,q,fin⟩:=h;refine⟨δ,M,_,hs,hM,q,fun I M1 H1 J g1 a1 kc io p hp=>?_⟩;obtain⟨hn,kc⟩:=kc;obtain⟨W,w0,hC,turn,done⟩:=kc p (a1.fresh hp);refine⟨fun i m H2=>m=I.n-i/\i<=I.n/\Grow X.K H1 H2/\∃kvs M,Abs X.K H2 M/\W i kvs M,⟨I.n,by simp,EZ _,.new hp,[],_,a1.qD _ _ hp,w0⟩,?_⟩;rintro i m H2 ⟨rfl,hi,g2,kvs,M2,a2,w2⟩;by_cases hin:i<I.n
 ·refine .inr ⟨io.go i H2 M2 hin g2 a2 (hC _ _ _ hi w2),fun v H3 hy=>?_⟩;obtain⟨g3,a3,d,ed,rd⟩:=io.yld i H2 M2 v H3 hin g2 a2 (hC _ _ _ hi w2) hy;obtain⟨os,ow,q3⟩:=turn i kvs d M2 hin ed w2;obtain⟨us,uv,su⟩:=m4 rd ow;have s3:=gG (js:=js) (hs.mono ((g1.trans g2).trans g3)) su;refine⟨us,uv,cδ os js δ,M2,_,s3,a3,q3,fun b M4 H4 g4 a4 q4=>?_⟩;cases b with
  |false=>
   rw[if_neg Ei]at q4 ⊢
   exact⟨I.n-(i+1),by omega,rfl,hin,(g2.trans g3).trans g4,kvs,M4,a4,q4⟩
  |true=>
   rw[if_pos rfl]at q4 ⊢
   refine⟨cδ os js δ,M4,_,s3.mono g4,a4,q4,fun y M5 u H5 g5 r5 a5 q5=>⟨cδ os js δ,M5,_,(s3.mono g4).mono g5,a5,q5,fun e M6 u6 H6 g6 r6 a6 zz12_0=>?_⟩⟩
   obtain⟨k,ey,e6,hl6,w6⟩:=zz12_0
   subst ey
   obtain⟨b,rfl,sp⟩:=iL (r5.mono g6)
   obtain⟨xs,h1,h2,h3,h4⟩:=a6.dsp e6
   have hlen:xs.length=kvs.length:=by have:=congrArg List.length h2;simpa using this
   have sz:1000000<=Ea:=nbL rfl
   have g7:Grow X.K H6 (upd H6 p (.ext (aU X.prog X.w p (cn xs k b u6)))):=.ext (h1 X.prog X.w)
   exact⟨b,k,xs,rfl,h1 _ _,h3,sp,by omega,I.n-(i+1),by omega,rfl,hin,((((g2.trans g3).trans g4).trans g5).trans g6).trans g7,putD kvs k e,_,a6.qA _ _ h1 h2 h4 h3 sp r6,w6⟩
 ·obtain rfl:i=I.n:=by omega
  exact .inl ⟨io.stop H2 M2 g2 a2 (hC _ _ _ hi w2),fin _ _ _ _ (g1.trans g2) (by rw[Rep]) a2 (done kvs M2 w2)⟩
variable{xs:List Str}{tg:Expr}{pos:Pos}{js:List Nat}{scope:G5}{kx vx iter:Expr}{ifs:List Expr}{tx te:TD}{tc:TTD}{g:TG}{tk:Tgt}{wd:TID}
theorem wm(i:Nat){y:Str}{py spos:Pos}(hN:X.N.Nodup)(hu:X.A.units+66<F0)(c:CScope X xs js scope)(hc:X.calm=true)(hi:DI X tg iter wd)(hG:TgOk xs.length g (nA X.K tk))(hg:∀C s H fp,PG (cxC X xs js scope C s H fp) tg g)(ht:∀C s H fp,DTs (cxC X xs js scope C s H fp) ifs tc)(hk:∀C s H fp,DE (cxC X xs js scope C s H fp) kx tx)(he:∀C s H fp,DE (cxC X xs js scope C s H fp) vx te) (hy:X.N[i]?=some y:=by rfl) (hl:X.env.scope.names.lookup y=some .local:=by rfl) (hsw:GI (.DictComp kx vx [⟨tg,iter,ifs,0⟩] scope pos) (some (.Name y py)) spos.line X.env=pure true:=by rfl) (hs:∀x,Eu iter X.env x=pure x:=by intro _;rfl) : DSt X (.Assign [.Name y py] (.DictComp kx vx [⟨tg,iter,ifs,0⟩] scope pos) spos) (cZ (l0 wd tk js tc tx te) (bF i)):=cD (uW (tk:=lift X.K tx) (te:=lift X.K te) (tc:=liftT X.K tc) c hc hN hi hG hg ht hk he (by omega) hy hl hsw hs) fun E σ H zz13_0=>by obtain⟨δ,M,hs,a,B,ok,q⟩:=zz13_0;exact(pT ⟨δ,M,_,hs,a,q,fun d M1 v H1 g1 r1 a1 q1=>ok.nx _ _ _ _ g1 ((hs.mono g1).set r1 i) a1 q1⟩)
theorem sa(i:Nat){x v:Str}{px pv spos:Pos}(hN:X.N.Nodup)(hu:X.A.units+66<F0)(c:CScope X [x] js scope)(hc:X.calm=true)(hi:DI X (.Name x px) iter wd)(ht:∀C s H fp,DTs (cxC X [x] js scope C s H fp) ifs tc)(hk:∀C s H fp,DE (cxC X [x] js scope C s H fp) kx tx)(he:∀C s H fp,DE (cxC X [x] js scope C s H fp) vx te) (hy:X.N[i]?=some v:=by rfl) (hl:X.env.scope.names.lookup v=some .local:=by rfl) (hsw:GI (.DictComp kx vx [⟨.Name x px,iter,ifs,0⟩] scope pos) (some (.Name v pv)) spos.line X.env=pure true:=by rfl) (hs:∀x,Eu iter X.env x=pure x:=by intro _;rfl) : DSt X (.Assign [.Name v pv] (.DictComp kx vx [⟨.Name x px,iter,ifs,0⟩] scope pos) spos) (cZ (l0 wd .one js tc tx te) (bF i)):=wm i hN hu c hc hi pG (fun _ _ _ _=>dG c 0 rfl) ht hk he hy hl hsw hs
end
section
variable{X:Cx}
def yX:R2D:=fun x y M Q=>match x,y with
 |.ref a,.int k=>∃d,M a=some (.lst [d])/\0<=k/\k<=1000/\∀z,M z=none->Q (.ref z) (aq M z (.lst (Er k.toNat d)))
 |_,_=>False
theorem nN{K:D5}{H:Hp}{d:D}{v:V}(r:Rep K H d v):∀n,ax K H (Er n d) (Er n v)
 |0=>by rw[List.replicate_zero,List.replicate_zero];exact .nil
 |n+1=>by rw[Fv,Fv];exact .cons r (nN r n)
theorem ou{α:Type}(v:α):∀n,(Er n [v]).flatten=Er n v
 |0=>rfl
 |n+1=>by rw[Fv,Gx,ou v n];rfl
theorem xj:OpD X (FN .Mult) yX:=fU zT fun v u H Q ⟨x,y,M,R,r1,r2,a,q,fin⟩=>by
 unfold yX at q;split at q
 ·obtain⟨d,hd,h0,h1,q⟩:=q;obtain rfl:v=.ref _:=r1;obtain rfl:u=.int _:=r2;obtain⟨xs,hx,rx⟩:=a _ _ hd;obtain⟨w,rfl,rw'⟩:=bN rx;have sz:1000000<=Ea:=nbL rfl;refine⟨_,_,_,rfl,rfl,hx,by omega,by omega,by simp;omega,fun z hz=>?_⟩;rw[ou];exact fin _ _ _ _ (.new hz) (by rw[Rep]) (a.gh hz (nN rw' _)) (q z (a.fresh hz))
 ·exact q.elim
end
section
theorem jJ(a u:D4):checkTypeCall "enumerate" ⟨[a],[("start",u)]⟩=pure ():=by kernel_rfl
theorem lj(a u:D4):checkBuiltinCall "enumerate.__new__" ⟨[.type "enumerate",a],[("start",u)]⟩=pure ():=by kernel_rfl
theorem oO(a b u:D4):argsOk "object.__init__" ⟨[a,b],[("start",u)]⟩:=by unfold argsOk;rw[PySem.signature?_of (id:="object.__init__") (n:=['_','_','t','i','n','i','_','_']) (o:=['t','c','e','j','b','o']) (by kernel_rfl) F.owner_object];kernel_rfl
def kH(l it:Addr):Obj×Obj:=({ cls:=.type "list_iterator",data:=.fields #[.ref l,.int 0 0] },{ cls:=.type "enumerate",data:=.fields #[.none,.bool false,.ref it,rawInt 1,.none,.none] })
variable{prog:Ee}{w:EB}{A:EE}{E:D4->D6->Prop}{s:D6}{l:Addr}{items:Array D4}{n:Nat}{t:Tok}{Q:D4->D6->Prop}
theorem sL(hl:s.heap.get? l=some { cls:=.type "list",dict:=none,data:=.seq items n,slots:=#[] })
 (h:Q (.ref (s.heap.push (kH l 0).1).objs.size) { s with heap:=(s.heap.push (kH l 0).1).push (kH l s.heap.objs.size).2 }) :
 E7 (Ef prog w) A (GP.«enumerate.__new__» ⟨[.type "enumerate",.ref l],[("start",.int 1 t)]⟩) (fun fin s'=>∃v,fin=.done (.ret v)/\Q v s') E s:=by
 obtain⟨hp,g,d,tk,os⟩:=s
 have e1:=sub_enumerate
 have e2:Heap.IsList (Shared.heap ⟨hp,g,d,tk,os⟩) l items:=⟨_,hl,rfl,n,rfl⟩
 wp_walk using AutoSeq1.wpAny_loadPart' hl
 refine wpAny_stack_any fun st=>E1 ?_
 split
 case h_1 c _ _ _ _ _=>cases (c==Value.type "enumerate")<;>(wp_walk using AutoSeq1.wpAny_loadPart' hl,wpAny_pyIter_list e2;exact⟨_,rfl,h⟩)
 all_goals (wp_walk using AutoSeq1.wpAny_loadPart' hl,wpAny_pyIter_list e2;exact⟨_,rfl,h⟩)
theorem pI:Meets (GP.«enumerate.__new__» ⟨[.type "enumerate",.ref l],[("start",.int 1 t)]⟩) (fun _ R s=>s.heap.get? l=some { cls:=.type "list",dict:=none,data:=.seq items n,slots:=#[] }/\R (.ok (.ret (.ref (s.heap.push (kH l 0).1).objs.size))) { s with heap:=(s.heap.push (kH l 0).1).push (kH l s.heap.objs.size).2 }):=.of_wp fun prog w A R s z=>sL (Q:=fun v s'=>R (.ok (.ret v)) s') z.1 z.2
theorem oE{e:D4}{u:D4}:Meets (GP.«object.__init__» ⟨[e,.ref l],[("start",u)]⟩) (fun _ R s=>s.TypeIs e "enumerate"/\R (.ok (.ret .none)) s):=
 .of_wp fun prog w A R s zz1_0=>by
  obtain⟨ty,r⟩:=zz1_0
  have e1:=F.called_enumerate.init.lookup
  have e2:=F.called_enumerate.made
  repeat (any_goals (first|assumption|wp_step))
  exact⟨_,rfl,r⟩
theorem pQ(hl:s.heap.get? l=some { cls:=.type "list",dict:=none,data:=.seq items n,slots:=#[] })
 (h:∀h',IsEnum h' (s.heap.objs.size+1) s.heap.objs.size 1 .none->h'.IsListIter s.heap.objs.size l 0->(∀b o,s.heap.get? b=some o->h'.get? b=some o)->Q (.ref (s.heap.objs.size+1)) { s with heap:=h' }) :
 E7 (Ef prog w) A (call (.type "enumerate") [.ref l] [("start",.int 1 t)]) Q E s:=by
 have C:=F.called_enumerate
 obtain⟨c,tl,c1⟩:=C.mro
 have c2:=C.made
 have c3:=C.sub
 have c4:=C.notType
 have c5:=C.canCreate
 have c6:=jJ (.ref l) (.int 1 t)
 refine wpAny_call (codeAny_of_tree (E1 ⟨Code.quiet_builtin _ (by decide +kernel),FK F.entry_type_call ?_⟩))
 rw[Around.under_plain rfl rfl]
 repeat (any_goals (first|assumption|wp_step))
 have hz:(s.heap.push (kH l 0).1).objs.size=s.heap.objs.size+1:=Fz ..
 have g1:IsEnum ((s.heap.push (kH l 0).1).push (kH l s.heap.objs.size).2) (s.heap.objs.size+1) s.heap.objs.size 1 .none:=by
  have:=E6 (s.heap.push (kH l 0).1) (o:=(kH l s.heap.objs.size).2) rfl
  rw[hz]at this;exact this
 have q:=h _ g1 ⟨_,D9 _ (E6 _ rfl),rfl,rfl⟩ fun b o z=>D9 _ (D9 _ z)
 refine codeAny_mono (codeAny_call_builtin C.plain F.entry_enumerate_new (wpAny_of_eq (lj _ _) (pI prog w A.in1 (wants (fun v s'=>v=.ref (s.heap.objs.size+1)/\s'.TypeIs v "enumerate"/\Q v s') E) s ⟨hl,by rw[hz];exact⟨rfl,⟨_,g1,rfl⟩,q⟩⟩))) fun r s₁ hr=>?_
 match r,hr with
 |.error e,hr=>exact hr
 |.ok (.ret v),⟨ev,ty,qv⟩=>
  have d1:=C.init.lookup
  have d2:=C.init.bind v
  repeat (any_goals (first|assumption|wp_step))
  refine codeAny_mono (codeAny_call_builtin C.init.plain F.entry_object_init (C.init.check _ _ _ _ _ _ _ _ ty (oO _ _ _) (oE prog w A.in1 (wants (fun r s₂=>r=.none/\Q v s₂) E) s₁ ⟨ty,rfl,qv⟩))) fun r₂ s₂ hr₂=>?_
  match r₂,hr₂ with
  |.error e,hr₂=>exact hr₂
  |.ok (.ret r),⟨er,q2⟩=>
   subst er
   repeat (any_goals (first|assumption|wp_step))
end
theorem nO{prog:Ee}{w:EB}{A:EE}{it:Addr}{fp:List Addr}{n:Nat}{P:Nat->D4->Prop}{St:Nat->Heap->Prop}(D:Draws prog w A it fp n P St):Draws prog w A it fp (n+1) (fun j x=>∃i,j=i+1/\P i x) (fun j h=>∃i,j=i+1/\St i h) where
 live:=fun j h ⟨i,_,st⟩=>D.live i h st
 frame:=fun j h h' ⟨i,e,st⟩ k=>⟨i,e,D.frame i h h' st k⟩
 item:=fun j s Q E hj ⟨i,e,st⟩ hQ=>D.item i s Q E (by omega) st fun x h' tk p st' sb=>hQ x h' tk ⟨i,e,p⟩ ⟨i+1,by omega,st'⟩ sb
 done:=fun s Q E ⟨i,e,st⟩ hE=>by
  obtain rfl:i=n:=by omega
  exact D.done s Q E st hE
theorem pO{prog:Ee}{w:EB}{A:EE}(hh:A.handled=none)(it l:Addr)(hne:l≠it)(items:Array D4){i:Nat}(hx:items[i]?=none):Draws prog w A it [it,l] i (fun _ _=>False) (fun j h=>j=i/\h.IsListIter it l i/\h.IsList l items) where
 live:=fun _ _ st=>let⟨o,ho,_⟩:=st.2.1;⟨o,ho⟩
 frame:=fun _ _ _ st hk=>⟨st.1,st.2.1.at fun o e=>hk it (by simp) o e,st.2.2.at fun o e=>hk l (by simp) o e⟩
 item:=fun j s Q E hj st _=>absurd st.1 (by omega)
 done:=fun s Q E st hE=>wpAny_nextOf_list_end hh st.2.1 st.2.2 hx hE
def CP(K:D5)(a:Addr):It:=
 ⟨fun i H=>∃xs x,SqL K H a xs/\xs[i]?=some x,fun i H x H'=>∃T y,x=.ref T/\H T=none/\H'=upd H T (.tup [.int ((i+1:Nat):Int),y])/\∀xs,SqL K H a xs->xs[i]?=some y,fun i H=>∃xs,SqL K H a xs/\xs.length<=i⟩
theorem ql{P:Ee}{w:EB}{K:D5}{elts:List Expr}{kt}{pt:Pos}(a e it:Addr)(hei:e≠it):Turn P w K (.Tuple elts kt pt) (CP K a) [e,it] e (fun i h=>(∃old,IsEnum h e it ((i+1:Nat):Int) old)/\h.IsListIter it a i) where
 mem:=by simp
 obj:=fun i h st b hb=>by
  rcases(show b=e\/b=it by simpa using hb)with rfl|rfl
  ·obtain⟨⟨old,q⟩,_⟩:=st
   exact⟨_,q,fun v z=>by
    have z':Data.fields _=Data.cell v:=z
    cases z'⟩
  ·obtain⟨o,q,c,d⟩:=st.2
   exact⟨o,q,fun v z=>by rw[d]at z;cases z⟩
 keep:=fun i h h' st k=>by
  obtain⟨⟨old,q⟩,st⟩:=st
  exact⟨⟨old,k e (by simp) _ q⟩,st.at fun o z=>k it (by simp) o z⟩
 item:=by
  intro X hP hw hK hc i pins s σ H E I hf st hg
  subst hP hw hK
  obtain⟨xs,x,hq,hx⟩:=hg
  obtain⟨its,rv,p,hz⟩:=I.list hq
  obtain⟨u,hu,ru⟩:=rv.get hx
  obtain⟨⟨old,he⟩,hit⟩:=st
  have le:e<s.heap.objs.size:=E8 he
  have li:it<s.heap.objs.size:=by obtain⟨o,q,_⟩:=hit;exact E8 q
  have hal:a≠it:=fun z=>by
   subst z
   obtain⟨o1,z1,z2,_⟩:=hit
   obtain⟨o2,y1,y2,_⟩:=p.isList
   rw[z1]at y1;cases y1
   rw[z2]at y2;exact absurd (Value.type.inj y2) (by decide)
  have hea:e≠a:=fun z=>by
   subst z
   obtain⟨o2,y1,y2,_⟩:=p.isList
   rw[show s.heap.get? e=_ from he]at y1;cases y1
   exact absurd (Value.type.inj y2) (by decide)
  have hhd:X.A.in1.handled=none:=I.ok.hd hc
  have hil:i<its.length:=(Eo.mp hu).1
  refine wpAny_pyNext_enum_itemD (i:=i+1) (nO (Draws.list hhd it a hal its.toArray)) he ⟨i,rfl,hit,p.isList⟩ (by simp;omega) hei (by simp[hei,hea]) fun x0 h1 tk hx0 ho hit0 hT hsz hk=>?_
  obtain⟨i0,ei0,hx0⟩:=hx0
  obtain rfl:i=i0:=by omega
  obtain⟨i1,ei1,hit1⟩:=hit0
  obtain rfl:i1=i+1:=by omega
  obtain rfl:u=x0:=by
   have hx0:its[i]?=some x0:=by simpa using hx0
   rw[hu]at hx0;cases hx0;rfl
  refine⟨_,rfl,wpAny_letOwnedTupleGo_enum (s:={ s with heap:=h1,toks:=tk+1 }) ho fun h2 he2 hs2=>?_⟩
  have hs2:G8 e h1 h2:=hs2
  have fr:=I.fresh
  have I1:Inv X pins σ (upd H s.heap.objs.size (.tup [.int ((i+1:Nat):Int),x])) { s with heap:=s.heap.push { cls:=.type "tuple",data:=.seq #[.int ((i+1:Nat):Int) tk,u] },toks:=s.toks }:=
   I.laid (fun b v q=>D9 _ q) (E3 _) ⟨nbL rfl,[.int ((i+1:Nat):Int) tk,u],.cons ⟨_,rfl⟩ (.cons ru .nil),⟨_,E6 _ rfl,rfl,_,rfl⟩,⟨_,E6 _ rfl,rfl⟩⟩
  have fk:∀{b:Addr},b<s.heap.objs.size->cj X pins H b->cj X pins (upd H s.heap.objs.size (.tup [.int ((i+1:Nat):Int),x])) b:=fun{b} lt f=>⟨by rw[aL (Ex lt)];exact f.1,f.2⟩
  have fe:=fk le (hf e (by simp))
  have fi:=fk li (hf it (by simp))
  have I2:Inv X pins σ (upd H s.heap.objs.size (.tup [.int ((i+1:Nat):Int),x])) { s with heap:=h2,toks:=tk+1 }:=by
   refine j5 (s:={ s with heap:=s.heap.push { cls:=.type "tuple",data:=.seq #[.int ((i+1:Nat):Int) tk,u] },toks:=s.toks }) I1 (fun b o ne ni q=>?_) fe fi
   have q:(s.heap.push { cls:=.type "tuple",data:=.seq #[.int ((i+1:Nat):Int) tk,u] }).get? b=some o:=q
   refine(hs2.2 b ne).trans ?_
   rcases Heap.get?_push_cases q with⟨rfl,rfl⟩|q
   ·exact hT
   ·exact hk b o ne ni q
  refine⟨.ref s.heap.objs.size,_,I2,rfl,⟨_,x,rfl,fr,rfl,fun ys hy=>by rw[I.e9 hy hq];exact hx⟩,⟨⟨u,?_⟩,hit1.1.at fun o z=>(hs2.2 it hei.symm).trans z⟩,fun b hb=>?_⟩
  ·exact he2
  ·rcases(show b=e\/b=it by simpa using hb)with rfl|rfl
   ·exact fe.1
   ·exact fi.1
 done:=by
  intro X hP hw hK hc i pins s σ H E I hf st hg
  subst hP hw hK
  obtain⟨xs,hq,hx⟩:=hg
  obtain⟨its,rv,p,hz⟩:=I.list hq
  obtain⟨⟨old,he⟩,hit⟩:=st
  obtain⟨f0,f1,f2,f3,f4,f5⟩:=hf it (by simp)
  have hl:=rv.length
  have hal:a≠it:=fun z=>by
   subst z
   obtain⟨o1,z1,z2,_⟩:=hit
   obtain⟨o2,y1,y2,_⟩:=p.isList
   rw[z1]at y1;cases y1
   rw[z2]at y2;exact absurd (Value.type.inj y2) (by decide)
  have hhd:X.A.in1.handled=none:=I.ok.hd hc
  exact wpAny_pyNext_enum_endD (pO hhd it a hal its.toArray (i:=i) (by simp;omega)) he ⟨rfl,hit,p.isList⟩ fun h' eb=>⟨rfl,I.turned (t':=s.toks) (fun b o hb q=>eb b o hb q) f0 f1 f3 f4 f5⟩
 self:=fun _ _ _ _ _ st h=>let⟨⟨_,he⟩,_⟩:=st;wpAny_pyIter_enum he h
section
variable{X:Cx}{elts:List Expr}{kt:Nat}{pt:Pos}
theorem jR{pos kp:Pos}{T:String}{e k:Expr}{name:Str}{env:Env}{M:Model}{A:EE}{E:D4->D6->Prop}{s:D6}{Q:D4->D6->Prop}
 (h:E7 M A (spliced (Fn pos (Eb [e] env))) (fun vs s₁=>E7 M A (eval k env) (fun u s₂=>E7 M A (call (.type T) vs [(name,u)]) Q E s₂) E s₁) E s)
 (he:Fn pos (Eb [e] env)=(false,eval e env)::Fn pos (Eb [] env):=by rfl) (hpl:(Fn pos (Eb [e] env)).any (·.1)=false:=by rfl) :
 E7 M A (callWith pos (.type T) [] (Fn pos (Eb [e] env)) (backToKw pos (FR [⟨some name,k,kp⟩] env))) Q E s:=by
 have ev:E7 M A (evalArgs (.type T) true (Fn pos (Eb [e] env)) (backToKw pos (FR [⟨some name,k,kp⟩] env))) (fun a s₁=>E7 M A (call (.type T) a.pos a.kw) Q E s₁) E s:=by
  rw[he]at h ⊢
  refine evalArgs_kwB rfl (Ed h (fun vs s₁ h₁=>?_) fun _ _ z=>z)
  exact kws_cons (Ed h₁ (fun u s₂ h₂=>kws_nil h₂) fun _ _ z=>z)
 unfold callWith
 refine cc (EY (Ed ev (fun a s₁ h₁=>cc (Fx ?_)) fun _ _ z=>z))
 have no:(backToKw pos (FR [⟨some name,k,kp⟩] env)).any (·.1.isNone)=false:=rfl
 simp only[hpl,no,Bool.or_false]
 exact cc (E1 (cc (Ed h₁ (fun r s₂ hr=>cc (EY (wpAny_point (E1 hr)))) fun _ _ z=>z)))
def zN(K:D5)(ta:TA):TI:=fun σ H R=>ta σ H fun vs H1=>∃a xs,vs=[.ref a]/\H1 a=some (.lst xs)/\R (CP K a) H1
theorem vt{a k:Expr}{ta:TA}{p pos kp:Pos}(hg:Gl X "enumerate")(hm:X.mg "enumerate"=none)(ha:PA X [a] ta)(hk:∀pins s σ H (Q:VK),Inv X pins σ H s->Q (.int 1) H->E7 (Ef X.prog X.w) X.A (eval k X.env) (EP X pins σ Q) X.xe s)
 (hs:Eb [a] X.env=[(false,eval a X.env)]:=by rfl):PI X (.Tuple elts kt pt) (.Call (.Name "enumerate" p) [a] [⟨some "start",k,kp⟩] pos) (zN X.K ta):=by
 intro pins s σ H R I h
 refine wpAny_Call_Name_kw (gX I hg hm gn (jR (thn (ha pos pins s σ H _ I h) fun us s1 ⟨vs,H1,I1,r1,q1⟩=>?_) (by rw[hs];rfl) (by rw[hs];rfl)))
 obtain⟨l,xs,ev,hH,q⟩:=q1
 subst ev
 obtain⟨u,rfl,ru⟩:=r1.one
 cases ru
 refine thn (hk pins s1 σ H1 (fun v H'=>v=.int 1/\H'=H1) I1 ⟨rfl,rfl⟩) fun u s2 ⟨v,H2,I2,r2,e1,e2⟩=>?_
 subst e1 e2
 obtain⟨t,rfl⟩:=r2
 obtain⟨z,its,n,r,hl,e⟩:=I2.kS hH
 refine pQ e fun h' he hit hk=>wpAny_pyIter_enum he ?_
 have fp:∀b∈[s2.heap.objs.size+1,s2.heap.objs.size],cj X pins H2 b:=fun b hb=>by
  have hb':s2.heap.objs.size<=b:=by
   rcases(show b=s2.heap.objs.size+1\/b=s2.heap.objs.size by simpa using hb)with rfl|rfl
   ·exact Nat.le_succ _
   ·exact E3 _
  exact I2.n8 hb' (I2.hok.fresh hb')
 exact⟨_,[s2.heap.objs.size+1,s2.heap.objs.size],_,_,H2,rfl,I2.kept (t':=s2.toks) hk,ql l _ _ (Nat.succ_ne_self _),⟨⟨_,he⟩,hit⟩,fp,q⟩
def AX(ta:TAD):TID:=fun δ M R=>ta δ M fun ds M1=>∃l es,ds=[.ref l]/\M1 l=some (.lst es)/\R ⟨es.length,fun i=>(es[i]?).map fun d=>.tup [.int ((i+1:Nat):Int),d],fun M=>M l=some (.lst es)⟩ M1
theorem t7{a:Expr}{ta:TAD}{p pos kp cp:Pos}{kc}(hg:Gl X "enumerate")(hm:X.mg "enumerate"=none)(ha:DA X [a] ta)(hs:Eb [a] X.env=[(false,eval a X.env)]:=by rfl):DI X (.Tuple elts kt pt) (.Call (.Name "enumerate" p) [a] [⟨some "start",.Constant (.int 1) kc cp,kp⟩] pos) (AX ta):=
 jT (vt hg hm ha (fun pins s σ H Q I q=>wo pins s σ H Q I q) hs) fun σ H R ⟨δ,M,RD,hs,hM,q,fin⟩=>⟨δ,M,_,hs,hM,q,fun ds M1 vs H1 g1 r1 a1 ⟨l,es,e,hl,q1⟩=>by
  subst e
  obtain⟨v,rfl,r⟩:=bN r1
  rw[Rep]at r;subst r
  obtain⟨xs,hx,rs⟩:=a1 _ _ hl
  refine⟨l,xs,rfl,hx,fin _ M1 H1 _ g1 a1 q1 ⟨fun H2 M2 g2 a2 c2=>?_,fun i H2 M2 hi g2 a2 c2=>?_,?_⟩⟩
  ·obtain⟨ys,hy,ry⟩:=a2 _ _ (show M2 l=some (.lst es)from c2)
   exact⟨ys,SqL.of hy,by rw[<-ry.length];exact E3 _⟩
  ·obtain⟨ys,hy,ry⟩:=a2 _ _ (show M2 l=some (.lst es)from c2)
   have hi':i<ys.length:=by rw[<-ry.length];exact hi
   exact⟨ys,ys[i],SqL.of hy,by simp[hi']⟩
  ·rintro i H2 M2 v H3 hi g2 a2 c2 ⟨T,y,rfl,hT,rfl,hy⟩
   have hi:i<es.length:=hi
   obtain⟨ys,hys,ry⟩:=a2 _ _ (show M2 l=some (.lst es)from c2)
   obtain⟨x,e1,e2⟩:=ry.get (show es[i]?=some es[i] by simp[hi])
   have:=hy ys (SqL.of hys)
   rw[e1]at this;cases this
   exact⟨.new hT,a2.new hT,.tup [.int ((i+1:Nat):Int),es[i]],by simp[hi],by rw[Rep];exact⟨T,_,rfl,SqT.of aK,.cons (by rw[Rep]) (.cons (e2.mono (.new hT)) .nil)⟩⟩⟩
end
def fK(L:List Int)(r:List Nat)(v:Int)(i:Nat):List Int:=(r.take i).foldl (fun L g=>L.set g v) L
def fill(L:List Int)(r:List Nat)(v:Int):List Int:=fK L r v r.length
theorem j9{L:List Int}{r:List Nat}{v:Int}{i g:Nat}(e:r[i]?=some g):fK L r v (i+1)=(fK L r v i).set g v:=by unfold fK;rw[Fs,e,List.foldl_append];rfl
theorem gu(v:Int):∀(r:List Nat) (L:List Int),(r.foldl (fun L g=>L.set g v) L).length=L.length
 |[],L=>rfl
 |g::r,L=>by rw[List.foldl_cons,gu v r,List.length_set]
theorem fE(L:List Int)(r:List Nat)(v:Int)(i:Nat):(fK L r v i).length=L.length:=gu v _ L
theorem qw{n j:Nat}(h:j<n):L2.ixN n (j:Int)=some j:=by unfold L2.ixN;rw[if_pos (by omega),if_pos (by omega)];rfl
def Ld(v:Int):Prop:=0<=v/\v<=80
theorem iE{v:Int}(hv:Ld v):∀(r:List Nat) (L:List Int),(∀x∈L,Ld x)->∀x∈r.foldl (fun L g=>L.set g v) L,Ld x
 |[],L,h=>h
 |g::r,L,h=>by
  rw[List.foldl_cons]
  refine iE hv r _ fun x hx=>?_
  rcases List.mem_or_eq_of_mem_set hx with z|z
  ·exact h x z
  ·rw[z];exact hv
theorem nK{L:List Int}(r:List Nat){v:Int}(i:Nat)(hv:Ld v)(h:∀x∈L,Ld x):∀x∈fK L r v i,Ld x:=iE hv _ L h
def fO(m:Nat)(outs:List (List Nat)):Nat->List Int
 |0=>Er m 0
 |i+1=>fill (fO m outs i) ((outs[i]?).getD []) ((i+1:Nat):Int)
theorem jK(m:Nat)(outs:List (List Nat)):∀i,(fO m outs i).length=m
 |0=>by simp[fO]
 |i+1=>by rw[fO,fill,fE,jK m outs i]
theorem yp(m:Nat)(outs:List (List Nat)):∀i,i<=80->∀x∈fO m outs i,Ld x
 |0,_=>fun x hx=>by
  have:=List.eq_of_mem_replicate hx
  subst this;exact⟨by decide,by decide⟩
 |i+1,h=>by
  rw[fO,fill]
  exact nK _ _ ⟨by omega,by omega⟩ (yp m outs i (by omega))
def b6(ws:List Wl)(ins:List (List Nat)):Nat->List Vc
 |0=>[]
 |i+1=>let c:=fc ws ((ins[i]?).getD []);if c∈b6 ws ins i then b6 ws ins i else b6 ws ins i++[c]
def nF(ws:List Wl)(ins:List (List Nat))(c:Vc):Nat->Option Nat
 |0=>none
 |i+1=>if fc ws ((ins[i]?).getD [])=c then some i else nF ws ins c i
theorem iD(ws:List Wl)(ins:List (List Nat)):∀i,(b6 ws ins i).Nodup
 |0=>List.nodup_nil
 |i+1=>by
  have ih:=iD ws ins i
  unfold b6
  dsimp only
  split
  ·exact ih
  ·rename_i h
   rw[Gz]
   refine⟨ih,by simp,fun a ha b hb=>?_⟩
   have:b=fc ws ((ins[i]?).getD []):=by simpa using hb
   subst this
   exact fun z=>h (z▸ha)
theorem ir(ws:List Wl)(ins:List (List Nat)):∀i,(b6 ws ins i).length<=i
 |0=>E3 _
 |i+1=>by
  have ih:=ir ws ins i
  unfold b6
  dsimp only
  split
  ·omega
  ·simp;omega
theorem gQ{ws:List Wl}{ins:List (List Nat)}{c:Vc}:∀{i},c∈b6 ws ins i->∃j,nF ws ins c i=some j/\j<i/\fc ws ((ins[j]?).getD [])=c
 |0,h=>by cases h
 |i+1,h=>by
  unfold nF
  by_cases e:fc ws ((ins[i]?).getD [])=c
  ·exact⟨i,by rw[if_pos e],by omega,e⟩
  ·rw[if_neg e]
   have h':c∈b6 ws ins i:=by
    unfold b6 at h
    dsimp only at h
    split at h
    ·exact h
    ·rcases Ek.mp h with z|z
     ·exact z
     ·exact absurd (by simpa using z:c=_).symm e
   obtain⟨j,a,b,d⟩:=gQ h'
   exact⟨j,a,by omega,d⟩
def fS(ws:List Wl)(ins:List (List Nat))(L:List Int)(ps:List Vc):Nat->List Int
 |0=>L
 |i+1=>let c:=(ps[i]?).getD (0,0);fill (fS ws ins L ps i) ((ins[(nF ws ins c ins.length).getD 0]?).getD []) (laF ws (fS ws ins L ps i) c)
theorem Bm{ws:List Wl}{L:List Int}{c:Vc}(h:∀x∈L,Ld x):Ld (laF ws L c):=by
 unfold laF;split
 ·exact⟨by decide,by decide⟩
 ·cases e:L[2*(wZ ws (bK ws 1 c.1 c.2)).toNat]? with
  |none=>exact⟨by decide,by decide⟩
  |some v=>exact h v (Ej e)
theorem lZ(ws:List Wl)(ins:List (List Nat))(L:List Int)(ps:List Vc):∀i,(fS ws ins L ps i).length=L.length
 |0=>rfl
 |i+1=>by rw[fS,fill,fE,lZ ws ins L ps i]
theorem we{ws:List Wl}{ins:List (List Nat)}{L:List Int}{ps:List Vc}(h:∀x∈L,Ld x):∀i,∀x∈fS ws ins L ps i,Ld x
 |0=>h
 |i+1=>by
  rw[fS,fill]
  exact nK _ _ (Bm (we h i)) (we h i)
def cL(ws:List Wl)(L:List Int):Prop:=∃(rs:List (List Nat)) (ps:List Vc),Rgs ws (2*ws.length) rs/\ps.Perm (b6 ws (rs.filter fun r=>!b4 ws r) (rs.filter fun r=>!b4 ws r).length)/\ps.Pairwise plt/\
 L=fS ws (rs.filter fun r=>!b4 ws r) (fO (2*ws.length) (rs.filter (b4 ws)) (rs.filter (b4 ws)).length) ps ps.length
theorem jC{ws:List Wl}{L L':List Int}(h:cL ws L)(h':cL ws L'):L=L':=by obtain⟨rs,ps,R,p1,p2,rfl⟩:=h;obtain⟨rs',ps',R',p1',p2',rfl⟩:=h';have:=uJ R R';subst this;have:=m5 (p1.trans p1'.symm) p2 p2';subst this;rfl
theorem cL.len{ws:List Wl}{L:List Int}(h:cL ws L):L.length=2*ws.length:=by obtain⟨rs,ps,R,p1,p2,rfl⟩:=h;rw[lZ,jK]
theorem cL.ld{ws:List Wl}(hl:ws.length<=40){L:List Int}(h:cL ws L):∀x∈L,Ld x:=by obtain⟨rs,ps,R,p1,p2,rfl⟩:=h;have:=jb R;have:=FO (b4 ws) rs;exact we (yp _ _ _ (by omega)) _
theorem gi(k:SpK)(d:D)(k':SpK):∀kvs:SpT,((kvs.map fun x=>if x.1=k then(x.1,d)else x).find? fun x=>decide (x.1=k')).map (·.2)=if k'=k/\(kvs.any fun x=>decide (x.1=k))=true then some d else(kvs.find? fun x=>decide (x.1=k')).map (·.2)
 |[]=>by simp
 |x::kvs=>by
  have ih:=gi k d k' kvs
  rw[D7,E9,E9,Fy]
  by_cases a:x.1=k
  ·rw[if_pos a]
   by_cases b:x.1=k'
   ·have e:k'=k:=b.symm.trans a
    simp[a,e]
   ·have ne:¬k'=k:=fun z=>b (a.trans z.symm)
    rw[if_neg (fun z=>ne z.1)]
    rw[if_neg (fun z=>ne z.1)]at ih
    simp only[decide_eq_false b]
    exact ih
  ·rw[if_neg a]
   by_cases b:x.1=k'
   ·have ne:¬k'=k:=fun z=>a (b.trans z)
    rw[if_neg (fun z=>ne z.1)]
    simp[b]
   ·simp only[decide_eq_false b,decide_eq_false a,Bool.false_or]
    exact ih
theorem t8(kvs:SpT)(k:SpK)(d:D)(k':SpK):a9 (putD kvs k d) k'=if k'=k then some d else a9 kvs k':=by
 unfold putD a9;by_cases h:(kvs.any fun x=>decide (x.1=k))=true
 ·rw[if_pos h,gi];by_cases e:k'=k
  ·rw[if_pos ⟨e,h⟩,if_pos e]
  ·rw[if_neg (fun z=>e z.1),if_neg e]
 ·rw[if_neg h,List.find?_append];by_cases e:k'=k
  ·subst e;have:(kvs.find? fun x=>decide (x.1=k'))=none:=by rw[List.find?_eq_none];intro x hx hq;exact h (List.any_eq_true.mpr ⟨x,hx,hq⟩)
   rw[this,if_pos rfl];simp
  ·rw[if_neg e];have:([(k,d)]:SpT).find? (fun x=>decide (x.1=k'))=none:=by simp;exact fun z=>e z.symm
   rw[this];simp
theorem uz(kvs:SpT)(k:SpK)(d:D):(putD kvs k d).map (·.1)=if k∈kvs.map (·.1)then kvs.map (·.1)else kvs.map (·.1)++[k]:=by
 unfold putD;have e:((kvs.any fun x=>decide (x.1=k))=true)↔k∈kvs.map (·.1):=by rw[List.any_eq_true,EJ];exact⟨fun zz1_0=>by obtain⟨x,a,b⟩:=zz1_0;exact(⟨x,a,by simpa using b⟩),fun zz2_0=>by obtain⟨x,a,b⟩:=zz2_0;exact(⟨x,a,by simpa using b⟩)⟩
 by_cases h:k∈kvs.map (·.1)
 ·rw[if_pos (e.mpr h),if_pos h,GB];apply List.map_congr_left;intro x _;show(if x.1=k then(x.1,d)else x).1=x.1;split<;>rfl
 ·rw[if_neg (fun z=>h (e.mp z)),if_neg h,Eg];rfl
structure RDt(t b X Y:Int)(ws:List Wl)(ins:List (List Nat))(qs:List Addr)(i:Nat)(kvs:SpT):Prop where
 ks:kvs.map (·.1)=(b6 ws ins i).map (gk t b X Y)
 vs:∀c,a9 kvs (gk t b X Y c)=(nF ws ins c i).bind fun j=>(qs[j]?).map D.ref
theorem RDt.nil(t b X Y:Int)(ws:List Wl)(ins:List (List Nat))(qs:List Addr):RDt t b X Y ws ins qs 0 []:=⟨rfl,fun c=>rfl⟩
theorem RDt.put{t b X Y:Int}{ws:List Wl}{ins:List (List Nat)}{qs:List Addr}{i:Nat}{kvs:SpT}{r:List Nat}{q:Addr}(ht:0<t)(hb:0<b)(h:RDt t b X Y ws ins qs i kvs)(er:ins[i]?=some r)(eq:qs[i]?=some q):RDt t b X Y ws ins qs (i+1) (putD kvs (gk t b X Y (fc ws r)) (.ref q)):=by
 have er':(ins[i]?).getD []=r:=by rw[er];rfl
 refine⟨?_,fun c=>?_⟩
 ·rw[uz,h.ks]
  have ek:b6 ws ins (i+1)=if fc ws r∈b6 ws ins i then b6 ws ins i else b6 ws ins i++[fc ws r]:=by
   conv=>lhs;unfold b6
   rw[er']
  rw[ek];by_cases z:fc ws r∈b6 ws ins i
  ·rw[if_pos z,if_pos (EJ.mpr ⟨_,z,rfl⟩)]
  ·rw[if_neg z,if_neg (fun y=>by
    obtain⟨c,hc,ec⟩:=EJ.mp y
    exact z ((uN ht hb ec)▸hc)),Eg]
   rfl
 ·rw[t8]
  have ea:nF ws ins c (i+1)=if fc ws r=c then some i else nF ws ins c i:=by
   conv=>lhs;unfold nF
   rw[er']
  rw[ea];by_cases z:fc ws r=c
  ·rw[if_pos (by rw[z]),if_pos z];show _=(qs[i]?).map D.ref;rw[eq];rfl
  ·rw[if_neg (fun y=>z (uN ht hb y).symm),if_neg z];exact h.vs c
section
variable{X:Cx}
theorem oT:bM X (.builtin "sorted") (fun vs H Q=>∃(p:Addr) (ns:List Int),vs=[.ref p]/\SqL X.K H p (ns.map V.int)/\ns.length<64/\∀(l:Addr) (ns':List Int),H l=none->ns'.Perm ns->ns'.Pairwise (·<=·)->Q (.ref l) (upd H l (.lst (ns'.map V.int)))):=by
 intro pins s σ H vs us' Q I r ⟨l,ns,ev,hl,hn,q⟩;subst ev;obtain⟨u,rfl,ru⟩:=vals1 r;cases ru;obtain⟨its,r1,p1,hz⟩:=I.list hl;have hlen:its.length=ns.length:=by rw[<-r1.length,D8]
 refine sorted_ints p1.isList (intsAre_of r1) (by omega) fun out ns' a1 a2 a3=>?_;obtain⟨e,he⟩:=sortedAll_at s.heap its out;refine⟨.ref (s.heap.objs.size+1),_,I.laid (t':=s.toks) (fun b o q=>sortedAll_old q) (Nat.le_succ _) (show bL X.prog X.w _ _ _ (.lst _)from⟨?_,_,e,gN a1,by rw[Array.toArray_toList];exact he⟩),rfl,q _ ns' (I.hok.fresh (Nat.le_succ _)) a2 a3⟩;rw[D8,a2.length_eq];have:128<=Ea:=nbL rfl;omega
def v7:RC:=fun ds M Q=>match ds with
 |[.ref l]=>∃ns:List Int,M l=some (.lst (ns.map D.int))/\ns.length<64/\∀(z:Addr) (ns':List Int),M z=none->ns'.Perm ns->ns'.Pairwise (·<=·)->Q (.ref z) (aq M z (.lst (ns'.map D.int)))
 |_=>False
theorem oC:cP X (.builtin "sorted") v7:=bJ oT fun vs H Q zz1_0=>by
 obtain⟨ds,M,R,rs,a,q,fin⟩:=zz1_0;unfold v7 at q;split at q
 ·obtain⟨ns,e,hn,q⟩:=q;obtain⟨v,rfl,r⟩:=bN rs;rw[Rep]at r;subst r;obtain⟨xs,hx,rx⟩:=a _ _ e;rw[dA rx]at hx;exact⟨_,ns,rfl,SqL.of hx,hn,fun z ns' hz a2 a3=>fin _ _ _ _ (.new hz) (by rw[Rep]) (a.gh hz (dJ ns')) (q z ns' (a.fresh hz) a2 a3)⟩
 ·exact q.elim
end
def prL(L:List Int)(w:Nat):Int×Int:=let a:=(L[2*w]?).getD 0;let c:=(L[2*w+1]?).getD 0;if a<=c then(a,c)else(c,a)
theorem n6{a c:Int}{ns:List Int}(p:ns.Perm [a,c])(o:ns.Pairwise (·<=·)):ns=if a<=c then[a,c]else[c,a]:=by
 have q:(if a<=c then[a,c]else[c,a]).Perm [a,c]:=by
  split
  ·exact .refl _
  ·exact .swap _ _ _
 have r:(if a<=c then[a,c]else[c,a]).Pairwise (·<=·):=by
  split
  ·simpa
  ·simp;omega
 exact List.Perm.eq_of_pairwise (le:=(·<=·)) (fun x y _ _ h1 h2=>by omega) o r (p.trans q.symm)
theorem rk{L:List Int}{w:Nat}(h:2*w+1<L.length):cutD (L.map D.int) (some ((2*w:Nat):Int)) (some ((2*w+2:Nat):Int))=([(L[2*w]?).getD 0,(L[2*w+1]?).getD 0]).map D.int:=by
 unfold cutD;rw[HT.l9,HT.l9,D8];have e1:min (2*w) L.length=2*w:=by omega
 have e2:min (2*w+2) L.length=2*w+2:=by omega
 rw[e1,e2];apply List.ext_getElem?;intro i;rw[E2 (show 2*w<L.length by omega),E2 (show 2*w+1<L.length by omega)];rcases i with _|_|i
 ·simp[List.getElem?_take,List.getElem?_drop]
  try omega
 ·simp[List.getElem?_take,List.getElem?_drop]
  try omega
 ·simp[List.getElem?_take,List.getElem?_drop]
  try omega
def uU(K:D5):Own:=fun y H os=>∃a b u v w,y=.ref a/\SqT K H a [u,.ref b]/\SqT K H b [v,w]/\os=[some u,some v,some w]
def BO(d:D)(os:DS):Prop:=∃p q r,d=.tup [p,.tup [q,r]]/\os=[some p,some q,some r]
theorem sY{K:D5}{H:Hp}{d:D}{v:V}{os:DS}(r:Rep K H d v)(h:BO d os):∃us,uU K v H us/\Slots K H os us:=by obtain⟨p,q,t,rfl,rfl⟩:=h;rw[Rep]at r;obtain⟨a,xs,rfl,hq,rs⟩:=r;rw[ax]at rs;obtain⟨u,r1,rfl,ru,rs⟩:=rs;rw[ax]at rs;obtain⟨y,r2,rfl,ry,rs⟩:=rs;rw[ax]at rs;subst rs;rw[Rep]at ry;obtain⟨b,ys,rfl,hb,rb⟩:=ry;have rb':=rb;rw[ax]at rb;obtain⟨v,r3,rfl,rv,rb⟩:=rb;rw[ax]at rb;obtain⟨w,r4,rfl,rw',rb⟩:=rb;rw[ax]at rb;subst rb;exact⟨_,⟨a,b,u,v,w,rfl,hq,hb,rfl⟩,fu (ds:=[p,q,t]) (xs:=[u,v,w]) (.cons ru (.cons rv (.cons rw' .nil)))⟩
theorem xv{K:D5}:TgOk 3 (pZ K 2 (dZ (cG 0) (dZ (pZ K 2 (dZ (cG 1) (dZ (cG 2) qq))) qq))) (uU K):=⟨fun _ _ os zz1_0=>by obtain⟨a,b,u,v,w,_,_,_,e⟩:=zz1_0;rw[e];rfl,fun y H os0 tail os Q hl zz2_0 q=>by
 obtain⟨a,b,u,v,w,e,h1,h2,ho⟩:=zz2_0
 match os0,hl with
 |[o,o',o''],_=>rw[ho]at q;exact⟨a,_,e,h1,rfl,u,_,rfl,_,_,rfl,⟨b,_,rfl,h2,rfl,v,_,rfl,w,_,rfl,rfl,rfl,q⟩⟩⟩
def zh(I:ItD)(js:List Nat)(tc:TTD)(te:TD)(δ:DS)(M1:MH)(Q:DK):Prop:=I.n<=1000000/\∀p,M1 p=none->∃W:Nat->List D->MH->Prop,W 0 [] (aq M1 p (.lst []))/\(∀i ys M,i<=I.n->W i ys M->I.C M)/\
 (∀i ys d M,i<I.n->I.item i=some d->W i ys M->∃os,BO d os/\tc (cδ os js δ) M fun b M2=>if b=true then te (cδ os js δ) M2 fun e M'=>∃M3,Sub M3 M'/\M3 p=some (.lst ys)/\W (i+1) (ys++[e]) (aq M3 p (.lst (ys++[e])))else ∃M3,Sub M3 M2/\W (i+1) ys M3)/\∀ys M,W I.n ys M->Q (.ref p) M
def uY(wd:TID)(js:List Nat)(tc:TTD)(te:TD):TD:=fun δ M Q=>wd δ M fun I M1=>zh I js tc te δ M1 Q
section
variable{X:Cx}{K:D5}
theorem qj{wd:TID}{js:List Nat}{tc:TTD}{te:TD}{σ:L2.St}{H:Hp}{Q:VK}(h:lift K (uY wd js tc te) σ H Q):mr js (uU K) (jB K wd) (liftT K tc) (lift K te) σ H Q:=by
 obtain⟨δ,M,R,hs,hM,q,fin⟩:=h;refine⟨δ,M,_,hs,hM,q,fun I M1 H1 J g1 a1 kc io p hp=>?_⟩;obtain⟨hn,kc⟩:=kc;obtain⟨W,w0,hC,turn,done⟩:=kc p (a1.fresh hp);refine⟨fun i m H2=>m=I.n-i/\i<=I.n/\Grow K H1 H2/\∃ys M,ys.length<=i/\Abs K H2 M/\W i ys M,⟨I.n,by simp,EZ _,.new hp,[],_,E3 _,a1.gh hp .nil,w0⟩,?_⟩;rintro i m H2 ⟨rfl,hi,g2,ys,M2,hl,a2,w2⟩;by_cases hin:i<I.n
 ·refine .inr ⟨io.go i H2 M2 hin g2 a2 (hC _ _ _ hi w2),fun v H3 hy=>?_⟩;obtain⟨g3,a3,d,ed,rd⟩:=io.yld i H2 M2 v H3 hin g2 a2 (hC _ _ _ hi w2) hy;obtain⟨os,ow,q3⟩:=turn i ys d M2 hin ed w2;obtain⟨us,uv,su⟩:=sY rd ow;have s3:=gG (js:=js) (hs.mono ((g1.trans g2).trans g3)) su;refine⟨us,uv,cδ os js δ,M2,_,s3,a3,q3,fun b M4 H4 g4 a4 q4=>?_⟩;cases b with
  |false=>
   rw[if_neg Ei]at q4 ⊢
   obtain⟨M5,s5,w5⟩:=q4
   exact⟨I.n-(i+1),by omega,rfl,hin,(g2.trans g3).trans g4,ys,M5,by omega,a4.sub s5,w5⟩
  |true=>
   rw[if_pos rfl]at q4 ⊢
   refine⟨cδ os js δ,M4,_,s3.mono g4,a4,q4,fun e M' u H5 g5 r5 a5 zz3_0=>?_⟩
   obtain⟨M6,s6,e6,w6⟩:=zz3_0
   obtain⟨zs,hx,rs⟩:=(a5.sub s6) _ _ e6
   refine⟨zs,hx,?_,I.n-(i+1),by omega,rfl,hin,(((g2.trans g3).trans g4).trans g5).trans (.lst hx),ys++[e],_,by simp;omega,(a5.sub s6).pE hx (rs.append (.cons r5 .nil)),w6⟩
   rw[<-rs.length]
   exact Nat.lt_of_le_of_lt hl (Em hin (ER hn (by decide)))
 ·obtain rfl:i=I.n:=by omega
  exact .inl ⟨io.stop H2 M2 g2 a2 (hC _ _ _ hi w2),fin _ _ _ _ (g1.trans g2) (by rw[Rep]) a2 (done ys M2 w2)⟩
end
section
variable{X:Cx}{x y z:Str}{px py pz pt pu pos:Pos}{kt ku:Nat}{js:List Nat}{scope:G5}{elt iter:Expr}{ifs:List Expr}{te:TD}{tc:TTD}{wd:TID}
theorem xx(c:CScope X [x,y,z] js scope)(hc:X.calm=true){C:Addr}{s:D6}{H:Hp}{fp:List Addr}:PG (cxC X [x,y,z] js scope C s H fp) (.Tuple [.Name x px,.Tuple [.Name y py,.Name z pz] ku pu] kt pt) (pZ X.K 2 (dZ (cG 0) (dZ (pZ X.K 2 (dZ (cG 1) (dZ (cG 2) qq))) qq))):=mD (X:=cxC X [x,y,z] js scope C s H fp) hc (c7 (dG c 0 rfl) (c7 (mD (X:=cxC X [x,y,z] js scope C s H fp) hc (c7 (dG c 1 rfl) (c7 (dG c 2 rfl) iX)) rfl rfl) iX)) rfl rfl
theorem vB(c:CScope X [x,y,z] js scope)(hc:X.calm=true)(hi:DI X (.Tuple [.Name x px,.Tuple [.Name y py,.Name z pz] ku pu] kt pt) iter wd)(ht:∀C s H fp,DTs (cxC X [x,y,z] js scope C s H fp) ifs tc)(he:∀C s H fp,DE (cxC X [x,y,z] js scope C s H fp) elt te) (hs:∀x,Eu iter X.env x=pure x:=by intro _;rfl):DE X (.ListComp elt [⟨.Tuple [.Name x px,.Tuple [.Name y py,.Name z pz] ku pu] kt pt,iter,ifs,0⟩] scope pos) (uY wd js tc te):=aO (qQ (te:=lift X.K te) (tc:=liftT X.K tc) c hc hi xv (fun _ _ _ _=>xx c hc) ht he hs) fun _ _ _ h=>qj h
end
end SD
namespace SE
open SD PySem PySem.Spec PyProof.Rows L2
abbrev SpK:=Int×Int
def bE(P:Ee)(w:EB):HeapKind P w SpK where
 is:=fun h k a=>IsTupleKey (intKind P w) h [k.1,k.2] a
 hash:=fun k=>tupleKeyHash (intKind P w) [k.1,k.2]
 draws:=fun _=>3
 room:=fun A=>A.units+4<F0
 inj:=fun hx hy=>by have:=hx.inj hy;simp at this;exact Prod.ext this.1 this.2
 keeps:=fun x ho hd hs=>x.keeps ho hd hs
 pyHash:=fun hu hk h=>wpAny_pyHash_tuple (by omega) hk h
 eqBool:=fun{_ _ _ x y _ _ _} hu hx hy h=>wpAny_eqBool_tuple (by omega) hx hy (by
  have e:decide ([x.1,x.2]=[y.1,y.2])=decide (x=y):=by
   rw[decide_eq_decide]
   exact⟨fun z=>by simp at z;exact Prod.ext z.1 z.2,fun z=>by rw[z]⟩
  rw[e];exact h)
 quiet:=fun hk h=>wpAny_eqIsQuiet_tuple hk h
section
variable{X:Cx}{pins:List (Addr×Obj)}{σ:L2.St}{H:Hp}{s:D6}{a b:Addr}{k:SpK}
def bj(K:D5)(H:Hp)(b:Addr)(k:SpK):Prop:=SqT K H b [.int k.1,.int k.2]
theorem iz(I:L2.Inv X pins σ H s)(h:bj X.K H b k):(bE X.prog X.w).is s.heap k b:=SD.vO I h
abbrev SpE:=SpK×Addr×V
def aU(P:Ee)(w:EB)(a:Addr)(xs:List SpE):Heap->Prop:=fun h=>(a==Fp)=false/\xs.length<=Ea/\(xs.map (·.1)).Nodup/\∃ys:List (SpK×Addr×D4),
 FL (fun(p:SpE) (q:SpK×Addr×D4)=>p.1=q.1/\p.2.1=q.2.1/\RelV p.2.2 q.2.2) xs ys/\∃o es ep,h.get? a=some o/\o.ExactDict/\o.data=.dict es ep/\es.toList=ys.map (entryOfKey (bE P w))
def cn(xs:List SpE)(k:SpK)(b:Addr)(v:V):List SpE:=if(xs.any fun x=>decide (x.1=k))=true then xs.map (fun x=>if x.1=k then(x.1,x.2.1,v)else x)else xs++[(k,b,v)]
abbrev PrS:=fun(p:SpE) (q:SpK×Addr×D4)=>p.1=q.1/\p.2.1=q.2.1/\RelV p.2.2 q.2.2
theorem dP{xs:List SpE}{ys:List (SpK×Addr×D4)}(r:FL PrS xs ys):ys.map (·.1)=xs.map (·.1):=by
 induction r with
 |nil=>rfl
 |cons h t ih=>rw[D7,D7,ih,h.1]
theorem mf{xs:List SpE}{ys:List (SpK×Addr×D4)}(r:FL PrS xs ys)(k:SpK):(xs.any fun x=>decide (x.1=k))=(Gy ys k).isSome:=by
 induction r with
 |nil=>rfl
 |@cons p q ps qs h t ih=>
  rw[Fy]
  by_cases e:p.1=k
  ·have e':q.1=k:=h.1.symm.trans e;simp[Gy,E9,e,e']
  ·have e':¬q.1=k:=fun z=>e (h.1.trans z);rw[decide_eq_false e,Bool.false_or,ih];simp[Gy,E9,e']
theorem d5{xs:List SpE}{ys:List (SpK×Addr×D4)}(r:FL PrS xs ys)(k:SpK)(b:Addr){v:V}{u:D4}(rv:RelV v u):FL PrS (cn xs k b v) (storedH ys k b u):=by
 unfold cn storedH;rw[mf r k];by_cases e:(Gy ys k).isSome=true
 ·rw[if_pos e,if_pos e];clear e
  induction r with
  |nil=>exact .nil
  |@cons p q ps qs h t ih=>
   rw[D7,D7]
   refine .cons ?_ ih
   unfold putAt
   by_cases e:p.1=k
   ·rw[if_pos e,if_pos (h.1.symm.trans e)];exact⟨h.1,h.2.1,rv⟩
   ·rw[if_neg e,if_neg (fun z=>e (h.1.trans z))];exact h
 ·rw[if_neg e,if_neg e];exact Paired.snoc r ⟨rfl,rfl,rv⟩
theorem fB{xs:List SpE}{ys:List (SpK×Addr×D4)}(r:FL PrS xs ys):xs.length=ys.length:=by
 induction r with
 |nil=>rfl
 |cons h t ih=>rw[EA,EA,ih]
theorem mF{xs:List SpE}{ys:List (SpK×Addr×D4)}(r:FL PrS xs ys){q:SpK×Addr×D4}(h:q∈ys):∃p∈xs,p.1=q.1/\p.2.1=q.2.1:=by
 induction r with
 |nil=>cases h
 |cons h' t ih=>
  rcases EM.mp h with z|z
  ·subst z;exact⟨_,by simp,h'.1,h'.2.1⟩
  ·obtain⟨p,hp,e⟩:=ih z;exact⟨p,by simp[hp],e⟩
theorem gA(xs:List SpE)(k:SpK)(b:Addr)(v:V):(cn xs k b v).length<=xs.length+1:=by
 unfold cn;split
 ·rw[D8];omega
 ·simp
theorem ij{xs:List SpE}(I:L2.Inv X pins σ H s)(e:H a=some (.ext (aU X.prog X.w a xs)))(hk:∀x∈xs,bj X.K H x.2.1 x.1):(a==Fp)=false/\xs.length<=Ea/\∃ys,FL PrS xs ys/\s.heap.DictOfH (bE X.prog X.w) a ys:=by obtain⟨⟨h1,h2,h3,ys,r,o,es,ep,q1,q2,q3,q4⟩,_⟩:=I.hok a _ e;refine⟨h1,h2,ys,r,o,es,ep,q1,q2,q3,q4,fun x hx=>?_,by rw[dP r];exact h3⟩;obtain⟨p,hp,e1,e2⟩:=mF r hx;rw[<-e1,<-e2];exact iz I (hk p hp)
theorem fv{P:Ee}{w:EB}{xs:List SpE}(h1 h2:Heap)(h:aU P w a xs h1)(k:∀o,h1.get? a=some o->h2.get? a=some o):aU P w a xs h2:=by obtain⟨p1,p2,p3,ys,r,o,es,ep,q1,q⟩:=h;exact⟨p1,p2,p3,ys,r,o,es,ep,k o q1,q⟩
theorem i8(I:L2.Inv X pins σ H s):L2.Inv X pins σ (upd H s.heap.objs.size (.ext (aU X.prog X.w s.heap.objs.size []))) { s with heap:=s.heap.push { cls:=.type "dict",data:=.dict #[] } }:=
 I.laid (a:=s.heap.objs.size) (t':=s.toks) (fun _ _ q=>D9 _ q) (E3 _)
  ⟨⟨beq_eq_false_iff_ne.mpr (Ne.symm (Ex I.big)),EZ _,List.nodup_nil,[],.nil,_,#[],0,E6 _ rfl,⟨rfl,rfl,rfl⟩,rfl,rfl⟩,⟨_,E6 _ rfl⟩,fun h1 h2 x y=>fv h1 h2 x y⟩
def bg(xs:List SpE)(k:SpK):Option V:=(xs.find? fun x=>decide (x.1=k)).map (·.2.2)
theorem eA{xs:List SpE}{ys:List (SpK×Addr×D4)}(r:FL PrS xs ys){v:V}(h:bg xs k=some v):∃p:Addr×D4,Gy ys k=some p/\RelV v p.2:=by
 induction r with
 |nil=>cases h
 |@cons p q ps qs h' t ih=>
  by_cases e:p.1=k
  ·have e':q.1=k:=h'.1.symm.trans e;simp[bg,E9,e]at h;subst h;exact⟨q.2,by simp[Gy,E9,e'],h'.2.2⟩
  ·have e':¬q.1=k:=fun z=>e (h'.1.trans z);have h2:bg ps k=some v:=by simpa[bg,E9,e]using h
   obtain⟨p',h3,h4⟩:=ih h2;exact⟨p',by simpa[Gy,E9,e']using h3,h4⟩
theorem mT{A:EE}{E:D4->D6->Prop}{Q:D4->D6->Prop}{xs:List SpE}{v:V}(hu:A.units+8<F0)(I:L2.Inv X pins σ H s)(e:H a=some (.ext (aU X.prog X.w a xs)))(hk:∀x∈xs,bj X.K H x.2.1 x.1)(hb:bj X.K H b k)(hv:bg xs k=some v) (h:∀u s',L2.Inv X pins σ H s'->RelV v u->Q u s'):E7 (Ef X.prog X.w) A (getItem (.ref a) (.ref b)) Q E s:=by obtain⟨hd,hz,ys,r,dd⟩:=ij I e hk;obtain⟨p,h1,h2⟩:=eA r hv;exact wpAny_getItem_heap (knd:=bE X.prog X.w) (show A.in1.units+4<F0 by show A.units+1+4<F0;omega) (iz I hb) dd h1 (h _ _ (I.tok _) h2)
end
section
variable{X:Cx}{pins:List (Addr×Obj)}{σ:L2.St}{H:Hp}{s:D6}{a b:Addr}{k:SpK}
theorem kA{xs:List SpE}{ys:List (SpK×Addr×D4)}(r:FL PrS xs ys)(h:bg xs k=none):Gy ys k=none:=by
 induction r with
 |nil=>rfl
 |@cons p q ps qs h' t ih=>
  by_cases e:p.1=k
  ·simp[bg,E9,e]at h
  ·have e':¬q.1=k:=fun z=>e (h'.1.trans z);have h2:bg ps k=none:=by simpa[bg,E9,e]using h
   have:=ih h2;simpa[Gy,E9,e']using this
theorem fW{A:EE}{E:D4->D6->Prop}{Q:D4->D6->Prop}{xs:List SpE}{v:V}{u:D4}(hu:A.units+8<F0)(I:L2.Inv X pins σ H s)(e:H a=some (.ext (aU X.prog X.w a xs)))(hk:∀x∈xs,bj X.K H x.2.1 x.1)(hb:bj X.K H b k)(rv:RelV v u)(hl:xs.length<Ea)
 (h1:∀v' u' s',bg xs k=some v'->L2.Inv X pins σ H s'->RelV v' u'->Q u' s')
 (h2:bg xs k=none->∀s',L2.Inv X pins σ (upd H a (.ext (aU X.prog X.w a (cn xs k b v)))) s'->Q u s'):E7 (Ef X.prog X.w) A (call (.builtin "dict.setdefault") [.ref a,.ref b,u]) Q E s:=by
 obtain⟨hd,hz,ys,r,dd⟩:=ij I e hk
 refine iI (knd:=bE X.prog X.w) (show A.in1.units+4<F0 by show A.units+1+4<F0;omega) (iz I hb) dd hd (fun p hp=>?_) (fun hn h' dd' hs=>?_) (by rw[<-fB r];exact hz)
 ·cases ev:bg xs k with
  |none=>rw[kA r ev]at hp;cases hp
  |some v'=>
   obtain⟨p',h3,h4⟩:=eA r ev
   rw[hp]at h3
   cases h3
   exact h1 v' _ _ ev (I.tok _) h4
 ·have ev:bg xs k=none:=by
   cases ev:bg xs k with
   |none=>rfl
   |some v'=>
    obtain⟨p',h3,_⟩:=eA r ev
    rw[hn]at h3;cases h3
  refine h2 ev _ ?_
  obtain⟨q,es,ep,hq,q2,q3,q4,_,q5⟩:=dd'
  refine gr I (by rw[e];exact True.intro) hs ⟨q,hq⟩ ⟨⟨hd,?_,?_,_,d5 r k b rv,q,es,ep,hq,q2,q3,q4⟩,⟨q,hq⟩,fun h1 h2 x y=>fv h1 h2 x y⟩
  ·have:=gA xs k b v;omega
  ·rw[<-dP (d5 r k b rv)];exact q5
end
section
variable{X:Cx}
def qf(X:Cx):TE:=fun _ H Q=>∀p,H p=none->Q (.ref p) (upd H p (.ext (aU X.prog X.w p [])))
theorem jD{pos:Pos}:PE X (.Dict [] [] pos) (qf X):=fun pins s σ H Q I h=>wpAny_Dict_empty ⟨.ref s.heap.objs.size,_,i8 I,rfl,h _ (I.hok.fresh (E3 _))⟩
structure DsAt(X:Cx)(H:Hp)(a b:Addr)(xs:List SpE)(k:SpK):Prop where
 d:H a=some (.ext (aU X.prog X.w a xs))
 ks:∀x∈xs,bj X.K H x.2.1 x.1
 key:bj X.K H b k
def oR(X:Cx)(td ty:TE):TE:=fun σ H Q=>td σ H fun x H1=>ty σ H1 fun y H2=>∃a b xs k v,x=.ref a/\y=.ref b/\DsAt X H2 a b xs k/\bg xs k=some v/\Q v H2
theorem jM{pins:List (Addr×Obj)}{σ:L2.St}{H:Hp}{s:D6}{a:Addr}{xs:List SpE}(I:L2.Inv X pins σ H s)(e:H a=some (.ext (aU X.prog X.w a xs))):s.TypeIs (.ref a) "dict"/\∀b,Fd a=.ref b->∃o,s.heap.get? b=some o/\o.dict=none:=by obtain⟨⟨_,_,_,_,_,o,_,_,q1,q2,_⟩,_⟩:=I.hok a _ e;exact⟨⟨o,q1,q2.1⟩,fun b z=>by cases z;exact⟨o,q1,q2.2.1⟩⟩
theorem jI{o i:Expr}{td ty:TE}{pos:Pos}(hu:X.A.units+8<F0)(ho:PE X o td)(hi:PE X i ty)(hs:ya i):PE X (.Subscript o i pos) (oR X td ty):=by intro pins s σ H Q I h;refine Subscript_ (thn (ho pins s σ H _ I h) fun v s1 ⟨x,H1,I1,r1,q1⟩=>thn (hi pins s1 σ H1 _ I1 q1) fun u s2 zz1_0=>?_);obtain⟨y,H2,I2,r2,a,b,xs,k,w',ex,ey,D,hv,q⟩:=zz1_0;subst ex ey;cases r1;cases r2;exact tail_any (jM I2 D.d).1 PySem.F.slot_dict_getitem.lookup (mT hu I2 D.d D.ks D.key hv fun u' s' I' r'=>⟨w',H2,I',r',q⟩) (hs _ _)
def vE(X:Cx)(to:TE)(t:TA):TE:=fun σ H Q=>to σ H fun x H1=>∃a xs0,x=.ref a/\H1 a=some (.ext (aU X.prog X.w a xs0))/\t σ H1 fun vs H2=>∃b v xs k,vs=[.ref b,v]/\DsAt X H2 a b xs k/\xs.length<Ea/\
 (∀v',bg xs k=some v'->Q v' H2)/\(bg xs k=none->Q v (upd H2 a (.ext (aU X.prog X.w a (cn xs k b v)))))
theorem mi{o e1 e2:Expr}{to:TE}{t:TA}{apos cpos:Pos}(hu:X.A.units+8<F0)(ho:PE X o to)(ha:PA X [e1,e2] t)
 (hbase:FH o "setdefault" X.env (eval o X.env)=eval o X.env:=by rfl)
 (hfew:((Fn cpos (Eb [e1,e2] X.env)).all (fun x=>!x.1)&&(backToKw cpos (FR [] X.env)).all (fun x=>x.1.isSome)
  && decide ([e1,e2].length+([]:List Gp).length+(if([]:List Gp).isEmpty then 0 else 1)<30))=true:=by rfl)
 (hline:(apos.endLine==cpos.line)=true:=by rfl) (hs:Eb [e1,e2] X.env=(false,eval e1 X.env)::Eb [e2] X.env:=by rfl) (hplain:(Fn cpos (Eb [e2] X.env)).any (·.1)=false:=by rfl) :
 PE X (.Call (.Attribute o "setdefault" apos) [e1,e2] [] cpos) (vE X to t):=by
 intro pins s σ H Q I h
 refine wpAny_Call_method_late hbase hfew hline rfl (thn (ho pins s σ H _ I h) fun v s1 zz3_0=>?_)
 obtain⟨x,H1,I1,r1,a,xs0,ex,e0,q1⟩:=zz3_0
 subst ex
 cases r1
 obtain⟨h1,h2⟩:=jM I1 e0
 refine⟨"dict","dict.setdefault",PySem.F.plainAttrs_dict,PySem.F.slot_dict_setdefault,PySem.F.type_dict_setdefault,h1,h2,?_⟩
 have hA:=ha cpos pins s1 σ H1 _ I1 q1
 rw[hs]at hA ⊢
 refine Gb (by show(false||(Fn cpos (Eb [e2] X.env)).any (·.1))=false;rw[hplain]<;>rfl) (Calls.evalArgs_plain ?_)
 refine thn hA fun us s2 zz4_0=>?_
 obtain⟨vs,H2,I2,r2,b,w',xs,k,ev,D,hl,k1,k2⟩:=zz4_0
 subst ev
 obtain⟨u1,u2,rfl,ru1,ru2⟩:=r2.two
 cases ru1
 exact fW hu I2 D.d D.ks D.key ru2 hl (fun v' u' s' ev I' r'=>⟨v',H2,I',r',k1 v' ev⟩) (fun hn s' I'=>⟨w',_,I',ru2,k2 hn⟩)
end
def spD(k:SpK):D:=.tup [.int k.1,.int k.2]
section
variable{K:D5}{H H':Hp}{M:MH}{a b:Addr}{k:SpK}
theorem iL{v:V}(r:Rep K H (spD k) v):∃b,v=.ref b/\bj K H b k:=by unfold spD at r;rw[Rep]at r;obtain⟨b,xs,rfl,hx,rs⟩:=r;obtain⟨v1,v2,rfl,r1,r2⟩:=dt rs;rw[Rep]at r1 r2;subst r1 r2;exact⟨b,rfl,hx⟩
theorem ko(h:bj K H b k):Rep K H (spD k) (.ref b):=by unfold spD;rw[Rep];exact⟨b,_,rfl,h,dJ [k.1,k.2]⟩
theorem bj.mono(g:Grow K H H')(h:bj K H b k):bj K H' b k:=by obtain⟨b',e,r⟩:=iL ((ko h).mono g);cases e;exact r
abbrev SpT:=List (SpK×D)
def dsA(kvs:SpT):D5->Hp->Addr->Prop:=fun K H a=>∃xs:List SpE,(∀P w,H a=some (.ext (aU P w a xs)))/\xs.map (·.1)=kvs.map (·.1)/\(∀x∈xs,bj K H x.2.1 x.1)/\ax K H (kvs.map (·.2)) (xs.map (·.2.2))
theorem ju{kvs:SpT}(h:dsA kvs K H a)(g:Grow K H H')(e:H' a=H a):dsA kvs K H' a:=by obtain⟨xs,h1,h2,h3,h4⟩:=h;exact⟨xs,fun P w=>e.trans (h1 P w),h2,fun x hx=>(h3 x hx).mono g,h4.mono g⟩
def dsM(kvs:SpT):MO:=.gen (dsA kvs)
theorem Abs.dsp{kvs:SpT}(h:Abs K H M)(e:M a=some (dsM kvs)):dsA kvs K H a:=(h a _ e).1
theorem dsA.nZ{kvs:SpT}(h:dsA kvs K H a)(ne:H a≠none):lY K H a (dsM kvs):=⟨h,ne,fun H' g e=>ju h g e⟩
theorem Abs.qD{p:Addr}(P:Ee)(w:EB)(h:Abs K H M)(hp:H p=none):Abs K (upd H p (.ext (aU P w p []))) (aq M p (dsM [])):=fun a u e=>by
 by_cases ne:a=p
 ·subst ne;rw[af]at e;cases e;exact dsA.nZ ⟨[],(fun P w=>aK),rfl,(fun x hx=>by simp at hx),(by simp[ax])⟩ (by rw[aK];simp)
 ·rw[ai ne]at e;exact(h a u e).eQ (.new hp) (aL ne)
def a9(kvs:SpT)(k:SpK):Option D:=(kvs.find? fun x=>decide (x.1=k)).map (·.2)
def putD(kvs:SpT)(k:SpK)(d:D):SpT:=if(kvs.any fun x=>decide (x.1=k))=true then kvs.map (fun x=>if x.1=k then(x.1,d)else x)else kvs++[(k,d)]
theorem en(k:SpK):∀{kvs:SpT} {xs:List SpE},xs.map (·.1)=kvs.map (·.1)->ax K H (kvs.map (·.2)) (xs.map (·.2.2))->(∀d,a9 kvs k=some d->∃v,bg xs k=some v/\Rep K H d v)/\(a9 kvs k=none->bg xs k=none)/\((xs.any fun x=>decide (x.1=k))=kvs.any fun x=>decide (x.1=k))
 |[],[],_,_=>⟨(fun d h=>by simp[a9]at h),(fun _=>rfl),rfl⟩
 |[],x::xs,h,_=>by cases h
 |y::kvs,[],h,_=>by cases h
 |y::kvs,x::xs,h,r=>by
  rw[D7,D7]at h
  injection h with h1 h2
  rw[D7,D7,ax]at r
  obtain⟨v,vs,e,r1,r2⟩:=r
  injection e with e1 e2
  subst e1 e2
  obtain⟨i1,i2,i3⟩:=en k h2 r2
  by_cases e:y.1=k
  ·have e':x.1=k:=h1.trans e
   refine⟨fun d hd=>?_,fun hn=>?_,?_⟩
   ·simp[a9,E9,e]at hd
    subst hd
    exact⟨x.2.2,by simp[bg,E9,e'],r1⟩
   ·simp[a9,E9,e]at hn
   ·simp[e,e']
  ·have e':¬x.1=k:=fun z=>e (h1.symm.trans z)
   refine⟨fun d hd=>?_,fun hn=>?_,?_⟩
   ·obtain⟨v,q1,q2⟩:=i1 d (by simpa[a9,E9,e]using hd)
    exact⟨v,by simpa[bg,E9,e']using q1,q2⟩
   ·have:=i2 (by simpa[a9,E9,e]using hn)
    simpa[bg,E9,e']using this
   ·rw[Fy,Fy,i3,decide_eq_false e,decide_eq_false e']
theorem gm(k:SpK){d:D}{v:V}(r:Rep K H d v):∀{kvs:SpT} {xs:List SpE},xs.map (·.1)=kvs.map (·.1)->ax K H (kvs.map (·.2)) (xs.map (·.2.2))->
 (xs.map fun x=>if x.1=k then(x.1,x.2.1,v)else x).map (·.1)=(kvs.map fun x=>if x.1=k then(x.1,d)else x).map (·.1)/\ax K H ((kvs.map fun x=>if x.1=k then(x.1,d)else x).map (·.2)) ((xs.map fun x=>if x.1=k then(x.1,x.2.1,v)else x).map (·.2.2))
 |[],[],_,h=>⟨rfl,h⟩
 |[],x::xs,h,_=>by cases h
 |y::kvs,[],h,_=>by cases h
 |y::kvs,x::xs,h,q=>by
  rw[D7,D7]at h
  injection h with h1 h2
  rw[D7,D7,ax]at q
  obtain⟨v',vs,e,r1,r2⟩:=q
  injection e with e1 e2
  subst e1 e2
  obtain⟨i1,i2⟩:=gm k r h2 r2
  by_cases e:y.1=k
  ·have e':x.1=k:=h1.trans e
   simp only[D7,if_pos e,if_pos e']
   exact⟨by rw[i1];exact congrArg (·::_) h1,by rw[ax];exact⟨_,_,rfl,r,i2⟩⟩
  ·have e':¬x.1=k:=fun z=>e (h1.symm.trans z)
   simp only[D7,if_neg e,if_neg e']
   exact⟨by rw[i1];exact congrArg (·::_) h1,by rw[ax];exact⟨_,_,rfl,r1,i2⟩⟩
theorem pX{kvs:SpT}{xs:List SpE}{d:D}{v:V}(h1:xs.map (·.1)=kvs.map (·.1))(h2:ax K H (kvs.map (·.2)) (xs.map (·.2.2)))(h3:∀x∈xs,bj K H x.2.1 x.1)(hb:bj K H b k)(r:Rep K H d v) : (cn xs k b v).map (·.1)=(putD kvs k d).map (·.1)/\ax K H ((putD kvs k d).map (·.2)) ((cn xs k b v).map (·.2.2))/\∀x∈cn xs k b v,bj K H x.2.1 x.1:=by
 unfold cn putD;rw[(en k h1 h2).2.2];by_cases e:(kvs.any fun x=>decide (x.1=k))=true
 ·rw[if_pos e,if_pos e];obtain⟨i1,i2⟩:=gm k r h1 h2;refine⟨i1,i2,fun x hx=>?_⟩;obtain⟨y,hy,rfl⟩:=EJ.mp hx;have:=h3 y hy;by_cases e:y.1=k
  ·rw[if_pos e];exact this
  ·rw[if_neg e];exact this
 ·rw[if_neg e,if_neg e];refine⟨by rw[Eg,Eg,h1];rfl,?_,fun x hx=>?_⟩
  ·rw[Eg,Eg];exact h2.append (by rw[D7,D7,EX,EX,ax];exact⟨_,_,rfl,r,by rw[ax]⟩)
  ·rcases Ek.mp hx with z|z
   ·exact h3 x z
   ·have:x=(k,b,v):=by simpa using z
    subst this;exact hb
theorem Abs.qA{kvs:SpT}{xs:List SpE}{d:D}{v:V}(P:Ee)(w:EB)(h:Abs K H M)(hx:∀P w,H a=some (.ext (aU P w a xs)))(h1:xs.map (·.1)=kvs.map (·.1))(h2:ax K H (kvs.map (·.2)) (xs.map (·.2.2)))(h3:∀x∈xs,bj K H x.2.1 x.1)(hb:bj K H b k)(r:Rep K H d v) :
 Abs K (upd H a (.ext (aU P w a (cn xs k b v)))) (aq M a (dsM (putD kvs k d))):=fun c u e=>by
 have g:Grow K H (upd H a (.ext (aU P w a (cn xs k b v)))):=.ext (hx P w)
 by_cases ne:c=a
 ·subst ne
  rw[af]at e;cases e
  obtain⟨q1,q2,q3⟩:=pX h1 h2 h3 hb r
  exact dsA.nZ ⟨_,fun P w=>aK,q1,fun x hx=>(q3 x hx).mono g,q2.mono g⟩ (by rw[aK];simp)
 ·rw[ai ne]at e
  exact(h c u e).eQ g (aL ne)
end
section
variable{X:Cx}
def mP:TD:=fun _ M Q=>∀p,M p=none->Q (.ref p) (aq M p (dsM []))
theorem jX{pos:Pos}:DE X (.Dict [] [] pos) mP:=aO jD fun σ H Q zz5_0=>by obtain⟨δ,M,R,hs,hM,q,fin⟩:=zz5_0;exact(fun p hp=>fin _ _ _ _ (.new hp) (by rw[Rep]) (Abs.qD _ _ hM hp) (q p (hM.fresh hp)))
def mE(td ty:TD):TD:=fun δ M Q=>td δ M fun x M1=>ty δ M1 fun y M2=>∃l kvs k d,x=.ref l/\y=spD k/\M2 l=some (dsM kvs)/\a9 kvs k=some d/\Q d M2
theorem gC{o i:Expr}{td ty:TD}{pos:Pos}(hu:X.A.units+66<F0)(ho:DE X o td)(hi:DE X i ty)(hs:ya i):DE X (.Subscript o i pos) (mE td ty):=
 aO (jI (by omega) ho hi hs) fun σ H Q zz6_0=>by obtain⟨δ,M,R,hs,hM,q,fin⟩:=zz6_0;exact(⟨δ,M,_,hs,hM,q,fun x M1 v H1 g1 r1 a1 q1=>⟨δ,M1,_,hs.mono g1,a1,q1,fun y M2 u H2 g2 r2 a2 zz7_0=>by
  obtain⟨l,kvs,k,d,ex,ey,hl,hv,q2⟩:=zz7_0
  subst ex ey
  rw[Rep]at r1;subst r1
  obtain⟨b,rfl,sp⟩:=iL r2
  obtain⟨xs,h1,h2,h3,h4⟩:=Abs.dsp a2 hl
  obtain⟨v',q3,q4⟩:=(en k h2 h4).1 d hv
  exact⟨l,b,xs,k,v',rfl,rfl,⟨h1 _ _,h3,sp⟩,q3,fin _ _ _ _ (g1.trans g2) q4 a2 q2⟩⟩⟩)
def ph(to:TD)(t:TAD):TD:=fun δ M Q=>to δ M fun x M1=>∃l kvs0,x=.ref l/\M1 l=some (dsM kvs0)/\t δ M1 fun ds M2=>∃kvs k d,ds=[spD k,d]/\M2 l=some (dsM kvs)/\kvs.length<1000000/\(∀d',a9 kvs k=some d'->Q d' M2)/\(a9 kvs k=none->Q d (aq M2 l (dsM (putD kvs k d))))
theorem lV{o e1 e2:Expr}{to:TD}{t:TAD}{apos cpos:Pos}(hu:X.A.units+66<F0)(ho:DE X o to)(ha:DA X [e1,e2] t)
 (hbase:FH o "setdefault" X.env (eval o X.env)=eval o X.env:=by rfl)
 (hfew:((Fn cpos (Eb [e1,e2] X.env)).all (fun x=>!x.1)&&(backToKw cpos (FR [] X.env)).all (fun x=>x.1.isSome)
  && decide ([e1,e2].length+([]:List Gp).length+(if([]:List Gp).isEmpty then 0 else 1)<30))=true:=by rfl)
 (hline:(apos.endLine==cpos.line)=true:=by rfl) (hs:Eb [e1,e2] X.env=(false,eval e1 X.env)::Eb [e2] X.env:=by rfl) (hplain:(Fn cpos (Eb [e2] X.env)).any (·.1)=false:=by rfl) :
 DE X (.Call (.Attribute o "setdefault" apos) [e1,e2] [] cpos) (ph to t):=
 aO (mi (by omega) ho ha hbase hfew hline hs hplain) fun σ H Q ⟨δ,M,R,hs,hM,q,fin⟩=>⟨δ,M,_,hs,hM,q,fun x M1 v H1 g1 r1 a1 ⟨l,kvs0,ex,hl0,q1⟩=>by
  subst ex
  rw[Rep]at r1;subst r1
  obtain⟨xs0,h0,_⟩:=Abs.dsp a1 hl0
  refine⟨l,xs0,rfl,h0 _ _,δ,M1,_,hs.mono g1,a1,q1,fun ds M2 vs H2 g2 r2 a2 zz8_0=>?_⟩
  obtain⟨kvs,k,d,ed,hl,hn,k1,k2⟩:=zz8_0
  subst ed
  obtain⟨v1,v2,rfl,rv1,rv2⟩:=dt r2
  obtain⟨b,rfl,sp⟩:=iL rv1
  obtain⟨xs,h1,h2,h3,h4⟩:=Abs.dsp a2 hl
  have hlen:xs.length=kvs.length:=by have:=congrArg List.length h2;simpa using this
  have sz:1000000<=Ea:=nbL rfl
  have dv:=en k h2 h4
  refine⟨b,v2,xs,k,rfl,⟨h1 _ _,h3,sp⟩,by omega,fun v' hv'=>?_,fun hv'=>?_⟩
  ·cases ed:a9 kvs k with
   |none=>rw[dv.2.1 ed]at hv';cases hv'
   |some d'=>
    obtain⟨v'',q3,q4⟩:=dv.1 d' ed
    rw[hv']at q3;cases q3
    exact fin _ _ _ _ (g1.trans g2) q4 a2 (k1 d' ed)
  ·have ed:a9 kvs k=none:=by
    cases ed:a9 kvs k with
    |none=>rfl
    |some d'=>
     obtain⟨v'',q3,_⟩:=dv.1 d' ed
     rw[hv']at q3;cases q3
   have g4:Grow X.K H2 (upd H2 l (.ext (aU X.prog X.w l (cn xs k b v2)))):=.ext (h1 X.prog X.w)
   exact fin _ _ _ _ ((g1.trans g2).trans g4) (rv2.mono g4) (Abs.qA _ _ a2 h1 h2 h4 h3 sp rv2) (k2 ed)⟩
end
section
variable{prog:Ee}{w:EB}{A:EE}{E:D4->D6->Prop}{s:D6}{T:String}{r d:Addr}{n:Nat}{P:Nat->D4->Prop}{OK:Heap->Prop}
theorem oi{Q:List D4->D6->Prop}(K:PySem.W.KdlSrc prog w T r d n P OK)(hh:A.handled=none)(hok:OK s.heap)(hn:n<=Ea)
 (h:∀h' tk (acc:Array D4),(∀b o,s.heap.get? b=some o->h'.get? b=some o)->s.heap.objs.size<h'.objs.size->ItemsOf P acc n->Q acc.toList { s with heap:=h',toks:=tk }):E7 (Ef prog w) A (collect (.ref r)) Q E s:=by
 unfold collect
 refine cc (wpAny_runValue (FK entry_proto_collect' ?_))
 show E7 _ _ (do again (.builtin "list.__iadd__" ⟨[<-newList [],.ref r],[]⟩)) _ _ s
 refine cc (wpAny_newList (E1 ⟨Code.quiet_builtin _ (by decide +kernel),FK entry_list_iadd' ?_⟩))
 show E7 _ _ (Builtin.List.listExtendWith (.ref s.heap.objs.size) (.ref r) (.ref s.heap.objs.size)) _ _ { s with heap:=s.heap.push (GK "list" #[] 0) }
 have hlt:=K.there _ hok
 have hS0:(s.heap.push (GK "list" #[] 0)).get? s.heap.objs.size=some { cls:=.type "list",data:=.seq #[] 0 }:=E6 _ rfl
 rw[Around.under_plain rfl rfl]
 refine Ed (PySem.W.kdl_extend (s:={ s with heap:=s.heap.push (GK "list" #[] 0) }) (R:=fun r s'=>r=.ok (.ret (.ref s.heap.objs.size))/\E7 (Ef prog w) A (do
  let o <-load s.heap.objs.size
  match o.data with
  |.seq xs _=>pure xs.toList
  |_=>unsupported "internal:collect") Q E s') K hh (K.keep _ _ hok fun b _ o e=>D9 _ e) s.heap.objs.size (Nat.ne_of_gt hlt.1) (Nat.ne_of_gt hlt.2) (.ref s.heap.objs.size) 0 hS0 (fun h' tk acc c hk hS it=>⟨rfl,?_⟩) hn) (fun fin s' z=>?_) (fun e s' z=>by cases z.1)
 ·exact cc (wpAny_load hS (E1 (h h' tk acc (fun b o e=>hk b o (Ex (E8 e)) (D9 _ e)) (E8 hS) it)))
 ·cases fin with
  |done f=>
   obtain⟨z1,z2⟩:=z
   cases z1
   exact z2
  |again c'=>exact⟨z.1,codeAny_mono z.2 fun r s2 y=>by obtain⟨y1,y2⟩:=y;subst y1;exact y2⟩
theorem qg{vs:List D4}{k:Nat->Int}{κ:SortKind}{Q:D4->D6->Prop}(K:PySem.W.KdlSrc prog w T r d n P OK)(hh:A.handled=none)(hok:OK s.heap)(hn:n<=Ea)(hvs:∀acc,ItemsOf P acc n->acc.toList=vs)(h64:vs.length<64)(hinj:Inj vs.length k)
 (hk:∀(h':Heap) (tk:Nat),(∀b o,s.heap.get? b=some o->h'.get? b=some o)->2<=vs.length->∀(R:SortKind->D6->Prop) (E':D4->D6->Prop),R κ { s with heap:=h',toks:=tk }->E7 (Ef prog w) A.in1.in1 (keyKind' vs.toArray) R E' { s with heap:=h',toks:=tk })
 (hc:∀(h':Heap) (tk:Nat),(∀b o,s.heap.get? b=some o->h'.get? b=some o)->∀i j (C:Bool->D6->Prop),i<vs.length->j<vs.length->C (decide (k i<k j)) { s with heap:=h',toks:=tk }->PySem.W.kas_ask prog w A.in1.in1 κ vs i j C { s with heap:=h',toks:=tk })
 (h:∀(h':Heap) (tk:Nat) (l:Addr) (e:Nat) p,(∀b o,s.heap.get? b=some o->h'.get? b=some o)->s.heap.objs.size<=l->h'.get? l=some (GK "list" (df vs p) e)->Pmu vs.length p->Up k p vs.length->Q (.ref l) { s with heap:=h',toks:=tk }):E7 (Ef prog w) A (call (.builtin "sorted") [.ref r]) Q E s:=by
 refine Calls.call_function_entry kind_sorted plain_sorted entry_sorted (args_sorted1 _) ?_
 unfold GP.«sorted»
 refine cc (m:=checkCount "sorted" 1 1 _) (E1 (cc (oi K hh hok hn fun h1 tk acc kp lt it=>?_)))
 rw[hvs acc it]
 refine cc (wpAny_newList ?_ (by rw[GN];omega))
 have at1:(h1.push (GK "list" vs.toArray 0)).get? h1.objs.size=some (GK "list" vs.toArray 0):=E6 _ rfl
 show E7 _ _ _ _ _ { s with heap:=h1.push (GK "list" vs.toArray 0),toks:=tk }
 have k2:∀b o,s.heap.get? b=some o->(jk (h1.push (GK "list" vs.toArray 0)) h1.objs.size vs).get? b=some o:=fun b o q=>
  mZ (Ex (E8 (kp b o q))) (D9 _ (kp b o q))
 refine cc (EY (Gf slot_list_sort ⟨_,at1,rfl⟩ entry_list_sort (oq (s:={ s with heap:=h1.push (GK "list" vs.toArray 0),toks:=tk }) at1 h64 hinj (hk _ tk k2) (hc _ tk k2) fun p hp hu=>⟨_,rfl,E1 ⟨_,rfl,?_⟩⟩) (args_list_sort _)))
 obtain⟨e,he⟩:=sortedHeap_at (out:=df vs p) at1
 refine h _ tk h1.objs.size e p (fun b o q=>?_) (Nat.le_of_lt lt) he hp hu
 have lb:=E8 (kp b o q)
 rw[sortedHeap_old (Ex lb) (by rw[size_push'];exact Nat.lt_succ_of_lt lb)]
 exact D9 _ (kp b o q)
end
section
variable{X:Cx}
theorem jz{P:Ee}{w:EB}{xs:List SpE}{ys:List (SpK×Addr×D4)}(r:FL PrS xs ys):(ys.map (entryOfKey (bE P w))).map (·.key)=xs.map fun x=>Fd x.2.1:=by
 induction r with
 |nil=>rfl
 |cons h t ih=>simp only[D7,ih,h.2.1];rfl
theorem dW:∀xs:List SpE,Vals (xs.map fun x=>V.ref x.2.1) (xs.map fun x=>Fd x.2.1)
 |[]=>.nil
 |x::xs=>.cons rfl (dW xs)
theorem nC(hc:X.calm=true):bM X (.builtin "sorted") (fun vs H Q=>∃p xs us,vs=[.ref p]/\H p=some (.ext (aU X.prog X.w p xs))/\Prs X.K H (xs.map fun x=>V.ref x.2.1) us/\Pb us/\∀l π,H l=none->Pmu us.length π->Up (pky us) π us.length->Q (.ref l) (upd H l (.lst (π.toList.map fun i=>(xs.map fun x=>V.ref x.2.1).getD i .non)))):=by
 intro pins s σ H vs us' Q I r ⟨p,xs,us,ev,hp,hprs,hb,q⟩;subst ev;obtain⟨u,rfl,ru⟩:=vals1 r;cases ru;obtain⟨⟨h1,h2,h3,ys,r1,o,es,ep,q1,q2,q3,q4⟩,_⟩:=I.hok p _ hp;have hz:es.size=xs.length:=by rw[<-Fm,q4,D8,fB r1]
 have rv:=dW xs;have tp:=qe I hprs rv;have hlen:(xs.map fun x=>Fd x.2.1).length=us.length:=by rw[<-rv.length,hprs.len]
 refine qg (k:=pky us) (κ:=tuples' true) (vs:=xs.map fun x=>Fd x.2.1) (qL (es:=es) (ep:=ep) h1) (I.ok.hd hc) ⟨o,q1,q2,q3⟩ (by rw[hz];exact h2) (fun acc it=>?_) (by rw[hlen];exact hb.1) (by rw[hlen];exact hb.inj) (fun h' tk kp h2 R E' hr=>?_) (fun h' tk kp i j C hi hj hC=>?_) fun h' tk l e π kp hl he hπ hu=>?_
 ·rw[<-jz (P:=X.prog) (w:=X.w) r1,<-q4];apply List.ext_getElem?;intro i;by_cases hi:i<es.size
  ·have hi':i<acc.size:=by rw[it.1];exact hi
   obtain⟨e,e1,e2⟩:=it.2 i acc[i] (by simp[hi']);simp[hi',hi]at e1 ⊢;rw[e2,<-e1]
  ·have hi':¬i<acc.size:=by rw[it.1];exact hi
   simp[hi,hi']
 ·obtain⟨fs,k1,k2,k3⟩:=jE (h:=h') hlen fun i hi=>(tp i hi).kept kp;refine PySem.W.kat_kind (s:={ s with heap:=h',toks:=tk }) (T:=.type "int") k1 (by omega) (fun v hv=>?_) (by decide) hr;obtain⟨n,t,rfl⟩:=k3 v hv;exact PySem.W.Looks.now
 ·obtain⟨a,t1,t2,ea,ha⟩:=(tp i (by omega)).kept kp;obtain⟨b,t3,t4,eb,hb'⟩:=(tp j (by omega)).kept kp;unfold PySem.W.kas_ask;rw[ea,eb];exact qX (s:={ s with heap:=h',toks:=tk }) ha hb' (hb.2.2 _ (eo (by omega))) (hb.2.2 _ (eo (by omega))) hC
 ·rw[hlen]at hπ hu;refine⟨.ref l,_,I.laid (t':=tk) kp hl (show bL X.prog X.w _ _ _ (.lst _)from⟨?_,_,e,gW rv π.toList,he⟩),rfl,q _ π (I.hok.fresh hl) hπ hu⟩;rw[D8,Fm,hπ.size,<-hlen,D8];exact h2
theorem dN{K:D5}{H:Hp}:∀{kvs:SpT} {xs:List SpE},xs.map (·.1)=kvs.map (·.1)->(∀x∈xs,bj K H x.2.1 x.1)->ax K H ((kvs.map (·.1)).map prD) (xs.map fun x=>V.ref x.2.1)
 |[],[],_,_=>by rw[EX,EX,EX];exact ax.nil
 |y::kvs,x::xs,h,k=>by
  rw[D7,D7]at h
  injection h with e1 e2
  rw[D7,D7,D7]
  exact ax.cons (by rw[<-e1];exact ko (k x (by simp))) (dN e2 fun z hz=>k z (by simp[hz]))
 |[],_::_,h,_=>by cases h
 |_::_,[],h,_=>by cases h
def tQ:RC:=fun ds M Q=>match ds with
 |[.ref l]=>∃kvs:SpT,M l=some (dsM kvs)/\Pb (kvs.map (·.1))/\∀(z:Addr) (us':List (Int×Int)),M z=none->us'.Perm (kvs.map (·.1))->us'.Pairwise plt->Q (.ref z) (aq M z (.lst (us'.map prD)))
 |_=>False
theorem tZ(hc:X.calm=true):cP X (.builtin "sorted") tQ:=bJ (nC hc) fun vs H Q ⟨ds,M,R,rs,a,q,fin⟩=>by
 unfold tQ at q;split at q
 ·obtain⟨kvs,e,hb,q⟩:=q;obtain⟨v,rfl,r⟩:=bN rs;rw[Rep]at r;subst r;obtain⟨xs,h1,h2,h3,h4⟩:=Abs.dsp a e;have rx:=dN h2 h3;refine⟨_,xs,kvs.map (·.1),rfl,h1 _ _,oV rx,hb,fun z π hz hπ hu=>fin (.ref z) _ _ _ (.new hz) (by rw[Rep]) (a.gh hz (gK rx π.toList fun i hi=>?_)) ?_⟩
  ·have:i∈π:=by simpa using hi
   have:=hπ.perm.mem_iff.mp this;simpa using this
  ·rw[mY hπ];exact q z _ (a.fresh hz) (lB hπ) (rh hπ hu)
 ·exact q.elim
end
end SE
namespace SD
open PySem PySem.Spec PyProof.Rows L2
def wlN(L:List Int)(u:Int×Int):Nat->List Int
 |0=>[]
 |i+1=>wlN L u i++(if prL L i=u/\(prL L i).1≠(prL L i).2 then[(i:Int)]else[])
theorem i9(L:List Int)(u:Int×Int):∀i,(wlN L u i).length<=i
 |0=>E3 _
 |i+1=>by
  have:=i9 L u i
  unfold wlN
  split<;>simp<;>omega
structure Nb(L:List Int)(i:Nat)(M0 M:MH)(c:Addr)(kvs:SE.SpT)(A:Int×Int->Addr):Prop where
 d:M c=some (SE.dsM kvs)
 some:∀u,wlN L u i≠[]->SE.a9 kvs u=Option.some (.ref (A u))/\M (A u)=Option.some (.lst ((wlN L u i).map D.int))/\A u≠c/\M0 (A u)=Option.none
 none:∀u,wlN L u i=[]->SE.a9 kvs u=Option.none
 inj:∀u v,wlN L u i≠[]->wlN L v i≠[]->A u=A v->u=v
 nd:(kvs.map (·.1)).Nodup
theorem j0(kvs:SE.SpT)(u:Int×Int):SE.a9 kvs u≠none↔u∈kvs.map (·.1):=by
 unfold SE.a9;rw[ne_eq,Option.map_eq_none_iff,List.find?_eq_none,EJ];constructor
 ·intro h;refine Classical.byContradiction fun z=>h fun x hx hq=>z ⟨x,hx,by simpa using hq⟩
 ·rintro⟨x,hx,e⟩ h;exact h x hx (by simpa using e)
theorem vY{kvs:SE.SpT}{u:Int×Int}(d:D)(h:SE.a9 kvs u=none):SE.putD kvs u d=kvs++[(u,d)]/\∀v,SE.a9 (SE.putD kvs u d) v=if v=u then some d else SE.a9 kvs v:=by
 have e:SE.putD kvs u d=kvs++[(u,d)]:=by unfold SE.putD;rw[if_neg];intro z;obtain⟨x,hx,hq⟩:=List.any_eq_true.mp z;exact absurd h ((j0 kvs u).mpr (EJ.mpr ⟨x,hx,by simpa using hq⟩))
 refine⟨e,fun v=>?_⟩;rw[e];unfold SE.a9;rw[List.find?_append];by_cases z:v=u
 ·subst z;have:(kvs.find? fun x=>decide (x.1=v))=none:=by unfold SE.a9 at h;exact Option.map_eq_none_iff.mp h
  rw[this,if_pos rfl];simp
 ·rw[if_neg z];have:([(u,d)]:SE.SpT).find? (fun x=>decide (x.1=v))=none:=by simp;exact fun y=>z y.symm
  rw[this];simp
theorem Nb.nil{L:List Int}{M0 M:MH}{c:Addr}(h:M c=Option.some (SE.dsM [])):Nb L 0 M0 M c [] (fun _=>0):=⟨h,fun u z=>absurd rfl z,fun u _=>rfl,fun u v z=>absurd rfl z,List.nodup_nil⟩
theorem pC{L:List Int}(h:∀x∈L,Ld x)(w:Nat):Ld (prL L w).1/\Ld (prL L w).2:=by
 have g:∀j:Nat,Ld ((L[j]?).getD 0):=fun j=>by
  cases e:L[j]? with
  |none=>exact⟨by decide,by decide⟩
  |some v=>exact h v (Ej e)
 unfold prL;dsimp only;split
 ·exact⟨g _,g _⟩
 ·exact⟨g _,g _⟩
theorem jY{L:List Int}{u:Int×Int}:∀{i},wlN L u i≠[]->∃w,w<i/\prL L w=u/\u.1≠u.2
 |0,h=>absurd rfl h
 |i+1,h=>by
  by_cases z:prL L i=u/\(prL L i).1≠(prL L i).2
  ·exact⟨i,by omega,z.1,by rw[<-z.1];exact z.2⟩
  ·rw[wlN,if_neg z,EV]at h
   obtain⟨w,a,b⟩:=jY h
   exact⟨w,by omega,b⟩
theorem vD(a b c d:Int):EH (.list ([a,b].map Fc)) (.list ([c,d].map Fc))=decide ((a,b)=(c,d)):=by simp only[D7,EX,EH,Fj,ja,Bool.and_true,<-Bool.decide_and,Prod.mk.injEq]
theorem uA{L:List Int}{j:Nat}{ns:List Int}(p:ns.Perm [(L[2*j]?).getD 0,(L[2*j+1]?).getD 0])(o:ns.Pairwise (·<=·)):ns=[(prL L j).1,(prL L j).2]:=by rw[n6 p o];unfold prL;dsimp only;split<;>rfl
theorem mJ(t b X g h u:Int):Ma.ut t b X 1 (g*u-h)=Ma.ut (g*t) b (X-h*t) 1 u:=by unfold Ma.ut;rw[show(g*u-h)*t+X*1=u*(g*t)+(X-h*t)*1 by grind]
theorem wG(t b X Y g h:Int)(w:Wl):rwl t b X Y (raw g h w)=rwl (g*t) b (X-h*t) (Y-h*t) w:=by unfold rwl raw;dsimp only;rw[mJ,mJ,mJ,mJ]
theorem uh(t b X Y g h:Int)(ws:List Wl):(ws.map (raw g h)).map (rwl t b X Y)=ws.map (rwl (g*t) b (X-h*t) (Y-h*t)):=by rw[GB];exact List.map_congr_left fun w _=>wG t b X Y g h w
theorem wH{t b X Y g h:Int}(S:Scl t b X Y)(G:Gs g h)(ht:t<=10^20)(hb:b<=10^25)(hx:-(10^27)<=X/\X<=10^27)(hy:-(10^27)<=Y/\Y<=10^27):Scl (g*t) b (X-h*t) (Y-h*t):=by have t0:=S.t0;have b0:=S.b0;have g0:=G.g0;have g1:=G.g1;have h0:=G.h0;have h1:=G.h1;have a1:0<g*t:=Ez g0 t0;have a2:g*t<=12*10^20:=Int.mul_le_mul g1 ht (by omega) (by decide);have a3:0<=h*t:=Int.mul_nonneg h0 (by omega);have a4:h*t<=24*10^20:=Int.mul_le_mul h1 ht (by omega) (by decide);exact⟨a1,by omega,b0,by omega,by omega,by omega,by omega,by omega⟩
theorem uj{a c:List (Int×Int)}(ha:a.Pairwise plt)(hc:c.Pairwise plt)(h:∀u,u∈a↔u∈c):a=c:=by
 have nd:∀{l:List (Int×Int)},l.Pairwise plt->l.Nodup:=fun{l} hl=>hl.imp fun{x y} z e=>by subst e;exact qM _ z
 exact m5 ((List.perm_ext_iff_of_nodup (nd ha) (nd hc)).mpr h) ha hc
theorem iK:∀(ts:List Str) (k:Nat) (acc:Str),(textFrom k acc ts).length<=acc.length+piled ts
 |[],k,acc=>Nat.le_add_right _ _
 |t::r,k,acc=>by
  have h:=iK r (k+1) (acc++(if k>0 then ", " else "":String)++t)
  have e:(acc++(if k>0 then ", " else "":String)++t).length<=acc.length+2+t.length:=by
   rw[strLen_append,strLen_append]
   have:(((if k>0 then ", " else "":String):Str)).length<=2:=by split<;>decide
   omega
  rw[piled_cons]
  show(textFrom (k+1) _ r).length<=_
  omega
theorem iJ(ts:List Str):(listText ts).length<=piled ts+2:=by unfold listText;rw[strLen_append];have h:=iK ts 0 "[";have e1:((("[":String):Str)).length=1:=rfl;have e2:((("]":String):Str)).length=1:=rfl;rw[e1]at h;rw[e2];omega
theorem gD(ts:List Str):(tupleText ts).length<=piled ts+3:=by
 unfold tupleText;rw[strLen_append,strLen_append];have e1:((("(":String):Str)).length=1:=rfl;have e3:(((if ts.length==1 then ",)" else ")":String):Str)).length<=2:=by split<;>decide
 rw[e1];by_cases h:ts=[]
 ·subst h;have:(Str.join ", " []).length=0:=rfl;omega
 ·have:=join_length_add ts h;omega
theorem jd{n:Nat}:∀{ts:List Str},(∀t∈ts,t.length<=n)->piled ts<=ts.length*(n+2)
 |[],_=>EZ _
 |t::ts,h=>by
  have:=jd (ts:=ts) fun x hx=>h x (by simp[hx])
  have:=h t (by simp)
  rw[piled_cons,EA,Nat.succ_mul]
  omega
theorem oA:∀n:_root_.Fin 81,(PyData.shown (.int ((n.val:Nat):Int))).length<=2:=by decide +kernel
theorem jg{i:Int}(h:Ld i):(PyData.shown (.int i)).length<=2:=by have:=oA ⟨i.toNat,by unfold Ld at h;omega⟩;rw[show(((⟨i.toNat,by unfold Ld at h;omega⟩:_root_.Fin 81).val:Nat):Int)=i by unfold Ld at h;show((i.toNat:Nat):Int)=i;omega]at this;exact this
theorem d3{α:Type}(f:α->FT):∀l:List α,PyData.shownAll (l.map f)=l.map fun a=>(f a).shown
 |[]=>rfl
 |a::l=>by rw[D7,PyData.shownAll,d3 f l];rfl
theorem jV{ns:List Int}(h:∀i∈ns,Ld i):(PyData.shown (.list (ns.map Fc))).length<=ns.length*4+2:=by
 show(listText (PyData.shownAll (ns.map Fc))).length<=_;rw[d3];refine ER (iJ _) ?_;have:=jd (n:=2) (ts:=ns.map fun a=>(Fc a).shown) fun t ht=>by obtain⟨i,hi,rfl⟩:=EJ.mp ht;exact jg (h i hi)
 rw[D8]at this;omega
def bP(L:List Int)(n:Nat)(u:Int×Int):FT:=.tuple [.int u.1,.int u.2,.list ((wlN L u n).map Fc)]
def aP(L:List Int)(n:Nat)(us:List (Int×Int))(ins:List Int):FT:=.tuple [.list (us.map (bP L n)),.list (ins.map Fc)]
theorem oG{i:Int}(h:Ld i):PyData.showable (.int i)=true:=by show decide (i.natAbs.log2<1920)=true;have:=Nat.log2_le_self i.natAbs;unfold Ld at h;exact decide_eq_true (by omega)
theorem mM:∀{ns:List Int},(∀i∈ns,Ld i)->FP (ns.map Fc)=true
 |[],_=>rfl
 |i::ns,h=>by rw[D7,FP,oG (h i (by simp)),mM fun x hx=>h x (by simp[hx])];rfl
theorem mH:∀ns:List Int,FY (ns.map Fc)=false
 |[]=>rfl
 |i::ns=>by rw[D7,FY,mH ns];rfl
theorem mS:∀ns:List Int,Fi (ns.map Fc)<=1
 |[]=>nbL rfl
 |i::ns=>by
  rw[D7,Fi]
  exact Nat.max_le.mpr ⟨nbL rfl,mS ns⟩
theorem qN{L:List Int}{u:Int×Int}:∀{i:Nat},∀x∈wlN L u i,0<=x/\x<i
 |0,x,h=>by cases h
 |i+1,x,h=>by
  unfold wlN at h
  rcases Ek.mp h with z|z
  ·have:=qN x z;omega
  ·split at z
   ·have:x=(i:Int):=by simpa using z
    omega
   ·cases z
section
variable{L:List Int}{n:Nat}(hn:n<=40)
include hn
theorem yZ(u:Int×Int):∀x∈wlN L u n,Ld x:=fun x hx=>by have:=qN x hx;exact⟨by omega,by omega⟩
theorem CT{u:Int×Int}(h:Ld u.1/\Ld u.2):(bP L n u).showable=true:=by show(PyData.showable (.int u.1)&&(PyData.showable (.int u.2)&&(FP ((wlN L u n).map Fc)&&true)))=true;rw[oG h.1,oG h.2,mM (yZ hn u)];rfl
theorem Ay{u:Int×Int}(h:Ld u.1/\Ld u.2):(bP L n u).shown.length<=600:=by show(tupleText [(Fc u.1).shown,(Fc u.2).shown,(PyData.list ((wlN L u n).map Fc)).shown]).length<=600;refine ER (gD _) ?_;rw[piled_cons,piled_cons,piled_cons,piled_nil];have a:=jg h.1;have b:=jg h.2;have c:=jV (yZ (L:=L) hn u);have d:=i9 L u n;omega
theorem u9:∀{us:List (Int×Int)},(∀u∈us,Ld u.1/\Ld u.2)->FP (us.map (bP L n))=true/\FY (us.map (bP L n))=false/\Fi (us.map (bP L n))<=5
 |[],_=>⟨rfl,rfl,nbL rfl⟩
 |u::us,h=>by
  obtain⟨a,b,c⟩:=u9 (us:=us) fun x hx=>h x (by simp[hx])
  rw[D7]
  refine⟨?_,?_,?_⟩
  ·rw[FP,CT hn (h u (by simp)),a];rfl
  ·rw[FY,b]
   show(PyData.hasDict (.int u.1)||(PyData.hasDict (.int u.2)||(FY ((wlN L u n).map Fc)||false))||false)=false
   rw[mH];rfl
  ·rw[Fi]
   refine Nat.max_le.mpr ⟨?_,c⟩
   have:=mS (wlN L u n)
   simp only[bP,PyData.depth,Fi]
   omega
theorem y6{us:List (Int×Int)}{ins:List Int}(hu:∀u∈us,Ld u.1/\Ld u.2)(hl:us.length<=40)(hi:∀x∈ins,Ld x)(hil:ins.length<=40):Shn (aP L n us ins):=by
 obtain⟨a,b,c⟩:=u9 (L:=L) hn hu;have sz:1000000<=Ea:=nbL rfl;refine⟨?_,?_,?_,?_⟩
 ·show(FP (us.map (bP L n))&&(FP (ins.map Fc)&&true))=true;rw[a,mM hi];rfl
 ·show(FY (us.map (bP L n))||(FY (ins.map Fc)||false))=false;rw[b,mH];rfl
 ·have:=mS ins;simp only[aP,PyData.depth,Fi];omega
 ·show(tupleText [(PyData.list (us.map (bP L n))).shown,(PyData.list (ins.map Fc)).shown]).length<=Ea;refine ER (gD _) ?_;rw[piled_cons,piled_cons,piled_nil];have e1:=jV hi
  have e2:(PyData.list (us.map (bP L n))).shown.length<=us.length*602+2:=by
   show(listText (PyData.shownAll (us.map (bP L n)))).length<=_
   rw[d3]
   refine ER (iJ _) ?_
   have:=jd (n:=600) (ts:=us.map fun u=>(bP L n u).shown) fun t ht=>by obtain⟨u,hu',rfl⟩:=EJ.mp ht;exact Ay hn (hu u hu')
   rw[D8]at this
   omega
  omega
end
theorem pU{M:MH}{lf li:Addr}{L:List Int}{n:Nat}{us:List (Int×Int)}{A:Int×Int->Addr}{ins:List Int}(h1:M lf=some (.lst (us.map fun u=>D.tup [.int u.1,.int u.2,.ref (A u)])))(h2:∀u∈us,M (A u)=some (.lst ((wlN L u n).map D.int)))(h3:M li=some (.lst (ins.map D.int))):Pd M (.tup [.ref lf,.ref li]) (aP L n us ins):=by
 have go:∀us:List (Int×Int),(∀u∈us,M (A u)=some (.lst ((wlN L u n).map D.int)))->Pds M (us.map fun u=>D.tup [.int u.1,.int u.2,.ref (A u)]) (us.map (bP L n)):=fun us=>by
  induction us with
  |nil=>exact fun _=>.nil
  |cons u us ih=>exact fun h=>.cons (.tup (.cons (.int _) (.cons (.int _) (.cons (.lst (h u (by simp)) (eR _)) .nil)))) (ih fun v hv=>h v (by simp[hv]))
 exact .tup (.cons (.lst h1 (go us h2)) (.cons (.lst h3 (eR _)) .nil))
section
variable{P:Ee}{w:EB}{K:D5}{mg:Str->Option D4}{base:Heap}{x:Str}{st:Stmt}{N:List Str}{k:Nat}
def sD1(C:D->MH->DK->Prop):SpD:=fun ds M Q=>match ds with
 |[a]=>C a M Q
 |_=>False
theorem dS{p:Str}{C:D->MH->DK->Prop}(T:Txt K mg x st)(S:FnScope N [p] (ao st))
 (body:∀(f:Addr) (cdv:D4) (A:EE) (outer:List Env) (s:D6) (H:Hp) (E:XK),Room k (A.deeper (envOfC x (ao st) s.heap.objs.size f cdv))->
  ∃t,DSs (gR CX0 P w K mg base N x (ao st) f cdv A outer s H E).nox (aS st) t/\∀a M Q,C a M Q->t { nx:=fun _ M'=>Ret Q .non M',rt:=Ret Q } (eP N [a]) M)
 (hb:∀(kV doc pm:D4) (an:Option Addr) (cdv ct a:D4),bindArgs (FC x x (bY st) (aS st) (ao st) .none kV doc pm an cdv ct) ⟨[a],[]⟩=pure ([p].zip [a]):=by intros;rfl):Cal P w K mg base (k+1) x (sD1 C):=by
 refine wW T S (fun kV doc pm an cdv ct us hl=>?_) (fun ds M Q h=>?_) fun f cdv A outer s H E hr=>?_
 ·match us,hl with
  |[_],_=>exact hb ..
 ·unfold sD1 at h
  split at h
  ·rfl
  ·exact h.elim
 ·obtain⟨t,h,hq⟩:=body f cdv A outer s H E hr
  refine⟨t,h,fun ds M Q h=>?_⟩
  unfold sD1 at h
  split at h
  ·exact hq _ _ _ h
  ·exact h.elim
def sD2(C:D->D->MH->DK->Prop):SpD:=fun ds M Q=>match ds with
 |[a,b]=>C a b M Q
 |_=>False
theorem aZ{p q:Str}{C:D->D->MH->DK->Prop}(T:Txt K mg x st)(S:FnScope N [p,q] (ao st))
 (body:∀(f:Addr) (cdv:D4) (A:EE) (outer:List Env) (s:D6) (H:Hp) (E:XK),Room k (A.deeper (envOfC x (ao st) s.heap.objs.size f cdv))->
  ∃t,DSs (gR CX0 P w K mg base N x (ao st) f cdv A outer s H E).nox (aS st) t/\∀a b M Q,C a b M Q->t { nx:=fun _ M'=>Ret Q .non M',rt:=Ret Q } (eP N [a,b]) M)
 (hb:∀(kV doc pm:D4) (an:Option Addr) (cdv ct a b:D4),bindArgs (FC x x (bY st) (aS st) (ao st) .none kV doc pm an cdv ct) ⟨[a,b],[]⟩=pure ([p,q].zip [a,b]):=by intros;rfl):Cal P w K mg base (k+1) x (sD2 C):=by
 refine wW T S (fun kV doc pm an cdv ct us hl=>?_) (fun ds M Q h=>?_) fun f cdv A outer s H E hr=>?_
 ·match us,hl with
  |[_,_],_=>exact hb ..
 ·unfold sD2 at h
  split at h
  ·rfl
  ·exact h.elim
 ·obtain⟨t,h,hq⟩:=body f cdv A outer s H E hr
  refine⟨t,h,fun ds M Q h=>?_⟩
  unfold sD2 at h
  split at h
  ·exact hq _ _ _ _ h
  ·exact h.elim
def sD3(C:D->D->D->MH->DK->Prop):SpD:=fun ds M Q=>match ds with
 |[a,b,c]=>C a b c M Q
 |_=>False
theorem oB{p q r:Str}{C:D->D->D->MH->DK->Prop}(T:Txt K mg x st)(S:FnScope N [p,q,r] (ao st))
 (body:∀(f:Addr) (cdv:D4) (A:EE) (outer:List Env) (s:D6) (H:Hp) (E:XK),Room k (A.deeper (envOfC x (ao st) s.heap.objs.size f cdv))->
  ∃t,DSs (gR CX0 P w K mg base N x (ao st) f cdv A outer s H E).nox (aS st) t/\∀a b c M Q,C a b c M Q->t { nx:=fun _ M'=>Ret Q .non M',rt:=Ret Q } (eP N [a,b,c]) M)
 (hb:∀(kV doc pm:D4) (an:Option Addr) (cdv ct a b c:D4),bindArgs (FC x x (bY st) (aS st) (ao st) .none kV doc pm an cdv ct) ⟨[a,b,c],[]⟩=pure ([p,q,r].zip [a,b,c]):=by intros;rfl):Cal P w K mg base (k+1) x (sD3 C):=by
 refine wW T S (fun kV doc pm an cdv ct us hl=>?_) (fun ds M Q h=>?_) fun f cdv A outer s H E hr=>?_
 ·match us,hl with
  |[_,_,_],_=>exact hb ..
 ·unfold sD3 at h
  split at h
  ·rfl
  ·exact h.elim
 ·obtain⟨t,h,hq⟩:=body f cdv A outer s H E hr
  refine⟨t,h,fun ds M Q h=>?_⟩
  unfold sD3 at h
  split at h
  ·exact hq _ _ _ _ _ h
  ·exact h.elim
def sD4(C:D->D->D->D->MH->DK->Prop):SpD:=fun ds M Q=>match ds with
 |[a,b,c,d]=>C a b c d M Q
 |_=>False
theorem CV{p q r t:Str}{C:D->D->D->D->MH->DK->Prop}(T:Txt K mg x st)(S:FnScope N [p,q,r,t] (ao st))
 (body:∀(f:Addr) (cdv:D4) (A:EE) (outer:List Env) (s:D6) (H:Hp) (E:XK),Room k (A.deeper (envOfC x (ao st) s.heap.objs.size f cdv))->
  ∃t,DSs (gR CX0 P w K mg base N x (ao st) f cdv A outer s H E).nox (aS st) t/\∀a b c d M Q,C a b c d M Q->t { nx:=fun _ M'=>Ret Q .non M',rt:=Ret Q } (eP N [a,b,c,d]) M)
 (hb:∀(kV doc pm:D4) (an:Option Addr) (cdv ct a b c d:D4),bindArgs (FC x x (bY st) (aS st) (ao st) .none kV doc pm an cdv ct) ⟨[a,b,c,d],[]⟩=pure ([p,q,r,t].zip [a,b,c,d]):=by intros;rfl):Cal P w K mg base (k+1) x (sD4 C):=by
 refine wW T S (fun kV doc pm an cdv ct us hl=>?_) (fun ds M Q h=>?_) fun f cdv A outer s H E hr=>?_
 ·match us,hl with
  |[_,_,_,_],_=>exact hb ..
 ·unfold sD4 at h
  split at h
  ·rfl
  ·exact h.elim
 ·obtain⟨t,h,hq⟩:=body f cdv A outer s H E hr
  refine⟨t,h,fun ds M Q h=>?_⟩
  unfold sD4 at h
  split at h
  ·exact hq _ _ _ _ _ _ h
  ·exact h.elim
end
end SD
namespace QQ
open PySem PySem.Spec PyProof.Rows L2 SD
def top(i:Nat):Stmt:=Es.main.body.getD i (.Pass ⟨0,0,0,0⟩)
abbrev lI:Stmt:=top 43
abbrev jr:Stmt:=top 44
abbrev eM:Stmt:=top 48
abbrev eF:Stmt:=top 49
abbrev gI:Stmt:=top 50
abbrev jc:Stmt:=top 45
abbrev m3:Stmt:=top 46
abbrev ix:Stmt:=top 47
abbrev kj:Stmt:=top 51
abbrev dX:Stmt:=top 52
abbrev fI:Stmt:=top 59
abbrev je:Stmt:=top 53
abbrev iH:Stmt:=top 55
abbrev jQ:Stmt:=top 56
abbrev iy:Stmt:=top 54
abbrev lL:Stmt:=top 58
abbrev iB:Stmt:=top 26
abbrev dY:Stmt:=top 27
abbrev yV:Stmt:=top 17
abbrev u7:Stmt:=top 18
abbrev lz:Stmt:=top 19
abbrev eB:Stmt:=top 28
abbrev fL:Stmt:=top 29
abbrev iG:Stmt:=top 30
abbrev jO:Stmt:=top 31
abbrev dn:Stmt:=top 4
abbrev eE:Stmt:=top 7
abbrev kg:Stmt:=top 8
abbrev f6:Stmt:=top 32
abbrev dE:Stmt:=top 34
abbrev lP:Stmt:=top 6
abbrev kh:Stmt:=top 10
abbrev gB:Stmt:=top 12
abbrev fo:Stmt:=top 35
abbrev fM:Stmt:=top 13
abbrev fJ:Stmt:=top 14
abbrev rz:Stmt:=top 21
abbrev jm:Stmt:=top 11
abbrev jG:Stmt:=top 22
abbrev jf:Stmt:=top 5
abbrev jW:Stmt:=top 15
abbrev jH:Stmt:=top 16
abbrev jL:Stmt:=top 23
abbrev fP:Stmt:=top 24
abbrev gj:Stmt:=top 36
abbrev dQ:Stmt:=top 37
abbrev fg:Stmt:=top 39
abbrev nj:Stmt:=top 41
abbrev gf:Stmt:=top 40
abbrev j4:Stmt:=top 57
abbrev yJ:Stmt:=top 60
local macro_rules | `(tactic| walk_at "sc") => `(tactic| exact ⟨rfl, rfl, rfl, by decide, rfl, by decide, by decide⟩)
theorem _root_.SD.Cal.m{P:Ee}{w:EB}{K:D5}{mg:Str->Option D4}{base:Heap}{j k:Nat}{x:Str}{sp:SpD}(h:Cal P w K mg base j x sp)(l:j<=k:=by decide):Cal P w K mg base k x sp:=h.mono l
structure Tx(K:D5)(mg:Str->Option D4):Prop where
 f_law_pot:Txt K mg "_law_pot" lI
 f_law_take:Txt K mg "_law_take" jr
 f_law_new_spot:Txt K mg "_law_new_spot" eM
 f_law_some_spot:Txt K mg "_law_some_spot" eF
 f_law_square:Txt K mg "_law_square" gI
 f_law_side:Txt K mg "_law_side" jc
 f_law_on:Txt K mg "_law_on" m3
 f_law_apart:Txt K mg "_law_apart" ix
 f_law_laid:Txt K mg "_law_laid" kj
 f_law_shuts_here:Txt K mg "_law_shuts_here" dX
 f_law_squares:Txt K mg "_law_squares" fI
 f_law_frac:Txt K mg "_law_frac" je
 f_law_given:Txt K mg "_law_given" iH
 f_law_plot:Txt K mg "_law_plot" jQ
 f_law_frame:Txt K mg "_law_frame" iy
 f_law_due:Txt K mg "_law_due" lL
 f_face_ends:Txt K mg "face_ends" iB
 f_faces_by_start:Txt K mg "faces_by_start" dY
 f_gap:Txt K mg "gap" yV
 f_lean:Txt K mg "lean" u7
 f_side_of:Txt K mg "side_of" lz
 f_is_met_sooner:Txt K mg "is_met_sooner" eB
 f_face_behind:Txt K mg "face_behind" fL
 f_ring_from:Txt K mg "ring_from" iG
 f_rings_of:Txt K mg "rings_of" jO
 f_greatest_divisor:Txt K mg "greatest_divisor" dn
 f_common_bottom:Txt K mg "common_bottom" eE
 f_top_over:Txt K mg "top_over" kg
 f_twice_area:Txt K mg "twice_area" f6
 f_outer_and_inner:Txt K mg "outer_and_inner" dE
 f_is_less:Txt K mg "is_less" lP
 f_is_ahead:Txt K mg "is_ahead" kh
 f_earlier_of:Txt K mg "earlier_of" gB
 f_first_corner:Txt K mg "first_corner" fo
 f_place_among:Txt K mg "place_among" fM
 f_ahead_first:Txt K mg "ahead_first" fJ
 f_spans:Txt K mg "spans" rz
 f_later_of:Txt K mg "later_of" jm
 f_is_above:Txt K mg "is_above" jG
 f_fraction:Txt K mg "fraction" jf
 f_own_spot:Txt K mg "own_spot" jW
 f_own_wall:Txt K mg "own_wall" jH
 f_upper_of:Txt K mg "upper_of" jL
 f_upper_below:Txt K mg "upper_below" fP
 f_land_about:Txt K mg "land_about" gj
 f_lands_of_faces:Txt K mg "lands_of_faces" dQ
 f_lands_beside:Txt K mg "lands_beside" fg
 f_within:Txt K mg "within" nj
 f_neighbours:Txt K mg "neighbours" gf
 f_law_same:Txt K mg "_law_same" j4
 f_law:Txt K mg "law" yJ
 b_abs:mg "abs"=none
 b_enumerate:mg "enumerate"=none
 b_int:mg "int"=none
 b_len:mg "len"=none
 b_list:mg "list"=none
 b_max:mg "max"=none
 b_min:mg "min"=none
 b_range:mg "range"=none
 b_repr:mg "repr"=none
 b_sorted:mg "sorted"=none
 b_tuple:mg "tuple"=none
 b_zip:mg "zip"=none
theorem fT:FnScope ["_law_script","_law_k","_law_cell"] ["_law_script","_law_k"] (ao lI):=by walk_at "sc"
inductive Cn_law_pot(x y:D)(M:MH)(Q:DK):Prop
 |mk (ns:List Int) (k:Int) (_:x=.rol (FA D.int ns)) (_:y=.int k) (_:0<=k) (_:∀r o,M r=none->Pot (aq M r o) r 0->Q (.ref r) (aq M r o))
variable{P:Ee}{w:EB}{K:D5}{mg:Str->Option D4}{base:Heap}
theorem rX(T:Tx K mg):Cal P w K mg base 1 "_law_pot" (sD2 Cn_law_pot):=by
 refine aZ (k:=0) T.f_law_pot fT fun f cdv A outer s H E hr=>⟨_,(ag (aA 2 fT.nd ae) (ag (bf (aH (cO hr.units) (dv 1) (aF cv rfl T.b_len cB (aa (dv 0) ab))) (aj (aA 2 fT.nd (aw (dv 0) (dv 1)))) aI) (aj (az (bI (aa (aF (ml rfl hr.units) rfl T.b_max oX (aa (dv 2) (aa (ar bG (nL gc ae) (dv 2)) ab))) (aa (ar d7 (dv 2) ae) (aa ae ab)))))))),fun _ _ M Q h=>?_⟩;obtain⟨ns,k,rfl,rfl,hk,q⟩:=h;refine cA (fun δ M'=>M'=M/\δ=[some (.rol (FA D.int ns)),some (.int k),some (.int 0)]) ?_ (fun hu=>hu _ _ ⟨rfl,rfl⟩);rintro δ M' ⟨e,rfl⟩;subst M';refine cA (fun δ M'=>M'=M/\∃z:Int,δ=[some (.rol (FA D.int ns)),some (.int k),some (.int z)]) ?_ (fun hu=>?_);rotate_left
 ·refine⟨_,rfl,_,rfl,trivial,_,rfl,?_⟩;refine bD (fun hl=>?_) (fun _=>hu _ _ ⟨rfl,0,rfl⟩);have hl':k<(ns.length:Int):=by simpa using hl
  obtain⟨j,rfl⟩:∃j:Nat,k=(j:Int):=⟨k.toNat,by omega⟩;have hj:j<ns.length:=by omega
  exact⟨_,rfl,_,rfl,.int ns[j],cF (by simp[hj]),hu _ _ ⟨rfl,_,rfl⟩⟩
 rintro δ M' ⟨e,z,rfl⟩;subst M';have hm:=Int.fmod_nonneg_of_pos z (show(0:Int)<2147483647 by decide);have hm2:=Int.fmod_lt_of_pos z (show(0:Int)<2147483647 by decide);refine⟨_,rfl,_,rfl,trivial,?_⟩;refine⟨_,rfl,(show(2147483647:Int)≠0 by decide),nbL rfl,fun r hr=>?_⟩;exact rtn (q r _ hr ⟨_,_,_,af,by omega,hm,hm2,by decide,by decide⟩)
theorem dD:FnScope ["_law_pot_here","_law_size","_law_digit","_law_mixed"] ["_law_pot_here","_law_size"] (ao jr):=by walk_at "sc"
inductive Cn_law_take(y z:D)(M:MH)(Q:DK):Prop
 |mk (r:Addr) (b:Int) (n:Nat) (_:y=.ref r) (_:z=.int b) (_:Pot M r n) (_:n<900000) (_:0<b) (_:Bd 8000 b) (_:∀v o,0<=v->v<b->Pot (aq M r o) r (n+1)->Q (.int v) (aq M r o))
theorem aC(T:Tx K mg):Cal P w K mg base 1 "_law_take" (sD2 Cn_law_take):=by
 refine aZ (k:=0) T.f_law_take dD fun f cdv A outer s H E hr=>⟨_,(ag (bf (aH (kB hr.units) (aw (dv 0) ae) ae) (ag (aA 2 dD.nd (ar d7 (aw (dv 0) ae) (dv 1))) (ag (cf (ar eG (aw (dv 0) ae) (dv 1)) (mC (dv 0) ae)) (aj (az (dv 2))))) aI) (ag (cf (ar aJ (aw (dv 0) ae) ae) (mC (dv 0) ae)) (ag (aA 3 dD.nd (ar d7 (ar aJ (ar aJ (ar aD (aw (dv 0) ae) ae) (ar aD (ar aD (aw (dv 0) ae) (aw (dv 0) ae)) ae)) ae) ae)) (ag (aA 3 dD.nd (ar d7 (ar aD (dv 3) (dv 3)) ae)) (aj (az (ar d7 (ar eG (ar d7 (ar aD (dv 3) (ar aJ (dv 3) ae)) ae) ae) (dv 1)))))))),fun _ _ M Q h=>?_⟩;obtain⟨r,b,n,rfl,rfl,⟨x,y,c,hM,hx,hy0,hy1,hc0,hc1⟩,hn,hb,hbd,q⟩:=h;have hb0:b≠0:=by omega
 have hm:∀n:Int,0<=n.fmod b/\n.fmod b<b:=fun n=>⟨Int.fmod_nonneg_of_pos _ hb,Int.fmod_lt_of_pos _ hb⟩;have hc64:Bd 64 (c+1):=by show(c+1).natAbs<2^64;omega
 have hy64:Bd 64 y:=by show y.natAbs<2^64;omega
 refine⟨_,rfl,_,_,hM,rfl,trivial,_,rfl,?_⟩;refine bD (fun h=>?_) (fun h=>?_)
 ·refine⟨_,rfl,_,_,hM,rfl,_,rfl,hb0,?_⟩;refine⟨_,rfl,_,_,hM,rfl,_,rfl,⟨hb0,hbd⟩,_,rfl,_,_,hM,rfl,?_⟩;have hx2:0<=Int.fdiv x b:=by rw[EI _ (by omega)];exact Int.ediv_nonneg hx (by omega)
  exact⟨_,rfl,rtn (q _ _ (hm _).1 (hm _).2 ⟨_,_,_,af,hx2,hy0,hy1,hc0,by omega⟩)⟩
 ·have hn:∀{m:Int} (n:Int),0<m->m<=2^31->Bd 64 (n.fmod m):=fun{m} n h0 h1=>by
   have a1:=Int.fmod_nonneg_of_pos n h0
   have a2:=Int.fmod_lt_of_pos n h0
   show(n.fmod m).natAbs<2^64
   omega
  refine⟨_,rfl,_,_,hM,rfl,_,rfl,_,_,hM,rfl,?_⟩;refine⟨_,rfl,_,_,af,rfl,aG hy64,?_⟩;refine⟨_,rfl,_,_,af,rfl,_,rfl,_,_,af,rfl,aG hc64,xH (aW (by decide)),(show(2147483629:Int)≠0 by decide),?_⟩;refine⟨_,rfl,_,rfl,aG (hn _ (by decide) (by decide)),(show(2147483587:Int)≠0 by decide),?_⟩;refine⟨_,rfl,_,rfl,aG (hn _ (by decide) (by decide)),(show(2147483563:Int)≠0 by decide),⟨by decide,aW (by decide)⟩,_,rfl,hb0,?_⟩;exact rtn (q _ _ (hm _).1 (hm _).2 ⟨_,_,_,af,hx,hy0,hy1,by omega,by omega⟩)
theorem iS:FnScope ["_law_pot_here","_law_wide"] ["_law_pot_here","_law_wide"] (ao eM):=by walk_at "sc"
inductive Cn_law_new_spot(u v:D)(M:MH)(Q:DK):Prop
 |mk (r:Addr) (n:Nat) (m:Int) (_:u=.ref r) (_:v=.int m) (_:Pot M r n) (_:n<800000) (_:(0<m/\m<=10)) (_:∀(p:Vc) M',(4<=p.1/\p.1<=13)->(4<=p.2/\p.2<=13)->Kx [r] M M'->Pot M' r (n+2)->Q (gp 6 24 p) M')
theorem ft(T:Tx K mg):Cal P w K mg base 2 "_law_new_spot" (sD2 Cn_law_new_spot):=by
 refine aZ (k:=1) T.f_law_new_spot iS fun f cdv A outer s H E hr=>⟨_,(aj (az (aB (aa (ar aD ae (ak (aC T).m hr (aa (dv 0) (aa (dv 1) ab)))) (aa (ar aD ae (ak (aC T).m hr (aa (dv 0) (aa (dv 1) ab)))) ab))))),fun _ _ M Q h=>?_⟩;obtain⟨r,n,m,rfl,rfl,P0,hn,hm,k⟩:=h;refine⟨_,rfl,_,rfl,r,m,n,rfl,rfl,P0,by omega,by omega,aW (by omega),fun x o1 hx0 hx1 P1=>?_⟩;refine⟨aG (aW (by decide)),_,rfl,_,rfl,r,m,n+1,rfl,rfl,P1,by omega,by omega,aW (by omega),fun y o2 hy0 hy1 P2=>⟨aG (aW (by decide)),nbL rfl,?_⟩⟩;have e:gp 6 24 (x+4,y+4)=.tup [.int (6*x),.int (6*y)]:=by unfold gp;rw[show 6*(x+4,y+4).1-24=6*x by show 6*(x+4)-24=_;omega,show 6*(x+4,y+4).2-24=6*y by show 6*(y+4)-24=_;omega]
 have:=k (x+4,y+4) _ ⟨by show 4<=x+4;omega,by show x+4<=13;omega⟩ ⟨by show 4<=y+4;omega,by show y+4<=13;omega⟩ ((Kx.refl.upd (by simp)).upd (by simp)) P2;rw[e]at this;exact rtn this
theorem gU:FnScope ["_law_pot_here","_law_shuts","_law_wide"] ["_law_pot_here","_law_shuts","_law_wide"] (ao eF):=by walk_at "sc"
inductive Cn_law_some_spot(u v x:D)(M:MH)(Q:DK):Prop
 |mk (r l:Addr) (n:Nat) (m:Int) (ws:List Wl) (_:u=.ref r) (_:v=.ref l) (_:x=.int m) (_:r≠l) (_:M l=some (.lst (ws.map (gwl 6 24)))) (_:(∀w∈ws,Un5 w)) (_:ws.length<=40) (_:Pot M r n) (_:n<700000) (_:(0<m/\m<=10)) (_:∀(p:Vc) M',B20 p->Kx [r] M M'->Pot M' r (n+3)->Q (gp 6 24 p) M')
theorem iR(T:Tx K mg):Cal P w K mg base 3 "_law_some_spot" (sD3 Cn_law_some_spot):=by
 refine oB (k:=2) T.f_law_some_spot gU fun f cdv A outer s H E hr=>⟨_,(ag (bf (oZ (yY (aH (b5 hr.units) (dv 1) (bI ab)) (ua (aH (b5 hr.units) (ak (aC T).m hr (aa (dv 0) (aa ae ab))) ae)))) (aj (az (ak (ft T).m hr (aa (dv 0) (aa (dv 2) ab))))) aI) (aj (az (aw (aw (dv 1) (ak (aC T).m hr (aa (dv 0) (aa (aF cv rfl T.b_len cB (aa (dv 1) ab)) ab)))) (ak (aC T).m hr (aa (dv 0) (aa ae ab))))))),fun _ _ _ M Q h=>?_⟩;obtain⟨r,l,n,m,ws,rfl,rfl,rfl,nrl,hl,hU,hlen,P0,hn,hm,k⟩:=h;(try dsimp only[SD.eW,SD.cZ,SD.bF,SD.fN,SD.eU,SD.dq,SD.dH,SD.tBD,SD.fR])
 refine⟨_,rfl,nbL rfl,fun z hz=>?_⟩;have hl1:∀{G},(aq M z G) l=some (.lst (ws.map (gwl 6 24))):=fun{G}=>by rw[ai (au hl hz)];exact hl
 have P1:∀{G},Pot (aq M z G) r n:=fun{G}=>P0.new hz;have k1:∀{G},Kx [r] M (aq M z G):=fun{G}=>Kx.refl.new hz;refine⟨_,_,.lst hl1 (uT 6 24 ws),.lst af .nil,sH 6 24 ws,rfl,_,rfl,?_⟩;rw[pW];have newS:∀{M1:MH} {n1:Nat},Kx [r] M M1->Pot M1 r n1->n1<=n+1->eU (vC (sD2 Cn_law_new_spot) (pj (tVarD 0) (pj (tVarD 2) yA))) { nx:=fun x M'=>Ret Q .non M',rt:=Ret Q } [some (.ref r),some (.ref l),some (.int m)] M1:=fun{M1 n1} kx P2 le=>⟨_,rfl,_,rfl,r,n1,m,rfl,rfl,P2,by omega,hm,fun p M' p1 p2 kx' P3=>rtn (k p M' ⟨by omega,by omega⟩ (kx.trans kx') (P3.le (by omega)))⟩;refine bD (fun hne=>?_) (fun hne=>?_)
 ·exact newS k1 P1 (by omega)
 have hpos:0<ws.length:=by
  cases ws with
  |nil=>simp at hne
  |cons w ws=>simp
 refine⟨_,rfl,r,3,n,rfl,rfl,P1,by omega,by decide,aW (by decide),fun v o h0 h1 P2=>⟨_,rfl,?_⟩⟩;have k2:=k1 (G:=.lst []);refine bD (fun _=>newS (k2.upd (by simp)) P2 (by omega)) (fun _=>?_);have hl2:(aq (aq M z (.lst [])) r o) l=some (.lst (ws.map (gwl 6 24))):=by rw[ai nrl.symm];exact hl1
 have k3:Kx [r] M (aq (aq M z (.lst [])) r o):=k2.upd (by simp);refine⟨_,rfl,_,rfl,_,rfl,_,hl2,r,_,n+1,rfl,rfl,P2,by omega,(by rw[D8];omega),aW (by rw[D8];omega),fun v2 o2 a0 a1 P3=>?_⟩;obtain⟨w,hw,ew⟩:=xB (g:=6) (h:=24) (ws:=ws) a0 (by rw[D8]at a1;exact a1);refine⟨_,_,(by rw[ai nrl.symm];exact hl2),ew,?_⟩;refine⟨_,rfl,r,2,n+2,rfl,rfl,P3,by omega,by decide,aW (by decide),fun v3 o3 b0 b1 P4=>?_⟩;obtain⟨p,bp,ep⟩:=xM (g:=6) (h:=24) (hU w hw) b0 b1;exact⟨_,ep,rtn (k p _ bp ((k3.upd (by simp)).upd (by simp)) P4)⟩
theorem cJ:FnScope ["_law_pot_here","_law_wide","_law_x","_law_y","_law_far"] ["_law_pot_here","_law_wide"] (ao gI):=by walk_at "sc"
inductive Cn_law_square(u v:D)(M:MH)(Q:DK):Prop
 |mk (r:Addr) (n:Nat) (m:Int) (_:u=.ref r) (_:v=.int m) (_:Pot M r n) (_:n<700000) (_:(0<m/\m<=10)) (_:∀(q:Addr) (us:List Vc) M',Kx [r] M M'->r≠q->M q=none->M' q=some (.lst (us.map (gp 6 24)))->us.length=5->(∀u∈us,B20 u)->Pot M' r (n+4)->Q (.ref q) M')
theorem mL(T:Tx K mg):Cal P w K mg base 3 "_law_square" (sD2 Cn_law_square):=by
 refine aZ (k:=2) T.f_law_square cJ fun f cdv A outer s H E hr=>⟨_,(ag (cf (ak (ft T).m hr (aa (dv 0) (aa (dv 1) ab))) (bA rfl (ay (av 2 cJ.nd) (ay (av 3 cJ.nd) aT)))) (ag (aA 4 cJ.nd (ar aD ae (ar aJ ae (ak (aC T).m hr (aa (dv 0) (aa ae ab)))))) (ag (bf (aH (b5 hr.units) (ak (aC T).m hr (aa (dv 0) (aa ae ab))) ae) (aj (az (bI (aa (aB (aa (ar bG (dv 2) (dv 4)) (aa (ar bG (dv 3) (dv 4)) ab))) (aa (aB (aa (ar aJ (dv 2) (dv 4)) (aa (ar bG (dv 3) (dv 4)) ab))) (aa (aB (aa (ar aJ (dv 2) (dv 4)) (aa (ar aJ (dv 3) (dv 4)) ab))) (aa (aB (aa (ar bG (dv 2) (dv 4)) (aa (ar aJ (dv 3) (dv 4)) ab))) (aa (aB (aa (ar bG (dv 2) (dv 4)) (aa (ar bG (dv 3) (dv 4)) ab))) ab)))))))) aI) (aj (az (bI (aa (aB (aa (ar bG (dv 2) (dv 4)) (aa (dv 3) ab))) (aa (aB (aa (dv 2) (aa (ar bG (dv 3) (dv 4)) ab))) (aa (aB (aa (ar aJ (dv 2) (dv 4)) (aa (dv 3) ab))) (aa (aB (aa (dv 2) (aa (ar aJ (dv 3) (dv 4)) ab))) (aa (aB (aa (ar bG (dv 2) (dv 4)) (aa (dv 3) ab))) ab))))))))))),fun _ _ M Q h=>?_⟩;obtain⟨r,n,m,rfl,rfl,P0,hn,hm,k⟩:=h;refine⟨_,rfl,_,rfl,r,n,m,rfl,rfl,P0,by omega,hm,fun p M1 p1 p2 kx P1=>?_⟩;refine⟨_,rfl,rfl,_,_,rfl,_,_,rfl,rfl,?_⟩;refine⟨_,rfl,r,4,n+2,rfl,rfl,P1,by omega,by decide,aW (by decide),fun f o h0 h1 P2=>⟨aG (aW (by decide)),?_⟩⟩;refine⟨_,rfl,r,2,n+3,rfl,rfl,P2,by omega,by decide,aW (by decide),fun v o2 a0 a1 P3=>⟨_,rfl,?_⟩⟩;have kx3:Kx [r] M (aq (aq M1 r o) r o2):=(kx.upd (by simp)).upd (by simp);have s1:6*p.1-24-6*(1+f)=6*(p.1-(1+f))-24:=by omega
 have s2:6*p.2-24-6*(1+f)=6*(p.2-(1+f))-24:=by omega
 have s3:6*p.1-24+6*(1+f)=6*(p.1+(1+f))-24:=by omega
 have s4:6*p.2-24+6*(1+f)=6*(p.2+(1+f))-24:=by omega
 have bb:∀(x y:Int),(x=p.1-(1+f)\/x=p.1\/x=p.1+(1+f))->(y=p.2-(1+f)\/y=p.2\/y=p.2+(1+f))->B20 (x,y):=fun x y hx hy=>by
  refine⟨⟨?_,?_⟩,⟨?_,?_⟩⟩
  ·show 0<=x;omega
  ·show x<=20;omega
  ·show 0<=y;omega
  ·show y<=20;omega
 refine bD (fun _=>?_) (fun _=>?_)
 ·refine⟨_,rfl,_,rfl,trivial,_,rfl,_,rfl,trivial,nbL rfl,?_⟩;refine⟨_,rfl,_,rfl,_,rfl,_,rfl,trivial,nbL rfl,?_⟩;refine⟨_,rfl,_,rfl,_,rfl,_,rfl,nbL rfl,?_⟩;refine⟨_,rfl,_,rfl,trivial,_,rfl,_,rfl,nbL rfl,?_⟩;refine⟨_,rfl,_,rfl,trivial,_,rfl,_,rfl,trivial,nbL rfl,nbL rfl,fun q hq=>?_⟩
  have nq:M q=none:=by
   cases e:M q with
   |none=>rfl
   |some ob=>
    by_cases z:q=r
    ·subst z;rw[af]at hq;cases hq
    ·rw[kx3 q ob (by simpa using z) e]at hq;cases hq
  refine rtn (k q [(p.1-(1+f),p.2-(1+f)),(p.1+(1+f),p.2-(1+f)),(p.1+(1+f),p.2+(1+f)),(p.1-(1+f),p.2+(1+f)),(p.1-(1+f),p.2-(1+f))] _ (kx3.new hq) (P3.ne hq) nq ?_ rfl ?_ (P3.new hq))
  ·rw[af];simp only[gp,D7,EX];rw[<-s1,<-s2,<-s3,<-s4]
  ·intro u hu;simp only[EM,List.not_mem_nil,or_false]at hu;rcases hu with rfl|rfl|rfl|rfl|rfl<;>exact bb _ _ (by simp) (by simp)
 ·refine⟨_,rfl,_,rfl,trivial,_,rfl,nbL rfl,?_⟩;refine⟨_,rfl,_,rfl,_,rfl,trivial,nbL rfl,?_⟩;refine⟨_,rfl,_,rfl,_,rfl,nbL rfl,?_⟩;refine⟨_,rfl,_,rfl,_,rfl,nbL rfl,?_⟩;refine⟨_,rfl,_,rfl,trivial,_,rfl,nbL rfl,nbL rfl,fun q hq=>?_⟩
  have nq:M q=none:=by
   cases e:M q with
   |none=>rfl
   |some ob=>
    by_cases z:q=r
    ·subst z;rw[af]at hq;cases hq
    ·rw[kx3 q ob (by simpa using z) e]at hq;cases hq
  refine rtn (k q [(p.1-(1+f),p.2),(p.1,p.2-(1+f)),(p.1+(1+f),p.2),(p.1,p.2+(1+f)),(p.1-(1+f),p.2)] _ (kx3.new hq) (P3.ne hq) nq ?_ rfl ?_ (P3.new hq))
  ·rw[af];simp only[gp,D7,EX];rw[<-s1,<-s2,<-s3,<-s4]
  ·intro u hu;simp only[EM,List.not_mem_nil,or_false]at hu;rcases hu with rfl|rfl|rfl|rfl|rfl<;>exact bb _ _ (by simp) (by simp)
theorem cm:FnScope ["_law_shut","_law_spot","_law_a","_law_b","_law_c","_law_d","_law_way"] ["_law_shut","_law_spot"] (ao jc):=by walk_at "sc"
inductive Cn_law_side(u v:D)(M:MH)(Q:DK):Prop
 |mk (g h:Int) (w:Wl) (p:Vc) (_:u=gwl g h w) (_:v=gp g h p) (_:Gs g h) (_:Un5 w) (_:B20 p) (_:Q (.int (En (sd w p.1 p.2))) M)
theorem dj(T:Tx K mg):Cal P w K mg base 1 "_law_side" (sD2 Cn_law_side):=by
 refine aZ (k:=0) T.f_law_side cm fun f cdv A outer s H E hr=>⟨_,(ag (cf (aw (dv 0) ae) (bA rfl (ay (av 2 cm.nd) (ay (av 3 cm.nd) aT)))) (ag (cf (aw (dv 0) ae) (bA rfl (ay (av 4 cm.nd) (ay (av 5 cm.nd) aT)))) (ag (aA 6 cm.nd (ar bG (ar aD (ar bG (dv 4) (dv 2)) (ar bG (aw (dv 1) ae) (dv 3))) (ar aD (ar bG (dv 5) (dv 3)) (ar bG (aw (dv 1) ae) (dv 2))))) (aj (az (ar bG (cY tS rfl T.b_int vX (aa (cu (kB hr.units) (dv 6) ae) ab)) (cY tS rfl T.b_int vX (aa (cu (cO hr.units) (dv 6) ae) ab)))))))),fun _ _ M Q h=>?_⟩;obtain⟨g,h,w,p,rfl,rfl,G,W,hp,k⟩:=h;have ba:=ym G W.a;have bb:=ym G W.b;have bc:=ym G W.c;have bd:=ym G W.d;refine⟨_,rfl,_,rfl,_,rfl,rfl,_,_,rfl,_,_,rfl,rfl,?_⟩;refine⟨_,rfl,_,rfl,_,rfl,rfl,_,_,rfl,_,_,rfl,rfl,?_⟩;refine⟨_,rfl,_,rfl,trivial,_,rfl,_,rfl,_,rfl,trivial,aG ((bc.sub ba).mono (by decide)),?_⟩;refine⟨_,rfl,_,rfl,trivial,_,rfl,_,rfl,_,rfl,trivial,aG ((bd.sub bb).mono (by decide)),trivial,?_⟩;refine⟨_,rfl,trivial,_,rfl,trivial,trivial,?_⟩
 have e1:∀z:Int,(if decide (0<z)=true then(1:Int)else 0)-(if decide (z<0)=true then(1:Int)else 0)=En z:=fun z=>by
  rcases Ey z 0 with h|h|h
  ·rw[Ew h,if_neg (by simp;omega),if_pos (by simpa using h)];rfl
  ·subst h;rfl
  ·rw[EF h,if_pos (by simpa using h),if_neg (by simp;omega)];rfl
 have e2:=Ce g h w.1 w.2.1 w.2.2.1 w.2.2.2 p.1 p.2;unfold crs at e2;have e3:=e1 ((g*w.2.2.1-h-(g*w.1-h))*(g*p.2-h-(g*w.2.1-h))-(g*w.2.2.2-h-(g*w.2.1-h))*(g*p.1-h-(g*w.1-h)));have e4:En ((g*w.2.2.1-h-(g*w.1-h))*(g*p.2-h-(g*w.2.1-h))-(g*w.2.2.2-h-(g*w.2.1-h))*(g*p.1-h-(g*w.1-h)))=En (sd w p.1 p.2):=by rw[e2,BK G.g0];rfl
 rw[<-e4,<-e3]at k;exact rtn k
theorem rS:FnScope ["_law_shut","_law_spot"] ["_law_shut","_law_spot"] (ao m3):=by walk_at "sc"
inductive Cn_law_on(u v:D)(M:MH)(Q:DK):Prop
 |mk (g h:Int) (w:Wl) (p:Vc) (_:u=gwl g h w) (_:v=gp g h p) (_:Gs g h) (_:Un5 w) (_:B20 p) (_:Q (.bl (decide (l1 w<=la p.1 p.2)&&(decide (la p.1 p.2<=l2 w)&&decide (sd w p.1 p.2=0)))) M)
theorem tP(T:Tx K mg):Cal P w K mg base 2 "_law_on" (sD2 Cn_law_on):=by
 refine aZ (k:=1) T.f_law_on rS fun f cdv A outer s H E hr=>⟨_,(aj (az (jA (cu (uH hr.units) (aw (dv 0) ae) (dv 1)) (jA (cu (uH hr.units) (dv 1) (aw (dv 0) ae)) (l6 (cu (b5 hr.units) (ak (dj T).m hr (aa (dv 0) (aa (dv 1) ab))) ae)))))),fun _ _ M Q h=>?_⟩;obtain⟨g,h,w,p,rfl,rfl,G,W,hp,k⟩:=h;(try dsimp only[SD.eW,SD.cZ,SD.bF,SD.fN,SD.eU,SD.dq,SD.dH,SD.tBD,SD.fR])
 refine vb (decide (l1 w<=la p.1 p.2)) (decide (la p.1 p.2<=l2 w)&&decide (sd w p.1 p.2=0)) (fun K hK=>?_) (fun _ K hK=>?_) (rtn k)
 ·refine⟨_,rfl,_,rfl,_,rfl,[g*w.1-h,g*w.2.1-h],[g*p.1-h,g*p.2-h],rfl,rfl,?_⟩;rw[qx G.g0,yR W.b hp.2];exact hK
 ·refine vb (decide (la p.1 p.2<=l2 w)) (decide (sd w p.1 p.2=0)) (fun K' hK'=>?_) (fun _ K' hK'=>?_) hK
  ·refine⟨_,rfl,_,rfl,_,rfl,[g*p.1-h,g*p.2-h],[g*w.2.2.1-h,g*w.2.2.2-h],rfl,rfl,?_⟩;rw[qx G.g0,yR hp.2 W.d];exact hK'
  ·refine⟨_,rfl,_,rfl,g,h,w,p,rfl,rfl,G,W,hp,?_⟩;have e:decide (En (sd w p.1 p.2)=0)=decide (sd w p.1 p.2=0):=by rw[decide_eq_decide];exact Int.sign_eq_zero_iff_zero
   show K' (.bl (decide _)) _;rw[e];exact hK'
theorem cw:FnScope ["_law_one","_law_other","_law_shut","_law_ends","_law_spot","_law_both"] ["_law_one","_law_other"] (ao ix):=by walk_at "sc"
inductive Cn_law_apart(u v:D)(M:MH)(Q:DK):Prop
 |mk (g h:Int) (U V:Wl) (_:u=gwl g h U) (_:v=gwl g h V) (_:Gs g h) (_:Un5 U) (_:Un5 V) (_:∀b:Bool,(b=true->Fair U V)->Q (.bl b) M)
theorem m7(T:Tx K mg):Cal P w K mg base 3 "_law_apart" (sD2 Cn_law_apart):=by
 refine aZ (k:=2) T.f_law_apart cw fun f cdv A outer s H E hr=>⟨_,(ag (bH El rfl (aR (bI (aa (aB (aa (dv 0) (aa (dv 1) ab))) (aa (aB (aa (dv 1) (aa (dv 0) ab))) ab)))) (bA rfl (ay (av 2 cw.nd) (ay (av 3 cw.nd) aT))) (aj (bH El rfl (aR (dv 3)) (av 4 cw.nd) (aj (bf (oZ (jZ (d8 (ak (tP T).m hr (aa (dv 2) (aa (dv 4) ab)))) (gb (aH (jh (iQ hr)) (dv 4) (dv 2) (by with_unfolding_all rfl))))) (aj (az lQ)) aI))))) (ag (aA 5 cw.nd (cu (cO hr.units) (ar aD (ak (dj T).m hr (aa (dv 0) (aa (aw (dv 1) ae) ab))) (ak (dj T).m hr (aa (dv 0) (aa (aw (dv 1) ae) ab)))) ae)) (aj (az (jA (cu (jP hr.units) (dv 0) (dv 1)) (l6 (uQ (jA (dv 5) (l6 (cu (cO hr.units) (ar aD (ak (dj T).m hr (aa (dv 1) (aa (aw (dv 0) ae) ab))) (ak (dj T).m hr (aa (dv 1) (aa (aw (dv 0) ae) ab)))) ae)))))))))),fun _ _ M Q h=>?_⟩;obtain⟨g,h,U,V,rfl,rfl,G,HU,HV,k⟩:=h;refine cA (fun δ M'=>SD.Sub M M'/\(∃o2 o3 o4,δ=[some (gwl g h U),some (gwl g h V),o2,o3,o4,none])/\(aN U (l1 V) (sd1 U V)/\aN U (l2 V) (sd2 U V))/\(aN V (l1 U) (sd1 V U)/\aN V (l2 U) (sd2 V U))) ?_ (fun hu=>?_);rotate_left
 ·refine⟨_,rfl,_,rfl,nbL rfl,_,rfl,_,rfl,nbL rfl,nbL rfl,fun lp hlp=>⟨[.tup [gwl g h U,gwl g h V],.tup [gwl g h V,gwl g h U]],af,?_⟩⟩;refine⟨fun i δ M'=>(SD.Sub M M'/\M' lp=some (.lst [.tup [gwl g h U,gwl g h V],.tup [gwl g h V,gwl g h U]]))/\(∃o2 o3 o4,δ=[some (gwl g h U),some (gwl g h V),o2,o3,o4,none])/\(0<i->aN U (l1 V) (sd1 U V)/\aN U (l2 V) (sd2 U V))/\(1<i->aN V (l1 U) (sd1 V U)/\aN V (l2 U) (sd2 V U)),⟨⟨.new hlp .refl,af⟩,⟨_,_,_,rfl⟩,fun z=>absurd z (by decide),fun z=>absurd z (by decide)⟩,fun _ _ _ _ q=>q.1.2,?_,?_⟩
  ·rintro i d δ M' hi hd ⟨⟨sb,hlp'⟩,⟨o2,o3,o4,rfl⟩,p1,p2⟩;have hi:i<2:=hi;have hd:[D.tup [gwl g h U,gwl g h V],.tup [gwl g h V,gwl g h U]][i]?=some d:=hd
   have pick:∃A B,d=.tup [gwl g h A,gwl g h B]/\Un5 A/\Un5 B/\((aN A (l1 B) (sd1 A B)/\aN A (l2 B) (sd2 A B))->(0<i+1->aN U (l1 V) (sd1 U V)/\aN U (l2 V) (sd2 U V))/\(1<i+1->aN V (l1 U) (sd1 V U)/\aN V (l2 U) (sd2 V U))):=by
    rcases(show i=0\/i=1 by omega)with rfl|rfl
    ·cases hd;exact⟨U,V,rfl,HU,HV,fun z=>⟨fun _=>z,fun y=>absurd y (by decide)⟩⟩
    ·cases hd;exact⟨V,U,rfl,HV,HU,fun z=>⟨fun _=>p1 (by decide),fun _=>z⟩⟩
   obtain⟨A,B,rfl,HA,HB,nxt⟩:=pick;refine⟨_,rfl,rfl,_,_,rfl,_,_,rfl,rfl,?_⟩;refine⟨_,rfl,[gp g h (ea B),gp g h (eb B)],rfl,?_⟩;refine⟨fun j δ M''=>M''=M'/\(∃o4,δ=[some (gwl g h U),some (gwl g h V),some (gwl g h A),some (gwl g h B),o4,none])/\(0<j->aN A (l1 B) (sd1 A B))/\(1<j->aN A (l2 B) (sd2 A B)),⟨rfl,⟨_,rfl⟩,fun z=>absurd z (by decide),fun z=>absurd z (by decide)⟩,fun _ _ _ _ _=>rfl,?_,?_⟩
   ·rintro j d δ M'' hj hd ⟨e,⟨o4,rfl⟩,q1,q2⟩;subst M'';have hj:j<2:=hj;have hd:[gp g h (ea B),gp g h (eb B)][j]?=some d:=hd
    have pk:∃p:Vc,d=gp g h p/\B20 p/\(aN A (la p.1 p.2) (sd A p.1 p.2)->(0<j+1->aN A (l1 B) (sd1 A B))/\(1<j+1->aN A (l2 B) (sd2 A B))):=by
     rcases(show j=0\/j=1 by omega)with rfl|rfl
     ·cases hd;exact⟨_,rfl,HB.ea,fun z=>⟨fun _=>z,fun y=>absurd y (by decide)⟩⟩
     ·cases hd;exact⟨_,rfl,HB.eb,fun z=>⟨fun _=>q1 (by decide),fun _=>z⟩⟩
    obtain⟨p,rfl,hp,nx2⟩:=pk;(try dsimp only[SD.eW,SD.cZ,SD.bF,SD.fN,SD.eU,SD.dq,SD.dH,SD.tBD,SD.fR])
    refine uq (decide (l1 A<=la p.1 p.2)&&(decide (la p.1 p.2<=l2 A)&&decide (sd A p.1 p.2=0))) (!(decide (ea A=p)||decide (eb A=p))) (fun K hK=>⟨_,rfl,_,rfl,g,h,A,p,rfl,rfl,G,HA,hp,_,rfl,hK⟩) (fun _ K hK=>⟨_,rfl,_,rfl,?_⟩) ?_
    ·refine⟨_,_,Pd.of rfl,.inr (Pd.of rfl),rfl,rfl,_,rfl,?_⟩;rw[Fy,Fy,List.any_nil,qh G.g0,qh G.g0,Bool.or_false];exact hK
    refine bD (fun _=>⟨M,sb,k false (fun z=>absurd z Ei)⟩) (fun hh=>?_);refine⟨rfl,⟨_,rfl⟩,nx2 (vI HA hp.2 ?_)⟩;have e1:decide (ea A=p)=decide (A.1=p.1/\A.2.1=p.2):=by rw[decide_eq_decide];exact⟨fun z=>by rw[<-z];exact⟨rfl,rfl⟩,fun z=>Prod.ext z.1 z.2⟩
    have e2:decide (eb A=p)=decide (A.2.2.1=p.1/\A.2.2.2=p.2):=by rw[decide_eq_decide];exact⟨fun z=>by rw[<-z];exact⟨rfl,rfl⟩,fun z=>Prod.ext z.1 z.2⟩
    have hh:=eq_false_of_ne_true hh;rw[e1,e2]at hh;have key:∀a b c d:Bool,((a&&(b&&c))&&d)=false->(d&&((a&&b)&&c))=false:=by decide
    exact key _ _ _ _ hh
   ·rintro δ M'' ⟨e,⟨o4,rfl⟩,q1,q2⟩;subst M'';exact⟨⟨sb,hlp'⟩,⟨_,_,_,rfl⟩,nxt ⟨q1 (show 0<2 by decide),q2 (show 1<2 by decide)⟩⟩
  ·rintro δ M' ⟨⟨sb,_⟩,⟨o2,o3,o4,rfl⟩,p1,p2⟩;exact hu _ _ ⟨sb,⟨_,_,_,rfl⟩,p1 (show 0<2 by decide),p2 (show 1<2 by decide)⟩
 rintro δ M' ⟨sb,⟨o2,o3,o4,rfl⟩,⟨e1,e2⟩,⟨e3,e4⟩⟩;refine⟨_,rfl,_,rfl,_,rfl,g,h,U,ea V,rfl,rfl,G,HU,HV.ea,?_⟩;refine⟨_,rfl,_,rfl,_,rfl,g,h,U,eb V,rfl,rfl,G,HU,HV.eb,aG (yx _),trivial,?_⟩;have ne1:∀b:Bool,b=(!PyData.eqv (.tuple [.tuple [.int (g*U.1-h),.int (g*U.2.1-h)],.tuple [.int (g*U.2.2.1-h),.int (g*U.2.2.2-h)]]) (.tuple [.tuple [.int (g*V.1-h),.int (g*V.2.1-h)],.tuple [.int (g*V.2.2.1-h),.int (g*V.2.2.2-h)]]))->b=true->¬(l1 U=l1 V/\l2 U=l2 V):=fun b e z ⟨z1,z2⟩=>by obtain⟨a1,a2⟩:=mG HU.b HV.b z1;obtain⟨a3,a4⟩:=mG HU.d HV.d z2;rw[e,a1,a2,a3,a4]at z;simp[EH,Fj]at z
 generalize eb1:(!PyData.eqv (.tuple [.tuple [.int (g*U.1-h),.int (g*U.2.1-h)],.tuple [.int (g*U.2.2.1-h),.int (g*U.2.2.2-h)]]) (.tuple [.tuple [.int (g*V.1-h),.int (g*V.2.1-h)],.tuple [.int (g*V.2.2.1-h),.int (g*V.2.2.2-h)]]))=b1 at ne1;(try dsimp only[SD.eW,SD.cZ,SD.bF,SD.fN,SD.eU,SD.dq,SD.dH,SD.tBD,SD.fR])
 refine vb b1 (!(decide (En (sd1 U V)*En (sd2 U V)<0)&&decide (En (sd1 V U)*En (sd2 V U)<0))) (fun K hK=>⟨_,rfl,_,rfl,_,_,Pd.of rfl,Pd.of rfl,rfl,rfl,?_⟩) (fun _ K hK=>?_) ⟨M,sb,k _ fun z=>?_⟩
 ·rw[<-eb1]at hK;exact hK
 ·exact vb (decide (En (sd1 U V)*En (sd2 U V)<0)) (decide (En (sd1 V U)*En (sd2 V U)<0)) (fun K' hK'=>⟨_,rfl,hK'⟩) (fun _ K' hK'=>⟨_,rfl,_,rfl,_,rfl,g,h,V,ea U,rfl,rfl,G,HV,HU.ea,_,rfl,_,rfl,_,rfl,g,h,V,eb U,rfl,rfl,G,HV,HU.eb,aG (yx _),trivial,hK'⟩) ⟨_,rfl,hK⟩
 ·rw[F6]at z;refine⟨ne1 b1 rfl z.1,e1,e2,e3,e4,?_⟩;have:=z.2;by_cases c1:En (sd1 U V)*En (sd2 U V)<0
  ·by_cases c2:En (sd1 V U)*En (sd2 V U)<0
   ·rw[decide_eq_true c1,decide_eq_true c2]at this;cases this
   ·exact .inr (by omega)
  ·exact .inl (by omega)
theorem dC:FnScope ["_law_pot_here","_law_shuts","_law_spots","_law_one","_law_other","_law_shut"] ["_law_pot_here","_law_shuts","_law_spots"] (ao kj):=by walk_at "sc"
inductive Cn_law_laid(u v w:D)(M:MH)(Q:DK):Prop
 |mk (r l q:Addr) (n:Nat) (ws:List Wl) (us:List Vc) (_:u=.ref r) (_:v=.ref l) (_:w=.ref q) (_:r≠l) (_:q≠l) (_:q≠r) (_:M l=some (.lst (ws.map (gwl 6 24)))) (_:(∀w∈ws,Un5 w)) (_:PF ws) (_:ws.length<=30) (_:M q=some (.lst (us.map (gp 6 24)))) (_:(∀u∈us,B20 u)) (_:us.length<=6) (_:Pot M r n) (_:n<600000) (_:∀(ws':List Wl) M',Kx [r,l] M M'->M' l=some (.lst (ws'.map (gwl 6 24)))->(∀w∈ws',Un5 w)->PF ws'->ws'.length<=ws.length+5->Pot M' r (n+6)->Q .non M')
theorem oU(T:Tx K mg):Cal P w K mg base 4 "_law_laid" (sD3 Cn_law_laid):=by
 refine oB (k:=3) T.f_law_laid dC fun f cdv A outer s H E hr=>⟨_,(aj (bH El rfl (zw rfl T.b_zip (aa (dv 2) (aa (jN (dv 2) (gv ae) wA) ab))) (bA rfl (ay (av 3 dC.nd) (ay (av 4 dC.nd) aT))) (ag (aA 5 dC.nd (aB (aa (aF (mK rfl hr.units) rfl T.b_min qm (aa (dv 3) (aa (dv 4) ab))) (aa (aF (ml rfl hr.units) rfl T.b_max oX (aa (dv 3) (aa (dv 4) ab))) ab)))) (aj (bf (oZ (jZ (aH (jP hr.units) (dv 3) (dv 4)) (gb (aH (jh (iQ hr)) lQ (jo (CScope.of (xs:=["_law_some"]) (js:=[5]) rfl) rfl (aR (dv 1)) (fun _ _ _ _=>cy) (fun _ _ _ _=>(ak (m7 T).m hr (aa (dv 1) (aa (dv 0) ab))))) (by with_unfolding_all rfl))))) (aj (br (eN (dv 1) (aa (ak (aC T).m hr (aa (dv 0) (aa (ar aJ (aF cv rfl T.b_len cB (aa (dv 1) ab)) ae) ab))) (aa (dv 5) ab))))) aI))))),fun _ _ _ M Q h=>?_⟩;obtain⟨r,l,q,n,ws,us,rfl,rfl,rfl,nrl,nql,nqr,hl,hU,hF,hlen,hq,hB,hul,P0,hn,k⟩:=h;refine⟨_,rfl,_,rfl,_,rfl,_,hq,fun q2 hq2=>?_⟩;rw[tf];have nq2:∀{a o},M a=some o->a≠q2:=fun h=>au h hq2;have lq:r≠q2:=P0.ne hq2;refine⟨q,q2,us.map (gp 6 24),(us.drop 1).map (gp 6 24),rfl,(by rw[ai (nq2 hq)];exact hq),af,?_⟩;have hmn:min (us.map (gp 6 24)).length ((us.drop 1).map (gp 6 24)).length<=5:=by simp;omega
 refine⟨fun i δ M'=>∃(ws':List Wl) (o3 o4 o5:Option D),δ=[some (.ref r),some (.ref l),some (.ref q),o3,o4,o5]/\Kx [r,l] M M'/\M' q2=some (.lst ((us.drop 1).map (gp 6 24)))/\M' l=some (.lst (ws'.map (gwl 6 24)))/\(∀w∈ws',Un5 w)/\PF ws'/\ws'.length<=ws.length+i/\Pot M' r (n+i),⟨ws,_,_,_,rfl,Kx.refl.new hq2,af,by rw[ai (nq2 hl)];exact hl,hU,hF,by omega,P0.new hq2⟩,fun i δ M' _ z=>let⟨_,_,_,_,_,kx,h2,_⟩:=z;⟨kx q _ (by simp[nql,nqr]) hq,h2⟩,?_,?_⟩;rotate_left
 ·rintro δ M' ⟨ws',o3,o4,o5,rfl,kx,h2,hl',hU',hF',hlen',P'⟩;have hlen':ws'.length<=ws.length+min (us.map (gp 6 24)).length ((us.drop 1).map (gp 6 24)).length:=hlen';have P':Pot M' r (n+min (us.map (gp 6 24)).length ((us.drop 1).map (gp 6 24)).length):=P';exact rtn (k ws' M' kx hl' hU' hF' (by omega) (P'.le (by omega)))
 rintro i d δ M' hi hd ⟨ws',o3,o4,o5,rfl,kx,h2,hl',hU',hF',hlen',P'⟩;have hi:i<min (us.map (gp 6 24)).length ((us.drop 1).map (gp 6 24)).length:=hi;have hd:((us.map (gp 6 24))[i]?).bind (fun d=>(((us.drop 1).map (gp 6 24))[i]?).map fun e=>D.tup [d,e])=some d:=hd;have iu:i<us.length:=by simp at hi;omega
 have iv:1+i<us.length:=by simp at hi;omega
 obtain⟨u,v,rfl,bu,bv⟩:∃u v,d=.tup [gp 6 24 u,gp 6 24 v]/\B20 u/\B20 v:=by refine⟨us[i],us[1+i],?_,hB _ (ET iu),hB _ (ET iv)⟩;rw[E4,E2 iu,E4,List.getElem?_drop,E2 iv]at hd;cases hd;rfl
 refine⟨_,rfl,rfl,_,_,rfl,_,_,rfl,rfl,?_⟩;refine⟨_,rfl,_,rfl,[6*u.1-24,6*u.2-24],[6*v.1-24,6*v.2-24],rfl,rfl,?_⟩;refine⟨_,rfl,_,rfl,[6*u.1-24,6*u.2-24],[6*v.1-24,6*v.2-24],rfl,rfl,nbL rfl,?_⟩;refine⟨_,rfl,_,rfl,_,_,Pd.of rfl,Pd.of rfl,rfl,rfl,_,rfl,?_⟩;rw[qh (by decide)];refine bD (fun hne=>?_) (fun _=>?_);rotate_left
 ·refine sf rfl ?_;exact⟨ws',_,_,_,rfl,kx,h2,hl',hU',hF',by omega,P'.le (by omega)⟩
 have hne:u≠v:=fun z=>by rw[z]at hne;simp at hne
 obtain⟨w,hw,e1,e2⟩:=xP (g:=6) (h:=24) (by decide) bu bv hne;rw[e1,e2];refine⟨_,rfl,ws'.map (gwl 6 24),hl',?_⟩;refine⟨by simp;omega,fun z hz=>?_⟩;have nz:∀{a o},M' a=some o->a≠z:=fun h=>au h hz;refine⟨fun j ys M2=>∃bs:List Bool,ys=bs.map D.bl/\bs.length=j/\(∀(t:Nat) (v:Wl),bs[t]?=some true->ws'[t]?=some v->Fair w v)/\M2=aq M' z (.lst ys),⟨[],rfl,rfl,fun t v h=>by simp at h,rfl⟩,?_,?_,?_⟩
 ·rintro j ys M2 _ ⟨bs,_,_,_,rfl⟩;show(aq M' z _) l=_;rw[ai (nz hl')];exact hl'
 ·rintro j ys d M2 hj hd ⟨bs,rfl,hlen2,hf,rfl⟩;have hd:(ws'.map (gwl 6 24))[j]?=some d:=hd;rw[E4]at hd;cases ev:ws'[j]? with
  |none=>rw[ev]at hd;cases hd
  |some v=>
   rw[ev]at hd
   cases hd
   refine⟨_,rfl,?_⟩
   dsimp only[SD.cM]
   refine kQ ?_
   refine⟨_,rfl,_,rfl,6,24,w,v,rfl,rfl,⟨by decide,by decide,by decide,by decide⟩,hw,hU' v (Ej ev),fun b hb=>?_⟩
   refine⟨_,.refl,af,bs++[b],by simp,by simp[hlen2],fun t v' ht hv'=>?_,by rw[bo]⟩
   rcases Nat.lt_trichotomy t bs.length with y|y|y
   ·rw[EW y]at ht;exact hf t v' ht hv'
   ·subst y;rw[ES (E3 _)]at ht;have hb':b=true:=by simpa using ht
    rw[hlen2,ev]at hv';cases hv';exact hb hb'
   ·rw[List.getElem?_eq_none (by simp;omega)]at ht;cases ht
 rintro ys M2 ⟨bs,rfl,hlen2,hf,rfl⟩;have hlen3:bs.length=ws'.length:=by rw[hlen2];simp
 have c2:∀{a o},M' a=some o->(aq M' z (.lst (bs.map D.bl))) a=some o:=fun h=>by rw[ai (nz h)];exact h
 refine⟨_,_,.bl false,.inl (.lst af (ve bs)),rfl,wk bs,_,rfl,?_⟩;rw[zC];have P2:Pot (aq M' z (.lst (bs.map D.bl))) r (n+i):=P'.new hz;have kx2:Kx [r,l] M (aq M' z (.lst (bs.map D.bl))):=kx.new hz;have hl2:=c2 hl';have hq3:=c2 h2;generalize aq M' z (.lst (bs.map D.bl))=M3 at P2 kx2 hl2 hq3 ⊢;refine bD (fun hall=>?_) (fun _=>⟨ws',_,_,_,rfl,kx2,hq3,hl2,hU',hF',by omega,P2.le (by omega)⟩);refine⟨_,rfl,l,_,rfl,hl2,?_⟩;refine⟨_,rfl,_,rfl,_,hl2,r,_,n+i,rfl,rfl,P2,by omega,(by rw[D8];omega),aW (by rw[D8];omega),fun v o h0 h1 P3=>?_⟩;rw[D8]at h1;obtain⟨j,rfl⟩:∃j:Nat,v=(j:Int):=⟨v.toNat,by omega⟩;refine⟨_,rfl,_,_,j,rfl,(by rw[ai nrl.symm];exact hl2),(by rw[D8];omega),(by rw[D8];omega),?_⟩;have nq2l:q2≠l:=fun e=>by rw[e]at hq2;rw[hl]at hq2;cases hq2
 refine⟨eJ ws' j w,_,_,_,rfl,(kx2.upd (by simp)).upd (by simp),(by rw[ai nq2l,ai lq.symm];exact hq3),?_,fun x hx=>?_,zQ hF' fun t v hv=>hf t v ?_ hv,?_,P3.upd nrl⟩
 ·rw[af];exact congrArg (fun z=>some (MO.lst z)) (jx (gwl 6 24) ws' j w)
 ·have:=(fy ws' j w).mem_iff.mp hx;rcases EM.mp this with z|z
  ·rw[z];exact hw
  ·exact hU' x z
 ·have ht:t<bs.length:=by rw[hlen3];exact(Eo.mp hv).1
  rw[E2 ht];have hall:bs.any (fun b=>b==false)=false:=by simpa using hall
  rw[List.any_eq_false]at hall;have:=hall _ (ET ht);cases e:bs[t]with
  |true=>rfl
  |false=>rw[e]at this;simp at this
 ·rw[(fy ws' j w).length_eq,EA];omega
theorem aV:FnScope ["_law_pot_here","_law_most","_law_shuts","_law_wide","_law_k","_law_spots"] ["_law_pot_here","_law_most"] (ao dX):=by walk_at "sc"
inductive Cn_law_shuts_here(u v:D)(M:MH)(Q:DK):Prop
 |mk (r:Addr) (n:Nat) (m:Int) (_:u=.ref r) (_:v=.int m) (_:(0<=m/\m<=12)) (_:Pot M r n) (_:n<100000) (_:∀(l:Addr) (ws:List Wl) M',r≠l->M l=none->Kx [r] M M'->M' l=some (.lst (ws.map (gwl 6 24)))->(∀w∈ws,Un5 w)->PF ws->ws.length<=15->Pot M' r (n+400)->Q (.ref l) M')
theorem gP(T:Tx K mg):Cal P w K mg base 5 "_law_shuts_here" (sD2 Cn_law_shuts_here):=by
 refine aZ (k:=4) T.f_law_shuts_here aV fun f cdv A outer s H E hr=>⟨_,(ag (aA 2 aV.nd (bI ab)) (ag (aA 3 aV.nd (aw (bI (aa ae (aa ae (aa ae (aa ae ab))))) (ak (aC T).m hr (aa (dv 0) (aa ae ab))))) (ag (d6 El rfl rfl T.b_range (aa (ak (aC T).m hr (aa (dv 0) (aa (ar aJ (dv 1) ae) ab))) ab) (av 4 aV.nd) (ag (dm 5 aV.nd (CScope.of (xs:=["_law_j"]) (js:=[0,2,3]) rfl) rfl (cW rfl T.b_range (aa (ar aJ ae (ak (aC T).m hr (aa (dv 0) (aa ae ab)))) ab)) (fun _ _ _ _=>cy) (fun _ _ _ _=>(ak (iR T).m hr (aa (dv 1) (aa (dv 2) (aa (dv 3) ab)))))) (ag (bf (aH (b5 hr.units) (ak (aC T).m hr (aa (dv 0) (aa ae ab))) ae) (aj (br (aQ (dv 5) (aa (aw (dv 5) ae) ab)))) aI) (ag (bf (aH (b5 hr.units) (ak (aC T).m hr (aa (dv 0) (aa ae ab))) ae) (aj (aA 5 aV.nd (ak (mL T).m hr (aa (dv 0) (aa (dv 3) ab))))) aI) (aj (bf (aH (cO hr.units) (aF cv rfl T.b_len cB (aa (dv 2) ab)) ae) (aj (br (ak (oU T).m hr (aa (dv 0) (aa (dv 2) (aa (dv 5) ab)))))) aI)))))) (aj (az (dv 2)))))),fun _ _ M Q h=>?_⟩;obtain⟨r,n,m,rfl,rfl,hm,P0,hn,k⟩:=h;refine⟨nbL rfl,fun l hl=>?_⟩;have nrl:r≠l:=P0.ne hl;refine⟨nbL rfl,fun z hz=>?_⟩;have nrz:r≠z:=(P0.new hl).ne hz;have nlz:l≠z:=au af hz;refine⟨_,rfl,r,4,n,rfl,rfl,(P0.new hl).new hz,by omega,by decide,aW (by decide),fun v o h0 h1 P1=>?_⟩
 obtain⟨wd,ewd,hwd⟩:∃wd:Int,atI [D.int 3,D.int 4,D.int 6,D.int 10] v=some (.int wd)/\(0<wd/\wd<=10):=by
  rcases(show v=0\/v=1\/v=2\/v=3 by omega)with rfl|rfl|rfl|rfl
  ·exact⟨3,rfl,by decide⟩
  ·exact⟨4,rfl,by decide⟩
  ·exact⟨6,rfl,by decide⟩
  ·exact⟨10,rfl,by decide⟩
 refine⟨_,_,(by rw[ai nrz.symm,af]),ewd,?_⟩;refine⟨_,rfl,_,rfl,r,m+1,n+1,rfl,rfl,P1,by omega,by omega,aW (by omega),fun c o2 a0 a1 P2=>?_⟩;have hl2:(aq (aq (aq (aq M l (.lst [])) z (.lst [.int 3,.int 4,.int 6,.int 10])) r o) r o2) l=some (.lst (([]:List Wl).map (gwl 6 24))):=by rw[ai nrl.symm,ai nrl.symm,ai nlz,af];rfl
 have kx2:Kx [r,l] M (aq (aq (aq (aq M l (.lst [])) z (.lst [.int 3,.int 4,.int 6,.int 10])) r o) r o2):=(((Kx.refl.new hl).new hz).upd (by simp)).upd (by simp);generalize aq (aq (aq (aq M l (.lst [])) z (.lst [.int 3,.int 4,.int 6,.int 10])) r o) r o2=M2 at P2 hl2 kx2 ⊢;refine⟨c.toNat,?_,by omega,fun i δ M'=>∃(ws:List Wl) (o4 o5:Option D),δ=[some (.ref r),some (.int m),some (.ref l),some (.int wd),o4,o5]/\Kx [r,l] M M'/\M' l=some (.lst (ws.map (gwl 6 24)))/\(∀w∈ws,Un5 w)/\PF ws/\ws.length<=15/\Pot M' r (n+2+28*i),⟨[],_,_,rfl,kx2,hl2,fun w hw=>absurd hw (by simp),Aq,by decide,P2⟩,?_,?_⟩
 ·rw[Int.toNat_of_nonneg a0]
 rotate_left
 ·rintro δ M' ⟨ws,o4,o5,rfl,kx,hl',hU,hF,hlen,P'⟩;refine⟨_,rfl,rtn (k l ws M' nrl hl (fun a ob na e=>?_) hl' hU hF hlen (P'.le (by omega)))⟩
  exact kx a ob (by
   intro hm
   rcases EM.mp hm with rfl|hm
   ·exact na (by simp)
   ·have:a=l:=by simpa using hm
    subst this;rw[hl]at e;cases e) e
 rintro i δ M' hi ⟨ws,o4,o5,rfl,kx,hl',hU,hF,hlen,P'⟩;have hi12:i<=12:=by omega
 refine⟨_,rfl,r,4,n+2+28*i,rfl,rfl,P',by omega,by decide,aW (by decide),fun c2 o3 b0 b1 P3=>?_⟩;have hl3:(aq M' r o3) l=some (.lst (ws.map (gwl 6 24))):=by rw[ai nrl.symm];exact hl'
 have kx3:Kx [r,l] M (aq M' r o3):=kx.upd (by simp);generalize aq M' r o3=M3 at P3 hl3 kx3 ⊢;refine⟨2+c2.toNat,(by rw[show((2+c2.toNat:Nat):Int)=2+c2 by omega]),by omega,?_⟩;refine⟨by show 2+c2.toNat<=1000000;omega,fun p hp=>?_⟩;have nrp:r≠p:=P3.ne hp;have nlp:l≠p:=au hl3 hp;refine⟨fun j ys M2=>∃us:List Vc,ys=us.map (gp 6 24)/\us.length=j/\(∀u∈us,B20 u)/\Kx [r,l] M M2/\M2 l=some (.lst (ws.map (gwl 6 24)))/\M2 p=some (.lst ys)/\Pot M2 r (n+3+28*i+3*j),⟨[],rfl,rfl,fun u hu=>absurd hu (by simp),kx3.new hp,by rw[ai nlp];exact hl3,af,(P3.new hp).le (by omega)⟩,fun _ _ _ _ _=>trivial,?_,?_⟩
 ·rintro j ys d M2 hj hd ⟨us,rfl,hj2,hB,kx4,hl4,hp4,P4⟩;have hj:j<2+c2.toNat:=hj;refine⟨_,rfl,?_⟩;dsimp only[SD.cM];refine kQ ?_;refine⟨_,rfl,_,rfl,_,rfl,r,l,n+3+28*i+3*j,wd,ws,rfl,rfl,rfl,nrl,hl4,hU,by omega,P4,by omega,hwd,fun u M5 bu kx5 P5=>?_⟩;have hp5:=kx5 p _ (by simpa using nrp.symm) hp4;refine⟨M5,.refl,hp5,us++[u],by simp,by simp[hj2],fun x hx=>?_,?_,?_,af,(P5.upd nrp).le (by omega)⟩
  ·rcases Ek.mp hx with z|z
   ·exact hB x z
   ·have:x=u:=by simpa using z
    subst this;exact bu
  ·intro a ob na e;have a1:=kx4 a ob na e
   have hap:a≠p:=fun z=>by
    subst z
    have:=kx3 a ob na e
    rw[hp]at this;cases this
   rw[ai hap];exact kx5 a ob (fun z=>na (by simp at z;simp[z])) a1
  ·rw[ai nlp];exact kx5 l _ (by simpa using nrl.symm) hl4
 rintro ys M4 ⟨us,rfl,hus,hB,kx4,hl4,hp4,P4⟩;have hus:us.length=2+c2.toNat:=hus;have P4:Pot M4 r (n+3+28*i+3*(2+c2.toNat)):=P4;have P4:=P4.le (show _<=n+18+28*i by omega);(try dsimp only[SD.bF])
 refine cA (fun δ M'=>∃(us:List Vc),δ=[some (.ref r),some (.int m),some (.ref l),some (.int wd),some (.int (i:Int)),some (.ref p)]/\Kx [r,l] M M'/\M' l=some (.lst (ws.map (gwl 6 24)))/\M' p=some (.lst (us.map (gp 6 24)))/\us.length<=6/\(∀u∈us,B20 u)/\Pot M' r (n+19+28*i)) ?_ (fun hu=>?_);rotate_left
 ·refine⟨_,rfl,r,2,n+18+28*i,rfl,rfl,P4,by omega,by decide,aW (by decide),fun v1 o5' d0 d1 P5=>⟨_,rfl,?_⟩⟩;have hl5:(aq M4 r o5') l=some (.lst (ws.map (gwl 6 24))):=by rw[ai nrl.symm];exact hl4
  have hp5:(aq M4 r o5') p=some (.lst (us.map (gp 6 24))):=by rw[ai nrp.symm];exact hp4
  have kx5:Kx [r,l] M (aq M4 r o5'):=kx4.upd (by simp);generalize aq M4 r o5'=M5 at P5 hl5 hp5 kx5 ⊢;have P5:=P5.le (show _<=n+19+28*i by omega);refine bD (fun _=>?_) (fun _=>hu _ _ ⟨us,rfl,kx5,hl5,hp5,by omega,hB,P5⟩)
  obtain⟨u0,us',rfl⟩:∃u0 us',us=u0::us':=by
   cases us with
   |nil=>rw[Ft]at hus;omega
   |cons a b=>exact⟨a,b,rfl⟩
  refine⟨_,rfl,p,_,rfl,hp5,_,rfl,_,_,hp5,(show atI _ ((0:Nat):Int)=_ from cF (by rfl)),_,_,rfl,hp5,(by rw[D8];omega),?_⟩;refine hu _ _ ⟨(u0::us')++[u0],rfl,?_,(by rw[ai nlp];exact hl5),(by rw[af,Eg];rfl),(by rw[Ff];simp at hus ⊢;omega),fun x hx=>?_,P5.upd nrp⟩
  ·intro a ob na e
   have hap:a≠p:=fun z=>by
    subst z
    have:=kx3 a ob na e
    rw[hp]at this;cases this
   rw[ai hap];exact kx5 a ob na e
  ·rcases Ek.mp hx with z|z
   ·exact hB x z
   ·have:x=u0:=by simpa using z
    subst this;exact hB x (by simp)
 rintro δ M5 ⟨us,rfl,kx5,hl5,hp5,hus,hB,P5⟩;refine cA (fun δ M'=>∃(q:Addr) (us:List Vc),δ=[some (.ref r),some (.int m),some (.ref l),some (.int wd),some (.int (i:Int)),some (.ref q)]/\r≠q/\l≠q/\Kx [r,l] M M'/\M' l=some (.lst (ws.map (gwl 6 24)))/\M' q=some (.lst (us.map (gp 6 24)))/\us.length<=6/\(∀u∈us,B20 u)/\Pot M' r (n+24+28*i)) ?_ (fun hu=>?_);rotate_left
 ·refine⟨_,rfl,r,4,n+19+28*i,rfl,rfl,P5,by omega,by decide,aW (by decide),fun v1 o5' d0 d1 P6=>⟨_,rfl,?_⟩⟩;have hl6:(aq M5 r o5') l=some (.lst (ws.map (gwl 6 24))):=by rw[ai nrl.symm];exact hl5
  have hp6:(aq M5 r o5') p=some (.lst (us.map (gp 6 24))):=by rw[ai nrp.symm];exact hp5
  have kx6:Kx [r,l] M (aq M5 r o5'):=kx5.upd (by simp);generalize aq M5 r o5'=M6 at P6 hl6 hp6 kx6 ⊢;refine bD (fun _=>?_) (fun _=>hu _ _ ⟨p,us,rfl,nrp,nlp,kx6,hl6,hp6,hus,hB,P6.le (by omega)⟩);refine⟨_,rfl,_,rfl,r,n+20+28*i,wd,rfl,rfl,P6.le (by omega),by omega,hwd,fun q us2 M7 kx7 nrq hq7 hq8 l5 hB2 P7=>?_⟩;refine hu _ _ ⟨q,us2,rfl,nrq,au hl6 hq7,fun a ob na e=>kx7 a ob (fun z=>na (by simp at z;simp[z])) (kx6 a ob na e),kx7 l _ (by simpa using nrl.symm) hl6,hq8,by omega,hB2,P7.le (by omega)⟩
 rintro δ M6 ⟨q,us,rfl,nrq,nlq,kx6,hl6,hq6,hus,hB,P6⟩;refine⟨_,rfl,_,hl6,trivial,_,rfl,?_⟩;refine bD (fun hlt=>?_) (fun _=>⟨ws,_,_,rfl,kx6,hl6,hU,hF,hlen,P6.le (by omega)⟩)
 have hlt:ws.length<11:=by
  have:(((ws.map (gwl 6 24)).length:Nat):Int)<11:=by simpa using hlt
  rw[D8]at this;omega
 refine⟨_,rfl,_,rfl,_,rfl,r,l,q,n+24+28*i,ws,us,rfl,rfl,rfl,nrl,nlq.symm,nrq.symm,hl6,hU,hF,by omega,hq6,hB,hus,P6,by omega,fun ws' M7 kx7 hl7 hU7 hF7 hlen7 P7=>?_⟩;exact⟨ws',_,_,rfl,kx6.trans kx7,hl7,hU7,hF7,by omega,P7.le (by omega)⟩
theorem aX:FnScope ["_law_pot_here","_law_most","_law_many","_law_shuts","_law_k","_law_found","_law_shut"] ["_law_pot_here","_law_most"] (ao fI):=by walk_at "sc"
inductive Cn_law_squares(u v:D)(M:MH)(Q:DK):Prop
 |mk (r:Addr) (n:Nat) (_:u=.ref r) (_:v=.int 13) (_:Pot M r n) (_:n<100000) (_:∀(l:Addr) (ws:List Wl) M',r≠l->M l=none->Kx [r] M M'->M' l=some (.lst (ws.map (gwl 12 0)))->(∀w∈ws,Un5 w)->PF ws->ws.length<=40->Pot M' r (n+50)->Q (.ref l) M')
theorem lh(T:Tx K mg):Cal P w K mg base 2 "_law_squares" (sD2 Cn_law_squares):=by
 refine aZ (k:=1) T.f_law_squares aX fun f cdv A outer s H E hr=>⟨_,(ag (aA 2 aX.nd (ar aJ ae (ak (aC T).m hr (aa (dv 0) (aa (ar bG (dv 1) ae) ab))))) (ag (dm 3 aX.nd (CScope.of (xs:=["_law_k"]) (js:=[]) rfl) rfl (cW rfl T.b_range (aa (ar aJ (dv 2) ae) ab)) (fun _ _ _ _=>cy) (fun _ _ _ _=>(aB (aa (aB (aa (ar aD ae (dv 0)) (aa ae ab))) (aa (aB (aa (ar aD ae (dv 0)) (aa ae ab))) ab))))) (ag (d6 El rfl rfl T.b_range (aa (dv 2) ab) (av 4 aX.nd) (aj (aA 3 aX.nd (ar aJ (dv 3) (jo (CScope.of (xs:=["_law_y"]) (js:=[4]) rfl) rfl (aR (aB (aa ae (aa ae ab)))) (fun _ _ _ _=>cy) (fun _ _ _ _=>(aB (aa (aB (aa (ar aD ae (dv 1)) (aa (dv 0) ab))) (aa (aB (aa (ar aJ (ar aD ae (dv 1)) ae) (aa (dv 0) ab))) ab))))))))) (ag (bf (aH (b5 hr.units) (ak (aC T).m hr (aa (dv 0) (aa ae ab))) ae) (aj (az (dv 3))) aI) (ag (aA 5 aX.nd (bI ab)) (ag (bH El rfl (aR (dv 3)) (av 6 aX.nd) (aj (br (eN (dv 5) (aa (ak (aC T).m hr (aa (dv 0) (aa (ar aJ (aF cv rfl T.b_len cB (aa (dv 5) ab)) ae) ab))) (aa (dv 6) ab)))))) (aj (az (dv 5))))))))),fun _ _ M Q h=>?_⟩;obtain⟨r,n,rfl,rfl,P0,hn,k⟩:=h;refine⟨_,rfl,_,rfl,trivial,r,8,n,rfl,rfl,P0,by omega,by decide,aW (by decide),fun v o h0 h1 P1=>?_⟩;obtain⟨m,rfl⟩:∃m:Nat,v=(m:Int):=⟨v.toNat,by omega⟩;have kx1:Kx [r] M (aq M r o):=Kx.refl.upd (by simp)
 have fr1:∀a,(aq M r o) a=none->M a=none:=fun a e=>by
  cases h:M a with
  |none=>rfl
  |some ob=>
   by_cases z:a=r
   ·subst z;rw[af]at e;cases e
   ·rw[ai z]at e;rw[h]at e;cases e
 generalize aq M r o=M1 at P1 kx1 fr1 ⊢;refine⟨_,rfl,6+m+1,(by simp),by omega,?_⟩;refine⟨by show 6+m+1<=1000000;omega,fun p hp=>?_⟩;have nrp:r≠p:=P1.ne hp;refine⟨fun j ys M2=>ys=((GA 0 j).map fun k:Nat=>sqV (k:Int)).map (gwl 12 0)/\M2=aq M1 p (.lst ys),⟨rfl,rfl⟩,fun _ _ _ _ _=>trivial,?_,?_⟩
 ·rintro j ys d M2 hj hd ⟨rfl,rfl⟩;have hd:some (D.int (j:Int))=some d:=hd;cases hd;refine⟨_,rfl,?_⟩;dsimp only[SD.cM];refine kQ ?_;refine⟨_,rfl,aG (aW (by decide)),nbL rfl,_,rfl,aG (aW (by decide)),nbL rfl,nbL rfl,_,.refl,af,?_,by rw[bo]⟩;rw[List.range'_concat,Eg,Eg];simp[DY]
 rintro ys M2 ⟨rfl,rfl⟩;have hl2:(aq M1 p (.lst (((GA 0 (6+m+1)).map fun k:Nat=>sqV (k:Int)).map (gwl 12 0)))) p=some (.lst ((sqG (6+m) 0).map (gwl 12 0))):=af;have kx2:Kx [r] M (aq M1 p (.lst (((GA 0 (6+m+1)).map fun k:Nat=>sqV (k:Int)).map (gwl 12 0)))):=kx1.new hp;have P2:Pot (aq M1 p (.lst (((GA 0 (6+m+1)).map fun k:Nat=>sqV (k:Int)).map (gwl 12 0)))) r (n+1):=P1.new hp;generalize aq M1 p (.lst (((GA 0 (6+m+1)).map fun k:Nat=>sqV (k:Int)).map (gwl 12 0)))=M2 at hl2 kx2 P2 ⊢;(try dsimp only[SD.bF])
 refine cA (fun δ M'=>∃(l2:Addr) (o4 o5 o6:Option D),δ=[some (.ref r),some (.int 13),some (.int ((6+m:Nat):Int)),some (.ref l2),o4,o5,o6]/\Pot M' r (n+1)/\Kx [r] M M'/\M' l2=some (.lst ((sqG (6+m) (6+m)).map (gwl 12 0)))/\r≠l2/\M l2=none) ?_ (fun hu=>?_);rotate_left
 ·refine⟨_,rfl,6+m,by simp,by omega,fun i δ M'=>∃(l2:Addr) (o4 o5 o6:Option D),δ=[some (.ref r),some (.int 13),some (.int ((6+m:Nat):Int)),some (.ref l2),o4,o5,o6]/\Pot M' r (n+1)/\Kx [r] M M'/\M' l2=some (.lst ((sqG (6+m) i).map (gwl 12 0)))/\r≠l2/\M l2=none,⟨p,_,_,_,by simp;rfl,P2,kx2,hl2,nrp,fr1 p hp⟩,?_,fun δ M' h=>hu _ _ h⟩;rintro i δ M3 hi ⟨l2,o4,o5,o6,rfl,P3,kx3,hl3,nr3,hf3⟩;refine⟨_,rfl,nbL rfl,[.int 0,.int 12],rfl,?_⟩;refine⟨by show 2<=1000000;decide,fun q hq=>?_⟩;have n2q:l2≠q:=au hl3 hq;have nrq:r≠q:=P3.ne hq;refine⟨fun j ys M4=>ys=(([sqH (i:Int) 0,sqH (i:Int) 1]).take j).map (gwl 12 0)/\M4=aq M3 q (.lst ys),⟨rfl,rfl⟩,fun _ _ _ _ _=>rfl,?_,?_⟩
  ·rintro j ys d M4 hj hd ⟨rfl,rfl⟩;have hj:j<2:=hj;have hd:[D.int 0,D.int 12][j]?=some d:=hd;obtain⟨w1,w2⟩:=Dy (i:Int);rcases(show j=0\/j=1 by omega)with rfl|rfl
   ·cases hd;refine⟨_,rfl,?_⟩;dsimp only[SD.cM];refine kQ ?_;refine⟨_,rfl,aG (aW (by decide)),_,rfl,nbL rfl,_,rfl,aG (aW (by decide)),_,rfl,nbL rfl,nbL rfl,_,.refl,af,?_,by rw[bo]⟩;simp[w1]
   ·cases hd;refine⟨_,rfl,?_⟩;dsimp only[SD.cM];refine kQ ?_;refine⟨_,rfl,aG (aW (by decide)),_,rfl,nbL rfl,_,rfl,aG (aW (by decide)),_,rfl,nbL rfl,nbL rfl,_,.refl,af,?_,by rw[bo]⟩;simp[w1,w2]
  rintro ys M4 ⟨rfl,rfl⟩;have hlen:=mj (6+m) i;refine⟨_,_,(by rw[ai n2q];exact hl3),af,(by rw[D8,hlen];show 6+m+1+2*i+2<=Ea;have sz:1000000<=Ea:=nbL rfl;omega),fun l4 hl4=>?_⟩;have hl4:(aq M3 q (.lst ((([sqH (i:Int) 0,sqH (i:Int) 1]).take 2).map (gwl 12 0)))) l4=none:=hl4;have P4:=(P3.new (o:=.lst ((([sqH (i:Int) 0,sqH (i:Int) 1]).take 2).map (gwl 12 0))) hq);have kx4:=kx3.new (o:=.lst ((([sqH (i:Int) 0,sqH (i:Int) 1]).take 2).map (gwl 12 0))) hq
  have hfr:M l4=none:=by
   cases h:M l4 with
   |none=>rfl
   |some ob=>
    by_cases z:l4=r
    ·subst z;obtain⟨_,_,_,e,_⟩:=P4;rw[hl4]at e;cases e
    ·have:=kx4 l4 ob (by simpa using z) h;rw[hl4]at this;cases this
  exact⟨l4,_,_,_,rfl,P4.new hl4,kx4.new hl4,by rw[af,sqG,Eg];rfl,P4.ne hl4,hfr⟩
 rintro δ M2' ⟨l2,o4,o5,o6,rfl,P3,kx3,hl3,nr3,hf3⟩;have hlen:=mj (6+m) (6+m);refine cA (fun δ M'=>δ=[some (.ref r),some (.int 13),some (.int ((6+m:Nat):Int)),some (.ref l2),o4,o5,o6]/\Pot M' r (n+2)/\Kx [r] M M'/\M' l2=some (.lst ((sqG (6+m) (6+m)).map (gwl 12 0)))) ?_ (fun hu=>?_);rotate_left
 ·refine⟨_,rfl,r,2,n+1,rfl,rfl,P3,by omega,by decide,aW (by decide),fun v1 o5' d0 d1 P5=>⟨_,rfl,?_⟩⟩;have hl5:(aq M2' r o5') l2=some (.lst ((sqG (6+m) (6+m)).map (gwl 12 0))):=by rw[ai nr3.symm];exact hl3
  refine bD (fun _=>?_) (fun _=>hu _ _ ⟨rfl,P5,kx3.upd (by simp),hl5⟩);obtain⟨q1,q2,q3⟩:=yw (m:=6+m) (by omega) (rm (6+m));exact⟨_,rfl,rtn (k l2 _ _ nr3 hf3 (kx3.upd (by simp)) hl5 q2 q1 q3 (P5.le (by omega)))⟩
 rintro δ M3 ⟨rfl,P4,kx4,hl4⟩;refine⟨nbL rfl,fun l5 hl5=>?_⟩;have nr5:r≠l5:=P4.ne hl5;have n25:l2≠l5:=au hl4 hl5
 have hfr:M l5=none:=by
  cases h:M l5 with
  |none=>rfl
  |some ob=>
   have:=kx4 l5 ob (by simpa using nr5.symm) h
   rw[hl5]at this;cases this
 have P5:Pot (aq M3 l5 (.lst [])) r (n+2):=P4.new hl5;have hl6:(aq M3 l5 (.lst [])) l2=some (.lst ((sqG (6+m) (6+m)).map (gwl 12 0))):=by rw[ai n25];exact hl4
 have hf6:(aq M3 l5 (.lst [])) l5=some (.lst (([]:List Wl).map (gwl 12 0))):=af;have kx6:Kx [r] M (aq M3 l5 (.lst [])):=kx4.new hl5;generalize aq M3 l5 (.lst [])=M4 at P5 hl6 hf6 kx6 ⊢;refine⟨_,rfl,_,hl6,fun i δ M'=>∃(ws:List Wl) (o6:Option D),δ=[some (.ref r),some (.int 13),some (.int ((6+m:Nat):Int)),some (.ref l2),o4,some (.ref l5),o6]/\Pot M' r (n+2+i)/\Kx [r] M M'/\M' l2=some (.lst ((sqG (6+m) (6+m)).map (gwl 12 0)))/\M' l5=some (.lst (ws.map (gwl 12 0)))/\ws.Perm ((sqG (6+m) (6+m)).take i),⟨[],_,rfl,P5,kx6,hl6,hf6,by simp⟩,fun i δ M' _ z=>let⟨_,_,_,_,_,h2,_⟩:=z;h2,?_,?_⟩;rotate_left
 ·rintro δ M' ⟨ws,o6,rfl,P',kx',hl',hf',pm⟩;have pm:ws.Perm ((sqG (6+m) (6+m)).take ((sqG (6+m) (6+m)).map (gwl 12 0)).length):=pm;have P':Pot M' r (n+2+((sqG (6+m) (6+m)).map (gwl 12 0)).length):=P';rw[D8]at pm P';rw[List.take_length]at pm;obtain⟨q1,q2,q3⟩:=yw (m:=6+m) (by omega) (pm.trans (rm (6+m)));exact⟨_,rfl,rtn (k l5 ws _ nr5 hfr kx' hf' q2 q1 q3 (P'.le (by omega)))⟩
 rintro i d δ M5 hi hd ⟨ws,o6,rfl,P',kx',hl',hf',pm⟩;have hi:i<((sqG (6+m) (6+m)).map (gwl 12 0)).length:=hi;rw[D8]at hi;have hwlen:ws.length=i:=by rw[pm.length_eq,Fu];omega
 have hd:((sqG (6+m) (6+m)).map (gwl 12 0))[i]?=some d:=hd;rw[E4,E2 hi]at hd;cases hd;refine⟨_,rfl,l5,_,rfl,hf',_,rfl,_,rfl,_,hf',r,(i:Int)+1,n+2+i,rfl,by simp[hwlen],P',by omega,by omega,aW (by omega),fun v2 o7 h20 h21 P7=>?_⟩;obtain⟨j,rfl⟩:∃j:Nat,v2=(j:Int):=⟨v2.toNat,by omega⟩;have hf7:(aq M5 r o7) l5=some (.lst (ws.map (gwl 12 0))):=by rw[ai nr5.symm];exact hf'
 refine⟨_,rfl,_,_,j,rfl,hf7,by simp;omega,by simp;omega,?_⟩;refine⟨eJ ws j (sqG (6+m) (6+m))[i],_,rfl,P7.upd nr5,?_,(by rw[ai n25,ai nr3.symm];exact hl'),(by rw[af,jx]),?_⟩
 ·intro a ob na e;have hap:a≠l5:=fun z=>by subst z;rw[hfr]at e;cases e
  rw[ai hap];exact(kx'.upd (by simp)) a ob na e
 rw[Fs,E2 hi];exact(fy ws j _).trans ((List.Perm.cons _ pm).trans (List.perm_append_comm (l₁:=[(sqG (6+m) (6+m))[i]]) (l₂:=(sqG (6+m) (6+m)).take i)))
theorem dw:FnScope ["_law_top","_law_bottom","_law_one","_law_other"] ["_law_top","_law_bottom"] (ao je):=by walk_at "sc"
inductive Cn_law_frac(x y:D)(M:MH)(Q:DK):Prop
 |mk (t:_) (b:_) (_:x=.int t) (_:y=.int b) (_:0<b) (_:Bd 8000 t) (_:Bd 8000 b) (_:Q (Ma.fr (Rat.divInt t b)) M)
theorem kL(T:Tx K mg):Cal P w K mg base 1 "_law_frac" (sD2 Cn_law_frac):=by
 refine aZ (k:=0) T.f_law_frac dw fun f cdv A outer s H E hr=>⟨_,(ag (aA 2 dw.nd (aF qc rfl T.b_abs oK (aa (dv 0) ab))) (ag (aA 3 dw.nd (dv 1)) (ag (gw El (aH (kB hr.units) (dv 3) ae) (aj (fY 2 3 rfl dw.nd (aa (dv 3) (aa (ar d7 (dv 2) (dv 3)) ab))))) (aj (az (aB (aa (ar eG (dv 0) (dv 2)) (aa (ar eG (dv 1) (dv 2)) ab)))))))),fun _ _ M Q h=>?_⟩;obtain⟨t,b,rfl,rfl,hb,ht,hbb,q⟩:=h;obtain⟨n,rfl⟩:∃n:Nat,b=(n:Int):=⟨b.toNat,by omega⟩;have hg:=Ma.dR (t:=t) (show(n:Int)≠0 by omega);have hgd:Bd 8000 ((Gq t.natAbs (n:Int).natAbs:Nat):Int):=hbb.of_le (by simpa using Nat.gcd_le_right t.natAbs (show 0<(n:Int).natAbs by omega));refine⟨_,rfl,_,rfl,?_⟩;refine⟨fun m δ M'=>M'=M/\∃x y:Nat,δ=[some (.int t),some (.int n),some (.int x),some (.int y)]/\Gq x y=Gq t.natAbs (n:Int).natAbs/\m=y,⟨_,rfl,_,n,rfl,rfl,rfl⟩,?_⟩;rintro m δ M' ⟨rfl,x,y,rfl,hxy,hm⟩;refine⟨_,rfl,trivial,_,rfl,?_⟩;refine bD (fun h=>?_) (fun h=>?_)
 ·have hy':0<y:=by
   have:(0:Int)<(y:Int):=by simpa using h
   omega
  have hy:(y:Int)≠0:=by omega
  refine⟨_,rfl,_,rfl,_,rfl,hy,_,_,rfl,?_⟩;refine⟨x%y,by rw[hm];exact Nat.mod_lt _ hy',rfl,y,x%y,?_,?_,rfl⟩
  ·rw[<-Ma.qP];rfl
  ·rw[<-hxy,Nat.gcd_comm x y,Nat.gcd_rec y x,Nat.gcd_comm]
 ·have hy:y=0:=by
   have:¬(0:Int)<(y:Int):=by simpa using h
   omega
  subst hy;rw[Nat.gcd_zero_right]at hxy;subst hxy;obtain⟨e1,e2⟩:=Ma.qJ (t:=t) hb;refine⟨_,rfl,_,rfl,⟨by omega,hgd⟩,_,rfl,_,rfl,⟨by omega,hgd⟩,nbL rfl,?_⟩;dsimp only;rw[e1,e2];exact rtn q
theorem cE:FnScope ["_law_frame_here","_law_spot","_law_p","_law_q","_law_s","_law_t"] ["_law_frame_here","_law_spot"] (ao iH):=by walk_at "sc"
inductive Cn_law_given(s v:D)(M:MH)(Q:DK):Prop
 |mk (t b x y p q:Int) (_:s=scl t b x y) (_:v=.tup [.int p,.int q]) (_:Scl t b x y) (_:(-(10^6)<=p/\p<=10^6)) (_:(-(10^6)<=q/\q<=10^6)) (_:Q (Ma.spt (Ma.ut t b x 1 p) (Ma.ut t b y 1 q)) M)
theorem iw(T:Tx K mg):Cal P w K mg base 2 "_law_given" (sD2 Cn_law_given):=by
 refine aZ (k:=1) T.f_law_given cE fun f cdv A outer s H E hr=>⟨_,(ag (cf (dv 0) (bA rfl (ay (av 2 cE.nd) (ay (av 3 cE.nd) (ay (av 4 cE.nd) (ay (av 5 cE.nd) aT)))))) (aj (az (aB (aa (ak (kL T).m hr (aa (ar aJ (ar aD (aw (dv 1) ae) (dv 2)) (dv 4)) (aa (dv 3) ab))) (aa (ak (kL T).m hr (aa (ar aJ (ar aD (aw (dv 1) ae) (dv 2)) (dv 5)) (aa (dv 3) ab))) ab)))))),fun _ _ M Q h=>?_⟩;obtain⟨t,b,x,y,p,q,rfl,rfl,S,hp,hq,k⟩:=h;have bt:Bd 100 t:=by have:=S.t0;have:=S.t1;show t.natAbs<2^100;omega
 have bp:∀{z:Int},(-(10^6)<=z/\z<=10^6)->Bd 64 z:=fun{z} h=>by show z.natAbs<2^64;omega
 have bb:Bd 8000 b:=by have:=S.b0;have:=S.b1;exact Bd.mono (m:=100) (by show b.natAbs<2^100;omega) (by decide)
 have big:∀{z w:Int},(-(10^6)<=z/\z<=10^6)->(-(10^30)<=w/\w<=10^30)->Bd 8000 (z*t+w):=fun{z w} h1 h2=>by
  have e1:Bd 164 (z*t):=(bp h1).mul bt
  have e2:Bd 164 w:=by show w.natAbs<2^164;omega
  exact(e1.add e2).mono (by decide)
 have hb0:b≠0:=by have:=S.b0;omega
 refine⟨_,rfl,_,rfl,rfl,_,_,rfl,_,_,rfl,_,_,rfl,_,_,rfl,rfl,?_⟩;refine⟨_,rfl,_,rfl,_,rfl,aG (bp hp),_,rfl,_,rfl,p*t+x,b,rfl,rfl,S.b0,big hp ⟨S.x0,S.x1⟩,bb,?_⟩;refine⟨_,rfl,_,rfl,_,rfl,aG (bp hq),_,rfl,_,rfl,q*t+y,b,rfl,rfl,S.b0,big hq ⟨S.y0,S.y1⟩,bb,nbL rfl,?_⟩;rw[Ma.ub,Ma.ub];exact rtn k
theorem nT:FnScope ["_law_frame_here","_law_shuts"] ["_law_frame_here","_law_shuts"] (ao jQ):=by walk_at "sc"
inductive Cn_law_plot(s v:D)(M:MH)(Q:DK):Prop
 |mk (t b x y:Int) (l:Addr) (ws:List (Int×Int×Int×Int)) (_:s=scl t b x y) (_:v=.ref l) (_:M l=some (.lst (ws.map uw))) (_:Scl t b x y) (_:ws.length<=1000) (_:(∀w∈ws,Uok (10^6) w)) (_:Q (.tup (ws.map (rwl t b x y))) M)
theorem oY(T:Tx K mg):Cal P w K mg base 3 "_law_plot" (sD2 Cn_law_plot):=by
 refine aZ (k:=2) T.f_law_plot nT fun f cdv A outer s H E hr=>⟨_,(aj (az (cY n9 rfl T.b_tuple oo (aa (nJ (CScope.of (xs:=["_law_first","_law_second"]) (js:=[0]) rfl) rfl (aR (dv 1)) (fun _ _ _ _=>cy) (fun _ _ _ _=>(aB (aa (ak (iw T).m hr (aa (dv 2) (aa (dv 0) ab))) (aa (ak (iw T).m hr (aa (dv 2) (aa (dv 1) ab))) ab))))) ab)))),fun _ _ M Q h=>?_⟩;obtain⟨t,b,x,y,l,ws,rfl,rfl,hM,S,hl,hw,k⟩:=h;refine⟨_,rfl,ws.map uw,hM,comp_map (fun i=>((ws.map (rwl t b x y))[i]?).getD .non) (by simp;omega) (fun p ys hp=>?_) ?_ (fun p hp=>⟨_,af,?_⟩)⟩
 ·show(aq M p _) l=_;rw[ai (au hM hp)];exact hM
 ·intro i e M' hi he _;have he:(ws.map uw)[i]?=some e:=he;rw[E4]at he;cases ew:ws[i]? with
  |none=>rw[ew]at he;cases he
  |some w=>
   rw[ew]at he
   cases he
   obtain⟨u1,u2,u3,u4⟩:=hw w (Ej ew)
   refine⟨_,⟨_,rfl,rfl,rfl⟩,fun K hK=>?_⟩
   have hK':=hK M' .refl
   rw[getD_map ew]at hK'
   refine⟨_,rfl,_,rfl,t,b,x,y,w.1,w.2.1,rfl,rfl,S,u1,u2,?_⟩
   exact⟨_,rfl,_,rfl,t,b,x,y,w.2.2.1,w.2.2.2,rfl,rfl,S,u3,u4,nbL rfl,hK'⟩
 ·refine⟨_,.new hp .refl,?_⟩
  have e:(E5 (ws.map uw).length).map (fun i=>((ws.map (rwl t b x y))[i]?).getD .non)=ws.map (rwl t b x y):=by
   have:=SD.range_getD (ws.map (rwl t b x y))
   rw[D8]at this ⊢
   exact this
  dsimp only;rw[e];exact k
theorem cV:FnScope ["_law_pot_here","_law_many","_law_kind","_law_far"] ["_law_pot_here","_law_many"] (ao iy):=by walk_at "sc"
inductive Cn_law_frame(u v:D)(M:MH)(Q:DK):Prop
 |mk (r:Addr) (n:Nat) (m:Int) (_:u=.ref r) (_:v=.int m) (_:Pot M r n) (_:n<700000) (_:∀(t b x y:Int) M',Scl t b x y->t<=10^20->b<=10^25->(-(10^27)<=x/\x<=10^27)->(-(10^27)<=y/\y<=10^27)->Kx [r] M M'->Pot M' r (n+5)->Q (scl t b x y) M')
theorem nk(T:Tx K mg):Cal P w K mg base 2 "_law_frame" (sD2 Cn_law_frame):=by
 refine aZ (k:=1) T.f_law_frame cV fun f cdv A outer s H E hr=>⟨_,(ag (aA 2 cV.nd (ak (aC T).m hr (aa (dv 0) (aa ae ab)))) (ag (bf (aH (cO hr.units) (dv 2) ae) (aj (az (aB (aa ae (aa ae (aa ae (aa ae ab))))))) aI) (ag (bf (oZ (jZ (aH (b5 hr.units) (dv 2) ae) (gb (aH (cO hr.units) (dv 1) ae)))) (ag (dm 3 cV.nd (CScope.of (xs:=["_law_k"]) (js:=[0]) rfl) rfl (cW rfl T.b_range (aa ae ab)) (fun _ _ _ _=>cy) (fun _ _ _ _=>(ar bG (ak (aC T).m hr (aa (dv 1) (aa (ar aJ (ar aD ae (ar eY ae ae)) ae) ab))) (ar eY ae ae)))) (aj (az (aB (aa (ar aJ ae (ak (aC T).m hr (aa (dv 0) (aa (ar eY ae ae) ab)))) (aa (ar aJ ae (ak (aC T).m hr (aa (dv 0) (aa (ar eY ae ae) ab)))) (aa (aw (dv 3) ae) (aa (aw (dv 3) ae) ab)))))))) aI) (ag (dm 3 cV.nd (CScope.of (xs:=["_law_k"]) (js:=[0]) rfl) rfl (cW rfl T.b_range (aa ae ab)) (fun _ _ _ _=>cy) (fun _ _ _ _=>(ar bG (ak (aC T).m hr (aa (dv 1) (aa (ar aJ (ar aD ae (ar eY ae ae)) ae) ab))) (ar eY ae ae)))) (aj (az (aB (aa (ar aJ ae (ak (aC T).m hr (aa (dv 0) (aa (ar eY ae ae) ab)))) (aa (ar aJ ae (ak (aC T).m hr (aa (dv 0) (aa (ar eY ae ae) ab)))) (aa (aw (dv 3) ae) (aa (aw (dv 3) ae) ab))))))))))),fun _ _ M Q h=>?_⟩;obtain⟨r,n,m,rfl,rfl,P0,hn,k⟩:=h;refine⟨_,rfl,r,16,n,rfl,rfl,P0,by omega,by decide,aW (by decide),fun kd o h0 h1 P1=>?_⟩;have kx1:Kx [r] M (aq M r o):=Kx.refl.upd (by simp);generalize aq M r o=M1 at P1 kx1 ⊢;refine⟨_,rfl,trivial,_,rfl,?_⟩;refine bD (fun _=>?_) (fun _=>?_)
 ·exact⟨nbL rfl,rtn (k 1 1 0 0 M1 ⟨by decide,by decide,by decide,by decide,by decide,by decide,by decide,by decide⟩ (by decide) (by decide) (by decide) (by decide) kx1 (P1.le (by omega)))⟩
 (try dsimp only[SD.eW,SD.cZ,SD.bF,SD.fN,SD.eU,SD.dq,SD.dH,SD.tBD,SD.fR])
 refine⟨_,rfl,_,rfl,?_⟩;refine bD (fun _=>?_) (fun _=>?_)
 ·refine⟨_,rfl,trivial,_,rfl,?_⟩;refine bD (fun _=>?_) (fun _=>?_)
  ·refine⟨2,rfl,by decide,?_⟩;refine⟨by show 2<=1000000;omega,fun p hp=>?_⟩;have nrp:r≠p:=P1.ne hp;refine⟨fun j ys M2=>∃us:List Int,ys=us.map D.int/\us.length=j/\(∀u∈us,-(10^27)<=u/\u<=10^27)/\Kx [r] M M2/\M2 p=some (.lst ys)/\Pot M2 r (n+1+j),⟨[],rfl,rfl,fun u hu=>absurd hu (by simp),kx1.new hp,af,P1.new hp⟩,fun _ _ _ _ _=>trivial,?_,?_⟩
   ·rintro j ys d M2 hj hd ⟨us,rfl,hj2,hB,kx4,hp4,P4⟩;have hj:j<2:=hj;refine⟨_,rfl,?_⟩;dsimp only[SD.cM];refine kQ ?_;refine⟨_,rfl,⟨by decide,by decide,by decide⟩,aG (aW (by decide)),r,2*10^27+1,n+1+j,rfl,rfl,P4,by omega,by decide,Bd.mono (m:=100) (by show(2*10^27+1:Int).natAbs<2^100;decide) (by decide),fun v o5 a0 a1 P5=>?_⟩;have hp5:(aq M2 r o5) p=some (.lst (us.map D.int)):=by rw[ai nrp.symm];exact hp4
    have kx5:Kx [r] M (aq M2 r o5):=kx4.upd (by simp);generalize aq M2 r o5=M5 at hp5 kx5 P5 ⊢;refine⟨⟨by decide,by decide,by decide⟩,trivial,M5,.refl,hp5,us++[v-10^27],by simp,by simp[hj2],fun x hx=>?_,?_,af,P5.upd nrp⟩
    ·rcases Ek.mp hx with z|z
     ·exact hB x z
     ·have:x=v-10^27:=by simpa using z
      subst this;omega
    ·intro a ob na ea
     have hap:a≠p:=fun z=>by
      subst z
      have:=kx1 a ob na ea
      rw[hp]at this;cases this
     rw[ai hap];exact kx5 a ob na ea
   rintro ys M4 ⟨us,rfl,hus,hB,kx4,hp4,P4⟩;have hus:us.length=2:=hus;have P4:Pot M4 r (n+3):=P4
   obtain⟨x,y,rfl⟩:∃x y,us=[x,y]:=by
    match us,hus with
    |[x,y],_=>exact⟨x,y,rfl⟩
   have hx:=hB x (by simp);have hy:=hB y (by simp);refine⟨_,rfl,⟨by decide,by decide,by decide⟩,r,10^20,n+3,rfl,rfl,P4,by omega,by decide,Bd.mono (m:=100) (by show(10^20:Int).natAbs<2^100;decide) (by decide),fun v o5 a0 a1 P5=>?_⟩;refine⟨_,rfl,⟨by decide,by decide,by decide⟩,r,10^25,n+4,rfl,rfl,P5,by omega,by decide,Bd.mono (m:=100) (by show(10^25:Int).natAbs<2^100;decide) (by decide),fun v2 o6 b0 b1 P6=>?_⟩;have hp6:(aq (aq M4 r o5) r o6) p=some (.lst ([x,y].map D.int)):=by rw[ai nrp.symm,ai nrp.symm];exact hp4
   have kx6:Kx [r] M (aq (aq M4 r o5) r o6):=(kx4.upd (by simp)).upd (by simp);refine⟨_,rfl,_,_,hp6,rfl,_,rfl,_,_,hp6,rfl,nbL rfl,?_⟩;exact rtn (k (1+v) (1+v2) x y _ ⟨by omega,by omega,by omega,by omega,by omega,by omega,by omega,by omega⟩ (by omega) (by omega) (by omega) (by omega) kx6 P6)
  ·refine⟨2,rfl,by decide,?_⟩;refine⟨by show 2<=1000000;omega,fun p hp=>?_⟩;have nrp:r≠p:=P1.ne hp;refine⟨fun j ys M2=>∃us:List Int,ys=us.map D.int/\us.length=j/\(∀u∈us,-(10^6)<=u/\u<=10^6)/\Kx [r] M M2/\M2 p=some (.lst ys)/\Pot M2 r (n+1+j),⟨[],rfl,rfl,fun u hu=>absurd hu (by simp),kx1.new hp,af,P1.new hp⟩,fun _ _ _ _ _=>trivial,?_,?_⟩
   ·rintro j ys d M2 hj hd ⟨us,rfl,hj2,hB,kx4,hp4,P4⟩;have hj:j<2:=hj;refine⟨_,rfl,?_⟩;dsimp only[SD.cM];refine kQ ?_;refine⟨_,rfl,⟨by decide,by decide,by decide⟩,aG (aW (by decide)),r,2*10^6+1,n+1+j,rfl,rfl,P4,by omega,by decide,Bd.mono (m:=100) (by show(2*10^6+1:Int).natAbs<2^100;decide) (by decide),fun v o5 a0 a1 P5=>?_⟩;have hp5:(aq M2 r o5) p=some (.lst (us.map D.int)):=by rw[ai nrp.symm];exact hp4
    have kx5:Kx [r] M (aq M2 r o5):=kx4.upd (by simp);generalize aq M2 r o5=M5 at hp5 kx5 P5 ⊢;refine⟨⟨by decide,by decide,by decide⟩,trivial,M5,.refl,hp5,us++[v-10^6],by simp,by simp[hj2],fun x hx=>?_,?_,af,P5.upd nrp⟩
    ·rcases Ek.mp hx with z|z
     ·exact hB x z
     ·have:x=v-10^6:=by simpa using z
      subst this;omega
    ·intro a ob na ea
     have hap:a≠p:=fun z=>by
      subst z
      have:=kx1 a ob na ea
      rw[hp]at this;cases this
     rw[ai hap];exact kx5 a ob na ea
   rintro ys M4 ⟨us,rfl,hus,hB,kx4,hp4,P4⟩;have hus:us.length=2:=hus;have P4:Pot M4 r (n+3):=P4
   obtain⟨x,y,rfl⟩:∃x y,us=[x,y]:=by
    match us,hus with
    |[x,y],_=>exact⟨x,y,rfl⟩
   have hx:=hB x (by simp);have hy:=hB y (by simp);refine⟨_,rfl,⟨by decide,by decide,by decide⟩,r,10^4,n+3,rfl,rfl,P4,by omega,by decide,Bd.mono (m:=100) (by show(10^4:Int).natAbs<2^100;decide) (by decide),fun v o5 a0 a1 P5=>?_⟩;refine⟨_,rfl,⟨by decide,by decide,by decide⟩,r,10^4,n+4,rfl,rfl,P5,by omega,by decide,Bd.mono (m:=100) (by show(10^4:Int).natAbs<2^100;decide) (by decide),fun v2 o6 b0 b1 P6=>?_⟩;have hp6:(aq (aq M4 r o5) r o6) p=some (.lst ([x,y].map D.int)):=by rw[ai nrp.symm,ai nrp.symm];exact hp4
   have kx6:Kx [r] M (aq (aq M4 r o5) r o6):=(kx4.upd (by simp)).upd (by simp);refine⟨_,rfl,_,_,hp6,rfl,_,rfl,_,_,hp6,rfl,nbL rfl,?_⟩;exact rtn (k (1+v) (1+v2) x y _ ⟨by omega,by omega,by omega,by omega,by omega,by omega,by omega,by omega⟩ (by omega) (by omega) (by omega) (by omega) kx6 P6)
 ·refine⟨2,rfl,by decide,?_⟩;refine⟨by show 2<=1000000;omega,fun p hp=>?_⟩;have nrp:r≠p:=P1.ne hp;refine⟨fun j ys M2=>∃us:List Int,ys=us.map D.int/\us.length=j/\(∀u∈us,-(10^6)<=u/\u<=10^6)/\Kx [r] M M2/\M2 p=some (.lst ys)/\Pot M2 r (n+1+j),⟨[],rfl,rfl,fun u hu=>absurd hu (by simp),kx1.new hp,af,P1.new hp⟩,fun _ _ _ _ _=>trivial,?_,?_⟩
  ·rintro j ys d M2 hj hd ⟨us,rfl,hj2,hB,kx4,hp4,P4⟩;have hj:j<2:=hj;refine⟨_,rfl,?_⟩;dsimp only[SD.cM];refine kQ ?_;refine⟨_,rfl,⟨by decide,by decide,by decide⟩,aG (aW (by decide)),r,2*10^6+1,n+1+j,rfl,rfl,P4,by omega,by decide,Bd.mono (m:=100) (by show(2*10^6+1:Int).natAbs<2^100;decide) (by decide),fun v o5 a0 a1 P5=>?_⟩;have hp5:(aq M2 r o5) p=some (.lst (us.map D.int)):=by rw[ai nrp.symm];exact hp4
   have kx5:Kx [r] M (aq M2 r o5):=kx4.upd (by simp);generalize aq M2 r o5=M5 at hp5 kx5 P5 ⊢;refine⟨⟨by decide,by decide,by decide⟩,trivial,M5,.refl,hp5,us++[v-10^6],by simp,by simp[hj2],fun x hx=>?_,?_,af,P5.upd nrp⟩
   ·rcases Ek.mp hx with z|z
    ·exact hB x z
    ·have:x=v-10^6:=by simpa using z
     subst this;omega
   ·intro a ob na ea
    have hap:a≠p:=fun z=>by
     subst z
     have:=kx1 a ob na ea
     rw[hp]at this;cases this
    rw[ai hap];exact kx5 a ob na ea
  rintro ys M4 ⟨us,rfl,hus,hB,kx4,hp4,P4⟩;have hus:us.length=2:=hus;have P4:Pot M4 r (n+3):=P4
  obtain⟨x,y,rfl⟩:∃x y,us=[x,y]:=by
   match us,hus with
   |[x,y],_=>exact⟨x,y,rfl⟩
  have hx:=hB x (by simp);have hy:=hB y (by simp);refine⟨_,rfl,⟨by decide,by decide,by decide⟩,r,10^4,n+3,rfl,rfl,P4,by omega,by decide,Bd.mono (m:=100) (by show(10^4:Int).natAbs<2^100;decide) (by decide),fun v o5 a0 a1 P5=>?_⟩;refine⟨_,rfl,⟨by decide,by decide,by decide⟩,r,10^4,n+4,rfl,rfl,P5,by omega,by decide,Bd.mono (m:=100) (by show(10^4:Int).natAbs<2^100;decide) (by decide),fun v2 o6 b0 b1 P6=>?_⟩;have hp6:(aq (aq M4 r o5) r o6) p=some (.lst ([x,y].map D.int)):=by rw[ai nrp.symm,ai nrp.symm];exact hp4
  have kx6:Kx [r] M (aq (aq M4 r o5) r o6):=(kx4.upd (by simp)).upd (by simp);refine⟨_,rfl,_,_,hp6,rfl,_,rfl,_,_,hp6,rfl,nbL rfl,?_⟩;exact rtn (k (1+v) (1+v2) x y _ ⟨by omega,by omega,by omega,by omega,by omega,by omega,by omega,by omega⟩ (by omega) (by omega) (by omega) (by omega) kx6 P6)
theorem bX:FnScope ["_law_faces","_law_pairs","_law_inner","_law_shut","_law_pair","_law_found","_law_some"] ["_law_faces"] (ao lL):=by walk_at "sc"
inductive Cn_law_due(x:D)(M:MH)(Q:DK):Prop
 |mk (l:Addr) (L:List Int) (n:Nat) (_:x=.ref l) (_:M l=some (.lst (L.map D.int))) (_:L.length=2*n) (_:n<=40) (_:(∀x∈L,Ld x)) (_:∀(M':MH) (lf li:Addr) (us:List (Int×Int)) (A:Int×Int->Addr),SD.Sub M M'->M lf=none->M li=none->M' lf=some (.lst (us.map fun u=>D.tup [.int u.1,.int u.2,.ref (A u)]))->us.Pairwise plt->us.length<=40->(∀u,u∈us↔wlN L u n≠[])->(∀u∈us,M' (A u)=some (.lst ((wlN L u n).map D.int))/\M (A u)=none)->M' li=some (.lst (((E5 n).filter fun w=>decide ((prL L w).1=(prL L w).2)).map fun w:Nat=>D.int (w:Int)))->Q (.tup [.ref lf,.ref li]) M')
theorem sO(T:Tx K mg):Cal P w K mg base 1 "_law_due" (sD1 Cn_law_due):=by
 refine dS (k:=0) T.f_law_due bX fun f cdv A outer s H E hr=>⟨_,(ag (aA 1 bX.nd (bI ab)) (ag (aA 2 bX.nd (bI ab)) (ag (d6 El rfl rfl T.b_range (aa (ar eG (aF cv rfl T.b_len cB (aa (dv 0) ab)) ae) ab) (av 3 bX.nd) (ag (aA 4 bX.nd (aB (aa (aF (mK rfl hr.units) rfl T.b_min qm (aa (aw (dv 0) (ar aD ae (dv 3))) (aa (aw (dv 0) (ar aJ (ar aD ae (dv 3)) ae)) ab))) (aa (aF (ml rfl hr.units) rfl T.b_max oX (aa (aw (dv 0) (ar aD ae (dv 3))) (aa (aw (dv 0) (ar aJ (ar aD ae (dv 3)) ae)) ab))) ab)))) (aj (bf (aH (b5 hr.units) (aw (dv 4) ae) (aw (dv 4) ae)) (aj (br (aQ (dv 2) (aa (dv 3) ab)))) (aj (bf (aH (jh (iQ hr)) (dv 4) (dv 1) (by with_unfolding_all rfl)) (aj (br (aQ (dv 1) (aa (dv 4) ab)))) aI)))))) (ag (aA 5 bX.nd (bI ab)) (ag (bH El rfl (aR (aF wz rfl T.b_sorted fF (aa (dv 1) ab))) (av 4 bX.nd) (ag (dm 6 bX.nd (CScope.of (xs:=["_law_shut"]) (js:=[0,4]) rfl) rfl (cW rfl T.b_range (aa (ar eG (aF cv rfl T.b_len cB (aa (dv 0) ab)) ae) ab)) (fun _ _ _ _=>(mx (aH (b5 hr.units) (aF oC rfl T.b_sorted fF (aa (jN (dv 1) (gv (ar aD ae (dv 0))) (gv (ar aJ (ar aD ae (dv 0)) ae))) ab)) (cY (nB rfl) rfl T.b_list rC (aa (dv 2) ab))))) (fun _ _ _ _=>(dv 0))) (aj (br (aQ (dv 5) (aa (aB (aa (aw (dv 4) ae) (aa (aw (dv 4) ae) (aa (dv 6) ab)))) ab)))))) (aj (az (aB (aa (dv 5) (aa (dv 2) ab)))))))))),fun _ M Q h=>?_⟩;obtain⟨l,L,n,rfl,hl,hL,hn,hld,k⟩:=h;refine⟨nbL rfl,fun lp hlp=>⟨nbL rfl,fun li hli=>?_⟩⟩;have npi:lp≠li:=au af hli;have fli:M li=none:=by rw[ai npi.symm]at hli;exact hli
 have nlp:l≠lp:=au hl hlp;have nli:l≠li:=au hl fli;have hl1:(aq (aq M lp (.lst [])) li (.lst [])) l=some (.lst (L.map D.int)):=by rw[ai nli,ai nlp];exact hl
 have hfd:(((L.map D.int).length:Nat):Int).fdiv 2=(n:Int):=by rw[D8,hL,EI _ (by decide)];omega
 (try dsimp only[SD.bF])
 refine cA (fun δ M'=>∃(ks:List (Int×Int)) (o3 o4 o5 o6:Option D),δ=[some (.ref l),some (.ref lp),some (.ref li),o3,o4,o5,o6]/\(∀a,a≠lp->a≠li->M' a=M a)/\M' lp=some (.lst (ks.map prD))/\M' li=some (.lst (((E5 n).filter fun w=>decide ((prL L w).1=(prL L w).2)).map fun w:Nat=>D.int (w:Int)))/\ks.Nodup/\ks.length<=n/\(∀u,u∈ks↔wlN L u n≠[])) ?_ (fun hu=>?_);rotate_left
 ·refine⟨_,rfl,_,hl1,⟨by decide,aW (by decide)⟩,n,(by dsimp only;rw[hfd]),by omega,?_⟩;refine⟨fun i δ M'=>∃(ks:List (Int×Int)) (o3 o4:Option D),δ=[some (.ref l),some (.ref lp),some (.ref li),o3,o4,none,none]/\(∀a,a≠lp->a≠li->M' a=M a)/\M' lp=some (.lst (ks.map prD))/\M' li=some (.lst (((E5 i).filter fun w=>decide ((prL L w).1=(prL L w).2)).map fun w:Nat=>D.int (w:Int)))/\ks.Nodup/\ks.length<=i/\(∀u,u∈ks↔wlN L u i≠[]),⟨[],_,_,rfl,fun a a1 a2=>by rw[ai a2,ai a1],by rw[ai npi,af];rfl,af,List.nodup_nil,E3 _,fun u=>by simp[wlN]⟩,?_,?_⟩
  ·rintro i δ M' hi ⟨ks,o3,o4,rfl,kM,hp',hi',nd,kl,km⟩;have hl':M' l=some (.lst (L.map D.int)):=by rw[kM l nlp nli];exact hl
   have at0:atI (L.map D.int) (2*(i:Int))=some (.int ((L[2*i]?).getD 0)):=by rw[show 2*(i:Int)=((2*i:Nat):Int) by omega];exact cF (by rw[E4,E2 (show 2*i<L.length by omega)];rfl)
   have at1:atI (L.map D.int) (2*(i:Int)+1)=some (.int ((L[2*i+1]?).getD 0)):=by rw[show 2*(i:Int)+1=((2*i+1:Nat):Int) by omega];exact cF (by rw[E4,E2 (show 2*i+1<L.length by omega)];rfl)
   refine⟨_,rfl,_,rfl,aG (aW (by decide)),_,_,hl',at0,?_⟩;refine⟨_,rfl,_,rfl,aG (aW (by decide)),_,_,hl',at1,?_⟩;refine⟨_,rfl,_,rfl,aG (aW (by decide)),_,_,hl',at0,?_⟩;refine⟨_,rfl,_,rfl,aG (aW (by decide)),_,_,hl',at1,nbL rfl,?_⟩
   have ep:D.tup [.int (min ((L[2*i]?).getD 0) ((L[2*i+1]?).getD 0)),.int (max ((L[2*i]?).getD 0) ((L[2*i+1]?).getD 0))]=prD (prL L i):=by
    unfold prD prL;dsimp only;split
    ·rw[show min ((L[2*i]?).getD 0) ((L[2*i+1]?).getD 0)=(L[2*i]?).getD 0 by omega,show max ((L[2*i]?).getD 0) ((L[2*i+1]?).getD 0)=(L[2*i+1]?).getD 0 by omega]
    ·rw[show min ((L[2*i]?).getD 0) ((L[2*i+1]?).getD 0)=(L[2*i+1]?).getD 0 by omega,show max ((L[2*i]?).getD 0) ((L[2*i+1]?).getD 0)=(L[2*i]?).getD 0 by omega]
   dsimp only;rw[ep]
   have ef:((E5 (i+1)).filter fun w=>decide ((prL L w).1=(prL L w).2))=((E5 i).filter fun w=>decide ((prL L w).1=(prL L w).2))++(if decide ((prL L i).1=(prL L i).2)=true then[i]else[]):=by
    rw[G0,List.filter_append]
    congr 1
    simp[List.filter_cons]
   have fl:((E5 i).filter fun w=>decide ((prL L w).1=(prL L w).2)).length<=i:=by
    have:=FO (fun w=>decide ((prL L w).1=(prL L w).2)) (E5 i)
    simpa using this
   refine⟨_,rfl,_,rfl,_,rfl,_,rfl,_,rfl,?_⟩;refine bD (fun h=>?_) (fun h=>?_)
   ·have eq:(prL L i).1=(prL L i).2:=by simpa using h
    rw[if_pos (by simpa using eq)]at ef;have same:∀v,wlN L v (i+1)=wlN L v i:=fun v=>by rw[wlN,if_neg (fun y=>y.2 eq),EV]
    refine⟨_,rfl,li,_,rfl,hi',_,rfl,_,_,rfl,hi',(by rw[D8];omega),?_⟩;exact⟨ks,_,_,rfl,fun a a1 a2=>by rw[ai a2];exact kM a a1 a2,by rw[ai npi];exact hp',by rw[af,ef,Eg];rfl,nd,by omega,fun u=>by rw[same u];exact km u⟩
   ·have ne':(prL L i).1≠(prL L i).2:=by simpa using h
    rw[if_neg (by simpa using ne'),EV]at ef;have lone:∀v,prL L i≠v->wlN L v (i+1)=wlN L v i:=fun v h=>by rw[wlN,if_neg (fun y=>h y.1),EV]
    have lthe:wlN L (prL L i) (i+1)≠[]:=by rw[wlN,if_pos ⟨rfl,ne'⟩];simp
    refine⟨_,rfl,_,rfl,zg (prL L i) _ _ hp' ⟨_,rfl,?_⟩⟩;refine bD (fun h2=>?_) (fun h2=>?_)
    ·have hni:prL L i∉ks:=by simpa using h2
     refine⟨_,rfl,lp,_,rfl,hp',_,rfl,_,_,rfl,hp',(by rw[D8];omega),?_⟩;refine⟨ks++[prL L i],_,_,rfl,fun a a1 a2=>by rw[ai a1];exact kM a a1 a2,by rw[af,Eg];rfl,by rw[ai npi.symm,ef];exact hi',?_,by simp;omega,fun u=>?_⟩
     ·rw[Gz]
      exact⟨nd,by simp,fun a ha b hb e=>by
       have hb:b=prL L i:=by simpa using hb
       subst hb;subst e;exact hni ha⟩
     ·by_cases y:prL L i=u
      ·subst y;exact⟨fun _=>lthe,fun _=>by simp⟩
      ·rw[lone u y,<-km u];simp[Ne.symm y,fun z:u=prL L i=>y z.symm]
    ·have hin:prL L i∈ks:=by simpa using h2
     refine⟨ks,_,_,rfl,kM,hp',by rw[ef];exact hi',nd,by omega,fun u=>?_⟩;by_cases y:prL L i=u
     ·subst y;exact⟨fun _=>lthe,fun _=>hin⟩
     ·rw[lone u y];exact km u
  ·rintro δ M' ⟨ks,o3,o4,rfl,kM,hp',hi',nd,kl,km⟩;exact hu _ _ ⟨ks,_,_,_,_,rfl,kM,hp',hi',nd,kl,km⟩
 rintro δ M1 ⟨ks,o3,o4,o5,o6,rfl,kM,hp1,hi1,nd,kl,km⟩;have hl1':M1 l=some (.lst (L.map D.int)):=by rw[kM l nlp nli];exact hl
 refine⟨nbL rfl,fun lf hlf=>?_⟩
 have pb:Pb ks:=by
  refine⟨by omega,nd,fun u hu=>?_⟩
  obtain⟨w,_,e,_⟩:=jY ((km u).mp hu)
  have q:=pC hld w
  rw[e]at q
  unfold Ld at q
  omega
 refine⟨_,rfl,ks,(by rw[ai (au hp1 hlf)];exact hp1),pb,fun zs us hzs pm up=>?_⟩;refine⟨us.map prD,af,?_⟩;have usm:∀u,u∈us↔wlN L u n≠[]:=fun u=>by rw[<-km];exact pm.mem_iff
 have ul:us.length<=40:=by rw[pm.length_eq];omega
 have nfz:lf≠zs:=au af hzs
 have to3:∀{a o},M1 a=some o->(aq (aq M1 lf (.lst [])) zs (.lst (us.map prD))) a=some o:=fun{a o} h=>by
  have h1:(aq M1 lf (.lst [])) a=some o:=by rw[ai (au h hlf)];exact h
  rw[ai (au h1 hzs)];exact h1
 have hl3:=to3 hl1';have hi3:=to3 hi1;have hlf3:(aq (aq M1 lf (.lst [])) zs (.lst (us.map prD))) lf=some (.lst (([]:List (Int×Int)).map fun u=>D.tup [.int u.1,.int u.2,.ref 0])):=by rw[ai nfz,af];rfl
 have hzs3:(aq (aq M1 lf (.lst [])) zs (.lst (us.map prD))) zs=some (.lst (us.map prD)):=af
 have fr3:∀{a},(aq (aq M1 lf (.lst [])) zs (.lst (us.map prD))) a=none->M a=none:=fun{a} h=>by
  have a1:a≠zs:=fun y=>by subst y;rw[af]at h;cases h
  rw[ai a1]at h
  have a2:a≠lf:=fun y=>by subst y;rw[af]at h;cases h
  rw[ai a2]at h
  have a3:a≠lp:=fun y=>by subst y;rw[hp1]at h;cases h
  have a4:a≠li:=fun y=>by subst y;rw[hi1]at h;cases h
  rw[kM a a3 a4]at h
  exact h
 have sb3:SD.Sub M (aq (aq M1 lf (.lst [])) zs (.lst (us.map prD))):=fun a o h=>to3 (by rw[kM a (fun y=>by subst y;rw[hlp]at h;cases h) (fun y=>by subst y;rw[fli]at h;cases h)];exact h)
 have flf:M lf=none:=by
  have a3:lf≠lp:=fun y=>by subst y;rw[hp1]at hlf;cases hlf
  have a4:lf≠li:=fun y=>by subst y;rw[hi1]at hlf;cases hlf
  rw[kM lf a3 a4]at hlf;exact hlf
 generalize aq (aq M1 lf (.lst [])) zs (.lst (us.map prD))=M3 at to3 hl3 hi3 hlf3 hzs3 fr3 sb3 ⊢;have nll:l≠lf:=fun y=>by subst y;rw[hl1']at hlf;cases hlf
 have nil':li≠lf:=fun y=>by subst y;rw[hi1]at hlf;cases hlf
 refine⟨fun i δ M'=>∃(A:Int×Int->Addr) (o3 o4 o6:Option D),δ=[some (.ref l),some (.ref lp),some (.ref li),o3,o4,some (.ref lf),o6]/\(∀a o,a≠lf->M3 a=some o->M' a=some o)/\M' lf=some (.lst ((us.take i).map fun u=>D.tup [.int u.1,.int u.2,.ref (A u)]))/\(∀u∈us.take i,M' (A u)=some (.lst ((wlN L u n).map D.int))/\M3 (A u)=none),⟨fun _=>0,_,_,_,rfl,fun _ _ _ h=>h,hlf3,fun u hu=>by simp at hu⟩,fun i δ M' _ q=>by obtain⟨_,_,_,_,_,q,_⟩:=q;exact q zs _ nfz.symm hzs3,?_,?_⟩
 ·rintro i d δ M' hi hd ⟨A,o3,o4,o6,rfl,kM',hlf',hA⟩;have hi:i<us.length:=by have:i<(us.map prD).length:=hi;simpa using this
  have hd:(us.map prD)[i]?=some d:=hd;rw[E4,E2 hi]at hd;cases hd;have hu:=(usm us[i]).mp (ET hi);obtain⟨_,_,_,une⟩:=jY hu;have hl':M' l=some (.lst (L.map D.int)):=kM' l _ nll hl3;refine⟨_,rfl,_,hl',⟨by decide,aW (by decide)⟩,n,(by dsimp only;rw[hfd]),by omega,by show n<=1000000;omega,fun p hp=>?_⟩;refine⟨fun j ys M''=>ys=(wlN L us[i] j).map D.int/\M''=aq M' p (.lst ys),⟨rfl,rfl⟩,fun _ _ _ _ _=>trivial,?_,?_⟩
  ·rintro j ys d M'' hj hd ⟨rfl,rfl⟩;have hj:j<n:=hj;have hd:some (D.int (j:Int))=some d:=hd;cases hd;have hl'':(aq M' p (.lst ((wlN L us[i] j).map D.int))) l=some (.lst (L.map D.int)):=by rw[ai (au hl' hp)];exact hl'
   have e1:cutD (L.map D.int) (some (2*(j:Int))) (some (2*(j:Int)+2))=([(L[2*j]?).getD 0,(L[2*j+1]?).getD 0]).map D.int:=by
    have:=rk (L:=L) (w:=j) (by omega)
    rw[show((2*j:Nat):Int)=2*(j:Int) by omega,show((2*j+2:Nat):Int)=2*(j:Int)+2 by omega]at this
    exact this
   refine⟨_,rfl,?_⟩;refine⟨_,rfl,?_⟩;refine⟨_,rfl,aG (aW (by decide)),_,rfl,?_⟩;refine⟨_,rfl,aG (aW (by decide)),_,rfl,?_⟩;refine⟨_,hl'',fun p1 hq1=>?_⟩;rw[e1];refine⟨_,af,by simp,fun p2 ns hq2 pm2 up2=>?_⟩;obtain rfl:=uA pm2 up2;refine⟨_,rfl,.inl fun p3 hq3=>?_⟩;refine⟨_,_,.lst (by rw[ai (au af hq3)];exact af) (eR _),.lst af (eR [us[i].1,us[i].2]),shaped_ints _,shaped_ints _,_,rfl,?_⟩;rw[vD];refine bD (fun h=>?_) (fun h=>?_)
   ·have e:prL L j=us[i]:=by
     have h:((prL L j).1,(prL L j).2)=(us[i].1,us[i].2):=of_decide_eq_true h
     exact Prod.ext (congrArg Prod.fst h) (congrArg Prod.snd h)
    refine⟨_,rfl,_,.new hq3 (.new hq2 (.new hq1 .refl)),af,?_,by rw[bo]⟩;rw[wlN,if_pos ⟨e,by rw[e];exact une⟩,Eg];rfl
   ·have e:¬prL L j=us[i]:=fun y=>h (decide_eq_true (by rw[y]));refine⟨_,.new hq3 (.new hq2 (.new hq1 .refl)),?_,rfl⟩;rw[wlN,if_neg (fun y=>e y.1),EV]
  ·rintro ys M'' ⟨rfl,rfl⟩;have hlf2:(aq M' p (.lst ((wlN L us[i] n).map D.int))) lf=some (.lst ((us.take i).map fun u=>D.tup [.int u.1,.int u.2,.ref (A u)])):=by rw[ai (au hlf' hp)];exact hlf'
   have npf:p≠lf:=(au hlf' hp).symm;refine⟨_,rfl,lf,_,rfl,hlf2,_,rfl,_,rfl,_,rfl,_,rfl,_,rfl,nbL rfl,_,_,rfl,hlf2,(by rw[D8,Fu];omega),?_⟩
   have nin:∀u∈us.take i,u≠us[i]:=fun u hu e=>by
    obtain⟨j,hj,ej⟩:=List.getElem_of_mem hu
    have hj':j<i:=by rw[Fu]at hj;omega
    rw[List.getElem_take]at ej
    have:=F5.mp up j i (by omega) hi hj'
    rw[ej,e]at this
    exact qM _ this
   have mp:∀{a o},M' a=some o->a≠lf->∀{G},(aq (aq M' p (.lst ((wlN L us[i] n).map D.int))) lf G) a=some o:=fun{a o} h na {G}=>by rw[ai na,ai (au h hp)];exact h
   refine⟨fun v=>if v=us[i]then p else A v,_,_,_,rfl,fun a o na h=>mp (kM' a o na h) na,?_,fun u hu=>?_⟩
   ·rw[af,Fs,E2 hi,Eg];have e1:((us.take i).map fun u=>D.tup [.int u.1,.int u.2,.ref (A u)])=(us.take i).map fun u=>D.tup [.int u.1,.int u.2,.ref (if u=us[i]then p else A u)]:=by apply List.map_congr_left;intro u hu;rw[if_neg (nin u hu)]
    rw[e1];simp
   ·rw[Fs,E2 hi]at hu;rcases Ek.mp hu with y|y
    ·dsimp only;rw[if_neg (nin u y)];obtain⟨a1,a2⟩:=hA u y;exact⟨mp a1 (fun e=>by rw[e]at a2;rw[hlf3]at a2;cases a2),a2⟩
    ·have e:u=us[i]:=by simpa using y
     subst e;dsimp only;rw[if_pos rfl];refine⟨by rw[ai npf,af],?_⟩;cases e3:M3 p with
     |none=>rfl
     |some o=>rw[kM' p o npf e3]at hp;cases hp
 ·rintro δ M' ⟨A,o3,o4,o6,rfl,kM',hlf',hA⟩;have et:us.take (us.map prD).length=us:=F9 (by simp);have hlf':M' lf=some (.lst ((us.take (us.map prD).length).map fun u=>D.tup [.int u.1,.int u.2,.ref (A u)])):=hlf';have hA:∀u∈us.take (us.map prD).length,M' (A u)=some (.lst ((wlN L u n).map D.int))/\M3 (A u)=none:=hA;rw[et]at hlf' hA;refine⟨_,rfl,_,rfl,nbL rfl,rtn (k M' lf li us A (fun a o h=>kM' a o (fun y=>by subst y;rw[flf]at h;cases h) (sb3 _ _ h)) flf fli hlf' up ul usm (fun u hu=>⟨(hA u hu).1,fr3 (hA u hu).2⟩) (kM' li _ nil' hi3))⟩
theorem d4:FnScope ["plot","face","first","second"] ["plot","face"] (ao iB):=by walk_at "sc"
inductive Cn_face_ends(u v:D)(M:MH)(Q:DK):Prop
 |mk (t b X Y:Int) (ws:List Wl) (f:Nat) (_:u=.tup (ws.map (rwl t b X Y))) (_:v=.int (f:Int)) (_:f<2*ws.length) (_:ws.length<=1000) (_:Q (rwl t b X Y (fw ws f)) M)
theorem bR(T:Tx K mg):Cal P w K mg base 1 "face_ends" (sD2 Cn_face_ends):=by
 refine aZ (k:=0) T.f_face_ends d4 fun f cdv A outer s H E hr=>⟨_,(ag (cf (aw (dv 0) (ar eG (dv 1) ae)) (bA rfl (ay (av 2 d4.nd) (ay (av 3 d4.nd) aT)))) (aj (az (gY (aH (b5 hr.units) (ar d7 (dv 1) ae) ae) (aB (aa (dv 2) (aa (dv 3) ab))) (aB (aa (dv 3) (aa (dv 2) ab))))))),fun _ _ M Q h=>?_⟩;obtain⟨t,b,X,Y,ws,f,rfl,rfl,hf,hlen,k⟩:=h;obtain⟨w1,w2,w3⟩:=bQ (ws:=ws) (k:=((f/2:Nat):Int)) (by omega) (by omega);have ed:(f:Int).fdiv 2=((f/2:Nat):Int):=by rw[EI _ (by decide)];omega
 have em:(f:Int).fmod 2=((f%2:Nat):Int):=by rw[Int.fmod_eq_emod_of_nonneg _ (by decide)];omega
 have at1:atI (ws.map (rwl t b X Y)) ((f:Int).fdiv 2)=some (rwl t b X Y (wAt ws ((f/2:Nat):Int))):=by rw[ed];refine cF ?_;rw[Int.toNat_natCast]at w1;rw[E4,w1];rfl
 refine⟨_,rfl,_,rfl,⟨by decide,aW (by decide)⟩,_,at1,?_⟩;refine⟨_,rfl,rfl,_,_,rfl,_,_,rfl,rfl,?_⟩;refine⟨_,rfl,(show(2:Int)≠0 by decide),_,rfl,?_⟩;dsimp only;rw[em];refine bD (fun h=>?_) (fun h=>?_)
 ·have h:f%2=0:=by have:((f%2:Nat):Int)=0:=by simpa using h
                   omega
  refine⟨_,rfl,_,rfl,nbL rfl,rtn ?_⟩;unfold fw at k;rw[if_pos h]at k;exact k
 ·have h:¬f%2=0:=fun z=>by rw[z]at h;simp at h
  refine⟨_,rfl,_,rfl,nbL rfl,rtn ?_⟩;unfold fw at k;rw[if_neg h]at k;exact k
theorem cz:FnScope ["plot","leaving","face"] ["plot"] (ao dY):=by walk_at "sc"
def spk(t b X Y:Int)(p:Vc):SpK:=((Ma.ut t b X 1 p.1).num,((Ma.ut t b X 1 p.1).den:Int),(Ma.ut t b Y 1 p.2).num,((Ma.ut t b Y 1 p.2).den:Int))
theorem rH{t b X Y:Int}(ht:0<t)(hb:0<b){p q:Vc}(h:spk t b X Y p=spk t b X Y q):p=q:=by unfold spk at h;injection h with h1 h;injection h with h2 h;injection h with h3 h4;have e1:Ma.ut t b X 1 p.1=Ma.ut t b X 1 q.1:=Rat.ext h1 (by exact_mod_cast h2);have e2:Ma.ut t b Y 1 p.2=Ma.ut t b Y 1 q.2:=Rat.ext h3 (by exact_mod_cast h4);have f1:=(Ma.iF ht hb (by decide) (by decide)).mp e1;have f2:=(Ma.iF ht hb (by decide) (by decide)).mp e2;exact Prod.ext (by omega) (by omega)
def lvs(ws:List Wl)(i:Nat)(p:Vc):List Int:=((E5 i).filter fun g=>decide (fa ws g=p)).map fun g:Nat=>(g:Int)
theorem ot(ws:List Wl)(i:Nat)(p:Vc):lvs ws (i+1) p=lvs ws i p++(if fa ws i=p then[(i:Int)]else[]):=by
 unfold lvs;rw[G0,List.filter_append,Eg];by_cases h:fa ws i=p
 ·simp[h]
 ·simp[h]
theorem wQ(ws:List Wl)(i:Nat)(p:Vc):(lvs ws i p).length<=i:=by unfold lvs;rw[D8];have:=FO (fun g=>decide (fa ws g=p)) (E5 i);simpa using this
theorem wx{kvs:SpT}{k:SpK}(d:D)(h:a9 kvs k=none)(j:SpK):a9 (putD kvs k d) j=if j=k then some d else a9 kvs j:=by
 have ha:(kvs.any fun x=>decide (x.1=k))=false:=by unfold a9 at h;rw[Option.map_eq_none_iff,List.find?_eq_none]at h;rw[List.any_eq_false];exact h
 unfold putD;rw[if_neg (by rw[ha];decide)];unfold a9 at *;rw[List.find?_append];by_cases e:j=k
 ·subst e;rw[if_pos rfl];rw[Option.map_eq_none_iff]at h;rw[h];simp
 ·rw[if_neg e];have:¬k=j:=fun z=>e z.symm;cases kvs.find? fun x=>decide (x.1=j)<;>simp[this]
structure Lvn(t b X Y:Int)(ws:List Wl)(i:Nat)(M M':MH)(ld:Addr)(kvs:SpT)(L:Vc->Addr):Prop where
 d:M' ld=some (dsM kvs)
 some:∀p,lvs ws i p≠[]->a9 kvs (spk t b X Y p)=.some (.ref (L p))/\M' (L p)=.some (.lst ((lvs ws i p).map D.int))/\L p≠ld/\M (L p)=none
 none:∀p,lvs ws i p=[]->a9 kvs (spk t b X Y p)=.none
 inj:∀p q,lvs ws i p≠[]->lvs ws i q≠[]->L p=L q->p=q
inductive Cn_faces_by_start(u:D)(M:MH)(Q:DK):Prop
 |mk (t b X Y:Int) (ws:List Wl) (_:u=.tup (ws.map (rwl t b X Y))) (_:Scl t b X Y) (_:ws.length<=40) (_:∀(M':MH) (ld:Addr) (kvs:SpT) (L:Vc->Addr),SD.Sub M M'->Lvn t b X Y ws (2*ws.length) M M' ld kvs L->Q (.ref ld) M')
theorem gM(T:Tx K mg):Cal P w K mg base 2 "faces_by_start" (sD1 Cn_faces_by_start):=by
 refine dS (k:=1) T.f_faces_by_start cz fun f cdv A outer s H E hr=>⟨_,(ag (aA 1 cz.nd jX) (ag (d6 El rfl rfl T.b_range (aa (ar aD ae (aF cv rfl T.b_len cB (aa (dv 0) ab))) ab) (av 2 cz.nd) (aj (br (aQ (lV (iQ hr) (dv 1) (aa (aw (ak (bR T).m hr (aa (dv 0) (aa (dv 2) ab))) ae) (aa (bI ab) ab))) (aa (dv 2) ab))))) (aj (az (dv 1))))),fun _ M Q h=>?_⟩;obtain⟨t,b,X,Y,ws,rfl,S,hlen,k⟩:=h;have hwl:(ws.map (rwl t b X Y)).length=ws.length:=by simp
 refine fun ld hld=>?_;refine⟨_,rfl,aG (aW (by decide)),2*ws.length,(by rw[hwl];simp),by omega,?_⟩;refine⟨fun i δ M'=>∃(kvs:SpT) (L:Vc->Addr) (o2:Option D),δ=[some (.tup (ws.map (rwl t b X Y))),some (.ref ld),o2]/\SD.Sub M M'/\kvs.length<=i/\Lvn t b X Y ws i M M' ld kvs L,?_,?_,?_⟩
 ·exact⟨[],fun _=>0,_,rfl,.new hld .refl,E3 _,af,fun p h=>absurd rfl h,fun p _=>rfl,fun p q h=>absurd rfl h⟩
 ·rintro i δ M' hi ⟨kvs,L,o2,rfl,sb,hk,V⟩;have hdq:∀{q:Addr} {o},M' q=none->(aq M' q o) ld=some (dsM kvs):=fun hq=>by rw[ai (au V.d hq)];exact V.d
  have lone:∀p,fa ws i≠p->lvs ws (i+1) p=lvs ws i p:=fun p h=>by rw[ot,if_neg h,EV]
  have lthe:lvs ws (i+1) (fa ws i)=lvs ws i (fa ws i)++[(i:Int)]:=by rw[ot,if_pos rfl]
  have ll:=wQ ws i (fa ws i);refine⟨_,rfl,ld,kvs,rfl,V.d,_,rfl,_,rfl,t,b,X,Y,ws,i,rfl,rfl,hi,by omega,_,rfl,nbL rfl,fun q hq=>?_⟩;refine⟨kvs,spk t b X Y (fa ws i),.ref q,rfl,hdq hq,by omega,fun d' hd=>?_,fun hn=>?_⟩
  ·have ne:lvs ws i (fa ws i)≠[]:=fun z=>by rw[V.none _ z]at hd;cases hd
   obtain⟨v1,v2,v3,v4⟩:=V.some _ ne;rw[v1]at hd;cases hd;have c1:∀{a o},M' a=some o->(aq M' q (.lst [])) a=some o:=fun h=>by rw[ai (au h hq)];exact h
   refine⟨L (fa ws i),_,rfl,c1 v2,_,rfl,_,_,rfl,c1 v2,(by rw[D8];omega),?_⟩;have c2:∀{a o G},M' a=some o->a≠L (fa ws i)->(aq (aq M' q (.lst [])) (L (fa ws i)) G) a=some o:=fun h n=>by rw[ai n];exact c1 h
   refine⟨kvs,L,_,rfl,fun a o h=>c2 (sb _ _ h) (fun z=>by subst z;rw[v4]at h;cases h),by omega,c2 V.d v3.symm,fun p h=>?_,fun p h=>?_,fun p p' h h' e=>?_⟩
   ·by_cases z:fa ws i=p
    ·subst z;refine⟨v1,?_,v3,v4⟩;rw[af,lthe,Eg];rfl
    ·rw[lone p z]at h ⊢;obtain⟨u1,u2,u3,u4⟩:=V.some p h;exact⟨u1,c2 u2 (fun y=>z (V.inj _ _ ne h y.symm)),u3,u4⟩
   ·by_cases z:fa ws i=p
    ·subst z;rw[lthe]at h;simp at h
    ·rw[lone p z]at h;exact V.none p h
   ·have g:∀p,lvs ws (i+1) p≠[]->lvs ws i p≠[]:=fun p h=>by
     by_cases z:fa ws i=p
     ·subst z;exact ne
     ·rw[lone p z]at h;exact h
    exact V.inj p p' (g p h) (g p' h') e
  ·have em:lvs ws i (fa ws i)=[]:=by
    cases z:lvs ws i (fa ws i)with
    |nil=>rfl
    |cons x xs=>
     have:=(V.some _ (by rw[z];simp)).1
     rw[hn]at this;cases this
   have nql:q≠ld:=(au V.d hq).symm;have cq:(aq (aq M' q (.lst [])) ld (dsM (putD kvs (spk t b X Y (fa ws i)) (.ref q)))) q=some (.lst []):=by rw[ai nql,af]
   refine⟨q,[],rfl,cq,_,rfl,_,_,rfl,cq,by decide,?_⟩;have c2:∀{a o D' G},M' a=some o->a≠ld->(aq (aq (aq M' q (.lst [])) ld D') q G) a=some o:=fun h n=>by rw[ai (au h hq),ai n,ai (au h hq)];exact h
   have mq:M q=none:=by
    cases z:M q with
    |none=>rfl
    |some o=>rw[sb _ _ z]at hq;cases hq
   have vn:=fun j=>wx (.ref q) hn j;refine⟨putD kvs (spk t b X Y (fa ws i)) (.ref q),fun p=>if fa ws i=p then q else L p,_,rfl,fun a o h=>c2 (sb _ _ h) (fun z=>by subst z;rw[hld]at h;cases h),?_,(by rw[ai nql.symm,af]),fun p h=>?_,fun p h=>?_,fun p p' h h' e=>?_⟩
   ·have:(putD kvs (spk t b X Y (fa ws i)) (.ref q)).length<=kvs.length+1:=by
     unfold putD;split
     ·rw[D8];omega
     ·simp
    omega
   ·by_cases z:fa ws i=p
    ·subst z;refine⟨by rw[vn,if_pos rfl,if_pos rfl],?_,by rw[if_pos rfl];exact nql,by rw[if_pos rfl];exact mq⟩;rw[if_pos rfl,af,lthe,em];rfl
    ·rw[lone p z]at h ⊢;obtain⟨u1,u2,u3,u4⟩:=V.some p h;rw[if_neg z];exact⟨by rw[vn,if_neg (fun y=>z (rH S.t0 S.b0 y).symm)];exact u1,c2 u2 u3,u3,u4⟩
   ·by_cases z:fa ws i=p
    ·subst z;rw[lthe]at h;simp at h
    ·rw[lone p z]at h;rw[vn,if_neg (fun y=>z (rH S.t0 S.b0 y).symm)];exact V.none p h
   ·by_cases z:fa ws i=p<;>by_cases z':fa ws i=p'
    ·rw[<-z,<-z']
    ·rw[lone p' z']at h';rw[if_pos z,if_neg z']at e;have:=(V.some p' h').2.1;rw[<-e,hq]at this;cases this
    ·rw[lone p z]at h;rw[if_neg z,if_pos z']at e;have:=(V.some p h).2.1;rw[e,hq]at this;cases this
    ·rw[lone p z]at h;rw[lone p' z']at h';rw[if_neg z,if_neg z']at e;exact V.inj p p' h h' e
 ·rintro δ M' ⟨kvs,L,o2,rfl,sb,hk,V⟩;exact⟨_,rfl,⟨M',.refl,k M' ld kvs L sb V⟩⟩
theorem Al:FnScope ["one","other"] ["one","other"] (ao yV):=by walk_at "sc"
inductive Cn_gap(x y:D)(M:MH)(Q:DK):Prop
 |mk (t1 b1 t2 b2:Int) (_:x=.tup [.int t1,.int b1]) (_:y=.tup [.int t2,.int b2]) (_:Bd 1000000 t1) (_:Bd 1000000 b1) (_:Bd 1000000 t2) (_:Bd 1000000 b2) (_:Q (.tup [.int (t1*b2-t2*b1),.int (b1*b2)]) M)
theorem nS(T:Tx K mg):Cal P w K mg base 1 "gap" (sD2 Cn_gap):=by refine aZ (k:=0) T.f_gap Al fun f cdv A outer s H E hr=>⟨_,(aj (az (aB (aa (ar bG (ar aD (aw (dv 0) ae) (aw (dv 1) ae)) (ar aD (aw (dv 1) ae) (aw (dv 0) ae))) (aa (ar aD (aw (dv 0) ae) (aw (dv 1) ae)) ab))))),fun _ _ M Q h=>?_⟩;obtain⟨t1,b1,t2,b2,rfl,rfl,h1,h2,h3,h4,k⟩:=h;refine⟨_,rfl,_,rfl,_,rfl,_,rfl,dz h1 h4,_,rfl,_,rfl,_,rfl,_,rfl,dz h3 h2,trivial,?_⟩;exact⟨_,rfl,_,rfl,_,rfl,_,rfl,dz h2 h4,nbL rfl,rtn k⟩
theorem cS:FnScope ["wall","spot","a","b","c","d","x","y","across","up","along","high"] ["wall","spot"] (ao u7):=by walk_at "sc"
inductive Cn_lean(u v:D)(M:MH)(Q:DK):Prop
 |mk (n:Nat) (a b c d x y:Rat) (_:u=Ma.wll a b c d) (_:v=Ma.spt x y) (_:Ma.Bq n a) (_:Ma.Bq n b) (_:Ma.Bq n c) (_:Ma.Bq n d) (_:Ma.Bq n x) (_:Ma.Bq n y) (_:n<=20000) (_:∀t e:Int,0<e->Rat.divInt t e=Ma.cr a b c d x y->Bd (8*n+3) t->Bd (8*n+3) e->Q (.tup [.int t,.int e]) M)
theorem A6(T:Tx K mg):Cal P w K mg base 2 "lean" (sD2 Cn_lean):=by
 refine aZ (k:=1) T.f_lean cS fun f cdv A outer s H E hr=>⟨_,(ag (cf (dv 0) (bA rfl (ay (bA rfl (ay (av 2 cS.nd) (ay (av 3 cS.nd) aT))) (ay (bA rfl (ay (av 4 cS.nd) (ay (av 5 cS.nd) aT))) aT)))) (ag (cf (dv 1) (bA rfl (ay (av 6 cS.nd) (ay (av 7 cS.nd) aT)))) (ag (fY 8 9 rfl cS.nd (aa (ak (nS T).m hr (aa (dv 4) (aa (dv 2) ab))) (aa (ak (nS T).m hr (aa (dv 5) (aa (dv 3) ab))) ab))) (ag (fY 10 11 rfl cS.nd (aa (ak (nS T).m hr (aa (dv 6) (aa (dv 2) ab))) (aa (ak (nS T).m hr (aa (dv 7) (aa (dv 3) ab))) ab))) (aj (az (ak (nS T).m hr (aa (aB (aa (ar aD (aw (dv 8) ae) (aw (dv 11) ae)) (aa (ar aD (aw (dv 8) ae) (aw (dv 11) ae)) ab))) (aa (aB (aa (ar aD (aw (dv 9) ae) (aw (dv 10) ae)) (aa (ar aD (aw (dv 9) ae) (aw (dv 10) ae)) ab))) ab))))))))),fun _ _ M Q h=>?_⟩;obtain⟨n,a,b,c,d,x,y,rfl,rfl,ha,hb,hc,hd,hx,hy,hn,k⟩:=h;have mo:∀{m:Nat} {i:Int},Bd m i->m<=1000000->Bd 1000000 i:=fun z l=>z.mono l;have q1:=hc.qI ha;have q2:=hd.qI hb;have q3:=hx.qI ha;have q4:=hy.qI hb;have e1:=hc.2.mul ha.2;have e2:=hd.2.mul hb.2;have e3:=hx.2.mul ha.2;have e4:=hy.2.mul hb.2;refine⟨_,rfl,_,rfl,rfl,_,_,rfl,⟨_,rfl,rfl,_,_,rfl,_,_,rfl,rfl,?_⟩⟩;refine⟨_,_,rfl,⟨_,rfl,rfl,_,_,rfl,_,_,rfl,rfl,?_⟩⟩;refine⟨rfl,_,rfl,_,rfl,rfl,_,_,rfl,_,_,rfl,rfl,?_⟩;refine⟨_,rfl,_,rfl,_,_,_,_,rfl,rfl,mo hc.1 (by omega),mo hc.2 (by omega),mo ha.1 (by omega),mo ha.2 (by omega),?_⟩;refine⟨_,rfl,_,rfl,_,_,_,_,rfl,rfl,mo hd.1 (by omega),mo hd.2 (by omega),mo hb.1 (by omega),mo hb.2 (by omega),?_⟩;refine⟨_,_,rfl,?_⟩;refine⟨_,rfl,_,rfl,_,_,_,_,rfl,rfl,mo hx.1 (by omega),mo hx.2 (by omega),mo ha.1 (by omega),mo ha.2 (by omega),?_⟩;refine⟨_,rfl,_,rfl,_,_,_,_,rfl,rfl,mo hy.1 (by omega),mo hy.2 (by omega),mo hb.1 (by omega),mo hb.2 (by omega),?_⟩;refine⟨_,_,rfl,?_⟩;refine⟨_,rfl,_,rfl,_,rfl,_,rfl,dz (mo q1 (by omega)) (mo q4 (by omega)),?_⟩;refine⟨_,rfl,_,rfl,_,rfl,_,rfl,dz (mo e1 (by omega)) (mo e4 (by omega)),nbL rfl,?_⟩;refine⟨_,rfl,_,rfl,_,rfl,_,rfl,dz (mo q2 (by omega)) (mo q3 (by omega)),?_⟩;refine⟨_,rfl,_,rfl,_,rfl,_,rfl,dz (mo e2 (by omega)) (mo e3 (by omega)),nbL rfl,?_⟩;refine⟨_,_,_,_,rfl,rfl,mo (q1.mul q4) (by omega),mo (e1.mul e4) (by omega),mo (q2.mul q3) (by omega),mo (e2.mul e3) (by omega),?_⟩;have pe:∀q r:Rat,0<(q.den:Int)*(r.den:Int):=fun q r=>Ez (Ma.den_pos q) (Ma.den_pos r);refine rtn (k _ _ (Ez (Ez (pe c a) (pe y b)) (Ez (pe d b) (pe x a))) (Ma.xJ a b c d x y) ?_ ?_)
 ·exact((((q1.mul q4).mul (e2.mul e3)).mono (show _<=8*n+2 by omega)).sub (((q2.mul q3).mul (e1.mul e4)).mono (show _<=8*n+2 by omega)))
 ·exact((e1.mul e4).mul (e2.mul e3)).mono (by omega)
theorem kf:FnScope ["wall","spot","top"] ["wall","spot"] (ao lz):=by walk_at "sc"
inductive Cn_side_of(u v:D)(M:MH)(Q:DK):Prop
 |mk (n:Nat) (a b c d x y:Rat) (_:u=Ma.wll a b c d) (_:v=Ma.spt x y) (_:Ma.Bq n a) (_:Ma.Bq n b) (_:Ma.Bq n c) (_:Ma.Bq n d) (_:Ma.Bq n x) (_:Ma.Bq n y) (_:n<=1900) (_:Q (.int (Ma.sgn (Ma.cr a b c d x y))) M)
theorem cX(T:Tx K mg):Cal P w K mg base 3 "side_of" (sD2 Cn_side_of):=by
 refine aZ (k:=2) T.f_side_of kf fun f cdv A outer s H E hr=>⟨_,(ag (aA 2 kf.nd (aw (ak (A6 T).m hr (aa (dv 0) (aa (dv 1) ab))) ae)) (ag (bf (aH (kB hr.units) (dv 2) ae) (aj (az ae)) aI) (ag (bf (aH (cO hr.units) (dv 2) ae) (aj (az (nL gc ae))) aI) (aj (az ae))))),fun _ _ M Q h=>?_⟩;obtain⟨n,a,b,c,d,x,y,rfl,rfl,ha,hb,hc,hd,hx,hy,hn,k⟩:=h;refine⟨_,rfl,_,rfl,n,a,b,c,d,x,y,rfl,rfl,ha,hb,hc,hd,hx,hy,by omega,fun t e he hte _ _=>⟨_,rfl,?_⟩⟩;rw[<-hte,Ma.xD he]at k;refine⟨_,rfl,trivial,_,rfl,?_⟩;refine bD (fun h=>?_) (fun h=>?_)
 ·rw[if_pos (by simpa using h)]at k;exact rtn k
 rw[if_neg (by simpa using h)]at k;refine⟨_,rfl,trivial,_,rfl,?_⟩;refine bD (fun h=>?_) (fun h=>?_)
 ·rw[if_pos (by simpa using h)]at k;exact rtn k
 ·rw[if_neg (by simpa using h)]at k;exact rtn k
theorem cH:FnScope ["corner","came_from","one","other","turn","other_turn"] ["corner","came_from","one","other"] (ao eB):=by walk_at "sc"
inductive Cn_is_met_sooner(u v x y:D)(M:MH)(Q:DK):Prop
 |mk (t b X Y:Int) (c p q r:Vc) (_:u=Ma.spt (Ma.ut t b X 1 c.1) (Ma.ut t b Y 1 c.2)) (_:v=Ma.spt (Ma.ut t b X 1 p.1) (Ma.ut t b Y 1 p.2)) (_:x=Ma.spt (Ma.ut t b X 1 q.1) (Ma.ut t b Y 1 q.2)) (_:y=Ma.spt (Ma.ut t b X 1 r.1) (Ma.ut t b Y 1 r.2)) (_:Scl t b X Y) (_:(0<=c.1/\c.1<=20)) (_:(0<=c.2/\c.2<=20)) (_:(0<=p.1/\p.1<=20)) (_:(0<=p.2/\p.2<=20)) (_:(0<=q.1/\q.1<=20)) (_:(0<=q.2/\q.2<=20)) (_:(0<=r.1/\r.1<=20)) (_:(0<=r.2/\r.2<=20)) (_:Q (.bl (snr (p.1-c.1,p.2-c.2) (q.1-c.1,q.2-c.2) (r.1-c.1,r.2-c.2))) M)
theorem iN(T:Tx K mg):Cal P w K mg base 4 "is_met_sooner" (sD4 Cn_is_met_sooner):=by
 refine CV (k:=3) T.f_is_met_sooner cH fun f cdv A outer s H E hr=>⟨_,(ag (aA 4 cH.nd (ak (cX T).m hr (aa (aB (aa (dv 0) (aa (dv 1) ab))) (aa (dv 2) ab)))) (ag (aA 5 cH.nd (ak (cX T).m hr (aa (aB (aa (dv 0) (aa (dv 1) ab))) (aa (dv 3) ab)))) (ag (bf (aH (jP hr.units) (dv 4) (dv 5)) (aj (az (cu (cO hr.units) (dv 4) (dv 5)))) aI) (aj (az (cu (b5 hr.units) (ak (cX T).m hr (aa (aB (aa (dv 0) (aa (dv 2) ab))) (aa (dv 3) ab))) (nL gc ae))))))),fun _ _ _ _ M Q h=>?_⟩;obtain⟨t,b,X,Y,c,p,q,r,rfl,rfl,rfl,rfl,S,c1,c2,p1,p2,q1,q2,r1,r2,k⟩:=h;have one:(0:Int)<1/\(1:Int)<=10^6:=by decide
 have W6:∀{z:Int},(0<=z/\z<=20)->(-(10^6)<=z/\z<=10^6):=fun{z} h=>by omega
 have bx:∀{z:Int},(0<=z/\z<=20)->Ma.Bq 200 (Ma.ut t b X 1 z):=fun{z} h=>S.bx one (W6 h);have by':∀{z:Int},(0<=z/\z<=20)->Ma.Bq 200 (Ma.ut t b Y 1 z):=fun{z} h=>S.by' one (W6 h)
 have e1:=gO (X:=X) (Y:=Y) S.t0 S.b0 (c.1,c.2,p.1,p.2) q.1 q.2;have e2:=gO (X:=X) (Y:=Y) S.t0 S.b0 (c.1,c.2,p.1,p.2) r.1 r.2;have e3:=gO (X:=X) (Y:=Y) S.t0 S.b0 (c.1,c.2,q.1,q.2) r.1 r.2;have f1:sd (c.1,c.2,p.1,p.2) q.1 q.2=vc (p.1-c.1,p.2-c.2) (q.1-c.1,q.2-c.2):=rfl;have f2:sd (c.1,c.2,p.1,p.2) r.1 r.2=vc (p.1-c.1,p.2-c.2) (r.1-c.1,r.2-c.2):=rfl;have f3:sd (c.1,c.2,q.1,q.2) r.1 r.2=vc (q.1-c.1,q.2-c.2) (r.1-c.1,r.2-c.2):=rfl;rw[f1]at e1;rw[f2]at e2;rw[f3]at e3;dsimp only at e1 e2 e3;refine⟨_,rfl,_,rfl,nbL rfl,_,rfl,200,_,_,_,_,_,_,rfl,rfl,bx c1,by' c2,bx p1,by' p2,bx q1,by' q2,by decide,?_⟩;rw[e1];refine⟨_,rfl,_,rfl,nbL rfl,_,rfl,200,_,_,_,_,_,_,rfl,rfl,bx c1,by' c2,bx p1,by' p2,bx r1,by' r2,by decide,?_⟩;rw[e2];refine⟨_,rfl,_,rfl,_,rfl,?_⟩;unfold snr at k;refine bD (fun h=>?_) (fun h=>?_)
 ·have ne:¬En (vc (p.1-c.1,p.2-c.2) (q.1-c.1,q.2-c.2))=En (vc (p.1-c.1,p.2-c.2) (r.1-c.1,r.2-c.2)):=fun z=>by rw[z]at h;simp at h
  rw[if_neg ne]at k;exact⟨_,rfl,_,rfl,trivial,rtn k⟩
 ·have eq:En (vc (p.1-c.1,p.2-c.2) (q.1-c.1,q.2-c.2))=En (vc (p.1-c.1,p.2-c.2) (r.1-c.1,r.2-c.2)):=by simpa using h
  rw[if_pos eq]at k;refine⟨_,rfl,_,rfl,nbL rfl,_,rfl,200,_,_,_,_,_,_,rfl,rfl,bx c1,by' c2,bx q1,by' q2,bx r1,by' r2,by decide,?_⟩;rw[e3];have e:decide (vc (q.1-c.1,q.2-c.2) (r.1-c.1,r.2-c.2)<0)=decide (En (vc (q.1-c.1,q.2-c.2) (r.1-c.1,r.2-c.2))=-1):=by rw[decide_eq_decide];rcases gE (vc (q.1-c.1,q.2-c.2) (r.1-c.1,r.2-c.2))with z|z|z<;>omega
  rw[e]at k;exact rtn k
theorem aY:FnScope ["plot","leaving","face","came_from","corner","back","best","rival"] ["plot","leaving","face"] (ao fL):=by walk_at "sc"
def dk(ws:List Wl)(f j:Nat):Option Nat:=((((E5 (2*ws.length)).filter fun g=>decide (fa ws g=fb ws f)).take j).filter fun g=>decide (g≠fx f)).foldl (cQ (snF ws f)) none
theorem lO(R:Nat->Nat->Bool):∀(l:List Nat) (o:Option Nat) {h:Nat},l.foldl (cQ R) o=some h->h∈l\/o=some h
 |[],o,h,e=>.inr e
 |g::l,o,h,e=>by
  rw[List.foldl_cons]at e
  rcases lO R l _ e with z|z
  ·exact .inl (by simp[z])
  ·cases o with
   |none=>cases z;exact .inl (by simp)
   |some k=>
    unfold cQ at z
    dsimp only at z
    by_cases r:R g k=true
    ·rw[if_pos r]at z;cases z;exact .inl (by simp)
    ·rw[if_neg r]at z;exact .inr z
theorem oP(ws:List Wl)(f j:Nat)(h:((E5 (2*ws.length)).filter fun g=>decide (fa ws g=fb ws f)).length<=j):dk ws f j=(g8 ws f).foldl (cQ (snF ws f)) none:=by
 unfold dk g8 uZ;rw[F9 h,List.filter_filter]
 congr 1
 apply List.filter_congr;intro x _;rw[Bool.and_comm]
theorem qt{ws:List Wl}{f j h:Nat}(e:dk ws f j=some h):h∈g8 ws f:=by
 unfold dk at e;rcases lO _ _ _ e with z|z
 ·have z':=EU.mp z;have z2:=EU.mp (List.mem_of_mem_take z'.1);exact cC.mpr ⟨by simpa using z2.1,by simpa using z2.2,by simpa using z'.2⟩
 ·cases z
inductive Cn_face_behind(u v w:D)(M:MH)(Q:DK):Prop
 |mk (t b X Y:Int) (ws:List Wl) (M0:MH) (ld:Addr) (kvs:SpT) (L:Vc->Addr) (f:Nat) (_:u=.tup (ws.map (rwl t b X Y))) (_:v=.ref ld) (_:w=.int (f:Int)) (_:Scl t b X Y) (_:ws.length<=40) (_:(∀w∈ws,Un5 w)) (_:f<2*ws.length) (_:Lvn t b X Y ws (2*ws.length) M0 M ld kvs L) (_:Q (.int (bh ws f:Int)) M)
theorem fH(T:Tx K mg):Cal P w K mg base 5 "face_behind" (sD3 Cn_face_behind):=by
 refine oB (k:=4) T.f_face_behind aY fun f cdv A outer s H E hr=>⟨_,(ag (cf (ak (bR T).m hr (aa (dv 0) (aa (dv 2) ab))) (bA rfl (ay (av 3 aY.nd) (ay (av 4 aY.nd) aT)))) (ag (aA 5 aY.nd (ar zW (dv 2) ae)) (ag (aA 6 aY.nd (dv 5)) (ag (bH El rfl (aR (gC (iQ hr) (dv 1) (dv 4) (by intro _ _;with_unfolding_all rfl))) (av 7 aY.nd) (aj (bf (oZ (jZ (aH (jP hr.units) (dv 7) (dv 5)) (gb (oZ (yY (aH (b5 hr.units) (dv 6) (dv 5)) (ua (d8 (ak (iN T).m hr (aa (dv 4) (aa (dv 3) (aa (aw (ak (bR T).m hr (aa (dv 0) (aa (dv 7) ab))) ae) (aa (aw (ak (bR T).m hr (aa (dv 0) (aa (dv 6) ab))) ae) ab)))))))))))) (aj (aA 6 aY.nd (dv 7))) aI))) (aj (az (dv 6))))))),fun _ _ _ M Q h=>?_⟩;obtain⟨t,b,X,Y,ws,M0,ld,kvs,L,f,rfl,rfl,rfl,S,hlen,hU,hf,V,k⟩:=h;have exf:Builtin.bitXor (f:Int) 1=((fx f:Nat):Int):=zR f (by omega)
 have rg:∀g:Nat,g<2*ws.length->((0<=(fa ws g).1/\(fa ws g).1<=20)/\(0<=(fa ws g).2/\(fa ws g).2<=20))/\((0<=(fb ws g).1/\(fb ws g).1<=20)/\(0<=(fb ws g).2/\(fb ws g).2<=20)):=fun g hg=>by
  obtain⟨_,_,w3⟩:=bQ (ws:=ws) (k:=((g/2:Nat):Int)) (by omega) (by omega)
  have W:=hU _ w3
  unfold fa fb fw
  by_cases h:g%2=0
  ·rw[if_pos h];exact⟨⟨W.a,W.b⟩,W.c,W.d⟩
  ·rw[if_neg h];exact⟨⟨W.c,W.d⟩,W.a,W.b⟩
 have ne:lvs ws (2*ws.length) (fb ws f)≠[]:=by
  unfold lvs
  have:fx f∈(E5 (2*ws.length)).filter fun g=>decide (fa ws g=fb ws f):=EU.mpr ⟨GH.mpr (jl hf),by simpa using jj ws f⟩
  intro z
  rw[List.map_eq_nil_iff]at z
  rw[z]at this
  cases this
 obtain⟨v1,v2,v3,v4⟩:=V.some _ ne;refine⟨_,rfl,_,rfl,t,b,X,Y,ws,f,rfl,rfl,hf,by omega,?_⟩;refine⟨_,rfl,rfl,_,_,rfl,_,_,rfl,rfl,?_⟩;refine⟨_,rfl,trivial,?_⟩;dsimp only;rw[exf];refine⟨_,rfl,?_⟩;refine⟨_,rfl,_,rfl,ld,kvs,spk t b X Y (fb ws f),_,rfl,rfl,V.d,v1,(lvs ws (2*ws.length) (fb ws f)).map D.int,v2,?_⟩;refine⟨fun j δ M'=>M'=M/\∃o7,δ=[some (.tup (ws.map (rwl t b X Y))),some (.ref ld),some (.int (f:Int)),some (Ma.spt (Ma.ut t b X 1 (fw ws f).1) (Ma.ut t b Y 1 (fw ws f).2.1)),some (Ma.spt (Ma.ut t b X 1 (fw ws f).2.2.1) (Ma.ut t b Y 1 (fw ws f).2.2.2)),some (.int ((fx f:Nat):Int)),some (.int (((dk ws f j).getD (fx f):Nat):Int)),o7],⟨rfl,_,rfl⟩,fun j δ M' _ z=>by obtain⟨rfl,_⟩:=z;exact v2,?_,?_⟩
 ·rintro j d δ M' hj hd ⟨rfl,o7,rfl⟩;have hd:((((E5 (2*ws.length)).filter fun g=>decide (fa ws g=fb ws f)).map fun g:Nat=>(g:Int)).map D.int)[j]?=some d:=hd;rw[E4,E4]at hd;cases eg:((E5 (2*ws.length)).filter fun g=>decide (fa ws g=fb ws f))[j]? with
  |none=>rw[eg]at hd;cases hd
  |some g=>
   rw[eg]at hd
   cases hd
   have hgm:=EU.mp (Ej eg)
   have hg:g<2*ws.length:=by simpa using hgm.1
   have hga:fa ws g=fb ws f:=by simpa using hgm.2
   have nx:dk ws f (j+1)=if g=fx f then dk ws f j else cQ (snF ws f) (dk ws f j) g:=by
    unfold dk;rw[Fs,eg,Option.toList_some,List.filter_append,List.foldl_append];by_cases z:g=fx f
    ·simp[z]
    ·simp[z]
   have hmem:∀h,dk ws f j=some h->h∈g8 ws f:=fun h e=>qt e
   generalize dk ws f j=o at nx hmem ⊢
   by_cases z:g=fx f
   ·(try dsimp only[SD.eW,SD.cZ,SD.bF,SD.fN,SD.eU,SD.dq,SD.dH,SD.tBD,SD.fR])
    refine uq false false (fun K hK=>⟨_,rfl,_,rfl,_,rfl,?_⟩) (fun q=>absurd q (by decide)) (sf rfl ⟨rfl,some (.int (g:Int)),?_⟩)
    ·rw[show(!decide ((g:Int)=((fx f:Nat):Int)))=false by rw[z];simp];exact hK
    ·rw[nx,if_pos z];rfl
   ·rw[if_neg z]at nx
    have zz:(!decide ((g:Int)=((fx f:Nat):Int)))=true:=by
     have:¬((g:Int)=((fx f:Nat):Int)):=fun q=>z (by omega)
     rw[decide_eq_false this];rfl
    cases o with
    |none=>
     (try dsimp only[SD.eW,SD.cZ,SD.bF,SD.fN,SD.eU,SD.dq,SD.dH,SD.tBD,SD.fR])
     refine uq true true (fun K hK=>⟨_,rfl,_,rfl,_,rfl,by rw[zz];exact hK⟩) (fun _ K hK=>orT true true (fun K' hK'=>⟨_,rfl,_,rfl,_,rfl,?_⟩) (fun q=>absurd q (by decide)) hK) (wD rfl ⟨_,rfl,rfl,some (.int (g:Int)),?_⟩)
     ·rw[show decide ((((none:Option Nat).getD (fx f):Nat):Int)=((fx f:Nat):Int))=true by simp];exact hK'
     ·rw[nx];rfl
    |some h=>
     have hh:=cC.mp (hmem h rfl)
     have d1:fd ws (fx f)=((fa ws f).1-(fb ws f).1,(fa ws f).2-(fb ws f).2):=by unfold fd fa fb;rw[yU];rfl
     have d2:∀g,fa ws g=fb ws f->fd ws g=((fb ws g).1-(fb ws f).1,(fb ws g).2-(fb ws f).2):=fun g e=>by rw[<-e];rfl
     have es:snF ws f g h=snr ((fa ws f).1-(fb ws f).1,(fa ws f).2-(fb ws f).2) ((fb ws g).1-(fb ws f).1,(fb ws g).2-(fb ws f).2) ((fb ws h).1-(fb ws f).1,(fb ws h).2-(fb ws f).2):=by unfold snF;rw[d1,d2 g hga,d2 h hh.2.1]
     have hne:decide ((((some h).getD (fx f):Nat):Int)=((fx f:Nat):Int))=false:=decide_eq_false (fun q=>hh.2.2 (by have q':((h:Nat):Int)=((fx f:Nat):Int):=q;omega))
     (try dsimp only[SD.eW,SD.cZ,SD.bF,SD.fN,SD.eU,SD.dq,SD.dH,SD.tBD,SD.fR])
     refine uq true (false||snF ws f g h) (fun K hK=>⟨_,rfl,_,rfl,_,rfl,by rw[zz];exact hK⟩) (fun _ K hK=>orT false (snF ws f g h) (fun K' hK'=>⟨_,rfl,_,rfl,_,rfl,by rw[hne];exact hK'⟩) (fun _ K' hK'=>?_) hK) ?_
     ·refine⟨_,rfl,_,rfl,_,rfl,_,rfl,t,b,X,Y,ws,g,rfl,rfl,hg,by omega,_,rfl,_,rfl,_,rfl,t,b,X,Y,ws,h,rfl,rfl,hh.1,by omega,_,rfl,t,b,X,Y,fb ws f,fa ws f,fb ws g,fb ws h,rfl,rfl,rfl,rfl,S,(rg f hf).2.1,(rg f hf).2.2,(rg f hf).1.1,(rg f hf).1.2,(rg g hg).2.1,(rg g hg).2.2,(rg h hh.1).2.1,(rg h hh.1).2.2,_,rfl,?_⟩;rw[<-es];exact hK'
     ·refine bD (fun q=>?_) (fun q=>?_)
      ·refine⟨_,rfl,rfl,some (.int (g:Int)),?_⟩;have q:snF ws f g h=true:=by simpa using q
       have e:cQ (snF ws f) (some h) g=some g:=by unfold cQ;simp[q]
       rw[nx,e];rfl
      ·refine⟨rfl,some (.int (g:Int)),?_⟩;have q:¬snF ws f g h=true:=by simpa using q
       have e:cQ (snF ws f) (some h) g=some h:=by unfold cQ;simp[q]
       rw[nx,e];rfl
 ·rintro δ M' ⟨rfl,o7,rfl⟩;have e:=oP ws f ((lvs ws (2*ws.length) (fb ws f)).map D.int).length (by simp[lvs]);dsimp only;rw[e];exact⟨_,rfl,rtn k⟩
theorem cU:FnScope ["plot","leaving","face","ring","at"] ["plot","leaving","face"] (ao iG):=by walk_at "sc"
theorem qC{t b X Y:Int}{ws:List Wl}{i:Nat}{M0 M:MH}{ld:Addr}{kvs:SpT}{L:Vc->Addr}{p:Addr}{o:MO}(V:Lvn t b X Y ws i M0 M ld kvs L)(hp:M p=none):Lvn t b X Y ws i M0 (aq M p o) ld kvs L:=⟨by rw[ai (au V.d hp)];exact V.d,fun q h=>let⟨a,c,e,g⟩:=V.some q h;⟨a,by rw[ai (au c hp)];exact c,e,g⟩,V.none,V.inj⟩
inductive Cn_ring_from(u v w:D)(M:MH)(Q:DK):Prop
 |mk (t b X Y:Int) (ws:List Wl) (M0:MH) (ld:Addr) (kvs:SpT) (L:Vc->Addr) (f:Nat) (_:u=.tup (ws.map (rwl t b X Y))) (_:v=.ref ld) (_:w=.int (f:Int)) (_:Scl t b X Y) (_:ws.length<=40) (_:(∀w∈ws,Un5 w)) (_:PF ws) (_:f<2*ws.length) (_:Lvn t b X Y ws (2*ws.length) M0 M ld kvs L) (_:∀(p:Addr) (kk:Nat),M p=none->NR ws f kk->bh ws (itb ws f kk)=f->Q (.ref p) (aq M p (.lst ((rn ws f kk).map fun g:Nat=>D.int (g:Int)))))
theorem ny(T:Tx K mg):Cal P w K mg base 6 "ring_from" (sD3 Cn_ring_from):=by
 refine oB (k:=5) T.f_ring_from cU fun f cdv A outer s H E hr=>⟨_,(ag (aA 3 cU.nd (bI (aa (dv 2) ab))) (ag (aA 4 cU.nd (ak (fH T).m hr (aa (dv 0) (aa (dv 1) (aa (dv 2) ab))))) (ag (gw El (aH (jP hr.units) (dv 4) (dv 2)) (ag (br (aQ (dv 3) (aa (dv 4) ab))) (aj (aA 4 cU.nd (ak (fH T).m hr (aa (dv 0) (aa (dv 1) (aa (dv 4) ab)))))))) (aj (az (dv 3)))))),fun _ _ _ M Q h=>?_⟩;obtain⟨t,b,X,Y,ws,M0,ld,kvs,L,f,rfl,rfl,rfl,S,hlen,hU,hF,hf,V,k⟩:=h;refine⟨_,rfl,nbL rfl,fun p hp=>?_⟩;refine⟨_,rfl,_,rfl,_,rfl,t,b,X,Y,ws,M0,ld,kvs,L,f,rfl,rfl,rfl,S,hlen,hU,hf,qC V hp,?_⟩;refine⟨fun m δ M''=>∃kk,δ=[some (.tup (ws.map (rwl t b X Y))),some (.ref ld),some (.int (f:Int)),some (.ref p),some (.int ((itb ws f (kk+1):Nat):Int))]/\M''=aq M p (.lst ((rn ws f kk).map fun g:Nat=>D.int (g:Int)))/\NR ws f kk/\m=2*ws.length-kk,⟨_,0,rfl,rfl,wJ ws f,rfl⟩,?_⟩;rintro m δ M'' ⟨kk,rfl,rfl,nr,rfl⟩;have kb:=rD hU hF hf nr;refine⟨_,rfl,_,rfl,_,rfl,?_⟩;refine bD (fun h=>?_) (fun h=>?_)
 ·have ne:bh ws (itb ws f kk)≠f:=fun z=>by
   have:itb ws f (kk+1)=f:=z
   rw[this]at h;simp at h
  have nr':=wN hU hF hf nr ne;have kb':=rD hU hF hf nr';refine⟨_,rfl,p,_,rfl,af,_,rfl,_,_,rfl,af,(by rw[D8,gZ];omega),?_⟩;have e:aq (aq M p (.lst ((rn ws f kk).map fun g:Nat=>D.int (g:Int)))) p (.lst (((rn ws f kk).map fun g:Nat=>D.int (g:Int))++[.int ((itb ws f (kk+1):Nat):Int)]))=aq M p (.lst ((rn ws f (kk+1)).map fun g:Nat=>D.int (g:Int))):=by rw[bo,qH,Eg];rfl
  rw[e];refine⟨_,rfl,_,rfl,_,rfl,t,b,X,Y,ws,M0,ld,kvs,L,itb ws f (kk+1),rfl,rfl,rfl,S,hlen,hU,eK hU hF hf (kk+1),qC V hp,?_⟩;exact⟨2*ws.length-(kk+1),by omega,kk+1,rfl,rfl,nr',rfl⟩
 ·have eq:bh ws (itb ws f kk)=f:=by
   have:((itb ws f (kk+1):Nat):Int)=(f:Int):=by simpa using h
   have e:itb ws f (kk+1)=bh ws (itb ws f kk):=rfl
   omega
  exact⟨_,rfl,⟨_,.refl,k p kk hp nr eq⟩⟩
theorem bS:FnScope ["plot","leaving","rings","gone_along","face","ring","part"] ["plot"] (ao jO):=by walk_at "sc"
theorem x8{t b X Y:Int}{ws:List Wl}{i:Nat}{M0 M M':MH}{ld:Addr}{kvs:SpT}{L:Vc->Addr}(V:Lvn t b X Y ws i M0 M ld kvs L)(s:SD.Sub M M'):Lvn t b X Y ws i M0 M' ld kvs L:=⟨s _ _ V.d,fun q h=>let⟨a,c,e,g⟩:=V.some q h;⟨a,s _ _ c,e,g⟩,V.none,V.inj⟩
theorem jt{M M':MH}(s:SD.Sub M M'){p:Addr}(h:M' p=none):M p=none:=by
 cases z:M p with
 |none=>rfl
 |some o=>rw[s _ _ z]at h;cases h
inductive Cn_rings_of(u:D)(M:MH)(Q:DK):Prop
 |mk (t b X Y:Int) (ws:List Wl) (_:u=.tup (ws.map (rwl t b X Y))) (_:Scl t b X Y) (_:ws.length<=40) (_:(∀w∈ws,Un5 w)) (_:PF ws) (_:∀(M':MH) (lr:Addr) (ps:List Addr) (rs:List (List Nat)),SD.Sub M M'->M lr=none->M' lr=some (.lst (ps.map D.ref))->Rgs ws (2*ws.length) rs->RL M' ps rs->(∀p∈ps,p≠lr/\M p=none)->Q (.ref lr) M')
theorem oI(T:Tx K mg):Cal P w K mg base 7 "rings_of" (sD1 Cn_rings_of):=by
 refine dS (k:=6) T.f_rings_of bS fun f cdv A outer s H E hr=>⟨_,(ag (aA 1 bS.nd (ak (gM T).m hr (aa (dv 0) ab))) (ag (aA 2 bS.nd (bI ab)) (ag (aA 3 bS.nd uG) (ag (d6 El rfl rfl T.b_range (aa (ar aD ae (aF cv rfl T.b_len cB (aa (dv 0) ab))) ab) (av 4 bS.nd) (aj (bf (oQ (iQ hr) (dv 4) (dv 3)) (ag (aA 5 bS.nd (ak (ny T).m hr (aa (dv 0) (aa (dv 1) (aa (dv 4) ab))))) (ag (br (aQ (dv 2) (aa (dv 5) ab))) (aj (bH El rfl (aR (dv 5)) (av 6 bS.nd) (aj (uS (iQ hr) (dv 3) (dv 6) lQ)))))) aI))) (aj (az (dv 2))))))),fun _ M Q h=>?_⟩;obtain⟨t,b,X,Y,ws,rfl,S,hlen,hU,hF,k⟩:=h;have hwl:(ws.map (rwl t b X Y)).length=ws.length:=by simp
 refine⟨_,rfl,t,b,X,Y,ws,rfl,S,hlen,fun M1 ld kvs L sb1 V=>?_⟩;refine⟨nbL rfl,fun lr hlr=>fun lg hlg=>?_⟩;have nlg:lg≠lr:=fun z=>by subst z;rw[af]at hlg;cases hlg
 have hlg1:M1 lg=none:=by have h:=hlg;rw[ai nlg]at h;exact h
 refine⟨_,rfl,aG (aW (by decide)),2*ws.length,(by rw[hwl];simp),by omega,?_⟩;refine⟨fun i δ M'=>∃(ps:List Addr) (rs:List (List Nat)) (n:Nat) (Sg:Int->Bool) (o4 o5 o6:Option D),δ=[some (.tup (ws.map (rwl t b X Y))),some (.ref ld),some (.ref lr),some (.ref lg),o4,o5,o6]/\SD.Sub M1 M'/\M' lr=some (.lst (ps.map D.ref))/\M' lg=some (diM n Sg)/\ps.length<=i/\n<=i*80/\(∀g:Nat,Sg (g:Int)=decide (g∈rs.flatten))/\Rgs ws i rs/\RL M' ps rs/\∀p∈ps,p≠lr/\p≠lg/\M1 p=none,?_,?_,?_⟩
 ·exact⟨[],[],0,fun _=>false,_,_,_,rfl,.new hlg (.new hlr .refl),(by rw[ai nlg.symm,af];rfl),af,E3 _,EZ _,fun g=>by simp,rfl,.nil,fun p hp=>by cases hp⟩
 ·rintro i δ M' hi ⟨ps,rs,n,Sg,o4,o5,o6,rfl,sb,hr,hg,hp1,hn1,hS,R,RLs,hps⟩;refine⟨_,rfl,_,rfl,(i:Int),lg,n,Sg,rfl,rfl,hg,_,rfl,?_⟩;rw[hS];refine bD (fun h=>?_) (fun h=>⟨ps,rs,n,Sg,_,_,_,rfl,sb,hr,hg,by omega,by omega,hS,⟨rs,R,.inl ⟨by simpa using h,rfl⟩⟩,RLs,hps⟩);have hni:i∉rs.flatten:=by simpa using h
  refine⟨_,rfl,_,rfl,_,rfl,t,b,X,Y,ws,M,ld,kvs,L,i,rfl,rfl,rfl,S,hlen,hU,hF,hi,x8 V sb,fun p kk hp nr eq=>?_⟩;have kb:=rD hU hF hi nr;have c1:∀{a o G},M' a=some o->(aq M' p G) a=some o:=fun h=>by rw[ai (au h hp)];exact h
  have plr:p≠lr:=(au hr hp).symm;have plg:p≠lg:=(au hg hp).symm;refine⟨_,rfl,lr,_,rfl,c1 hr,_,rfl,_,_,rfl,c1 hr,(by simp;omega),?_⟩;have c2:∀{a o G D'},M' a=some o->a≠lr->(aq (aq M' p G) lr D') a=some o:=fun h n=>by rw[ai n];exact c1 h
  have hg2:=c2 (G:=.lst ((rn ws i kk).map fun g:Nat=>D.int (g:Int))) (D':=.lst (ps.map D.ref++[.ref p])) hg nlg;have hp2:(aq (aq M' p (.lst ((rn ws i kk).map fun g:Nat=>D.int (g:Int)))) lr (.lst (ps.map D.ref++[.ref p]))) p=some (.lst ((rn ws i kk).map fun g:Nat=>D.int (g:Int))):=by rw[ai plr,af]
  have hr2:(aq (aq M' p (.lst ((rn ws i kk).map fun g:Nat=>D.int (g:Int)))) lr (.lst (ps.map D.ref++[.ref p]))) lr=some (.lst (ps.map D.ref++[.ref p])):=af;have c3:∀{a o},M' a=some o->a≠lr->(aq (aq M' p (.lst ((rn ws i kk).map fun g:Nat=>D.int (g:Int)))) lr (.lst (ps.map D.ref++[.ref p]))) a=some o:=fun h n=>c2 h n;clear c2;generalize aq (aq M' p (.lst ((rn ws i kk).map fun g:Nat=>D.int (g:Int)))) lr (.lst (ps.map D.ref++[.ref p]))=N2 at hg2 hp2 hr2 c3 ⊢;refine⟨_,rfl,(rn ws i kk).map fun g:Nat=>D.int (g:Int),hp2,?_⟩;refine⟨fun a δ M''=>∃(n':Nat) (S':Int->Bool) (o6:Option D),δ=[some (.tup (ws.map (rwl t b X Y))),some (.ref ld),some (.ref lr),some (.ref lg),some (.int (i:Int)),some (.ref p),o6]/\M'' lg=some (diM n' S')/\(∀c,c≠lg->M'' c=N2 c)/\n'<=n+a/\∀g:Nat,S' (g:Int)=(decide (g∈rs.flatten)||decide (g∈(rn ws i kk).take a)),⟨n,Sg,_,rfl,hg2,fun _ _=>rfl,E3 _,fun g=>by rw[hS];simp⟩,fun a δ M'' _ z=>by obtain⟨_,_,_,_,_,z,_⟩:=z;show M'' p=_;rw[z p plg];exact hp2,?_,?_⟩
  ·rintro a d δ M'' ha hd ⟨n',S',o6,rfl,h1,h2,h3,h4⟩;have ha':a<kk+1:=by have:a<((rn ws i kk).map fun g:Nat=>D.int (g:Int)).length:=ha;simpa[gZ]using this
   have hd:((rn ws i kk).map fun g:Nat=>D.int (g:Int))[a]?=some d:=hd;rw[E4]at hd;cases eg:(rn ws i kk)[a]? with
   |none=>rw[eg]at hd;cases hd
   |some g=>
    rw[eg]at hd
    cases hd
    refine⟨_,rfl,_,rfl,lg,(g:Int),n',S',rfl,rfl,h1,by omega,?_⟩
    refine⟨n'+1,_,_,rfl,af,fun c hc=>by rw[ai hc];exact h2 c hc,by omega,fun g'=>?_⟩
    rw[h4,Fs,eg]
    have e:decide (((g':Nat):Int)=((g:Nat):Int))=decide (g'=g):=by rw[decide_eq_decide];omega
    rw[e]
    simp only[Ek,Option.toList_some,List.mem_singleton,Bool.decide_or]
    cases decide (g'=g)<;>cases decide (g'∈rs.flatten)<;>simp
  ·rintro δ M'' ⟨n',S',o6,rfl,h1,h2,h3,h4⟩;have h3:n'<=n+(kk+1):=by simpa[gZ]using h3
   have h4:∀g:Nat,S' (g:Int)=(decide (g∈rs.flatten)||decide (g∈(rn ws i kk).take ((rn ws i kk).map fun g:Nat=>D.int (g:Int)).length)):=h4;have et:(rn ws i kk).take ((rn ws i kk).map fun g:Nat=>D.int (g:Int)).length=rn ws i kk:=F9 (by simp);rw[et]at h4;have c4:∀{a o},M' a=some o->a≠lr->a≠lg->M'' a=some o:=fun h n n'=>by rw[h2 _ n'];exact c3 h n
   refine⟨ps++[p],rs++[rn ws i kk],n',S',_,_,_,rfl,fun a o h=>c4 (sb _ _ h) (fun z=>by subst z;rw[hlr]at h;cases h) (fun z=>by subst z;rw[hlg1]at h;cases h),(by rw[h2 lr nlg.symm,Eg];exact hr2),h1,by simp;omega,by omega,fun g=>?_,⟨rs,R,.inr ⟨hni,_,⟨kk,nr,eq,rfl⟩,rfl⟩⟩,?_,fun p' hp'=>?_⟩
   ·rw[h4];simp only[List.flatten_append,Ek,Gx,List.flatten_nil,EV,Bool.decide_or]
   ·exact(RLs.mono fun q hq o e=>c4 e (hps q hq).1 (hps q hq).2.1).snoc (by rw[h2 p plg];exact hp2)
   ·rcases Ek.mp hp' with z|z
    ·exact hps p' z
    ·have:p'=p:=by simpa using z
     subst this;exact⟨plr,plg,jt sb hp⟩
 ·rintro δ M' ⟨ps,rs,n,Sg,o4,o5,o6,rfl,sb,hr,hg,hp1,hn1,hS,R,RLs,hps⟩;exact⟨_,rfl,⟨M',.refl,k M' lr ps rs (SD.Sub.trans sb1 sb) (jt sb1 hlr) hr R RLs fun p hp=>⟨(hps p hp).1,jt sb1 (hps p hp).2.2⟩⟩⟩
theorem cR:FnScope ["one","other"] ["one","other"] (ao dn):=by walk_at "sc"
inductive Cn_greatest_divisor(x y:D)(M:MH)(Q:DK):Prop
 |mk (a b:Nat) (_:x=.int (a:Int)) (_:y=.int (b:Int)) (_:Q (.int ((Gq a b:Nat):Int)) M)
theorem dh(T:Tx K mg):Cal P w K mg base 1 "greatest_divisor" (sD2 Cn_greatest_divisor):=by
 refine aZ (k:=0) T.f_greatest_divisor cR fun f cdv A outer s H E hr=>⟨_,(ag (gw El (aH (jP hr.units) (dv 1) ae) (aj (fY 0 1 rfl cR.nd (aa (dv 1) (aa (ar d7 (dv 0) (dv 1)) ab))))) (aj (az (dv 0)))),fun _ _ M Q h=>?_⟩;obtain⟨a,b,rfl,rfl,q⟩:=h;refine⟨fun m δ M'=>M'=M/\∃x y:Nat,δ=[some (.int x),some (.int y)]/\Gq x y=Gq a b/\m=y,⟨_,rfl,_,_,rfl,rfl,rfl⟩,?_⟩;rintro m δ M' ⟨rfl,x,y,rfl,hxy,hm⟩;refine⟨_,rfl,_,rfl,?_⟩;refine bD (fun h=>?_) (fun h=>?_)
 ·have hy:(y:Int)≠0:=by simpa using h
  refine⟨_,rfl,_,rfl,_,rfl,hy,_,_,rfl,?_⟩;have hy':0<y:=by omega
  refine⟨x%y,by rw[hm];exact Nat.mod_lt _ hy',rfl,y,x%y,?_,?_,rfl⟩
  ·rw[<-Ma.qP];rfl
  ·rw[<-hxy,Nat.gcd_comm x y,Nat.gcd_rec y x,Nat.gcd_comm]
 ·have hy:y=0:=by simpa using h
  subst hy;rw[Nat.gcd_zero_right]at hxy;subst hxy;exact⟨_,rfl,rtn q⟩
theorem bZ:FnScope ["parts","common","part"] ["parts"] (ao eE):=by walk_at "sc"
inductive Cn_common_bottom(u:D)(M:MH)(Q:DK):Prop
 |mk (p:Addr) (qs:List Rat) (b:Nat) (_:u=.ref p) (_:M p=some (.lst (qs.map Ma.fr))) (_:0<b) (_:b<=10^26) (_:(∀q∈qs,q.den ∣ b)) (_:∀c:Nat,0<c->c ∣ b->(∀q∈qs,q.den ∣ c)->Q (.int (c:Int)) M)
theorem eD(T:Tx K mg):Cal P w K mg base 2 "common_bottom" (sD1 Cn_common_bottom):=by
 refine dS (k:=1) T.f_common_bottom bZ fun f cdv A outer s H E hr=>⟨_,(ag (aA 1 bZ.nd ae) (ag (bH El rfl (aR (dv 0)) (av 2 bZ.nd) (aj (aA 1 bZ.nd (ar aD (ar eG (dv 1) (ak (dh T).m hr (aa (dv 1) (aa (aw (dv 2) ae) ab)))) (aw (dv 2) ae))))) (aj (az (dv 1))))),fun _ M Q h=>?_⟩;obtain⟨p,qs,b,rfl,hp,hb0,hb1,hq,k⟩:=h;refine⟨_,rfl,qs.map Ma.fr,hp,?_⟩;refine⟨fun i δ M'=>M'=M/\∃(c:Nat) (o2:Option D),δ=[some (.ref p),some (.int (c:Int)),o2]/\0<c/\c ∣ b/\∀q∈qs.take i,q.den ∣ c,⟨rfl,1,_,rfl,by decide,Nat.one_dvd _,fun q hq=>by simp at hq⟩,fun i δ M' _ z=>by obtain⟨rfl,_⟩:=z;exact hp,?_,?_⟩
 ·rintro i d δ M' hi hd ⟨rfl,c,o2,rfl,c0,cb,cq⟩;have hd:(qs.map Ma.fr)[i]?=some d:=hd;rw[E4]at hd;cases eg:qs[i]? with
  |none=>rw[eg]at hd;cases hd
  |some q=>
   rw[eg]at hd
   cases hd
   have hqm:=Ej eg
   have g0:0<Gq c q.den:=Nat.gcd_pos_of_pos_left _ c0
   have cb':c<=b:=Nat.le_of_dvd hb0 cb
   have gle:Gq c q.den<=c:=Nat.gcd_le_left _ c0
   have bd:∀{n:Nat},n<=10^26->Bd 100 (n:Int):=fun{n} h=>by show(n:Int).natAbs<2^100;omega
   have bd2:Bd 100 ((c:Int).fdiv ((Gq c q.den:Nat):Int)):=(bd (n:=c) (by omega)).of_le (by rw[EI _ (by omega)];exact Int.natAbs_ediv_le_natAbs _ _)
   have el:(c:Int).fdiv ((Gq c q.den:Nat):Int)*(q.den:Int)=((Nat.lcm c q.den:Nat):Int):=by
    rw[EI _ (by omega),<-Int.natCast_ediv,<-Int.natCast_mul]
    congr 1
    rw[Nat.lcm,Nat.mul_comm c q.den,Nat.mul_div_assoc _ (Nat.gcd_dvd_left c q.den),Nat.mul_comm]
   refine⟨_,rfl,_,rfl,_,rfl,_,rfl,c,q.den,rfl,rfl,⟨by omega,(bd (by omega)).mono (by decide)⟩,_,rfl,_,rfl,dz (bd2.mono (by decide)) ((bd (ER (Nat.le_of_dvd hb0 (hq q hqm)) hb1)).mono (by decide)),?_⟩
   dsimp only
   rw[el]
   refine⟨rfl,Nat.lcm c q.den,_,rfl,Nat.lcm_pos c0 q.den_pos,Nat.lcm_dvd cb (hq q hqm),fun q' hq'=>?_⟩
   rw[Fs,eg]at hq'
   rcases Ek.mp hq' with z|z
   ·exact Nat.dvd_trans (cq q' z) (Nat.dvd_lcm_left c q.den)
   ·have:q'=q:=by simpa using z
    subst this;exact Nat.dvd_lcm_right c q'.den
 ·rintro δ M' ⟨rfl,c,o2,rfl,c0,cb,cq⟩;exact⟨_,rfl,rtn (k c c0 cb (by have e:qs.take (qs.map Ma.fr).length=qs:=F9 (by simp);rw[<-e];exact cq))⟩
theorem ng:FnScope ["part","bottom"] ["part","bottom"] (ao kg):=by walk_at "sc"
inductive Cn_top_over(u v:D)(M:MH)(Q:DK):Prop
 |mk (q:Rat) (B:Int) (_:u=Ma.fr q) (_:v=.int B) (_:Ma.Bq 200 q) (_:0<B) (_:B<=10^26) (_:Q (.int (q.num*B.fdiv (q.den:Int))) M)
theorem ez(T:Tx K mg):Cal P w K mg base 1 "top_over" (sD2 Cn_top_over):=by
 refine aZ (k:=0) T.f_top_over ng fun f cdv A outer s H E hr=>⟨_,(aj (az (ar aD (aw (dv 0) ae) (ar eG (dv 1) (aw (dv 0) ae))))),fun _ _ M Q h=>?_⟩;obtain⟨q,B,rfl,rfl,hq,h0,h1,k⟩:=h;have bB:Bd 100 B:=by show B.natAbs<2^100;omega
 have dB:(B.fdiv (q.den:Int)).natAbs<=B.natAbs:=by rw[EI _ (by omega)];exact Int.natAbs_ediv_le_natAbs _ _
 exact⟨_,rfl,_,rfl,_,rfl,_,rfl,_,rfl,⟨Ma.fV q,hq.2.mono (by decide)⟩,dz (hq.1.mono (by decide)) ((bB.of_le dB).mono (by decide)),rtn k⟩
theorem aM:FnScope ["plot","ring","ways","x_bottom","y_bottom","total","x","y","next_x","next_y"] ["plot","ring"] (ao f6):=by walk_at "sc"
theorem lJ{I:ItD}{js:List Nat}{wd2:TID}{te:TD}{δ:DS}{M1:MH}{Q:DK}(c0 c1 g0 g1:Nat->D)(hn:I.n<=1000)(hC:∀p ys,M1 p=none->I.C (aq M1 p (.lst ys)))(hit:∀i d,i<I.n->I.item i=some d->d=.tup [c0 i,c1 i]) (hw:∀i M R,i<I.n->R ⟨2,fun j=>[c0 i,c1 i][j]?,fun M=>As M (.tup [c0 i,c1 i]) [c0 i,c1 i]⟩ M->wd2 (cδ [some (.tup [c0 i,c1 i]),none] js δ) M R) (h0:∀i M (K:DK),i<I.n->K (g0 i) M->te (cδ [some (.tup [c0 i,c1 i]),some (c0 i)] js δ) M K) (h1:∀i M (K:DK),i<I.n->K (g1 i) M->te (cδ [some (.tup [c0 i,c1 i]),some (c1 i)] js δ) M K) (hq:∀p,M1 p=none->Q (.ref p) (aq M1 p (.lst ((E5 I.n).flatMap fun i=>[g0 i,g1 i])))):Bv I js wd2 te δ M1 Q:=by
 refine⟨hn,fun p hp=>⟨fun i ys M=>ys=(E5 i).flatMap (fun i=>[g0 i,g1 i])/\M=aq M1 p (.lst ys),⟨rfl,rfl⟩,?_,?_,?_⟩⟩
 ·rintro i ys M _ ⟨_,rfl⟩;exact hC p ys hp
 ·rintro i ys d M hi hd ⟨rfl,rfl⟩;obtain rfl:=hit i d hi hd;refine hw i _ _ hi ⟨nbL rfl,fun j zs M=>zs=(E5 i).flatMap (fun i=>[g0 i,g1 i])++[g0 i,g1 i].take j/\M=aq M1 p (.lst zs),⟨by simp,rfl⟩,fun _ _ _ _ _=>rfl,?_,?_⟩
  ·rintro j zs e M hj he ⟨rfl,rfl⟩;have hj:j<2:=hj;have he:[c0 i,c1 i][j]?=some e:=he;rcases(show j=0\/j=1 by omega)with rfl|rfl
   ·cases he;exact h0 i _ _ hi ⟨_,.refl,af,by simp,by rw[bo]⟩
   ·cases he;exact h1 i _ _ hi ⟨_,.refl,af,by simp,by rw[bo]⟩
  ·rintro zs M ⟨rfl,rfl⟩;refine⟨?_,rfl⟩;rw[G0,List.flatMap_append];simp
 ·rintro ys M ⟨rfl,rfl⟩;exact hq p hp
inductive Cn_twice_area(u v:D)(M:MH)(Q:DK):Prop
 |mk (t b X Y:Int) (ws:List Wl) (p:Addr) (r:List Nat) (_:u=.tup (ws.map (rwl t b X Y))) (_:v=.ref p) (_:M p=some (.lst (r.map fun g:Nat=>D.int (g:Int)))) (_:Scl t b X Y) (_:(∀w∈ws,Un5 w)) (_:ws.length<=40) (_:r.length<=80) (_:(∀g∈r,g<2*ws.length)) (_:∀tot B:Int,0<B->B<=10^52->Bd 1000 tot->(tot:Rat)=(r.map (arT t b X Y ws)).sum*(B:Rat)->Q (.tup [.int tot,.int B]) M)
theorem mz(T:Tx K mg):Cal P w K mg base 3 "twice_area" (sD2 Cn_twice_area):=by
 refine aZ (k:=2) T.f_twice_area aM fun f cdv A outer s H E hr=>⟨_,(ag (dm 2 aM.nd (CScope.of (xs:=["face"]) (js:=[0]) rfl) rfl (aR (dv 1)) (fun _ _ _ _=>cy) (fun _ _ _ _=>(ak (bR T).m hr (aa (dv 1) (aa (dv 0) ab))))) (ag (aA 3 aM.nd (ak (eD T).m hr (aa (um (CScope.of (xs:=["way","corner"]) (js:=[]) rfl) rfl (aR (dv 2)) (fun _ _ _ _=>(aR (dv 0))) (fun _ _ _ _=>(aw (dv 1) ae))) ab))) (ag (aA 4 aM.nd (ak (eD T).m hr (aa (um (CScope.of (xs:=["way","corner"]) (js:=[]) rfl) rfl (aR (dv 2)) (fun _ _ _ _=>(aR (dv 0))) (fun _ _ _ _=>(aw (dv 1) ae))) ab))) (ag (aA 5 aM.nd ae) (ag (bH El rfl (aR (dv 2)) (bA rfl (ay (bA rfl (ay (av 6 aM.nd) (ay (av 7 aM.nd) aT))) (ay (bA rfl (ay (av 8 aM.nd) (ay (av 9 aM.nd) aT))) aT))) (ag (tX 5 aM.nd zE (ar aD (ak (ez T).m hr (aa (dv 6) (aa (dv 3) ab))) (ak (ez T).m hr (aa (dv 9) (aa (dv 4) ab))))) (aj (tX 5 aM.nd AV (ar aD (ak (ez T).m hr (aa (dv 8) (aa (dv 3) ab))) (ak (ez T).m hr (aa (dv 7) (aa (dv 4) ab)))))))) (aj (az (aB (aa (dv 5) (aa (ar aD (dv 3) (dv 4)) ab)))))))))),fun _ _ M Q h=>?_⟩;obtain⟨t,b,X,Y,ws,p,r,rfl,rfl,hp,S,hU,hlen,hrl,hr,k⟩:=h;refine⟨_,rfl,_,hp,comp_map (fun j=>rwl t b X Y (fw ws ((r[j]?).getD 0))) (by show(r.map fun g:Nat=>D.int (g:Int)).length<=1000000;simp;omega) (fun q ys hq=>by show(aq M q _) p=_;rw[ai (au hp hq)];exact hp) ?_ (fun pw hpw=>?_)⟩
 ·intro j d M6 hj hd sb;have hd:(r.map fun g:Nat=>D.int (g:Int))[j]?=some d:=hd;rw[E4]at hd;cases eg:r[j]? with
  |none=>rw[eg]at hd;cases hd
  |some g=>
   rw[eg]at hd
   cases hd
   exact⟨_,rfl,fun K hK=>⟨_,rfl,_,rfl,t,b,X,Y,ws,g,rfl,rfl,hr g (Ej eg),by omega,hK _ .refl⟩⟩
 have e1:(E5 (r.map fun g:Nat=>D.int (g:Int)).length).map (fun j=>rwl t b X Y (fw ws ((r[j]?).getD 0)))=r.map fun g=>rwl t b X Y (fw ws g):=by
  rw[D8];apply List.ext_getElem
  ·simp
  ·intro i h1 h2;simp at h1;simp[h1]
 dsimp only;rw[e1];have hw1:(aq M pw (.lst (r.map fun g=>rwl t b X Y (fw ws g)))) pw=some (.lst (r.map fun g=>rwl t b X Y (fw ws g))):=af;have sbM:SD.Sub M (aq M pw (.lst (r.map fun g=>rwl t b X Y (fw ws g)))):=.new hpw .refl;generalize aq M pw (.lst (r.map fun g=>rwl t b X Y (fw ws g)))=M1 at hw1 sbM ⊢;have hil:(r.map fun g=>rwl t b X Y (fw ws g)).length=r.length:=by simp
 refine⟨_,rfl,_,hw1,lJ (fun i=>Ma.spt (Ma.ut t b X 1 (fa ws ((r[i]?).getD 0)).1) (Ma.ut t b Y 1 (fa ws ((r[i]?).getD 0)).2)) (fun i=>Ma.spt (Ma.ut t b X 1 (fb ws ((r[i]?).getD 0)).1) (Ma.ut t b Y 1 (fb ws ((r[i]?).getD 0)).2)) (fun i=>Ma.fr (Ma.ut t b X 1 (fa ws ((r[i]?).getD 0)).1)) (fun i=>Ma.fr (Ma.ut t b X 1 (fb ws ((r[i]?).getD 0)).1)) (by show(r.map fun g=>rwl t b X Y (fw ws g)).length<=1000;omega) (fun q ys hq=>by show(aq M1 q _) pw=_;rw[ai (au hw1 hq)];exact hw1) (fun i d hi hd=>?_) (fun i M R hi h=>⟨_,rfl,_,rfl,h⟩) (fun i M K hi h=>⟨_,rfl,_,rfl,h⟩) (fun i M K hi h=>⟨_,rfl,_,rfl,h⟩) (fun px hpx=>?_)⟩
 ·have hd:(r.map fun g=>rwl t b X Y (fw ws g))[i]?=some d:=hd;rw[E4]at hd;cases eg:r[i]? with
  |none=>rw[eg]at hd;cases hd
  |some g=>
   rw[eg]at hd
   cases hd
   rfl
 obtain⟨bn,rfl⟩:∃bn:Nat,b=(bn:Int):=⟨b.toNat,by have:=S.b0;omega⟩;have hb0:0<bn:=by have:=S.b0;omega
 have dv:∀(Z x:Int),(Ma.ut t (bn:Int) Z 1 x).den ∣ bn:=fun Z x=>by
  have h:=xa (n:=x*t+Z*1) (d:=(bn:Int)*1) (by omega)
  rw[Int.mul_one (bn:Int)]at h
  unfold Ma.ut
  rw[Int.mul_one (bn:Int)]
  exact Int.ofNat_dvd.mp h
 have eX:∀(Z:Int) (φ:Vc->Int) (n:Nat),((E5 n).flatMap fun i=>[Ma.fr (Ma.ut t (bn:Int) Z 1 (φ (fa ws ((r[i]?).getD 0)))),Ma.fr (Ma.ut t (bn:Int) Z 1 (φ (fb ws ((r[i]?).getD 0))))])=((E5 n).flatMap fun i=>[Ma.ut t (bn:Int) Z 1 (φ (fa ws ((r[i]?).getD 0))),Ma.ut t (bn:Int) Z 1 (φ (fb ws ((r[i]?).getD 0)))]).map Ma.fr:=fun Z φ n=>by rw[List.map_flatMap];rfl
 have memX:∀(Z:Int) (φ:Vc->Int) (n:Nat) (q:Rat),q∈((E5 n).flatMap fun i=>[Ma.ut t (bn:Int) Z 1 (φ (fa ws ((r[i]?).getD 0))),Ma.ut t (bn:Int) Z 1 (φ (fb ws ((r[i]?).getD 0)))])->q.den ∣ bn:=fun Z φ n q hq=>by
  obtain⟨i,_,hi⟩:=List.mem_flatMap.mp hq;rcases EM.mp hi with z|z
  ·rw[z];exact dv _ _
  ·rw[show q=_ from by simpa using z];exact dv _ _
 have useX:∀(Z:Int) (φ:Vc->Int) (c:Nat),(∀q∈((E5 r.length).flatMap fun i=>[Ma.ut t (bn:Int) Z 1 (φ (fa ws ((r[i]?).getD 0))),Ma.ut t (bn:Int) Z 1 (φ (fb ws ((r[i]?).getD 0)))]),q.den ∣ c)->∀(i g:Nat),r[i]?=some g->(Ma.ut t (bn:Int) Z 1 (φ (fa ws g))).den ∣ c/\(Ma.ut t (bn:Int) Z 1 (φ (fb ws g))).den ∣ c:=fun Z φ c h i g eg=>by
  have hi:i<r.length:=(Eo.mp eg).1
  refine⟨h _ (List.mem_flatMap.mpr ⟨i,GH.mpr hi,?_⟩),h _ (List.mem_flatMap.mpr ⟨i,GH.mpr hi,?_⟩)⟩
  ·rw[eg];simp
  ·rw[eg];simp
 have hbb:bn<=10^26:=by have:=S.b1;omega
 refine⟨px,_,bn,rfl,(by rw[af];dsimp only;rw[hil];exact congrArg (fun z=>some (MO.lst z)) (eX X (fun v=>v.1) r.length)),hb0,hbb,memX X (fun v=>v.1) _,fun xb xb0 xbd xbq=>?_⟩;have hw2:∀{o},(aq M1 px o) pw=some (.lst (r.map fun g=>rwl t (bn:Int) X Y (fw ws g))):=fun{o}=>by rw[ai (au hw1 hpx)];exact hw1
 have sb2:∀{o},SD.Sub M (aq M1 px o):=fun{o}=>.new hpx sbM;refine⟨_,rfl,_,hw2,lJ (fun i=>Ma.spt (Ma.ut t (bn:Int) X 1 (fa ws ((r[i]?).getD 0)).1) (Ma.ut t (bn:Int) Y 1 (fa ws ((r[i]?).getD 0)).2)) (fun i=>Ma.spt (Ma.ut t (bn:Int) X 1 (fb ws ((r[i]?).getD 0)).1) (Ma.ut t (bn:Int) Y 1 (fb ws ((r[i]?).getD 0)).2)) (fun i=>Ma.fr (Ma.ut t (bn:Int) Y 1 (fa ws ((r[i]?).getD 0)).2)) (fun i=>Ma.fr (Ma.ut t (bn:Int) Y 1 (fb ws ((r[i]?).getD 0)).2)) (by show(r.map fun g=>rwl t (bn:Int) X Y (fw ws g)).length<=1000;omega) (fun q ys hq=>by show(aq _ q _) pw=_;rw[ai (au hw2 hq)];exact hw2) (fun i d hi hd=>?_) (fun i M R hi h=>⟨_,rfl,_,rfl,h⟩) (fun i M K hi h=>⟨_,rfl,_,rfl,h⟩) (fun i M K hi h=>⟨_,rfl,_,rfl,h⟩) (fun py hpy=>?_)⟩
 ·have hd:(r.map fun g=>rwl t (bn:Int) X Y (fw ws g))[i]?=some d:=hd;rw[E4]at hd;cases eg:r[i]? with
  |none=>rw[eg]at hd;cases hd
  |some g=>
   rw[eg]at hd
   cases hd
   rfl
 refine⟨py,_,bn,rfl,(by rw[af];dsimp only;rw[hil];exact congrArg (fun z=>some (MO.lst z)) (eX Y (fun v=>v.2) r.length)),hb0,hbb,memX Y (fun v=>v.2) _,fun yb yb0 ybd ybq=>?_⟩;have ux:=useX X (fun v=>v.1) xb xbq;have uy:=useX Y (fun v=>v.2) yb ybq;have hw3:∀{o o'},py≠pw->(aq (aq M1 px o) py o') pw=some (.lst (r.map fun g=>rwl t (bn:Int) X Y (fw ws g))):=fun ne=>by rw[ai ne.symm];exact hw2
 have npy:py≠pw:=(au hw2 hpy).symm;refine⟨_,rfl,_,hw3 npy,?_⟩;have sb3:=SD.Sub.new (o:=MO.lst ((E5 (r.map fun g=>rwl t (bn:Int) X Y (fw ws g)).length).flatMap fun i=>[Ma.fr (Ma.ut t (bn:Int) Y 1 (fa ws ((r[i]?).getD 0)).2),Ma.fr (Ma.ut t (bn:Int) Y 1 (fb ws ((r[i]?).getD 0)).2)])) hpy sb2;dsimp only at sb3 ⊢;have hw4:=hw3 (o:=MO.lst ((E5 (r.map fun g=>rwl t (bn:Int) X Y (fw ws g)).length).flatMap fun i=>[Ma.fr (Ma.ut t (bn:Int) X 1 (fa ws ((r[i]?).getD 0)).1),Ma.fr (Ma.ut t (bn:Int) X 1 (fb ws ((r[i]?).getD 0)).1)])) (o':=MO.lst ((E5 (r.map fun g=>rwl t (bn:Int) X Y (fw ws g)).length).flatMap fun i=>[Ma.fr (Ma.ut t (bn:Int) Y 1 (fa ws ((r[i]?).getD 0)).2),Ma.fr (Ma.ut t (bn:Int) Y 1 (fb ws ((r[i]?).getD 0)).2)])) npy;generalize aq (aq M1 px (MO.lst ((E5 (r.map fun g=>rwl t (bn:Int) X Y (fw ws g)).length).flatMap fun i=>[Ma.fr (Ma.ut t (bn:Int) X 1 (fa ws ((r[i]?).getD 0)).1),Ma.fr (Ma.ut t (bn:Int) X 1 (fb ws ((r[i]?).getD 0)).1)]))) py (MO.lst ((E5 (r.map fun g=>rwl t (bn:Int) X Y (fw ws g)).length).flatMap fun i=>[Ma.fr (Ma.ut t (bn:Int) Y 1 (fa ws ((r[i]?).getD 0)).2),Ma.fr (Ma.ut t (bn:Int) Y 1 (fb ws ((r[i]?).getD 0)).2)]))=M3 at sb3 hw4 ⊢;have hx1:(0:Int)<(xb:Int)/\(xb:Int)<=10^26:=by have:=Nat.le_of_dvd hb0 xbd;omega
 have hy1:(0:Int)<(yb:Int)/\(yb:Int)<=10^26:=by have:=Nat.le_of_dvd hb0 ybd;omega
 refine⟨fun i δ M'=>M'=M3/\∃(tot:Int) (o6 o7 o8 o9:Option D),δ=[some (.tup (ws.map (rwl t (bn:Int) X Y))),some (.ref p),some (.ref pw),some (.int (xb:Int)),some (.int (yb:Int)),some (.int tot),o6,o7,o8,o9]/\(tot:Rat)=((r.take i).map (arT t (bn:Int) X Y ws)).sum*(((xb:Int)*(yb:Int):Int):Rat)/\Bd (600+2*i) tot,⟨rfl,0,_,_,_,_,rfl,(by simp),(by show(0:Int).natAbs<2^(600+2*0);decide)⟩,fun i δ M' _ z=>by obtain⟨rfl,_⟩:=z;exact hw4,?_,?_⟩
 ·rintro i d δ M' hi hd ⟨rfl,tot,o6,o7,o8,o9,rfl,et,bt⟩;have hd:(r.map fun g=>rwl t (bn:Int) X Y (fw ws g))[i]?=some d:=hd;rw[E4]at hd;cases eg:r[i]? with
  |none=>rw[eg]at hd;cases hd
  |some g=>
   rw[eg]at hd
   cases hd
   have hg:=hr g (Ej eg)
   obtain⟨_,_,w3⟩:=bQ (ws:=ws) (k:=((g/2:Nat):Int)) (by omega) (by omega)
   have W:=hU _ w3
   have W6:∀{z:Int},(0<=z/\z<=20)->(-(10^6)<=z/\z<=10^6):=fun{z} h=>by omega
   have one:(0:Int)<1/\(1:Int)<=10^6:=by decide
   have rg:((0<=(fa ws g).1/\(fa ws g).1<=20)/\(0<=(fa ws g).2/\(fa ws g).2<=20))/\((0<=(fb ws g).1/\(fb ws g).1<=20)/\(0<=(fb ws g).2/\(fb ws g).2<=20)):=by
    unfold fa fb fw;by_cases h:g%2=0
    ·rw[if_pos h];exact⟨⟨W.a,W.b⟩,W.c,W.d⟩
    ·rw[if_neg h];exact⟨⟨W.c,W.d⟩,W.a,W.b⟩
   have bxa:Ma.Bq 200 (Ma.ut t (bn:Int) X 1 (fa ws g).1):=S.bx one (W6 rg.1.1)
   have bya:Ma.Bq 200 (Ma.ut t (bn:Int) Y 1 (fa ws g).2):=S.by' one (W6 rg.1.2)
   have bxb:Ma.Bq 200 (Ma.ut t (bn:Int) X 1 (fb ws g).1):=S.bx one (W6 rg.2.1)
   have byb:Ma.Bq 200 (Ma.ut t (bn:Int) Y 1 (fb ws g).2):=S.by' one (W6 rg.2.2)
   have tb:∀{q:Rat} {B:Int},Ma.Bq 200 q->0<B->B<=10^26->Bd 300 (q.num*B.fdiv (q.den:Int)):=fun{q B} h h0 h1=>by
    have bB:Bd 100 B:=by show B.natAbs<2^100;omega
    have dB:(B.fdiv (q.den:Int)).natAbs<=B.natAbs:=by rw[EI _ (by omega)];exact Int.natAbs_ediv_le_natAbs _ _
    exact h.1.mul (bB.of_le dB)
   have m6:∀{z:Int},Bd 300 z->Bd 1000000 z:=fun h=>h.mono (by decide)
   refine⟨_,rfl,rfl,_,_,rfl,_,rfl,rfl,_,_,rfl,_,_,rfl,rfl,_,_,rfl,_,rfl,rfl,_,_,rfl,_,_,rfl,rfl,rfl,?_⟩
   refine⟨tot,rfl,_,rfl,_,rfl,Ma.ut t (bn:Int) X 1 (fa ws g).1,(xb:Int),rfl,rfl,bxa,hx1.1,hx1.2,_,rfl,_,rfl,Ma.ut t (bn:Int) Y 1 (fb ws g).2,(yb:Int),rfl,rfl,byb,hy1.1,hy1.2,dz (m6 (tb bxa hx1.1 hx1.2)) (m6 (tb byb hy1.1 hy1.2)),_,rfl,?_⟩
   refine⟨_,rfl,_,rfl,_,rfl,Ma.ut t (bn:Int) X 1 (fb ws g).1,(xb:Int),rfl,rfl,bxb,hx1.1,hx1.2,_,rfl,_,rfl,Ma.ut t (bn:Int) Y 1 (fa ws g).2,(yb:Int),rfl,rfl,bya,hy1.1,hy1.2,dz (m6 (tb bxb hx1.1 hx1.2)) (m6 (tb bya hy1.1 hy1.2)),_,rfl,?_⟩
   refine⟨rfl,_,_,_,_,_,rfl,?_,?_⟩
   ·rw[Fs,eg,Option.toList_some,Eg,List.sum_append];have ex:=ux i g eg;have ey:=uy i g eg;have t1:=rB (Ma.ut t (bn:Int) X 1 (fa ws g).1) (xb:Int) (Int.ofNat_dvd.mpr ex.1);have t2:=rB (Ma.ut t (bn:Int) Y 1 (fb ws g).2) (yb:Int) (Int.ofNat_dvd.mpr ey.2);have t3:=rB (Ma.ut t (bn:Int) X 1 (fb ws g).1) (xb:Int) (Int.ofNat_dvd.mpr ex.2);have t4:=rB (Ma.ut t (bn:Int) Y 1 (fa ws g).2) (yb:Int) (Int.ofNat_dvd.mpr ey.1);dsimp only;rw[Gu,Rat.intCast_add,et,Fh,Fh,t1,t2,Fh,t3,t4];simp only[D7,EX,Ge,List.sum_nil];unfold arT;grind
   ·have p1:=((tb bxa hx1.1 hx1.2).mul (tb byb hy1.1 hy1.2)).mono (show 300+300<=600+2*i by omega);have p2:=((tb bxb hx1.1 hx1.2).mul (tb bya hy1.1 hy1.2)).mono (show 300+300<=600+2*i+1 by omega);exact((bt.add p1).sub p2).mono (by omega)
 ·rintro δ M' ⟨rfl,tot,o6,o7,o8,o9,rfl,et,bt⟩;have e:r.take (r.map fun g=>rwl t (bn:Int) X Y (fw ws g)).length=r:=F9 (by simp);rw[e]at et;have bx64:Bd 100 (xb:Int):=by show(xb:Int).natAbs<2^100;omega
  have by64:Bd 100 (yb:Int):=by show(yb:Int).natAbs<2^100;omega
  have pp:=Ez hx1.1 hy1.1
  have pl:(xb:Int)*(yb:Int)<=10^52:=by
   have h1:=Int.mul_le_mul hx1.2 hy1.2 (F8 hy1.1) (show(0:Int)<=10^26 by decide)
   exact Int.le_trans h1 (by decide)
  exact⟨_,rfl,_,rfl,_,rfl,dz (bx64.mono (by decide)) (by64.mono (by decide)),nbL rfl,⟨M,sb3,k tot _ pp pl (bt.mono (by rw[hil];first|omega|(dsimp only;omega)|(simp only[D8]at *;omega))) et⟩⟩
theorem cg:FnScope ["plot","outers","inners","ring"] ["plot"] (ao dE):=by walk_at "sc"
inductive Cn_outer_and_inner(u:D)(M:MH)(Q:DK):Prop
 |mk (t b X Y:Int) (ws:List Wl) (_:u=.tup (ws.map (rwl t b X Y))) (_:Scl t b X Y) (_:ws.length<=40) (_:(∀w∈ws,Un5 w)) (_:PF ws) (_:∀(M':MH) (lo li:Addr) (ps qs:List Addr) (rs:List (List Nat)),SD.Sub M M'->Rgs ws (2*ws.length) rs->M' lo=some (.lst (ps.map D.ref))->M' li=some (.lst (qs.map D.ref))->RL M' ps (rs.filter (b4 ws))->RL M' qs (rs.filter fun r=>!b4 ws r)->M lo=none->M li=none->(∀p∈ps++qs,M p=none)->Q (.tup [.ref lo,.ref li]) M')
theorem gg(T:Tx K mg):Cal P w K mg base 8 "outer_and_inner" (sD1 Cn_outer_and_inner):=by
 refine dS (k:=7) T.f_outer_and_inner cg fun f cdv A outer s H E hr=>⟨_,(ag (fY 1 2 rfl cg.nd (aa (bI ab) (aa (bI ab) ab))) (ag (bH El rfl (aR (ak (oI T).m hr (aa (dv 0) ab))) (av 3 cg.nd) (aj (bf (aH (kB hr.units) (aw (ak (mz T).m hr (aa (dv 0) (aa (dv 3) ab))) ae) ae) (aj (br (aQ (dv 1) (aa (dv 3) ab)))) (aj (br (aQ (dv 2) (aa (dv 3) ab))))))) (aj (az (aB (aa (dv 1) (aa (dv 2) ab))))))),fun _ M Q h=>?_⟩;obtain⟨t,b,X,Y,ws,rfl,S,hlen,hU,hF,k⟩:=h;refine⟨nbL rfl,fun lo hlo=>⟨nbL rfl,fun li hli=>?_⟩⟩;have noi:lo≠li:=au af hli;have hli0:M li=none:=by have h:=hli;rw[ai noi.symm]at h;exact h
 refine⟨_,_,rfl,?_⟩;refine⟨_,rfl,t,b,X,Y,ws,rfl,S,hlen,hU,hF,fun M1 lr pr rs sb1 hlr hr1 R RLs hpr=>?_⟩;have hlo1:M1 lo=some (.lst []):=sb1 _ _ (by rw[ai noi,af]);have hli1:M1 li=some (.lst []):=sb1 _ _ af;have sbM:SD.Sub M M1:=SD.Sub.trans (.new hli (.new hlo .refl)) sb1;have nlo:lr≠lo:=fun z=>by subst z;rw[ai noi,af]at hlr;cases hlr
 have nli:lr≠li:=fun z=>by subst z;rw[af]at hlr;cases hlr
 have pn:∀p∈pr,p≠lo/\p≠li/\M p=none:=fun p hp=>by
  have h:=(hpr p hp).2
  have a:p≠li:=fun z=>by subst z;rw[af]at h;cases h
  rw[ai a]at h
  have c:p≠lo:=fun z=>by subst z;rw[af]at h;cases h
  rw[ai c]at h
  exact⟨c,a,h⟩
 have hrl:=jb R;have hpl:=RLs.len;have rmem:=iZ hU hF (E3 _) R;refine⟨_,hr1,?_⟩;refine⟨fun i δ M'=>∃(ps qs:List Addr) (o3:Option D),δ=[some (.tup (ws.map (rwl t b X Y))),some (.ref lo),some (.ref li),o3]/\(∀c,c≠lo->c≠li->M' c=M1 c)/\M' lo=some (.lst (ps.map D.ref))/\M' li=some (.lst (qs.map D.ref))/\RL M1 ps ((rs.take i).filter (b4 ws))/\RL M1 qs ((rs.take i).filter fun r=>!b4 ws r)/\ps.length<=i/\qs.length<=i/\∀p∈ps++qs,p∈pr,⟨[],[],_,rfl,fun _ _ _=>rfl,hlo1,hli1,.nil,.nil,E3 _,E3 _,fun p hp=>by cases hp⟩,fun i δ M' _ z=>by obtain⟨_,_,_,_,z,_⟩:=z;show M' lr=_;rw[z lr nlo nli];exact hr1,?_,?_⟩
 ·rintro i d δ M' hi hd ⟨ps,qs,o3,rfl,hM',ho',hi',R1,R2,l1,l2,hpq⟩;have hi:i<pr.length:=by have:i<(pr.map D.ref).length:=hi;simpa using this
  have hd:(pr.map D.ref)[i]?=some d:=hd;rw[E4,E2 hi]at hd;cases hd;obtain⟨r,er,hpi⟩:=RLs.get hi;have mpi:pr[i]∈pr:=ET hi;obtain⟨p1,p2,p3⟩:=pn _ mpi;have A:=rmem r (Ej er);refine⟨_,rfl,_,rfl,t,b,X,Y,ws,pr[i],r,rfl,rfl,(by rw[hM' _ p1 p2];exact hpi),S,hU,hlen,by have:=A.len;omega,A.lt,fun tot B hB hB1 bt et=>?_⟩;refine⟨_,rfl,trivial,_,rfl,?_⟩;have sg:=uI hU hF A.rng S.t0 S.b0 hB et;have f1:=iM (b4 ws) rs er;have f2:=iM (fun r=>!b4 ws r) rs er;refine bD (fun h=>?_) (fun h=>?_)
  ·have o:b4 ws r=true:=by rw[<-sg];exact h
   rw[o]at f1 f2;rw[if_pos rfl]at f1;rw[if_neg (by decide),EV]at f2;refine⟨_,rfl,lo,_,rfl,ho',_,rfl,_,_,rfl,ho',(by rw[D8];omega),?_⟩;refine⟨ps++[pr[i]],qs,_,rfl,fun c a c2=>by rw[ai a];exact hM' c a c2,by rw[af,Eg];rfl,by rw[ai noi.symm];exact hi',by rw[f1];exact R1.snoc hpi,by rw[f2];exact R2,by simp;omega,by omega,fun p hp=>?_⟩;rcases Ek.mp hp with z|z
   ·rcases Ek.mp z with z|z
    ·exact hpq p (Ek.mpr (.inl z))
    ·rw[show p=pr[i] by simpa using z];exact mpi
   ·exact hpq p (Ek.mpr (.inr z))
  ·have o:b4 ws r=false:=by rw[<-sg];simpa using h
   rw[o]at f1 f2;rw[if_neg (by decide),EV]at f1;rw[if_pos (show(!false)=true from rfl)]at f2;refine⟨_,rfl,li,_,rfl,hi',_,rfl,_,_,rfl,hi',(by rw[D8];omega),?_⟩;refine⟨ps,qs++[pr[i]],_,rfl,fun c a c2=>by rw[ai c2];exact hM' c a c2,by rw[ai noi];exact ho',by rw[af,Eg];rfl,by rw[f1];exact R1,by rw[f2];exact R2.snoc hpi,by omega,by simp;omega,fun p hp=>?_⟩;rcases Ek.mp hp with z|z
   ·exact hpq p (Ek.mpr (.inl z))
   ·rcases Ek.mp z with z|z
    ·exact hpq p (Ek.mpr (.inr z))
    ·rw[show p=pr[i] by simpa using z];exact mpi
 ·rintro δ M' ⟨ps,qs,o3,rfl,hM',ho',hi',R1,R2,l1,l2,hpq⟩;have et:rs.take (pr.map D.ref).length=rs:=F9 (by rw[D8];omega);have R1:RL M1 ps ((rs.take (pr.map D.ref).length).filter (b4 ws)):=R1;have R2:RL M1 qs ((rs.take (pr.map D.ref).length).filter fun r=>!b4 ws r):=R2;rw[et]at R1 R2;have kp:∀p∈ps++qs,M' p=M1 p:=fun p hp=>let z:=pn p (hpq p hp);hM' p z.1 z.2.1
  refine⟨_,rfl,_,rfl,nbL rfl,rtn (k M' lo li ps qs rs (fun a o h=>?_) R ho' hi' (R1.mono fun p hp o e=>by rw[kp p (Ek.mpr (.inl hp))];exact e) (R2.mono fun p hp o e=>by rw[kp p (Ek.mpr (.inr hp))];exact e) hlo hli0 fun p hp=>(pn p (hpq p hp)).2.2)⟩;rw[hM' a (fun z=>by subst z;rw[hlo]at h;cases h) (fun z=>by subst z;rw[hli0]at h;cases h)];exact sbM _ _ h
theorem pD:FnScope ["one","other"] ["one","other"] (ao lP):=by walk_at "sc"
inductive Cn_is_less(x y:D)(M:MH)(Q:DK):Prop
 |mk (q r:Rat) (_:x=Ma.fr q) (_:y=Ma.fr r) (_:Ma.Bq 100000 q) (_:Ma.Bq 100000 r) (_:Q (.bl (decide (q<r))) M)
theorem lA(T:Tx K mg):Cal P w K mg base 1 "is_less" (sD2 Cn_is_less):=by refine aZ (k:=0) T.f_is_less pD fun f cdv A outer s H E hr=>⟨_,(aj (az (cu (cO hr.units) (ar aD (aw (dv 0) ae) (aw (dv 1) ae)) (ar aD (aw (dv 1) ae) (aw (dv 0) ae))))),fun _ _ M Q h=>?_⟩;obtain⟨q,r,rfl,rfl,h1,h2,k⟩:=h;refine⟨_,rfl,_,rfl,_,rfl,_,rfl,dz (h1.1.mono (by decide)) (h2.2.mono (by decide)),?_⟩;refine⟨_,rfl,_,rfl,_,rfl,_,rfl,dz (h2.1.mono (by decide)) (h1.2.mono (by decide)),trivial,?_⟩;dsimp only;rw[Ma.BF];exact rtn k
theorem oh:FnScope ["one","other"] ["one","other"] (ao kh):=by walk_at "sc"
inductive Cn_is_ahead(x y:D)(M:MH)(Q:DK):Prop
 |mk (a b c d:Rat) (_:x=Ma.spt a b) (_:y=Ma.spt c d) (_:Ma.Bq 100000 a) (_:Ma.Bq 100000 b) (_:Ma.Bq 100000 c) (_:Ma.Bq 100000 d) (_:Q (.bl (decide (a<c\/a=c/\b<d))) M)
theorem cI(T:Tx K mg):Cal P w K mg base 2 "is_ahead" (sD2 Cn_is_ahead):=by
 refine aZ (k:=1) T.f_is_ahead oh fun f cdv A outer s H E hr=>⟨_,(ag (bf (aH (b5 hr.units) (aw (dv 0) ae) (aw (dv 1) ae)) (aj (az (ak (lA T).m hr (aa (aw (dv 0) ae) (aa (aw (dv 1) ae) ab))))) aI) (aj (az (ak (lA T).m hr (aa (aw (dv 0) ae) (aa (aw (dv 1) ae) ab)))))),fun _ _ M Q h=>?_⟩;obtain⟨a,b,c,d,rfl,rfl,h1,h2,h3,h4,k⟩:=h;refine⟨_,rfl,_,rfl,_,rfl,_,rfl,_,_,Pd.of rfl,Pd.of rfl,rfl,rfl,?_⟩;rw[Ma.qo];refine⟨_,rfl,?_⟩;refine bD (fun h=>?_) (fun h=>?_)
 ·have e:a=c:=by simpa using h
  subst e;refine⟨_,rfl,_,rfl,_,rfl,_,rfl,b,d,rfl,rfl,h2,h4,?_⟩
  have z:(a<a\/a=a/\b<d)↔b<d:=by
   have:=Rat.lt_irrefl (a:=a)
   simp[this]
  rw[decide_eq_decide.mpr z]at k;exact rtn k
 ·have e:¬a=c:=by simpa using h
  refine⟨_,rfl,_,rfl,_,rfl,_,rfl,a,c,rfl,rfl,h1,h3,?_⟩;have z:(a<c\/a=c/\b<d)↔a<c:=by simp[e]
  rw[decide_eq_decide.mpr z]at k;exact rtn k
theorem lx:FnScope ["one","other"] ["one","other"] (ao gB):=by walk_at "sc"
inductive Cn_earlier_of(x y:D)(M:MH)(Q:DK):Prop
 |mk (c d g h:Rat) (_:x=Ma.spt c d) (_:y=Ma.spt g h) (_:Ma.Bq 100000 c) (_:Ma.Bq 100000 d) (_:Ma.Bq 100000 g) (_:Ma.Bq 100000 h) (_:∀s:Rat×Rat,s=(if Ma.ah c d g h then(c,d)else(g,h))->Q (Ma.spt s.1 s.2) M)
theorem f9(T:Tx K mg):Cal P w K mg base 3 "earlier_of" (sD2 Cn_earlier_of):=by
 refine aZ (k:=2) T.f_earlier_of lx fun f cdv A outer s H E hr=>⟨_,(aj (az (gY (d8 (ak (cI T).m hr (aa (dv 0) (aa (dv 1) ab)))) (dv 0) (dv 1)))),fun _ _ M Q h=>?_⟩;obtain⟨c,d,g,h',rfl,rfl,h1,h2,h3,h4,k⟩:=h;refine⟨_,rfl,_,rfl,c,d,g,h',rfl,rfl,h1,h2,h3,h4,_,rfl,?_⟩;refine bD (fun h=>?_) (fun h=>?_)
 ·have z:Ma.ah c d g h':=by simpa[Ma.ah]using h
  have:=k (c,d) (by rw[if_pos z]);exact⟨_,rfl,rtn this⟩
 ·have z:¬Ma.ah c d g h':=by simpa[Ma.ah]using h
  have:=k (g,h') (by rw[if_neg z]);exact⟨_,rfl,rtn this⟩
theorem b8:FnScope ["plot","ring","first","face"] ["plot","ring"] (ao fo):=by walk_at "sc"
inductive Cn_first_corner(u v:D)(M:MH)(Q:DK):Prop
 |mk (t b X Y:Int) (ws:List Wl) (p:Addr) (r:List Nat) (_:u=.tup (ws.map (rwl t b X Y))) (_:v=.ref p) (_:M p=some (.lst (r.map fun g:Nat=>D.int (g:Int)))) (_:Scl t b X Y) (_:(∀w∈ws,Un5 w)) (_:ws.length<=40) (_:0<r.length) (_:(∀g∈r,g<2*ws.length)) (_:Q (gsp t b X Y (fc ws r)) M)
theorem jF(T:Tx K mg):Cal P w K mg base 4 "first_corner" (sD2 Cn_first_corner):=by
 refine aZ (k:=3) T.f_first_corner b8 fun f cdv A outer s H E hr=>⟨_,(ag (aA 2 b8.nd (aw (ak (bR T).m hr (aa (dv 0) (aa (aw (dv 1) ae) ab))) ae)) (ag (bH El rfl (aR (dv 1)) (av 3 b8.nd) (aj (aA 2 b8.nd (ak (f9 T).m hr (aa (dv 2) (aa (aw (ak (bR T).m hr (aa (dv 0) (aa (dv 3) ab))) ae) ab)))))) (aj (az (dv 2))))),fun _ _ M Q h=>?_⟩;obtain⟨t,b,X,Y,ws,p,r,rfl,rfl,hp,S,hU,hlen,hpos,hr,k⟩:=h
 obtain⟨g0,r',e0⟩:∃g0 r',r=g0::r':=by
  cases r with
  |nil=>simp at hpos
  |cons a l=>exact⟨a,l,rfl⟩
 have bq:∀{z:Vc},B20 z->Ma.Bq 100000 (Ma.ut t b X 1 z.1)/\Ma.Bq 100000 (Ma.ut t b Y 1 z.2):=fun{z} h=>by
  have one:(0:Int)<1/\(1:Int)<=10^6:=by decide
  exact⟨(S.bx one (by have:=h.1;omega)).mono (by decide),(S.by' one (by have:=h.2;omega)).mono (by decide)⟩
 refine⟨_,rfl,_,rfl,_,_,hp,(show atI _ ((0:Nat):Int)=some (.int (g0:Int))from cF (by rw[e0];rfl)),t,b,X,Y,ws,g0,rfl,rfl,hr g0 (by rw[e0];simp),by omega,_,rfl,?_⟩;refine⟨_,rfl,_,hp,?_⟩;refine⟨fun i δ M'=>M'=M/\∃o3:Option D,δ=[some (.tup (ws.map (rwl t b X Y))),some (.ref p),some (gsp t b X Y (fcI ws r i)),o3],⟨rfl,_,by rw[e0];rfl⟩,fun i δ M' _ z=>by obtain⟨rfl,_⟩:=z;exact hp,?_,?_⟩
 ·rintro i d δ M' hi hd ⟨rfl,o3,rfl⟩;have hi:i<r.length:=by have:i<(r.map fun g:Nat=>D.int (g:Int)).length:=hi;simpa using this
  have hd:(r.map fun g:Nat=>D.int (g:Int))[i]?=some d:=hd;rw[E4,E2 hi]at hd;cases hd;have hg:=hr r[i] (ET hi);have b1:=mv hU hr hpos i (by omega);have b2:=qa hU hg;refine⟨_,rfl,_,rfl,_,rfl,t,b,X,Y,ws,r[i],rfl,rfl,hg,by omega,_,rfl,?_⟩;refine⟨_,_,_,_,rfl,rfl,(bq b1).1,(bq b1).2,(bq b2).1,(bq b2).2,fun s hs=>?_⟩;have hs:=hs.trans (B3 (X:=X) (Y:=Y) S.t0 S.b0 b1 b2);subst hs;exact⟨rfl,_,by rw[oz (E2 hi)];rfl⟩
 ·rintro δ M' ⟨rfl,o3,rfl⟩;have e:fcI ws r (r.map fun g:Nat=>D.int (g:Int)).length=fc ws r:=by rw[D8];rfl
  refine⟨_,rfl,rtn ?_⟩;dsimp only;rw[e];exact k
theorem bT:FnScope ["row","spot","low","high","middle"] ["row","spot"] (ao fM):=by walk_at "sc"
inductive Cn_place_among(x y:D)(M:MH)(Q:DK):Prop
 |mk (l:Addr) (t b X Y:Int) (ps:List Vc) (u:Vc) (_:x=.ref l) (_:y=gsp t b X Y u) (_:M l=some (.lst (ps.map (gsp t b X Y)))) (_:Scl t b X Y) (_:ps.length<=200) (_:(∀p∈ps,B20 p)) (_:B20 u) (_:ps.Pairwise plt) (_:∀j:Nat,j<=ps.length->(∀i,i<j->plt (p0 ps i) u)->(∀i,j<=i->i<ps.length->¬plt (p0 ps i) u)->Q (.int (j:Int)) M)
theorem kZ(T:Tx K mg):Cal P w K mg base 3 "place_among" (sD2 Cn_place_among):=by
 refine aZ (k:=2) T.f_place_among bT fun f cdv A outer s H E hr=>⟨_,(ag (fY 2 3 rfl bT.nd (aa ae (aa (aF cv rfl T.b_len cB (aa (dv 0) ab)) ab))) (ag (gw El (aH (cO hr.units) (dv 2) (dv 3)) (ag (aA 4 bT.nd (ar eG (ar aJ (dv 2) (dv 3)) ae)) (aj (bf (d8 (ak (cI T).m hr (aa (aw (dv 0) (dv 4)) (aa (dv 1) ab)))) (aj (aA 2 bT.nd (ar aJ (dv 4) ae))) (aj (aA 3 bT.nd (dv 4))))))) (aj (az (dv 2))))),fun _ _ M Q h=>?_⟩;obtain⟨l,t,b,X,Y,ps,u,rfl,rfl,hl,S,hn,hb,hu,up,k⟩:=h;have hN:(ps.map (gsp t b X Y)).length=ps.length:=by simp
 refine⟨_,rfl,_,hl,_,_,rfl,?_⟩;refine⟨fun m δ M'=>M'=M/\∃(lo hi:Nat) (o4:Option D),δ=[some (.ref l),some (gsp t b X Y u),some (.int (lo:Int)),some (.int (hi:Int)),o4]/\lo<=hi/\hi<=ps.length/\(∀i,i<lo->plt (p0 ps i) u)/\(∀i,hi<=i->i<ps.length->¬plt (p0 ps i) u)/\m=hi-lo,⟨_,rfl,0,ps.length,_,by rw[hN];rfl,EZ _,E3 _,fun i hi=>by omega,fun i h1 h2=>by omega,rfl⟩,?_⟩;rintro m δ M' ⟨rfl,lo,hi,o4,rfl,h1,h2,a,c,hm⟩;refine⟨_,rfl,_,rfl,trivial,_,rfl,?_⟩;refine bD (fun h=>?_) (fun h=>?_)
 ·have hlt:lo<hi:=by
   have:(lo:Int)<(hi:Int):=by simpa using h
   omega
  have hmid:Int.fdiv ((lo:Int)+(hi:Int)) 2=(((lo+hi)/2:Nat):Int):=by rw[EI _ (by decide)];omega
  have hk:(lo+hi)/2<ps.length:=by omega
  refine⟨_,rfl,_,rfl,⟨by decide,aW (by decide)⟩,?_⟩;dsimp only;rw[hmid];generalize hq:(lo+hi)/2=q at hk ⊢;have em:ps[q]?=some (p0 ps q):=by unfold p0;simp[hk]
  have bq:=hb _ (eo hk);refine⟨_,rfl,_,rfl,_,_,hl,cF (by rw[E4,em];rfl),_,rfl,_,_,_,_,rfl,rfl,(bq.bx S).mono (by decide),(bq.by' S).mono (by decide),(hu.bx S).mono (by decide),(hu.by' S).mono (by decide),_,rfl,?_⟩;have ah:=wg (X:=X) (Y:=Y) S.t0 S.b0 bq hu;refine bD (fun h=>?_) (fun h=>?_)
  ·have z:plt (p0 ps q) u:=ah.mp (by simpa[Ma.ah]using h);refine⟨_,rfl,hi-(q+1),by omega,rfl,q+1,hi,_,rfl,by omega,h2,fun i hi'=>?_,c,rfl⟩;by_cases e:i=q
   ·subst e;exact z
   ·have:=F5.mp up i q (by omega) hk (by omega);have e1:p0 ps i=ps[i]:=by unfold p0;simp[show i<ps.length by omega]
    have e2:p0 ps q=ps[q]:=by unfold p0;simp[hk]
    rw[e2]at z;rw[e1];unfold plt at z this ⊢;omega
  ·have z:¬plt (p0 ps q) u:=fun w=>by
    have:=ah.mpr w
    simp[Ma.ah]at h this
    exact absurd this (by simpa using h)
   refine⟨_,rfl,q-lo,by omega,rfl,lo,q,_,rfl,by omega,by omega,a,fun i h3 h4=>?_,rfl⟩;by_cases e:i=q
   ·subst e;exact z
   ·have:=F5.mp up q i hk (by omega) (by omega);have e1:p0 ps i=ps[i]:=by unfold p0;simp[show i<ps.length by omega]
    have e2:p0 ps q=ps[q]:=by unfold p0;simp[hk]
    rw[e2]at z;rw[e1];unfold plt at z this ⊢;omega
 ·have:lo=hi:=by
   have:¬(lo:Int)<(hi:Int):=by simpa using h
   omega
  subst this;(repeat (first|refine⟨_,rfl,?_⟩|refine⟨trivial,?_⟩|refine⟨_,_,rfl,?_⟩|refine⟨rfl,?_⟩|refine⟨nbL rfl,?_⟩))
  exact rtn (k lo h2 a c)
theorem c9:FnScope ["spots","row","spot"] ["spots"] (ao fJ):=by walk_at "sc"
inductive Cn_ahead_first(x:D)(M:MH)(Q:DK):Prop
 |mk (l:Addr) (t b X Y:Int) (us:List Vc) (_:x=.ref l) (_:M l=some (.lst (us.map (gsp t b X Y)))) (_:Scl t b X Y) (_:us.length<=200) (_:(∀p∈us,B20 p)) (_:us.Nodup) (_:∀(M':MH) (z:Addr) (ps:List Vc),SD.Sub M M'->M z=none->M' z=some (.lst (ps.map (gsp t b X Y)))->ps.Perm us->ps.Pairwise plt->Q (.ref z) M')
theorem kO(T:Tx K mg):Cal P w K mg base 4 "ahead_first" (sD1 Cn_ahead_first):=by
 refine dS (k:=3) T.f_ahead_first c9 fun f cdv A outer s H E hr=>⟨_,(ag (aA 1 c9.nd (bI ab)) (ag (bH El rfl (aR (dv 0)) (av 2 c9.nd) (aj (br (eN (dv 1) (aa (ak (kZ T).m hr (aa (dv 1) (aa (dv 2) ab))) (aa (dv 2) ab)))))) (aj (az (dv 1))))),fun _ M Q h=>?_⟩;obtain⟨l,t,b,X,Y,us,rfl,hl,S,hn,hb,nd,k⟩:=h;refine⟨nbL rfl,fun z hz=>?_⟩;have nlz:l≠z:=au hl hz;refine⟨_,rfl,us.map (gsp t b X Y),(by show(aq M z _) l=_;rw[ai nlz];exact hl),?_⟩;refine⟨fun i δ M'=>∃(ps:List Vc) (o2:Option D),δ=[some (.ref l),some (.ref z),o2]/\SD.Sub M M'/\M' z=some (.lst (ps.map (gsp t b X Y)))/\ps.Perm (us.take i)/\ps.Pairwise plt,⟨[],_,rfl,.new hz .refl,af,by simp,List.Pairwise.nil⟩,fun i δ M' _ q=>let⟨_,_,_,sb,_⟩:=q;sb _ _ hl,?_,?_⟩
 ·rintro i d δ M' hi hd ⟨ps,o2,rfl,sb,hz',pm,up⟩;have hd:(us.map (gsp t b X Y))[i]?=some d:=hd;rw[E4]at hd;cases eu:us[i]? with
  |none=>rw[eu]at hd;cases hd
  |some u=>
   rw[eu]at hd
   cases hd
   have iu:i<us.length:=(Eo.mp eu).1
   have eu':us[i]=u:=(Eo.mp eu).2
   have bu:=hb u (Ej eu)
   have mps:∀p∈ps,p∈us:=fun p hp=>List.mem_of_mem_take (pm.mem_iff.mp hp)
   have bps:∀p∈ps,B20 p:=fun p hp=>hb p (mps p hp)
   have lps:ps.length=i:=by rw[pm.length_eq,Fu];omega
   have nu:u∉ps:=fun hp=>by
    have:=pm.mem_iff.mp hp
    obtain⟨j,hj,ej⟩:=List.getElem_of_mem this
    have hj':j<i:=by rw[Fu]at hj;omega
    rw[List.getElem_take]at ej
    have:=F5.mp nd j i (by omega) iu hj'
    exact this (ej.trans eu'.symm)
   refine⟨_,rfl,z,_,rfl,hz',_,rfl,_,rfl,z,t,b,X,Y,ps,u,rfl,rfl,hz',S,by omega,bps,bu,up,fun j hj a c=>?_⟩
   obtain⟨i1,i2⟩:=AN up hj a fun i h1 h2=>yc (bps _ (eo h2)) bu (fun e=>nu (e▸eo h2)) (c i h1 h2)
   refine⟨_,rfl,_,_,j,rfl,hz',by rw[D8];exact hj,by rw[D8];omega,eJ ps j u,_,rfl,fun a o h=>?_,by rw[af,jx],?_,i1⟩
   ·rw[ai (au h hz)];exact sb _ _ h
   ·rw[Fs,eu];exact i2.trans ((List.Perm.cons u pm).trans (List.perm_append_singleton u (us.take i)).symm)
 ·rintro δ M' ⟨ps,o2,rfl,sb,hz',pm,up⟩;have e:us.take (us.map (gsp t b X Y)).length=us:=by rw[D8,List.take_length]
  exact⟨_,rfl,M',.refl,k M' z ps sb hz hz' (by rw[<-e];exact pm) up⟩
theorem vZ:FnScope ["wall","spot"] ["wall","spot"] (ao rz):=by walk_at "sc"
inductive Cn_spans(u v:D)(M:MH)(Q:DK):Prop
 |mk (n:Nat) (a b c d x y:Rat) (_:u=Ma.wll a b c d) (_:v=Ma.spt x y) (_:Ma.Bq n a) (_:Ma.Bq n b) (_:Ma.Bq n c) (_:Ma.Bq n d) (_:Ma.Bq n x) (_:Ma.Bq n y) (_:n<=100000) (_:Q (.bl (!decide (Ma.ah x y a b)&&decide (Ma.ah x y c d))) M)
theorem xm(T:Tx K mg):Cal P w K mg base 3 "spans" (sD2 Cn_spans):=by
 refine aZ (k:=2) T.f_spans vZ fun f cdv A outer s H E hr=>⟨_,(aj (az (jA (uQ (ak (cI T).m hr (aa (dv 1) (aa (aw (dv 0) ae) ab)))) (l6 (ak (cI T).m hr (aa (dv 1) (aa (aw (dv 0) ae) ab))))))),fun _ _ M Q h=>?_⟩;obtain⟨n,a,b,c,d,x,y,rfl,rfl,ha,hb,hc,hd,hx,hy,hn,k⟩:=h;have mo:∀{q:Rat},Ma.Bq n q->Ma.Bq 100000 q:=fun z=>z.mono hn;(try dsimp only[SD.eW,SD.cZ,SD.bF,SD.fN,SD.eU,SD.dq,SD.dH,SD.tBD,SD.fR])
 exact vb (!decide (Ma.ah x y a b)) (decide (Ma.ah x y c d)) (fun K hK=>⟨_,rfl,_,rfl,_,rfl,x,y,a,b,rfl,rfl,mo hx,mo hy,mo ha,mo hb,_,rfl,hK⟩) (fun _ K hK=>⟨_,rfl,_,rfl,_,rfl,x,y,c,d,rfl,rfl,mo hx,mo hy,mo hc,mo hd,hK⟩) (rtn k)
theorem n4:FnScope ["one","other"] ["one","other"] (ao jm):=by walk_at "sc"
inductive Cn_later_of(x y:D)(M:MH)(Q:DK):Prop
 |mk (a b e f:Rat) (_:x=Ma.spt a b) (_:y=Ma.spt e f) (_:Ma.Bq 100000 a) (_:Ma.Bq 100000 b) (_:Ma.Bq 100000 e) (_:Ma.Bq 100000 f) (_:∀s:Rat×Rat,s=(if Ma.ah e f a b then(a,b)else(e,f))->Q (Ma.spt s.1 s.2) M)
theorem oJ(T:Tx K mg):Cal P w K mg base 3 "later_of" (sD2 Cn_later_of):=by
 refine aZ (k:=2) T.f_later_of n4 fun f cdv A outer s H E hr=>⟨_,(aj (az (gY (d8 (ak (cI T).m hr (aa (dv 1) (aa (dv 0) ab)))) (dv 0) (dv 1)))),fun _ _ M Q h=>?_⟩;obtain⟨a,b,e,f,rfl,rfl,h1,h2,h3,h4,k⟩:=h;refine⟨_,rfl,_,rfl,e,f,a,b,rfl,rfl,h3,h4,h1,h2,_,rfl,?_⟩;refine bD (fun h=>?_) (fun h=>?_)
 ·have z:Ma.ah e f a b:=by simpa[Ma.ah]using h
  have:=k (a,b) (by rw[if_pos z]);exact⟨_,rfl,rtn this⟩
 ·have z:¬Ma.ah e f a b:=by simpa[Ma.ah]using h
  have:=k (e,f) (by rw[if_neg z]);exact⟨_,rfl,rtn this⟩
theorem dr:FnScope ["one","other","start","end","place","deciding"] ["one","other"] (ao jG):=by walk_at "sc"
inductive Cn_is_above(u v:D)(M:MH)(Q:DK):Prop
 |mk (t b X Y:Int) (U V:Wl) (_:u=rwl t b X Y U) (_:v=rwl t b X Y V) (_:Scl t b X Y) (_:Un5 U) (_:Un5 V) (_:Q (.bl (abv U V)) M)
theorem oS(T:Tx K mg):Cal P w K mg base 4 "is_above" (sD2 Cn_is_above):=by
 refine aZ (k:=3) T.f_is_above dr fun f cdv A outer s H E hr=>⟨_,(ag (fY 2 3 rfl dr.nd (aa (ak (oJ T).m hr (aa (aw (dv 0) ae) (aa (aw (dv 1) ae) ab))) (aa (ak (f9 T).m hr (aa (aw (dv 0) ae) (aa (aw (dv 1) ae) ab))) ab))) (ag (bf (wy (d8 (ak (cI T).m hr (aa (dv 2) (aa (dv 3) ab))))) (aj (az lQ)) aI) (ag (cf (gY (aH (b5 hr.units) (aw (dv 0) ae) (aw (dv 1) ae)) (aB (aa ae (aa (dv 3) ab))) (aB (aa ae (aa (dv 2) ab)))) (bA rfl (ay (av 4 dr.nd) (ay (av 5 dr.nd) aT)))) (ag (bf (aH (b5 hr.units) (dv 5) (aw (dv 0) (dv 4))) (aj (az (cu (b5 hr.units) (ak (cX T).m hr (aa (dv 1) (aa (dv 5) ab))) ae))) aI) (aj (az (cu (b5 hr.units) (ak (cX T).m hr (aa (dv 0) (aa (dv 5) ab))) (nL gc ae)))))))),fun _ _ M Q h=>?_⟩;obtain⟨t,b,X,Y,U,V,rfl,rfl,S,HU,HV,k⟩:=h;have T0:=S.t0;have B0:=S.b0;have one:(0:Int)<1/\(1:Int)<=10^6:=by decide
 have W6:∀{z:Int},(0<=z/\z<=20)->(-(10^6)<=z/\z<=10^6):=fun{z} h=>by omega
 have bx:∀{z:Int},(0<=z/\z<=20)->Ma.Bq 200 (Ma.ut t b X 1 z):=fun{z} h=>S.bx one (W6 h);have by':∀{z:Int},(0<=z/\z<=20)->Ma.Bq 200 (Ma.ut t b Y 1 z):=fun{z} h=>S.by' one (W6 h)
 have mo:∀{q:Rat},Ma.Bq 200 q->Ma.Bq 100000 q:=fun z=>z.mono (by decide)
 have late:∃sx sy:Int,(if Ma.ah (Ma.ut t b X 1 V.1) (Ma.ut t b Y 1 V.2.1) (Ma.ut t b X 1 U.1) (Ma.ut t b Y 1 U.2.1)then(Ma.ut t b X 1 U.1,Ma.ut t b Y 1 U.2.1)else(Ma.ut t b X 1 V.1,Ma.ut t b Y 1 V.2.1))=(Ma.ut t b X 1 sx,Ma.ut t b Y 1 sy)/\(0<=sx/\sx<=20)/\(0<=sy/\sy<=20)/\la sx sy=max (l1 U) (l1 V)/\((l1 V<l1 U/\sx=U.1/\sy=U.2.1)\/(¬l1 V<l1 U/\sx=V.1/\sy=V.2.1)):=by
  have z:=md (X:=X) (Y:=Y) (p:=V.1) (q:=V.2.1) (e:=U.1) (f:=U.2.1) T0 B0 HV.b HU.b
  by_cases y:la V.1 V.2.1<la U.1 U.2.1
  ·exact⟨U.1,U.2.1,by rw[if_pos (z.mpr y)],HU.a,HU.b,by unfold l1;omega,.inl ⟨y,rfl,rfl⟩⟩
  ·exact⟨V.1,V.2.1,by rw[if_neg (fun q=>y (z.mp q))],HV.a,HV.b,by unfold l1;omega,.inr ⟨y,rfl,rfl⟩⟩
 have early:∃ex ey:Int,(if Ma.ah (Ma.ut t b X 1 U.2.2.1) (Ma.ut t b Y 1 U.2.2.2) (Ma.ut t b X 1 V.2.2.1) (Ma.ut t b Y 1 V.2.2.2)then(Ma.ut t b X 1 U.2.2.1,Ma.ut t b Y 1 U.2.2.2)else(Ma.ut t b X 1 V.2.2.1,Ma.ut t b Y 1 V.2.2.2))=(Ma.ut t b X 1 ex,Ma.ut t b Y 1 ey)/\(0<=ex/\ex<=20)/\(0<=ey/\ey<=20)/\la ex ey=min (l2 U) (l2 V)/\((l2 U<l2 V/\ex=U.2.2.1/\ey=U.2.2.2)\/(¬l2 U<l2 V/\ex=V.2.2.1/\ey=V.2.2.2)):=by
  have z:=md (X:=X) (Y:=Y) (p:=U.2.2.1) (q:=U.2.2.2) (e:=V.2.2.1) (f:=V.2.2.2) T0 B0 HU.d HV.d
  by_cases y:la U.2.2.1 U.2.2.2<la V.2.2.1 V.2.2.2
  ·exact⟨U.2.2.1,U.2.2.2,by rw[if_pos (z.mpr y)],HU.c,HU.d,by unfold l2;omega,.inl ⟨y,rfl,rfl⟩⟩
  ·exact⟨V.2.2.1,V.2.2.2,by rw[if_neg (fun q=>y (z.mp q))],HV.c,HV.d,by unfold l2;omega,.inr ⟨y,rfl,rfl⟩⟩
 obtain⟨sx,sy,es,hsx,hsy,ls,cs⟩:=late;obtain⟨ex,ey,ee,hex,hey,le,ce⟩:=early;refine⟨_,rfl,_,rfl,_,rfl,_,rfl,_,_,_,_,rfl,rfl,mo (bx HU.a),mo (by' HU.b),mo (bx HV.a),mo (by' HV.b),fun s1 hs1=>?_⟩;rw[es]at hs1;subst hs1;refine⟨_,rfl,_,rfl,_,rfl,_,rfl,_,_,_,_,rfl,rfl,mo (bx HU.c),mo (by' HU.d),mo (bx HV.c),mo (by' HV.d),fun s2 hs2=>?_⟩;rw[ee]at hs2;subst hs2;refine⟨_,_,rfl,?_⟩;refine⟨_,rfl,_,rfl,Ma.ut t b X 1 sx,Ma.ut t b Y 1 sy,Ma.ut t b X 1 ex,Ma.ut t b Y 1 ey,rfl,rfl,mo (bx hsx),mo (by' hsy),mo (bx hex),mo (by' hey),_,rfl,?_⟩;have dal:=md (X:=X) (Y:=Y) (p:=sx) (q:=sy) (e:=ex) (f:=ey) T0 B0 hsy hey;rw[ls,le]at dal;refine bD (fun h=>?_) (fun h=>?_)
 ·have ap:¬(max (l1 U) (l1 V)<min (l2 U) (l2 V)):=fun z=>by
   have z':=dal.mpr z
   unfold Ma.ah at z'
   simp[z']at h
  have e:abv U V=false:=by unfold abv;rw[if_neg ap]
  rw[e]at k;exact rtn k
 have ap:max (l1 U) (l1 V)<min (l2 U) (l2 V):=dal.mp (Decidable.byContradiction fun z=>h ((Bool.not_eq_true' _).mpr (decide_eq_false z)));dsimp only[SD.dq];refine cA (fun δ M'=>M'=M/\∃(pl dx dy px py:Int) (o2 o3:Option D),δ=[some (rwl t b X Y U),some (rwl t b X Y V),o2,o3,some (.int pl),some (Ma.spt (Ma.ut t b X 1 dx) (Ma.ut t b Y 1 dy))]/\atI [Ma.spt (Ma.ut t b X 1 U.1) (Ma.ut t b Y 1 U.2.1),Ma.spt (Ma.ut t b X 1 U.2.2.1) (Ma.ut t b Y 1 U.2.2.2)] pl=some (Ma.spt (Ma.ut t b X 1 px) (Ma.ut t b Y 1 py))/\(0<=dx/\dx<=20)/\(0<=dy/\dy<=20)/\(0<=py/\py<=20)/\(la dx dy=la px py->decide (0<sd V dx dy)=abv U V)/\(la dx dy≠la px py->decide (sd U dx dy<0)=abv U V)) ?_ (fun hu=>?_);rotate_left
 ·refine⟨_,rfl,_,rfl,_,rfl,_,rfl,_,_,Pd.of rfl,Pd.of rfl,rfl,rfl,?_⟩;rw[Ma.iW];refine⟨_,rfl,?_⟩;have q1:=gH (X:=X) (Y:=Y) (p:=U.1) (q:=U.2.1) (e:=V.1) (f:=V.2.1) T0 B0 HU.b HV.b;refine bD (fun h=>?_) (fun h=>?_)
  ·have e1:l1 U=l1 V:=q1.mp (by simpa using h);refine⟨_,rfl,nbL rfl,?_⟩;refine⟨_,rfl,rfl,_,_,rfl,_,_,rfl,rfl,?_⟩;refine hu _ _ ⟨rfl,1,ex,ey,U.2.2.1,U.2.2.2,_,_,rfl,rfl,hex,hey,HU.d,fun z=>?_,fun z=>?_⟩
   ·rcases ce with⟨z1,rfl,rfl⟩|⟨z1,rfl,rfl⟩
    ·unfold abv;rw[if_pos ap,if_pos e1,if_pos z1];rfl
    ·have y1:sd2 U V=0:=nD HU HV z.symm;have y2:sd V V.2.2.1 V.2.2.2=0:=nD HV HV rfl;unfold abv;rw[if_pos ap,if_pos e1,if_neg z1,y1,y2]
   ·rcases ce with⟨z1,rfl,rfl⟩|⟨z1,rfl,rfl⟩
    ·exact absurd rfl z
    ·unfold abv;rw[if_pos ap,if_pos e1,if_neg z1];rfl
  ·have e1:¬l1 U=l1 V:=fun z=>h (by simpa using q1.mpr z);refine⟨_,rfl,nbL rfl,?_⟩;refine⟨_,rfl,rfl,_,_,rfl,_,_,rfl,rfl,?_⟩;refine hu _ _ ⟨rfl,0,sx,sy,U.1,U.2.1,_,_,rfl,rfl,hsx,hsy,HU.b,fun z=>?_,fun z=>?_⟩
   ·rcases cs with⟨z1,rfl,rfl⟩|⟨z1,rfl,rfl⟩
    ·unfold abv;rw[if_pos ap,if_neg e1,if_pos z1];rfl
    ·exact absurd z.symm e1
   ·rcases cs with⟨z1,rfl,rfl⟩|⟨z1,rfl,rfl⟩
    ·exact absurd rfl z
    ·unfold abv;rw[if_pos ap,if_neg e1,if_neg z1];rfl
 rintro δ M' ⟨rfl,pl,dx,dy,px,py,o2,o3,rfl,epl,hdx,hdy,hpy,c1,c2⟩;refine⟨_,rfl,_,rfl,_,rfl,_,epl,_,_,Pd.of rfl,Pd.of rfl,rfl,rfl,?_⟩;rw[Ma.iW];have q2:=gH (X:=X) (Y:=Y) (p:=dx) (q:=dy) (e:=px) (f:=py) T0 B0 hdy hpy;refine⟨_,rfl,?_⟩;refine bD (fun h=>?_) (fun h=>?_)
 ·have z:la dx dy=la px py:=q2.mp (by simpa using h);refine⟨_,rfl,_,rfl,200,_,_,_,_,_,_,rfl,rfl,bx HV.a,by' HV.b,bx HV.c,by' HV.d,bx hdx,by' hdy,by decide,?_⟩;rw[gO T0 B0];have e:decide (En (sd V dx dy)=1)=abv U V:=by rw[<-c1 z,decide_eq_decide];exact sg1 _
  show Ret Q (.bl (decide _)) _;rw[e];exact rtn k
 ·have z:la dx dy≠la px py:=fun q=>h (by simpa using q2.mpr q);refine⟨_,rfl,_,rfl,200,_,_,_,_,_,_,rfl,rfl,bx HU.a,by' HU.b,bx HU.c,by' HU.d,bx hdx,by' hdy,by decide,?_⟩;rw[gO T0 B0];have e:decide (En (sd U dx dy)=-1)=abv U V:=by rw[<-c2 z,decide_eq_decide];exact Dk _
  show Ret Q (.bl (decide _)) _;rw[e];exact rtn k
theorem fm:FnScope ["top","bottom","divisor"] ["top","bottom"] (ao jf):=by walk_at "sc"
inductive Cn_fraction(x y:D)(M:MH)(Q:DK):Prop
 |mk (t:_) (b:_) (_:x=.int t) (_:y=.int b) (_:b≠0) (_:Bd 8000 t) (_:Bd 8000 b) (_:Q (Ma.fr (Rat.divInt t b)) M)
theorem jS(T:Tx K mg):Cal P w K mg base 2 "fraction" (sD2 Cn_fraction):=by
 refine aZ (k:=1) T.f_fraction fm fun f cdv A outer s H E hr=>⟨_,(ag (bf (aH (b5 hr.units) (dv 1) ae) (aj uk) aI) (ag (aA 2 fm.nd (ak (dh T).m hr (aa (aF qc rfl T.b_abs oK (aa (dv 0) ab)) (aa (aF qc rfl T.b_abs oK (aa (dv 1) ab)) ab)))) (ag (bf (aH (cO hr.units) (dv 1) ae) (aj (aA 2 fm.nd (nL gc (dv 2)))) aI) (aj (az (aB (aa (ar eG (dv 0) (dv 2)) (aa (ar eG (dv 1) (dv 2)) ab)))))))),fun _ _ M Q h=>?_⟩;obtain⟨t,b,rfl,rfl,hb,ht,hbb,q⟩:=h;have hg:=Ma.dR (t:=t) hb;have hgd:Bd 8000 ((Gq t.natAbs b.natAbs:Nat):Int):=hbb.of_le (by simpa using Nat.gcd_le_right t.natAbs (show 0<b.natAbs by omega));refine⟨_,rfl,_,rfl,sf (decide_eq_false hb) ?_⟩;refine⟨_,rfl,_,rfl,t.natAbs,b.natAbs,rfl,rfl,?_⟩;refine⟨_,rfl,trivial,_,rfl,?_⟩;refine bD (fun h=>?_) (fun h=>?_)
 ·have hneg:b<0:=by simpa using h
  obtain⟨e1,e2⟩:=Ma.wM (t:=t) hneg;refine⟨_,rfl,_,rfl,_,rfl,⟨by omega,hgd.neg⟩,_,rfl,_,rfl,⟨by omega,hgd.neg⟩,nbL rfl,?_⟩;dsimp only;rw[e1,e2];exact rtn q
 ·have hpos:0<b:=by
   have:¬b<0:=by simpa using h
   omega
  obtain⟨e1,e2⟩:=Ma.qJ (t:=t) hpos;refine⟨_,rfl,_,rfl,⟨by omega,hgd⟩,_,rfl,_,rfl,⟨by omega,hgd⟩,nbL rfl,?_⟩;dsimp only;rw[e1,e2];exact rtn q
theorem e7:FnScope ["spot","x","y"] ["spot"] (ao jW):=by walk_at "sc"
inductive Cn_own_spot(x:D)(M:MH)(Q:DK):Prop
 |mk (a b:Rat) (_:x=Ma.spt a b) (_:Ma.Bq 8000 a) (_:Ma.Bq 8000 b) (_:Q (Ma.spt a b) M)
theorem jv(T:Tx K mg):Cal P w K mg base 3 "own_spot" (sD1 Cn_own_spot):=by refine dS (k:=2) T.f_own_spot e7 fun f cdv A outer s H E hr=>⟨_,(ag (cf (dv 0) (bA rfl (ay (av 1 e7.nd) (ay (av 2 e7.nd) aT)))) (aj (az (aB (aa (ak (jS T).m hr (aa (aw (dv 1) ae) (aa (aw (dv 1) ae) ab))) (aa (ak (jS T).m hr (aa (aw (dv 2) ae) (aa (aw (dv 2) ae) ab))) ab)))))),fun _ M Q h=>?_⟩;obtain⟨a,b,rfl,h1,h2,k⟩:=h;refine⟨_,rfl,_,rfl,rfl,_,_,rfl,_,_,rfl,rfl,?_⟩;refine⟨_,rfl,_,rfl,_,rfl,_,rfl,a.num,(a.den:Int),rfl,rfl,Ma.fV a,h1.1,h1.2,?_⟩;refine⟨_,rfl,_,rfl,_,rfl,_,rfl,b.num,(b.den:Int),rfl,rfl,Ma.fV b,h2.1,h2.2,nbL rfl,?_⟩;rw[Rat.num_divInt_den,Rat.num_divInt_den];exact rtn k
theorem nY:FnScope ["wall"] ["wall"] (ao jH):=by walk_at "sc"
inductive Cn_own_wall(x:D)(M:MH)(Q:DK):Prop
 |mk (a b c d:Rat) (_:x=Ma.wll a b c d) (_:Ma.Bq 8000 a) (_:Ma.Bq 8000 b) (_:Ma.Bq 8000 c) (_:Ma.Bq 8000 d) (_:Q (Ma.wll a b c d) M)
theorem qp(T:Tx K mg):Cal P w K mg base 4 "own_wall" (sD1 Cn_own_wall):=by refine dS (k:=3) T.f_own_wall nY fun f cdv A outer s H E hr=>⟨_,(aj (az (aB (aa (ak (jv T).m hr (aa (aw (dv 0) ae) ab)) (aa (ak (jv T).m hr (aa (aw (dv 0) ae) ab)) ab))))),fun _ M Q h=>?_⟩;obtain⟨a,b,c,d,rfl,h1,h2,h3,h4,k⟩:=h;exact⟨_,rfl,_,rfl,a,b,rfl,h1,h2,_,rfl,_,rfl,c,d,rfl,h3,h4,nbL rfl,rtn k⟩
theorem du:FnScope ["walls","upper","wall"] ["walls"] (ao jL):=by walk_at "sc"
inductive Cn_upper_of(u:D)(M:MH)(Q:DK):Prop
 |mk (a:Addr) (t b X Y:Int) (us:List Wl) (top:Wl) (_:u=.ref a) (_:M a=some (.lst (us.map (rwl t b X Y)))) (_:Scl t b X Y) (_:(∀w∈us,Un5 w)) (_:top∈us) (_:(∀w∈us,w=top\/(abv top w=true/\abv w top=false))) (_:Q (rwl t b X Y top) M)
theorem pP(T:Tx K mg):Cal P w K mg base 5 "upper_of" (sD1 Cn_upper_of):=by
 refine dS (k:=4) T.f_upper_of du fun f cdv A outer s H E hr=>⟨_,(ag (aA 1 du.nd (aw (dv 0) ae)) (ag (bH El rfl (aR (dv 0)) (av 2 du.nd) (aj (bf (d8 (ak (oS T).m hr (aa (dv 2) (aa (dv 1) ab)))) (aj (aA 1 du.nd (dv 2))) aI))) (aj (az (ak (qp T).m hr (aa (dv 1) ab)))))),fun _ M Q h=>?_⟩;obtain⟨a,t,b,X,Y,us,top,rfl,ha,S,hU,ht,hT,k⟩:=h;cases us with
 |nil=>cases ht
 |cons u0 us=>
  refine⟨_,rfl,_,_,ha,cF (j:=0) (v:=rwl t b X Y u0) rfl,?_⟩
  refine⟨_,rfl,(u0::us).map (rwl t b X Y),ha,?_⟩
  refine⟨fun i δ M'=>M'=M/\∃up o2,δ=[some (.ref a),some (rwl t b X Y up),o2]/\up∈u0::us/\(top∈(u0::us).take i->up=top),⟨rfl,u0,_,rfl,by simp,fun z=>by simp at z⟩,fun i δ M' _ z=>by obtain⟨rfl,_⟩:=z;exact ha,?_,?_⟩
  ·rintro i d δ M' hi hd ⟨rfl,up,o2,rfl,hup,imp⟩;have hd:((u0::us).map (rwl t b X Y))[i]?=some d:=hd;rw[E4]at hd;cases ew:(u0::us)[i]? with
   |none=>rw[ew]at hd;cases hd
   |some w=>
    rw[ew]at hd
    cases hd
    have hw:w∈u0::us:=Ej ew
    have tk:∀z,z∈(u0::us).take (i+1)->z∈(u0::us).take i\/z=w:=fun z hz=>by rw[Fs,ew]at hz;simpa using hz
    refine⟨_,rfl,_,rfl,t,b,X,Y,w,up,rfl,rfl,S,hU w hw,hU up hup,_,rfl,?_⟩
    refine bD (fun h=>?_) (fun h=>?_)
    ·refine⟨_,rfl,rfl,w,_,rfl,hw,fun z=>?_⟩;rcases tk _ z with z|z
     ·have:=imp z;subst this;rcases hT w hw with q|q
      ·exact q
      ·rw[q.2]at h;cases h
     ·exact z.symm
    ·refine⟨rfl,up,_,rfl,hup,fun z=>?_⟩;rcases tk _ z with z|z
     ·exact imp z
     ·subst z;rcases hT up hup with q|q
      ·exact q
      ·exact absurd q.1 h
  ·rintro δ M' ⟨rfl,up,o2,rfl,hup,imp⟩;have e:up=top:=imp (by show top∈(u0::us).take ((u0::us).map (rwl t b X Y)).length;rw[F9 (by simp)];exact ht);subst e;have W:=hU up hup;have one:(0:Int)<1/\(1:Int)<=10^6:=by decide
   have W6:∀{z:Int},(0<=z/\z<=20)->(-(10^6)<=z/\z<=10^6):=fun{z} h=>by omega
   have bx:∀{z:Int},(0<=z/\z<=20)->Ma.Bq 8000 (Ma.ut t b X 1 z):=fun{z} h=>(S.bx one (W6 h)).mono (by decide);have by':∀{z:Int},(0<=z/\z<=20)->Ma.Bq 8000 (Ma.ut t b Y 1 z):=fun{z} h=>(S.by' one (W6 h)).mono (by decide)
   exact⟨_,rfl,_,_,_,_,rfl,bx W.a,by' W.b,bx W.c,by' W.d,rtn k⟩
theorem fj:FnScope ["walls","spot","below"] ["walls","spot"] (ao fP):=by walk_at "sc"
inductive Cn_upper_below(u v:D)(M:MH)(Q:DK):Prop
 |mk (t b X Y p q m:Int) (ws:List Wl) (_:u=.tup (ws.map (rwl t b X Y))) (_:v=Ma.spt (Ma.ut t b X m p) (Ma.ut t b Y m q)) (_:Scl t b X Y) (_:(∀w∈ws,Un5 w)) (_:ws.length<=40) (_:(-1000<=p/\p<=1000)) (_:(-10<=q/\q<=85)) (_:(0<m/\m<=4)) (_:(bK ws m p q=[]->Q .non M)) (_:(∀tt∈bK ws m p q,(∀w∈(bK ws m p q).map (wAt ws),w=wAt ws tt\/(abv (wAt ws tt) w=true/\abv w (wAt ws tt)=false))->Q (rwl t b X Y (wAt ws tt)) M)) (_:(bK ws m p q≠[]->∃tt∈bK ws m p q,∀w∈(bK ws m p q).map (wAt ws),w=wAt ws tt\/(abv (wAt ws tt) w=true/\abv w (wAt ws tt)=false)))
theorem k8(T:Tx K mg):Cal P w K mg base 6 "upper_below" (sD2 Cn_upper_below):=by
 refine aZ (k:=5) T.f_upper_below fj fun f cdv A outer s H E hr=>⟨_,(ag (dm 2 fj.nd (CScope.of (xs:=["wall"]) (js:=[1]) rfl) rfl (aR (dv 0)) (fun _ _ _ _=>(mx (oZ (jZ (d8 (ak (xm T).m hr (aa (dv 0) (aa (dv 1) ab)))) (gb (aH (b5 hr.units) (ak (cX T).m hr (aa (dv 0) (aa (dv 1) ab))) ae)))))) (fun _ _ _ _=>(dv 0))) (aj (az (gY (zL (dv 2)) (ak (pP T).m hr (aa (dv 2) ab)) uE)))),fun _ _ M Q h=>?_⟩;obtain⟨t,b,X,Y,p,q,m,ws,rfl,rfl,S,hU,hlen,hp,hq,hm,k0,k1,ex⟩:=h;have hwl:(ws.map (rwl t b X Y)).length=ws.length:=by simp
 have one:(0:Int)<1/\(1:Int)<=10^6:=by decide
 have hm6:(0:Int)<m/\m<=10^6:=by omega
 have W6:∀{z:Int},(0<=z/\z<=20)->(-(10^6)<=z/\z<=10^6):=fun{z} h=>by omega
 have bx:∀{z:Int},(0<=z/\z<=20)->Ma.Bq 200 (Ma.ut t b X 1 z):=fun{z} h=>S.bx one (W6 h);have by':∀{z:Int},(0<=z/\z<=20)->Ma.Bq 200 (Ma.ut t b Y 1 z):=fun{z} h=>S.by' one (W6 h)
 have bp:Ma.Bq 200 (Ma.ut t b X m p):=S.bx hm6 (by omega);have bq:Ma.Bq 200 (Ma.ut t b Y m q):=S.by' hm6 (by omega);refine⟨_,rfl,ws.map (rwl t b X Y),rfl,xk (fun j=>if bB ws m p q j=true then some (rwl t b X Y (wAt ws (j:Int)))else none) (by show(ws.map (rwl t b X Y)).length<=1000000;rw[hwl];omega) (fun _ _ _=>rfl) ?_ (fun lb hlb=>?_)⟩
 ·intro a d M6 ha hd sb;have hd:(ws.map (rwl t b X Y))[a]?=some d:=hd;have ha:a<ws.length:=by have:a<(ws.map (rwl t b X Y)).length:=ha;omega
  obtain⟨w1,w2,w3⟩:=bQ (ws:=ws) (k:=(a:Int)) (by omega) (by omega);have w1':ws[a]?=some (wAt ws (a:Int)):=by simpa using w1
  rw[E4,w1']at hd;cases hd;have W:=hU _ w3
  have s1:(!decide (Ma.ah (Ma.ut t b X m p) (Ma.ut t b Y m q) (Ma.ut t b X 1 (wAt ws (a:Int)).1) (Ma.ut t b Y 1 (wAt ws (a:Int)).2.1))&&decide (Ma.ah (Ma.ut t b X m p) (Ma.ut t b Y m q) (Ma.ut t b X 1 (wAt ws (a:Int)).2.2.1) (Ma.ut t b Y 1 (wAt ws (a:Int)).2.2.2)))=spB ws m (la p q) a:=by
   unfold spB;rw[decide_eq_decide.mpr (uP S.t0 S.b0 hm hq W.b),decide_eq_decide.mpr (uP S.t0 S.b0 hm hq W.d),<-decide_not]
   congr 1
   rw[decide_eq_decide];unfold l1;omega
  refine⟨_,rfl,fun K hK=>?_,fun v hv K hK=>?_⟩
  ·have hK':K (bB ws m p q a) M6:=by cases z:bB ws m p q a<;>rw[z]at hK<;>exact hK
   unfold bB at hK';refine uq (spB ws m (la p q) a) (decide (En (sd (uby m (wAt ws (a:Int))) p q)=1)) (fun K' hK2=>⟨_,rfl,_,rfl,200,_,_,_,_,_,_,rfl,rfl,bx W.a,by' W.b,bx W.c,by' W.d,bp,bq,by decide,?_⟩) (fun _ K' hK2=>⟨_,rfl,_,rfl,200,_,_,_,_,_,_,rfl,rfl,bx W.a,by' W.b,bx W.c,by' W.d,bp,bq,by decide,_,rfl,?_⟩) hK'
   ·rw[s1];exact⟨_,rfl,hK2⟩
   ·rw[xU S.t0 S.b0 hm.1];exact hK2
  ·cases z:bB ws m p q a with
   |false=>rw[z]at hv;cases hv
   |true=>
    rw[z]at hv
    cases hv
    exact⟨_,rfl,hK _ .refl⟩
 dsimp only;rw[tU];refine⟨_,rfl,lb,_,rfl,af,?_⟩;by_cases he:bK ws m p q=[]
 ·rw[he];exact sf rfl ⟨_,.new hlb .refl,k0 he⟩
 ·obtain⟨tt,htt,htop⟩:=ex he
  refine wD (by
   cases z:bK ws m p q with
   |nil=>exact absurd z he
   |cons a l=>rfl) ?_
  have bnd:∀k∈bK ws m p q,0<=k/\k<ws.length:=fun k hk=>⟨(fG (fX hk)).1,(fG (fX hk)).2.1⟩;refine⟨_,rfl,lb,t,b,X,Y,(bK ws m p q).map (wAt ws),wAt ws tt,rfl,af,S,fun w hw=>?_,EJ.mpr ⟨tt,htt,rfl⟩,htop,⟨_,.new hlb .refl,k1 tt htt htop⟩⟩;obtain⟨kk,hk,rfl⟩:=EJ.mp hw;exact hU _ (bQ (bnd kk hk).1 (bnd kk hk).2).2.2
theorem fQ:FnScope ["plot","lands","corner","wall"] ["plot","lands","corner"] (ao gj):=by walk_at "sc"
inductive Cn_land_about(u v x:D)(M:MH)(Q:DK):Prop
 |mk (t b X Y:Int) (ws:List Wl) (l:Addr) (L:List Int) (c:Vc) (_:u=.tup (ws.map (rwl t b X Y))) (_:v=.ref l) (_:x=gsp t b X Y c) (_:M l=some (.lst (L.map D.int))) (_:L.length=2*ws.length) (_:Scl t b X Y) (_:(∀w∈ws,Un5 w)) (_:PF ws) (_:ws.length<=40) (_:B20 c) (_:Q (.int (laF ws L c)) M)
theorem l7(T:Tx K mg):Cal P w K mg base 7 "land_about" (sD3 Cn_land_about):=by
 refine oB (k:=6) T.f_land_about fQ fun f cdv A outer s H E hr=>⟨_,(ag (aA 3 fQ.nd (ak (k8 T).m hr (aa (dv 0) (aa (dv 2) ab)))) (aj (az (gY (aH B1 (dv 3) uE) ae (aw (dv 1) (ar aD ae (pf (iQ hr) (dv 0) (aa (dv 3) ab)))))))),fun _ _ _ M Q h=>?_⟩;obtain⟨t,b,X,Y,ws,l,L,c,rfl,rfl,rfl,hl,hL,S,hU,hF,hlen,hc,k⟩:=h;have ex:bK ws 1 c.1 c.2≠[]->∃tt∈bK ws 1 c.1 c.2,∀w∈(bK ws 1 c.1 c.2).map (wAt ws),w=wAt ws tt\/(abv (wAt ws tt) w=true/\abv w (wAt ws tt)=false):=fun hn=>by obtain⟨tt,h1,h2,_⟩:=tW hU hF (show(0:Int)<1 by decide) (fun k hk=>fX hk) hn (nQ _ _ _ _);exact⟨tt,h1,h2⟩
 have c1:=hc.1;have c2:=hc.2;refine⟨_,rfl,_,rfl,t,b,X,Y,c.1,c.2,1,ws,rfl,rfl,S,hU,hlen,by omega,by omega,by decide,(fun he=>?_),(fun tt htt htop=>?_),ex⟩
 ·have k:Q (.int 0) M:=by unfold laF at k;rw[if_pos he]at k;exact k
  exact⟨_,rfl,_,rfl,_,rfl,wD rfl (rtn k)⟩
 ·have sp:=fG (fX htt);obtain⟨w1,w2,w3⟩:=bQ sp.1 sp.2.1;have tn:tt.toNat<ws.length:=by omega
  have k:Q (.int ((L[2*tt.toNat]?).getD 0)) M:=by unfold laF at k;rw[if_neg (List.ne_nil_of_mem htt),xl hU hF htt htop]at k;exact k
  have h2:2*tt.toNat<L.length:=by omega
  rw[E2 h2]at k;refine⟨_,rfl,_,rfl,_,rfl,sf rfl ?_⟩;refine⟨_,rfl,_,rfl,_,rfl,_,rfl,_,rwP t b X Y (wAt ws tt),tt.toNat,rfl,(by simp;omega),Pd.of rfl,rfl,fun i y hi hy=>?_,?_⟩
  ·rw[E4]at hy;cases ei:ws[i]? with
   |none=>rw[ei]at hy;cases hy
   |some U=>
    rw[ei]at hy
    cases hy
    refine⟨rwP t b X Y U,Pd.of rfl,rfl,?_⟩
    by_cases e:i=tt.toNat
    ·subst e;rw[w1]at ei;cases ei;rw[vH,decide_eq_true rfl]
    ·rw[decide_eq_false e];exact zO S.t0 S.b0 (hU _ (Ej ei)) (hU _ w3) (hF i tt.toNat _ _ e ei w1).ne
  ·refine⟨aG (aW (by decide)),_,_,hl,(by rw[show(2:Int)*((tt.toNat:Nat):Int)=((2*tt.toNat:Nat):Int) by omega];exact cF (v:=D.int L[2*tt.toNat]) (by rw[E4,E2 h2];rfl)),rtn k⟩
theorem aE:FnScope ["plot","outers","inners","lands","number","ring","face","ring_at","corner","land"] ["plot"] (ao dQ):=by walk_at "sc"
inductive Cn_lands_of_faces(u:D)(M:MH)(Q:DK):Prop
 |mk (t b X Y:Int) (ws:List Wl) (_:u=.tup (ws.map (rwl t b X Y))) (_:Scl t b X Y) (_:ws.length<=40) (_:(∀w∈ws,Un5 w)) (_:PF ws) (_:∀(M':MH) (z:Addr) (L:List Int),SD.Sub M M'->M z=none->M' z=some (.lst (L.map D.int))->cL ws L->Q (.ref z) M')
theorem dO(T:Tx K mg):Cal P w K mg base 9 "lands_of_faces" (sD1 Cn_lands_of_faces):=by
 refine dS (k:=8) T.f_lands_of_faces aE fun f cdv A outer s H E hr=>⟨_,(ag (cf (ak (gg T).m hr (aa (dv 0) ab)) (bA rfl (ay (av 1 aE.nd) (ay (av 2 aE.nd) aT)))) (ag (aA 3 aE.nd (ar xj (bI (aa ae ab)) (ar aD ae (aF cv rfl T.b_len cB (aa (dv 0) ab))))) (ag (bH El rfl (t7 rfl T.b_enumerate (aa (dv 1) ab)) (bA rfl (ay (av 4 aE.nd) (ay (av 5 aE.nd) aT))) (aj (bH El rfl (aR (dv 5)) (av 6 aE.nd) (aj (cf (dv 4) (mC (dv 3) (dv 6))))))) (ag (sa 7 aE.nd (iQ hr) (CScope.of (xs:=["ring"]) (js:=[0]) rfl) rfl (aR (dv 2)) (fun _ _ _ _=>cy) (fun _ _ _ _=>(ak (jF T).m hr (aa (dv 1) (aa (dv 0) ab)))) (fun _ _ _ _=>(dv 0))) (ag (bH El rfl (aR (ak (kO T).m hr (aa (cY (nB rfl) rfl T.b_list rC (aa (dv 7) ab)) ab))) (av 8 aE.nd) (ag (aA 9 aE.nd (ak (l7 T).m hr (aa (dv 0) (aa (dv 3) (aa (dv 8) ab))))) (aj (bH El rfl (aR (gC (iQ hr) (dv 7) (dv 8) (by intro _ _;with_unfolding_all rfl))) (av 6 aE.nd) (aj (cf (dv 9) (mC (dv 3) (dv 6)))))))) (aj (az (dv 3)))))))),fun _ M Q h=>?_⟩;obtain⟨t,b,X,Y,ws,rfl,S,hlen,hU,hF,k⟩:=h;have hwl:(ws.map (rwl t b X Y)).length=ws.length:=by simp
 refine⟨_,rfl,t,b,X,Y,ws,rfl,S,hlen,hU,hF,fun M1 lo li ps qs rs sb1 R ho hi RO RI flo fli fpq=>?_⟩;refine⟨_,rfl,rfl,_,_,rfl,_,_,rfl,rfl,?_⟩;have RO:=RO;generalize eouts:rs.filter (b4 ws)=outs at RO;generalize eins:(rs.filter fun r=>!b4 ws r)=ins at RI;have rmem:=iZ hU hF (E3 _) R;have hrs:=jb R;have hol:outs.length<=80:=by rw[<-eouts];have:=FO (b4 ws) rs;omega
 have hil:ins.length<=80:=by rw[<-eins];have:=FO (fun r=>!b4 ws r) rs;omega
 have omem:∀r∈outs,RgA ws r:=fun r hr=>rmem r (by rw[<-eouts]at hr;exact(EU.mp hr).1);have imem:∀r∈ins,RgA ws r:=fun r hr=>rmem r (by rw[<-eins]at hr;exact(EU.mp hr).1);have npo:=RO.len;have npi:=RI.len;refine⟨nbL rfl,fun z0 hz0=>⟨_,rfl,aG (aW (by decide)),.int 0,af,by rw[hwl];omega,by rw[hwl];omega,fun z hz=>?_⟩⟩;have sb2:SD.Sub M1 (aq (aq M1 z0 (.lst [.int 0])) z (.lst (Er ((2:Int)*((ws.map (rwl t b X Y)).length:Nat)).toNat (.int 0)))):=.new hz (.new hz0 .refl);have hz2:(aq (aq M1 z0 (.lst [.int 0])) z (.lst (Er ((2:Int)*((ws.map (rwl t b X Y)).length:Nat)).toNat (.int 0)))) z=some (.lst ((fO (2*ws.length) outs 0).map D.int)):=by rw[af,hwl,show((2:Int)*(ws.length:Nat)).toNat=2*ws.length by omega,fO,List.map_replicate]
 have nz:∀{a o},M1 a=some o->a≠z:=fun h e=>by
  subst e
  have h0:=SD.Sub.new (o:=.lst [.int 0]) hz0 .refl _ _ h
  rw[hz]at h0;cases h0
 have fz:M z=none:=by
  cases e:M z with
  |none=>rfl
  |some o=>exact absurd rfl (nz (sb1 _ _ e))
 generalize aq (aq M1 z0 (.lst [.int 0])) z (.lst (Er ((2:Int)*((ws.map (rwl t b X Y)).length:Nat)).toNat (.int 0)))=M2 at sb2 hz2 ⊢;(try dsimp only[SD.bF])
 refine cA (fun δ M'=>∃o4 o5 o6:Option D,δ=[some (.tup (ws.map (rwl t b X Y))),some (.ref lo),some (.ref li),some (.ref z),o4,o5,o6,none,none,none]/\(∀c,c≠z->M' c=M2 c)/\M' z=some (.lst ((fO (2*ws.length) outs outs.length).map D.int))) ?_ (fun hu=>?_);rotate_left
 ·refine⟨_,rfl,lo,ps.map D.ref,rfl,sb2 _ _ ho,fun i δ M'=>∃o4 o5 o6:Option D,δ=[some (.tup (ws.map (rwl t b X Y))),some (.ref lo),some (.ref li),some (.ref z),o4,o5,o6,none,none,none]/\(∀c,c≠z->M' c=M2 c)/\M' z=some (.lst ((fO (2*ws.length) outs i).map D.int)),⟨_,_,_,rfl,fun _ _=>rfl,hz2⟩,fun i δ M' _ q=>by obtain⟨_,_,_,_,q,_⟩:=q;show M' lo=_;rw[q lo (nz ho)];exact sb2 _ _ ho,?_,?_⟩
  ·rintro i d δ M' hi hd ⟨o4,o5,o6,rfl,kM,hz'⟩;have hi:i<ps.length:=by have:i<(ps.map D.ref).length:=hi;simpa using this
   have hd:((ps.map D.ref)[i]?).map (fun d=>D.tup [.int ((i+1:Nat):Int),d])=some d:=hd;rw[E4,E2 hi]at hd;cases hd;obtain⟨r,er,hpi⟩:=RO.get hi;have A:=omem r (Ej er);have hp2:M2 ps[i]=some (.lst (r.map fun g:Nat=>D.int (g:Int))):=sb2 _ _ hpi;refine⟨_,rfl,rfl,_,_,rfl,_,_,rfl,rfl,?_⟩;refine⟨_,rfl,r.map (fun g:Nat=>D.int (g:Int)),(by show M' ps[i]=_;rw[kM _ (nz hpi)];exact hp2),fun j δ M''=>∃o6:Option D,δ=[some (.tup (ws.map (rwl t b X Y))),some (.ref lo),some (.ref li),some (.ref z),some (.int ((i+1:Nat):Int)),some (.ref ps[i]),o6,none,none,none]/\(∀c,c≠z->M'' c=M2 c)/\M'' z=some (.lst ((fK (fO (2*ws.length) outs i) r ((i+1:Nat):Int) j).map D.int)),⟨_,rfl,kM,hz'⟩,fun j δ M'' _ q=>by obtain⟨_,_,q,_⟩:=q;show M'' ps[i]=_;rw[q _ (nz hpi)];exact hp2,?_,?_⟩
   ·rintro j d δ M'' hj hd ⟨o6,rfl,kM',hz''⟩;have hj:j<r.length:=by have:j<(r.map fun g:Nat=>D.int (g:Int)).length:=hj;simpa using this
    have hd:(r.map fun g:Nat=>D.int (g:Int))[j]?=some d:=hd;rw[E4,E2 hj]at hd;cases hd;refine⟨_,rfl,_,rfl,_,rfl,_,r[j],hz'',qw (by rw[D8,fE,jK];exact A.lt _ (ET hj)),?_⟩;exact⟨_,rfl,fun c hc=>by rw[ai hc];exact kM' c hc,by rw[af,j9 (E2 hj),List.map_set]⟩
   ·rintro δ M'' ⟨o6,rfl,kM',hz''⟩;have hz'':M'' z=some (.lst ((fK (fO (2*ws.length) outs i) r ((i+1:Nat):Int) (r.map fun g:Nat=>D.int (g:Int)).length).map D.int)):=hz'';rw[D8]at hz'';exact⟨_,_,_,rfl,kM',by rw[hz'',fO,er];rfl⟩
  ·rintro δ M' ⟨o4,o5,o6,rfl,kM,hz'⟩;have hz':M' z=some (.lst ((fO (2*ws.length) outs (ps.map D.ref).length).map D.int)):=hz';rw[D8,npo]at hz';exact hu _ _ ⟨_,_,_,rfl,kM,hz'⟩
 rintro δ M3 ⟨o4,o5,o6,rfl,kM3,hz3⟩;have to3:∀{a o},M1 a=some o->M3 a=some o:=fun{a o} h=>by rw[kM3 a (nz h)];exact sb2 _ _ h
 refine⟨_,rfl,qs.map D.ref,to3 hi,by show(qs.map D.ref).length<=900000;rw[D8];omega,fun p hp=>?_⟩;have np:∀{a o},M3 a=some o->a≠p:=fun h=>au h hp;refine⟨fun i kvs M'=>RDt t b X Y ws ins qs i kvs/\M'=aq M3 p (dsM kvs),⟨RDt.nil ..,rfl⟩,fun i kvs M' _ q=>by obtain⟨_,rfl⟩:=q;show(aq M3 p _) li=_;rw[ai (np (to3 hi))];exact to3 hi,?_,?_⟩
 ·rintro i kvs d M' hi' hd ⟨RD,rfl⟩;have hi':i<qs.length:=by have:i<(qs.map D.ref).length:=hi';simpa using this
  have hd:(qs.map D.ref)[i]?=some d:=hd;rw[E4,E2 hi']at hd;cases hd;obtain⟨r,er,hqi⟩:=RI.get hi';have A:=imem r (Ej er);refine⟨_,rfl,?_⟩;dsimp only[SD.cM];refine kQ ?_;refine⟨_,rfl,_,rfl,t,b,X,Y,ws,qs[i],r,rfl,rfl,(by rw[ai (np (to3 hqi))];exact to3 hqi),S,hU,hlen,A.pos,A.lt,?_⟩;refine⟨_,rfl,gk t b X Y (fc ws r),wa ..,af,?_,RD.put S.t0 S.b0 er (E2 hi'),by rw[bo]⟩;have:=congrArg List.length RD.ks;rw[D8,D8]at this;have:=ir ws ins i;omega
 rintro kvs M4 ⟨RD,rfl⟩;have RD:RDt t b X Y ws ins qs (qs.map D.ref).length kvs:=RD;rw[D8,npi]at RD;have hz4:(aq M3 p (dsM kvs)) z=some (.lst ((fO (2*ws.length) outs outs.length).map D.int)):=by rw[ai (np hz3)];exact hz3
 have to4:∀{a o},M1 a=some o->(aq M3 p (dsM kvs)) a=some o:=fun{a o} h=>by rw[ai (np (to3 h))];exact to3 h
 have hp4:(aq M3 p (dsM kvs)) p=some (dsM kvs):=af
 have fp:M1 p=none:=by
  cases e:M1 p with
  |none=>rfl
  |some o=>rw[to3 e]at hp;cases hp
 generalize aq M3 p (dsM kvs)=M4 at hz4 to4 hp4 ⊢;refine⟨_,rfl,.inr ⟨p,kvs,rfl,hp4,fun p2 hp2=>?_⟩⟩
 have ek:kvs.map (fun x=>spD x.1)=(b6 ws ins ins.length).map (gsp t b X Y):=by
  have:=congrArg (FA spD) RD.ks
  rw[GB,GB]at this
  exact this
 have kb:∀c∈b6 ws ins ins.length,B20 c:=fun c hc=>by
  obtain⟨j,_,hj,e⟩:=gQ hc
  rw[E2 hj]at e
  have A:=imem _ (ET hj)
  rw[<-e]
  exact mv hU A.lt A.pos _ (E3 _)
 have kl:=ir ws ins ins.length;refine⟨p2,t,b,X,Y,b6 ws ins ins.length,rfl,(by rw[af,ek]),S,by omega,kb,iD ws ins _,fun M5 zc cs sb5 fzc hzc pm up=>?_⟩;have to5:∀{a o},M4 a=some o->M5 a=some o:=fun{a o} h=>sb5 _ _ (by rw[ai (au h hp2)];exact h);have hz5:=to5 hz4;have hp5:=to5 hp4;have nzc:zc≠z:=fun e=>by subst e;rw[ai (au hz4 hp2)]at fzc;rw[hz4]at fzc;cases fzc
 have npz:p≠z:=fun e=>by subst e;rw[hz3]at hp;cases hp
 refine⟨_,hzc,?_⟩;refine⟨fun i δ M'=>∃o6 o8 o9:Option D,δ=[some (.tup (ws.map (rwl t b X Y))),some (.ref lo),some (.ref li),some (.ref z),o4,o5,o6,some (.ref p),o8,o9]/\(∀c,c≠z->M' c=M5 c)/\M' z=some (.lst ((fS ws ins (fO (2*ws.length) outs outs.length) cs i).map D.int)),⟨_,_,_,rfl,fun _ _=>rfl,hz5⟩,fun i δ M' _ q=>by obtain⟨_,_,_,_,q,_⟩:=q;show M' zc=_;rw[q zc nzc];exact hzc,?_,?_⟩
 ·rintro i d δ M' hi' hd ⟨o6',o8,o9,rfl,kM,hz'⟩;have hi':i<cs.length:=by have:i<(cs.map (gsp t b X Y)).length:=hi';simpa using this
  have hd:(cs.map (gsp t b X Y))[i]?=some d:=hd;rw[E4,E2 hi']at hd;cases hd;have hck:=pm.mem_iff.mp (ET hi');obtain⟨j,ej,hj,_⟩:=gQ hck;have hjq:j<qs.length:=by omega
  obtain⟨r,er,hqj⟩:=RI.get hjq;have A:=imem r (Ej er);have hq5:M5 qs[j]=some (.lst (r.map fun g:Nat=>D.int (g:Int))):=to5 (to4 hqj);have nqz:=nz hqj;have eS:fS ws ins (fO (2*ws.length) outs outs.length) cs (i+1)=fill (fS ws ins (fO (2*ws.length) outs outs.length) cs i) r (laF ws (fS ws ins (fO (2*ws.length) outs outs.length) cs i) cs[i]):=by rw[fS,E2 hi',Option.getD_some,ej,Option.getD_some,er,Option.getD_some]
  refine⟨_,rfl,_,rfl,_,rfl,t,b,X,Y,ws,z,fS ws ins (fO (2*ws.length) outs outs.length) cs i,cs[i],rfl,rfl,rfl,hz',by rw[lZ,jK],S,hU,hF,hlen,kb _ hck,?_⟩;refine⟨_,rfl,_,rfl,p,kvs,gk t b X Y cs[i],.ref qs[j],rfl,wa ..,(by rw[kM p npz];exact hp5),(by rw[RD.vs,ej];show(qs[j]?).map D.ref=_;rw[E2 hjq];rfl),r.map (fun g:Nat=>D.int (g:Int)),(by show M' qs[j]=_;rw[kM _ nqz];exact hq5),?_⟩;refine⟨fun a δ M''=>∃o6:Option D,δ=[some (.tup (ws.map (rwl t b X Y))),some (.ref lo),some (.ref li),some (.ref z),o4,o5,o6,some (.ref p),some (gsp t b X Y cs[i]),some (.int (laF ws (fS ws ins (fO (2*ws.length) outs outs.length) cs i) cs[i]))]/\(∀c,c≠z->M'' c=M5 c)/\M'' z=some (.lst ((fK (fS ws ins (fO (2*ws.length) outs outs.length) cs i) r (laF ws (fS ws ins (fO (2*ws.length) outs outs.length) cs i) cs[i]) a).map D.int)),⟨_,rfl,kM,hz'⟩,fun a δ M'' _ q=>by obtain⟨_,_,q,_⟩:=q;show M'' qs[j]=_;rw[q _ nqz];exact hq5,?_,?_⟩
  ·rintro a d δ M'' ha hd ⟨o6,rfl,kM',hz''⟩;have ha:a<r.length:=by have:a<(r.map fun g:Nat=>D.int (g:Int)).length:=ha;simpa using this
   have hd:(r.map fun g:Nat=>D.int (g:Int))[a]?=some d:=hd;rw[E4,E2 ha]at hd;cases hd;refine⟨_,rfl,_,rfl,_,rfl,_,r[a],hz'',qw (by rw[D8,fE,lZ,jK];exact A.lt _ (ET ha)),?_⟩;exact⟨_,rfl,fun c hc=>by rw[ai hc];exact kM' c hc,by rw[af,j9 (E2 ha),List.map_set]⟩
  ·rintro δ M'' ⟨o6,rfl,kM',hz''⟩;have hz'':M'' z=some (.lst ((fK (fS ws ins (fO (2*ws.length) outs outs.length) cs i) r (laF ws (fS ws ins (fO (2*ws.length) outs outs.length) cs i) cs[i]) (r.map fun g:Nat=>D.int (g:Int)).length).map D.int)):=hz'';rw[D8]at hz'';exact⟨_,_,_,rfl,kM',by rw[hz'',eS];rfl⟩
 ·rintro δ M' ⟨o6',o8,o9,rfl,kM,hz'⟩;have hz':M' z=some (.lst ((fS ws ins (fO (2*ws.length) outs outs.length) cs (cs.map (gsp t b X Y)).length).map D.int)):=hz';rw[D8]at hz';refine⟨_,rfl,rtn (k M' z _ (fun a o h=>?_) fz hz' ⟨rs,cs,R,by rw[eins];exact pm,up,by rw[eins,eouts]⟩)⟩;have h1:=sb1 _ _ h;rw[kM a (nz h1)];exact to5 (to4 h1)
theorem eC:FnScope ["plot","lands"] ["plot"] (ao fg):=by walk_at "sc"
inductive Cn_lands_beside(u:D)(M:MH)(Q:DK):Prop
 |mk (t b X Y:Int) (ws:List Wl) (_:u=.tup (ws.map (rwl t b X Y))) (_:Scl t b X Y) (_:ws.length<=40) (_:(∀w∈ws,Un5 w)) (_:PF ws) (_:∀(M':MH) (z:Addr) (L:List Int),SD.Sub M M'->M z=none->M' z=some (.lst (((E5 ws.length).map (prL L)).map prD))->cL ws L->Q (.ref z) M')
theorem fh(T:Tx K mg):Cal P w K mg base 10 "lands_beside" (sD1 Cn_lands_beside):=by
 refine dS (k:=9) T.f_lands_beside eC fun f cdv A outer s H E hr=>⟨_,(ag (aA 1 eC.nd (ak (dO T).m hr (aa (dv 0) ab))) (aj (az (jo (CScope.of (xs:=["wall"]) (js:=[1]) rfl) rfl (cW rfl T.b_range (aa (aF cv rfl T.b_len cB (aa (dv 0) ab)) ab)) (fun _ _ _ _=>cy) (fun _ _ _ _=>(cY n9 rfl T.b_tuple oo (aa (aF oC rfl T.b_sorted fF (aa (jN (dv 1) (gv (ar aD ae (dv 0))) (gv (ar aJ (ar aD ae (dv 0)) ae))) ab)) ab))))))),fun _ M Q h=>?_⟩;obtain⟨t,b,X,Y,ws,rfl,S,hlen,hU,hF,k⟩:=h;have hwl:(ws.map (rwl t b X Y)).length=ws.length:=by simp
 refine⟨_,rfl,t,b,X,Y,ws,rfl,S,hlen,hU,hF,fun M1 z L sb1 fz hz il=>?_⟩;have hL:=il.len;refine⟨_,rfl,ws.length,by rw[hwl],by omega,comp_map (fun i=>prD (prL L i)) (by show ws.length<=1000000;omega) (fun p ys hp=>trivial) ?_ (fun p hp=>?_)⟩
 ·intro i d M' hi hd sb;have hi:i<ws.length:=hi;have hd:some (D.int (i:Int))=some d:=hd;cases hd;refine⟨_,rfl,fun K hK=>?_⟩;have hz':M' z=some (.lst (L.map D.int)):=sb _ _ hz;refine⟨_,rfl,?_⟩;refine⟨_,rfl,aG (aW (by decide)),_,rfl,?_⟩;refine⟨_,rfl,aG (aW (by decide)),_,rfl,?_⟩;refine⟨_,hz',fun p1 hp1=>?_⟩
  have e1:cutD (L.map D.int) (some (2*(i:Int))) (some (2*(i:Int)+2))=([(L[2*i]?).getD 0,(L[2*i+1]?).getD 0]).map D.int:=by
   have:=rk (L:=L) (w:=i) (by omega)
   rw[show((2*i:Nat):Int)=2*(i:Int) by omega,show((2*i+2:Nat):Int)=2*(i:Int)+2 by omega]at this
   exact this
  rw[e1];refine⟨_,af,by simp,fun p2 ns hp2 pm up=>?_⟩;refine⟨_,af,?_⟩;have e2:=n6 pm up;have e3:D.tup (ns.map D.int)=prD (prL L i):=by rw[e2];unfold prL prD;dsimp only;split<;>rfl
  rw[e3];exact hK _ (.new hp2 (.new hp1 .refl))
 have pz:p≠z:=fun e=>by subst e;rw[hz]at hp;cases hp
 refine⟨_,.refl,k _ p L (fun a o h=>by rw[ai (au (sb1 _ _ h) hp)];exact sb1 _ _ h) ?_ ?_ il⟩
 ·cases e:M p with
  |none=>rfl
  |some o=>rw[sb1 _ _ e]at hp;cases hp
 ·rw[af,GB];rfl
theorem tj:FnScope ["plot"] ["plot"] (ao nj):=by walk_at "sc"
inductive Cn_within(u:D)(M:MH)(Q:DK):Prop
 |mk (t b X Y:Int) (ws:List Wl) (_:u=.tup (ws.map (rwl t b X Y))) (_:Scl t b X Y) (_:ws.length<=40) (_:(∀w∈ws,Un5 w)) (_:PF ws) (_:∀(M':MH) (z:Addr) (L:List Int),SD.Sub M M'->M z=none->M' z=some (.lst (((E5 ws.length).filter fun w=>decide ((prL L w).1=(prL L w).2)).map fun w:Nat=>D.int (w:Int)))->cL ws L->Q (.ref z) M')
theorem v9(T:Tx K mg):Cal P w K mg base 11 "within" (sD1 Cn_within):=by
 refine dS (k:=10) T.f_within tj fun f cdv A outer s H E hr=>⟨_,(aj (az (vB (CScope.of (xs:=["wall","one","other"]) (js:=[]) rfl) rfl (ra rfl T.b_enumerate (aa (ak (fh T).m hr (aa (dv 0) ab)) ab)) (fun _ _ _ _=>(mx (aH (b5 hr.units) (dv 1) (dv 2)))) (fun _ _ _ _=>(dv 0))))),fun _ M Q h=>?_⟩;obtain⟨t,b,X,Y,ws,rfl,S,hlen,hU,hF,k⟩:=h;refine⟨_,rfl,t,b,X,Y,ws,rfl,S,hlen,hU,hF,fun M1 z L sb1 fz hz il=>?_⟩;have hn:(((E5 ws.length).map (prL L)).map prD).length=ws.length:=by simp
 refine⟨z,_,rfl,hz,by show(((E5 ws.length).map (prL L)).map prD).length<=1000000;omega,fun p hp=>?_⟩;have pz:z≠p:=au hz hp;refine⟨fun i ys M'=>ys=((E5 i).filter fun w=>decide ((prL L w).1=(prL L w).2)).map (fun w:Nat=>D.int (w:Int))/\M'=aq M1 p (.lst ys),⟨rfl,rfl⟩,fun i ys M' _ q=>by obtain⟨_,rfl⟩:=q;show(aq M1 p _) z=_;rw[ai pz];exact hz,?_,?_⟩
 ·rintro i ys d M' hi hd ⟨rfl,rfl⟩;have hi:i<ws.length:=by have:i<(((E5 ws.length).map (prL L)).map prD).length:=hi;omega
  have hd:((((E5 ws.length).map (prL L)).map prD)[i]?).map (fun d=>D.tup [.int (i:Int),d])=some d:=hd;rw[E4,E4,List.getElem?_range hi]at hd;cases hd;refine⟨_,⟨_,_,_,rfl,rfl⟩,?_⟩;refine⟨_,rfl,_,rfl,_,rfl,?_⟩
  have ef:((E5 (i+1)).filter fun w=>decide ((prL L w).1=(prL L w).2))=((E5 i).filter fun w=>decide ((prL L w).1=(prL L w).2))++(if decide ((prL L i).1=(prL L i).2)=true then[i]else[]):=by
   rw[G0,List.filter_append]
   congr 1
   simp[List.filter_cons]
  refine bD (fun h=>?_) (fun h=>?_)
  ·rw[if_pos h]at ef;exact⟨_,rfl,_,.refl,af,by rw[ef,Eg];rfl,by rw[bo]⟩
  ·rw[if_neg h,EV]at ef;exact⟨_,.refl,by rw[ef],rfl⟩
 rintro ys M' ⟨rfl,rfl⟩;refine⟨_,.refl,k _ p L (fun a o h=>by rw[ai (au (sb1 _ _ h) hp)];exact sb1 _ _ h) ?_ ?_ il⟩
 ·cases e:M p with
  |none=>rfl
  |some o=>rw[sb1 _ _ e]at hp;cases hp
 ·rw[af];show some (MO.lst (((E5 (((E5 ws.length).map (prL L)).map prD).length).filter _).map _))=_;rw[hn]
theorem b7:FnScope ["plot","walls_between","wall","one","other"] ["plot"] (ao gf):=by walk_at "sc"
inductive Cn_neighbours(u:D)(M:MH)(Q:DK):Prop
 |mk (t b X Y:Int) (ws:List Wl) (_:u=.tup (ws.map (rwl t b X Y))) (_:Scl t b X Y) (_:ws.length<=40) (_:(∀w∈ws,Un5 w)) (_:PF ws) (_:∀(M':MH) (zr:Addr) (us:List (Int×Int)) (A:Int×Int->Addr) (L:List Int),SD.Sub M M'->M zr=none->M' zr=some (.lst (us.map fun u=>D.tup [.int u.1,.int u.2,.ref (A u)]))->us.Pairwise plt->(∀u,u∈us↔wlN L u ws.length≠[])->(∀u∈us,M' (A u)=some (.lst ((wlN L u ws.length).map D.int))/\M (A u)=none/\A u≠zr)->(∀u∈us,∀v∈us,A u=A v->u=v)->cL ws L->Q (.ref zr) M')
theorem mB(T:Tx K mg):Cal P w K mg base 11 "neighbours" (sD1 Cn_neighbours):=by
 refine dS (k:=10) T.f_neighbours b7 fun f cdv A outer s H E hr=>⟨_,(ag (aA 1 b7.nd SE.jX) (ag (bH El rfl (ra rfl T.b_enumerate (aa (ak (fh T).m hr (aa (dv 0) ab)) ab)) (bA rfl (ay (av 2 b7.nd) (ay (bA rfl (ay (av 3 b7.nd) (ay (av 4 b7.nd) aT))) aT))) (aj (bf (aH (jP hr.units) (dv 3) (dv 4)) (aj (br (aQ (SE.lV (iQ hr) (dv 1) (aa (aB (aa (dv 3) (aa (dv 4) ab))) (aa (bI ab) ab))) (aa (dv 2) ab)))) aI))) (aj (az (nJ (CScope.of (xs:=["one","other"]) (js:=[1]) rfl) rfl (aR (aF (SE.tZ rfl) rfl T.b_sorted fF (aa (dv 1) ab))) (fun _ _ _ _=>cy) (fun _ _ _ _=>(aB (aa (dv 0) (aa (dv 1) (aa (SE.gC (iQ hr) (dv 2) (aB (aa (dv 0) (aa (dv 1) ab))) (by intro _ _;with_unfolding_all rfl)) ab)))))))))),fun _ M Q h=>?_⟩;obtain⟨t,b,X,Y,ws,rfl,S,hlen,hU,hF,k⟩:=h;intro c hc;refine⟨_,rfl,t,b,X,Y,ws,rfl,S,hlen,hU,hF,fun M1 z L sb1 fz hz il=>?_⟩;have hn:(((E5 ws.length).map (prL L)).map prD).length=ws.length:=by simp
 have hc1:M1 c=some (SE.dsM []):=sb1 _ _ af;have sbM:SD.Sub M M1:=SD.Sub.trans (.new hc .refl) sb1;have ncz:c≠z:=fun e=>by subst e;rw[af]at fz;cases fz
 have toM:∀{a},M1 a=none->M a=none:=fun{a} h=>by
  cases e:M a with
  |none=>rfl
  |some o=>rw[sbM _ _ e]at h;cases h
 refine⟨z,_,rfl,hz,fun i δ M'=>∃(kvs:SE.SpT) (A:Int×Int->Addr) (o2 o3 o4:Option D),δ=[some (.tup (ws.map (rwl t b X Y))),some (.ref c),o2,o3,o4]/\(∀a o,a≠c->M1 a=some o->M' a=some o)/\kvs.length<=i/\Nb L i M1 M' c kvs A,⟨[],_,_,_,_,rfl,fun _ _ _ h=>h,E3 _,Nb.nil hc1⟩,fun i δ M' _ q=>by obtain⟨_,_,_,_,_,_,q,_⟩:=q;exact q z _ ncz.symm hz,?_,?_⟩
 ·rintro i d δ M' hi hd ⟨kvs,A,o2,o3,o4,rfl,sb,hk,V⟩;have hi:i<ws.length:=by have:i<(((E5 ws.length).map (prL L)).map prD).length:=hi;omega
  have hd:((((E5 ws.length).map (prL L)).map prD)[i]?).map (fun d=>D.tup [.int (i:Int),d])=some d:=hd;rw[E4,E4,List.getElem?_range hi]at hd;cases hd;refine⟨_,rfl,rfl,_,_,rfl,_,_,rfl,_,rfl,rfl,_,_,rfl,_,_,rfl,rfl,rfl,?_⟩;refine⟨_,rfl,_,rfl,_,rfl,?_⟩;refine bD (fun h=>?_) (fun h=>?_);rotate_left
  ·have eq:(prL L i).1=(prL L i).2:=by simpa using h
   have same:∀v,wlN L v (i+1)=wlN L v i:=fun v=>by rw[wlN,if_neg (fun y=>y.2 eq),EV]
   exact⟨kvs,A,_,_,_,rfl,sb,by omega,V.d,fun v hv=>by rw[same v]at hv ⊢;exact V.some v hv,fun v hv=>by rw[same v]at hv;exact V.none v hv,fun v v' hv hv'=>by rw[same v]at hv;rw[same v']at hv';exact V.inj v v' hv hv',V.nd⟩
  have ne':(prL L i).1≠(prL L i).2:=by simpa using h
  have lone:∀v,prL L i≠v->wlN L v (i+1)=wlN L v i:=fun v h=>by rw[wlN,if_neg (fun y=>h y.1),EV]
  have lthe:wlN L (prL L i) (i+1)=wlN L (prL L i) i++[(i:Int)]:=by rw[wlN,if_pos ⟨rfl,ne'⟩]
  have ll:=i9 L (prL L i) i;have hdq:∀{q:Addr} {o},M' q=none->(aq M' q o) c=some (SE.dsM kvs):=fun hq=>by rw[ai (au V.d hq)];exact V.d
  refine⟨_,rfl,c,kvs,rfl,V.d,_,rfl,_,rfl,nbL rfl,nbL rfl,fun q hq=>?_⟩;refine⟨kvs,prL L i,.ref q,rfl,hdq hq,by omega,fun d' hd=>?_,fun hn'=>?_⟩
  ·have ne:wlN L (prL L i) i≠[]:=fun z=>by rw[V.none _ z]at hd;cases hd
   obtain⟨v1,v2,v3,v4⟩:=V.some _ ne;rw[v1]at hd;cases hd;have c1:∀{a o},M' a=some o->(aq M' q (.lst [])) a=some o:=fun h=>by rw[ai (au h hq)];exact h
   refine⟨A (prL L i),_,rfl,c1 v2,_,rfl,_,_,rfl,c1 v2,(by rw[D8];omega),?_⟩;have c2:∀{a o G},M' a=some o->a≠A (prL L i)->(aq (aq M' q (.lst [])) (A (prL L i)) G) a=some o:=fun h n=>by rw[ai n];exact c1 h
   refine⟨kvs,A,_,_,_,rfl,fun a o na h=>c2 (sb _ _ na h) (fun y=>by subst y;rw[v4]at h;cases h),by omega,c2 V.d v3.symm,fun v h=>?_,fun v h=>?_,fun v v' h h' e=>?_,V.nd⟩
   ·by_cases y:prL L i=v
    ·subst y;refine⟨v1,?_,v3,v4⟩;rw[af,lthe,Eg];rfl
    ·rw[lone v y]at h ⊢;obtain⟨u1,u2,u3,u4⟩:=V.some v h;exact⟨u1,c2 u2 (fun x=>y (V.inj _ _ ne h x.symm)),u3,u4⟩
   ·by_cases y:prL L i=v
    ·subst y;rw[lthe]at h;simp at h
    ·rw[lone v y]at h;exact V.none v h
   ·have g:∀v,wlN L v (i+1)≠[]->wlN L v i≠[]:=fun v h=>by
     by_cases y:prL L i=v
     ·subst y;exact ne
     ·rw[lone v y]at h;exact h
    exact V.inj v v' (g v h) (g v' h') e
  ·have em:wlN L (prL L i) i=[]:=by
    cases y:wlN L (prL L i) i with
    |nil=>rfl
    |cons x xs=>
     have:=(V.some _ (by rw[y];simp)).1
     rw[hn']at this;cases this
   have nql:q≠c:=(au V.d hq).symm;have cq:(aq (aq M' q (.lst [])) c (SE.dsM (SE.putD kvs (prL L i) (.ref q)))) q=some (.lst []):=by rw[ai nql,af]
   refine⟨q,[],rfl,cq,_,rfl,_,_,rfl,cq,by decide,?_⟩;have c2:∀{a o D' G},M' a=some o->a≠c->(aq (aq (aq M' q (.lst [])) c D') q G) a=some o:=fun h n=>by rw[ai (au h hq),ai n,ai (au h hq)];exact h
   have mq:M1 q=none:=by
    cases y:M1 q with
    |none=>rfl
    |some o=>rw[sb _ _ nql y]at hq;cases hq
   obtain⟨pe,vn⟩:=vY (.ref q) hn';refine⟨SE.putD kvs (prL L i) (.ref q),fun v=>if prL L i=v then q else A v,_,_,_,rfl,fun a o na h=>c2 (sb _ _ na h) na,by rw[pe];simp;omega,(by rw[ai nql.symm,af]),fun v h=>?_,fun v h=>?_,fun v v' h h' e=>?_,?_⟩
   ·by_cases y:prL L i=v
    ·subst y;refine⟨by rw[vn,if_pos rfl,if_pos rfl],?_,by rw[if_pos rfl];exact nql,by rw[if_pos rfl];exact mq⟩;rw[if_pos rfl,af,lthe,em];rfl
    ·rw[lone v y]at h ⊢;obtain⟨u1,u2,u3,u4⟩:=V.some v h;rw[if_neg y];exact⟨by rw[vn,if_neg (fun x=>y x.symm)];exact u1,c2 u2 u3,u3,u4⟩
   ·by_cases y:prL L i=v
    ·subst y;rw[lthe]at h;simp at h
    ·rw[lone v y]at h;rw[vn,if_neg (fun x=>y x.symm)];exact V.none v h
   ·by_cases y:prL L i=v<;>by_cases y':prL L i=v'
    ·rw[<-y,<-y']
    ·rw[lone v' y']at h';rw[if_pos y,if_neg y']at e;have:=(V.some v' h').2.1;rw[<-e,hq]at this;cases this
    ·rw[lone v y]at h;rw[if_neg y,if_pos y']at e;have:=(V.some v h).2.1;rw[e,hq]at this;cases this
    ·rw[lone v y]at h;rw[lone v' y']at h';rw[if_neg y,if_neg y']at e;exact V.inj v v' h h' e
   ·rw[pe,Eg,Gz];refine⟨V.nd,by simp,fun a ha b hb e=>?_⟩;have hb:b=prL L i:=by simpa using hb
    subst hb;subst e;exact(j0 kvs _).mpr ha hn'
 ·rintro δ M' ⟨kvs,A,o2,o3,o4,rfl,sb,hk,V⟩;have hk:kvs.length<=ws.length:=by have h:kvs.length<=(((E5 ws.length).map (prL L)).map prD).length:=hk;omega
  have V:Nb L (((E5 ws.length).map (prL L)).map prD).length M1 M' c kvs A:=V;rw[hn]at V
  have km:∀u,u∈kvs.map (·.1)↔wlN L u ws.length≠[]:=fun u=>by
   rw[<-j0];constructor
   ·exact fun h z=>h (V.none u z)
   ·intro h;rw[(V.some u h).1];simp
  have pb:Pb (kvs.map (·.1)):=by
   refine⟨by rw[D8];omega,V.nd,fun u hu=>?_⟩
   obtain⟨w,_,e,_⟩:=jY ((km u).mp hu)
   have q:=pC (il.ld hlen) w
   rw[e]at q
   unfold Ld at q
   omega
  refine⟨_,rfl,kvs,V.d,pb,fun zs us hzs pm up=>?_⟩;have zc:c≠zs:=au V.d hzs;have usm:∀u,u∈us↔wlN L u ws.length≠[]:=fun u=>by rw[<-km];exact pm.mem_iff
  have ul:us.length<=40:=by rw[pm.length_eq,D8];omega
  refine⟨us.map prD,af,comp_map (fun i=>((us.map fun u=>D.tup [.int u.1,.int u.2,.ref (A u)])[i]?).getD .non) (by show(us.map prD).length<=1000000;rw[D8];omega) (fun p ys hp=>by show(aq (aq M' zs _) p _) zs=_;rw[ai (au af hp)];exact af) ?_ (fun p hp=>?_)⟩
  ·intro i d M6 hi hd sb6;have hd:(us.map prD)[i]?=some d:=hd;rw[E4]at hd;cases eu:us[i]? with
   |none=>rw[eu]at hd;cases hd
   |some u=>
    rw[eu]at hd
    cases hd
    have hu:=(usm u).mp (Ej eu)
    refine⟨_,⟨_,rfl,rfl,rfl⟩,fun K hK=>?_⟩
    have hK':=hK M6 .refl
    rw[getD_map eu]at hK'
    refine⟨_,rfl,_,rfl,_,rfl,_,rfl,_,rfl,nbL rfl,c,kvs,u,.ref (A u),rfl,rfl,?_,(V.some u hu).1,nbL rfl,hK'⟩
    exact sb6 _ _ (by rw[ai zc];exact V.d)
  ·have er:(E5 (us.map prD).length).map (fun i=>((us.map fun u=>D.tup [.int u.1,.int u.2,.ref (A u)])[i]?).getD .non)=us.map fun u=>D.tup [.int u.1,.int u.2,.ref (A u)]:=by
    have:=SD.range_getD (us.map fun u=>D.tup [.int u.1,.int u.2,.ref (A u)])
    rw[D8]at this ⊢
    exact this
   have np:∀{a o},M' a=some o->(aq (aq M' zs (.lst (us.map prD))) p (.lst (us.map fun u=>D.tup [.int u.1,.int u.2,.ref (A u)]))) a=some o:=fun{a o} h=>by
    have a1:=au h hzs
    have h1:(aq M' zs (.lst (us.map prD))) a=some o:=by rw[ai a1];exact h
    rw[ai (au h1 hp)]
    exact h1
   have pM:M' p=none:=by
    cases e:M' p with
    |none=>rfl
    |some o=>
     have a1:=au e hzs
     rw[ai a1,e]at hp;cases hp
   have npc:p≠c:=(au V.d pM).symm
   have p1:M1 p=none:=by
    cases e:M1 p with
    |none=>rfl
    |some o=>rw[sb _ _ npc e]at pM;cases pM
   dsimp only;rw[er];refine⟨_,.refl,k _ p us A L (fun a o h=>np (sb _ _ (fun y=>by subst y;rw[hc]at h;cases h) (sbM _ _ h))) (toM p1) af up usm (fun u hu=>?_) (fun u hu v hv e=>V.inj u v ((usm u).mp hu) ((usm v).mp hv) e) il⟩;obtain⟨v1,v2,v3,v4⟩:=V.some u ((usm u).mp hu);exact⟨np v2,toM v4,au v2 pM⟩
theorem oF:FnScope ["_law_found","_law_due_here"] ["_law_found","_law_due_here"] (ao j4):=by walk_at "sc"
inductive Cn_law_same(x y:D)(M:MH)(Q:DK):Prop
 |mk (P:_) (_:Pd M x P) (_:Pd M y P) (_:vR P=true) (_:Shn P) (_:Q (.bl true) M)
theorem qi(T:Tx K mg):Cal P w K mg base 1 "_law_same" (sD2 Cn_law_same):=by refine aZ (k:=0) T.f_law_same oF fun f cdv A outer s H E hr=>⟨_,(aj (az (cu Ag (aF (qZ hr.gd hr.units) rfl T.b_repr rN (aa (dv 0) ab)) (aF (qZ hr.gd hr.units) rfl T.b_repr rN (aa (dv 1) ab))))),fun _ _ M Q h=>?_⟩;obtain⟨P,p1,p2,di,S,k⟩:=h;exact⟨_,rfl,P,p1,di,S,_,rfl,P,p2,di,S,rfl,rtn k⟩
theorem dF:FnScope ["_law_script","_law_k","_law_pot_here","_law_shuts","_law_plot_here","_law_due_here","_law_again","_law_found","_law_pair"] ["_law_script"] (ao yJ):=by walk_at "sc"
inductive Cn_law(x:D)(M:MH)(Q:DK):Prop
 |mk (ns:_) (hh0:x=.rol (FA D.int ns)) (hh1:ns.length<=63) (hh2:∀M',Q (.bl true) M'):Cn_law x M Q
def ig:SpD:=fun ds M Q=>match ds with
 |[x]=>Cn_law x M Q
 |_=>False
theorem zd:∀ds M Q,ig ds M Q->ds.length=1:=fun ds M Q h=>by
 unfold ig at h;split at h
 ·rfl
 ·exact h.elim
theorem Cq{P:Ee}{w:EB}{K:D5}{mg:Str->Option D4}{fa:Addr}(T:Tx K mg)(hfa:mg "law"=some (.ref fa)):∃fd,(∀(s:D6) (u:D4),BindsTo s fd ⟨[u],[]⟩ [("_law_script",u)])/\∀base:Heap,FnOk P w K mg base CX0 12 fa fd ["_law_script"] (fZ K ig):=by
 refine DO (k:=11) (N:=["_law_script","_law_k","_law_pot_here","_law_shuts","_law_plot_here","_law_due_here","_law_again","_law_found","_law_pair"]) T.f_law hfa dF (fun _ _ _ _ _ _ us hl=>by obtain⟨_,rfl⟩:=SD.AU hl;rfl) zd fun base f cdv A outer s H E hr=>⟨_,(ag (d6 El rfl rfl T.b_range (aa (ar aJ ae (aF (mK rfl hr.units) rfl T.b_min qm (aa ae (aa (aF cv rfl T.b_len cB (aa (dv 0) ab)) ab)))) ab) (av 1 dF.nd) (ag (aA 2 dF.nd (ak (rX T).m hr (aa (dv 0) (aa (dv 1) ab)))) (ag (aA 3 dF.nd (ak (gP T).m hr (aa (dv 2) (aa ae ab)))) (ag (bf (aH (b5 hr.units) (ak (aC T).m hr (aa (dv 2) (aa ae ab))) ae) (aj (aA 3 dF.nd (ak (lh T).m hr (aa (dv 2) (aa ae ab))))) aI) (ag (aA 4 dF.nd (ak (oY T).m hr (aa (ak (nk T).m hr (aa (dv 2) (aa (aF cv rfl T.b_len cB (aa (dv 3) ab)) ab))) (aa (dv 3) ab)))) (ag (aA 5 dF.nd (ak (sO T).m hr (aa (ak (dO T).m hr (aa (dv 4) ab)) ab))) (aj (d6 El rfl rfl T.b_range (aa ae ab) (av 6 dF.nd) (ag (aA 7 dF.nd (aB (aa (ak (mB T).m hr (aa (dv 4) ab)) (aa (ak (v9 T).m hr (aa (dv 4) ab)) ab)))) (ag (bf (wy (d8 (ak (qi T).m hr (aa (dv 7) (aa (dv 5) ab))))) (aj (az lQ)) aI) (ag (bH El rfl (aR (aw (dv 7) ae)) (av 8 dF.nd) (aj (br (aQ (aw (dv 8) ae) (aa ae ab))))) (ag (br (nM (aw (dv 7) ae))) (aj (br (aQ (aw (dv 7) ae) (aa ae ab)))))))))))))))) (aj (az lQ))),fun ds M Q h=>?r⟩
 case r=>
  unfold ig at h
  split at h
  case h_2=>exact h.elim
  obtain⟨ns,rfl,hns,k⟩:=h
  obtain⟨m,hm,hm4⟩:∃m:Nat,1+min (3:Int) ((FA D.int ns).length:Nat)=(m:Int)/\m<=4:=⟨(1+min (3:Int) ((FA D.int ns).length:Nat)).toNat,by omega,by omega⟩
  refine⟨_,rfl,m,(by rw[hm]),by omega,fun i δ M=>∃o1 o2 o3 o4 o5 o6 o7 o8,δ=[some (.rol (FA D.int ns)),o1,o2,o3,o4,o5,o6,o7,o8],⟨_,_,_,_,_,_,_,_,rfl⟩,?_,fun _ _ _=>rtn (k _)⟩
  rintro i δ M hi ⟨o1,o2,o3,o4,o5,o6,o7,o8,rfl⟩
  refine⟨_,rfl,_,rfl,ns,(i:Int),rfl,rfl,by omega,fun r ob hr P0=>?_⟩
  generalize aq M r ob=Ma at P0 ⊢
  refine⟨_,rfl,r,0,9,rfl,rfl,by decide,P0,by decide,fun l ws Mb nrl fl kx hl hU hF hlen P1=>?_⟩
  (try dsimp only[SD.bF])
  refine cA (fun δ M'=>∃(g h:Int) (l:Addr) (ws:List Wl),Gs g h/\δ=[some (.rol (FA D.int ns)),some (.int (i:Int)),some (.ref r),some (.ref l),o4,o5,o6,o7,o8]/\r≠l/\M' l=some (.lst (ws.map (gwl g h)))/\(∀w∈ws,Un5 w)/\PF ws/\ws.length<=40/\Pot M' r 500) ?_ (fun hu=>?_)
  rotate_left
  ·refine⟨_,rfl,r,10,0+400,rfl,rfl,P1,by omega,by decide,aW (by decide),fun v o h0 h1 P2=>⟨_,rfl,?_⟩⟩;refine bD (fun _=>?_) (fun _=>hu _ _ ⟨6,24,l,ws,⟨by decide,by decide,by decide,by decide⟩,rfl,nrl,by rw[ai nrl.symm];exact hl,hU,hF,by omega,P2.le (by omega)⟩);exact⟨_,rfl,r,0+400+1,rfl,rfl,P2,by omega,fun l2 ws2 M4 n2 f2 kx2 hl2 U2 F2 len2 P3=>hu _ _ ⟨12,0,l2,ws2,⟨by decide,by decide,by decide,by decide⟩,rfl,n2,hl2,U2,F2,len2,P3.le (by omega)⟩⟩
  clear hl nrl fl kx hU hF hlen P1
  rintro δ M3 ⟨g,h,l,ws,G,rfl,nrl,hl,hU,hF,hlen,P3⟩
  refine⟨_,rfl,_,rfl,_,hl,r,500,_,rfl,rfl,P3,by omega,fun t b x y M4 S ht hb hx hy kx4 P4=>?_⟩
  have hl4:=kx4 l _ (by simpa using nrl.symm) hl
  refine⟨_,rfl,t,b,x,y,l,ws.map (raw g h),rfl,rfl,(by rw[vJ];exact hl4),S,by rw[D8];omega,fun w hw=>?_,?_⟩
  ·obtain⟨w0,hw0,rfl⟩:=EJ.mp hw;obtain⟨a1,a2,a3,a4⟩:=Aj G (hU w0 hw0);exact⟨by omega,by omega,by omega,by omega⟩
  rw[uh]
  have S':=wH S G ht hb hx hy
  generalize g*t=t' at S' ⊢
  generalize x-h*t=x' at S' ⊢
  generalize y-h*t=y' at S' ⊢
  refine⟨_,rfl,t',b,x',y',ws,rfl,S',hlen,hU,hF,fun M5 z L sb5 fz hz il=>?_⟩
  refine⟨z,L,ws.length,rfl,hz,il.len,hlen,il.ld hlen,fun M6 lf li us A sb6 flf fli hlf up ul usm hA hli6=>?_⟩
  have uld:∀u∈us,Ld u.1/\Ld u.2:=fun u hu=>by obtain⟨w,_,e,_⟩:=jY ((usm u).mp hu);rw[<-e];exact pC (il.ld hlen) w
  have e0:(((E5 ws.length).filter fun w=>decide ((prL L w).1=(prL L w).2)).map fun w:Nat=>D.int (w:Int))=(((E5 ws.length).filter fun w=>decide ((prL L w).1=(prL L w).2)).map fun w:Nat=>(w:Int)).map D.int:=by rw[GB];rfl
  have ild:∀x∈(((E5 ws.length).filter fun w=>decide ((prL L w).1=(prL L w).2)).map fun w:Nat=>(w:Int)),Ld x:=fun x hx=>by
   obtain⟨w,hw,rfl⟩:=EJ.mp hx
   have:=GH.mp (EU.mp hw).1
   exact⟨by omega,by omega⟩
  have ill:(((E5 ws.length).filter fun w=>decide ((prL L w).1=(prL L w).2)).map fun w:Nat=>(w:Int)).length<=40:=by
   rw[D8]
   have:=FO (fun w=>decide ((prL L w).1=(prL L w).2)) (E5 ws.length)
   rw[List.length_range]at this
   omega
  have SH:Shn (aP L ws.length us (((E5 ws.length).filter fun w=>decide ((prL L w).1=(prL L w).2)).map fun w:Nat=>(w:Int))):=y6 hlen uld ul ild ill
  have pdue:Pd M6 (.tup [.ref lf,.ref li]) (aP L ws.length us (((E5 ws.length).filter fun w=>decide ((prL L w).1=(prL L w).2)).map fun w:Nat=>(w:Int))):=pU hlf (fun u hu=>(hA u hu).1) (by rw[hli6,e0])
  refine⟨2,rfl,by decide,fun j δ M'=>∃o6 o7 o8:Option D,δ=[some (.rol (FA D.int ns)),some (.int (i:Int)),some (.ref r),some (.ref l),some (.tup (ws.map (rwl t' b x' y'))),some (.tup [.ref lf,.ref li]),o6,o7,o8]/\SD.Sub M6 M',⟨_,_,_,rfl,.refl⟩,?_,fun δ M' q=>by obtain⟨o6,o7,o8,rfl,_⟩:=q;exact⟨_,_,_,_,_,_,_,_,rfl⟩⟩
  rintro j δ M7 hj ⟨o6',o7',o8',rfl,sb7⟩
  refine⟨_,rfl,t',b,x',y',ws,rfl,S',hlen,hU,hF,fun M8 zr us' B L' sb8 fzr hzr up' usm' hB injB il'=>?_⟩
  have eL:=jC il' il
  subst eL
  have eu:=uj up' up fun u=>(usm' u).trans (usm u).symm
  subst eu
  refine⟨_,rfl,t',b,x',y',ws,rfl,S',hlen,hU,hF,fun M9 zi L'' sb9 fzi hzi il''=>?_⟩
  have eL:=jC il'' il'
  subst eL
  refine⟨nbL rfl,?_⟩
  have pfound:Pd M9 (.tup [.ref zr,.ref zi]) (aP L'' ws.length us' (((E5 ws.length).filter fun w=>decide ((prL L'' w).1=(prL L'' w).2)).map fun w:Nat=>(w:Int))):=pU (sb9 _ _ hzr) (fun u hu=>sb9 _ _ (hB u hu).1) (by rw[hzi,e0])
  have to9:∀{a o},M6 a=some o->M9 a=some o:=fun h=>sb9 _ _ (sb8 _ _ (sb7 _ _ h))
  have pdue9:Pd M9 (.tup [.ref lf,.ref li]) (aP L'' ws.length us' (((E5 ws.length).filter fun w=>decide ((prL L'' w).1=(prL L'' w).2)).map fun w:Nat=>(w:Int))):=pU (to9 hlf) (fun u hu=>to9 (hA u hu).1) (by rw[to9 hli6,e0])
  refine⟨_,rfl,_,rfl,_,pfound,pdue9,rfl,SH,_,rfl,?_⟩
  refine bD (fun h=>absurd h (by decide)) (fun _=>?_)
  refine⟨_,rfl,_,rfl,_,sb9 _ _ hzr,fun a δ M'=>∃o8:Option D,δ=[some (.rol (FA D.int ns)),some (.int (i:Int)),some (.ref r),some (.ref l),some (.tup (ws.map (rwl t' b x' y'))),some (.tup [.ref lf,.ref li]),some (.int (j:Int)),some (.tup [.ref zr,.ref zi]),o8]/\(∀c o,(∀u∈us',c≠B u)->M9 c=some o->M' c=some o)/\∀u∈us',∃ys,M' (B u)=some (.lst ys)/\ys.length<=40+a,⟨_,rfl,fun _ _ _ h=>h,fun u hu=>⟨_,sb9 _ _ (hB u hu).1,by rw[D8];have:=i9 L'' u ws.length;omega⟩⟩,fun a δ M' _ q=>by obtain⟨_,_,q,_⟩:=q;exact q zr _ (fun u hu=>(hB u hu).2.2.symm) (sb9 _ _ hzr),?_,?_⟩
  ·rintro a d δ M' ha hd ⟨o8,rfl,kM,hys⟩;have ha:a<us'.length:=by have:a<(us'.map fun u=>D.tup [.int u.1,.int u.2,.ref (B u)]).length:=ha;simpa using this
   have hd:(us'.map fun u=>D.tup [.int u.1,.int u.2,.ref (B u)])[a]?=some d:=hd;rw[E4,E2 ha]at hd;cases hd;have hu:=ET ha;obtain⟨ys,hy,yl⟩:=hys _ hu;refine⟨_,rfl,_,rfl,B us'[a],ys,rfl,hy,_,_,rfl,hy,by omega,?_⟩;refine⟨_,rfl,fun c o na h=>by rw[ai (na _ hu)];exact kM c o na h,fun u hu'=>?_⟩;by_cases e:B u=B us'[a]
   ·rw[e];exact⟨_,af,by simp;omega⟩
   ·obtain⟨zs,h1,h2⟩:=hys u hu';exact⟨zs,by rw[ai e];exact h1,by omega⟩
  ·rintro δ M' ⟨o8,rfl,kM,hys⟩;have hzr':M' zr=some (.lst (us'.map fun u=>D.tup [.int u.1,.int u.2,.ref (B u)])):=kM zr _ (fun u hu=>(hB u hu).2.2.symm) (sb9 _ _ hzr);have nir:zi≠zr:=fun e=>by rw[e,hzr]at fzi;cases fzi
   have hzi':M' zi=some (.lst (((E5 ws.length).filter fun w=>decide ((prL L'' w).1=(prL L'' w).2)).map fun w:Nat=>D.int (w:Int))):=kM zi _ (fun u hu e=>by rw[e,(hB u hu).1]at fzi;cases fzi) hzi;have hzi2:(aq M' zr (.lst [])) zi=some (.lst (((E5 ws.length).filter fun w=>decide ((prL L'' w).1=(prL L'' w).2)).map fun w:Nat=>D.int (w:Int))):=by rw[ai nir];exact hzi'
   refine⟨_,rfl,_,rfl,zr,_,rfl,hzr',?_⟩;refine⟨_,rfl,_,rfl,zi,_,rfl,hzi2,_,_,rfl,hzi2,(by rw[D8]at ill ⊢;omega),?_⟩;refine⟨_,_,_,rfl,fun a o h=>?_⟩;have h7:=sb7 _ _ h;have h8:=sb8 _ _ h7;rw[ai (fun e=>by rw[e,fzi]at h8;cases h8),ai (fun e=>by rw[e,fzr]at h7;cases h7)];exact kM a o (fun u hu e=>by rw[e,(hB u hu).2.1]at h7;cases h7) (sb9 _ _ h8)
theorem AH(ns:List Int)(M:MH)(h:ns.length<=63):ig [.rol (ns.map D.int)] M (fun d _=>d=.bl true):=⟨ns,rfl,h,fun _=>rfl⟩
def kE(P:Et)(n:String)(k:Nat)(v:D4):Fe:={ hash:=PyData.keyHash P (Ga n),key:=.str (Ga n) k,val:=v }
def kF(i:Nat)(n m:String)(k c:Nat):Obj:={ cls:=.type "function",data:=.func { name:=Ga n,qualname:=Ga n,params:=bY (top i),body:=.stmts (aS (top i)),scope:=ao (top i),globals:=↑3,closure:=[],defaults:=.none,kwdefaults:=.none,pyModule:=.str (Ga m) k,code:=.ref c } }
def kD0(P:Et):List Fe:=[kE P "__name__" ↑165 (.str "law_spotlook_k57_lands_beside_one_another" 536),kE P "__doc__" ↑166 (.none),kE P "__package__" ↑167 (.none),kE P "__loader__" ↑168 (.builtin "__main__.__loader__#opaque"),kE P "__spec__" ↑169 (.none),kE P "__annotations__" ↑170 (.ref ↑6),kE P "__builtins__" ↑171 (.ref ↑4),kE P "__file__" ↑173 (.str "/claim/cut.py" 172)]
def kD1(P:Et):List Fe:=[kE P "__cached__" ↑174 (.none),kE P "SpotError" ↑206 (.ref ↑24),kE P "NoFraction" ↑222 (.ref ↑37),kE P "greatest_divisor" ↑232 (.ref ↑46),kE P "fraction" ↑241 (.ref ↑53),kE P "is_less" ↑249 (.ref ↑60),kE P "common_bottom" ↑258 (.ref ↑67),kE P "top_over" ↑266 (.ref ↑74)]
def kD2(P:Et):List Fe:=[kE P "is_ahead" ↑276 (.ref ↑81),kE P "later_of" ↑284 (.ref ↑88),kE P "earlier_of" ↑292 (.ref ↑95),kE P "place_among" ↑303 (.ref ↑102),kE P "ahead_first" ↑312 (.ref ↑109),kE P "own_spot" ↑321 (.ref ↑116),kE P "own_wall" ↑328 (.ref ↑123),kE P "gap" ↑336 (.ref ↑130)]
def kD3(P:Et):List Fe:=[kE P "lean" ↑354 (.ref ↑137),kE P "side_of" ↑363 (.ref ↑144),kE P "spans" ↑373 (.ref ↑151),kE P "is_above" ↑385 (.ref ↑158),kE P "upper_of" ↑394 (.ref ↑165),kE P "upper_below" ↑400 (.ref ↑170),kE P "face_ends" ↑412 (.ref ↑177),kE P "faces_by_start" ↑421 (.ref ↑184)]
def kD4(P:Et):List Fe:=[kE P "is_met_sooner" ↑433 (.ref ↑191),kE P "face_behind" ↑447 (.ref ↑198),kE P "ring_from" ↑458 (.ref ↑205),kE P "rings_of" ↑471 (.ref ↑212),kE P "twice_area" ↑477 (.ref ↑217),kE P "outer_and_inner" ↑489 (.ref ↑224),kE P "first_corner" ↑499 (.ref ↑231),kE P "land_about" ↑509 (.ref ↑238)]
def kD5(P:Et):List Fe:=[kE P "lands_of_faces" ↑515 (.ref ↑243),kE P "lands_beside" ↑523 (.ref ↑248),kE P "neighbours" ↑529 (.ref ↑253),kE P "within" ↑535 (.ref ↑258),kE P "_law_pot" ↑546 (.ref ↑265),kE P "_law_take" ↑556 (.ref ↑272),kE P "_law_side" ↑569 (.ref ↑279),kE P "_law_on" ↑577 (.ref ↑286)]
def kD6(P:Et):List Fe:=[kE P "_law_apart" ↑589 (.ref ↑293),kE P "_law_new_spot" ↑597 (.ref ↑300),kE P "_law_some_spot" ↑606 (.ref ↑307),kE P "_law_square" ↑617 (.ref ↑314),kE P "_law_laid" ↑623 (.ref ↑319),kE P "_law_shuts_here" ↑629 (.ref ↑324),kE P "_law_frac" ↑639 (.ref ↑331),kE P "_law_frame" ↑645 (.ref ↑336)]
def kD7(P:Et):List Fe:=[kE P "_law_given" ↑657 (.ref ↑343),kE P "_law_plot" ↑663 (.ref ↑348),kE P "_law_same" ↑671 (.ref ↑355),kE P "_law_due" ↑677 (.ref ↑360),kE P "_law_squares" ↑683 (.ref ↑365),kE P "law" ↑698 (.ref ↑372)]
def kG(P:Et):Obj:={ cls:=.type "dict",data:=.dict (F4 (kD0 P++(kD1 P++(kD2 P++(kD3 P++(kD4 P++(kD5 P++(kD6 P++(kD7 P))))))))) 62 }
def kCo(n:String)(a0:Nat)(a1:Nat)(a2:Nat)(a3:Nat)(a4:Nat)(a8:Nat)(a11:Nat)(a13:Nat)(a14:Nat)(a15:Nat)(a16:Nat)(a17:Nat)(a18:Nat):Obj:={ cls:=.type "code",data:=.fields #[.str (Ga n) a0,.str (Ga n) a1,.str "/claim/cut.py" a2,.int (GL a3) 0,.int (GL a4) 0,.int 0 0,.int 0 0,.int 3 0,.ref a8,.bool true,.int 181 0,.ref a11,.none,.ref a13,.ref a14,.ref a15,.int (GL a16) 0,.int (GL a17) 0,.str "/claim/cut.py" a18] }
def kN(l:List Obj)(i:Nat):Obj:=l.getD i { cls:=.none,data:=.dict #[] }
def kL0:List Obj:=[kCo "greatest_divisor" ↑225 ↑226 ↑227 ↑7 ↑2 ↑40 ↑41 ↑42 ↑43 ↑44 ↑230 ↑7 ↑231,kF ↑4 "greatest_divisor" "spotlook.fractions" ↑223 ↑45,kCo "fraction" ↑233 ↑234 ↑235 ↑11 ↑2 ↑47 ↑48 ↑49 ↑50 ↑51 ↑239 ↑11 ↑240,kF ↑5 "fraction" "spotlook.fractions" ↑223 ↑52,kCo "is_less" ↑242 ↑243 ↑244 ↑18 ↑2 ↑54 ↑55 ↑56 ↑57 ↑58 ↑247 ↑18 ↑248,kF ↑6 "is_less" "spotlook.fractions" ↑223 ↑59,kCo "common_bottom" ↑250 ↑251 ↑252 ↑20 ↑1 ↑61 ↑62 ↑63 ↑64 ↑65 ↑256 ↑20 ↑257,kF ↑7 "common_bottom" "spotlook.fractions" ↑223 ↑66]
def kL1:List Obj:=[kCo "top_over" ↑259 ↑260 ↑261 ↑25 ↑2 ↑68 ↑69 ↑70 ↑71 ↑72 ↑264 ↑25 ↑265,kF ↑8 "top_over" "spotlook.fractions" ↑223 ↑73,kCo "is_ahead" ↑269 ↑270 ↑271 ↑28 ↑2 ↑75 ↑76 ↑77 ↑78 ↑79 ↑274 ↑28 ↑275,kF ↑10 "is_ahead" "spotlook.spots" ↑267 ↑80,kCo "later_of" ↑277 ↑278 ↑279 ↑32 ↑2 ↑82 ↑83 ↑84 ↑85 ↑86 ↑282 ↑32 ↑283,kF ↑11 "later_of" "spotlook.spots" ↑267 ↑87,kCo "earlier_of" ↑285 ↑286 ↑287 ↑34 ↑2 ↑89 ↑90 ↑91 ↑92 ↑93 ↑290 ↑34 ↑291,kF ↑12 "earlier_of" "spotlook.spots" ↑267 ↑94]
def kL2:List Obj:=[kCo "place_among" ↑293 ↑294 ↑295 ↑36 ↑2 ↑96 ↑97 ↑98 ↑99 ↑100 ↑301 ↑36 ↑302,kF ↑13 "place_among" "spotlook.spots" ↑267 ↑101,kCo "ahead_first" ↑304 ↑305 ↑306 ↑45 ↑1 ↑103 ↑104 ↑105 ↑106 ↑107 ↑310 ↑45 ↑311,kF ↑14 "ahead_first" "spotlook.spots" ↑267 ↑108,kCo "own_spot" ↑313 ↑314 ↑315 ↑50 ↑1 ↑110 ↑111 ↑112 ↑113 ↑114 ↑319 ↑50 ↑320,kF ↑15 "own_spot" "spotlook.spots" ↑267 ↑115,kCo "own_wall" ↑322 ↑323 ↑324 ↑53 ↑1 ↑117 ↑118 ↑119 ↑120 ↑121 ↑326 ↑53 ↑327,kF ↑16 "own_wall" "spotlook.spots" ↑267 ↑122]
def kL3:List Obj:=[kCo "gap" ↑329 ↑330 ↑331 ↑55 ↑2 ↑124 ↑125 ↑126 ↑127 ↑128 ↑334 ↑55 ↑335,kF ↑17 "gap" "spotlook.spots" ↑267 ↑129,kCo "lean" ↑337 ↑338 ↑339 ↑57 ↑2 ↑131 ↑132 ↑133 ↑134 ↑135 ↑352 ↑57 ↑353,kF ↑18 "lean" "spotlook.spots" ↑267 ↑136,kCo "side_of" ↑355 ↑356 ↑357 ↑63 ↑2 ↑138 ↑139 ↑140 ↑141 ↑142 ↑361 ↑63 ↑362,kF ↑19 "side_of" "spotlook.spots" ↑267 ↑143,kCo "spans" ↑366 ↑367 ↑368 ↑71 ↑2 ↑145 ↑146 ↑147 ↑148 ↑149 ↑371 ↑71 ↑372,kF ↑21 "spans" "spotlook.above" ↑364 ↑150]
def kL4:List Obj:=[kCo "is_above" ↑374 ↑375 ↑376 ↑73 ↑2 ↑152 ↑153 ↑154 ↑155 ↑156 ↑383 ↑73 ↑384,kF ↑22 "is_above" "spotlook.above" ↑364 ↑157,kCo "upper_of" ↑386 ↑387 ↑388 ↑81 ↑1 ↑159 ↑160 ↑161 ↑162 ↑163 ↑392 ↑81 ↑393,kF ↑23 "upper_of" "spotlook.above" ↑364 ↑164,{ cls:=.type "code",data:=.fields #[(.str "upper_below" 395),(.str "upper_below" 396),(.str "/claim/cut.py" 397),(.int 87 0),(.int 2 0),(.int 0 0),(.int 0 0),(.int 3 0),(.ref 166),(.bool true),(.int 181 0),(.ref 167),.none,.none,.none,(.ref 168),(.int 398 0),(.int 87 0),(.str "/claim/cut.py" 399)] },kF ↑24 "upper_below" "spotlook.above" ↑364 ↑169,kCo "face_ends" ↑403 ↑404 ↑405 ↑91 ↑2 ↑171 ↑172 ↑173 ↑174 ↑175 ↑410 ↑91 ↑411,kF ↑26 "face_ends" "spotlook.rings" ↑401 ↑176]
def kL5:List Obj:=[kCo "faces_by_start" ↑413 ↑414 ↑415 ↑94 ↑1 ↑178 ↑179 ↑180 ↑181 ↑182 ↑419 ↑94 ↑420,kF ↑27 "faces_by_start" "spotlook.rings" ↑401 ↑183,kCo "is_met_sooner" ↑422 ↑423 ↑424 ↑99 ↑4 ↑185 ↑186 ↑187 ↑188 ↑189 ↑431 ↑99 ↑432,kF ↑28 "is_met_sooner" "spotlook.rings" ↑401 ↑190,kCo "face_behind" ↑434 ↑435 ↑436 ↑105 ↑3 ↑192 ↑193 ↑194 ↑195 ↑196 ↑445 ↑105 ↑446,kF ↑29 "face_behind" "spotlook.rings" ↑401 ↑197,kCo "ring_from" ↑448 ↑449 ↑450 ↑113 ↑3 ↑199 ↑200 ↑201 ↑202 ↑203 ↑456 ↑113 ↑457,kF ↑30 "ring_from" "spotlook.rings" ↑401 ↑204]
def kL6:List Obj:=[kCo "rings_of" ↑459 ↑460 ↑461 ↑120 ↑1 ↑206 ↑207 ↑208 ↑209 ↑210 ↑469 ↑120 ↑470,kF ↑31 "rings_of" "spotlook.rings" ↑401 ↑211,{ cls:=.type "code",data:=.fields #[(.str "twice_area" 472),(.str "twice_area" 473),(.str "/claim/cut.py" 474),(.int 131 0),(.int 2 0),(.int 0 0),(.int 0 0),(.int 3 0),(.ref 213),(.bool true),(.int 181 0),(.ref 214),.none,.none,.none,(.ref 215),(.int 475 0),(.int 131 0),(.str "/claim/cut.py" 476)] },kF ↑32 "twice_area" "spotlook.rings" ↑401 ↑216,kCo "outer_and_inner" ↑480 ↑481 ↑482 ↑141 ↑1 ↑218 ↑219 ↑220 ↑221 ↑222 ↑487 ↑141 ↑488,kF ↑34 "outer_and_inner" "spotlook.lands" ↑478 ↑223,kCo "first_corner" ↑490 ↑491 ↑492 ↑149 ↑2 ↑225 ↑226 ↑227 ↑228 ↑229 ↑497 ↑149 ↑498,kF ↑35 "first_corner" "spotlook.lands" ↑478 ↑230]
def kL7:List Obj:=[kCo "land_about" ↑500 ↑501 ↑502 ↑154 ↑3 ↑232 ↑233 ↑234 ↑235 ↑236 ↑507 ↑154 ↑508,kF ↑36 "land_about" "spotlook.lands" ↑478 ↑237,{ cls:=.type "code",data:=.fields #[(.str "lands_of_faces" 510),(.str "lands_of_faces" 511),(.str "/claim/cut.py" 512),(.int 157 0),(.int 1 0),(.int 0 0),(.int 0 0),(.int 3 0),(.ref 239),(.bool true),(.int 181 0),(.ref 240),.none,.none,.none,(.ref 241),(.int 513 0),(.int 157 0),(.str "/claim/cut.py" 514)] },kF ↑37 "lands_of_faces" "spotlook.lands" ↑478 ↑242,{ cls:=.type "code",data:=.fields #[(.str "lands_beside" 518),(.str "lands_beside" 519),(.str "/claim/cut.py" 520),(.int 170 0),(.int 1 0),(.int 0 0),(.int 0 0),(.int 3 0),(.ref 244),(.bool true),(.int 181 0),(.ref 245),.none,.none,.none,(.ref 246),(.int 521 0),(.int 170 0),(.str "/claim/cut.py" 522)] },kF ↑39 "lands_beside" "spotlook.beside" ↑516 ↑247,{ cls:=.type "code",data:=.fields #[(.str "neighbours" 524),(.str "neighbours" 525),(.str "/claim/cut.py" 526),(.int 173 0),(.int 1 0),(.int 0 0),(.int 0 0),(.int 3 0),(.ref 249),(.bool true),(.int 181 0),(.ref 250),.none,.none,.none,(.ref 251),(.int 527 0),(.int 173 0),(.str "/claim/cut.py" 528)] },kF ↑40 "neighbours" "spotlook.beside" ↑516 ↑252]
def kL8:List Obj:=[{ cls:=.type "code",data:=.fields #[(.str "within" 530),(.str "within" 531),(.str "/claim/cut.py" 532),(.int 179 0),(.int 1 0),(.int 0 0),(.int 0 0),(.int 3 0),(.ref 254),(.bool true),(.int 181 0),(.ref 255),.none,.none,.none,(.ref 256),(.int 533 0),(.int 179 0),(.str "/claim/cut.py" 534)] },kF ↑41 "within" "spotlook.beside" ↑516 ↑257,kCo "_law_pot" ↑538 ↑539 ↑540 ↑182 ↑2 ↑259 ↑260 ↑261 ↑262 ↑263 ↑544 ↑182 ↑545,kF ↑43 "_law_pot" "law_spotlook_k57_lands_beside_one_another" ↑536 ↑264,kCo "_law_take" ↑547 ↑548 ↑549 ↑187 ↑2 ↑266 ↑267 ↑268 ↑269 ↑270 ↑554 ↑187 ↑555,kF ↑44 "_law_take" "law_spotlook_k57_lands_beside_one_another" ↑536 ↑271,kCo "_law_side" ↑557 ↑558 ↑559 ↑196 ↑2 ↑273 ↑274 ↑275 ↑276 ↑277 ↑567 ↑196 ↑568,kF ↑45 "_law_side" "law_spotlook_k57_lands_beside_one_another" ↑536 ↑278]
def kL9:List Obj:=[kCo "_law_on" ↑570 ↑571 ↑572 ↑201 ↑2 ↑280 ↑281 ↑282 ↑283 ↑284 ↑575 ↑201 ↑576,kF ↑46 "_law_on" "law_spotlook_k57_lands_beside_one_another" ↑536 ↑285,kCo "_law_apart" ↑578 ↑579 ↑580 ↑203 ↑2 ↑287 ↑288 ↑289 ↑290 ↑291 ↑587 ↑203 ↑588,kF ↑47 "_law_apart" "law_spotlook_k57_lands_beside_one_another" ↑536 ↑292,kCo "_law_new_spot" ↑590 ↑591 ↑592 ↑210 ↑2 ↑294 ↑295 ↑296 ↑297 ↑298 ↑595 ↑210 ↑596,kF ↑48 "_law_new_spot" "law_spotlook_k57_lands_beside_one_another" ↑536 ↑299,kCo "_law_some_spot" ↑598 ↑599 ↑600 ↑212 ↑3 ↑301 ↑302 ↑303 ↑304 ↑305 ↑604 ↑212 ↑605,kF ↑49 "_law_some_spot" "law_spotlook_k57_lands_beside_one_another" ↑536 ↑306]
def kL10:List Obj:=[kCo "_law_square" ↑607 ↑608 ↑609 ↑216 ↑2 ↑308 ↑309 ↑310 ↑311 ↑312 ↑615 ↑216 ↑616,kF ↑50 "_law_square" "law_spotlook_k57_lands_beside_one_another" ↑536 ↑313,{ cls:=.type "code",data:=.fields #[(.str "_law_laid" 618),(.str "_law_laid" 619),(.str "/claim/cut.py" 620),(.int 222 0),(.int 3 0),(.int 0 0),(.int 0 0),(.int 3 0),(.ref 315),(.bool true),(.int 181 0),(.ref 316),.none,.none,.none,(.ref 317),(.int 621 0),(.int 222 0),(.str "/claim/cut.py" 622)] },kF ↑51 "_law_laid" "law_spotlook_k57_lands_beside_one_another" ↑536 ↑318,{ cls:=.type "code",data:=.fields #[(.str "_law_shuts_here" 624),(.str "_law_shuts_here" 625),(.str "/claim/cut.py" 626),(.int 227 0),(.int 2 0),(.int 0 0),(.int 0 0),(.int 3 0),(.ref 320),(.bool true),(.int 181 0),(.ref 321),.none,.none,.none,(.ref 322),(.int 627 0),(.int 227 0),(.str "/claim/cut.py" 628)] },kF ↑52 "_law_shuts_here" "law_spotlook_k57_lands_beside_one_another" ↑536 ↑323,kCo "_law_frac" ↑630 ↑631 ↑632 ↑239 ↑2 ↑325 ↑326 ↑327 ↑328 ↑329 ↑637 ↑239 ↑638,kF ↑53 "_law_frac" "law_spotlook_k57_lands_beside_one_another" ↑536 ↑330]
def kL11:List Obj:=[{ cls:=.type "code",data:=.fields #[(.str "_law_frame" 640),(.str "_law_frame" 641),(.str "/claim/cut.py" 642),(.int 245 0),(.int 2 0),(.int 0 0),(.int 0 0),(.int 3 0),(.ref 332),(.bool true),(.int 181 0),(.ref 333),.none,.none,.none,(.ref 334),(.int 643 0),(.int 245 0),(.str "/claim/cut.py" 644)] },kF ↑54 "_law_frame" "law_spotlook_k57_lands_beside_one_another" ↑536 ↑335,kCo "_law_given" ↑646 ↑647 ↑648 ↑254 ↑2 ↑337 ↑338 ↑339 ↑340 ↑341 ↑655 ↑254 ↑656,kF ↑55 "_law_given" "law_spotlook_k57_lands_beside_one_another" ↑536 ↑342,{ cls:=.type "code",data:=.fields #[(.str "_law_plot" 658),(.str "_law_plot" 659),(.str "/claim/cut.py" 660),(.int 257 0),(.int 2 0),(.int 0 0),(.int 0 0),(.int 3 0),(.ref 344),(.bool true),(.int 181 0),(.ref 345),.none,.none,.none,(.ref 346),(.int 661 0),(.int 257 0),(.str "/claim/cut.py" 662)] },kF ↑56 "_law_plot" "law_spotlook_k57_lands_beside_one_another" ↑536 ↑347,kCo "_law_same" ↑664 ↑665 ↑666 ↑259 ↑2 ↑349 ↑350 ↑351 ↑352 ↑353 ↑669 ↑259 ↑670,kF ↑57 "_law_same" "law_spotlook_k57_lands_beside_one_another" ↑536 ↑354]
def kL12:List Obj:=[{ cls:=.type "code",data:=.fields #[(.str "_law_due" 672),(.str "_law_due" 673),(.str "/claim/cut.py" 674),(.int 261 0),(.int 1 0),(.int 0 0),(.int 0 0),(.int 3 0),(.ref 356),(.bool true),(.int 181 0),(.ref 357),.none,.none,.none,(.ref 358),(.int 675 0),(.int 261 0),(.str "/claim/cut.py" 676)] },kF ↑58 "_law_due" "law_spotlook_k57_lands_beside_one_another" ↑536 ↑359,{ cls:=.type "code",data:=.fields #[(.str "_law_squares" 678),(.str "_law_squares" 679),(.str "/claim/cut.py" 680),(.int 275 0),(.int 2 0),(.int 0 0),(.int 0 0),(.int 3 0),(.ref 361),(.bool true),(.int 181 0),(.ref 362),.none,.none,.none,(.ref 363),(.int 681 0),(.int 275 0),(.str "/claim/cut.py" 682)] },kF ↑59 "_law_squares" "law_spotlook_k57_lands_beside_one_another" ↑536 ↑364,kCo "law" ↑684 ↑685 ↑686 ↑286 ↑1 ↑366 ↑367 ↑368 ↑369 ↑370 ↑696 ↑286 ↑697,kF ↑60 "law" "law_spotlook_k57_lands_beside_one_another" ↑536 ↑371]
def kK:Et->D5:=fun P=>(↑3,kG P)::(↑45,kN kL0 ↑0)::(↑46,kN kL0 ↑1)::(↑52,kN kL0 ↑2)::(↑53,kN kL0 ↑3)::(↑59,kN kL0 ↑4)::(↑60,kN kL0 ↑5)::(↑66,kN kL0 ↑6)::(↑67,kN kL0 ↑7)::(↑73,kN kL1 ↑0)::(↑74,kN kL1 ↑1)::(↑80,kN kL1 ↑2)::(↑81,kN kL1 ↑3)::(↑87,kN kL1 ↑4)::(↑88,kN kL1 ↑5)::(↑94,kN kL1 ↑6)::(↑95,kN kL1 ↑7)::(↑101,kN kL2 ↑0)::(↑102,kN kL2 ↑1)::(↑108,kN kL2 ↑2)::(↑109,kN kL2 ↑3)::(↑115,kN kL2 ↑4)::(↑116,kN kL2 ↑5)::(↑122,kN kL2 ↑6)::(↑123,kN kL2 ↑7)::(↑129,kN kL3 ↑0)::(↑130,kN kL3 ↑1)::(↑136,kN kL3 ↑2)::(↑137,kN kL3 ↑3)::(↑143,kN kL3 ↑4)::(↑144,kN kL3 ↑5)::(↑150,kN kL3 ↑6)::(↑151,kN kL3 ↑7)::(↑157,kN kL4 ↑0)::(↑158,kN kL4 ↑1)::(↑164,kN kL4 ↑2)::(↑165,kN kL4 ↑3)::(↑169,kN kL4 ↑4)::(↑170,kN kL4 ↑5)::(↑176,kN kL4 ↑6)::(↑177,kN kL4 ↑7)::(↑183,kN kL5 ↑0)::(↑184,kN kL5 ↑1)::(↑190,kN kL5 ↑2)::(↑191,kN kL5 ↑3)::(↑197,kN kL5 ↑4)::(↑198,kN kL5 ↑5)::(↑204,kN kL5 ↑6)::(↑205,kN kL5 ↑7)::(↑211,kN kL6 ↑0)::(↑212,kN kL6 ↑1)::(↑216,kN kL6 ↑2)::(↑217,kN kL6 ↑3)::(↑223,kN kL6 ↑4)::(↑224,kN kL6 ↑5)::(↑230,kN kL6 ↑6)::(↑231,kN kL6 ↑7)::(↑237,kN kL7 ↑0)::(↑238,kN kL7 ↑1)::(↑242,kN kL7 ↑2)::(↑243,kN kL7 ↑3)::(↑247,kN kL7 ↑4)::(↑248,kN kL7 ↑5)::(↑252,kN kL7 ↑6)::(↑253,kN kL7 ↑7)::(↑257,kN kL8 ↑0)::(↑258,kN kL8 ↑1)::(↑264,kN kL8 ↑2)::(↑265,kN kL8 ↑3)::(↑271,kN kL8 ↑4)::(↑272,kN kL8 ↑5)::(↑278,kN kL8 ↑6)::(↑279,kN kL8 ↑7)::(↑285,kN kL9 ↑0)::(↑286,kN kL9 ↑1)::(↑292,kN kL9 ↑2)::(↑293,kN kL9 ↑3)::(↑299,kN kL9 ↑4)::(↑300,kN kL9 ↑5)::(↑306,kN kL9 ↑6)::(↑307,kN kL9 ↑7)::(↑313,kN kL10 ↑0)::(↑314,kN kL10 ↑1)::(↑318,kN kL10 ↑2)::(↑319,kN kL10 ↑3)::(↑323,kN kL10 ↑4)::(↑324,kN kL10 ↑5)::(↑330,kN kL10 ↑6)::(↑331,kN kL10 ↑7)::(↑335,kN kL11 ↑0)::(↑336,kN kL11 ↑1)::(↑342,kN kL11 ↑2)::(↑343,kN kL11 ↑3)::(↑347,kN kL11 ↑4)::(↑348,kN kL11 ↑5)::(↑354,kN kL11 ↑6)::(↑355,kN kL11 ↑7)::(↑359,kN kL12 ↑0)::(↑360,kN kL12 ↑1)::(↑364,kN kL12 ↑2)::(↑365,kN kL12 ↑3)::(↑371,kN kL12 ↑4)::(↑372,kN kL12 ↑5)::[]
end QQ
namespace QQ
open PySem L2
inductive Tg{A:Type}(a:A):Type where|mk:Tg a
noncomputable def pk{A:Type}{a:A}(_:Tg a):A:=a
noncomputable def hE(P:Et)(n:Str)(k:Nat)(v:D4):Fe:={ hash:=PyData.keyHash P n,key:=.str n k,val:=v }
noncomputable def kU(s:Stmt)(n q:Str)(g:Nat)(m c:D4):Gw:={ name:=n,qualname:=q,params:=bY s,body:=.stmts (aS s),scope:=ao s,globals:=g,closure:=[],defaults:=.none,kwdefaults:=.none,pyModule:=m,code:=c }
noncomputable def kC(s:Stmt)(i:Nat):Stmt:=match s with
 |.ClassDef (body:=b) ..=>b.getD i (.Pass ⟨0,0,0,0⟩)
 |s=>s
noncomputable def kTu(l:List D4):Obj:={ cls:=.type "tuple",data:=.seq l.toArray 0 }
noncomputable def kFd(l:List D4):Obj:={ cls:=.none,data:=.fields l.toArray }
local macro_rules | `(tactic| walk_at "st") => `(tactic| (intro t; (conv at t => (arg 1; whnf)); exact pk (.mk : type_of% t)))
noncomputable def st0:Stmt:=by refine'(?_:Tg (top 0)->Stmt) .mk;walk_at "st"
noncomputable def st1:Stmt:=by refine'(?_:Tg (top 1)->Stmt) .mk;walk_at "st"
noncomputable def st2:Stmt:=by refine'(?_:Tg (top 2)->Stmt) .mk;walk_at "st"
noncomputable def st3:Stmt:=by refine'(?_:Tg (top 3)->Stmt) .mk;walk_at "st"
noncomputable def st4:Stmt:=by refine'(?_:Tg (top 4)->Stmt) .mk;walk_at "st"
noncomputable def st5:Stmt:=by refine'(?_:Tg (top 5)->Stmt) .mk;walk_at "st"
noncomputable def st6:Stmt:=by refine'(?_:Tg (top 6)->Stmt) .mk;walk_at "st"
noncomputable def st7:Stmt:=by refine'(?_:Tg (top 7)->Stmt) .mk;walk_at "st"
noncomputable def st8:Stmt:=by refine'(?_:Tg (top 8)->Stmt) .mk;walk_at "st"
noncomputable def st9:Stmt:=by refine'(?_:Tg (top 9)->Stmt) .mk;walk_at "st"
noncomputable def st10:Stmt:=by refine'(?_:Tg (top 10)->Stmt) .mk;walk_at "st"
noncomputable def st11:Stmt:=by refine'(?_:Tg (top 11)->Stmt) .mk;walk_at "st"
noncomputable def st12:Stmt:=by refine'(?_:Tg (top 12)->Stmt) .mk;walk_at "st"
noncomputable def st13:Stmt:=by refine'(?_:Tg (top 13)->Stmt) .mk;walk_at "st"
noncomputable def st14:Stmt:=by refine'(?_:Tg (top 14)->Stmt) .mk;walk_at "st"
noncomputable def st15:Stmt:=by refine'(?_:Tg (top 15)->Stmt) .mk;walk_at "st"
noncomputable def st16:Stmt:=by refine'(?_:Tg (top 16)->Stmt) .mk;walk_at "st"
noncomputable def st17:Stmt:=by refine'(?_:Tg (top 17)->Stmt) .mk;walk_at "st"
noncomputable def st18:Stmt:=by refine'(?_:Tg (top 18)->Stmt) .mk;walk_at "st"
noncomputable def st19:Stmt:=by refine'(?_:Tg (top 19)->Stmt) .mk;walk_at "st"
noncomputable def st20:Stmt:=by refine'(?_:Tg (top 20)->Stmt) .mk;walk_at "st"
noncomputable def st21:Stmt:=by refine'(?_:Tg (top 21)->Stmt) .mk;walk_at "st"
noncomputable def st22:Stmt:=by refine'(?_:Tg (top 22)->Stmt) .mk;walk_at "st"
noncomputable def st23:Stmt:=by refine'(?_:Tg (top 23)->Stmt) .mk;walk_at "st"
noncomputable def st24:Stmt:=by refine'(?_:Tg (top 24)->Stmt) .mk;walk_at "st"
noncomputable def st25:Stmt:=by refine'(?_:Tg (top 25)->Stmt) .mk;walk_at "st"
noncomputable def st26:Stmt:=by refine'(?_:Tg (top 26)->Stmt) .mk;walk_at "st"
noncomputable def st27:Stmt:=by refine'(?_:Tg (top 27)->Stmt) .mk;walk_at "st"
noncomputable def st28:Stmt:=by refine'(?_:Tg (top 28)->Stmt) .mk;walk_at "st"
noncomputable def st29:Stmt:=by refine'(?_:Tg (top 29)->Stmt) .mk;walk_at "st"
noncomputable def st30:Stmt:=by refine'(?_:Tg (top 30)->Stmt) .mk;walk_at "st"
noncomputable def st31:Stmt:=by refine'(?_:Tg (top 31)->Stmt) .mk;walk_at "st"
noncomputable def st32:Stmt:=by refine'(?_:Tg (top 32)->Stmt) .mk;walk_at "st"
noncomputable def st33:Stmt:=by refine'(?_:Tg (top 33)->Stmt) .mk;walk_at "st"
noncomputable def st34:Stmt:=by refine'(?_:Tg (top 34)->Stmt) .mk;walk_at "st"
noncomputable def st35:Stmt:=by refine'(?_:Tg (top 35)->Stmt) .mk;walk_at "st"
noncomputable def st36:Stmt:=by refine'(?_:Tg (top 36)->Stmt) .mk;walk_at "st"
noncomputable def st37:Stmt:=by refine'(?_:Tg (top 37)->Stmt) .mk;walk_at "st"
noncomputable def st38:Stmt:=by refine'(?_:Tg (top 38)->Stmt) .mk;walk_at "st"
noncomputable def st39:Stmt:=by refine'(?_:Tg (top 39)->Stmt) .mk;walk_at "st"
noncomputable def st40:Stmt:=by refine'(?_:Tg (top 40)->Stmt) .mk;walk_at "st"
noncomputable def st41:Stmt:=by refine'(?_:Tg (top 41)->Stmt) .mk;walk_at "st"
noncomputable def st42:Stmt:=by refine'(?_:Tg (top 42)->Stmt) .mk;walk_at "st"
noncomputable def st43:Stmt:=by refine'(?_:Tg (top 43)->Stmt) .mk;walk_at "st"
noncomputable def st44:Stmt:=by refine'(?_:Tg (top 44)->Stmt) .mk;walk_at "st"
noncomputable def st45:Stmt:=by refine'(?_:Tg (top 45)->Stmt) .mk;walk_at "st"
noncomputable def st46:Stmt:=by refine'(?_:Tg (top 46)->Stmt) .mk;walk_at "st"
noncomputable def st47:Stmt:=by refine'(?_:Tg (top 47)->Stmt) .mk;walk_at "st"
noncomputable def st48:Stmt:=by refine'(?_:Tg (top 48)->Stmt) .mk;walk_at "st"
noncomputable def st49:Stmt:=by refine'(?_:Tg (top 49)->Stmt) .mk;walk_at "st"
noncomputable def st50:Stmt:=by refine'(?_:Tg (top 50)->Stmt) .mk;walk_at "st"
noncomputable def st51:Stmt:=by refine'(?_:Tg (top 51)->Stmt) .mk;walk_at "st"
noncomputable def st52:Stmt:=by refine'(?_:Tg (top 52)->Stmt) .mk;walk_at "st"
noncomputable def st53:Stmt:=by refine'(?_:Tg (top 53)->Stmt) .mk;walk_at "st"
noncomputable def st54:Stmt:=by refine'(?_:Tg (top 54)->Stmt) .mk;walk_at "st"
noncomputable def st55:Stmt:=by refine'(?_:Tg (top 55)->Stmt) .mk;walk_at "st"
noncomputable def st56:Stmt:=by refine'(?_:Tg (top 56)->Stmt) .mk;walk_at "st"
noncomputable def st57:Stmt:=by refine'(?_:Tg (top 57)->Stmt) .mk;walk_at "st"
noncomputable def st58:Stmt:=by refine'(?_:Tg (top 58)->Stmt) .mk;walk_at "st"
noncomputable def st59:Stmt:=by refine'(?_:Tg (top 59)->Stmt) .mk;walk_at "st"
noncomputable def st60:Stmt:=by refine'(?_:Tg (top 60)->Stmt) .mk;walk_at "st"
noncomputable def scp:G5:=by refine'(?_:Tg (Es.main.scope)->G5) .mk;walk_at "st"
noncomputable def fil:Str:=by refine'(?_:Tg (Es.main.file)->Str) .mk;walk_at "st"
noncomputable def giv:Given:=by refine'(?_:Tg (Es.given)->Given) .mk;walk_at "st"
noncomputable def pw2:Ee:={ main:={ body:=[st0,st1,st2,st3,st4,st5,st6,st7,st8,st9,st10,st11,st12,st13,st14,st15,st16,st17,st18,st19,st20,st21,st22,st23,st24,st25,st26,st27,st28,st29,st30,st31,st32,st33,st34,st35,st36,st37,st38,st39,st40,st41,st42,st43,st44,st45,st46,st47,st48,st49,st50,st51,st52,st53,st54,st55,st56,st57,st58,st59,st60],scope:=scp,futureAnnotations:=false,file:=fil,more:=[] },modules:=[],parses:=[],absent:=[],harvested:=[],given:=giv }
noncomputable def vw:Ee:={ pw2 with main:={ pw2.main with body:=[st1,st2,st4,st5,st6,st7,st8,st10,st11,st12,st13,st14,st15,st16,st17,st18,st19,st21,st22,st23,st24,st26,st27,st28,st29,st30,st31,st32,st34,st35,st36,st37,st39,st40,st41,st43,st44,st45,st46,st47,st48,st49,st50,st51,st52,st53,st54,st55,st56,st57,st58,st59,st60] } }
noncomputable def sx0:List Stmt:=[st0,st1]
noncomputable def sx1:List Stmt:=[st2,st3,st4,st5,st6,st7,st8,st9]
noncomputable def sx2:List Stmt:=[st10,st11,st12,st13,st14,st15,st16,st17,st18,st19,st20,st21,st22]
noncomputable def sx3:List Stmt:=[st23,st24,st25,st26,st27,st28,st29,st30,st31,st32,st33,st34,st35,st36]
noncomputable def sx4:List Stmt:=[st37,st38,st39,st40,st41,st42,st43,st44,st45,st46,st47,st48,st49,st50]
noncomputable def sx5:List Stmt:=[st51,st52,st53,st54,st55,st56,st57,st58,st59,st60]
noncomputable def en3_0(P:Et):List Fe:=[hE P "__doc__" 166 .none,hE P "__package__" 167 .none,hE P "__loader__" 168 (.builtin "__main__.__loader__#opaque"),hE P "__spec__" 169 .none,hE P "__annotations__" 170 (.ref 6),hE P "__builtins__" 171 (.ref 4),hE P "__file__" 173 (.str "/claim/cut.py" 172),hE P "__cached__" 174 .none]
noncomputable def en3_1(P:Et):List Fe:=[hE P "SpotError" 206 (.ref 24),hE P "NoFraction" 222 (.ref 37),hE P "greatest_divisor" 232 (.ref 46),hE P "fraction" 241 (.ref 53),hE P "is_less" 249 (.ref 60),hE P "common_bottom" 258 (.ref 67),hE P "top_over" 266 (.ref 74),hE P "is_ahead" 276 (.ref 81)]
noncomputable def en3_2(P:Et):List Fe:=[hE P "later_of" 284 (.ref 88),hE P "earlier_of" 292 (.ref 95),hE P "place_among" 303 (.ref 102),hE P "ahead_first" 312 (.ref 109),hE P "own_spot" 321 (.ref 116),hE P "own_wall" 328 (.ref 123),hE P "gap" 336 (.ref 130),hE P "lean" 354 (.ref 137)]
noncomputable def en3_3(P:Et):List Fe:=[hE P "side_of" 363 (.ref 144),hE P "spans" 373 (.ref 151),hE P "is_above" 385 (.ref 158),hE P "upper_of" 394 (.ref 165),hE P "upper_below" 400 (.ref 170),hE P "face_ends" 412 (.ref 177),hE P "faces_by_start" 421 (.ref 184),hE P "is_met_sooner" 433 (.ref 191)]
noncomputable def en3_4(P:Et):List Fe:=[hE P "face_behind" 447 (.ref 198),hE P "ring_from" 458 (.ref 205),hE P "rings_of" 471 (.ref 212),hE P "twice_area" 477 (.ref 217),hE P "outer_and_inner" 489 (.ref 224),hE P "first_corner" 499 (.ref 231),hE P "land_about" 509 (.ref 238),hE P "lands_of_faces" 515 (.ref 243)]
noncomputable def en3_5(P:Et):List Fe:=[hE P "lands_beside" 523 (.ref 248),hE P "neighbours" 529 (.ref 253),hE P "within" 535 (.ref 258),hE P "_law_pot" 546 (.ref 265),hE P "_law_take" 556 (.ref 272),hE P "_law_side" 569 (.ref 279),hE P "_law_on" 577 (.ref 286),hE P "_law_apart" 589 (.ref 293)]
noncomputable def en3_6(P:Et):List Fe:=[hE P "_law_new_spot" 597 (.ref 300),hE P "_law_some_spot" 606 (.ref 307),hE P "_law_square" 617 (.ref 314),hE P "_law_laid" 623 (.ref 319),hE P "_law_shuts_here" 629 (.ref 324),hE P "_law_frac" 639 (.ref 331),hE P "_law_frame" 645 (.ref 336),hE P "_law_given" 657 (.ref 343)]
noncomputable def en3_7(P:Et):List Fe:=[hE P "_law_plot" 663 (.ref 348),hE P "_law_same" 671 (.ref 355),hE P "_law_due" 677 (.ref 360),hE P "_law_squares" 683 (.ref 365),hE P "law" 698 (.ref 372)]
noncomputable def en3(P:Et):List Fe:=en3_0 P++(en3_1 P++(en3_2 P++(en3_3 P++(en3_4 P++(en3_5 P++(en3_6 P++(en3_7 P)))))))
noncomputable def fl12:List D4:=[(.int 2 0),(.int 0 0),(.ref 20),(.int 4 0),(.int 0 0),(.ref 33),(.int 7 0),(.int 0 0),(.ref 45),(.int 11 0),(.int 0 0),(.ref 52),(.int 18 0),(.int 0 0),(.ref 59),(.int 20 0),(.int 0 0),(.ref 66),(.int 25 0),(.int 0 0),(.ref 73),(.int 28 0),(.int 0 0),(.ref 80),(.int 32 0),(.int 0 0),(.ref 87),(.int 34 0),(.int 0 0),(.ref 94),(.int 36 0),(.int 0 0),(.ref 101),(.int 45 0),(.int 0 0),(.ref 108),(.int 50 0),(.int 0 0),(.ref 115),(.int 53 0),(.int 0 0),(.ref 122),(.int 55 0),(.int 0 0),(.ref 129),(.int 57 0),(.int 0 0),(.ref 136),(.int 63 0),(.int 0 0),(.ref 143),(.int 71 0),(.int 0 0),(.ref 150),(.int 73 0),(.int 0 0),(.ref 157),(.int 81 0),(.int 0 0),(.ref 164),(.int 87 0),(.int 0 0),(.ref 169),(.int 91 0),(.int 0 0),(.ref 176),(.int 94 0),(.int 0 0),(.ref 183),(.int 99 0),(.int 0 0),(.ref 190),(.int 105 0),(.int 0 0),(.ref 197),(.int 113 0),(.int 0 0),(.ref 204),(.int 120 0),(.int 0 0),(.ref 211),(.int 131 0),(.int 0 0),(.ref 216),(.int 141 0),(.int 0 0),(.ref 223),(.int 149 0),(.int 0 0),(.ref 230),(.int 154 0),(.int 0 0),(.ref 237),(.int 157 0),(.int 0 0),(.ref 242),(.int 170 0),(.int 0 0),(.ref 247),(.int 173 0),(.int 0 0),(.ref 252),(.int 179 0),(.int 0 0),(.ref 257),(.int 182 0),(.int 0 0),(.ref 264),(.int 187 0),(.int 0 0),(.ref 271),(.int 196 0),(.int 0 0),(.ref 278),(.int 201 0),(.int 0 0),(.ref 285),(.int 203 0),(.int 0 0),(.ref 292),(.int 210 0),(.int 0 0),(.ref 299),(.int 212 0),(.int 0 0),(.ref 306),(.int 216 0),(.int 0 0),(.ref 313),(.int 222 0),(.int 0 0),(.ref 318),(.int 227 0),(.int 0 0),(.ref 323),(.int 239 0),(.int 0 0),(.ref 330),(.int 245 0),(.int 0 0),(.ref 335),(.int 254 0),(.int 0 0),(.ref 342),(.int 257 0),(.int 0 0),(.ref 347),(.int 259 0),(.int 0 0),(.ref 354),(.int 261 0),(.int 0 0),(.ref 359),(.int 275 0),(.int 0 0),(.ref 364),(.int 286 0),(.int 0 0),(.ref 371)]
noncomputable def hC(n:Str)(s0 s1 s2 s18 r8 r11 r13 r14 r15 i3 i4 i5 i6 i7 i10 i16 i17:Nat)(b9:Bool):Obj:={ cls:=.type "code",data:=.fields #[.str n s0,.str n s1,.str "/claim/cut.py" s2,.int (GL i3) 0,.int (GL i4) 0,.int (GL i5) 0,.int (GL i6) 0,.int (GL i7) 0,.ref r8,.bool b9,.int (GL i10) 0,.ref r11,.none,.ref r13,.ref r14,.ref r15,.int (GL i16) 0,.int (GL i17) 0,.str "/claim/cut.py" s18] }
noncomputable def hF(t:D4)(s:Stmt)(n:Str)(g:Nat)(m c:D4):Obj:={ cls:=t,data:=.func (kU s n n g m c) }
noncomputable def ob11:Obj:=kTu []
noncomputable def ob12:Obj:={ cls:=.none,data:=.fields (F4 (fl12.take 0)) }
noncomputable def ob13:Obj:={ cls:=(.type "code"),data:=(.fields #[(.str "<module>" 182),(.str "<module>" 183),(.str "/claim/cut.py" 184),(.int 1 0),(.int 0 0),(.int 0 0),(.int 0 0),(.int 0 0),(.ref 11),(.bool false),(.int 181 0),(.ref 12),.none,.none,.none,.none,(.int 185 0),(.int 1 0),(.str "/claim/cut.py" 186)]) }
noncomputable def ob14:Obj:={ cls:=(.type "frame"),slots:=#[(some (.ref 13)),(some (.ref 3)),(some (.ref 3)),none,(some (.str "__main__" 164)),none,(some (.ref 0))] }
noncomputable def ob15(P:Et):Obj:={ cls:=(.type "dict"),data:=.dict (F4 (hE P "__name__" 165 (.str "spotlook.errors" 187)::(en3 P).take 9)) 10 }
noncomputable def ob16:Obj:={ cls:=.none,data:=.fields (F4 (fl12.take 3)) }
noncomputable def ob17:Obj:=kTu [(.type "ValueError")]
noncomputable def ob18:Obj:={ cls:=(.type "builtin_function_or_method"),data:=(.fields #[(.builtin "type.__prepare__"),(.type "type")]) }
noncomputable def ob19(P:Et):Obj:={ cls:=(.type "dict"),data:=.dict (F4 [hE P "__module__" 196 (.str "spotlook.errors" 187),hE P "__qualname__" 198 (.str "SpotError" 197),hE P "__firstlineno__" 200 (.int 2 199),hE P "__static_attributes__" 201 (.ref 22)]) 4 }
noncomputable def ob20:Obj:={ cls:=(.type "code"),data:=(.fields #[(.str "SpotError" 191),(.str "SpotError" 192),(.str "/claim/cut.py" 193),(.int 2 0),(.int 0 0),(.int 0 0),(.int 0 0),(.int 0 0),(.ref 18),(.bool false),(.int 181 0),(.ref 19),.none,.none,.none,.none,(.int 194 0),(.int 2 0),(.str "/claim/cut.py" 195)]) }
noncomputable def ob21:Obj:={ cls:=(.type "frame"),slots:=#[(some (.ref 20)),(some (.ref 3)),(some (.ref 17)),none,(some (.str "spotlook.errors" 187)),none,(some (.ref 0))] }
noncomputable def ob22(P:Et):Obj:={ cls:=(.type "dict"),data:=.dict (F4 [hE P "__module__" 196 (.str "spotlook.errors" 187),hE P "__firstlineno__" 200 (.int 2 199),hE P "__static_attributes__" 201 (.ref 22),hE P "__weakref__" 203 (.ref 25),hE P "__doc__" 204 .none]) 3 }
noncomputable def ob23:Obj:={ cls:=(.type "type"),data:=(.cls { name:="SpotError",bases:=[(.type "ValueError")],mro:=[(.ref 24),(.type "ValueError"),(.type "Exception"),(.type "BaseException"),(.type "object")],ns:=23,qualname:="SpotError",hasDict:=true,slotNames:=[],subclasses:=[],abstract:=false,collection:=none,hasDel:=false }),slots:=#[(some (.ref 15)),none,(some (.str "SpotError" 189)),(some (.str "SpotError" 197)),(some (.builtin "ValueError.__new__")),(some (.bool true))] }
noncomputable def ob24:Obj:={ cls:=(.type "getset_descriptor"),data:=(.fields #[(.str "__weakref__" 202),(.ref 24),(.builtin "ExceptionGroup.__weakref__"),.none]) }
noncomputable def ob25:Obj:={ cls:=(.type "super"),data:=(.fields #[(.ref 24),(.ref 24),(.ref 24)]) }
noncomputable def ob26:Obj:={ cls:=(.type "builtin_function_or_method"),data:=(.fields #[(.builtin "object.__init_subclass__"),(.ref 24)]) }
noncomputable def ob27(P:Et):Obj:={ cls:=(.type "dict"),data:=.dict (F4 (hE P "__name__" 165 (.str "spotlook.spots" 267)::(en3 P).take 15)) 16 }
noncomputable def ob28:Obj:={ cls:=.none,data:=.fields (F4 (fl12.take 21)) }
noncomputable def ob29:Obj:={ cls:=(.type "type"),data:=(.cls { name:="SpotError",bases:=[(.type "ValueError")],mro:=[(.ref 24),(.type "ValueError"),(.type "Exception"),(.type "BaseException"),(.type "object")],ns:=23,qualname:="SpotError",hasDict:=true,slotNames:=[],subclasses:=[(.ref 37)],abstract:=false,collection:=none,hasDel:=false }),slots:=#[(some (.ref 15)),none,(some (.str "SpotError" 189)),(some (.str "SpotError" 197)),(some (.builtin "ValueError.__new__")),(some (.bool true))] }
noncomputable def ob30:Obj:=kTu [(.ref 24)]
noncomputable def ob31(P:Et):Obj:={ cls:=(.type "dict"),data:=.dict (F4 [hE P "__module__" 214 (.str "spotlook.errors" 187),hE P "__qualname__" 216 (.str "NoFraction" 215),hE P "__firstlineno__" 218 (.int 4 217),hE P "__static_attributes__" 219 (.ref 35)]) 4 }
noncomputable def ob32:Obj:={ cls:=(.type "code"),data:=(.fields #[(.str "NoFraction" 209),(.str "NoFraction" 210),(.str "/claim/cut.py" 211),(.int 4 0),(.int 0 0),(.int 0 0),(.int 0 0),(.int 0 0),(.ref 31),(.bool false),(.int 181 0),(.ref 32),.none,.none,.none,.none,(.int 212 0),(.int 4 0),(.str "/claim/cut.py" 213)]) }
noncomputable def ob33:Obj:={ cls:=(.type "frame"),slots:=#[(some (.ref 33)),(some (.ref 3)),(some (.ref 30)),none,(some (.str "spotlook.errors" 187)),none,(some (.ref 0))] }
noncomputable def ob34(P:Et):Obj:={ cls:=(.type "dict"),data:=.dict (F4 [hE P "__module__" 214 (.str "spotlook.errors" 187),hE P "__firstlineno__" 218 (.int 4 217),hE P "__static_attributes__" 219 (.ref 35),hE P "__doc__" 220 .none]) 2 }
noncomputable def ob35:Obj:={ cls:=(.type "type"),data:=(.cls { name:="NoFraction",bases:=[(.ref 24)],mro:=[(.ref 37),(.ref 24),(.type "ValueError"),(.type "Exception"),(.type "BaseException"),(.type "object")],ns:=36,qualname:="NoFraction",hasDict:=true,slotNames:=[],subclasses:=[],abstract:=false,collection:=none,hasDel:=false }),slots:=#[(some (.ref 28)),none,(some (.str "NoFraction" 207)),(some (.str "NoFraction" 215)),(some (.builtin "ValueError.__new__")),(some (.bool true))] }
noncomputable def ob36:Obj:={ cls:=(.type "super"),data:=(.fields #[(.ref 37),(.ref 37),(.ref 37)]) }
noncomputable def ob37:Obj:={ cls:=(.type "builtin_function_or_method"),data:=(.fields #[(.builtin "object.__init_subclass__"),(.ref 37)]) }
noncomputable def ob38:Obj:=kTu [(.str "one" 228),(.str "other" 229)]
noncomputable def ob39:Obj:=hF .none st4 "greatest_divisor" 0 .none .none
noncomputable def ob40:Obj:=hC "greatest_divisor" 225 226 227 231 40 41 42 43 44 7 2 0 0 3 181 230 7 true
noncomputable def ob41:Obj:=hF (.type "function") st4 "greatest_divisor" 3 (.str "spotlook.fractions" 223) (.ref 45)
noncomputable def ob42:Obj:=kTu [(.str "top" 236),(.str "bottom" 237),(.str "divisor" 238)]
noncomputable def ob43:Obj:=hF .none st5 "fraction" 0 .none .none
noncomputable def ob44:Obj:=hC "fraction" 233 234 235 240 47 48 49 50 51 11 2 0 0 3 181 239 11 true
noncomputable def ob45:Obj:=hF (.type "function") st5 "fraction" 3 (.str "spotlook.fractions" 223) (.ref 52)
noncomputable def ob46:Obj:=kTu [(.str "one" 245),(.str "other" 246)]
noncomputable def ob47:Obj:=hF .none st6 "is_less" 0 .none .none
noncomputable def ob48:Obj:=hC "is_less" 242 243 244 248 54 55 56 57 58 18 2 0 0 3 181 247 18 true
noncomputable def ob49:Obj:=hF (.type "function") st6 "is_less" 3 (.str "spotlook.fractions" 223) (.ref 59)
noncomputable def ob50:Obj:=kTu [(.str "parts" 253),(.str "common" 254),(.str "part" 255)]
noncomputable def ob51:Obj:=hF .none st7 "common_bottom" 0 .none .none
noncomputable def ob52:Obj:=hC "common_bottom" 250 251 252 257 61 62 63 64 65 20 1 0 0 3 181 256 20 true
noncomputable def ob53:Obj:=hF (.type "function") st7 "common_bottom" 3 (.str "spotlook.fractions" 223) (.ref 66)
noncomputable def ob54:Obj:=kTu [(.str "part" 262),(.str "bottom" 263)]
noncomputable def ob55:Obj:=hF .none st8 "top_over" 0 .none .none
noncomputable def ob56:Obj:=hC "top_over" 259 260 261 265 68 69 70 71 72 25 2 0 0 3 181 264 25 true
noncomputable def ob57:Obj:=hF (.type "function") st8 "top_over" 3 (.str "spotlook.fractions" 223) (.ref 73)
noncomputable def ob58(P:Et):Obj:={ cls:=(.type "dict"),data:=.dict (F4 (hE P "__name__" 165 (.str "spotlook.above" 364)::(en3 P).take 27)) 28 }
noncomputable def ob59:Obj:={ cls:=.none,data:=.fields (F4 (fl12.take 57)) }
noncomputable def ob60:Obj:=kTu [(.str "one" 272),(.str "other" 273)]
noncomputable def ob61:Obj:=hF .none st10 "is_ahead" 0 .none .none
noncomputable def ob62:Obj:=hC "is_ahead" 269 270 271 275 75 76 77 78 79 28 2 0 0 3 181 274 28 true
noncomputable def ob63:Obj:=hF (.type "function") st10 "is_ahead" 3 (.str "spotlook.spots" 267) (.ref 80)
noncomputable def ob64:Obj:=kTu [(.str "one" 280),(.str "other" 281)]
noncomputable def ob65:Obj:=hF .none st11 "later_of" 0 .none .none
noncomputable def ob66:Obj:=hC "later_of" 277 278 279 283 82 83 84 85 86 32 2 0 0 3 181 282 32 true
noncomputable def ob67:Obj:=hF (.type "function") st11 "later_of" 3 (.str "spotlook.spots" 267) (.ref 87)
noncomputable def ob68:Obj:=kTu [(.str "one" 288),(.str "other" 289)]
noncomputable def ob69:Obj:=hF .none st12 "earlier_of" 0 .none .none
noncomputable def ob70:Obj:=hC "earlier_of" 285 286 287 291 89 90 91 92 93 34 2 0 0 3 181 290 34 true
noncomputable def ob71:Obj:=hF (.type "function") st12 "earlier_of" 3 (.str "spotlook.spots" 267) (.ref 94)
noncomputable def ob72:Obj:=kTu [(.str "row" 296),(.str "spot" 297),(.str "low" 298),(.str "high" 299),(.str "middle" 300)]
noncomputable def ob73:Obj:=hF .none st13 "place_among" 0 .none .none
noncomputable def ob74:Obj:=hC "place_among" 293 294 295 302 96 97 98 99 100 36 2 0 0 3 181 301 36 true
noncomputable def ob75:Obj:=hF (.type "function") st13 "place_among" 3 (.str "spotlook.spots" 267) (.ref 101)
noncomputable def ob76:Obj:=kTu [(.str "spots" 307),(.str "row" 308),(.str "spot" 309)]
noncomputable def ob77:Obj:=hF .none st14 "ahead_first" 0 .none .none
noncomputable def ob78:Obj:=hC "ahead_first" 304 305 306 311 103 104 105 106 107 45 1 0 0 3 181 310 45 true
noncomputable def ob79:Obj:=hF (.type "function") st14 "ahead_first" 3 (.str "spotlook.spots" 267) (.ref 108)
noncomputable def ob80:Obj:=kTu [(.str "spot" 316),(.str "x" 317),(.str "y" 318)]
noncomputable def ob81:Obj:=hF .none st15 "own_spot" 0 .none .none
noncomputable def ob82:Obj:=hC "own_spot" 313 314 315 320 110 111 112 113 114 50 1 0 0 3 181 319 50 true
noncomputable def ob83:Obj:=hF (.type "function") st15 "own_spot" 3 (.str "spotlook.spots" 267) (.ref 115)
noncomputable def ob84:Obj:=kTu [(.str "wall" 325)]
noncomputable def ob85:Obj:=hF .none st16 "own_wall" 0 .none .none
noncomputable def ob86:Obj:=hC "own_wall" 322 323 324 327 117 118 119 120 121 53 1 0 0 3 181 326 53 true
noncomputable def ob87:Obj:=hF (.type "function") st16 "own_wall" 3 (.str "spotlook.spots" 267) (.ref 122)
noncomputable def ob88:Obj:=kTu [(.str "one" 332),(.str "other" 333)]
noncomputable def ob89:Obj:=hF .none st17 "gap" 0 .none .none
noncomputable def ob90:Obj:=hC "gap" 329 330 331 335 124 125 126 127 128 55 2 0 0 3 181 334 55 true
noncomputable def ob91:Obj:=hF (.type "function") st17 "gap" 3 (.str "spotlook.spots" 267) (.ref 129)
noncomputable def ob92:Obj:=kTu [(.str "wall" 340),(.str "spot" 341),(.str "a" 342),(.str "b" 343),(.str "c" 344),(.str "d" 345),(.str "x" 346),(.str "y" 347),(.str "across" 348),(.str "up" 349),(.str "along" 350),(.str "high" 351)]
noncomputable def ob93:Obj:=hF .none st18 "lean" 0 .none .none
noncomputable def ob94:Obj:=hC "lean" 337 338 339 353 131 132 133 134 135 57 2 0 0 3 181 352 57 true
noncomputable def ob95:Obj:=hF (.type "function") st18 "lean" 3 (.str "spotlook.spots" 267) (.ref 136)
noncomputable def ob96:Obj:=kTu [(.str "wall" 358),(.str "spot" 359),(.str "top" 360)]
noncomputable def ob97:Obj:=hF .none st19 "side_of" 0 .none .none
noncomputable def ob98:Obj:=hC "side_of" 355 356 357 362 138 139 140 141 142 63 2 0 0 3 181 361 63 true
noncomputable def ob99:Obj:=hF (.type "function") st19 "side_of" 3 (.str "spotlook.spots" 267) (.ref 143)
noncomputable def ob100:Obj:=kTu [(.str "wall" 369),(.str "spot" 370)]
noncomputable def ob101:Obj:=hF .none st21 "spans" 0 .none .none
noncomputable def ob102:Obj:=hC "spans" 366 367 368 372 145 146 147 148 149 71 2 0 0 3 181 371 71 true
noncomputable def ob103:Obj:=hF (.type "function") st21 "spans" 3 (.str "spotlook.above" 364) (.ref 150)
noncomputable def ob104:Obj:=kTu [(.str "one" 377),(.str "other" 378),(.str "start" 379),(.str "end" 380),(.str "place" 381),(.str "deciding" 382)]
noncomputable def ob105:Obj:=hF .none st22 "is_above" 0 .none .none
noncomputable def ob106:Obj:=hC "is_above" 374 375 376 384 152 153 154 155 156 73 2 0 0 3 181 383 73 true
noncomputable def ob107:Obj:=hF (.type "function") st22 "is_above" 3 (.str "spotlook.above" 364) (.ref 157)
noncomputable def ob108(P:Et):Obj:={ cls:=(.type "dict"),data:=.dict (F4 (hE P "__name__" 165 (.str "spotlook.lands" 478)::(en3 P).take 39)) 40 }
noncomputable def ob109:Obj:={ cls:=.none,data:=.fields (F4 (fl12.take 93)) }
noncomputable def ob110:Obj:=kTu [(.str "walls" 389),(.str "upper" 390),(.str "wall" 391)]
noncomputable def ob111:Obj:=hF .none st23 "upper_of" 0 .none .none
noncomputable def ob112:Obj:=hC "upper_of" 386 387 388 393 159 160 161 162 163 81 1 0 0 3 181 392 81 true
noncomputable def ob113:Obj:=hF (.type "function") st23 "upper_of" 3 (.str "spotlook.above" 364) (.ref 164)
noncomputable def ob114:Obj:=hF .none st24 "upper_below" 0 .none .none
noncomputable def ob115:Obj:={ cls:=(.type "code"),data:=(.fields #[(.str "upper_below" 395),(.str "upper_below" 396),(.str "/claim/cut.py" 397),(.int 87 0),(.int 2 0),(.int 0 0),(.int 0 0),(.int 3 0),(.ref 166),(.bool true),(.int 181 0),(.ref 167),.none,.none,.none,(.ref 168),(.int 398 0),(.int 87 0),(.str "/claim/cut.py" 399)]) }
noncomputable def ob116:Obj:=hF (.type "function") st24 "upper_below" 3 (.str "spotlook.above" 364) (.ref 169)
noncomputable def ob117:Obj:=kTu [(.str "plot" 406),(.str "face" 407),(.str "first" 408),(.str "second" 409)]
noncomputable def ob118:Obj:=hF .none st26 "face_ends" 0 .none .none
noncomputable def ob119:Obj:=hC "face_ends" 403 404 405 411 171 172 173 174 175 91 2 0 0 3 181 410 91 true
noncomputable def ob120:Obj:=hF (.type "function") st26 "face_ends" 3 (.str "spotlook.rings" 401) (.ref 176)
noncomputable def ob121:Obj:=kTu [(.str "plot" 416),(.str "leaving" 417),(.str "face" 418)]
noncomputable def ob122:Obj:=hF .none st27 "faces_by_start" 0 .none .none
noncomputable def ob123:Obj:=hC "faces_by_start" 413 414 415 420 178 179 180 181 182 94 1 0 0 3 181 419 94 true
noncomputable def ob124:Obj:=hF (.type "function") st27 "faces_by_start" 3 (.str "spotlook.rings" 401) (.ref 183)
noncomputable def ob125:Obj:=kTu [(.str "corner" 425),(.str "came_from" 426),(.str "one" 427),(.str "other" 428),(.str "turn" 429),(.str "other_turn" 430)]
noncomputable def ob126:Obj:=hF .none st28 "is_met_sooner" 0 .none .none
noncomputable def ob127:Obj:=hC "is_met_sooner" 422 423 424 432 185 186 187 188 189 99 4 0 0 3 181 431 99 true
noncomputable def ob128:Obj:=hF (.type "function") st28 "is_met_sooner" 3 (.str "spotlook.rings" 401) (.ref 190)
noncomputable def ob129:Obj:=kTu [(.str "plot" 437),(.str "leaving" 438),(.str "face" 439),(.str "came_from" 440),(.str "corner" 441),(.str "back" 442),(.str "best" 443),(.str "rival" 444)]
noncomputable def ob130:Obj:=hF .none st29 "face_behind" 0 .none .none
noncomputable def ob131:Obj:=hC "face_behind" 434 435 436 446 192 193 194 195 196 105 3 0 0 3 181 445 105 true
noncomputable def ob132:Obj:=hF (.type "function") st29 "face_behind" 3 (.str "spotlook.rings" 401) (.ref 197)
noncomputable def ob133:Obj:=kTu [(.str "plot" 451),(.str "leaving" 452),(.str "face" 453),(.str "ring" 454),(.str "at" 455)]
noncomputable def ob134:Obj:=hF .none st30 "ring_from" 0 .none .none
noncomputable def ob135:Obj:=hC "ring_from" 448 449 450 457 199 200 201 202 203 113 3 0 0 3 181 456 113 true
noncomputable def ob136:Obj:=hF (.type "function") st30 "ring_from" 3 (.str "spotlook.rings" 401) (.ref 204)
noncomputable def ob137:Obj:=kTu [(.str "plot" 462),(.str "leaving" 463),(.str "rings" 464),(.str "gone_along" 465),(.str "face" 466),(.str "ring" 467),(.str "part" 468)]
noncomputable def ob138:Obj:=hF .none st31 "rings_of" 0 .none .none
noncomputable def ob139:Obj:=hC "rings_of" 459 460 461 470 206 207 208 209 210 120 1 0 0 3 181 469 120 true
noncomputable def ob140:Obj:=hF (.type "function") st31 "rings_of" 3 (.str "spotlook.rings" 401) (.ref 211)
noncomputable def ob141:Obj:=hF .none st32 "twice_area" 0 .none .none
noncomputable def ob142:Obj:={ cls:=(.type "code"),data:=(.fields #[(.str "twice_area" 472),(.str "twice_area" 473),(.str "/claim/cut.py" 474),(.int 131 0),(.int 2 0),(.int 0 0),(.int 0 0),(.int 3 0),(.ref 213),(.bool true),(.int 181 0),(.ref 214),.none,.none,.none,(.ref 215),(.int 475 0),(.int 131 0),(.str "/claim/cut.py" 476)]) }
noncomputable def ob143:Obj:=hF (.type "function") st32 "twice_area" 3 (.str "spotlook.rings" 401) (.ref 216)
noncomputable def ob144:Obj:=kTu [(.str "plot" 483),(.str "outers" 484),(.str "inners" 485),(.str "ring" 486)]
noncomputable def ob145:Obj:=hF .none st34 "outer_and_inner" 0 .none .none
noncomputable def ob146:Obj:=hC "outer_and_inner" 480 481 482 488 218 219 220 221 222 141 1 0 0 3 181 487 141 true
noncomputable def ob147:Obj:=hF (.type "function") st34 "outer_and_inner" 3 (.str "spotlook.lands" 478) (.ref 223)
noncomputable def ob148:Obj:=kTu [(.str "plot" 493),(.str "ring" 494),(.str "first" 495),(.str "face" 496)]
noncomputable def ob149:Obj:=hF .none st35 "first_corner" 0 .none .none
noncomputable def ob150:Obj:=hC "first_corner" 490 491 492 498 225 226 227 228 229 149 2 0 0 3 181 497 149 true
noncomputable def ob151:Obj:=hF (.type "function") st35 "first_corner" 3 (.str "spotlook.lands" 478) (.ref 230)
noncomputable def ob152:Obj:=kTu [(.str "plot" 503),(.str "lands" 504),(.str "corner" 505),(.str "wall" 506)]
noncomputable def ob153:Obj:=hF .none st36 "land_about" 0 .none .none
noncomputable def ob154:Obj:=hC "land_about" 500 501 502 508 232 233 234 235 236 154 3 0 0 3 181 507 154 true
noncomputable def ob155:Obj:=hF (.type "function") st36 "land_about" 3 (.str "spotlook.lands" 478) (.ref 237)
noncomputable def ob156(P:Et):Obj:={ cls:=(.type "dict"),data:=.dict (F4 (hE P "__name__" 165 (.str "law_spotlook_k57_lands_beside_one_another" 536)::(en3 P).take 51)) 52 }
noncomputable def ob157:Obj:={ cls:=.none,data:=.fields (F4 (fl12.take 129)) }
noncomputable def ob158:Obj:=hF .none st37 "lands_of_faces" 0 .none .none
noncomputable def ob159:Obj:={ cls:=(.type "code"),data:=(.fields #[(.str "lands_of_faces" 510),(.str "lands_of_faces" 511),(.str "/claim/cut.py" 512),(.int 157 0),(.int 1 0),(.int 0 0),(.int 0 0),(.int 3 0),(.ref 239),(.bool true),(.int 181 0),(.ref 240),.none,.none,.none,(.ref 241),(.int 513 0),(.int 157 0),(.str "/claim/cut.py" 514)]) }
noncomputable def ob160:Obj:=hF (.type "function") st37 "lands_of_faces" 3 (.str "spotlook.lands" 478) (.ref 242)
noncomputable def ob161:Obj:=hF .none st39 "lands_beside" 0 .none .none
noncomputable def ob162:Obj:={ cls:=(.type "code"),data:=(.fields #[(.str "lands_beside" 518),(.str "lands_beside" 519),(.str "/claim/cut.py" 520),(.int 170 0),(.int 1 0),(.int 0 0),(.int 0 0),(.int 3 0),(.ref 244),(.bool true),(.int 181 0),(.ref 245),.none,.none,.none,(.ref 246),(.int 521 0),(.int 170 0),(.str "/claim/cut.py" 522)]) }
noncomputable def ob163:Obj:=hF (.type "function") st39 "lands_beside" 3 (.str "spotlook.beside" 516) (.ref 247)
noncomputable def ob164:Obj:=hF .none st40 "neighbours" 0 .none .none
noncomputable def ob165:Obj:={ cls:=(.type "code"),data:=(.fields #[(.str "neighbours" 524),(.str "neighbours" 525),(.str "/claim/cut.py" 526),(.int 173 0),(.int 1 0),(.int 0 0),(.int 0 0),(.int 3 0),(.ref 249),(.bool true),(.int 181 0),(.ref 250),.none,.none,.none,(.ref 251),(.int 527 0),(.int 173 0),(.str "/claim/cut.py" 528)]) }
noncomputable def ob166:Obj:=hF (.type "function") st40 "neighbours" 3 (.str "spotlook.beside" 516) (.ref 252)
noncomputable def ob167:Obj:=hF .none st41 "within" 0 .none .none
noncomputable def ob168:Obj:={ cls:=(.type "code"),data:=(.fields #[(.str "within" 530),(.str "within" 531),(.str "/claim/cut.py" 532),(.int 179 0),(.int 1 0),(.int 0 0),(.int 0 0),(.int 3 0),(.ref 254),(.bool true),(.int 181 0),(.ref 255),.none,.none,.none,(.ref 256),(.int 533 0),(.int 179 0),(.str "/claim/cut.py" 534)]) }
noncomputable def ob169:Obj:=hF (.type "function") st41 "within" 3 (.str "spotlook.beside" 516) (.ref 257)
noncomputable def ob170:Obj:=kTu [(.str "_law_script" 541),(.str "_law_k" 542),(.str "_law_cell" 543)]
noncomputable def ob171:Obj:=hF .none st43 "_law_pot" 0 .none .none
noncomputable def ob172:Obj:=hC "_law_pot" 538 539 540 545 259 260 261 262 263 182 2 0 0 3 181 544 182 true
noncomputable def ob173:Obj:=hF (.type "function") st43 "_law_pot" 3 (.str "law_spotlook_k57_lands_beside_one_another" 536) (.ref 264)
noncomputable def ob174:Obj:=kTu [(.str "_law_pot_here" 550),(.str "_law_size" 551),(.str "_law_digit" 552),(.str "_law_mixed" 553)]
noncomputable def ob175:Obj:=hF .none st44 "_law_take" 0 .none .none
noncomputable def ob176:Obj:=hC "_law_take" 547 548 549 555 266 267 268 269 270 187 2 0 0 3 181 554 187 true
noncomputable def ob177:Obj:=hF (.type "function") st44 "_law_take" 3 (.str "law_spotlook_k57_lands_beside_one_another" 536) (.ref 271)
noncomputable def ob178:Obj:=kTu [(.str "_law_shut" 560),(.str "_law_spot" 561),(.str "_law_a" 562),(.str "_law_b" 563),(.str "_law_c" 564),(.str "_law_d" 565),(.str "_law_way" 566)]
noncomputable def ob179:Obj:=hF .none st45 "_law_side" 0 .none .none
noncomputable def ob180:Obj:=hC "_law_side" 557 558 559 568 273 274 275 276 277 196 2 0 0 3 181 567 196 true
noncomputable def ob181:Obj:=hF (.type "function") st45 "_law_side" 3 (.str "law_spotlook_k57_lands_beside_one_another" 536) (.ref 278)
noncomputable def ob182:Obj:=kTu [(.str "_law_shut" 573),(.str "_law_spot" 574)]
noncomputable def ob183:Obj:=hF .none st46 "_law_on" 0 .none .none
noncomputable def ob184:Obj:=hC "_law_on" 570 571 572 576 280 281 282 283 284 201 2 0 0 3 181 575 201 true
noncomputable def ob185:Obj:=hF (.type "function") st46 "_law_on" 3 (.str "law_spotlook_k57_lands_beside_one_another" 536) (.ref 285)
noncomputable def ob186:Obj:=kTu [(.str "_law_one" 581),(.str "_law_other" 582),(.str "_law_shut" 583),(.str "_law_ends" 584),(.str "_law_spot" 585),(.str "_law_both" 586)]
noncomputable def ob187:Obj:=hF .none st47 "_law_apart" 0 .none .none
noncomputable def ob188:Obj:=hC "_law_apart" 578 579 580 588 287 288 289 290 291 203 2 0 0 3 181 587 203 true
noncomputable def ob189:Obj:=hF (.type "function") st47 "_law_apart" 3 (.str "law_spotlook_k57_lands_beside_one_another" 536) (.ref 292)
noncomputable def ob190:Obj:=kTu [(.str "_law_pot_here" 593),(.str "_law_wide" 594)]
noncomputable def ob191:Obj:=hF .none st48 "_law_new_spot" 0 .none .none
noncomputable def ob192:Obj:=hC "_law_new_spot" 590 591 592 596 294 295 296 297 298 210 2 0 0 3 181 595 210 true
noncomputable def ob193:Obj:=hF (.type "function") st48 "_law_new_spot" 3 (.str "law_spotlook_k57_lands_beside_one_another" 536) (.ref 299)
noncomputable def ob194:Obj:=kTu [(.str "_law_pot_here" 601),(.str "_law_shuts" 602),(.str "_law_wide" 603)]
noncomputable def ob195:Obj:=hF .none st49 "_law_some_spot" 0 .none .none
noncomputable def ob196:Obj:=hC "_law_some_spot" 598 599 600 605 301 302 303 304 305 212 3 0 0 3 181 604 212 true
noncomputable def ob197:Obj:=hF (.type "function") st49 "_law_some_spot" 3 (.str "law_spotlook_k57_lands_beside_one_another" 536) (.ref 306)
noncomputable def ob198:Obj:=kTu [(.str "_law_pot_here" 610),(.str "_law_wide" 611),(.str "_law_x" 612),(.str "_law_y" 613),(.str "_law_far" 614)]
noncomputable def ob199:Obj:=hF .none st50 "_law_square" 0 .none .none
noncomputable def ob200:Obj:=hC "_law_square" 607 608 609 616 308 309 310 311 312 216 2 0 0 3 181 615 216 true
noncomputable def ob201:Obj:=hF (.type "function") st50 "_law_square" 3 (.str "law_spotlook_k57_lands_beside_one_another" 536) (.ref 313)
noncomputable def ob202(P:Et):Obj:={ cls:=(.type "dict"),data:=.dict (F4 (hE P "__name__" 165 (.str "law_spotlook_k57_lands_beside_one_another" 536)::(en3 P).take 61)) 62 }
noncomputable def ob203:Obj:={ cls:=.none,data:=.fields (F4 (fl12.take 159)) }
noncomputable def ob204:Obj:=hF .none st51 "_law_laid" 0 .none .none
noncomputable def ob205:Obj:={ cls:=(.type "code"),data:=(.fields #[(.str "_law_laid" 618),(.str "_law_laid" 619),(.str "/claim/cut.py" 620),(.int 222 0),(.int 3 0),(.int 0 0),(.int 0 0),(.int 3 0),(.ref 315),(.bool true),(.int 181 0),(.ref 316),.none,.none,.none,(.ref 317),(.int 621 0),(.int 222 0),(.str "/claim/cut.py" 622)]) }
noncomputable def ob206:Obj:=hF (.type "function") st51 "_law_laid" 3 (.str "law_spotlook_k57_lands_beside_one_another" 536) (.ref 318)
noncomputable def ob207:Obj:=hF .none st52 "_law_shuts_here" 0 .none .none
noncomputable def ob208:Obj:={ cls:=(.type "code"),data:=(.fields #[(.str "_law_shuts_here" 624),(.str "_law_shuts_here" 625),(.str "/claim/cut.py" 626),(.int 227 0),(.int 2 0),(.int 0 0),(.int 0 0),(.int 3 0),(.ref 320),(.bool true),(.int 181 0),(.ref 321),.none,.none,.none,(.ref 322),(.int 627 0),(.int 227 0),(.str "/claim/cut.py" 628)]) }
noncomputable def ob209:Obj:=hF (.type "function") st52 "_law_shuts_here" 3 (.str "law_spotlook_k57_lands_beside_one_another" 536) (.ref 323)
noncomputable def ob210:Obj:=kTu [(.str "_law_top" 633),(.str "_law_bottom" 634),(.str "_law_one" 635),(.str "_law_other" 636)]
noncomputable def ob211:Obj:=hF .none st53 "_law_frac" 0 .none .none
noncomputable def ob212:Obj:=hC "_law_frac" 630 631 632 638 325 326 327 328 329 239 2 0 0 3 181 637 239 true
noncomputable def ob213:Obj:=hF (.type "function") st53 "_law_frac" 3 (.str "law_spotlook_k57_lands_beside_one_another" 536) (.ref 330)
noncomputable def ob214:Obj:=hF .none st54 "_law_frame" 0 .none .none
noncomputable def ob215:Obj:={ cls:=(.type "code"),data:=(.fields #[(.str "_law_frame" 640),(.str "_law_frame" 641),(.str "/claim/cut.py" 642),(.int 245 0),(.int 2 0),(.int 0 0),(.int 0 0),(.int 3 0),(.ref 332),(.bool true),(.int 181 0),(.ref 333),.none,.none,.none,(.ref 334),(.int 643 0),(.int 245 0),(.str "/claim/cut.py" 644)]) }
noncomputable def ob216:Obj:=hF (.type "function") st54 "_law_frame" 3 (.str "law_spotlook_k57_lands_beside_one_another" 536) (.ref 335)
noncomputable def ob217:Obj:=kTu [(.str "_law_frame_here" 649),(.str "_law_spot" 650),(.str "_law_p" 651),(.str "_law_q" 652),(.str "_law_s" 653),(.str "_law_t" 654)]
noncomputable def ob218:Obj:=hF .none st55 "_law_given" 0 .none .none
noncomputable def ob219:Obj:=hC "_law_given" 646 647 648 656 337 338 339 340 341 254 2 0 0 3 181 655 254 true
noncomputable def ob220:Obj:=hF (.type "function") st55 "_law_given" 3 (.str "law_spotlook_k57_lands_beside_one_another" 536) (.ref 342)
noncomputable def ob221:Obj:=hF .none st56 "_law_plot" 0 .none .none
noncomputable def ob222:Obj:={ cls:=(.type "code"),data:=(.fields #[(.str "_law_plot" 658),(.str "_law_plot" 659),(.str "/claim/cut.py" 660),(.int 257 0),(.int 2 0),(.int 0 0),(.int 0 0),(.int 3 0),(.ref 344),(.bool true),(.int 181 0),(.ref 345),.none,.none,.none,(.ref 346),(.int 661 0),(.int 257 0),(.str "/claim/cut.py" 662)]) }
noncomputable def ob223:Obj:=hF (.type "function") st56 "_law_plot" 3 (.str "law_spotlook_k57_lands_beside_one_another" 536) (.ref 347)
noncomputable def ob224:Obj:=kTu [(.str "_law_found" 667),(.str "_law_due_here" 668)]
noncomputable def ob225:Obj:=hF .none st57 "_law_same" 0 .none .none
noncomputable def ob226:Obj:=hC "_law_same" 664 665 666 670 349 350 351 352 353 259 2 0 0 3 181 669 259 true
noncomputable def ob227:Obj:=hF (.type "function") st57 "_law_same" 3 (.str "law_spotlook_k57_lands_beside_one_another" 536) (.ref 354)
noncomputable def ob228:Obj:=hF .none st58 "_law_due" 0 .none .none
noncomputable def ob229:Obj:={ cls:=(.type "code"),data:=(.fields #[(.str "_law_due" 672),(.str "_law_due" 673),(.str "/claim/cut.py" 674),(.int 261 0),(.int 1 0),(.int 0 0),(.int 0 0),(.int 3 0),(.ref 356),(.bool true),(.int 181 0),(.ref 357),.none,.none,.none,(.ref 358),(.int 675 0),(.int 261 0),(.str "/claim/cut.py" 676)]) }
noncomputable def ob230:Obj:=hF (.type "function") st58 "_law_due" 3 (.str "law_spotlook_k57_lands_beside_one_another" 536) (.ref 359)
noncomputable def ob231:Obj:=hF .none st59 "_law_squares" 0 .none .none
noncomputable def ob232:Obj:={ cls:=(.type "code"),data:=(.fields #[(.str "_law_squares" 678),(.str "_law_squares" 679),(.str "/claim/cut.py" 680),(.int 275 0),(.int 2 0),(.int 0 0),(.int 0 0),(.int 3 0),(.ref 361),(.bool true),(.int 181 0),(.ref 362),.none,.none,.none,(.ref 363),(.int 681 0),(.int 275 0),(.str "/claim/cut.py" 682)]) }
noncomputable def ob233:Obj:=hF (.type "function") st59 "_law_squares" 3 (.str "law_spotlook_k57_lands_beside_one_another" 536) (.ref 364)
noncomputable def ob234:Obj:=kTu [(.str "_law_script" 687),(.str "_law_k" 688),(.str "_law_pot_here" 689),(.str "_law_shuts" 690),(.str "_law_plot_here" 691),(.str "_law_due_here" 692),(.str "_law_again" 693),(.str "_law_found" 694),(.str "_law_pair" 695)]
noncomputable def ob235:Obj:=hF .none st60 "law" 0 .none .none
noncomputable def ob236:Obj:=hC "law" 684 685 686 697 366 367 368 369 370 286 1 0 0 3 181 696 286 true
noncomputable def ob237:Obj:=hF (.type "function") st60 "law" 3 (.str "law_spotlook_k57_lands_beside_one_another" 536) (.ref 371)
noncomputable def oL0(P:Et):List Obj:=[PySem.W.boot_o_0 P,PySem.W.boot_o_1 P,PySem.W.boot_o_2 P,PySem.W.boot_o_3 P,PySem.W.boot_o_4 P,PySem.W.boot_o_5 P,PySem.W.boot_o_6 P,PySem.W.boot_o_7 P,PySem.W.boot_o_8 P,PySem.W.boot_o_9 P,PySem.W.boot_o_10 P,ob11,ob12,ob13,ob14,ob15 P]
noncomputable def oL1(P:Et):List Obj:=[ob16,ob17,ob18,ob19 P,ob20,ob21,ob22 P,ob23,ob24,ob25,ob26,ob27 P,ob28,ob29,ob30,ob31 P]
noncomputable def oL2(P:Et):List Obj:=[ob32,ob33,ob34 P,ob35,ob36,ob37,ob38,ob39,ob40,ob41,ob42,ob43,ob44,ob45,ob46,ob47]
noncomputable def oL3(P:Et):List Obj:=[ob48,ob49,ob50,ob51,ob52,ob53,ob54,ob55,ob56,ob57,ob58 P,ob59,ob60,ob61,ob62,ob63]
noncomputable def oL4(P:Et):List Obj:=[ob64,ob65,ob66,ob67,ob68,ob69,ob70,ob71,ob72,ob73,ob74,ob75,ob76,ob77,ob78,ob79]
noncomputable def oL5(P:Et):List Obj:=[ob80,ob81,ob82,ob83,ob84,ob85,ob86,ob87,ob88,ob89,ob90,ob91,ob92,ob93,ob94,ob95]
noncomputable def oL6(P:Et):List Obj:=[ob96,ob97,ob98,ob99,ob100,ob101,ob102,ob103,ob104,ob105,ob106,ob107,ob108 P,ob109,ob110,ob111]
noncomputable def oL7(P:Et):List Obj:=[ob112,ob113,ob114,ob115,ob116,ob117,ob118,ob119,ob120,ob121,ob122,ob123,ob124,ob125,ob126,ob127]
noncomputable def oL8(P:Et):List Obj:=[ob128,ob129,ob130,ob131,ob132,ob133,ob134,ob135,ob136,ob137,ob138,ob139,ob140,ob141,ob142,ob143]
noncomputable def oL9(P:Et):List Obj:=[ob144,ob145,ob146,ob147,ob148,ob149,ob150,ob151,ob152,ob153,ob154,ob155,ob156 P,ob157,ob158,ob159]
noncomputable def oL10(P:Et):List Obj:=[ob160,ob161,ob162,ob163,ob164,ob165,ob166,ob167,ob168,ob169,ob170,ob171,ob172,ob173,ob174,ob175]
noncomputable def oL11(P:Et):List Obj:=[ob176,ob177,ob178,ob179,ob180,ob181,ob182,ob183,ob184,ob185,ob186,ob187,ob188,ob189,ob190,ob191]
noncomputable def oL12(P:Et):List Obj:=[ob192,ob193,ob194,ob195,ob196,ob197,ob198,ob199,ob200,ob201,ob202 P,ob203,ob204,ob205,ob206,ob207]
noncomputable def oL13(P:Et):List Obj:=[ob208,ob209,ob210,ob211,ob212,ob213,ob214,ob215,ob216,ob217,ob218,ob219,ob220,ob221,ob222,ob223]
noncomputable def oL14(P:Et):List Obj:=[ob224,ob225,ob226,ob227,ob228,ob229,ob230,ob231,ob232,ob233,ob234,ob235,ob236,ob237]
noncomputable def fA(c i:Nat)(P:Et):Obj:=(([oL0 P,oL1 P,oL2 P,oL3 P,oL4 P,oL5 P,oL6 P,oL7 P,oL8 P,oL9 P,oL10 P,oL11 P,oL12 P,oL13 P,oL14 P]:List (List Obj)).getD c []).getD i { cls:=.none }
noncomputable def tW0(n:Nat->Nat->Ep->Ep->Ep)(e:Ep):Ep:=(n 0 0 (n 0 1 (n 0 3 (n 0 7 e e) (n 0 11 e e)) (n 0 5 (n 0 9 e e) (n 0 13 e e))) (n 0 2 (n 0 4 (n 0 8 e e) (n 0 12 e e)) (n 0 6 (n 0 10 e e) (n 0 14 e e))))
noncomputable def tX0(f:Nat->Nat->Et->Obj)(P:Et):Ep:=tW0 (fun c i=>.node (f c i P)) .nil
noncomputable def tW1(n:Nat->Nat->Ep->Ep->Ep)(e:Ep):Ep:=(n 0 0 (n 0 1 (n 0 15 (n 0 7 (n 1 1 e e) (n 1 6 e e)) (n 0 11 (n 0 12 e e) (n 1 10 e e))) (n 0 5 (n 0 9 (n 1 3 e e) (n 1 8 e e)) (n 0 13 (n 1 5 e e) e))) (n 0 2 (n 0 4 (n 0 8 (n 1 2 e e) (n 1 7 e e)) (n 1 0 (n 1 4 e e) e)) (n 0 6 (n 0 10 (n 0 11 e e) (n 1 9 e e)) (n 0 14 (n 0 11 e e) e))))
noncomputable def tX1(f:Nat->Nat->Et->Obj)(P:Et):Ep:=tW1 (fun c i=>.node (f c i P)) .nil
noncomputable def tW2(n:Nat->Nat->Ep->Ep->Ep)(e:Ep):Ep:=(n 0 0 (n 0 1 (n 1 11 (n 0 7 (n 1 1 (n 0 11 (n 3 2 e e) e) (n 0 11 e e)) (n 1 6 (n 2 5 (n 0 11 e e) e) (n 0 12 e e))) (n 0 11 (n 0 12 (n 0 11 (n 3 5 e e) e) (n 2 11 e e)) (n 1 10 (n 0 11 e e) (n 3 0 e e)))) (n 0 5 (n 0 9 (n 1 3 (n 2 0 (n 3 3 e e) e) (n 2 10 e e)) (n 1 8 (n 0 12 (n 3 8 e e) e) (n 0 11 e e))) (n 0 13 (n 1 5 (n 2 3 (n 0 12 e e) e) (n 2 13 e e)) (n 1 2 (n 2 8 e e) (n 0 11 e e))))) (n 0 2 (n 0 4 (n 0 8 (n 1 2 (n 0 12 (n 0 11 e e) e) (n 0 12 e e)) (n 1 13 (n 0 11 (n 3 7 e e) e) (n 2 14 e e))) (n 1 12 (n 1 4 (n 2 2 (n 0 11 e e) e) (n 2 12 e e)) (n 1 14 (n 2 7 e e) (n 3 1 e e)))) (n 0 6 (n 0 10 (n 0 11 (n 2 1 (n 3 4 e e) e) (n 0 11 e e)) (n 1 9 (n 2 6 (n 3 9 e e) e) (n 2 15 e e))) (n 0 14 (n 0 11 (n 2 4 (n 3 6 e e) e) (n 0 11 e e)) (n 1 15 (n 2 9 e e) (n 0 12 e e))))))
noncomputable def tX2(f:Nat->Nat->Et->Obj)(P:Et):Ep:=tW2 (fun c i=>.node (f c i P)) .nil
noncomputable def tW3(n:Nat->Nat->Ep->Ep->Ep)(e:Ep):Ep:=(n 0 0 (n 0 1 (n 3 10 (n 0 7 (n 1 1 (n 0 11 (n 3 2 (n 0 11 e e) e) (n 4 7 e e)) (n 0 11 (n 3 13 (n 6 2 e e) e) (n 0 12 e e))) (n 1 6 (n 2 5 (n 0 11 (n 5 13 e e) e) (n 0 11 e e)) (n 0 12 (n 4 2 (n 6 7 e e) e) (n 5 4 e e)))) (n 0 11 (n 0 12 (n 0 11 (n 3 5 (n 0 11 e e) e) (n 0 11 e e)) (n 2 11 (n 0 12 (n 6 4 e e) e) (n 5 2 e e))) (n 1 10 (n 0 11 (n 0 11 (n 0 12 e e) e) (n 4 13 e e)) (n 3 0 (n 4 4 (n 0 11 e e) e) (n 5 7 e e))))) (n 0 5 (n 0 9 (n 1 3 (n 2 0 (n 3 3 (n 5 10 e e) e) (n 0 12 e e)) (n 2 10 (n 3 15 (n 0 11 e e) e) (n 0 11 e e))) (n 1 8 (n 0 12 (n 3 8 (n 5 15 e e) e) (n 4 12 e e)) (n 0 11 (n 0 11 (n 0 12 e e) e) (n 5 5 e e)))) (n 0 13 (n 1 5 (n 2 3 (n 0 12 (n 5 12 e e) e) (n 4 10 e e)) (n 2 13 (n 0 11 (n 6 5 e e) e) (n 0 11 e e))) (n 1 2 (n 2 8 (n 3 12 (n 0 11 e e) e) (n 4 15 e e)) (n 0 11 (n 4 5 (n 6 10 e e) e) (n 0 12 e e)))))) (n 0 2 (n 0 4 (n 0 8 (n 1 2 (n 0 12 (n 0 11 (n 5 9 e e) e) (n 0 11 e e)) (n 0 12 (n 3 14 (n 6 3 e e) e) (n 5 0 e e))) (n 1 13 (n 0 11 (n 3 7 (n 5 14 e e) e) (n 0 12 e e)) (n 2 14 (n 4 3 (n 0 11 e e) e) (n 0 11 e e)))) (n 3 11 (n 1 4 (n 2 2 (n 0 11 (n 0 12 e e) e) (n 4 9 e e)) (n 2 12 (n 4 0 (n 0 11 e e) e) (n 5 3 e e))) (n 1 14 (n 2 7 (n 0 12 (n 6 0 e e) e) (n 4 14 e e)) (n 3 1 (n 0 11 (n 6 9 e e) e) (n 0 11 e e))))) (n 0 6 (n 0 10 (n 0 11 (n 2 1 (n 3 4 (n 5 11 e e) e) (n 4 8 e e)) (n 0 11 (n 0 11 (n 0 12 e e) e) (n 5 1 e e))) (n 1 9 (n 2 6 (n 3 9 (n 0 11 e e) e) (n 0 11 e e)) (n 2 15 (n 0 12 (n 6 8 e e) e) (n 5 6 e e)))) (n 0 14 (n 0 11 (n 2 4 (n 3 6 (n 0 11 e e) e) (n 4 11 e e)) (n 0 11 (n 4 1 (n 6 6 e e) e) (n 0 12 e e))) (n 1 15 (n 2 9 (n 0 11 (n 6 1 e e) e) (n 0 11 e e)) (n 0 12 (n 4 6 (n 6 11 e e) e) (n 5 8 e e)))))))
noncomputable def tX3(f:Nat->Nat->Et->Obj)(P:Et):Ep:=tW3 (fun c i=>.node (f c i P)) .nil
noncomputable def tW4(n:Nat->Nat->Ep->Ep->Ep)(e:Ep):Ep:=(n 0 0 (n 0 1 (n 6 12 (n 0 7 (n 1 1 (n 0 11 (n 3 2 (n 0 11 e e) (n 8 0 e e)) (n 4 7 (n 0 11 e e) (n 9 2 e e))) (n 0 11 (n 3 13 (n 6 2 e e) (n 0 12 e e)) (n 0 12 (n 7 6 e e) e))) (n 1 6 (n 2 5 (n 0 11 (n 5 13 e e) (n 0 11 e e)) (n 0 11 (n 0 12 e e) (n 9 7 e e))) (n 0 12 (n 4 2 (n 6 7 e e) (n 8 13 e e)) (n 5 4 (n 7 11 e e) e)))) (n 0 11 (n 0 12 (n 0 11 (n 3 5 (n 0 11 e e) (n 0 11 e e)) (n 0 11 (n 6 15 e e) (n 9 4 e e))) (n 2 11 (n 0 12 (n 6 4 e e) (n 8 11 e e)) (n 5 2 (n 0 12 e e) e))) (n 1 10 (n 0 11 (n 0 11 (n 0 12 e e) (n 8 6 e e)) (n 4 13 (n 0 11 e e) (n 0 11 e e))) (n 3 0 (n 4 4 (n 0 11 e e) (n 0 12 e e)) (n 5 7 (n 7 13 e e) e))))) (n 0 5 (n 0 9 (n 1 3 (n 2 0 (n 3 3 (n 5 10 e e) (n 0 12 e e)) (n 0 12 (n 6 14 e e) (n 0 11 e e))) (n 2 10 (n 3 15 (n 0 11 e e) (n 0 11 e e)) (n 0 11 (n 7 8 e e) e))) (n 1 8 (n 0 12 (n 3 8 (n 5 15 e e) (n 8 5 e e)) (n 4 12 (n 7 3 e e) (n 0 12 e e))) (n 0 11 (n 0 11 (n 0 12 e e) (n 8 15 e e)) (n 5 5 (n 0 11 e e) e)))) (n 0 13 (n 1 5 (n 2 3 (n 0 12 (n 5 12 e e) (n 8 3 e e)) (n 4 10 (n 7 1 e e) (n 9 5 e e))) (n 2 13 (n 0 11 (n 6 5 e e) (n 0 11 e e)) (n 0 11 (n 0 11 e e) e))) (n 1 2 (n 2 8 (n 3 12 (n 0 11 e e) (n 8 8 e e)) (n 4 15 (n 7 5 e e) (n 9 10 e e))) (n 0 11 (n 4 5 (n 6 10 e e) (n 0 11 e e)) (n 0 12 (n 7 14 e e) e)))))) (n 0 2 (n 0 4 (n 0 8 (n 1 2 (n 0 12 (n 0 11 (n 5 9 e e) (n 0 11 e e)) (n 0 11 (n 0 12 e e) (n 9 3 e e))) (n 0 12 (n 3 14 (n 6 3 e e) (n 8 9 e e)) (n 5 0 (n 7 7 e e) e))) (n 1 13 (n 0 11 (n 3 7 (n 5 14 e e) (n 0 12 e e)) (n 0 12 (n 7 2 e e) (n 0 11 e e))) (n 2 14 (n 4 3 (n 0 11 e e) (n 8 14 e e)) (n 0 11 (n 7 12 e e) e)))) (n 6 13 (n 1 4 (n 2 2 (n 0 11 (n 0 12 e e) (n 8 2 e e)) (n 4 9 (n 7 0 e e) (n 0 11 e e))) (n 2 12 (n 4 0 (n 0 11 e e) (n 8 12 e e)) (n 5 3 (n 7 9 e e) e))) (n 1 14 (n 2 7 (n 0 12 (n 6 0 e e) (n 8 7 e e)) (n 4 14 (n 0 12 e e) (n 9 9 e e))) (n 3 1 (n 0 11 (n 6 9 e e) (n 9 0 e e)) (n 0 11 (n 0 11 e e) e))))) (n 0 6 (n 0 10 (n 0 11 (n 2 1 (n 3 4 (n 5 11 e e) (n 8 1 e e)) (n 4 8 (n 0 11 e e) (n 0 12 e e))) (n 0 11 (n 0 11 (n 0 12 e e) (n 8 10 e e)) (n 5 1 (n 0 11 e e) e))) (n 1 9 (n 2 6 (n 3 9 (n 0 11 e e) (n 0 11 e e)) (n 0 11 (n 7 4 e e) (n 9 8 e e))) (n 2 15 (n 0 12 (n 6 8 e e) (n 0 11 e e)) (n 5 6 (n 0 12 e e) e)))) (n 0 14 (n 0 11 (n 2 4 (n 3 6 (n 0 11 e e) (n 8 4 e e)) (n 4 11 (n 0 11 e e) (n 9 6 e e))) (n 0 11 (n 4 1 (n 6 6 e e) (n 0 12 e e)) (n 0 12 (n 7 10 e e) e))) (n 1 15 (n 2 9 (n 0 11 (n 6 1 e e) (n 0 11 e e)) (n 0 11 (n 0 11 e e) (n 9 11 e e))) (n 0 12 (n 4 6 (n 6 11 e e) (n 9 1 e e)) (n 5 8 (n 7 15 e e) e)))))))
noncomputable def tX4(f:Nat->Nat->Et->Obj)(P:Et):Ep:=tW4 (fun c i=>.node (f c i P)) .nil
noncomputable def tW5(n:Nat->Nat->Ep->Ep->Ep)(e:Ep):Ep:=(n 0 0 (n 0 1 (n 9 12 (n 0 7 (n 1 1 (n 0 11 (n 3 2 (n 0 11 (n 0 12 e e) e) (n 8 0 e e)) (n 4 7 (n 0 11 (n 0 11 e e) e) (n 9 2 e e))) (n 0 11 (n 3 13 (n 6 2 (n 11 0 e e) e) (n 0 12 e e)) (n 0 12 (n 7 6 (n 12 2 e e) e) (n 0 11 e e)))) (n 1 6 (n 2 5 (n 0 11 (n 5 13 (n 10 11 e e) e) (n 0 11 e e)) (n 0 11 (n 0 12 (n 0 12 e e) e) (n 9 7 e e))) (n 0 12 (n 4 2 (n 6 7 (n 11 5 e e) e) (n 8 13 e e)) (n 5 4 (n 7 11 (n 0 11 e e) e) (n 10 2 e e))))) (n 0 11 (n 0 12 (n 0 11 (n 3 5 (n 0 11 (n 0 11 e e) e) (n 0 11 e e)) (n 0 11 (n 6 15 (n 11 11 e e) e) (n 9 4 e e))) (n 2 11 (n 0 12 (n 6 4 (n 11 2 e e) e) (n 8 11 e e)) (n 5 2 (n 0 12 (n 12 5 e e) e) (n 10 0 e e)))) (n 1 10 (n 0 11 (n 0 11 (n 0 12 (n 0 12 e e) e) (n 8 6 e e)) (n 4 13 (n 0 11 (n 12 0 e e) e) (n 0 11 e e))) (n 3 0 (n 4 4 (n 0 11 (n 0 11 e e) e) (n 0 12 e e)) (n 5 7 (n 7 13 e e) (n 10 4 e e)))))) (n 0 5 (n 0 9 (n 1 3 (n 2 0 (n 3 3 (n 5 10 (n 10 8 e e) e) (n 0 12 e e)) (n 0 12 (n 6 14 (n 11 10 e e) e) (n 0 11 e e))) (n 2 10 (n 3 15 (n 0 11 (n 0 11 e e) e) (n 0 11 e e)) (n 0 11 (n 7 8 (n 12 3 e e) e) (n 9 14 e e)))) (n 1 8 (n 0 12 (n 3 8 (n 5 15 (n 10 13 e e) e) (n 8 5 e e)) (n 4 12 (n 7 3 (n 0 11 e e) e) (n 0 12 e e))) (n 0 11 (n 0 11 (n 0 12 (n 0 12 e e) e) (n 8 15 e e)) (n 5 5 (n 0 11 (n 12 8 e e) e) (n 0 11 e e))))) (n 0 13 (n 1 5 (n 2 3 (n 0 12 (n 5 12 (n 10 10 e e) e) (n 8 3 e e)) (n 4 10 (n 7 1 (n 11 13 e e) e) (n 9 5 e e))) (n 2 13 (n 0 11 (n 6 5 (n 11 3 e e) e) (n 0 11 e e)) (n 0 11 (n 0 11 (n 0 12 e e) e) (n 0 12 e e)))) (n 1 2 (n 2 8 (n 3 12 (n 0 11 (n 0 11 e e) e) (n 8 8 e e)) (n 4 15 (n 7 5 (n 0 11 e e) e) (n 9 10 e e))) (n 0 11 (n 4 5 (n 6 10 (n 11 8 e e) e) (n 0 11 e e)) (n 0 12 (n 7 14 e e) (n 10 6 e e))))))) (n 0 2 (n 0 4 (n 0 8 (n 1 2 (n 0 12 (n 0 11 (n 5 9 (n 10 7 e e) e) (n 0 11 e e)) (n 0 11 (n 0 12 (n 0 12 e e) e) (n 9 3 e e))) (n 0 12 (n 3 14 (n 6 3 (n 11 1 e e) e) (n 8 9 e e)) (n 5 0 (n 7 7 (n 0 11 e e) e) (n 0 12 e e)))) (n 1 13 (n 0 11 (n 3 7 (n 5 14 (n 10 12 e e) e) (n 0 12 e e)) (n 0 12 (n 7 2 (n 11 14 e e) e) (n 0 11 e e))) (n 2 14 (n 4 3 (n 0 11 (n 0 11 e e) e) (n 8 14 e e)) (n 0 11 (n 7 12 (n 12 7 e e) e) (n 10 3 e e))))) (n 9 13 (n 1 4 (n 2 2 (n 0 11 (n 0 12 (n 0 12 e e) e) (n 8 2 e e)) (n 4 9 (n 7 0 (n 11 12 e e) e) (n 0 11 e e))) (n 2 12 (n 4 0 (n 0 11 (n 0 11 e e) e) (n 8 12 e e)) (n 5 3 (n 7 9 (n 0 11 e e) e) (n 0 11 e e)))) (n 1 14 (n 2 7 (n 0 12 (n 6 0 (n 10 14 e e) e) (n 8 7 e e)) (n 4 14 (n 0 12 (n 12 1 e e) e) (n 9 9 e e))) (n 3 1 (n 0 11 (n 6 9 (n 11 7 e e) e) (n 9 0 e e)) (n 0 11 (n 0 11 e e) (n 10 5 e e)))))) (n 0 6 (n 0 10 (n 0 11 (n 2 1 (n 3 4 (n 5 11 (n 10 9 e e) e) (n 8 1 e e)) (n 4 8 (n 0 11 (n 0 11 e e) e) (n 0 12 e e))) (n 0 11 (n 0 11 (n 0 12 (n 0 12 e e) e) (n 8 10 e e)) (n 5 1 (n 0 11 (n 12 4 e e) e) (n 9 15 e e)))) (n 1 9 (n 2 6 (n 3 9 (n 0 11 (n 0 11 e e) e) (n 0 11 e e)) (n 0 11 (n 7 4 (n 11 15 e e) e) (n 9 8 e e))) (n 2 15 (n 0 12 (n 6 8 (n 11 6 e e) e) (n 0 11 e e)) (n 5 6 (n 0 12 (n 12 9 e e) e) (n 0 12 e e))))) (n 0 14 (n 0 11 (n 2 4 (n 3 6 (n 0 11 (n 0 11 e e) e) (n 8 4 e e)) (n 4 11 (n 0 11 (n 0 11 e e) e) (n 9 6 e e))) (n 0 11 (n 4 1 (n 6 6 (n 11 4 e e) e) (n 0 12 e e)) (n 0 12 (n 7 10 (n 12 6 e e) e) (n 10 1 e e)))) (n 1 15 (n 2 9 (n 0 11 (n 6 1 (n 10 15 e e) e) (n 0 11 e e)) (n 0 11 (n 0 11 (n 0 12 e e) e) (n 9 11 e e))) (n 0 12 (n 4 6 (n 6 11 (n 11 9 e e) e) (n 9 1 e e)) (n 5 8 (n 7 15 e e) (n 0 11 e e))))))))
noncomputable def tX5(f:Nat->Nat->Et->Obj)(P:Et):Ep:=tW5 (fun c i=>.node (f c i P)) .nil
noncomputable def tW6(n:Nat->Nat->Ep->Ep->Ep)(e:Ep):Ep:=(n 0 0 (n 0 1 (n 12 10 (n 0 7 (n 1 1 (n 0 11 (n 3 2 (n 0 11 (n 0 12 e e) e) (n 8 0 (n 12 14 e e) e)) (n 4 7 (n 0 11 (n 0 11 e e) e) (n 9 2 (n 14 0 e e) e))) (n 0 11 (n 3 13 (n 6 2 (n 11 0 e e) e) (n 0 12 (n 13 7 e e) e)) (n 0 12 (n 7 6 (n 12 2 e e) e) (n 0 11 (n 0 12 e e) e)))) (n 1 6 (n 2 5 (n 0 11 (n 5 13 (n 10 11 e e) e) (n 0 11 (n 13 2 e e) e)) (n 0 11 (n 0 12 (n 0 12 e e) e) (n 9 7 (n 14 5 e e) e))) (n 0 12 (n 4 2 (n 6 7 (n 11 5 e e) e) (n 8 13 (n 13 12 e e) e)) (n 5 4 (n 7 11 (n 0 11 e e) e) (n 10 2 e e))))) (n 0 11 (n 0 12 (n 0 11 (n 3 5 (n 0 11 (n 0 11 e e) e) (n 0 11 (n 13 0 e e) e)) (n 0 11 (n 6 15 (n 11 11 e e) e) (n 9 4 (n 14 3 e e) e))) (n 2 11 (n 0 12 (n 6 4 (n 11 2 e e) e) (n 8 11 (n 13 9 e e) e)) (n 5 2 (n 0 12 (n 12 5 e e) e) (n 10 0 (n 14 12 e e) e)))) (n 1 10 (n 0 11 (n 0 11 (n 0 12 (n 0 12 e e) e) (n 8 6 (n 13 5 e e) e)) (n 4 13 (n 0 11 (n 12 0 e e) e) (n 0 11 (n 14 7 e e) e))) (n 3 0 (n 4 4 (n 0 11 (n 0 11 e e) e) (n 0 12 (n 13 14 e e) e)) (n 5 7 (n 7 13 (n 0 11 e e) e) (n 10 4 e e)))))) (n 0 5 (n 0 9 (n 1 3 (n 2 0 (n 3 3 (n 5 10 (n 10 8 e e) e) (n 0 12 (n 0 12 e e) e)) (n 0 12 (n 6 14 (n 11 10 e e) e) (n 0 11 (n 14 1 e e) e))) (n 2 10 (n 3 15 (n 0 11 (n 0 11 e e) e) (n 0 11 (n 0 11 e e) e)) (n 0 11 (n 7 8 (n 12 3 e e) e) (n 9 14 (n 0 11 e e) e)))) (n 1 8 (n 0 12 (n 3 8 (n 5 15 (n 10 13 e e) e) (n 8 5 (n 13 3 e e) e)) (n 4 12 (n 7 3 (n 0 11 e e) e) (n 0 12 (n 0 11 e e) e))) (n 0 11 (n 0 11 (n 0 12 (n 0 12 e e) e) (n 8 15 (n 0 12 e e) e)) (n 5 5 (n 0 11 (n 12 8 e e) e) (n 0 11 e e))))) (n 0 13 (n 1 5 (n 2 3 (n 0 12 (n 5 12 (n 10 10 e e) e) (n 8 3 (n 0 11 e e) e)) (n 4 10 (n 7 1 (n 11 13 e e) e) (n 9 5 (n 0 12 e e) e))) (n 2 13 (n 0 11 (n 6 5 (n 11 3 e e) e) (n 0 11 (n 13 10 e e) e)) (n 0 11 (n 0 11 (n 0 12 e e) e) (n 0 12 e e)))) (n 1 2 (n 2 8 (n 3 12 (n 0 11 (n 0 11 e e) e) (n 8 8 (n 0 12 e e) e)) (n 4 15 (n 7 5 (n 0 11 e e) e) (n 9 10 (n 14 9 e e) e))) (n 0 11 (n 4 5 (n 6 10 (n 11 8 e e) e) (n 0 11 (n 0 11 e e) e)) (n 0 12 (n 7 14 (n 12 12 e e) e) (n 10 6 e e))))))) (n 0 2 (n 0 4 (n 0 8 (n 1 2 (n 0 12 (n 0 11 (n 5 9 (n 10 7 e e) e) (n 0 11 (n 0 11 e e) e)) (n 0 11 (n 0 12 (n 0 12 e e) e) (n 9 3 (n 0 11 e e) e))) (n 0 12 (n 3 14 (n 6 3 (n 11 1 e e) e) (n 8 9 (n 13 8 e e) e)) (n 5 0 (n 7 7 (n 0 11 e e) e) (n 0 12 (n 14 10 e e) e)))) (n 1 13 (n 0 11 (n 3 7 (n 5 14 (n 10 12 e e) e) (n 0 12 (n 0 11 e e) e)) (n 0 12 (n 7 2 (n 11 14 e e) e) (n 0 11 (n 14 6 e e) e))) (n 2 14 (n 4 3 (n 0 11 (n 0 11 e e) e) (n 8 14 (n 0 11 e e) e)) (n 0 11 (n 7 12 (n 12 7 e e) e) (n 10 3 e e))))) (n 12 11 (n 1 4 (n 2 2 (n 0 11 (n 0 12 (n 0 12 e e) e) (n 8 2 (n 13 1 e e) e)) (n 4 9 (n 7 0 (n 11 12 e e) e) (n 0 11 (n 0 11 e e) e))) (n 2 12 (n 4 0 (n 0 11 (n 0 11 e e) e) (n 8 12 (n 0 11 e e) e)) (n 5 3 (n 7 9 (n 0 11 e e) e) (n 0 11 (n 14 13 e e) e)))) (n 1 14 (n 2 7 (n 0 12 (n 6 0 (n 10 14 e e) e) (n 8 7 (n 0 11 e e) e)) (n 4 14 (n 0 12 (n 12 1 e e) e) (n 9 9 (n 14 8 e e) e))) (n 3 1 (n 0 11 (n 6 9 (n 11 7 e e) e) (n 9 0 (n 13 15 e e) e)) (n 0 11 (n 0 11 (n 0 12 e e) e) (n 10 5 e e)))))) (n 0 6 (n 0 10 (n 0 11 (n 2 1 (n 3 4 (n 5 11 (n 10 9 e e) e) (n 8 1 (n 12 15 e e) e)) (n 4 8 (n 0 11 (n 0 11 e e) e) (n 0 12 (n 14 2 e e) e))) (n 0 11 (n 0 11 (n 0 12 (n 0 12 e e) e) (n 8 10 (n 0 12 e e) e)) (n 5 1 (n 0 11 (n 12 4 e e) e) (n 9 15 (n 14 11 e e) e)))) (n 1 9 (n 2 6 (n 3 9 (n 0 11 (n 0 11 e e) e) (n 0 11 (n 13 4 e e) e)) (n 0 11 (n 7 4 (n 11 15 e e) e) (n 9 8 (n 0 12 e e) e))) (n 2 15 (n 0 12 (n 6 8 (n 11 6 e e) e) (n 0 11 (n 13 13 e e) e)) (n 5 6 (n 0 12 (n 12 9 e e) e) (n 0 12 e e))))) (n 0 14 (n 0 11 (n 2 4 (n 3 6 (n 0 11 (n 0 11 e e) e) (n 8 4 (n 0 12 e e) e)) (n 4 11 (n 0 11 (n 0 11 e e) e) (n 9 6 (n 14 4 e e) e))) (n 0 11 (n 4 1 (n 6 6 (n 11 4 e e) e) (n 0 12 (n 13 11 e e) e)) (n 0 12 (n 7 10 (n 12 6 e e) e) (n 10 1 e e)))) (n 1 15 (n 2 9 (n 0 11 (n 6 1 (n 10 15 e e) e) (n 0 11 (n 13 6 e e) e)) (n 0 11 (n 0 11 (n 0 12 e e) e) (n 9 11 (n 0 11 e e) e))) (n 0 12 (n 4 6 (n 6 11 (n 11 9 e e) e) (n 9 1 (n 0 12 e e) e)) (n 5 8 (n 7 15 (n 12 13 e e) e) (n 0 11 e e))))))))
noncomputable def tX6(f:Nat->Nat->Et->Obj)(P:Et):Ep:=tW6 (fun c i=>.node (f c i P)) .nil
noncomputable def hX0(f:Nat->Nat->Et->Obj)(P:Et):Heap:=⟨⟨[f 0 0 P,f 0 1 P,f 0 2 P,f 0 3 P,f 0 4 P,f 0 5 P,f 0 6 P,f 0 7 P,f 0 8 P,f 0 9 P,f 0 10 P,f 0 11 P,f 0 12 P,f 0 13 P,f 0 14 P]⟩,{}⟩
noncomputable def hX1(f:Nat->Nat->Et->Obj)(P:Et):Heap:=⟨⟨[f 0 0 P,f 0 1 P,f 0 2 P,f 12 10 P,f 0 4 P,f 0 5 P,f 0 6 P,f 0 7 P,f 0 8 P,f 0 9 P,f 0 10 P,f 0 11 P,f 12 11 P,f 0 13 P,f 0 14 P,f 1 1 P,f 1 2 P,f 1 3 P,f 0 11 P,f 0 12 P,f 1 4 P,f 1 5 P,f 0 11 P,f 1 6 P,f 1 13 P,f 1 8 P,f 1 9 P,f 1 10 P,f 1 14 P,f 1 2 P,f 1 15 P,f 0 11 P,f 0 12 P,f 2 0 P,f 2 1 P,f 0 11 P,f 2 2 P,f 2 3 P,f 2 4 P,f 2 5 P,f 0 11 P,f 0 12 P,f 2 6 P,f 0 11 P,f 2 7 P,f 2 8 P,f 2 9 P,f 0 11 P,f 0 12 P,f 2 10 P,f 0 11 P,f 2 11 P,f 2 12 P,f 2 13 P,f 0 11 P,f 0 12 P,f 2 14 P,f 0 11 P,f 2 15 P,f 3 0 P,f 3 1 P,f 0 11 P,f 0 12 P,f 3 2 P,f 0 11 P,f 3 3 P,f 3 4 P,f 3 5 P,f 0 11 P,f 0 12 P,f 3 6 P,f 0 11 P,f 3 7 P,f 3 8 P,f 3 9 P,f 0 11 P,f 0 12 P,f 3 12 P,f 0 11 P,f 3 13 P,f 3 14 P,f 3 15 P,f 0 11 P,f 0 12 P,f 4 0 P,f 0 11 P,f 4 1 P,f 4 2 P,f 4 3 P,f 0 11 P,f 0 12 P,f 4 4 P,f 0 11 P,f 4 5 P,f 4 6 P,f 4 7 P,f 0 11 P,f 0 12 P,f 4 8 P,f 0 11 P,f 4 9 P,f 4 10 P,f 4 11 P,f 0 11 P,f 0 12 P,f 4 12 P,f 0 11 P,f 4 13 P,f 4 14 P,f 4 15 P,f 0 11 P,f 0 12 P,f 5 0 P,f 0 11 P,f 5 1 P,f 5 2 P,f 5 3 P,f 0 11 P,f 0 12 P,f 5 4 P,f 0 11 P,f 5 5 P,f 5 6 P,f 5 7 P,f 0 11 P,f 0 12 P,f 5 8 P,f 0 11 P,f 5 9 P,f 5 10 P,f 5 11 P,f 0 11 P,f 0 12 P,f 5 12 P,f 0 11 P,f 5 13 P,f 5 14 P,f 5 15 P,f 0 11 P,f 0 12 P,f 6 0 P,f 0 11 P,f 6 1 P,f 6 2 P,f 6 3 P,f 0 11 P,f 0 12 P,f 6 4 P,f 0 11 P,f 6 5 P,f 6 6 P,f 6 7 P,f 0 11 P,f 0 12 P,f 6 8 P,f 0 11 P,f 6 9 P,f 6 10 P,f 6 11 P,f 0 11 P,f 0 12 P,f 6 14 P,f 0 11 P,f 6 15 P,f 7 0 P,f 7 1 P,f 0 11 P,f 0 12 P,f 7 2 P,f 7 3 P,f 7 4 P,f 0 11 P,f 0 12 P,f 7 5 P,f 0 11 P,f 7 6 P,f 7 7 P,f 7 8 P,f 0 11 P,f 0 12 P,f 7 9 P,f 0 11 P,f 7 10 P,f 7 11 P,f 7 12 P,f 0 11 P,f 0 12 P,f 7 13 P,f 0 11 P,f 7 14 P,f 7 15 P,f 8 0 P,f 0 11 P,f 0 12 P,f 8 1 P,f 0 11 P,f 8 2 P,f 8 3 P,f 8 4 P,f 0 11 P,f 0 12 P,f 8 5 P,f 0 11 P,f 8 6 P,f 8 7 P,f 8 8 P,f 0 11 P,f 0 12 P,f 8 9 P,f 0 11 P,f 8 10 P,f 8 11 P,f 8 12 P,f 0 11 P,f 0 12 P,f 8 13 P,f 8 14 P,f 8 15 P,f 0 11 P,f 0 12 P,f 9 0 P,f 0 11 P,f 9 1 P,f 9 2 P,f 9 3 P,f 0 11 P,f 0 12 P,f 9 4 P,f 0 11 P,f 9 5 P,f 9 6 P,f 9 7 P,f 0 11 P,f 0 12 P,f 9 8 P,f 0 11 P,f 9 9 P,f 9 10 P,f 9 11 P,f 0 11 P,f 0 12 P,f 9 14 P,f 9 15 P,f 10 0 P,f 0 11 P,f 0 12 P,f 10 1 P,f 10 2 P,f 10 3 P,f 0 11 P,f 0 12 P,f 10 4 P,f 10 5 P,f 10 6 P,f 0 11 P,f 0 12 P,f 10 7 P,f 10 8 P,f 10 9 P,f 0 11 P,f 0 12 P,f 10 10 P,f 0 11 P,f 10 11 P,f 10 12 P,f 10 13 P,f 0 11 P,f 0 12 P,f 10 14 P,f 0 11 P,f 10 15 P,f 11 0 P,f 11 1 P,f 0 11 P,f 0 12 P,f 11 2 P,f 0 11 P,f 11 3 P,f 11 4 P,f 11 5 P,f 0 11 P,f 0 12 P,f 11 6 P,f 0 11 P,f 11 7 P,f 11 8 P,f 11 9 P,f 0 11 P,f 0 12 P,f 11 10 P,f 0 11 P,f 11 11 P,f 11 12 P,f 11 13 P,f 0 11 P,f 0 12 P,f 11 14 P,f 0 11 P,f 11 15 P,f 12 0 P,f 12 1 P,f 0 11 P,f 0 12 P,f 12 2 P,f 0 11 P,f 12 3 P,f 12 4 P,f 12 5 P,f 0 11 P,f 0 12 P,f 12 6 P,f 0 11 P,f 12 7 P,f 12 8 P,f 12 9 P,f 0 11 P,f 0 12 P,f 12 12 P,f 12 13 P,f 12 14 P,f 0 11 P,f 0 12 P,f 12 15 P,f 13 0 P,f 13 1 P,f 0 11 P,f 0 12 P,f 13 2 P,f 0 11 P,f 13 3 P,f 13 4 P,f 13 5 P,f 0 11 P,f 0 12 P,f 13 6 P,f 13 7 P,f 13 8 P,f 0 11 P,f 0 12 P,f 13 9 P,f 0 11 P,f 13 10 P,f 13 11 P,f 13 12 P,f 0 11 P,f 0 12 P,f 13 13 P,f 13 14 P,f 13 15 P,f 0 11 P,f 0 12 P,f 14 0 P,f 0 11 P,f 14 1 P,f 14 2 P,f 14 3 P,f 0 11 P,f 0 12 P,f 14 4 P,f 14 5 P,f 14 6 P,f 0 11 P,f 0 12 P,f 14 7 P,f 14 8 P,f 14 9 P,f 0 11 P,f 0 12 P,f 14 10 P,f 0 11 P,f 14 11 P,f 14 12 P,f 14 13 P]⟩,{}⟩
theorem laid:(fun(_:Ee) (_:Ee) (_:Nat->Nat->Et->Obj) (_:List Stmt) (_:List Stmt) (_:List Stmt) (_:List Stmt) (_:List Stmt) (_:List Stmt)=>true) pw2 vw fA sx0 sx1 sx2 sx3 sx4 sx5=true:=by k_qdec
end QQ
namespace PySem.W.Fast
noncomputable def tw11936475775993186180:Ee:=tw4061903402435717205
theorem te11936475775993186180:Es=tw11936475775993186180:=Eq.trans (by kernel_rfl:Es=QQ.pw2) te4061903402435717205
noncomputable def tw2297041608314111083:Ee:=tw2543460329597916322
theorem te2297041608314111083:QQ.vw=tw2297041608314111083:=te2543460329597916322
noncomputable def tw16148180825055544359:List Stmt:=tw4220349153739756805
theorem te16148180825055544359:QQ.sx0=tw16148180825055544359:=te4220349153739756805
noncomputable def tw8349918476018711830:List Stmt:=tw11397161696757032129
theorem te8349918476018711830:QQ.sx1=tw8349918476018711830:=te11397161696757032129
noncomputable def tw7770069687897298989:List Stmt:=tw10303515436491237874
theorem te7770069687897298989:QQ.sx2=tw7770069687897298989:=te10303515436491237874
noncomputable def tw739898571508600639:List Stmt:=tw12358083906500975388
theorem te739898571508600639:QQ.sx3=tw739898571508600639:=te12358083906500975388
noncomputable def tw674432154394464193:List Stmt:=tw2861187580803015100
theorem te674432154394464193:QQ.sx4=tw674432154394464193:=te2861187580803015100
noncomputable def tw9599092579554314009:List Stmt:=tw9932084693255007381
theorem te9599092579554314009:QQ.sx5=tw9599092579554314009:=te9932084693255007381
noncomputable def tw3279678173663511452:Et->BT:=QQ.tX0 tw16523235828492288951
theorem te3279678173663511452:QQ.tX0 QQ.fA=tw3279678173663511452:=congrArg QQ.tX0 te16523235828492288951
noncomputable def tw10103426355432314513:Et->BT:=QQ.tX1 tw16523235828492288951
theorem te10103426355432314513:QQ.tX1 QQ.fA=tw10103426355432314513:=congrArg QQ.tX1 te16523235828492288951
noncomputable def tw14737780345880546065:Et->BT:=QQ.tX2 tw16523235828492288951
theorem te14737780345880546065:QQ.tX2 QQ.fA=tw14737780345880546065:=congrArg QQ.tX2 te16523235828492288951
noncomputable def tw8238400649397047496:Et->BT:=QQ.tX3 tw16523235828492288951
theorem te8238400649397047496:QQ.tX3 QQ.fA=tw8238400649397047496:=congrArg QQ.tX3 te16523235828492288951
noncomputable def tw2303202490275803588:Et->BT:=QQ.tX4 tw16523235828492288951
theorem te2303202490275803588:QQ.tX4 QQ.fA=tw2303202490275803588:=congrArg QQ.tX4 te16523235828492288951
noncomputable def tw10257020646293785566:Et->BT:=QQ.tX5 tw16523235828492288951
theorem te10257020646293785566:QQ.tX5 QQ.fA=tw10257020646293785566:=congrArg QQ.tX5 te16523235828492288951
noncomputable def tw14836796186559753011:Et->BT:=QQ.tX6 tw16523235828492288951
theorem te14836796186559753011:QQ.tX6 QQ.fA=tw14836796186559753011:=congrArg QQ.tX6 te16523235828492288951
noncomputable def tw350439887277173070:Et->PySem.Heap:=QQ.hX0 tw16523235828492288951
theorem te350439887277173070:QQ.hX0 QQ.fA=tw350439887277173070:=congrArg QQ.hX0 te16523235828492288951
noncomputable def tw8074362868622124794:Et->PySem.Heap:=QQ.hX1 tw16523235828492288951
theorem te8074362868622124794:QQ.hX1 QQ.fA=tw8074362868622124794:=congrArg QQ.hX1 te16523235828492288951
end PySem.W.Fast
open PySem PySem.W PyProof.Rows
set_option maxRecDepth 100000 in
set_option maxHeartbeats 0 in
theorem PySem.Challenge.cw_spotlook_k57_lands_beside_one_another_holds : PySem.Challenge.rw_spotlook_k57_lands_beside_one_another.Holds := by
 w_on;o_law;o_head (PySem.W.kHook QQ.kK [↑3,↑45,↑46,↑52,↑53,↑59,↑60,↑66,↑67,↑73,↑74,↑80,↑81,↑87,↑88,↑94,↑95,↑101,↑102,↑108,↑109,↑115,↑116,↑122,↑123,↑129,↑130,↑136,↑137,↑143,↑144,↑150,↑151,↑157,↑158,↑164,↑165,↑169,↑170,↑176,↑177,↑183,↑184,↑190,↑191,↑197,↑198,↑204,↑205,↑211,↑212,↑216,↑217,↑223,↑224,↑230,↑231,↑237,↑238,↑242,↑243,↑247,↑248,↑252,↑253,↑257,↑258,↑264,↑265,↑271,↑272,↑278,↑279,↑285,↑286,↑292,↑293,↑299,↑300,↑306,↑307,↑313,↑314,↑318,↑319,↑323,↑324,↑330,↑331,↑335,↑336,↑342,↑343,↑347,↑348,↑354,↑355,↑359,↑360,↑364,↑365,↑371,↑372] (fun _=>by kernel_rfl));(case hw=>w_witness2)
 k_fill
 refine SD.va (k:=12) (x:="_law_script") (sp:=QQ.ig) (l:=PySem.Challenge.rw_spotlook_k57_lands_beside_one_another) rfl rfl ⟨rfl,by decide,by decide,rfl⟩ (fun w h Y=>PySem.W.kIn_of Y) ?F QQ.AH
 case F=>
  intro w mg fa h KX G hmg
  have T:QQ.Tx (L2.KOf KX) mg:=by
   dsimp only[L2.KOf]
   constructor
   all_goals first
    |(refine' PySem.W.mg_none_of KX G ?a;(case a=>k_is))
    |(refine' SD.Txt.mk KX G ?a ?l ?c ?k;(case a=>k_is);(case l=>k_is);(case c=>k_is);(case k=>k_is))
  exact QQ.Cq T hmg
