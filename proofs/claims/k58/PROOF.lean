import PyProof.Rows.All
import Wide.All
import OpenK.AllK
import Wide.FinOn
import Lean
import PyProof.EqAt
import PyProof.EqKinds
import PyProof.TupleCall
import PySem.Challenge.RW_spotlook_k58_areas
open Option renaming some->KA
open Option renaming none->KC
open Bool renaming true->KD
open Bool renaming false->KG
theorem KH{c:Prop}{d:Decidable c}(h:¬c){a:Sort _}{x y:a}:(if c then x else y)=y:=if_neg h
theorem KI{c:Prop}{d:Decidable c}(h:c){a:Sort _}{x y:a}:(if c then x else y)=x:=if_pos h
theorem KJ{p:Prop}[Decidable p](h:¬p):decide p=false:=decide_eq_false h
theorem KL{p:Prop}[Decidable p](h:p):decide p=true:=decide_eq_true h
theorem KN{p q:Prop}{_:Decidable p}{_:Decidable q}:(decide p=decide q)=(p↔q):=propext decide_eq_decide
local macro_rules|`(())=>`(by omega)
local macro_rules|`(⋯)=>`(by decide)
local macro_rules | `(tactic| omega) => `(tactic| lia)
open Bool renaming false_ne_true->HJ,and_eq_true->IQ,false_eq_true->IW
open False renaming elim->HS
open ForInStep renaming yield->JJ
open Int renaming sign->HQ,sign_eq_neg_one_of_neg->Ia,mul_pos->Ib,lt_trichotomy->Ie,mul_neg_of_neg_of_pos->Ik,mul_neg_of_pos_of_neg->Il,sign_eq_one_of_pos->Ip,fdiv_eq_ediv_of_nonneg->Iw,mul_pos_of_neg_of_neg->IC,le_of_lt->IV,toNat_natCast->K1,ofNat->Ka
open List renaming getElem?_eq_getElem->Hl,length_map->Hn,map_cons->Hs,getElem?_map->Ht,toArray->HD,mem_of_getElem?->HE,size_toArray->HI,mem_append_right->HK,mem_append->HM,getElem?_eq_some_iff->HN,map_append->HR,mem_cons->HW,range->HX,replicate->HY,find?_cons->HZ,mem_filter->Ig,mem_cons_of_mem->Io,length_cons->Iu,getElem_mem->Iz,getElem?_append_left->IB,getElem?_append_right->IG,length_filter_le->II,length_append->IJ,take_of_length_le->IP,mem_map->IU,append_nil->IX,mem_cons_self->J0,take_succ->J3,lookup_cons->J6,map_nil->Jb,map->Jc,replicate_succ->Je,sum_cons->Jg,mem_singleton->Jk,length_take->Ju,mem_range->JB,range_succ->JK,lookup->JN,any_cons->JP,all_eq_true->JS,nodup_cons->JY,flatten_cons->K2,range'->K3
open Nat renaming le_refl->Hq,lt_of_lt_of_le->HL,ne_of_lt->Im,le_trans->IA,zero_le->Jl,lt_irrefl->Jp,gcd->JV
open Option renaming getD_some->Jx
open PyProof.Rows renaming IntsAre->JF,callWith_type1->JM
open PySem renaming wpAny_bind->cc,Value->Hj,Shared->Hk,wpAny_pure->Hm,wpAny->Hu,starEach->Hv,Params->Hw,wpAny_mono->Hx,sizeLine->Hy,model->HC,Program->HF,foldedSetIterable->Ic,World->Ih,Around->Ij,compareOp->Iq,mainGlobals->Ir,mem_of_lookup->Iy,bootBuiltins->ID,DictEntry->IL,wpAny_newObj_type->IS,backTo->IY,cLine->IZ,wpAny_holding->J4,wpAny_standAt->J5,wpAny_truthy_bool->J9,Spec->Ji,sysModules->Jj,cellsFrom->Jm,codeAny_call_builtin->Jn,codeAny->Jo,letOwnedTupleGo->Jr,binaryOp->Jt,attributeBase->Jz,Scope->JC,wpAny_typeNameOfWhole_keyiter->JE,wpAny_loadPart'->JI,NameKind->JL,keywordEach->JO,swapsWith->JR,FuncData->JT,wpAny_Call_Name_kw->JU,PyData->JW,wpAny_passesOwn->JX,behindInMarks->K5,assignEach->K6,Builtin->K8,assign->K9,Paired->Kb
open PySem.Builtin.ObjectAttr renaming storeInDict->Jy
open PySem.Challenge renaming pw_spotlook_k58_areas->IH
open PySem.F renaming slot_dict_keyiterator_next->Jh
open PySem.Heap renaming get?_push_of_some->Ho,lt_size->Hz,get?_push_size->HG,get?_update_other->IE,get?_update_self->J7,size_push->Jf,SameBut->K0
open PySem.NameKind renaming free->JQ
open PySem.PassesOwn renaming never->HP
open PySem.PyData renaming eqv->IM,eqvAll->Jd
open PySem.Str renaming ofString->J1
open PySem.Value renaming ref->Ii,none->Jq,builtin->JA,type->K4
open PySem.W renaming Frag->H0,BT->Hr,subIn->IF,kitOne->IK,nsIn->IT,fnOf->Ja,keepIn->JD,hasDictIn->JH,kia_one->JZ,excIn->K7
open Rat renaming intCast_mul->Iv,intCast_sub->Js,num_divInt_den->Jw,divInt_eq_div->JG
open True renaming intro->Jv
local macro_rules | `(↑$n:num) => `(nat_lit $n)
set_option Elab.async false
set_option linter.all false
set_option maxRecDepth 100000
set_option maxHeartbeats 4000000
set_option allowUnsafeReducibility true
theorem LB{n m:Nat}(h:Nat.ble n m=KD):n<=m:=Nat.le_of_ble_eq_true h
namespace L2
open PySem PySem.Spec PyProof.Rows
abbrev Key:=Sum Int Str
def mh:Key->Hj->Bool
 |.inl k,v=>Value.isInt k v
 |.inr x,v=>Value.isStrOf x v
def G7(w:Ih):Key->Int
 |.inl k=>hashInt k
 |.inr x=>hashStr w x
theorem bo:∀{k:Key} {v:Hj},mh k v=KD->(∃i t,k=Sum.inl i/\v=Value.int i t)\/(∃x t,k=Sum.inr x/\v=Value.str x t)
 |.inl i,v,h=>by
  obtain⟨t,e⟩:=Value.isInt_shape (k:=i) (v:=v) h
  exact .inl ⟨i,t,rfl,e⟩
 |.inr x,v,h=>by
  obtain⟨t,e⟩:=Value.isStrOf_shape (x:=x) (v:=v) h
  exact .inr ⟨x,t,rfl,e⟩
theorem tU(i:Int)(t:Tok):mh (.inl i) (.int i t)=KD:=by simp[mh,Value.isInt]
theorem tW(x:Str)(t:Tok):mh (.inr x) (.str x t)=KD:=by simp[mh,Value.isStrOf]
theorem BX(a b:Int):decide ((Sum.inl a:Key)=Sum.inl b)=(a==b):=by
 by_cases e:a=b
 ·subst e;simp
 ·have h:¬(Sum.inl a:Key)=Sum.inl b:=fun q=>e (Sum.inl.inj q);rw[KJ h];exact(beq_eq_false_iff_ne.mpr e).symm
theorem Cj(a b:Str):decide ((Sum.inr a:Key)=Sum.inr b)=decide (a=b):=by
 by_cases e:a=b
 ·subst e;simp
 ·have h:¬(Sum.inr a:Key)=Sum.inr b:=fun q=>e (Sum.inr.inj q);rw[KJ h,KJ e]
theorem Cw(a:Int)(b:Str):decide ((Sum.inl a:Key)=Sum.inr b)=KG:=KJ (fun q=>nomatch q)
theorem BV(a:Str)(b:Int):decide ((Sum.inr a:Key)=Sum.inl b)=KG:=KJ (fun q=>nomatch q)
def bI(prog:HF)(w:Ih):PySem.KeyKind prog w Key where
 is:=mh
 hash:=G7 w
 inj:=fun v a b f d=>by
  rcases bo f with⟨i,t,rfl,rfl⟩|⟨x,t,rfl,rfl⟩
  ·rcases bo d with⟨j,u,rfl,e⟩|⟨y,u,rfl,e⟩
   ·injection e with e1 _;rw[e1]
   ·exact nomatch e
  ·rcases bo d with⟨j,u,rfl,e⟩|⟨y,u,rfl,e⟩
   ·exact nomatch e
   ·injection e with e1 _;rw[e1]
 byValue:=fun k v h=>by
  rcases bo h with⟨i,t,rfl,rfl⟩|⟨x,t,rfl,rfl⟩<;>rfl
 pyHash:=fun c h=>by
  rcases bo c with⟨i,t,rfl,rfl⟩|⟨x,t,rfl,rfl⟩
  ·exact wpAny_pyHash_int h
  ·exact wpAny_pyHash_str h
 eqBool:=fun g c h=>by
  rcases bo g with⟨i,t,rfl,rfl⟩|⟨x,t,rfl,rfl⟩
  ·rcases bo c with⟨j,u,rfl,rfl⟩|⟨y,u,rfl,rfl⟩
   ·rw[BX]at h;exact wpAny_eqBool_int h
   ·rw[Cw]at h;exact SeqAt.EqAt.int_str i t y u _ _ _ _ h
  ·rcases bo c with⟨j,u,rfl,rfl⟩|⟨y,u,rfl,rfl⟩
   ·rw[BV]at h;exact SeqAt.EqAt.str_int x t j u _ _ _ _ h
   ·rw[Cj]at h;exact wpAny_eqBool_str h
 «strs»:=fun k x t v h=>by
  rcases bo h with⟨i,u,rfl,e⟩|⟨y,u,rfl,e⟩
  ·exact nomatch e
  ·injection e with e1 _
   subst e1
   cases v<;>rfl
theorem oX(prog:HF)(w:Ih)(i:Int)(t:Tok):(bI prog w).is (.inl i) (.int i t)=KD:=tU i t
theorem nW(prog:HF)(w:Ih)(x:Str)(t:Tok):(bI prog w).is (.inr x) (.str x t)=KD:=tW x t
inductive V where
 |non|bl (b:Bool)|int (i:Int)|str (x:Str)|byt (b:Array UInt8)|flt (b:UInt64)|ref (a:Addr)|ty (n:String)
 deriving DecidableEq
def RelV:V->Hj->Prop
 |.non,u=>u=Jq
 |.bl b,u=>u=Value.bool b
 |.int i,u=>∃t,u=Value.int i t
 |.str x,u=>∃t,u=Value.str x t
 |.byt b,u=>∃t,u=Value.bytes b t
 |.flt b,u=>∃t,u=Value.float b t
 |.ref a,u=>u=Ii a
 |.ty n,u=>u=K4 n
abbrev Vals:List V->List Hj->Prop:=Kb RelV
theorem Vals.length{xs:List V}{us:List Hj}(r:Vals xs us):xs.length=us.length:=Paired.length r
theorem Vals.get:∀{xs:List V} {us:List Hj} {i:Nat} {x:V},Vals xs us->xs[i]?=KA x->∃u,us[i]?=KA u/\RelV x u
 |_,_,_,_,.nil,e=>by simp at e
 |_,_,0,_,.cons r _,e=>by simp at e;subst e;exact⟨_,rfl,r⟩
 |_,_,i+1,x,.cons _ t,e=>by
  obtain⟨u,h1,a⟩:=Vals.get (i:=i) (x:=x) t (by simpa using e)
  exact⟨u,by simpa using h1,a⟩
theorem Vals.set{x:V}{u:Hj}(r:RelV x u):∀{xs:List V} {us:List Hj} (i:Nat),Vals xs us->Vals (xs.set i x) (us.set i u)
 |_,_,_,.nil=>.nil
 |_,_,0,.cons _ t=>.cons r t
 |_,_,i+1,.cons q t=>.cons q (Vals.set r i t)
theorem Vals.append:∀{xs a:List V} {us ws:List Hj},Vals xs us->Vals a ws->Vals (xs++a) (us++ws):=by
 intro xs a us ws h s
 induction h with
 |nil=>exact s
 |cons r t b=>exact .cons r b
theorem Vals.take:∀{xs:List V} {us:List Hj} (n:Nat),Vals xs us->Vals (xs.take n) (us.take n)
 |_,_,0,_=>.nil
 |_,_,_+1,.nil=>.nil
 |_,_,n+1,.cons r t=>.cons r (Vals.take n t)
theorem Vals.drop:∀{xs:List V} {us:List Hj} (n:Nat),Vals xs us->Vals (xs.drop n) (us.drop n)
 |_,_,0,r=>r
 |_,_,_+1,.nil=>.nil
 |_,_,n+1,.cons _ t=>Vals.drop n t
def jD:Option V->Option Hj->Prop
 |some v,KA u=>RelV v u
 |none,KC=>True
 |_,_=>False
def KV{a:Type}:List (a×V)->List (a×Hj)->Prop:=Kb fun(p:a×V) (q:a×Hj)=>p.1=q.1/\RelV p.2 q.2
def kV:Key->V
 |.inl i=>.int i
 |.inr x=>.str x
inductive HO where
 |lst (xs:List V)
 |tup (xs:List V)
 |dK (kvs:List (Key×V))|dT (kvs:List (List Key×V))
 |set (S:Int->Bool) (n:Nat)
 |ins (C dx:Addr) (fs:List (Str×V))
 |own (x:Addr)
 |xd (fs:List (Str×V))
 |met (f x:Addr)
 |rng (lo hi:Int)
 |frz (o:Obj) (u:HO)
 |tbl (ps:Array Hj)
 |ext (φ:Heap->Prop)
abbrev Hp:=Addr->Option HO
def upd(H:Hp)(a:Addr)(o:HO):Hp:=fun b=>if b=a then KA o else H b
theorem aH{H:Hp}{a:Addr}{o:HO}:upd H a o a=KA o:=by unfold upd;rw[KI rfl]
theorem aE{H:Hp}{a b:Addr}{o:HO}(h:b≠a):upd H a o b=H b:=by unfold upd;rw[KH h]
theorem Am{H:Hp}{a:Addr}{o u:HO}:upd (upd H a o) a u=upd H a u:=by funext b;unfold upd;split<;>rfl
theorem EB{H:Hp}{a b:Addr}{o u:HO}(h:H a=KA o)(h':H b=KA u)(d:o≠u):a≠b:=by intro e;subst e;rw[h]at h';exact d (Option.some.inj h')
theorem dI{H:Hp}{a b:Addr}{o:HO}(h:H a=KA o)(h':H b=KC):a≠b:=by intro e;subst e;rw[h]at h';cases h'
section
variable(P:HF)(w:Ih)
def QA(h:Heap)(a:Addr):Prop:=∃o,h.get? a=KA o/\o.dict=KC
theorem QA.new(h:Heap)(u:Array Hj):QA (h.push { cls:=.type "tuple",data:=.seq u }) h.objs.size:=⟨_,HG _ rfl,rfl⟩
def bG(H:Hp)(h:Heap)(a:Addr):HO->Prop
 |.lst xs=>xs.length<=Hy/\∃(b:List Hj) (n:Nat),Vals xs b/\h.get? a=KA { cls:=.type "list",data:=.seq b.toArray n }
 |.tup xs=>xs.length<=Hy/\∃b:List Hj,Vals xs b/\IsTup h a b.toArray/\QA h a
 |.dK kvs=>kvs.length<=Hy/\(a==Jj)=KG/\∃vs,KV kvs vs/\h.DictOf (bI P w) a vs
 |.dT kvs=>kvs.length<=Hy/\(a==Jj)=KG/\∃xs:List (List Key×Addr×Hj),
  Kb (fun(p:List Key×V) (q:List Key×Addr×Hj)=>p.1=q.1/\H q.2.1=KA (.tup (p.1.map kV))/\RelV p.2 q.2.2) kvs xs/\
  ∃o g j,h.get? a=KA o/\o.ExactDict/\o.data=.dict g j/\g.toList=xs.map (entryOfKey (tupleKind (bI P w)))/\(xs.map (·.1)).Nodup
 |.set S n=>h.SetOf (intKind P w) a S n
 |.ins C d fs=>H d=KA (.own a)/\fs.length<=1000/\d≠a/\h.get? a=KA (PySem.W.instObj C d)/\
  ∃c,h.Ns1 d c/\(∀f,jD (fs.lookup f) (c f))/\PySem.Within c (fs.map (·.1))
 |.own _=>∃o,h.get? a=KA o
 |.xd fs=>∃c,h.Ns1 a c/\∀f,jD (fs.lookup f) (c f)
 |.rng k l=>∃t u v,h.get? a=KA { cls:=.type "range",data:=.fields #[.int k t,.int l u,.int 1 v] }
 |.frz o u=>h.get? a=KA o/\bG H h a u
 |.tbl ps=>h.get? a=KA { cls:=.none,data:=.fields ps }
 |.met f x=>h.get? a=KA (PySem.W.methodObj (.ref f) (.ref x))
 |.ext e=>e h/\(∃o,h.get? a=KA o)/\∀h1 i:Heap,e h1->(∀o,h1.get? a=KA o->i.get? a=KA o)->e i
def Ll(H:Hp)(h:Heap):Prop:=∀a o,H a=KA o->bG P w H h a o
end
section
variable{P:HF}{w:Ih}{H H':Hp}{h h':Heap}{a:Addr}{o:HO}
theorem bG.lt(x:bG P w H h a o):a<h.objs.size:=by
 cases o with
 |lst xs=>obtain⟨_,_,_,_,e⟩:=x;exact Hz e
 |tup xs=>obtain⟨_,_,_,p,_⟩:=x;exact p.lt
 |dK kvs=>obtain⟨_,_,_,_,o,_,_,e,_⟩:=x;exact Hz e
 |dT kvs=>obtain⟨_,_,_,_,o,_,_,e,_⟩:=x;exact Hz e
 |set S n=>obtain⟨o,_,_,_,e,_⟩:=x;exact Hz e
 |ins C b fs=>obtain⟨_,_,_,e,_⟩:=x;exact Hz e
 |own y=>obtain⟨_,e⟩:=x;exact Hz e
 |xd fs=>obtain⟨_,⟨_,_,_,e,_⟩,_⟩:=x;exact Hz e
 |rng c d=>obtain⟨_,_,_,e⟩:=x;exact Hz e
 |frz ob u=>obtain⟨e,_⟩:=x;exact Hz e
 |tbl ps=>exact Hz (show h.get? a=KA _ from x)
 |met f y=>exact Hz (show h.get? a=KA _ from x)
 |ext g=>obtain⟨_,⟨_,e⟩,_⟩:=x;exact Hz e
theorem Paired.FI{c d:Type}{F G:c->d->Prop}:∀{l₁:List c} {l₂:List d},Kb F l₁ l₂->(∀a b,F a b->G a b)->Kb G l₁ l₂:=by
 intro l₁ l₂ h f
 induction h with
 |nil=>exact .nil
 |cons r t e=>exact .cons (f _ _ r) e
theorem bG.eK(x:bG P w H h a o)(k:∀b u,(b=a\/H b=KA (.own a))->h.get? b=KA u->h'.get? b=KA u) (m:∀b,H b=KA (.own a)->H' b=KA (.own a)) (s:∀b xs,H b=KA (.tup xs)->H' b=KA (.tup xs)):bG P w H' h' a o:=by
 induction o with
 |lst xs=>obtain⟨z,j,n,r,e⟩:=x;exact⟨z,j,n,r,k _ _ (.inl rfl) e⟩
 |tup xs=>obtain⟨z,j,r,⟨ob,e,c⟩,A,e2,B⟩:=x;exact⟨z,j,r,⟨ob,k _ _ (.inl rfl) e,c⟩,A,k _ _ (.inl rfl) e2,B⟩
 |dK kvs=>obtain⟨z,y,vs,r,ob,g,i,e,c⟩:=x;exact⟨z,y,vs,r,ob,g,i,k _ _ (.inl rfl) e,c⟩
 |dT kvs=>
  obtain⟨z,y,xs,r,ob,g,i,e,c⟩:=x
  exact⟨z,y,xs,Paired.FI r fun p q z=>⟨z.1,s _ _ z.2.1,z.2.2⟩,ob,g,i,k _ _ (.inl rfl) e,c⟩
 |set S n=>obtain⟨ob,g,i,t,e,c⟩:=x;exact⟨ob,g,i,t,k _ _ (.inl rfl) e,c⟩
 |ins C E fs=>
  obtain⟨d,z,ne,e,l,⟨od,g,i,e2,c⟩,r⟩:=x
  exact⟨m _ d,z,ne,k _ _ (.inl rfl) e,l,⟨od,g,i,k _ _ (.inr d) e2,c⟩,r⟩
 |own y=>obtain⟨ob,e⟩:=x;exact⟨ob,k _ _ (.inl rfl) e⟩
 |xd fs=>obtain⟨l,⟨od,g,i,e,c⟩,r⟩:=x;exact⟨l,⟨od,g,i,k _ _ (.inl rfl) e,c⟩,r⟩
 |rng F G=>obtain⟨t,u,v,e⟩:=x;exact⟨t,u,v,k _ _ (.inl rfl) e⟩
 |frz ob u D=>obtain⟨e,q⟩:=x;exact⟨k _ _ (.inl rfl) e,D q⟩
 |tbl ps=>
  have e:h.get? a=KA { cls:=.none,data:=.fields ps }:=x
  show h'.get? a=KA { cls:=.none,data:=.fields ps }
  exact k a _ (.inl rfl) e
 |met f y=>
  have e:h.get? a=KA (PySem.W.methodObj (.ref f) (.ref y)):=x
  show h'.get? a=KA (PySem.W.methodObj (.ref f) (.ref y))
  exact k a _ (.inl rfl) e
 |ext I=>obtain⟨p,⟨o,e⟩,st⟩:=x;exact⟨st _ _ p fun o q=>k _ _ (.inl rfl) q,⟨o,k _ _ (.inl rfl) e⟩,st⟩
theorem Ll.lt(x:Ll P w H h)(e:H a=KA o):a<h.objs.size:=(x a o e).lt
theorem Ll.fresh(x:Ll P w H h)(e:h.objs.size<=a):H a=KC:=by
 cases q:H a with
 |none=>rfl
 |some u=>exact absurd (HL (x.lt q) e) (Jp _)
theorem Ll.kept(x:Ll P w H h)(k:∀b u,h.get? b=KA u->h'.get? b=KA u):Ll P w H h':=fun a o e=>(x a o e).eK (fun b u _ q=>k b u q) (fun _ q=>q) fun _ _ q=>q
theorem Ll.laid(x:Ll P w H h)(k:∀b u,h.get? b=KA u->h'.get? b=KA u)(g:h.objs.size<=a)(new:bG P w (upd H a o) h' a o):Ll P w (upd H a o) h':=fun b u e=>by
 have d:=x.fresh g;by_cases f:b=a
 ·subst f;rw[aH]at e;cases e;exact new
 ·rw[aE f]at e;exact(x b u e).eK (fun c v _ q=>k c v q) (fun c q=>by rw[aE (dI q d)];exact q) fun c xs q=>by rw[aE (dI q d)];exact q
end
def Rd(H:Hp)(a:Addr)(u:HO):Prop:=H a=KA u\/∃o,H a=KA (.frz o u)
theorem Rd.ok{P:HF}{w:Ih}{H:Hp}{h:Heap}{a:Addr}{u:HO}(r:Rd H a u)(x:Ll P w H h):bG P w H h a u:=by
 rcases r with r|⟨o,r⟩
 ·exact x a u r
 ·obtain⟨_,q⟩:=x a _ r;exact q
def Ve:Option HO->Prop
 |some (.lst _)=>True
 |some (.dK _)=>True
 |some (.dT _)=>True
 |some (.set _ _)=>True
 |some (.ins _ _ _)=>True
 |some (.ext _)=>True
 |_=>False
section
variable{P:HF}{w:Ih}{H:Hp}{h h':Heap}{x e:Addr}{o':HO}
theorem Ll.write(ok:Ll P w H h)(g:Ve (H x))(m:e=x\/H e=KA (.own x))(k:∀b u,b≠e->h.get? b=KA u->h'.get? b=KA u)(l:∃u,h'.get? e=KA u)
 (new:bG P w (upd H x o') h' x o'):Ll P w (upd H x o') h':=fun b u q=>by
 have d:∀c y,H c=KA (.own y)->c≠x:=fun c y r z=>by subst z;rw[r]at g;exact g
 have f:∀c xs,H c=KA (.tup xs)->c≠x:=fun c xs r z=>by subst z;rw[r]at g;exact g
 by_cases i:b=x
 ·subst i;rw[aH]at q;cases q;exact new
 ·rw[aE i]at q
  by_cases a:b=e
  ·have n:H b=KA (.own x):=by
    rcases m with z|z
    ·exact absurd (a.trans z) i
    ·rw[a];exact z
   rw[q]at n;cases n
   obtain⟨v,o⟩:=l
   exact⟨v,by rw[a];exact o⟩
  ·refine(ok b u q).eK (fun c v j r=>k c v ?_ r) (fun c r=>by rw[aE (d c b r)];exact r) fun c xs r=>by rw[aE (f c xs r)];exact r
   rcases j with rfl|j
   ·exact a
   ·rintro rfl
    rcases m with z|z
    ·exact d c b j z
    ·rw[j]at z;cases z;exact i rfl
end
structure Un(fs ex:List Addr)(H H':Hp)(h h':Heap):Prop where
 keep:∀b o,h.get? b=KA o->H b=KC->b∉fs->b∉ex->h'.get? b=KA o
 slot:∀b o,h.get? b=KA o->H b=KC->b∈fs->b∉ex->∃sl,h'.get? b=KA { o with slots:=sl }
 free:∀b o,h.get? b=KA o->H b=KC->b∉ex->H' b=KC
 there:∀b o,h.get? b=KA o->b∉ex->∃o',h'.get? b=KA o'
 tups:∀b xs,H b=KA (.tup xs)->H' b=KA (.tup xs)
 frzs:∀b o u,H b=KA (.frz o u)->H' b=KA (.frz o u)
 tbls:∀b ps,H b=KA (.tbl ps)->∃more,H' b=KA (.tbl (ps++more))
section
variable{fs KO ex KP:List Addr}{H H1 H2:Hp}{h h1 h2 h':Heap}{a x e:Addr}{o:HO}
theorem Un.any(u:Un fs ex H H1 h h1){b:Addr}{ob:Obj}(q:h.get? b=KA ob)(n:H b=KC)(c:b∉ex):∃f,h1.get? b=KA { ob with slots:=f }:=by
 by_cases d:b∈fs
 ·exact u.slot b ob q n d c
 ·exact⟨ob.slots,u.keep b ob q n d c⟩
theorem Un.kept(k:∀b u,h.get? b=KA u->h'.get? b=KA u):Un fs ex H H h h':=⟨fun b ob q _ _ _=>k b ob q,fun b ob q _ _ _=>⟨ob.slots,k b ob q⟩,fun _ _ _ n _=>n,fun b ob q _=>⟨ob,k b ob q⟩,fun _ _ q=>q,fun _ _ _ q=>q,fun _ ps q=>⟨#[],by rw[q];simp⟩⟩
theorem Un.refl:Un fs ex H H h h:=Un.kept fun _ _ q=>q
theorem Un.laid(k:∀b u,h.get? b=KA u->h'.get? b=KA u)(d:h.objs.size<=a)(c:H a=KC):Un fs ex H (upd H a o) h h' where
 keep:=fun b u q _ _ _=>k b u q
 slot:=fun b u q _ _ _=>⟨u.slots,k b u q⟩
 free:=fun b u q n _=>by rw[aE (Im (HL (Hz q) d))];exact n
 there:=fun b u q _=>⟨u,k b u q⟩
 tups:=fun b xs q=>by rw[aE (dI q c)];exact q
 frzs:=fun b u xs q=>by rw[aE (dI q c)];exact q
 tbls:=fun b ps q=>⟨#[],by rw[aE (dI q c),q];simp⟩
theorem Un.write(d:Ve (H x))(l:e=x\/H e=KA (.own x))(k:∀b u,b≠e->h.get? b=KA u->h'.get? b=KA u)(f:∃u,h'.get? e=KA u):Un fs ex H (upd H x o) h h':=by
 have i:∀b,H b=KC->b≠x:=fun b n z=>by subst z;rw[n]at d;exact d
 have j:∀b,H b=KC->b≠e:=fun b n z=>by
  subst z;rcases l with r|r
  ·exact i b n r
  ·rw[n]at r;cases r
 have g:∀b u,H b=KA u->¬Ve (KA u)->b≠x:=fun b u q nm z=>by subst z;rw[q]at d;exact nm d
 refine⟨fun b u q n _ _=>k b u (j b n) q,fun b u q n _ _=>⟨u.slots,k b u (j b n) q⟩,fun b u q n _=>by rw[aE (i b n)];exact n,fun b u q _=>?_,fun b xs q=>by rw[aE (g b _ q fun z=>z)];exact q,fun b u xs q=>by rw[aE (g b _ q fun z=>z)];exact q,fun b ps q=>⟨#[],by rw[aE (g b _ q fun z=>z),q];simp⟩⟩;by_cases c:b=e
 ·subst c;exact f
 ·exact⟨u,k b u c q⟩
end
def Vr(h:Heap)(H:Hp):List Addr:=(HX h.objs.size).filter fun a=>(H a).isSome
def nk(h:Heap)(H:Hp):Heap:=PySem.W.hideAll h (Vr h H)
theorem uj(h:Heap)(H:Hp):(nk h H).objs.size=h.objs.size:=PySem.W.hideAll_size _ _
theorem wU{h:Heap}{H:Hp}{b:Addr}{o:Obj}(e:h.get? b=KA o)(n:H b=KC):(nk h H).get? b=KA o:=
 PySem.W.hideAll_get _ e fun a=>by
  have q:(H b).isSome=KD:=(Ig.mp a).2
  rw[n]at q;simp at q
theorem y8{h:Heap}{H:Hp}{b:Addr}{o:Obj}(e:(nk h H).get? b=KA o):h.get? b=KA o/\H b=KC:=by
 have a:h.get? b=KA o:=PySem.W.of_hideAll (Vr h H) e;refine⟨a,?_⟩;cases q:H b with
 |none=>rfl
 |some x=>
  have c:b∈Vr h H:=Ig.mpr ⟨JB.mpr (Hz a),by simp[q]⟩
  have z:(nk h H).get? b=KC:=PySem.W.hideAll_none (Vr h H) c
  rw[z]at e;cases e
structure Mod(K:H0)(mg:Str->Option Hj)(base:Heap):Prop where
 kin:K.In base
 glob:base.Ns Ir mg
 blt:∃mb,base.Ns builtinsNs mb/\∀x:Str,x≠"__name__"->mb x=ID x
 nolimit:base.NoLimit
structure Cx where
 prog:HF
 w:Ih
 K:H0
 mg:Str->Option Hj
 base:Heap
 A:Ij
 N:List Str
 s₀:Hk
 H₀:Hp
 env:Env
 outer:List Env
 stack:List Env
 ex:List Addr
 fn:Str->Bool
 calm:Bool
 pn:List (Addr×Obj)
 xe:Hj->Hk->Prop
def Lj(l:List Env):List Addr:=l.filterMap (·.frame)
abbrev Cx.fs(X:Cx):List Addr:=Lj X.outer
def QJ(sc:JC)(x:Str):Prop:=sc.names.lookup x=KA .local\/sc.names.lookup x=KA .cell\/sc.names.lookup x=KA .free
def Loc(sc:JC)(x:Str):Prop:=sc.names.lookup x=KA .local\/sc.names.lookup x=KA .cell
def Look(env:Env)(h:Heap)(m:Str->Option Hj)(x:Str)(u:Hj):Prop:=
 (env.kindOf x=KA .local/\m x=KA u)\/((env.kindOf x=KA .cell\/env.kindOf x=KA .free)/\∃c,env.cells.lookup x=KA c/\h.IsCell c (KA u))
structure Cx.Ok(X:Cx):Prop where
 mod:Mod X.K X.mg X.base
 kind:X.env.scope.kind=.function
 glob:X.env.globals=Ir
 blt:X.env.builtins=builtinsNs
 above:X.s₀.heap.objs.size<=X.env.locals
 inj:∀x y c,X.env.cells.lookup x=KA c->X.env.cells.lookup y=KA c->x=y
 has:∀x,(X.env.kindOf x=KA .cell\/X.env.kindOf x=KA .free)->∃c,X.env.cells.lookup x=KA c
 cab:∀x c,X.fn x=KD->X.env.cells.lookup x=KA c->X.s₀.heap.objs.size<=c
 hd:X.calm=KD->X.A.handled=KC
 frames:X.A.frames=KA X.stack
 stk:X.stack=X.outer\/(X.stack=X.env::X.outer/\X.env.frame=KA X.env.locals)
 exf:∀b∈X.ex,b≠X.env.locals/\∀x c,X.env.cells.lookup x=KA c->c≠b
 bs:∀b o,X.base.get? b=KA o->X.s₀.heap.get? b=KA o/\X.H₀ b=KC
 bsz:X.base.objs.size<=X.s₀.heap.objs.size
 noex:∀b o,X.base.get? b=KA o->b∉X.ex
 exfs:∀b∈X.ex,b∉X.fs
 gR:X.s₀.heap.FunFrames X.base X.outer
 frf:∀b∈X.fs,X.H₀ b=KC
structure Inv(X:Cx)(KQ:List (Addr×Obj))(σ:List (Option V))(H:Hp)(s:Hk):Prop where
 ok:X.Ok
 os:s.os=X.s₀.os
 bare:AllBare s.gens
 base:Un X.fs X.ex X.H₀ H X.s₀.heap s.heap
 loc:∃m,s.heap.Ns X.env.locals m/\∀(i:Nat) (x:Str) (v:V),X.N[i]?=KA x->σ[i]?=KA (KA v)->QJ X.env.scope x->∃u,RelV v u/\Look X.env s.heap m x u
 cell:∀x c,X.env.cells.lookup x=KA c->∃v,s.heap.IsCell c v
 free:H X.env.locals=KC
 freeC:∀x c,X.env.cells.lookup x=KA c->H c=KC
 pin:∀p∈X.pn++KQ,s.heap.get? p.1=KA p.2/\H p.1=KC/\p.1≠X.env.locals/\p.1∉X.fs/\∀v,p.2.data≠.cell v
 hok:Ll X.prog X.w H s.heap
 len:σ.length=X.N.length
section
variable{X:Cx}{KQ:List (Addr×Obj)}{σ:List (Option V)}{H H':Hp}{s:Hk}{h':Heap}
theorem Cx.Ok.Gn(ok:X.Ok){b:Addr}{o:Obj}(e:X.base.get? b=KA o):b∉X.fs:=fun a=>by have:=(ok.gR.mem a).1;rw[e]at this;cases this
theorem Inv.bs(I:Inv X KQ σ H s):∀b o,X.base.get? b=KA o->s.heap.get? b=KA o/\H b=KC:=fun b o e=>⟨I.base.keep b o (I.ok.bs b o e).1 (I.ok.bs b o e).2 (I.ok.Gn e) (I.ok.noex b o e),I.base.free b o (I.ok.bs b o e).1 (I.ok.bs b o e).2 (I.ok.noex b o e)⟩
theorem Inv.bk(I:Inv X KQ σ H s):∀b o,X.base.get? b=KA o->s.heap.get? b=KA o:=fun b o e=>(I.bs b o e).1
theorem Inv.mod(I:Inv X KQ σ H s):Mod X.K X.mg X.base:=I.ok.mod
theorem Inv.kIn(I:Inv X KQ σ H s):X.K.In s.heap:=I.ok.mod.kin.keeps I.bk
theorem Inv.lt(I:Inv X KQ σ H s):X.env.locals<s.heap.objs.size:=let⟨_,a,_⟩:=I.loc;a.lt
theorem Inv.sz(I:Inv X KQ σ H s):X.s₀.heap.objs.size<=s.heap.objs.size:=IA I.ok.above (Nat.le_of_lt I.lt)
theorem Inv.GH(I:Inv X KQ σ H s){a:Addr}(h:s.heap.objs.size<=a):a∉X.fs:=fun b=>by obtain⟨_,o,c,_⟩:=I.ok.gR.mem b;exact absurd (HL (Hz c) (IA I.sz h)) (Jp _)
theorem Inv.cne(I:Inv X KQ σ H s):∀x c,X.env.cells.lookup x=KA c->c≠X.env.locals:=fun x c e z=>by obtain⟨v,o,d,hd⟩:=I.cell x c e;obtain⟨m,⟨f,g,h,a,b,_⟩,_⟩:=I.loc;rw[z,a]at d;cases d;rw[b]at hd;cases hd
theorem Inv.gR(I:Inv X KQ σ H s):s.heap.FunFrames X.base X.outer:=by
 have all:∀(l:List Env),(∀b∈Lj l,b∈X.fs)->X.s₀.heap.FunFrames X.base l->s.heap.FunFrames X.base l:=by
  intro l
  induction l with
  |nil=>intro _ _;trivial
  |cons env r g=>
   intro f h
   obtain⟨i,⟨L,o,a,j,k,hd⟩,m⟩:=h
   have c:L∈X.fs:=f L (by unfold Lj;rw[List.filterMap_cons,a];exact J0)
   obtain⟨n,e⟩:=I.base.slot L o k (I.ok.frf L c) c fun z=>I.ok.exfs L z c
   exact⟨i,⟨L,_,a,j,e,hd⟩,g (fun b d=>f b (by unfold Lj;rw[List.filterMap_cons,a];exact Io _ d)) m⟩
 exact all X.outer (fun _ d=>d) I.ok.gR
theorem Inv.stack(I:Inv X KQ σ H s):s.heap.FunFrames X.base X.stack:=by
 rcases I.ok.stk with e|⟨e,a⟩
 ·rw[e];exact I.gR
 ·rw[e];obtain⟨m,b,_⟩:=I.loc;refine .cons (by rw[I.ok.kind];decide) a b ?_ I.gR;exact Heap.get?_none_of_le (IA I.ok.bsz I.ok.above)
theorem Inv.qT(I:Inv X KQ σ H s):∀b∈Lj X.stack,b∈X.env.locals::X.fs:=fun b a=>by
 rcases I.ok.stk with e|⟨e,c⟩
 ·rw[e]at a;exact Io _ a
 ·rw[e]at a;unfold Lj at a;rw[List.filterMap_cons,c]at a;exact a
theorem Inv.gg(I:Inv X KQ σ H s):∀b∈Lj X.stack,H b=KC:=fun b a=>by
 rcases HW.mp (I.qT b a)with e|a
 ·rw[e];exact I.free
 ·obtain⟨_,o,c,_⟩:=I.ok.gR.mem a;exact I.base.free b o c (I.ok.frf b a) fun z=>I.ok.exfs b z a
theorem Inv.step{g':Array GenState}{t':Nat}{d':Drawn}{ch:List Addr}(I:Inv X KQ σ H s)
 (f:∀b∈ch,(b∈X.ex\/X.s₀.heap.objs.size<=b)/\b≠X.env.locals/\(∀x c,X.env.cells.lookup x=KA c->c≠b)/\∀p∈X.pn++KQ,p.1≠b)
 (keep:∀b o,b≠X.env.locals->b∉X.fs->b∉ch->s.heap.get? b=KA o->H b=KC->h'.get? b=KA o)
 (slot:∀b o,b≠X.env.locals->b∈X.fs->b∉ch->s.heap.get? b=KA o->H b=KC->∃C,h'.get? b=KA { o with slots:=C }) (free:∀b o,b∉ch->s.heap.get? b=KA o->H b=KC->H' b=KC)
 (there:∀b o,b∉ch->s.heap.get? b=KA o->∃o',h'.get? b=KA o')
 (tups:∀b xs,H b=KA (.tup xs)->H' b=KA (.tup xs)) (frzs:∀b o u,H b=KA (.frz o u)->H' b=KA (.frz o u)) (tbls:∀b ps,H b=KA (.tbl ps)->∃more,H' b=KA (.tbl (ps++more)))
 (ns:∀m,s.heap.Ns X.env.locals m->h'.Ns X.env.locals m) (hok:Ll X.prog X.w H' h') (J:AllBare g') :
 Inv X KQ σ H' { s with heap:=h',gens:=g',drawn:=d',toks:=t' }:=by
 have B:∀b o,X.s₀.heap.get? b=KA o->b≠X.env.locals:=fun b o e=>Im (HL (Hz e) I.ok.above)
 have j:∀b o,X.s₀.heap.get? b=KA o->b∉X.ex->b∉ch:=fun b o e a t=>by
  rcases(f b t).1 with z|z
  ·exact a z
  ·exact absurd (HL (Hz e) z) (Jp _)
 have g:∀x c,X.env.cells.lookup x=KA c->∀v,s.heap.IsCell c v->h'.IsCell c v:=fun x c e v y=>by
  obtain⟨o,A,hd⟩:=y
  have h:c∉ch:=fun z=>(f c z).2.2.1 x c e rfl
  by_cases E:c∈X.fs
  ·obtain⟨C,q⟩:=slot c o (I.cne x c e) E h A (I.freeC x c e)
   exact⟨_,q,hd⟩
  ·exact⟨o,keep c o (I.cne x c e) E h A (I.freeC x c e),hd⟩
 refine⟨I.ok,I.os,J,⟨fun b o e n t a=>?_,fun b o e n t a=>?_,fun b o e n a=>?_,fun b o e a=>?_,fun b xs e=>tups b xs (I.base.tups b xs e),fun b o xs e=>frzs b o xs (I.base.frzs b o xs e),fun b ps e=>?_⟩,?_,fun x c e=>?_,?_,fun x c e=>?_,fun p F=>?_,hok,I.len⟩
 ·exact keep b o (B b o e) t (j b o e a) (I.base.keep b o e n t a) (I.base.free b o e n a)
 ·obtain⟨C,e1⟩:=I.base.slot b o e n t a
  obtain⟨D,e2⟩:=slot b _ (B b o e) t (j b o e a) e1 (I.base.free b o e n a)
  exact⟨D,e2⟩
 ·obtain⟨o',e1⟩:=I.base.there b o e a
  exact free b o' (j b o e a) e1 (I.base.free b o e n a)
 ·obtain⟨o',e1⟩:=I.base.there b o e a
  exact there b o' (j b o e a) e1
 ·obtain⟨K,e1⟩:=I.base.tbls b ps e
  obtain⟨L,e2⟩:=tbls b _ e1
  exact⟨K++L,by rw[e2,Array.append_assoc]⟩
 ·obtain⟨m,M,N⟩:=I.loc
  refine⟨m,ns m M,fun i x v e1 e2 e3=>?_⟩
  obtain⟨u,r,l⟩:=N i x v e1 e2 e3
  refine⟨u,r,?_⟩
  rcases l with l|⟨k,c,e,z⟩
  ·exact .inl l
  ·exact .inr ⟨k,c,e,g x c e _ z⟩
 ·obtain⟨v,z⟩:=I.cell x c e
  exact⟨v,g x c e v z⟩
 ·obtain⟨m,⟨o,_,_,A,_⟩,_⟩:=I.loc
  exact free _ o (fun z=>(f _ z).2.1 rfl) A I.free
 ·obtain⟨v,o,A,hd⟩:=I.cell x c e
  exact free c o (fun z=>(f c z).2.2.1 x c e rfl) A (I.freeC x c e)
 ·obtain⟨e,n,ne,G,d⟩:=I.pin p F
  have h:p.1∉ch:=fun z=>(f p.1 z).2.2.2 p F rfl
  exact⟨keep p.1 p.2 ne G h e n,free p.1 p.2 h e n,ne,G,d⟩
theorem Inv.un{t':Nat}(I:Inv X KQ σ H s)(u:Un X.fs [] H H' s.heap h')(hok:Ll X.prog X.w H' h'):Inv X KQ σ H' { s with heap:=h',toks:=t' }:=by
 obtain⟨m,⟨o,k,l,g,r⟩,_⟩:=id I.loc;obtain⟨p,h⟩:=u.any g I.free (by simp)
 exact I.step (g':=s.gens) (d':=s.drawn) (ch:=[]) (fun _ z=>nomatch z) (fun b o _ c _ e n=>u.keep b o e n c (by simp)) (fun b o _ c _ e n=>u.slot b o e n c (by simp)) (fun b o _ e n=>u.free b o e n (by simp)) (fun b o _ e=>u.there b o e (by simp)) u.tups u.frzs u.tbls (fun q i=>by
  obtain⟨t,d,f,a,j⟩:=i
  rw[g]at a;cases a
  exact⟨_,d,f,h,j⟩) hok I.bare
theorem Inv.call{g':Array GenState}{t':Nat}{d':Drawn}{ch:List Addr}(I:Inv X KQ σ H s)(u:Un (Lj X.stack) ch H H' s.heap h')(hok:Ll X.prog X.w H' h')(k:AllBare g') (d:∀b∈ch,(b∈X.ex\/X.s₀.heap.objs.size<=b)/\b≠X.env.locals/\(∀x c,X.env.cells.lookup x=KA c->c≠b)/\∀p∈X.pn++KQ,p.1≠b) : Inv X KQ σ H' { s with heap:=h',gens:=g',drawn:=d',toks:=t' }:=by
 obtain⟨m,⟨o,v,y,j,r⟩,_⟩:=id I.loc;obtain⟨A,g⟩:=u.any j I.free fun z=>(d _ z).2.1 rfl
 exact I.step (ch:=ch) d (fun b o g l a e n=>u.keep b o e n (fun z=>(HW.mp (I.qT b z)).elim g l) a) (fun b o _ _ a e n=>u.any e n a) (fun b o a e n=>u.free b o e n a) (fun b o a e=>u.there b o e a) u.tups u.frzs u.tbls (fun B q=>by
  obtain⟨C,h,i,f,t⟩:=q
  rw[j]at f;cases f
  exact⟨_,h,i,g,t⟩) hok k
theorem Inv.turned{t':Nat}{it:Addr}(I:Inv X KQ σ H s)(k:∀b o,b≠it->s.heap.get? b=KA o->h'.get? b=KA o)(g:H it=KC)(f:it≠X.env.locals)
 (h1:it∈X.ex\/X.s₀.heap.objs.size<=it) (h:∀x c,X.env.cells.lookup x=KA c->c≠it) (i:∀p∈X.pn++KQ,p.1≠it):Inv X KQ σ H { s with heap:=h',toks:=t' }:=by
 have d:∀b u,H b=KA u->b≠it:=fun b u e z=>by rw[z,g]at e;cases e
 refine I.step (g':=s.gens) (d':=s.drawn) (ch:=[it]) (fun b j=>?_) (fun b o _ _ a e _=>k b o (fun z=>a (by simp[z])) e) (fun b o _ _ a e _=>⟨o.slots,k b o (fun z=>a (by simp[z])) e⟩) (fun _ _ _ _ n=>n)
  (fun b o a e=>⟨o,k b o (fun z=>a (by simp[z])) e⟩) (fun _ _ e=>e) (fun _ _ _ e=>e) (fun b ps e=>⟨#[],by rw[e];simp⟩) (fun m l=>?_) (fun b u e=>?_) I.bare
 ·have e:b=it:=by simpa using j
  subst e
  exact⟨h1,f,h,i⟩
 ·obtain⟨o,t,w,y,r⟩:=l
  exact⟨o,t,w,k _ o (Ne.symm f) y,r⟩
 ·refine(I.hok b u e).eK (fun c v a q=>k c v ?_ q) (fun _ q=>q) fun _ _ q=>q
  rcases a with z|z
  ·rw[z];exact d b u e
  ·exact d c _ z
theorem Inv.tok(I:Inv X KQ σ H s)(t:Nat):Inv X KQ σ H { s with toks:=t }:=I.un (h':=s.heap) (t':=t) Un.refl I.hok
theorem Inv.kept{t':Nat}(I:Inv X KQ σ H s)(k:∀b u,s.heap.get? b=KA u->h'.get? b=KA u):Inv X KQ σ H { s with heap:=h',toks:=t' }:=I.un (Un.kept k) (I.hok.kept k)
theorem Inv.laid{a:Addr}{o:HO}{t':Nat}(I:Inv X KQ σ H s)(k:∀b u,s.heap.get? b=KA u->h'.get? b=KA u)(c:s.heap.objs.size<=a)(new:bG X.prog X.w (upd H a o) h' a o) : Inv X KQ σ (upd H a o) { s with heap:=h',toks:=t' }:=I.un (Un.laid k c (I.hok.fresh c)) (I.hok.laid k c new)
theorem Inv.write{x e:Addr}{o:HO}{t':Nat}(I:Inv X KQ σ H s)(c:Ve (H x))(d:e=x\/H e=KA (.own x))(k:∀b u,b≠e->s.heap.get? b=KA u->h'.get? b=KA u)(a:∃u,h'.get? e=KA u) (new:bG X.prog X.w (upd H x o) h' x o):Inv X KQ σ (upd H x o) { s with heap:=h',toks:=t' }:=I.un (Un.write c d k a) (I.hok.write c d k a new)
theorem Inv.sJ{pins':List (Addr×Obj)}(I:Inv X KQ σ H s)(h:∀p∈pins',s.heap.get? p.1=KA p.2/\H p.1=KC/\p.1≠X.env.locals/\p.1∉X.fs/\∀v,p.2.data≠.cell v):Inv X pins' σ H s:=⟨I.ok,I.os,I.bare,I.base,I.loc,I.cell,I.free,I.freeC,fun p a=>(HM.mp a).elim (fun z=>I.pin p (List.mem_append_left _ z)) (h p),I.hok,I.len⟩
theorem k7{N:List Str}(c:N.Nodup){i j:Nat}{x:Str}(a:N[i]?=KA x)(b:N[j]?=KA x):i=j:=by obtain⟨h1,e1⟩:=HN.mp a;obtain⟨d,e2⟩:=HN.mp b;exact(List.getElem_inj c).mp (e1.trans e2.symm)
theorem iw{M:Model}{A:Ij}{E:Hj->Hk->Prop}{i:Nat}{x:Str}{v:V}{u:Hj}{Q:Unit->Hk->Prop}(I:Inv X KQ σ H s)(hN:X.N.Nodup)(K:X.N[i]?=KA x)(t:Loc X.env.scope x)(r:RelV v u)
 (h:∀W,Inv X KQ (σ.set i (KA v)) H W->(∃a,K0 a s.heap W.heap/\(a=X.env.locals\/X.env.cells.lookup x=KA a))->Q .unit W) (hf:X.fn x=KD\/X.env.scope.names.lookup x=KA .local:=by first|exact .inl rfl|exact .inr rfl|assumption):Hu M A (storeName X.env x u) Q E s:=by
 obtain⟨m,Y,hl⟩:=id I.loc
 have L:(X.env.scope.kind==.class||(X.env.scope.kind==.module&&X.env.locals != X.env.globals))=KG:=by rw[I.ok.kind];rfl
 have C:i<σ.length:=by rw[I.len];exact(HN.mp K).1
 have cne:=I.cne
 have g:∀{a:Addr} {h':Heap},(∃o,s.heap.get? a=KA o/\H a=KC)->K0 a s.heap h'->Ll X.prog X.w H h':=fun{a h'} ha f b ob e=>by
  obtain⟨_,_,B⟩:=ha
  refine(I.hok b ob e).eK (fun c T l q=>(f.2 c ?_).trans q) (fun _ q=>q) fun _ _ q=>q
  rintro rfl
  rcases l with rfl|l
  ·rw[B]at e;cases e
  ·rw[B]at l;cases l
 rcases t with D|D
 ·refine wpAny_storeName_local D Y (fun h' Z f=>?_) L
  obtain⟨oL,_,_,a0,_⟩:=id Y
  refine h _ ⟨I.ok,I.os,I.bare,⟨fun b o e n F t=>?_,fun b o e n F t=>?_,I.base.free,fun b o e t=>?_,I.base.tups,I.base.frzs,I.base.tbls⟩,⟨_,Z,fun j y v' e1 e2 e3=>?_⟩,fun y c e=>?_,I.free,I.freeC,fun p hp=>?_,g ⟨oL,a0,I.free⟩ f,by simpa using I.len⟩ ⟨_,f,.inl rfl⟩
  ·exact(f.2 b (Im (HL (Hz e) I.ok.above))).trans (I.base.keep b o e n F t)
  ·obtain⟨sl,e1⟩:=I.base.slot b o e n F t
   exact⟨sl,(f.2 b (Im (HL (Hz e) I.ok.above))).trans e1⟩
  ·obtain⟨o',e1⟩:=I.base.there b o e t
   exact⟨o',(f.2 b (Im (HL (Hz e) I.ok.above))).trans e1⟩
  ·by_cases G:j=i
   ·subst G
    rw[K]at e1;cases e1
    rw[List.getElem?_set_self C]at e2
    cases e2
    exact⟨u,r,.inl ⟨D,by simp⟩⟩
   ·rw[List.getElem?_set_ne (Ne.symm G)]at e2
    obtain⟨u',r',q⟩:=hl j y v' e1 e2 e3
    refine⟨u',r',?_⟩
    rcases q with⟨k,e⟩|⟨k,c,e,z⟩
    ·refine .inl ⟨k,?_⟩
     have:y≠x:=fun e=>G (k7 hN e1 (e▸K))
     simp[this,e]
    ·exact .inr ⟨k,c,e,z.sameBut f (cne y c e)⟩
  ·obtain⟨T,z⟩:=I.cell y c e
   exact⟨T,z.sameBut f (cne y c e)⟩
  ·obtain⟨e,n,ne,nf,d⟩:=I.pin p hp
   exact⟨(f.2 p.1 ne).trans e,n,ne,nf,d⟩
 ·have J:X.fn x=KD:=by
   rcases hf with z|z
   ·exact z
   ·rw[z]at D;cases D
  obtain⟨c,l⟩:=I.ok.has x (.inl D)
  obtain⟨T,z⟩:=I.cell x c l
  refine wpAny_storeName_cell I.ok.kind D l z (fun h' O f=>?_)
  obtain⟨oc,P,R⟩:=id z
  refine h { s with heap:=h' } ⟨I.ok,I.os,I.bare,⟨fun b o e n F t=>?_,fun b o e n F t=>?_,I.base.free,fun b o e t=>?_,I.base.tups,I.base.frzs,I.base.tbls⟩,⟨m,Y.sameBut f (Ne.symm (cne x c l)),fun j y v' e1 e2 e3=>?_⟩,fun y U e=>?_,I.free,I.freeC,fun p hp=>?_,g ⟨oc,P,I.freeC x c l⟩ f,by simpa using I.len⟩ ⟨c,f,.inr l⟩
  ·exact(f.2 b (Im (HL (Hz e) (I.ok.cab x c J l)))).trans (I.base.keep b o e n F t)
  ·obtain⟨sl,e1⟩:=I.base.slot b o e n F t
   exact⟨sl,(f.2 b (Im (HL (Hz e) (I.ok.cab x c J l)))).trans e1⟩
  ·obtain⟨o',e1⟩:=I.base.there b o e t
   exact⟨o',(f.2 b (Im (HL (Hz e) (I.ok.cab x c J l)))).trans e1⟩
  ·by_cases G:j=i
   ·subst G
    rw[K]at e1;cases e1
    rw[List.getElem?_set_self C]at e2
    cases e2
    exact⟨u,r,.inr ⟨.inl D,c,l,O⟩⟩
   ·rw[List.getElem?_set_ne (Ne.symm G)]at e2
    obtain⟨u',r',q⟩:=hl j y v' e1 e2 e3
    refine⟨u',r',?_⟩
    rcases q with q|⟨k,U,e,z'⟩
    ·exact .inl q
    ·refine .inr ⟨k,U,e,z'.sameBut f ?_⟩
     rintro rfl
     exact G (k7 hN e1 (I.ok.inj _ _ _ e l▸K))
  ·by_cases S:U=c
   ·subst S;exact⟨_,O⟩
   ·obtain⟨w2,z2⟩:=I.cell y U e
    exact⟨w2,z2.sameBut f S⟩
  ·obtain⟨e,n,ne,nf,d⟩:=I.pin p hp
   refine⟨(f.2 p.1 ?_).trans e,n,ne,nf,d⟩
   intro q
   rw[q,P]at e
   have q':oc=p.2:=Option.some.inj e
   exact d T (by rw[<-q'];exact R)
theorem d6{M:Model}{A:Ij}{E:Hj->Hk->Prop}{i:Nat}{x:Str}{v:V}{u:Hj}{Q:Unit->Hk->Prop}(I:Inv X KQ σ H s)(b:X.N.Nodup)(c:X.N[i]?=KA x)(d:Loc X.env.scope x)(r:RelV v u) (h:∀a,Inv X KQ (σ.set i (KA v)) H a->Q .unit a) (e:X.fn x=KD\/X.env.scope.names.lookup x=KA .local:=by first|exact .inl rfl|exact .inr rfl|assumption):Hu M A (storeName X.env x u) Q E s:=iw I b c d r (fun a f _=>h a f) e
theorem Inv.pB{a:Hk}{ch:List Addr}(I:Inv X KQ σ H s)(f:a.os=s.os)(u:Un (Lj X.stack) ch H H' s.heap a.heap)(hok:Ll X.prog X.w H' a.heap)(g:AllBare a.gens)
 (d:∀b∈ch,(b∈X.ex\/X.s₀.heap.objs.size<=b)/\b≠X.env.locals/\(∀x c,X.env.cells.lookup x=KA c->c≠b)/\∀p∈X.pn++KQ,p.1≠b):Inv X KQ σ H' a:=by
 obtain⟨h',g',d',t',h⟩:=a
 have e:h=s.os:=f
 subst e
 exact I.call (g':=g') (t':=t') (d':=d') u hok g d
end
abbrev XK:=Hj->Option Addr->Hp->Prop
abbrev St:=List (Option V)
abbrev VK:=V->Hp->Prop
abbrev TE:=St->Hp->VK->Prop
abbrev TT:=St->Hp->(Bool->Hp->Prop)->Prop
abbrev TA:=St->Hp->(List V->Hp->Prop)->Prop
structure Ends where
 nx:St->Hp->Prop
 rt:VK
 bk:St->Hp->Prop:=fun _ _=>False
 ct:St->Hp->Prop:=fun _ _=>False
abbrev TS:=Ends->St->Hp->Prop
def EP(X:Cx)(KQ:List (Addr×Obj))(σ:St)(Q:VK)(u:Hj)(b:Hk):Prop:=∃v a,Inv X KQ σ a b/\RelV v u/\Q v a
def TP(X:Cx)(KQ:List (Addr×Obj))(σ:St)(Q:Bool->Hp->Prop)(b:Bool)(c:Hk):Prop:=∃a,Inv X KQ σ a c/\Q b a
def AP(X:Cx)(KQ:List (Addr×Obj))(σ:St)(Q:List V->Hp->Prop)(us:List Hj)(b:Hk):Prop:=∃vs a,Inv X KQ σ a b/\Vals vs us/\Q vs a
def SP(X:Cx)(KQ:List (Addr×Obj))(D:Ends)(f:Flow)(c:Hk):Prop:=
 match f with
 |.next=>∃a b,Inv X KQ a b c/\D.nx a b
 |.brk=>∃a b,Inv X KQ a b c/\D.bk a b
 |.cont=>∃a b,Inv X KQ a b c/\D.ct a b
 |.ret u=>∃v a b,Inv X KQ a b c/\RelV v u/\D.rt v b
def PE(X:Cx)(e:Expr)(t:TE):Prop:=
 ∀(KQ:List (Addr×Obj)) (s:Hk) (σ:St) (H:Hp) (Q:VK),Inv X KQ σ H s->t σ H Q->Hu (HC X.prog X.w) X.A (eval e X.env) (EP X KQ σ Q) X.xe s
def PT(X:Cx)(e:Expr)(t:TT):Prop:=
 ∀(KQ:List (Addr×Obj)) (s:Hk) (σ:St) (H:Hp) (Q:Bool->Hp->Prop),Inv X KQ σ H s->t σ H Q->Hu (HC X.prog X.w) X.A (isTrue e X.env (eval e X.env)) (TP X KQ σ Q) X.xe s
def PW(X:Cx)(e:Expr)(t:TT):Prop:=
 ∀(a:Sem Hj) (KQ:List (Addr×Obj)) (s:Hk) (σ:St) (H:Hp) (Q:Bool->Hp->Prop),Inv X KQ σ H s->t σ H Q->Hu (HC X.prog X.w) X.A (isTrue e X.env a) (TP X KQ σ Q) X.xe s
theorem PW.pt{X:Cx}{e:Expr}{t:TT}(h:PW X e t):PT X e t:=h _
def PA(X:Cx)(es:List Expr)(t:TA):Prop:=
 ∀(pos:Pos) (KQ:List (Addr×Obj)) (s:Hk) (σ:St) (H:Hp) (Q:List V->Hp->Prop),Inv X KQ σ H s->t σ H Q->Hu (HC X.prog X.w) X.A (spliced (IY pos (Hv es X.env))) (AP X KQ σ Q) X.xe s
def PS(X:Cx)(st:Stmt)(t:TS):Prop:=
 ∀(KQ:List (Addr×Obj)) (s:Hk) (σ:St) (H:Hp) (D:Ends),Inv X KQ σ H s->t D σ H->Hu (HC X.prog X.w) X.A (exec st X.env) (SP X KQ D) X.xe s
def Mi(X:Cx)(st:List Stmt)(t:TS):Prop:=
 ∀(KQ:List (Addr×Obj)) (s:Hk) (σ:St) (H:Hp) (D:Ends),Inv X KQ σ H s->t D σ H->Hu (HC X.prog X.w) X.A (execs st X.env) (SP X KQ D) X.xe s
theorem LA{b:Type}{t:Sem b}{Q c:b->Hk->Prop}{M:Model}{A:Ij}{E:Hj->Hk->Prop}{s:Hk}(h:Hu M A t Q E s)(d:∀a s,Q a s->c a s):Hu M A t c E s:=Hx h d fun _ _ x=>x
section
variable{X:Cx}
def xJ(i:Nat):TE:=fun σ H Q=>∃v,σ[i]?=KA (KA v)/\Q v H
def tC(v:V):TE:=fun _ H Q=>Q v H
theorem wm{i:Nat}{x:Str}{pos:Pos}(j:X.N[i]?=KA x)(k:QJ X.env.scope x)(hd:(x==("__debug__":Str))=KG:=by decide)(f:(x==("__classdict__":Str))=KG:=by decide):PE X (.Name x pos) (xJ i):=by
 intro KQ s σ H Q I h;obtain⟨v,e,h⟩:=h;obtain⟨m,n,o⟩:=I.loc;obtain⟨u,r,l⟩:=o i x v j e k;have b:EP X KQ σ Q u s:=⟨v,H,I,r,h⟩;rcases l with⟨d,p⟩|⟨d,c,g,a⟩
 ·exact wpAny_Name (wpAny_loadName_local I.ok.kind d n p b) hd
 ·rcases d with d|d
  ·exact wpAny_Name (wpAny_loadName_cell I.ok.kind d g a b) hd
  ·exact wpAny_Name (wpAny_loadName_free I.ok.kind d g a b f) hd
theorem wZ{i j pos}:PE X (.Constant (.int i) j pos) (tC (.int i)):=fun _ _ _ H _ I h=>wpAny_Constant_int ⟨.int i,H,I.tok _,⟨_,rfl⟩,h⟩
theorem FF{b j pos}:PE X (.Constant (.bool b) j pos) (tC (.bl b)):=fun _ _ _ H _ I h=>Constant_bool ⟨.bl b,H,I,rfl,h⟩
theorem Dg{j pos}:PE X (.Constant .none j pos) (tC .non):=fun _ _ _ H _ I h=>Constant_none ⟨.non,H,I,rfl,h⟩
theorem C2{x j pos}:PE X (.Constant (.str x) j pos) (tC (.str x)):=fun _ _ _ H _ I h=>Calls.Constant_str ⟨.str x,H,I.tok _,⟨_,rfl⟩,h⟩
def Gl(X:Cx)(x:Str):Prop:=X.env.kindOf x=KA .globalImplicit
theorem gb{E:Hj->Hk->Prop}{KQ:List (Addr×Obj)}{s:Hk}{σ:St}{H:Hp}{x:Str}{u:Hj}{pos:Pos}{Q:Hj->Hk->Prop}(I:Inv X KQ σ H s)(a:Gl X x)(b:X.mg x=KA u)(h:Q u s) (hd:(x==("__debug__":Str))=KG:=by decide):Hu (HC X.prog X.w) X.A (eval (.Name x pos) X.env) Q E s:=Calls.Name_function_global I.ok.kind a (Calls.loadGlobal_global (by rw[I.ok.glob];exact I.mod.glob.keeps I.bk) b h) hd
theorem gA{E:Hj->Hk->Prop}{KQ:List (Addr×Obj)}{s:Hk}{σ:St}{H:Hp}{x:Str}{u:Hj}{pos:Pos}{Q:Hj->Hk->Prop}(I:Inv X KQ σ H s)(a:Gl X x)(b:X.mg x=KC)(c:ID x=KA u)(h:Q u s) (d:x≠"__name__":=by decide) (hd:(x==("__debug__":Str))=KG:=by decide):Hu (HC X.prog X.w) X.A (eval (.Name x pos) X.env) Q E s:=by obtain⟨f,h1,e⟩:=I.mod.blt;exact Calls.Name_function_global I.ok.kind a (Calls.loadGlobal_builtin (by rw[I.ok.glob];exact I.mod.glob.keeps I.bk) b (by rw[I.ok.blt];exact h1.keeps I.bk) ((e x d).trans c) h) hd
theorem AG{x:Str}{v:V}{u:Hj}{pos:Pos}(a:Gl X x)(b:X.mg x=KA u)(r:RelV v u)(hd:(x==("__debug__":Str))=KG:=by decide):PE X (.Name x pos) (tC v):=fun _ _ _ H _ I h=>gb I a b ⟨v,H,I,r,h⟩ hd
theorem zO{x:Str}{v:V}{u:Hj}{pos:Pos}(a:Gl X x)(b:X.mg x=KC)(c:ID x=KA u)(r:RelV v u)(d:x≠"__name__":=by decide)(hd:(x==("__debug__":Str))=KG:=by decide):PE X (.Name x pos) (tC v):=fun _ _ _ H _ I h=>gA I a b c ⟨v,H,I,r,h⟩ d hd
variable{a b:Expr}{ta tb:TE}{pos:Pos}
def PC(X:Cx)(op:CmpOp)(a b:Expr)(t:TE):Prop:=
 ∀(KQ:List (Addr×Obj)) (s:Hk) (σ:St) (H:Hp) (Q:VK),Inv X KQ σ H s->t σ H Q->
  Hu (HC X.prog X.w) X.A (eval a X.env) (fun v c=>Hu (HC X.prog X.w) X.A (eval b X.env) (fun u d=>Hu (HC X.prog X.w) X.A (Iq op v u) (EP X KQ σ Q) X.xe d) X.xe c) X.xe s
def tB(t:TE):TT:=fun σ H Q=>t σ H fun x H1=>∃c,x=.bl c/\Q c H1
theorem BO{op:CmpOp}{t:TE}(h:PC X op a b t)(h1:K5 op b=KG:=by first|exact nobehind _ ⋯ ⋯|rfl):PT X (.Compare a [op] [b] pos) (tB t):=by intro KQ s σ H Q I f;refine wpAny_isTrue_Compare1 (LA (h KQ s σ H _ I f) fun v l h1=>LA h1 fun u m g=>LA g fun c n e=>?_) h1;obtain⟨x,H1,i,j,k⟩:=e;obtain⟨d,rfl,q⟩:=k;cases j;exact J9 ⟨H1,i,q⟩
theorem BP{e:Expr}{t:TE}(h:PE X e t)(g:∀c,isTrue e X.env c=(do let v <-c;standAt e.pos;holding [v] (truthy v)):=by intro _;rfl):PT X e (tB t):=by intro KQ s σ H Q I i;refine isTrue_plain (LA (h KQ s σ H _ I i) fun v m f=>?_) (g _);obtain⟨x,H1,j,k,l⟩:=f;obtain⟨d,rfl,q⟩:=l;cases k;exact J9 ⟨H1,j,q⟩
variable{tA KR:TT}{rest:List Expr}
def He(t u:TT):TT:=fun σ H Q=>t σ H fun c H1=>if c=KD then u σ H1 Q else Q KG H1
def Yp(t u:TT):TT:=fun σ H Q=>t σ H fun c H1=>if c=KD then Q KD H1 else u σ H1 Q
def Gg(t:TT):TT:=fun σ H Q=>t σ H fun c H1=>Q (!c) H1
theorem Ao(d:PT X a tA):PW X (.BoolOp .And [a] pos) tA:=by
 intro f KQ s σ H Q I h;refine isTrue_and (LA (d KQ s σ H Q I h) fun c g e=>?_);cases c with
 |true=>exact isTrue_and_nil e
 |false=>exact e
theorem BL(d:PT X a tA):PW X (.BoolOp .Or [a] pos) tA:=by
 intro f KQ s σ H Q I h;refine isTrue_or (LA (d KQ s σ H Q I h) fun c g e=>?_);cases c with
 |false=>exact isTrue_or_nil e
 |true=>exact e
theorem CT(g:PT X a tA)(i:PW X (.BoolOp .And (b::rest) pos) KR):PW X (.BoolOp .And (a::b::rest) pos) (He tA KR):=by
 intro j KQ s σ H Q I h;refine isTrue_and (LA (g KQ s σ H _ I h) fun c k d=>?_);obtain⟨H1,e,f⟩:=d;cases c with
 |true=>exact i j KQ k σ H1 Q e f
 |false=>exact⟨H1,e,f⟩
theorem E8(g:PT X a tA)(i:PW X (.BoolOp .Or (b::rest) pos) KR):PW X (.BoolOp .Or (a::b::rest) pos) (Yp tA KR):=by
 intro j KQ s σ H Q I h;refine isTrue_or (LA (g KQ s σ H _ I h) fun c k d=>?_);obtain⟨H1,e,f⟩:=d;cases c with
 |true=>exact⟨H1,e,f⟩
 |false=>exact i j KQ k σ H1 Q e f
theorem De(d:PT X a tA):PT X (.UnaryOp .Not a pos) (Gg tA):=by intro KQ s σ H Q I h;exact isTrue_not (d KQ s σ H (fun c H1=>Q (!c) H1) I h)
def FK(ta tb:TE):TE:=fun σ H Q=>ta σ H fun x H1=>∃c,x=.bl c/\if c=KD then tb σ H1 Q else Q (.bl KG) H1
def G8(ta tb:TE):TE:=fun σ H Q=>ta σ H fun x H1=>∃c,x=.bl c/\if c=KD then Q (.bl KD) H1 else tb σ H1 Q
def EZ(ta:TE):TE:=fun σ H Q=>ta σ H fun x H1=>∃c,x=.bl c/\Q (.bl (!c)) H1
theorem DD{op}{t:TE}(h:PE X a t):PE X (.BoolOp op [a] pos) t:=fun KQ s σ H Q I c=>BoolOp_one (h KQ s σ H Q I c)
theorem CA(g:PE X a ta)(i:PE X (.BoolOp .And (b::rest) pos) tb):PE X (.BoolOp .And (a::b::rest) pos) (FK ta tb):=by
 intro KQ s σ H Q I h;refine BoolOp_and (LA (g KQ s σ H _ I h) fun v j d=>?_);obtain⟨x,H1,f,k,e⟩:=d;obtain⟨c,rfl,e⟩:=e;cases k;refine J9 ?_;cases c with
 |true=>exact i KQ j σ H1 Q f e
 |false=>exact⟨.bl KG,H1,f,rfl,e⟩
theorem FC(g:PE X a ta)(i:PE X (.BoolOp .Or (b::rest) pos) tb):PE X (.BoolOp .Or (a::b::rest) pos) (G8 ta tb):=by
 intro KQ s σ H Q I h;refine BoolOp_or (LA (g KQ s σ H _ I h) fun v j d=>?_);obtain⟨x,H1,f,k,e⟩:=d;obtain⟨c,rfl,e⟩:=e;cases k;refine J9 ?_;cases c with
 |false=>exact i KQ j σ H1 Q f e
 |true=>exact⟨.bl KD,H1,f,rfl,e⟩
theorem CM(f:PE X a ta):PE X (.UnaryOp .Not a pos) (EZ ta):=by intro KQ s σ H Q I h;refine UnaryOp_ (LA (f KQ s σ H _ I h) fun v j d=>?_);obtain⟨x,H1,g,i,e⟩:=d;obtain⟨c,rfl,e⟩:=e;cases i;exact not_of (J9 ⟨.bl (!c),H1,g,rfl,e⟩)
def Yq(t:TT)(ta tb:TE):TE:=fun σ H Q=>t σ H fun c H1=>if c=KD then ta σ H1 Q else tb σ H1 Q
theorem xc{c:Expr}(j:PT X c tA)(k:PE X a ta)(l:PE X b tb):PE X (.IfExp c a b pos) (Yq tA ta tb):=by
 intro KQ s σ H Q I h;refine wpAny_IfExp (LA (j KQ s σ H _ I h) fun d f e=>?_);obtain⟨H1,g,i⟩:=e;cases d with
 |true=>exact k KQ f σ H1 Q g i
 |false=>exact l KQ f σ H1 Q g i
end
def LR(K:H0)(H:Hp)(a:Addr)(xs:List V):Prop:=
 Rd H a (.lst xs)\/
  ∃(o:Obj) (b:Array Hj) (n:Nat),K.lookup a=KA o/\o.cls=.type "list"/\o.dict=KC/\o.data=.seq b n/\b.size<=Hy/\Vals xs b.toList
def LU(K:H0)(H:Hp)(a:Addr)(xs:List V):Prop:=
 Rd H a (.tup xs)\/
  ∃(o:Obj) (b:Array Hj) (n:Nat),K.lookup a=KA o/\(o.cls=.type "tuple"/\o.dict=KC)/\o.data=.seq b n/\b.size<=Hy/\Vals xs b.toList
def Gi:Hj->Option V
 |.none=>KA .non
 |.bool b=>KA (.bl b)
 |.int i _=>KA (.int i)
 |.str x _=>KA (.str x)
 |.bytes b _=>KA (.byt b)
 |.float b _=>KA (.flt b)
 |.ref a=>KA (.ref a)
 |.type n=>KA (.ty n)
 |_=>KC
theorem RelV.abs{x:V}{u:Hj}(r:RelV x u):Gi u=KA x:=by
 cases x with
 |non=>cases r;rfl
 |bl _=>cases r;rfl
 |int _=>obtain⟨t,rfl⟩:=r;rfl
 |str _=>obtain⟨t,rfl⟩:=r;rfl
 |byt _=>obtain⟨t,rfl⟩:=r;rfl
 |flt _=>obtain⟨t,rfl⟩:=r;rfl
 |ref _=>cases r;rfl
 |ty _=>cases r;rfl
theorem RelV.inj{x y:V}{u:Hj}(r:RelV x u)(q:RelV y u):x=y:=Option.some.inj (r.abs.symm.trans q.abs)
theorem Vals.inj:∀{xs a:List V} {us:List Hj},Vals xs us->Vals a us->xs=a:=by
 intro xs a us h
 induction h generalizing a with
 |nil=>intro k;cases k;rfl
 |cons r t b=>
  intro k
  cases k with
  |cons c d=>rw[r.inj c,b d]
section
variable{X:Cx}{KQ:List (Addr×Obj)}{σ:St}{H:Hp}{s:Hk}{a:Addr}{xs ys:List V}
theorem LR.of{K:H0}(h:H a=KA (.lst xs)):LR K H a xs:=.inl (.inl h)
theorem LU.of{K:H0}(h:H a=KA (.tup xs)):LU K H a xs:=.inl (.inl h)
theorem Inv.list(I:Inv X KQ σ H s)(h:LR X.K H a xs):∃b:List Hj,Vals xs b/\PlainL s.heap a b.toArray/\xs.length<=Hy:=by
 rcases h with h|⟨o,b,n,c,d,hd,f,g,r⟩
 ·obtain⟨z,b,n,r,e⟩:=h.ok I.hok;exact⟨b,r,⟨_,n,e,rfl,rfl,rfl⟩,z⟩
 ·refine⟨b.toList,r,⟨o,n,I.kIn a o c,d,hd,by simpa using f⟩,?_⟩;have e:=r.length;simp only[Array.length_toList]at e;omega
theorem Inv.tuple(I:Inv X KQ σ H s)(h:LU X.K H a xs):∃b:List Hj,Vals xs b/\IsTup s.heap a b.toArray/\xs.length<=Hy:=by
 rcases h with h|⟨o,b,n,c,d,f,g,r⟩
 ·obtain⟨z,b,r,p,_⟩:=h.ok I.hok;exact⟨b,r,p,z⟩
 ·refine⟨b.toList,r,⟨o,I.kIn a o c,d.1,n,by simpa using f⟩,?_⟩;have e:=r.length;simp only[Array.length_toList]at e;omega
theorem Inv.C8(I:Inv X KQ σ H s)(h:LU X.K H a xs):QA s.heap a:=by
 rcases h with h|⟨o,b,n,c,d,e,f,r⟩
 ·obtain⟨z,b,r,_,p⟩:=h.ok I.hok;exact p
 ·exact⟨o,I.kIn a o c,d.2⟩
theorem Inv.ic(I:Inv X KQ σ H s)(h:LR X.K H a xs)(h':LR X.K H a ys):xs=ys:=by
 obtain⟨c,r,⟨o,n,e,_,_,d⟩,_⟩:=I.list h;obtain⟨b,i,⟨k,l,f,_,_,g⟩,_⟩:=I.list h';rw[e]at f;cases f;rw[d]at g;injection g with j _;have:c=b:=by simpa using congrArg Array.toList j
 subst this;exact r.inj i
theorem Inv.tS(I:Inv X KQ σ H s)(h:LU X.K H a xs)(h':LU X.K H a ys):xs=ys:=by
 obtain⟨c,r,⟨o,e,_,n,d⟩,_⟩:=I.tuple h;obtain⟨b,i,⟨k,f,_,l,g⟩,_⟩:=I.tuple h';rw[e]at f;cases f;rw[d]at g;injection g with j _;have:c=b:=by simpa using congrArg Array.toList j
 subst this;exact r.inj i
end
abbrev Cx.jP(X:Cx)(E:Hj->Hk->Prop):Cx:={ X with xe:=E }
abbrev Cx.nox(X:Cx):Cx:=X.jP fun _ _=>False
theorem Cx.Ok.jP{X:Cx}(ok:X.Ok)(E:Hj->Hk->Prop):(X.jP E).Ok:=⟨ok.mod,ok.kind,ok.glob,ok.blt,ok.above,ok.inj,ok.has,ok.cab,ok.hd,ok.frames,ok.stk,ok.exf,ok.bs,ok.bsz,ok.noex,ok.exfs,ok.gR,ok.frf⟩
theorem Cx.Ok.fM{X:Cx}{E:Hj->Hk->Prop}(ok:(X.jP E).Ok):X.Ok:=⟨ok.mod,ok.kind,ok.glob,ok.blt,ok.above,ok.inj,ok.has,ok.cab,ok.hd,ok.frames,ok.stk,ok.exf,ok.bs,ok.bsz,ok.noex,ok.exfs,ok.gR,ok.frf⟩
section
variable{X:Cx}{KQ:List (Addr×Obj)}{σ:St}{H:Hp}{s:Hk}{E:Hj->Hk->Prop}
theorem Inv.jP(I:Inv X KQ σ H s)(E:Hj->Hk->Prop):Inv (X.jP E) KQ σ H s:=⟨I.ok.jP E,I.os,I.bare,I.base,I.loc,I.cell,I.free,I.freeC,I.pin,I.hok,I.len⟩
theorem Inv.fM(I:Inv (X.jP E) KQ σ H s):Inv X KQ σ H s:=⟨I.ok.fM,I.os,I.bare,I.base,I.loc,I.cell,I.free,I.freeC,I.pin,I.hok,I.len⟩
theorem SP.fM{D:Ends}{f:Flow}{c:Hk}(h:SP (X.jP E) KQ D f c):SP X KQ D f c:=by
 cases f with
 |next=>obtain⟨a,b,I,q⟩:=h;exact⟨a,b,I.fM,q⟩
 |brk=>obtain⟨a,b,I,q⟩:=h;exact⟨a,b,I.fM,q⟩
 |cont=>obtain⟨a,b,I,q⟩:=h;exact⟨a,b,I.fM,q⟩
 |ret u=>obtain⟨v,a,b,I,r,q⟩:=h;exact⟨v,a,b,I.fM,r,q⟩
theorem Mi.nox{st:List Stmt}{t:TS}(h:Mi X.nox st t):Mi X st t:=fun KQ s σ H D I a=>Hx (h KQ s σ H D (I.jP _) a) (fun _ _ q=>q.fM) fun _ _ z=>HS z
end
section
variable{X:Cx}{st:Stmt}{rest:List Stmt}{t u:TS}{e:Expr}{te:TE}{pos:Pos}
def Fm:TS:=fun D σ H=>D.nx σ H
def D7(t u:TS):TS:=fun D σ H=>t { D with nx:=u D } σ H
theorem zJ:Mi X [] Fm:=fun _ _ σ H _ I h=>wpAny_execs_nil ⟨σ,H,I,h⟩
theorem pj(h1:PS X st t)(b:Mi X rest u):Mi X (st::rest) (D7 t u):=by
 intro KQ s σ H D I h;refine wpAny_execs_cons (LA (h1 KQ s σ H { D with nx:=u D } I h) fun f c q=>?_);cases f with
 |next=>
  obtain⟨a,d,g,q⟩:=q
  exact b KQ c a d D g q
 |ret v=>exact q
 |brk=>exact q
 |cont=>exact q
theorem rV(h1:PS X st t):Mi X [st] t:=by
 intro KQ s σ H D I h;refine wpAny_execs_cons (LA (h1 KQ s σ H D I h) fun f a q=>?_);cases f with
 |next=>exact wpAny_execs_nil q
 |ret v=>exact q
 |brk=>exact q
 |cont=>exact q
theorem Inv.quiet{KQ:List (Addr×Obj)}{σ:St}{H:Hp}{s:Hk}(I:Inv X KQ σ H s):interactive X.env=KG:=by simp[interactive,I.ok.kind]
def Bk(te:TE):TS:=fun D σ H=>te σ H fun _ H1=>D.nx σ H1
theorem tw(b:PE X e te)(c:JR e KC pos.line X.env=pure KG:=by rfl):PS X (.Expr e pos) (Bk te):=by intro KQ s σ H D I h;exact wpAny_Expr_any (LA (b KQ s σ H _ I h) fun v g a=>by obtain⟨x,H1,d,i,f⟩:=a;exact(⟨σ,H1,d,f⟩)) I.quiet c
def GX(te:TE):TS:=fun D σ H=>te σ H D.rt
theorem Dm(b:PE X e te):PS X (.Return (KA e) pos) (GX te):=by intro KQ s σ H D I h;exact wpAny_Return_some (LA (b KQ s σ H _ I h) fun v g a=>by obtain⟨x,H1,c,d,f⟩:=a;exact(⟨x,σ,H1,c,d,f⟩))
def GP(c:TT)(t u:TS):TS:=fun D σ H=>c σ H fun b H1=>if b=KD then t D σ H1 else u D σ H1
theorem FD{c:Expr}{a b:List Stmt}{tc:TT}(k:PT X c tc)(l:Mi X a t)(m:Mi X b u):PS X (.If c a b pos) (GP tc t u):=by
 intro KQ s σ H D I h;refine wpAny_If (LA (k KQ s σ H _ I h) fun d g f=>?_);obtain⟨H1,i,j⟩:=f;cases d with
 |true=>exact l KQ g σ H1 D i j
 |false=>exact m KQ g σ H1 D i j
def yn:TS:=fun _ _ _=>False
theorem yD:PS X st yn:=fun _ _ _ _ _ _ h=>h.elim
theorem vd{a:List Stmt}:Mi X a yn:=fun _ _ _ _ _ _ h=>h.elim
end
abbrev TG:=V->St->Hp->(St->Hp->Prop)->Prop
abbrev PM:=List V->St->Hp->(St->Hp->Prop)->Prop
def PG(X:Cx)(a:Expr)(t:TG):Prop:=
 ∀(KQ:List (Addr×Obj)) (s:Hk) (σ:St) (H:Hp) (v:V) (u:Hj) (Q:St->Hp->Prop),Inv X KQ σ H s->RelV v u->t v σ H Q->
  Hu (HC X.prog X.w) X.A (K9 a X.env u) (fun _ d=>∃b c,Inv X KQ b c d/\Q b c) X.xe s
def Pz(X:Cx)(c:List Expr)(t:PM):Prop:=
 ∀(KQ:List (Addr×Obj)) (s:Hk) (σ:St) (H:Hp) (vs:List V) (us:List Hj) (Q:St->Hp->Prop),Inv X KQ σ H s->Vals vs us->t vs σ H Q->
  Hu (HC X.prog X.w) X.A (assignInOrder ((K6 c X.env).map (·.2)) us) (fun _ d=>∃a b,Inv X KQ a b d/\Q a b) X.xe s
abbrev Df:=V->V->V->Hp->(Hp->Prop)->Prop
def F0(X:Cx)(t:Df):Prop:=
 ∀(KQ:List (Addr×Obj)) (s:Hk) (σ:St) (H:Hp) (o i v:V) (a b u:Hj) (Q:Hp->Prop),Inv X KQ σ H s->RelV o a->RelV i b->RelV v u->t o i v H Q->
  Hu (HC X.prog X.w) X.A (setItem a b u) (fun _ d=>∃c,Inv X KQ σ c d/\Q c) X.xe s
abbrev Vz:=V->V->Hp->VK->Prop
def WA(X:Cx)(op:Operator)(t:Vz):Prop:=
 ∀(KQ:List (Addr×Obj)) (s:Hk) (σ:St) (H:Hp) (x y:V) (v u:Hj) (Q:VK),Inv X KQ σ H s->RelV x v->RelV y u->t x y H Q->
  Hu (HC X.prog X.w) X.A (inplaceOp op v u) (EP X KQ σ Q) X.xe s
section
variable{X:Cx}{pos:Pos}
def e9(i:Nat):TG:=fun v σ H Q=>Q (σ.set i (KA v)) H
theorem sR{i:Nat}{x:Str}(a:X.N.Nodup)(b:X.N[i]?=KA x)(c:Loc X.env.scope x)(d:X.fn x=KD\/X.env.scope.names.lookup x=KA .local:=by first|exact .inl rfl|exact .inr rfl|assumption):PG X (.Name x pos) (e9 i):=by intro KQ s σ H v u Q I r h;exact wpAny_assign_Name (d6 I a b c r (fun f e=>⟨_,H,e,h⟩) d)
def DM:PM:=fun vs σ H Q=>vs=[]/\Q σ H
def pb(t:TG)(u:PM):PM:=fun vs σ H Q=>∃v r,vs=v::r/\t v σ H fun a b=>u r a b Q
theorem se:Pz X [] DM:=by intro KQ s σ H vs us Q I r h;obtain⟨e,h⟩:=h;subst e;cases r;exact assignInOrder_nil ⟨σ,H,I,h⟩
theorem lj{e:Expr}{es:List Expr}{t:TG}{u:PM}(h1:PG X e t)(c:Pz X es u) (d:(K6 (e::es) X.env).map (·.2)=K9 e X.env::(K6 es X.env).map (·.2):=by rfl):Pz X (e::es) (pb t u):=by
 intro KQ s σ H vs us Q I r h;obtain⟨v,k,e1,h⟩:=h;subst e1;cases r with
 |cons r f=>
  rw[d]
  refine assignInOrder_cons (LA (h1 KQ s σ H _ _ _ I r h) fun _ g a=>?_)
  obtain⟨b,H1,i,j⟩:=a
  exact c KQ g b H1 _ _ Q i f j
def Dn(K:H0)(n:Nat)(t:PM):TG:=fun v σ H Q=>∃a xs,v=.ref a/\LU K H a xs/\xs.length=n/\t xs σ H Q
theorem vN{es:List Expr}{k:Nat}{t:PM}{n:Nat}(g:X.calm=KD)(h:Pz X es t)
 (i:(K6 es X.env).length=n:=by rfl) (c:(K6 es X.env).findIdx? (·.1)=KC:=by rfl):PG X (.Tuple es k pos) (Dn X.K n t):=by
 intro KQ s σ H v u Q I r d
 obtain⟨a,xs,e1,j,l,d⟩:=d
 subst e1
 cases r
 obtain⟨m,f,p,y⟩:=I.tuple j
 refine assign_Tuple_tuple (I.ok.hd g) p (by simp[i,<-l,f.length]) c fun q w=>?_
 have x:Inv X KQ σ H { s with heap:=q }:=I.kept (t':=s.toks) fun b o e=>w b o (Im (Hz e)) e
 exact h KQ _ σ H xs _ Q x (by simpa using f) d
def Gj(a b:TE)(t:Df):TG:=fun v σ H Q=>a σ H fun o H1=>b σ H1 fun i c=>t o i v c fun d=>Q σ d
theorem Dk{o i:Expr}{f g:TE}{t:Df}(j:PE X o f)(k:PE X i g)(l:F0 X t)
 (m:∀v,K9 (.Subscript o i pos) X.env v=(do
  let d <-holding [v] (eval o X.env)
  let e <-holding [v,d] (eval i X.env)
  standAt pos
  holding [v,d,e] (setItem d e v)
  release [v,d,e] []):=by intro _;rfl):PG X (.Subscript o i pos) (Gj f g t):=by
 intro KQ s σ H v u Q I r h
 rw[m]
 refine cc (J4 (LA (j KQ s σ H _ I h) fun d n a=>?_))
 obtain⟨x,H1,p,q,w⟩:=a
 refine cc (J4 (LA (k KQ n σ H1 _ p w) fun e z b=>?_))
 obtain⟨y,A,B,C,D⟩:=b
 refine cc (J5 (cc (J4 (LA (l KQ z σ A x y v d e u _ B q C r D) fun _ J c=>?_))))
 obtain⟨E,F,G⟩:=c
 exact wpAny_release ⟨σ,E,F,G⟩
def Ak(te:TE)(g:TG):TS:=fun D σ H=>te σ H fun x H1=>g x σ H1 D.nx
theorem C0{tg e:Expr}{te:TE}{g:TG}(b:PE X e te)(c:PG X tg g)(d:swapsWithSole [tg] e pos.line X.env=pure KG:=by rfl)(hw:swappedStores [tg] e X.env=pure KC:=by rfl) (h1:(K6 [tg] X.env).map (·.2)=[K9 tg X.env]:=by rfl):PS X (.Assign [tg] e pos) (Ak te g):=by intro KQ s σ H D I h;refine wpAny_Assign_stores (LA (b KQ s σ H _ I h) fun v f a=>?_) d hw;obtain⟨x,H1,i,j,k⟩:=a;rw[h1];exact LA (c KQ f σ H1 x v _ i j k) fun _ l q=>q
theorem DC{i:Nat}{x:Str}{e:Expr}{te:TE}{b:Pos}(c:X.N.Nodup)(d:X.N[i]?=KA x)(f:Loc X.env.scope x)(g:PE X e te)(j:JR e (KA (.Name x b)) pos.line X.env=pure KG:=by rfl)(k:X.fn x=KD\/X.env.scope.names.lookup x=KA .local:=by first|exact .inl rfl|exact .inr rfl|assumption) : PS X (.Assign [.Name x b] e pos) (Ak te (e9 i)):=by intro KQ s σ H D I h;refine wpAny_Assign_Name (LA (g KQ s σ H _ I h) fun v p a=>?_) j;obtain⟨y,H1,l,m,n⟩:=a;exact d6 l c d f m (fun q o=>⟨_,H1,o,n⟩) k
def Hc(i j:Nat)(a:TA):TS:=fun D σ H=>a σ H fun vs H1=>∃v w,vs=[v,w]/\D.nx ((σ.set i (KA v)).set j (KA w)) H1
theorem DN{i j:Nat}{x y:Str}{a b:Expr}{C:TA}{l m pt:Pos}{n r d}(K:X.calm=KD)(E:X.N.Nodup)(L:X.N[i]?=KA x)(M:X.N[j]?=KA y)(t:i≠j)
 (F:X.env.scope.names.lookup x=KA .local) (G:X.env.scope.names.lookup y=KA .local) (O:PA X [a,b] C)
 (hw:swappedStores [.Tuple [.Name x l,.Name y m] n pt] (.Tuple [a,b] r d) X.env=pure (KA [x,y]))
 (P:swapsWithSole [.Tuple [.Name x l,.Name y m] n pt] (.Tuple [a,b] r d) pos.line X.env=pure KG:=by rfl) :
 PS X (.Assign [.Tuple [.Name x l,.Name y m] n pt] (.Tuple [a,b] r d) pos) (Hc i j C):=by
 intro KQ s σ H D I h
 rw[exec_Assign_arm]
 refine cc (J5 ?_)
 rw[P]
 refine cc (Hm ?_)
 rw[KH ⋯]
 refine cc (Tuple_ (LA (O _ KQ s σ H _ I h) fun us f c=>?_))
 obtain⟨vs,H1,Q,R,u⟩:=c
 obtain⟨v,w,e1,u⟩:=u
 subst e1
 obtain⟨g,k,rfl,S,z⟩:∃g k,us=[g,k]/\RelV v g/\RelV w k:=by
  cases R with
  |cons p q=>
   cases q with
   |cons T U=>
    cases U
    exact⟨_,_,rfl,p,T⟩
 refine IS ?_ (by show 2<=Hy;decide)
 have V:Inv X KQ σ H1 { f with heap:=f.heap.push { cls:=.type "tuple",data:=.seq [g,k].toArray } }:=Q.kept (t':=f.toks) fun b o e=>Ho _ e
 rw[hw]
 refine cc (Hm ?_)
 show Hu (HC X.prog X.w) X.A (do rule "assign.swapped-stores";let items <-unpackItems (.ref f.heap.objs.size) 2 KC;assignInOrder [fun v=>bindName X.env y v,fun v=>bindName X.env x v] items.reverse;pure Flow.next) _ _ _
 refine cc (wpAny_rule (cc (unpackItems_tuple (items:=#[g,k]) (I.ok.hd K) (IsTup.new f.heap _) fun h' B=>?_)))
 have W:=V.kept (h':=h') (t':=f.toks) fun b o e=>B b o (Im (Hz e)) e
 show Hu _ _ (assignInOrder [fun v=>bindName X.env y v,fun v=>bindName X.env x v] [k,g] >>= fun _=>pure Flow.next) _ _ _
 refine cc (assignInOrder_cons (wpAny_bindName (d6 W E M (.inl G) z (fun Z Y=>?_) (.inr G))))
 refine assignInOrder_cons (wpAny_bindName (d6 Y E L (.inl F) S (fun s3 J=>assignInOrder_nil (Hm ?_)) (.inr F)))
 rw[List.set_comm _ _ (Ne.symm t)]at J
 exact⟨_,H1,J,u⟩
def GF(i:Nat)(te:TE)(a:Vz):TS:=fun D σ H=>∃x,σ[i]?=KA (KA x)/\te σ H fun y H1=>a x y H1 fun z b=>D.nx (σ.set i (KA z)) b
theorem BI{i:Nat}{x:Str}{e:Expr}{te:TE}{op:Operator}{q:Vz}{g:Pos}(B:X.N.Nodup)(t:X.N[i]?=KA x)(o:Loc X.env.scope x)(C:PE X e te)(E:WA X op q)(F:X.fn x=KD\/X.env.scope.names.lookup x=KA .local:=by first|exact .inl rfl|exact .inr rfl|assumption) :
 PS X (.AugAssign (.Name x g) op e pos) (GF i te q):=by
 intro KQ s σ H D I h
 obtain⟨v,e1,h⟩:=h
 obtain⟨m,G,J⟩:=I.loc
 have p:QJ X.env.scope x:=by rcases o with k|k;exact .inl k;exact .inr (.inl k)
 obtain⟨u,r,l⟩:=J i x v t e1 p
 refine wpAny_AugAssign_Name ?_
 have go:Hu (HC X.prog X.w) X.A (eval e X.env) (fun w j=>Hu (HC X.prog X.w) X.A (inplaceOp op u w) (fun r n=>Hu (HC X.prog X.w) X.A (storeName X.env x r) (fun _=>SP X KQ D .next) X.xe n) X.xe j) X.xe s:=by
  refine LA (C KQ s σ H _ I h) fun w K a=>?_
  obtain⟨y,H1,L,M,O⟩:=a
  refine LA (E KQ K σ H1 v y u w _ L r M O) fun z W b=>?_
  obtain⟨Y,P,Q,R,S⟩:=b
  exact d6 Q B t o R (fun Z T=>⟨_,P,T,S⟩) F
 rcases l with⟨d,U⟩|⟨d,c,V,f⟩
 ·exact wpAny_loadName_local I.ok.kind d G U go
 ·rcases d with d|d
  ·exact wpAny_loadName_cell I.ok.kind d V f go
  ·rcases o with k|k
   ·have:X.env.scope.names.lookup x=KA .free:=d
    rw[k]at this;cases this
   ·have:X.env.scope.names.lookup x=KA .free:=d
    rw[k]at this;cases this
def YB(f:Int->Int->Int):Vz:=fun x y H Q=>∃i j,x=.int i/\y=.int j/\Q (.int (f i j)) H
theorem CO:WA X .Add (YB fun i j=>i+j):=by intro KQ s σ H x y v u Q I a b h;obtain⟨i,j,e1,e2,q⟩:=h;subst e1;subst e2;obtain⟨t,rfl⟩:=a;obtain⟨c,rfl⟩:=b;exact iadd_int ⟨.int _,H,I.tok _,⟨_,rfl⟩,q⟩
theorem CV:WA X .Sub (YB fun i j=>i-j):=by intro KQ s σ H x y v u Q I a b h;obtain⟨i,j,e1,e2,q⟩:=h;subst e1;subst e2;obtain⟨t,rfl⟩:=a;obtain⟨c,rfl⟩:=b;exact isub_int ⟨.int _,H,I.tok _,⟨_,rfl⟩,q⟩
end
section
variable{X:Cx}{pos:Pos}
def B7(c:TT)(tb:TS):TS:=fun D σ H=>∃W:Nat->St->Hp->Prop,(∃m,W m σ H)/\∀m σ H,W m σ H->
 c σ H fun b H1=>if b=KD then ∃N:St->Hp->Prop,(∀a d,N a d->∃e,e<m/\W e a d)/\tb { D with nx:=N,ct:=N,bk:=D.nx } σ H1 else D.nx σ H1
theorem xR{c:Expr}{body:List Stmt}{tc:TT}{tb:TS}(t:PassesOwn (HC X.prog X.w) X.A X.env X.xe)(B:PT X c tc)(C:Mi X body tb):PS X (.While c body [] pos) (B7 tc tb):=by
 intro KQ s σ H D I h;obtain⟨W,⟨E,F⟩,g⟩:=h;refine wpAny_While (codeAny_whileLoop (fun n G=>∃i u,Inv X KQ i u G/\W n i u) ?_ E ⟨σ,H,I,F⟩);rintro n J ⟨d,H1,K,L⟩;refine JX t (LA (B KQ J d H1 _ K (g n d H1 L)) fun b M e=>?_);obtain⟨x,y,k⟩:=e;cases b with
 |true=>
  obtain⟨N,z,k⟩:=k
  rw[KI rfl]
  refine JX t (LA (C KQ M d x _ y k) fun f O l=>?_)
  cases f with
  |next=>
   obtain⟨a,j,m,o⟩:=l
   obtain⟨p,q,r⟩:=z a j o
   exact⟨p,q,a,j,m,r⟩
  |cont=>
   obtain⟨a,j,m,o⟩:=l
   obtain⟨p,q,r⟩:=z a j o
   exact⟨p,q,a,j,m,r⟩
  |brk=>exact l
  |ret v=>exact l
 |false=>
  rw[KH HJ]
  exact wpAny_execs_nil ⟨d,x,y,k⟩
end
structure It where
 go:Nat->Hp->Prop
 yld:Nat->Hp->V->Hp->Prop
 stop:Nat->Hp->Prop
def cL(X:Cx)(KQ:List (Addr×Obj))(H:Hp)(b:Addr):Prop:=
 H b=KC/\b≠X.env.locals/\b∉X.fs/\(b∈X.ex\/X.s₀.heap.objs.size<=b)/\(∀x c,X.env.cells.lookup x=KA c->c≠b)/\∀p∈X.pn++KQ,p.1≠b
theorem Inv.qY{X:Cx}{KQ:List (Addr×Obj)}{σ:St}{H d:Hp}{s:Hk}{b:Addr}(I:Inv X KQ σ H s)(a:s.heap.objs.size<=b)(f:d b=KC):cL X KQ d b:=by
 refine⟨f,Nat.ne_of_gt (HL I.lt a),I.GH a,.inr (IA I.sz a),fun x c e z=>?_,fun p g z=>?_⟩
 ·obtain⟨v,q⟩:=I.cell x c e;exact absurd (HL q.lt (by rw[z];exact a)) (Jp _)
 ·exact absurd (HL (Hz (I.pin p g).1) (by rw[z];exact a)) (Jp _)
structure Turn(P:HF)(w:Ih)(K:H0)(tg:Expr)(J:It)(fp:List Addr)(it:Addr)(tn:Nat->Heap->Prop):Prop where
 mem:it∈fp
 obj:∀i h,tn i h->∀b∈fp,∃o,h.get? b=KA o/\∀v,o.data≠.cell v
 keep:∀i h h',tn i h->(∀b∈fp,∀o,h.get? b=KA o->h'.get? b=KA o)->tn i h'
 item:∀(X:Cx),X.prog=P->X.w=w->X.K=K->X.calm=KD->∀(i:Nat) (KQ:List (Addr×Obj)) (s:Hk) (σ:St) (H:Hp) (E:Hj->Hk->Prop),Inv X KQ σ H s->(∀b∈fp,cL X KQ H b)->tn i s.heap->J.go i H->
  Hu (HC P w) X.A (pyNext (.ref it)) (fun r s1=>∃u,r=KA u/\
   Hu (HC P w) X.A (Jr tg (.ref it) u) (fun _ s2=>∃x H',Inv X KQ σ H' s2/\RelV x u/\J.yld i H x H'/\tn (i+1) s2.heap/\∀b∈fp,H' b=KC) E s1) E s
 done:∀(X:Cx),X.prog=P->X.w=w->X.K=K->X.calm=KD->∀(i:Nat) (KQ:List (Addr×Obj)) (s:Hk) (σ:St) (H:Hp) (E:Hj->Hk->Prop),Inv X KQ σ H s->(∀b∈fp,cL X KQ H b)->tn i s.heap->J.stop i H->
  Hu (HC P w) X.A (pyNext (.ref it)) (fun r s1=>r=KC/\Inv X KQ σ H s1) E s
 self:∀(A:Ij) (i:Nat) (s:Hk) (Q:Hj->Hk->Prop) (E:Hj->Hk->Prop),tn i s.heap->Q (.ref it) s->Hu (HC P w) A (pyIter (.ref it)) Q E s
abbrev TI:=St->Hp->(It->Hp->Prop)->Prop
def Y0(X:Cx)(KQ:List (Addr×Obj))(σ:St)(tg:Expr)(R:It->Hp->Prop)(a:Hj)(d:Hk):Prop:=
 ∃(it:Addr) (fp:List Addr) (tn:Nat->Heap->Prop) (J:It) (c:Hp),a=.ref it/\Inv X KQ σ c d/\Turn X.prog X.w X.K tg J fp it tn/\tn 0 d.heap/\(∀b∈fp,cL X KQ c b)/\R J c
def PI(X:Cx)(tg a:Expr)(b:TI):Prop:=
 ∀(KQ:List (Addr×Obj)) (s:Hk) (σ:St) (H:Hp) (R:It->Hp->Prop),Inv X KQ σ H s->b σ H R->
  Hu (HC X.prog X.w) X.A (eval a X.env) (fun v c=>Hu (HC X.prog X.w) X.A (pyIter v) (Y0 X KQ σ tg R) X.xe c) X.xe s
theorem xM{M:Model}{A:Ij}{E:Hj->Hk->Prop}{s:Hk}{tg:Expr}{it:Addr}{u:Hj}{o:Obj}{n:String}{vs:Array Hj}{Q:Unit->Hk->Prop}(b:s.heap.get? it=KA o)(c:o.cls=.type n)(hd:o.data=.fields vs) (d:["enumerate","zip","dict_itemiterator","dict_reverseitemiterator","odict_iterator","itertools.zip_longest","itertools.pairwise"].contains n=KG) (a:Q .unit s):Hu M A (Jr tg (.ref it) u) Q E s:=by
 unfold Jr
 cases tg<;>first
  |exact Hm a
  |(cases u<;>first
   |exact Hm a
   |(refine cc (wpAny_load b ?_)
     rw[c,hd]
     show Hu M A (if(["enumerate","zip","dict_itemiterator","dict_reverseitemiterator","odict_iterator","itertools.zip_longest","itertools.pairwise"].contains n&&vs[0]?==KA (rawInt _))=KD then _ else _) Q E s
     rw[KH (by intro h;rw[d,Bool.false_and]at h;cases h)]
     exact Hm a))
def Y4(K:H0)(a:Addr):It:=
 ⟨fun i H=>∃xs x,LR K H a xs/\xs[i]?=KA x,fun i H x b=>b=H/\∀xs,LR K H a xs->xs[i]?=KA x,fun i H=>∃xs,LR K H a xs/\xs.length<=i⟩
def Y3(K:H0)(a:Addr):It:=
 ⟨fun i H=>∃xs x,LU K H a xs/\xs[i]?=KA x,fun i H x b=>b=H/\∀xs,LU K H a xs->xs[i]?=KA x,fun i H=>∃xs,LU K H a xs/\xs.length<=i⟩
def QB(a:Int)(n:Nat):It:=⟨fun i _=>i<n,fun i H x b=>b=H/\x=.int (a+i),fun i _=>n<=i⟩
theorem uB{P:HF}{w:Ih}{K:H0}{tg:Expr}(a it:Addr):Turn P w K tg (Y4 K a) [it] it (fun i h=>h.IsListIter it a i) where
 mem:=by simp
 obj:=fun i h st b f=>by
  have e:b=it:=by simpa using f
  subst e
  obtain⟨o,e,c,d⟩:=st
  exact⟨o,e,fun v z=>by rw[d]at z;cases z⟩
 keep:=fun i h j st k=>st.at fun o e=>k it (by simp) o e
 item:=by
  intro X n q r L i KQ s σ H E I l st t
  subst n q r
  obtain⟨xs,x,m,y⟩:=t
  obtain⟨A,B,p,M⟩:=I.list m
  obtain⟨u,N,O⟩:=B.get y
  obtain⟨C,D,Q,F,G,J⟩:=l it (by simp)
  refine wpAny_pyNext_list_item st p.isList (x:=u) (by simpa using N) fun j g R=>?_
  have S:Inv X KQ σ H { s with heap:=j }:=I.turned (t':=s.toks) (fun b o f e=>(R.2 b f).trans e) C D F G J
  obtain⟨o,e,c,d⟩:=id g
  exact⟨u,rfl,xM (s:={ s with heap:=j }) e c d ⋯ ⟨x,H,S,O,⟨rfl,fun U T=>by rw[I.ic T m];exact y⟩,g,fun b f=>(l b f).1⟩⟩
 done:=by
  intro X n q r L i KQ s σ H E I l st t
  subst n q r
  obtain⟨xs,m,y⟩:=t
  obtain⟨A,B,p,M⟩:=I.list m
  obtain⟨C,D,Q,F,G,J⟩:=l it (by simp)
  have V:=B.length
  exact wpAny_pyNext_list_end (I.ok.hd L) st p.isList (by simp;omega) fun j eb=>⟨rfl,I.turned (t':=s.toks) (fun b o f e=>eb b o f e) C D F G J⟩
 self:=fun _ _ _ _ _ st h=>wpAny_pyIter_listiter st h
theorem p7{P:HF}{w:Ih}{K:H0}{tg:Expr}(a it:Addr):Turn P w K tg (Y3 K a) [it] it (fun i h=>h.IsTupleIter it a i) where
 mem:=by simp
 obj:=fun i h st b f=>by
  have e:b=it:=by simpa using f
  subst e
  obtain⟨o,e,c,d⟩:=st
  exact⟨o,e,fun v z=>by rw[d]at z;cases z⟩
 keep:=fun i h l st k=>st.at fun o e=>k it (by simp) o e
 item:=by
  intro X q r t L i KQ s σ H E I m st y
  subst q r t
  obtain⟨xs,x,n,A⟩:=y
  obtain⟨g,B,p,M⟩:=I.tuple n
  obtain⟨u,N,O⟩:=B.get A
  obtain⟨C,D,Q,F,G,J⟩:=m it (by simp)
  refine wpAny_pyNext_tuple_item st (show s.heap.IsTuple a g.toArray from p) (x:=u) (by simpa using N) fun l j R=>?_
  have S:Inv X KQ σ H { s with heap:=l }:=I.turned (t':=s.toks) (fun b o f e=>(R.2 b f).trans e) C D F G J
  obtain⟨o,e,c,d⟩:=id j
  exact⟨u,rfl,xM (s:={ s with heap:=l }) e c d ⋯ ⟨x,H,S,O,⟨rfl,fun U T=>by rw[I.tS T n];exact A⟩,j,fun b f=>(m b f).1⟩⟩
 done:=by
  intro X q r t L i KQ s σ H E I m st y
  subst q r t
  obtain⟨xs,n,A⟩:=y
  obtain⟨g,B,p,M⟩:=I.tuple n
  obtain⟨C,D,Q,F,G,J⟩:=m it (by simp)
  have V:=B.length
  exact wpAny_pyNext_tuple_end (I.ok.hd L) st (show s.heap.IsTuple a g.toArray from p) (by simp;omega) fun l eb=>⟨rfl,I.turned (t':=s.toks) (fun b o f e=>eb b o f e) C D F G J⟩
 self:=fun _ _ _ _ _ st h=>wpAny_pyIter_tupleiter st h
theorem rK{P:HF}{w:Ih}{K:H0}{tg:Expr}(it:Addr)(d:Int)(n:Nat):Turn P w K tg (QB d n) [it] it (fun i h=>IsRangeIter h it (d+(i:Nat)*1) ((n:Int)-(i:Nat)) 1) where
 mem:=by simp
 obj:=fun i h st b a=>by
  have e:b=it:=by simpa using a
  subst e
  exact⟨_,st,fun v z=>by
   have C:Data.fields _=Data.cell v:=z
   cases C⟩
 keep:=fun i h f st k=>k it (by simp) _ st
 item:=by
  intro X j l m p i KQ s σ H E I g st q
  subst j l m
  obtain⟨r,u,D,x,y,A⟩:=g it (by simp)
  have W:=Walks.range (prog:=X.prog) (w:=X.w) (I.ok.hd p) it d 1 n
  refine W.item i s _ _ q st fun v f B F c G=>?_
  obtain⟨t,rfl⟩:=F
  have J:Inv X KQ σ H { s with heap:=f,toks:=B }:=I.turned (fun b o a e=>G b o (by simpa using a) e) r u x y A
  refine⟨_,rfl,xM (s:={ s with heap:=f,toks:=B }) (n:="range_iterator") c rfl rfl ⋯ ⟨.int (d+i),H,J,⟨t,?_⟩,⟨rfl,rfl⟩,c,fun b a=>(g b a).1⟩⟩
  rw[Int.mul_one]
 done:=by
  intro X j l m p i KQ s σ H E I g st q
  subst j l m
  obtain⟨r,u,D,x,y,A⟩:=g it (by simp)
  exact wpAny_pyNext_range_end (I.ok.hd p) st (by have:n<=i:=q;omega) fun f eb=>⟨rfl,I.turned (t':=s.toks) (fun b o a e=>eb b o a e) r u x y A⟩
 self:=fun _ _ _ _ _ st h=>wpAny_pyIter_rangeiter st h
section
variable{X:Cx}{tg:Expr}
theorem oN{KQ:List (Addr×Obj)}{σ:St}{H:Hp}{s:Hk}{R:It->Hp->Prop}{E:Hj->Hk->Prop}{a c:Int}{t u v:Tok}{tk:Nat}(I:Inv X KQ σ H s)(h1:-(2^62)<=a)(f:a<2^62)(g:-(2^62)<=c)(h:c<2^62)
 (q:R (QB a (c-a).toNat) H):Hu (HC X.prog X.w) X.A (pyIter (.ref s.heap.objs.size)) (Y0 X KQ σ tg R) E { s with heap:=s.heap.push { cls:=.type "range",data:=.fields #[.int a t,.int c u,.int 1 v] },toks:=tk }:=by
 refine wpAny_pyIter_range (IsRange.new ..) (small_one h1 f g h) ?_
 have d:Inv X KQ σ H { s with heap:=s.heap.push { cls:=.type "range",data:=.fields #[.int a t,.int c u,.int 1 v] },toks:=tk }:=I.kept fun b o e=>Ho _ e
 refine⟨(s.heap.push { cls:=.type "range",data:=.fields #[.int a t,.int c u,.int 1 v] }).objs.size,[(s.heap.push { cls:=.type "range",data:=.fields #[.int a t,.int c u,.int 1 v] }).objs.size],_,_,H,rfl,
  d.kept (t':=tk) fun b o e=>Ho _ e,rK _ a (c-a).toNat,?_,fun b i=>?_,q⟩
 ·have e1:a+((0:Nat):Int)*1=a:=by simp
  have e2:(((c-a).toNat:Nat):Int)-((0:Nat):Int)=Builtin.Range.rangeSize a c 1:=by rw[rangeSize_one];split<;>omega
  show IsRangeIter _ _ (a+((0:Nat):Int)*1) ((((c-a).toNat:Nat):Int)-((0:Nat):Int)) 1
  rw[e1,e2]
  exact HG _ rfl
 ·have e:b=(s.heap.push { cls:=.type "range",data:=.fields #[.int a t,.int c u,.int 1 v] }).objs.size:=by simpa using i
  subst e
  exact d.qY (Hq _) (d.hok.fresh (Hq _))
def ER(a:TA):TI:=fun σ H R=>a σ H fun vs H1=>∃j:Int,vs=[.int j]/\-(2^62)<=j/\j<2^62/\R (QB 0 j.toNat) H1
def En(a:TA):TI:=fun σ H R=>a σ H fun vs H1=>∃i j:Int,vs=[.int i,.int j]/\(-(2^62)<=i/\i<2^62/\-(2^62)<=j/\j<2^62)/\R (QB i (j-i).toNat) H1
theorem mU{a:Expr}{d:TA}{p pos:Pos}(f:Gl X "range")(g:X.mg "range"=KC)(i:PA X [a] d)(k:Hv [a] X.env=[(KG,eval a X.env)]:=by rfl):PI X tg (.Call (.Name "range" p) [a] [] pos) (ER d):=by
 intro KQ s σ H R I h;refine Call_ (gA I f g boot_range (JM (LA (i pos KQ s σ H _ I h) fun us u b=>?_) k rfl));obtain⟨vs,H1,l,m,c⟩:=b;obtain⟨j,e,c,n,q⟩:=c;subst e;cases m with
 |cons r o=>
  cases o
  obtain⟨t,rfl⟩:=r
  exact call_range_1 (oN l () () c n (by simpa using q))
theorem uz{a b:Expr}{g:TA}{p pos:Pos}(k:Gl X "range")(l:X.mg "range"=KC)(m:PA X [a,b] g)(n:Hv [a,b] X.env=[(KG,eval a X.env),(KG,eval b X.env)]:=by rfl)(c:Hv [b] X.env=[(KG,eval b X.env)]:=by rfl) : PI X tg (.Call (.Name "range" p) [a,b] [] pos) (En g):=by
 intro KQ s σ H R I h;refine Call_ (gA I k l boot_range (JM (LA (m pos KQ s σ H _ I h) fun us z ⟨vs,H1,o,u,d⟩=>?_) (by rw[n,c]) (by rw[c];rfl)));obtain⟨i,j,e,⟨d,v,w,x⟩,q⟩:=d;subst e;cases u with
 |cons r f=>
  cases f with
  |cons y f=>
   cases f
   obtain⟨t,rfl⟩:=r
   obtain⟨A,rfl⟩:=y
   exact call_range_2 (oN o d v w x q)
def Gr(e:TI)(g:TG)(tb:TS):TS:=fun D σ H=>e σ H fun J H1=>∃W:Nat->Nat->St->Hp->Prop,(∃m,W 0 m σ H1)/\∀i m σ H,W i m σ H->
 (J.stop i H/\D.nx σ H)\/(J.go i H/\∃N:St->Hp->Prop,(∀a b,N a b->∃d,d<m/\W (i+1) d a b)/\∀x b,J.yld i H x b->g x σ b fun c f=>tb { D with nx:=N,ct:=N,bk:=D.nx } c f)
def fo(fp:List Addr)(h:Heap):List (Addr×Obj):=fp.filterMap fun b=>(h.get? b).map fun o=>(b,o)
theorem bz{fp:List Addr}{h:Heap}{b:Addr}{o:Obj}(a:b∈fp)(e:h.get? b=KA o):(b,o)∈fo fp h:=List.mem_filterMap.mpr ⟨b,a,by rw[e];rfl⟩
theorem t8{fp:List Addr}{h:Heap}{p:Addr×Obj}(a:p∈fo fp h):p.1∈fp/\h.get? p.1=KA p.2:=by
 obtain⟨b,c,e⟩:=List.mem_filterMap.mp a;cases q:h.get? b with
 |none=>rw[q]at e;cases e
 |some o=>
  rw[q]at e
  have d:(b,o)=p:=Option.some.inj e
  subst d
  exact⟨c,q⟩
theorem Inv.pinned{KQ:List (Addr×Obj)}{σ:St}{H:Hp}{s:Hk}{fp:List Addr}(I:Inv X KQ σ H s)(f:∀b∈fp,cL X KQ H b)(g:∀b∈fp,∃o,s.heap.get? b=KA o/\∀v,o.data≠.cell v):Inv X (KQ++fo fp s.heap) σ H s:=
 I.sJ fun p h=>(HM.mp h).elim (fun z=>I.pin p (HK _ z)) fun z=>by
  obtain⟨a,e⟩:=t8 z
  obtain⟨i,j,k,_⟩:=f p.1 a
  obtain⟨o,c,d⟩:=g p.1 a
  rw[e]at c;cases c
  exact⟨e,i,j,k,d⟩
theorem Inv.dA{KQ pl:List (Addr×Obj)}{σ:St}{H:Hp}{s:Hk}(I:Inv X (KQ++pl) σ H s):Inv X KQ σ H s:=I.sJ fun p a=>I.pin p (HK _ (List.mem_append_left _ a))
theorem vW{c:Expr}{body:List Stmt}{Y:TI}{g:TG}{tb:TS}{pos:Pos}(K:PassesOwn (HC X.prog X.w) X.A X.env X.xe)(Z:X.calm=KD)(hi:PI X tg c Y)(hg:PG X tg g)(j:Mi X body tb)
 (hs:∀x,Ic c X.env x=pure x:=by intro _;rfl):PS X (.For tg c body [] pos) (Gr Y g tb):=by
 intro KQ s σ H D I h
 refine wpAny_For (LA (hi KQ s σ H _ I h) fun v s1 h1=>LA h1 fun a0 s2 h2=>?_) hs
 obtain⟨it,fp,tn,J,H2,e,I2,T,QW,f2,W,⟨m0,w0⟩,L⟩:=h2
 subst e
 have k:∀{z:Hp},(∀b∈fp,z b=KC)->∀b∈fp,cL X KQ z b:=fun hn b j=>⟨hn b j,(f2 b j).2⟩
 refine codeAny_forLoop_any (fun n s'=>∃i l z,Inv X KQ l z s'/\tn i s'.heap/\(∀b∈fp,z b=KC)/\W i n l z) ?_ m0 ⟨0,σ,H2,I2,QW,fun b j=>(f2 b j).1,w0⟩
 rintro n s3 ⟨i,p,P,I3,PJ,M,w3⟩
 rcases L i n p P w3 with⟨stop,qn⟩|⟨go,N,hN,step⟩
 ·refine JX K (LA (T.done X rfl rfl rfl Z i KQ s3 p P X.xe I3 (k M) PJ stop) fun r s4 B=>?_)
  obtain⟨Q,I4⟩:=B
  subst Q
  exact wpAny_execs_nil ⟨p,P,I4,qn⟩
 ·refine JX K (LA (T.item X rfl rfl rfl Z i KQ s3 p P X.xe I3 (k M) PJ go) fun r s4 C=>?_)
  obtain⟨u,Q,h4⟩:=C
  subst Q
  refine JX K (LA h4 fun _ s5 E=>?_)
  obtain⟨x,H5,I5,r5,y5,Mr,R⟩:=E
  have S:=I5.pinned (k R) (T.obj _ _ Mr)
  refine JX K (LA (hg _ s5 p H5 x u _ S r5 (step x H5 y5)) fun _ s6 F=>?_)
  obtain⟨U,H6,I6,q6⟩:=F
  refine JX K (LA (j _ s6 U H6 _ I6 q6) fun f V G=>?_)
  have q:∀{a:St} {t:Hp},Inv X (KQ++fo fp s5.heap) a t V->N a t->∃m,m<n/\∃i l z,Inv X KQ l z V/\tn i V.heap/\(∀b∈fp,z b=KC)/\W i m l z:=fun{a t} y O=>by
   obtain⟨m',hm,w7⟩:=hN a t O
   refine⟨m',hm,i+1,a,t,y.dA,T.keep _ _ _ Mr fun b j o e=>(y.pin (b,o) (HK _ (HK _ (bz j e)))).1,fun b j=>?_,w7⟩
   obtain⟨o,e,d⟩:=T.obj _ _ Mr b j
   exact(y.pin (b,o) (HK _ (HK _ (bz j e)))).2.1
  cases f with
  |next=>obtain⟨a,t,y,O⟩:=G;exact q y O
  |cont=>obtain⟨a,t,y,O⟩:=G;exact q y O
  |brk=>obtain⟨a,t,y,G⟩:=G;exact⟨a,t,y.dA,G⟩
  |ret v=>obtain⟨x7,a,t,y,r7,G⟩:=G;exact⟨x7,a,t,y.dA,r7,G⟩
end
theorem uT{h:Int}{n:Nat}{g:TG}{tb:TS}{D:Ends}{σ:St}{H:Hp}(a:Nat->St->Hp->Prop)(h0:a 0 σ H)
 (l:∀i σ H,i<n->a i σ H->g (.int (h+i)) σ H fun b j=>tb { D with nx:=a (i+1),ct:=a (i+1),bk:=D.nx } b j) (hd:∀σ H,a n σ H->D.nx σ H) :
 ∃W:Nat->Nat->St->Hp->Prop,(∃m,W 0 m σ H)/\∀i m σ H,W i m σ H->
  ((QB h n).stop i H/\D.nx σ H)\/((QB h n).go i H/\∃N:St->Hp->Prop,(∀c d,N c d->∃k,k<m/\W (i+1) k c d)/\∀x d,(QB h n).yld i H x d->g x σ d fun b j=>tb { D with nx:=N,ct:=N,bk:=D.nx } b j):=by
 refine⟨fun i m σ H=>m=n-i/\i<=n/\a i σ H,⟨n,by simp,Jl _,h0⟩,?_⟩
 rintro i m σ H ⟨rfl,q,p⟩
 by_cases f:i<n
 ·refine .inr ⟨f,a (i+1),fun c d o=>⟨n-(i+1),(),rfl,f,o⟩,fun x d y=>?_⟩
  obtain⟨e,y⟩:=y
  subst e y
  exact l i σ _ f p
 ·have e:i=n:=()
  subst e
  exact .inl ⟨Hq _,hd σ H p⟩
abbrev R2:=V->V->Hp->VK->Prop
def Lh(X:Cx)(f:Hj->Hj->Sem Hj)(r:R2):Prop:=
 ∀(KQ:List (Addr×Obj)) (s:Hk) (σ:St) (H:Hp) (x y:V) (v u:Hj) (Q:VK),Inv X KQ σ H s->RelV x v->RelV y u->r x y H Q->
  Hu (HC X.prog X.w) X.A (f v u) (EP X KQ σ Q) X.xe s
def Va(X:Cx)(f:Hj->Sem Hj)(r:V->Hp->VK->Prop):Prop:=
 ∀(KQ:List (Addr×Obj)) (s:Hk) (σ:St) (H:Hp) (x:V) (v:Hj) (Q:VK),Inv X KQ σ H s->RelV x v->r x H Q->
  Hu (HC X.prog X.w) X.A (f v) (EP X KQ σ Q) X.xe s
def bY(X:Cx)(f:Hj)(r:List V->Hp->VK->Prop):Prop:=
 ∀(KQ:List (Addr×Obj)) (s:Hk) (σ:St) (H:Hp) (xs:List V) (us:List Hj) (Q:VK),Inv X KQ σ H s->Vals xs us->r xs H Q->
  Hu (HC X.prog X.w) X.A (call f us) (EP X KQ σ Q) X.xe s
def Gf(X:Cx)(r:V->Hp->(Bool->Hp->Prop)->Prop):Prop:=
 ∀(KQ:List (Addr×Obj)) (s:Hk) (σ:St) (H:Hp) (x:V) (v:Hj) (Q:Bool->Hp->Prop),Inv X KQ σ H s->RelV x v->r x H Q->
  Hu (HC X.prog X.w) X.A (truthy v) (TP X KQ σ Q) X.xe s
def QO(r:R2)(a tb:TE):TE:=fun σ H Q=>a σ H fun x H1=>tb σ H1 fun y b=>r x y b Q
def Yn(r:V->Hp->VK->Prop)(a:TE):TE:=fun σ H Q=>a σ H fun x H1=>r x H1 Q
def rI(C:Int->Int->Prop)(g:Int->Int->V):R2:=fun x y H Q=>∃i j,x=.int i/\y=.int j/\C i j/\Q (g i j) H
def PK(g:Int->Int->V):R2:=fun x y H Q=>∃i j,x=.int i/\y=.int j/\Q (g i j) H
def rU(g:Int->V):V->Hp->VK->Prop:=fun x H Q=>∃i,x=.int i/\Q (g i) H
section
variable{X:Cx}{a b c:Expr}{ta tb tc:TE}{pos:Pos}
theorem Cs(l:PE X a ta)(m:PE X b tb){KQ:List (Addr×Obj)}{s:Hk}{σ:St}{H:Hp}{R:V->V->Hp->Prop}(I:Inv X KQ σ H s) (h:ta σ H fun x H1=>tb σ H1 fun y g=>R x y g) {Q:Hj->Hk->Prop} {f:Hj->Hj->Sem Hj} (n:∀v u k x y g,Inv X KQ σ g k->RelV x v->RelV y u->R x y g->Hu (HC X.prog X.w) X.A (f v u) Q X.xe k) : Hu (HC X.prog X.w) X.A (eval a X.env) (fun v i=>Hu (HC X.prog X.w) X.A (eval b X.env) (fun u j=>Hu (HC X.prog X.w) X.A (f v u) Q X.xe j) X.xe i) X.xe s:=by refine LA (l KQ s σ H _ I h) fun v o d=>?_;obtain⟨x,H1,p,q,r⟩:=d;refine LA (m KQ o σ H1 _ p r) fun u k e=>?_;obtain⟨y,g,t,z,B⟩:=e;exact n v u k x y g t q z B
theorem Eh{op:Operator}{r:R2}(d:Lh X (Jt op) r)(e:PE X a ta)(f:PE X b tb):PE X (.BinOp a op b pos) (QO r ta tb):=by intro KQ s σ H Q I h;exact wpAny_BinOp (Cs e f I h fun v u g x y i j k l q=>d KQ g σ i x y v u Q j k l q)
theorem Fi{op:UnaryOp}{r:V->Hp->VK->Prop}(e:Va X (unaryOp op) r)(f:PE X a ta):PE X (.UnaryOp op a pos) (Yn r ta):=by intro KQ s σ H Q I h;exact UnaryOp_ (LA (f KQ s σ H _ I h) fun v g d=>by obtain⟨x,H1,i,j,k⟩:=d;exact(e KQ g σ H1 x v Q i j k))
theorem Vu{f:Hj->Hj->Sem Hj}{C:Int->Int->Prop}{g:Int->Int->Int} (d:∀(i j:Int) (t u:Tok) (s:Hk) (Q:Hj->Hk->Prop) (E:Hj->Hk->Prop),C i j->Q (.int (g i j) s.toks) { s with toks:=s.toks+1 }->Hu (HC X.prog X.w) X.A (f (.int i t) (.int j u)) Q E s) : Lh X f (rI C fun i j=>.int (g i j)):=by intro KQ s σ H x y v u Q I e k h;obtain⟨i,j,rfl,rfl,l,q⟩:=h;obtain⟨t,rfl⟩:=e;obtain⟨m,rfl⟩:=k;exact d i j t m s _ _ l ⟨.int (g i j),H,I.tok _,⟨_,rfl⟩,q⟩
theorem CP{f:Hj->Hj->Sem Hj}{g:Int->Int->Int} (d:∀(i j:Int) (t u:Tok) (s:Hk) (Q:Hj->Hk->Prop) (E:Hj->Hk->Prop),Q (.int (g i j) s.toks) { s with toks:=s.toks+1 }->Hu (HC X.prog X.w) X.A (f (.int i t) (.int j u)) Q E s) : Lh X f (PK fun i j=>.int (g i j)):=by intro KQ s σ H x y v u Q I e k h;obtain⟨i,j,rfl,rfl,q⟩:=h;obtain⟨t,rfl⟩:=e;obtain⟨l,rfl⟩:=k;exact d i j t l s _ _ ⟨.int (g i j),H,I.tok _,⟨_,rfl⟩,q⟩
theorem Cy{f:Hj->Hj->Sem Hj}{g:Int->Int->Bool} (d:∀(i j:Int) (t u:Tok) (s:Hk) (Q:Hj->Hk->Prop) (E:Hj->Hk->Prop),Q (.bool (g i j)) s->Hu (HC X.prog X.w) X.A (f (.int i t) (.int j u)) Q E s) : Lh X f (PK fun i j=>.bl (g i j)):=by intro KQ s σ H x y v u Q I e k h;obtain⟨i,j,rfl,rfl,q⟩:=h;obtain⟨t,rfl⟩:=e;obtain⟨l,rfl⟩:=k;exact d i j t l s _ _ ⟨.bl (g i j),H,I,rfl,q⟩
def Fs(i j:Int):Prop:=0<=j/\j<=1000000/\i.natAbs<2^64
theorem Cu:Lh X (Jt .Add) (PK fun i j=>.int (i+j)):=CP fun _ _ _ _ _ _ _ q=>add_int q
theorem BR:Lh X (Jt .Sub) (PK fun i j=>.int (i-j)):=CP fun _ _ _ _ _ _ _ q=>sub_int q
theorem yJ:Lh X (Jt .Mod) (rI (fun _ j=>j≠0) fun i j=>.int (i.fmod j)):=Vu fun _ _ _ _ _ _ _ d q=>mod_int' d q
theorem DZ:Lh X (Jt .Pow) (rI Fs fun i j=>.int (i^j.toNat)):=Vu fun _ _ _ _ _ _ _ d q=>pow_int_small d.1 d.2.1 d.2.2 q
theorem Ck:Lh X (Jt .BitXor) (PK fun i j=>.int (Builtin.bitXor i j)):=CP fun _ _ _ _ _ _ _ q=>xor_int q
theorem Yb{f:Hj->Sem Hj}{g:Int->Int} (d:∀(i:Int) (t:Tok) (s:Hk) (Q:Hj->Hk->Prop) (E:Hj->Hk->Prop),Q (.int (g i) s.toks) { s with toks:=s.toks+1 }->Hu (HC X.prog X.w) X.A (f (.int i t)) Q E s) : Va X f (rU fun i=>.int (g i)):=by intro KQ s σ H x v Q I e h;obtain⟨i,rfl,q⟩:=h;obtain⟨t,rfl⟩:=e;exact d i t s _ _ ⟨.int (g i),H,I.tok _,⟨_,rfl⟩,q⟩
theorem B3:Va X (unaryOp .USub) (rU fun i=>.int (-i)):=Yb fun _ _ _ _ _ q=>neg_int q
end
section
variable{X:Cx}{a b c:Expr}{ta tb tc:TE}{pos:Pos}
theorem D5:Lh X (Iq .Lt) (PK fun i j=>.bl (decide (i<j))):=Cy fun _ _ _ _ _ _ _ q=>lt_int q
theorem Fe:Lh X (Iq .LtE) (PK fun i j=>.bl (decide (i<=j))):=Cy fun _ _ _ _ _ _ _ q=>le_int q
theorem FO:Lh X (Iq .Gt) (PK fun i j=>.bl (decide (j<i))):=Cy fun _ _ _ _ _ _ _ q=>gt_int q
theorem Lh.or{f:Hj->Hj->Sem Hj}{r d:R2}(h:Lh X f r)(h':Lh X f d):Lh X f (fun x y H Q=>r x y H Q\/d x y H Q):=by
 intro KQ s σ H x y v u Q I e g q;rcases q with q|q
 ·exact h KQ s σ H x y v u Q I e g q
 ·exact h' KQ s σ H x y v u Q I e g q
theorem xx(b:Expr){op:CmpOp}(h:op≠.In:=by decide)(d:op≠.NotIn:=by decide):K5 op b=KG:=by
 have e1:(op==CmpOp.In)=KG:=by cases op<;>first|rfl|exact absurd rfl h
 have e2:(op==CmpOp.NotIn)=KG:=by cases op<;>first|rfl|exact absurd rfl d
 cases b<;>simp[K5,e1,e2]
theorem yW{op:CmpOp}{r:R2}(d:Lh X (Iq op) r)(e:PE X a ta)(f:PE X b tb)(g:K5 op b=KG):PE X (.Compare a [op] [b] pos) (QO r ta tb):=by intro KQ s σ H Q I h;exact wpAny_Compare1 (Cs e f I h fun v u i x y j k l m q=>d KQ i σ j x y v u Q k l m q) g
def wL(t:TE):TT:=fun σ H Q=>t σ H fun x d=>∃k,x=.bl k/\Q k d
theorem yN{op:CmpOp}{r:R2}(d:Lh X (Iq op) r)(f:PE X a ta)(g:PE X b tb)(i:K5 op b=KG):PT X (.Compare a [op] [b] pos) (wL (QO r ta tb)):=by intro KQ s σ H Q I h;refine wpAny_isTrue_Compare1 (LA (f KQ s σ H _ I h) fun v j ⟨x,H1,l,m,n⟩=>LA (g KQ j σ H1 _ l n) fun u o ⟨y,p,q,t,w⟩=>LA (d KQ o σ p x y v u _ q m t w) fun c E ⟨z,A,B,C,k,e,D⟩=>?_) i;subst e;cases C;exact J9 ⟨A,B,D⟩
def yi(r e:R2)(ta tb tc:TE):TE:=fun σ H Q=>ta σ H fun x H1=>tb σ H1 fun y f=>r x y f fun z d=>∃k,z=.bl k/\
 (if k=KD then tc σ d fun g h=>e y g h Q else Q (.bl KG) d)
theorem vJ{op g:CmpOp}{r j:R2}(p:Lh X (Iq op) r)(i:Lh X (Iq g) j)(q:PE X a ta)(t:PE X b tb)(w:PE X c tc) (A:lastMarks [op,g] [b,c]=KG:=by with_unfolding_all rfl):PT X (.Compare a [op,g] [b,c] pos) (wL (yi r j ta tb tc)):=by
 intro KQ s σ H Q I h;refine isTrue_chain (LA (q KQ s σ H _ I h) fun v B ⟨x,H1,C,D,E⟩=>test_link (LA (t KQ B σ H1 _ C E) fun u F ⟨y,G,J,l,K⟩=>LA (p KQ F σ G x y v u _ J D l K) fun d L ⟨z,m,n,M,k,e,o⟩=>?_)) A;subst e;cases M;refine J9 ?_;cases k with
 |false=>
  obtain⟨k',N,O⟩:=o
  cases N
  exact ite_ff ⟨m,n,O⟩
 |true=>
  refine ite_tt (test_last (LA (w KQ L σ m _ n o) fun P R ⟨S,T,U,V,W⟩=>LA (i KQ R σ T y S u P _ U l V W) fun d' s5 f=>?_))
  obtain⟨z2,Y,Z,r5,k2,e2,q5⟩:=f
  subst e2
  cases r5
  exact J9 ⟨Y,Z,q5⟩
def Eg(K:H0)(x:V)(H:Hp)(k:Bool):Prop:=
 match x with
 |.non=>k=KG
 |.bl b=>k=b
 |.int i=>k=(i != 0)
 |.str y=>y.length<=Hy/\k=((y.length:Int) != 0)
 |.byt y=>y.size<=Hy/\k=((y.size:Int) != 0)
 |.ref p=>(∃xs,LR K H p xs/\k=!xs.isEmpty)\/(∃xs,LU K H p xs/\k=!xs.isEmpty)\/∃kvs,H p=KA (.dK kvs)/\k=!kvs.isEmpty
 |_=>False
theorem p8{d:Type}{kvs:List (d×V)}{vs:List (d×Hj)}(r:KV kvs vs):(!vs.isEmpty)=!kvs.isEmpty:=by cases r<;>rfl
theorem j3{xs:List V}{d:List Hj}(r:Vals xs d):(!d.toArray.isEmpty)=!xs.isEmpty:=by cases r<;>simp
theorem iJ:(Hy:Nat)<2^63:=by rw[sizeLine_eq];decide
theorem Di:Gf X (fun x H Q=>∃k,Eg X.K x H k/\Q k H):=by
 intro KQ s σ H x v Q I g h;obtain⟨k,e,q⟩:=h;have A:=iJ;have B:Hy=16777216:=sizeLine_eq;cases x with
 |non=>
  cases g
  have d:k=KG:=e
  subst d
  exact truthy_none ⟨H,I,q⟩
 |bl b=>
  cases g
  have d:k=b:=e
  subst d
  exact J9 ⟨H,I,q⟩
 |int i=>
  obtain⟨t,rfl⟩:=g
  have d:k=(i != 0):=e
  subst d
  exact PySem.P.truthy_int ⟨H,I,q⟩
 |str y=>
  obtain⟨t,rfl⟩:=g
  obtain⟨u,d⟩:y.length<=Hy/\k=((y.length:Int) != 0):=e
  subst d
  exact PySem.P.truthy_str () ⟨H,I.tok _,q⟩
 |byt y=>
  obtain⟨t,rfl⟩:=g
  obtain⟨u,d⟩:y.size<=Hy/\k=((y.size:Int) != 0):=e
  subst d
  exact PySem.W.truthy_bytes () ⟨H,I.tok _,q⟩
 |ref p=>
  cases g
  have d:(∃xs,LR X.K H p xs/\k=!xs.isEmpty)\/(∃xs,LU X.K H p xs/\k=!xs.isEmpty)\/∃kvs,H p=KA (.dK kvs)/\k=!kvs.isEmpty:=e
  rcases d with⟨xs,j,d⟩|⟨xs,j,d⟩|⟨kvs,j,d⟩
  ·subst d;obtain⟨l,r,n,o⟩:=I.list j;have f:=r.length;exact wpAny_truthy_list n.isList (by simp only[HI];omega) ⟨H,I.tok _,by rw[j3 r];exact q⟩
  ·subst d;obtain⟨l,r,n,o⟩:=I.tuple j;have f:=r.length;exact truthy_tuple n (by simp only[HI];omega) ⟨H,I.tok _,by rw[j3 r];exact q⟩
  ·subst d;obtain⟨o,z,vs,r,m⟩:kvs.length<=Hy/\(p==Jj)=KG/\∃vs,KV kvs vs/\s.heap.DictOf (bI X.prog X.w) p vs:=I.hok p _ j;have f:kvs.length=vs.length:=Paired.length r;exact wpAny_truthy_dict z m () ⟨H,I.tok _,by rw[p8 r];exact q⟩
 |_=>exact(show False from e).elim
theorem vC(g:PE X a ta)(i:∀d,isTrue a X.env d=(do let v <-d;standAt a.pos;holding [v] (truthy v))) :
 PT X a (fun σ H Q=>ta σ H fun x f=>∃k,Eg X.K x f k/\Q k f):=by
 intro KQ s σ H Q I h
 exact isTrue_plain (LA (g KQ s σ H _ I h) fun v j e=>by obtain⟨x,H1,l,m,n⟩:=e;exact(Di KQ j σ H1 x v Q l m n)) (i _)
theorem vals1{x:V}{us:List Hj}(r:Vals [x] us):∃u,us=[u]/\RelV x u:=by
 cases r with
 |cons d e=>cases e;exact⟨_,rfl,d⟩
theorem vals2{x y:V}{us:List Hj}(r:Vals [x,y] us):∃u d,us=[u,d]/\RelV x u/\RelV y d:=by
 cases r with
 |cons e f=>
  cases f with
  |cons g h=>cases h;exact⟨_,_,rfl,e,g⟩
theorem vI:bY X (.builtin "abs") (fun xs H Q=>∃i,xs=[.int i]/\Q (.int (if i<0 then -i else i)) H):=by intro KQ s σ H xs us Q I r h;obtain⟨i,rfl,q⟩:=h;obtain⟨u,rfl,t,rfl⟩:=vals1 r;exact call_abs_int fun u d=>⟨.int (if i<0 then -i else i),H,I.tok _,⟨_,rfl⟩,q⟩
theorem tY(e:X.calm=KD):bY X (.builtin "max") (fun xs H Q=>∃i j,xs=[.int i,.int j]/\Q (.int (if j>i then j else i)) H):=by
 intro KQ s σ H xs us Q I r h;obtain⟨i,j,rfl,q⟩:=h;obtain⟨u,f,rfl,⟨t,rfl⟩,⟨g,rfl⟩⟩:=vals2 r;refine max_two_ints (I.ok.hd e) fun l m k=>⟨_,H,I.kept k,?_,q⟩;by_cases d:j>i
 ·rw[KI d,KI d];exact⟨_,rfl⟩
 ·rw[KH d,KH d];exact⟨_,rfl⟩
theorem uI(e:X.calm=KD):bY X (.builtin "min") (fun xs H Q=>∃i j,xs=[.int i,.int j]/\Q (.int (if j<i then j else i)) H):=by
 intro KQ s σ H xs us Q I r h;obtain⟨i,j,rfl,q⟩:=h;obtain⟨u,f,rfl,⟨t,rfl⟩,⟨g,rfl⟩⟩:=vals2 r;refine min_two_ints (I.ok.hd e) fun l m k=>⟨_,H,I.kept k,?_,q⟩;by_cases d:j<i
 ·rw[KI d,KI d];exact⟨_,rfl⟩
 ·rw[KH d,KH d];exact⟨_,rfl⟩
theorem mO:bY X (.type "int") (fun xs H Q=>(∃i,xs=[.int i]/\Q (.int i) H)\/∃k,xs=[.bl k]/\Q (.int (if k then 1 else 0)) H):=by
 intro KQ s σ H xs us Q I r h;rcases h with⟨i,rfl,q⟩|⟨k,rfl,q⟩
 ·obtain⟨u,rfl,t,rfl⟩:=vals1 r;exact call_int_int ⟨.int i,H,I,⟨_,rfl⟩,q⟩
 ·obtain⟨u,rfl,d⟩:=vals1 r;cases d;exact call_int_bool ⟨.int (if k then 1 else 0),H,I.tok _,⟨_,rfl⟩,q⟩
end
theorem mH{h:Heap}{c:Addr}{d:Str->Option Hj}(n:h.Ns1 c d):∃od,h.get? c=KA od/\∀name,PySem.W.lookIn name od=KA (d name):=by
 obtain⟨o,f,m,g,hd,i,_,j⟩:=n;refine⟨o,g,fun name=>?_⟩;have e:=j name;unfold nsFind findBy at e;rw[<-Array.find?_toList]at e;unfold PySem.W.lookIn;rw[hd];dsimp only;split
 ·rename_i y q;rw[q]at e;exact congrArg KA e
 ·rename_i q;rw[q]at e;have a:f.toList.any (·.refKey)=KG:=by rw[List.any_eq_false];intro y k;obtain⟨z,t,b⟩:=i y (Array.mem_toList_iff.mp k);simp[DictEntry.refKey,b]
  have l:¬f.toList.any (·.refKey)=KD:=by rw[a];exact HJ
  rw[KH l];exact congrArg KA e
def jT(f:Str)(v:V):List (Str×V)->List (Str×V)
 |[]=>[(f,v)]
 |(g,x)::r=>if g=f then(g,v)::r else(g,x)::jT f v r
theorem jm(f g:Str)(v:V):∀fs:List (Str×V),(jT f v fs).lookup g=if g=f then KA v else fs.lookup g
 |[]=>by
  show JN g [(f,v)]=_
  by_cases h:g=f
  ·have a:(g==f)=KD:=beq_iff_eq.mpr h
   simp only[JN,a,KI h]
  ·have a:(g==f)=KG:=beq_eq_false_iff_ne.mpr h
   simp only[JN,a,KH h]
 |(k,x)::r=>by
  have c:=jm f g v r
  rw[show jT f v ((k,x)::r)=(if k=f then(k,v)::r else(k,x)::jT f v r)from rfl]
  by_cases b:k=f
  ·rw[KI b]
   by_cases h:g=k
   ·have a:(g==k)=KD:=beq_iff_eq.mpr h
    simp only[JN,a,KI (h.trans b)]
   ·have a:(g==k)=KG:=beq_eq_false_iff_ne.mpr h
    simp only[JN,a,KH (fun e:g=f=>h (e.trans b.symm))]
  ·rw[KH b]
   by_cases h:g=k
   ·have a:(g==k)=KD:=beq_iff_eq.mpr h
    simp only[JN,a,KH (fun e:g=f=>b (h.symm.trans e))]
   ·have a:(g==k)=KG:=beq_eq_false_iff_ne.mpr h
    simp only[JN,a]
    exact c
theorem iN(f:Str)(v:V):∀fs:List (Str×V),f∈(jT f v fs).map (·.1)/\∀g,g∈fs.map (·.1)->g∈(jT f v fs).map (·.1)
 |[]=>⟨by simp[jT],fun g h=>by simp at h⟩
 |(k,x)::r=>by
  obtain⟨b,c⟩:=iN f v r
  rw[show jT f v ((k,x)::r)=(if k=f then(k,v)::r else(k,x)::jT f v r)from rfl]
  by_cases a:k=f
  ·rw[KI a]
   subst a
   exact⟨by simp,fun g h=>by simpa using h⟩
  ·rw[KH a]
   refine⟨?_,fun g h=>?_⟩
   ·rw[Hs]
    exact Io _ b
   ·rw[Hs]at h ⊢
    rcases HW.mp h with e|e
    ·exact HW.mpr (.inl e)
    ·exact Io _ (c g e)
theorem jD.some_of{v:V}{o:Option Hj}(r:jD (KA v) o):∃u,o=KA u/\RelV v u:=by
 cases o with
 |none=>exact(show False from r).elim
 |some u=>exact⟨u,rfl,r⟩
theorem t6{v:V}{u:Hj}(r:RelV v u):PySem.W.handedIn u=KD:=by
 cases v with
 |non=>cases (show u=Jq from r);rfl
 |bl b=>cases (show u=Value.bool b from r);rfl
 |int i=>obtain⟨t,e⟩:=(show ∃t,u=Value.int i t from r);cases e;rfl
 |str x=>obtain⟨t,e⟩:=(show ∃t,u=Value.str x t from r);cases e;rfl
 |byt b=>obtain⟨t,e⟩:=(show ∃t,u=Value.bytes b t from r);cases e;rfl
 |flt b=>obtain⟨t,e⟩:=(show ∃t,u=Value.float b t from r);cases e;rfl
 |ref a=>cases (show u=Ii a from r);rfl
 |ty n=>cases (show u=K4 n from r);rfl
section
variable{X:Cx}{KQ:List (Addr×Obj)}{σ:St}{H:Hp}{s:Hk}{a C dx:Addr}{fs:List (Str×V)}{f:Str}{v:V}{A:Ij}{E:Hj->Hk->Prop}
theorem AA{prog:HF}{w:Ih}{env:Env}{e:Expr}{f:Str}{pos:Pos}{s:Hk}{Q:Hj->Hk->Prop}(c:Jz e f env (eval e env)=eval e env) (h:Hu (HC prog w) A (eval e env) (fun o b=>Hu (HC prog w) A (getAttr o f KD) Q E b) E s):Hu (HC prog w) A (eval (.Attribute e f pos) env) Q E s:=Attribute_any_ h (by rw[arm_eval_Attribute,c])
end
structure LH(k:Nat)(A:Ij):Prop where
 hd:A.handled=KC
 dp:A.depth+3*k+5<recursionLimit
 un:A.units+16*k+200<IZ
 gd:A.guards=KA []
theorem LH.mono{j k:Nat}{A:Ij}(r:LH k A)(h:j<=k):LH j A:=⟨r.hd,by have:=r.dp;omega,by have:=r.un;omega,r.gd⟩
theorem LH.deeper{k:Nat}{A:Ij}(r:LH (k+1) A)(env:Env):LH k (A.deeper env):=⟨r.hd,by have:=r.dp;show A.depth+1+3*k+5<_;omega,by have:=r.un;show A.units+3+16*k+200<_;omega,r.gd⟩
theorem qG{A:Ij}{C:Addr}{us:List Hj}{kw:List (Str×Hj)}:(A.under (.builtin "type.__call__" ⟨.ref C::us,kw⟩)).depth=A.depth+1:=by first|rfl|simp[Around.under,Code.weight,Code.isCreation,Code.isGuard,Code.isCaller,Code.frames,Code.isFrame,guardIds]
theorem rp{A:Ij}{C:Addr}{us:List Hj}{kw:List (Str×Hj)}:(A.under (.builtin "type.__call__" ⟨.ref C::us,kw⟩)).units=A.units+1:=by first|rfl|simp[Around.under,Code.cUnits,Code.frames,Code.isFrame]
theorem LH.make{k:Nat}{A:Ij}(r:LH (k+1) A)(C:Addr)(us:List Hj)(kw:List (Str×Hj)):LH k (A.under (.builtin "type.__call__" ⟨.ref C::us,kw⟩)):=⟨r.hd,by have:=r.dp;rw[qG];omega,by have:=r.un;rw[rp];omega,by first|exact r.gd|(have:=r.gd;simpa[Around.under,Code.isGuard,guardIds]using this)⟩
theorem LH.depth{k:Nat}{A:Ij}(r:LH k A):A.depth<recursionLimit:=by have:=r.dp;omega
theorem LH.units{k:Nat}{A:Ij}(r:LH k A):A.units+64<IZ:=by have:=r.un;omega
def Ca:TA:=fun _ H Q=>Q [] H
def sS(a:TE)(b:TA):TA:=fun σ H Q=>a σ H fun x H1=>b σ H1 fun xs c=>Q (x::xs) c
section
variable{X:Cx}{e:Expr}{es:List Expr}{te:TE}{t:TA}{pos:Pos}
theorem rq:PA X [] Ca:=fun _ _ _ _ H Q I h=>Calls.spliced_nil ⟨[],H,I,.nil,h⟩
theorem jL(c:PE X e te)(d:PA X es t)(f:Hv (e::es) X.env=(KG,eval e X.env)::Hv es X.env:=by rfl):PA X (e::es) (sS te t):=by intro pos KQ s σ H Q I h;rw[f];show Hu _ _ (spliced ((KG,eval e X.env)::IY pos (Hv es X.env))) _ _ s;refine Calls.spliced_cons (LA (c KQ s σ H _ I h) fun u g a=>?_);obtain⟨x,H1,i,j,k⟩:=a;exact LA (d pos KQ g σ H1 _ i k) fun us p b=>by obtain⟨xs,l,m,n,o⟩:=b;exact(⟨x::xs,l,m,.cons j n,o⟩)
def Hf(t:TA):TE:=fun σ H Q=>t σ H fun xs H1=>xs.length<=Hy/\∀p,H1 p=KC->Q (.ref p) (upd H1 p (.tup xs))
def Gz(t:TA):TE:=fun σ H Q=>t σ H fun xs H1=>xs.length<=Hy/\∀p,H1 p=KC->Q (.ref p) (upd H1 p (.lst xs))
theorem Cf{x1}(h:PA X es t):PE X (.Tuple es x1 pos) (Hf t):=by intro KQ s σ H Q I d;refine wpAny_Tuple_spliced (LA (h pos KQ s σ H _ I d) fun us a ⟨xs,H1,c,r,z,q⟩=>⟨by rw[<-r.length];exact z,?_⟩);have f:H1 a.heap.objs.size=KC:=c.hok.fresh (Hq _);refine⟨.ref a.heap.objs.size,upd H1 a.heap.objs.size (.tup xs),c.laid (t':=a.toks) (fun b u e=>Ho _ e) (Hq _) ?_,rfl,q _ f⟩;exact⟨z,us,r,⟨_,HG _ rfl,rfl,_,rfl⟩,⟨_,HG _ rfl,rfl⟩⟩
theorem CJ(h:PA X es t):PE X (.List es pos) (Gz t):=by intro KQ s σ H Q I d;refine wpAny_List_spliced (LA (h pos KQ s σ H _ I d) fun us a ⟨xs,H1,c,r,z,q⟩=>⟨by rw[<-r.length];exact z,?_⟩);have f:H1 a.heap.objs.size=KC:=c.hok.fresh (Hq _);refine⟨.ref a.heap.objs.size,upd H1 a.heap.objs.size (.lst xs),c.laid (t':=a.toks) (fun b u e=>Ho _ e) (Hq _) ?_,rfl,q _ f⟩;exact⟨z,us,0,r,HG _ rfl⟩
end
abbrev Sp:=List V->Hp->VK->XK->Prop
abbrev N8:=List Env->Hp->Hk->XK->Hj->Hk->Prop
structure N3(P:HF)(w:Ih)(K:H0)(mg:Str->Option Hj)(base:Heap)(A:Ij)(outer:List Env)(s:Hk)(H:Hp):Prop where
 frames:A.frames=KA outer
 mod:Mod K mg base
 bs:∀b o,base.get? b=KA o->s.heap.get? b=KA o/\H b=KC
 bsz:base.objs.size<=s.heap.objs.size
 gR:s.heap.FunFrames base outer
 frf:∀b∈Lj outer,H b=KC
 hok:Ll P w H s.heap
 bare:AllBare s.gens
def CE(outer:List Env)(P:HF)(w:Ih)(H:Hp)(s:Hk)(Q:VK)(u:Hj)(a:Hk):Prop:=
 ∃v b,a.os=s.os/\AllBare a.gens/\Un (Lj outer) [] H b s.heap a.heap/\Ll P w b a.heap/\RelV v u/\Q v b
def CR(CX:N8)(outer:List Env)(P:HF)(w:Ih)(H:Hp)(s:Hk)(Q:VK)(E:XK)(r:Result)(a:Hk):Prop:=
 match r with
 |.ok (.ret u)=>CE outer P w H s Q u a
 |.ok _=>False
 |.error e=>CX outer H s E e a
structure L5(P:HF)(w:Ih)(K:H0)(mg:Str->Option Hj)(base:Heap)(CX:N8)(k:Nat)(f:Addr)(fd:JT)(ps:List Str)(sp:Sp):Prop where
 len:∀vs H Q E,sp vs H Q E->vs.length=ps.length
 run:∀(A:Ij) (outer:List Env) (s:Hk) (H:Hp) (args:Args) (us:List Hj) (vs:List V) (Q:VK) (E:XK),LH k A->N3 P w K mg base A outer s H->BindsTo s fd args (ps.zip us)->Vals vs us->sp vs H Q E->
  Jo (HC P w) A (.call (.ref f) args) (CR CX outer P w H s Q E) s
theorem L5.mono{P:HF}{w:Ih}{K:H0}{mg:Str->Option Hj}{base:Heap}{CX:N8}{j k:Nat}{f:Addr}{fd:JT}{ps:List Str}{sp:Sp}(F:L5 P w K mg base CX j f fd ps sp)(h:j<=k) : L5 P w K mg base CX k f fd ps sp:=⟨F.len,fun A outer s H args us vs Q E a=>F.run A outer s H args us vs Q E (a.mono h)⟩
theorem N3.make{P:HF}{w:Ih}{K:H0}{mg:Str->Option Hj}{base:Heap}{A:Ij}{outer:List Env}{s:Hk}{H:Hp}(e:N3 P w K mg base A outer s H)(C:Addr)(us:List Hj)(kw:List (Str×Hj)) : N3 P w K mg base (A.under (.builtin "type.__call__" ⟨.ref C::us,kw⟩)) outer s H:=⟨by first|exact e.frames|(simpa[Around.under,Code.envs,Code.isFrame,pushEnvs]using e.frames),e.mod,e.bs,e.bsz,e.gR,e.frf,e.hok,e.bare⟩
section
variable{X:Cx}{KQ:List (Addr×Obj)}{σ:St}{H:Hp}{s s':Hk}
theorem Inv.CQ(I:Inv X KQ σ H s):N3 X.prog X.w X.K X.mg X.base X.A X.stack s H:=⟨I.ok.frames,I.ok.mod,I.bs,IA I.ok.bsz I.sz,I.stack,I.gg,I.hok,I.bare⟩
theorem Inv.after{Q:VK}{u:Hj}(I:Inv X KQ σ H s)(h:CE X.stack X.prog X.w H s Q u s'):EP X KQ σ Q u s':=by obtain⟨v,c,os,bare,un,hok,r,q⟩:=h;obtain⟨e,g,d,t,a⟩:=s';obtain rfl:a=s.os:=os;exact⟨v,c,I.call (h':=e) (g':=g) (d':=d) (t':=t) (ch:=[]) un hok bare (fun b z=>absurd z (by simp)),r,q⟩
end
def Fb(sp:Sp)(a:List V)(E:XK)(t:TA):TE:=fun σ H Q=>t σ H fun vs H1=>sp (vs++a) H1 Q E
def Binds(K:H0)(fd:JT)(ps:List Str)(a:List Hj):Prop:=
 ∀(s:Hk) (us:List Hj),K.In s.heap->(us++a).length=ps.length->BindsTo s fd ⟨us,[]⟩ (ps.zip (us++a))
theorem Binds.all{K:H0}{fd:JT}{ps:List Str}(h:∀us:List Hj,us.length=ps.length->bindArgs fd ⟨us,[]⟩=pure (ps.zip us)):Binds K fd ps []:=fun s us _ a=>by rw[IX]at a ⊢;exact .of_eq (h us a)
def Passes(CX:N8)(X:Cx)(E:XK):Prop:=∀(KQ:List (Addr×Obj)) (σ:St) (H:Hp) (s:Hk) (e:Hj) (a:Hk),Inv X KQ σ H s->CX X.stack H s E e a->X.xe e a
section
variable{X:Cx}{CX:N8}{k:Nat}{f C:Addr}{fd:JT}{ps:List Str}{sp:Sp}{KS:List V}{ds:List Hj}{E:XK}{x m:Str}{p pos apos:Pos}{e o:Expr}{es:List Expr}{ta:TE}{t:TA}
theorem B9{KQ:List (Addr×Obj)}{σ:St}{H:Hp}{s:Hk}{Q:VK}{us:List Hj}{vs:List V}(F:L5 X.prog X.w X.K X.mg X.base CX k f fd ps sp)(c:LH k X.A)(d:Binds X.K fd ps ds)(hd:Vals KS ds)(g:Passes CX X E)
 (I:Inv X KQ σ H s) (r:Vals vs us) (h:sp (vs++KS) H Q E):Hu (HC X.prog X.w) X.A (call (.ref f) us) (EP X KQ σ Q) X.xe s:=by
 have b:Vals (vs++KS) (us++ds):=r.append hd
 have i:(us++ds).length=ps.length:=by rw[<-b.length];exact F.len _ _ _ _ h
 refine wpAny_call (codeAny_mono (F.run X.A X.stack s H ⟨us,[]⟩ (us++ds) (vs++KS) Q E c I.CQ (d s us I.kIn i) b h) fun r j a=>?_)
 cases r with
 |error e=>exact g KQ σ H s e j I a
 |ok l=>
  cases l with
  |ret u=>exact I.after a
  |next=>exact HS a
  |brk=>exact HS a
  |cont=>exact HS a
theorem zf(F:L5 X.prog X.w X.K X.mg X.base CX k f fd ps sp)(d:LH k X.A)(g:Gl X x)(i:X.mg x=KA (.ref f))(j:JD X.K (.ref f)=KD)(l:Binds X.K fd ps ds)(hd:Vals KS ds)(n:Passes CX X E) (u:PA X (e::es) t) (a:(x==("__debug__":Str))=KG:=by decide) (v:Hv (e::es) X.env=(KG,eval e X.env)::Hv es X.env:=by rfl) (b:(IY pos (Hv es X.env)).any (·.1)=KG:=by rfl) : PE X (.Call (.Name x p) (e::es) [] pos) (Fb sp KS E t):=by intro KQ s σ H Q I h;refine JU (gb I g i ?_ a);refine PySem.W.callWith_K (h₀:=X.base) I.ok.mod.kin j (LA (u pos KQ s σ H _ I h) fun us y ⟨vs,H1,c,r,q⟩=>⟨c.kIn,?_⟩) v b;exact B9 F d l hd n c r q
end
structure Kv(N P:List Str)(sc:JC):Prop where
 kind:sc.kind=.function
 co:sc.isCoroutine=KG
 gen:sc.isGenerator=KG
 nd:N.Nodup
 pre:N.take P.length=P
 par:∀x∈P,sc.names.lookup x=KA .local\/sc.names.lookup x=KA .cell
 nofree:∀y∈sc.names,y.2≠.free
theorem mB{kindOf:Str->Option JL}{x:Str}:∀{binds:List (Str×Hj)} {m:Str->Option Hj},(∀v,(x,v)∉binds)->bindL kindOf binds m x=m x
 |[],_,_=>rfl
 |(n,v)::r,m,h=>by
  unfold bindL
  rw[mB fun w a=>h w (Io _ a)]
  split
  ·have:x≠n:=by rintro rfl;exact h v J0
   simp[this]
  ·rfl
theorem md{kindOf:Str->Option JL}{x:Str}:∀{binds:List (Str×Hj)} {m:Str->Option Hj},(∀v,(x,v)∉binds)->bindC kindOf binds m x=m x
 |[],_,_=>rfl
 |(n,v)::r,m,h=>by
  unfold bindC
  rw[md fun w a=>h w (Io _ a)]
  split
  ·rfl
  ·have:x≠n:=by rintro rfl;exact h v J0
   simp[this]
theorem mz{kindOf:Str->Option JL}{x:Str}{v:Hj}:∀{P:List Str} {vs:List Hj} {i:Nat} {m:Str->Option Hj},P.Nodup->P[i]?=KA x->vs[i]?=KA v->kindOf x=KA .local->
 bindL kindOf (P.zip vs) m x=KA v
 |[],_,_,_,_,h,_,_=>by simp at h
 |_::_,[],_,_,_,_,h,_=>by simp at h
 |p::P,w::vs,0,m,nd,h1,h2,hk=>by
  simp at h1 h2;subst h1;subst h2
  show bindL kindOf ((p,w)::P.zip vs) m p=_
  unfold bindL
  rw[mB fun v a=>(JY.mp nd).1 (List.of_mem_zip a).1,KI hk]
  simp
 |p::P,w::vs,i+1,m,nd,h1,h2,hk=>by
  show bindL kindOf ((p,w)::P.zip vs) m x=_
  unfold bindL
  exact mz (i:=i) (JY.mp nd).2 (by simpa using h1) (by simpa using h2) hk
theorem mK{kindOf:Str->Option JL}{x:Str}{v:Hj}:∀{P:List Str} {vs:List Hj} {i:Nat} {m:Str->Option Hj},P.Nodup->P[i]?=KA x->vs[i]?=KA v->kindOf x≠KA .local->
 bindC kindOf (P.zip vs) m x=KA v
 |[],_,_,_,_,h,_,_=>by simp at h
 |_::_,[],_,_,_,_,h,_=>by simp at h
 |p::P,w::vs,0,m,nd,h1,h2,hk=>by
  simp at h1 h2;subst h1;subst h2
  show bindC kindOf ((p,w)::P.zip vs) m p=_
  unfold bindC
  rw[md fun v a=>(JY.mp nd).1 (List.of_mem_zip a).1,KH hk]
  simp
 |p::P,w::vs,i+1,m,nd,h1,h2,hk=>by
  show bindC kindOf ((p,w)::P.zip vs) m x=_
  unfold bindC
  exact mK (i:=i) (JY.mp nd).2 (by simpa using h1) (by simpa using h2) hk
def start(N:List Str)(vs:List V):St:=vs.map KA++HY (N.length-vs.length) KC
def bg(CX:N8)(P:HF)(w:Ih)(K:H0)(mg:Str->Option Hj)(base:Heap)(N:List Str)(qual:Str)(scope:JC)(f:Addr)(b:Hj)(A:Ij)(outer:List Env)(s:Hk)(H:Hp)(E:XK):Cx where
 prog:=P
 w:=w
 K:=K
 mg:=mg
 base:=base
 A:=A.deeper (envOfC qual scope s.heap.objs.size f b)
 N:=N
 s₀:=s
 H₀:=H
 env:=envOfC qual scope s.heap.objs.size f b
 outer:=outer
 stack:=envOfC qual scope s.heap.objs.size f b::outer
 ex:=[]
 calm:=KD
 fn:=fun _=>KD
 pn:=[]
 xe:=fun e c=>Hu (HC P w) (A.deeper (envOfC qual scope s.heap.objs.size f b)) (leaving (envOfC qual scope s.heap.objs.size f b) e) (fun _ a=>CX outer H s E e a) (fun d a=>CX outer H s E d a) c
theorem kD{sc:JC}{n:Nat}{x:Str}(h:sc.names.lookup x=KA .cell):∃c,(Jm n sc.names []).lookup x=KA c:=by have q:=PySem.W.cellsFrom_some sc.names n [] (.inl h);exact Option.isSome_iff_exists.mp q
theorem t7{CX:N8}{P:HF}{w:Ih}{K:H0}{mg:Str->Option Hj}{base:Heap}{N ps:List Str}{qual:Str}{scope:JC}{f:Addr}{t:Hj}{A:Ij}{outer:List Env}{s C:Hk}{H:Hp}{E:XK}{us:List Hj}{vs:List V}
 (S:Kv N ps scope) (hd:A.handled=KC) (g:N3 P w K mg base A outer s H) (L:vs.length=ps.length) (r:Vals vs us)
 (x:InCallC s s.heap.objs.size (bindL (envOfC qual scope s.heap.objs.size f t).kindOf (ps.zip us) fun _=>KC) (Jm (s.heap.objs.size+1) scope.names []) (bindC (envOfC qual scope s.heap.objs.size f t).kindOf (ps.zip us) fun _=>KC) C) :
 Inv (bg CX P w K mg base N qual scope f t A outer s H E) [] (start N vs) H C:=by
 have G:ps.length<=N.length:=by have:=congrArg List.length S.pre;rw[Ju]at this;omega
 obtain⟨h1,M,rfl,D⟩:=x.done
 have j:∀b:Addr,b∉(bg CX P w K mg base N qual scope f t A outer s H E).ex:=fun b z=>absurd (show b∈([]:List Addr)from z) (by simp)
 refine⟨⟨g.mod,S.kind,rfl,rfl,Hq _,fun y z c h1 d=>?_,fun y l=>?_,fun y c _ h=>?_,fun _=>hd,Around.frames_deeper g.frames,.inr ⟨rfl,rfl⟩,fun b z=>absurd z (j b),g.bs,g.bsz,fun b _ _=>j b,fun b z=>absurd z (j b),g.gR,g.frf⟩,
  rfl,g.bare,Un.kept D,⟨_,x.toInCall.ns,fun i y v h1 d O=>?_⟩,fun y c h=>⟨_,x.cell y c h⟩,g.hok.fresh (Hq _),fun y c h=>?_,fun p m=>absurd (show p∈([]:List (Addr×Obj))from m) (by simp),g.hok.kept D,?_⟩
 ·exact name_of_addr x.apart (Iy h1) (Iy d)
 ·have l:scope.names.lookup y=KA .cell\/scope.names.lookup y=KA .free:=l
  rcases l with l|l
  ·exact kD l
  ·exact absurd rfl (S.nofree _ (Iy l))
 ·exact Nat.le_of_lt (x.above y c (Iy h))
 ·have B:i<vs.length:=by
   unfold start at d
   by_cases B:i<vs.length
   ·exact B
   ·rw[IG (by simpa using B)]at d
    rw[List.getElem?_replicate]at d
    split at d<;>cases d
  have I:vs[i]?=KA v:=by
   unfold start at d
   rw[IB (by simpa using B),Ht]at d
   cases e:vs[i]? with
   |none=>rw[e]at d;cases d
   |some a=>rw[e]at d;cases d;rfl
  obtain⟨u,F,J⟩:=r.get I
  have m:ps[i]?=KA y:=by
   rw[<-S.pre,List.getElem?_take_of_lt ()];exact h1
  have o:ps.Nodup:=by rw[<-S.pre];exact S.nd.sublist (List.take_sublist _ _)
  refine⟨u,J,?_⟩
  rcases S.par y (HE m)with k|k
  ·exact .inl ⟨k,mz o m F k⟩
  ·obtain⟨c,e⟩:=kD (n:=s.heap.objs.size+1) k
   refine .inr ⟨.inl k,c,e,?_⟩
   have q:=x.cell y c e
   rw[mK o m F (by show scope.names.lookup y≠_;rw[k];decide)]at q
   exact q
 ·exact g.hok.fresh (Nat.le_of_lt (x.above y c (Iy h)))
 ·unfold start
  show _=N.length
  rw[IJ,Hn,List.length_replicate]
  omega
theorem A5{CX:N8}{P:HF}{w:Ih}{K:H0}{mg:Str->Option Hj}{base:Heap}{k:Nat}{f:Addr}{name qual:Str}{params:Arguments}{body:List Stmt}{scope:JC}{G kV j L cdv ct oc:Hj}{an od:Option Addr}
 {osl:Array (Option Hj)} {N ps:List Str} {sp:Sp} (lk:K.lookup f=KA ⟨oc,od,.func (Ja name qual params body scope G kV j L an cdv ct),osl⟩) (z:PySem.W.codeIn K cdv qual=KD) (S:Kv N ps scope)
 (len:∀vs H Q E,sp vs H Q E->vs.length=ps.length)
 (g:∀(A:Ij) (outer:List Env) (s:Hk) (H:Hp) (vs:List V) (Q:VK) (E:XK),LH k (A.deeper (envOfC qual scope s.heap.objs.size f cdv))->sp vs H Q E->
  ∃t,Mi (bg CX P w K mg base N qual scope f cdv A outer s H E) body t/\t { nx:=fun _ d=>Q .non d,rt:=Q } (start N vs) H) :
 L5 P w K mg base CX (k+1) f (Ja name qual params body scope G kV j L an cdv ct) ps sp:=by
 refine⟨len,fun A outer s H args us vs Q E B l R r m=>?_⟩
 have T:=len _ _ _ _ m
 have M:K.In s.heap:=l.mod.kin.keeps fun b o e=>(l.bs b o e).1
 have C:s.heap.NoLimit:=l.mod.nolimit.keeps fun b o e=>(l.bs b o e).1
 have h:∀y∈ps.zip us,scope.names.lookup y.1=KA .local\/(scope.names.lookup y.1=KA .cell/\((Jm (s.heap.objs.size+1) scope.names []).lookup y.1).isSome=KD):=fun a U=>by
  obtain⟨n,v⟩:=a
  rcases S.par n (List.of_mem_zip U).1 with q|q
  ·exact .inl q
  ·exact .inr ⟨q,PySem.W.cellsFrom_some _ _ _ (.inl q)⟩
 refine codeAny_call_function B.depth (M _ _ lk) rfl S.co S.gen rfl (PySem.W.codeRec_of M z) (R _ _ _ _ ?_)
 refine wpAny_newFunctionEnv_cells S.kind h fun env X O x=>?_
 subst X
 refine⟨C.keeps x.toInCall.keep,codeAny_func ?_⟩
 obtain⟨t,Y,Z⟩:=g A outer s H vs Q E (B.deeper _) m
 have I:Inv (bg CX P w K mg base N qual scope f cdv A outer s H E) [] (start N vs) H O:=t7 S B.hd l T r x
 refine Hx (Y [] O (start N vs) H _ I Z) (fun fl D i=>?_) fun e D i=>i
 have p:∀{c:St} {d:Hp} {v:V} {u:Hj},Inv (bg CX P w K mg base N qual scope f cdv A outer s H E) [] c d D->RelV v u->Q v d->CE outer P w H s Q u D:=
  fun{c d v u} J F q=>⟨v,d,J.os,J.bare,J.base,J.hok,F,q⟩
 cases fl with
 |ret u=>
  obtain⟨v,c,d,J,F,q⟩:=i
  exact p J F q
 |next=>
  obtain⟨c,d,J,q⟩:=i
  exact p (v:=V.non) (u:=Jq) J rfl q
 |brk=>
  obtain⟨_,_,_,q⟩:=i
  exact HS q
 |cont=>
  obtain⟨_,_,_,q⟩:=i
  exact HS q
section
variable{X:Cx}{x:Str}{p pos:Pos}{e:Expr}{es:List Expr}{t:TA}{id T:String}{r:List V->Hp->VK->Prop}
def Vs(r:List V->Hp->VK->Prop)(t:TA):TE:=fun σ H Q=>t σ H fun vs H1=>r vs H1 Q
theorem xF(d:bY X (.builtin id) r)(f:Gl X x)(g:X.mg x=KC)(i:ID x=KA (.builtin id))(j:PA X (e::es) t)(k:x≠"__name__":=by decide)(b:(x==("__debug__":Str))=KG:=by decide) (l:Hv (e::es) X.env=(KG,eval e X.env)::Hv es X.env:=by rfl) (c:(IY pos (Hv es X.env)).any (·.1)=KG:=by rfl):PE X (.Call (.Name x p) (e::es) [] pos) (Vs r t):=by intro KQ s σ H Q I h;refine JU (gA I f g i ?_ k b);exact PyProof.Rows.callWith_builtin1 (LA (j pos KQ s σ H _ I h) fun us m a=>by obtain⟨vs,H1,n,o,q⟩:=a;exact(d KQ m σ H1 vs us Q n o q)) l c
theorem mG(d:bY X (.type T) r)(f:Gl X x)(g:X.mg x=KC)(i:ID x=KA (.type T))(j:PA X (e::es) t)(k:x≠"__name__":=by decide)(b:(x==("__debug__":Str))=KG:=by decide) (l:Hv (e::es) X.env=(KG,eval e X.env)::Hv es X.env:=by rfl) (c:(IY pos (Hv es X.env)).any (·.1)=KG:=by rfl):PE X (.Call (.Name x p) (e::es) [] pos) (Vs r t):=by intro KQ s σ H Q I h;refine JU (gA I f g i ?_ k b);exact JM (LA (j pos KQ s σ H _ I h) fun us m a=>by obtain⟨vs,H1,n,o,q⟩:=a;exact(d KQ m σ H1 vs us Q n o q)) l c
end
end L2
namespace HT
open PySem PyProof.Rows
def lexLt:List Int->List Int->Bool
 |[],[]=>KG
 |[],_::_=>KD
 |_::_,[]=>KG
 |x::xs,y::ys=>if x=y then lexLt xs ys else decide (x<y)
theorem qO(x y:Int)(xs a:List Int):lexLt (x::xs) (y::a)=if x=y then lexLt xs a else decide (x<y):=rfl
theorem l6:lexLt [] []=KG:=rfl
theorem kn(y:Int)(a:List Int):lexLt [] (y::a)=KD:=rfl
theorem ku(x:Int)(xs:List Int):lexLt (x::xs) []=KG:=rfl
theorem oG(A:Ij)(s:Hk)(a:Int)(t:Tok)(c:Int)(u:Tok):∃e,SeqAt.EqAt A s (.int a t) (.int c u) e/\(e=KD↔a=c):=⟨(a==c),SeqAt.EqAt.int_int a t c u,by simp⟩
theorem vK(A:Ij)(s:Hk)(a:Int)(t:Tok)(c:Int)(u:Tok)(prog:HF)(w:Ih)(E:Hj->Hk->Prop)(Q:Hj->Hk->Prop)(h:Q (.bool (decide (a<c))) s) : Hu (HC prog w) A (richCompare .Lt (.int a t) (.int c u)) Q E s:=(PyProof.Rows.lt_int h:Hu (HC prog w) A (Iq .Lt (.int a t) (.int c u)) Q E s)
section
open PySem.SeqAt
open PySem.AutoSeq1 (wpAny_loadPart')
open PySem.MeetsSeq PySem.MeetsSeq2 PySem.MeetsSeq3
theorem lP(l b:Addr)(items f:Array Hj)(n P:Nat)(Q H:Option Addr)(S I:Array (Option Hj))(ns ms:List Int)(M:JF items.toList ns)(N:JF f.toList ms) :
 Meets (K8.«tuple.__lt__» ⟨[.ref l,.ref b],[]⟩)
  (fun _ R s=>s.heap.get? l=KA { cls:=.type "tuple",dict:=Q,data:=.seq items n,slots:=S }/\s.heap.get? b=KA { cls:=.type "tuple",dict:=H,data:=.seq f P,slots:=I }/\
   R (.ok (.ret (.bool (lexLt ns ms)))) s):=
 .of_wp fun prog w A R s h=>by
  obtain⟨F,g,d,G,os⟩:=s;obtain⟨T,U,h⟩:=h
  have Z:=AutoSeq1.sub_tuple_tuple
  have z1:items.size=ns.length:=by rw[<-M.length];simp
  have z2:f.size=ms.length:=by rw[<-N.length];simp
  wp_walk using JI T,JI U,wpAny_forIn_list _ (fun p b J=>b.1=KC/\J=⟨F,g,d,G,os⟩/\∃(vs ws:List Hj) (j k:List Int),p=vs.zip ws/\
   JF vs j/\JF ws k/\j.length+f.size=k.length+items.size/\R (.ok (.ret (.bool (lexLt j k)))) ⟨F,g,d,G,os⟩) _
  case turn=>
   rintro⟨y,x⟩ p b J ⟨z,rfl,vs,ws,j,k,m,B,o,i,r⟩
   cases B with
   |nil=>rw[List.zip_nil_left]at m;cases m
   |cons a t D=>
    cases o with
    |nil=>rw[List.zip_nil_right]at m;cases m
    |cons c u E=>
     rw[List.zip_cons_cons]at m
     injection m with K C
     injection K with V W
     subst V W
     rw[qO]at r
     simp only[Iu]at i
     obtain⟨e,X,v⟩:=oG A.in1 ⟨F,g,d,G,os⟩ a t c u
     refine cc (X prog w _ _ ?_)
     cases e with
     |true=>
      rw[KI (v.mp rfl)]at r
      wp_walk
      exact⟨rfl,rfl,_,_,_,_,C,D,E,(),r⟩
     |false=>
      rw[KH (fun q=>absurd (v.mpr q) HJ)]at r
      have L:=vK A.in1 ⟨F,g,d,G,os⟩ a t c u prog w
      wp_walk using L
      exact⟨_,rfl,by simpa using r⟩
  case fin=>
   rintro⟨b1,b2⟩ J ⟨z,rfl,vs,ws,j,k,m,B,o,i,r⟩
   simp only at z
   subst z
   have O:lexLt j k=decide (items.size<f.size):=by
    cases B with
    |nil=>
     cases o with
     |nil=>
      simp only[List.length_nil]at i
      rw[l6]
      exact(KJ ()).symm
     |cons c u Y=>
      simp only[List.length_nil,Iu]at i
      rw[kn]
      exact(KL ()).symm
    |cons a t O=>
     cases o with
     |nil=>
      simp only[List.length_nil,Iu]at i
      rw[ku]
      exact(KJ ()).symm
     |cons c u Y=>
      rw[List.zip_cons_cons]at m
      cases m
   rw[O]at r
   wp_walk
   exact⟨_,rfl,by simpa[Builtin.Tuple.tupleCompareSizes]using r⟩
  case h=>
   exact⟨rfl,rfl,items.toList,f.toList,ns,ms,rfl,M,N,(),h⟩
end
section
variable{prog:HF}{w:Ih}{A:Ij}{E:Hj->Hk->Prop}{s:Hk}
theorem jS{l b:Addr}{items a:Array Hj}{ns ms:List Int}{Q:Hj->Hk->Prop}(o:IsTup s.heap l items)(p:IsTup s.heap b a)(q:JF items.toList ns)(r:JF a.toList ms) (t:A.units<IZ) (h:Q (.bool (lexLt ns ms)) s):Hu (HC prog w) A (Iq .Lt (.ref l) (.ref b)) Q E s:=by obtain⟨⟨cls,u,data,v⟩,j,k,n,hd⟩:=id o;obtain⟨⟨m,f,g,i⟩,c,d,y,e⟩:=id p;simp only at k hd d e;subst k hd d e;exact richCompare_meets_room (op:=.Lt) ⟨_,j,rfl⟩ ⟨_,c,rfl⟩ PySem.F.slot_tuple_lt PySem.F.entry_tuple_lt (PySem.F.args_tuple_lt_2 _ _) (lP l b items a n y u f v i ns ms q r) ⟨j,c,show Value.bool (lexLt ns ms)≠Value.notImplemented/\Q (.bool (lexLt ns ms)) s from⟨(fun x=>nomatch x),h⟩⟩ t
theorem yH{t b:Addr}{vs ws:List Hj}{Q:Hj->Hk->Prop}(r:IsTup s.heap t vs.toArray)(u:IsTup s.heap b ws.toArray)(k:vs≠[])
 (h1:ws=[]->Q (.ref t) s) (v:ws≠[]->Q (.ref s.heap.objs.size) { s with heap:=s.heap.push { cls:=.type "tuple",data:=.seq (vs++ws).toArray } })
 (hsz:vs.length+ws.length<=Hy):Hu (HC prog w) A (Jt .Add (.ref t) (.ref b)) Q E s:=by
 obtain⟨⟨cls,l,data,m⟩,h,o,n,hd⟩:=id r
 obtain⟨⟨p,c,j,d⟩,a,f,q,g⟩:=id u
 simp only at o hd f g
 subst o hd f g
 have e:vs.toArray++ws.toArray=(vs++ws).toArray:=by simp
 by_cases i:ws=[]
 ·exact concat_meets ⟨_,h,rfl⟩ ⟨_,a,rfl⟩ noFill_tuple_add seq_tuple_add PySem.F.slot_tuple_add PySem.F.entry_tuple_add (PySem.F.args_tuple_add_2 _ _)
   (tuple_addW1 t b vs.toArray ws.toArray n q l c m d (by simpa using k) (by simp[i])) ⟨h,a,h1 i⟩
 ·refine concat_meets ⟨_,h,rfl⟩ ⟨_,a,rfl⟩ noFill_tuple_add seq_tuple_add PySem.F.slot_tuple_add PySem.F.entry_tuple_add (PySem.F.args_tuple_add_2 _ _)
   (tuple_addW2 t b vs.toArray ws.toArray n q l c m d (by simpa using k) (by simpa using i) (by rw[HI,HI];exact hsz)) ⟨h,a,?_⟩
  rw[e]
  exact v i
def sIx(n d:Nat):Option Int->Nat
 |none=>d
 |some v=>if v<0 then(v+(n:Int)).toNat else min v.toNat n
theorem wu(n d:Nat):sIx n d KC=d:=rfl
theorem Ai(n d k:Nat):sIx n d (KA (k:Int))=min k n:=by show(if(k:Int)<0 then((k:Int)+(n:Int)).toNat else min (k:Int).toNat n)=min k n;rw[KH (),K1]
theorem CH(n d:Nat)(hd:d<=n)(o:Option Int):sIx n d o<=n:=by
 cases o with
 |none=>exact hd
 |some v=>
  show(if v<0 then(v+(n:Int)).toNat else min v.toNat n)<=n
  by_cases a:v<0
  ·rw[KI a];omega
  ·rw[KH a];exact Nat.min_le_right _ _
theorem sU(v:Int)(n d:Nat):(if v<0 then max (v+(n:Int)) 0 else min v (n:Int))=((sIx n d (KA v):Nat):Int):=by
 show(if v<0 then max (v+(n:Int)) 0 else min v (n:Int))=(((if v<0 then(v+(n:Int)).toNat else min v.toNat n):Nat):Int);by_cases a:v<0
 ·simp only[KI a];omega
 ·simp only[KH a];omega
theorem qH(a b:Option Int)(n:Nat):Builtin.Slice.sliceAdjust a b 1 (n:Int)=(((sIx n 0 a:Nat):Int),((sIx n n b:Nat):Int)):=by
 have h1:¬((1:Int)<0):=()
 unfold Builtin.Slice.sliceAdjust;simp only[h1,if_false];refine Prod.ext ?_ ?_
 ·cases a with
  |none=>rfl
  |some v=>exact sU v n 0
 ·cases b with
  |none=>rfl
  |some v=>exact sU v n n
theorem qd(i j:Nat):Builtin.Slice.slicePlaces (i:Int) (j:Int) 1=j-i:=by
 unfold Builtin.Slice.slicePlaces;have h1:(1:Int)>0:=()
 simp only[h1,if_true,Int.ediv_one];split<;>omega
theorem j4{v:Hj}{o:Option Int}{Q:Option Int->Hk->Prop}(p:IsPart v o)(h:Q o s):Hu (HC prog w) A (Builtin.Slice.slicePartIndex v) Q E s:=by
 cases p with
 |none=>exact slicePart_none h
 |int i t=>exact slicePart_int h
theorem iM{f:Addr}{vl e:Hj}{a b:Option Int}{n:Nat}{Q:Int×Int×Nat->Hk->Prop}(g:s.heap.IsSliceOf f vl e .none)(pl:IsPart vl a)(i:IsPart e b)
 (h:Q (((sIx n 0 a:Nat):Int),1,sIx n n b-sIx n 0 a) s):Hu (HC prog w) A (Builtin.Slice.sliceApplied (.ref f) (pure (n:Int))) Q E s:=by
 obtain⟨os,c,j,d⟩:=id g
 unfold Builtin.Slice.sliceApplied Builtin.Slice.sliceFields
 refine cc (cc (wpAny_field c d (x:=vl) rfl (cc (wpAny_field c d (x:=e) rfl (cc (wpAny_field c d (x:=.none) rfl (Hm ?_)))))))
 refine cc (slicePart_none ?_)
 show Hu _ _ (if((1:Int)==0)=KD then _ else _) _ _ s
 rw[KH ⋯]
 refine cc (j4 pl (cc (j4 i (cc (Hm ?_)))))
 show Hu _ _ (match Builtin.Slice.sliceAdjust a b 1 (n:Int)with|(a,b)=>pure (a,(1:Int),Builtin.Slice.slicePlaces a b 1)) _ _ s
 rw[qH a b n]
 show Hu _ _ (pure (((sIx n 0 a:Nat):Int),(1:Int),Builtin.Slice.slicePlaces ((sIx n 0 a:Nat):Int) ((sIx n n b:Nat):Int) 1)) _ _ s
 rw[qd]
 exact Hm h
theorem xk(xs:Array Hj)(i k:Nat):((HX k).filterMap fun(m:Nat)=>xs[((i:Int)+(m:Int)*1).toNat]?).toArray=((xs.toList.drop i).take k).toArray:=by
 have e:(fun(m:Nat)=>xs[((i:Int)+(m:Int)*1).toNat]?)=fun m=>xs[i+m]?:=by
  funext m
  have:((i:Int)+(m:Int)*1).toNat=i+m:=()
  rw[this]
 rw[e];have:=pick_run xs i k;rw[List.filterMap_map]at this;have e2:((fun x=>xs[x]?)∘fun x=>i+x)=fun m=>xs[i+m]?:=rfl;rw[e2]at this;rw[this]
theorem h8{t e:Addr}{items:Array Hj}{vl k:Hj}{b c:Option Int}{Q:Hj->Hk->Prop}(d:IsTup s.heap t items)(l:s.heap.IsSliceOf e vl k .none)(pl:IsPart vl b)(n:IsPart k c)
 (hw:¬(sIx items.size 0 b=0/\sIx items.size items.size c=items.size))
 (h:Q (.ref s.heap.objs.size) { s with heap:=s.heap.push { cls:=.type "tuple",data:=.seq ((items.toList.drop (sIx items.size 0 b)).take (sIx items.size items.size c-sIx items.size 0 b)).toArray } })
 (hsz:items.size<=Hy):Hu (HC prog w) A (getItem (.ref t) (.ref e)) Q E s:=by
 have a:sizeOk (.seq ((items.toList.drop (sIx items.size 0 b)).take (sIx items.size items.size c-sIx items.size 0 b)).toArray):=by
  show((items.toList.drop (sIx items.size 0 b)).take (sIx items.size items.size c-sIx items.size 0 b)).toArray.size<=Hy
  rw[HI,Ju,List.length_drop,Array.length_toList]
  omega
 have p:sIx items.size items.size c<=items.size:=CH _ _ (Hq _) c
 obtain⟨os,f,g,o⟩:=id l
 have i:s.TypeIs (.ref e) "slice":=⟨os,f,g⟩
 unfold getItem
 try with_reducible refine J4 ?_
 first|refine cc (Hm ?_)|skip
 refine cc (wpAny_sequenceKey d.typeIs ⋯ ?_)
 refine cc (wpAny_callSpecial?_slot (name:=J1 "__getitem__") d.typeIs PyProof.Rows.slot_tuple_getitem
  (wpAny_call_entry PyProof.Rows.slot_tuple_getitem d.typeIs entry_tuple_getitem ?_ (args_tuple_getitem _ _)))
 show Hu _ _ (Builtin.Tuple.tupleItemsOf (.ref t) >>= _) _ _ s
 refine cc (tupleItemsOf_ d ?_)
 refine cc (wpAny_typeOf i ?_)
 rw[KI ⋯]
 refine cc (iM l pl n ?_)
 have j:¬((((sIx items.size 0 b:Nat):Int)==0&&(1:Int)==1&&(sIx items.size items.size c-sIx items.size 0 b)==items.size)=KD):=by
  intro q
  rw[IQ,IQ]at q
  have r:((sIx items.size 0 b:Nat):Int)=0:=eq_of_beq q.1.1
  have u:sIx items.size items.size c-sIx items.size 0 b=items.size:=eq_of_beq q.2
  exact hw ⟨(),()⟩
 show Hu _ _ (if(((sIx items.size 0 b:Nat):Int)==0&&(1:Int)==1&&(sIx items.size items.size c-sIx items.size 0 b)==items.size)=KD then _ else _) _ _ s
 rw[KH j,xk]
 first
  |exact cc (m:=Builtin.Tuple.tupleExact _) (IS (Hm ⟨_,rfl,Hm h⟩) a)
  |exact cc (m:=Builtin.Tuple.tupleExact _) (IS (cc (Hm (Hm ⟨_,rfl,Hm h⟩))) a)
  |exact cc (cc (m:=Builtin.Tuple.tupleExact _) (IS (Hm (Hm ⟨_,rfl,Hm h⟩)) a))
  |exact cc (cc (m:=Builtin.Tuple.tupleExact _) (IS (Hm ⟨_,rfl,Hm h⟩) a))
end
end HT
namespace L2
open PySem PySem.Spec PyProof.Rows
abbrev TO:=St->Hp->(Option Int->Hp->Prop)->Prop
def PO(X:Cx)(e:Option Expr)(t:TO):Prop:=
 ∀(KQ:List (Addr×Obj)) (s:Hk) (σ:St) (H:Hp) (Q:Option Int->Hp->Prop),Inv X KQ σ H s->t σ H Q->
  Hu (HC X.prog X.w) X.A (evalPart e X.env) (fun u b=>∃o a,Inv X KQ σ a b/\IsPart u o/\Q o a) X.xe s
def yK:TO:=fun _ H Q=>Q KC H
def Fd(t:TE):TO:=fun σ H Q=>t σ H fun x H1=>∃i,x=.int i/\Q (KA i) H1
theorem intsAre_of{ns:List Int}:∀{us:List Hj},Vals (ns.map V.int) us->JF us ns:=by
 induction ns with
 |nil=>intro us r;rw[Jb]at r;cases r;exact .nil
 |cons n ns a=>
  intro us r
  rw[Hs]at r
  cases r with
  |cons b c=>
   obtain⟨t,e⟩:=b
   subst e
   exact .cons n t (a c)
section
variable{X:Cx}{e:Expr}{te:TE}{lo hi:Option Expr}{tl th:TO}{pos p2:Pos}
theorem AX:PO X KC yK:=by intro KQ s σ H Q I h;rw[evalPart_none];exact Hm ⟨KC,H,I,.none,h⟩
theorem AU(h:PE X e te):PO X (KA e) (Fd te):=by intro KQ s σ H Q I b;rw[evalPart_some];refine LA (h KQ s σ H _ I b) fun u g a=>?_;obtain⟨x,H1,c,d,f⟩:=a;obtain⟨i,rfl,q⟩:=f;obtain⟨t,rfl⟩:=d;exact⟨KA i,H1,c,.int i t,q⟩
def Py(X:Cx)(r:V->Option Int->Option Int->Hp->VK->Prop):Prop:=
 ∀(KQ:List (Addr×Obj)) (s:Hk) (σ:St) (H:Hp) (x:V) (v vl a:Hj) (lo hi:Option Int) (b:Addr) (Q:VK),Inv X KQ σ H s->RelV x v->s.heap.IsSliceOf b vl a .none->IsPart vl lo->IsPart a hi->r x lo hi H Q->
  ∃T id,typeLookup (.type T) "__getitem__"=pure (KA (.builtin id))/\s.TypeIs v T/\Hu (HC X.prog X.w) X.A (getItem v (.ref b)) (EP X KQ σ Q) X.xe s
theorem Py.or{r a:V->Option Int->Option Int->Hp->VK->Prop}(h:Py X r)(h':Py X a):Py X (fun x lo hi H Q=>r x lo hi H Q\/a x lo hi H Q):=by
 intro KQ s σ H x v vl b lo hi c Q I d f g i q;rcases q with q|q
 ·exact h KQ s σ H x v vl b lo hi c Q I d f g i q
 ·exact h' KQ s σ H x v vl b lo hi c Q I d f g i q
def Yo(r:V->Option Int->Option Int->Hp->VK->Prop)(te:TE)(tl th:TO):TE:=fun σ H Q=>te σ H fun x H1=>tl σ H1 fun l a=>th σ a fun u b=>r x l u b Q
theorem vm{r:V->Option Int->Option Int->Hp->VK->Prop}(i:Py X r)(j:PE X e te)(k:PO X lo tl)(m:PO X hi th):PE X (.Subscript e (.Slice lo hi KC p2) pos) (Yo r te tl th):=by intro KQ s σ H Q I h;refine Subscript_ (LA (j KQ s σ H _ I h) fun v n c=>?_);obtain⟨x,H1,o,p,t⟩:=c;refine wpAny_Slice (LA (k KQ n σ H1 _ o t) fun vl y ⟨l,z,B,C,D⟩=>LA (m KQ y σ z _ B D) fun f a d=>?_);obtain⟨u,g,E,F,G⟩:=d;rw[evalPart_none];refine Hm ?_;have J:Inv X KQ σ g { a with heap:=a.heap.push { cls:=.type "slice",data:=.fields #[vl,f,.none] } }:=E.kept (t':=a.toks) fun b ob q=>Ho _ q;obtain⟨T,id,K,L,M⟩:=i KQ { a with heap:=a.heap.push { cls:=.type "slice",data:=.fields #[vl,f,.none] } } σ g x v vl f l u a.heap.objs.size Q J p (Heap.IsSliceOf.new ..) C F G;show Hu (HC X.prog X.w) X.A (subscriptTail e (.Slice lo hi KC p2) v (.ref a.heap.objs.size)) (EP X KQ σ Q) X.xe { a with heap:=a.heap.push { cls:=.type "slice",data:=.fields #[vl,f,.none] } };exact tail_any (ops:=[.ref a.heap.objs.size,v]) L K M (by with_unfolding_all rfl)
def n9(xs:List V)(lo hi:Option Int):List V:=(xs.drop (HT.sIx xs.length 0 lo)).take (HT.sIx xs.length xs.length hi-HT.sIx xs.length 0 lo)
theorem jj(xs:List V)(lo hi:Option Int):(n9 xs lo hi).length<=xs.length:=by unfold n9;rw[Ju,List.length_drop];omega
def Gd(K:H0):V->Option Int->Option Int->Hp->VK->Prop:=fun x lo hi H Q=>∃a xs,x=.ref a/\LU K H a xs/\
 ¬(HT.sIx xs.length 0 lo=0/\HT.sIx xs.length xs.length hi=xs.length)/\∀p,H p=KC->Q (.ref p) (upd H p (.tup (n9 xs lo hi)))
theorem BQ:Py X (Gd X.K):=by
 intro KQ s σ H x v vl p lo hi t Q I i j k l h;obtain⟨a,xs,rfl,m,n,q⟩:=h;cases i;obtain⟨d,r,f,g⟩:=I.tuple m;have c:d.toArray.size=xs.length:=by rw[HI];exact r.length.symm
 refine⟨"tuple",_,PyProof.Rows.slot_tuple_getitem.lookup,f.typeIs,?_⟩;refine HT.h8 f j k l (by rw[c];exact n) ?_ (by rw[c];exact g);rw[c];refine⟨.ref s.heap.objs.size,_,I.laid (t':=s.toks) (o:=.tup (n9 xs lo hi)) (fun b ob q=>Ho _ q) (Hq _) ?_,rfl,q _ (I.hok.fresh (Hq _))⟩;exact⟨IA (jj xs lo hi) g,_,(r.drop (HT.sIx xs.length 0 lo)).take (HT.sIx xs.length xs.length hi-HT.sIx xs.length 0 lo),IsTup.new _ _,QA.new _ _⟩
def GK(K:H0):R2:=fun x y H Q=>∃a b ns c,x=.ref a/\y=.ref b/\LU K H a (ns.map V.int)/\LU K H b (c.map V.int)/\Q (.bl (HT.lexLt ns c)) H
theorem Ct(g:X.A.units<IZ):Lh X (Iq .Lt) (GK X.K):=by intro KQ s σ H x y v u Q I i j h;obtain⟨a,b,ns,f,rfl,rfl,k,l,q⟩:=h;cases i;cases j;obtain⟨d,m,n,_⟩:=I.tuple k;obtain⟨c,o,p2,_⟩:=I.tuple l;have p:JF d.toArray.toList ns:=intsAre_of m;have r:JF c.toArray.toList f:=intsAre_of o;exact HT.jS n p2 p r g ⟨.bl (HT.lexLt ns f),H,I,rfl,q⟩
def EE(K:H0):R2:=fun x y H Q=>∃a b xs c,x=.ref a/\y=.ref b/\LU K H a xs/\LU K H b c/\xs≠[]/\xs.length+c.length<=Hy/\
 (c=[]->Q (.ref a) H)/\(c≠[]->∀p,H p=KC->Q (.ref p) (upd H p (.tup (xs++c))))
theorem Vals.nH{xs:List V}{us:List Hj}(r:Vals xs us):us=[]↔xs=[]:=by
 cases r with
 |nil=>simp
 |cons _ _=>simp
theorem yZ:Lh X (Jt .Add) (EE X.K):=by intro KQ s σ H x y v u Q I i j h;obtain⟨a,b,xs,k,rfl,rfl,l,m,n,f,p,r⟩:=h;cases i;cases j;obtain⟨t,d,A,_⟩:=I.tuple l;obtain⟨g,c,p2,_⟩:=I.tuple m;refine HT.yH A p2 (fun z=>n (d.nH.mp z)) (fun z=>⟨.ref a,H,I,rfl,p (c.nH.mp z)⟩) (fun z=>?_) (by rw[<-d.length,<-c.length];exact f);refine⟨.ref s.heap.objs.size,_,I.laid (t':=s.toks) (o:=.tup (xs++k)) (fun b ob q=>Ho _ q) (Hq _) ?_,rfl,r (fun w=>z (c.nH.mpr w)) _ (I.hok.fresh (Hq _))⟩;exact⟨by rw[IJ];exact f,_,d.append c,IsTup.new _ _,QA.new _ _⟩
end
def ixN(n:Nat)(i:Int):Option Nat:=if 0<=i then(if i<n then KA i.toNat else KC)else if -(n:Int)<=i then KA (i+n).toNat else KC
def atI{a:Type}(xs:List a)(i:Int):Option a:=(ixN xs.length i).bind fun j=>xs[j]?
theorem tF{n:Nat}{i:Int}{j:Nat}(h:ixN n i=KA j):seqIndex? i n=KA j/\j<n/\-(n:Int)<=i/\i<n:=by
 unfold ixN at h;by_cases h0:0<=i
 ·rw[KI h0]at h;by_cases h1:i<n
  ·rw[KI h1]at h;have e:i.toNat=j:=Option.some.inj h;exact⟨by rw[seqIndex_of h0 h1,e],(),(),h1⟩
  ·rw[KH h1]at h;cases h
 ·rw[KH h0]at h;by_cases h1:-(n:Int)<=i
  ·rw[KI h1]at h;have e:(i+n).toNat=j:=Option.some.inj h;exact⟨by rw[seqIndex_neg () h1,e],(),h1,()⟩
  ·rw[KH h1]at h;cases h
theorem nO{a:Type}{xs:List a}{i:Int}{v:a}(h:atI xs i=KA v):∃j,seqIndex? i xs.length=KA j/\xs[j]?=KA v/\j<xs.length/\-(xs.length:Int)<=i/\i<xs.length:=by
 unfold atI at h;cases e:ixN xs.length i with
 |none=>rw[e]at h;cases h
 |some j=>
  rw[e]at h
  obtain⟨h1,b,c,d⟩:=tF e
  exact⟨j,h1,h,b,c,d⟩
theorem bj{a:Type}{xs:List a}{j:Nat}{v:a}(h:xs[j]?=KA v):atI xs (j:Int)=KA v:=by
 have b:j<xs.length:=(HN.mp h).1;have e:ixN xs.length (j:Int)=KA j:=by unfold ixN;rw[KI (),KI ()];simp
 unfold atI;rw[e];exact h
def nJ(b:Expr):Prop:=∀o i,subscripted b KG o i=operate [o,i] (getItem o i)
def Nk(X:Cx)(r:R2):Prop:=
 ∀(b a:Expr) (KQ:List (Addr×Obj)) (s:Hk) (σ:St) (H:Hp) (x y:V) (v u:Hj) (Q:VK),Inv X KQ σ H s->RelV x v->RelV y u->r x y H Q->
  subscripted a KG v u=operate [v,u] (getItem v u)->Hu (HC X.prog X.w) X.A (subscriptTail b a v u) (EP X KQ σ Q) X.xe s
def Y1(X:Cx)(id:String)(r:V->List V->Hp->VK->Prop):Prop:=
 ∀(KQ:List (Addr×Obj)) (s:Hk) (σ:St) (H:Hp) (x:V) (xs:List V) (v:Hj) (us:List Hj) (Q:VK),Inv X KQ σ H s->RelV x v->Vals xs us->r x xs H Q->
  Hu (HC X.prog X.w) X.A (call (.builtin id) (v::us)) (EP X KQ σ Q) X.xe s
section
variable{X:Cx}{a b:Expr}{ta tb:TE}{pos:Pos}
theorem Nk.or{r e:R2}(h:Nk X r)(h':Nk X e):Nk X (fun x y H Q=>r x y H Q\/e x y H Q):=by
 intro c d KQ s σ H x y v u Q I f g q i;rcases q with q|q
 ·exact h c d KQ s σ H x y v u Q I f g q i
 ·exact h' c d KQ s σ H x y v u Q I f g q i
theorem FN{r:R2}(c:Nk X r)(d:PE X a ta)(e:PE X b tb)(f:nJ b):PE X (.Subscript a b pos) (QO r ta tb):=by intro KQ s σ H Q I h;exact Subscript_ (Cs d e I h fun v u g x y i j k l q=>c a b KQ g σ i x y v u Q j k l q (f _ _))
def E3(K:H0):R2:=fun x y H Q=>∃p xs i v,x=.ref p/\y=.int i/\LR K H p xs/\atI xs i=KA v/\Q v H
def Eb(K:H0):R2:=fun x y H Q=>∃p xs i v,x=.ref p/\y=.int i/\LU K H p xs/\atI xs i=KA v/\Q v H
def Er:R2:=fun x y H Q=>∃z i c,x=.str z/\y=.int i/\z.length<=Hy/\atI z.cps.toList i=KA c/\Q (.str ⟨#[c]⟩) H
theorem yX:Nk X (E3 X.K):=by
 intro d e KQ s σ H x y v u Q I o A h m;obtain⟨p,xs,i,z,rfl,rfl,B,C,q⟩:=h;cases o;obtain⟨t,rfl⟩:=A;obtain⟨f,r,g,L⟩:=I.list B;obtain⟨j,h1,D,M,E,F⟩:=nO C;obtain⟨w,n,k⟩:=r.get D;have G:=r.length;have N:=iJ;have c:EP X KQ σ Q w s:=⟨z,H,I,k,q⟩;by_cases h0:0<=i
 ·have l:i.toNat=j:=by rw[seqIndex_of h0 F]at h1;exact Option.some.inj h1
  exact item_listR g.isList h0 () (by rw[l];simpa using n) c m
 ·have l:(i+(f.toArray.size:Int)).toNat=j:=by rw[seqIndex_neg () E]at h1;rw[HI,<-G];exact Option.some.inj h1
  exact subscriptTail_builtinR (x:=w) g.isList.typeIs slot_list_getitem.lookup (wpAny_getItem_list_neg (Q:=fun r J=>r=w/\EP X KQ σ Q r J) g.isList () (by rw[HI]<;>omega) () (by rw[l];simpa using n) ⟨rfl,c⟩) m
theorem C7:Nk X (Eb X.K):=by intro c d KQ s σ H x y v u Q I k l h m;obtain⟨p,xs,i,z,rfl,rfl,n,o,q⟩:=h;cases k;obtain⟨t,rfl⟩:=l;obtain⟨A,r,g,F⟩:=I.tuple n;obtain⟨j,h1,B,G,J,L⟩:=nO o;obtain⟨w,C,e⟩:=r.get B;have D:=r.length;have M:=iJ;have f:EP X KQ σ Q w s:=⟨z,H,I,e,q⟩;exact subscriptTail_builtinR (x:=w) g.typeIs slot_tuple_getitem.lookup (getItem_tuple (j:=j) (Q:=fun r E=>r=w/\EP X KQ σ Q r E) g () () (by rw[HI,<-D];exact h1) (by simpa using C) ⟨rfl,f⟩) m
theorem Dw:Nk X Er:=by
 intro d e KQ s σ H x y v u Q I f g h k;obtain⟨z,i,c,rfl,rfl,r,l,q⟩:=h;obtain⟨t,rfl⟩:=f;obtain⟨w,rfl⟩:=g;obtain⟨j,h1,m,A,n,o⟩:=nO l;have p:z.cps.toList.length=z.length:=by simp[Str.length]
 rw[p]at h1 n o;have B:=iJ
 exact tail_any (typeIs_str s z t) slot_str_getitem.lookup (getItem_str (c:=c) (by
  have e1:decide (i < -(2^63:Int))=KG:=KJ ()
  have e2:decide (i≥2^63)=KG:=KJ ()
  rw[e1,e2,Bool.or_false]) (by rw[h1];simpa using m) ⟨.str ⟨#[c]⟩,H,I.tok _,⟨_,rfl⟩,q⟩) k
def YT(K:H0):R2:=fun x y H Q=>E3 K x y H Q\/Eb K x y H Q\/Er x y H Q
theorem Cq:Nk X (YT X.K):=yX.or (C7.or Dw)
theorem qD(c:List Hj)(n j:Nat)(u:Hj):Obj.mapSeq (·.setIfInBounds j u) { cls:=.type "list",data:=.seq c.toArray n }={ cls:=.type "list",data:=.seq (c.set j u).toArray n }:=by simp[Obj.mapSeq]
theorem Inv.lst{KQ:List (Addr×Obj)}{σ:St}{H:Hp}{s:Hk}{p:Addr}{xs:List V}(I:Inv X KQ σ H s)(h:H p=KA (.lst xs)) : ∃(c:List Hj) (n:Nat),Vals xs c/\s.heap.get? p=KA { cls:=.type "list",data:=.seq c.toArray n }/\xs.length<=Hy:=by obtain⟨z,c,n,r,e⟩:=I.hok p _ h;exact⟨c,n,r,e,z⟩
theorem Inv.Cp{KQ:List (Addr×Obj)}{σ:St}{H:Hp}{s:Hk}{p:Addr}{xs d:List V}{c its':List Hj}{n g:Nat}{f:Obj->Obj}(I:Inv X KQ σ H s)(h:H p=KA (.lst xs))
 (j:s.heap.get? p=KA { cls:=.type "list",data:=.seq c.toArray n }) (i:f { cls:=.type "list",data:=.seq c.toArray n }={ cls:=.type "list",data:=.seq its'.toArray g }) (r:Vals d its') (hz:d.length<=Hy) (t:Nat) :
 Inv X KQ σ (upd H p (.lst d)) { s with heap:=s.heap.update p f,toks:=t }:=by
 have e:(s.heap.update p f).get? p=KA { cls:=.type "list",data:=.seq its'.toArray g }:=by
  rw[J7 f j (by rw[i]<;>rfl),i]
 refine I.write (x:=p) (e:=p) (by rw[h];trivial) (.inl rfl) (fun b u k q=>(IE _ _ (Ne.symm k)).trans q) ⟨_,e⟩ ?_
 exact⟨hz,its',g,r,e⟩
def EL:V->V->V->Hp->(Hp->Prop)->Prop:=fun o i v H Q=>∃p xs k j,o=.ref p/\i=.int k/\H p=KA (.lst xs)/\ixN xs.length k=KA j/\Q (upd H p (.lst (xs.set j v)))
theorem set_list:F0 X EL:=by
 intro KQ s σ H o i v C D u Q I x y z h;obtain⟨p,xs,k,j,rfl,rfl,g,A,q⟩:=h;cases x;obtain⟨t,rfl⟩:=y;obtain⟨c,n,r,d,B⟩:=I.lst g;obtain⟨h1,E,l,m⟩:=tF A;have e:=r.length;have F:=iJ;have w:Inv X KQ σ (upd H p (.lst (xs.set j v))) { s with heap:=s.heap.update p (Obj.mapSeq (·.setIfInBounds j u)) }:=I.Cp g d (qD c n j u) (r.set z j) (by rw[List.length_set];exact B) s.toks;by_cases h0:0<=k
 ·have f:k.toNat=j:=by rw[seqIndex_of h0 m]at h1;exact Option.some.inj h1
  exact PySem.W.ki_setAt d h0 () (by rw[HI,<-e];exact m) (by rw[f];exact⟨_,w,q⟩)
 ·have f:(k+(c.toArray.size:Int)).toNat=j:=by rw[seqIndex_neg () l]at h1;rw[HI,<-e];exact Option.some.inj h1
  exact PySem.W.ki_setBack d () (by rw[HI,<-e];exact l) () (by rw[f];exact⟨_,w,q⟩)
theorem nN(c d:Option Int)(n:Nat):(sliceBounds c d KC n).1=((HT.sIx n 0 c:Nat):Int)/\(sliceBounds c d KC n).2.1=((HT.sIx n n d:Nat):Int)/\(sliceBounds c d KC n).2.2=1:=by
 refine⟨?_,?_,rfl⟩
 ·cases c with
  |none=>simp[sliceBounds,HT.sIx]
  |some i=>
   simp only[sliceBounds,HT.sIx,Option.getD_none,show(1:Int)>0 by decide,if_true]
   by_cases h:i<0
   ·simp only[h,if_true]<;>omega
   ·simp only[h,if_false]<;>omega
 ·cases d with
  |none=>simp[sliceBounds,HT.sIx]
  |some i=>
   simp only[sliceBounds,HT.sIx,Option.getD_none,show(1:Int)>0 by decide,if_true]
   by_cases h:i<0
   ·simp only[h,if_true]<;>omega
   ·simp only[h,if_false]<;>omega
theorem lL(c:List Hj)(d e:Option Int):slicePick c.toArray d e KC=((c.drop (HT.sIx c.length 0 d)).take (HT.sIx c.length c.length e-HT.sIx c.length 0 d)).toArray:=by obtain⟨h1,f,g⟩:=nN d e c.toArray.size;unfold slicePick;rw[h1,f,g];simp only[sliceRange_one,pick_run,HI]<;>rfl
def GI(K:H0):V->Option Int->Option Int->Hp->VK->Prop:=fun x c d H Q=>∃a xs,x=.ref a/\LR K H a xs/\∀p,H p=KC->Q (.ref p) (upd H p (.lst (n9 xs c d)))
theorem Aa:Py X (GI X.K):=by intro KQ s σ H x v vl p d e t Q I g i j k h;obtain⟨a,xs,rfl,l,q⟩:=h;cases g;obtain⟨m,r,f,n⟩:=I.list l;have c:=r.length;refine⟨"list",_,slot_list_getitem.lookup,f.isList.typeIs,?_⟩;refine wpAny_getItem_list_slice f.isList i j k .none (by simp) ?_ (by rw[HI]<;>omega);rw[lL,<-c];refine⟨.ref s.heap.objs.size,_,I.laid (t':=s.toks) (o:=.lst (n9 xs d e)) (fun b ob q=>Ho _ q) (Hq _) ?_,rfl,q _ (I.hok.fresh (Hq _))⟩;exact⟨IA (jj xs d e) n,_,0,(r.drop (HT.sIx xs.length 0 d)).take (HT.sIx xs.length xs.length e-HT.sIx xs.length 0 d),HG _ rfl⟩
theorem nA:bY X (.builtin "len") (fun xs H Q=>∃p d,xs=[.ref p]/\(LR X.K H p d\/LU X.K H p d)/\Q (.int d.length) H):=by
 intro KQ s σ H xs us Q I r h;obtain⟨p,d,rfl,e,q⟩:=h;obtain⟨u,rfl,j⟩:=vals1 r;cases j;have l:=iJ;rcases e with e|e
 ·obtain⟨f,g,i,k⟩:=I.list e;have c:=g.length;exact Calls.call_len_list i.isList (by simp only[HI]<;>omega) ⟨.int d.length,H,I.tok _,⟨s.toks+1,by rw[HI,c]⟩,q⟩
 ·obtain⟨f,g,i,k⟩:=I.tuple e;have c:=g.length;exact len_tuple i (by simp only[HI]<;>omega) ⟨.int d.length,H,I.tok _,⟨s.toks+1,by rw[HI,c]⟩,q⟩
theorem bY.or{f:Hj}{r c:List V->Hp->VK->Prop}(h:bY X f r)(h':bY X f c):bY X f (fun xs H Q=>r xs H Q\/c xs H Q):=by
 intro KQ s σ H xs us Q I d q;rcases q with q|q
 ·exact h KQ s σ H xs us Q I d q
 ·exact h' KQ s σ H xs us Q I d q
theorem nB:bY X (.type "list") (fun xs H Q=>∃p f,xs=[.ref p]/\(LR X.K H p f\/LU X.K H p f)/\∀l,H l=KC->Q (.ref l) (upd H l (.lst f))):=by
 intro KQ s σ H xs us Q I r h;obtain⟨p,f,rfl,j,q⟩:=h;obtain⟨u,rfl,A⟩:=vals1 r;cases A;have k:∀(c:List Hj),Vals f c->f.length<=Hy->∀(d:Heap) (g:Nat),(∀b z,s.heap.get? b=KA z->d.get? b=KA z)->d.get? s.heap.objs.size=KA { cls:=.type "list",dict:=KC,data:=.seq c.toArray g,slots:=#[] }->EP X KQ σ Q (.ref s.heap.objs.size) { s with heap:=d }:=fun c i m d g kp e=>⟨.ref s.heap.objs.size,_,I.laid (t':=s.toks) kp (Hq _) (show bG X.prog X.w _ d _ (.lst f)from⟨m,c,g,i,e⟩),rfl,q _ (I.hok.fresh (Hq _))⟩;rcases j with j|j
 ·obtain⟨c,i,v,m⟩:=I.list j;have t:=i.length;obtain⟨o,x,y,n,hd⟩:=v.isList;exact call_list_seq p (.inl rfl) x y hd (fun d g kp e=>k c i m d g kp e) (by simp only[HI]<;>omega)
 ·obtain⟨c,i,v,m⟩:=I.tuple j;have t:=i.length;obtain⟨o,x,y,n,hd⟩:=v;exact call_list_seq p (.inr rfl) x y hd (fun d g kp e=>k c i m d g kp e) (by simp only[HI]<;>omega)
theorem lU:bY X (.type "tuple") (fun xs H Q=>∃p d,xs=[.ref p]/\((LR X.K H p d/\∀l,H l=KC->Q (.ref l) (upd H l (.tup d)))\/(LU X.K H p d/\Q (.ref p) H))):=by
 intro KQ s σ H xs us Q I r h;obtain⟨p,d,rfl,h⟩:=h;obtain⟨u,rfl,t⟩:=vals1 r;cases t;rcases h with⟨g,q⟩|⟨g,q⟩
 ·obtain⟨c,i,j,k⟩:=I.list g;have m:=i.length;refine call_tuple_list j.isList (fun f kp=>?_) (by simp only[HI]<;>omega);have n:Inv X KQ σ H { s with heap:=f }:=I.kept (t':=s.toks) kp;have v:Inv X KQ σ (upd H f.objs.size (.tup d)) { s with heap:=f.push { cls:=.type "tuple",data:=.seq c.toArray } }:=n.laid (t':=s.toks) (fun b o e=>Ho _ e) (Hq _) (show bG X.prog X.w _ _ _ (.tup d)from⟨k,c,i,IsTup.new _ _,QA.new _ _⟩);exact⟨.ref f.objs.size,_,v,rfl,q _ (n.hok.fresh (Hq _))⟩
 ·obtain⟨c,i,j,k⟩:=I.tuple g;exact call_tuple_same j ⟨.ref p,H,I,rfl,q⟩
def YM(K:H0)(T:String)(x:V)(H:Hp):Prop:=match x with
 |.str _=>T="str"
 |.int _=>T="int"
 |.ref p=>(T="list"/\∃xs,LR K H p xs)\/(T="tuple"/\∃o,K.lookup p=KA o/\o.cls=.type "tuple"/\o.dict=KC)\/
  (T="dict"/\((∃kvs,H p=KA (.dK kvs))\/∃kvs,H p=KA (.dT kvs)))\/(T="set"/\∃S n,H p=KA (.set S n))
 |_=>False
theorem Cm{KQ:List (Addr×Obj)}{σ:St}{H:Hp}{s:Hk}{T:String}{x:V}{v:Hj}(I:Inv X KQ σ H s)(r:RelV x v)(ty:YM X.K T x H) : s.TypeIs v T/\∀a,v=.ref a->∃ob,s.heap.get? a=KA ob/\ob.dict=KC:=by
 cases x with
 |str z=>
  obtain⟨t,rfl⟩:=r
  cases (show T="str" from ty)
  exact⟨typeIs_str s z t,fun _ e=>nomatch e⟩
 |int i=>
  obtain⟨t,rfl⟩:=r
  cases (show T="int" from ty)
  exact⟨typeIs_int s i t,fun _ e=>nomatch e⟩
 |ref p=>
  cases r
  rcases ty with⟨rfl,xs,g⟩|⟨rfl,o,d,h,hd⟩|⟨rfl,d⟩|⟨rfl,S,n,d⟩
  ·obtain⟨j,_,f,_⟩:=I.list g;refine⟨f.isList.typeIs,fun a e=>?_⟩;cases e;obtain⟨o,n,e,c,hd,_⟩:=f;exact⟨o,e,hd⟩
  ·refine⟨⟨o,I.kIn p o d,h⟩,fun a e=>?_⟩;cases e;exact⟨o,I.kIn _ o d,hd⟩
  ·have z:∃o,s.heap.get? p=KA o/\o.ExactDict:=by
    rcases d with⟨kvs,d⟩|⟨kvs,d⟩
    ·obtain⟨_,_,_,_,o,_,_,e,ex,_⟩:=I.hok p _ d;exact⟨o,e,ex⟩
    ·obtain⟨_,_,_,_,o,_,_,e,ex,_⟩:=I.hok p _ d;exact⟨o,e,ex⟩
   obtain⟨o,e,ex⟩:=z;refine⟨⟨o,e,ex.1⟩,fun a e2=>?_⟩;cases e2;exact⟨o,e,ex.2.1⟩
  ·obtain⟨o,_,_,_,e,ex,_⟩:=I.hok p _ d;refine⟨⟨o,e,ex.1⟩,fun a e2=>?_⟩;cases e2;exact⟨o,e,ex.2.1⟩
 |_=>exact HS ty
def Yr(K:H0)(T:String)(r:V->List V->Hp->VK->Prop)(c:TE)(t:TA):TE:=fun σ H Q=>c σ H fun x H1=>YM K T x H1/\t σ H1 fun xs d=>r x xs d Q
variable{o e:Expr}{es:List Expr}{to:TE}{t:TA}{name:Str}{apos KU:Pos}{T id:String}{r:V->List V->Hp->VK->Prop}
theorem Bj(p:PlainAttrs T)(slot:Slot T name id)(k:typeOf (.builtin id)=pure (.type "method_descriptor"))(q:Y1 X id r)(u:PE X o to)(w:PA X (e::es) t)
 (g:Jz o name X.env (eval o X.env)=eval o X.env:=by rfl)
 (j:((IY KU (Hv (e::es) X.env)).all (fun x=>!x.1)&&(backToKw KU (JO [] X.env)).all (fun x=>x.1.isSome)
  && decide ((e::es).length+([]:List Keyword).length+(if([]:List Keyword).isEmpty then 0 else 1)<30))=KD:=by rfl)
 (i:(apos.endLine==KU.line)=KD:=by rfl) (y:Hv (e::es) X.env=(KG,eval e X.env)::Hv es X.env:=by rfl) (c:(IY KU (Hv es X.env)).any (·.1)=KG:=by rfl) :
 PE X (.Call (.Attribute o name apos) (e::es) [] KU) (Yr X.K T r to t):=by
 intro KQ s σ H Q I h
 refine wpAny_Call_method_late g j i rfl (LA (u KQ s σ H _ I h) fun v z d=>?_)
 obtain⟨x,H1,l,m,ty,A⟩:=d
 obtain⟨h1,B⟩:=Cm l m ty
 refine⟨T,id,p,slot,k,h1,B,?_⟩
 have n:=w KU KQ z σ H1 _ l A
 rw[y]at n ⊢
 refine Calls.callWith_builtin (by show(KG||(IY KU (Hv es X.env)).any (·.1))=KG;rw[c]<;>rfl) (Calls.evalArgs_plain ?_)
 exact LA n fun us C f=>by obtain⟨vs,D,E,F,G⟩:=f;exact(q KQ C σ D x vs v us Q E m F G)
/- xs.append(e),list.index on a module's tuple .. are Y1 facts of 06m -/
end
def YE(X:Cx)(id:String)(r:V->List V->Hp->VK->Prop):Prop:=
 ∀(KQ:List (Addr×Obj)) (s:Hk) (σ:St) (H:Hp) (x:V) (xs:List V) (v:Hj) (us:List Hj) (Q:VK),Inv X KQ σ H s->RelV x v->Vals xs us->r x xs H Q->
  Hu (HC X.prog X.w) X.A (call (.builtin id) (v::us)) (EP X KQ σ Q) X.xe s
theorem Vals.one:∀{x:V} {us:List Hj},Vals [x] us->∃u,us=[u]/\RelV x u:=by
 intro x us h;cases h with
 |cons r t=>cases t;exact⟨_,rfl,r⟩
theorem Vals.two:∀{x y:V} {us:List Hj},Vals [x,y] us->∃u v,us=[u,v]/\RelV x u/\RelV y v:=by
 intro x y us h;cases h with
 |cons r t=>
  cases t with
  |cons q n=>cases n;exact⟨_,_,rfl,r,q⟩
theorem Vals.rep{xs:List V}{us:List Hj}(h:Vals xs us):∀k:Nat,Vals (HY k xs).flatten (HY k us).flatten
 |0=>.nil
 |k+1=>by
  rw[Je,Je,K2,K2]
  exact Vals.append h (Vals.rep h k)
theorem foldl_rep(a:List Hj):∀(k:Nat) (b:List Hj),
 List.foldl (fun x1 c=>x1++c) b.toArray (HY k a.toArray)=(b++(HY k a).flatten).toArray
 |0,b=>by simp
 |k+1,b=>by
  have e:b.toArray++a.toArray=(b++a).toArray:=by simp
  have e2:(b++a)++(HY k a).flatten=b++(HY (k+1) a).flatten:=by
   rw[Je,K2,List.append_assoc]
  rw[<-e2,<-foldl_rep a k (b++a),<-e,Je,List.foldl_cons]
section
variable{X:Cx}{KQ:List (Addr×Obj)}{σ:St}{H:Hp}{s:Hk}{l b:Addr}{xs ys zs:List V}
theorem Inv.Em{a its':List Hj}{n:Nat}{f:Array Hj->Array Hj}{t':Nat}(I:Inv X KQ σ H s)(c:H l=KA (.lst xs))
 (e:s.heap.get? l=KA { cls:=.type "list",data:=.seq a.toArray n }) (d:f a.toArray=its'.toArray) (g:Vals ys its') (hz:ys.length<=Hy) :
 Inv X KQ σ (upd H l (.lst ys)) { s with heap:=s.heap.update l (Obj.mapSeq f),toks:=t' }:=by
 have q:=PySem.IsL.update e f
 rw[d]at q
 refine I.write (x:=l) (e:=l) (by rw[c];exact trivial) (.inl rfl) (fun j u h i=>(IE s.heap (Obj.mapSeq f) (Ne.symm h)).trans i) ⟨_,q⟩ ?_
 exact⟨hz,its',_,g,q⟩
theorem Inv.Ff{a:List Hj}{t':Nat}(I:Inv X KQ σ H s)(c:Vals ys a)(hz:ys.length<=Hy) : Inv X KQ σ (upd H s.heap.objs.size (.lst ys)) { s with heap:=s.heap.push { cls:=.type "list",data:=.seq a.toArray },toks:=t' }:=I.laid (fun _ _ q=>Ho _ q) (Hq _) ⟨hz,a,0,c,HG _ rfl⟩
theorem Inv.fresh(I:Inv X KQ σ H s):H s.heap.objs.size=KC:=I.hok.fresh (Hq _)
theorem Inv.pf(I:Inv X KQ σ H s)(c:H l=KA (.lst xs)):xs.length<=Hy/\∃(a:List Hj) (n:Nat),Vals xs a/\xs.length=a.length/\s.heap.get? l=KA { cls:=.type "list",data:=.seq a.toArray n }:=by obtain⟨z,a,n,r,e⟩:=I.hok l _ c;exact⟨z,a,n,r,r.length,e⟩
theorem wB{n:Nat}(h:n<=Hy):Builtin.List.listTooLong n=KG:=by unfold Builtin.List.listTooLong;exact KJ ()
end
section
variable{X:Cx}
def zV:V->List V->Hp->VK->Prop:=fun x vs H Q=>∃l xs y,x=.ref l/\vs=[y]/\H l=KA (.lst xs)/\xs.length<Hy/\Q .non (upd H l (.lst (xs++[y])))
theorem iZ:YE X "list.append" zV:=by intro KQ s σ H x vs v us Q I c d h;obtain⟨l,xs,y,rfl,rfl,b,g,q⟩:=h;cases c;obtain⟨u,rfl,f⟩:=d.one;obtain⟨z,a,n,r,i,e⟩:=I.pf b;refine call_meets F.slot_list_append ⟨_,e,rfl⟩ F.entry_list_append (F.args_list_append_2 _ _) (PySem.list_append l a.toArray n u (by rw[HI];omega)) ⟨e,?_⟩;refine⟨.non,_,I.Em (its':=a++[u]) b e (by simp) (r.append (.cons f .nil)) ?_,rfl,q⟩;rw[IJ,List.length_singleton];omega
def GL:R2:=fun x y H Q=>∃l b xs a,x=.ref l/\y=.ref b/\H l=KA (.lst xs)/\H b=KA (.lst a)/\xs.length+a.length<=Hy/\∀p,H p=KC->Q (.ref p) (upd H p (.lst (xs++a)))
theorem Du:Lh X (Jt .Add) GL:=by
 intro KQ s σ H x y v u Q I d f h;obtain⟨l,b,xs,m,rfl,rfl,g,i,o,q⟩:=h;cases d;cases f;obtain⟨z,c,n,r,p,e⟩:=I.pf g;obtain⟨t,a,w,j,k,e2⟩:=I.pf i;refine PySem.P.add_list e e2 ?_ (by rw[HI,HI];omega);have ea:c.toArray++a.toArray=(c++a).toArray:=by simp
 rw[ea];exact⟨.ref _,_,I.Ff (t':=s.toks) (r.append j) (by rw[IJ];omega),rfl,q _ I.fresh⟩
def GQ:R2:=fun x y H Q=>∃l k xs,x=.ref l/\y=.int k/\H l=KA (.lst xs)/\-(2^63)<=k/\k<2^63/\xs.length*k.toNat<=Hy/\
 ∀p,H p=KC->Q (.ref p) (upd H p (.lst (HY k.toNat xs).flatten))
theorem len_rep{a:Type}(xs:List a)(k:Nat):(HY k xs).flatten.length=k*xs.length:=by
 induction k with
 |zero=>simp
 |succ k b=>rw[Je,K2,IJ,b,Nat.succ_mul,Nat.add_comm]
theorem Dp:Lh X (Jt .Mult) GQ:=by
 intro KQ s σ H x y v u Q I p w h;obtain⟨l,k,xs,rfl,rfl,A,h1,B,o,q⟩:=h;cases p;obtain⟨t,rfl⟩:=w;obtain⟨z,b,n,r,C,e⟩:=I.pf A;have d:b.toArray.size*k.toNat<=Hy:=by rw[HI,<-C];exact o
 have f:¬b.toArray.size*k.toNat>(2^63-1)/8:=by
  have:(Hy:Nat)<=(2^63-1)/8:=⋯
  omega
 have g:¬(!Builtin.List.listFitsIndex k)=KD:=by rw[fitsIndex_both h1 B];exact HJ
 have c:¬Builtin.List.listTooLong (b.toArray.size*k.toNat)=KD:=by rw[wB d];exact HJ
 have i:List.foldl (fun x1 j=>x1++j) #[] (HY (if b.toArray.isEmpty=KD then 0 else k.toNat) b.toArray)=(HY k.toNat b).flatten.toArray:=by
  have D:∀m:Nat,List.foldl (fun x1 j=>x1++j) #[] (HY m b.toArray)=(HY m b).flatten.toArray:=fun m=>by
   have:=foldl_rep b m []
   rw[List.nil_append]at this
   exact this
  rw[D]
  cases b with
  |nil=>simp
  |cons a G=>rw[KH (by simp)]
 refine wpAny_binaryOp_repeat_ref (T:="list") (U:="int") ⋯ ⟨_,e,rfl⟩ (fun E=>typeIs_int E k t) noFill_list_mul F.fills_int_mul F.slot_int_rmul repeat_list F.slot_int_index.lookup
  (call_meets F.slot_int_rmul (typeIs_int s k t) F.entry_int_rmul (F.args_int_rmul_2 _ _) (int___rmul___int_list k t l b.toArray n)
   ⟨e,rfl,⟨_,e,rfl⟩,call_meets F.slot_list_mul ⟨_,e,rfl⟩ F.entry_list_mul (F.args_list_mul_2 _ _) (AutoListH.list___mul___list_int_3 l b.toArray n k t g f c) ⟨e,?_⟩⟩)
 rw[i];exact⟨.ref _,_,I.Ff (t':=s.toks) (r.rep k.toNat) (by rw[len_rep,Nat.mul_comm];exact o),rfl,q _ I.fresh⟩
end
end L2
namespace Att
open PySem PySem.W PySem.Calls PyProof.Rows
theorem jw{P:Hw}{h:Heap}:∀(ns:List Int) (vs:List Hj),WellAll P h vs (ns.map WData.int)->JF vs ns:=by
 intro ns
 induction ns with
 |nil=>
  intro vs w
  rw[Jb]at w
  cases w
  exact .nil
 |cons n ns c=>
  intro vs w
  rw[Hs]at w
  cases w with
  |cons a b=>
   cases a
   exact .cons _ _ (c _ b)
theorem ur{l:OpenLaw}{n:Nat}(o:l.most=KA n){P:Hw}{h:Heap}{args:List WData}{b:List Hj}
 (c:l.row.toRowW.claim.pre args=KD) (j:WellAll P h b args) :
 ∃a vs ns,b=[Ii a]/\args=[WData.list (ns.map WData.int)]/\h.get? a=KA { cls:=.type "list",data:=.seq vs.toArray }/\JF vs ns/\ns.length<=n:=by
 have k:WShape.hasAll [] args [.list .int]=KD:=(pre_splitW c).1
 have m:l.pre.holds [] { args:=args }=KD:=(pre_splitW c).2
 obtain⟨d,r,rfl,h1,p⟩:=hasAllW_cons k
 obtain rfl:=hasAllW_nil p
 obtain⟨xs,rfl,s⟩:=hasW_list h1
 obtain⟨ns,rfl⟩:=items_int s
 have e:ns.length<=n:=by
  unfold OpenLaw.pre at m
  have g:(WTm.not (.lt (.lit (.int (n:Int))) (.len (.arg 0)))).holds [] { args:=[.list (ns.map .int)] }=KD:=by
   have g:=(holds_andW m).1
   rw[o]at g
   exact g
  have i:=condW_of g (w_not (w_lt w_lit (w_len_list (w_arg rfl))))
  rw[Hn]at i
  refine Nat.le_of_not_lt fun q=>?_
  have t:(n:Int)<((ns.length:Nat):Int):=()
  first
   |(rw[KL t]at i;exact absurd i ⋯)
   |(simp at i;omega)
 cases j with
 |cons u v=>
  cases v
  cases u with
  |list w f=>exact⟨_,_,ns,rfl,rfl,w,jw ns _ f,e⟩
theorem uk(l:OpenLaw)(args:List WData):l.row.toRowW.claim.post args (.bool KD) args=KD:=
 postW_of (r:=l.row.toRowW) (X:=(KD==KD))
  (show WShape.has [] (.bool KD) .bool=KD by first|rfl|decide|simp[WShape.has,WShape.arms,WShape.armsAll])
  (show(WTm.eq .res (.lit (.bool KD))).value [] { args:=args,res:=KA (.bool KD),after:=args }=KA (.bool (KD==KD))from w_eq_bool (w_res rfl) w_lit) rfl
theorem pg{l:OpenLaw}{n:Nat}{q:HF}{c:List Str}{y:(Str->Option Hj)->Heap->Prop}{z:Ih->Heap->Prop}{d:DefRec}
 (D:l.most=KA n) (p:d.params.defaults=[])
 (call:∀(w:Ih) (s₀ b:Hk) (mg s:Str->Option Hj) (fa:Addr) (o:Obj) (t k e:Hj) (a:Addr) (vs:List Hj) (ns:List Int),
  Ground q c [] y w s₀ mg s b.heap->z w b.heap->
  b.heap.get? fa=KA o->o.data=.func (docDef d.name d.params d.body d.scope t k e)->b.heap.CodeRec k d.name->mg d.name=KA (.ref fa)->
  b.heap.get? a=KA { cls:=.type "list",data:=.seq vs.toArray }->JF vs ns->ns.length<=n->b.gens=#[]->
  Jo (HC l.prog w) callerA (.call (.ref fa) ⟨[.ref a],[]⟩) (fun r m=>r=.ok (.ret (.bool KD))/\OldK b.heap m.heap/\m.os=b.os/\AllBare m.gens) b) :
 WalkO q c y z l.row.toRowW d [] (fun f vs=>PySem.call f vs):=by
 intro w s₀ b mg s G Y fa o t k e E kV F hd u A v H args B P h C I x J
 obtain rfl:E=.none:=Dflts.none A p
 obtain rfl:kV=.none:=Dflts.noKw A
 obtain⟨a,vs,ns,rfl,rfl,i,g,j⟩:=ur D h x
 refine enter_call (codeAny_mono (call w s₀ b mg s fa o t k e a vs ns G Y F (fd_plain hd) u v i g j H) fun r m K=>?_)
 obtain⟨rfl,L,M,N⟩:=K
 exact⟨.inl ⟨.bool KD,.bool KD,[],rfl,fun _=>rfl,.bool KD,uk l _,fun _=>⟨List.Pairwise.nil,fun _ O=>(nomatch O)⟩⟩,L,M,N⟩
section
variable{prog:HF}{w:Ih}{A:Ij}{E:Hj->Hk->Prop}{s:Hk}{K:Frag}
end
end Att
namespace L2
open PySem PySem.Spec PyProof.Rows
theorem mD:∀{vs:List Hj} {ns:List Int},JF vs ns->Vals (ns.map V.int) vs
 |_,_,.nil=>.nil
 |_,_,.cons n t h=>.cons ⟨t,rfl⟩ (mD h)
def C1(H:Hp):Prop:=∀b,H b=KC\/∃o xs,H b=KA (.frz o (.lst xs))
theorem wk{P:HF}{w:Ih}{K:H0}{mg L:Str->Option Hj}{CX:N8}{k:Nat}{fa a:Addr}{fd:JT}{x:Str}{sp:Sp}{c:Hk}{vs:List Hj}{ns:List Int}
 (T:K.In c.heap) (y:c.heap.Ns Ir mg) (g:c.heap.Ns builtinsNs L) (M:∀x:Str,x≠"__name__"->L x=ID x) (A:c.heap.NoLimit) (hg:c.gens=#[])
 (J:c.heap.get? a=KA { cls:=.type "list",data:=.seq vs.toArray }) (U:JF vs ns) (W:ns.length<=Hy) (hr:LH k callerA)
 (F:∀base:Heap,K.In base->base.Ns Ir mg->L5 P w K mg base CX k fa fd [x] sp) (t:∀(s:Hk) (u:Hj),BindsTo s fd ⟨[u],[]⟩ [(x,u)])
 (N:∀H:Hp,C1 H->LR K H a (ns.map V.int)->sp [.ref a] H (fun v _=>v=.bl KD) fun _ _ _=>False)
 (O:∀H e i,CX [] H c (fun _ _ _=>False) e i->False) :
 Jo (HC P w) callerA (.call (.ref fa) ⟨[.ref a],[]⟩) (fun r i=>r=.ok (.ret (.bool KD))/\OldK c.heap i.heap/\i.os=c.os/\AllBare i.gens) c:=by
 have X:=mD U
 have B:=U.length
 have p:∀H:Hp,C1 H->LR K H a (ns.map V.int)->Ll P w H c.heap->(∀b,H b≠KC->b=a)->(H a≠KC->K.lookup a=KC)->
  Jo (HC P w) callerA (.call (.ref fa) ⟨[.ref a],[]⟩) (fun r i=>r=.ok (.ret (.bool KD))/\OldK c.heap i.heap/\i.os=c.os/\AllBare i.gens) c:=by
  intro H Y hS hok Z hK
  have f:∀{b:Addr} {o:Obj},c.heap.get? b=KA o->H b=KC->(nk c.heap H).get? b=KA o:=fun e n=>wU e n
  have Q:∀{b:Addr} {o:Obj} {C:Array IL} {D:Nat},c.heap.get? b=KA o->o.data=.dict C D->H b=KC:=fun{b o C D} e d=>by
   cases q:H b with
   |none=>rfl
   |some u=>
    have R:b=a:=Z b (by rw[q];simp)
    subst R
    rw[J]at e;cases e
    have d':Data.seq vs.toArray _=Data.dict C D:=d
    cases d'
  have j:∀{b:Addr} {m:Str->Option Hj},c.heap.Ns b m->(nk c.heap H).Ns b m:=fun{b m} l=>by obtain⟨o,C,D,e,d,r⟩:=l;exact(⟨o,C,D,f e (Q e d),d,r⟩)
  have E:K.In (nk c.heap H):=fun b o e=>f (T b o e) (by
   cases q:H b with
   |none=>rfl
   |some u=>
    have R:b=a:=Z b (by rw[q];simp)
    subst R
    rw[hK (by rw[q];simp)]at e;cases e)
  have hM:Mod K mg (nk c.heap H):=⟨E,j y,⟨L,j g,M⟩,let⟨mc,h1,h2⟩:=A;⟨mc,j h1,h2⟩⟩
  have e0:N3 P w K mg (nk c.heap H) callerA [] c H:=⟨rfl,hM,fun b o e=>y8 e,Nat.le_of_eq (uj _ _),trivial,fun b g=>absurd (show b∈([]:List Addr)from g) (by simp),hok,.of_eq hg⟩
  refine codeAny_mono ((F _ E (j y)).run callerA [] c H ⟨[.ref a],[]⟩ [.ref a] [.ref a] _ _ hr e0 (t c (.ref a)) (.cons rfl .nil) (N H Y hS)) fun r i h=>?_
  cases r with
  |error e=>exact(O H e i h).elim
  |ok fl=>
   cases fl with
   |next=>exact HS h
   |brk=>exact HS h
   |cont=>exact HS h
   |ret u=>
    obtain⟨v,H',os,bare,un,G,r',q⟩:=h
    have q':v=.bl KD:=q
    subst q'
    obtain rfl:u=Value.bool KD:=r'
    refine⟨rfl,OldK.of_keep fun b o e=>?_,os,bare⟩
    cases q:H b with
    |none=>exact un.keep b o e q (by intro z;exact absurd (show b∈([]:List Addr)from z) (by simp)) (by simp)
    |some u=>
     rcases Y b with z|⟨ob,xs,z⟩
     ·rw[q]at z;cases z
     ·have z2:=un.frzs b ob _ z
      obtain⟨e1,_⟩:=hok b _ z
      obtain⟨e2,_⟩:=G b _ z2
      rw[e]at e1;cases e1
      exact e2
 cases S:K.lookup a with
 |some o=>
  have e:=T a o S
  rw[J]at e
  cases e
  refine p (fun _=>KC) (fun _=>.inl rfl) (.inr ⟨_,vs.toArray,_,S,rfl,rfl,rfl,by rw[HI,B];exact W,by simpa using X⟩) (fun b u z=>by have I:(KC:Option HO)=KA u:=z;cases I) (fun b z=>absurd rfl z) fun z=>absurd rfl z
 |none=>
  refine p (fun b=>if b=a then KA (.frz { cls:=.type "list",data:=.seq vs.toArray } (.lst (ns.map V.int)))else KC) (fun b=>?_) (.inl (.inr ⟨{ cls:=.type "list",data:=.seq vs.toArray },KI rfl⟩)) (fun b u z=>?_) (fun b z=>?_) fun _=>S
  ·by_cases g:b=a
   ·exact .inr ⟨_,_,KI g⟩
   ·exact .inl (KH g)
  ·by_cases g:b=a
   ·have I:=(KI g).symm.trans z
    cases I
    subst g
    exact⟨J,by rw[Hn];exact W,vs,_,X,J⟩
   ·have I:=(KH g).symm.trans z
    cases I
  ·by_cases g:b=a
   ·exact g
   ·exact absurd (KH g) z
abbrev KOf{K:H0}{h:Heap}(_:K.In h):H0:=K
theorem zh{l:PySem.W.OpenLaw}{n k:Nat}{q:HF}{i:List Str}{E:(Str->Option Hj)->Heap->Prop}{C:Ih->Heap->Prop}{d:DefRec}{K:Hw->H0}{CX:Ih->N8}{sp:Ih->Sp}{x:Str}
 (I:l.most=KA n) (r:n<=Hy) (t:d.params.defaults=[]) (J:LH k callerA)
 (L:∀(w:Ih) (h:Heap),C w h->(K w.params).In h)
 (F:∀(w:Ih) (mg:Str->Option Hj) (fa:Addr) (h:Heap),(K w.params).In h->h.Ns Ir mg->mg d.name=KA (.ref fa)->
  ∃fd:JT,(∀(s:Hk) (u:Hj),BindsTo s fd ⟨[u],[]⟩ [(x,u)])/\
   ∀base:Heap,(K w.params).In base->base.Ns Ir mg->L5 l.prog w (K w.params) mg base (CX w) k fa fd [x] (sp w))
 (y:∀(w:Ih) (H:Hp) (a:Addr) (ns:List Int),ns.length<=n->C1 H->LR (K w.params) H a (ns.map V.int)->sp w [.ref a] H (fun v _=>v=.bl KD) fun _ _ _=>False)
 (z:∀(w:Ih) (H:Hp) (s:Hk) (e:Hj) (A:Hk),CX w [] H s (fun _ _ _=>False) e A->False) :
 PySem.W.WalkO q i E C l.row.toRowW d [] (fun f vs=>PySem.call f vs):=by
 refine Att.pg I t fun w s₀ m mg S fa o U X M a vs ns G Y Z hd N B p j c O=>?_
 have D:=L w _ Y
 obtain⟨fd,P,hF⟩:=F w mg fa _ D G.T.g B
 exact wk D G.T.g G.T.b G.T.builtins G.T.nolimit O p j (IA c r) J hF P (fun H Q R=>y w H a ns c Q R) fun H e A=>z w H m e A
def bF(s:Stmt):Arguments:=match s with
 |.FunctionDef _ a _ _ _ _ _ _ _ _=>a
 |_=>{ posonlyargs:=[],args:=[],vararg:=KC,kwonlyargs:=[],kw_defaults:=[],kwarg:=KC,defaults:=[] }
def aR(s:Stmt):List Stmt:=match s with
 |.FunctionDef _ _ b _ _ _ _ _ _ _=>b
 |_=>[]
def ao(s:Stmt):JC:=match s with
 |.FunctionDef _ _ _ _ _ _ sc _ _ _=>sc
 |_=>{ kind:=.function,names:=[],isGenerator:=KG,isCoroutine:=KG }
abbrev Mf:N8:=fun _ _ _ _ _ _=>False
abbrev E0:XK:=fun _ _ _=>False
theorem FG{X:Cx}:Passes Mf X E0:=fun _ _ _ _ _ _ _ h=>h.elim
structure PQ(K:H0)(x qual:Str)(st:Stmt)(f:Addr)(fd:JT):Prop where
 ex:∃(oc:Hj) (od:Option Addr) (kV doc pm:Hj) (an:Option Addr) (cdv ct:Hj) (osl:Array (Option Hj)),
  fd=Ja x qual (bF st) (aR st) (ao st) .none kV doc pm an cdv ct/\K.lookup f=KA ⟨oc,od,.func fd,osl⟩/\PySem.W.codeIn K cdv qual=KD
 kp:JD K (.ref f)=KD
section
variable{P:HF}{w:Ih}{K:H0}{mg:Str->Option Hj}{base:Heap}
theorem PQ.ok{x qual:Str}{st:Stmt}{f:Addr}{fd:JT}{N ps:List Str}{k:Nat}{sp:Sp}(F:PQ K x qual st f fd)(S:Kv N ps (ao st))(len:∀vs H Q E,sp vs H Q E->vs.length=ps.length)
 (a:∀(cdv:Hj) (A:Ij) (outer:List Env) (s:Hk) (H:Hp) (vs:List V) (Q:VK) (E:XK),LH k (A.deeper (envOfC qual (ao st) s.heap.objs.size f cdv))->sp vs H Q E->
  ∃t,Mi (bg Mf P w K mg base N qual (ao st) f cdv A outer s H E).nox (aR st) t/\t { nx:=fun _ d=>Q .non d,rt:=Q } (start N vs) H):L5 P w K mg base Mf (k+1) f fd ps sp:=by
 obtain⟨oc,od,kV,e,i,an,cdv,ct,osl,rfl,lk,b⟩:=F.ex
 refine A5 lk b S len fun A outer s H vs Q E g c=>?_
 obtain⟨t,h,q⟩:=a cdv A outer s H vs Q E g c
 exact⟨t,h.nox,q⟩
theorem PQ.binds{x qual:Str}{st:Stmt}{f:Addr}{fd:JT}{ps:List Str}(F:PQ K x qual st f fd) (h:∀(kV a b:Hj) (an:Option Addr) (cdv ct:Hj) (us:List Hj),us.length=ps.length->bindArgs (Ja x qual (bF st) (aR st) (ao st) .none kV a b an cdv ct) ⟨us,[]⟩=pure (ps.zip us)):Binds K fd ps []:=by obtain⟨oc,od,kV,a,b,an,cdv,ct,osl,rfl,lk,c⟩:=F.ex;exact .all (h kV a b an cdv ct)
theorem yc{x qual:Str}{st:Stmt}{f:Addr}{oc:Hj}{od an:Option Addr}{osl:Array (Option Hj)}{kV a b cdv ct:Hj}(l:K.lookup f=KA ⟨oc,od,.func (Ja x qual (bF st) (aR st) (ao st) .none kV a b an cdv ct),osl⟩) (c:PySem.W.codeIn K cdv qual=KD) (k:JD K (.ref f)=KD):PQ K x qual st f (Ja x qual (bF st) (aR st) (ao st) .none kV a b an cdv ct):=⟨⟨oc,od,kV,a,b,an,cdv,ct,osl,rfl,l,c⟩,k⟩
end
section
variable{X:Cx}
theorem pv(i:Nat){x:Str}{pos:Pos}(b:X.N[i]?=KA x:=by rfl)(c:QJ X.env.scope x:=by first|exact Or.inl rfl|exact Or.inr (Or.inl rfl)|exact Or.inr (Or.inr rfl))(hd:(x==("__debug__":Str))=KG:=by decide) (a:(x==("__classdict__":Str))=KG:=by decide):PE X (.Name x pos) (xJ i):=wm b c hd a
end
theorem lG{A B:Prop}(h:A):if KD=KD then A else B:=by rw[KI rfl];exact h
theorem bD{c A B:Prop}[Decidable c](h1:c->A)(a:¬c->B):if c then A else B:=by
 by_cases h:c
 ·rw[KI h];exact h1 h
 ·rw[KH h];exact a h
section
variable{κ:Type}[DecidableEq κ]
def d5(kvs:List (κ×V))(k:κ):Option V:=(kvs.find? fun a=>decide (a.1=k)).map (·.2)
def putK(kvs:List (κ×V))(k:κ)(v:V):List (κ×V):=
 if(kvs.any fun a=>decide (a.1=k))=KD then kvs.map (fun a=>if a.1=k then(a.1,v)else a)else kvs++[(k,v)]
theorem bM{p:κ×V}{r:List (κ×V)}{k:κ}(e:p.1=k):d5 (p::r) k=KA p.2:=by simp[d5,HZ,e]
theorem bU{p:κ×V}{r:List (κ×V)}{k:κ}(e:¬p.1=k):d5 (p::r) k=d5 r k:=by simp[d5,HZ,e]
theorem dq(k:κ):∀kvs:List (κ×V),(kvs.any fun a=>decide (a.1=k))=(d5 kvs k).isSome
 |[]=>rfl
 |p::r=>by
  rw[JP]
  by_cases e:p.1=k
  ·simp only[bM e,KL e,Bool.true_or,Option.isSome_some]
  ·rw[bU e,KJ e,Bool.false_or];exact dq k r
theorem oV(k j:κ)(y:V):∀kvs:List (κ×V),d5 (kvs.map fun a=>if a.1=k then(a.1,y)else a) j=(d5 kvs j).map fun x=>if j=k then y else x
 |[]=>rfl
 |p::r=>by
  have b:=oV k j y r
  rw[Hs]
  by_cases h:p.1=k
  ·rw[KI h]
   by_cases e:p.1=j
   ·rw[bM (p:=(p.1,y)) e,bM e,Option.map_some,KI (e.symm.trans h)]
   ·rw[bU (p:=(p.1,y)) e,bU e,b]
  ·rw[KH h]
   by_cases e:p.1=j
   ·rw[bM (p:=p) e,bM e,Option.map_some,KH (fun z=>h (e.trans z))]
   ·rw[bU (p:=p) e,bU e,b]
theorem l7(k j:κ)(y:V):∀kvs:List (κ×V),d5 kvs k=KC->d5 (kvs++[(k,y)]) j=if j=k then KA y else d5 kvs j
 |[],_=>by
  by_cases e:k=j
  ·rw[KI e.symm];exact bM (p:=(k,y)) e
  ·rw[KH (fun z=>e z.symm)];exact bU (p:=(k,y)) e
 |p::r,hn=>by
  rw[List.cons_append]
  have a:¬p.1=k:=fun z=>by rw[bM z]at hn;cases hn
  rw[bU a]at hn
  have b:=l7 k j y r hn
  by_cases e:p.1=j
  ·rw[bM e,bM e,KH (fun z=>a (e.trans z))]
  ·rw[bU e,bU e,b]
theorem xi(kvs:List (κ×V))(k j:κ)(y:V):d5 (putK kvs k y) j=if j=k then KA y else d5 kvs j:=by
 unfold putK;by_cases a:(kvs.any fun b=>decide (b.1=k))=KD
 ·rw[KI a,oV];rw[dq]at a;by_cases e:j=k
  ·obtain⟨x,c⟩:=Option.isSome_iff_exists.mp a;rw[KI e,e,c,Option.map_some,KI rfl]
  ·rw[KH e];cases d5 kvs j with
   |none=>rfl
   |some x=>rw[Option.map_some,KH e]
 ·rw[KH a];refine l7 k j y kvs ?_;rw[dq]at a;cases q:d5 kvs k with
  |none=>rfl
  |some x=>rw[q]at a;exact(a rfl).elim
theorem fN(kvs:List (κ×V))(k:κ)(v:V):(putK kvs k v).length<=kvs.length+1:=by
 unfold putK;split
 ·rw[Hn];omega
 ·rw[IJ,Iu,List.length_nil];omega
theorem jD.iI{o:Option V}{u:Option Hj}(r:jD o u):o.isSome=u.isSome:=by
 cases o with
 |none=>cases u with
  |none=>rfl
  |some _=>exact(show False from r).elim
 |some _=>cases u with
  |none=>exact(show False from r).elim
  |some _=>rfl
theorem KV.val{kvs:List (κ×V)}{vs:List (κ×Hj)}(r:KV kvs vs)(k:κ):jD (d5 kvs k) (valueAt vs k):=by
 unfold KV at r
 induction r with
 |nil=>exact Jv
 |@cons p q ps qs h t ih=>
  obtain⟨h1,c⟩:=h
  by_cases e:p.1=k
  ·have a:q.1=k:=h1.symm.trans e;have b:valueAt (q::qs) k=KA q.2:=by simp[valueAt,HZ,a]
   rw[bM e,b];exact c
  ·have a:¬q.1=k:=fun z=>e (h1.trans z);have b:valueAt (q::qs) k=valueAt qs k:=by simp[valueAt,HZ,a]
   rw[bU e,b];exact ih
theorem KV.any{kvs:List (κ×V)}{vs:List (κ×Hj)}(r:KV kvs vs)(k:κ):(kvs.any fun a=>decide (a.1=k))=vs.any fun a=>decide (a.1=k):=by
 unfold KV at r
 induction r with
 |nil=>rfl
 |cons h t b=>rw[JP,JP,b,h.1]
theorem KV.BK{kvs:List (κ×V)}{vs:List (κ×Hj)}(r:KV kvs vs)(k:κ){y:V}{u:Hj}(b:RelV y u) :
 KV (kvs.map fun a=>if a.1=k then(a.1,y)else a) (vs.map fun a=>if a.1=k then(a.1,u)else a):=by
 unfold KV at r ⊢
 induction r with
 |nil=>exact .nil
 |@cons p q ps qs h t ih=>
  rw[Hs,Hs]
  refine .cons ?_ ih
  obtain⟨h1,c⟩:=h
  by_cases e:p.1=k
  ·rw[KI e,KI (h1.symm.trans e)];exact⟨h1,b⟩
  ·rw[KH e,KH (fun z=>e (h1.trans z))];exact⟨h1,c⟩
theorem KV.put{kvs:List (κ×V)}{vs:List (κ×Hj)}(r:KV kvs vs)(k:κ){y:V}{u:Hj}(a:RelV y u):KV (putK kvs k y) (stored vs k u):=by
 unfold putK stored;rw[r.any k];by_cases e:(vs.any fun b=>decide (b.1=k))=KD
 ·rw[KI e,KI e];exact r.BK k a
 ·rw[KH e,KH e];exact Paired.snoc r ⟨rfl,a⟩
theorem KV.length{kvs:List (κ×V)}{vs:List (κ×Hj)}(r:KV kvs vs):kvs.length=vs.length:=Paired.length r
end
theorem yd{P:HF}{w:Ih}{k:Key}{u:Hj}(r:RelV (kV k) u):(bI P w).is k u=KD:=by
 cases k with
 |inl i=>obtain⟨t,e⟩:=(show ∃t,u=Value.int i t from r);subst e;exact oX P w i t
 |inr x=>obtain⟨t,e⟩:=(show ∃t,u=Value.str x t from r);subst e;exact nW P w x t
theorem mI{P:HF}{w:Ih}:∀{ks:List Key} {us:List Hj},Vals (ks.map kV) us->ItemsAre (bI P w) ks us
 |[],_,r=>by rw[Jb]at r;cases r;exact .nil
 |k::ks,_,r=>by
  rw[Hs]at r
  cases r with
  |cons h t=>exact .cons (yd h) (mI t)
abbrev KT(H:Hp):List (List Key×V)->List (List Key×Addr×Hj)->Prop:=Kb fun p q=>p.1=q.1/\H q.2.1=KA (.tup (p.1.map kV))/\RelV p.2 q.2.2
theorem KT.val{H:Hp}{kvs:List (List Key×V)}{xs:List (List Key×Addr×Hj)}(r:KT H kvs xs)(k:List Key):jD (d5 kvs k) ((atKey xs k).map (·.2)):=by
 induction r with
 |nil=>exact Jv
 |@cons p q ps qs h t ih=>
  obtain⟨h1,_,c⟩:=h
  by_cases e:p.1=k
  ·have a:q.1=k:=h1.symm.trans e;have b:atKey (q::qs) k=KA q.2:=by simp[atKey,HZ,a]
   rw[bM e,b];exact c
  ·have a:¬q.1=k:=fun z=>e (h1.trans z);have b:atKey (q::qs) k=atKey qs k:=by simp[atKey,HZ,a]
   rw[bU e,b];exact ih
theorem KT.BK{H:Hp}{kvs:List (List Key×V)}{xs:List (List Key×Addr×Hj)}(r:KT H kvs xs)(k:List Key){y:V}{u:Hj}(c:RelV y u) :
 KT H (kvs.map fun a=>if a.1=k then(a.1,y)else a) (xs.map (putAt k u)):=by
 induction r with
 |nil=>exact .nil
 |@cons p q ps qs h t ih=>
  rw[Hs,Hs]
  refine .cons ?_ ih
  obtain⟨h1,b,d⟩:=h
  unfold putAt
  by_cases e:p.1=k
  ·rw[KI e,KI (h1.symm.trans e)];exact⟨h1,b,c⟩
  ·rw[KH e,KH (fun z=>e (h1.trans z))];exact⟨h1,b,d⟩
theorem KT.put{H:Hp}{kvs:List (List Key×V)}{xs:List (List Key×Addr×Hj)}(r:KT H kvs xs)(k:List Key){b:Addr}{y:V}{u:Hj}(c:H b=KA (.tup (k.map kV)))(a:RelV y u) :
 KT H (putK kvs k y) (storedH xs k b u):=by
 have e:(kvs.any fun d=>decide (d.1=k))=(atKey xs k).isSome:=by
  rw[dq,(r.val k).iI,Option.isSome_map]
 unfold putK storedH
 rw[e]
 by_cases q:(atKey xs k).isSome=KD
 ·rw[KI q,KI q];exact r.BK k a
 ·rw[KH q,KH q];exact Paired.snoc r ⟨rfl,c,a⟩
theorem KT.keeps{H a:Hp}{kvs:List (List Key×V)}{xs:List (List Key×Addr×Hj)}(r:KT H kvs xs)(d:∀b c,H b=KA (.tup c)->a b=KA (.tup c)):KT a kvs xs:=Paired.FI r fun _ _ z=>⟨z.1,d _ _ z.2.1,z.2.2⟩
section
variable{P:HF}{w:Ih}{H:Hp}{h:Heap}{a:Addr}
theorem Bf{u:HO}(ok:Ll P w H h)(e:Rd H a u):bG P w H h a u:=e.ok ok
theorem A9{kvs:List (Key×V)}(ok:Ll P w H h)(e:Rd H a (.dK kvs)):kvs.length<=Hy/\(a==Jj)=KG/\∃vs,KV kvs vs/\h.DictOf (bI P w) a vs:=show bG P w H h a (.dK kvs)from Bf ok e
theorem EY{kvs:List (Key×V)}(ok:Ll P w H h)(e:H a=KA (.dK kvs)):kvs.length<=Hy/\(a==Jj)=KG/\∃vs,KV kvs vs/\h.DictOf (bI P w) a vs:=A9 ok (.inl e)
theorem rA{ks:List Key}(ok:Ll P w H h)(e:H a=KA (.tup (ks.map kV))):(tupleKind (bI P w)).is h ks a:=by obtain⟨_,b,r,⟨o,h1,c,n,d⟩,_⟩:=(show bG P w H h a (.tup (ks.map kV))from ok a _ e);exact⟨o,b.toArray,n,h1,c,d,by simpa using mI r⟩
theorem BF{kvs:List (List Key×V)}(ok:Ll P w H h)(e:Rd H a (.dT kvs)):kvs.length<=Hy/\(a==Jj)=KG/\
 ∃xs,KT H kvs xs/\h.DictOfH (tupleKind (bI P w)) a xs:=by
 obtain⟨z,y,xs,r,o,c,d,h1,f,g,i,j⟩:=(show bG P w H h a (.dT kvs)from Bf ok e)
 refine⟨z,y,xs,r,o,c,d,h1,f,g,i,fun x b=>?_,j⟩
 have all:∀{l:List (List Key×V)} {m:List (List Key×Addr×Hj)},KT H l m->∀x∈m,(tupleKind (bI P w)).is h x.1 x.2.1:=by
  intro l m q
  induction q with
  |nil=>intro x b;exact nomatch b
  |@cons p q ps qs hq t ih=>
   intro x b
   rcases HW.mp b with e|b
   ·subst e
    exact rA ok (by rw[<-hq.1];exact hq.2.1)
   ·exact ih x b
 exact all r x b
theorem Fq{kvs:List (List Key×V)}(ok:Ll P w H h)(e:H a=KA (.dT kvs)):kvs.length<=Hy/\(a==Jj)=KG/\∃xs,KT H kvs xs/\h.DictOfH (tupleKind (bI P w)) a xs:=BF ok (.inl e)
end
def Dc(H:Hp)(a:Addr)(y:V)(r:Option V):Prop:=
 (∃kvs k,Rd H a (.dK kvs)/\y=kV k/\r=d5 kvs k)\/∃kvs k b,Rd H a (.dT kvs)/\y=.ref b/\H b=KA (.tup (k.map kV))/\r=d5 kvs k
def Fo(H:Hp)(a:Addr)(y v:V)(c:Hp):Prop:=
 (∃kvs k,H a=KA (.dK kvs)/\y=kV k/\kvs.length<Hy/\c=upd H a (.dK (putK kvs k v)))\/
 ∃kvs k b,H a=KA (.dT kvs)/\y=.ref b/\H b=KA (.tup (k.map kV))/\kvs.length<Hy/\c=upd H a (.dT (putK kvs k v))
section
variable{X:Cx}{KQ:List (Addr×Obj)}{σ:St}{H:Hp}{s:Hk}{a:Addr}{y v:V}{u r:Hj}{o:Option V}{A:Ij}{E:Hj->Hk->Prop}
theorem Inv.big(I:Inv X KQ σ H s):Jj<s.heap.objs.size:=by have h:Ir<s.heap.objs.size:=(I.mod.glob.keeps I.bk).lt;exact Nat.lt_trans ⋯ h
theorem yT{Q:Hj->Hk->Prop}(m:A.units+1<IZ)(I:Inv X KQ σ H s)(g:Dc H a y o)(i:RelV y u)(h:∀j,Inv X KQ σ H j->Q (.bool (!o.isSome)) j) : Hu (HC X.prog X.w) A (Iq .NotIn u (.ref a)) Q E s:=by
 rcases g with⟨kvs,k,e,d,l⟩|⟨kvs,k,b,e,d,eb,l⟩
 ·subst d;obtain⟨z,hd,vs,c,f⟩:=A9 I.hok e;refine wpAny_notIn_of (yd i) hd f.mapOf ?_;rw[<-(c.val k).iI,<-l];exact h _ (I.tok _)
 ·subst d;cases (show u=Ii b from i);obtain⟨z,hd,xs,c,f⟩:=BF I.hok e;refine wpAny_notIn_heap (tupleKind_room_in1 m) (rA I.hok eb) hd f ?_;have q:=(c.val k).iI;rw[Option.isSome_map]at q;rw[<-q,<-l];exact h _ (I.tok _)
theorem jK{h':Heap}{t':Nat}{ob:HO}(I:Inv X KQ σ H s)(c:Ve (H a))(d:K0 a s.heap h')(f:∃q,h'.get? a=KA q)(new:bG X.prog X.w (upd H a ob) h' a ob) : Inv X KQ σ (upd H a ob) { s with heap:=h',toks:=t' }:=I.write (x:=a) (e:=a) c (.inl rfl) (fun b q g z=>(d.2 b g).trans z) f new
theorem BZ{P:HF}{w:Ih}{c:Hp}{h':Heap}{kvs:List (Key×V)}{vs:List (Key×Hj)}(z:kvs.length<=Hy)(hd:(a==Jj)=KG)(b:KV kvs vs)(d:h'.DictOf (bI P w) a vs) : bG P w c h' a (.dK kvs):=⟨z,hd,vs,b,d⟩
theorem uY{B:Hp}{Q:Unit->Hk->Prop}(K:A.units+1<IZ)(I:Inv X KQ σ H s)(g:Fo H a y v B)(C:RelV y u)(D:RelV v r)(h:∀F,Inv X KQ σ B F->Q .unit F) : Hu (HC X.prog X.w) A (setItem (.ref a) u r) Q E s:=by
 rcases g with⟨kvs,k,e,j,l,m⟩|⟨kvs,k,b,e,j,eb,l,m⟩
 ·subst j m;obtain⟨z,hd,vs,d,n⟩:=EY I.hok e;have p:vs.length<=Hy:=by rw[<-d.length];exact z
  have t:(putK kvs k v).length<=Hy:=by have:=fN kvs k v;omega
  refine wpAny_setItem_pairs (hsz:=p) (yd C) n fun G f x=>h _ ?_;have L:∃q,G.get? a=KA q:=let⟨q,_,_,i,_⟩:=f;⟨q,i⟩
  exact jK I (by rw[e];exact Jv) x L (BZ t hd (d.put k D) f)
 ·subst j m;cases (show u=Ii b from C);obtain⟨z,hd,xs,d,n⟩:=Fq I.hok e;have p:xs.length<=Hy:=by rw[<-Paired.length d];exact z
  have t:(putK kvs k v).length<=Hy:=by have:=fN kvs k v;omega
  refine wpAny_setItem_heap (hsz:=p) (tupleKind_room_in1 K) (rA I.hok eb) n fun G f x=>h _ ?_;obtain⟨q,M,N,i,O,P,R,_,S⟩:=f;refine jK I (by rw[e];exact Jv) x ⟨q,i⟩ ⟨t,hd,_,(d.put k eb D).keeps fun c T J=>?_,q,M,N,i,O,P,R,S⟩;rw[aE (EB J e (fun z=>nomatch z))];exact J
end
def EX(i:Expr):Prop:=∀a b,subscripted i KG a b=operate [a,b] (getItem a b)
def AO(ty c:TE):TE:=fun σ H Q=>ty σ H fun y H1=>c σ H1 fun x b=>∃a o,x=.ref a/\Dc b a y o/\Q (.bl (!o.isSome)) b
def FW(c ty d:TE):TS:=fun D σ H=>d σ H fun v H1=>c σ H1 fun x e=>ty σ e fun y f=>∃a b,x=.ref a/\Fo f a y v b/\D.nx σ b
section
variable{X:Cx}{o i e value:Expr}{pos pos' KW:Pos}{td ty tv:TE}
theorem uN(b:X.A.units+1<IZ)(c:PE X i ty)(d:PE X o td):PC X .NotIn i o (AO ty td):=by intro KQ s σ H Q I h;refine LA (c KQ s σ H _ I h) fun v f ⟨y,H1,j,k,l⟩=>LA (d KQ f σ H1 _ j l) fun u w ⟨x,m,n,p,a,q,ex,g,r⟩=>?_;subst ex;obtain rfl:u=Ii a:=p;exact yT b n g k fun z t=>⟨.bl (!q.isSome),m,t,rfl,r⟩
theorem zk(b:X.A.units+1<IZ)(c:PE X o td)(d:PE X i ty)(f:PE X value tv)(j:JR value (KA (.Subscript o i pos')) pos.line X.env=pure KG) : PS X (.Assign [.Subscript o i pos'] value pos) (FW td ty tv):=by intro KQ s σ H D I h;refine wpAny_Assign_Subscript (LA (f KQ s σ H _ I h) fun r k ⟨v,H1,l,m,n⟩=>LA (c KQ k σ H1 _ l n) fun u p ⟨x,q,t,w,z⟩=>LA (d KQ p σ q _ t z) fun J K ⟨y,L,B,C,a,E,ex,g,F⟩=>?_) j;subst ex;obtain rfl:u=Ii a:=w;exact uY b B g C m fun M G=>⟨σ,E,G,F⟩
end
theorem wG{P:HF}{w:Ih}{H:Hp}(h:Heap)(a:Jj<h.objs.size):bG P w H (h.push { cls:=.type "dict",data:=.dict #[] }) h.objs.size (.dK []):=⟨Jl _,beq_eq_false_iff_ne.mpr (Ne.symm (Im a)),[],.nil,Heap.DictOf.new h⟩
def DR:TE:=fun _ H Q=>∀p,H p=KC->Q (.ref p) (upd H p (.dK []))
section
variable{X:Cx}{pos:Pos}
theorem vR:PE X (.Dict [] [] pos) DR:=fun KQ s σ H Q I h=>wpAny_Dict_empty ⟨.ref s.heap.objs.size,_,I.laid (a:=s.heap.objs.size) (o:=.dK []) (t':=s.toks) (fun _ _ q=>Ho _ q) (Hq _) (wG s.heap I.big),rfl,h _ (I.hok.fresh (Hq _))⟩
end
end L2
namespace SD
theorem vp{c:Type}{l:List c}(h:l.length=1):∃a,l=[a]:=by
 cases l with
 |nil=>cases h
 |cons a l=>
  cases l with
  |nil=>exact⟨a,rfl⟩
  |cons b l=>cases h
theorem BJ{b:Type}{n:Nat}{l:List b}(h:l.length=n+1):∃a r,l=a::r/\r.length=n:=by
 cases l with
 |nil=>cases h
 |cons a l=>exact⟨a,l,rfl,Nat.succ.inj h⟩
theorem rh{c:Type}{l:List c}(h:l.length=2):∃a b,l=[a,b]:=by obtain⟨a,r,rfl,d⟩:=BJ h;obtain⟨b,rfl⟩:=vp d;exact⟨a,b,rfl⟩
theorem Fu{d:Type}{l:List d}(h:l.length=3):∃a b c,l=[a,b,c]:=by obtain⟨a,r,rfl,e⟩:=BJ h;obtain⟨b,c,rfl⟩:=rh e;exact⟨a,b,c,rfl⟩
theorem Gv{e:Type}{l:List e}(h:l.length=4):∃a b c d,l=[a,b,c,d]:=by obtain⟨a,r,rfl,f⟩:=BJ h;obtain⟨b,c,d,rfl⟩:=Fu f;exact⟨a,b,c,d,rfl⟩
open PySem PySem.Spec PyProof.Rows L2
inductive D where
 |non|bl (b:Bool)|int (i:Int)|str (x:Str)|ty (n:String)|ref (a:Addr)|rol (ds:List D)|tup (ds:List D)
def QK(K:H0)(H:Hp)(a:Addr)(xs:List V):Prop:=
 (∃o,H a=KA (.frz o (.lst xs)))\/
  ∃(o:Obj) (b:Array Hj) (n:Nat),K.lookup a=KA o/\o.cls=.type "list"/\o.dict=KC/\o.data=.seq b n/\b.size<=Hy/\Vals xs b.toList
theorem QK.sql{K:H0}{H:Hp}{a:Addr}{xs:List V}(h:QK K H a xs):LR K H a xs:=by
 rcases h with h|h
 ·exact .inl (.inr h)
 ·exact .inr h
mutual
def Rep(K:H0)(H:Hp):D->V->Prop
 |.non,v=>v=.non
 |.bl b,v=>v=.bl b
 |.int i,v=>v=.int i
 |.str x,v=>v=.str x
 |.ty n,v=>v=.ty n
 |.ref a,v=>v=.ref a
 |.rol ds,v=>∃a xs,v=.ref a/\QK K H a xs/\aB K H ds xs
 |.tup ds,v=>∃a xs,v=.ref a/\LU K H a xs/\aB K H ds xs
def aB(K:H0)(H:Hp):List D->List V->Prop
 |[],xs=>xs=[]
 |d::ds,xs=>∃x r,xs=x::r/\Rep K H d x/\aB K H ds r
end
structure Ky(K:H0)(H H':Hp):Prop where
 t:∀a xs,LU K H a xs->LU K H' a xs
 f:∀a xs,QK K H a xs->QK K H' a xs
theorem Ky.refl{K:H0}{H:Hp}:Ky K H H:=⟨fun _ _ h=>h,fun _ _ h=>h⟩
theorem Ky.trans{K:H0}{H H1 c:Hp}(a:Ky K H H1)(b:Ky K H1 c):Ky K H c:=⟨fun x y h=>b.t x y (a.t x y h),fun x y h=>b.f x y (a.f x y h)⟩
theorem Ky.put{K:H0}{H:Hp}{p:Addr}{o:HO}(h1:∀xs,H p≠KA (.tup xs))(b:∀u xs,H p≠KA (.frz u xs)):Ky K H (upd H p o):=by
 refine⟨fun a xs h=>?_,fun a xs h=>?_⟩
 ·rcases h with(h|⟨u,h⟩)|h
  ·exact .inl (.inl (by rw[aE (by intro e;subst e;exact h1 _ h)];exact h))
  ·exact .inl (.inr ⟨u,by rw[aE (by intro e;subst e;exact b _ _ h)];exact h⟩)
  ·exact .inr h
 ·rcases h with⟨u,h⟩|h
  ·exact .inl ⟨u,by rw[aE (by intro e;subst e;exact b _ _ h)];exact h⟩
  ·exact .inr h
theorem Ky.new{K:H0}{H:Hp}{p:Addr}{o:HO}(h:H p=KC):Ky K H (upd H p o):=.put (fun xs e=>by rw[h]at e;cases e) (fun u xs e=>by rw[h]at e;cases e)
theorem Ky.lst{K:H0}{H:Hp}{p:Addr}{o:HO}{xs:List V}(h:H p=KA (.lst xs)):Ky K H (upd H p o):=.put (fun a e=>by rw[h]at e;cases e) (fun u a e=>by rw[h]at e;cases e)
mutual
theorem Rep.mono{K:H0}{H c:Hp}(g:Ky K H c):∀{d:D} {v:V},Rep K H d v->Rep K c d v
 |.non,_,h=>h
 |.bl _,_,h=>h
 |.int _,_,h=>h
 |.str _,_,h=>h
 |.ty _,_,h=>h
 |.ref _,_,h=>h
 |.rol ds,_,h=>by
  rw[Rep]at h ⊢
  obtain⟨a,xs,e,h1,b⟩:=h
  exact⟨a,xs,e,g.f _ _ h1,aB.mono g b⟩
 |.tup ds,_,h=>by
  rw[Rep]at h ⊢
  obtain⟨a,xs,e,h1,b⟩:=h
  exact⟨a,xs,e,g.t _ _ h1,aB.mono g b⟩
theorem aB.mono{K:H0}{H b:Hp}(g:Ky K H b):∀{a:List D} {xs:List V},aB K H a xs->aB K b a xs
 |[],_,h=>h
 |d::a,_,h=>by
  rw[aB]at h ⊢
  obtain⟨x,r,e,h1,c⟩:=h
  exact⟨x,r,e,Rep.mono g h1,aB.mono g c⟩
end
section
variable{K:H0}{H H':Hp}
theorem aB.nil:aB K H [] []:=by rw[aB]
theorem aB.cons{d:D}{c:List D}{x:V}{r:List V}(a:Rep K H d x)(b:aB K H c r):aB K H (d::c) (x::r):=by rw[aB];exact⟨x,r,rfl,a,b⟩
theorem aB.length:∀{a:List D} {xs:List V},aB K H a xs->a.length=xs.length
 |[],xs,h=>by rw[aB]at h;subst h;rfl
 |d::a,xs,h=>by
  rw[aB]at h
  obtain⟨x,r,rfl,_,b⟩:=h
  simp[aB.length b]
theorem aB.get:∀{a:List D} {xs:List V} {i:Nat} {d:D},aB K H a xs->a[i]?=KA d->∃x,xs[i]?=KA x/\Rep K H d x
 |[],_,_,_,_,e=>by simp at e
 |_::_,xs,0,_,h,e=>by
  rw[aB]at h
  obtain⟨x,r,rfl,h1,_⟩:=h
  simp at e;subst e
  exact⟨x,rfl,h1⟩
 |_::a,xs,i+1,d,h,e=>by
  rw[aB]at h
  obtain⟨x,r,rfl,_,b⟩:=h
  simpa using aB.get (i:=i) (d:=d) b (by simpa using e)
theorem aB.set{d:D}{x:V}(a:Rep K H d x):∀{b:List D} {xs:List V} (i:Nat),aB K H b xs->aB K H (b.set i d) (xs.set i x)
 |[],_,_,h=>by rw[aB]at h;subst h;simp[aB.nil]
 |_::_,_,0,h=>by
  rw[aB]at h
  obtain⟨y,r,rfl,_,c⟩:=h
  exact .cons a c
 |_::b,_,i+1,h=>by
  rw[aB]at h
  obtain⟨y,r,rfl,h1,c⟩:=h
  exact .cons h1 (aB.set a i c)
theorem aB.append:∀{a es:List D} {xs b:List V},aB K H a xs->aB K H es b->aB K H (a++es) (xs++b)
 |[],_,_,_,h,k=>by rw[aB]at h;subst h;exact k
 |_::a,_,_,_,h,k=>by
  rw[aB]at h
  obtain⟨y,r,rfl,h1,c⟩:=h
  exact .cons h1 (aB.append c k)
theorem aB.of_get:∀{c:List D} {xs:List V},c.length=xs.length->(∀(i:Nat) d x,c[i]?=KA d->xs[i]?=KA x->Rep K H d x)->aB K H c xs
 |[],[],_,_=>.nil
 |[],_::_,h,_=>by simp at h
 |_::_,[],h,_=>by simp at h
 |d::c,x::xs,h,k=>.cons (k 0 d x rfl rfl) (aB.of_get (by simpa using h) fun i d x a b=>k (i+1) d x (by simpa using a) (by simpa using b))
theorem aB.take{c:List D}{xs:List V}(n:Nat)(h:aB K H c xs):aB K H (c.take n) (xs.take n):=by
 refine .of_get (by simp[h.length]) fun i d x a b=>?_
 have f:i<n:=by
  rw[List.getElem?_take]at a;split at a
  ·assumption
  ·cases a
 rw[List.getElem?_take_of_lt f]at a b;obtain⟨y,e,r⟩:=h.get a;rw[e]at b;cases b;exact r
theorem aB.drop{c:List D}{xs:List V}(n:Nat)(h:aB K H c xs):aB K H (c.drop n) (xs.drop n):=by refine .of_get (by simp[h.length]) fun i d x a b=>?_;rw[List.getElem?_drop]at a b;obtain⟨y,e,r⟩:=h.get a;rw[e]at b;cases b;exact r
theorem iA:∀(ns:List Int),aB K H (ns.map D.int) (ns.map V.int)
 |[]=>.nil
 |n::ns=>.cons (by rw[Rep]) (iA ns)
end
def GS(a C:Addr):Heap->Prop:=fun h=>∃o,h.get? a=KA o/\o.cls=.ref C
inductive MO where
 |lst (ds:List D)|err (C:Addr)
 |dct (n:Nat) (P:List Int->Bool)
 |gen (A:H0->Hp->Addr->Prop)
abbrev MH:=Addr->Option MO
def lz(K:H0)(H:Hp)(a:Addr):MO->Prop
 |.lst c=>∃xs,H a=KA (.lst xs)/\aB K H c xs
 |.err C=>H a=KA (.ext (GS a C))
 |.dct n P=>∃kvs:List (List Key×V),H a=KA (.dT kvs)/\kvs.length<=n/\∀k:List Int,(kvs.any fun d=>decide (d.1=k.map Sum.inl))=P k
 |.gen A=>A K H a/\H a≠KC/\∀b,Ky K H b->b a=H a->A K b a
def LG(K:H0)(H:Hp)(M:MH):Prop:=∀a o,M a=KA o->lz K H a o
def ar(M:MH)(a:Addr)(o:MO):MH:=fun b=>if b=a then KA o else M b
theorem ai{M:MH}{a:Addr}{o:MO}:ar M a o a=KA o:=by unfold ar;rw[KI rfl]
theorem aq{M:MH}{a b:Addr}{o:MO}(h:b≠a):ar M a o b=M b:=by unfold ar;rw[KH h]
theorem bH{M:MH}{a:Addr}{o u:MO}:ar (ar M a o) a u=ar M a u:=by funext b;unfold ar;split<;>rfl
section
variable{K:H0}{H H':Hp}{M:MH}
theorem lz.some{a:Addr}{o:MO}(h:lz K H a o):H a≠KC:=by
 cases o with
 |lst b=>
  obtain⟨xs,h1,_⟩:=h
  rw[h1];simp
 |err C=>rw[show H a=_ from h];simp
 |dct n P=>
  obtain⟨kvs,h1,_⟩:=h
  rw[h1];simp
 |gen A=>exact h.2.1
theorem LG.fresh(h:LG K H M){p:Addr}(a:H p=KC):M p=KC:=by
 cases e:M p with
 |none=>rfl
 |some o=>exact absurd a (h p o e).some
theorem lz.eK{a:Addr}{o:MO}(g:Ky K H H')(e:H' a=H a)(h:lz K H a o):lz K H' a o:=by
 cases o with
 |lst f=>
  obtain⟨xs,h1,b⟩:=h
  exact⟨xs,e.trans h1,b.mono g⟩
 |err C=>exact e.trans h
 |dct n P=>
  obtain⟨kvs,h1,b⟩:=h
  exact⟨kvs,e.trans h1,b⟩
 |gen A=>exact⟨h.2.2 H' g e,fun z=>h.2.1 (by rw[<-e];exact z),fun c d e2=>h.2.2 c (g.trans d) (e2.trans e)⟩
theorem LG.new{p:Addr}{o:HO}(h:LG K H M)(b:H p=KC):LG K (upd H p o) M:=fun a u e=>by
 have ne:a≠p:=fun z=>by subst z;rw[h.fresh b]at e;cases e
 exact(h a u e).eK (.new b) (aE ne)
theorem LG.lJ{p:Addr}{xs:List V}{b:List D}(h:LG K H M)(c:H p=KC)(r:aB K H b xs):LG K (upd H p (.lst xs)) (ar M p (.lst b)):=fun a u e=>by
 by_cases ne:a=p
 ·subst ne;rw[ai]at e;cases e;exact⟨xs,aH,r.mono (.new c)⟩
 ·rw[aq ne]at e;exact(h a u e).eK (.new c) (aE ne)
theorem LG.xy{p:Addr}{xs b:List V}{c:List D}(h:LG K H M)(d:H p=KA (.lst xs))(r:aB K H c b):LG K (upd H p (.lst b)) (ar M p (.lst c)):=fun a u e=>by
 by_cases ne:a=p
 ·subst ne;rw[ai]at e;cases e;exact⟨b,aH,r.mono (.lst d)⟩
 ·rw[aq ne]at e;exact(h a u e).eK (.lst d) (aE ne)
theorem LG.sub{b:MH}(h:LG K H M)(s:∀a o,b a=KA o->M a=KA o):LG K H b:=fun a o e=>h a o (s a o e)
end
abbrev DS:=List (Option D)
structure Slots(K:H0)(H:Hp)(δ:DS)(σ:L2.St):Prop where
 len:δ.length=σ.length
 at':∀(i:Nat) d,δ[i]?=KA (KA d)->∃v,σ[i]?=KA (KA v)/\Rep K H d v
section
variable{K:H0}{H H':Hp}{δ:DS}{σ:L2.St}
theorem Slots.mono(g:Ky K H H')(h:Slots K H δ σ):Slots K H' δ σ:=⟨h.len,fun i d e=>let⟨v,a,b⟩:=h.at' i d e;⟨v,a,b.mono g⟩⟩
theorem Slots.set{d:D}{v:V}(r:Rep K H d v)(i:Nat)(h:Slots K H δ σ):Slots K H (δ.set i (KA d)) (σ.set i (KA v)):=by
 refine⟨by simp[h.len],fun j e q=>?_⟩;rw[List.getElem?_set]at q;by_cases a:i=j
 ·subst a;rw[KI rfl]at q;by_cases b:i<δ.length
  ·rw[KI b]at q;cases q;exact⟨v,by rw[List.getElem?_set,KI rfl,KI (by rw[<-h.len];exact b)],r⟩
  ·rw[KH b]at q;cases q
 ·rw[KH a]at q;obtain⟨c,e1,e2⟩:=h.at' j e q;exact⟨c,by rw[List.getElem?_set,KH a];exact e1,e2⟩
theorem jf{N:List Str}{a:List D}{vs:List V}(r:aB K H a vs):Slots K H (a.map KA++HY (N.length-a.length) KC) (L2.start N vs):=by
 have c:=r.length;refine⟨by unfold L2.start;simp[c],fun i d e=>?_⟩;unfold L2.start;by_cases b:i<a.length
 ·rw[IB (by simpa using b),Ht]at e;cases q:a[i]? with
  |none=>rw[q]at e;cases e
  |some f=>
   rw[q]at e;cases e
   obtain⟨x,e1,e2⟩:=r.get q
   refine⟨x,?_,e2⟩
   rw[IB (by simp;omega),Ht,e1];rfl
 ·rw[IG (by simpa using b),List.getElem?_replicate]at e;split at e<;>cases e
end
abbrev DK:=D->MH->Prop
abbrev TD:=DS->MH->DK->Prop
abbrev Lg:=DS->MH->(Bool->MH->Prop)->Prop
abbrev L8:=DS->MH->(List D->MH->Prop)->Prop
structure EndsD where
 nx:DS->MH->Prop
 rt:DK
 bk:DS->MH->Prop:=fun _ _=>False
 ct:DS->MH->Prop:=fun _ _=>False
@[reducible] def EndsD.nxt(B:EndsD)(n:DS->MH->Prop):EndsD:={ B with nx:=n }
@[reducible] def EndsD.lp(B:EndsD)(w:DS->MH->Prop):EndsD:={ B with nx:=w,ct:=w,bk:=B.nx }
abbrev Ld:=EndsD->DS->MH->Prop
section
variable(K:H0)
def Fin(H:Hp)(R:DK)(Q:VK):Prop:=∀d b v a,Ky K H a->Rep K a d v->LG K a b->R d b->Q v a
def zi(H:Hp)(R:Bool->MH->Prop)(Q:Bool->Hp->Prop):Prop:=∀b c a,Ky K H a->LG K a c->R b c->Q b a
def FinA(H:Hp)(R:List D->MH->Prop)(Q:List V->Hp->Prop):Prop:=∀b c vs a,Ky K H a->aB K a b vs->LG K a c->R b c->Q vs a
def lift(t:TD):TE:=fun σ H Q=>∃δ M R,Slots K H δ σ/\LG K H M/\t δ M R/\Fin K H R Q
def liftT(t:Lg):TT:=fun σ H Q=>∃δ M R,Slots K H δ σ/\LG K H M/\t δ M R/\zi K H R Q
def wa(t:L8):TA:=fun σ H Q=>∃δ M R,Slots K H δ σ/\LG K H M/\t δ M R/\FinA K H R Q
structure Mk(H:Hp)(B:EndsD)(E:Ends):Prop where
 nx:∀δ M σ H',Ky K H H'->Slots K H' δ σ->LG K H' M->B.nx δ M->E.nx σ H'
 rt:∀d M v H',Ky K H H'->Rep K H' d v->LG K H' M->B.rt d M->E.rt v H'
 bk:∀δ M σ H',Ky K H H'->Slots K H' δ σ->LG K H' M->B.bk δ M->E.bk σ H'
 ct:∀δ M σ H',Ky K H H'->Slots K H' δ σ->LG K H' M->B.ct δ M->E.ct σ H'
def tj(t:Ld):TS:=fun E σ H=>∃δ M,Slots K H δ σ/\LG K H M/\∃B,Mk K H B E/\t B δ M
end
namespace Zq
@[scoped irreducible]def _root_.SD.DE(X:Cx)(e:Expr)(t:TD):Prop:=PE X e (lift X.K t)
@[scoped irreducible]def _root_.SD.DT(X:Cx)(e:Expr)(t:Lg):Prop:=PT X e (liftT X.K t)
@[scoped irreducible]def _root_.SD.DW(X:Cx)(e:Expr)(t:Lg):Prop:=PW X e (liftT X.K t)
@[scoped irreducible]def _root_.SD.DA(X:Cx)(es:List Expr)(t:L8):Prop:=PA X es (wa X.K t)
@[scoped irreducible]def _root_.SD.DSt(X:Cx)(st:Stmt)(t:Ld):Prop:=PS X st (tj X.K t)
@[scoped irreducible]def _root_.SD.DSs(X:Cx)(st:List Stmt)(t:Ld):Prop:=Mi X st (tj X.K t)
end Zq
theorem aV{X:Cx}{e:Expr}{t t':TE}(h:PE X e t)(k:∀σ H Q,t' σ H Q->t σ H Q):PE X e t':=fun KQ s σ H Q I q=>h KQ s σ H Q I (k σ H Q q)
theorem iy{X:Cx}{e:Expr}{t t':TT}(h:PT X e t)(k:∀σ H Q,t' σ H Q->t σ H Q):PT X e t':=fun KQ s σ H Q I q=>h KQ s σ H Q I (k σ H Q q)
theorem xh{X:Cx}{e:Expr}{t t':TT}(h:PW X e t)(k:∀σ H Q,t' σ H Q->t σ H Q):PW X e t':=fun a KQ s σ H Q I q=>h a KQ s σ H Q I (k σ H Q q)
theorem xp{X:Cx}{e:List Expr}{t t':TA}(h:PA X e t)(k:∀σ H Q,t' σ H Q->t σ H Q):PA X e t':=fun pos KQ s σ H Q I q=>h pos KQ s σ H Q I (k σ H Q q)
theorem b5{X:Cx}{e:Stmt}{t t':TS}(h:PS X e t)(k:∀D σ H,t' D σ H->t D σ H):PS X e t':=fun KQ s σ H D I q=>h KQ s σ H D I (k D σ H q)
theorem nP{X:Cx}{e:List Stmt}{t t':TS}(h:Mi X e t)(k:∀D σ H,t' D σ H->t D σ H):Mi X e t':=fun KQ s σ H D I q=>h KQ s σ H D I (k D σ H q)
section
variable{K:H0}{H H1 H':Hp}
theorem Fin.go{R:DK}{Q:VK}(g:Ky K H H1)(h:Fin K H R Q):Fin K H1 R Q:=fun d M v H' a=>h d M v H' (g.trans a)
theorem zi.go{R:Bool->MH->Prop}{Q:Bool->Hp->Prop}(g:Ky K H H1)(h:zi K H R Q):zi K H1 R Q:=fun b M H' a=>h b M H' (g.trans a)
theorem Mk.go{B:EndsD}{E:Ends}(g:Ky K H H1)(h:Mk K H B E):Mk K H1 B E:=⟨fun d M v H' a=>h.nx d M v H' (g.trans a),fun d M v H' a=>h.rt d M v H' (g.trans a),fun d M v H' a=>h.bk d M v H' (g.trans a),fun d M v H' a=>h.ct d M v H' (g.trans a)⟩
end
section
variable{X:Cx}
inductive N7(i:Nat)(δ:DS)(M:MH)(Q:DK):Prop
 |mk (d:D) (h:δ[i]?=KA (KA d)) (q:Q d M):N7 i δ M Q
def Pw(d:D):TD:=fun _ M Q=>Q d M
theorem dv(i:Nat){x:Str}{pos:Pos}(c:X.N[i]?=KA x:=by rfl)(f:QJ X.env.scope x:=by first|exact Or.inl rfl|exact Or.inr (Or.inl rfl)|exact Or.inr (Or.inr rfl))(hd:(x==("__debug__":Str))=KG:=by decide)
 (a:(x==("__classdict__":Str))=KG:=by decide):DE X (.Name x pos) (N7 i):=
 aV (wm c f hd a) fun σ H Q g=>by
  obtain⟨δ,M,R,h,j,⟨d,e,r⟩,b⟩:=g
  obtain⟨v,e1,e2⟩:=h.at' i d e
  exact⟨v,e1,b d M v H .refl e2 j r⟩
theorem dc{e:Expr}{v:V}{d:D}(h:PE X e (tC v))(r:∀H,Rep X.K H d v):DE X e (Pw d):=aV h fun σ H Q a=>by obtain⟨δ,M,R,f,c,q,b⟩:=a;exact(b d M v H .refl (r H) c q)
theorem af{i j pos}:DE X (.Constant (.int i) j pos) (Pw (.int i)):=dc wZ fun _=>by rw[Rep]
theorem jt{i j pos}:DE X (.Constant (.bool i) j pos) (Pw (.bl i)):=dc FF fun _=>by rw[Rep]
theorem iS{j pos}:DE X (.Constant .none j pos) (Pw .non):=dc Dg fun _=>by rw[Rep]
theorem qc{x j pos}:DE X (.Constant (.str x) j pos) (Pw (.str x)):=dc C2 fun _=>by rw[Rep]
theorem Fz{x:Str}{n:String}{pos:Pos}(a:Gl X x)(b:X.mg x=KC)(c:ID x=KA (.type n))(d:x≠"__name__":=by decide)(hd:(x==("__debug__":Str))=KG:=by decide):DE X (.Name x pos) (Pw (.ty n)):=dc (zO (v:=.ty n) a b c rfl d hd) fun _=>by rw[Rep]
theorem gE{x:Str}{a:Addr}{pos:Pos}(b:Gl X x)(c:X.mg x=KA (.ref a))(hd:(x==("__debug__":Str))=KG:=by decide):DE X (.Name x pos) (Pw (.ref a)):=dc (AG (v:=.ref a) b c rfl hd) fun _=>by rw[Rep]
end
abbrev Lk:=D->D->MH->DK->Prop
def iq(K:H0)(r:Lk):R2:=fun v u H Q=>∃x y M R,Rep K H x v/\Rep K H y u/\LG K H M/\r x y M R/\Fin K H R Q
def Lr(X:Cx)(f:Hj->Hj->Sem Hj)(r:Lk):Prop:=Lh X f (iq X.K r)
def uS(r:Lk)(a tb:TD):TD:=fun δ M Q=>a δ M fun x b=>tb δ b fun y c=>r x y c Q
theorem gB{X:Cx}{f:Hj->Hj->Sem Hj}{r c:R2}(h:Lh X f r)(k:∀x y H Q,c x y H Q->r x y H Q):Lh X f c:=fun KQ s σ H x y v u Q I a b q=>h KQ s σ H x y v u Q I a b (k _ _ _ _ q)
theorem jJ{K:H0}{r:Lk}{b tb:TD}{σ:L2.St}{H:Hp}{Q:VK}(h:lift K (uS r b tb) σ H Q):QO (iq K r) (lift K b) (lift K tb) σ H Q:=by obtain⟨δ,M,R,c,e,q,a⟩:=h;refine⟨δ,M,_,c,e,q,fun x f v H1 g1 g i j=>?_⟩;exact⟨δ,f,_,c.mono g1,i,j,fun y k u o d l m n=>⟨x,y,k,R,g.mono d,l,m,n,a.go (g1.trans d)⟩⟩
section
variable{X:Cx}{a b:Expr}{ta tb:TD}{pos:Pos}
theorem au{op:Operator}{r:Lk}(c:Lr X (Jt op) r)(d:DE X a ta)(e:DE X b tb):DE X (.BinOp a op b pos) (uS r ta tb):=aV (Eh c d e) fun _ _ _ h=>jJ h
theorem cJ{op:CmpOp}{r:Lk}(c:Lr X (Iq op) r)(d:DE X a ta)(e:DE X b tb)(f:K5 op b=KG:=by exact xx _):DE X (.Compare a [op] [b] pos) (uS r ta tb):=aV (yW c d e f) fun _ _ _ h=>jJ h
inductive Ot(x:D)(M:MH)(Q:Bool->MH->Prop):Prop
 |mk (c:Bool) (h:x=.bl c) (q:Q c M):Ot x M Q
def tBD(t:TD):Lg:=fun δ M Q=>t δ M fun x c=>Ot x c Q
theorem iX{K:H0}{t:TD}{t':TE}(i:∀σ H Q,lift K t σ H Q->t' σ H Q){σ:L2.St}{H:Hp}{Q:Bool->Hp->Prop}(h:liftT K (tBD t) σ H Q):wL t' σ H Q:=by obtain⟨δ,M,R,j,k,q,f⟩:=h;refine i _ _ _ ⟨δ,M,_,j,k,q,fun x l v H1 g1 g m d=>?_⟩;obtain⟨c,e,n⟩:=d;subst e;rw[Rep]at g;exact⟨c,g,f c l H1 g1 m n⟩
theorem aM{op:CmpOp}{r:Lk}(c:Lr X (Iq op) r)(d:DE X a ta)(e:DE X b tb)(f:K5 op b=KG:=by exact xx _):DT X (.Compare a [op] [b] pos) (tBD (uS r ta tb)):=iy (yN c d e f) fun _ _ _ h=>iX (fun _ _ _ h=>jJ h) h
theorem cM{e:Expr}{t:TD}(h:DE X e t)(d:∀c,isTrue e X.env c=(do let v <-c;standAt e.pos;holding [v] (truthy v)):=by intro _;rfl):DT X e (tBD t):=
 iy (BP h d) fun _ _ _ h=>iX (t':=lift X.K t) (fun _ _ _ h=>h) h
end
section
variable{X:Cx}{a b c:Expr}{ta tb:TD}{tA KR:Lg}{rest:List Expr}{pos:Pos}
def Bi(t u:Lg):Lg:=fun δ M Q=>t δ M fun c d=>if c=KD then u δ d Q else Q KG d
def E9(t u:Lg):Lg:=fun δ M Q=>t δ M fun c d=>if c=KD then Q KD d else u δ d Q
def fH(t:Lg):Lg:=fun δ M Q=>t δ M fun c d=>Q (!c) d
theorem gY(d:DT X a tA):DW X (.BoolOp .And [a] pos) tA:=Ao d
theorem qN(d:DT X a tA):DW X (.BoolOp .Or [a] pos) tA:=BL d
theorem kS(i:DT X a tA)(j:DW X (.BoolOp .And (b::rest) pos) KR):DW X (.BoolOp .And (a::b::rest) pos) (Bi tA KR):=
 xh (CT i j) fun σ H Q d=>by obtain⟨δ,M,R,g,k,q,e⟩:=d;exact(⟨δ,M,_,g,k,q,fun c l H1 g1 h f=>by
  cases c with
  |true=>rw[KI rfl]at f ⊢;exact⟨δ,l,R,g.mono g1,h,f,e.go g1⟩
  |false=>rw[KH HJ]at f ⊢;exact e _ _ _ g1 h f⟩)
theorem xa(i:DT X a tA)(j:DW X (.BoolOp .Or (b::rest) pos) KR):DW X (.BoolOp .Or (a::b::rest) pos) (E9 tA KR):=
 xh (E8 i j) fun σ H Q d=>by obtain⟨δ,M,R,g,k,q,e⟩:=d;exact(⟨δ,M,_,g,k,q,fun c l H1 g1 h f=>by
  cases c with
  |true=>rw[KI rfl]at f ⊢;exact e _ _ _ g1 h f
  |false=>rw[KH HJ]at f ⊢;exact⟨δ,l,R,g.mono g1,h,f,e.go g1⟩⟩)
theorem nZ{e:Expr}{t:Lg}(h:DW X e t):DT X e t:=PW.pt h
theorem gI(f:DT X a tA):DT X (.UnaryOp .Not a pos) (fH tA):=iy (De f) fun σ H Q d=>by obtain⟨δ,M,R,g,h,q,e⟩:=d;exact(⟨δ,M,_,g,h,q,fun c k H1 g1 i j=>e _ _ _ g1 i j⟩)
def ya(ta tb:TD):TD:=fun δ M Q=>ta δ M fun x d=>Ot x d fun c d=>if c=KD then tb δ d Q else Q (.bl KG) d
def EV(ta tb:TD):TD:=fun δ M Q=>ta δ M fun x d=>Ot x d fun c d=>if c=KD then Q (.bl KD) d else tb δ d Q
def DB(ta:TD):TD:=fun δ M Q=>ta δ M fun x d=>Ot x d fun c d=>Q (.bl (!c)) d
theorem kh{op}{t:TD}(h:DE X a t):DE X (.BoolOp op [a] pos) t:=DD h
theorem k8(j:DE X a ta)(k:DE X (.BoolOp .And (b::rest) pos) tb):DE X (.BoolOp .And (a::b::rest) pos) (ya ta tb):=
 aV (CA j k) fun σ H Q ⟨δ,M,R,g,l,q,d⟩=>⟨δ,M,_,g,l,q,fun x m v H1 g1 h i n=>by
  obtain⟨c,e,f⟩:=n
  subst e
  rw[Rep]at h
  refine⟨c,h,?_⟩
  cases c with
  |true=>rw[KI rfl]at f ⊢;exact⟨δ,m,R,g.mono g1,i,f,d.go g1⟩
  |false=>rw[KH HJ]at f ⊢;exact d _ _ _ _ g1 (by rw[Rep]) i f⟩
theorem FZ(j:DE X a ta)(k:DE X (.BoolOp .Or (b::rest) pos) tb):DE X (.BoolOp .Or (a::b::rest) pos) (EV ta tb):=
 aV (FC j k) fun σ H Q ⟨δ,M,R,g,l,q,d⟩=>⟨δ,M,_,g,l,q,fun x m v H1 g1 h i n=>by
  obtain⟨c,e,f⟩:=n
  subst e
  rw[Rep]at h
  refine⟨c,h,?_⟩
  cases c with
  |true=>rw[KI rfl]at f ⊢;exact d _ _ _ _ g1 (by rw[Rep]) i f
  |false=>rw[KH HJ]at f ⊢;exact⟨δ,m,R,g.mono g1,i,f,d.go g1⟩⟩
theorem rN(h:DE X a ta):DE X (.UnaryOp .Not a pos) (DB ta):=
 aV (CM h) fun σ H Q d=>by obtain⟨δ,M,R,i,j,q,f⟩:=d;exact(⟨δ,M,_,i,j,q,fun x n v H1 g1 g k l=>by
  obtain⟨c,e,m⟩:=l
  subst e
  rw[Rep]at g
  exact⟨c,g,f _ _ _ _ g1 (by rw[Rep]) k m⟩⟩)
def GV(t:Lg)(ta tb:TD):TD:=fun δ M Q=>t δ M fun c d=>if c=KD then ta δ d Q else tb δ d Q
theorem iO(j:DT X c tA)(k:DE X a ta)(l:DE X b tb):DE X (.IfExp c a b pos) (GV tA ta tb):=
 aV (xc j k l) fun σ H Q d=>by obtain⟨δ,M,R,g,m,q,e⟩:=d;exact(⟨δ,M,_,g,m,q,fun c h H1 g1 i f=>by
  cases c with
  |true=>rw[KI rfl]at f ⊢;exact⟨δ,h,R,g.mono g1,i,f,e.go g1⟩
  |false=>rw[KH HJ]at f ⊢;exact⟨δ,h,R,g.mono g1,i,f,e.go g1⟩⟩)
end
def Hg(r:D->MH->DK->Prop)(a:TD):TD:=fun δ M Q=>a δ M fun x b=>r x b Q
def Ba(K:H0)(r:D->MH->DK->Prop):V->Hp->VK->Prop:=fun v H Q=>∃x M R,Rep K H x v/\LG K H M/\r x M R/\Fin K H R Q
theorem me{X:Cx}{a:Expr}{d:TD}{pos:Pos}{op:UnaryOp}{r:D->MH->DK->Prop}(e:Va X (unaryOp op) (Ba X.K r))(f:DE X a d):DE X (.UnaryOp op a pos) (Hg r d):=aV (Fi e f) fun σ H Q b=>by obtain⟨δ,M,R,g,h,q,c⟩:=b;exact(⟨δ,M,_,g,h,q,fun x i v H1 g1 j k l=>⟨x,i,R,j,k,l,c.go g1⟩⟩)
def Bn:L8:=fun _ M Q=>Q [] M
def qq(a:TD)(b:L8):L8:=fun δ M Q=>a δ M fun x c=>b δ c fun xs d=>Q (x::xs) d
section
variable{X:Cx}{e:Expr}{es:List Expr}{te:TD}{t:L8}{pos:Pos}
theorem ae:DA X [] Bn:=xp rq fun σ H Q a=>by obtain⟨δ,M,R,d,c,q,b⟩:=a;exact(b _ _ _ _ .refl .nil c q)
theorem aa(f:DE X e te)(g:DA X es t)(b:Hv (e::es) X.env=(KG,eval e X.env)::Hv es X.env:=by rfl):DA X (e::es) (qq te t):=
 xp (jL f g b) fun σ H Q a=>by obtain⟨δ,M,R,b,h,q,c⟩:=a;exact(⟨δ,M,_,b,h,q,fun x i v H1 g1 j k l=>
  ⟨δ,i,_,b.mono g1,k,l,fun xs p vs r d m n o=>c _ _ _ _ (g1.trans d) (.cons (j.mono d) m) n o⟩⟩)
def FL(t:L8):TD:=fun δ M Q=>t δ M fun xs a=>xs.length<=Hy/\Q (.tup xs) a
def Fc(t:L8):TD:=fun δ M Q=>t δ M fun xs a=>xs.length<=Hy/\∀p,a p=KC->Q (.ref p) (ar a p (.lst xs))
theorem aC{x1}(h:DA X es t):DE X (.Tuple es x1 pos) (FL t):=aV (Cf h) fun σ H Q a=>by obtain⟨δ,M,R,g,i,q,c⟩:=a;exact(⟨δ,M,_,g,i,q,fun xs l vs H1 g1 f j b=>by obtain⟨z,k⟩:=b;exact(⟨by rw[<-f.length];exact z,fun p d=>c _ _ _ _ (g1.trans (.new d)) (by rw[Rep];exact⟨p,vs,rfl,LU.of aH,f.mono (.new d)⟩) (j.new d) k⟩)⟩)
theorem bw(h:DA X es t):DE X (.List es pos) (Fc t):=aV (CJ h) fun σ H Q a=>by obtain⟨δ,M,R,i,j,q,c⟩:=a;exact(⟨δ,M,_,i,j,q,fun xs l vs H1 g1 f g b=>by obtain⟨z,k⟩:=b;exact(⟨by rw[<-f.length];exact z,fun p d=>c _ _ _ _ (g1.trans (.new d)) (by rw[Rep]) (g.lJ d f) (k p (g.fresh d))⟩)⟩)
end
def ZY(X:Cx)(r:Lk):Prop:=Nk X (iq X.K r)
theorem CC{X:Cx}{r c:R2}(h:Nk X r)(k:∀x y H Q,c x y H Q->r x y H Q):Nk X c:=fun e1 e2 KQ s σ H x y v u Q I a b q=>h e1 e2 KQ s σ H x y v u Q I a b (k _ _ _ _ q)
theorem DV{X:Cx}{a b:Expr}{c tb:TD}{pos:Pos}{r:Lk}(d:ZY X r)(e:DE X a c)(f:DE X b tb)(g:nJ b):DE X (.Subscript a b pos) (uS r c tb):=aV (FN d e f g) fun _ _ _ h=>jJ h
inductive YH(ds:List D)(i:Int)(M:MH)(Q:DK):Prop
 |mk (d:D) (h:atI ds i=KA d) (q:Q d M):YH ds i M Q
inductive Y6(a:Addr)(i:Int)(M:MH)(Q:DK):Prop
 |mk (ds:List D) (d:D) (h:M a=KA (.lst ds)) (q:atI ds i=KA d/\Q d M):Y6 a i M Q
def BS:Lk:=fun x y M Q=>match x,y with
 |.tup ds,.int i=>YH ds i M Q
 |.rol ds,.int i=>YH ds i M Q
 |.ref a,.int i=>Y6 a i M Q
 |_,_=>False
theorem aB.atI{K:H0}{H:Hp}{a:List D}{xs:List V}{i:Int}{d:D}(h:aB K H a xs)(e:L2.atI a i=KA d):∃x,L2.atI xs i=KA x/\Rep K H d x:=by
 unfold L2.atI at e ⊢;rw[<-h.length];cases q:ixN a.length i with
 |none=>rw[q]at e;cases e
 |some j=>
  rw[q]at e
  exact h.get e
theorem uJ{K:H0}{v u:V}{H:Hp}{Q:VK}(h:iq K BS v u H Q):YT K v u H Q:=by
 obtain⟨x,y,M,R,c,g,a,q,b⟩:=h;unfold BS at q;split at q
 ·obtain⟨d,e,q⟩:=q;obtain rfl:u=.int _:=g;rw[Rep]at c;obtain⟨p,xs,rfl,i,f⟩:=c;obtain⟨x,e1,e2⟩:=f.atI e;exact .inr (.inl ⟨p,xs,_,x,rfl,rfl,i,e1,b _ _ _ _ .refl e2 a q⟩)
 ·obtain⟨d,e,q⟩:=q;obtain rfl:u=.int _:=g;rw[Rep]at c;obtain⟨p,xs,rfl,i,f⟩:=c;obtain⟨x,e1,e2⟩:=f.atI e;exact .inl ⟨p,xs,_,x,rfl,rfl,i.sql,e1,b _ _ _ _ .refl e2 a q⟩
 ·obtain⟨l,d,j,e,q⟩:=q;obtain rfl:u=.int _:=g;obtain rfl:v=.ref _:=c;obtain⟨xs,k,f⟩:=a _ _ j;obtain⟨x,e1,e2⟩:=f.atI e;exact .inl ⟨_,xs,_,x,rfl,rfl,LR.of k,e1,b _ _ _ _ .refl e2 a q⟩
 ·exact q.elim
theorem aw{X:Cx}{a b:Expr}{c tb:TD}{pos:Pos}(d:DE X a c)(e:DE X b tb)(f:nJ b:=by exact fun _ _=>rfl):DE X (.Subscript a b pos) (uS BS c tb):=DV (CC Cq fun _ _ _ _ h=>uJ h) d e f
def Bd(n:Nat)(i:Int):Prop:=i.natAbs<2^n
instance(n:Nat)(i:Int):Decidable (Bd n i):=inferInstanceAs (Decidable (i.natAbs<2^n))
theorem Bd.mono{m n:Nat}{i:Int}(h:Bd m i)(l:m<=n):Bd n i:=HL h (Nat.pow_le_pow_right ⋯ l)
theorem Bd.bits{n:Nat}{i:Int}(h:Bd n i):Builtin.Int.intBits i<=n:=by
 unfold Builtin.Int.intBits;split
 ·exact Jl _
 ·rename_i hz;have h0:i.natAbs≠0:=fun e=>hz (by simpa using Int.natAbs_eq_zero.mp e);exact(Nat.log2_lt h0).mpr h
theorem Bd.log2{n:Nat}{i:Int}(h:Bd n i)(a:0<n):i.natAbs.log2<n:=by
 by_cases h0:i.natAbs=0
 ·rw[h0];simpa using a
 ·exact(Nat.log2_lt h0).mpr h
theorem Bd.mul{m n:Nat}{i j:Int}(a:Bd m i)(b:Bd n j):Bd (m+n) (i*j):=by unfold Bd at *;rw[Int.natAbs_mul,Nat.pow_add];exact Nat.mul_lt_mul'' a b
theorem Bd.add{n:Nat}{i j:Int}(a:Bd n i)(b:Bd n j):Bd (n+1) (i+j):=by unfold Bd at *;rw[Nat.pow_succ];have:=Int.natAbs_add_le i j;omega
theorem Bd.sub{n:Nat}{i j:Int}(a:Bd n i)(b:Bd n j):Bd (n+1) (i-j):=by unfold Bd at *;rw[Nat.pow_succ];have:=Int.natAbs_sub_le i j;omega
theorem Bd.neg{n:Nat}{i:Int}(a:Bd n i):Bd n (-i):=by unfold Bd at *;rw[Int.natAbs_neg];exact a
theorem Bd.of_le{n:Nat}{i j:Int}(a:Bd n i)(b:j.natAbs<=i.natAbs):Bd n j:=Nat.lt_of_le_of_lt b a
theorem bC{n:Nat}{i:Int}(h:i.natAbs<2^64)(l:64<=n:=by decide):Bd n i:=Bd.mono (m:=64) h l
theorem cA{i j:Int}(a:Bd 1000000 i)(b:Bd 1000000 j):IntMulOk i j:=.of_bits (IA a.bits ⋯) (IA b.bits ⋯)
theorem aL{i j:Int}(a:Bd 64 i):IntMulOk i j:=.of_left a.bits
theorem Ab{i j:Int}(a:Bd 64 j):IntMulOk i j:=.of_right a.bits
def Ni(C:Int->Int->Prop)(g:Int->Int->D):Lk:=fun x y M Q=>match x,y with
 |.int i,.int j=>C i j/\Q (g i j) M
 |_,_=>False
section
variable{X:Cx}
theorem dj{f:Hj->Hj->Sem Hj}{C:Int->Int->Prop}{g:Int->Int->V}{g':Int->Int->D}(h:Lh X f (rI C g))(e:∀i j H,Rep X.K H (g' i j) (g i j)):Lr X f (Ni C g'):=
 gB h fun v u H Q c=>by
  obtain⟨x,y,M,R,d,k,a,q,b⟩:=c
  unfold Ni at q
  split at q
  ·obtain rfl:v=.int _:=d
   obtain rfl:u=.int _:=k
   exact⟨_,_,rfl,rfl,q.1,b _ _ _ _ .refl (e _ _ _) a q.2⟩
  ·exact q.elim
theorem QY{f:Hj->Hj->Sem Hj}{g:Int->Int->V}(h:Lh X f (PK g)):Lh X f (rI (fun _ _=>True) g):=gB h fun x y H Q c=>by obtain⟨i,j,a,b,_,q⟩:=c;exact(⟨i,j,a,b,q⟩)
def FE:Lk:=Ni (fun _ _=>True) fun i j=>.int (i-j)
def EM:Lk:=Ni IntMulOk fun i j=>.int (i*j)
def ZZ(i j:Int):Prop:=j≠0/\Bd 8000 j
def Hd:Lk:=Ni ZZ fun i j=>.int (i.fdiv j)
def F8:Lk:=Ni (fun _ j=>j≠0) fun i j=>.int (i.fmod j)
def Fw:Lk:=Ni Fs fun i j=>.int (i^j.toNat)
def Gy:Lk:=Ni (fun _ _=>True) fun i j=>.bl (decide (i<j))
def GY:Lk:=Ni (fun _ _=>True) fun i j=>.bl (decide (i<=j))
def GR:Lk:=Ni (fun _ _=>True) fun i j=>.bl (decide (j<i))
theorem bf:Lr X (Jt .Sub) FE:=dj (QY BR) fun _ _ _=>by rw[Rep]
theorem aF:Lr X (Jt .Mult) EM:=dj (Vu fun _ _ _ _ _ _ _ a q=>mul_int q a) fun _ _ _=>by rw[Rep]
theorem fD:Lr X (Jt .FloorDiv) Hd:=dj (Vu fun _ _ _ _ _ _ _ a q=>floordiv_int a.1 q (.inl (PyProof.noPylong_of_log2 (Nat.lt_trans (a.2.log2 ⋯) ⋯)))) fun _ _ _=>by rw[Rep]
theorem dY:Lr X (Jt .Mod) F8:=dj yJ fun _ _ _=>by rw[Rep]
theorem eR:Lr X (Jt .Pow) Fw:=dj DZ fun _ _ _=>by rw[Rep]
theorem FX:Lr X (Iq .Lt) Gy:=dj (QY D5) fun _ _ _=>by rw[Rep]
theorem F7:Lr X (Iq .LtE) GY:=dj (QY Fe) fun _ _ _=>by rw[Rep]
theorem Ei:Lr X (Iq .Gt) GR:=dj (QY FO) fun _ _ _=>by rw[Rep]
def BB:D->MH->DK->Prop:=fun x M Q=>match x with
 |.int i=>Q (.int (-i)) M
 |_=>False
theorem f6:Va X (unaryOp .USub) (Ba X.K BB):=fun KQ s σ H x v Q I r b=>by obtain⟨d,M,R,e,a,q,c⟩:=b;exact(B3 KQ s σ H x v Q I r (by
 unfold BB at q
 split at q
 ·obtain rfl:x=.int _:=e;exact⟨_,rfl,c _ _ _ _ .refl (by rw[Rep]) a q⟩
 ·exact q.elim))
def Br:Lk:=fun x y M Q=>match x,y with
 |.int i,.int j=>Q (.int (i+j)) M
 |.tup a,.tup b=>a≠[]/\a.length+b.length<=Hy/\Q (.tup (a++b)) M
 |.ref a,.ref b=>∃xs c,M a=KA (.lst xs)/\M b=KA (.lst c)/\xs.length+c.length<=Hy/\∀p,M p=KC->Q (.ref p) (ar M p (.lst (xs++c)))
 |_,_=>False
theorem aO:Lr X (Jt .Add) Br:=gB (Cu.or (yZ.or Du)) fun v u H Q l=>by
 obtain⟨x,y,M,R,g,h,a,q,b⟩:=l;unfold Br at q;split at q
 ·obtain rfl:v=.int _:=g;obtain rfl:u=.int _:=h;exact .inl ⟨_,_,rfl,rfl,b _ _ _ _ .refl (by rw[Rep]) a q⟩
 ·rename_i da db;obtain⟨m,n,q⟩:=q;rw[Rep]at g;obtain⟨p,xs,rfl,i,d⟩:=g;obtain⟨o,j,rfl,k,f⟩:∃a xs,u=V.ref a/\LU X.K H a xs/\aB X.K H db xs:=by rw[Rep]at h;exact h
  have l1:=d.length;have l2:=f.length;refine .inr (.inl ⟨p,o,xs,j,rfl,rfl,i,k,?_,(),fun e=>?_,fun _ z c=>?_⟩)
  ·intro e;subst e;exact m (List.length_eq_zero_iff.mp (by simpa using l1))
  ·subst e;obtain rfl:db=[]:=List.length_eq_zero_iff.mp (by simpa using l2);exact b _ _ _ _ .refl (by rw[Rep,IX];exact⟨p,xs,rfl,i,d⟩) a q
  ·exact b _ _ _ _ (.new c) (by rw[Rep];exact⟨z,_,rfl,LU.of aH,(d.append f).mono (.new c)⟩) (a.new c) q
 ·obtain⟨r,s,e1,e2,n,q⟩:=q;obtain rfl:v=.ref _:=g;obtain rfl:u=.ref _:=h;obtain⟨xs,i,d⟩:=a _ _ e1;obtain⟨j,k,f⟩:=a _ _ e2;have l1:=d.length;have l2:=f.length;exact .inr (.inr ⟨_,_,xs,j,rfl,rfl,i,k,(),fun z c=>b _ _ _ _ (.new c) (by rw[Rep]) (a.lJ c (d.append f)) (q z (a.fresh c))⟩)
 ·exact q.elim
end
mutual
inductive Pd(M:MH):D->JW->Prop
 |non:Pd M .non .none
 |bl (b:Bool):Pd M (.bl b) (.bool b)
 |int (i:Int):Pd M (.int i) (.int i)
 |str (x:Str):Pd M (.str x) (.str x)
 |tup {ds:List D} {ps:List JW}:Nd M ds ps->Pd M (.tup ds) (.tuple ps)
 |rol {ds:List D} {ps:List JW}:Nd M ds ps->Pd M (.rol ds) (.list ps)
 |lst {a:Addr} {ds:List D} {ps:List JW}:M a=KA (.lst ds)->Nd M ds ps->Pd M (.ref a) (.list ps)
inductive Nd(M:MH):List D->List JW->Prop
 |nil:Nd M [] []
 |cons {d:D} {ds:List D} {p:JW} {ps:List JW}:Pd M d p->Nd M ds ps->Nd M (d::ds) (p::ps)
end
mutual
def Oj:D->Option JW
 |.non=>KA .none
 |.bl b=>KA (.bool b)
 |.int i=>KA (.int i)
 |.str x=>KA (.str x)
 |.tup a=>match rm a with
  |some ps=>KA (.tuple ps)
  |none=>KC
 |_=>KC
def rm:List D->Option (List JW)
 |[]=>KA []
 |d::ds=>match Oj d,rm ds with
  |some p,KA ps=>KA (p::ps)
  |_,_=>KC
end
mutual
theorem Pd.of{M:MH}:∀{d:D} {p:JW},Oj d=KA p->Pd M d p
 |.non,p,h=>by rw[Oj]at h;cases h;exact .non
 |.bl b,p,h=>by rw[Oj]at h;cases h;exact .bl b
 |.int i,p,h=>by rw[Oj]at h;cases h;exact .int i
 |.str x,p,h=>by rw[Oj]at h;cases h;exact .str x
 |.ty _,p,h=>by simp[Oj]at h
 |.ref _,p,h=>by simp[Oj]at h
 |.rol _,p,h=>by simp[Oj]at h
 |.tup ds,p,h=>by
  rw[Oj]at h
  cases e:rm ds with
  |none=>rw[e]at h;cases h
  |some ps=>rw[e]at h;cases h;exact .tup (Nd.of e)
theorem Nd.of{M:MH}:∀{a:List D} {ps:List JW},rm a=KA ps->Nd M a ps
 |[],ps,h=>by rw[rm]at h;cases h;exact .nil
 |d::a,ps,h=>by
  rw[rm]at h
  cases e1:Oj d with
  |none=>rw[e1]at h;cases h
  |some p=>
   cases e2:rm a with
   |none=>rw[e1,e2]at h;cases h
   |some qs=>rw[e1,e2]at h;cases h;exact .cons (Pd.of e1) (Nd.of e2)
end
section
variable{X:Cx}{KQ:List (Addr×Obj)}{σ:L2.St}{H:Hp}{s:Hk}{M:MH}
mutual
theorem bL(I:Inv X KQ σ H s)(m:LG X.K H M):∀{d:D} {p:JW} {v:V} {u:Hj},Pd M d p->Rep X.K H d v->L2.RelV v u->∃c,Reads s.heap u p c
 |_,_,_,_,.non,r,e=>by rw[Rep]at r;subst r;cases e;exact⟨_,.none⟩
 |_,_,_,_,.bl b,r,e=>by rw[Rep]at r;subst r;cases e;exact⟨_,.bool b⟩
 |_,_,_,_,.int i,r,e=>by rw[Rep]at r;subst r;obtain⟨t,rfl⟩:=e;exact⟨_,.int i t⟩
 |_,_,_,_,.str x,r,e=>by rw[Rep]at r;subst r;obtain⟨t,rfl⟩:=e;exact⟨_,.str x t⟩
 |_,_,_,_,.tup hp,r,e=>by
  rw[Rep]at r
  obtain⟨a,xs,rfl,q,f⟩:=r
  cases e
  obtain⟨g,h,⟨o,h1,j,n,k⟩,_⟩:=I.tuple q
  obtain⟨c,l⟩:=gf I m hp f h
  exact⟨c,reads_tuple_at h1 j k (by simpa using l)⟩
 |_,_,_,_,.rol hp,r,e=>by
  rw[Rep]at r
  obtain⟨a,xs,rfl,q,f⟩:=r
  cases e
  obtain⟨g,h,⟨o,n,h1,j,_,k⟩,_⟩:=I.list q.sql
  obtain⟨c,l⟩:=gf I m hp f h
  exact⟨_,reads_list_at h1 j k (by simpa using l)⟩
 |_,_,_,_,.lst ha hp,r,e=>by
  rw[Rep]at r
  subst r
  cases e
  obtain⟨xs,w,f⟩:=m _ _ ha
  obtain⟨g,h,⟨o,n,h1,j,_,k⟩,_⟩:=I.list (LR.of w)
  obtain⟨c,l⟩:=gf I m hp f h
  exact⟨_,reads_list_at h1 j k (by simpa using l)⟩
theorem gf(I:Inv X KQ σ H s)(a:LG X.K H M):∀{b:List D} {ps:List JW} {vs:List V} {us:List Hj},Nd M b ps->aB X.K H b vs->Vals vs us->∃c,ReadsAll s.heap us ps c
 |_,_,_,_,.nil,r,e=>by rw[aB]at r;subst r;cases e;exact⟨_,.nil⟩
 |_,_,_,_,.cons h1 h2,r,e=>by
  rw[aB]at r
  obtain⟨x,r,rfl,d,f⟩:=r
  cases e with
  |cons e1 e2=>
   obtain⟨c,g⟩:=bL I a h1 d e1
   obtain⟨bs,h⟩:=gf I a h2 f e2
   exact⟨_,.cons g h⟩
end
end
inductive Oi(g:Bool->Bool)(x y:D)(M:MH)(Q:DK):Prop
 |mk (p q:JW) (h1:Pd M x p) (h2:Pd M y q) (h3:SeqAt.shaped p=KD) (h4:SeqAt.shaped q=KD) (hq:Q (.bl (g (IM p q))) M):Oi g x y M Q
def Fp:Lk:=fun x y M Q=>match x,y with
 |.int i,.int j=>Q (.bl (decide (i=j))) M
 |.bl i,.bl j=>Q (.bl (decide (i=j))) M
 |x,y=>Oi (fun b=>b) x y M Q
def Fx:Lk:=fun x y M Q=>match x,y with
 |.int i,.int j=>Q (.bl (!decide (i=j))) M
 |.bl i,.bl j=>Q (.bl (!decide (i=j))) M
 |x,y=>Oi (fun b=>!b) x y M Q
section
variable{X:Cx}
theorem CU(d:X.A.units+64<IZ):Lr X (Iq .Eq) (Oi fun b=>b):=by intro KQ s σ H v u t w Q I e f h;obtain⟨x,y,M,R,g,i,a,⟨p,q,j,k,l,m,n⟩,c⟩:=h;obtain⟨z,o⟩:=bL I a j g e;obtain⟨bs,r⟩:=bL I a k i f;exact eq_dataH o r l m d ⟨.bl _,H,I,rfl,c _ _ _ _ .refl (by rw[Rep]) a n⟩
theorem Cg(d:X.A.units+64<IZ):Lr X (Iq .NotEq) (Oi fun b=>!b):=by intro KQ s σ H v u t w Q I e f h;obtain⟨x,y,M,R,g,i,a,⟨p,q,j,k,l,m,n⟩,c⟩:=h;obtain⟨z,o⟩:=bL I a j g e;obtain⟨bs,r⟩:=bL I a k i f;exact ne_dataH o r l m d ⟨.bl _,H,I,rfl,c _ _ _ _ .refl (by rw[Rep]) a n⟩
theorem nV{i j:Int}:(i==j)=decide (i=j):=by by_cases h:i=j<;>simp[h]
theorem oU{i j:Bool}:(i==j)=decide (i=j):=by cases i<;>cases j<;>rfl
theorem cB(c:X.A.units+64<IZ):Lr X (Iq .Eq) Fp:=gB (CU c) fun v u H Q d=>by
 obtain⟨x,y,M,R,e,f,a,q,b⟩:=d;refine⟨x,y,M,R,e,f,a,?_,b⟩;unfold Fp at q;split at q
 ·exact⟨_,_,.int _,.int _,rfl,rfl,by simpa[IM,nV]using q⟩
 ·exact⟨_,_,.bl _,.bl _,rfl,rfl,by simpa[IM,oU]using q⟩
 ·exact q
theorem mE(c:X.A.units+64<IZ):Lr X (Iq .NotEq) Fx:=gB (Cg c) fun v u H Q d=>by
 obtain⟨x,y,M,R,e,f,a,q,b⟩:=d;refine⟨x,y,M,R,e,f,a,?_,b⟩;unfold Fx at q;split at q
 ·exact⟨_,_,.int _,.int _,rfl,rfl,by simpa[IM,nV]using q⟩
 ·exact⟨_,_,.bl _,.bl _,rfl,rfl,by simpa[IM,oU]using q⟩
 ·exact q
def YV(x y:D):Option Bool:=match y with
 |.non=>KA (match x with
  |.non=>KD
  |_=>KG)
 |.bl b=>KA (match x with
  |.bl a=>decide (a=b)
  |_=>KG)
 |_=>KC
inductive QZ(g:Bool->Bool)(x y:D)(M:MH)(Q:DK):Prop
 |mk (b:Bool) (h:YV x y=KA b) (q:Q (.bl (g b)) M):QZ g x y M Q
def Hb:Lk:=QZ fun b=>b
theorem t5{K:H0}{H:Hp}{x y:D}{b:Bool}{v u:V}{k l:Hj}(h:YV x y=KA b)(g:Rep K H x v)(m:Rep K H y u)(i:L2.RelV v k)(j:L2.RelV u l):plainIs k l=KD/\(k==l)=b:=by
 have f:∀{c:Hj} {d:Bool},l=c->KA d=KA b->plainIs k c=KD->(k==c)=d->plainIs k l=KD/\(k==l)=b:=fun e h p q=>by cases h;subst e;exact⟨p,q⟩
 cases y with
 |non=>
  rw[Rep]at m;subst m
  cases x<;>rw[Rep]at g
  case non=>subst g;cases (show k=Jq from i);exact f j h rfl rfl
  case bl=>subst g;cases (show k=Value.bool _ from i);exact f j h rfl rfl
  case int=>subst g;obtain⟨t,rfl⟩:=i;exact f j h rfl rfl
  case str=>subst g;obtain⟨t,rfl⟩:=i;exact f j h rfl rfl
  case ty=>subst g;cases i;exact f j h rfl rfl
  case ref=>subst g;cases i;exact f j h rfl rfl
  all_goals (obtain⟨a,xs,rfl,_⟩:=g;cases i;exact f j h rfl rfl)
 |bl c=>
  rw[Rep]at m;subst m
  cases x<;>rw[Rep]at g
  case non=>subst g;cases (show k=Jq from i);exact f j h rfl rfl
  case bl c'=>subst g;cases (show k=Value.bool _ from i);exact f j h rfl (by cases c<;>cases c'<;>rfl)
  case int=>subst g;obtain⟨t,rfl⟩:=i;exact f j h rfl rfl
  case str=>subst g;obtain⟨t,rfl⟩:=i;exact f j h rfl rfl
  case ty=>subst g;cases i;exact f j h rfl rfl
  case ref=>subst g;cases i;exact f j h rfl rfl
  all_goals (obtain⟨a,xs,rfl,_⟩:=g;cases i;exact f j h rfl rfl)
 |_=>cases h
theorem Bz:Lr X (Iq .Is) Hb:=by intro KQ s σ H v u j k Q I d f h;obtain⟨x,y,M,R,g,i,a,⟨b,e,q⟩,c⟩:=h;obtain⟨e1,e2⟩:=t5 e g i d f;exact wpAny_is_plain e1 ⟨.bl b,H,I,by rw[e2];rfl,c _ _ _ _ .refl (by rw[Rep]) a q⟩
end
abbrev RC:=List D->MH->DK->Prop
def A6(K:H0)(r:RC):List V->Hp->VK->Prop:=fun vs H Q=>∃a M R,aB K H a vs/\LG K H M/\r a M R/\Fin K H R Q
def cW(X:Cx)(f:Hj)(r:RC):Prop:=bY X f (A6 X.K r)
theorem b6{X:Cx}{f:Hj}{r b:List V->Hp->VK->Prop}(h:bY X f r)(k:∀xs H Q,b xs H Q->r xs H Q):bY X f b:=fun KQ s σ H xs us Q I a q=>h KQ s σ H xs us Q I a (k _ _ _ q)
def DJ(r:RC)(t:L8):TD:=fun δ M Q=>t δ M fun a b=>r a b Q
theorem rY{K:H0}{r:RC}{t:L8}{σ:L2.St}{H:Hp}{Q:VK}(h:lift K (DJ r t) σ H Q):Vs (A6 K r) (wa K t) σ H Q:=by obtain⟨δ,M,R,b,c,q,a⟩:=h;exact⟨δ,M,_,b,c,q,fun d e vs H1 g1 f g i=>⟨d,e,R,f,g,i,a.go g1⟩⟩
section
variable{X:Cx}{x:Str}{p pos:Pos}{e:Expr}{es:List Expr}{t:L8}{id T:String}{r:RC}
theorem aG(c:cW X (.builtin id) r)(d:Gl X x)(f:X.mg x=KC)(g:ID x=KA (.builtin id))(i:DA X (e::es) t)(j:x≠"__name__":=by decide)(a:(x==("__debug__":Str))=KG:=by decide) (k:Hv (e::es) X.env=(KG,eval e X.env)::Hv es X.env:=by rfl) (b:(IY pos (Hv es X.env)).any (·.1)=KG:=by rfl):DE X (.Call (.Name x p) (e::es) [] pos) (DJ r t):=aV (xF c d f g i j a k b) fun _ _ _ h=>rY h
theorem fY(c:cW X (.type T) r)(d:Gl X x)(f:X.mg x=KC)(g:ID x=KA (.type T))(i:DA X (e::es) t)(j:x≠"__name__":=by decide)(a:(x==("__debug__":Str))=KG:=by decide) (k:Hv (e::es) X.env=(KG,eval e X.env)::Hv es X.env:=by rfl) (b:(IY pos (Hv es X.env)).any (·.1)=KG:=by rfl):DE X (.Call (.Name x p) (e::es) [] pos) (DJ r t):=aV (mG c d f g i j a k b) fun _ _ _ h=>rY h
theorem b8{K:H0}{H:Hp}{d:D}{vs:List V}(h:aB K H [d] vs):∃v,vs=[v]/\Rep K H d v:=by rw[aB]at h;obtain⟨x,r,rfl,h1,a⟩:=h;rw[aB]at a;subst a;exact⟨x,rfl,h1⟩
theorem dC{K:H0}{H:Hp}{d e:D}{vs:List V}(h:aB K H [d,e] vs):∃v u,vs=[v,u]/\Rep K H d v/\Rep K H e u:=by rw[aB]at h;obtain⟨x,r,rfl,h1,a⟩:=h;obtain⟨u,rfl,b⟩:=b8 a;exact⟨x,u,rfl,h1,b⟩
def Hh:RC:=fun a M Q=>match a with
 |[.int i]=>Q (.int (i.natAbs:Int)) M
 |_=>False
theorem qg:cW X (.builtin "abs") Hh:=b6 vI fun vs H Q f=>by
 obtain⟨b,M,R,g,a,q,c⟩:=f;rcases b with _|⟨d,b⟩
 ·exact HS q
 cases d<;>rcases b with _|⟨e,b⟩<;>try exact HS q
 ·rename_i i;obtain⟨v,rfl,r⟩:=b8 g;rw[Rep]at r;subst r;have e:(if i<0 then -i else i)=(i.natAbs:Int):=by split<;>omega
  exact⟨_,rfl,c _ _ _ _ .refl (by rw[Rep,e]) a q⟩
def GA:RC:=fun a M Q=>match a with
 |[.int i,.int j]=>Q (.int (max i j)) M
 |_=>False
def GB:RC:=fun a M Q=>match a with
 |[.int i,.int j]=>Q (.int (min i j)) M
 |_=>False
theorem BW(h:X.calm=KD):cW X (.builtin "max") GA:=b6 (tY h) fun vs H Q k=>by
 obtain⟨b,M,R,l,a,q,c⟩:=k;rcases b with _|⟨d,b⟩
 ·exact HS q
 cases d<;>rcases b with _|⟨e,b⟩<;>try exact HS q
 all_goals (cases e<;>rcases b with _|⟨f,b⟩<;>try exact HS q)
 ·rename_i i j;obtain⟨v,u,rfl,r,g⟩:=dC l;rw[Rep]at r;subst r;have m:u=.int j:=by rw[Rep]at g;exact g
  subst m;have e:(if j>i then j else i)=max i j:=by split<;>omega
  exact⟨_,_,rfl,c _ _ _ _ .refl (by rw[Rep,e]) a q⟩
theorem Dz(h:X.calm=KD):cW X (.builtin "min") GB:=b6 (uI h) fun vs H Q k=>by
 obtain⟨b,M,R,l,a,q,c⟩:=k;rcases b with _|⟨d,b⟩
 ·exact HS q
 cases d<;>rcases b with _|⟨e,b⟩<;>try exact HS q
 all_goals (cases e<;>rcases b with _|⟨f,b⟩<;>try exact HS q)
 ·rename_i i j;obtain⟨v,u,rfl,r,g⟩:=dC l;rw[Rep]at r;subst r;have m:u=.int j:=by rw[Rep]at g;exact g
  subst m;have e:(if j<i then j else i)=min i j:=by split<;>omega
  exact⟨_,_,rfl,c _ _ _ _ .refl (by rw[Rep,e]) a q⟩
def Gb:RC:=fun a M Q=>match a with
 |[.tup xs]=>Q (.int (xs.length:Int)) M
 |[.rol xs]=>Q (.int (xs.length:Int)) M
 |[.ref l]=>∃xs,M l=KA (.lst xs)/\Q (.int (xs.length:Int)) M
 |_=>False
theorem bP:cW X (.builtin "len") Gb:=b6 nA fun vs H Q h=>by
 obtain⟨f,M,R,g,a,q,b⟩:=h;rcases f with _|⟨d,f⟩
 ·exact HS q
 cases d<;>rcases f with _|⟨e,f⟩<;>try exact HS q
 ·obtain⟨v,rfl,r⟩:=b8 g;rw[Rep]at r;subst r;obtain⟨xs,e,q⟩:=q;obtain⟨i,h1,c⟩:=a _ _ e;exact⟨_,i,rfl,.inl (LR.of h1),b _ _ _ _ .refl (by rw[Rep,c.length]) a q⟩
 ·obtain⟨v,rfl,r⟩:=b8 g;rw[Rep]at r;obtain⟨l,xs,rfl,h1,c⟩:=r;exact⟨l,xs,rfl,.inl h1.sql,b _ _ _ _ .refl (by rw[Rep,c.length]) a q⟩
 ·obtain⟨v,rfl,r⟩:=b8 g;rw[Rep]at r;obtain⟨l,xs,rfl,h1,c⟩:=r;exact⟨l,xs,rfl,.inr h1,b _ _ _ _ .refl (by rw[Rep,c.length]) a q⟩
def CL:RC:=fun a M Q=>match a with
 |[.tup xs]=>Q (.tup xs) M
 |[.rol xs]=>Q (.tup xs) M
 |[.ref l]=>∃xs,M l=KA (.lst xs)/\Q (.tup xs) M
 |_=>False
theorem xH:cW X (.type "tuple") CL:=b6 lU fun vs H Q j=>by
 obtain⟨g,M,R,h,a,q,b⟩:=j;rcases g with _|⟨d,g⟩
 ·exact HS q
 cases d<;>rcases g with _|⟨e,g⟩<;>try exact HS q
 ·obtain⟨v,rfl,r⟩:=b8 h;rw[Rep]at r;subst r;obtain⟨xs,e,q⟩:=q;obtain⟨i,h1,f⟩:=a _ _ e;exact⟨_,i,rfl,.inl ⟨LR.of h1,fun p c=>b _ _ _ _ (.new c) (by rw[Rep];exact⟨p,i,rfl,LU.of aH,f.mono (.new c)⟩) (a.new c) q⟩⟩
 ·obtain⟨v,rfl,r⟩:=b8 h;rw[Rep]at r;obtain⟨l,xs,rfl,h1,f⟩:=r;exact⟨l,xs,rfl,.inl ⟨h1.sql,fun p c=>b _ _ _ _ (.new c) (by rw[Rep];exact⟨p,xs,rfl,LU.of aH,f.mono (.new c)⟩) (a.new c) q⟩⟩
 ·obtain⟨v,rfl,r⟩:=b8 h;rw[Rep]at r;obtain⟨l,xs,rfl,h1,f⟩:=r;exact⟨l,xs,rfl,.inr ⟨h1,b _ _ _ _ .refl (by rw[Rep];exact⟨l,xs,rfl,h1,f⟩) a q⟩⟩
def E7:RC:=fun a M Q=>match a with
 |[.int i]=>Q (.int i) M
 |[.bl k]=>Q (.int (if k=KD then 1 else 0)) M
 |_=>False
theorem xv:cW X (.type "int") E7:=b6 mO fun vs H Q g=>by
 obtain⟨c,M,R,f,a,q,b⟩:=g;rcases c with _|⟨d,c⟩
 ·exact HS q
 cases d<;>rcases c with _|⟨e,c⟩<;>try exact HS q
 ·obtain⟨v,rfl,r⟩:=b8 f;rw[Rep]at r;subst r;exact .inr ⟨_,rfl,b _ _ _ _ .refl (by rw[Rep]) a q⟩
 ·obtain⟨v,rfl,r⟩:=b8 f;rw[Rep]at r;subst r;exact .inl ⟨_,rfl,b _ _ _ _ .refl (by rw[Rep]) a q⟩
def Yc:D->Option String
 |.non=>KA "NoneType"
 |.bl _=>KA "bool"
 |.int _=>KA "int"
 |.str _=>KA "str"
 |.tup _=>KA "tuple"
 |.rol _=>KA "list"
 |_=>KC
def ny(K:H0):RC:=fun a M Q=>match a with
 |[x,.ty n]=>∃t b,Yc x=KA t/\IK K (.type t) (.type n)=KA b/\Q (.bl b) M
 |_=>False
theorem uf:cW X (.builtin "isinstance") (ny X.K):=by
 intro KQ s σ H vs us Q I w A;obtain⟨E,M,R,B,a,q,g⟩:=A;unfold ny at q;split at q
 ·rename_i x n;obtain⟨v,u,rfl,r,m⟩:=dC B;rw[Rep]at m;subst m;obtain⟨f,C,rfl,c,D⟩:=vals2 w;cases (show C=K4 n from D);obtain⟨t,b,d,e,q⟩:=q;have h:∀i,EP X KQ σ Q (.bool b) { s with toks:=i }:=fun i=>⟨.bl b,H,I.tok i,rfl,g _ _ _ _ .refl (by rw[Rep]) a q⟩;cases x with
  |non=>cases d;rw[Rep]at r;subst r;cases (show f=Jq from c);exact JZ PySem.W.kitx_none I.kIn Jv e (fun z=>nomatch z) h
  |bl y=>cases d;rw[Rep]at r;subst r;cases (show f=Value.bool y from c);exact JZ PySem.W.kitx_bool I.kIn Jv e (fun z=>nomatch z) h
  |int y=>cases d;rw[Rep]at r;subst r;obtain⟨t,q⟩:=(show ∃t,f=Value.int y t from c);cases q;exact JZ PySem.W.kitx_int I.kIn Jv e (fun z=>nomatch z) h
  |str y=>cases d;rw[Rep]at r;subst r;obtain⟨t,q⟩:=(show ∃t,f=Value.str y t from c);cases q;exact JZ PySem.W.kitx_str I.kIn Jv e (fun z=>nomatch z) h
  |tup y=>
   cases d;rw[Rep]at r
   obtain⟨p,xs,rfl,h1,_⟩:=r
   cases (show f=Ii p from c)
   obtain⟨j,_,⟨o,k,l,_⟩,_⟩:=I.tuple h1
   exact JZ PySem.W.kitx_tuple I.kIn ⟨o,k,l⟩ e (fun z=>nomatch z) h
  |rol y=>
   cases d;rw[Rep]at r
   obtain⟨p,xs,rfl,h1,_⟩:=r
   cases (show f=Ii p from c)
   obtain⟨j,_,⟨o,n,k,l,_⟩,_⟩:=I.list h1.sql
   exact JZ PySem.W.kitx_list I.kIn ⟨o,k,l⟩ e (fun z=>nomatch z) h
  |_=>cases d
 ·exact q.elim
end
abbrev N1:=D->DS->MH->(DS->MH->Prop)->Prop
abbrev qy:=List D->DS->MH->(DS->MH->Prop)->Prop
section
variable(K:H0)
def xU(H:Hp)(R:DS->MH->Prop)(Q:L2.St->Hp->Prop):Prop:=∀a d b c,Ky K H c->Slots K c a b->LG K c d->R a d->Q b c
def EW(t:N1):TG:=fun v σ H Q=>∃d δ M R,Rep K H d v/\Slots K H δ σ/\LG K H M/\t d δ M R/\xU K H R Q
def B4(t:qy):PM:=fun vs σ H Q=>∃a δ M R,aB K H a vs/\Slots K H δ σ/\LG K H M/\t a δ M R/\xU K H R Q
end
theorem xU.go{K:H0}{H H1:Hp}{R:DS->MH->Prop}{Q:L2.St->Hp->Prop}(g:Ky K H H1)(h:xU K H R Q):xU K H1 R Q:=fun d M v a b=>h d M v a (g.trans b)
namespace Zq
@[scoped irreducible]def _root_.SD.DG(X:Cx)(e:Expr)(t:N1):Prop:=PG X e (EW X.K t)
@[scoped irreducible]def _root_.SD.DGs(X:Cx)(es:List Expr)(t:qy):Prop:=Pz X es (B4 X.K t)
end Zq
theorem p6{X:Cx}{e:Expr}{t t':TG}(h:PG X e t)(k:∀v σ H Q,t' v σ H Q->t v σ H Q):PG X e t':=fun KQ s σ H v u Q I r q=>h KQ s σ H v u Q I r (k _ _ _ _ q)
theorem r9{X:Cx}{e:List Expr}{t t':PM}(h:Pz X e t)(k:∀v σ H Q,t' v σ H Q->t v σ H Q):Pz X e t':=fun KQ s σ H v u Q I r q=>h KQ s σ H v u Q I r (k _ _ _ _ q)
section
variable{X:Cx}{pos:Pos}
def aN(i:Nat):N1:=fun d δ M Q=>Q (δ.set i (KA d)) M
theorem av(i:Nat){x:Str}(e:X.N.Nodup)(f:X.N[i]?=KA x:=by rfl)(g:Loc X.env.scope x:=by first|exact Or.inl rfl|exact Or.inr rfl)(h:X.fn x=KD\/X.env.scope.names.lookup x=KA .local:=by first|exact .inl rfl|exact .inr rfl|assumption):DG X (.Name x pos) (aN i):=p6 (sR e f g h) fun v σ H Q b=>by obtain⟨d,δ,M,R,r,j,a,q,c⟩:=b;exact(c _ _ _ _ .refl (j.set r i) a q)
def FV:qy:=fun a δ M Q=>a=[]/\Q δ M
inductive Om(t:N1)(u:qy)(ds:List D)(δ:DS)(M:MH)(Q:DS->MH->Prop):Prop
 |mk (d:D) (r:List D) (h:ds=d::r) (q:t d δ M fun δ' M'=>u r δ' M' Q):Om t u ds δ M Q
theorem aQ:DGs X [] FV:=r9 se fun vs σ H Q d=>by obtain⟨g,δ,M,R,c,f,a,⟨e,q⟩,b⟩:=d;subst e;rw[aB]at c;exact⟨c,b _ _ _ _ .refl f a q⟩
theorem ax{e:Expr}{es:List Expr}{t:N1}{u:qy}(h1:DG X e t)(i:DGs X es u) (b:(K6 (e::es) X.env).map (·.2)=K9 e X.env::(K6 es X.env).map (·.2):=by rfl):DGs X (e::es) (Om t u):=r9 (lj h1 i b) fun vs σ H Q j=>by obtain⟨v,δ,M,R,g,b,a,⟨d,r,e,q⟩,c⟩:=j;subst e;rw[aB]at g;obtain⟨x,xs,rfl,k,l⟩:=g;exact⟨x,xs,rfl,d,δ,M,_,k,b,a,q,fun f m n w h o p s=>⟨r,f,m,R,l.mono h,o,p,s,c.go h⟩⟩
inductive Pl(n:Nat)(t:qy)(d:D)(δ:DS)(M:MH)(Q:DS->MH->Prop):Prop
 |mk (ds:List D) (h:d=.tup ds) (q:ds.length=n/\t ds δ M Q):Pl n t d δ M Q
theorem aY{es:List Expr}{k:Nat}{t:qy}{n:Nat}(g:X.calm=KD)(h:DGs X es t) (i:(K6 es X.env).length=n:=by rfl) (b:(K6 es X.env).findIdx? (·.1)=KC:=by rfl):DG X (.Tuple es k pos) (Pl n t):=p6 (vN g h i b) fun v σ H Q j=>by obtain⟨d,δ,M,R,r,l,a,⟨m,e,o,q⟩,c⟩:=j;subst e;rw[Rep]at r;obtain⟨p,xs,rfl,h1,f⟩:=r;exact⟨p,xs,rfl,h1,by rw[<-f.length];exact o,m,δ,M,R,f,l,a,q,c⟩
def A3:D->D->D->MH->(MH->Prop)->Prop:=fun o i v M Q=>match o,i with
 |.ref p,.int k=>∃a j,M p=KA (.lst a)/\ixN a.length k=KA j/\Q (ar M p (.lst (a.set j v)))
 |_,_=>False
def Fv(a b:TD):N1:=fun v δ M Q=>a δ M fun o c=>b δ c fun i d=>A3 o i v d fun e=>Q δ e
theorem nh{o i:Expr}{g h:TD}(p:DE X o g)(s:DE X i h)
 (t:∀v,K9 (.Subscript o i pos) X.env v=(do
  let ov <-holding [v] (eval o X.env)
  let iv <-holding [v,ov] (eval i X.env)
  standAt pos
  holding [v,ov,iv] (setItem ov iv v)
  release [v,ov,iv] []):=by intro _;rfl):DG X (.Subscript o i pos) (Fv g h):=
 p6 (Dk p s set_list t) fun v σ H Q u=>by
  obtain⟨d,δ,M,R,r,c,a,q,e⟩:=u
  exact⟨δ,M,_,c,a,q,fun o w x H1 g1 y z A=>⟨δ,w,_,c.mono g1,z,A,fun i D B k f C l b=>by
   unfold A3 at b
   split at b
   ·obtain⟨E,j,e1,e2,b⟩:=b
    obtain rfl:x=.ref _:=y
    obtain rfl:B=.int _:=C
    obtain⟨xs,h1,m⟩:=l _ _ e1
    refine⟨_,xs,_,j,rfl,rfl,h1,by rw[<-m.length];exact e2,?_⟩
    have n:Ky X.K k (upd k _ (.lst (xs.set j v))):=.lst h1
    exact e _ _ _ _ ((g1.trans f).trans n) (c.mono ((g1.trans f).trans n)) (l.xy h1 (m.set (r.mono (g1.trans f)) j)) b
   ·exact b.elim⟩⟩
end
section
variable{X:Cx}{pos:Pos}{st:Stmt}{rest:List Stmt}{t u:Ld}
def cX:Ld:=fun B δ M=>B.nx δ M
def fg(t u:Ld):Ld:=fun B δ M=>t (B.nxt (u B)) δ M
theorem aK:DSs X [] cX:=nP zJ fun E σ H b=>by obtain⟨δ,M,c,a,B,ok,q⟩:=b;exact(ok.nx _ _ _ _ .refl c a q)
theorem ag(h1:DSt X st t)(d:DSs X rest u):DSs X (st::rest) (fg t u):=nP (pj h1 d) fun E σ H b=>by obtain⟨δ,M,e,a,B,ok,q⟩:=b;exact(⟨δ,M,e,a,B.nxt (u B),⟨fun c f h l g i j k=>⟨c,f,i,j,B,ok.go g,k⟩,ok.rt,ok.bk,ok.ct⟩,q⟩)
theorem ak(h1:DSt X st t):DSs X [st] t:=rV h1
def sW:Ld:=fun _ _ _=>False
theorem pE:DSt X st sW:=b5 yD fun E σ H b=>by obtain⟨δ,M,c,a,B,ok,q⟩:=b;exact(q.elim)
theorem uO{c:List Stmt}:DSs X c sW:=nP vd fun E σ H b=>by obtain⟨δ,M,d,a,B,ok,q⟩:=b;exact(q.elim)
def dw(te:TD):Ld:=fun B δ M=>te δ M fun _ a=>B.nx δ a
theorem cI{e:Expr}{te:TD}(f:DE X e te)(c:JR e KC pos.line X.env=pure KG:=by rfl):DSt X (.Expr e pos) (dw te):=b5 (tw f c) fun E σ H b=>by obtain⟨δ,M,c,a,B,ok,q⟩:=b;exact(⟨δ,M,_,c,a,q,fun d i v H1 g1 j g h=>ok.nx _ _ _ _ g1 (c.mono g1) g h⟩)
def eW(te:TD):Ld:=fun B δ M=>te δ M B.rt
theorem ay{e:Expr}{te:TD}(c:DE X e te):DSt X (.Return (KA e) pos) (eW te):=b5 (Dm c) fun E σ H b=>by obtain⟨δ,M,f,a,B,ok,q⟩:=b;exact(⟨δ,M,_,f,a,q,fun d j v H1 g1 g h i=>ok.rt _ _ _ _ g1 g h i⟩)
def fJ(c:Lg)(t u:Ld):Ld:=fun B δ M=>c δ M fun b a=>if b=KD then t B δ a else u B δ a
theorem aW{c:Expr}{a b:List Stmt}{tc:Lg}(i:DT X c tc)(j:DSs X a t)(k:DSs X b u):DSt X (.If c a b pos) (fJ tc t u):=
 b5 (FD i j k) fun E σ H d=>by obtain⟨δ,M,f,a,B,ok,q⟩:=d;exact(⟨δ,M,_,f,a,q,fun c g H1 g1 h e=>by
  cases c with
  |true=>rw[KI rfl]at e ⊢;exact⟨δ,g,f.mono g1,h,B,ok.go g1,e⟩
  |false=>rw[KH HJ]at e ⊢;exact⟨δ,g,f.mono g1,h,B,ok.go g1,e⟩⟩)
def cZ(te:TD)(g:N1):Ld:=fun B δ M=>te δ M fun d a=>g d δ a B.nx
theorem br{tg e:Expr}{te:TD}{g:N1}(f:DE X e te)(h:DG X tg g)(c:swapsWithSole [tg] e pos.line X.env=pure KG:=by rfl)(hw:swappedStores [tg] e X.env=pure KC:=by rfl)
 (h1:(K6 [tg] X.env).map (·.2)=[K9 tg X.env]:=by rfl):DSt X (.Assign [tg] e pos) (cZ te g):=
 b5 (C0 f h c hw h1) fun E σ H b=>by obtain⟨δ,M,c,a,B,ok,q⟩:=b;exact(⟨δ,M,_,c,a,q,fun d i v H1 g1 j k l=>
  ⟨d,δ,i,B.nx,j,c.mono g1,k,l,fun m w n x o p r s=>ok.nx _ _ _ _ (g1.trans o) p r s⟩⟩)
theorem az(i:Nat){x:Str}{e:Expr}{te:TD}{c:Pos}(g:X.N.Nodup)(h:DE X e te)(j:X.N[i]?=KA x:=by rfl)(k:Loc X.env.scope x:=by first|exact Or.inl rfl|exact Or.inr rfl)(f:JR e (KA (.Name x c)) pos.line X.env=pure KG:=by rfl) (l:X.fn x=KD\/X.env.scope.names.lookup x=KA .local:=by first|exact .inl rfl|exact .inr rfl|assumption):DSt X (.Assign [.Name x c] e pos) (cZ te (aN i)):=b5 (DC g j k h f l) fun E σ H b=>by obtain⟨δ,M,f,a,B,ok,q⟩:=b;exact(⟨δ,M,_,f,a,q,fun d p v H1 g1 m n o=>ok.nx _ _ _ _ g1 ((f.mono g1).set m i) n o⟩)
def EC(i j:Nat)(a:L8):Ld:=fun B δ M=>a δ M fun b c=>∃d e,b=[d,e]/\B.nx ((δ.set i (KA d)).set j (KA e)) c
theorem fP(i j:Nat){x y:Str}{a b:Expr}{o:L8}{h k pt:Pos}{l m f}(p:X.calm=KD)(r:X.N.Nodup)(s:DA X [a,b] o)(n:i≠j:=by decide)(w:X.N[i]?=KA x:=by rfl)(A:X.N[j]?=KA y:=by rfl)
 (C:X.env.scope.names.lookup x=KA .local:=by rfl) (D:X.env.scope.names.lookup y=KA .local:=by rfl)
 (hw:swappedStores [.Tuple [.Name x h,.Name y k] l pt] (.Tuple [a,b] m f) X.env=pure (KA [x,y]):=by rfl)
 (g:swapsWithSole [.Tuple [.Name x h,.Name y k] l pt] (.Tuple [a,b] m f) pos.line X.env=pure KG:=by rfl) :
 DSt X (.Assign [.Tuple [.Name x h,.Name y k] l pt] (.Tuple [a,b] m f) pos) (EC i j o):=
 b5 (DN p r w A n C D s hw g) fun E σ H c=>by obtain⟨δ,M,g,a,B,ok,q⟩:=c;exact(⟨δ,M,_,g,a,q,fun O P vs H1 g1 F G I=>by
  obtain⟨d,e,z,J⟩:=I
  subst z
  obtain⟨v,u,rfl,K,L⟩:=dC F
  exact⟨v,u,rfl,ok.nx _ _ _ _ g1 (((g.mono g1).set K i).set L j) G J⟩⟩)
def zy(c:Lg)(tb:Ld):Ld:=fun B δ M=>∃W:Nat->DS->MH->Prop,(∃m,W m δ M)/\∀m δ M,W m δ M->
 c δ M fun b d=>if b=KD then tb (B.lp fun a f=>∃e,e<m/\W e a f) δ d else B.nx δ d
theorem ie{c:Expr}{body:List Stmt}{tc:Lg}{tb:Ld}(I:PassesOwn (HC X.prog X.w) X.A X.env X.xe)(J:DT X c tc)(L:DSs X body tb):DSt X (.While c body [] pos) (zy tc tb):=
 b5 (xR I J L) fun E σ H N=>by
  obtain⟨δ,M,p,a,B,ok,W,⟨m,z⟩,q⟩:=N
  refine⟨fun m σ e=>Ky X.K H e/\∃δ M,Slots X.K e δ σ/\LG X.K e M/\W m δ M,⟨m,.refl,δ,M,p,a,z⟩,?_⟩
  rintro m σ e ⟨g,δ,M,p,a,z⟩
  refine⟨δ,M,_,p,a,q m δ M z,fun b O H1 g1 G x=>?_⟩
  cases b with
  |true=>
   rw[KI rfl]at x ⊢
   refine⟨fun C D=>∃o,o<m/\(Ky X.K H D/\∃δ M,Slots X.K D δ C/\LG X.K D M/\W o δ M),fun k e h=>h,δ,O,p.mono g1,G,_,?_,x⟩
   refine⟨fun f y k e n r s i=>by obtain⟨o,l,F⟩:=i;exact(⟨o,l,(g.trans g1).trans n,f,y,r,s,F⟩),fun d M v e n=>ok.rt d M v e ((g.trans g1).trans n),fun f y k e n r s P=>ok.nx _ _ _ _ ((g.trans g1).trans n) r s P,fun f y k e n r s j=>by obtain⟨o,l,F⟩:=j;exact(⟨o,l,(g.trans g1).trans n,f,y,r,s,F⟩)⟩
  |false=>
   rw[KH HJ]at x ⊢
   exact ok.nx _ _ _ _ (g.trans g1) (p.mono g1) G x
inductive Vh(g:N1)(tb:Ld)(B:EndsD)(n:Nat)(δ0:DS)(M0:MH):Prop
 |mk (W:Nat->DS->MH->Prop) (w0:W 0 δ0 M0) (turn:∀i δ M,i<n->W i δ M->g (.int (i:Int)) δ M fun δ2 M2=>tb (B.lp (W (i+1))) δ2 M2) (done:∀δ M,W n δ M->B.nx δ M):Vh g tb B n δ0 M0
inductive Vi(g:N1)(tb:Ld)(B:EndsD)(ds:List D)(δ0:DS)(M0:MH):Prop
 |mk (n:Nat) (e:ds=[.int (n:Int)]) (q:n<2^60/\Vh g tb B n δ0 M0):Vi g tb B ds δ0 M0
def CD(a:L8)(g:N1)(tb:Ld):Ld:=fun B δ M=>a δ M fun b c=>Vi g tb B b δ c
theorem g8{tg e:Expr}{body:List Stmt}{I:L8}{g:N1}{tb:Ld}{p J:Pos}(L:PassesOwn (HC X.prog X.w) X.A X.env X.xe)(N:X.calm=KD)(O:Gl X "range")(P:X.mg "range"=KC)(Q:DA X [e] I)(R:DG X tg g)(S:DSs X body tb)
 (o:Hv [e] X.env=[(KG,eval e X.env)]:=by rfl) (T:∀x,Ic (.Call (.Name "range" p) [e] [] J) X.env x=pure x:=by intro _;rfl):DSt X (.For tg (.Call (.Name "range" p) [e] [] J) body [] pos) (CD I g tb):=
 b5 (vW L N (mU O P Q o) R S T) fun E σ H ⟨δ,M,o,a,B,ok,q⟩=>⟨δ,M,_,o,a,q,fun ds U vs H1 g1 V Y Z=>by
  obtain⟨n,e,hn,W,w0,j,done⟩:=Z
  subst e
  obtain⟨v,rfl,r⟩:=b8 V
  rw[Rep]at r;subst r
  refine⟨(n:Int),rfl,(),(),?_⟩
  rw[show((n:Int)).toNat=n from by simp]
  refine uT (fun i σ c=>Ky X.K H c/\∃δ M,Slots X.K c δ σ/\LG X.K c M/\W i δ M) ⟨g1,δ,U,o.mono g1,Y,w0⟩ ?_ ?_
  ·rintro i σ H2 hi ⟨h,δ,M,z,C,D⟩
   refine⟨.int (i:Int),δ,M,_,by rw[Rep];simp,z,C,j i δ M hi D,fun F M3 a0 H3 s s3 a3 q3=>?_⟩
   refine⟨F,M3,s3,a3,_,?_,q3⟩
   exact⟨fun b y k c f l m G=>⟨(h.trans s).trans f,b,y,l,m,G⟩,fun d M v c f=>ok.rt d M v c ((h.trans s).trans f),fun b y k c f l m q'=>ok.nx _ _ _ _ ((h.trans s).trans f) l m q',fun b y k c f l m G=>⟨(h.trans s).trans f,b,y,l,m,G⟩⟩
  ·rintro σ H2 ⟨h,δ,M,z,C,D⟩
   exact ok.nx _ _ _ _ h z C (done δ M D)⟩
end
theorem mY{b:Bool}{A B:Prop}(e:b=KD)(h:A):if b=KD then A else B:=by rw[KI e];exact h
theorem lY{b:Bool}{A B:Prop}(e:b=KG)(h:B):if b=KD then A else B:=by rw[KH (by rw[e];exact HJ)];exact h
theorem ye{b tb:TD}{δ:DS}{M:MH}{Q:DK}(a c:Bool)(e:∀K:DK,K (.bl a) M->b δ M K)(f:a=KD->∀K:DK,K (.bl c) M->tb δ M K)(d:Q (.bl (a&&c)) M):ya b tb δ M Q:=
 e _ ⟨a,rfl,by
  cases a with
  |true=>rw[KI rfl];exact f rfl _ d
  |false=>rw[KH HJ];exact d⟩
theorem WI{b tb:Lg}{δ:DS}{M:MH}{Q:Bool->MH->Prop}(a c:Bool)(e:∀K:Bool->MH->Prop,K a M->b δ M K)(f:a=KG->∀K:Bool->MH->Prop,K c M->tb δ M K)(d:Q (a||c) M):E9 b tb δ M Q:=
 e _ (by
  cases a with
  |true=>rw[KI rfl];exact d
  |false=>rw[KH HJ];exact f rfl _ d)
theorem vG{b tb:Lg}{δ:DS}{M:MH}{Q:Bool->MH->Prop}(a c:Bool)(e:∀K:Bool->MH->Prop,K a M->b δ M K)(f:a=KD->∀K:Bool->MH->Prop,K c M->tb δ M K)(d:Q (a&&c) M):Bi b tb δ M Q:=
 e _ (by
  cases a with
  |true=>rw[KI rfl];exact f rfl _ d
  |false=>rw[KH HJ];exact d)
def tJ(r b:Lk)(c tb tc:TD):TD:=fun δ M Q=>c δ M fun x d=>tb δ d fun y e=>r x y e fun z a=>∃k,z=.bl k/\if k=KD then tc δ a fun u f=>b y u f Q else Q (.bl KG) a
theorem cj{t u:Ld}{B:EndsD}{δ:DS}{M:MH}(W:DS->MH->Prop)(c:∀a b,W a b->u B a b)(d:(∀a b,W a b->u B a b)->t (B.nxt (u B)) δ M):fg t u B δ M:=d c
def Sub(b M:MH):Prop:=∀a o,b a=KA o->M a=KA o
theorem Sub.refl{M:MH}:Sub M M:=fun _ _ h=>h
theorem Sub.trans{M c d:MH}(a:Sub M c)(b:Sub c d):Sub M d:=fun x o h=>b x o (a x o h)
theorem Sub.new{M b:MH}{p:Addr}{o:MO}(c:M p=KC)(s:Sub b M):Sub b (ar M p o):=fun a u h=>by rw[aq (fun e=>by subst e;rw[s _ _ h]at c;cases c)];exact s _ _ h
inductive Po(Q:DK)(d:D)(M:MH):Prop
 |mk (M':MH) (s:Sub M' M) (q:Q d M'):Po Q d M
@[reducible] def oY(Q:DK):EndsD:={ nx:=fun _ a=>Po Q .non a,rt:=Po Q }
theorem LL{Q:DK}{d:D}{M:MH}(q:Q d M):Po Q d M:=⟨M,.refl,q⟩
abbrev Ms:=List D->MH->DK->Prop
def gJ(K:H0)(sp:Ms):Sp:=fun vs H Q _=>∃a M R,aB K H a vs/\LG K H M/\sp a M R/\Fin K H R Q
def Cal(P:HF)(w:Ih)(K:H0)(mg:Str->Option Hj)(base:Heap)(k:Nat)(x:Str)(sp:Ms):Prop:=
 ∃f fd ps,L5 P w K mg base Mf k f fd ps (gJ K sp)/\mg x=KA (.ref f)/\JD K (.ref f)=KD/\Binds K fd ps []
theorem Cal.mono{P:HF}{w:Ih}{K:H0}{mg:Str->Option Hj}{base:Heap}{j k:Nat}{x:Str}{sp:Ms}(h:Cal P w K mg base j x sp)(l:j<=k):Cal P w K mg base k x sp:=let⟨f,fd,ps,F,r⟩:=h;⟨f,fd,ps,F.mono l,r⟩
section
variable{X:Cx}{k:Nat}{x:Str}{sp:Ms}{p pos:Pos}{e:Expr}{es:List Expr}{t:L8}
def wA(sp:Ms)(t:L8):TD:=fun δ M Q=>t δ M fun a b=>sp a b Q
theorem aj(C:Cal X.prog X.w X.K X.mg X.base k x sp)(g:LH k X.A)(h:DA X (e::es) t)(i:Gl X x:=by rfl)(b:(x==("__debug__":Str))=KG:=by decide)
 (j:Hv (e::es) X.env=(KG,eval e X.env)::Hv es X.env:=by rfl) (c:(IY pos (Hv es X.env)).any (·.1)=KG:=by rfl):DE X (.Call (.Name x p) (e::es) [] pos) (wA sp t):=by
 obtain⟨f,fd,ps,F,l,m,n⟩:=C
 refine aV (zf F g i l m n .nil FG h b j c) fun σ H Q a=>?_
 obtain⟨δ,M,R,o,r,q,d⟩:=a
 refine⟨δ,M,_,o,r,q,fun s u vs H1 g1 v y z=>?_⟩
 show gJ X.K sp (vs++[]) H1 Q E0
 rw[IX]
 exact⟨s,u,R,v,y,z,d.go g1⟩
end
def dZ(N:List Str)(a:List D):DS:=a.map KA++HY (N.length-a.length) KC
section
variable{P:HF}{w:Ih}{K:H0}{mg:Str->Option Hj}{base:Heap}
theorem YW{x qual:Str}{st:Stmt}{f:Addr}{fd:JT}{N ps:List Str}{k:Nat}{sp:Ms}(F:PQ K x qual st f fd)(S:Kv N ps (ao st))(len:∀b M Q,sp b M Q->b.length=ps.length)
 (m:∀X:Cx,X.prog=P->True) (body:∀(cdv:Hj) (A:Ij) (outer:List Env) (s:Hk) (H:Hp) (E:XK),LH k (A.deeper (envOfC qual (ao st) s.heap.objs.size f cdv))->
  ∃t,DSs (bg Mf P w K mg base N qual (ao st) f cdv A outer s H E).nox (aR st) t/\∀b M Q,sp b M Q->t (oY Q) (dZ N b) M):L5 P w K mg base Mf (k+1) f fd ps (gJ K sp):=by
 refine F.ok S (fun vs H Q E c=>by obtain⟨b,M,R,n,_,q,_⟩:=c;rw[<-n.length];exact len _ _ _ q) fun cdv A outer s H vs Q E B e=>?_
 obtain⟨b,M,R,n,a,q,j⟩:=e
 obtain⟨t,h,C⟩:=body cdv A outer s H E B
 refine⟨_,h,dZ N b,M,jf n,a,(oY R),⟨fun D G I u g J o l=>?_,fun d G v u g r o i=>by obtain⟨y,p,l⟩:=i;exact(j _ _ _ _ g r (o.sub p) l),fun _ _ _ _ _ _ _ z=>z,fun _ _ _ _ _ _ _ z=>z⟩,C b M R q⟩
 obtain⟨y,p,l⟩:=l
 exact j .non y .non u g (by rw[Rep]) (o.sub p) l
def Txt(K:H0)(mg:Str->Option Hj)(x:Str)(st:Stmt):Prop:=∃f fd,PQ K x x st f fd/\mg x=KA (.ref f)
theorem Txt.mk{h:Heap}{x:Str}{st:Stmt}{f:Addr}{oc:Hj}{od an:Option Addr}{osl:Array (Option Hj)}{kV b d cdv ct:Hj}(X:K.In h)(G:h.Ns Ir mg)(a:IT K Ir x=KA (KA (.ref f))) (l:K.lookup f=KA ⟨oc,od,.func (Ja x x (bF st) (aR st) (ao st) .none kV b d an cdv ct),osl⟩) (c:PySem.W.codeIn K cdv x=KD) (k:JD K (.ref f)=KD):Txt K mg x st:=⟨f,_,yc l c k,PySem.W.mg_of X G a⟩
theorem qj{x:Str}{st:Stmt}{N ps:List Str}{k:Nat}{sp:Ms}(T:Txt K mg x st)(S:Kv N ps (ao st))
 (c:∀(kV b d:Hj) (an:Option Addr) (cdv ct:Hj) (us:List Hj),us.length=ps.length->bindArgs (Ja x x (bF st) (aR st) (ao st) .none kV b d an cdv ct) ⟨us,[]⟩=pure (ps.zip us))
 (len:∀a M Q,sp a M Q->a.length=ps.length)
 (body:∀(f:Addr) (cdv:Hj) (A:Ij) (outer:List Env) (s:Hk) (H:Hp) (E:XK),LH k (A.deeper (envOfC x (ao st) s.heap.objs.size f cdv))->
  ∃t,DSs (bg Mf P w K mg base N x (ao st) f cdv A outer s H E).nox (aR st) t/\∀a M Q,sp a M Q->t (oY Q) (dZ N a) M):Cal P w K mg base (k+1) x sp:=by
 obtain⟨f,fd,F,e⟩:=T
 exact⟨f,fd,ps,YW F S len (fun _ _=>trivial) (body f),e,F.kp,F.binds c⟩
end
theorem qA:ID "abs"=KA (.builtin "abs"):=by decide +kernel
theorem xY:ID "max"=KA (.builtin "max"):=by decide +kernel
theorem xt:ID "min"=KA (.builtin "min"):=by decide +kernel
theorem bR:ID "len"=KA (.builtin "len"):=by decide +kernel
theorem d3:ID "isinstance"=KA (.builtin "isinstance"):=by decide +kernel
theorem xP:ID "tuple"=KA (.type "tuple"):=by decide +kernel
theorem yP:ID "list"=KA (.type "list"):=by decide +kernel
theorem qw:ID "int"=KA (.type "int"):=by decide +kernel
section
variable{P:HF}{w:Ih}{K:H0}{mg:Str->Option Hj}
theorem Ha{x:Str}{st:Stmt}{N:List Str}{p:Str}{k:Nat}{sp:Ms}{fa:Addr}(T:Txt K mg x st)(c:mg x=KA (.ref fa))(S:Kv N [p] (ao st))
 (g:∀(kV a d:Hj) (an:Option Addr) (cdv ct:Hj) (us:List Hj),us.length=[p].length->bindArgs (Ja x x (bF st) (aR st) (ao st) .none kV a d an cdv ct) ⟨us,[]⟩=pure ([p].zip us))
 (len:∀b M Q,sp b M Q->b.length=[p].length)
 (body:∀(base:Heap) (f:Addr) (cdv:Hj) (A:Ij) (outer:List Env) (s:Hk) (H:Hp) (E:XK),LH k (A.deeper (envOfC x (ao st) s.heap.objs.size f cdv))->
  ∃t,DSs (bg Mf P w K mg base N x (ao st) f cdv A outer s H E).nox (aR st) t/\∀b M Q,sp b M Q->t (oY Q) (dZ N b) M) :
 ∃fd,(∀(s:Hk) (u:Hj),BindsTo s fd ⟨[u],[]⟩ [(p,u)])/\∀base:Heap,L5 P w K mg base Mf (k+1) fa fd [p] (gJ K sp):=by
 obtain⟨f,fd,F,h⟩:=T
 have e:=c.symm.trans h
 cases e
 refine⟨fd,fun s u=>?_,fun base=>YW F S len (fun _ _=>trivial) (body base _)⟩
 obtain⟨oc,od,kV,a,d,an,cdv,ct,osl,rfl,lk,i⟩:=F.ex
 exact .of_eq (g kV a d an cdv ct [u] rfl)
end
theorem xK{l:PySem.W.OpenLaw}{k:Nat}{q:HF}{i:List Str}{t:(Str->Option Hj)->Heap->Prop}{p:Ih->Heap->Prop}{d:DefRec}{K:Hw->H0}{sp:Ms}{x:Str}
 (A:l.most=KA 63) (j:d.params.defaults=[]) (B:LH k callerA)
 (C:∀(w:Ih) (h:Heap),p w h->(K w.params).In h)
 (F:∀(w:Ih) (mg:Str->Option Hj) (fa:Addr) (h:Heap),(K w.params).In h->h.Ns Ir mg->mg d.name=KA (.ref fa)->
  ∃fd:JT,(∀(s:Hk) (u:Hj),BindsTo s fd ⟨[u],[]⟩ [(x,u)])/\
   ∀base:Heap,L5 l.prog w (K w.params) mg base Mf k fa fd [x] (gJ (K w.params) sp))
 (m:∀(ns:List Int) (M:MH),ns.length<=63->sp [.rol (ns.map D.int)] M (fun d _=>d=.bl KD)) :
 PySem.W.WalkO q i t p l.row.toRowW d [] (fun f vs=>PySem.call f vs):=by
 refine zh (x:=x) (n:=63) (CX:=fun _=>Mf) (sp:=fun w=>gJ (K w.params) sp) A ⋯ j B C (fun w mg fa h a b c=>?_) (fun w H a ns E G I=>?_) fun _ _ _ _ _ z=>z
 ·obtain⟨fd,h1,J⟩:=F w mg fa h a b c
  exact⟨fd,h1,fun base _ _=>J base⟩
 ·have hF:QK (K w.params) H a (ns.map V.int):=by
   rcases I with(z|z)|z
   ·rcases G a with y|⟨o,xs,y⟩
    ·rw[z]at y;cases y
    ·rw[z]at y;cases y
   ·exact .inl z
   ·exact .inr z
  refine⟨[.rol (ns.map D.int)],fun _=>KC,_,.cons (by rw[Rep];exact⟨a,_,rfl,hF,iA ns⟩) .nil,(fun _ _ e=>nomatch e:LG (K w.params) H fun _=>KC),m ns _ E,fun d L v N g r O e=>?_⟩
  subst e
  rw[Rep]at r
  exact r
end SD
namespace Ma
open PySem PySem.Spec PyProof.Rows L2 SD
abbrev fr(q:Rat):D:=.tup [.int q.num,.int (q.den:Int)]
theorem den_pos(q:Rat):(0:Int)<(q.den:Int):=by have:=q.den_pos;omega
def Bq(n:Nat)(q:Rat):Prop:=Bd n q.num/\Bd n (q.den:Int)
theorem Bq.mono{m n:Nat}{q:Rat}(h:Bq m q)(l:m<=n):Bq n q:=⟨h.1.mono l,h.2.mono l⟩
theorem pK{t b:Int}(a:0<b):t.fdiv b=t/b:=Iw _ ()
theorem fdiv_neg{t b:Int}(hd:b ∣ t)(d:0<b):t.fdiv (-b)=-(t/b):=by
 obtain⟨c,rfl⟩:=hd;have a:b≠0:=()
 rw[Int.mul_ediv_cancel_left _ a];have:b*c=-b * -c:=by rw[Int.neg_mul_neg]
 rw[this];exact Int.mul_fdiv_cancel_left _ ()
theorem tu(t b:Int):((JV t.natAbs b.natAbs:Nat):Int) ∣ t:=Int.ofNat_dvd_left.mpr (Nat.gcd_dvd_left _ _)
theorem sO(t b:Int):((JV t.natAbs b.natAbs:Nat):Int) ∣ b:=Int.ofNat_dvd_left.mpr (Nat.gcd_dvd_right _ _)
theorem mC(t b:Int):Int.gcd b t=JV t.natAbs b.natAbs:=by unfold Int.gcd;exact Nat.gcd_comm _ _
theorem d4{t b:Int}(a:b≠0):0<JV t.natAbs b.natAbs:=Nat.gcd_pos_of_pos_right _ ()
theorem sH{t b:Int}(a:0<b):t.fdiv (JV t.natAbs b.natAbs:Nat)=(Rat.divInt t b).num/\b.fdiv (JV t.natAbs b.natAbs:Nat)=((Rat.divInt t b).den:Int):=by
 have c:=d4 (t:=t) (b:=b) ();rw[pK (),pK (),Rat.num_divInt,Rat.den_divInt,KH (),Ip a,Int.one_mul,mC];refine⟨rfl,?_⟩;rw[Int.natCast_ediv]
 congr 1
 omega
theorem AW{t b:Int}(a:b<0):t.fdiv (-((JV t.natAbs b.natAbs:Nat):Int))=(Rat.divInt t b).num/\b.fdiv (-((JV t.natAbs b.natAbs:Nat):Int))=((Rat.divInt t b).den:Int):=by
 have c:=d4 (t:=t) (b:=b) ();rw[fdiv_neg (tu t b) (),fdiv_neg (sO t b) (),Rat.num_divInt,Rat.den_divInt,KH (),Ia a,mC];constructor
 ·rw[show(-1:Int)*t=-t from by omega,Int.neg_ediv_of_dvd (tu t b)]
 ·rw[Int.natCast_ediv,show((b.natAbs:Nat):Int)=-b from by omega,Int.neg_ediv_of_dvd (sO t b)]
theorem rO{t b:Int}(a:b≠0):(Rat.divInt t b).num.natAbs<=t.natAbs/\(Rat.divInt t b).den<=b.natAbs:=by
 constructor
 ·rw[Rat.num_divInt];refine IA (Int.natAbs_ediv_le_natAbs _ _) ?_;rw[Int.natAbs_mul];rcases Ie b 0 with h|h|h
  ·rw[Ia h];simp
  ·exact absurd h a
  ·rw[Ip h];simp
 ·rw[Rat.den_divInt,KH a];exact Nat.div_le_self _ _
theorem Bq.divInt{n:Nat}{t b:Int}(a:b≠0)(h1:Bd n t)(c:Bd n b):Bq n (Rat.divInt t b):=by obtain⟨d,e⟩:=rO (t:=t) a;exact⟨Nat.lt_of_le_of_lt d h1,Nat.lt_of_le_of_lt (by simpa using e) c⟩
theorem sX(x y:Nat):Int.fmod (x:Int) (y:Int)=((x%y:Nat):Int):=by rw[Int.fmod_eq_emod_of_nonneg _ ()];rfl
theorem qS(q r:Rat):IM (.tuple [.int q.num,.int (q.den:Int)]) (.tuple [.int r.num,.int (r.den:Int)])=decide (q=r):=by
 simp only[IM,Jd,Bool.and_true];by_cases h:q=r
 ·subst h;simp
 ·rw[KJ h];rw[Bool.eq_false_iff];intro z;rw[IQ,beq_iff_eq,beq_iff_eq]at z;exact h (Rat.ext z.1 (by have:=z.2;omega))
theorem Fh(q r:Rat):decide (q.num*(r.den:Int)<r.num*(q.den:Int))=decide (q<r):=by rw[KN,Rat.lt_iff]
abbrev spt(a b:Rat):D:=.tup [fr a,fr b]
theorem jI(a b c d:Rat):IM (.tuple [.tuple [.int a.num,.int (a.den:Int)],.tuple [.int b.num,.int (b.den:Int)]]) (.tuple [.tuple [.int c.num,.int (c.den:Int)],.tuple [.int d.num,.int (d.den:Int)]])=decide (a=c/\b=d):=by rw[IM,Jd,Jd,Jd,qS,qS,Bool.and_true,Bool.decide_and]
theorem eN(q:Rat):(q.den:Int)≠0:=by have:=q.den_pos;omega
theorem add_eq(q r:Rat):Rat.divInt (q.num*(r.den:Int)+r.num*(q.den:Int)) ((q.den:Int)*(r.den:Int))=q+r:=by rw[<-Rat.divInt_add_divInt _ _ (eN q) (eN r),Jw,Jw]
theorem sub_eq(q r:Rat):Rat.divInt (q.num*(r.den:Int)-r.num*(q.den:Int)) ((q.den:Int)*(r.den:Int))=q-r:=by rw[<-Rat.divInt_sub_divInt _ _ (eN q) (eN r),Jw,Jw]
theorem l9(q r:Rat):(q.den:Int)*(r.den:Int)≠0:=Int.mul_ne_zero (eN q) (eN r)
theorem Bq.FH{n:Nat}{q r:Rat}(a:Bq n q)(b:Bq n r):Bd (2*n+1) (q.num*(r.den:Int)+r.num*(q.den:Int)):=((a.1.mul b.2).add (b.1.mul a.2)).mono ()
theorem Bq.pX{n:Nat}{q r:Rat}(a:Bq n q)(b:Bq n r):Bd (2*n+1) (q.num*(r.den:Int)-r.num*(q.den:Int)):=((a.1.mul b.2).sub (b.1.mul a.2)).mono ()
theorem Bq.Bh{n:Nat}{q r:Rat}(a:Bq n q)(b:Bq n r):Bd (2*n+1) ((q.den:Int)*(r.den:Int)):=(a.2.mul b.2).mono ()
theorem Bq.mOk{n:Nat}{q r:Rat}(a:Bq n q)(b:Bq n r)(h:n<=8000):IntMulOk q.num r.num/\IntMulOk q.num (r.den:Int)/\IntMulOk r.num (q.den:Int)/\IntMulOk (q.den:Int) (r.den:Int):=
 have m:∀{i:Int},Bd n i->Bd 1000000 i:=fun z=>z.mono ()
 ⟨cA (m a.1) (m b.1),cA (m a.1) (m b.2),cA (m b.1) (m a.2),cA (m a.2) (m b.2)⟩
def sgn(z:Rat):Int:=if 0<z then 1 else if z<0 then -1 else 0
def cr(a b c d x y:Rat):Rat:=(c-a)*(y-b)-(d-b)*(x-a)
abbrev wll(a b c d:Rat):D:=.tup [spt a b,spt c d]
def ah(a b c d:Rat):Prop:=a<c\/a=c/\b<d
instance(a b c d:Rat):Decidable (ah a b c d):=inferInstanceAs (Decidable (_\/_))
theorem pos_int{i:Int}(h:0<i):(0:Rat)<(i:Rat):=by rw[Rat.lt_iff];simpa using h
end Ma
namespace SD
open PySem PySem.Spec PyProof.Rows L2
def d7(names:List (Str×JL))(env:Env):List (Str×Addr):=(names.filter fun y=>y.2==.free).reverse.map fun y=>(y.1,(env.cells.lookup y.1).getD 0)
theorem rz{scope:JC}{env:Env}(h:∀y∈scope.names,y.2=.free->∃c,env.cells.lookup y.1=KA c):closureFor scope env=pure (d7 scope.names env):=by
 have key:∀(names:List (Str×JL)) (b:List (Str×Addr)),(∀y∈names,y.2=.free->∃c,env.cells.lookup y.1=KA c)->
  (forIn names b (fun(x:Str×JL) (r:List (Str×Addr))=>if(x.2==JQ)=KD then do let a <-cellOf env x.1;pure (JJ ((x.1,a)::r))else pure (JJ r)):Sem (List (Str×Addr)))=pure (d7 names env++b):=by
  intro names
  induction names with
  |nil=>intro b _;rfl
  |cons y l g=>
   intro b e
   obtain⟨n,k⟩:=y
   rw[List.forIn_cons]
   by_cases d:(k==JQ)=KD
   ·obtain⟨c,i⟩:=e (n,k) (J0 ..) (by simpa using d)
    have e1:cellOf env n=pure c:=by unfold cellOf;rw[i]
    dsimp only
    rw[KI d,e1]
    simp only[pure_bind]
    rw[g _ fun y f=>e y (Io _ f)]
    unfold d7
    rw[List.filter_cons_of_pos (by simpa using d),List.reverse_cons,HR,List.append_assoc]
    simp[i]
   ·dsimp only
    rw[KH d]
    simp only[pure_bind]
    rw[g _ fun y f=>e y (Io _ f)]
    unfold d7
    rw[List.filter_cons_of_neg (by simpa using d)]
 have:=key scope.names [] h;rw[IX]at this;unfold closureFor;exact Eq.trans (congrArg (fun t:Sem (List (Str×Addr))=>t >>= fun j=>pure j) this) rfl
theorem pL{env:Env}{y:Str}{c:Addr}:∀{names:List (Str×JL)},(∀z∈names,z.2=.free->∃c,env.cells.lookup z.1=KA c)->(d7 names env).lookup y=KA c->env.cells.lookup y=KA c:=by intro names h e;have b:=Iy e;unfold d7 at b;obtain⟨z,a,e2⟩:=IU.mp b;rw[List.mem_reverse,Ig]at a;obtain⟨f,d⟩:=h z a.1 (by simpa using a.2);rw[d]at e2;cases e2;exact d
theorem oj{env:Env}{y:Str}{names:List (Str×JL)}(a:(y,JQ)∈names):∃c,(d7 names env).lookup y=KA c:=by
 cases e:(d7 names env).lookup y with
 |some c=>exact⟨c,rfl⟩
 |none=>
  have:=List.lookup_eq_none_iff.mp e (y,(env.cells.lookup y).getD 0) (IU.mpr ⟨(y,.free),List.mem_reverse.mpr (Ig.mpr ⟨a,rfl⟩),rfl⟩)
  simp at this
theorem fF{env:Env}(d:env.scope.kind=.function):∀{names:List (Str×JL)} {y:Str} {k:JL},
 (names.map fun(n,k)=>if(k==JQ&&env.scope.kind==.function&&env.kindOf n==KA .cell)then(n,NameKind.cell)else(n,k)).lookup y=KA k->
  names.lookup y=KA k\/(k=.cell/\names.lookup y=KA .free)
 |[],_,_,h=>by simp at h
 |(n,q)::r,y,k,h=>by
  have e:=@fF env d r y k
  rw[Hs]at h
  dsimp only at h
  by_cases b:(y==n)=KD
  ·by_cases c:(q==JQ&&env.scope.kind==.function&&env.kindOf n==KA .cell)=KD
   ·rw[KI c,J6,b]at h
    have f:q=.free:=by
     rw[IQ,IQ]at c
     simpa using c.1.1
    cases h
    right
    exact⟨rfl,by rw[J6,b,f]⟩
   ·rw[KH c,J6,b]at h
    left
    rw[J6,b];exact h
  ·have a:(y==n)=KG:=by simpa using b
   have g:(r.map fun(n,k)=>if(k==JQ&&env.scope.kind==.function&&env.kindOf n==KA .cell)then(n,NameKind.cell)else(n,k)).lookup y=KA k:=by
    split at h
    ·rw[J6,a]at h;exact h
    ·rw[J6,a]at h;exact h
   rw[J6,a]
   exact e g
theorem kq{X:Cx}{tg a:Expr}{c b:TI}(h:PI X tg a c)(k:∀σ H R,b σ H R->c σ H R):PI X tg a b:=fun KQ s σ H R I q=>h KQ s σ H R I (k _ _ _ q)
def Gk(K:H0)(tl:TE):TI:=fun σ H R=>tl σ H fun x H1=>∃a,x=.ref a/\(((∃xs,LR K H1 a xs)/\R (Y4 K a) H1)\/((∃xs,LU K H1 a xs)/\R (Y3 K a) H1))
theorem DF{X:Cx}{tg l:Expr}{tl:TE}(j:PE X l tl):PI X tg l (Gk X.K tl):=by
 intro KQ s σ H R I h;refine LA (j KQ s σ H _ I h) fun v c d=>?_;obtain⟨x,H1,f,k,m⟩:=d;obtain⟨a,e,z⟩:=m;subst e;cases k
 have fp:∀b∈[c.heap.objs.size],cL X KQ H1 b:=fun b n=>by
  obtain rfl:b=c.heap.objs.size:=by simpa using n
  exact f.qY (Hq _) (f.hok.fresh (Hq _))
 rcases z with⟨⟨xs,i⟩,q⟩|⟨⟨xs,i⟩,q⟩
 ·obtain⟨g,r,p,t⟩:=f.list i;exact wpAny_pyIter_list p.isList ⟨_,[c.heap.objs.size],_,_,H1,rfl,f.kept (t':=c.toks) fun b o e=>Ho _ e,uB a _,⟨_,HG _ rfl,rfl,rfl⟩,fp,q⟩
 ·obtain⟨g,r,p,t⟩:=f.tuple i;exact wpAny_pyIter_tuple (show c.heap.IsTuple a g.toArray from p) ⟨_,[c.heap.objs.size],_,_,H1,rfl,f.kept (t':=c.toks) fun b o e=>Ho _ e,p7 a _,⟨_,HG _ rfl,rfl,rfl⟩,fp,q⟩
structure Oq where
 n:Nat
 item:Nat->Option D
 C:MH->Prop
abbrev MW:=DS->MH->(Oq->MH->Prop)->Prop
structure Vg(K:H0)(H1:Hp)(I:Oq)(J:It):Prop where
 stop:∀H2 M2,Ky K H1 H2->LG K H2 M2->I.C M2->J.stop I.n H2
 go:∀i H2 M2,i<I.n->Ky K H1 H2->LG K H2 M2->I.C M2->J.go i H2
 yld:∀i H2 M2 v H3,i<I.n->Ky K H1 H2->LG K H2 M2->I.C M2->J.yld i H2 v H3->Ky K H2 H3/\LG K H3 M2/\∃d,I.item i=KA d/\Rep K H3 d v
def k9(K:H0)(t:MW):TI:=fun σ H R=>∃δ M b,Slots K H δ σ/\LG K H M/\t δ M b/\∀I c a J,Ky K H a->LG K a c->b I c->Vg K a I J->R J a
namespace Zq
@[scoped irreducible]def _root_.SD.DI(X:Cx)(tg a:Expr)(t:MW):Prop:=PI X tg a (k9 X.K t)
end Zq
def CF(M:MH):D->List D->Prop
 |.tup ds,es=>es=ds
 |.rol ds,es=>es=ds
 |.ref a,es=>M a=KA (.lst es)
 |_,_=>False
inductive YZ(ds:List D)(M:MH)(R:Oq->MH->Prop):Prop
 |mk (n:Nat) (h:ds=[.int (n:Int)]) (q:n<2^60/\R ⟨n,fun i=>KA (.int (i:Int)),fun _=>True⟩ M):YZ ds M R
inductive YY(d:D)(M:MH)(R:Oq->MH->Prop):Prop
 |mk (ds:List D) (h:CF M d ds) (q:R ⟨ds.length,fun i=>ds[i]?,fun M=>CF M d ds⟩ M):YY d M R
def Ew(a:L8):MW:=fun δ M R=>a δ M fun b c=>YZ b c R
def D9(c:L8):MW:=fun δ M R=>c δ M fun d e=>∃a b:Int,d=[.int a,.int b]/\(-(2^60)<=a/\a<2^60/\-(2^60)<=b/\b<2^60)/\R ⟨(b-a).toNat,fun i=>KA (.int (a+i)),fun _=>True⟩ e
def GZ(tl:TD):MW:=fun δ M R=>tl δ M fun d a=>YY d a R
section
variable{X:Cx}{tg:Expr}
theorem fZ{a:Expr}{d:L8}{p pos:Pos}(g:Gl X "range")(h:X.mg "range"=KC)(j:DA X [a] d)(b:Hv [a] X.env=[(KG,eval a X.env)]:=by rfl):DI X tg (.Call (.Name "range" p) [a] [] pos) (Ew d):=
 kq (mU g h j b) fun σ H R k=>by
  obtain⟨δ,M,x,b,l,q,c⟩:=k
  exact⟨δ,M,_,b,l,q,fun y m vs H1 g1 o s t=>by
   obtain⟨n,e,z,u⟩:=t
   subst e
   obtain⟨v,rfl,r⟩:=b8 o
   rw[Rep]at r;subst r
   refine⟨(n:Int),rfl,(),(),c _ m H1 _ g1 s u ⟨fun _ _ _ _ _=>by show((n:Int)).toNat<=n;simp,fun i _ _ f _ _ _=>by show i<((n:Int)).toNat;simpa using f,?_⟩⟩
   rintro i A B v C f D w _ ⟨rfl,rfl⟩
   exact⟨.refl,w,_,rfl,by rw[Rep];simp⟩⟩
theorem u5{a b:Expr}{g:L8}{p pos:Pos}(l:Gl X "range")(m:X.mg "range"=KC)(n:DA X [a,b] g)(c:Hv [a,b] X.env=[(KG,eval a X.env),(KG,eval b X.env)]:=by rfl)(d:Hv [b] X.env=[(KG,eval b X.env)]:=by rfl):DI X tg (.Call (.Name "range" p) [a,b] [] pos) (D9 g):=
 kq (uz l m n c d) fun σ H R o=>by
  obtain⟨δ,M,C,c,s,q,f⟩:=o
  exact⟨δ,M,_,c,s,q,fun D t vs H1 g1 w x y=>by
   obtain⟨z,j,e,E,A⟩:=y
   subst e
   obtain⟨v,u,rfl,r,k⟩:=dC w
   rw[Rep]at r;subst r
   obtain rfl:u=.int j:=by rw[Rep]at k;exact k
   refine⟨z,j,rfl,(),f _ t H1 _ g1 x A ⟨fun _ _ _ _ _=>Hq _,fun i _ _ h _ _ _=>h,?_⟩⟩
   rintro i F G v I h J B _ ⟨rfl,rfl⟩
   exact⟨.refl,B,_,rfl,by rw[Rep]⟩⟩
theorem aS{l:Expr}{tl:TD}(F:DE X l tl):DI X tg l (GZ tl):=
 kq (DF F) fun σ H R G=>by
  obtain⟨δ,M,N,I,J,q,o⟩:=G
  exact⟨δ,M,_,I,J,q,fun d y v H1 g1 s z K=>by
   obtain⟨e,A,B⟩:=K
   cases d with
   |tup C=>
    obtain rfl:e=C:=A
    rw[Rep]at s
    obtain⟨a,xs,rfl,j,m⟩:=s
    refine⟨a,rfl,.inr ⟨⟨xs,j⟩,o _ y H1 _ g1 z B ⟨fun n _ c _ _=>⟨xs,c.t _ _ j,by rw[m.length];exact Hq _⟩,fun i n _ b c _ _=>?_,?_⟩⟩⟩
    ·have g:i<xs.length:=by rw[<-m.length];exact b
     exact⟨xs,xs[i],c.t _ _ j,by simp[g]⟩
    ·rintro i n p v E b c h _ ⟨rfl,k⟩
     have b:i<e.length:=b
     obtain⟨x,e1,e2⟩:=(m.mono c).get (show e[i]?=KA e[i] by simp[b])
     have:=k xs (c.t _ _ j)
     rw[e1]at this;cases this
     exact⟨.refl,h,_,by simp[b],e2⟩
   |rol C=>
    obtain rfl:e=C:=A
    rw[Rep]at s
    obtain⟨a,xs,rfl,j,m⟩:=s
    refine⟨a,rfl,.inl ⟨⟨xs,j.sql⟩,o _ y H1 _ g1 z B ⟨fun n _ c _ _=>⟨xs,(c.f _ _ j).sql,by rw[m.length];exact Hq _⟩,fun i n _ b c _ _=>?_,?_⟩⟩⟩
    ·have g:i<xs.length:=by rw[<-m.length];exact b
     exact⟨xs,xs[i],(c.f _ _ j).sql,by simp[g]⟩
    ·rintro i n p v E b c h _ ⟨rfl,k⟩
     have b:i<e.length:=b
     obtain⟨x,e1,e2⟩:=(m.mono c).get (show e[i]?=KA e[i] by simp[b])
     have:=k xs (c.f _ _ j).sql
     rw[e1]at this;cases this
     exact⟨.refl,h,_,by simp[b],e2⟩
   |ref a=>
    rw[Rep]at s;subst s
    obtain⟨xs,L,m⟩:=z _ _ (show y a=KA (.lst e)from A)
    refine⟨a,rfl,.inl ⟨⟨xs,LR.of L⟩,o _ y H1 _ g1 z B ⟨fun n p c h u=>?_,fun i n p b c h u=>?_,?_⟩⟩⟩
    ·obtain⟨r,k,w⟩:=h _ _ (show p a=KA (.lst e)from u)
     exact⟨r,LR.of k,by rw[w.length];exact Hq _⟩
    ·obtain⟨r,k,w⟩:=h _ _ (show p a=KA (.lst e)from u)
     have g:i<r.length:=by rw[<-w.length];exact b
     exact⟨r,r[i],LR.of k,by simp[g]⟩
    ·rintro i n p v E b c h u ⟨rfl,k⟩
     have b:i<e.length:=b
     obtain⟨r,D,w⟩:=h _ _ (show p a=KA (.lst e)from u)
     obtain⟨x,e1,e2⟩:=w.get (show e[i]?=KA e[i] by simp[b])
     have:=k r (LR.of D)
     rw[e1]at this;cases this
     exact⟨.refl,h,_,by simp[b],e2⟩
   |_=>exact A.elim⟩
inductive Vj(g:N1)(tb:Ld)(B:EndsD)(I:Oq)(δ0:DS)(M0:MH):Prop
 |mk (W:Nat->DS->MH->Prop) (w0:W 0 δ0 M0) (hC:∀i δ M,i<=I.n->W i δ M->I.C M) (turn:∀i d δ M,i<I.n->I.item i=KA d->W i δ M->g d δ M fun δ2 M2=>tb (B.lp (W (i+1))) δ2 M2) (done:∀δ M,W I.n δ M->B.nx δ M):Vj g tb B I δ0 M0
def E1(a:MW)(g:N1)(tb:Ld):Ld:=fun B δ M=>a δ M fun I b=>Vj g tb B I δ b
theorem bA{b:Expr}{body:List Stmt}{Q:MW}{g:N1}{tb:Ld}{pos:Pos}(U:PassesOwn (HC X.prog X.w) X.A X.env X.xe)(V:X.calm=KD)(p:DI X tg b Q)(Y:DG X tg g)(Z:DSs X body tb)
 (hf:∀x,Ic b X.env x=pure x:=by intro _;rfl):DSt X (.For tg b body [] pos) (E1 Q g tb):=
 b5 (vW U V p Y Z hf) fun E σ H ⟨δ,M,R,a,B,ok,q⟩=>⟨δ,M,_,R,a,q,fun I M1 H1 J g1 a1 z9 N=>by
  obtain⟨W,w0,hC,r,done⟩:=z9
  refine⟨fun i m σ h=>m=I.n-i/\i<=I.n/\Ky X.K H1 h/\∃δ M,Slots X.K h δ σ/\LG X.K h M/\W i δ M,⟨I.n,by simp,Jl _,.refl,δ,M1,R.mono g1,a1,w0⟩,?_⟩
  rintro i m σ h ⟨rfl,p,s,j,l,S,D,t⟩
  by_cases e:i<I.n
  ·refine .inr ⟨N.go i h l e s D (hC _ _ _ p t),fun c o=>Ky X.K H1 o/\∃δ M,Slots X.K o δ c/\LG X.K o M/\W (i+1) δ M,fun c o z=>⟨I.n-(i+1),(),rfl,e,z⟩,fun x o y=>?_⟩
   obtain⟨T,a3,d,ed,rd⟩:=N.yld i h l x o e s D (hC _ _ _ p t) y
   refine⟨d,j,l,_,rd,S.mono T,a3,r i d j l e ed t,fun O M4 a0 H4 g4 s4 a4 q4=>⟨O,M4,s4,a4,_,?_,q4⟩⟩
   have G:Ky X.K H1 H4:=(s.trans T).trans g4
   exact⟨fun f F c L k u C P=>⟨G.trans k,f,F,u,C,P⟩,fun d M v L k=>ok.rt d M v L ((g1.trans G).trans k),fun f F c L k u C q'=>ok.nx _ _ _ _ ((g1.trans G).trans k) u C q',fun f F c L k u C P=>⟨G.trans k,f,F,u,C,P⟩⟩
  ·obtain rfl:i=I.n:=()
   exact .inl ⟨N.stop h l s D (hC _ _ _ p t),ok.nx _ _ _ _ (g1.trans s) S D (done j l t)⟩⟩
def E5(i:Nat)(te:TD)(f:Int->Int->Int):Ld:=fun B δ M=>∃k,δ[i]?=KA (KA (.int k))/\te δ M fun y a=>∃j,y=.int j/\B.nx (δ.set i (KA (.int (f k j)))) a
theorem vk(i:Nat){x:Str}{e:Expr}{te:TD}{op:Operator}{f:Int->Int->Int}{pos c:Pos}(h:X.N.Nodup)(l:WA X op (YB f))(m:DE X e te)(n:X.N[i]?=KA x:=by rfl)(o:Loc X.env.scope x:=by first|exact Or.inl rfl|exact Or.inr rfl)
 (p:X.fn x=KD\/X.env.scope.names.lookup x=KA .local:=by first|exact .inl rfl|exact .inr rfl|assumption):DSt X (.AugAssign (.Name x c) op e pos) (E5 i te f):=
 b5 (BI h n o m l p) fun E σ H s=>by
  obtain⟨δ,M,d,a,B,ok,k,e1,q⟩:=s
  obtain⟨v,e2,r⟩:=d.at' i _ e1
  rw[Rep]at r;subst r
  refine⟨_,e2,δ,M,_,d,a,q,fun y A u H1 g1 g t b=>?_⟩
  obtain⟨j,w,z⟩:=b
  subst w
  rw[Rep]at g;subst g
  exact⟨k,j,rfl,rfl,ok.nx _ _ _ _ g1 ((d.mono g1).set (by rw[Rep]) i) t z⟩
end
end SD
namespace Ma
open SD
theorem kZ{a b:Int}(h:0<b):0<Rat.divInt a b↔0<a:=by
 have h1:=Rat.divInt_nonneg_iff_of_pos_right (a:=-a) h;rw[<-Rat.neg_divInt]at h1;have:¬(0<=-Rat.divInt a b)↔0<Rat.divInt a b:=by constructor<;>intro z<;>grind
 rw[<-this,h1];omega
theorem qX{a b:Int}(h:0<b):Rat.divInt a b<0↔a<0:=by
 have h1:=Rat.divInt_nonneg_iff_of_pos_right (a:=a) h;have:¬(0<=Rat.divInt a b)↔Rat.divInt a b<0:=by constructor<;>intro z<;>grind
 rw[<-this,h1];omega
theorem yY{t b:Int}(h:0<b):sgn (Rat.divInt t b)=if 0<t then 1 else if t<0 then -1 else 0:=by unfold sgn;simp only[kZ h,qX h]
theorem zT(a b c d x y:Rat) :
 Rat.divInt ((c.num*(a.den:Int)-a.num*(c.den:Int))*(y.num*(b.den:Int)-b.num*(y.den:Int))*((d.den:Int)*(b.den:Int)*((x.den:Int)*(a.den:Int))) -
  (d.num*(b.den:Int)-b.num*(d.den:Int))*(x.num*(a.den:Int)-a.num*(x.den:Int))*((c.den:Int)*(a.den:Int)*((y.den:Int)*(b.den:Int))))
  ((c.den:Int)*(a.den:Int)*((y.den:Int)*(b.den:Int))*((d.den:Int)*(b.den:Int)*((x.den:Int)*(a.den:Int))))=cr a b c d x y:=by
 rw[<-Rat.divInt_sub_divInt _ _ (Int.mul_ne_zero (l9 c a) (l9 y b)) (Int.mul_ne_zero (l9 d b) (l9 x a)),<-Rat.divInt_mul_divInt,<-Rat.divInt_mul_divInt,sub_eq,sub_eq,sub_eq,sub_eq]
 rfl
end Ma
namespace SD
open PySem PySem.Spec PyProof.Rows L2
abbrev Lf:Hj->Hk->Prop:=fun _ _=>False
def cN(X:Cx)(xs:List Str)(js:List Nat):List Str:=xs++js.map fun j=>(X.N[j]?).getD ("":Str)
def cσ(os:L2.St)(js:List Nat)(σ:L2.St):L2.St:=os++js.map fun j=>(σ[j]?).join
theorem cD:∀(names:List (Str×JL)) (n:Nat) (a:List (Str×Addr)),Jm n names a=Jm n names []++a
 |[],_,_=>rfl
 |(x,k)::r,n,a=>by
  unfold Jm
  split
  ·rw[cD r (n+1) ((x,n)::a),cD r (n+1) [(x,n)],List.append_assoc];rfl
  ·exact cD r n a
theorem iU:∀(names:List (Str×JL)) (n:Nat) {y:Str} {c:Addr},(y,c)∈Jm n names []->(y,NameKind.cell)∈names
 |[],_,_,_,h=>by cases h
 |(x,k)::r,n,y,c,h=>by
  unfold Jm at h
  split at h
  ·rename_i hk
   rw[cD]at h
   rcases HM.mp h with h|h
   ·exact Io _ (iU r _ h)
   ·have e:(y,c)=(x,n):=by simpa using h
    cases e
    obtain rfl:k=.cell:=by simpa using hk
    exact J0
  ·exact Io _ (iU r _ h)
theorem pY{l r:List (Str×Addr)}{y:Str}{c:Addr}(h:(l++r).lookup y=KA c):l.lookup y=KA c\/(l.lookup y=KC/\r.lookup y=KA c):=by
 rw[List.lookup_append]at h;cases e:l.lookup y with
 |some a=>rw[e]at h;exact .inl h
 |none=>rw[e]at h;exact .inr ⟨rfl,h⟩
theorem yB{env:Env}{y:Str}{c:Addr}{names:List (Str×JL)}(h:(d7 names env).lookup y=KA c):(y,JQ)∈names:=by
 have b:=Iy h;unfold d7 at b;obtain⟨z,a,e⟩:=IU.mp b;rw[List.mem_reverse,Ig]at a;obtain⟨n,k⟩:=z;obtain rfl:k=.free:=by simpa using a.2
 cases e;exact a.1
theorem eV{env:Env}{k:JL}(c:k≠.free):∀{names:List (Str×JL)} {x:Str},names.lookup x=KA k->
 (names.map fun(n,k)=>if(k==JQ&&env.scope.kind==.function&&env.kindOf n==KA .cell)then(n,NameKind.cell)else(n,k)).lookup x=KA k
 |[],_,h=>by simp at h
 |(n,q)::r,x,h=>by
  have d:=@eV env k c r x
  rw[Hs]
  dsimp only
  by_cases b:(x==n)=KD
  ·rw[J6,b]at h
   cases h
   rw[KH (by intro z;rw[IQ,IQ]at z;exact c (by simpa using z.1.1)),J6,b]
  ·have a:(x==n)=KG:=by simpa using b
   rw[J6,a]at h
   split<;>(rw[J6,a];exact d h)
theorem nR{M:Model}{A:Ij}{E:Hj->Hk->Prop}{s:Hk}{scope:JC}{globals:Addr}{cl:List (Str×Addr)}{qual:Str}{env:Env}{Q:Env->Hk->Prop} (h:Q { scope:=scope,locals:=s.heap.objs.size,globals:=globals,cells:=Jm (s.heap.objs.size+1) scope.names cl,qual:=qual,func:=KC,code:=env.code,frame:=env.frame,builtins:=env.builtins } { s with heap:=pushCells (s.heap.push { cls:=.type "dict",data:=.dict #[] }) scope.names }) : Hu M A (newFunctionEnv scope globals cl [] qual KC .none (KA env)) Q E s:=by simp only[newFunctionEnv,Option.isSome_some,if_true];refine cc (wpAny_alloc ?_);refine cc (wpAny_layCells _ (fun name kind cells=>by cases a:kind==NameKind.cell<;>simp[a]) _ _ _ _ ?_);rw[show({ s with heap:=s.heap.push { cls:=.type "dict",data:=.dict #[] } }:Hk).heap.objs.size=s.heap.objs.size+1 from Jf ..];refine cc ?_;rw[List.forIn_nil];exact Hm (Hm h)
def jA(scope:JC)(C:Addr)(env:Env):Env:=
 { scope:=relabel scope env,locals:=C,globals:=env.globals,cells:=Jm (C+1) scope.names (d7 scope.names env),qual:=env.qual,func:=KC,code:=env.code,frame:=env.frame,builtins:=env.builtins }
def LJ(X:Cx)(xs:List Str)(js:List Nat)(scope:JC)(C:Addr)(s:Hk)(H:Hp)(fp:List Addr):Cx where
 prog:=X.prog
 w:=X.w
 K:=X.K
 mg:=X.mg
 base:=X.base
 A:=X.A
 N:=cN X xs js
 s₀:=s
 H₀:=H
 env:=jA scope C X.env
 outer:=X.stack
 stack:=X.stack
 ex:=fp
 fn:=fun y=>xs.contains y
 calm:=X.calm
 pn:=[]
 xe:=fun _ _=>False
structure Kw(X:Cx)(xs:List Str)(js:List Nat)(scope:JC):Prop where
 kind:scope.kind=.function
 cell:∀y∈scope.names,y.2=.cell->y.1∈xs
 free':∀y∈scope.names,y.2=.free->y.1∉xs
 names:∀y∈scope.names,y.2=.local->scope.names.lookup y.1=KA .local
 own:∀x∈xs,scope.names.lookup x=KA .local\/scope.names.lookup x=KA .cell
 out:∀y∈scope.names,y.2=.free->X.env.kindOf y.1=KA .cell\/X.env.kindOf y.1=KA .free
 nd:(cN X xs js).Nodup
 js:∀j∈js,scope.names.lookup ((X.N[j]?).getD ("":Str))≠KA .local
section
variable{X:Cx}{xs:List Str}{js:List Nat}{scope:JC}{KQ:List (Addr×Obj)}{σ:L2.St}{H:Hp}{s:Hk}{fp:List Addr}
theorem Kw.cells(c:Kw X xs js scope)(ok:X.Ok):∀y∈scope.names,y.2=.free->∃a,X.env.cells.lookup y.1=KA a:=fun y b d=>ok.has _ (c.out y b d)
theorem Kw.zD(c:Kw X xs js scope)(ok:X.Ok):closureFor scope X.env=pure (d7 scope.names X.env):=rz (c.cells ok)
theorem Kw.kindOf(c:Kw X xs js scope)(ok:X.Ok){C:Addr}{y:Str}{k:JL}(e:(jA scope C X.env).kindOf y=KA k):scope.names.lookup y=KA k\/(k=.cell/\scope.names.lookup y=KA .free):=fF ok.kind e
theorem j8(c:Kw X xs js scope)(I:Inv X KQ σ H s)(F:∀b∈fp,cL X KQ H b)(x:∀b∈fp,b<s.heap.objs.size){h':Heap}(P:h'=pushCells (s.heap.push { cls:=.type "dict",data:=.dict #[] }) scope.names)(k:∀b o,s.heap.get? b=KA o->h'.get? b=KA o) :
 Inv (LJ X xs js scope s.heap.objs.size s H fp) [] (cσ (HY xs.length KC) js σ) H { s with heap:=h' }:=by
 have ok:=I.ok
 have W:h'.Ns s.heap.objs.size fun _=>KC:=by rw[P];exact(Heap.Ns.new s.heap (.type "dict")).keeps (pushCells_keeps _ _)
 have g:CellsOk h' (s.heap.objs.size+1) (Jm (s.heap.objs.size+1) scope.names []):=by
  have:=cellsFrom_ok scope.names (s.heap.push { cls:=.type "dict",data:=.dict #[] }) (s.heap.objs.size+1) [] ⟨fun _ _ A=>(nomatch A),List.Pairwise.nil⟩ (by rw[Jf];exact Hq _)
  rw[Jf]at this
  rw[P];exact this
 have cl:∀{y:Str} {a:Addr},(d7 scope.names X.env).lookup y=KA a->X.env.cells.lookup y=KA a:=fun e=>pL (c.cells ok) e
 have B:∀{y:Str} {a:Addr},X.env.cells.lookup y=KA a->a<s.heap.objs.size:=fun e=>by obtain⟨v,z⟩:=I.cell _ _ e;exact z.lt
 have d:∀{y:Str} {a:Addr},(jA scope s.heap.objs.size X.env).cells.lookup y=KA a->((y,a)∈Jm (s.heap.objs.size+1) scope.names []/\s.heap.objs.size<a)\/X.env.cells.lookup y=KA a:=fun{y a} e=>by
  have e:(Jm (s.heap.objs.size+1) scope.names (d7 scope.names X.env)).lookup y=KA a:=e
  rw[cD]at e
  rcases pY e with z|⟨_,z⟩
  ·exact .inl ⟨Iy z,(g.empty _ _ (Iy z)).2⟩
  ·exact .inr (cl z)
 have free:∀{y:Str},(jA scope s.heap.objs.size X.env).kindOf y=KA .cell\/(jA scope s.heap.objs.size X.env).kindOf y=KA .free->scope.names.lookup y=KA .cell\/scope.names.lookup y=KA .free:=fun{y} e=>by
  rcases e with e|e
  ·rcases c.kindOf ok e with z|⟨_,z⟩
   ·exact .inl z
   ·exact .inr z
  ·rcases c.kindOf ok e with z|⟨z,_⟩
   ·exact .inr z
   ·cases z
 refine⟨⟨ok.mod,c.kind,ok.glob,ok.blt,Hq _,fun y z a h1 f=>?_,fun y J=>?_,fun y a h e=>?_,ok.hd,ok.frames,.inl rfl,fun b t=>⟨Im (x b t),fun y a e=>?_⟩,
  I.bs,IA ok.bsz I.sz,fun b o e t=>?_,fun b t=>?_,I.stack,I.gg⟩,rfl,I.bare,Un.kept k,?_,fun y a e=>?_,I.hok.fresh (Hq _),fun y a e=>?_,fun p Y=>absurd (show p∈([]:List (Addr×Obj))from Y) (by simp),I.hok.kept k,?_⟩
 ·rcases d h1 with⟨Z,l1⟩|Q<;>rcases d f with⟨m2,l2⟩|R
  ·exact name_of_addr g.apart Z m2
  ·exact absurd (B R) (Nat.not_lt.mpr (Nat.le_of_lt l1))
  ·exact absurd (B Q) (Nat.not_lt.mpr (Nat.le_of_lt l2))
  ·exact ok.inj y z a Q R
 ·show ∃c,(Jm (s.heap.objs.size+1) scope.names (d7 scope.names X.env)).lookup y=KA c
  rw[cD,List.lookup_append]
  rcases free J with z|z
  ·obtain⟨a,e⟩:=kD (n:=s.heap.objs.size+1) z
   exact⟨a,by rw[e];rfl⟩
  ·obtain⟨a,e⟩:=oj (env:=X.env) (Iy z)
   cases q:(Jm (s.heap.objs.size+1) scope.names []).lookup y with
   |none=>exact⟨a,by rw[e];rfl⟩
   |some G=>exact⟨G,rfl⟩
 ·have hx:y∈xs:=by simpa[LJ]using h
  have e:(Jm (s.heap.objs.size+1) scope.names (d7 scope.names X.env)).lookup y=KA a:=e
  rw[cD]at e
  rcases pY e with z|⟨_,z⟩
  ·exact Nat.le_of_lt (g.empty _ _ (Iy z)).2
  ·exact absurd hx (c.free' _ (yB z) rfl)
 ·rcases d e with⟨_,l⟩|o
  ·exact Nat.ne_of_gt (Nat.lt_trans (x b t) l)
  ·exact(F b t).2.2.2.2.1 y a o
 ·rcases(F b t).2.2.2.1 with z|z
  ·exact ok.noex b o e z
  ·exact absurd (HL (HL (Hz e) ok.bsz) z) (Jp _)
 ·intro z
  rcases HW.mp (I.qT b z)with y|y
  ·exact(F b t).2.1 y
  ·exact(F b t).2.2.1 y
 ·refine⟨_,W,fun i y v h1 f h3=>?_⟩
  have h1:(xs++js.map fun j=>(X.N[j]?).getD ("":Str))[i]?=KA y:=h1
  have f:(HY xs.length (KC:Option V)++js.map fun j=>(σ[j]?).join)[i]?=KA (KA v):=f
  by_cases S:i<xs.length
  ·rw[IB (by simpa using S),List.getElem?_replicate,KI S]at f
   cases f
  ·have w:y∉xs:=fun J=>by
    rw[IG ()]at h1
    have nd:=c.nd
    unfold cN at nd
    exact(List.nodup_append.mp nd).2.2 y J y (HE h1) rfl
   rw[IG ()]at h1
   rw[IG (by simp;omega)]at f
   rw[List.length_replicate]at f
   rw[Ht]at h1 f
   cases K:js[i-xs.length]? with
   |none=>rw[K]at h1;cases h1
   |some j=>
    rw[K]at h1 f
    have e1:(X.N[j]?).getD ("":Str)=y:=Option.some.inj h1
    have e2:(σ[j]?).join=KA v:=Option.some.inj f
    have e3:σ[j]?=KA (KA v):=by
     cases q:σ[j]? with
     |none=>rw[q]at e2;cases e2
     |some o=>rw[q]at e2;exact congrArg KA e2
    have hj:j<X.N.length:=by rw[<-I.len];exact(HN.mp e3).1
    have e4:X.N[j]?=KA y:=by
     rw[Hl hj]at e1 ⊢
     exact congrArg KA e1
    have nl:scope.names.lookup y≠KA .local:=by
     have:=c.js j (HE K)
     rw[e1]at this
     exact this
    have T:(jA scope s.heap.objs.size X.env).kindOf y=KA .cell\/(jA scope s.heap.objs.size X.env).kindOf y=KA .free:=by
     rcases h3 with z|z|z
     ·rcases c.kindOf (C:=s.heap.objs.size) ok z with q|⟨q,_⟩
      ·exact absurd q nl
      ·cases q
     ·exact .inl z
     ·exact .inr z
    have A:(y,JQ)∈scope.names:=by
     rcases free T with z|z
     ·exact absurd (c.cell _ (Iy z) rfl) w
     ·exact Iy z
    obtain⟨a,U⟩:=oj (env:=X.env) A
    have L:(jA scope s.heap.objs.size X.env).cells.lookup y=KA a:=by
     show(Jm (s.heap.objs.size+1) scope.names (d7 scope.names X.env)).lookup y=KA a
     rw[cD,List.lookup_append]
     cases q:(Jm (s.heap.objs.size+1) scope.names []).lookup y with
     |none=>rw[U];rfl
     |some G=>exact absurd (c.cell _ (iU _ _ (Iy q)) rfl) w
    have D:QJ X.env.scope y:=by
     rcases c.out _ A rfl with z|z
     ·exact .inr (.inl z)
     ·exact .inr (.inr z)
    obtain⟨m,_,hl⟩:=I.loc
    obtain⟨u,r,l⟩:=hl j y v e4 e3 D
    refine⟨u,r,?_⟩
    rcases l with⟨z,_⟩|⟨_,G,M,o,O,hd⟩
    ·rcases c.out _ A rfl with q|q
     ·have E:X.env.kindOf y=KA .local:=z
      rw[q]at E;cases E
     ·have E:X.env.kindOf y=KA .local:=z
      rw[q]at E;cases E
    ·refine .inr ⟨T,G,?_,o,k _ _ O,hd⟩
     have:=cl U
     rw[M]at this
     cases this
     exact L
 ·rcases d e with⟨m,_⟩|o
  ·exact⟨_,(g.empty _ _ m).1⟩
  ·obtain⟨v,o,O,hd⟩:=I.cell y a o
   exact⟨v,o,k _ _ O,hd⟩
 ·rcases d e with⟨_,l⟩|o
  ·exact I.hok.fresh (Nat.le_of_lt l)
  ·exact I.freeC y a o
 ·show(cσ (HY xs.length KC) js σ).length=(cN X xs js).length
  unfold cσ cN
  simp
end
def Pq(X:Cx)(a:List Expr)(t:TT):Prop:=∀(KQ:List (Addr×Obj)) (s:Hk) (σ:L2.St) (H:Hp) (Q:Bool->Hp->Prop),Inv X KQ σ H s->t σ H Q->
 Hu (HC X.prog X.w) X.A (forIn a KD fun c r=>if r=KD then do let ok <-isTrue c X.env (eval c X.env);pure (JJ ok)else pure (JJ r)) (TP X KQ σ Q) X.xe s
theorem zE{X:Cx}:Pq X [] (fun _ H Q=>Q KD H):=fun KQ s σ H Q I q=>wpAny_tests_nil ⟨H,I,q⟩
theorem zB{X:Cx}{c:Expr}{t:TT}(h:PT X c t):Pq X [c] t:=fun KQ s σ H Q I q=>wpAny_tests_one (h KQ s σ H Q I q)
theorem ui{prog:HF}{w:Ih}{A:Ij}{R:Result->Hk->Prop}{s:Hk}{d a b:Expr}{f:List Expr}{scope:JC}{pos:Pos}{it g:Hj}{env:Env}(J:Nat->Hk->Prop)
 (step:∀n s,J n s->Hu (HC prog w) A (pyNext it) (fun r i=>match r with
  |none=>R (.ok .next) i
  |some v=>Hu (HC prog w) A (Jr a it v) (fun _ k=>Hu (HC prog w) A (K9 a env v) (fun _ l=>
   Hu (HC prog w) A (forIn f KD fun c r=>if r=KD then do let ok <-isTrue c env (eval c env);pure (JJ ok)else pure (JJ r)) (fun ok j=>
    if ok=KD then Hu (HC prog w) A (eval d env) (fun x o=>Hu (HC prog w) A (call (.builtin "list.append") [g,x]) (fun _ p=>∃m,m<n/\J m p) Lf o) Lf j
    else ∃m,m<n/\J m j) Lf l) Lf k) Lf i) Lf s)
 (n:Nat) (h:J n s):Jo (HC prog w) A (.compLoop (.ListComp d [⟨a,b,f,0⟩] scope pos) 0 it g env) R s:=by
 have no:∀{E:Hj->Hk->Prop} e q,Lf e q->E e q:=fun _ _ z=>z.elim
 refine codeAny_loop rfl J (fun n s u=>?_) n h
 show Hu _ _ (Sem.onRaise (compTurn (.ListComp d [⟨a,b,f,0⟩] scope pos) 0 it g env) (fun x=>do noteFrame x env;theTreesLotGoes x)) _ _ s
 refine wpAny_noted ?_
 rw[compTurn_list]
 refine cc (J5 (cc (Hx (step n s u) (fun r i h1=>?_) no)))
 cases r with
 |none=>exact Hm h1
 |some v=>
  refine cc (Hx h1 (fun _ k y=>cc (Hx y (fun _ l B=>cc (Hx B (fun ok j t=>?_) no)) no)) no)
  cases ok with
  |false=>exact Hm ⟨rfl,t⟩
  |true=>exact cc (cc (Hx t (fun x o C=>cc (Hx C (fun _ p D=>Hm (Hm ⟨rfl,D⟩)) no)) no))
abbrev Own:=V->Hp->L2.St->Prop
structure MY(n:Nat)(g:TG)(own:Own):Prop where
 len:∀y H os,own y H os->os.length=n
 run:∀y H os0 tail os (Q:L2.St->Hp->Prop),os0.length=n->own y H os->Q (os++tail) H->g y (os0++tail) H Q
def Bc(js:List Nat)(own:Own)(tc:TT)(te:TE)(σ:L2.St)(J:It)(H1:Hp)(Q:VK):Prop:=∀D,H1 D=KC->∃W:Nat->Nat->Hp->Prop,(∃m,W 0 m (upd H1 D (.lst [])))/\∀i m H,W i m H->
 (J.stop i H/\Q (.ref D) H)\/(J.go i H/\∀y c,J.yld i H y c->∃os,own y c os/\tc (cσ os js σ) c fun b d=>if b=KD then
  te (cσ os js σ) d fun v e=>∃xs,e D=KA (.lst xs)/\xs.length<Hy/\∃a,a<m/\W (i+1) a (upd e D (.lst (xs++[v])))else ∃a,a<m/\W (i+1) a d)
def qC(js:List Nat)(own:Own)(a:TI)(tc:TT)(te:TE):TE:=fun σ H Q=>a σ H fun J H1=>Bc js own tc te σ J H1 Q
section
variable{X:Cx}{xs:List Str}{tg:Expr}{pos:Pos}{js:List Nat}{scope:JC}{elt iter:Expr}{ifs:List Expr}{te:TE}{tc:TT}{g:TG}{own:Own}{wi:TI}{KQ:List (Addr×Obj)}{σ:L2.St}{H:Hp}{s:Hk}{fp:List Addr}{it:Addr}{tn:Nat->Heap->Prop}{J:It}
theorem pG(c:Kw X xs js scope)(hc:X.calm=KD)(hG:MY xs.length g own)(hg:∀C s H fp,PG (LJ X xs js scope C s H fp) tg g)(ht:∀C s H fp,Pq (LJ X xs js scope C s H fp) ifs tc)(he:∀C s H fp,PE (LJ X xs js scope C s H fp) elt te)
 {R:Hj->Addr->Result->Hk->Prop} {E:Hj->Hk->Prop} {Q:VK}
 (I:Inv X KQ σ H s) (T:Turn X.prog X.w X.K tg J fp it tn) (st:tn 0 s.heap) (hf:∀b∈fp,cL X KQ H b) (wc:Bc js own tc te σ J H Q)
 (hR:∀D C f F,Inv X KQ σ f F->cL X KQ f C->(∃m,F.heap.Ns C m)->Q (.ref D) f->R (.ref D) C (.ok .next) F) :
 Hu (HC X.prog X.w) X.A (newList []) (fun c0 d0=>Hu (HC X.prog X.w) X.A (newFunctionEnv scope X.env.globals (d7 scope.names X.env) [] X.env.qual KC .none (KA X.env)) (fun N e0=>
  Jo (HC X.prog X.w) X.A (.compStart (.ListComp elt [⟨tg,iter,ifs,0⟩] scope pos) 0 (.ref it) c0 { N with scope:=relabel scope X.env }) (R c0 N.locals) e0) E d0) E s:=by
 have f0:∀b∈fp,b<s.heap.objs.size:=fun b a=>let⟨o,e,_⟩:=T.obj 0 _ st b a;Hz e
 have hD:H s.heap.objs.size=KC:=I.hok.fresh (Hq _)
 refine IS (nR ?_)
 generalize hh:s.heap.push { cls:=.type "list",dict:=KC,data:=.seq ([]:List Hj).toArray }=h
 generalize g0:pushCells (({ s with heap:=h }:Hk).heap.push { cls:=.type "dict",data:=.dict #[] }) scope.names=j
 have k3:∀b o,s.heap.get? b=KA o->h.get? b=KA o:=fun b o e=>by rw[<-hh];exact Ho _ e
 have I3:Inv X KQ σ (upd H s.heap.objs.size (.lst [])) { s with heap:=h }:=by
  refine I.laid (t':=s.toks) k3 (Hq _) ?_
  refine⟨Jl _,[],0,.nil,?_⟩
  rw[<-hh]
  exact HG _ rfl
 have k:∀b∈fp,cL X KQ (upd H s.heap.objs.size (.lst [])) b:=fun b a=>⟨by rw[aE (Im (f0 b a))];exact(hf b a).1,(hf b a).2⟩
 have r0:h.objs.size=s.heap.objs.size+1:=by rw[<-hh,Jf]
 have h0:∀b∈fp,b<h.objs.size:=fun b a=>by rw[r0];exact Nat.lt_succ_of_lt (f0 b a)
 have k4:∀b o,h.get? b=KA o->j.get? b=KA o:=fun b o e=>by rw[<-g0];exact pushCells_keeps _ _ b o (Ho _ e)
 have I4:=j8 c I3 k h0 (h':=j) g0.symm k4
 obtain⟨W,⟨m0,w0⟩,i0⟩:=wc _ hD
 have NZ:tn 0 j:=T.keep 0 _ _ st fun b a o e=>k4 b o (k3 b o e)
 generalize hX:LJ X xs js scope h.objs.size { s with heap:=h } (upd H s.heap.objs.size (.lst [])) fp=X' at I4
 have P:∀{pins':List (Addr×Obj)} {f:Hp} {G:L2.St} {F:Hk},Inv X' [] G f F->(∀b∈fp,f b=KC)->∀b∈fp,cL X' [] f b:=fun{pins' f G F} J' hn b a=>by
  subst hX
  obtain⟨a1,a2⟩:=J'.ok.exf b a
  exact⟨hn b a,a1,J'.ok.exfs b a,.inl a,a2,fun p hp=>absurd (show p∈([]:List (Addr×Obj))from hp) (by simp)⟩
 have O:Jo (HC X.prog X.w) X.A (.compLoop (.ListComp elt [⟨tg,iter,ifs,0⟩] scope pos) 0 (.ref it) (.ref s.heap.objs.size) (jA scope h.objs.size X.env)) (R (.ref s.heap.objs.size) h.objs.size)
  { s with heap:=j }:=by
  refine ui (fun n F=>∃i os f,os.length=xs.length/\Inv X' [] (cσ os js σ) f F/\tn i F.heap/\(∀b∈fp,f b=KC)/\W i n f) ?_ m0 ⟨0,_,_,by simp,I4,NZ,fun b a=>(k b a).1,w0⟩
  rintro n s5 ⟨i,os,H5,s0,I5,Mr,j0,w5⟩
  rcases i0 i n H5 w5 with⟨stop,q⟩|⟨go,step⟩
  ·subst hX
   refine Hx (T.done (LJ X xs js scope h.objs.size { s with heap:=h } (upd H s.heap.objs.size (.lst [])) fp) rfl rfl rfl hc i [] s5 _ H5 Lf I5 (P (pins':=[]) I5 j0) Mr stop) (fun r s6 S=>?_) fun _ _ z=>z
   obtain⟨hr,I6⟩:=S
   subst hr
   refine hR _ _ H5 s6 (I3.pB I6.os I6.base I6.hok I6.bare fun b a=>⟨(k b a).2.2.2.1,(k b a).2.1,(k b a).2.2.2.2.1,(k b a).2.2.2.2.2⟩) (I3.qY (Hq _) I6.free) (let⟨m,hm,_⟩:=I6.loc;⟨m,hm⟩) q
  ·subst hX
   refine Hx (T.item (LJ X xs js scope h.objs.size { s with heap:=h } (upd H s.heap.objs.size (.lst [])) fp) rfl rfl rfl hc i [] s5 _ H5 Lf I5 (P (pins':=[]) I5 j0) Mr go) (fun r s6 U=>?_) fun _ _ z=>z
   obtain⟨u,hr,h6⟩:=U
   subst hr
   refine Hx h6 (fun _ s7 V=>?_) fun _ _ z=>z
   obtain⟨y,H7,I7,r7,y7,Mu,t0⟩:=V
   have u0:=I7.pinned (P (pins':=[]) I7 t0) (T.obj _ _ Mu)
   obtain⟨L,k0,q8⟩:=step y H7 y7
   have l8:=hG.len _ _ _ k0
   refine Hx (hg _ _ _ _ _ s7 _ H7 y u (fun G f=>G=cσ L js σ/\f=H7) u0 r7 (hG.run y H7 os _ L _ s0 k0 ⟨rfl,rfl⟩)) (fun _ s8 Y=>?_) fun _ _ z=>z
   obtain⟨d1,H8,I8,e8,v0⟩:=Y
   subst e8 v0
   refine Hx (ht _ _ _ _ _ s8 _ _ _ I8 q8) (fun ok s9 Z=>?_) fun _ _ z=>z
   obtain⟨H9,I9,q9⟩:=Z
   have back:∀{M:Nat} {l:Hp} {t:Hk},Inv (LJ X xs js scope h.objs.size { s with heap:=h } (upd H s.heap.objs.size (.lst [])) fp) ([]++fo fp s7.heap) (cσ L js σ) l t->M<n->W (i+1) M l->
    ∃m,m<n/\∃i os f,os.length=xs.length/\Inv (LJ X xs js scope h.objs.size { s with heap:=h } (upd H s.heap.objs.size (.lst [])) fp) [] (cσ os js σ) f t/\tn i t.heap/\(∀b∈fp,f b=KC)/\W i m f:=fun{M l t} x B x0=>by
    refine⟨M,B,i+1,L,l,l8,x.dA,T.keep _ _ _ Mu fun b a o e=>(x.pin (b,o) (HK _ (HK _ (bz a e)))).1,fun b a=>?_,x0⟩
    obtain⟨o',e,d⟩:=T.obj _ _ Mu b a
    exact(x.pin (b,o') (HK _ (HK _ (bz a e)))).2.1
   cases ok with
   |false=>
    rw[KH HJ]at q9 ⊢
    obtain⟨M,B,w9⟩:=q9
    exact back I9 B w9
   |true=>
    rw[KI rfl]at q9 ⊢
    refine Hx (he _ _ _ _ _ s9 _ _ _ I9 q9) (fun v t a0=>?_) fun _ _ z=>z
    obtain⟨vv,l,x,y0,ys,n0,o0,z0⟩:=a0
    refine Hx (iZ (X:=(LJ X xs js scope h.objs.size { s with heap:=h } (upd H s.heap.objs.size (.lst [])) fp)) _ t _ l (.ref s.heap.objs.size) [vv] (.ref s.heap.objs.size) [v] (fun _ f=>∃M,M<n/\W (i+1) M f) x rfl (.cons y0 .nil) ⟨_,ys,vv,rfl,rfl,n0,o0,z0⟩) (fun _ e1 b0=>?_) fun _ _ z=>z
    obtain⟨_,f1,b1,_,M,B,c1⟩:=b0
    exact back b1 B c1
 exact codeAny_compStart_list O (T.self X.A 0 _ _ _ NZ O)
theorem AN(c:Kw X xs js scope)(k:X.calm=KD)(l:PI X tg iter wi)(n:MY xs.length g own)(p:∀C s H fp,PG (LJ X xs js scope C s H fp) tg g)(r:∀C s H fp,Pq (LJ X xs js scope C s H fp) ifs tc)(t:∀C s H fp,PE (LJ X xs js scope C s H fp) elt te)(u:∀x,Ic iter X.env x=pure x:=by intro _;rfl) : PE X (.ListComp elt [⟨tg,iter,ifs,0⟩] scope pos) (qC js own wi tc te):=by intro KQ s σ H Q I h;rw[eval_ListComp];refine wpAny_comprehension_free (use:=KC) rfl u (c.zD I.ok) c.kind c.names (LA (l KQ s σ H _ I h) fun v L h1=>LA h1 fun y M a=>?_);obtain⟨it,fp,tn,J,N,e,z,T,st,B,w⟩:=a;subst e;refine pG (R:=fun i C=>compPost (HC X.prog X.w) X.A X.xe KC (EP X KQ σ Q) i C) c k n p r t z T st B w fun D C E F G f d q=>?_;obtain⟨m,K⟩:=d;exact⟨m,K,fun O j=>⟨.ref D,E,G.turned (t':=F.toks) (fun b o ne e=>j.extBut b o ne e) f.1 f.2.1 f.2.2.2.1 f.2.2.2.2.1 f.2.2.2.2.2,rfl,q⟩⟩
theorem zu{i:Nat}{y:Str}{l j:Pos}(c:Kw X xs js scope)(F:X.calm=KD)(G:X.N.Nodup)(K:PI X tg iter wi)(L:MY xs.length g own)(M:∀C s H fp,PG (LJ X xs js scope C s H fp) tg g)(O:∀C s H fp,Pq (LJ X xs js scope C s H fp) ifs tc)(P:∀C s H fp,PE (LJ X xs js scope C s H fp) elt te)(S:X.N[i]?=KA y)(E:X.env.scope.names.lookup y=KA .local)
 (p:JR (.ListComp elt [⟨tg,iter,ifs,0⟩] scope pos) (KA (.Name y l)) j.line X.env=pure KD) (U:∀x,Ic iter X.env x=pure x:=by intro _;rfl) :
 PS X (.Assign [.Name y l] (.ListComp elt [⟨tg,iter,ifs,0⟩] scope pos) j) (Ak (qC js own wi tc te) (e9 i)):=by
 intro KQ s σ H B I h
 rw[exec_Assign_Name_used _ _ _ _ p]
 refine cc (J5 (cc ?_))
 show Hu _ X.A (do let _ <-comprehension (.ListComp elt [⟨tg,iter,ifs,0⟩] scope pos) scope X.env _ (newList []) KG (eval iter X.env) (KA (K9 (.Name y l) X.env))) _ _ s
 refine cc (Hx (wpAny_comprehension_free (use:=KA (K9 (.Name y l) X.env)) (Q:=fun _ n=>SP X KQ B .next n) rfl U (c.zD I.ok) c.kind c.names
  (LA (K KQ s σ H _ I h) fun v s1 h1=>LA h1 fun V s2 z=>?_)) (fun _ n W=>Hm (Hm W)) fun _ _ e=>e)
 obtain⟨it,fp,tn,J,H2,e,Y,T,st,Z,w⟩:=z
 subst e
 refine pG (R:=fun r C=>compPost (HC X.prog X.w) X.A X.xe (KA (K9 (.Name y l) X.env)) (fun _ n=>SP X KQ B .next n) r C) c F L M O P Y T st Z w fun D C H' n I' k d q=>?_
 obtain⟨m,hm⟩:=d
 show Hu _ X.A (K9 (.Name y l) X.env (.ref D)) _ _ _
 refine wpAny_assign_Name (iw I' G S (.inl E) (v:=.ref D) rfl (fun s9 I9 f=>?_) (.inr E))
 obtain⟨a,sb,ha⟩:=f
 have t:C≠a:=by
  rcases ha with z|z
  ·rw[z];exact k.2.1
  ·exact fun e=>k.2.2.2.2.1 y a z e.symm
 refine⟨m,hm.sameBut sb t,fun h' u=>?_⟩
 exact⟨_,H',I9.turned (t':=s9.toks) (fun b o ne e=>u.extBut b o ne e) k.1 k.2.1 k.2.2.2.1 k.2.2.2.2.1 k.2.2.2.2.2,q⟩
end
inductive Nc where
 |one|many (n:Nat)
def pQ(K:H0):Nc->Own
 |.one=>fun y _ os=>os=[KA y]
 |.many n=>fun y H os=>∃a xs,y=.ref a/\LU K H a xs/\xs.length=n/\os=xs.map KA
theorem qh{K:H0}:MY 1 (e9 0) (pQ K .one):=⟨fun _ _ os h=>by rw[h];rfl,fun y H b a os Q c d q=>by
 obtain⟨o,rfl⟩:=vp c
 rw[show os=[KA y]from d]at q;exact q⟩
theorem Cd{K:H0}:MY 2 (Dn K 2 (pb (e9 0) (pb (e9 1) DM))) (pQ K (.many 2)):=⟨fun _ _ os z=>by
 obtain⟨a,xs,_,_,b,e⟩:=z
 rw[e];simpa using b,fun y H f c os Q b z q=>by
 obtain⟨a,xs,e,g,d,h⟩:=z
 obtain⟨o,i,rfl⟩:=rh b
 obtain⟨u,v,rfl⟩:=rh d
 rw[h]at q;exact⟨a,_,e,g,d,u,_,rfl,v,_,rfl,rfl,q⟩⟩
def xO:Nc->D->DS->Prop
 |.one,d,os=>os=[KA d]
 |.many n,d,os=>∃a,d=.tup a/\a.length=n/\os=a.map KA
def cδ(os:DS)(js:List Nat)(δ:DS):DS:=os++js.map fun j=>(δ[j]?).join
theorem jH{K:H0}{H:Hp}{δ os:DS}{σ us:L2.St}{js:List Nat}(c:Slots K H δ σ)(r:Slots K H os us):Slots K H (cδ os js δ) (cσ us js σ):=by
 refine⟨by simp[cδ,cσ,r.len],fun i e q=>?_⟩;unfold cδ at q;unfold cσ;by_cases a:i<os.length
 ·rw[IB a]at q;rw[IB (by rw[<-r.len];exact a)];exact r.at' i e q
 ·rw[IG ()]at q;rw[IG (by rw[<-r.len];omega),<-r.len];rw[Ht]at q ⊢;cases b:js[i-os.length]? with
  |none=>rw[b]at q;cases q
  |some j=>
   rw[b]at q
   have e2:(δ[j]?).join=KA e:=Option.some.inj q
   have e3:δ[j]?=KA (KA e):=by
    cases z:δ[j]? with
    |none=>rw[z]at e2;cases e2
    |some o=>rw[z]at e2;exact congrArg KA e2
   obtain⟨d,e4,f⟩:=c.at' j e e3
   exact⟨d,by rw[show(KA j).map (fun j=>(σ[j]?).join)=KA ((σ[j]?).join)from rfl,e4];rfl,f⟩
theorem ip{K:H0}{H:Hp}{a:List D}{xs:List V}(r:aB K H a xs):Slots K H (a.map KA) (xs.map KA):=by
 refine⟨by simp[r.length],fun i d e=>?_⟩;rw[Ht]at e ⊢;cases q:a[i]? with
 |none=>rw[q]at e;cases e
 |some b=>
  rw[q]at e;cases e
  obtain⟨x,e1,e2⟩:=r.get q
  exact⟨x,by rw[e1];rfl,e2⟩
theorem oi{K:H0}{H:Hp}{tk:Nc}{d:D}{v:V}{os:DS}(r:Rep K H d v)(h:xO tk d os):∃us,pQ K tk v H us/\Slots K H os us:=by
 cases tk with
 |one=>
  rw[show os=[KA d]from h]
  exact⟨[KA v],rfl,ip (.cons r .nil)⟩
 |many n=>
  obtain⟨f,rfl,c,rfl⟩:=h
  rw[Rep]at r
  obtain⟨a,xs,rfl,e,b⟩:=r
  exact⟨_,⟨a,xs,rfl,e,by rw[<-b.length];exact c,rfl⟩,ip b⟩
def cO:Lg:=fun _ M Q=>Q KD M
def wy(I:Oq)(tk:Nc)(js:List Nat)(tc:Lg)(te:TD)(δ:DS)(f:MH)(Q:DK):Prop:=I.n<=1000000/\∀p,f p=KC->∃W:Nat->List D->MH->Prop,W 0 [] (ar f p (.lst []))/\(∀i a M,i<=I.n->W i a M->I.C M)/\
 (∀i a d M,i<I.n->I.item i=KA d->W i a M->∃os,xO tk d os/\tc (cδ os js δ) M fun b g=>if b=KD then te (cδ os js δ) g fun e h=>∃c,Sub c h/\c p=KA (.lst a)/\W (i+1) (a++[e]) (ar c p (.lst (a++[e])))else ∃c,Sub c g/\W (i+1) a c)/\∀a M,W I.n a M->Q (.ref p) M
def iz(a:MW)(tk:Nc)(js:List Nat)(tc:Lg)(te:TD):TD:=fun δ M Q=>a δ M fun I b=>wy I tk js tc te δ b Q
section
variable{X:Cx}{K:H0}
theorem mP{D:MW}{tk:Nc}{js:List Nat}{tc:Lg}{te:TD}{σ:L2.St}{H:Hp}{Q:VK}(h:lift K (iz D tk js tc te) σ H Q):qC js (pQ K tk) (k9 K D) (liftT K tc) (lift K te) σ H Q:=by
 obtain⟨δ,M,R,E,S,q,t⟩:=h;refine⟨δ,M,_,E,S,q,fun I M1 H1 J g1 F w x p y=>?_⟩;obtain⟨T,w⟩:=w;obtain⟨W,U,hC,l,done⟩:=w p (F.fresh y);refine⟨fun i m j=>m=I.n-i/\i<=I.n/\Ky K H1 j/\∃c M,c.length<=i/\LG K j M/\W i c M,⟨I.n,by simp,Jl _,.new y,[],_,Hq _,F.lJ y .nil,U⟩,?_⟩;rintro i m j ⟨rfl,z,f,c,k,V,r,o⟩;by_cases a:i<I.n
 ·refine .inr ⟨x.go i j k a f r (hC _ _ _ z o),fun v Y Z=>?_⟩;obtain⟨A,a3,d,ed,rd⟩:=x.yld i j k v Y a f r (hC _ _ _ z o) Z;obtain⟨os,ow,q3⟩:=l i c d k a ed o;obtain⟨us,uv,su⟩:=oi rd ow;have G:=jH (js:=js) (E.mono ((g1.trans f).trans A)) su;refine⟨us,uv,cδ os js δ,k,_,G,a3,q3,fun b M4 H4 B L s=>?_⟩;cases b with
  |false=>
   rw[KH HJ]at s ⊢
   obtain⟨M5,s5,w5⟩:=s
   exact⟨I.n-(i+1),(),rfl,a,(f.trans A).trans B,c,M5,(),L.sub s5,w5⟩
  |true=>
   rw[KI rfl]at s ⊢
   refine⟨cδ os js δ,M4,_,G.mono B,L,s,fun e M' u H5 g5 r5 N g=>?_⟩
   obtain⟨M6,O,e6,w6⟩:=g
   obtain⟨zs,C,P⟩:=(N.sub O) _ _ e6
   refine⟨zs,C,?_,I.n-(i+1),(),rfl,a,(((f.trans A).trans B).trans g5).trans (.lst C),c++[e],_,by simp;omega,(N.sub O).xy C (P.append (.cons r5 .nil)),w6⟩
   rw[<-P.length]
   exact Nat.lt_of_le_of_lt V (HL a (IA T ⋯))
 ·obtain rfl:i=I.n:=()
  exact .inl ⟨x.stop j k f r (hC _ _ _ z o),t _ _ _ _ (g1.trans f) (by rw[Rep]) r (done c k o)⟩
variable{xs:List Str}{tg:Expr}{pos:Pos}{js:List Nat}{scope:JC}{elt iter:Expr}{ifs:List Expr}{te:TD}{tc:Lg}{g:TG}{tk:Nc}{wd:MW}
namespace Zq
@[scoped irreducible]def _root_.SD.DTs(X:Cx)(ifs:List Expr)(t:Lg):Prop:=Pq X ifs (liftT X.K t)
end Zq
theorem cu:DTs X [] cO:=fun KQ s σ H Q I a=>by obtain⟨δ,M,R,d,c,q,b⟩:=a;exact(zE KQ s σ H Q I (b _ _ _ .refl c q))
theorem As{c:Expr}{t:Lg}(h:DT X c t):DTs X [c] t:=zB h
theorem tD(c:Kw X xs js scope)(a:X.calm=KD)(b:DI X tg iter wd)(d:MY xs.length g (pQ X.K tk))(e:∀C s H fp,PG (LJ X xs js scope C s H fp) tg g)(f:∀C s H fp,DTs (LJ X xs js scope C s H fp) ifs tc)(i:∀C s H fp,DE (LJ X xs js scope C s H fp) elt te) (j:∀x,Ic iter X.env x=pure x:=by intro _;rfl):DE X (.ListComp elt [⟨tg,iter,ifs,0⟩] scope pos) (iz wd tk js tc te):=aV (AN (te:=lift X.K te) (tc:=liftT X.K tc) c a b d e f i j) fun _ _ _ h=>mP h
theorem AB(i:Nat){y:Str}{j b:Pos}(k:X.N.Nodup)(c:Kw X xs js scope)(l:X.calm=KD)(m:DI X tg iter wd)(n:MY xs.length g (pQ X.K tk))(o:∀C s H fp,PG (LJ X xs js scope C s H fp) tg g)(p:∀C s H fp,DTs (LJ X xs js scope C s H fp) ifs tc)(r:∀C s H fp,DE (LJ X xs js scope C s H fp) elt te) (t:X.N[i]?=KA y:=by rfl) (u:X.env.scope.names.lookup y=KA .local:=by rfl) (h:JR (.ListComp elt [⟨tg,iter,ifs,0⟩] scope pos) (KA (.Name y j)) b.line X.env=pure KD:=by rfl) (f:∀x,Ic iter X.env x=pure x:=by intro _;rfl) : DSt X (.Assign [.Name y j] (.ListComp elt [⟨tg,iter,ifs,0⟩] scope pos) b) (cZ (iz wd tk js tc te) (aN i)):=b5 (zu (te:=lift X.K te) (tc:=liftT X.K tc) c l k m n o p r t u h f) fun E σ H e=>by obtain⟨δ,M,f,a,B,ok,q⟩:=e;exact(mP ⟨δ,M,_,f,a,q,fun d D v H1 g1 w z A=>ok.nx _ _ _ _ g1 ((f.mono g1).set w i) z A⟩)
theorem comp_map{I:Oq}{tk:Nc}{js:List Nat}{te:TD}{δ:DS}{b:MH}{Q:DK}(f:Nat->D)(j:I.n<=1000000)(hC:∀p a,b p=KC->I.C (ar b p (.lst a))) (h:∀i d M,i<I.n->I.item i=KA d->Sub b M->∃os,xO tk d os/\∀K:DK,(∀c,Sub M c->K (f i) c)->te (cδ os js δ) M K) (l:∀p,b p=KC->Q (.ref p) (ar b p (.lst ((HX I.n).map f)))):wy I tk js cO te δ b Q:=by
 refine⟨j,fun p e=>⟨fun i a M=>a=(HX i).map f/\M=ar b p (.lst a),⟨rfl,rfl⟩,?_,?_,?_⟩⟩
 ·rintro i a M _ ⟨_,rfl⟩;exact hC p a e
 ·rintro i a d M m hd ⟨rfl,rfl⟩;obtain⟨os,o,k⟩:=h i d _ m hd (.new e .refl);refine⟨os,o,?_⟩;unfold cO;refine lG (k _ ?_);exact fun c q=>⟨_,q,ai,by rw[JK,HR];rfl,by rw[bH]⟩
 ·rintro a M ⟨rfl,rfl⟩;exact l p e
end
def Ft(X:Cx)(xs:List Str)(js:List Nat)(scope:JC):Bool:=
 scope.kind==.function&&scope.names.all (fun y=>(y.2 != .cell||xs.contains y.1)&&(y.2 != .free||!xs.contains y.1))&&scope.names.all (fun y=>y.2 != .local||scope.names.lookup y.1==KA .local)&&xs.all (fun x=>scope.names.lookup x==KA .local||scope.names.lookup x==KA .cell) &&
  scope.names.all (fun y=>y.2 != .free||(X.env.kindOf y.1==KA .cell||X.env.kindOf y.1==KA .free))&&decide (cN X xs js).Nodup&&js.all (fun j=>scope.names.lookup ((X.N[j]?).getD ("":Str)) != KA .local)
theorem Kw.of{X:Cx}{xs:List Str}{js:List Nat}{scope:JC}(h:Ft X xs js scope=KD):Kw X xs js scope:=by
 unfold Ft at h;simp only[IQ]at h;obtain⟨⟨⟨⟨⟨⟨h1,c⟩,d⟩,e⟩,f⟩,g⟩,i⟩:=h;refine⟨by simpa using h1,fun y a k=>?_,fun y a b=>?_,fun y a l=>?_,fun x m=>?_,fun y a b=>?_,of_decide_eq_true g,fun j n=>?_⟩
 ·have:=JS.mp c y a;rw[k]at this;simpa using this
 ·have:=JS.mp c y a;rw[b]at this;simpa using this
 ·have:=JS.mp d y a;rw[l]at this;simpa using this
 ·have:=JS.mp e x m;simpa using this
 ·have:=JS.mp f y a;rw[b]at this;simpa using this
 ·have:=JS.mp i j n;simpa using this
abbrev Vb:=DS->MH->(Option Int->MH->Prop)->Prop
def sk(K:H0)(t:Vb):TO:=fun σ H Q=>∃δ M R,Slots K H δ σ/\LG K H M/\t δ M R/\∀o b a,Ky K H a->LG K a b->R o b->Q o a
def v9:Vb:=fun _ M Q=>Q KC M
def Dr(t:TD):Vb:=fun δ M Q=>t δ M fun x a=>∃i,x=.int i/\Q (KA i) a
def cutD(xs:List D)(a b:Option Int):List D:=(xs.drop (HT.sIx xs.length 0 a)).take (HT.sIx xs.length xs.length b-HT.sIx xs.length 0 a)
def FT:D->Option Int->Option Int->MH->DK->Prop:=fun x c d M Q=>match x with
 |.ref a=>∃b,M a=KA (.lst b)/\∀p,M p=KC->Q (.ref p) (ar M p (.lst (cutD b c d)))
 |.rol b=>∀p,M p=KC->Q (.ref p) (ar M p (.lst (cutD b c d)))
 |.tup b=>¬(HT.sIx b.length 0 c=0/\HT.sIx b.length b.length d=b.length)/\Q (.tup (cutD b c d)) M
 |_=>False
def GW(te:TD)(tl th:Vb):TD:=fun δ M Q=>te δ M fun x a=>tl δ a fun l b=>th δ b fun u c=>FT x l u c Q
theorem aB.cut{K:H0}{H:Hp}{a:List D}{xs:List V}(h:aB K H a xs)(b c:Option Int):aB K H (cutD a b c) (n9 xs b c):=by unfold cutD n9;rw[h.length];exact(h.drop _).take _
section
variable{X:Cx}{e a:Expr}{te:TD}{tl th:Vb}{lo hi:Option Expr}{pos p2:Pos}
theorem vY{e:Option Expr}{t t':TO}(h:PO X e t)(k:∀σ H Q,t' σ H Q->t σ H Q):PO X e t':=fun KQ s σ H Q I q=>h KQ s σ H Q I (k _ _ _ q)
theorem y6:PO X KC (sk X.K v9):=vY AX fun σ H Q b=>by obtain⟨δ,M,R,d,a,q,c⟩:=b;exact(c _ _ _ .refl a q)
theorem zA(h:DE X e te):PO X (KA e) (sk X.K (Dr te)):=vY (AU h) fun σ H Q b=>by obtain⟨δ,M,R,g,a,q,c⟩:=b;exact(⟨δ,M,_,g,a,q,fun d n v H1 g1 f j k=>by
 obtain⟨i,l,m⟩:=k
 subst l
 rw[Rep]at f
 exact⟨i,f,c _ _ _ g1 j m⟩⟩)
theorem yl(p:DE X a te)(r:PO X lo (sk X.K tl))(s:PO X hi (sk X.K th)):DE X (.Subscript a (.Slice lo hi KC p2) pos) (GW te tl th):=
 aV (vm (Aa.or BQ) p r s) fun σ H Q f=>by obtain⟨δ,M,R,m,a,q,g⟩:=f;exact(⟨δ,M,_,m,a,q,fun x t v H1 g1 w y A=>⟨δ,t,_,m.mono g1,y,A,fun l B F n C D=>⟨δ,B,_,m.mono (g1.trans n),C,D,fun u I J o h d=>by
  have G:=(g1.trans n).trans o
  have j:=w.mono (n.trans o)
  unfold FT at d
  split at d
  ·obtain⟨L,e3,d⟩:=d
   obtain rfl:v=.ref _:=j
   obtain⟨xs,k,i⟩:=h _ _ e3
   exact .inl ⟨_,xs,rfl,LR.of k,fun z c=>g _ _ _ _ (G.trans (.new c)) (by rw[Rep]) (h.lJ c (i.cut _ _)) (d z (h.fresh c))⟩
  ·rw[Rep]at j
   obtain⟨b,xs,rfl,k,i⟩:=j
   exact .inl ⟨_,xs,rfl,k.sql,fun z c=>g _ _ _ _ (G.trans (.new c)) (by rw[Rep]) (h.lJ c (i.cut _ _)) (d z (h.fresh c))⟩
  ·obtain⟨E,d⟩:=d
   rw[Rep]at j
   obtain⟨b,xs,rfl,k,i⟩:=j
   exact .inr ⟨_,xs,rfl,k,by rw[<-i.length];exact E,fun z c=>g _ _ _ _ (G.trans (.new c)) (by rw[Rep];exact⟨z,_,rfl,LU.of aH,(i.cut _ _).mono (.new c)⟩) (h.new c) d⟩
  ·exact d.elim⟩⟩⟩)
end
section
variable{X:Cx}{x y z:Str}{px py pz pt pos:Pos}{kt:Nat}{js:List Nat}{scope:JC}{elt iter:Expr}{ifs:List Expr}{te:TD}{tc:Lg}{wd:MW}{xs:List Str}
theorem gC(c:Kw X xs js scope)(i:Nat)(a:xs[i]?=KA x){C:Addr}{s:Hk}{H:Hp}{fp:List Addr}:PG (LJ X xs js scope C s H fp) (.Name x px) (e9 i):=by
 have d:i<xs.length:=(HN.mp a).1;have b:=HE a
 have e:Loc (LJ X xs js scope C s H fp).env.scope x:=by
  rcases c.own x b with z|z
  ·exact .inl (eV ⋯ z)
  ·exact .inr (eV ⋯ z)
 refine sR (i:=i) c.nd ?_ e (.inl (by show xs.contains x=KD;simpa using b));show(xs++js.map fun j=>(X.N[j]?).getD ("":Str))[i]?=KA x;rw[IB d];exact a
theorem zx(c:Kw X [x,y] js scope)(a:X.calm=KD){C:Addr}{s:Hk}{H:Hp}{fp:List Addr}:PG (LJ X [x,y] js scope C s H fp) (.Tuple [.Name x px,.Name y py] kt pt) (Dn X.K 2 (pb (e9 0) (pb (e9 1) DM))):=vN (X:=LJ X [x,y] js scope C s H fp) a (lj (gC c 0 rfl) (lj (gC c 1 rfl) se)) rfl rfl
theorem fW(c:Kw X [x] js scope)(a:X.calm=KD)(b:DI X (.Name x px) iter wd)(d:∀C s H fp,DTs (LJ X [x] js scope C s H fp) ifs tc)(e:∀C s H fp,DE (LJ X [x] js scope C s H fp) elt te) (f:∀x,Ic iter X.env x=pure x:=by intro _;rfl):DE X (.ListComp elt [⟨.Name x px,iter,ifs,0⟩] scope pos) (iz wd .one js tc te):=tD c a b qh (fun _ _ _ _=>gC c 0 rfl) d e f
theorem vE(c:Kw X [x,y] js scope)(a:X.calm=KD)(b:DI X (.Tuple [.Name x px,.Name y py] kt pt) iter wd)(d:∀C s H fp,DTs (LJ X [x,y] js scope C s H fp) ifs tc)(e:∀C s H fp,DE (LJ X [x,y] js scope C s H fp) elt te) (f:∀x,Ic iter X.env x=pure x:=by intro _;rfl):DE X (.ListComp elt [⟨.Tuple [.Name x px,.Name y py] kt pt,iter,ifs,0⟩] scope pos) (iz wd (.many 2) js tc te):=tD c a b Cd (fun _ _ _ _=>zx c a) d e f
theorem eo(i:Nat){v:Str}{pv a:Pos}(d:X.N.Nodup)(c:Kw X [x] js scope)(e:X.calm=KD)(f:DI X (.Name x px) iter wd)(g:∀C s H fp,DTs (LJ X [x] js scope C s H fp) ifs tc)(h:∀C s H fp,DE (LJ X [x] js scope C s H fp) elt te) (j:X.N[i]?=KA v:=by rfl) (k:X.env.scope.names.lookup v=KA .local:=by rfl) (b:JR (.ListComp elt [⟨.Name x px,iter,ifs,0⟩] scope pos) (KA (.Name v pv)) a.line X.env=pure KD:=by rfl) (l:∀x,Ic iter X.env x=pure x:=by intro _;rfl) : DSt X (.Assign [.Name v pv] (.ListComp elt [⟨.Name x px,iter,ifs,0⟩] scope pos) a) (cZ (iz wd .one js tc te) (aN i)):=AB i d c e f qh (fun _ _ _ _=>gC c 0 rfl) g h j k b l
end
section
variable{prog:HF}{w:Ih}{A:Ij}{E:Hj->Hk->Prop}{s:Hk}
theorem vM{N L:String}{op:CmpOp}{a b:Hj}{c:Bool}{Q:Hj->Hk->Prop}(n:(N="max"/\L="max.loop"/\op=.Gt)\/(N="min"/\L="min.loop"/\op=.Lt))(hh:A.handled=KC)
 (O:∀(t:Hk) (Y:Hj->Hk->Prop) (E':Hj->Hk->Prop),(∀x o,s.heap.get? x=KA o->t.heap.get? x=KA o)->Y (.bool c) t->Hu (HC prog w) A.in1 (richCompare op b a) Y E' t)
 (h:∀h' tk,(∀x o,s.heap.get? x=KA o->h'.get? x=KA o)->Q (if c=KD then b else a) { s with heap:=h',toks:=tk }) :
 Hu (HC prog w) A (call (.builtin N) [a,b]) Q E s:=by
 rcases n with⟨rfl,M,rfl⟩|⟨rfl,M,rfl⟩
 have nm:(toString "max"++toString ".loop":String)=L:=by rw[M];decide
 have i:=F.plain_max_loop
 have C:=F.entry_max_loop
 refine call_function_tree F.kind_max F.plain_max F.entry_max (F.args_max2 _ _) ?_
 rotate_left
 have nm:(toString "min"++toString ".loop":String)=L:=by rw[M];decide
 have i:=F.plain_min_loop
 have C:=F.entry_min_loop
 refine call_function_tree F.kind_min F.plain_min F.entry_min (F.args_min2 _ _) ?_
 all_goals
  rw[<-M]at i C
  show Hu _ A.in1 (Builtin.Builtins.bindParams _ ["key","default"] 0 ⟨[],[]⟩ >>= fun _=>_) _ _ s
  refine cc (wpAny_of_eq (a:=[KC,KC]) rfl ?_)
  show Hu _ A.in1 (newTuple [a,b] >>= fun _=>_) _ _ s
  refine cc (IS ?_)
  generalize e1:s.heap.push { cls:=.type "tuple",dict:=KC,data:=.seq ([a,b]:List Hj).toArray }=h1
  have k1:∀x o,s.heap.get? x=KA o->h1.get? x=KA o:=fun x o q=>by rw[<-e1];exact Ho _ q
  have Z:h1.IsTuple s.heap.objs.size #[a,b]:=by rw[<-e1];exact⟨_,HG _ rfl,rfl,0,rfl⟩
  have z1:h1.objs.size=s.heap.objs.size+1:=by rw[<-e1,Jf]
  refine cc (wpAny_pyIter_tuple (s:={ s with heap:=h1 }) Z ?_)
  refine cc (IS ?_)
  dsimp only
  generalize eI:h1.objs.size=I
  generalize e2:h1.push _=y
  have k2:∀x o,h1.get? x=KA o->y.get? x=KA o:=fun x o q=>by rw[<-e2];exact Ho _ q
  have hI:y.IsTupleIter I s.heap.objs.size 0:=by rw[<-e2,<-eI];exact⟨_,HG _ rfl,rfl,rfl⟩
  have z2:y.objs.size=I+1:=by rw[<-e2,Jf,eI]
  generalize eS:y.objs.size=S
  generalize e3:y.push _=k
  have P:∀x o,y.get? x=KA o->k.get? x=KA o:=fun x o q=>by rw[<-e3];exact Ho _ q
  have hS:k.get? S=KA { cls:=.type "list",dict:=KC,data:=.seq #[] 0,slots:=#[] }:=by rw[<-e3,<-eS];exact HG _ rfl
  have D:S≠I:=()
  have g:∀x o,s.heap.get? x=KA o->x≠I/\x≠S:=fun x o q=>⟨Im (HL (Hz q) ()),Im (HL (Hz q) ())⟩
  have G:k.IsTuple s.heap.objs.size #[a,b]:=by
   obtain⟨o,q,r⟩:=Z
   exact⟨o,P _ _ (k2 _ _ q),r⟩
  have R:k.IsTupleIter I s.heap.objs.size 0:=hI.at fun o q=>P _ _ q
  have TI:s.heap.objs.size≠I:=()
  have TS:s.heap.objs.size≠S:=()
  have l:∀x o,s.heap.get? x=KA o->k.get? x=KA o:=fun x o q=>P _ _ (k2 _ _ (k1 _ _ q))
  rw[nm]
  refine Hm ⟨plainId_quiet i _,?_⟩
  have f:∀(t:Hk) (v:Hj) (n:Nat),t.heap.IsTupleIter I s.heap.objs.size 2->t.heap.IsTuple s.heap.objs.size #[a,b]->t.heap.get? S=KA { cls:=.type "list",dict:=KC,data:=.seq #[v,v] n,slots:=#[] }->
   (∃h' tk,t={ s with heap:=h',toks:=tk }/\∀x o,s.heap.get? x=KA o->h'.get? x=KA o)->v=(if c=KD then b else a)->Jo (HC prog w) A (.builtin L ⟨[.ref I,.none,.ref S],[]⟩) (fun r s'=>match r with|.ok (.ret v)=>Q v s'|.ok _=>False|.error e=>E e s') t:=by
   rintro t v n i2 tT lS ⟨h',tk,rfl,kt⟩ ev
   refine codeAny_builtin C ?_
   rw[Around.under_plainId i _]
   show Hu _ A.in1 (seqItems? (.ref S) >>= fun _=>_) _ _ _
   refine cc (wpAny_seqItems lS rfl ?_)
   show Hu _ A.in1 (tryCatch (pyNext (.ref I)) _ >>= fun _=>_) _ _ _
   refine cc (wpAny_tryCatch (wpAny_pyNext_tuple_end (A:=A.in1) hh i2 tT (by simp) fun z B=>?_))
   have T:z.get? S=KA _:=B _ _ D lS
   show Hu _ A.in1 (updateSeq S (fun _=>#[]) >>= fun _=>_) _ _ _
   refine cc (wpAny_updateSeq T rfl (cc (wpAny_letGo (Hm ?_))))
   show Q v _
   rw[ev]
   exact h _ _ fun x o q=>(IE _ _ (g x o q).2.symm).trans (B x o (g x o q).1 (kt x o q))
  refine codeAny_builtin C ?_
  rw[Around.under_plainId i _]
  show Hu _ A.in1 (seqItems? (.ref S) >>= fun _=>_) _ _ _
  refine cc (wpAny_seqItems (s:={ s with heap:=k }) hS rfl ?_)
  show Hu _ A.in1 (tryCatch (pyNext (.ref I)) _ >>= fun _=>_) _ _ _
  refine cc (wpAny_tryCatch (wpAny_pyNext_tuple_item (s:={ s with heap:=k }) R G (x:=a) (by simp) fun z i4 B=>?_))
  have H:z.get? S=KA _:=(B.2 _ D).trans hS
  have U:z.IsTuple s.heap.objs.size #[a,b]:=by
   obtain⟨o,q,r⟩:=G
   exact⟨o,(B.2 _ TI).trans q,r⟩
  show Hu _ A.in1 (updateSeq S (fun _=>#[a,a]) >>= fun _=>_) _ _ _
  refine cc (wpAny_updateSeq H rfl ?_)
  rw[nm]
  refine Hm ⟨plainId_quiet i _,?_⟩
  generalize e5:z.update S _=m
  have V:∀x,x≠S->m.get? x=z.get? x:=fun x q=>by rw[<-e5];exact IE _ _ q.symm
  have j:∃n,m.get? S=KA { cls:=.type "list",dict:=KC,data:=.seq #[a,a] n,slots:=#[] }:=⟨_,by rw[<-e5];exact J7 _ H rfl⟩
  obtain⟨n5,j⟩:=j
  have i5:m.IsTupleIter I s.heap.objs.size 1:=i4.at fun o q=>(V _ D.symm).trans q
  have J:m.IsTuple s.heap.objs.size #[a,b]:=by
   obtain⟨o,q,r⟩:=U
   exact⟨o,(V _ TS).trans q,r⟩
  have p:∀x o,s.heap.get? x=KA o->m.get? x=KA o:=fun x o q=>(V _ (g x o q).2).trans ((B.2 _ (g x o q).1).trans (l x o q))
  refine codeAny_builtin C ?_
  rw[Around.under_plainId i _]
  show Hu _ A.in1 (seqItems? (.ref S) >>= fun _=>_) _ _ _
  refine cc (wpAny_seqItems (s:={ s with heap:=m }) j rfl ?_)
  show Hu _ A.in1 (tryCatch (pyNext (.ref I)) _ >>= fun _=>_) _ _ _
  refine cc (wpAny_tryCatch (wpAny_pyNext_tuple_item (s:={ s with heap:=m }) i5 J (x:=b) (by simp) fun W i6 X=>?_))
  have u:W.get? S=KA _:=(X.2 _ D).trans j
  have K:W.IsTuple s.heap.objs.size #[a,b]:=by
   obtain⟨o,q,r⟩:=J
   exact⟨o,(X.2 _ TI).trans q,r⟩
  have d:∀x o,s.heap.get? x=KA o->W.get? x=KA o:=fun x o q=>(X.2 _ (g x o q).1).trans (p x o q)
  show Hu _ A.in1 (tryCatch (holding [b,b] (richCompare _ b a >>= fun _=>_)) _ >>= fun _=>_) _ _ _
  refine cc (wpAny_tryCatch (J4 (cc (O _ _ _ d ?_))))
  refine cc (J4 (J9 ?_))
  refine cc (wpAny_letGo (Hm ?_))
  cases c with
  |true=>
   simp only[if_true]at f ⊢
   refine cc (wpAny_updateSeq u rfl (cc (wpAny_letGo ?_)))
   rw[nm]
   refine Hm ⟨plainId_quiet i _,f _ b _ (i6.at fun o q=>(IE _ _ D).trans q) ?_ (J7 _ u rfl) ⟨_,_,rfl,fun x o q=>(IE _ _ (g x o q).2.symm).trans (d x o q)⟩ rfl⟩
   obtain⟨o,q,r⟩:=K
   exact⟨o,(IE _ _ TS.symm).trans q,r⟩
  |false=>
   simp only[IW,if_false]at f ⊢
   refine cc (wpAny_letGo ?_)
   rw[nm]
   exact Hm ⟨plainId_quiet i _,f _ a _ i6 K u ⟨_,_,rfl,d⟩ rfl⟩
end
end SD
namespace HT
open PySem PyProof.Rows
def lexLe:List Int->List Int->Bool
 |[],[]=>KD
 |[],_::_=>KD
 |_::_,[]=>KG
 |x::xs,y::ys=>if x=y then lexLe xs ys else decide (x<=y)
def cg:List Int->List Int->Bool
 |[],[]=>KG
 |[],_::_=>KG
 |_::_,[]=>KD
 |x::xs,y::ys=>if x=y then cg xs ys else decide (y<x)
def j9(k:Bool)(ns ms:List Int):Bool:=bif k then cg ns ms else lexLe ns ms
theorem tP(k:Bool)(x y:Int)(xs a:List Int):j9 k (x::xs) (y::a)=if x=y then j9 k xs a else bif k then decide (y<x)else decide (x<=y):=by cases k<;>rfl
theorem zm{k:Bool}{ns ms:List Int}{a b:Nat}(z:ns=[]\/ms=[])(h:ns.length+b=ms.length+a):j9 k ns ms=bif k then decide (a>b)else decide (a<=b):=by
 have e:j9 k ns ms=bif k then decide (ns.length>ms.length)else decide (ns.length<=ms.length):=by
  rcases z with rfl|rfl
  ·cases k<;>cases ms<;>simp[j9,lexLe,cg]
  ·cases k<;>cases ns<;>simp[j9,lexLe,cg]
 rw[e];cases k
 ·exact decide_eq_decide.mpr ()
 ·exact decide_eq_decide.mpr ()
theorem Al(k:Bool)(A:Ij)(s:Hk)(a:Int)(t:Tok)(c:Int)(u:Tok)(prog:HF)(w:Ih)(E:Hj->Hk->Prop)(Q:Hj->Hk->Prop)(h:Q (.bool (bif k then decide (c<a)else decide (a<=c))) s) : Hu (HC prog w) A (richCompare (bif k then .Gt else .LtE) (.int a t) (.int c u)) Q E s:=by
 cases k
 ·exact(PyProof.Rows.le_int h:Hu (HC prog w) A (Iq .LtE (.int a t) (.int c u)) Q E s)
 ·exact(PyProof.Rows.gt_int h:Hu (HC prog w) A (Iq .Gt (.int a t) (.int c u)) Q E s)
section
open PySem.SeqAt
open PySem.AutoSeq1 (wpAny_loadPart')
open PySem.MeetsSeq PySem.MeetsSeq2 PySem.MeetsSeq3
theorem wx(k:Bool)(l b:Addr)(items i:Array Hj)(n U:Nat)(V J:Option Addr)(W K:Array (Option Hj))(ns ms:List Int)(P:JF items.toList ns)(Q:JF i.toList ms) :
 Meets ((bif k then K8.«tuple.__gt__» else K8.«tuple.__le__») ⟨[.ref l,.ref b],[]⟩)
  (fun _ R s=>s.heap.get? l=KA { cls:=.type "tuple",dict:=V,data:=.seq items n,slots:=W }/\s.heap.get? b=KA { cls:=.type "tuple",dict:=J,data:=.seq i U,slots:=K }/\
   R (.ok (.ret (.bool (j9 k ns ms)))) s):=
 .of_wp fun prog w A R s h=>by
  obtain⟨H,g,d,I,os⟩:=s;obtain⟨X,Y,h⟩:=h
  have f2:=AutoSeq1.sub_tuple_tuple
  have z1:items.size=ns.length:=by rw[<-P.length];simp
  have z2:i.size=ms.length:=by rw[<-Q.length];simp
  have fc:=tP k
  have L:=fun ns ms a b=>zm (k:=k) (ns:=ns) (ms:=ms) (a:=a) (b:=b)
  have S:=fun a t c u=>Al k A.in1 ⟨H,g,d,I,os⟩ a t c u prog w
  generalize j9 k=f at h fc L
  cases k
  all_goals
   dsimp only[cond_true,cond_false]at fc L S ⊢
   wp_walk using JI X,JI Y,wpAny_forIn_list _ (fun r b M=>b.1=KC/\M=⟨H,g,d,I,os⟩/\∃(vs ws:List Hj) (j m:List Int),r=vs.zip ws/\
    JF vs j/\JF ws m/\j.length+i.size=m.length+items.size/\R (.ok (.ret (.bool (f j m)))) ⟨H,g,d,I,os⟩) _
   case turn=>
    rintro⟨y,x⟩ r b M ⟨B,rfl,vs,ws,j,m,p,C,D,o,v⟩
    cases C with
    |nil=>rw[List.zip_nil_left]at p;cases p
    |cons a t F=>
     cases D with
     |nil=>rw[List.zip_nil_right]at p;cases p
     |cons c u G=>
      rw[List.zip_cons_cons]at p
      injection p with N E
      injection N with Z hx
      subst Z hx
      rw[fc]at v
      simp only[Iu]at o
      obtain⟨e,he,z⟩:=oG A.in1 ⟨H,g,d,I,os⟩ a t c u
      refine cc (he prog w _ _ ?_)
      cases e with
      |true=>
       rw[KI (z.mp rfl)]at v
       wp_walk
       exact⟨rfl,rfl,_,_,_,_,E,F,G,(),v⟩
      |false=>
       rw[KH (fun q=>absurd (z.mpr q) HJ)]at v
       have O:=S a t c u
       wp_walk using O
       exact⟨_,rfl,by simpa using v⟩
   case fin=>
    rintro⟨b1,b2⟩ M ⟨B,rfl,vs,ws,j,m,p,C,D,o,v⟩
    simp only at B
    subst B
    have T:=L j m items.size i.size (by
     cases C with
     |nil=>exact .inl rfl
     |cons a t T=>
      cases D with
      |nil=>exact .inr rfl
      |cons c u hw=>
       rw[List.zip_cons_cons]at p
       cases p) o
    rw[T]at v
    wp_walk
    exact⟨_,rfl,by simpa[Builtin.Tuple.tupleCompareSizes]using v⟩
   case h=>
    exact⟨rfl,rfl,items.toList,i.toList,ns,ms,rfl,P,Q,(),h⟩
end
section
variable{prog:HF}{w:Ih}{A:Ij}{E:Hj->Hk->Prop}{s:Hk}
theorem gG(k:Bool){l b:Addr}{items a:Array Hj}{ns ms:List Int}{Q:Hj->Hk->Prop}(r:IsTup s.heap l items)(t:IsTup s.heap b a)(u:JF items.toList ns)(v:JF a.toList ms)
 (o:A.units<IZ) (h:Q (.bool (j9 k ns ms)) s):Hu (HC prog w) A (Iq (bif k then .Gt else .LtE) (.ref l) (.ref b)) Q E s:=by
 obtain⟨⟨cls,y,data,z⟩,f,p,n,hd⟩:=id r
 obtain⟨⟨q,g,i,j⟩,c,d,B,e⟩:=id t
 simp only at p hd d e
 subst p hd d e
 have m:=wx k l b items a n B y g z j ns ms u v
 have h:Value.bool (j9 k ns ms)≠Value.notImplemented/\Q (.bool (j9 k ns ms)) s:=⟨(fun x=>nomatch x),h⟩
 cases k
 ·exact richCompare_meets_room (op:=.LtE) ⟨_,f,rfl⟩ ⟨_,c,rfl⟩ PySem.F.slot_tuple_le PySem.F.entry_tuple_le (PySem.F.args_tuple_le_2 _ _) m ⟨f,c,h⟩ o
 ·exact richCompare_meets_room (op:=.Gt) ⟨_,f,rfl⟩ ⟨_,c,rfl⟩ PySem.F.slot_tuple_gt PySem.F.entry_tuple_gt (PySem.F.args_tuple_gt_2 _ _) m ⟨f,c,h⟩ o
end
end HT
namespace SD
open PySem PySem.Spec PyProof.Rows L2
section
variable{X:Cx}
theorem dP{K:H0}{H:Hp}:∀{ns:List Int} {xs:List V},aB K H (ns.map D.int) xs->xs=ns.map V.int
 |[],xs,h=>by rw[Jb,aB]at h;exact h
 |n::ns,xs,h=>by
  rw[Hs,aB]at h
  obtain⟨x,r,rfl,h1,a⟩:=h
  rw[Rep]at h1
  rw[h1,dP a];rfl
theorem BU(d:X.A.units<IZ):Lh X (Iq .LtE) (fun x y H Q=>∃a b ns ms,x=.ref a/\y=.ref b/\LU X.K H a (ns.map V.int)/\LU X.K H b (ms.map V.int)/\Q (.bl (HT.lexLe ns ms)) H):=by intro KQ s σ H x y v u Q I e f h;obtain⟨a,b,ns,ms,rfl,rfl,g,i,q⟩:=h;cases e;cases f;obtain⟨j,k,l,_⟩:=I.tuple g;obtain⟨c,m,n,_⟩:=I.tuple i;exact HT.gG KG l n (intsAre_of k) (intsAre_of m) d ⟨.bl (HT.lexLe ns ms),H,I,rfl,q⟩
theorem BM(d:X.A.units<IZ):Lh X (Iq .Gt) (fun x y H Q=>∃a b ns ms,x=.ref a/\y=.ref b/\LU X.K H a (ns.map V.int)/\LU X.K H b (ms.map V.int)/\Q (.bl (HT.cg ns ms)) H):=by intro KQ s σ H x y v u Q I e f h;obtain⟨a,b,ns,ms,rfl,rfl,g,i,q⟩:=h;cases e;cases f;obtain⟨j,k,l,_⟩:=I.tuple g;obtain⟨c,m,n,_⟩:=I.tuple i;exact HT.gG KD l n (intsAre_of k) (intsAre_of m) d ⟨.bl (HT.cg ns ms),H,I,rfl,q⟩
def n6(f:Int->Int->Bool)(g:List Int->List Int->Bool):Lk:=fun x y M Q=>match x,y with
 |.int i,.int j=>True/\Q (.bl (f i j)) M
 |.tup a,.tup b=>∃ns c,a=Jc D.int ns/\b=Jc D.int c/\Q (.bl (g ns c)) M
 |_,_=>False
theorem xC{op:CmpOp}{f:Int->Int->Bool}{g:List Int->List Int->Bool}(h1:Lr X (Iq op) (Ni (fun _ _=>True) fun i j=>.bl (f i j))) (m:Lh X (Iq op) (fun x y H Q=>∃a b ns ms,x=.ref a/\y=.ref b/\LU X.K H a (ns.map V.int)/\LU X.K H b (ms.map V.int)/\Q (.bl (g ns ms)) H)):Lr X (Iq op) (n6 f g):=by
 refine gB (h1.or m) fun v u H Q c=>?_;obtain⟨x,y,M,R,e,h,a,q,d⟩:=c;unfold n6 at q;split at q
 ·exact .inl ⟨_,_,M,R,e,h,a,q,d⟩
 ·obtain⟨ns,ms,rfl,rfl,q⟩:=q;rw[Rep]at e;obtain⟨p,xs,rfl,k,n⟩:=e;obtain⟨o,s,rfl,l,r⟩:∃a xs,u=V.ref a/\LU X.K H a xs/\aB X.K H (Jc D.int ms) xs:=by rw[Rep]at h;exact h
  rw[dP n]at k;rw[dP r]at l;exact .inr ⟨p,o,ns,ms,rfl,rfl,k,l,d _ _ _ _ .refl (by rw[Rep]) a q⟩
 ·exact q.elim
theorem bZ(a:X.A.units+64<IZ):Lr X (Iq .Lt) (n6 (fun i j=>decide (i<j)) HT.lexLt):=xC FX (Ct ())
theorem vQ(a:X.A.units+64<IZ):Lr X (Iq .LtE) (n6 (fun i j=>decide (i<=j)) HT.lexLe):=xC F7 (BU ())
theorem iY(a:X.A.units+64<IZ):Lr X (Iq .Gt) (n6 (fun i j=>decide (j<i)) HT.cg):=xC Ei (BM ())
theorem u9(d:X.calm=KD)(E:X.A.units+64<IZ):bY X (.builtin "max") (fun xs H Q=>∃p q ns ms,xs=[.ref p,.ref q]/\LU X.K H p (ns.map V.int)/\LU X.K H q (ms.map V.int)/\Q (if HT.cg ms ns=KD then .ref q else .ref p) H):=by
 intro KQ s σ H xs us Q I r f;obtain⟨p,q,ns,ms,e,g,h,k⟩:=f;subst e;obtain⟨u,v,rfl,i,j⟩:=vals2 r;cases i;cases j;obtain⟨l,m,n,_⟩:=I.tuple g;obtain⟨b,o,w,_⟩:=I.tuple h;refine vM (.inl ⟨rfl,rfl,rfl⟩) (c:=HT.cg ms ns) (I.ok.hd d) (fun t F G a x=>?_) fun J L a=>⟨_,H,I.kept a,?_,k⟩
 ·obtain⟨y,z,b1⟩:=n;obtain⟨B,C,D⟩:=w;exact HT.gG KD (A:=X.A.in1) (s:=t) ⟨B,a _ _ C,D⟩ ⟨y,a _ _ z,b1⟩ (intsAre_of o) (intsAre_of m) (by show X.A.units+1<IZ;omega) x
 ·cases HT.cg ms ns<;>rfl
theorem uW(d:X.calm=KD)(E:X.A.units+64<IZ):bY X (.builtin "min") (fun xs H Q=>∃p q ns ms,xs=[.ref p,.ref q]/\LU X.K H p (ns.map V.int)/\LU X.K H q (ms.map V.int)/\Q (if HT.lexLt ms ns=KD then .ref q else .ref p) H):=by
 intro KQ s σ H xs us Q I r f;obtain⟨p,q,ns,ms,e,g,h,k⟩:=f;subst e;obtain⟨u,v,rfl,i,j⟩:=vals2 r;cases i;cases j;obtain⟨l,m,n,_⟩:=I.tuple g;obtain⟨b,o,w,_⟩:=I.tuple h;refine vM (.inr ⟨rfl,rfl,rfl⟩) (c:=HT.lexLt ms ns) (I.ok.hd d) (fun t F G a x=>?_) fun J L a=>⟨_,H,I.kept a,?_,k⟩
 ·obtain⟨y,z,b1⟩:=n;obtain⟨B,C,D⟩:=w;exact HT.jS (A:=X.A.in1) (s:=t) ⟨B,a _ _ C,D⟩ ⟨y,a _ _ z,b1⟩ (intsAre_of o) (intsAre_of m) (by show X.A.units+1<IZ;omega) x
 ·cases HT.lexLt ms ns<;>rfl
def Ef:RC:=fun d M Q=>match d with
 |[.int i,.int j]=>Q (.int (max i j)) M
 |[.tup a,.tup b]=>∃ns c,a=Jc D.int ns/\b=Jc D.int c/\Q (.tup (Jc D.int (if HT.cg c ns=KD then c else ns))) M
 |_=>False
def Ek:RC:=fun d M Q=>match d with
 |[.int i,.int j]=>Q (.int (min i j)) M
 |[.tup a,.tup b]=>∃ns c,a=Jc D.int ns/\b=Jc D.int c/\Q (.tup (Jc D.int (if HT.lexLt c ns=KD then c else ns))) M
 |_=>False
theorem rQ(j:X.calm=KD)(t:X.A.units+64<IZ):cW X (.builtin "max") Ef:=b6 (bY.or (BW j) (u9 j t)) fun vs H Q w=>by
 obtain⟨b,M,R,k,a,q,c⟩:=w;rcases b with _|⟨d,b⟩
 ·exact HS q
 cases d<;>rcases b with _|⟨e,b⟩<;>try exact HS q
 all_goals (cases e<;>rcases b with _|⟨f,b⟩<;>try exact HS q)
 ·exact .inl ⟨_,M,R,k,a,q,c⟩
 ·obtain⟨ns,i,rfl,rfl,q⟩:=q;obtain⟨v,u,rfl,l,m⟩:=dC k;rw[Rep]at l;obtain⟨p,xs,rfl,n,o⟩:=l;obtain⟨x,y,rfl,r,s⟩:∃a xs,u=V.ref a/\LU X.K H a xs/\aB X.K H (Jc D.int i) xs:=by rw[Rep]at m;exact m
  have g:=n;have h:=r;rw[dP o]at g;rw[dP s]at h;refine .inr ⟨p,x,ns,i,rfl,g,h,c _ _ _ _ .refl ?_ a q⟩;by_cases z:HT.cg i ns=KD
  ·rw[KI z,KI z,Rep];exact⟨_,_,rfl,r,s⟩
  ·rw[KH z,KH z,Rep];exact⟨_,_,rfl,n,o⟩
theorem tK(j:X.calm=KD)(t:X.A.units+64<IZ):cW X (.builtin "min") Ek:=b6 (bY.or (Dz j) (uW j t)) fun vs H Q w=>by
 obtain⟨b,M,R,k,a,q,c⟩:=w;rcases b with _|⟨d,b⟩
 ·exact HS q
 cases d<;>rcases b with _|⟨e,b⟩<;>try exact HS q
 all_goals (cases e<;>rcases b with _|⟨f,b⟩<;>try exact HS q)
 ·exact .inl ⟨_,M,R,k,a,q,c⟩
 ·obtain⟨ns,i,rfl,rfl,q⟩:=q;obtain⟨v,u,rfl,l,m⟩:=dC k;rw[Rep]at l;obtain⟨p,xs,rfl,n,o⟩:=l;obtain⟨x,y,rfl,r,s⟩:∃a xs,u=V.ref a/\LU X.K H a xs/\aB X.K H (Jc D.int i) xs:=by rw[Rep]at m;exact m
  have g:=n;have h:=r;rw[dP o]at g;rw[dP s]at h;refine .inr ⟨p,x,ns,i,rfl,g,h,c _ _ _ _ .refl ?_ a q⟩;by_cases z:HT.lexLt i ns=KD
  ·rw[KI z,KI z,Rep];exact⟨_,_,rfl,r,s⟩
  ·rw[KH z,KH z,Rep];exact⟨_,_,rfl,n,o⟩
end
end SD
namespace Ma
open SD
theorem Au{p z:Int}(h:0<p):0<p*z↔0<z:=by
 constructor
 ·intro q;by_cases a:0<z
  ·exact a
  ·have:p*z<=0:=Int.mul_nonpos_of_nonneg_of_nonpos () ();omega
 ·exact fun q=>Ib h q
theorem ug{a b c d:Int}(f:0<b)(hd:0<d):Rat.divInt a b<Rat.divInt c d↔a*d<c*b:=by
 have e:=Rat.divInt_sub_divInt c a (d₁:=d) (d₂:=b) () ();have h1:Rat.divInt a b<Rat.divInt c d↔0<Rat.divInt c d-Rat.divInt a b:=by constructor<;>intro z<;>grind
 rw[h1,e,kZ (Ib hd f)];omega
def ut(t b X m x:Int):Rat:=Rat.divInt (x*t+X*m) (b*m)
theorem si{t b X m n x y:Int}(c:0<t)(a:0<b)(d:0<m)(f:0<n):ut t b X m x<ut t b X n y↔n*x<m*y:=by
 unfold ut;rw[ug (Ib a d) (Ib a f)];have e:(y*t+X*n)*(b*m)-(x*t+X*m)*(b*n)=(b*t)*(m*y-n*x):=by grind
 have:=Au (z:=m*y-n*x) (Ib a c);omega
theorem je{t b X m n x y:Int}(d:0<t)(f:0<b)(g:0<m)(h:0<n):ut t b X m x=ut t b X n y↔n*x=m*y:=by
 have h1:=si (X:=X) (x:=x) (y:=y) d f g h;have i:=si (X:=X) (x:=y) (y:=x) d f h g;constructor
 ·intro e;have a:¬ut t b X m x<ut t b X n y:=by rw[e];exact Rat.lt_irrefl
  have c:¬ut t b X n y<ut t b X m x:=by rw[e];exact Rat.lt_irrefl
  rw[h1]at a;rw[i]at c;omega
 ·intro e;have a:¬ut t b X m x<ut t b X n y:=by rw[h1];omega
  have c:¬ut t b X n y<ut t b X m x:=by rw[i];omega
  grind
theorem rF{t b X x:Int}:Rat.divInt (x*t+X) b=ut t b X 1 x:=by unfold ut;rw[Int.mul_one,Int.mul_one]
theorem Bu{t b X Y m n x y u v:Int}(a:0<t)(c:0<b)(d:0<m)(e:0<n) : ah (ut t b X m x) (ut t b Y m y) (ut t b X n u) (ut t b Y n v)↔HT.lexLt [n*x,n*y] [m*u,m*v]=KD:=by
 unfold ah;rw[si a c d e,je a c d e,si a c d e];simp only[HT.lexLt];by_cases h:n*x=m*u
 ·rw[KI h];by_cases f:n*y=m*v
  ·rw[KI f];simp;omega
  ·rw[KH f];simp;omega
 ·rw[KH h];simp;omega
theorem um(a b c d:Int):HT.lexLe [a,b] [c,d]=!HT.lexLt [c,d] [a,b]:=by
 simp only[HT.lexLe,HT.lexLt];by_cases h:a=c
 ·subst h;rw[KI rfl,KI rfl];by_cases f:b=d
  ·subst f;rw[KI rfl,KI rfl];rfl
  ·rw[KH f,KH (fun e=>f e.symm)];rw[<-decide_not,KN];omega
 ·rw[KH h,KH (fun e=>h e.symm),<-decide_not,KN];omega
theorem uP(a b c d:Int):HT.cg [a,b] [c,d]=HT.lexLt [c,d] [a,b]:=by
 simp only[HT.cg,HT.lexLt];by_cases h:a=c
 ·subst h;rw[KI rfl,KI rfl];by_cases f:b=d
  ·subst f;simp
  ·rw[KH f,KH (fun e=>f e.symm)]
 ·rw[KH h,KH (fun e=>h e.symm)]
theorem iP{a b c d:Int}:HT.lexLt [a,b] [c,d]=KD↔a<c\/(a=c/\b<d):=by
 simp only[HT.lexLt];by_cases h:a=c
 ·subst h;rw[KI rfl];by_cases e:b=d
  ·subst e;rw[KI rfl];simp
  ·rw[KH e];simp
 ·rw[KH h];simp;omega
end Ma
open Ma renaming wll->Kd,ut->Ke,Bq->Kf,ah->Kg,pos_int->Kh,cr->Ki,sgn->Kj,iP->Kk,je->Kl,jI->Km,spt->Kn,rF->Ko,fr->Kp,den_pos->Kq,eN->Kr
namespace SD
open PySem PySem.Spec PyProof.Rows L2
theorem aA{M:MH}{a p:PySem.Addr}{o:MO}(h:M a=KA o)(b:M p=KC):a≠p:=fun e=>by subst e;rw[h]at b;cases b
def Px(t b x y:Int):D:=.tup [.int t,.int b,.int x,.int y]
structure Lc(t b x y:Int):Prop where
 t0:0<t
 t1:t<=10^24
 b0:0<b
 b1:b<=10^26
 x0:-(10^30)<=x
 x1:x<=10^30
 y0:-(10^30)<=y
 y1:y<=10^30
def uw(w:Int×Int×Int×Int):D:=.tup [.tup [.int w.1,.int w.2.1],.tup [.int w.2.2.1,.int w.2.2.2]]
def Kz(t b x y:Int)(w:Int×Int×Int×Int):D:=Kd (Ke t b x 1 w.1) (Ke t b y 1 w.2.1) (Ke t b x 1 w.2.2.1) (Ke t b y 1 w.2.2.2)
def YX(n:Int)(w:Int×Int×Int×Int):Prop:=(-n<=w.1/\w.1<=n)/\(-n<=w.2.1/\w.2.1<=n)/\(-n<=w.2.2.1/\w.2.2.1<=n)/\(-n<=w.2.2.2/\w.2.2.2<=n)
def Vq(m:Int)(w:Int×Int×Int×Int):Int×Int×Int×Int:=(m*w.1,m*w.2.1,m*w.2.2.1,m*w.2.2.2)
theorem range_getD(l:List D):(HX l.length).map (fun i=>(l[i]?).getD .non)=l:=by refine List.ext_getElem (by simp) fun i h1 a=>?_;simp[a]
theorem getD_map{b:Type}{f:b->D}{l:List b}{i:Nat}{a:b}(h:l[i]?=KA a):((l.map f)[i]?).getD .non=f a:=by rw[Ht,h];rfl
theorem A0{t b x m p:Int}(h:0<t/\t<=10^24)(c:0<b/\b<=10^26)(i:-(10^30)<=x/\x<=10^30)(d:0<m/\m<=10^6)(j:-(10^6)<=p/\p<=10^6):Kf 200 (Ke t b x m p):=by
 have e:Bd 80 t:=by show t.natAbs<2^80;omega
 have a:Bd 64 m:=by show m.natAbs<2^64;omega
 have f:Bd 64 p:=by show p.natAbs<2^64;omega
 have g:Bd 90 b:=by show b.natAbs<2^90;omega
 have bx:Bd 100 x:=by show x.natAbs<2^100;omega
 refine Ma.Bq.divInt (by have:=Ib c.1 d.1;omega) ?_ ((g.mul a).mono ⋯);exact(((f.mul e).mono (by decide:64+80<=164)).add (bx.mul a)).mono ⋯
theorem Lc.bx{t b x y m p:Int}(S:Lc t b x y)(a:0<m/\m<=10^6)(c:-(10^6)<=p/\p<=10^6):Kf 200 (Ke t b x m p):=A0 ⟨S.t0,S.t1⟩ ⟨S.b0,S.b1⟩ ⟨S.x0,S.x1⟩ a c
theorem Lc.by'{t b x y m p:Int}(S:Lc t b x y)(a:0<m/\m<=10^6)(c:-(10^6)<=p/\p<=10^6):Kf 200 (Ke t b y m p):=A0 ⟨S.t0,S.t1⟩ ⟨S.b0,S.b1⟩ ⟨S.y0,S.y1⟩ a c
theorem yO(a b c d:Int):IM (.tuple [.int a,.int b]) (.tuple [.int c,.int d])=decide (a=c/\b=d):=by simp only[IM,Jd,nV,Bool.and_true,Bool.decide_and]
open PySem PySem.Spec PyProof.Rows L2 Ma
instance(a b c d:Rat):Decidable (Kg a b c d):=inferInstanceAs (Decidable (_\/_))
def ML(a b c d:Int):Int:=a*d-b*c
theorem Cv{t b X m x:Int}(a:0<b)(c:0<m):Ke t b X m x=((t:Rat)/b)*((x:Rat)/m)+(X:Rat)/b:=by
 unfold Ke;rw[JG];have h1:(b:Rat)≠0:=by have:=Kh a;grind
 have d:(m:Rat)≠0:=by have:=Kh c;grind
 rw[Rat.intCast_add,Iv,Iv,Iv];grind
theorem cU{t b X x:Int}(a:0<b):Ke t b X 1 x=((t:Rat)/b)*(x:Rat)+(X:Rat)/b:=by rw[Cv a ⋯];have:((1:Int):Rat)=1:=rfl;rw[this];grind
theorem Cz(k x y p q r s e f:Rat):Ki (k*p+x) (k*q+y) (k*r+x) (k*s+y) (k*e+x) (k*f+y)=k*k*((r-p)*(f-q)-(s-q)*(e-p)):=by unfold Ki;grind
theorem FJ{t b X Y p q r s e f:Int}(a:0<b):Ki (Ke t b X 1 p) (Ke t b Y 1 q) (Ke t b X 1 r) (Ke t b Y 1 s) (Ke t b X 1 e) (Ke t b Y 1 f)=((t:Rat)/b)*((t:Rat)/b)*((ML (r-p) (s-q) (e-p) (f-q):Int):Rat):=by rw[cU a,cU a,cU a,cU a,cU a,cU a,Cz];unfold ML;rw[Js,Iv,Iv,Js,Js,Js,Js]
theorem sgn_mul{k:Rat}(a:0<k)(z:Int):Kj (k*(z:Rat))=HQ z:=by
 unfold Kj;by_cases h1:0<z
 ·rw[KI (Rat.mul_pos a (Kh h1)),Ip h1]
 ·by_cases b:z<0
  ·have c:0<k*((-z:Int):Rat):=Rat.mul_pos a (Kh ());rw[Rat.intCast_neg]at c;rw[KH (by grind),KI (by grind),Ia b]
  ·obtain rfl:z=0:=()
   have:((0:Int):Rat)=0:=rfl;rw[this];simp
theorem Ez{t b X Y p q e f:Int}(a:0<t)(c:0<b):Kg (Ke t b X 1 p) (Ke t b Y 1 q) (Ke t b X 1 e) (Ke t b Y 1 f)↔(p<e\/(p=e/\q<f)):=by rw[Ma.Bu a c ⋯ ⋯,Kk];omega
end SD
namespace HT
open PySem PyProof.Rows
end HT
namespace SD
open PySem PySem.Spec PyProof.Rows L2
section
variable{X:Cx}
def Hi(g:Bool->Bool):Lk:=fun x y M Q=>∃p ps,Pd M x p/\(Pd M y (.list ps)\/Pd M y (.tuple ps))/\SeqAt.shaped p=KD/\PyData.canLayAll0 ps=KD/\Q (.bl (g (ps.any fun q=>IM q p))) M
theorem ra{p:JW}{n:Nat}(h:SeqAt.shaped p=KD):min n p.depth<=63+1:=IA (Nat.min_le_right _ _) (SeqAt.depth_of_shaped h)
theorem oO(r:X.A.units+66<IZ):Lr X (Iq .NotIn) (Hi fun b=>!b):=by
 intro KQ s σ H v u t w Q I m g h;obtain⟨x,y,M,R,o,i,a,⟨p,ps,q,c,e,j,k⟩,d⟩:=h;obtain⟨z,l⟩:=bL I a q o m;have B:=ra (n:=PyData.depthAll ps) e;rcases c with c|c
 ·obtain⟨bs,f⟩:=bL I a c i g;exact SeqAt.notIn_list_reads f l j (SeqAt.canLay_of_shaped e) () ⟨.bl _,H,I,rfl,d _ _ _ _ .refl (by rw[Rep]) a k⟩
 ·obtain⟨bs,f⟩:=bL I a c i g;exact SeqAt.notIn_tuple_reads f l j (SeqAt.canLay_of_shaped e) () ⟨.bl _,H,I,rfl,d _ _ _ _ .refl (by rw[Rep]) a k⟩
def EH(c:TD)(t:L8):TD:=fun δ M Q=>c δ M fun x a=>∃l e,x=.ref l/\a l=KA (.lst e)/\t δ a fun f b=>∃xs d,f=[d]/\b l=KA (.lst xs)/\xs.length<1000000/\Q .non (ar b l (.lst (xs++[d])))
variable{o e:Expr}{to:TD}{t:L8}{apos KU:Pos}
theorem bJ(y:DE X o to)(z:DA X [e] t)
 (b:Jz o "append" X.env (eval o X.env)=eval o X.env:=by rfl)
 (i:((IY KU (Hv [e] X.env)).all (fun x=>!x.1)&&(backToKw KU (JO [] X.env)).all (fun x=>x.1.isSome)
  && decide ([e].length+([]:List Keyword).length+(if([]:List Keyword).isEmpty then 0 else 1)<30))=KD:=by rfl)
 (c:(apos.endLine==KU.line)=KD:=by rfl) (A:Hv [e] X.env=(KG,eval e X.env)::Hv [] X.env:=by rfl) (a:(IY KU (Hv [] X.env)).any (·.1)=KG:=by rfl) :
 DE X (.Call (.Attribute o "append" apos) [e] [] KU) (EH to t):=
 aV (Bj PySem.F.plainAttrs_list PySem.F.slot_list_append PySem.F.type_list_append iZ y z b i c A a) fun σ H Q B=>by
  obtain⟨δ,M,R,j,C,q,m⟩:=B
  refine⟨δ,M,_,j,C,q,fun x D v H1 g1 p r f=>?_⟩
  obtain⟨l,P,ex,E,G⟩:=f
  subst ex
  rw[Rep]at p
  subst p
  obtain⟨vs,n,_⟩:=r _ _ E
  refine⟨.inl ⟨rfl,vs,LR.of n⟩,δ,D,_,j.mono g1,r,G,fun S T us U I J s g=>?_⟩
  obtain⟨xs,d,K,L,V,N⟩:=g
  subst K
  obtain⟨u,rfl,O⟩:=b8 J
  obtain⟨ws,h,k⟩:=s _ _ L
  have w:=k.length
  refine⟨l,ws,u,rfl,rfl,h,HL () (show 1000000<=Hy from LB rfl),?_⟩
  exact m _ _ _ _ (g1.trans (I.trans (.lst h))) (by rw[Rep]) (s.xy h (k.append (.cons O .nil))) N
end
theorem nC{k:Nat}{A:Ij}(r:LH k A):A.units+66<IZ:=by have:=r.un;omega
abbrev Wl:=Int×Int×Int×Int
def la(x y:Int):Int:=100*x+y
def l1(w:Wl):Int:=la w.1 w.2.1
def l2(w:Wl):Int:=la w.2.2.1 w.2.2.2
def sd(w:Wl)(x y:Int):Int:=ML (w.2.2.1-w.1) (w.2.2.2-w.2.1) (x-w.1) (y-w.2.1)
def LM(w v:Wl):Int:=sd w v.1 v.2.1
def LN(w v:Wl):Int:=sd w v.2.2.1 v.2.2.2
structure LD(w:Wl):Prop where
 a:0<=w.1/\w.1<=20
 b:0<=w.2.1/\w.2.1<=20
 c:0<=w.2.2.1/\w.2.2.1<=20
 d:0<=w.2.2.2/\w.2.2.2<=20
 lt:l1 w<l2 w
def aT(w:Wl)(l s:Int):Prop:=l=l1 w\/l=l2 w\/l<l1 w\/l2 w<l\/s≠0
structure L6(U V:Wl):Prop where
 ne:¬(l1 U=l1 V/\l2 U=l2 V)
 e1:aT U (l1 V) (LM U V)
 e2:aT U (l2 V) (LN U V)
 e3:aT V (l1 U) (LM V U)
 e4:aT V (l2 U) (LN V U)
 pr:0<=HQ (LM U V)*HQ (LN U V)\/0<=HQ (LM V U)*HQ (LN V U)
theorem L6.swap{U V:Wl}(h:L6 U V):L6 V U:=⟨fun z=>h.ne ⟨z.1.symm,z.2.symm⟩,h.e3,h.e4,h.e1,h.e2,h.pr.symm⟩
def LX(U V:Wl):Bool:=
 if max (l1 U) (l1 V)<min (l2 U) (l2 V)then
  if l1 U=l1 V then(if l2 U<l2 V then decide (0<LN V U)else decide (LN U V<0))
  else if l1 V<l1 U then decide (0<LM V U)else decide (LM U V<0)
 else KG
theorem Yt(z:Int):HQ z=1↔0<z:=Int.sign_eq_one_iff_pos
theorem Ys(z:Int):-HQ z=1↔z<0:=by
 rcases Ie z 0 with h|h|h
 ·rw[Ia h];omega
 ·subst h;simp
 ·rw[Ip h];omega
theorem YR{x y:Int}(h:0<=HQ x*HQ y):¬(0<x/\y<0)/\¬(x<0/\0<y):=by
 constructor
 ·rintro⟨a,b⟩;rw[Ip a,Ia b]at h;omega
 ·rintro⟨a,b⟩;rw[Ia a,Ip b]at h;omega
theorem iV{z k:Int}(a:0<k)(h:0<z*k):0<z:=by
 rcases Ie z 0 with q|q|q
 ·have:=Ik q a;omega
 ·subst q;simp at h
 ·exact q
theorem nM{z k:Int}(a:0<k)(h:z*k<0):z<0:=by
 rcases Ie z 0 with q|q|q
 ·exact q
 ·subst q;simp at h
 ·have:=Ib q a;omega
theorem within{a b c d g h e f:Int}(p:a*(f-e)=d*(g-e)-c*(h-e))(q:b*(f-e)=d*(g-f)-c*(h-f))
 (h1:e<g) (r:e<h) (s:g<f) (t:h<f) (F:(¬(0<c/\d<0)/\¬(c<0/\0<d))\/(¬(0<a/\b<0)/\¬(a<0/\0<b))) (u:c≠0) (v:d≠0):0<c↔0<d:=by
 have k:0<f-e:=()
 have w:¬(0<c/\d<0):=fun i=>by
  obtain⟨x,y⟩:=i
  have j:=Ik y (():0<g-e)
  have l:=Ib x (():0<h-e)
  have m:=IC y (():g-f<0)
  have n:=Il x (():h-f<0)
  have o:=nM (z:=a) k ()
  have b1:=iV (z:=b) k ()
  omega
 have A:¬(c<0/\0<d):=fun i=>by
  obtain⟨x,y⟩:=i
  have j:=Ib y (():0<g-e)
  have l:=Ik x (():0<h-e)
  have m:=Il y (():g-f<0)
  have n:=IC x (():h-f<0)
  have o:=iV (z:=a) k ()
  have b1:=nM (z:=b) k ()
  omega
 omega
theorem tN{a b c d f h i g:Int}(q:b*(g-i)=d*(f-g)-c*(h-g))(r:c*(h-f)=b*(i-f)-a*(g-f))
 (h1:i<f) (s:f<g) (t:g<h) (F:(¬(0<c/\d<0)/\¬(c<0/\0<d))\/(¬(0<a/\b<0)/\¬(a<0/\0<b))) (u:c≠0) (b0:b≠0):0<c↔b<0:=by
 have e:d*(f-g)=-(d*(g-f)):=by rw[<-Int.mul_neg];congr 1;omega
 have v:¬(0<c/\0<b):=fun j=>by
  obtain⟨x,y⟩:=j
  have k:=Ib y (():0<g-i)
  have l:=Ib x (():0<h-g)
  have m:=Ib x (():0<h-f)
  have n:=Il y (():i-f<0)
  have o:=nM (z:=a) (():0<g-f) ()
  have p:=nM (z:=d) (():0<g-f) ()
  omega
 have w:¬(c<0/\b<0):=fun j=>by
  obtain⟨x,y⟩:=j
  have k:=Ik y (():0<g-i)
  have l:=Ik x (():0<h-g)
  have m:=Ik x (():0<h-f)
  have n:=IC y (():i-f<0)
  have o:=iV (z:=a) (():0<g-f) ()
  have p:=iV (z:=d) (():0<g-f) ()
  omega
 omega
theorem yF(U V:Wl):LM U V*(l2 V-l1 V)=LN V U*(l1 U-l1 V)-LM V U*(l2 U-l1 V):=by unfold LM LN sd l1 l2 la ML;grind
theorem zS(U V:Wl):LN U V*(l2 V-l1 V)=LN V U*(l1 U-l2 V)-LM V U*(l2 U-l2 V):=by unfold LM LN sd l1 l2 la ML;grind
theorem ng{x y u v:Int}(h1:0<=y/\y<=20)(a:0<=v/\v<=20)(h:la x y=la u v):x=u/\y=v:=by unfold la at h;omega
theorem Bl{U V:Wl}(a:LD U)(c:LD V)(h:l1 U=l1 V):LM U V=0:=by obtain⟨e1,e2⟩:=ng a.b c.b h;unfold LM sd ML;rw[e1,e2];simp
theorem pW{U V:Wl}(a:LD U)(b:LD V)(h:l2 U=l2 V):LN U V=0:=by obtain⟨e1,e2⟩:=ng a.d b.d h;unfold LN sd ML;rw[e1,e2];grind
theorem aT.nz{w:Wl}{l s:Int}(h:aT w l s)(h1:l1 w<l)(a:l<l2 w):s≠0:=by
 unfold aT at h;rcases h with h|h|h|h|h
 ·omega
 ·omega
 ·omega
 ·omega
 ·exact h
theorem kP{a b c d:Int}:max a c<min b d↔a<b/\a<d/\c<b/\c<d:=by rw[Int.max_lt,Int.lt_min,Int.lt_min,and_assoc]
section
variable{U V:Wl}(ap:max (l1 U) (l1 V)<min (l2 U) (l2 V))
include ap
theorem xG(z:l1 U<l1 V):LX U V=decide (LM U V<0):=by unfold LX;rw[KI ap,KH (Int.ne_of_lt z),KH (Int.not_lt.mpr (IV z))]
theorem vZ(z:l1 V<l1 U):LX U V=decide (0<LM V U):=by unfold LX;rw[KI ap,KH (fun e=>Int.ne_of_lt z e.symm),KI z]
theorem yx(z:l1 U=l1 V)(y:l2 U<l2 V):LX U V=decide (0<LN V U):=by unfold LX;rw[KI ap,KI z,KI y]
theorem wt(z:l1 U=l1 V)(y:¬l2 U<l2 V):LX U V=decide (LN U V<0):=by unfold LX;rw[KI ap,KI z,KH y]
end
theorem xI{a:Int}(h:a≠0):decide (0<a)=!decide (a<0):=by rw[<-decide_not,KN];omega
theorem wg{a:Int}(h:a≠0):decide (a<0)=!decide (0<a):=by rw[<-decide_not,KN];omega
theorem yt{U V:Wl}(d:LD U)(e:LD V)(F:L6 U V)(b:max (l1 U) (l1 V)<min (l2 U) (l2 V)):LX V U=!LX U V:=by
 have c:=b;rw[Int.max_comm,Int.min_comm]at c;have o:=kP.mp b;rcases Ie (l1 U) (l1 V)with h|h|h
 ·rw[vZ c h,xG b h,xI (F.e1.nz h o.2.2.1)]
 ·rcases Ie (l2 U) (l2 V)with a|a|a
  ·rw[wt c h.symm (Int.not_lt.mpr (IV a)),yx b h a,wg (F.e4.nz o.2.2.1 a)]
  ·exact absurd ⟨h,a⟩ F.ne
  ·rw[yx c h.symm a,wt b h (Int.not_lt.mpr (IV a)),xI (F.e2.nz o.2.1 a)]
 ·rw[xG c h,vZ b h,wg (F.e3.nz h o.2.1)]
theorem yg{a b c d:Int}(e:0<=b/\b<=20)(hd:0<=d/\d<=20):HT.lexLt [a,b] [c,d]=decide (la a b<la c d):=by have h:=Kk (a:=a) (b:=b) (c:=c) (d:=d);rw[Bool.eq_iff_iff,h,decide_eq_true_eq];unfold la;omega
theorem Bg{a b c d:Int}(e:0<=b/\b<=20)(hd:0<=d/\d<=20):HT.lexLe [a,b] [c,d]=decide (la a b<=la c d):=by rw[Ma.um,yg hd e,<-decide_not,KN];omega
theorem Ea{a b c d:Int}(e:0<=b/\b<=20)(hd:0<=d/\d<=20):HT.cg [a,b] [c,d]=decide (la c d<la a b):=by rw[Ma.uP,yg hd e]
theorem wC{x y u v:Int}(h1:0<=y/\y<=20)(a:0<=v/\v<=20):(x=u/\y=v)↔la x y=la u v:=by unfold la;omega
theorem zL{I:Oq}{tk:Nc}{js:List Nat}{tc:Lg}{te:TD}{δ:DS}{b:MH}{Q:DK}(f:Nat->Option D)(j:I.n<=1000000)(hC:∀p a,b p=KC->I.C (ar b p (.lst a))) (h:∀i d M,i<I.n->I.item i=KA d->Sub b M->∃os,xO tk d os/\(∀K:Bool->MH->Prop,K (f i).isSome M->tc (cδ os js δ) M K)/\∀e,f i=KA e->∀K:DK,(∀c,Sub M c->K e c)->te (cδ os js δ) M K) (k:∀p,b p=KC->Q (.ref p) (ar b p (.lst ((HX I.n).filterMap f)))):wy I tk js tc te δ b Q:=by
 refine⟨j,fun p g=>⟨fun i a M=>a=(HX i).filterMap f/\M=ar b p (.lst a),⟨rfl,rfl⟩,?_,?_,?_⟩⟩
 ·rintro i a M _ ⟨_,rfl⟩;exact hC p a g
 ·rintro i a d M l hd ⟨rfl,rfl⟩;obtain⟨os,m,o,q⟩:=h i d _ l hd (.new g .refl);refine⟨os,m,o _ ?_⟩;cases e:f i with
  |none=>
   refine lY rfl ⟨_,.refl,?_,?_⟩
   ·rw[JK,List.filterMap_append];simp[e]
   ·rfl
  |some v=>
   refine mY rfl (q v e _ fun c r=>⟨_,r,ai,?_,by rw[bH]⟩)
   rw[JK,List.filterMap_append];simp[e]
 ·rintro a M ⟨rfl,rfl⟩;exact k p g
theorem xW{A:Wl}{x y:Int}(c:LD A)(e:0<=y/\y<=20)(h:(!(decide (A.1=x/\A.2.1=y)||decide (A.2.2.1=x/\A.2.2.2=y))&&(decide (l1 A<=la x y)&&decide (la x y<=l2 A)&&decide (sd A x y=0)))=KG):aT A (la x y) (sd A x y):=by
 unfold aT;by_cases h1:A.1=x/\A.2.1=y
 ·exact .inl ((wC c.b e).mp h1).symm
 ·by_cases f:A.2.2.1=x/\A.2.2.2=y
  ·exact .inr (.inl ((wC c.d e).mp f).symm)
  ·rw[KJ h1,KJ f,Bool.or_false,Bool.not_false,Bool.true_and,<-Bool.decide_and,<-Bool.decide_and,decide_eq_false_iff_not]at h;by_cases g:sd A x y=0
   ·rcases Int.lt_or_le (la x y) (l1 A)with z|z
    ·exact .inr (.inr (.inl z))
    ·rcases Int.lt_or_le (l2 A) (la x y)with a|a
     ·exact .inr (.inr (.inr (.inl a)))
     ·exact absurd ⟨⟨z,a⟩,g⟩ h
   ·exact .inr (.inr (.inr (.inr g)))
theorem Bm(z:Int):Bd 64 (HQ z):=by
 rcases Ie z 0 with h|h|h
 ·rw[Ia h];decide
 ·subst h;decide
 ·rw[Ip h];decide
def PF(ws:List Wl):Prop:=∀(i j:Nat) (U V:Wl),i≠j->ws[i]?=KA U->ws[j]?=KA V->L6 U V
theorem DU:PF []:=fun i j U V _ h=>by simp at h
theorem uU{ws:List Wl}{U:Wl}(h:PF ws)(d:∀(j:Nat) (w:Wl),ws[j]?=KA w->L6 U w):PF (ws++[U]):=by
 intro i j A B c f g
 have get:∀{k:Nat} {C:Wl},(ws++[U])[k]?=KA C->ws[k]?=KA C\/(k=ws.length/\C=U):=fun{k C} e=>by
  rcases Nat.lt_trichotomy k ws.length with z|z|z
  ·rw[IB z]at e;exact .inl e
  ·subst z;rw[IG (Hq _)]at e;simp at e;exact .inr ⟨rfl,e.symm⟩
  ·rw[List.getElem?_eq_none (by simp;omega)]at e;cases e
 rcases get f with a|⟨a,rfl⟩<;>rcases get g with b|⟨b,rfl⟩
 ·exact h i j A B c a b
 ·exact(d _ _ a).swap
 ·exact d _ _ b
 ·omega
theorem uo{p q e f:Int}(c:0<=p/\p<=20)(a:0<=q/\q<=20)(d:0<=e/\e<=20)(b:0<=f/\f<=20)(ne:¬(p=e/\q=f)) :
 ∃w:Wl,(if HT.lexLt [e,f] [p,q]=KD then[e,f]else[p,q])=[w.1,w.2.1]/\(if HT.cg [e,f] [p,q]=KD then[e,f]else[p,q])=[w.2.2.1,w.2.2.2]/\LD w:=by
 rw[yg b a,Ea b a]
 have i:la p q≠la e f:=fun z=>ne ((wC a b).mpr z)
 by_cases h:la e f<la p q
 ·exact⟨(e,f,p,q),by rw[KI (KL h)],by rw[KH (by simp;omega)],⟨d,b,c,a,h⟩⟩
 ·have g:la p q<la e f:=()
  exact⟨(p,q,e,f),by rw[KH (by simpa using h)],by rw[KI (KL g)],⟨c,a,d,b,g⟩⟩
theorem nj{t b X Y p q e f:Int}(a:0<t)(c:0<b)(d:0<=q/\q<=20)(g:0<=f/\f<=20):Kg (Ke t b X 1 p) (Ke t b Y 1 q) (Ke t b X 1 e) (Ke t b Y 1 f)↔la p q<la e f:=by rw[Ez a c];unfold la;omega
theorem gV{t b X Y p q e f:Int}(a:0<t)(c:0<b)(d:0<=q/\q<=20)(g:0<=f/\f<=20):(Ke t b X 1 p=Ke t b X 1 e/\Ke t b Y 1 q=Ke t b Y 1 f)↔la p q=la e f:=by rw[Kl a c ⋯ ⋯,Kl a c ⋯ ⋯];unfold la;omega
theorem iD{t b X Y:Int}(c:0<t)(a:0<b)(w:Wl)(x y:Int):Kj (Ki (Ke t b X 1 w.1) (Ke t b Y 1 w.2.1) (Ke t b X 1 w.2.2.1) (Ke t b Y 1 w.2.2.2) (Ke t b X 1 x) (Ke t b Y 1 y))=HQ (sd w x y):=by
 have k:(0:Rat)<(t:Rat)/b:=by rw[Rat.div_def];exact Rat.mul_pos (Kh c) (Rat.inv_pos.mpr (Kh a))
 rw[FJ a,sgn_mul (Rat.mul_pos k k)];rfl
theorem GD(z:Int):HQ z=-1↔z<0:=by rw[<-Ys];omega
theorem qu{K:H0}{r i:Lk}{j tb tc:TD}{σ:L2.St}{H:Hp}{Q:VK}(h:lift K (tJ r i j tb tc) σ H Q):yi (iq K r) (iq K i) (lift K j) (lift K tb) (lift K tc) σ H Q:=by
 obtain⟨δ,M,R,g,p,q,b⟩:=h;refine⟨δ,M,_,g,p,q,fun x s v H1 g1 t A B=>⟨δ,s,_,g.mono g1,A,B,fun y C u O c l D E=>⟨x,y,C,_,t.mono c,l,D,E,fun z F w P d m n a=>?_⟩⟩⟩;obtain⟨k,e,f⟩:=a;subst e;rw[Rep]at m;refine⟨k,m,?_⟩;cases k with
 |true=>
  rw[KI rfl]at f ⊢
  exact⟨δ,F,_,g.mono ((g1.trans c).trans d),n,f,fun G I S T o J L N=>⟨y,G,I,R,l.mono (d.trans o),J,L,N,b.go (((g1.trans c).trans d).trans o)⟩⟩
 |false=>
  rw[KH HJ]at f ⊢
  exact b _ _ _ _ ((g1.trans c).trans d) (by rw[Rep]) n f
theorem oB{X:Cx}{a b c:Expr}{f tb tc:TD}{pos:Pos}{op d:CmpOp}{r g:Lk}(i:Lr X (Iq op) r)(e:Lr X (Iq d) g)(j:DE X a f)(k:DE X b tb)(l:DE X c tc) (m:lastMarks [op,d] [b,c]=KG:=by with_unfolding_all rfl):DT X (.Compare a [op,d] [b,c] pos) (tBD (tJ r g f tb tc)):=iy (vJ i e j k l m) fun _ _ _ h=>iX (fun _ _ _ h=>qu h) h
section
variable{X:Cx}
def fj{a:Type}(xs:List a)(j:Nat)(y:a):List a:=xs.take j++y::xs.drop j
def Ay:V->List V->Hp->VK->Prop:=fun x vs H Q=>∃l xs y,∃(k:Int) (j:Nat),x=.ref l/\vs=[.int k,y]/\k=(j:Int)/\H l=KA (.lst xs)/\j<=xs.length/\xs.length<1000000/\Q .non (upd H l (.lst (fj xs j y)))
theorem AH(a:List Hj)(k:Int)(j:Nat)(u:Hj)(b:k=(j:Int))(c:j<=a.length) :
 (a.toArray.extract 0 (if k<0 then(k+((a.toArray.size:Nat):Int)).toNat else min k.toNat a.toArray.size)).push u++a.toArray.extract (if k<0 then(k+((a.toArray.size:Nat):Int)).toNat else min k.toNat a.toArray.size)=(fj a j u).toArray:=by
 have e:(if k<0 then(k+((a.toArray.size:Nat):Int)).toNat else min k.toNat a.toArray.size)=j:=by
  rw[KH (),HI];omega
 rw[e]
 apply Array.toList_inj.mp
 simp[fj]
 exact IP (by simp)
theorem ua:YE X "list.insert" Ay:=by
 intro KQ s σ H x vs v us Q I g h i;obtain⟨l,xs,y,k,j,ex,m,o,f,A,B,q⟩:=i;subst ex m;cases g;obtain⟨C,c,rfl,p,u⟩:=h.two;obtain⟨t,rfl⟩:=p;obtain⟨z,a,n,r,w,e⟩:=I.pf f;have b:Builtin.List.listFitsIndex k=KD:=by unfold Builtin.List.listFitsIndex;simp;omega
 have d:a.toArray.size<=Hy:=by rw[HI,<-w];exact z
 refine call_meets PySem.F.slot_list_insert ⟨_,e,rfl⟩ PySem.F.entry_list_insert (PySem.F.args_list_insert_3 _ _ _) (PySem.AutoSeq1.list_insert_list_int_val_1 l a.toArray n k t c (by rw[b];decide) d) ⟨e,?_⟩;refine⟨.non,_,I.Em (its':=fj a j c) f e (AH a k j c o ()) ((Vals.take j r).append (.cons u (Vals.drop j r))) ?_,rfl,q⟩;show(xs.take j++y::xs.drop j).length<=Hy;simp only[IJ,Ju,Iu,List.length_drop];have:1000000<=Hy:=LB rfl;omega
def Fj(c:TD)(t:L8):TD:=fun δ M Q=>c δ M fun x a=>∃l e,x=.ref l/\a l=KA (.lst e)/\t δ a fun f b=>∃xs d,∃j:Nat,f=[.int (j:Int),d]/\b l=KA (.lst xs)/\j<=xs.length/\xs.length<1000000/\Q .non (ar b l (.lst (fj xs j d)))
variable{o e1 e2:Expr}{to:TD}{t:L8}{apos KU:Pos}
theorem fE(z:DE X o to)(A:DA X [e1,e2] t)
 (b:Jz o "insert" X.env (eval o X.env)=eval o X.env:=by rfl)
 (i:((IY KU (Hv [e1,e2] X.env)).all (fun x=>!x.1)&&(backToKw KU (JO [] X.env)).all (fun x=>x.1.isSome)
  && decide ([e1,e2].length+([]:List Keyword).length+(if([]:List Keyword).isEmpty then 0 else 1)<30))=KD:=by rfl)
 (c:(apos.endLine==KU.line)=KD:=by rfl) (B:Hv [e1,e2] X.env=(KG,eval e1 X.env)::Hv [e2] X.env:=by rfl) (a:(IY KU (Hv [e2] X.env)).any (·.1)=KG:=by rfl) :
 DE X (.Call (.Attribute o "insert" apos) [e1,e2] [] KU) (Fj to t):=
 aV (Bj PySem.F.plainAttrs_list PySem.F.slot_list_insert PySem.F.type_list_insert ua z A b i c B a) fun σ H Q C=>by
  obtain⟨δ,M,R,k,D,q,n⟩:=C
  refine⟨δ,M,_,k,D,q,fun x E v H1 g1 s u e=>?_⟩
  obtain⟨l,S,ex,G,I⟩:=e
  subst ex
  rw[Rep]at s
  subst s
  obtain⟨vs,p,_⟩:=u _ _ G
  refine⟨.inl ⟨rfl,vs,LR.of p⟩,δ,E,_,k.mono g1,u,I,fun T U us V J K w f=>?_⟩
  obtain⟨xs,d,j,L,N,W,Y,O⟩:=f
  subst L
  obtain⟨Z,P,rfl,m,r⟩:=dC K
  rw[Rep]at m
  subst m
  obtain⟨ws,g,h⟩:=w _ _ N
  have y:=h.length
  exact⟨l,ws,P,_,j,rfl,rfl,rfl,g,(),(),n _ _ _ _ (g1.trans (J.trans (.lst g))) (by rw[Rep]) (w.xy g ((h.take j).append (.cons r (h.drop j)))) O⟩
def xT:RC:=fun a M Q=>match a with
 |[.ref l]=>∃xs,M l=KA (.lst xs)/\∀p,M p=KC->Q (.ref p) (ar M p (.lst xs))
 |[.tup xs]=>∀p,M p=KC->Q (.ref p) (ar M p (.lst xs))
 |_=>False
theorem AE:cW X (.type "list") xT:=b6 nB fun vs H Q h=>by
 obtain⟨i,M,R,g,a,q,c⟩:=h;unfold xT at q;split at q
 ·obtain⟨j,e,q⟩:=q;obtain⟨v,rfl,r⟩:=b8 g;rw[Rep]at r;subst r;obtain⟨xs,d,f⟩:=a _ _ e;exact⟨_,xs,rfl,.inl (LR.of d),fun z b=>c _ _ _ _ (.new b) (by rw[Rep]) (a.lJ b f) (q z (a.fresh b))⟩
 ·obtain⟨v,rfl,r⟩:=b8 g;rw[Rep]at r;obtain⟨p,xs,rfl,d,f⟩:=r;exact⟨_,xs,rfl,.inr d,fun z b=>c _ _ _ _ (.new b) (by rw[Rep]) (a.lJ b f) (q z (a.fresh b))⟩
 ·exact q.elim
end
def lam(w:Wl):Int:=l2 w-l1 w
def Nm(w:Wl)(t:Int):Int:=2*w.1*lam w+(t-2*l1 w)*(w.2.2.1-w.1)
def Gh(U V:Wl)(t:Int):Int:=Nm V t*lam U-Nm U t*lam V
theorem FP(U V:Wl):Gh U V (2*l1 U)=2*(lam U*LM V U):=by unfold Gh Nm lam LM sd l1 l2 la ML;grind
theorem Ex(U V:Wl):Gh U V (2*l2 U)=2*(lam U*LN V U):=by unfold Gh Nm lam LN sd l1 l2 la ML;grind
theorem we(U V:Wl)(t:Int):Gh V U t=-Gh U V t:=by unfold Gh;grind
theorem GG(U V:Wl):Gh U V (2*l1 V)=-(2*(lam V*LM U V)):=by rw[<-FP,we]
theorem Gw(U V:Wl):Gh U V (2*l2 V)=-(2*(lam V*LN U V)):=by rw[<-Ex,we]
theorem ED(U V:Wl)(p q t:Int):Gh U V t*(q-p)=Gh U V p*(q-t)+Gh U V q*(t-p):=by unfold Gh Nm;grind
theorem d4{U V:Wl}{p q t:Int}(h1:p<t)(b:t<q)(gp:0<=Gh U V p)(a:0<=Gh U V q)(g:0<Gh U V p\/0<Gh U V q):0<Gh U V t:=by
 refine iV (k:=q-p) () ?_;rw[ED U V p q t];have c:=Int.mul_nonneg gp (():0<=q-t);have d:=Int.mul_nonneg a (():0<=t-p);rcases g with g|g
 ·have:=Ib g (():0<q-t);omega
 ·have:=Ib g (():0<t-p);omega
theorem Vv{a b t:Int}:2*max a b<t↔2*a<t/\2*b<t:=by rw[Int.max_def];split<;>omega
theorem Vw{a b t:Int}:t<2*min a b↔t<2*a/\t<2*b:=by rw[Int.min_def];split<;>omega
theorem yh{a c d b1 e f:Int}(h:a<b1/\a<e/\a<f)(h':c<b1/\c<e/\c<f)(g:d<b1/\d<e/\d<f):∃t,(2*a<t/\2*c<t/\2*d<t)/\t<2*b1/\t<2*e/\t<2*f:=by have k:∀{b},a<b->c<b->d<b->max (max a c) d<b:=fun x y z=>Int.max_lt.mpr ⟨Int.max_lt.mpr ⟨x,y⟩,z⟩;have l:max (max a c) d<min (min b1 e) f:=Int.lt_min.mpr ⟨Int.lt_min.mpr ⟨k h.1 h'.1 g.1,k h.2.1 h'.2.1 g.2.1⟩,k h.2.2 h'.2.2 g.2.2⟩;have i:a<=max (max a c) d:=Int.le_trans (Int.le_max_left ..) (Int.le_max_left ..);have j:c<=max (max a c) d:=Int.le_trans (Int.le_max_right ..) (Int.le_max_left ..);have o:d<=max (max a c) d:=Int.le_max_right ..;have p:min (min b1 e) f<=b1:=Int.le_trans (Int.min_le_left ..) (Int.min_le_left ..);have q:min (min b1 e) f<=e:=Int.le_trans (Int.min_le_left ..) (Int.min_le_right ..);have r:min (min b1 e) f<=f:=Int.min_le_right ..;generalize max (max a c) d=m at *;generalize min (min b1 e) f=n at *;clear h h' g k;refine⟨m+n,⟨?_,?_,?_⟩,?_,?_,?_⟩<;>omega
theorem vD{U V:Wl}{t:Int}(j:LD U)(k:LD V)(F:L6 U V)(i:max (l1 U) (l1 V)<min (l2 U) (l2 V))(t1:2*max (l1 U) (l1 V)<t)(x:t<2*min (l2 U) (l2 V))(h:LX U V=KD):0<Gh U V t:=by
 have n:l1 U<l1 V->LM U V<0:=fun z=>of_decide_eq_true ((xG i z).symm.trans h);have hC:l1 V<l1 U->0<LM V U:=fun z=>of_decide_eq_true ((vZ i z).symm.trans h);have N:l1 U=l1 V->l2 U<l2 V->0<LN V U:=fun z y=>of_decide_eq_true ((yx i z y).symm.trans h);have O:l1 U=l1 V->¬l2 U<l2 V->LN U V<0:=fun z y=>of_decide_eq_true ((wt i z y).symm.trans h);clear h;obtain⟨o1,l,m,o4⟩:=kP.mp i;clear i;obtain⟨P,Q⟩:=Vv.mp t1;obtain⟨R,S⟩:=Vw.mp x;clear t1 x;have A:=F.e1.nz;have B:=F.e2.nz;have C:=F.e3.nz;have D:=F.e4.nz;have pr:(¬(0<LM V U/\LN V U<0)/\¬(LM V U<0/\0<LN V U))\/(¬(0<LM U V/\LN U V<0)/\¬(LM U V<0/\0<LN U V)):=F.pr.elim (fun z=>.inr (YR z)) (fun z=>.inl (YR z));have z1:=Bl j k;have z2:=pW j k;have E:=Bl k j;have G:=pW k j;have T:=fun h1 e f o d g=>within (yF U V) (zS U V) h1 e f o pr d g;have W:=fun h1 e f o d g=>within (yF V U) (zS V U) h1 e f o pr.symm d g;have X:=fun h1 e f d g=>tN (zS U V) (yF V U) h1 e f pr d g;have Y:=fun h1 e f d g=>tN (zS V U) (yF U V) h1 e f pr.symm d g;clear pr;have ne:=F.ne;have H:0<lam U:=by have:=j.lt;unfold lam;omega
 have I:0<lam V:=by have:=k.lt;unfold lam;omega
 have J:=FP U V;have K:=Ex U V;have Z:=GG U V;have G4:=Gw U V;have r:0<LM V U->0<Gh U V (2*l1 U):=fun z=>by rw[J];have:=Ib H z;omega
 have s:0<LN V U->0<Gh U V (2*l2 U):=fun z=>by rw[K];have:=Ib H z;omega
 have u:LM U V<0->0<Gh U V (2*l1 V):=fun z=>by rw[Z];have:=Il I z;omega
 have v:LN U V<0->0<Gh U V (2*l2 V):=fun z=>by rw[G4];have:=Il I z;omega
 have L:LM V U=0->Gh U V (2*l1 U)=0:=fun z=>by rw[J,z];simp
 have M:LN V U=0->Gh U V (2*l2 U)=0:=fun z=>by rw[K,z];simp
 rcases Ie (l1 U) (l1 V)with y|y|y<;>rcases Ie (l2 U) (l2 V)with c|c|c
 ·have w:=A y m;have nd:=D m c;have q:=Y y m c w nd;have a0:LM U V<0:=n y;have b:=u a0;have a:=s ();exact d4 (p:=2*l1 V) (q:=2*l2 U) (by assumption) (by assumption) (IV b) (by first|exact IV a|exact Int.le_of_eq a.symm) (.inl b)
 ·have a0:LM U V<0:=n y;have b:=u a0;have a:=M (G c.symm);exact d4 (p:=2*l1 V) (q:=2*l2 U) (by assumption) (by assumption) (IV b) (by first|exact IV a|exact Int.le_of_eq a.symm) (.inl b)
 ·have w:=A y m;have nb:=B () c;have q:=W y () m c w nb;have a0:LM U V<0:=n y;have b:=u a0;have a:=v ();exact d4 (p:=2*l1 V) (q:=2*l2 V) (by assumption) (by assumption) (IV b) (by first|exact IV a|exact Int.le_of_eq a.symm) (.inl b)
 ·have b:=L (E y.symm);have a:=s (N y c);exact d4 (p:=2*l1 U) (q:=2*l2 U) (by assumption) (by assumption) (Int.le_of_eq b.symm) (IV a) (.inr a)
 ·exact absurd ⟨y,c⟩ ne
 ·have b:=L (E y.symm);have a:=v (O y ());exact d4 (p:=2*l1 U) (q:=2*l2 V) (by assumption) (by assumption) (Int.le_of_eq b.symm) (IV a) (.inr a)
 ·have q:=T y () l c (C y l) (D () c);have d:0<LM V U:=hC y;have b:=r d;have a:=s ();exact d4 (p:=2*l1 U) (q:=2*l2 U) (by assumption) (by assumption) (IV b) (by first|exact IV a|exact Int.le_of_eq a.symm) (.inl b)
 ·have d:0<LM V U:=hC y;have b:=r d;have a:=M (G c.symm);exact d4 (p:=2*l1 U) (q:=2*l2 U) (by assumption) (by assumption) (IV b) (by first|exact IV a|exact Int.le_of_eq a.symm) (.inl b)
 ·have q:=X y l c (C y l) (B l c);have d:0<LM V U:=hC y;have b:=r d;have a:=v ();exact d4 (p:=2*l1 U) (q:=2*l2 V) (by assumption) (by assumption) (IV b) (by first|exact IV a|exact Int.le_of_eq a.symm) (.inl b)
theorem uF{U V W:Wl}(a:LD U)(d:LD V)(b:LD W)(r:L6 U V)(s:L6 V W)(h:L6 U W)(i:max (l1 U) (l1 V)<min (l2 U) (l2 V))(j:max (l1 V) (l1 W)<min (l2 V) (l2 W))(f:max (l1 U) (l1 W)<min (l2 U) (l2 W))
 (h1:LX U V=KD) (u:LX V W=KD):LX U W=KD:=by
 have c:=kP.mp i
 have g:=kP.mp j
 have l:=kP.mp f
 obtain⟨t,⟨x1,m,o⟩,y1,p,q⟩:=yh ⟨c.1,c.2.1,l.2.1⟩ ⟨c.2.2.1,c.2.2.2,g.2.1⟩ ⟨l.2.2.1,g.2.2.1,g.2.2.2⟩
 have g1:=vD (t:=t) a d r i (Vv.mpr ⟨x1,m⟩) (Vw.mpr ⟨y1,p⟩) h1
 have v:=vD (t:=t) d b s j (Vv.mpr ⟨m,o⟩) (Vw.mpr ⟨p,q⟩) u
 have w:0<lam U:=by have:=a.lt;unfold lam;omega
 have x:0<lam V:=by have:=d.lt;unfold lam;omega
 have y:0<lam W:=by have:=b.lt;unfold lam;omega
 have B:0<Gh U W t:=by
  refine iV (k:=lam V) x ?_
  have e:Gh U W t*lam V=lam U*Gh V W t+lam W*Gh U V t:=by unfold Gh;grind
  rw[e]
  exact Int.add_pos (Ib w v) (Ib y g1)
 cases z:LX U W with
 |true=>rfl
 |false=>
  have n:=yt a b h f
  rw[z]at n
  have A:=vD (t:=t) b a h.swap (by rw[Int.max_comm,Int.min_comm];exact f) (Vv.mpr ⟨o,x1⟩) (Vw.mpr ⟨q,y1⟩) n
  rw[we]at A
  omega
theorem wY{U:Wl}(a:LD U):LX U U=KG:=by
 unfold LX;split
 ·rw[KI rfl,KH (),pW a a rfl];rfl
 ·rfl
theorem ko{a b:Type}(f:a->b)(xs:List a)(j:Nat)(y:a):fj (xs.map f) j (f y)=(fj xs j y).map f:=by unfold fj;simp[List.map_take,List.map_drop]
theorem gj{a:Type}(xs:List a)(j:Nat)(y:a):(fj xs j y).Perm (y::xs):=by
 unfold fj;have h:(xs.take j++y::xs.drop j).Perm (y::(xs.take j++xs.drop j)):=List.perm_middle
 rwa [List.take_append_drop]at h
theorem iF{b:Type}(p:b->Bool)(f:b->D):∀l:List b,l.filterMap (fun k=>if p k=KD then KA (f k)else KC)=(l.filter p).map f
 |[]=>rfl
 |a::l=>by
  rw[List.filterMap_cons,List.filter_cons]
  cases h:p a
  ·simp[iF p f l]
  ·simp[iF p f l]
def LK(ws:List Wl)(k:Int):Wl:=(ws[k.toNat]?).getD (0,0,0,0)
theorem bE{ws:List Wl}{k:Int}(h0:0<=k)(h1:k<ws.length):ws[k.toNat]?=KA (LK ws k)/\atI (ws.map uw) k=KA (uw (LK ws k))/\LK ws k∈ws:=by
 obtain⟨j,rfl⟩:∃j:Nat,k=(j:Int):=⟨k.toNat,()⟩;have a:j<ws.length:=()
 have e:LK ws (j:Int)=ws[j]:=by unfold LK;simp[a]
 refine⟨by rw[e];simp[a],?_,by rw[e];exact Iz a⟩;rw[e];exact bj (by simp[a])
theorem x8{R:Int->Int->Bool}:∀fs:List Int,fs≠[]->(∀k∈fs,∀j∈fs,k≠j->R j k=!R k j)->(∀k∈fs,∀j∈fs,∀i∈fs,k≠j->j≠i->k≠i->R k j=KD->R j i=KD->R k i=KD)->∃t∈fs,∀k∈fs,k=t\/R t k=KD
 |[],h,_,_=>absurd rfl h
 |[a],_,_,_=>⟨a,by simp,fun k c=>.inl (by simpa using c)⟩
 |a::b::l,_,tot,tr=>by
  obtain⟨t,d,top⟩:=x8 (R:=R) (b::l) (by simp) (fun k c j f=>tot k (.tail _ c) j (.tail _ f)) (fun k c j f i p=>tr k (.tail _ c) j (.tail _ f) i (.tail _ p))
  by_cases e:a=t
  ·subst e
   refine⟨a,by simp,fun k c=>?_⟩
   rcases HW.mp c with rfl|c
   ·exact .inl rfl
   ·exact top k c
  ·have m:=tot a (by simp) t (.tail _ d) e
   cases q:R a t with
   |false=>
    rw[q]at m
    refine⟨t,.tail _ d,fun k c=>?_⟩
    rcases HW.mp c with rfl|c
    ·exact .inr m
    ·exact top k c
   |true=>
    refine⟨a,by simp,fun k c=>?_⟩
    rcases HW.mp c with rfl|g
    ·exact .inl rfl
    ·by_cases n:k=a
     ·exact .inl n
     ·rcases top k g with rfl|z
      ·exact .inr q
      ·by_cases o:k=t
       ·subst o;exact .inr q
       ·exact .inr (tr a (by simp) t (.tail _ d) k c e (fun y=>o y.symm) (fun y=>n y.symm) q z)
theorem qf{fs:List Int}{t:Int}{p:Int->Bool}(nd:fs.Nodup)(f:t∈fs)(b:∀k∈fs,p k=KD↔k=t):fs.filter p=[t]:=by
 induction fs with
 |nil=>cases f
 |cons a l g=>
  rw[JY]at nd
  rw[List.filter_cons]
  by_cases e:a=t
  ·subst e;rw[KI ((b a (by simp)).mpr rfl)];have:l.filter p=[]:=List.filter_eq_nil_iff.mpr fun k c d=>nd.1 ((b k (.tail _ c)).mp d▸c);rw[this]
  ·rw[KH (fun z=>e ((b a (by simp)).mp z))];exact g nd.2 ((HW.mp f).resolve_left (fun z=>e z.symm)) fun k c=>b k (.tail _ c)
def QH(q:Rat):JW:=.tuple [.int q.num,.int (q.den:Int)]
def PZ(t b x y:Int)(w:Wl):JW:=.tuple [.tuple [QH (Ke t b x 1 w.1),QH (Ke t b y 1 w.2.1)],.tuple [QH (Ke t b x 1 w.2.2.1),QH (Ke t b y 1 w.2.2.2)]]
theorem vt(t b x y:Int)(w:Wl):IM (PZ t b x y w) (PZ t b x y w)=KD:=by simp[PZ,QH,IM,Jd]
theorem yI{a b x y:Int}(h1:-10<=b/\b<=85)(e:-10<=y/\y<=85):HT.lexLt [a,b] [x,y]=decide (la a b<la x y):=by have h:=Kk (a:=a) (b:=b) (c:=x) (d:=y);rw[Bool.eq_iff_iff,h,decide_eq_true_eq];unfold la;omega
def QF(ws:List Wl)(m s:Int)(j:Nat):Bool:=decide (m*l1 (LK ws (j:Int))<=s)&&decide (s<m*l2 (LK ws (j:Int)))
def Vt(ws:List Wl)(m s:Int):List Int:=((HX ws.length).filter (QF ws m s)).map fun j:Nat=>(j:Int)
theorem f7{ws:List Wl}{m s k:Int}(h:k∈Vt ws m s):0<=k/\k<ws.length/\m*l1 (LK ws k)<=s/\s<m*l2 (LK ws k):=by unfold Vt at h;obtain⟨j,a,rfl⟩:=IU.mp h;rw[Ig,JB]at a;have:=a.2;unfold QF at this;rw[IQ,decide_eq_true_eq,decide_eq_true_eq]at this;exact⟨(),(),this.1,this.2⟩
theorem D3(m a b:Int):la (m*a) (m*b)=m*la a b:=by unfold la;grind
theorem over_of{m s a b c d:Int}(i:0<m)(h1:m*a<=s)(f:s<m*b)(g:m*c<=s)(h:s<m*d):max a c<min b d:=by have e:∀{x y:Int},m*x<=s->s<m*y->x<y:=fun{x y} p q=>Int.lt_of_mul_lt_mul_left (Int.lt_of_le_of_lt p q) ();have:=e h1 f;have:=e h1 h;have:=e g f;have:=e g h;omega
theorem xo{ws:List Wl}{fs:List Int}{m s:Int}(r:∀w∈ws,LD w)(hF:PF ws)(u:0<m)(v:∀k∈fs,k∈Vt ws m s)(x:fs≠[])(nd:fs.Nodup) :
 ∃t∈fs,(∀w∈fs.map (LK ws),w=LK ws t\/(LX (LK ws t) w=KD/\LX w (LK ws t)=KG))/\(fs.filter fun k=>fs.all fun j=>!LX (LK ws j) (LK ws k))=[t]:=by
 have sp:=fun k d=>f7 (v k d)
 have un:∀k∈fs,LD (LK ws k):=fun k d=>r _ (bE (sp k d).1 (sp k d).2.1).2.2
 have fr:∀k∈fs,∀j∈fs,k≠j->L6 (LK ws k) (LK ws j):=fun k d j f ne=>by
  have a:=sp k d
  have b:=sp j f
  exact hF k.toNat j.toNat _ _ () (bE a.1 a.2.1).1 (bE b.1 b.2.1).1
 have n:∀k∈fs,∀j∈fs,max (l1 (LK ws k)) (l1 (LK ws j))<min (l2 (LK ws k)) (l2 (LK ws j)):=fun k d j f=>
  over_of u (sp k d).2.2.1 (sp k d).2.2.2 (sp j f).2.2.1 (sp j f).2.2.2
 have g:∀k∈fs,∀j∈fs,k≠j->LX (LK ws j) (LK ws k)=!LX (LK ws k) (LK ws j):=fun k d j f ne=>yt (un k d) (un j f) (fr k d j f ne) (n k d j f)
 obtain⟨t,o,top⟩:=x8 (R:=fun k j=>LX (LK ws k) (LK ws j)) fs x g (fun k d j f i l a b c p q=>uF (un k d) (un j f) (un i l) (fr k d j f a) (fr j f i l b) (fr k d i l c) (n k d j f) (n j f i l) (n k d i l) p q)
 refine⟨t,o,fun w y=>?_,qf nd o fun k d=>?_⟩
 ·obtain⟨k,d,rfl⟩:=IU.mp y
  by_cases e:k=t
  ·exact .inl (by rw[e])
  ·have a:=(top k d).resolve_left e
   have b:=g t o k d (fun z=>e z.symm)
   rw[a]at b
   exact .inr ⟨a,b⟩
 ·rw[JS]
  constructor
  ·intro h
   by_cases e:k=t
   ·exact e
   ·have a:=(top k d).resolve_left e
    have:=h t o
    rw[a]at this
    cases this
  ·rintro rfl j f
   by_cases e:j=k
   ·rw[e,wY (un k d)];rfl
   ·have a:=(top j f).resolve_left e
    have b:=g k d j f (fun z=>e z.symm)
    rw[b,a];rfl
section
variable{X:Cx}{KQ:List (Addr×Obj)}{σ:L2.St}{H:Hp}{s:Hk}
theorem qQ{h':Heap}{t':Nat}{e it:Addr}(I:Inv X KQ σ H s)(k:∀b o,b≠e->b≠it->s.heap.get? b=KA o->h'.get? b=KA o)(g:cL X KQ H e)(fi:cL X KQ H it):Inv X KQ σ H { s with heap:=h',toks:=t' }:=by
 obtain⟨h,e1,_,e3,e4,i⟩:=g;obtain⟨j,f,_,l,p,t⟩:=fi;have ne:∀b u,H b=KA u->b≠e/\b≠it:=fun b u q=>⟨fun z=>(by rw[z,h]at q;cases q),fun z=>(by rw[z,j]at q;cases q)⟩;have d:∀{b:Addr},b∉[e,it]->b≠e/\b≠it:=fun{b} a=>⟨fun z=>a (by simp[z]),fun z=>a (by simp[z])⟩;refine I.step (g':=s.gens) (d':=s.drawn) (ch:=[e,it]) (fun b w=>?_) (fun b o _ _ a q _=>k b o (d a).1 (d a).2 q) (fun b o _ _ a q _=>⟨o.slots,k b o (d a).1 (d a).2 q⟩) (fun _ _ _ _ n=>n) (fun b o a q=>⟨o,k b o (d a).1 (d a).2 q⟩) (fun _ _ q=>q) (fun _ _ _ q=>q) (fun b ps q=>⟨#[],by rw[q];simp⟩) (fun m x=>?_) (fun b u q=>?_) I.bare
 ·rcases(show b=e\/b=it by simpa using w)with rfl|rfl
  ·exact⟨e3,e1,e4,i⟩
  ·exact⟨l,f,p,t⟩
 ·obtain⟨o,A,B,C,r⟩:=x;exact⟨o,A,B,k _ o (Ne.symm e1) (Ne.symm f) C,r⟩
 ·refine(I.hok b u q).eK (fun c v a z=>?_) (fun _ z=>z) fun _ _ z=>z;rcases a with y|y
  ·subst y;exact k _ v (ne _ u q).1 (ne _ u q).2 z
  ·exact k c v (ne c _ y).1 (ne c _ y).2 z
end
theorem n4(c:Nat){prog:HF}{w:Ih}{A:Ij}{it:Addr}{fp:List Addr}{n:Nat}{P:Nat->Hj->Prop}{St:Nat->Heap->Prop}(D:Draws prog w A it fp n P St):Draws prog w A it fp (n+c) (fun j x=>∃i,j=i+c/\P i x) (fun j h=>∃i,j=i+c/\St i h) where
 live:=fun j h a=>by
  obtain⟨i,_,st⟩:=a
  exact D.live i h st
 frame:=fun j h b a k=>by
  obtain⟨i,e,st⟩:=a
  exact⟨i,e,D.frame i h b st k⟩
 item:=fun j s Q E m a f=>by
  obtain⟨i,e,st⟩:=a
  exact D.item i s Q E () st fun x b g p d l=>f x b g ⟨i,e,p⟩ ⟨i+1,(),d⟩ l
 done:=fun s Q E a hE=>by
  obtain⟨i,e,st⟩:=a
  obtain rfl:i=n:=()
  exact D.done s Q E st hE
theorem qV{prog:HF}{w:Ih}{A:Ij}(b:A.handled=KC)(it l:Addr)(c:l≠it)(items:Array Hj){i:Nat}(d:items[i]?=KC):Draws prog w A it [it,l] i (fun _ _=>False) (fun j h=>j=i/\h.IsListIter it l i/\h.IsList l items) where
 live:=fun _ _ st=>by
  obtain⟨o,f,_⟩:=st.2.1
  exact⟨o,f⟩
 frame:=fun _ _ _ st a=>⟨st.1,st.2.1.at fun o e=>a it (by simp) o e,st.2.2.at fun o e=>a l (by simp) o e⟩
 item:=fun j s Q E g st _=>absurd st.1 ()
 done:=fun s Q E st hE=>wpAny_nextOf_list_end b st.2.1 st.2.2 d hE
def YF(K:H0)(c:Nat)(a:Addr):It:=
 ⟨fun i H=>∃xs x,LR K H a xs/\xs[i]?=KA x,fun i H x b=>∃T y,x=.ref T/\H T=KC/\b=upd H T (.tup [.int ((i+c:Nat):Int),y])/\∀xs,LR K H a xs->xs[i]?=KA y,fun i H=>∃xs,LR K H a xs/\xs.length<=i⟩
theorem tZ(c:Nat){P:HF}{w:Ih}{K:H0}{F:List Expr}{kt}{pt:Pos}(a e it:Addr)(r:e≠it):Turn P w K (.Tuple F kt pt) (YF K c a) [e,it] e (fun i h=>(∃g,IsEnum h e it ((i+c:Nat):Int) g)/\h.IsListIter it a i) where
 mem:=by simp
 obj:=fun i h st b G=>by
  rcases(show b=e\/b=it by simpa using G)with rfl|rfl
  ·obtain⟨⟨g,q⟩,_⟩:=st
   exact⟨_,q,fun v z=>by
    have z':Data.fields _=Data.cell v:=z
    cases z'⟩
  ·obtain⟨o,q,_,d⟩:=st.2
   exact⟨o,q,fun v z=>by rw[d]at z;cases z⟩
 keep:=fun i h h' st k=>by
  obtain⟨⟨g,q⟩,st⟩:=st
  exact⟨⟨g,k e (by simp) _ q⟩,st.at fun o z=>k it (by simp) o z⟩
 item:=by
  intro X O Q R S i KQ s σ H E I M st T
  subst O Q R
  obtain⟨xs,x,N,U⟩:=T
  obtain⟨m,V,p,hz⟩:=I.list N
  obtain⟨u,hu,ru⟩:=V.get U
  obtain⟨⟨g,t⟩,j⟩:=st
  have le:e<s.heap.objs.size:=Hz t
  have li:it<s.heap.objs.size:=by obtain⟨o,q,_⟩:=j;exact Hz q
  have y:a≠it:=fun z=>by
   subst z
   obtain⟨o1,W,Y,_⟩:=j
   obtain⟨o2,y1,B,_⟩:=p.isList
   rw[W]at y1;cases y1
   rw[Y]at B;exact absurd (K4.inj B) ⋯
  have Z:e≠a:=fun z=>by
   subst z
   obtain⟨o2,y1,B,_⟩:=p.isList
   rw[show s.heap.get? e=_ from t]at y1;cases y1
   exact absurd (K4.inj B) ⋯
  have C:X.A.in1.handled=KC:=I.ok.hd S
  have b0:i<m.length:=(HN.mp hu).1
  refine wpAny_pyNext_enum_itemD (i:=i+c) (n4 c (Draws.list C it a y m.toArray)) t ⟨i,rfl,j,p.isList⟩ (by simp;omega) r (by simp[r,Z]) fun x0 h1 D l ho J hT c0 hk=>?_
  obtain⟨i0,d0,l⟩:=l
  obtain rfl:i=i0:=()
  obtain⟨i1,e0,L⟩:=J
  obtain rfl:i1=i+1:=()
  obtain rfl:u=x0:=by
   have l:m[i]?=KA x0:=by simpa using l
   rw[hu]at l;cases l;rfl
  refine⟨_,rfl,wpAny_letOwnedTupleGo_enum (s:={ s with heap:=h1,toks:=D+1 }) ho fun h2 a0 n=>?_⟩
  have n:K0 e h1 h2:=n
  have fr:=I.fresh
  have I1:Inv X KQ σ (upd H s.heap.objs.size (.tup [.int ((i+c:Nat):Int),x])) { s with heap:=s.heap.push { cls:=.type "tuple",data:=.seq #[.int ((i+c:Nat):Int) D,u] },toks:=s.toks }:=
   I.laid (fun b v q=>Ho _ q) (Hq _) ⟨LB rfl,[.int ((i+c:Nat):Int) D,u],.cons ⟨_,rfl⟩ (.cons ru .nil),⟨_,HG _ rfl,rfl,_,rfl⟩,⟨_,HG _ rfl,rfl⟩⟩
  have fk:∀{b:Addr},b<s.heap.objs.size->cL X KQ H b->cL X KQ (upd H s.heap.objs.size (.tup [.int ((i+c:Nat):Int),x])) b:=fun{b} lt f=>⟨by rw[aE (Im lt)];exact f.1,f.2⟩
  have fe:=fk le (M e (by simp))
  have fi:=fk li (M it (by simp))
  have I2:Inv X KQ σ (upd H s.heap.objs.size (.tup [.int ((i+c:Nat):Int),x])) { s with heap:=h2,toks:=D+1 }:=by
   refine qQ (s:={ s with heap:=s.heap.push { cls:=.type "tuple",data:=.seq #[.int ((i+c:Nat):Int) D,u] },toks:=s.toks }) I1 (fun b o ne ni q=>?_) fe fi
   have q:(s.heap.push { cls:=.type "tuple",data:=.seq #[.int ((i+c:Nat):Int) D,u] }).get? b=KA o:=q
   refine(n.2 b ne).trans ?_
   rcases Heap.get?_push_cases q with⟨rfl,rfl⟩|q
   ·exact hT
   ·exact hk b o ne ni q
  refine⟨.ref s.heap.objs.size,_,I2,rfl,⟨_,x,rfl,fr,rfl,fun ys hy=>by rw[I.ic hy N];exact U⟩,⟨⟨u,?_⟩,L.1.at fun o z=>(n.2 it r.symm).trans z⟩,fun b G=>?_⟩
  ·rw[show((i+1+c:Nat):Int)=((i+c:Nat):Int)+1 by omega];exact a0
  ·rcases(show b=e\/b=it by simpa using G)with rfl|rfl
   ·exact fe.1
   ·exact fi.1
 done:=by
  intro X O Q R S i KQ s σ H E I M st T
  subst O Q R
  obtain⟨xs,N,U⟩:=T
  obtain⟨m,V,p,hz⟩:=I.list N
  obtain⟨⟨g,t⟩,j⟩:=st
  obtain⟨f0,f1,f2,f3,f4,f5⟩:=M it (by simp)
  have hl:=V.length
  have y:a≠it:=fun z=>by
   subst z
   obtain⟨o1,W,Y,_⟩:=j
   obtain⟨o2,y1,B,_⟩:=p.isList
   rw[W]at y1;cases y1
   rw[Y]at B;exact absurd (K4.inj B) ⋯
  have C:X.A.in1.handled=KC:=I.ok.hd S
  exact wpAny_pyNext_enum_endD (qV C it a y m.toArray (i:=i) (by simp;omega)) t ⟨rfl,j,p.isList⟩ fun h' eb=>⟨rfl,I.turned (t':=s.toks) (fun b o G q=>eb b o G q) f0 f1 f3 f4 f5⟩
 self:=fun _ _ _ _ _ st h=>let⟨⟨_,t⟩,_⟩:=st;wpAny_pyIter_enum t h
theorem m9:ID "enumerate"=KA (.type "enumerate"):=by decide +kernel
section
variable{X:Cx}{elts:List Expr}{kt:Nat}{pt:Pos}
theorem zM(c:Nat){K:H0}{H1:Hp}{l:Addr}{es:List D}:Vg K H1 ⟨es.length,fun i=>(es[i]?).map fun d=>.tup [.int ((i+c:Nat):Int),d],fun M=>M l=KA (.lst es)⟩ (YF K c l):=by
 refine⟨fun o f p b g=>?_,fun i o f e p b g=>?_,?_⟩
 ·obtain⟨a,h,j⟩:=b _ _ (show f l=KA (.lst es)from g);exact⟨a,LR.of h,by rw[<-j.length];exact Hq _⟩
 ·obtain⟨a,h,j⟩:=b _ _ (show f l=KA (.lst es)from g);have k:i<a.length:=by rw[<-j.length];exact e
  exact⟨a,a[i],LR.of h,by simp[k]⟩
 ·rintro i o f v q e p b g ⟨T,y,rfl,m,rfl,h⟩;have e:i<es.length:=e;obtain⟨a,n,j⟩:=b _ _ (show f l=KA (.lst es)from g);obtain⟨x,e1,e2⟩:=j.get (show es[i]?=KA es[i] by simp[e]);have:=h a (LR.of n);rw[e1]at this;cases this;exact⟨.new m,b.new m,.tup [.int ((i+c:Nat):Int),es[i]],by simp[e],by rw[Rep];exact⟨T,_,rfl,LU.of aH,.cons (by rw[Rep]) (.cons (e2.mono (.new m)) .nil)⟩⟩
end
end SD
namespace HT
open PySem PyProof.Rows
section
open PySem.SeqAt
open PySem.AutoSeq1 (wpAny_loadPart')
open PySem.MeetsSeq PySem.MeetsSeq2 PySem.MeetsSeq3
theorem lO(l:Addr)(items:Array Hj)(n:Nat)(r:Option Addr)(t:Array (Option Hj))(x:Hj)(j:Nat)(B:j<items.size) :
 Meets (K8.«tuple.index» ⟨[.ref l,x],[]⟩) fun A R s=>s.heap.get? l=KA { cls:=.type "tuple",dict:=r,data:=.seq items n,slots:=t }/\(∀(i:Nat) (C:i<items.size),i<=j->EqAt A.in1 s items[i] x (decide (i=j)))/\R (.ok (.ret (.int (j:Int) s.toks))) { s with toks:=s.toks+1 }:=
 .of_wp fun prog w A R s h=>by
  obtain⟨u,g,d,v,os⟩:=s;obtain⟨y,k,h⟩:=h
  unfold K8.«tuple.index»
  simp only[Std.Legacy.Range.forIn_eq_forIn_range']
  wp_walk using JI y,wpAny_forIn_list _ (fun c b o=>b=(KC,.unit)/\o=⟨u,g,d,v,os⟩/\∃m,m<=j/\c=K3 m (items.size-m) 1) _
  case turn=>
   rintro a c b o ⟨rfl,rfl,m,q,e⟩
   have p:items.size-m=(items.size-m-1)+1:=()
   rw[p,List.range'_succ]at e
   injection e with h1 z
   subst h1 z
   have f:a<items.size:=()
   rw[Array.getElem?_eq_getElem f]
   refine cc (k a f q prog w _ _ ?_)
   by_cases e1:a=j
   ·subst e1
    rw[KL rfl]
    wp_walk
    exact⟨_,rfl,h⟩
   ·rw[KJ e1]
    wp_walk
    exact⟨rfl,rfl,a+1,(),by rw[show items.size-a-1=items.size-(a+1) by omega]⟩
  case fin=>
   rintro b o ⟨rfl,rfl,m,q,e⟩
   have p:items.size-m=(items.size-m-1)+1:=()
   rw[p,List.range'_succ]at e
   cases e
  exact⟨rfl,rfl,0,(),by simp[Std.Legacy.Range.size]⟩
end
end HT
open HT renaming lexLt->Ks,cg->Kt,lexLe->Ku
namespace SD
open PySem PySem.Spec PyProof.Rows L2
section
variable{X:Cx}
def ET(c:TD)(t:L8):TD:=fun δ M Q=>c δ M fun x e=>∃a,x=.tup a/\t δ e fun f b=>∃d p,∃j:Nat,f=[d]/\j<a.length/\Pd b d p/\SeqAt.shaped p=KD/\
 (∀(i:Nat) (y:D),i<=j->a[i]?=KA y->∃q,Pd b y q/\PyData.canLay0 q=KD/\IM q p=decide (i=j))/\Q (.int (j:Int)) b
def EO(K:H0):V->List V->Hp->VK->Prop:=fun x vs H Q=>∃a b M v d p,∃j:Nat,x=.ref a/\vs=[v]/\LG K H M/\Rep K H (.tup b) x/\Rep K H d v/\j<b.length/\Pd M d p/\SeqAt.shaped p=KD/\
 (∀(i:Nat) (y:D),i<=j->b[i]?=KA y->∃q,Pd M y q/\PyData.canLay0 q=KD/\IM q p=decide (i=j))/\Q (.int (j:Int)) H
theorem CZ(hu:X.A.units+66<IZ):YE X "tuple.index" (EO X.K):=by
 intro KQ s σ H x vs v us Q I z B C;obtain⟨a,l,M,v1,d,p,j,ex,D,u,w,hd,E,G,f,g,q⟩:=C;subst ex D;cases z;obtain⟨J,rfl,L⟩:=B.one;rw[Rep]at w;obtain⟨a',xs,ea,N,y⟩:=w;cases ea;obtain⟨c,h,⟨o,h1,O,n,P⟩,hz⟩:=I.tuple N;obtain⟨as,R⟩:=bL I u G hd L;have b:c.length=l.length:=by rw[<-h.length,y.length]
 obtain⟨oc,od,S,osl⟩:=o;cases O;cases P;refine call_meets PySem.F.slot_tuple_index ⟨_,h1,rfl⟩ PySem.F.entry_tuple_index (PySem.F.args_tuple_index_2 _ _) (HT.lO a c.toArray n od osl J j (by simpa[b]using E)) ⟨h1,fun i T m=>?_,?_⟩
 ·have k:i<l.length:=by simpa[b]using T
  obtain⟨U,g1,V,W⟩:=g i l[i] m (Hl k);obtain⟨x1,e1,r⟩:=y.get (Hl k);obtain⟨Y,e2,t⟩:=h.get e1;obtain⟨bs,Z⟩:=bL I u g1 r t
  have e3:c.toArray[i]=Y:=by
   have:=HN.mp e2
   obtain⟨_,e⟩:=this
   simpa using e
  rw[e3,<-W];have hm:min U.depth p.depth<=63+1:=IA (Nat.min_le_right _ _) (SeqAt.depth_of_shaped f);exact PySem.SeqAt.eqAt_reads _ _ _ _ _ _ _ _ Z R V (SeqAt.canLay_of_shaped f) (by show X.A.units+1+_<IZ;omega)
 ·exact⟨.int _,H,I.tok _,⟨_,rfl⟩,q⟩
theorem DQ{o e1:Expr}{n:TE}{t:TA}{c d:Pos}(u:X.A.units+66<IZ)(w:PE X o n)(y:PA X [e1] t)
 (f:Jz o "index" X.env (eval o X.env)=eval o X.env)
 (k:((IY d (Hv [e1] X.env)).all (fun x=>!x.1)&&(backToKw d (JO [] X.env)).all (fun x=>x.1.isSome)
  && decide ([e1].length+([]:List Keyword).length+(if([]:List Keyword).isEmpty then 0 else 1)<30))=KD)
 (g:(c.endLine==d.line)=KD) (z:Hv [e1] X.env=(KG,eval e1 X.env)::Hv [] X.env) (b:(IY d (Hv [] X.env)).any (·.1)=KG) :
 PE X (.Call (.Attribute o "index" c) [e1] [] d) (fun σ H Q=>n σ H fun x H1=>(∃p xs,x=.ref p/\LU X.K H1 p xs)/\t σ H1 fun vs l=>EO X.K x vs l Q):=by
 intro KQ s σ H Q I h
 refine wpAny_Call_method_late f k g rfl (LA (w KQ s σ H _ I h) fun v B i=>?_)
 obtain⟨x,H1,m,C,⟨p,xs,ex,q⟩,D⟩:=i
 subst ex
 cases C
 obtain⟨E,_,⟨ob,g1,G,_⟩,_⟩:=m.tuple q
 obtain⟨J,L,M⟩:=m.C8 q
 refine⟨"tuple","tuple.index",PySem.F.plainAttrs_tuple,PySem.F.slot_tuple_index,PySem.F.type_tuple_index,⟨ob,g1,G⟩,fun a e=>by cases e;exact⟨J,L,M⟩,?_⟩
 have r:=y d KQ B σ H1 _ m D
 rw[z]at r ⊢
 refine Calls.callWith_builtin (by show(KG||(IY d (Hv [] X.env)).any (·.1))=KG;rw[b]<;>rfl) (Calls.evalArgs_plain ?_)
 exact LA r fun us N j=>by obtain⟨vs,l,O,P,R⟩:=j;exact(CZ u KQ N σ l (.ref p) vs (.ref p) us Q O rfl P R)
variable{o e1:Expr}{to:TD}{t:L8}{apos KU:Pos}
theorem qU(y:X.A.units+66<IZ)(z:DE X o to)(B:DA X [e1] t)
 (c:Jz o "index" X.env (eval o X.env)=eval o X.env:=by rfl)
 (h:((IY KU (Hv [e1] X.env)).all (fun x=>!x.1)&&(backToKw KU (JO [] X.env)).all (fun x=>x.1.isSome)
  && decide ([e1].length+([]:List Keyword).length+(if([]:List Keyword).isEmpty then 0 else 1)<30))=KD:=by rfl)
 (e:(apos.endLine==KU.line)=KD:=by rfl) (C:Hv [e1] X.env=(KG,eval e1 X.env)::Hv [] X.env:=by rfl) (b:(IY KU (Hv [] X.env)).any (·.1)=KG:=by rfl) :
 DE X (.Call (.Attribute o "index" apos) [e1] [] KU) (ET to t):=
 aV (DQ y z B c h e C b) fun σ H Q ⟨δ,M,R,i,D,q,l⟩=>by
  refine⟨δ,M,_,i,D,q,fun x E v H1 g1 m F f=>?_⟩
  obtain⟨G,ex,I⟩:=f
  subst ex
  have n:=m
  rw[Rep]at m
  obtain⟨a,xs,rfl,J,U⟩:=m
  refine⟨⟨a,xs,rfl,J⟩,δ,E,_,i.mono g1,F,I,fun V K us W u L w g=>?_⟩
  obtain⟨d,p,j,N,O,P,r,k,S⟩:=g
  subst N
  obtain⟨T,rfl,s⟩:=b8 L
  exact⟨a,G,K,T,d,p,j,rfl,rfl,w,n.mono u,s,O,P,r,k,l _ _ _ _ (g1.trans u) (by rw[Rep]) w S⟩
def FQ(te:TD):Lg:=fun δ M Q=>te δ M fun x a=>∃l xs,x=.ref l/\a l=KA (.lst xs)/\Q (!xs.isEmpty) a
theorem Dt{e:Expr}{te:TD}(g:DE X e te)(hw:∀a,isTrue e X.env a=(do let v <-a;standAt e.pos;holding [v] (truthy v)):=by intro _;rfl):DT X e (FQ te):=
 iy (vC g hw) fun σ H Q ⟨δ,M,R,h,i,q,b⟩=>⟨δ,M,_,h,i,q,fun x p v H1 g1 d f ⟨l,xs,ex,j,k⟩=>by
  subst ex
  rw[Rep]at d;subst d
  obtain⟨c,m,n⟩:=f _ _ j
  refine⟨_,.inl ⟨c,LR.of m,rfl⟩,?_⟩
  have e:c.isEmpty=xs.isEmpty:=by
   have:=n.length
   cases xs<;>cases c<;>simp at this ⊢
  rw[e]
  exact b _ _ _ g1 f k⟩
end
open PySem PySem.W PySem.Spec PySem.Calls PyProof.Rows Builtin Builtin.ObjectAttr Builtin.Getset_descriptor
section
variable{prog:HF}{w:Ih}{A:Ij}{E:Hj->Hk->Prop}{h:Heap}{g:Array GenState}{d:Drawn}{t:Nat}{os:OsState}{K:Frag}{a C:Addr}{o:Obj}
structure Mj(K:Frag)(C:Addr):Prop where
 ga:findIn K (.ref C) "__getattribute__"=KA (KA (.builtin "BaseException.__getattribute__"))
 gt:findIn K (.ref C) "__getattr__"=KA KC
 cl:findIn K (.ref C) "__class__"=KA (KA (.builtin "object.__class__"))
 sub:subIn K (.ref C) (.type "BaseException")=KA KD
 mro:mroIn K C (.type "object")=KA KD
theorem dH{M:Model}(b:h.get? a=KA o)(c:o.cls=.ref C):Looks M h (typeOf (.ref a)) (.ref C):=c▸(Looks.ld b).andThen .now
theorem lK{R:Result->Hk->Prop}{b:Hj}(X:K.In h)(Z:Mj K C)(c:h.get? a=KA o)(e:o.cls=.ref C)(f:R (.ok (.ret (.ref C))) ⟨h,g,d,t,os⟩) :
 Jo (HC prog w) A (.call (.builtin "getset_descriptor.__get__") ⟨[.builtin "object.__class__",.ref a,b],[]⟩) R ⟨h,g,d,t,os⟩:=by
 have i:=dH (M:=HC prog w) c e
 have j:=looks_mroIn (M:=HC prog w) X Z.mro
 refine Jn KF.slot_gs.plain KF.entry_gs (KF.slot_gs.check _ _ _ _ _ _ _ _ KF.type_class (KF.args_gs _ _ b) ?_)
 unfold K8.«getset_descriptor.__get__» descrGet;rw[dga_obj];refine cc (Hm ?_);unfold descrGetter descrCheckInstance;unfold descrNameAndClass isInstance
 simp only[KF.owner_class]
 repeat lk
 refine And.intro (Code.quiet_builtin _ (by decide +kernel)) (codeAny_builtin KF.entry_class ?_);unfold K8.«object.__class__» shownTypeOf;(repeat lk)
 exact f
theorem ue{tk:Tok}{Q:PySem.Fin->Hk->Prop}(X:K.In h)(Z:Mj K C)(e:h.get? a=KA o)(f:o.cls=.ref C)(l:Q (.done (.ret (.ref C))) ⟨h,g,d,t,os⟩) :
 Hu (HC prog w) A (K8.«object.__getattribute__» ⟨[.ref a,.str "__class__" tk],[]⟩) Q E ⟨h,g,d,t,os⟩:=by
 have i:=dH (M:=HC prog w) (a:=a) e f
 have j:=looks_findIn (M:=HC prog w) X Z.cl
 have k:(⟨h,g,d,t,os⟩:Hk).TypeIs (.builtin "object.__class__") "getset_descriptor":=KF.type_class
 have m:=KF.type_class
 have b:=F.slot_gs_get.lookup;have c:=F.slot_gs_set.lookup
 repeat (any_goals (first|assumption|with_reducible refine Looks.at i ?_|with_reducible refine Looks.at j ?_|wp_step))
 refine lK X Z e f ?_
 repeat (any_goals (first|wp_step|assumption))
theorem mv{M:Model}{b:Hj}{Q:Unit->Hk->Prop}(X:K.In h)(Z:Mj K C)(e:h.get? a=KA o)(f:o.cls=.ref C)(m:Q ⟨⟩ ⟨h,g,d,t,os⟩):Hu M A (checkBuiltinCall "BaseException.__getattribute__" ⟨[.ref a,b],[]⟩) Q E ⟨h,g,d,t,os⟩:=by
 have i:builtinKind "BaseException.__getattribute__"=KA .slot:=by decide +kernel
 have sp:splitId "BaseException.__getattribute__"=KA ("BaseException","__getattribute__"):=by decide +kernel
 have c:=F.args_bexc_ga (.ref a) b;have j:=dH (M:=M) e f;have k:=looks_subIn (M:=M) X Z.sub;have l:Looks M h (isInstance (.ref a) (.type "BaseException")) KD:=j.andThen k;simp only[checkBuiltinCall,i,sp];refine cc (l.at ?_)
 repeat (first|assumption|wp_step)
theorem vO{tk:Tok}{R:Result->Hk->Prop}(e:Slot "ValueError" "__getattribute__" "BaseException.__getattribute__")(X:K.In h)(Z:Mj K C)(b:h.get? a=KA o)(c:o.cls=.ref C)(f:R (.ok (.ret (.ref C))) ⟨h,g,d,t,os⟩) : Jo (HC prog w) A (.call (.builtin "BaseException.__getattribute__") ⟨[.ref a,.str "__class__" tk],[]⟩) R ⟨h,g,d,t,os⟩:=Jn e.plain F.entry_bexc_ga (mv X Z b c (ue X Z b c f))
theorem vb{Q:Option Hj->Hk->Prop}(c:Slot "ValueError" "__getattribute__" "BaseException.__getattribute__")(X:K.In h)(Z:Mj K C)(e:h.get? a=KA o)(f:o.cls=.ref C)(m:Q (KA (.ref C)) ⟨h,g,d,t+1,os⟩):Hu (HC prog w) A (getAttr? (.ref a) "__class__") Q E ⟨h,g,d,t,os⟩:=by
 have i:=dH (M:=HC prog w) e f;have j:=looks_findIn (M:=HC prog w) X Z.ga;have L2:=looks_findIn (M:=HC prog w) X Z.gt;have n:=c.bind (.ref a);have k:(KG&&onTheHeap (JA "BaseException.__getattribute__"))=KG:=rfl;have b:(JA "BaseException.__getattribute__"==JA "object.__getattribute__")=KG:=by decide +kernel
 have l:(onTheHeap (Ii C)&&JA "BaseException.__getattribute__"==JA "object.__getattribute__")=KG:=by rw[b];rfl
 unfold getAttr? getAttrBy?
 repeat (any_goals (first|assumption|with_reducible refine Looks.at i ?_|with_reducible refine Looks.at j ?_|with_reducible refine Looks.at L2 ?_|wp_step))
 refine vO c X Z e f ?_
 repeat (any_goals (first|wp_step|assumption))
theorem rW(j:Slot "ValueError" "__getattribute__" "BaseException.__getattribute__")(Z:Mj K C)(b:(clsIn K C).isSome=KD):KitX K (.ref a) (.ref C) (fun h=>∃o,h.get? a=KA o/\o.cls=.ref C) where
 ty:=fun M h X ⟨o,f,i⟩=>dH f i
 it:=fun M h X _=>by
  unfold clsIn at b
  split at b
  ·rename_i c' d' cd' sl' ho
   intro u v x y k q
   unfold isType loadHead
   refine cc ?_;exact wpAny_loadPart (k _ _ (X _ _ ho)) (Hm q)
  ·cases b
 ne:=fun h l z m n j X p=>by
  unfold clsIn at b
  split at b
  ·rename_i c' d' cd' sl' ho
   refine Bool.eq_false_iff.mpr fun q=>?_;have e:C=l:=Ii.inj (beq_iff_eq.mp q)
   subst e
   have:=X _ _ ho
   rw[p]at this
   cases this
  ·cases b
 ca:=fun{prog w A E Q s} X c r=>by
  obtain⟨o,f,i⟩:=c
  obtain⟨B,g,d,t,os⟩:=s
  exact vb j X Z f i r
end
def ja(h:Heap):List Addr->Heap
 |[]=>h
 |a::l=>(ja h l).hide a
theorem d8{h:Heap}{b:Addr}:∀{l:List Addr},b∉l->(ja h l).get? b=h.get? b
 |[],_=>rfl
 |a::l,n=>by
  unfold ja
  rw[Heap.hide_ne _ (fun e=>n (by rw[e];exact J0))]
  exact d8 fun z=>n (Io _ z)
theorem fq{h:Heap}{b:Addr}:∀{l:List Addr},b∈l->(ja h l).get? b=KC
 |a::l,m=>by
  unfold ja
  by_cases e:b=a
  ·subst e;exact Heap.hide_self _ _
  ·rw[Heap.hide_ne _ e]
   exact fq ((HW.mp m).resolve_left e)
theorem rD{h:Heap}{b:Addr}{o:Obj}{l:List Addr}(e:(ja h l).get? b=KA o):b∉l/\h.get? b=KA o:=by
 by_cases m:b∈l
 ·rw[fq m]at e;cases e
 ·rw[d8 m]at e;exact⟨m,e⟩
theorem ik{env:Env}{l:List Env}{L:Addr}(h:env.frame=KA L):Lj (env::l)=L::Lj l:=by unfold Lj;rw[List.filterMap_cons,h]
theorem pM{h base a:Heap}:∀{l:List Env},h.FunFrames base l->(∀b∈Lj l,a.get? b=KC)->h.FunFrames a l
 |[],_,_=>trivial
 |env::r,⟨hk,⟨L,o,hf,hn,ho,hd⟩,hr⟩,n=>⟨hk,⟨L,o,hf,n L (by rw[ik hf];exact J0),ho,hd⟩,pM hr fun b c=>n b (by rw[ik hf];exact Io _ c)⟩
theorem jN{h base:Heap}:∀{l:List Env} {b:Addr},h.FunFrames base l->b∈Lj l->∃o,h.get? b=KA o/\∀vs:Array Hj,o.data≠.fields vs
 |[],_,_,m=>by unfold Lj at m;simp at m
 |env::r,b,⟨hk,⟨L,o,hf,hn,ho,hd⟩,hr⟩,m=>by
  rw[ik hf]at m
  rcases HW.mp m with e|m
  ·exact⟨o,by rw[e];exact ho,hd⟩
  ·exact jN hr m
theorem yR{P:HF}{w:Ih}{H:Hp}{h:Heap}{a:Addr}{o:HO}(x:bG P w H h a o):∃u,h.get? a=KA u:=by
 cases o with
 |lst xs=>obtain⟨_,_,_,_,e⟩:=x;exact⟨_,e⟩
 |tup xs=>obtain⟨_,_,_,⟨_,e,_⟩,_⟩:=x;exact⟨_,e⟩
 |dK kvs=>obtain⟨_,_,_,_,o,_,_,e,_⟩:=x;exact⟨_,e⟩
 |dT kvs=>obtain⟨_,_,_,_,o,_,_,e,_⟩:=x;exact⟨_,e⟩
 |set S n=>obtain⟨o,_,_,_,e,_⟩:=x;exact⟨_,e⟩
 |ins C b fs=>obtain⟨_,_,_,e,_⟩:=x;exact⟨_,e⟩
 |own y=>obtain⟨_,e⟩:=x;exact⟨_,e⟩
 |xd fs=>obtain⟨_,⟨_,_,_,e,_⟩,_⟩:=x;exact⟨_,e⟩
 |rng c d=>obtain⟨_,_,_,e⟩:=x;exact⟨_,e⟩
 |frz ob u=>obtain⟨e,_⟩:=x;exact⟨_,e⟩
 |tbl ps=>exact⟨_,(show h.get? a=KA _ from x)⟩
 |met f y=>exact⟨_,(show h.get? a=KA _ from x)⟩
 |ext g=>obtain⟨_,e,_⟩:=x;exact e
structure Nl(P:HF)(w:Ih)(outer:List Env)(H H':Hp)(s s':Hk)(a C:Addr):Prop where
 os:s'.os=s.os
 bare:AllBare s'.gens
 bs:∃(b:Heap) (a0:Hj),b.FlyingW outer a (.ref C) a0 s'.heap/\Ll P w H' b/\
  (∀x o,s.heap.get? x=KA o->H x=KC->x∉Lj outer->b.get? x=KA o)/\(∀x o,s.heap.get? x=KA o->x∉Lj outer->∃o',b.get? x=KA o')
 slot:∀x o,s.heap.get? x=KA o->H x=KC->x∈Lj outer->∃sl,s'.heap.get? x=KA { o with slots:=sl }
 free:∀x o,s.heap.get? x=KA o->H x=KC->H' x=KC
 tups:∀b xs,H b=KA (.tup xs)->H' b=KA (.tup xs)
 frzs:∀b o u,H b=KA (.frz o u)->H' b=KA (.frz o u)
 tbls:∀b ps,H b=KA (.tbl ps)->∃more,H' b=KA (.tbl (ps++more))
section
variable{P:HF}{w:Ih}{outer:List Env}{H H':Hp}{s s':Hk}{a C:Addr}
theorem Nl.un(F:Nl P w outer H H' s s' a C)(f:∀x∈Lj outer,H x=KC):Un (Lj outer) [] H H' s.heap s'.heap:=by
 obtain⟨b,a0,c,hok,kp,g⟩:=F.bs;refine⟨fun x o e n h _=>c.1 x o (kp x o e n h),fun x o e n m _=>F.slot x o e n m,fun x o e n _=>F.free x o e n,fun x o e _=>?_,F.tups,F.frzs,F.tbls⟩;by_cases m:x∈Lj outer
 ·obtain⟨i,q⟩:=F.slot x o e (f x m) m;exact⟨_,q⟩
 ·obtain⟨d,q⟩:=g x o e m;exact⟨d,c.1 x d q⟩
theorem Nl.hok(F:Nl P w outer H H' s s' a C):Ll P w H' s'.heap:=by obtain⟨b,a0,c,hok,_,_⟩:=F.bs;exact hok.kept c.1
theorem Nl.new(F:Nl P w outer H H' s s' a C):H' a=KC:=by
 obtain⟨b,a0,c,hok,_,_⟩:=F.bs;cases e:H' a with
 |none=>rfl
 |some o=>
  obtain⟨u,q⟩:=yR (hok a o e)
  rw[c.2.1]at q;cases q
theorem Nl.apart(F:Nl P w outer H H' s s' a C){x:Addr}{o:Obj}(e:s.heap.get? x=KA o)(n:H x=KC):x≠a:=by
 rintro rfl;obtain⟨b,a0,c,hok,kp,_⟩:=F.bs;by_cases m:x∈Lj outer
 ·obtain⟨h,f,d⟩:=jN c.2.2.1 m;obtain⟨i,vs,T,j,k,h1,_,g,_⟩:=c.2.2.2;rw[h1]at f;cases f;exact d vs g
 ·have:=kp x o e n m;rw[c.2.1]at this;cases this
end
theorem Av{K:H0}{fs ex:List Addr}{H b:Hp}{h h':Heap}(u:Un fs ex H b h h'):Ky K H b:=by
 refine⟨fun a xs q=>?_,fun a xs q=>?_⟩
 ·rcases q with(q|⟨o,q⟩)|q
  ·exact .inl (.inl (u.tups _ _ q))
  ·exact .inl (.inr ⟨o,u.frzs _ _ _ q⟩)
  ·exact .inr q
 ·rcases q with⟨o,q⟩|q
  ·exact .inl ⟨o,u.frzs _ _ _ q⟩
  ·exact .inr q
def Vm(P:HF)(w:Ih):N8:=fun outer H s E e c=>∃a C b,e=.ref a/\Nl P w outer H b s c a C/\E (.ref C) KC b
section
variable{P:HF}{w:Ih}{K:H0}{mg:Str->Option Hj}{base:Heap}{N:List Str}{qual:Str}{scope:JC}{f:Addr}{cd:Hj}{A:Ij}{outer:List Env}{s:Hk}{H:Hp}{E:XK}
theorem zt{KQ:List (Addr×Obj)}{σ:L2.St}{H1:Hp}{b:Hk}(I:Inv (bg (Vm P w) P w K mg base N qual scope f cd A outer s H E) KQ σ H1 b){x:Addr}{o:Obj}(e:s.heap.get? x=KA o)(n:x∉Lj outer):x∉Lj (bg (Vm P w) P w K mg base N qual scope f cd A outer s H E).stack:=by
 show x∉Lj ((bg (Vm P w) P w K mg base N qual scope f cd A outer s H E).env::outer);rw[ik (L:=(bg (Vm P w) P w K mg base N qual scope f cd A outer s H E).env.locals) rfl];intro m;rcases HW.mp m with z|z
 ·have h1:s.heap.objs.size<=(bg (Vm P w) P w K mg base N qual scope f cd A outer s H E).env.locals:=I.ok.above;have a:=Hz e;rw[z]at a;exact absurd (HL a h1) (Jp _)
 ·exact n z
end
abbrev Mt:List Hj:=[K4 "ValueError",K4 "Exception",K4 "BaseException",K4 "object"]
structure QD(K:H0)(x:Str)(C:Addr):Prop where
 nm:IT K Ir x=KA (KA (.ref C))
 ex:K7 K C Mt "ValueError.__new__"=KD
section
variable{P:HF}{w:Ih}{K:H0}{mg:Str->Option Hj}{base:Heap}{N:List Str}{qual:Str}{scope:JC}{f:Addr}{cd:Hj}{A:Ij}{outer:List Env}{s:Hk}{H:Hp}{E:XK}
end
abbrev hold(X:Cx)(a:Addr):Cx:={ X with A:=X.A.mark (KA (.ref a)),calm:=KG }
section
variable{X:Cx}{KQ:List (Addr×Obj)}{σ:L2.St}{H:Hp}{s:Hk}{a:Addr}
theorem pH(I:Inv X KQ σ H s):Inv (hold X a) KQ σ H s:=⟨⟨I.ok.mod,I.ok.kind,I.ok.glob,I.ok.blt,I.ok.above,I.ok.inj,I.ok.has,I.ok.cab,(fun z=>Bool.noConfusion z),I.ok.frames,I.ok.stk,I.ok.exf,I.ok.bs,I.ok.bsz,I.ok.noex,I.ok.exfs,I.ok.gR,I.ok.frf⟩,I.os,I.bare,I.base,I.loc,I.cell,I.free,I.freeC,I.pin,I.hok,I.len⟩
theorem eO(ok:X.Ok)(I:Inv (hold X a) KQ σ H s):Inv X KQ σ H s:=⟨ok,I.os,I.bare,I.base,I.loc,I.cell,I.free,I.freeC,I.pin,I.hok,I.len⟩
theorem gc{M:Model}{A:Ij}{E:Hj->Hk->Prop}{j:Nat}{n:Str}{pos:Pos}{Q:Unit->Hk->Prop}(I:Inv X KQ σ H s)(G:X.N.Nodup)(B:X.N[j]?=KA n)(J:X.env.scope.names.lookup n=KA .local)
 (h:∀C,Inv X KQ (σ.set j KC) H C->Q .unit C):Hu M A (do bindName X.env n Jq;unbindBehindTheSuite X.env n pos) Q E s:=by
 obtain⟨m,D,K⟩:=id I.loc
 have l:(X.env.scope.kind==.class||(X.env.scope.kind==.module&&X.env.locals != X.env.globals))=KG:=by rw[I.ok.kind];rfl
 have r:j<σ.length:=by rw[I.len];exact(HN.mp B).1
 have cne:=I.cne
 obtain⟨Y,_,_,L,_⟩:=id D
 refine wpAny_nameGoes_keeps J D l fun O v w f=>?_
 refine h { s with heap:=O,toks:=s.toks+1 } ⟨I.ok,I.os,I.bare,⟨fun b o e n x t=>?_,fun b o e n x t=>?_,I.base.free,fun b o e t=>?_,I.base.tups,I.base.frzs,I.base.tbls⟩,⟨_,w,fun i y P e1 e2 e3=>?_⟩,fun y c e=>?_,I.free,I.freeC,fun p R=>?_,fun b ob e=>?_,by simpa using I.len⟩
 ·exact(f.2 b (Im (HL (Hz e) I.ok.above))).trans (I.base.keep b o e n x t)
 ·obtain⟨S,e1⟩:=I.base.slot b o e n x t
  exact⟨S,(f.2 b (Im (HL (Hz e) I.ok.above))).trans e1⟩
 ·obtain⟨T,e1⟩:=I.base.there b o e t
  exact⟨T,(f.2 b (Im (HL (Hz e) I.ok.above))).trans e1⟩
 ·by_cases g:i=j
  ·subst g
   rw[List.getElem?_set_self r]at e2
   cases e2
  ·rw[List.getElem?_set_ne (Ne.symm g)]at e2
   obtain⟨U,V,q⟩:=K i y P e1 e2 e3
   refine⟨U,V,?_⟩
   rcases q with⟨k,e⟩|⟨k,c,e,z⟩
   ·refine .inl ⟨k,?_⟩
    have:y≠n:=fun e=>g (k7 G e1 (e▸B))
    simp[this,e]
   ·exact .inr ⟨k,c,e,z.sameBut f (cne y c e)⟩
 ·obtain⟨F,z⟩:=I.cell y c e
  exact⟨F,z.sameBut f (cne y c e)⟩
 ·obtain⟨e,n,ne,W,d⟩:=I.pin p R
  exact⟨(f.2 p.1 ne).trans e,n,ne,W,d⟩
 ·refine(I.hok b ob e).eK (fun c F u q=>(f.2 c ?_).trans q) (fun _ q=>q) fun _ _ q=>q
  rintro rfl
  rcases u with rfl|u
  ·rw[I.free]at e;cases e
  ·rw[I.free]at u;cases u
end
theorem oR{M:Model}{A:Ij}{E:Hj->Hk->Prop}{K:H0}{s:Hk}{a C S:Addr}{o:Obj}{Q:Bool->Hk->Prop}(X:K.In s.heap)(f:s.heap.get? a=KA o)(g:o.cls=.ref C) (d:K7 K S Mt "ValueError.__new__"=KD) (h:IF K (.ref S) (.type "BaseException")=KA KD) {b:Bool} (i:IF K (.ref C) (.ref S)=KA b) (q:Q b s):Hu M A (excMatches (.ref a) (.ref S)) Q E s:=by
 unfold K7 at d;split at d
 ·rename_i dct cd sl hl;have e:s.heap.get? S=KA _:=X _ _ hl
  have j:PySem.W.Looks M s.heap (isInstance (.ref S) (.type "tuple")) KG:=by
   have t0:PySem.W.Looks M s.heap (typeOf (.ref S)) (.type "type"):=(PySem.W.Looks.ld e).andThen .now
   exact t0.andThen (PySem.W.looks_subIn X (show Option.map _ (fastBuiltinMro "type")=_ by decide +kernel))
  have l:PySem.W.Looks M s.heap (isType (.ref S)) KD:=by intro p r t u k q;unfold isType loadHead;refine cc ?_;exact wpAny_loadPart (k _ _ e) (Hm q)
  have L2:=PySem.W.looks_subIn (M:=M) X h;have m:PySem.W.Looks M s.heap (typeOf (.ref a)) (.ref C):=g▸(PySem.W.Looks.ld f).andThen .now;have n:=PySem.W.looks_subIn (M:=M) X i;have c:∀(b:Addr) (o:Obj),s.heap.get? b=KA o->s.heap.get? b=KA o:=fun _ _ z=>z;unfold excMatches isExcClass;refine cc (j _ _ _ _ c ?_);simp only[IW,if_false,List.forIn_cons,List.forIn_nil,pure_bind,bind_assoc,Bool.not_true];refine cc (l _ _ _ _ c ?_);simp only[if_true];refine cc (L2 _ _ _ _ c ?_);simp only[Bool.not_true,IW,if_false,pure_bind,bind_assoc];refine cc (m _ _ _ _ c ?_);refine cc (n _ _ _ _ c ?_);cases b
  ·simp only[IW,if_false,pure_bind,bind_assoc];exact Hm q
  ·simp only[if_true,pure_bind,bind_assoc];exact Hm q
 ·cases d
abbrev TR:=L2.St->Hp->(Hp->XK)->Prop
def gone(j:Nat)(D:Ends):Ends:={ nx:=fun σ H=>D.nx (σ.set j KC) H,rt:=D.rt,bk:=fun σ H=>D.bk (σ.set j KC) H,ct:=fun σ H=>D.ct (σ.set j KC) H }
theorem Slots.gone{K:H0}{H:Hp}{δ:DS}{σ:L2.St}(h:Slots K H δ σ)(j:Nat):Slots K H (δ.set j KC) (σ.set j KC):=by
 refine⟨by simp[h.len],fun i d q=>?_⟩;rw[List.getElem?_set]at q;by_cases a:j=i
 ·rw[KI a]at q;split at q<;>cases q
 ·rw[KH a]at q;obtain⟨b,e1,e2⟩:=h.at' i d q;exact⟨b,by rw[List.getElem?_set,KH a];exact e1,e2⟩
def BE(j:Nat)(B:EndsD):EndsD:={ nx:=fun δ M=>B.nx (δ.set j KC) M,rt:=B.rt,bk:=fun δ M=>B.bk (δ.set j KC) M,ct:=fun δ M=>B.ct (δ.set j KC) M }
structure PU(K:H0)(C:Addr):Prop where
 c:Mj K C
 s:(PySem.W.clsIn K C).isSome=KD
def G5:D->Option Hj
 |.ty n=>KA (.type n)
 |.ref d=>KA (.ref d)
 |_=>KC
def tq(s:Stmt)(i:Nat):Stmt:=match s with
 |.ClassDef _ _ _ b _ _ _ _ _ _ _=>b.getD i (.Pass ⟨0,0,0,0⟩)
 |_=>.Pass ⟨0,0,0,0⟩
def cl(K:H0)(x:Str):Addr:=match IT K Ir x with
 |some (KA (.ref C))=>C
 |_=>0
section
variable{K:H0}{x y:Str}{C D:Addr}{b:Bool}
theorem dN(a:IT K Ir x=KA (KA (.ref C))):cl K x=C:=by unfold cl;rw[a]
theorem E6{h:Heap}{mg:Str->Option Hj}(X:K.In h)(G:h.Ns Ir mg)(a:IT K Ir x=KA (KA (.ref C))):mg x=KA (.ref (cl K x)):=by rw[dN a];exact PySem.W.mg_of X G a
theorem G6(a:IT K Ir x=KA (KA (.ref C)))(b:K7 K C Mt "ValueError.__new__"=KD):QD K x (cl K x):=by rw[dN a];exact⟨a,b⟩
theorem zN{n:String}(a:IT K Ir x=KA (KA (.ref C)))(h:IF K (.ref C) (.type n)=KA b):IF K (.ref (cl K x)) (.type n)=KA b:=by rw[dN a];exact h
theorem Co(a:IT K Ir x=KA (KA (.ref C)))(c:IT K Ir y=KA (KA (.ref D)))(h:IF K (.ref C) (.ref D)=KA b):IF K (.ref (cl K x)) (.ref (cl K y))=KA b:=by rw[dN a,dN c];exact h
theorem Ae{n:String}(a:IT K Ir x=KA (KA (.ref C)))(h:IF K (.ref C) (.type n)=KA b)(c:PySem.W.kitMeta n=KD):IK K (.ref (cl K x)) (.type n)=KA b:=by rw[dN a];unfold IK PySem.W.kitCls;rw[KH (by intro z;cases (beq_iff_eq.mp z))];show(if PySem.W.kitMeta n=KD then _ else _)=_;rw[KI c];exact h
theorem Dx{c:Option Addr}{d:ClassData}{f:Array (Option Hj)}(a:IT K Ir x=KA (KA (.ref C)))(g:IT K Ir y=KA (KA (.ref D)))(h:IF K (.ref C) (.ref D)=KA b)(l:K.lookup D=KA ⟨.type "type",c,.cls d,f⟩)(ne:(C==D)=KG):IK K (.ref (cl K x)) (.ref (cl K y))=KA b:=by
 rw[dN a,dN g]
 have n:(Ii C==Ii D)=KG:=by
  refine Bool.eq_false_iff.mpr fun q=>?_
  have e:C=D:=Ii.inj (beq_iff_eq.mp q)
  subst e
  simp at ne
 unfold IK PySem.W.kitCls;rw[n];unfold PySem.W.clsIn PySem.W.typeIn;simp only[l];exact h
theorem zX:IK K (.ref C) (.ref C)=KA KD:=by unfold IK;rw[KI (beq_self_eq_true _)]
theorem Ee{c:Option Addr}{d:ClassData}{e:Array (Option Hj)}(a:IT K Ir x=KA (KA (.ref C)))(h1:PySem.W.findIn K (.ref C) "__getattribute__"=KA (KA (.builtin "BaseException.__getattribute__")))(f:PySem.W.findIn K (.ref C) "__getattr__"=KA KC)(g:PySem.W.findIn K (.ref C) "__class__"=KA (KA (.builtin "object.__class__"))) (h:IF K (.ref C) (.type "BaseException")=KA KD) (i:PySem.W.mroIn K C (.type "object")=KA KD) (j:K.lookup C=KA ⟨.type "type",c,.cls d,e⟩):PU K (cl K x):=by rw[dN a];refine⟨⟨h1,f,g,h,i⟩,?_⟩;unfold PySem.W.clsIn;simp only[j,Option.isSome]
end
theorem lQ:ID "ValueError"=KA (.type "ValueError"):=by decide +kernel
section
variable{X:Cx}{KQ:List (Addr×Obj)}{σ:L2.St}{H:Hp}{s:Hk}{a:Addr}
theorem lC{o:HO}(I:Inv X KQ σ H s)(g:H a=KC)(h0:∀o,X.s₀.heap.get? a=KA o->X.H₀ a≠KC)(h:a≠X.env.locals)(i:∀x c,X.env.cells.lookup x=KA c->c≠a)(j:∀p∈X.pn++KQ,p.1≠a)(f:bG X.prog X.w (upd H a o) s.heap a o):Inv X KQ σ (upd H a o) s:=by
 have ne:∀{b:Addr} {o:HO},H b=KA o->b≠a:=fun{b o} e z=>by rw[z,g]at e;cases e
 refine⟨I.ok,I.os,I.bare,⟨I.base.keep,I.base.slot,fun b o e n k=>?_,I.base.there,fun b xs e=>?_,fun b o u e=>?_,fun b ps e=>?_⟩,I.loc,I.cell,?_,fun x c e=>?_,fun p d=>?_,fun b o e=>?_,I.len⟩
 ·by_cases z:b=a
  ·subst z;exact absurd n (h0 o e)
  ·rw[aE z];exact I.base.free b o e n k
 ·have:=I.base.tups b xs e;rw[aE (ne this)];exact this
 ·have:=I.base.frzs b o u e;rw[aE (ne this)];exact this
 ·obtain⟨more,this⟩:=I.base.tbls b ps e;exact⟨more,by rw[aE (ne this)];exact this⟩
 ·rw[aE h.symm];exact I.free
 ·rw[aE (i x c e)];exact I.freeC x c e
 ·obtain⟨e,n,r⟩:=I.pin p d;exact⟨e,by rw[aE (j p d)];exact n,r⟩
 ·by_cases z:b=a
  ·subst z;rw[aH]at e;cases e;exact f
  ·rw[aE z]at e;exact(I.hok b o e).eK (fun _ _ _ q=>q) (fun c q=>by rw[aE (ne q)];exact q) fun c xs q=>by rw[aE (ne q)];exact q
end
def two(a t1 b c d:Expr)(scope:JC)(pos:Pos):Expr:=.ListComp a [⟨t1,b,[],0⟩,⟨c,d,[],0⟩] scope pos
theorem EA(a t1 d e c:Expr)(scope:JC)(pos:Pos)(it b:Hj)(env:Env):compTurn (two a t1 d e c scope pos) 0 it b env=(do
 standAt d.pos
 match <-pyNext it with
 |none=>pure (.done .next)
 |some v=>
  Jr t1 it v
  K9 t1 env v
  let x <-eval c env
  standAt c.pos
  let x <-Ic c env x
  let _ <-runOwn (.compStart (two a t1 d e c scope pos) 1 (<-holding [x] (pyIter x)) b env) env
  again (.compLoop (two a t1 d e c scope pos) 0 it b env)):=by rfl
theorem Es(a t1 e c d:Expr)(scope:JC)(pos:Pos)(it b:Hj)(env:Env):compTurn (two a t1 e c d scope pos) 1 it b env=(do
 standAt d.pos
 match <-pyNext it with
 |none=>pure (.done .next)
 |some v=>
  Jr c it v
  K9 c env v
  (do let _ <-call (.builtin "list.append") [b,<-eval a env])
  again (.compLoop (two a t1 e c d scope pos) 1 it b env)):=by rfl
section
variable{prog:HF}{w:Ih}{A:Ij}{R:Result->Hk->Prop}{s:Hk}{elt t1 i1 t2 i2:Expr}{scope:JC}{pos:Pos}{it acc:Hj}{env:Env}
theorem D1(h0:Jo (HC prog w) A (.compLoop (two elt t1 i1 t2 i2 scope pos) 1 it acc env) R s)
 (h:Hu (HC prog w) A (pyIter it) (fun a b=>Jo (HC prog w) A (.compLoop (two elt t1 i1 t2 i2 scope pos) 1 a acc env) R b) (notedBy (HC prog w) A env fun x b=>R (.error x) b) s) :
 Jo (HC prog w) A (.compStart (two elt t1 i1 t2 i2 scope pos) 1 it acc env) R s:=by
 refine codeAny_of_tree ?_
 show Hu _ _ ((compStart (two elt t1 i1 t2 i2 scope pos) 1 it acc env).onRaise (fun x=>do noteFrame x env;standAt theWindowsPlace)) _ _ s
 refine wpAny_notedAt ?_
 unfold compStart
 show Hu _ _ (ask >>= _) _ _ s
 refine cc (wpAny_askSetting (wpAny_ite ?_))
 split
 ·first
   |exact cc (Hm (Hm (And.intro rfl h0)))
   |exact Hm (And.intro rfl h0)
 ·refine cc (wpAny_rule ?_)
  show Hu _ _ (standAt i2.pos >>= _) _ _ s
  exact cc (J5 (cc (Hx h (fun a b c=>Hm (And.intro rfl c)) fun _ _ x=>x)))
theorem Fn(J:Nat->Hk->Prop)
 (step:∀n s,J n s->Hu (HC prog w) A (pyNext it) (fun r a=>match r with
  |none=>R (.ok .next) a
  |some v=>Hu (HC prog w) A (Jr t2 it v) (fun _ b=>Hu (HC prog w) A (K9 t2 env v) (fun _ c=>
   Hu (HC prog w) A (eval elt env) (fun x d=>Hu (HC prog w) A (call (.builtin "list.append") [acc,x]) (fun _ f=>∃m,m<n/\J m f) Lf d) Lf c) Lf b) Lf a) Lf s)
 (n:Nat) (h:J n s):Jo (HC prog w) A (.compLoop (two elt t1 i1 t2 i2 scope pos) 1 it acc env) R s:=by
 have no:∀{E:Hj->Hk->Prop} e g,Lf e g->E e g:=fun _ _ z=>z.elim
 refine codeAny_loop rfl J (fun n s i=>?_) n h
 show Hu _ _ (Sem.onRaise (compTurn (two elt t1 i1 t2 i2 scope pos) 1 it acc env) (fun x=>do noteFrame x env;theTreesLotGoes x)) _ _ s
 refine wpAny_noted ?_
 rw[Es]
 refine cc (J5 (cc (Hx (step n s i) (fun r a h1=>?_) no)))
 cases r with
 |none=>exact Hm h1
 |some v=>
  refine cc (Hx h1 (fun _ b j=>cc (Hx j (fun _ c k=>?_) no)) no)
  exact cc (cc (Hx k (fun x d l=>cc (Hx l (fun _ f o=>Hm (Hm ⟨rfl,o⟩)) no)) no))
theorem EI(J:Nat->Hk->Prop)(b:∀x,Ic i2 env x=pure x)
 (step:∀n s,J n s->Hu (HC prog w) A (pyNext it) (fun r c=>match r with
  |none=>R (.ok .next) c
  |some v=>Hu (HC prog w) A (Jr t1 it v) (fun _ d=>Hu (HC prog w) A (K9 t1 env v) (fun _ g=>
   Hu (HC prog w) A (eval i2 env) (fun x i=>Hu (HC prog w) A (pyIter x) (fun a j=>Jo (HC prog w) A (.compStart (two elt t1 i1 t2 i2 scope pos) 1 a acc env) (fun r k=>match r with
    |.ok _=>∃m,m<n/\J m k
    |.error e=>False) j) Lf i) Lf g) Lf d) Lf c) Lf s)
 (n:Nat) (h:J n s):Jo (HC prog w) A (.compLoop (two elt t1 i1 t2 i2 scope pos) 0 it acc env) R s:=by
 have no:∀{E:Hj->Hk->Prop} e l,Lf e l->E e l:=fun _ _ z=>z.elim
 refine codeAny_loop rfl J (fun n s p=>?_) n h
 show Hu _ _ (Sem.onRaise (compTurn (two elt t1 i1 t2 i2 scope pos) 0 it acc env) (fun x=>do noteFrame x env;theTreesLotGoes x)) _ _ s
 refine wpAny_noted ?_
 rw[EA]
 refine cc (J5 (cc (Hx (step n s p) (fun r c h1=>?_) no)))
 cases r with
 |none=>exact Hm h1
 |some v=>
  refine cc (Hx h1 (fun _ d q=>cc (Hx q (fun _ g t=>cc (Hx t (fun x i u=>?_) no)) no)) no)
  refine cc (J5 ?_)
  rw[b]
  refine cc (Hm ?_)
  refine cc (J4 (Hx u (fun a j y=>?_) no))
  refine cc (wpAny_runOwn (codeAny_mono y (fun r k o=>?_)))
  cases r with
  |ok f=>exact Hm ⟨rfl,o⟩
  |error e=>exact o.elim
end
def Ej(js:List Nat)(wi2:TI)(te:TE)(σ:L2.St)(J:It)(H1:Hp)(Q:VK):Prop:=∀D,H1 D=KC->∃W:Nat->Nat->Hp->Prop,(∃m,W 0 m (upd H1 D (.lst [])))/\∀i m H,W i m H->
 (J.stop i H/\Q (.ref D) H)\/(J.go i H/\∀y c,J.yld i H y c->∀o,wi2 (cσ [KA y,o] js σ) c fun b h=>∃U:Nat->Nat->Hp->Prop,(∃n,U 0 n h)/\∀j n a,U j n a->
  (b.stop j a/\∃d,d<m/\W (i+1) d a)\/(b.go j a/\∀z e,b.yld j a z e->te (cσ [KA y,KA z] js σ) e fun v f=>∃xs,f D=KA (.lst xs)/\xs.length<Hy/\∃g,g<n/\U (j+1) g (upd f D (.lst (xs++[v])))))
def Bt(js:List Nat)(a wi2:TI)(te:TE):TE:=fun σ H Q=>a σ H fun J H1=>Ej js wi2 te σ J H1 Q
section
variable{X:Cx}{x y:Str}{px py pos:Pos}{js:List Nat}{scope:JC}{elt i1 i2:Expr}{te:TE}{wi wi2:TI}{KQ:List (Addr×Obj)}{σ:L2.St}{H:Hp}{s:Hk}{fp:List Addr}{it:Addr}{tn:Nat->Heap->Prop}{J:It}
theorem AF(c:Kw X [x,y] js scope)(hc:X.calm=KD)(n1:∀C s H fp,PI (LJ X [x,y] js scope C s H fp) (.Name y py) i2 wi2)(p1:∀(env:Env) x,Ic i2 env x=pure x)(he:∀C s H fp,PE (LJ X [x,y] js scope C s H fp) elt te)
 {R:Hj->Addr->Result->Hk->Prop} {E:Hj->Hk->Prop} {Q:VK}
 (I:Inv X KQ σ H s) (T:Turn X.prog X.w X.K (.Name x px) J fp it tn) (st:tn 0 s.heap) (hf:∀b∈fp,cL X KQ H b) (wc:Ej js wi2 te σ J H Q)
 (hR:∀D C f F,Inv X KQ σ f F->cL X KQ f C->(∃m,F.heap.Ns C m)->Q (.ref D) f->R (.ref D) C (.ok .next) F) :
 Hu (HC X.prog X.w) X.A (newList []) (fun s0 t0=>Hu (HC X.prog X.w) X.A (newFunctionEnv scope X.env.globals (d7 scope.names X.env) [] X.env.qual KC .none (KA X.env)) (fun N v0=>
  Jo (HC X.prog X.w) X.A (.compStart (two elt (.Name x px) i1 (.Name y py) i2 scope pos) 0 (.ref it) s0 { N with scope:=relabel scope X.env }) (R s0 N.locals) v0) E t0) E s:=by
 have q1:∀C s H fp,PG (LJ X [x,y] js scope C s H fp) (.Name x px) (e9 0):=fun _ _ _ _=>gC c 0 rfl
 have r1:∀C s H fp,PG (LJ X [x,y] js scope C s H fp) (.Name y py) (e9 1):=fun _ _ _ _=>gC c 1 rfl
 have x0:∀b∈fp,b<s.heap.objs.size:=fun b a=>let⟨o,e,_⟩:=T.obj 0 _ st b a;Hz e
 have hD:H s.heap.objs.size=KC:=I.hok.fresh (Hq _)
 refine IS (nR ?_)
 generalize hh:s.heap.push { cls:=.type "list",dict:=KC,data:=.seq ([]:List Hj).toArray }=g
 generalize y0:pushCells (({ s with heap:=g }:Hk).heap.push { cls:=.type "dict",data:=.dict #[] }) scope.names=h
 have k3:∀b o,s.heap.get? b=KA o->g.get? b=KA o:=fun b o e=>by rw[<-hh];exact Ho _ e
 have I3:Inv X KQ σ (upd H s.heap.objs.size (.lst [])) { s with heap:=g }:=by
  refine I.laid (t':=s.toks) k3 (Hq _) ?_
  refine⟨Jl _,[],0,.nil,?_⟩
  rw[<-hh]
  exact HG _ rfl
 have k:∀b∈fp,cL X KQ (upd H s.heap.objs.size (.lst [])) b:=fun b a=>⟨by rw[aE (Im (x0 b a))];exact(hf b a).1,(hf b a).2⟩
 have s1:g.objs.size=s.heap.objs.size+1:=by rw[<-hh,Jf]
 have z0:∀b∈fp,b<g.objs.size:=fun b a=>by rw[s1];exact Nat.lt_succ_of_lt (x0 b a)
 have k4:∀b o,g.get? b=KA o->h.get? b=KA o:=fun b o e=>by rw[<-y0];exact pushCells_keeps _ _ b o (Ho _ e)
 have I4:=j8 c I3 k z0 (h':=h) y0.symm k4
 obtain⟨W,⟨m0,w0⟩,b1⟩:=wc _ hD
 have NZ:tn 0 h:=T.keep 0 _ _ st fun b a o e=>k4 b o (k3 b o e)
 generalize hX:LJ X [x,y] js scope g.objs.size { s with heap:=g } (upd H s.heap.objs.size (.lst [])) fp=X' at I4
 have S:∀{pins':List (Addr×Obj)} {f:Hp} {l:L2.St} {F:Hk},Inv X' [] l f F->(∀b∈fp,f b=KC)->∀b∈fp,cL X' [] f b:=fun{pins' f l F} J' hn b a=>by
  subst hX
  obtain⟨a1,a2⟩:=J'.ok.exf b a
  exact⟨hn b a,a1,J'.ok.exfs b a,.inl a,a2,fun p hp=>absurd (show p∈([]:List (Addr×Obj))from hp) (by simp)⟩
 have O:Jo (HC X.prog X.w) X.A (.compLoop (two elt (.Name x px) i1 (.Name y py) i2 scope pos) 0 (.ref it) (.ref s.heap.objs.size) (jA scope g.objs.size X.env)) (R (.ref s.heap.objs.size) g.objs.size)
  { s with heap:=h }:=by
  refine EI (fun n F=>∃i os f,os.length=2/\Inv X' [] (cσ os js σ) f F/\tn i F.heap/\(∀b∈fp,f b=KC)/\W i n f) (fun x=>p1 _ x) ?_ m0 ⟨0,_,_,by simp,I4,NZ,fun b a=>(k b a).1,w0⟩
  rintro n s5 ⟨i,os,H5,t1,I5,Mr,c1,w5⟩
  rcases b1 i n H5 w5 with⟨stop,q⟩|⟨go,step⟩
  ·subst hX
   refine Hx (T.done (LJ X [x,y] js scope g.objs.size { s with heap:=g } (upd H s.heap.objs.size (.lst [])) fp) rfl rfl rfl hc i [] s5 _ H5 Lf I5 (S (pins':=[]) I5 c1) Mr stop) (fun r s6 z6=>?_) fun _ _ z=>z
   obtain⟨Y,I6⟩:=z6
   subst Y
   refine hR _ _ H5 s6 (I3.pB I6.os I6.base I6.hok I6.bare fun b a=>⟨(k b a).2.2.2.1,(k b a).2.1,(k b a).2.2.2.2.1,(k b a).2.2.2.2.2⟩) (I3.qY (Hq _) I6.free) (let⟨m,hm,_⟩:=I6.loc;⟨m,hm⟩) q
  ·subst hX
   refine Hx (T.item (LJ X [x,y] js scope g.objs.size { s with heap:=g } (upd H s.heap.objs.size (.lst [])) fp) rfl rfl rfl hc i [] s5 _ H5 Lf I5 (S (pins':=[]) I5 c1) Mr go) (fun r s6 z6=>?_) fun _ _ z=>z
   obtain⟨u,Y,h6⟩:=z6
   subst Y
   refine Hx h6 (fun _ s7 z7=>?_) fun _ _ z=>z
   obtain⟨yv,H7,I7,r7,y7,Mu,u1⟩:=z7
   have v1:=I7.pinned (S (pins':=[]) I7 u1) (T.obj _ _ Mu)
   obtain⟨o0,o1,rfl⟩:∃o0 o1,os=[o0,o1]:=by
    exact rh t1
   refine Hx (q1 _ _ _ _ _ s7 _ H7 yv u (fun l f=>l=cσ [KA yv,o1] js σ/\f=H7) v1 r7 ⟨rfl,rfl⟩) (fun _ s8 Z=>?_) fun _ _ z=>z
   obtain⟨i3,H8,I8,e8,w1⟩:=Z
   subst e8 w1
   have back:∀{m':Nat} {o2:Option V} {t:Hp} {B:Hk},Inv (LJ X [x,y] js scope g.objs.size { s with heap:=g } (upd H s.heap.objs.size (.lst [])) fp) ([]++fo fp s7.heap) (cσ [KA yv,o2] js σ) t B->m'<n->W (i+1) m' t->
    ∃m,m<n/\∃i os f,os.length=2/\Inv (LJ X [x,y] js scope g.objs.size { s with heap:=g } (upd H s.heap.objs.size (.lst [])) fp) [] (cσ os js σ) f B/\tn i B.heap/\(∀b∈fp,f b=KC)/\W i m f:=fun{m' o2 t B} G a0 x1=>by
    refine⟨m',a0,i+1,_,t,rfl,G.dA,T.keep _ _ _ Mu fun b a o e=>(G.pin (b,o) (HK _ (HK _ (bz a e)))).1,fun b a=>?_,x1⟩
    obtain⟨o',e,d⟩:=T.obj _ _ Mu b a
    exact(G.pin (b,o') (HK _ (HK _ (bz a e)))).2.1
   refine Hx (n1 _ _ _ _ _ s8 _ _ _ I8 (step yv H8 y7 o1)) (fun v2 s9 h9=>Hx h9 (fun m3 B y1=>?_) fun _ _ z=>z) fun _ _ z=>z
   obtain⟨z1,b2,c2,J2,t,d2,G,T2,Mw,M,U,⟨n0,u0⟩,b0⟩:=y1
   subst d2
   have L:Jo (HC X.prog X.w) X.A (.compLoop (two elt (.Name x px) i1 (.Name y py) i2 scope pos) 1 (.ref z1) (.ref s.heap.objs.size) (jA scope g.objs.size X.env)) (fun r s6=>match r with
    |.ok _=>∃m,m<n/\∃i os f,os.length=2/\Inv (LJ X [x,y] js scope g.objs.size { s with heap:=g } (upd H s.heap.objs.size (.lst [])) fp) [] (cσ os js σ) f s6/\tn i s6.heap/\(∀b∈fp,f b=KC)/\W i m f
    |.error e=>False) B:=by
    refine Fn (fun n2 F=>∃j o2 f,Inv (LJ X [x,y] js scope g.objs.size { s with heap:=g } (upd H s.heap.objs.size (.lst [])) fp) ([]++fo fp s7.heap) (cσ [KA yv,o2] js σ) f F/\c2 j F.heap/\(∀b∈b2,f b=KC)/\U j n2 f) ?_ n0 ⟨0,o1,t,G,Mw,fun b a=>(M b a).1,u0⟩
    rintro n2 d1 ⟨j,o2,c0,e1,Mv,P,e2⟩
    rcases b0 j n2 c0 e2 with⟨d0,m',a0,w'⟩|⟨f2,e0⟩
    ·refine Hx (T2.done (LJ X [x,y] js scope g.objs.size { s with heap:=g } (upd H s.heap.objs.size (.lst [])) fp) rfl rfl rfl hc j _ d1 _ c0 Lf e1 (fun b a=>⟨P b a,(M b a).2⟩) Mv d0) (fun r g2 f0=>?_) fun _ _ z=>z
     obtain⟨Y,h2⟩:=f0
     subst Y
     exact back h2 a0 w'
    ·refine Hx (T2.item (LJ X [x,y] js scope g.objs.size { s with heap:=g } (upd H s.heap.objs.size (.lst [])) fp) rfl rfl rfl hc j _ d1 _ c0 Lf e1 (fun b a=>⟨P b a,(M b a).2⟩) Mv f2) (fun r g2 g0=>?_) fun _ _ z=>z
     obtain⟨u2,Y,j2⟩:=g0
     subst Y
     refine Hx j2 (fun _ k2 h0=>?_) fun _ _ z=>z
     obtain⟨zv,f1,m2,p2,q2,Mg,g1⟩:=h0
     have h1:=m2.pinned (fun b a=>⟨g1 b a,(M b a).2⟩) (T2.obj _ _ Mg)
     refine Hx (r1 _ _ _ _ _ k2 _ f1 zv u2 (fun l f=>l=cσ [KA yv,KA zv] js σ/\f=f1) h1 p2 ⟨rfl,rfl⟩) (fun _ r2 i0=>?_) fun _ _ z=>z
     obtain⟨g3,s2,t2,w2,j1⟩:=i0
     subst w2 j1
     refine Hx (he _ _ _ _ _ r2 _ _ _ t2 (e0 zv s2 q2)) (fun v x2 j0=>?_) fun _ _ z=>z
     obtain⟨vv,y2,z2,a3,ys,k1,m1,b3⟩:=j0
     refine Hx (iZ (X:=(LJ X [x,y] js scope g.objs.size { s with heap:=g } (upd H s.heap.objs.size (.lst [])) fp)) _ x2 _ y2 (.ref s.heap.objs.size) [vv] (.ref s.heap.objs.size) [v] (fun _ f=>∃n',n'<n2/\U (j+1) n' f) z2 rfl (.cons a3 .nil) ⟨_,ys,vv,rfl,rfl,k1,m1,b3⟩) (fun _ n3 k0=>?_) fun _ _ z=>z
     obtain⟨_,c3,r0,_,n',e3,f3⟩:=k0
     refine⟨n',e3,j+1,_,c3,r0.dA,T2.keep _ _ _ Mg fun b a o e=>(r0.pin (b,o) (HK _ (HK _ (bz a e)))).1,fun b a=>?_,f3⟩
     obtain⟨o',e,d⟩:=T2.obj _ _ Mg b a
     exact(r0.pin (b,o') (HK _ (HK _ (bz a e)))).2.1
   exact D1 L (T2.self X.A 0 _ _ _ Mw L)
 exact codeAny_compStart_list O (T.self X.A 0 _ _ _ NZ O)
theorem BG(c:Kw X [x,y] js scope)(l:X.calm=KD)(n:PI X (.Name x px) i1 wi)(g:∀C s H fp,PI (LJ X [x,y] js scope C s H fp) (.Name y py) i2 wi2)(p:∀C s H fp,PE (LJ X [x,y] js scope C s H fp) elt te) (r:∀x,Ic i1 X.env x=pure x:=by intro _;rfl) (i:∀(env:Env) x,Ic i2 env x=pure x:=by intro _ _;rfl) : PE X (two elt (.Name x px) i1 (.Name y py) i2 scope pos) (Bt js wi wi2 te):=by intro KQ s σ H Q I h;unfold two;rw[eval_ListComp];refine wpAny_comprehension_free (use:=KC) rfl r (c.zD I.ok) c.kind c.names (LA (n KQ s σ H _ I h) fun v K h1=>LA h1 fun t L a=>?_);obtain⟨it,fp,tn,J,M,e,u,T,st,z,w⟩:=a;subst e;refine AF (R:=fun j C=>compPost (HC X.prog X.w) X.A X.xe KC (EP X KQ σ Q) j C) c l g i p u T st z w fun D C B E F f d q=>?_;obtain⟨m,G⟩:=d;exact⟨m,G,fun N k=>⟨.ref D,B,F.turned (t':=E.toks) (fun b o ne e=>k.extBut b o ne e) f.1 f.2.1 f.2.2.2.1 f.2.2.2.2.1 f.2.2.2.2.2,rfl,q⟩⟩
end
def FY(I:Oq)(js:List Nat)(h:MW)(te:TD)(δ:DS)(g:MH)(Q:DK):Prop:=I.n<=1000/\∀p,g p=KC->∃W:Nat->List D->MH->Prop,W 0 [] (ar g p (.lst []))/\(∀i b M,i<=I.n->W i b M->I.C M)/\
 (∀i b d M,i<I.n->I.item i=KA d->W i b M->h (cδ [KA d,KC] js δ) M fun c k=>c.n<=1000/\∃U:Nat->List D->MH->Prop,U 0 b k/\(∀j a M,j<=c.n->U j a M->c.C M)/\
  (∀j a e M,j<c.n->c.item j=KA e->U j a M->te (cδ [KA d,KA e] js δ) M fun v l=>∃f,Sub f l/\f p=KA (.lst a)/\U (j+1) (a++[v]) (ar f p (.lst (a++[v]))))/\∀a M,U c.n a M->W (i+1) a M)/\∀b M,W I.n b M->Q (.ref p) M
def Bo(a:MW)(js:List Nat)(b:MW)(te:TD):TD:=fun δ M Q=>a δ M fun I c=>FY I js b te δ c Q
theorem rb{K:H0}{H:Hp}{d:D}{v:V}(o:Option V)(r:Rep K H d v):Slots K H [KA d,KC] [KA v,o]:=by
 refine⟨rfl,fun i e h=>?_⟩
 match i,h with
 |0,h=>cases h;exact⟨v,rfl,r⟩
 |1,h=>cases h
theorem qF{K:H0}{H:Hp}{d e:D}{v u:V}(r:Rep K H d v)(q:Rep K H e u):Slots K H [KA d,KA e] [KA v,KA u]:=ip (.cons r (.cons q .nil))
theorem vS{K:H0}{wd KY:MW}{js:List Nat}{te:TD}{σ:L2.St}{H:Hp}{Q:VK}(h:lift K (Bo wd js KY te) σ H Q):Bt js (k9 K wd) (k9 K KY) (lift K te) σ H Q:=by
 obtain⟨δ,M,R,L,hM,q,N⟩:=h;refine⟨δ,M,_,L,hM,q,fun I M1 H1 J g1 a1 O P p S=>?_⟩;obtain⟨hn,O⟩:=O;obtain⟨W,w0,hC,C,done⟩:=O p (a1.fresh S);refine⟨fun i m t=>m=I.n-i/\i<=I.n/\Ky K H1 t/\∃w M,w.length<=i*1000/\LG K t M/\W i w M,⟨I.n,by simp,Jl _,.new S,[],_,Jl _,a1.lJ S .nil,w0⟩,?_⟩;rintro i m t ⟨rfl,T,f,w,x,hl,F,D⟩;by_cases a:i<I.n
 ·refine .inr ⟨P.go i t x a f F (hC _ _ _ T D),fun v H3 hy o=>?_⟩;obtain⟨V,a3,d,ed,rd⟩:=P.yld i t x v H3 a f F (hC _ _ _ T D) hy;have q3:=C i w d x a ed D;refine⟨cδ [KA d,KC] js δ,x,_,jH (js:=js) (L.mono ((g1.trans f).trans V)) (rb o rd),a3,q3,fun y M4 H4 J2 X a4 Y g=>?_⟩;obtain⟨b0,U,u0,k,l,r⟩:=Y;refine⟨fun j n z=>n=y.n-j/\j<=y.n/\Ky K H4 z/\∃A M,A.length<=i*1000+j/\LG K z M/\U j A M,⟨y.n,by simp,Jl _,.refl,w,M4,(),a4,u0⟩,?_⟩;rintro j n z ⟨rfl,Z,s,A,B,c0,G,E⟩;by_cases b:j<y.n
  ·refine .inr ⟨g.go j z B b s G (k _ _ _ Z E),fun u H6 a0=>?_⟩;obtain⟨g6,a6,e,ee,re⟩:=g.yld j z B u H6 b s G (k _ _ _ Z E) a0;have s6:=jH (js:=js) (L.mono (((((g1.trans f).trans V).trans X).trans s).trans g6)) (qF (rd.mono ((X.trans s).trans g6)) re);refine⟨cδ [KA d,KA e] js δ,B,_,s6,a6,l j A e B b ee E,fun vv M' uu H7 g7 r7 a7 c=>?_⟩;obtain⟨M8,s8,e8,w8⟩:=c;obtain⟨ts,hx,rs⟩:=(a7.sub s8) _ _ e8;refine⟨ts,hx,?_,y.n-(j+1),(),rfl,b,((s.trans g6).trans g7).trans (.lst hx),A++[vv],_,by simp;omega,(a7.sub s8).xy hx (rs.append (.cons r7 .nil)),w8⟩;rw[<-rs.length];have sz:1000000<=Hy:=LB rfl;omega
  ·obtain rfl:j=y.n:=()
   exact .inl ⟨g.stop z B s G (k _ _ _ Z E),I.n-(i+1),(),rfl,a,((f.trans V).trans X).trans s,A,B,(),G,r _ _ E⟩
 ·obtain rfl:i=I.n:=()
  exact .inl ⟨P.stop t x f F (hC _ _ _ T D),N _ _ _ _ (g1.trans f) (by rw[Rep]) F (done w x D)⟩
section
variable{X:Cx}{x y:Str}{px py pos:Pos}{js:List Nat}{scope:JC}{elt i1 i2:Expr}{te:TD}{wd KY:MW}
theorem wV(c:Kw X [x,y] js scope)(d:X.calm=KD)(e:DI X (.Name x px) i1 wd)(a:∀C s H fp,DI (LJ X [x,y] js scope C s H fp) (.Name y py) i2 KY)(f:∀C s H fp,DE (LJ X [x,y] js scope C s H fp) elt te) (g:∀x,Ic i1 X.env x=pure x:=by intro _;rfl) (b:∀(env:Env) x,Ic i2 env x=pure x:=by intro _ _;rfl) : DE X (.ListComp elt [⟨.Name x px,i1,[],0⟩,⟨.Name y py,i2,[],0⟩] scope pos) (Bo wd js KY te):=aV (BG (te:=lift X.K te) (wi2:=k9 X.K KY) c d e a f g b) fun _ _ _ h=>vS h
end
section
variable{X:Cx}
def GJ:RC:=fun a M Q=>match a with
 |[.ref l]=>∃ns:List Int,M l=KA (.lst (ns.map D.int))/\Q (.int ns.sum) M
 |_=>False
theorem jl(ns:List Int):∀j,j<=ns.length->preSum (fun i=>(ns[i]?).getD 0) j=(ns.take j).sum
 |0,_=>by simp[preSum]
 |j+1,h=>by
  rw[preSum,jl ns j (),J3,List.sum_append]
  have:j<ns.length:=()
  simp[this]
theorem tV(m:X.calm=KD):bY X (.builtin "sum") (fun xs H Q=>∃(p:Addr) (ns:List Int),xs=[.ref p]/\LR X.K H p (ns.map V.int)/\Q (.int ns.sum) H):=by
 intro KQ s σ H xs us Q I r o;obtain⟨l,ns,e,w,k⟩:=o;subst e;obtain⟨u,rfl,y⟩:=vals1 r;cases y;obtain⟨a,g,z,_⟩:=I.list w;have d:=z.isList;have c:a.length=ns.length:=by rw[<-g.length,Hn]
 have lt:l≠s.heap.objs.size:=Im (let⟨_,e,_⟩:=d;Hz e);refine call_sum_walkG (x:=.ref l) (wpAny_pyIter_list d ⟨s.heap.objs.size,[s.heap.objs.size,l],[s.heap.objs.size],a.toArray.size,_,_,fun i=>(ns[i]?).getD 0,rfl,Walks.list (A:=X.A.in1) (I.ok.hd m) _ l lt a.toArray,⟨⟨_,HG _ rfl,rfl,rfl⟩,d.push _⟩,?_,fun i v B=>?_,fun G J L C=>?_⟩)
 ·intro b j;simp at j;rcases j with rfl|rfl
  ·show _<(s.heap.push _).objs.size;rw[Jf];omega
  ·show _<(s.heap.push _).objs.size;rw[Jf];exact Nat.lt_succ_of_lt (let⟨_,e,_⟩:=d;Hz e)
 ·have f:a[i]?=KA v:=by simpa using B
  have D:=intsAre_of g
  obtain⟨n,E,q⟩:∃n,ns[i]?=KA n/\∃t,v=Value.int n t:=by
   have key:∀{us:List Hj} {ns:List Int},JF us ns->∀(i:Nat) (v:Hj),us[i]?=KA v->∃n,ns[i]?=KA n/\∃t,v=Value.int n t:=by
    intro us ns h
    induction h with
    |nil=>intro i v e;simp at e
    |cons n t h F=>
     intro i v e
     cases i with
     |zero=>simp at e;exact⟨n,rfl,t,e.symm⟩
     |succ i=>exact F i v (by simpa using e)
   exact key D i v f
  obtain⟨t,rfl⟩:=q;exact⟨t,by simp[E]⟩
 ·rw[show preSum (fun i=>(ns[i]?).getD 0) a.toArray.size=ns.sum by rw[HI,c,jl ns _ (Hq _),List.take_length]];exact⟨.int ns.sum,H,I.kept (LSm.kept_iter C),⟨_,rfl⟩,k⟩
theorem yf(g:X.calm=KD):cW X (.builtin "sum") GJ:=b6 (tV g) fun vs H Q ⟨b,M,R,h,a,q,c⟩=>by
 rcases b with _|⟨d,b⟩
 ·exact HS q
 cases d<;>rcases b with _|⟨e,b⟩<;>try exact HS q
 ·obtain⟨ns,e,q⟩:=q;obtain⟨v,rfl,r⟩:=b8 h;rw[Rep]at r;subst r;obtain⟨xs,f,i⟩:=a _ _ e;rw[dP i]at f;exact⟨_,ns,rfl,LR.of f,c _ _ _ _ .refl (by rw[Rep]) a q⟩
theorem yy:ID "sum"=KA (.builtin "sum"):=boot_sum
end
abbrev LV:=Int×Int×Int×Int
section
variable{P:HF}{w:Ih}
def qa(P:HF)(w:Ih)(h:Heap)(n d:Int)(a:Addr):Prop:=IsTupleKey (intKind P w) h [n,d] a
def ft(P:HF)(w:Ih)(h:Heap)(k:LV)(a:Addr):Prop:=∃o b c m,h.get? a=KA o/\o.cls=.type "tuple"/\o.data=.seq #[.ref b,.ref c] m/\qa P w h k.1 k.2.1 b/\qa P w h k.2.2.1 k.2.2.2 c
theorem ft.inj{h:Heap}{a:Addr}{x y:LV}(p:ft P w h x a)(q:ft P w h y a):x=y:=by
 obtain⟨o,b,c,m,h1,t,i,j,k⟩:=p;obtain⟨u,l,n,v,g1,z,d,r,s⟩:=q;rw[h1]at g1;cases g1;rw[i]at d;injection d with e _;have e1:b=l/\c=n:=by simpa using e
 obtain⟨rfl,rfl⟩:=e1;have f:=IsTupleKey.inj j r;have g:=IsTupleKey.inj k s;obtain⟨x1,A,B,C⟩:=x;obtain⟨y1,D,E,F⟩:=y;simp at f g;obtain⟨rfl,rfl⟩:=f;obtain⟨rfl,rfl⟩:=g;rfl
theorem ft.keeps{h h':Heap}{k:LV}{a d:Addr}{o:Obj}{es:Array IL}{ep:Nat}(p:ft P w h k a)(hd:h.get? d=KA o)(e:o.data=.dict es ep)(f:K0 d h h'):ft P w h' k a:=by
 obtain⟨i,b,c,m,h1,j,g,l,n⟩:=p;have ne:a≠d:=fun z=>by rw[z,hd]at h1;cases h1;rw[e]at g;cases g
 exact⟨i,b,c,m,(f.2 a ne).trans h1,j,g,IsTupleKey.keeps l hd e f,IsTupleKey.keeps n hd e f⟩
def xS(P:HF)(w:Ih)(k:LV):Int:=reduceHash (Builtin.Tuple.tupleHashOf [tupleKeyHash (intKind P w) [k.1,k.2.1],tupleKeyHash (intKind P w) [k.2.2.1,k.2.2.2]])
theorem ft.hash{A:Ij}{E:Hj->Hk->Prop}{s:Hk}{k:LV}{a:Addr}{Q:Int->Hk->Prop}(j:A.units+4<IZ)(p:ft P w s.heap k a)(q:Q (xS P w k) { s with toks:=s.toks+7 }):Hu (HC P w) A (pyHash (.ref a)) Q E s:=by
 obtain⟨o,b,c,m,h1,e,f,h,i⟩:=p;obtain⟨l,g,d,n,os⟩:=s;show Hu _ _ (pyHashByItsType (.ref a)) _ _ _;refine PySem.W.pyHash_slot (T:="tuple") ⟨o,h1,e⟩ F.slot_tuple_hash F.entry_tuple_hash (F.args_tuple_hash_1 _) rfl (.inr ()) ?_;unfold K8.«tuple.__hash__»;simp only[<-Array.forIn_toList]
 iterate 4 wp_step
 refine Hm ?_;refine cc (wpAny_tupleItemsOf h1 f ?_);refine cc ?_;simp only[List.forIn_cons,List.forIn_nil,pure_bind,bind_assoc];refine cc (wpAny_pyHash_tuple (knd:=intKind P w) (by show A.units+1<IZ;omega) h ?_);refine cc (wpAny_pyHash_tuple (knd:=intKind P w) (by show A.units+1<IZ;omega) i ?_);refine Hm ?_;unfold retInt
 wp_walk
 exact⟨_,_,rfl,q⟩
theorem gN{n:Int}{v:Hj}(h:(intKind P w).is n v=KD):∃t,v=.int n t:=by
 have h:Value.isInt n v=KD:=h;cases v with
 |int i t=>
  have:(i==n)=KD:=h
  exact⟨t,by rw[eq_of_beq this]⟩
 |_=>cases h
def zW(n d:Int):JW:=.tuple [.int n,.int d]
def oo(k:LV):JW:=.tuple [zW k.1 k.2.1,zW k.2.2.1 k.2.2.2]
theorem qa.reads{h:Heap}{n d:Int}{a:Addr}(p:qa P w h n d a):∃e,Reads h (.ref a) (zW n d) e:=by
 obtain⟨o,b,m,h1,f,g,c⟩:=p;generalize i:b.toList=l at c;cases c with
 |cons j r=>
  cases r with
  |cons k r=>
   cases r
   obtain⟨t1,rfl⟩:=gN j
   obtain⟨q,rfl⟩:=gN k
   exact⟨_,.tuple h1 f g (by rw[i];exact .cons (.int _ _) (.cons (.int _ _) .nil))⟩
theorem ft.reads{h:Heap}{k:LV}{a:Addr}(p:ft P w h k a):∃d,Reads h (.ref a) (oo k) d:=by obtain⟨o,b,c,m,h1,e,f,g,i⟩:=p;obtain⟨d,j⟩:=g.reads;obtain⟨bs,l⟩:=i.reads;exact⟨_,.tuple h1 e f (.cons j (.cons l .nil))⟩
theorem vU(x y:LV):(oo x).eqv (oo y)=decide (x=y):=by obtain⟨x1,a,b,c⟩:=x;obtain⟨y1,d,e,f⟩:=y;simp only[oo,zW,IM,Jd,Bool.and_true];rw[Bool.eq_iff_iff];simp[and_assoc]
theorem ft.eq{A:Ij}{E:Hj->Hk->Prop}{s:Hk}{x y:LV}{a b:Addr}{Q:Bool->Hk->Prop}(g:A.units+4<IZ)(p:ft P w s.heap x a)(c:ft P w s.heap y b)(q:Q (decide (x=y)) s):Hu (HC P w) A (eqBool (.ref a) (.ref b)) Q E s:=by obtain⟨d,e⟩:=p.reads;obtain⟨bs,f⟩:=c.reads;have hd:min (oo x).depth (oo y).depth<=3:=IA (Nat.min_le_left _ _) (LB rfl);have:=SeqAt.eqAt_reads (oo x) (oo y) A s (.ref a) (.ref b) d bs e f rfl rfl ();rw[vU]at this;exact this P w E Q q
theorem qa.quiet{A:Ij}{E:Hj->Hk->Prop}{s:Hk}{n d:Int}{a:Addr}{Q:Bool->Hk->Prop}(i:Nat)(p:qa P w s.heap n d a)(q:Q KD s):Hu (HC P w) A (eqIsQuiet (i+1) (.ref a)) Q E s:=by
 obtain⟨o,b,m,h1,c,f,e⟩:=p;rw[eqIsQuiet.eq_2];refine cc (wpAny_specialOf ⟨o,h1,c⟩ F.slot_tuple_eq.lookup ?_);refine cc (wpAny_isInstance ⟨o,h1,c⟩ isSubtype_tuple_tuple ?_);simp only[Bool.not_true,IW,if_false];refine cc (wpAny_seqItems h1 f ?_);simp only[Jx,<-Array.forIn_toList];generalize k:b.toList=l at e;cases e with
 |cons g r=>
  cases r with
  |cons h r=>
   cases r
   obtain⟨t1,rfl⟩:=gN g
   obtain⟨j,rfl⟩:=gN h
   refine cc ?_
   simp only[List.forIn_cons,List.forIn_nil,pure_bind,bind_assoc,eqIsQuiet_byValue i (show carriedByValue (.int n t1)=KD from rfl),eqIsQuiet_byValue i (show carriedByValue (.int d j)=KD from rfl),Bool.not_true,IW,if_false]
   refine Hm ?_
   exact Hm q
theorem ft.quiet{A:Ij}{E:Hj->Hk->Prop}{s:Hk}{k:LV}{a:Addr}{Q:Bool->Hk->Prop}(p:ft P w s.heap k a)(q:Q KD s):Hu (HC P w) A (eqIsQuiet 8 (.ref a)) Q E s:=by obtain⟨o,b,c,m,h1,d,e,f,g⟩:=p;rw[eqIsQuiet.eq_2];refine cc (wpAny_specialOf ⟨o,h1,d⟩ F.slot_tuple_eq.lookup ?_);refine cc (wpAny_isInstance ⟨o,h1,d⟩ isSubtype_tuple_tuple ?_);simp only[Bool.not_true,IW,if_false];refine cc (wpAny_seqItems h1 e ?_);simp only[Jx,<-Array.forIn_toList];refine cc ?_;simp only[List.forIn_cons,List.forIn_nil,pure_bind,bind_assoc];refine cc (f.quiet 6 ?_);simp only[Bool.not_true,IW,if_false,pure_bind];refine cc (g.quiet 6 ?_);simp only[Bool.not_true,IW,if_false,pure_bind];refine Hm ?_;exact Hm q
def eD(P:HF)(w:Ih):HeapKind P w LV where
 is:=ft P w
 hash:=xS P w
 draws:=fun _=>7
 room:=fun A=>A.units+4<IZ
 inj:=fun p q=>p.inj q
 keeps:=fun p hd b c=>p.keeps hd b c
 pyHash:=fun a p q=>p.hash a q
 eqBool:=fun a p d q=>p.eq a d q
 quiet:=fun p q=>p.quiet q
end
section
variable{X:Cx}{KQ:List (Addr×Obj)}{σ:L2.St}{H:Hp}{s:Hk}{a b:Addr}{k:LV}
def dh(K:H0)(H:Hp)(b:Addr)(k:LV):Prop:=∃f g,LU K H b [.ref f,.ref g]/\LU K H f [.int k.1,.int k.2.1]/\LU K H g [.int k.2.2.1,.int k.2.2.2]
theorem BD{n d:Int}{f:Addr}(I:L2.Inv X KQ σ H s)(h:LU X.K H f [.int n,.int d]):qa X.prog X.w s.heap n d f:=by
 obtain⟨c,r,e,_⟩:=I.tuple h;cases r with
 |cons g r=>cases r with
  |cons i r=>
   cases r
   obtain⟨t1,rfl⟩:=g
   obtain⟨p,rfl⟩:=i
   obtain⟨o,h1,j,m,l⟩:=e
   exact⟨o,_,m,h1,j,l,.cons (by show((n==n)=KD);simp) (.cons (by show((d==d)=KD);simp) .nil)⟩
theorem sG(I:L2.Inv X KQ σ H s)(h:dh X.K H b k):ft X.prog X.w s.heap k b:=by
 obtain⟨f,g,h1,c,d⟩:=h;obtain⟨e,r,i,_⟩:=I.tuple h1;cases r with
 |cons j r=>cases r with
  |cons l r=>
   cases r
   cases j
   cases l
   obtain⟨o,n,p,m,q⟩:=i
   exact⟨o,f,g,m,n,p,q,BD I c,BD I d⟩
abbrev Lq:=LV×Addr×V
def b4(P:HF)(w:Ih)(a:Addr)(xs:List Lq):Heap->Prop:=fun h=>(a==Jj)=KG/\xs.length<=Hy/\(xs.map (·.1)).Nodup/\∃c:List (LV×Addr×Hj),
 Kb (fun(p:Lq) (q:LV×Addr×Hj)=>p.1=q.1/\p.2.1=q.2.1/\RelV p.2.2 q.2.2) xs c/\∃o d e,h.get? a=KA o/\o.ExactDict/\o.data=.dict d e/\d.toList=c.map (entryOfKey (eD P w))
def gm(xs:List Lq)(k:LV)(b:Addr)(v:V):List Lq:=if(xs.any fun x=>decide (x.1=k))=KD then xs.map (fun x=>if x.1=k then(x.1,x.2.1,v)else x)else xs++[(k,b,v)]
abbrev PB:=fun(p:Lq) (q:LV×Addr×Hj)=>p.1=q.1/\p.2.1=q.2.1/\RelV p.2.2 q.2.2
theorem jO{xs:List Lq}{c:List (LV×Addr×Hj)}(r:Kb PB xs c):c.map (·.1)=xs.map (·.1):=by
 induction r with
 |nil=>rfl
 |cons h t d=>rw[Hs,Hs,d,h.1]
theorem AZ{xs:List Lq}{d:List (LV×Addr×Hj)}(r:Kb PB xs d)(k:LV):(xs.any fun x=>decide (x.1=k))=(atKey d k).isSome:=by
 induction r with
 |nil=>rfl
 |@cons p q ps qs h t ih=>
  rw[JP]
  by_cases e:p.1=k
  ·have c:q.1=k:=h.1.symm.trans e;simp[atKey,HZ,e,c]
  ·have c:¬q.1=k:=fun z=>e (h.1.trans z);rw[KJ e,Bool.false_or,ih];simp[atKey,HZ,c]
theorem jG{xs:List Lq}{c:List (LV×Addr×Hj)}(r:Kb PB xs c)(k:LV)(b:Addr){v:V}{u:Hj}(d:RelV v u):Kb PB (gm xs k b v) (storedH c k b u):=by
 unfold gm storedH;rw[AZ r k];by_cases e:(atKey c k).isSome=KD
 ·rw[KI e,KI e];clear e
  induction r with
  |nil=>exact .nil
  |@cons p q ps qs h t ih=>
   rw[Hs,Hs]
   refine .cons ?_ ih
   unfold putAt
   by_cases e:p.1=k
   ·rw[KI e,KI (h.1.symm.trans e)];exact⟨h.1,h.2.1,d⟩
   ·rw[KH e,KH (fun z=>e (h.1.trans z))];exact h
 ·rw[KH e,KH e];exact Paired.snoc r ⟨rfl,rfl,d⟩
theorem nQ{xs:List Lq}{c:List (LV×Addr×Hj)}(r:Kb PB xs c):xs.length=c.length:=by
 induction r with
 |nil=>rfl
 |cons h t d=>rw[Iu,Iu,d]
theorem za{xs:List Lq}{c:List (LV×Addr×Hj)}(r:Kb PB xs c){q:LV×Addr×Hj}(h:q∈c):∃p∈xs,p.1=q.1/\p.2.1=q.2.1:=by
 induction r with
 |nil=>cases h
 |cons d t f=>
  rcases HW.mp h with z|z
  ·subst z;exact⟨_,by simp,d.1,d.2.1⟩
  ·obtain⟨p,g,e⟩:=f z;exact⟨p,by simp[g],e⟩
theorem oh(xs:List Lq)(k:LV)(b:Addr)(v:V):(gm xs k b v).length<=xs.length+1:=by
 unfold gm;split
 ·rw[Hn];omega
 ·simp
theorem qz{xs:List Lq}(I:L2.Inv X KQ σ H s)(e:H a=KA (.ext (b4 X.prog X.w a xs)))(d:∀x∈xs,dh X.K H x.2.1 x.1):(a==Jj)=KG/\xs.length<=Hy/\∃c,Kb PB xs c/\s.heap.DictOfH (eD X.prog X.w) a c:=by obtain⟨⟨h1,f,g,c,r,o,h,i,j,l,m,n⟩,_⟩:=I.hok a _ e;refine⟨h1,f,c,r,o,h,i,j,l,m,n,fun x q=>?_,by rw[jO r];exact g⟩;obtain⟨p,t,e1,e2⟩:=za r q;rw[<-e1,<-e2];exact sG I (d p t)
theorem m8{P:HF}{w:Ih}{xs:List Lq}(h1 c:Heap)(h:b4 P w a xs h1)(k:∀o,h1.get? a=KA o->c.get? a=KA o):b4 P w a xs c:=by obtain⟨d,e,f,g,r,o,i,j,l,q⟩:=h;exact⟨d,e,f,g,r,o,i,j,k o l,q⟩
theorem sE(I:L2.Inv X KQ σ H s):L2.Inv X KQ σ (upd H s.heap.objs.size (.ext (b4 X.prog X.w s.heap.objs.size []))) { s with heap:=s.heap.push { cls:=.type "dict",data:=.dict #[] } }:=
 I.laid (a:=s.heap.objs.size) (t':=s.toks) (fun _ _ q=>Ho _ q) (Hq _)
  ⟨⟨beq_eq_false_iff_ne.mpr (Ne.symm (Im I.big)),Jl _,List.nodup_nil,[],.nil,_,#[],0,HG _ rfl,⟨rfl,rfl,rfl⟩,rfl,rfl⟩,⟨_,HG _ rfl⟩,fun h1 c x y=>m8 h1 c x y⟩
def dJ(xs:List Lq)(k:LV):Option V:=(xs.find? fun x=>decide (x.1=k)).map (·.2.2)
theorem mV{xs:List Lq}{d:List (LV×Addr×Hj)}(r:Kb PB xs d){v:V}(h:dJ xs k=KA v):∃p:Addr×Hj,atKey d k=KA p/\RelV v p.2:=by
 induction r with
 |nil=>cases h
 |@cons p q ps qs h' t ih=>
  by_cases e:p.1=k
  ·have c:q.1=k:=h'.1.symm.trans e;simp[dJ,HZ,e]at h;subst h;exact⟨q.2,by simp[atKey,HZ,c],h'.2.2⟩
  ·have c:¬q.1=k:=fun z=>e (h'.1.trans z);have f:dJ ps k=KA v:=by simpa[dJ,HZ,e]using h
   obtain⟨g,i,j⟩:=ih f;exact⟨g,by simpa[atKey,HZ,c]using i,j⟩
theorem AS{A:Ij}{E:Hj->Hk->Prop}{Q:Hj->Hk->Prop}{xs:List Lq}{v:V}(l:A.units+8<IZ)(I:L2.Inv X KQ σ H s)(e:H a=KA (.ext (b4 X.prog X.w a xs)))(d:∀x∈xs,dh X.K H x.2.1 x.1)(f:dh X.K H b k)(g:dJ xs k=KA v) (h:∀u c,L2.Inv X KQ σ H c->RelV v u->Q u c):Hu (HC X.prog X.w) A (getItem (.ref a) (.ref b)) Q E s:=by obtain⟨hd,m,n,r,i⟩:=qz I e d;obtain⟨p,h1,j⟩:=mV r g;exact wpAny_getItem_heap (knd:=eD X.prog X.w) (show A.in1.units+4<IZ by show A.units+1+4<IZ;omega) (sG I f) i h1 (h _ _ (I.tok _) j)
end
section
variable{prog:HF}{w:Ih}{K:Type}[DecidableEq K]{knd:HeapKind prog w K}{A:Ij}{E:Hj->Hk->Prop}{s:Hk}
theorem ph{d a:Addr}{xs:List (K×Addr×Hj)}{k:K}{v:Hj}{Q:Hj->Hk->Prop}(q:knd.room A)(b:knd.is s.heap k a)(t:s.heap.DictOfH knd d xs) (h1:∀p,atKey xs k=KA p->Q p.2 { s with toks:=s.toks+knd.draws k }) (u:atKey xs k=KC->∀h',h'.DictOfH knd d (storedH xs k a v)->K0 d s.heap h'->Q v { s with heap:=h',toks:=s.toks+knd.draws k }) (hsz:xs.length<=Hy) : Hu (HC prog w) A (dictSetDefault d (.ref a) v) Q E s:=by
 obtain⟨o,D,z,f,B,hd,m,h,n⟩:=t;unfold dictSetDefault
 try with_reducible refine J4 ?_
 refine cc (knd.pyHash q b ?_);refine cc (wpAny_dictFind_heap (s:={ s with toks:=s.toks+knd.draws k }) q b f hd m h n ?_ ?_)
 ·intro i;have l:k∉xs.map (·.1):=not_mem_keys_of_get i;have g:=atKey_none_of_get i
  refine cc (wpAny_rule (cc (wpAny_updateDictKeys (hz:=by have e:=size_of_entries m;omega) (s:={ s with toks:=s.toks+knd.draws k }) f hd (Hm (u g _ ⟨_,_,z+1,J7 _ f (Obj.isFreed_of_dict (Obj.data_mapDictKeys hd _)),
   B.mapDictKeys _,Obj.data_mapDictKeys hd _,?_,?_,?_⟩ (Heap.SameBut.update ..))))))
  ·rw[storedH_new g];simp[m,entryOfKey]
  ·rw[storedH_new g];intro x c;rcases HM.mp c with c|c
   ·exact knd.keeps (h x c) f hd (Heap.SameBut.update ..)
   ·have:x=(k,a,v):=by simpa using c
    subst this;exact knd.keeps b f hd (Heap.SameBut.update ..)
  ·rw[storedH_new g,HR,List.nodup_append];refine⟨n,by simp,?_⟩;intro x c y C;have:y=k:=by simpa using C
   subst this;exact fun e=>l (e▸c)
 ·intro j p r;have g:=atKey_of_get n r;refine cc (wpAny_dictEntries (s:={ s with toks:=s.toks+knd.draws k }) f hd ?_);rw[entry_at m j,r];exact cc (wpAny_rule (Hm (h1 p g)))
theorem oK{d a:Addr}{xs:List (K×Addr×Hj)}{k:K}{v:Hj}{Q:Hj->Hk->Prop}(g:knd.room A.in1)(b:knd.is s.heap k a)(c:s.heap.DictOfH knd d xs)(hd:(d==Jj)=KG)
 (h1:∀p,atKey xs k=KA p->Q p.2 { s with toks:=s.toks+knd.draws k })
 (h:atKey xs k=KC->∀h',h'.DictOfH knd d (storedH xs k a v)->K0 d s.heap h'->Q v { s with heap:=h',toks:=s.toks+knd.draws k }) (hsz:xs.length<=Hy) :
 Hu (HC prog w) A (call (.builtin "dict.setdefault") [.ref d,.ref a,v]) Q E s:=by
 refine wpAny_call_entry PySem.F.slot_dict_setdefault c.typeIs PySem.F.entry_dict_setdefault ?_ (PySem.F.args_dict_setdefault_3 _ _ _)
 unfold K8.«dict.setdefault»
 refine cc ?_
 unfold Builtin.Dict.keyAndDefault
 refine cc (wpAny_notOrdered_dict c.typeIs ?_)
 show Hu _ _ (pure (d,Ii a,KA v)) _ _ s
 refine Hm ?_
 show Hu _ _ (if(d==Jj)=KD then _ else(dictSetDefault d (.ref a) v >>= _)) _ _ s
 rw[KH (by rw[hd];exact HJ)]
 exact cc (ph g b c (fun p i=>Hm ⟨p.2,rfl,h1 p i⟩) (fun j h' e f=>Hm ⟨v,rfl,h j h' e f⟩) hsz)
end
section
variable{X:Cx}{KQ:List (Addr×Obj)}{σ:L2.St}{H:Hp}{s:Hk}{a b:Addr}{k:LV}
theorem wJ{xs:List Lq}{c:List (LV×Addr×Hj)}(r:Kb PB xs c)(h:dJ xs k=KC):atKey c k=KC:=by
 induction r with
 |nil=>rfl
 |@cons p q ps qs h' t ih=>
  by_cases e:p.1=k
  ·simp[dJ,HZ,e]at h
  ·have d:¬q.1=k:=fun z=>e (h'.1.trans z);have f:dJ ps k=KC:=by simpa[dJ,HZ,e]using h
   have:=ih f;simpa[atKey,HZ,d]using this
theorem qk{A:Ij}{E:Hj->Hk->Prop}{Q:Hj->Hk->Prop}{xs:List Lq}{v:V}{u:Hj}(R:A.units+8<IZ)(I:L2.Inv X KQ σ H s)(e:H a=KA (.ext (b4 X.prog X.w a xs)))(o:∀x∈xs,dh X.K H x.2.1 x.1)(t:dh X.K H b k)(m:RelV v u)(S:xs.length<Hy)
 (h1:∀d n f,dJ xs k=KA d->L2.Inv X KQ σ H f->RelV d n->Q n f)
 (h:dJ xs k=KC->∀f,L2.Inv X KQ σ (upd H a (.ext (b4 X.prog X.w a (gm xs k b v)))) f->Q u f):Hu (HC X.prog X.w) A (call (.builtin "dict.setdefault") [.ref a,.ref b,u]) Q E s:=by
 obtain⟨hd,z,T,r,B⟩:=qz I e o
 refine oK (knd:=eD X.prog X.w) (show A.in1.units+4<IZ by show A.units+1+4<IZ;omega) (sG I t) B hd (fun p i=>?_) (fun C U j D=>?_) (by rw[<-nQ r];exact z)
 ·cases c:dJ xs k with
  |none=>rw[wJ r c]at i;cases i
  |some d=>
   obtain⟨F,g,G⟩:=mV r c
   rw[i]at g
   cases g
   exact h1 d _ _ c (I.tok _) G
 ·have c:dJ xs k=KC:=by
   cases c:dJ xs k with
   |none=>rfl
   |some d=>
    obtain⟨F,g,_⟩:=mV r c
    rw[C]at g;cases g
  refine h c _ ?_
  obtain⟨q,J,L,l,M,N,O,_,P⟩:=j
  refine jK I (by rw[e];exact Jv) D ⟨q,l⟩ ⟨⟨hd,?_,?_,_,jG r k b m,q,J,L,l,M,N,O⟩,⟨q,l⟩,fun h1 h x y=>m8 h1 h x y⟩
  ·have:=oh xs k b v;omega
  ·rw[<-jO (jG r k b m)];exact P
end
section
variable{X:Cx}
def B8(X:Cx):TE:=fun _ H Q=>∀p,H p=KC->Q (.ref p) (upd H p (.ext (b4 X.prog X.w p [])))
theorem wo{pos:Pos}:PE X (.Dict [] [] pos) (B8 X):=fun KQ s σ H Q I h=>wpAny_Dict_empty ⟨.ref s.heap.objs.size,_,sE I,rfl,h _ (I.hok.fresh (Hq _))⟩
structure Vl(X:Cx)(H:Hp)(a b:Addr)(xs:List Lq)(k:LV):Prop where
 d:H a=KA (.ext (b4 X.prog X.w a xs))
 ks:∀x∈xs,dh X.K H x.2.1 x.1
 key:dh X.K H b k
def CI(X:Cx)(d ty:TE):TE:=fun σ H Q=>d σ H fun x H1=>ty σ H1 fun y c=>∃a b xs k v,x=.ref a/\y=.ref b/\Vl X c a b xs k/\dJ xs k=KA v/\Q v c
theorem vh{KQ:List (Addr×Obj)}{σ:L2.St}{H:Hp}{s:Hk}{a:Addr}{xs:List Lq}(I:L2.Inv X KQ σ H s)(e:H a=KA (.ext (b4 X.prog X.w a xs))):s.TypeIs (.ref a) "dict"/\∀b,Ii a=.ref b->∃o,s.heap.get? b=KA o/\o.dict=KC:=by obtain⟨⟨_,_,_,_,_,o,_,_,c,d,_⟩,_⟩:=I.hok a _ e;exact⟨⟨o,c,d.1⟩,fun b z=>by cases z;exact⟨o,c,d.2.1⟩⟩
theorem xj{o i:Expr}{e ty:TE}{pos:Pos}(g:X.A.units+8<IZ)(j:PE X o e)(l:PE X i ty)(m:EX i):PE X (.Subscript o i pos) (CI X e ty):=by intro KQ s σ H Q I h;refine Subscript_ (LA (j KQ s σ H _ I h) fun v n ⟨x,H1,p,r,t⟩=>LA (l KQ n σ H1 _ p t) fun u K c=>?_);obtain⟨y,w,f,z,a,b,xs,k,B,ex,C,D,E,q⟩:=c;subst ex C;cases r;cases z;exact tail_any (vh f D.d).1 PySem.F.slot_dict_getitem.lookup (AS g f D.d D.ks D.key E fun L M G J=>⟨B,w,G,J,q⟩) (m _ _)
def Et(X:Cx)(f:TE)(t:TA):TE:=fun σ H Q=>f σ H fun x H1=>∃a c,x=.ref a/\H1 a=KA (.ext (b4 X.prog X.w a c))/\t σ H1 fun vs d=>∃b v xs k,vs=[.ref b,v]/\Vl X d a b xs k/\xs.length<Hy/\
 (∀e,dJ xs k=KA e->Q e d)/\(dJ xs k=KC->Q v (upd d a (.ext (b4 X.prog X.w a (gm xs k b v)))))
theorem AI{o e1 e2:Expr}{u:TE}{t:TA}{e f:Pos}(B:X.A.units+8<IZ)(C:PE X o u)(E:PA X [e1,e2] t)
 (g:Jz o "setdefault" X.env (eval o X.env)=eval o X.env:=by rfl)
 (m:((IY f (Hv [e1,e2] X.env)).all (fun x=>!x.1)&&(backToKw f (JO [] X.env)).all (fun x=>x.1.isSome)
  && decide ([e1,e2].length+([]:List Keyword).length+(if([]:List Keyword).isEmpty then 0 else 1)<30))=KD:=by rfl)
 (i:(e.endLine==f.line)=KD:=by rfl) (G:Hv [e1,e2] X.env=(KG,eval e1 X.env)::Hv [e2] X.env:=by rfl) (c:(IY f (Hv [e2] X.env)).any (·.1)=KG:=by rfl) :
 PE X (.Call (.Attribute o "setdefault" e) [e1,e2] [] f) (Et X u t):=by
 intro KQ s σ H Q I h
 refine wpAny_Call_method_late g m i rfl (LA (C KQ s σ H _ I h) fun v J j=>?_)
 obtain⟨x,H1,w,K,a,L,ex,M,N⟩:=j
 subst ex
 cases K
 obtain⟨h1,O⟩:=vh w M
 refine⟨"dict","dict.setdefault",PySem.F.plainAttrs_dict,PySem.F.slot_dict_setdefault,PySem.F.type_dict_setdefault,h1,O,?_⟩
 have y:=E f KQ J σ H1 _ w N
 rw[G]at y ⊢
 refine Calls.callWith_builtin (by show(KG||(IY f (Hv [e2] X.env)).any (·.1))=KG;rw[c]<;>rfl) (Calls.evalArgs_plain ?_)
 refine LA y fun us s2 l=>?_
 obtain⟨vs,P,R,S,b,T,xs,k,p,D,U,V,W⟩:=l
 subst p
 obtain⟨u1,u2,rfl,q,n⟩:=S.two
 cases q
 exact qk B R D.d D.ks D.key n U (fun z u' Y p r Z=>⟨z,P,r,Z,V z p⟩) (fun hn Y r=>⟨T,_,r,n,W hn⟩)
end
def Ng(k:LV):D:=.tup [.tup [.int k.1,.int k.2.1],.tup [.int k.2.2.1,.int k.2.2.2]]
section
variable{K:H0}{H H':Hp}{M:MH}{a b:Addr}{k:LV}
theorem sD{v:V}(r:Rep K H (Ng k) v):∃b,v=.ref b/\dh K H b k:=by unfold Ng at r;rw[Rep]at r;obtain⟨b,xs,rfl,l,m⟩:=r;obtain⟨s,t,rfl,c,d⟩:=dC m;rw[Rep]at c d;obtain⟨f,fs,rfl,n,o⟩:=c;obtain⟨g,u,rfl,p,q⟩:=d;obtain⟨w,x,rfl,e,h⟩:=dC o;obtain⟨y,z,rfl,i,j⟩:=dC q;rw[Rep]at e h i j;subst e h i j;exact⟨b,rfl,f,g,l,n,p⟩
theorem wW(h:dh K H b k):Rep K H (Ng k) (.ref b):=by
 obtain⟨f,g,d,e,i⟩:=h;unfold Ng;rw[Rep];refine⟨b,_,rfl,d,?_⟩;have c:∀(m n:Int),aB K H [D.int m,D.int n] [V.int m,V.int n]:=fun m n=>iA [m,n];rw[aB];refine⟨_,_,rfl,?_,?_⟩
 ·rw[Rep];exact⟨f,_,rfl,e,c _ _⟩
 ·rw[aB];refine⟨_,_,rfl,?_,?_⟩
  ·rw[Rep];exact⟨g,_,rfl,i,c _ _⟩
  ·rw[aB]
theorem dh.mono(g:Ky K H H')(h:dh K H b k):dh K H' b k:=by obtain⟨c,e,r⟩:=sD ((wW h).mono g);cases e;exact r
abbrev Ly:=List (LV×D)
def Pn(kvs:Ly):H0->Hp->Addr->Prop:=fun K H a=>∃xs:List Lq,(∀P w,H a=KA (.ext (b4 P w a xs)))/\xs.map (·.1)=kvs.map (·.1)/\(∀x∈xs,dh K H x.2.1 x.1)/\aB K H (kvs.map (·.2)) (xs.map (·.2.2))
theorem xQ{kvs:Ly}(h:Pn kvs K H a)(g:Ky K H H')(e:H' a=H a):Pn kvs K H' a:=by obtain⟨xs,h1,c,d,f⟩:=h;exact⟨xs,fun P w=>e.trans (h1 P w),c,fun x i=>(d x i).mono g,f.mono g⟩
def MV(kvs:Ly):MO:=.gen (Pn kvs)
theorem LG.dsp{kvs:Ly}(h:LG K H M)(e:M a=KA (MV kvs)):Pn kvs K H a:=(h a _ e).1
theorem Pn.yr{kvs:Ly}(h:Pn kvs K H a)(ne:H a≠KC):lz K H a (MV kvs):=⟨h,ne,fun H' g e=>xQ h g e⟩
theorem LG.By{p:Addr}(P:HF)(w:Ih)(h:LG K H M)(c:H p=KC):LG K (upd H p (.ext (b4 P w p []))) (ar M p (MV [])):=fun a u e=>by
 by_cases ne:a=p
 ·subst ne;rw[ai]at e;cases e;exact Pn.yr ⟨[],(fun P w=>aH),rfl,(fun x d=>by simp at d),(by simp[aB])⟩ (by rw[aH];simp)
 ·rw[aq ne]at e;exact(h a u e).eK (.new c) (aE ne)
def c8(kvs:Ly)(k:LV):Option D:=(kvs.find? fun x=>decide (x.1=k)).map (·.2)
def putD(kvs:Ly)(k:LV)(d:D):Ly:=if(kvs.any fun x=>decide (x.1=k))=KD then kvs.map (fun x=>if x.1=k then(x.1,d)else x)else kvs++[(k,d)]
theorem m7(k:LV):∀{kvs:Ly} {xs:List Lq},xs.map (·.1)=kvs.map (·.1)->aB K H (kvs.map (·.2)) (xs.map (·.2.2))->(∀d,c8 kvs k=KA d->∃v,dJ xs k=KA v/\Rep K H d v)/\(c8 kvs k=KC->dJ xs k=KC)/\((xs.any fun x=>decide (x.1=k))=kvs.any fun x=>decide (x.1=k))
 |[],[],_,_=>⟨(fun d h=>by simp[c8]at h),(fun _=>rfl),rfl⟩
 |[],x::xs,h,_=>by cases h
 |y::kvs,[],h,_=>by cases h
 |y::kvs,x::xs,h,r=>by
  rw[Hs,Hs]at h
  injection h with h1 g
  rw[Hs,Hs,aB]at r
  obtain⟨v,vs,e,i,j⟩:=r
  injection e with e1 e2
  subst e1 e2
  obtain⟨l,m,n⟩:=m7 k g j
  by_cases e:y.1=k
  ·have c:x.1=k:=h1.trans e
   refine⟨fun d hd=>?_,fun f=>?_,?_⟩
   ·simp[c8,HZ,e]at hd
    subst hd
    exact⟨x.2.2,by simp[dJ,HZ,c],i⟩
   ·simp[c8,HZ,e]at f
   ·simp[e,c]
  ·have c:¬x.1=k:=fun z=>e (h1.symm.trans z)
   refine⟨fun d hd=>?_,fun f=>?_,?_⟩
   ·obtain⟨v,o,p⟩:=l d (by simpa[c8,HZ,e]using hd)
    exact⟨v,by simpa[dJ,HZ,c]using o,p⟩
   ·have:=m (by simpa[c8,HZ,e]using f)
    simpa[dJ,HZ,c]using this
   ·rw[JP,JP,n,KJ e,KJ c]
theorem sj(k:LV){d:D}{v:V}(r:Rep K H d v):∀{kvs:Ly} {xs:List Lq},xs.map (·.1)=kvs.map (·.1)->aB K H (kvs.map (·.2)) (xs.map (·.2.2))->
 (xs.map fun x=>if x.1=k then(x.1,x.2.1,v)else x).map (·.1)=(kvs.map fun x=>if x.1=k then(x.1,d)else x).map (·.1)/\aB K H ((kvs.map fun x=>if x.1=k then(x.1,d)else x).map (·.2)) ((xs.map fun x=>if x.1=k then(x.1,x.2.1,v)else x).map (·.2.2))
 |[],[],_,h=>⟨rfl,h⟩
 |[],x::xs,h,_=>by cases h
 |y::kvs,[],h,_=>by cases h
 |y::kvs,x::xs,h,q=>by
  rw[Hs,Hs]at h
  injection h with h1 i
  rw[Hs,Hs,aB]at q
  obtain⟨m,vs,e,j,l⟩:=q
  injection e with e1 e2
  subst e1 e2
  obtain⟨f,g⟩:=sj k r i l
  by_cases e:y.1=k
  ·have c:x.1=k:=h1.trans e
   simp only[Hs,KI e,KI c]
   exact⟨by rw[f];exact congrArg (·::_) h1,by rw[aB];exact⟨_,_,rfl,r,g⟩⟩
  ·have c:¬x.1=k:=fun z=>e (h1.symm.trans z)
   simp only[Hs,KH e,KH c]
   exact⟨by rw[f];exact congrArg (·::_) h1,by rw[aB];exact⟨_,_,rfl,j,g⟩⟩
theorem Cn{kvs:Ly}{xs:List Lq}{d:D}{v:V}(h1:xs.map (·.1)=kvs.map (·.1))(c:aB K H (kvs.map (·.2)) (xs.map (·.2.2)))(g:∀x∈xs,dh K H x.2.1 x.1)(h:dh K H b k)(r:Rep K H d v) : (gm xs k b v).map (·.1)=(putD kvs k d).map (·.1)/\aB K H ((putD kvs k d).map (·.2)) ((gm xs k b v).map (·.2.2))/\∀x∈gm xs k b v,dh K H x.2.1 x.1:=by
 unfold gm putD;rw[(m7 k h1 c).2.2];by_cases e:(kvs.any fun x=>decide (x.1=k))=KD
 ·rw[KI e,KI e];obtain⟨i,j⟩:=sj k r h1 c;refine⟨i,j,fun x f=>?_⟩;obtain⟨y,l,rfl⟩:=IU.mp f;have:=g y l;by_cases e:y.1=k
  ·rw[KI e];exact this
  ·rw[KH e];exact this
 ·rw[KH e,KH e];refine⟨by rw[HR,HR,h1];rfl,?_,fun x f=>?_⟩
  ·rw[HR,HR];exact c.append (by rw[Hs,Hs,Jb,Jb,aB];exact⟨_,_,rfl,r,by rw[aB]⟩)
  ·rcases HM.mp f with z|z
   ·exact g x z
   ·have:x=(k,b,v):=by simpa using z
    subst this;exact h
theorem Ky.ext{c:Heap->Prop}{o:HO}(h:H a=KA (.ext c)):Ky K H (upd H a o):=.put (fun xs e=>by rw[h]at e;cases e) (fun u xs e=>by rw[h]at e;cases e)
theorem LG.Bp{kvs:Ly}{xs:List Lq}{d:D}{v:V}(P:HF)(w:Ih)(h:LG K H M)(f:∀P w,H a=KA (.ext (b4 P w a xs)))(h1:xs.map (·.1)=kvs.map (·.1))(i:aB K H (kvs.map (·.2)) (xs.map (·.2.2)))(j:∀x∈xs,dh K H x.2.1 x.1)(l:dh K H b k)(r:Rep K H d v) :
 LG K (upd H a (.ext (b4 P w a (gm xs k b v)))) (ar M a (MV (putD kvs k d))):=fun c u e=>by
 have g:Ky K H (upd H a (.ext (b4 P w a (gm xs k b v)))):=.ext (f P w)
 by_cases ne:c=a
 ·subst ne
  rw[ai]at e;cases e
  obtain⟨m,n,o⟩:=Cn h1 i j l r
  exact Pn.yr ⟨_,fun P w=>aH,m,fun x f=>(o x f).mono g,n.mono g⟩ (by rw[aH];simp)
 ·rw[aq ne]at e
  exact(h c u e).eK g (aE ne)
end
section
variable{X:Cx}
def zC:TD:=fun _ M Q=>∀p,M p=KC->Q (.ref p) (ar M p (MV []))
theorem wX{pos:Pos}:DE X (.Dict [] [] pos) zC:=aV wo fun σ H Q a=>by obtain⟨δ,M,R,e,d,q,b⟩:=a;exact(fun p c=>b _ _ _ _ (.new c) (by rw[Rep]) (d.By _ _ c) (q p (d.fresh c)))
def zH(b ty:TD):TD:=fun δ M Q=>b δ M fun x c=>ty δ c fun y a=>∃l kvs k d,x=.ref l/\y=Ng k/\a l=KA (MV kvs)/\c8 kvs k=KA d/\Q d a
theorem oS{o i:Expr}{g ty:TD}{pos:Pos}(N:X.A.units+66<IZ)(m:DE X o g)(n:DE X i ty)(e:EX i):DE X (.Subscript o i pos) (zH g ty):=
 aV (xj () m n e) fun σ H Q a=>by obtain⟨δ,M,R,e,p,q,f⟩:=a;exact(⟨δ,M,_,e,p,q,fun x r v H1 g1 h s t=>⟨δ,r,_,e.mono g1,s,t,fun y O u P w z j c=>by
  obtain⟨l,kvs,k,d,ex,B,C,D,E⟩:=c
  subst ex B
  rw[Rep]at h;subst h
  obtain⟨b,rfl,sp⟩:=sD z
  obtain⟨xs,h1,F,G,I⟩:=j.dsp C
  obtain⟨J,K,L⟩:=(m7 k F I).1 d D
  exact⟨l,b,xs,k,J,rfl,rfl,⟨h1 _ _,G,sp⟩,K,f _ _ _ _ (g1.trans w) L j E⟩⟩⟩)
def Dh(f:TD)(t:L8):TD:=fun δ M Q=>f δ M fun x c=>∃l a,x=.ref l/\c l=KA (MV a)/\t δ c fun g b=>∃kvs k d,g=[Ng k,d]/\b l=KA (MV kvs)/\kvs.length<1000000/\(∀e,c8 kvs k=KA e->Q e b)/\(c8 kvs k=KC->Q d (ar b l (MV (putD kvs k d))))
theorem AM{o e1 e2:Expr}{F:TD}{t:L8}{f j:Pos}(hu:X.A.units+66<IZ)(V:DE X o F)(W:DA X [e1,e2] t)
 (g:Jz o "setdefault" X.env (eval o X.env)=eval o X.env:=by rfl)
 (m:((IY j (Hv [e1,e2] X.env)).all (fun x=>!x.1)&&(backToKw j (JO [] X.env)).all (fun x=>x.1.isSome)
  && decide ([e1,e2].length+([]:List Keyword).length+(if([]:List Keyword).isEmpty then 0 else 1)<30))=KD:=by rfl)
 (h:(f.endLine==j.line)=KD:=by rfl) (s:Hv [e1,e2] X.env=(KG,eval e1 X.env)::Hv [e2] X.env:=by rfl) (c:(IY j (Hv [e2] X.env)).any (·.1)=KG:=by rfl) :
 DE X (.Call (.Attribute o "setdefault" f) [e1,e2] [] j) (Dh F t):=
 aV (AI () V W g m h s c) fun σ H Q ⟨δ,M,R,s,Y,q,n⟩=>⟨δ,M,_,s,Y,q,fun x Z v H1 g1 G I ⟨l,J,ex,y,q1⟩=>by
  subst ex
  rw[Rep]at G;subst G
  obtain⟨z,h0,_⟩:=I.dsp y
  refine⟨l,z,rfl,h0 _ _,δ,Z,_,s.mono g1,I,q1,fun ds M2 vs L N r2 B i=>?_⟩
  obtain⟨kvs,k,d,e,hl,hn,k1,k2⟩:=i
  subst e
  obtain⟨v1,O,rfl,C,p⟩:=dC r2
  obtain⟨b,rfl,sp⟩:=sD C
  obtain⟨xs,h1,D,P,S⟩:=B.dsp hl
  have T:xs.length=kvs.length:=by have:=congrArg List.length D;simpa using this
  have sz:1000000<=Hy:=LB rfl
  have dv:=m7 k D S
  refine⟨b,O,xs,k,rfl,⟨h1 _ _,P,sp⟩,(),fun v' a=>?_,fun a=>?_⟩
  ·cases e:c8 kvs k with
   |none=>rw[dv.2.1 e]at a;cases a
   |some u=>
    obtain⟨E,r,q4⟩:=dv.1 u e
    rw[a]at r;cases r
    exact n _ _ _ _ (g1.trans N) q4 B (k1 u e)
  ·have e:c8 kvs k=KC:=by
    cases e:c8 kvs k with
    |none=>rfl
    |some u=>
     obtain⟨E,r,_⟩:=dv.1 u e
     rw[a]at r;cases r
   have U:Ky X.K L (upd L l (.ext (b4 X.prog X.w l (gm xs k b O)))):=.ext (h1 X.prog X.w)
   exact n _ _ _ _ ((g1.trans N).trans U) (p.mono U) (B.Bp _ _ h1 D S P sp p) (k2 e)⟩
end
theorem DL(t b X m x:Int):Ke t b X m x=Ke t (b*m) (X*m) 1 x:=by unfold Ke;rw[Int.mul_one,Int.mul_one]
theorem tI{t b X m:Int}(c:0<t)(d:0<b)(e:0<m)(a:Int):Ke t b X 1 a=Ke t (b*m) (X*m) 1 (m*a):=by rw[<-DL,Kl c d ⋯ e];omega
theorem Az{t b X Y m:Int}(a:0<t)(c:0<b)(d:0<m)(w:Wl)(p q:Int):Kj (Ki (Ke t b X 1 w.1) (Ke t b Y 1 w.2.1) (Ke t b X 1 w.2.2.1) (Ke t b Y 1 w.2.2.2) (Ke t b X m p) (Ke t b Y m q))=HQ (sd (Vq m w) p q):=by rw[tI a c d,tI a c d,tI a c d,tI a c d,DL t b X m p,DL t b Y m q];exact iD a (Ib c d) (Vq m w) p q
theorem xD{t b X Y m p q a c:Int}(f:0<t)(g:0<b)(e:0<m/\m<=4)(h:-10<=q/\q<=85)(d:0<=c/\c<=20):Kg (Ke t b X m p) (Ke t b Y m q) (Ke t b X 1 a) (Ke t b Y 1 c)↔la p q<m*la a c:=by have e1:=Int.mul_nonneg (():0<=m) d.1;have e2:=Int.mul_le_mul e.2 d.2 d.1 (show(0:Int)<=4 by decide);rw[Ma.Bu f g e.1 ⋯,Int.one_mul,Int.one_mul,yI h ⟨(),()⟩,decide_eq_true_eq,D3]
def LY(k:Int):Wl:=(k,0,k,1)
def LS(k y:Int):Wl:=(k,y,k+1,y)
def N9(m:Int):Nat->List Wl
 |0=>[LY m]
 |i+1=>N9 m i++[LS (i:Int) 0,LS (i:Int) 1,LY (i:Int)]
theorem sP(m:Int):∀i:Nat,(N9 m i).length=1+3*i
 |0=>rfl
 |i+1=>by rw[N9,IJ,sP m i];simp;omega
theorem nE{m:Int}{w:Wl}:∀{i:Nat},w∈N9 m i->w=LY m\/∃k:Nat,k<i/\(w=LS (k:Int) 0\/w=LS (k:Int) 1\/w=LY (k:Int))
 |0,h=>.inl (Jk.mp h)
 |i+1,h=>by
  rw[N9,HM]at h
  rcases h with h|h
  ·rcases nE h with h|⟨k,a,h⟩
   ·exact .inl h
   ·exact .inr ⟨k,(),h⟩
  ·simp only[HW,List.not_mem_nil,or_false]at h
   exact .inr ⟨i,(),h⟩
def vz(w:Wl):Prop:=∃k:Int,0<=k/\k<=13/\(w=LY k\/w=LS k 0\/w=LS k 1)
theorem CN{m:Nat}{w:Wl}(a:m<=13)(h:w∈N9 (m:Int) m):vz w:=by
 rcases nE h with h|⟨k,b,h|h|h⟩
 ·exact⟨m,(),(),.inl h⟩
 ·exact⟨k,(),(),.inr (.inl h)⟩
 ·exact⟨k,(),(),.inr (.inr h)⟩
 ·exact⟨k,(),(),.inl h⟩
theorem Eu{w:Wl}(h:vz w):LD w:=by
 obtain⟨k,h0,h1,rfl|rfl|rfl⟩:=h
 ·exact⟨by simp only[LY];omega,by simp only[LY];omega,by simp only[LY];omega,by simp only[LY];omega,by simp only[LY,l1,l2,la];omega⟩
 ·exact⟨by simp only[LS];omega,by simp only[LS];omega,by simp only[LS];omega,by simp only[LS];omega,by simp only[LS,l1,l2,la];omega⟩
 ·exact⟨by simp only[LS];omega,by simp only[LS];omega,by simp only[LS];omega,by simp only[LS];omega,by simp only[LS,l1,l2,la];omega⟩
theorem l0(k x y:Int):sd (LY k) x y=k-x:=by unfold sd ML LY;simp;omega
theorem nv(k c x y:Int):sd (LS k c) x y=y-c:=by unfold sd ML LS;simp only;rw[show k+1-k=1 by omega,Int.sub_self,Int.one_mul,Int.zero_mul,Int.sub_zero]
theorem oW(z:Int):0<=HQ z*HQ z:=by
 rcases Ie z 0 with h|h|h
 ·rw[Ia h];decide
 ·subst h;decide
 ·rw[Ip h];decide
theorem xw(z:Int):0<=HQ z*HQ (z-1):=by
 rcases Ie z 0 with h|h|h
 ·rw[Ia h,Ia ()];decide
 ·subst h;decide
 ·rcases Ie (z-1) 0 with g|g|g
  ·omega
  ·rw[g];simp
  ·rw[Ip h,Ip g];decide
theorem zR{U V:Wl}(f:vz U)(g:vz V)(ne:U≠V):L6 U V:=by
 have h:∀k j:Int,k≠j->L6 (LY k) (LY j):=fun k j e=>by
  refine⟨?_,?_,?_,?_,?_,.inl ?_⟩
  ·simp only[l1,l2,la,LY];omega
  ·simp only[aT,LM,LN,l0];simp only[l1,l2,la,LY];omega
  ·simp only[aT,LM,LN,l0];simp only[l1,l2,la,LY];omega
  ·simp only[aT,LM,LN,l0];simp only[l1,l2,la,LY];omega
  ·simp only[aT,LM,LN,l0];simp only[l1,l2,la,LY];omega
  ·simp only[LM,LN,l0];exact oW _
 have c:∀k j y:Int,(y=0\/y=1)->L6 (LY k) (LS j y):=fun k j y i=>by
  refine⟨?_,?_,?_,?_,?_,.inl ?_⟩
  ·simp only[l1,l2,la,LY,LS];omega
  ·simp only[aT,LM,LN,l0,nv];simp only[l1,l2,la,LY,LS];omega
  ·simp only[aT,LM,LN,l0,nv];simp only[l1,l2,la,LY,LS];omega
  ·simp only[aT,LM,LN,l0,nv];simp only[l1,l2,la,LY,LS];omega
  ·simp only[aT,LM,LN,l0,nv];simp only[l1,l2,la,LY,LS];omega
  ·simp only[LM,LN,l0];have:=xw (k-j);rw[show k-j-1=k-(j+1) by omega]at this;exact this
 have d:∀k y j x:Int,(y=0\/y=1)->(x=0\/x=1)->¬(k=j/\y=x)->L6 (LS k y) (LS j x):=fun k y j x i l e=>by
  refine⟨?_,?_,?_,?_,?_,.inl ?_⟩
  ·simp only[l1,l2,la,LS];omega
  ·simp only[aT,LM,LN,nv];simp only[l1,l2,la,LS];omega
  ·simp only[aT,LM,LN,nv];simp only[l1,l2,la,LS];omega
  ·simp only[aT,LM,LN,nv];simp only[l1,l2,la,LS];omega
  ·simp only[aT,LM,LN,nv];simp only[l1,l2,la,LS];omega
  ·simp only[LM,LN,nv];exact oW _
 have a:(0:Int)=0\/(0:Int)=1:=.inl rfl;have b:(1:Int)=0\/(1:Int)=1:=.inr rfl;obtain⟨k,h0,h1,rfl|rfl|rfl⟩:=f<;>obtain⟨j,g0,g1,rfl|rfl|rfl⟩:=g
 ·exact h k j fun z=>ne (by rw[z])
 ·exact c k j 0 a
 ·exact c k j 1 b
 ·exact(c j k 0 a).swap
 ·exact d k 0 j 0 a a fun z=>ne (by rw[z.1])
 ·exact d k 0 j 1 a b fun z=>()
 ·exact(c j k 1 b).swap
 ·exact d k 1 j 0 b a fun z=>()
 ·exact d k 1 j 1 b b fun z=>ne (by rw[z.1])
theorem mw(m:Nat):∀i:Nat,i<=m->(N9 (m:Int) i).Nodup
 |0,_=>JY.mpr ⟨by simp,List.nodup_nil⟩
 |i+1,h=>by
  rw[N9,List.nodup_append]
  refine⟨mw m i (),by simp[LS,LY],fun a c b f e=>?_⟩
  subst e
  have d:a=LS (i:Int) 0\/a=LS (i:Int) 1\/a=LY (i:Int):=by simpa using f
  rcases nE c with c|⟨k,g,c⟩
  ·subst c
   rcases d with z|z|z<;>simp only[LY,LS,Prod.mk.injEq]at z<;>omega
  ·rcases c with rfl|rfl|rfl<;>rcases d with z|z|z<;>simp only[LY,LS,Prod.mk.injEq]at z<;>omega
theorem BC{m:Nat}{ws:List Wl}(f:m<=13)(h:ws.Perm (N9 (m:Int) m)):PF ws/\(∀w∈ws,LD w)/\ws.length<=40:=by have is:∀w∈ws,vz w:=fun w a=>CN f (h.mem_iff.mp a);have nd:ws.Nodup:=h.nodup_iff.mpr (mw m m (Hq _));refine⟨fun i j U V b c d=>?_,fun w a=>Eu (is w a),by rw[h.length_eq,sP];omega⟩;refine zR (is U (HE c)) (is V (HE d)) fun e=>?_;subst e;obtain⟨h1,e1⟩:=HN.mp c;obtain⟨g,e2⟩:=HN.mp d;exact b ((List.getElem_inj nd).mp (e1.trans e2.symm))
def bB(ws:List Wl)(m p q:Int)(j:Nat):Bool:=QF ws m (la p q) j&&decide (HQ (sd (Vq m (LK ws (j:Int))) p q)=1)
def bK(ws:List Wl)(m p q:Int):List Int:=((HX ws.length).filter (bB ws m p q)).map fun j:Nat=>(j:Int)
theorem gK{ws:List Wl}{m p q k:Int}(h:k∈bK ws m p q):k∈Vt ws m (la p q):=by unfold bK at h;obtain⟨j,a,rfl⟩:=IU.mp h;rw[Ig]at a;have:=a.2;unfold bB at this;rw[IQ]at this;exact IU.mpr ⟨j,Ig.mpr ⟨a.1,this.1⟩,rfl⟩
theorem oy(ws:List Wl)(m p q:Int):(bK ws m p q).Nodup:=by unfold bK List.Nodup;rw[List.pairwise_map];have h:List.Pairwise (fun x y:Nat=>x≠y) ((HX ws.length).filter (bB ws m p q)):=List.Pairwise.filter _ List.nodup_range;refine List.Pairwise.imp (R:=fun x y:Nat=>x≠y) ?_ h;intro a b c e;exact c ()
theorem vA(ws:List Wl)(m p q t b X Y:Int):(HX (ws.map (Kz t b X Y)).length).filterMap (fun j=>if bB ws m p q j=KD then KA (Kz t b X Y (LK ws (j:Int)))else KC)=((bK ws m p q).map (LK ws)).map (Kz t b X Y):=by rw[Hn];unfold bK;rw[List.map_map,List.map_map];exact iF (bB ws m p q) (fun j:Nat=>Kz t b X Y (LK ws (j:Int))) _
theorem BN{t b X Y:Int}(a:0<t)(c:0<b){U V:Wl}(g:LD U)(h:LD V)(ne:¬(l1 U=l1 V/\l2 U=l2 V)):IM (PZ t b X Y U) (PZ t b X Y V)=KG:=by have h1:=gV (X:=X) (Y:=Y) (p:=U.1) (q:=U.2.1) (e:=V.1) (f:=V.2.1) a c g.b h.b;have i:=gV (X:=X) (Y:=Y) (p:=U.2.2.1) (q:=U.2.2.2) (e:=V.2.2.1) (f:=V.2.2.2) a c g.d h.d;unfold PZ QH;rw[IM,Jd,Jd,Jd,Km,Km,Bool.and_true,<-Bool.decide_and,decide_eq_false_iff_not,h1,i];exact ne
abbrev Vc:=Int×Int
def vc(a b:Vc):Int:=ML a.1 a.2 b.1 b.2
def vl(a:Vc):Int:=la a.1 a.2
theorem i9(a b:Vc):vc b a=-vc a b:=by unfold vc ML;grind
theorem EU(b x y z:Vc):vc b y*vc x z=vc b x*vc y z+vc b z*vc x y:=by unfold vc ML;grind
theorem B1(a b c:Vc)(h:vc a b=0):vc b c*vl a=vc a c*vl b:=by unfold vc ML at *;unfold vl la;grind
def PN(a b:Vc):Prop:=vc a b=0->vl a*vl b<0
theorem gW(z:Int):(z<0/\HQ z=-1)\/(z=0/\HQ z=0)\/(0<z/\HQ z=1):=by
 rcases Ie z 0 with h|h|h
 ·exact .inl ⟨h,Ia h⟩
 ·exact .inr (.inl ⟨h,by subst h;rfl⟩)
 ·exact .inr (.inr ⟨h,Ip h⟩)
theorem ij{p q:Int}(h:p*q<0):(p<0/\0<q)\/(0<p/\q<0):=by
 rcases Ie p 0 with a|a|a
 ·rcases Ie q 0 with b|b|b
  ·have:=IC a b;omega
  ·subst b;simp at h
  ·exact .inl ⟨a,b⟩
 ·subst a;simp at h
 ·rcases Ie q 0 with b|b|b
  ·exact .inr ⟨a,b⟩
  ·subst b;simp at h
  ·have:=Ib a b;omega
theorem WJ{a b:Vc}(c:Vc)(z:vc a b=0)(h:vl a*vl b<0):HQ (vc b c)=-HQ (vc a c):=by
 have e:=B1 a b c z;generalize vc b c=p at *;generalize vc a c=q at *;have k:∀{x y:Int},0<x->0<y->0<x*y:=fun h1 d=>Ib h1 d
 rcases ij h with⟨h1,d⟩|⟨h1,d⟩<;>rcases gW p with⟨f,e1⟩|⟨f,e1⟩|⟨f,e1⟩<;>rcases gW q with⟨g,e2⟩|⟨g,e2⟩|⟨g,e2⟩<;>rw[e1,e2]<;>first|rfl|(exfalso;subst_vars;first
  |(have i:=IC f h1;have j:=Ik g d;omega)
  |(have i:=Ik f h1;have j:=IC g d;omega)
  |(have i:=Il f h1;have j:=Ib g d;omega)
  |(have i:=Ib f h1;have j:=Il g d;omega)
  |(have i:=IC f h1;omega)
  |(have i:=Ik f h1;omega)
  |(have i:=Il f h1;omega)
  |(have i:=Ib f h1;omega)
  |(have j:=IC g d;omega)
  |(have j:=Ik g d;omega)
  |(have j:=Il g d;omega)
  |(have j:=Ib g d;omega))
def Na(b x y:Vc):Bool:=if HQ (vc b x)=HQ (vc b y)then decide (vc x y<0)else decide (HQ (vc b x)<HQ (vc b y))
theorem jE(b x y:Vc):Na b x y=KD↔HQ (vc b x)<HQ (vc b y)\/(HQ (vc b x)=HQ (vc b y)/\vc x y<0):=by
 unfold Na;split
 ·rename_i h;simp;omega
 ·rename_i h;simp;omega
theorem u7{b x y:Vc}(h1:PN b x)(a:PN b y)(c:PN x y):Na b x y=KD\/Na b y x=KD:=by
 rw[jE,jE];rcases Ie (vc x y) 0 with h|h|h
 ·omega
 ·have o:=c h;have e:=WJ b h o;have e1:vc x b=-vc b x:=i9 b x;have e2:vc y b=-vc b y:=i9 b y;rw[e1,e2,Int.sign_neg,Int.sign_neg]at e;by_cases ne:HQ (vc b x)=HQ (vc b y)
  ·have d:HQ (vc b x)=0:=()
   have f:HQ (vc b y)=0:=()
   have g:=ij (h1 (Int.sign_eq_zero_iff_zero.mp d));have i:=ij (a (Int.sign_eq_zero_iff_zero.mp f));have j:=ij o;omega
  ·omega
 ·have:=i9 x y;omega
theorem uC{b x y z:Vc}(h1:PN b x)(m:PN b y)(n:PN b z)(d:Na b x y=KD)(a:Na b y z=KD):Na b x z=KD:=by
 rw[jE]at *;rcases d with d|⟨d,b1⟩
 ·left;rcases a with a|⟨a,f⟩<;>omega
 ·rcases a with a|⟨a,f⟩
  ·left;omega
  ·right;refine⟨(),?_⟩;have i:=EU b x y z;rcases gW (vc b y)with⟨k,e⟩|⟨k,e⟩|⟨k,e⟩
   ·have c:vc b x<0:=by rcases gW (vc b x)with q|q|q<;>omega
    have g:vc b z<0:=by rcases gW (vc b z)with q|q|q<;>omega
    have h:=IC c f;have j:=IC g b1;rcases Ie (vc x z) 0 with q|q|q
    ·exact q
    ·rw[q]at i;simp at i;omega
    ·have:=Ik k q;omega
   ·exfalso;have c:vc b x=0:=by rcases gW (vc b x)with q|q|q<;>omega
    have l:=h1 c;have e:=WJ y c l;have:HQ (vc x y)=-1:=Ia b1;rw[k]at e;simp at e;omega
   ·have c:0<vc b x:=by rcases gW (vc b x)with q|q|q<;>omega
    have g:0<vc b z:=by rcases gW (vc b z)with q|q|q<;>omega
    have h:=Il c f;have j:=Il g b1;rcases Ie (vc x z) 0 with q|q|q
    ·exact q
    ·rw[q]at i;simp at i;omega
    ·have:=Ib k q;omega
theorem zo{a b c:Vc}(h:PN a b)(e:Na a c b=KD)(d:Na b c a=KD):False:=by
 rw[jE]at e d;have e1:vc b a=-vc a b:=i9 a b;have e2:vc c b=-vc b c:=i9 b c;have e3:vc c a=-vc a c:=i9 a c;rw[e1,Int.sign_neg]at d;rw[e2]at e;rw[e3]at d;by_cases z:vc a b=0
 ·have o:=WJ c z (h z);rw[z]at e d;simp at e d;rcases gW (vc a c)with q|q|q<;>rcases gW (vc b c)with r|r|r<;>omega
 ·rcases gW (vc a b)with p|p|p<;>rcases gW (vc a c)with q|q|q<;>rcases gW (vc b c)with r|r|r<;>omega
def rev(w:Wl):Wl:=(w.2.2.1,w.2.2.2,w.1,w.2.1)
def fw(ws:List Wl)(f:Nat):Wl:=if f%2=0 then LK ws ((f/2:Nat):Int)else rev (LK ws ((f/2:Nat):Int))
def fa(ws:List Wl)(f:Nat):Vc:=((fw ws f).1,(fw ws f).2.1)
def fb(ws:List Wl)(f:Nat):Vc:=((fw ws f).2.2.1,(fw ws f).2.2.2)
def fd(ws:List Wl)(f:Nat):Vc:=((fw ws f).2.2.1-(fw ws f).1,(fw ws f).2.2.2-(fw ws f).2.1)
def fx(f:Nat):Nat:=if f%2=0 then f+1 else f-1
theorem tE(f:Nat):fx f/2=f/2/\(fx f)%2=1-f%2:=by unfold fx;split<;>omega
theorem Be(f:Nat):fx (fx f)=f:=by unfold fx;split<;>split<;>omega
theorem jU{f n:Nat}(h:f<2*n):fx f<2*n:=by unfold fx;split<;>omega
theorem BA(ws:List Wl)(f:Nat):fw ws (fx f)=rev (fw ws f):=by
 unfold fw;rw[(tE f).1,(tE f).2];by_cases h:f%2=0
 ·rw[KH (),KI h]
 ·rw[KI (),KH h];rfl
theorem kJ(ws:List Wl)(f:Nat):fa ws (fx f)=fb ws f:=by unfold fa fb;rw[BA];rfl
theorem iB{ws:List Wl}(d:∀w∈ws,LD w)(hF:PF ws){g h:Nat}(t:g<2*ws.length)(x:h<2*ws.length)(ne:g≠h)(e:fa ws g=fa ws h):PN (fd ws g) (fd ws h):=by
 obtain⟨g1,_,f⟩:=bE (ws:=ws) (k:=((g/2:Nat):Int)) () ();obtain⟨h1,_,i⟩:=bE (ws:=ws) (k:=((h/2:Nat):Int)) () ();have U:=d _ f;have V:=d _ i;rw[K1]at g1 h1;unfold fa at e;have e1:=congrArg Prod.fst e;have e2:=congrArg Prod.snd e;unfold fd;unfold fw at *;by_cases a:g/2=h/2
 ·exfalso;rw[<-a]at e1 e2;have lt:=U.lt;unfold l1 l2 la at lt;by_cases p:g%2=0
  ·rw[KI p,KH (():¬h%2=0)]at e1 e2;unfold rev at e1 e2;dsimp only at e1 e2;omega
  ·rw[KH p,KI (():h%2=0)]at e1 e2;unfold rev at e1 e2;dsimp only at e1 e2;omega
 ·have F:=hF _ _ _ _ a g1 h1;generalize LK ws ((g/2:Nat):Int)=u at *;generalize LK ws ((h/2:Nat):Int)=v at *;intro z;have y:=U.lt;have A:=V.lt;unfold vc ML at z;have j:=F.e2;have l:=F.e4;have m:=F.e1;have n:=F.e3;have B:=F.ne;unfold aT at m j n l;unfold vl;by_cases p:g%2=0<;>by_cases q:h%2=0
  ·rw[KI p,KI q]at z e1 e2 ⊢;exfalso;simp only[]at z e1 e2;have o:LN u v=0:=by unfold LN sd ML;grind
   have r:LN v u=0:=by unfold LN sd ML;grind
   have s:l1 u=l1 v:=by unfold l1;rw[e1,e2]
   omega
  ·rw[KI p,KH q]at z e1 e2 ⊢;unfold rev at *;simp only[]at z e1 e2 ⊢;have b:la (u.2.2.1-u.1) (u.2.2.2-u.2.1)=l2 u-l1 u:=by unfold l1 l2 la;omega
   have c:la (v.1-v.2.2.1) (v.2.1-v.2.2.2)=-(l2 v-l1 v):=by unfold l1 l2 la;omega
   rw[b,c];exact Il () ()
  ·rw[KH p,KI q]at z e1 e2 ⊢;unfold rev at *;simp only[]at z e1 e2 ⊢;have b:la (u.1-u.2.2.1) (u.2.1-u.2.2.2)=-(l2 u-l1 u):=by unfold l1 l2 la;omega
   have c:la (v.2.2.1-v.1) (v.2.2.2-v.2.1)=l2 v-l1 v:=by unfold l1 l2 la;omega
   rw[b,c];exact Ik () ()
  ·rw[KH p,KH q]at z e1 e2 ⊢;unfold rev at *;exfalso;simp only[]at z e1 e2;have o:LM u v=0:=by unfold LM sd ML;grind
   have r:LM v u=0:=by unfold LM sd ML;grind
   have s:l2 u=l2 v:=by unfold l2;rw[e1,e2]
   omega
def c7(R:Nat->Nat->Bool)(o:Option Nat)(g:Nat):Option Nat:=match o with
 |none=>KA g
 |some h=>if R g h=KD then KA g else KA h
theorem fold_min{R:Nat->Nat->Bool}{S:Nat->Prop}(b:∀x y,S x->S y->x≠y->R x y=KD\/R y x=KD)(d:∀x y z,S x->S y->S z->R x y=KD->R y z=KD->R x z=KD) :
 ∀(l:List Nat) (h:Nat),S h->(∀x∈l,S x)->∃m,l.foldl (c7 R) (KA h)=KA m/\S m/\(m=h\/m∈l)/\(h=m\/R m h=KD)/\∀x∈l,x=m\/R m x=KD
 |[],h,sh,_=>⟨h,rfl,sh,.inl rfl,.inl rfl,fun x a=>by cases a⟩
 |g::l,h,sh,hl=>by
  have f:=hl g (by simp)
  rw[List.foldl_cons]
  by_cases r:R g h=KD
  ·obtain⟨m,e,c,mem,h1,i⟩:=fold_min b d l g f (fun x a=>hl x (by simp[a]))
   have j:c7 R (KA h) g=KA g:=by unfold c7;simp[r]
   rw[j]
   refine⟨m,e,c,?_,?_,?_⟩
   ·rcases mem with z|z
    ·right;simp[z]
    ·right;simp[z]
   ·right
    rcases h1 with z|z
    ·rw[<-z];exact r
    ·exact d _ _ _ c f sh z r
   ·intro x a
    rcases HW.mp a with z|z
    ·subst z;exact h1
    ·exact i x z
  ·obtain⟨m,e,c,mem,h1,i⟩:=fold_min b d l h sh (fun x a=>hl x (by simp[a]))
   have j:c7 R (KA h) g=KA h:=by unfold c7;simp[r]
   rw[j]
   refine⟨m,e,c,?_,h1,?_⟩
   ·rcases mem with z|z
    ·exact .inl z
    ·right;simp[z]
   ·intro x a
    rcases HW.mp a with z|z
    ·subst z
     by_cases ne:x=h
     ·subst ne;exact h1
     ·rcases b x h f sh ne with q|q
      ·exact absurd q r
      ·rcases h1 with z|z
       ·right;rw[<-z];exact q
       ·right;exact d _ _ _ c sh f z q
    ·exact i x z
def ym(ws:List Wl)(f g:Nat):Bool:=decide (fa ws g=fb ws f)&&decide (g≠fx f)
def i8(ws:List Wl)(f:Nat):List Nat:=(HX (2*ws.length)).filter (ym ws f)
def N0(ws:List Wl)(f g h:Nat):Bool:=Na (fd ws (fx f)) (fd ws g) (fd ws h)
def bh(ws:List Wl)(f:Nat):Nat:=((i8 ws f).foldl (c7 (N0 ws f)) KC).getD (fx f)
theorem cE{ws:List Wl}{f g:Nat}:g∈i8 ws f↔g<2*ws.length/\fa ws g=fb ws f/\g≠fx f:=by unfold i8 ym;simp[Ig]
theorem jM{ws:List Wl}(j:∀w∈ws,LD w)(hF:PF ws){f:Nat}(k:f<2*ws.length):(i8 ws f=[]/\bh ws f=fx f)\/(bh ws f∈i8 ws f/\∀x∈i8 ws f,x=bh ws f\/N0 ws f (bh ws f) x=KD):=by
 unfold bh;cases c:i8 ws f with
 |nil=>exact .inl ⟨rfl,rfl⟩
 |cons g l=>
  right
  have sub:∀x∈g::l,x<2*ws.length/\fa ws x=fb ws f/\x≠fx f:=fun x d=>cE.mp (by rw[c];exact d)
  have h:∀x,(x<2*ws.length/\fa ws x=fb ws f/\x≠fx f)->PN (fd ws (fx f)) (fd ws x):=fun x d=>iB j hF (jU k) d.1 (fun z=>d.2.2 z.symm) (by rw[kJ,d.2.1])
  obtain⟨m,e,q,mem,h1,n⟩:=fold_min (R:=N0 ws f) (S:=fun x=>x<2*ws.length/\fa ws x=fb ws f/\x≠fx f) (fun x y d i ne=>u7 (h x d) (h y i) (iB j hF d.1 i.1 ne (by rw[d.2.1,i.2.1]))) (fun x y z d i o a b=>uC (h x d) (h y i) (h z o) a b) l g (sub g (by simp)) (fun x d=>sub x (by simp[d]))
  rw[List.foldl_cons]
  have p:c7 (N0 ws f) KC g=KA g:=rfl
  rw[p,e]
  simp only[Jx]
  refine⟨by rcases mem with z|z<;>simp[z],fun x d=>?_⟩
  rcases HW.mp d with z|z
  ·subst z;exact h1
  ·exact n x z
theorem Ey{ws:List Wl}(b:∀w∈ws,LD w)(hF:PF ws){f:Nat}(a:f<2*ws.length):bh ws f<2*ws.length:=by
 rcases jM b hF a with⟨_,e⟩|⟨h,_⟩
 ·rw[e];exact jU a
 ·exact(cE.mp h).1
theorem sZ{ws:List Wl}(a:∀w∈ws,LD w)(hF:PF ws){f:Nat}(b:f<2*ws.length):fa ws (bh ws f)=fb ws f:=by
 rcases jM a hF b with⟨_,e⟩|⟨h,_⟩
 ·rw[e,kJ]
 ·exact(cE.mp h).2.1
theorem Dd{ws:List Wl}(a:∀w∈ws,LD w)(hF:PF ws){f g:Nat}(b:f<2*ws.length)(d:g<2*ws.length)(e:bh ws f=bh ws g):f=g:=by
 by_cases ne:fx f=fx g
 ·rw[<-Be f,ne,Be]
 ·exfalso;have c:fb ws f=fb ws g:=by rw[<-sZ a hF b,<-sZ a hF d,e]
  have h:fx g∈i8 ws f:=cE.mpr ⟨jU d,by rw[kJ,c],fun z=>ne z.symm⟩;have i:fx f∈i8 ws g:=cE.mpr ⟨jU b,by rw[kJ,c],ne⟩;rcases jM a hF b with⟨z,_⟩|⟨k,l⟩
  ·rw[z]at h;cases h
  ·rcases jM a hF d with⟨z,_⟩|⟨m,n⟩
   ·rw[z]at i;cases i
   ·have o:=(cE.mp k).2.2;have p:=(cE.mp m).2.2;have q:=(l _ h).resolve_left (fun z=>p (by rw[<-e,<-z]));have j:=(n _ i).resolve_left (fun z=>o (by rw[e,<-z]));rw[<-e]at j;exact zo (iB a hF (jU b) (jU d) ne (by rw[kJ,kJ,c])) q j
def MK(ws:List Wl)(f:Nat):Nat->Nat
 |0=>f
 |k+1=>bh ws (MK ws f k)
def rn(ws:List Wl)(f k:Nat):List Nat:=(HX (k+1)).map (MK ws f)
def NR(ws:List Wl)(f k:Nat):Prop:=∀i j,i<j->j<=k->MK ws f i≠MK ws f j
theorem iL(ws:List Wl)(f k:Nat):(rn ws f k).length=k+1:=by simp[rn]
theorem tO(ws:List Wl)(f k:Nat):rn ws f (k+1)=rn ws f k++[MK ws f (k+1)]:=by unfold rn;rw[JK,HR];rfl
theorem zQ(ws:List Wl)(f:Nat):rn ws f 0=[f]:=rfl
theorem vX:∀(m:Nat) (l:List Nat),l.Nodup->(∀x∈l,x<m)->l.length<=m
 |0,l,_,h=>by
  cases l with
  |nil=>simp
  |cons a l=>exact absurd (h a (by simp)) ()
 |m+1,l,nd,h=>by
  have h1:=vX m (l.erase m) (nd.erase m) (fun x b=>by
   have:=h x (List.mem_of_mem_erase b)
   have ne:x≠m:=fun z=>by
    subst z
    exact absurd b (nd.not_mem_erase)
   omega)
  have:=List.length_erase_le (a:=m) (l:=l)
  by_cases c:m∈l
  ·have:=List.length_erase_of_mem c;omega
  ·rw[List.erase_of_not_mem c]at h1;omega
section
variable{ws:List Wl}(hU:∀w∈ws,LD w)(hF:PF ws){f:Nat}(hf:f<2*ws.length)
include hU hF hf
theorem fu:∀k,MK ws f k<2*ws.length
 |0=>hf
 |k+1=>Ey hU hF (fu k)
theorem Ax{k:Nat}(h:NR ws f k)(ne:bh ws (MK ws f k)≠f):NR ws f (k+1):=fun i j a b e=>by
 by_cases q:j<=k
 ·exact h i j a q e
 ·have:j=k+1:=()
  subst this;cases i with
  |zero=>exact ne e.symm
  |succ i=>exact h i k () (Hq _) (Dd hU hF (fu hU hF hf i) (fu hU hF hf k) e)
theorem so{k:Nat}(h:NR ws f k):k+1<=2*ws.length:=by
 rw[<-iL ws f k];refine vX _ _ ?_ (fun x d=>?_)
 ·unfold rn;rw[List.nodup_iff_pairwise_ne,List.pairwise_map];refine List.Pairwise.imp_of_mem ?_ (List.pairwise_lt_range (n:=k+1));intro a b g e c;exact h a b c (by have:=JB.mp e;omega)
 ·unfold rn at d;obtain⟨i,_,rfl⟩:=IU.mp d;exact fu hU hF hf i
end
structure QL(ws:List Wl)(r:List Nat):Prop where
 ex:∃f k,f<2*ws.length/\k+1<=2*ws.length/\r=rn ws f k/\bh ws (MK ws f k)=f
theorem Ap(ws:List Wl)(f:Nat):NR ws f 0:=fun i j a b=>()
theorem round0{ws:List Wl}(b:∀w∈ws,LD w)(hF:PF ws){f k:Nat}(d:f<2*ws.length)(c:bh ws (MK ws f k)=f)(a:Vc->Rat):((rn ws f k).map fun g=>a (fb ws g)-a (fa ws g)).sum=0:=by
 have key:∀k,((rn ws f k).map fun g=>a (fb ws g)-a (fa ws g)).sum=a (fb ws (MK ws f k))-a (fa ws f):=fun k=>by
  induction k with
  |zero=>rw[zQ];simp only[Hs,Jb,Jg,List.sum_nil,Rat.add_zero];rfl
  |succ k e=>
   rw[tO,HR,List.sum_append,e]
   simp only[Hs,Jb,Jg,List.sum_nil]
   have:fa ws (MK ws f (k+1))=fb ws (MK ws f k):=sZ b hF (fu b hF d k)
   rw[this]
   grind
 rw[key,<-sZ b hF (fu b hF d k),c];grind
def PD(ws:List Wl)(g:Nat):Int:=(fa ws g).1*(fb ws g).2-(fb ws g).1*(fa ws g).2
def Nj(t b X Y:Int)(ws:List Wl)(g:Nat):Rat:=Ke t b X 1 (fa ws g).1*Ke t b Y 1 (fb ws g).2-Ke t b X 1 (fb ws g).1*Ke t b Y 1 (fa ws g).2
theorem tL(a c d:Rat)(u v w:Nat->Rat):∀l:List Nat,(l.map fun g=>a*u g+(c*v g+d*w g)).sum=a*(l.map u).sum+(c*(l.map v).sum+d*(l.map w).sum)
 |[]=>by simp;grind
 |g::l=>by
  rw[Hs,Jg,tL a c d u v w l,Hs,Jg,Hs,Jg,Hs,Jg]
  grind
theorem kO(u:Nat->Int):∀l:List Nat,(l.map fun g=>((u g:Int):Rat)).sum=(((l.map u).sum:Int):Rat)
 |[]=>by simp
 |g::l=>by
  rw[Hs,Jg,kO u l,Hs,Jg,Rat.intCast_add]
theorem wQ{ws:List Wl}(d:∀w∈ws,LD w)(hF:PF ws){r:List Nat}(h:QL ws r){t b X Y:Int}(a:0<b):(r.map (Nj t b X Y ws)).sum=((t:Rat)/b)*((t:Rat)/b)*(((r.map (PD ws)).sum:Int):Rat):=by
 obtain⟨f,k,i,_,rfl,c⟩:=h.ex;have j:=round0 d hF i c (fun p=>((p.1:Int):Rat));have l:=round0 d hF i c (fun p=>((p.2:Int):Rat))
 have e:(Nj t b X Y ws)=fun g=>(((t:Rat)/b)*((t:Rat)/b))*((PD ws g:Int):Rat)+((-(((t:Rat)/b)*((Y:Rat)/b)))*((((fb ws g).1:Int):Rat)-(((fa ws g).1:Int):Rat))+(((t:Rat)/b)*((X:Rat)/b))*((((fb ws g).2:Int):Rat)-(((fa ws g).2:Int):Rat))):=by
  funext g
  unfold Nj PD;rw[cU a,cU a,cU a,cU a,Js,Iv,Iv];grind
 rw[e,tL,kO];rw[j,l];grind
theorem sf(q:Rat)(B:Int)(h:(q.den:Int) ∣ B):((q.num*B.fdiv (q.den:Int):Int):Rat)=q*(B:Rat):=by
 obtain⟨k,rfl⟩:=h;have hd:(q.den:Int)≠0:=by have:=q.den_nz;omega
 have e:((q.den:Int)*k).fdiv (q.den:Int)=k:=by rw[Iw _ ()];exact Int.mul_ediv_cancel_left k hd
 rw[e,Iv,Iv];have a:((q.den:Int):Rat)≠0:=fun z=>hd (by exact_mod_cast z)
 have m:q*((q.den:Int):Rat)=(q.num:Rat):=by
  have e:=Jw q
  rw[JG]at e
  rw[<-e]
  have e3:((q.num:Rat)/((q.den:Int):Rat))*((q.den:Int):Rat)=(q.num:Rat):=by grind
  rw[e]at e3 ⊢
  exact e3
 rw[<-m];grind
theorem yS{n d:Int}(hd:0<d):((Rat.divInt n d).den:Int) ∣ d:=by rw[Rat.den_divInt,KH ()];have h1:d.natAbs/d.gcd n ∣ d.natAbs:=Nat.div_dvd_of_dvd (Int.ofNat_dvd_left.mp (Int.gcd_dvd_left d n));exact Int.ofNat_dvd_left.mpr h1
section
variable{X:Cx}
def Eo:Lk:=Ni (fun _ _=>True) fun i j=>.int (Builtin.bitXor i j)
theorem Cr:Lr X (Jt .BitXor) Eo:=dj (QY Ck) fun _ _ _=>by rw[Rep]
variable{o:Expr}{to:TD}{apos KU:Pos}
end
theorem C4:∀f:Nat,f<80->Builtin.bitXor (f:Int) 1=((fx f:Nat):Int):=⋯
def QI(n:Nat)(S:Int->Bool):H0->Hp->Addr->Prop:=fun K H a=>∃kvs:List (Key×V),H a=KA (.dK kvs)/\kvs.length<=n/\∀i:Int,(kvs.any fun b=>decide (b.1=Sum.inl i))=S i
def Oy(n:Nat)(S:Int->Bool):MO:=.gen (QI n S)
section
variable{K:H0}{H H':Hp}{M:MH}{a:Addr}
theorem QI.yr{n:Nat}{S:Int->Bool}(h:QI n S K H a):lz K H a (Oy n S):=⟨h,(by obtain⟨kvs,h1,_⟩:=h;rw[h1];simp),fun H' g e=>let⟨kvs,h1,b⟩:=h;⟨kvs,e.trans h1,b⟩⟩
theorem LG.di{n:Nat}{S:Int->Bool}(h:LG K H M)(e:M a=KA (Oy n S)):QI n S K H a:=(h a _ e).1
theorem LG.Ec{p:Addr}(h:LG K H M)(b:H p=KC):LG K (upd H p (.dK [])) (ar M p (Oy 0 fun _=>KG)):=fun a u e=>by
 by_cases ne:a=p
 ·subst ne;rw[ai]at e;cases e;exact QI.yr ⟨[],aH,Hq _,fun _=>rfl⟩
 ·rw[aq ne]at e;exact(h a u e).eK (.new b) (aE ne)
theorem Ky.dK{kvs:List (Key×V)}{o:HO}(h:H a=KA (.dK kvs)):Ky K H (upd H a o):=.put (fun xs e=>by rw[h]at e;cases e) (fun u xs e=>by rw[h]at e;cases e)
theorem LG.EN{n:Nat}{S:Int->Bool}{kvs:List (Key×V)}{i:Int}{v:V}(h:LG K H M)(b:H a=KA (.dK kvs))(g:kvs.length<=n)(d:∀i:Int,(kvs.any fun f=>decide (f.1=Sum.inl i))=S i) : LG K (upd H a (.dK (putK kvs (.inl i) v))) (ar M a (Oy (n+1) fun j=>decide (j=i)||S j)):=fun c u e=>by
 by_cases ne:c=a
 ·subst ne;rw[ai]at e;cases e;refine QI.yr ⟨_,aH,by have:=fN kvs (.inl i) v;omega,fun j=>?_⟩;rw[dq,xi];by_cases z:j=i
  ·subst z;rw[KI rfl];simp
  ·rw[KH (fun q=>z (by injection q)),<-dq,d];simp[z]
 ·rw[aq ne]at e;exact(h c u e).eK (.dK b) (aE ne)
end
section
variable{X:Cx}{pos:Pos}
def DY:TD:=fun _ M Q=>∀p,M p=KC->Q (.ref p) (ar M p (Oy 0 fun _=>KG))
theorem xu:DE X (.Dict [] [] pos) DY:=aV vR fun σ H Q a=>by obtain⟨δ,M,R,e,d,q,b⟩:=a;exact(fun p c=>b _ _ _ _ (.new c) (by rw[Rep]) (d.Ec c) (q p (d.fresh c)))
def A4(g:Bool->Bool)(ty b:TD):TD:=fun δ M Q=>ty δ M fun y c=>b δ c fun x a=>∃i l n S,y=.int i/\x=.ref l/\a l=KA (Oy n S)/\Q (.bl (g (S i))) a
theorem yQ{K:H0}{g:Bool->Bool}{ty e:TD}{σ:L2.St}{H:Hp}{Q:VK}(h:lift K (A4 g ty e) σ H Q) : (lift K ty) σ H fun y H1=>(lift K e) σ H1 fun x c=>∃a o,x=.ref a/\Dc c a y o/\Q (.bl (g o.isSome)) c:=by obtain⟨δ,M,R,f,p,q,d⟩:=h;refine⟨δ,M,_,f,p,q,fun y r v H1 g1 j s t=>⟨δ,r,_,f.mono g1,s,t,fun x D u c w k m b=>?_⟩⟩;obtain⟨i,l,n,S,z,ex,A,B⟩:=b;subst z ex;rw[Rep]at j;rw[Rep]at k;subst j k;obtain⟨kvs,h1,E,C⟩:=m.di A;refine⟨l,d5 kvs (.inl i),rfl,.inl ⟨kvs,.inl i,.inl h1,rfl,rfl⟩,?_⟩;rw[<-dq,C];exact d _ _ _ _ (g1.trans w) (by rw[Rep]) m B
variable{e1 e2:Expr}{ty td:TD}
theorem qK(o:X.A.units+66<IZ)(h1:DE X e1 ty)(j:DE X e2 td)(k:K5 .NotIn e2=KG:=by rfl):DT X (.Compare e1 [.NotIn] [e2] pos) (tBD (A4 (fun b=>!b) ty td)):=
 iy (BO (uN () h1 j) k) fun σ H Q e=>by obtain⟨δ,M,R,l,m,q,h⟩:=e;exact(yQ (g:=fun b=>!b) (Q:=fun x i=>∃c,x=.bl c/\Q c i) ⟨δ,M,_,l,m,q,fun d p v i g r a f=>by
  obtain⟨c,n,z⟩:=f
  subst n
  rw[Rep]at r;subst r
  exact⟨c,rfl,h _ _ _ g a z⟩⟩)
def CW(td ty b:TD):Ld:=fun B δ M=>b δ M fun d c=>td δ c fun x e=>ty δ e fun y a=>∃l i n S,x=.ref l/\y=.int i/\a l=KA (Oy n S)/\n<1000000/\B.nx δ (ar a l (Oy (n+1) fun j=>decide (j=i)||S j))
theorem v8{o i a:Expr}{h:TD}{b:Pos}(T:X.A.units+66<IZ)(t:DE X o td)(w:DE X i ty)(z:DE X a h)(f:JR a (KA (.Subscript o i b)) pos.line X.env=pure KG:=by rfl):DSt X (.Assign [.Subscript o i b] a pos) (CW td ty h):=
 b5 (zk () t w z f) fun D σ H c=>by obtain⟨δ,M,f,C,B,ok,q⟩:=c;exact(⟨δ,M,_,f,C,q,fun d E v H1 g1 U F G=>⟨δ,E,_,f.mono g1,F,G,fun x I u V g j J L=>⟨δ,I,_,(f.mono g1).mono g,J,L,fun y W Y k m p r e=>by
  obtain⟨l,i,n,S,ex,N,O,Z,P⟩:=e
  subst ex N
  rw[Rep]at j;rw[Rep]at p;subst j p
  obtain⟨kvs,h1,Q,R⟩:=r.di O
  have sz:1000000<=Hy:=LB rfl
  have s:Ky X.K k (upd k l (.dK (putK kvs (.inl i) v))):=.dK h1
  exact⟨l,_,rfl,.inl ⟨kvs,.inl i,h1,rfl,(),rfl⟩,ok.nx _ _ _ _ (((g1.trans g).trans m).trans s) (f.mono (((g1.trans g).trans m).trans s)) (r.EN h1 Q R) P⟩⟩⟩⟩)
end
def zl(ws:List Wl)(f:Nat)(r:List Nat):Prop:=∃a,NR ws f a/\bh ws (MK ws f a)=f/\r=rn ws f a
theorem AR{ws:List Wl}{f:Nat}{r c:List Nat}(h:zl ws f r)(h':zl ws f c):r=c:=by
 obtain⟨k,n,e,rfl⟩:=h;obtain⟨d,g,i,rfl⟩:=h';have no:∀{a b:Nat},NR ws f b->bh ws (MK ws f a)=f->¬a<b:=fun{a b} n e l=>n 0 (a+1) () () e.symm;have h1:=no g e;have j:=no n i;have:k=d:=()
 rw[this]
def ND(ws:List Wl):Nat->List (List Nat)->Prop
 |0,rs=>rs=[]
 |i+1,rs=>∃qs,ND ws i qs/\((i∈qs.flatten/\rs=qs)\/(i∉qs.flatten/\∃r,zl ws i r/\rs=qs++[r]))
theorem iR{ws:List Wl}:∀{i:Nat} {rs b:List (List Nat)},ND ws i rs->ND ws i b->rs=b
 |0,rs,b,h,h'=>by rw[show rs=[]from h,show b=[]from h']
 |i+1,rs,b,⟨qs,h1,h2⟩,⟨qs',h1',h2'⟩=>by
  have:=iR h1 h1'
  subst this
  rcases h2 with⟨a,rfl⟩|⟨a,r,e,rfl⟩
  ·rcases h2' with⟨c,rfl⟩|⟨c,_⟩
   ·rfl
   ·exact absurd a c
  ·rcases h2' with⟨c,_⟩|⟨c,f,d,rfl⟩
   ·exact absurd c a
   ·rw[AR e d]
def RL(M:MH)(ps:List Addr)(rs:List (List Nat)):Prop:=Kb (fun(p:Addr) (r:List Nat)=>M p=KA (.lst (r.map fun g:Nat=>D.int (g:Int)))) ps rs
theorem RL.len{M:MH}{ps:List Addr}{rs:List (List Nat)}(h:RL M ps rs):ps.length=rs.length:=by
 unfold RL at h
 induction h with
 |nil=>rfl
 |cons _ _ a=>rw[Iu,Iu,a]
theorem RL.mono{M b:MH}{ps:List Addr}{rs:List (List Nat)}(h:RL M ps rs)(s:∀p∈ps,∀o,M p=KA o->b p=KA o):RL b ps rs:=by
 unfold RL at *
 induction h with
 |nil=>exact .nil
 |cons a _ c=>exact .cons (s _ (by simp) _ a) (c fun p d o e=>s p (by simp[d]) o e)
theorem RL.snoc{M:MH}{ps:List Addr}{rs:List (List Nat)}{p:Addr}{r:List Nat}(h:RL M ps rs)(e:M p=KA (.lst (r.map fun g:Nat=>D.int (g:Int)))):RL M (ps++[p]) (rs++[r]):=Paired.snoc h e
section
variable{X:Cx}
def p0(us:List (Int×Int))(i:Nat):Int×Int:=us.getD i (0,0)
theorem rP{us:List (Int×Int)}{i:Nat}(h:i<us.length):p0 us i∈us:=by unfold p0;rw[List.getD_eq_getElem?_getD,Hl h];exact Iz h
variable{prog:HF}{w:Ih}{A:Ij}{E:Hj->Hk->Prop}{s:Hk}
end
section
variable{X:Cx}
def Lx(u v:Int×Int):Prop:=100*u.1+u.2<100*v.1+v.2
end
def jx(h:Heap)(d:Addr)(es:Array IL)(ep:Nat):Prop:=∃o,h.get? d=KA o/\o.ExactDict/\o.data=.dict es ep
section
variable{prog:HF}{w:Ih}{A:Ij}{E:Hj->Hk->Prop}{s:Hk}{d it:Addr}{es:Array IL}{ep i:Nat}
theorem jx.ty(h:jx s.heap d es ep):s.TypeIs (.ref d) "dict":=let⟨o,a,b,_⟩:=h;⟨o,a,b.1⟩
theorem jx.kept{h h':Heap}(q:jx h d es ep)(k:∀o,h.get? d=KA o->h'.get? d=KA o):jx h' d es ep:=let⟨o,a,b⟩:=q;⟨o,k o a,b⟩
theorem jx.lt{h:Heap}(q:jx h d es ep):d<h.objs.size:=let⟨_,a,_⟩:=q;Hz a
theorem wO{Q:Hj->Hk->Prop}(e:(d==Jj)=KG)(b:jx s.heap d es ep)
 (q:Q (.ref s.heap.objs.size) { s with heap:=s.heap.push { cls:=.type "dict_keyiterator",data:=.fields #[.ref d,.int 0 0,.int es.size 0,.int ep 0] } }):Hu (HC prog w) A (pyIter (.ref d)) Q E s:=by
 have a:=b.ty
 obtain⟨o,g1,f,c⟩:=b
 refine wpAny_pyIter_slot a F.slot_dict_iter (wpAny_call_entry F.slot_dict_iter a F.entry_dict_iter ?_ (F.args_dict_iter_1 _))
 unfold K8.«dict.__iter__»
 refine cc ?_
 unfold Builtin.Dict.dictSlotNone
 refine cc (wpAny_notOrdered_dict a ?_)
 show Hu _ _ (pure (Ii d)) _ _ s
 refine Hm ?_
 show Hu _ _ (Builtin.Dict.showsAll d >>= _) _ _ s
 unfold Builtin.Dict.showsAll
 rw[KH (by rw[e];exact HJ)]
 refine cc (Hm (cc (wpAny_dictEntries g1 c (cc (wpAny_dictEpoch g1 c ?_)))))
 refine cc (IS (Hm ⟨_,rfl,"dict_keyiterator",_,⟨_,HG _ rfl,rfl⟩,Jh.lookup,?_⟩))
 simpa[rawInt]using q
theorem wz{Q:Option Hj->Hk->Prop}(b:s.heap.IsKeyIter it d i es.size ep)(g:jx s.heap d es ep)(h:i<es.size)
 (j:∀h':Heap,h'.IsKeyIter it d (i+1) es.size ep->K0 it s.heap h'->Q (KA es[i].key) { s with heap:=h' }):Hu (HC prog w) A (pyNext (.ref it)) Q E s:=by
 obtain⟨o,c,k,hd⟩:=id b
 obtain⟨od,g1,l,e⟩:=g
 have a:=b.typeIs
 unfold pyNext
 refine cc (wpAny_attempt (wpAny_callSpecial?_slot (name:=J1 "__next__") a Jh (wpAny_call_entry Jh a F.entry_dict_keyiterator_next ?_ (F.args_dict_keyiterator_next_1 _))))
 refine cc (Hm (cc (cc ?_)))
 first|refine cc (JE a (Hm ?_))|refine cc (wpAny_typeNameOf_keyiter a (Hm ?_))
 refine cc (wpAny_fieldsOf c hd ?_)
 simp only[show Builtin.Dict_items.ownsTuple "dict_keyiterator"=KG by decide,IW,if_false]
 show Hu _ _ (if(Ii d==Jq)=KD then _ else _) _ _ s
 rw[KH (show ¬((Ii d==Jq)=KD)from HJ)]
 refine cc (Hm (cc (wpAny_dictEntries g1 e ?_)))
 rw[KH (by simp)]
 refine cc (Hm (cc (wpAny_dictEpoch g1 e ?_)))
 rw[KH (by simp)]
 refine Hm ?_
 simp only[show ¬((i:Int)<0)from by omega,if_false,K1,Array.getElem?_eq_getElem h]
 refine cc ?_
 first|refine cc (JE a (Hm ?_))|refine cc (wpAny_typeNameOf_keyiter a (Hm ?_))
 refine cc (wpAny_isOneOf_keyiter a ?_)
 show Hu _ _ (setField (.ref it) 1 (rawInt ((i:Int)+1)) >>= _) _ _ s
 refine cc (wpAny_setField c hd (by simp) ?_)
 have f:(s.heap.update it (Obj.mapFields (·.setIfInBounds 1 (rawInt ((i:Int)+1))))).IsKeyIter it d (i+1) es.size ep:=
  ⟨_,J7 _ c (Obj.isFreed_of_fields (Obj.data_mapFields hd _)),(Obj.cls_mapFields ..).trans k,by rw[Obj.data_mapFields hd];simp[rawInt]⟩
 refine cc (J4 (cc (wpAny_isOneOf_keyiter (s:={ s with heap:=s.heap.update it (Obj.mapFields (·.setIfInBounds 1 (rawInt ((i:Int)+1)))) }) f.typeIs ?_)))
 show Hu _ _ (pure es[i].key) _ _ _
 exact Hm (Hm ⟨_,rfl,Hm (j _ f (Heap.SameBut.update ..))⟩)
theorem zK{Q:Option Hj->Hk->Prop}(h:A.handled=KC)(e:s.heap.IsKeyIter it d es.size es.size ep)(j:jx s.heap d es ep)
 (k:∀h',Heap.ExtBut it s.heap h'->Q KC { s with heap:=h' }):Hu (HC prog w) A (pyNext (.ref it)) Q E s:=by
 obtain⟨o,f,l,hd⟩:=id e
 obtain⟨od,g1,n,g⟩:=j
 have c:=e.typeIs
 unfold pyNext
 refine cc (wpAny_attempt (wpAny_callSpecial?_slot (name:=J1 "__next__") c Jh (wpAny_call_entry Jh c F.entry_dict_keyiterator_next ?_ (F.args_dict_keyiterator_next_1 _))))
 refine cc (Hm (cc (cc ?_)))
 first|refine cc (JE c (Hm ?_))|refine cc (wpAny_typeNameOf_keyiter c (Hm ?_))
 refine cc (wpAny_fieldsOf f hd ?_)
 simp only[show Builtin.Dict_items.ownsTuple "dict_keyiterator"=KG by decide,IW,if_false]
 show Hu _ _ (if(Ii d==Jq)=KD then _ else _) _ _ s
 rw[KH (show ¬((Ii d==Jq)=KD)from HJ)]
 refine cc (Hm (cc (wpAny_dictEntries g1 g ?_)))
 rw[KH (by simp)]
 refine cc (Hm (cc (wpAny_dictEpoch g1 g ?_)))
 rw[KH (by simp)]
 refine Hm ?_
 simp only[show ¬((es.size:Int)<0)from by omega,if_false,K1,Array.getElem?_eq_none (Hq es.size)]
 refine cc ?_
 first|refine cc (JE c (Hm ?_))|refine cc (wpAny_typeNameOf_keyiter c (Hm ?_))
 show Hu _ _ (setField (.ref it) 0 .none >>= _) _ _ s
 refine cc (wpAny_setField f hd (by simp) ?_)
 show Hu _ _ (newExc (.type "StopIteration") [] >>= _) _ _ _
 refine cc ?_
 simp only[newExc,newTuple]
 refine cc (IS ?_ (by size_fits))
 refine cc (m:=firstArgMember _ _) (wpAny_of_eq (a:=Jq) (by first|rfl|(simp only[firstArgMember];rfl)) ?_)
 refine IS ?_ (by size_fits)
 simp only[raiseNew]
 refine cc (wpAny_handled ?_)
 rw[show A.in1.handled=KC from h]
 refine cc (Hm (wpAny_throw ?_))
 refine cc (wpAny_isInstance (T:="StopIteration") (b:=KD) ⟨_,HG _ rfl,rfl⟩ isSubtype_stop ?_)
 exact Hm (k _ (((Heap.SameBut.update ..).extBut.push _).push _))
theorem t9(m:A.handled=KC)(I d:Addr)(f:d≠I)(es:Array IL)(ep:Nat):Walks prog w A I [I,d] [I] es.size (fun i v=>∃e,es[i]?=KA e/\v=e.key) (fun i h=>h.IsKeyIter I d i es.size ep/\jx h d es ep) where
 sub:=fun b a=>by simp at a;simp[a]
 frame:=fun _ _ _ st j=>⟨st.1.at fun o e=>j I (by simp) o e,st.2.kept fun o e=>j d (by simp) o e⟩
 item:=fun i s Q E k st c=>wz st.1 st.2 k fun g n l=>c _ g s.toks ⟨es[i],by simp[k],rfl⟩ ⟨n,st.2.kept fun o e=>(l.2 d f).trans e⟩ fun b o a e=>l.extBut b o (fun h=>a (by simp[h])) e
 done:=fun s Q E st c=>zK m st.1 st.2 fun g p=>c g s.toks fun b o a e=>p b o (fun h=>a (by simp[h])) e
 self:=fun _ _ _ _ st c=>wpAny_pyIter_keyiter st.1 c
theorem zr(c:(d==Jj)=KG):PySem.W.KdlSrc prog w "dict" d d es.size (fun i v=>∃e,es[i]?=KA e/\v=e.key) (fun h=>jx h d es ep) where
 type:=fun _ a=>a.ty
 there:=fun _ a=>⟨a.lt,a.lt⟩
 keep:=fun _ _ a f=>a.kept fun o e=>f d (.inl rfl) o e
 notList:=⋯
 notTuple:=⋯
 hint:=fun _ _ _ _ a b=>PySem.W.kdl_hint_dict a.ty b
 iter:=fun _ _ g a=>⟨_,_,(fun _ _ b=>wO c a b),t9 g _ d (Im a.lt) es ep,⟨⟨_,HG _ rfl,rfl,rfl⟩,a.kept fun o e=>Ho _ e⟩⟩
end
section
variable{X:Cx}
theorem yC{P:HF}{w:Ih}{xs:List Lq}{a:List (LV×Addr×Hj)}(r:Kb PB xs a):(a.map (entryOfKey (eD P w))).map (·.key)=xs.map fun x=>Ii x.2.1:=by
 induction r with
 |nil=>rfl
 |cons h t b=>simp only[Hs,b,h.2.1];rfl
theorem mR:∀xs:List Lq,Vals (xs.map fun x=>V.ref x.2.1) (xs.map fun x=>Ii x.2.1)
 |[]=>.nil
 |x::xs=>.cons rfl (mR xs)
theorem p5(j:X.calm=KD):bY X (.type "list") (fun vs H Q=>∃p xs,vs=[.ref p]/\H p=KA (.ext (b4 X.prog X.w p xs))/\∀l,H l=KC->Q (.ref l) (upd H l (.lst (xs.map fun x=>V.ref x.2.1)))):=by
 intro KQ s σ H vs us Q I r k;obtain⟨p,xs,m,n,q⟩:=k;subst m;obtain⟨u,rfl,t⟩:=vals1 r;cases t;obtain⟨⟨h1,f,E,F,g,o,es,ep,v,y,z,h⟩,_⟩:=I.hok p _ n;have A:es.size=xs.length:=by rw[<-Array.length_toList,h,Hn,nQ g]
 refine PySem.W.kdl_call (zr (es:=es) (ep:=ep) h1) (I.ok.hd j) ⟨o,v,y,z⟩ (by rw[A];exact f) fun B C a c kp D it=>?_
 have ea:a.toList=xs.map fun x=>Ii x.2.1:=by
  rw[<-yC (P:=X.prog) (w:=X.w) g,<-h];apply List.ext_getElem?;intro i;by_cases d:i<es.size
  ·have b:i<a.size:=by rw[it.1];exact d
   obtain⟨e,e1,e2⟩:=it.2 i a[i] (by simp[b]);simp[b,d]at e1 ⊢;rw[e2,<-e1]
  ·have b:¬i<a.size:=by rw[it.1];exact d
   simp[d,b]
 refine⟨.ref s.heap.objs.size,_,I.laid (t':=C) kp (Hq _) (show bG X.prog X.w _ B _ (.lst _)from⟨by rw[Hn];exact f,_,c,mR xs,?_⟩),rfl,q _ (I.hok.fresh (Hq _))⟩;rw[<-ea,Array.toArray_toList];exact D
def Dq:RC:=fun a M Q=>xT a M Q\/∃l kvs,a=[.ref l]/\M l=KA (MV kvs)/\∀p,M p=KC->Q (.ref p) (ar M p (.lst (kvs.map fun x=>Ng x.1)))
theorem mx{K:H0}{H:Hp}:∀{kvs:Ly} {xs:List Lq},xs.map (·.1)=kvs.map (·.1)->(∀x∈xs,dh K H x.2.1 x.1)->aB K H (kvs.map fun x=>Ng x.1) (xs.map fun x=>V.ref x.2.1)
 |[],[],_,_=>by rw[Jb,Jb];exact aB.nil
 |y::kvs,x::xs,h,k=>by
  rw[Hs,Hs]at h
  injection h with e1 e2
  rw[Hs,Hs]
  exact aB.cons (by rw[<-e1];exact wW (k x (by simp))) (mx e2 fun z a=>k z (by simp[a]))
 |[],_::_,h,_=>by cases h
 |_::_,[],h,_=>by cases h
theorem xN(f:X.calm=KD):cW X (.type "list") Dq:=by
 intro KQ s σ H vs us Q I d g;obtain⟨h,M,R,e,a,q,b⟩:=g;rcases q with q|⟨l,kvs,i,j,q⟩
 ·exact AE KQ s σ H vs us Q I d ⟨h,M,R,e,a,q,b⟩
 ·subst i;obtain⟨v,rfl,r⟩:=b8 e;rw[Rep]at r;subst r;obtain⟨xs,h1,k,m,n⟩:=a.dsp j;exact p5 f KQ s σ H _ us Q I d ⟨_,xs,rfl,h1 _ _,fun z c=>b (.ref z) _ _ _ (.new c) (by rw[Rep]) (a.lJ c (mx k m)) (q z (a.fresh c))⟩
end
def Mh(t b X Y:Int)(u:Vc):D:=Kn (Ke t b X 1 u.1) (Ke t b Y 1 u.2)
def gk(t b X Y:Int)(u:Vc):LV:=((Ke t b X 1 u.1).num,((Ke t b X 1 u.1).den:Int),(Ke t b Y 1 u.2).num,((Ke t b Y 1 u.2).den:Int))
theorem wR(t b X Y:Int)(u:Vc):Mh t b X Y u=Ng (gk t b X Y u):=rfl
theorem vT{t b X Y:Int}(a:0<t)(c:0<b){p q:Vc}(h:gk t b X Y p=gk t b X Y q):p=q:=by unfold gk at h;injection h with h1 h;injection h with d h;injection h with e f;have e1:Ke t b X 1 p.1=Ke t b X 1 q.1:=Rat.ext h1 (by exact_mod_cast d);have e2:Ke t b Y 1 p.2=Ke t b Y 1 q.2:=Rat.ext e (by exact_mod_cast f);have g:=(Kl a c ⋯ ⋯).mp e1;have i:=(Kl a c ⋯ ⋯).mp e2;exact Prod.ext () ()
def L9(u:Vc):Prop:=(0<=u.1/\u.1<=20)/\(0<=u.2/\u.2<=20)
def ea(w:Wl):Vc:=(w.1,w.2.1)
def eb(w:Wl):Vc:=(w.2.2.1,w.2.2.2)
theorem LD.ea{w:Wl}(h:LD w):L9 (ea w):=⟨h.a,h.b⟩
theorem LD.eb{w:Wl}(h:LD w):L9 (eb w):=⟨h.c,h.d⟩
theorem yA{a c:List Vc}(b:a.Perm c)(d:a.Pairwise Lx)(e:c.Pairwise Lx):a=c:=List.Perm.eq_of_pairwise (le:=Lx) (fun x y _ _ h1 f=>by unfold Lx at h1 f;omega) d e b
theorem C6{ps:List Vc}{u:Vc}{j:Nat}(h:ps.Pairwise Lx)(k:j<=ps.length)(h1:∀i,i<j->Lx (p0 ps i) u)(e:∀i,j<=i->i<ps.length->Lx u (p0 ps i)):(fj ps j u).Pairwise Lx/\(fj ps j u).Perm (u::ps):=by
 constructor
 ·unfold fj;rw[List.pairwise_append]
  have lt:∀x∈ps.take j,Lx x u:=fun x b=>by
   obtain⟨i,c,rfl⟩:=List.getElem_of_mem b
   have a:i<j/\i<ps.length:=by rw[Ju]at c;omega
   have:=h1 i a.1
   unfold p0 at this
   simpa[a.2]using this
  have gt:∀x∈ps.drop j,Lx u x:=fun x b=>by
   obtain⟨i,c,rfl⟩:=List.getElem_of_mem b
   have a:j+i<ps.length:=by rw[List.length_drop]at c;omega
   have:=e (j+i) () a
   unfold p0 at this
   simpa[a]using this
  refine⟨h.sublist (List.take_sublist _ _),List.pairwise_cons.mpr ⟨gt,h.sublist (List.drop_sublist _ _)⟩,fun x b y d=>?_⟩;rcases HW.mp d with rfl|d
  ·exact lt x b
  ·have f:=lt x b;have g:=gt y d;unfold Lx at f g ⊢;omega
 ·unfold fj;have:(ps.take j++u::ps.drop j).Perm (u::(ps.take j++ps.drop j)):=List.perm_middle
  rwa [List.take_append_drop]at this
theorem vg{t b X Y:Int}(a:0<t)(c:0<b){u v:Vc}(d:L9 u)(e:L9 v):Kg (Ke t b X 1 u.1) (Ke t b Y 1 u.2) (Ke t b X 1 v.1) (Ke t b Y 1 v.2)↔Lx u v:=nj a c d.2 e.2
theorem L9.bx{t b X Y:Int}(S:Lc t b X Y){u:Vc}(h:L9 u):Kf 200 (Ke t b X 1 u.1):=S.bx ⋯ (by have:=h.1;omega)
theorem L9.by'{t b X Y:Int}(S:Lc t b X Y){u:Vc}(h:L9 u):Kf 200 (Ke t b Y 1 u.2):=S.by' ⋯ (by have:=h.2;omega)
theorem Aw{u v:Vc}(a:L9 u)(b:L9 v)(ne:u≠v)(h:¬Lx u v):Lx v u:=by
 have h1:=a.2;have c:=b.2;unfold Lx at h ⊢;by_cases e:100*u.1+u.2=100*v.1+v.2
 ·exact absurd (Prod.ext () ()) ne
 ·omega
section
variable{X:Cx}{KQ:List (Addr×Obj)}{σ:L2.St}{H:Hp}{s:Hk}{a b:Addr}{k:LV}
theorem yo{A:Ij}{E:Hj->Hk->Prop}{Q:Unit->Hk->Prop}{xs:List Lq}{v:V}{u:Hj}(F:A.units+8<IZ)(I:L2.Inv X KQ σ H s)(e:H a=KA (.ext (b4 X.prog X.w a xs)))(i:∀x∈xs,dh X.K H x.2.1 x.1)(j:dh X.K H b k)(f:RelV v u)(G:xs.length<Hy)
 (h:∀g,L2.Inv X KQ σ (upd H a (.ext (b4 X.prog X.w a (gm xs k b v)))) g->Q .unit g):Hu (HC X.prog X.w) A (dictSet a (.ref b) u) Q E s:=by
 obtain⟨hd,l,J,r,m⟩:=qz I e i
 refine wpAny_dictSet_heap (knd:=eD X.prog X.w) (hsz:=by rw[<-nQ r];exact l) (():A.units+4<IZ) (sG I j) m fun L c n=>h _ ?_
 obtain⟨q,o,p,d,t,z,B,_,C⟩:=c
 refine jK I (by rw[e];exact Jv) n ⟨q,d⟩ ⟨⟨hd,?_,?_,_,jG r k b f,q,o,p,d,t,z,B⟩,⟨q,d⟩,fun h1 D x y=>m8 h1 D x y⟩
 ·have:=oh xs k b v;omega
 ·rw[<-jO (jG r k b f)];exact C
end
theorem qe{prog:HF}{w:Ih}{A:Ij}{R:Result->Hk->Prop}{s:Hk}{f g a b:Expr}{d:List Expr}{scope:JC}{pos:Pos}{it:Hj}{D:Addr}{env:Env}(J:Nat->Hk->Prop)
 (step:∀n s,J n s->Hu (HC prog w) A (pyNext it) (fun r i=>match r with
  |none=>R (.ok .next) i
  |some v=>Hu (HC prog w) A (Jr a it v) (fun _ k=>Hu (HC prog w) A (K9 a env v) (fun _ l=>
   Hu (HC prog w) A (forIn d KD fun c r=>if r=KD then do let ok <-isTrue c env (eval c env);pure (JJ ok)else pure (JJ r)) (fun ok j=>
    if ok=KD then Hu (HC prog w) A (eval f env) (fun o p=>Hu (HC prog w) A (eval g env) (fun q t=>Hu (HC prog w) A (dictSet D o q) (fun _ u=>∃m,m<n/\J m u) Lf t) Lf p) Lf j
    else ∃m,m<n/\J m j) Lf l) Lf k) Lf i) Lf s)
 (n:Nat) (h:J n s):Jo (HC prog w) A (.compLoop (.DictComp f g [⟨a,b,d,0⟩] scope pos) 0 it (.ref D) env) R s:=by
 have no:∀{E:Hj->Hk->Prop} e y,Lf e y->E e y:=fun _ _ z=>z.elim
 refine codeAny_loop rfl J (fun n s C=>?_) n h
 show Hu _ _ (Sem.onRaise (compTurn (.DictComp f g [⟨a,b,d,0⟩] scope pos) 0 it (.ref D) env) (fun x=>do noteFrame x env;theTreesLotGoes x)) _ _ s
 refine wpAny_noted ?_
 rw[compTurn_dict]
 refine cc (J5 (cc (Hx (step n s C) (fun r i h1=>?_) no)))
 cases r with
 |none=>exact Hm h1
 |some v=>
  refine cc (Hx h1 (fun _ k F=>cc (Hx F (fun _ l G=>cc (Hx G (fun ok j B=>?_) no)) no)) no)
  cases ok with
  |false=>exact Hm ⟨rfl,B⟩
  |true=>exact cc (cc (Hx B (fun o p H=>cc (J4 (Hx H (fun q t I=>cc (J5 (J4 (Hx I (fun _ u K=>Hm ⟨rfl,K⟩) no)))) no))) no))
def wb(X:Cx)(js:List Nat)(own:Own)(tc:TT)(tk te:TE)(σ:L2.St)(J:It)(H1:Hp)(Q:VK):Prop:=∀D,H1 D=KC->∃W:Nat->Nat->Hp->Prop,(∃m,W 0 m (upd H1 D (.ext (b4 X.prog X.w D []))))/\∀i m H,W i m H->
 (J.stop i H/\Q (.ref D) H)\/(J.go i H/\∀y d,J.yld i H y d->∃os,own y d os/\tc (cσ os js σ) d fun b e=>if b=KD then
  tk (cσ os js σ) e fun f g=>te (cσ os js σ) g fun v c=>∃b k xs,f=.ref b/\c D=KA (.ext (b4 X.prog X.w D xs))/\(∀x∈xs,dh X.K c x.2.1 x.1)/\dh X.K c b k/\xs.length<Hy/\∃a,a<m/\W (i+1) a (upd c D (.ext (b4 X.prog X.w D (gm xs k b v))))else ∃a,a<m/\W (i+1) a e)
def tH(X:Cx)(js:List Nat)(own:Own)(a:TI)(tc:TT)(tk te:TE):TE:=fun σ H Q=>a σ H fun J H1=>wb X js own tc tk te σ J H1 Q
section
variable{X:Cx}{xs:List Str}{tg:Expr}{pos:Pos}{js:List Nat}{scope:JC}{kx vx iter:Expr}{ifs:List Expr}{tk te:TE}{tc:TT}{g:TG}{own:Own}{wi:TI}{KQ:List (Addr×Obj)}{σ:L2.St}{H:Hp}{s:Hk}{fp:List Addr}{it:Addr}{tn:Nat->Heap->Prop}{J:It}
theorem uZ(c:Kw X xs js scope)(hc:X.calm=KD)(hG:MY xs.length g own)(hg:∀C s H fp,PG (LJ X xs js scope C s H fp) tg g)(ht:∀C s H fp,Pq (LJ X xs js scope C s H fp) ifs tc)(hk:∀C s H fp,PE (LJ X xs js scope C s H fp) kx tk)(he:∀C s H fp,PE (LJ X xs js scope C s H fp) vx te)(hu:X.A.units+8<IZ)
 {R:Hj->Addr->Result->Hk->Prop} {E:Hj->Hk->Prop} {Q:VK}
 (I:Inv X KQ σ H s) (T:Turn X.prog X.w X.K tg J fp it tn) (st:tn 0 s.heap) (hf:∀b∈fp,cL X KQ H b) (wc:wb X js own tc tk te σ J H Q)
 (hR:∀D C h G,Inv X KQ σ h G->cL X KQ h C->(∃m,G.heap.Ns C m)->Q (.ref D) h->R (.ref D) C (.ok .next) G) :
 Hu (HC X.prog X.w) X.A newDict (fun c0 d0=>Hu (HC X.prog X.w) X.A (newFunctionEnv scope X.env.globals (d7 scope.names X.env) [] X.env.qual KC .none (KA X.env)) (fun N e0=>
  Jo (HC X.prog X.w) X.A (.compStart (.DictComp kx vx [⟨tg,iter,ifs,0⟩] scope pos) 0 (.ref it) c0 { N with scope:=relabel scope X.env }) (R c0 N.locals) e0) E d0) E s:=by
 have f0:∀b∈fp,b<s.heap.objs.size:=fun b a=>let⟨o,e,_⟩:=T.obj 0 _ st b a;Hz e
 have hD:H s.heap.objs.size=KC:=I.hok.fresh (Hq _)
 refine IS (nR ?_)
 generalize hh:s.heap.push { cls:=.type "dict",data:=.dict #[] }=f
 generalize g0:pushCells (({ s with heap:=f }:Hk).heap.push { cls:=.type "dict",data:=.dict #[] }) scope.names=j
 have k3:∀b o,s.heap.get? b=KA o->f.get? b=KA o:=fun b o e=>by rw[<-hh];exact Ho _ e
 have I3:Inv X KQ σ (upd H s.heap.objs.size (.ext (b4 X.prog X.w s.heap.objs.size []))) { s with heap:=f }:=by
  rw[<-hh];exact sE I
 have l:∀b∈fp,cL X KQ (upd H s.heap.objs.size (.ext (b4 X.prog X.w s.heap.objs.size []))) b:=fun b a=>⟨by rw[aE (Im (f0 b a))];exact(hf b a).1,(hf b a).2⟩
 have r0:f.objs.size=s.heap.objs.size+1:=by rw[<-hh,Jf]
 have h0:∀b∈fp,b<f.objs.size:=fun b a=>by rw[r0];exact Nat.lt_succ_of_lt (f0 b a)
 have k4:∀b o,f.get? b=KA o->j.get? b=KA o:=fun b o e=>by rw[<-g0];exact pushCells_keeps _ _ b o (Ho _ e)
 have I4:=j8 c I3 l h0 (h':=j) g0.symm k4
 obtain⟨W,⟨m0,w0⟩,i0⟩:=wc _ hD
 have NZ:tn 0 j:=T.keep 0 _ _ st fun b a o e=>k4 b o (k3 b o e)
 generalize hX:LJ X xs js scope f.objs.size { s with heap:=f } (upd H s.heap.objs.size (.ext (b4 X.prog X.w s.heap.objs.size []))) fp=X' at I4
 have P:∀{pins':List (Addr×Obj)} {h:Hp} {L:L2.St} {G:Hk},Inv X' [] L h G->(∀b∈fp,h b=KC)->∀b∈fp,cL X' [] h b:=fun{pins' h L G} J' hn b a=>by
  subst hX
  obtain⟨a1,a2⟩:=J'.ok.exf b a
  exact⟨hn b a,a1,J'.ok.exfs b a,.inl a,a2,fun p hp=>absurd (show p∈([]:List (Addr×Obj))from hp) (by simp)⟩
 have O:Jo (HC X.prog X.w) X.A (.compLoop (.DictComp kx vx [⟨tg,iter,ifs,0⟩] scope pos) 0 (.ref it) (.ref s.heap.objs.size) (jA scope f.objs.size X.env)) (R (.ref s.heap.objs.size) f.objs.size)
  { s with heap:=j }:=by
  refine qe (fun n G=>∃i os h,os.length=xs.length/\Inv X' [] (cσ os js σ) h G/\tn i G.heap/\(∀b∈fp,h b=KC)/\W i n h) ?_ m0 ⟨0,_,_,by simp,I4,NZ,fun b a=>(l b a).1,w0⟩
  rintro n s5 ⟨i,os,H5,s0,I5,Mr,j0,w5⟩
  rcases i0 i n H5 w5 with⟨stop,q⟩|⟨go,step⟩
  ·subst hX
   refine Hx (T.done (LJ X xs js scope f.objs.size { s with heap:=f } (upd H s.heap.objs.size (.ext (b4 X.prog X.w s.heap.objs.size []))) fp) rfl rfl rfl hc i [] s5 _ H5 Lf I5 (P (pins':=[]) I5 j0) Mr stop) (fun r s6 S=>?_) fun _ _ z=>z
   obtain⟨hr,I6⟩:=S
   subst hr
   refine hR _ _ H5 s6 (I3.pB I6.os I6.base I6.hok I6.bare fun b a=>⟨(l b a).2.2.2.1,(l b a).2.1,(l b a).2.2.2.2.1,(l b a).2.2.2.2.2⟩) (I3.qY (Hq _) I6.free) (let⟨m,hm,_⟩:=I6.loc;⟨m,hm⟩) q
  ·subst hX
   refine Hx (T.item (LJ X xs js scope f.objs.size { s with heap:=f } (upd H s.heap.objs.size (.ext (b4 X.prog X.w s.heap.objs.size []))) fp) rfl rfl rfl hc i [] s5 _ H5 Lf I5 (P (pins':=[]) I5 j0) Mr go) (fun r s6 U=>?_) fun _ _ z=>z
   obtain⟨u,hr,h6⟩:=U
   subst hr
   refine Hx h6 (fun _ s7 V=>?_) fun _ _ z=>z
   obtain⟨y,H7,I7,r7,y7,Mu,t0⟩:=V
   have u0:=I7.pinned (P (pins':=[]) I7 t0) (T.obj _ _ Mu)
   obtain⟨M,k0,q8⟩:=step y H7 y7
   have l8:=hG.len _ _ _ k0
   refine Hx (hg _ _ _ _ _ s7 _ H7 y u (fun L h=>L=cσ M js σ/\h=H7) u0 r7 (hG.run y H7 os _ M _ s0 k0 ⟨rfl,rfl⟩)) (fun _ s8 Y=>?_) fun _ _ z=>z
   obtain⟨h1,H8,I8,e8,v0⟩:=Y
   subst e8 v0
   refine Hx (ht _ _ _ _ _ s8 _ _ _ I8 q8) (fun ok s9 Z=>?_) fun _ _ z=>z
   obtain⟨H9,I9,q9⟩:=Z
   have back:∀{m':Nat} {x:Hp} {t:Hk},Inv (LJ X xs js scope f.objs.size { s with heap:=f } (upd H s.heap.objs.size (.ext (b4 X.prog X.w s.heap.objs.size []))) fp) ([]++fo fp s7.heap) (cσ M js σ) x t->m'<n->W (i+1) m' x->
    ∃m,m<n/\∃i os h,os.length=xs.length/\Inv (LJ X xs js scope f.objs.size { s with heap:=f } (upd H s.heap.objs.size (.ext (b4 X.prog X.w s.heap.objs.size []))) fp) [] (cσ os js σ) h t/\tn i t.heap/\(∀b∈fp,h b=KC)/\W i m h:=fun{m' x t} B F x0=>by
    refine⟨m',F,i+1,M,x,l8,B.dA,T.keep _ _ _ Mu fun b a o e=>(B.pin (b,o) (HK _ (HK _ (bz a e)))).1,fun b a=>?_,x0⟩
    obtain⟨o',e,d⟩:=T.obj _ _ Mu b a
    exact(B.pin (b,o') (HK _ (HK _ (bz a e)))).2.1
   cases ok with
   |false=>
    rw[KH HJ]at q9 ⊢
    obtain⟨m',F,w9⟩:=q9
    exact back I9 F w9
   |true=>
    rw[KI rfl]at q9 ⊢
    refine Hx (hk _ _ _ _ _ s9 _ _ _ I9 q9) (fun kv t a0=>?_) fun _ _ z=>z
    obtain⟨kk,x,B,y0,z0⟩:=a0
    refine Hx (he _ _ _ _ _ t _ _ _ B z0) (fun v i1 b0=>?_) fun _ _ z=>z
    obtain⟨vv,j1,b1,c1,b,k,ys,ek,n0,d1,e1,o0,m',F,f1⟩:=b0
    subst ek
    cases y0
    exact yo (X:=LJ X xs js scope f.objs.size { s with heap:=f } (upd H s.heap.objs.size (.ext (b4 X.prog X.w s.heap.objs.size []))) fp) hu b1 n0 d1 e1 c1 o0 fun k1 g1=>back g1 F f1
 exact codeAny_compStart_dict O (T.self X.A 0 _ _ _ NZ O)
theorem vj{i:Nat}{y:Str}{l j:Pos}(c:Kw X xs js scope)(F:X.calm=KD)(G:X.N.Nodup)(K:PI X tg iter wi)(L:MY xs.length g own)(M:∀C s H fp,PG (LJ X xs js scope C s H fp) tg g)(O:∀C s H fp,Pq (LJ X xs js scope C s H fp) ifs tc)(P:∀C s H fp,PE (LJ X xs js scope C s H fp) kx tk)(S:∀C s H fp,PE (LJ X xs js scope C s H fp) vx te)(U:X.A.units+8<IZ)(V:X.N[i]?=KA y)(E:X.env.scope.names.lookup y=KA .local)
 (p:JR (.DictComp kx vx [⟨tg,iter,ifs,0⟩] scope pos) (KA (.Name y l)) j.line X.env=pure KD) (W:∀x,Ic iter X.env x=pure x:=by intro _;rfl) :
 PS X (.Assign [.Name y l] (.DictComp kx vx [⟨tg,iter,ifs,0⟩] scope pos) j) (Ak (tH X js own wi tc tk te) (e9 i)):=by
 intro KQ s σ H B I h
 rw[exec_Assign_Name_used _ _ _ _ p]
 refine cc (J5 (cc ?_))
 show Hu _ X.A (do let _ <-comprehension (.DictComp kx vx [⟨tg,iter,ifs,0⟩] scope pos) scope X.env _ newDict KG (eval iter X.env) (KA (K9 (.Name y l) X.env))) _ _ s
 refine cc (Hx (wpAny_comprehension_free (use:=KA (K9 (.Name y l) X.env)) (Q:=fun _ n=>SP X KQ B .next n) rfl W (c.zD I.ok) c.kind c.names
  (LA (K KQ s σ H _ I h) fun v s1 h1=>LA h1 fun Y s2 Z=>?_)) (fun _ n hq=>Hm (Hm hq)) fun _ _ e=>e)
 obtain⟨it,fp,tn,J,H2,e,I2,T,st,f2,w⟩:=Z
 subst e
 refine uZ (R:=fun r C=>compPost (HC X.prog X.w) X.A X.xe (KA (K9 (.Name y l) X.env)) (fun _ n=>SP X KQ B .next n) r C) c F L M O P S U I2 T st f2 w fun D C H' n I' k d q=>?_
 obtain⟨m,hm⟩:=d
 show Hu _ X.A (K9 (.Name y l) X.env (.ref D)) _ _ _
 refine wpAny_assign_Name (iw I' G V (.inl E) (v:=.ref D) rfl (fun s9 I9 f=>?_) (.inr E))
 obtain⟨a,sb,ha⟩:=f
 have t:C≠a:=by
  rcases ha with z|z
  ·rw[z];exact k.2.1
  ·exact fun e=>k.2.2.2.2.1 y a z e.symm
 refine⟨m,hm.sameBut sb t,fun h' u=>?_⟩
 exact⟨_,H',I9.turned (t':=s9.toks) (fun b o ne e=>u.extBut b o ne e) k.1 k.2.1 k.2.2.2.1 k.2.2.2.2.1 k.2.2.2.2.2,q⟩
end
def Ds(I:Oq)(tk:Nc)(js:List Nat)(tc:Lg)(g te:TD)(δ:DS)(a:MH)(Q:DK):Prop:=I.n<=900000/\∀p,a p=KC->∃W:Nat->Ly->MH->Prop,W 0 [] (ar a p (MV []))/\(∀i kvs M,i<=I.n->W i kvs M->I.C M)/\
 (∀i kvs d M,i<I.n->I.item i=KA d->W i kvs M->∃os,xO tk d os/\tc (cδ os js δ) M fun b c=>if b=KD then g (cδ os js δ) c fun y h=>te (cδ os js δ) h fun e f=>∃k,y=Ng k/\f p=KA (MV kvs)/\kvs.length<=i/\W (i+1) (putD kvs k e) (ar f p (MV (putD kvs k e)))else W (i+1) kvs c)/\∀kvs M,W I.n kvs M->Q (.ref p) M
def nU(a:MW)(tk:Nc)(js:List Nat)(tc:Lg)(b te:TD):TD:=fun δ M Q=>a δ M fun I c=>Ds I tk js tc b te δ c Q
section
variable{X:Cx}
theorem rk{F:MW}{tk:Nc}{js:List Nat}{tc:Lg}{G te:TD}{σ:L2.St}{H:Hp}{Q:VK}(h:lift X.K (nU F tk js tc G te) σ H Q):tH X js (pQ X.K tk) (k9 X.K F) (liftT X.K tc) (lift X.K G) (lift X.K te) σ H Q:=by
 obtain⟨δ,M,R,L,hM,q,x⟩:=h;refine⟨δ,M,_,L,hM,q,fun I M1 H1 J g1 N z A p B=>?_⟩;obtain⟨hn,z⟩:=z;obtain⟨W,w0,hC,l,done⟩:=z p (N.fresh B);refine⟨fun i m g=>m=I.n-i/\i<=I.n/\Ky X.K H1 g/\∃kvs M,LG X.K g M/\W i kvs M,⟨I.n,by simp,Jl _,.new B,[],_,N.By _ _ B,w0⟩,?_⟩;rintro i m g ⟨rfl,C,f,kvs,j,r,o⟩;by_cases a:i<I.n
 ·refine .inr ⟨A.go i g j a f r (hC _ _ _ C o),fun v H3 hy=>?_⟩;obtain⟨D,a3,d,ed,rd⟩:=A.yld i g j v H3 a f r (hC _ _ _ C o) hy;obtain⟨os,ow,q3⟩:=l i kvs d j a ed o;obtain⟨us,uv,su⟩:=oi rd ow;have E:=jH (js:=js) (L.mono ((g1.trans f).trans D)) su;refine⟨us,uv,cδ os js δ,j,_,E,a3,q3,fun b O H4 s P t=>?_⟩;cases b with
  |false=>
   rw[KH HJ]at t ⊢
   exact⟨I.n-(i+1),(),rfl,a,(f.trans D).trans s,kvs,O,P,t⟩
  |true=>
   rw[KI rfl]at t ⊢
   refine⟨cδ os js δ,O,_,E.mono s,P,t,fun y M5 u H5 S r5 a5 q5=>⟨cδ os js δ,M5,_,(E.mono s).mono S,a5,q5,fun e M6 u6 T U r6 V c=>?_⟩⟩
   obtain⟨k,ey,e6,b0,w6⟩:=c
   subst ey
   obtain⟨b,rfl,sp⟩:=sD (r5.mono U)
   obtain⟨xs,h1,Y,Z,h4⟩:=V.dsp e6
   have a0:xs.length=kvs.length:=by have:=congrArg List.length Y;simpa using this
   have sz:1000000<=Hy:=LB rfl
   have g7:Ky X.K T (upd T p (.ext (b4 X.prog X.w p (gm xs k b u6)))):=.ext (h1 X.prog X.w)
   exact⟨b,k,xs,rfl,h1 _ _,Z,sp,(),I.n-(i+1),(),rfl,a,((((f.trans D).trans s).trans S).trans U).trans g7,putD kvs k e,_,V.Bp _ _ h1 Y h4 Z sp r6,w6⟩
 ·obtain rfl:i=I.n:=()
  exact .inl ⟨A.stop g j f r (hC _ _ _ C o),x _ _ _ _ (g1.trans f) (by rw[Rep]) r (done kvs j o)⟩
variable{xs:List Str}{tg:Expr}{pos:Pos}{js:List Nat}{scope:JC}{kx vx iter:Expr}{ifs:List Expr}{tx te:TD}{tc:Lg}{g:TG}{tk:Nc}{wd:MW}
theorem vV(i:Nat){y:Str}{j e:Pos}(k:X.N.Nodup)(G:X.A.units+66<IZ)(c:Kw X xs js scope)(l:X.calm=KD)(m:DI X tg iter wd)(n:MY xs.length g (pQ X.K tk))(o:∀C s H fp,PG (LJ X xs js scope C s H fp) tg g)(p:∀C s H fp,DTs (LJ X xs js scope C s H fp) ifs tc)(r:∀C s H fp,DE (LJ X xs js scope C s H fp) kx tx)(t:∀C s H fp,DE (LJ X xs js scope C s H fp) vx te) (u:X.N[i]?=KA y:=by rfl) (w:X.env.scope.names.lookup y=KA .local:=by rfl) (h:JR (.DictComp kx vx [⟨tg,iter,ifs,0⟩] scope pos) (KA (.Name y j)) e.line X.env=pure KD:=by rfl) (f:∀x,Ic iter X.env x=pure x:=by intro _;rfl) : DSt X (.Assign [.Name y j] (.DictComp kx vx [⟨tg,iter,ifs,0⟩] scope pos) e) (cZ (nU wd tk js tc tx te) (aN i)):=b5 (vj (tk:=lift X.K tx) (te:=lift X.K te) (tc:=liftT X.K tc) c l k m n o p r t () u w h f) fun E σ H b=>by obtain⟨δ,M,f,a,B,ok,q⟩:=b;exact(rk ⟨δ,M,_,f,a,q,fun d I v H1 g1 z D F=>ok.nx _ _ _ _ g1 ((f.mono g1).set z i) D F⟩)
theorem ve(i:Nat){x v:Str}{b pv a:Pos}(e:X.N.Nodup)(f:X.A.units+66<IZ)(c:Kw X [x] js scope)(h:X.calm=KD)(j:DI X (.Name x b) iter wd)(k:∀C s H fp,DTs (LJ X [x] js scope C s H fp) ifs tc)(l:∀C s H fp,DE (LJ X [x] js scope C s H fp) kx tx)(m:∀C s H fp,DE (LJ X [x] js scope C s H fp) vx te) (n:X.N[i]?=KA v:=by rfl) (o:X.env.scope.names.lookup v=KA .local:=by rfl) (d:JR (.DictComp kx vx [⟨.Name x b,iter,ifs,0⟩] scope pos) (KA (.Name v pv)) a.line X.env=pure KD:=by rfl) (p:∀x,Ic iter X.env x=pure x:=by intro _;rfl) : DSt X (.Assign [.Name v pv] (.DictComp kx vx [⟨.Name x b,iter,ifs,0⟩] scope pos) a) (cZ (nU wd .one js tc tx te) (aN i)):=vV i e f c h j qh (fun _ _ _ _=>gC c 0 rfl) k l m n o d p
end
section
variable{X:Cx}
def Bx:Lk:=fun x y M Q=>match x,y with
 |.ref a,.int k=>∃d,M a=KA (.lst [d])/\0<=k/\k<=1000/\∀z,M z=KC->Q (.ref z) (ar M z (.lst (HY k.toNat d)))
 |_,_=>False
theorem pA{K:H0}{H:Hp}{d:D}{v:V}(r:Rep K H d v):∀n,aB K H (HY n d) (HY n v)
 |0=>by rw[List.replicate_zero,List.replicate_zero];exact .nil
 |n+1=>by rw[Je,Je];exact .cons r (pA r n)
theorem oz{a:Type}(v:a):∀n,(HY n [v]).flatten=HY n v
 |0=>rfl
 |n+1=>by rw[Je,K2,oz v n];rfl
theorem zb:Lr X (Jt .Mult) Bx:=gB Dp fun v u H Q f=>by
 obtain⟨x,y,M,R,g,h,a,q,b⟩:=f;unfold Bx at q;split at q
 ·obtain⟨d,hd,h0,h1,q⟩:=q;obtain rfl:v=.ref _:=g;obtain rfl:u=.int _:=h;obtain⟨xs,i,j⟩:=a _ _ hd;obtain⟨w,rfl,c⟩:=b8 j;have sz:1000000<=Hy:=LB rfl;refine⟨_,_,_,rfl,rfl,i,(),(),by simp;omega,fun z e=>?_⟩;rw[oz];exact b _ _ _ _ (.new e) (by rw[Rep]) (a.lJ e (pA c _)) (q z (a.fresh e))
 ·exact q.elim
end
section
theorem lA(a u:Hj):checkTypeCall "enumerate" ⟨[a],[("start",u)]⟩=pure .unit:=by kernel_rfl
theorem l3(a u:Hj):checkBuiltinCall "enumerate.__new__" ⟨[.type "enumerate",a],[("start",u)]⟩=pure .unit:=by kernel_rfl
theorem rG(a b u:Hj):argsOk "object.__init__" ⟨[a,b],[("start",u)]⟩:=by unfold argsOk;rw[PySem.signature?_of (id:="object.__init__") (n:=['_','_','t','i','n','i','_','_']) (o:=['t','c','e','j','b','o']) (by kernel_rfl) F.owner_object];kernel_rfl
def lI(l it:Addr):Obj×Obj:=({ cls:=.type "list_iterator",data:=.fields #[.ref l,.int 0 0] },{ cls:=.type "enumerate",data:=.fields #[.none,.bool KG,.ref it,rawInt 1,.none,.none] })
variable{prog:HF}{w:Ih}{A:Ij}{E:Hj->Hk->Prop}{s:Hk}{l:Addr}{items:Array Hj}{n:Nat}{t:Tok}{Q:Hj->Hk->Prop}
theorem uM(a:s.heap.get? l=KA { cls:=.type "list",dict:=KC,data:=.seq items n,slots:=#[] })
 (h:Q (.ref (s.heap.push (lI l 0).1).objs.size) { s with heap:=(s.heap.push (lI l 0).1).push (lI l s.heap.objs.size).2 }) :
 Hu (HC prog w) A (K8.«enumerate.__new__» ⟨[.type "enumerate",.ref l],[("start",.int 1 t)]⟩) (fun fin b=>∃v,fin=.done (.ret v)/\Q v b) E s:=by
 obtain⟨e,g,d,f,os⟩:=s
 have e1:=sub_enumerate
 have e2:Heap.IsList (Shared.heap ⟨e,g,d,f,os⟩) l items:=⟨_,a,rfl,n,rfl⟩
 wp_walk using AutoSeq1.wpAny_loadPart' a
 refine wpAny_stack_any fun st=>Hm ?_
 split
 case h_1 c _ _ _ _ _=>cases (c==K4 "enumerate")<;>(wp_walk using AutoSeq1.wpAny_loadPart' a,wpAny_pyIter_list e2;exact⟨_,rfl,h⟩)
 all_goals (wp_walk using AutoSeq1.wpAny_loadPart' a,wpAny_pyIter_list e2;exact⟨_,rfl,h⟩)
theorem qp:Meets (K8.«enumerate.__new__» ⟨[.type "enumerate",.ref l],[("start",.int 1 t)]⟩) (fun _ R s=>s.heap.get? l=KA { cls:=.type "list",dict:=KC,data:=.seq items n,slots:=#[] }/\R (.ok (.ret (.ref (s.heap.push (lI l 0).1).objs.size))) { s with heap:=(s.heap.push (lI l 0).1).push (lI l s.heap.objs.size).2 }):=.of_wp fun prog w A R s z=>uM (Q:=fun v a=>R (.ok (.ret v)) a) z.1 z.2
theorem n8{e:Hj}{u:Hj}:Meets (K8.«object.__init__» ⟨[e,.ref l],[("start",u)]⟩) (fun _ R s=>s.TypeIs e "enumerate"/\R (.ok (.ret .none)) s):=
 .of_wp fun prog w A R s a=>by
  obtain⟨ty,r⟩:=a
  have e1:=F.called_enumerate.init.lookup
  have e2:=F.called_enumerate.made
  repeat (any_goals (first|assumption|wp_step))
  exact⟨_,rfl,r⟩
theorem qo(m:s.heap.get? l=KA { cls:=.type "list",dict:=KC,data:=.seq items n,slots:=#[] })
 (h:∀h',IsEnum h' (s.heap.objs.size+1) s.heap.objs.size 1 .none->h'.IsListIter s.heap.objs.size l 0->(∀b o,s.heap.get? b=KA o->h'.get? b=KA o)->Q (.ref (s.heap.objs.size+1)) { s with heap:=h' }) :
 Hu (HC prog w) A (call (.type "enumerate") [.ref l] [("start",.int 1 t)]) Q E s:=by
 have C:=F.called_enumerate
 obtain⟨c,tl,p⟩:=C.mro
 have u:=C.made
 have x:=C.sub
 have y:=C.notType
 have B:=C.canCreate
 have D:=lA (.ref l) (.int 1 t)
 refine wpAny_call (codeAny_of_tree (Hm ⟨Code.quiet_builtin _ (by decide +kernel),codeAny_builtin F.entry_type_call ?_⟩))
 rw[Around.under_plain rfl rfl]
 repeat (any_goals (first|assumption|wp_step))
 have j:(s.heap.push (lI l 0).1).objs.size=s.heap.objs.size+1:=Jf ..
 have g1:IsEnum ((s.heap.push (lI l 0).1).push (lI l s.heap.objs.size).2) (s.heap.objs.size+1) s.heap.objs.size 1 .none:=by
  have:=HG (s.heap.push (lI l 0).1) (o:=(lI l s.heap.objs.size).2) rfl
  rw[j]at this;exact this
 have q:=h _ g1 ⟨_,Ho _ (HG _ rfl),rfl,rfl⟩ fun b o z=>Ho _ (Ho _ z)
 refine codeAny_mono (Jn C.plain F.entry_enumerate_new (wpAny_of_eq (l3 _ _) (qp prog w A.in1 (wants (fun v k=>v=.ref (s.heap.objs.size+1)/\k.TypeIs v "enumerate"/\Q v k) E) s ⟨m,by rw[j];exact⟨rfl,⟨_,g1,rfl⟩,q⟩⟩))) fun r f i=>?_
 match r,i with
 |.error e,i=>exact i
 |.ok (.ret v),⟨ev,ty,qv⟩=>
  have G:=C.init.lookup
  have H:=C.init.bind v
  repeat (any_goals (first|assumption|wp_step))
  refine codeAny_mono (Jn C.init.plain F.entry_object_init (C.init.check _ _ _ _ _ _ _ _ ty (rG _ _ _) (n8 prog w A.in1 (wants (fun r d=>r=.none/\Q v d) E) f ⟨ty,rfl,qv⟩))) fun g d a=>?_
  match g,a with
  |.error e,a=>exact a
  |.ok (.ret r),⟨er,q2⟩=>
   subst er
   repeat (any_goals (first|assumption|wp_step))
end
section
variable{X:Cx}{elts:List Expr}{kt:Nat}{pt:Pos}
theorem lE{pos kp:Pos}{T:String}{e k:Expr}{name:Str}{env:Env}{M:Model}{A:Ij}{E:Hj->Hk->Prop}{s:Hk}{Q:Hj->Hk->Prop}
 (h:Hu M A (spliced (IY pos (Hv [e] env))) (fun vs b=>Hu M A (eval k env) (fun u c=>Hu M A (call (.type T) vs [(name,u)]) Q E c) E b) E s)
 (i:IY pos (Hv [e] env)=(KG,eval e env)::IY pos (Hv [] env):=by rfl) (g:(IY pos (Hv [e] env)).any (·.1)=KG:=by rfl) :
 Hu M A (callWith pos (.type T) [] (IY pos (Hv [e] env)) (backToKw pos (JO [⟨KA name,k,kp⟩] env))) Q E s:=by
 have j:Hu M A (evalArgs (.type T) KD (IY pos (Hv [e] env)) (backToKw pos (JO [⟨KA name,k,kp⟩] env))) (fun a b=>Hu M A (call (.type T) a.pos a.kw) Q E b) E s:=by
  rw[i]at h ⊢
  refine evalArgs_kwB rfl (Hx h (fun vs b d=>?_) fun _ _ z=>z)
  exact kws_cons (Hx d (fun u c f=>kws_nil f) fun _ _ z=>z)
 unfold callWith
 refine cc (J4 (Hx j (fun a b d=>cc (J5 ?_)) fun _ _ z=>z))
 have no:(backToKw pos (JO [⟨KA name,k,kp⟩] env)).any (·.1.isNone)=KG:=rfl
 simp only[g,no,Bool.or_false]
 exact cc (Hm (cc (Hx d (fun r c l=>cc (J4 (wpAny_point (Hm l)))) fun _ _ z=>z)))
def D2(K:H0)(b:TA):TI:=fun σ H R=>b σ H fun vs H1=>∃a xs,vs=[.ref a]/\H1 a=KA (.lst xs)/\R (YF K 1 a) H1
theorem vP{a k:Expr}{j:TA}{p pos kp:Pos}(y:Gl X "enumerate")(B:X.mg "enumerate"=KC)(C:PA X [a] j)(g:∀KQ s σ H (Q:VK),Inv X KQ σ H s->Q (.int 1) H->Hu (HC X.prog X.w) X.A (eval k X.env) (EP X KQ σ Q) X.xe s)
 (m:Hv [a] X.env=[(KG,eval a X.env)]:=by rfl):PI X (.Tuple elts kt pt) (.Call (.Name "enumerate" p) [a] [⟨KA "start",k,kp⟩] pos) (D2 X.K j):=by
 intro KQ s σ H R I h
 refine JU (gA I y B m9 (lE (LA (C pos KQ s σ H _ I h) fun us D ⟨vs,H1,E,F,G⟩=>?_) (by rw[m];rfl) (by rw[m];rfl)))
 obtain⟨l,xs,J,L,q⟩:=G
 subst J
 obtain⟨u,rfl,M⟩:=F.one
 cases M
 refine LA (g KQ D σ H1 (fun v N=>v=.int 1/\N=H1) E ⟨rfl,rfl⟩) fun u c ⟨v,o,f,O,e1,e2⟩=>?_
 subst e1 e2
 obtain⟨t,rfl⟩:=O
 obtain⟨z,P,n,r,T,e⟩:=f.pf L
 refine qo e fun U x i g=>wpAny_pyIter_enum x ?_
 have fp:∀b∈[c.heap.objs.size+1,c.heap.objs.size],cL X KQ o b:=fun b S=>by
  have d:c.heap.objs.size<=b:=by
   rcases(show b=c.heap.objs.size+1\/b=c.heap.objs.size by simpa using S)with rfl|rfl
   ·exact Nat.le_succ _
   ·exact Hq _
  exact f.qY d (f.hok.fresh d)
 exact⟨_,[c.heap.objs.size+1,c.heap.objs.size],_,_,o,rfl,f.kept (t':=c.toks) g,tZ 1 l _ _ (Nat.succ_ne_self _),⟨⟨_,x⟩,i⟩,fp,q⟩
def CG(c:L8):MW:=fun δ M R=>c δ M fun e b=>∃l a,e=[.ref l]/\b l=KA (.lst a)/\R ⟨a.length,fun i=>(a[i]?).map fun d=>.tup [.int ((i+1:Nat):Int),d],fun M=>M l=KA (.lst a)⟩ b
theorem xg{a:Expr}{d:L8}{p pos kp g:Pos}{h}(i:Gl X "enumerate")(j:X.mg "enumerate"=KC)(k:DA X [a] d)(b:Hv [a] X.env=[(KG,eval a X.env)]:=by rfl):DI X (.Tuple elts kt pt) (.Call (.Name "enumerate" p) [a] [⟨KA "start",.Constant (.int 1) h g,kp⟩] pos) (CG d):=
 kq (vP i j k (fun KQ s σ H Q I q=>wZ KQ s σ H Q I q) b) fun σ H R m=>by
  obtain⟨δ,M,y,b,n,q,c⟩:=m
  exact⟨δ,M,_,b,n,q,fun z o vs H1 g1 t f ⟨l,A,e,u,w⟩=>by
   subst e
   obtain⟨v,rfl,r⟩:=b8 t
   rw[Rep]at r;subst r
   obtain⟨xs,x,B⟩:=f _ _ u
   exact⟨l,xs,rfl,x,c _ o H1 _ g1 f w (zM 1)⟩⟩
end
section
variable{X:Cx}{KQ:List (Addr×Obj)}{σ:L2.St}{H:Hp}{s:Hk}
theorem jd{h':Heap}{t':Nat}{ch:List Addr}(I:Inv X KQ σ H s)(k:∀b o,b∉ch->s.heap.get? b=KA o->h'.get? b=KA o)(f:∀b∈ch,cL X KQ H b):Inv X KQ σ H { s with heap:=h',toks:=t' }:=by
 have ne:∀b u,H b=KA u->b∉ch:=fun b u q d=>by rw[(f b d).1]at q;cases q
 refine I.step (g':=s.gens) (d':=s.drawn) (ch:=ch) (fun b d=>?_) (fun b o _ _ a q _=>k b o a q) (fun b o _ _ a q _=>⟨o.slots,k b o a q⟩) (fun _ _ _ _ n=>n) (fun b o a q=>⟨o,k b o a q⟩) (fun _ _ q=>q) (fun _ _ _ q=>q) (fun b ps q=>⟨#[],by rw[q];simp⟩) (fun m e=>?_) (fun b u q=>?_) I.bare
 ·obtain⟨l,e1,_,e3,e4,g⟩:=f b d;exact⟨e3,e1,e4,g⟩
 ·obtain⟨o,h,i,j,r⟩:=e;exact⟨o,h,i,k _ o (fun d=>(f _ d).2.1 rfl) j,r⟩
 ·refine(I.hok b u q).eK (fun c v a z=>?_) (fun _ z=>z) fun _ _ z=>z;rcases a with y|y
  ·subst y;exact k _ v (ne _ u q) z
  ·exact k c v (ne c _ y) z
end
def Y2(K:H0)(a b:Addr):It:=
 ⟨fun i H=>∃xs c x y,LR K H a xs/\LR K H b c/\xs[i]?=KA x/\c[i]?=KA y,fun i H x d=>∃T y z,x=.ref T/\H T=KC/\d=upd H T (.tup [y,z])/\(∀xs,LR K H a xs->xs[i]?=KA y)/\∀c,LR K H b c->c[i]?=KA z,fun i H=>∃xs c,LR K H a xs/\LR K H b c/\(xs.length<=i\/c.length<=i)⟩
theorem v5{P:HF}{w:Ih}{K:H0}{M:List Expr}{kt}{pt:Pos}(a b z TI TO j l:Addr)(D:ZipApart z TI TO j l a b):Turn P w K (.Tuple M kt pt) (Y2 K a b) [z,TI,TO,j,l] z (fun i h=>IsZip h z TI TO .none/\IsPair h TI (.ref j) (.ref l)/\(∃p q,IsPair h TO p q)/\h.IsListIter j a i/\h.IsListIter l b i) where
 mem:=by simp
 obj:=fun i h st c f=>by
  obtain⟨h1,m,⟨p,q,u⟩,A,B⟩:=st
  rcases(show c=z\/c=TI\/c=TO\/c=j\/c=l by simpa using f)with rfl|rfl|rfl|rfl|rfl
  ·exact⟨_,h1,fun v y=>by cases (show Data.fields _=Data.cell v from y)⟩
  ·exact⟨_,m,fun v y=>by cases (show Data.seq _ _=Data.cell v from y)⟩
  ·exact⟨_,u,fun v y=>by cases (show Data.seq _ _=Data.cell v from y)⟩
  ·obtain⟨o,C,_,d⟩:=A
   exact⟨o,C,fun v y=>by rw[d]at y;cases y⟩
  ·obtain⟨o,C,_,d⟩:=B
   exact⟨o,C,fun v y=>by rw[d]at y;cases y⟩
 keep:=fun i h N st k=>by
  obtain⟨h1,m,⟨p,q,u⟩,A,B⟩:=st
  exact⟨k z (by simp) _ h1,k TI (by simp) _ m,⟨p,q,k TO (by simp) _ u⟩,A.at fun o y=>k j (by simp) o y,B.at fun o y=>k l (by simp) o y⟩
 item:=by
  intro X W Y Z f i KQ s σ H E I T st hg
  subst W Y Z
  obtain⟨xs,ys,x,y,r,t,hx,hy⟩:=hg
  obtain⟨h1,m,⟨p,q,u⟩,A,B⟩:=st
  obtain⟨O,F,p1,a0⟩:=I.list r
  obtain⟨Q,G,p2,b0⟩:=I.list t
  obtain⟨R,c0,d0⟩:=F.get hx
  obtain⟨S,e0,f0⟩:=G.get hy
  refine wpAny_pyNext_zip_item D h1 m u A B p1.isList p2.isList (x:=R) (y:=S) (by simpa using c0) (by simpa using e0) fun N a1 a2 a3 a4 a5 a6 a7=>⟨_,rfl,wpAny_letOwnedTupleGo_zip (s:={ s with heap:=N }) a1 fun J b1 U=>?_⟩
  have U:K0 z N J:=U
  have fr:=I.fresh
  have lt:∀c∈[z,TI,TO,j,l],c<s.heap.objs.size:=fun c f=>by
   rcases(show c=z\/c=TI\/c=TO\/c=j\/c=l by simpa using f)with rfl|rfl|rfl|rfl|rfl
   ·exact Hz h1
   ·exact Hz m
   ·exact Hz u
   ·obtain⟨o,C,_⟩:=A;exact Hz C
   ·obtain⟨o,C,_⟩:=B;exact Hz C
  have I1:Inv X KQ σ (upd H s.heap.objs.size (.tup [x,y])) { s with heap:=s.heap.push { cls:=.type "tuple",data:=.seq #[R,S] },toks:=s.toks }:=
   I.laid (fun b v q=>Ho _ q) (Hq _) ⟨LB rfl,[R,S],.cons d0 (.cons f0 .nil),⟨_,HG _ rfl,rfl,_,rfl⟩,⟨_,HG _ rfl,rfl⟩⟩
  have fk:∀c∈[z,TI,TO,j,l],cL X KQ (upd H s.heap.objs.size (.tup [x,y])) c:=fun c f=>⟨by rw[aE (Im (lt c f))];exact(T c f).1,(T c f).2⟩
  have I2:Inv X KQ σ (upd H s.heap.objs.size (.tup [x,y])) { s with heap:=J,toks:=s.toks }:=by
   refine jd (ch:=[z,TO,j,l]) (s:={ s with heap:=s.heap.push { cls:=.type "tuple",data:=.seq #[R,S] },toks:=s.toks }) I1 (fun c o g q=>?_) fun c f=>fk c (by simp at f ⊢;rcases f with rfl|rfl|rfl|rfl<;>simp)
   have q:(s.heap.push { cls:=.type "tuple",data:=.seq #[R,S] }).get? c=KA o:=q
   simp at g
   refine(U.2 c g.1).trans ?_
   rcases Heap.get?_push_cases q with⟨rfl,rfl⟩|q
   ·exact a5
   ·exact a7 c o g.1 g.2.1 g.2.2.1 g.2.2.2 q
  have V:∀c o,c≠z->N.get? c=KA o->J.get? c=KA o:=fun c o n e=>(U.2 c n).trans e
  refine⟨.ref s.heap.objs.size,_,I2,rfl,⟨_,x,y,rfl,fr,rfl,fun zs L=>by rw[I.ic L r];exact hx,fun zs L=>by rw[I.ic L t];exact hy⟩,⟨b1,V _ _ D.TIz (a7 _ _ D.TIz D.TITO D.TIi1 D.TIi2 m),⟨_,_,V _ _ D.TOz a2⟩,a3.at fun o e=>V _ o D.i1z e,a4.at fun o e=>V _ o D.i2z e⟩,fun c f=>(fk c f).1⟩
 done:=by
  intro X W Y Z f i KQ s σ H E I T st hg
  subst W Y Z
  obtain⟨xs,ys,r,t,he⟩:=hg
  obtain⟨h1,m,⟨p,q,u⟩,A,B⟩:=st
  obtain⟨O,F,p1,a0⟩:=I.list r
  obtain⟨Q,G,p2,b0⟩:=I.list t
  have l1:=F.length
  have l2:=G.length
  refine wpAny_pyNext_zip_end (I.ok.hd f) D h1 m u A B p1.isList p2.isList (he.imp (fun e=>by simp;omega) fun e=>by simp;omega) fun N k=>⟨rfl,?_⟩
  exact jd (t':=s.toks) (ch:=[z,TO,j,l]) I (fun c o g q=>by simp at g;exact k c o g.1 g.2.1 g.2.2.1 g.2.2.2 q) fun c f=>T c (by simp at f ⊢;rcases f with rfl|rfl|rfl|rfl<;>simp)
 self:=fun _ _ _ _ _ st h=>wpAny_pyIter_zip st.1 h
theorem D4{n l1 l2:Nat}(a:l1<n)(b:l2<n):ZipApart (n+4) (n+2) (n+3) n (n+1) l1 l2:=by constructor<;>exact fun e=>absurd (id e:@Eq Nat _ _) ()
theorem Dj:ID "zip"=KA (.type "zip"):=by decide +kernel
section
variable{X:Cx}{elts:List Expr}{kt:Nat}{pt:Pos}
def D8(K:H0)(c:TA):TI:=fun σ H R=>c σ H fun vs H1=>∃a b xs d,vs=[.ref a,.ref b]/\H1 a=KA (.lst xs)/\H1 b=KA (.lst d)/\R (Y2 K a b) H1
theorem BH{a b:Expr}{x:TA}{p pos:Pos}(A:Gl X "zip")(B:X.mg "zip"=KC)(C:PA X [a,b] x)(E:Hv [a,b] X.env=(KG,eval a X.env)::Hv [b] X.env:=by rfl)(j:(IY pos (Hv [b] X.env)).any (·.1)=KG:=by rfl):PI X (.Tuple elts kt pt) (.Call (.Name "zip" p) [a,b] [] pos) (D8 X.K x):=by
 intro KQ s σ H R I h;refine Call_ (gA I A B Dj (JM (LA (C pos KQ s σ H _ I h) fun us c d=>?_) E j));obtain⟨vs,H1,e,F,G⟩:=d;obtain⟨l1,l2,xs,V,J,k,l,q⟩:=G;subst J;obtain⟨W,Y,rfl,m,n⟩:=vals2 F;cases m;cases n;obtain⟨Z,f,L,M,N,e1⟩:=e.pf k;obtain⟨z2,g,O,P,Q,e2⟩:=e.pf l;have S:c.heap.IsList l1 f.toArray:=⟨_,e1,rfl,L,rfl⟩;have L2:c.heap.IsList l2 g.toArray:=⟨_,e2,rfl,O,rfl⟩;have o:=Hz e1;have r:=Hz e2;refine call_zip_2 S L2 fun h' y t u v w T U=>wpAny_pyIter_zip y ?_
 have fp:∀b∈[c.heap.objs.size+4,c.heap.objs.size+2,c.heap.objs.size+3,c.heap.objs.size,c.heap.objs.size+1],cL X KQ H1 b:=fun b z=>by
  have i:c.heap.objs.size<=b:=by simp at z;rcases z with rfl|rfl|rfl|rfl|rfl<;>first|exact Nat.le_add_right _ _|exact Hq _
  exact e.qY i (e.hok.fresh i)
 have D:ZipApart (c.heap.objs.size+4) (c.heap.objs.size+2) (c.heap.objs.size+3) c.heap.objs.size (c.heap.objs.size+1) l1 l2:=by exact D4 o r
 exact⟨_,_,_,_,H1,rfl,e.kept (t':=c.toks) U,v5 l1 l2 _ _ _ _ _ D,⟨y,t,⟨_,_,u⟩,v,w⟩,fp,q⟩
def FR(g:L8):MW:=fun δ M R=>g δ M fun h f=>∃a b c fs,h=[.ref a,.ref b]/\f a=KA (.lst c)/\f b=KA (.lst fs)/\R ⟨min c.length fs.length,fun i=>(c[i]?).bind fun d=>(fs[i]?).map fun e=>.tup [d,e],fun M=>M a=KA (.lst c)/\M b=KA (.lst fs)⟩ f
theorem vy{K:H0}{D:L8}:∀(σ:L2.St) (H:Hp) R,k9 K (FR D) σ H R->D8 K (wa K D) σ H R:=
 fun σ H R N=>by
  obtain⟨δ,M,RD,O,P,q,s⟩:=N
  exact⟨δ,M,_,O,P,q,fun ds Q vs H1 g1 S t U=>by
   obtain⟨l1,l2,c,fs,e,u,w,V⟩:=U
   subst e
   obtain⟨v1,v2,rfl,r,E⟩:=dC S
   rw[Rep]at r E;subst r E
   obtain⟨xs,W,rs⟩:=t _ _ u
   obtain⟨Y,A,rt⟩:=t _ _ w
   refine⟨l1,l2,xs,Y,rfl,W,A,s _ Q H1 _ g1 t V ⟨fun F k G j l=>?_,fun i F k m G j l=>?_,?_⟩⟩
   ·obtain⟨n,o⟩:=(show k l1=KA (.lst c)/\k l2=KA (.lst fs)from l)
    obtain⟨a,d,f⟩:=j _ _ n
    obtain⟨b,g,h⟩:=j _ _ o
    refine⟨a,b,LR.of d,LR.of g,?_⟩
    show a.length<=min c.length fs.length\/b.length<=min c.length fs.length
    rw[<-f.length,<-h.length];omega
   ·obtain⟨n,o⟩:=(show k l1=KA (.lst c)/\k l2=KA (.lst fs)from l)
    obtain⟨a,d,f⟩:=j _ _ n
    obtain⟨b,g,h⟩:=j _ _ o
    have m:i<min c.length fs.length:=m
    have h1:i<a.length:=by rw[<-f.length];omega
    have Z:i<b.length:=by rw[<-h.length];omega
    exact⟨a,b,a[i],b[i],LR.of d,LR.of g,by simp[h1],by simp[Z]⟩
   ·rintro i F k v H3 m G j l ⟨T,y,z,rfl,p,rfl,A,hz⟩
    obtain⟨n,o⟩:=(show k l1=KA (.lst c)/\k l2=KA (.lst fs)from l)
    have m:i<min c.length fs.length:=m
    have I:i<c.length:=()
    have J:i<fs.length:=()
    obtain⟨a,d,f⟩:=j _ _ n
    obtain⟨b,g,h⟩:=j _ _ o
    obtain⟨x,e1,e2⟩:=f.get (show c[i]?=KA c[i] by simp[I])
    obtain⟨x',B,C⟩:=h.get (show fs[i]?=KA fs[i] by simp[J])
    have t1:=A a (LR.of d)
    have L:=hz b (LR.of g)
    rw[e1]at t1;cases t1
    rw[B]at L;cases L
    exact⟨.new p,j.new p,.tup [c[i],fs[i]],by simp[I,J],by rw[Rep];exact⟨T,_,rfl,LU.of aH,.cons (e2.mono (.new p)) (.cons (C.mono (.new p)) .nil)⟩⟩⟩
theorem Dy{a b:Expr}{d:L8}{p pos:Pos}(e:Gl X "zip")(f:X.mg "zip"=KC)(g:DA X [a,b] d)(h:Hv [a,b] X.env=(KG,eval a X.env)::Hv [b] X.env:=by rfl)(c:(IY pos (Hv [b] X.env)).any (·.1)=KG:=by rfl):DI X (.Tuple elts kt pt) (.Call (.Name "zip" p) [a,b] [] pos) (FR d):=kq (BH e f g h c) vy
end
structure Gs(g h:Int):Prop where
 g0:0<g
 g1:g<=12
 h0:0<=h
 h1:h<=24
def gp(g h:Int)(u:Vc):D:=.tup [.int (g*u.1-h),.int (g*u.2-h)]
def LC(g h:Int)(w:Wl):D:=.tup [gp g h (ea w),gp g h (eb w)]
theorem uK{g h a c:Int}(b:0<g):g*a-h<g*c-h↔a<c:=by
 constructor
 ·intro e;exact Int.lt_of_mul_lt_mul_left (():g*a<g*c) ()
 ·intro e;have:=Int.mul_lt_mul_of_pos_left e b;omega
theorem xq{g h a c:Int}(b:0<g):g*a-h=g*c-h↔a=c:=by have h1:=uK (h:=h) (a:=a) (c:=c) b;have d:=uK (h:=h) (a:=c) (c:=a) b;omega
theorem GN{g h a c:Int}(b:0<g):g*a-h<=g*c-h↔a<=c:=by have d:=uK (h:=h) (a:=c) (c:=a) b;omega
theorem zZ{g h a b c d:Int}(e:0<g):Ks [g*a-h,g*b-h] [g*c-h,g*d-h]=Ks [a,b] [c,d]:=by simp only[Ks,uK e,xq e]
theorem Ar{g h a b c d:Int}(e:0<g):Kt [g*a-h,g*b-h] [g*c-h,g*d-h]=Kt [a,b] [c,d]:=by simp only[Kt,uK e,xq e,gt_iff_lt]
theorem rZ{g h a b c d:Int}(e:0<g):Ku [g*a-h,g*b-h] [g*c-h,g*d-h]=Ku [a,b] [c,d]:=by simp only[Ku,uK e,xq e,GN e]
theorem D6(g h a b c d e f:Int):ML (g*c-h-(g*a-h)) (g*d-h-(g*b-h)) (g*e-h-(g*a-h)) (g*f-h-(g*b-h))=(g*g)*ML (c-a) (d-b) (e-a) (f-b):=by unfold ML;grind
theorem Ed{g:Int}(a:0<g)(z:Int):HQ (g*g*z)=HQ z:=by have b:=Ib a a;rw[Int.sign_mul,Ip b,Int.one_mul]
theorem AJ{g h x:Int}(G:Gs g h)(c:0<=x/\x<=20):Bd 12 (g*x-h):=by have h1:=G.g0;have d:=G.g1;have e:=G.h0;have f:=G.h1;have a:g*x<=12*20:=Int.mul_le_mul d c.2 c.1 ⋯;have b:0<=g*x:=Int.mul_nonneg () c.1;show(g*x-h).natAbs<2^12;omega
theorem qr{g h:Int}(a:0<g)(u v:Vc):IM (.tuple [.int (g*u.1-h),.int (g*u.2-h)]) (.tuple [.int (g*v.1-h),.int (g*v.2-h)])=decide (u=v):=by rw[yO,KN,xq a,xq a];exact⟨fun e=>Prod.ext e.1 e.2,fun e=>by rw[e];exact⟨rfl,rfl⟩⟩
def LQ(M:MH)(r:Addr)(n:Nat):Prop:=∃a b c:Int,M r=KA (.lst [.int a,.int b,.int c])/\0<=a/\0<=b/\b<2147483647/\0<=c/\c<=n
theorem LQ.le{M:MH}{r:Addr}{n m:Nat}(h:LQ M r n)(l:n<=m):LQ M r m:=let⟨a,b,c,h1,d,e,f,g,i⟩:=h;⟨a,b,c,h1,d,e,f,g,()⟩
theorem LQ.ne{M:MH}{r p:Addr}{n:Nat}(h:LQ M r n)(a:M p=KC):r≠p:=let⟨_,_,_,h1,_⟩:=h;aA h1 a
theorem LQ.new{M:MH}{r p:Addr}{n:Nat}{o:MO}(h:LQ M r n)(d:M p=KC):LQ (ar M p o) r n:=let⟨a,b,c,h1,e⟩:=h;⟨a,b,c,by rw[aq (aA h1 d)];exact h1,e⟩
theorem LQ.upd{M:MH}{r p:Addr}{n:Nat}{o:MO}(h:LQ M r n)(ne:r≠p):LQ (ar M p o) r n:=let⟨a,b,c,h1,d⟩:=h;⟨a,b,c,by rw[aq ne];exact h1,d⟩
def Kx(xs:List Addr)(M b:MH):Prop:=∀a o,a∉xs->M a=KA o->b a=KA o
theorem Kx.refl{xs:List Addr}{M:MH}:Kx xs M M:=fun _ _ _ h=>h
theorem Kx.trans{xs:List Addr}{M c d:MH}(a:Kx xs M c)(b:Kx xs c d):Kx xs M d:=fun x o n h=>b x o n (a x o n h)
theorem Kx.upd{xs:List Addr}{M b:MH}{p:Addr}{o:MO}(a:Kx xs M b)(c:p∈xs):Kx xs M (ar b p o):=fun x u n h=>by have ne:x≠p:=fun e=>n (by rw[e];exact c);rw[aq ne];exact a x u n h
theorem Kx.new{xs:List Addr}{M b:MH}{p:Addr}{o:MO}(a:Kx xs M b)(c:b p=KC):Kx xs M (ar b p o):=fun x u n h=>by rw[aq (aA (a x u n h) c)];exact a x u n h
def VZ(g h:Int)(w:Wl):JW:=.tuple [.tuple [.int (g*w.1-h),.int (g*w.2.1-h)],.tuple [.int (g*w.2.2.1-h),.int (g*w.2.2.2-h)]]
theorem vf{M:MH}(g h:Int):∀ws:List Wl,Nd M (ws.map (LC g h)) (ws.map (VZ g h))
 |[]=>.nil
 |w::ws=>.cons (Pd.of rfl) (vf g h ws)
theorem xX(g h:Int):∀ws:List Wl,PyData.canLayAll0 (ws.map (VZ g h))=KD
 |[]=>rfl
 |w::ws=>by rw[Hs,PyData.canLayAll0,xX g h ws];rfl
theorem yz(g h:Int):∀ws:List Wl,PyData.depthAll (ws.map (VZ g h))<=10
 |[]=>LB rfl
 |w::ws=>by
  rw[Hs,PyData.depthAll]
  exact Nat.max_le.mpr ⟨LB rfl,yz g h ws⟩
theorem uD(g h:Int)(ws:List Wl):SeqAt.shaped (.list (ws.map (VZ g h)))=KD:=by unfold SeqAt.shaped;have h1:=xX g h ws;have a:=yz g h ws;rw[IQ];refine⟨by rw[PyData.canLay0];exact h1,KL ?_⟩;rw[PyData.depth];omega
theorem qm(g h:Int):∀ws:List Wl,IM (.list (ws.map (VZ g h))) (.list [])=ws.isEmpty
 |[]=>by simp[IM,Jd]
 |w::ws=>by simp[IM,Jd]
theorem zp{g h:Int}{ws:List Wl}{v:Int}(h0:0<=v)(h1:v<ws.length):∃w,w∈ws/\atI (ws.map (LC g h)) v=KA (LC g h w):=by
 obtain⟨j,rfl⟩:∃j:Nat,v=(j:Int):=⟨v.toNat,()⟩;have a:j<ws.length:=()
 exact⟨ws[j],Iz a,bj (by simp[a])⟩
theorem yL{g h:Int}{w:Wl}(W:LD w){v:Int}(h0:0<=v)(h1:v<2):∃p,L9 p/\atI [gp g h (ea w),gp g h (eb w)] v=KA (gp g h p):=by
 rcases(():v=0\/v=1)with rfl|rfl
 ·exact⟨_,W.ea,rfl⟩
 ·exact⟨_,W.eb,rfl⟩
theorem vF{ws:List Wl}:PF ws↔ws.Pairwise L6:=by
 rw[List.pairwise_iff_getElem];constructor
 ·intro h i j b c a;exact h i j _ _ () (Hl b) (Hl c)
 ·intro h i j U V a d e;obtain⟨b,rfl⟩:=HN.mp d;obtain⟨c,rfl⟩:=HN.mp e;rcases Nat.lt_or_gt_of_ne a with z|z
  ·exact h i j b c z
  ·exact(h j i c b z).swap
theorem rR{a b:List Wl}(p:b.Perm a)(h:PF a):PF b:=vF.mpr ((p.pairwise_iff fun{x y} z=>L6.swap z).mpr (vF.mp h))
theorem Ce{ws:List Wl}{w:Wl}{j:Nat}(h:PF ws)(hw:∀(t:Nat) (v:Wl),ws[t]?=KA v->L6 w v):PF (fj ws j w):=rR (gj ws j w) (rR (List.perm_append_singleton w ws).symm (uU h hw))
theorem Ag{g h:Int}(d:0<g){u v:Vc}(i:L9 u)(j:L9 v)(ne:u≠v):∃w:Wl,LD w/\(if Ks [g*v.1-h,g*v.2-h] [g*u.1-h,g*u.2-h]=KD then[g*v.1-h,g*v.2-h]else[g*u.1-h,g*u.2-h])=[g*w.1-h,g*w.2.1-h]/\
 (if Kt [g*v.1-h,g*v.2-h] [g*u.1-h,g*u.2-h]=KD then[g*v.1-h,g*v.2-h]else[g*u.1-h,g*u.2-h])=[g*w.2.2.1-h,g*w.2.2.2-h]:=by
 obtain⟨w,e1,e2,W⟩:=uo (p:=u.1) (q:=u.2) (e:=v.1) (f:=v.2) i.1 i.2 j.1 j.2 (fun z=>ne (Prod.ext z.1 z.2))
 refine⟨w,W,?_,?_⟩
 ·rw[zZ d]
  by_cases c:Ks [v.1,v.2] [u.1,u.2]=KD
  ·rw[KI c]at e1 ⊢
   injection e1 with b a;injection a with a _
   rw[b,a]
  ·rw[KH c]at e1 ⊢
   injection e1 with b a;injection a with a _
   rw[b,a]
 ·rw[Ar d]
  by_cases c:Kt [v.1,v.2] [u.1,u.2]=KD
  ·rw[KI c]at e2 ⊢
   injection e2 with b a;injection a with a _
   rw[b,a]
  ·rw[KH c]at e2 ⊢
   injection e2 with b a;injection a with a _
   rw[b,a]
theorem tX{b:Type}(f:b->D)(l:List b):cutD (l.map f) (KA 1) KC=(l.drop 1).map f:=by
 unfold cutD;rw[show(KA 1:Option Int)=KA ((1:Nat):Int)from rfl,HT.Ai,HT.wu];cases l with
 |nil=>rfl
 |cons a l=>
  have:min 1 ((a::l).map f).length=1:=by simp
  rw[this]
  simp
  exact IP (by simp)
theorem vL{M:MH}:∀bs:List Bool,Nd M (bs.map D.bl) (bs.map PyData.bool)
 |[]=>.nil
 |b::bs=>.cons (.bl b) (vL bs)
theorem yj:∀bs:List Bool,PyData.canLayAll0 (bs.map PyData.bool)=KD
 |[]=>rfl
 |b::bs=>by rw[Hs,PyData.canLayAll0,yj bs];rfl
theorem C9(c:Bool)(bs:List Bool):(bs.map PyData.bool).any (fun q=>IM q (.bool c))=bs.any (fun b=>b==c):=by
 rw[List.any_map]
 congr 1
def MC(m:Nat):Nat->List Wl
 |0=>(K3 0 (m+1)).map fun k:Nat=>LY (k:Int)
 |i+1=>MC m i++[LS (i:Int) 0,LS (i:Int) 1]
theorem nK(m:Nat):∀i,(MC m i).length=m+1+2*i
 |0=>by simp[MC]
 |i+1=>by rw[MC,IJ,nK m i];simp;omega
theorem og(m:Nat):∀i k,i+k=m->(MC m i).Perm (N9 (m:Int) i++(K3 i k).map fun k:Nat=>LY (k:Int))
 |0,k,e=>by
  obtain rfl:k=m:=()
  rw[MC,N9,List.range'_concat,HR]
  simpa using(List.perm_append_comm (l₁:=(K3 0 k).map fun k:Nat=>LY (k:Int)) (l₂:=[LY (k:Int)]))
 |i+1,k,e=>by
  have b:=og m i (k+1) ()
  rw[List.range'_succ,Hs]at b
  rw[MC,N9]
  refine(b.append_right _).trans ?_
  rw[List.append_assoc,List.append_assoc]
  refine List.Perm.append_left _ ?_
  generalize (K3 (i+1) k).map (fun k:Nat=>LY (k:Int))=R
  have a:(LY (i:Int)::R++[LS (i:Int) 0,LS (i:Int) 1]).Perm ([LS (i:Int) 0,LS (i:Int) 1]++(LY (i:Int)::R)):=List.perm_append_comm
  exact a
theorem sA(m:Nat):(MC m m).Perm (N9 (m:Int) m):=by have:=og m m 0 ();simpa using this
theorem Ga(k:Int):LC 12 0 (LY k)=.tup [.tup [.int (12*k),.int 0],.tup [.int (12*k),.int 12]]:=by simp[LC,gp,LY,ea,eb]
theorem G0(k:Int):LC 12 0 (LS k 0)=.tup [.tup [.int (12*k),.int 0],.tup [.int (12*k+12),.int 0]]/\LC 12 0 (LS k 1)=.tup [.tup [.int (12*k),.int 12],.tup [.int (12*k+12),.int 12]]:=by
 have e:12*(k+1)=12*k+12:=()
 simp[LC,gp,LS,ea,eb,e]
def raw(g h:Int)(w:Wl):Wl:=(g*w.1-h,g*w.2.1-h,g*w.2.2.1-h,g*w.2.2.2-h)
theorem v7(g h:Int):∀ws:List Wl,(ws.map (raw g h)).map uw=ws.map (LC g h)
 |[]=>rfl
 |w::ws=>by rw[Hs,Hs,Hs,v7 g h ws];rfl
theorem B6{g h:Int}(G:Gs g h){w:Wl}(W:LD w):YX (10^3) (raw g h w):=by
 have k:∀{x:Int},(0<=x/\x<=20)->-(10^3)<=g*x-h/\g*x-h<=10^3:=fun{x} e=>by
  have h1:=G.g0
  have f:=G.g1
  have i:=G.h0
  have j:=G.h1
  have a:g*x<=12*20:=Int.mul_le_mul f e.2 e.1 ⋯
  have b:0<=g*x:=Int.mul_nonneg () e.1
  omega
 exact⟨k W.a,k W.b,k W.c,k W.d⟩
section
variable{X:Cx}
def wM:JW->Bool
 |.list _=>KD
 |.tuple _=>KD
 |_=>KG
structure Vd(P:JW):Prop where
 s:P.showable=KD
 d:P.hasDict=KG
 n:P.depth<=40
 l:P.shown.length<=Hy
def Bv:RC:=fun a M Q=>match a with
 |[d]=>∃P,Pd M d P/\wM P=KD/\Vd P/\Q (.str P.shown) M
 |_=>False
theorem sL(i:X.A.guards=KA [])(x:X.A.units+64<IZ):cW X (.builtin "repr") Bv:=by
 intro KQ s σ H vs us Q I r ⟨y,M,R,j,a,q,c⟩;unfold Bv at q;split at q
 ·obtain⟨P,k,di,S,q⟩:=q;obtain⟨v,rfl,m⟩:=b8 j;obtain⟨u,rfl,o⟩:=vals1 r;obtain⟨B,f⟩:=bL I a k m o;obtain⟨b,rfl⟩:∃b,u=.ref b:=by cases f<;>first|exact⟨_,rfl⟩|cases di
  obtain⟨h,g,d,t,os⟩:=s;refine repr_of_reads' (h₀:=h) f S.s (fun z=>by rw[S.d]at z;cases z) i (by have:=S.n;omega) (fun _ _ e=>e) (fun h' u p w=>?_) S.l;have It:=I.kept (h':=h') (t':=p) w;exact⟨.str P.shown,H,It,⟨u,rfl⟩,c _ _ _ _ .refl (by rw[Rep]) a q⟩
 ·exact q.elim
def Fg:Lk:=fun x y M Q=>match x,y with
 |.str a,.str b=>a=b/\Q (.bl KD) M
 |_,_=>False
theorem DP:Lr X (Iq .Eq) Fg:=by
 intro KQ s σ H v u g i Q I e f h;obtain⟨x,y,M,R,c,d,a,q,b⟩:=h;unfold Fg at q;split at q
 ·obtain⟨rfl,q⟩:=q;rw[Rep]at c d;subst c d;obtain⟨t1,rfl⟩:=e;obtain⟨j,rfl⟩:=f;refine PySem.P.eq_str ?_;rw[beq_self_eq_true];exact⟨.bl KD,H,I,rfl,b _ _ _ _ .refl (by rw[Rep]) a q⟩
 ·exact q.elim
theorem sQ:ID "repr"=KA (.builtin "repr"):=boot_repr
end
theorem eT{ws:List Wl}:∀{i:Nat} {rs:List (List Nat)},ND ws i rs->rs.length<=i
 |0,rs,h=>by rw[show rs=[]from h];simp
 |i+1,rs,⟨qs,h1,h2⟩=>by
  have:=eT h1
  rcases h2 with⟨_,rfl⟩|⟨_,r,_,rfl⟩
  ·omega
  ·simp;omega
structure YD(ws:List Wl)(r:List Nat):Prop where
 rng:QL ws r
 len:r.length<=2*ws.length
 lt:∀g∈r,g<2*ws.length
 pos:0<r.length
theorem gi{ws:List Wl}(a:∀w∈ws,LD w)(hF:PF ws):∀{i:Nat} {rs:List (List Nat)},i<=2*ws.length->ND ws i rs->∀r∈rs,YD ws r
 |0,rs,_,h,r,hr=>by rw[show rs=[]from h]at hr;cases hr
 |i+1,rs,hi,⟨qs,h1,h2⟩,r,hr=>by
  rcases h2 with⟨_,rfl⟩|⟨_,f,⟨b,n,e,rfl⟩,rfl⟩
  ·exact gi a hF () h1 r hr
  ·rcases HM.mp hr with z|z
   ·exact gi a hF () h1 r z
   ·have:r=rn ws i b:=by simpa using z
    subst this
    have d:=so a hF (():i<2*ws.length) n
    refine⟨⟨i,b,(),d,rfl,e⟩,by rw[iL];omega,fun g c=>?_,by rw[iL];omega⟩
    unfold rn at c
    obtain⟨j,_,rfl⟩:=IU.mp c
    exact fu a hF () j
def aJ(ws:List Wl)(r:List Nat):Bool:=decide (0<(r.map (PD ws)).sum)
theorem xr{ws:List Wl}(i:∀w∈ws,LD w)(hF:PF ws){r:List Nat}(R:QL ws r){t b X Y a B:Int}(j:0<t)(f:0<b)(k:0<B)(e:(a:Rat)=(r.map (Nj t b X Y ws)).sum*(B:Rat)):decide (0<a)=aJ ws r:=by
 have l:∀{z:Int},0<z->(0:Rat)<(z:Rat):=fun{z} h=>by exact_mod_cast h
 have c:(0:Rat)<(t:Rat)/b:=by rw[Rat.div_def];exact Rat.mul_pos (Kh j) (Rat.inv_pos.mpr (Kh f))
 have m:(0:Rat)<((t:Rat)/b)*((t:Rat)/b)*(B:Rat):=Rat.mul_pos (Rat.mul_pos c c) (l k);rw[wQ i hF R f]at e;have e1:(a:Rat)=((t:Rat)/b)*((t:Rat)/b)*(B:Rat)*(((r.map (PD ws)).sum:Int):Rat):=by rw[e];grind
 have d:=sgn_mul m (r.map (PD ws)).sum;rw[<-e1]at d;have g:=sgn_mul (show(0:Rat)<1 by decide) a;rw[Rat.one_mul]at g;rw[g]at d;unfold aJ;rw[KN,<-Int.sign_eq_one_iff_pos,d,Int.sign_eq_one_iff_pos]
theorem RL.get{M:MH}{ps:List Addr}{rs:List (List Nat)}(h:RL M ps rs){i:Nat}(b:i<ps.length):∃r,rs[i]?=KA r/\M ps[i]=KA (.lst (r.map fun g:Nat=>D.int (g:Int))):=by
 unfold RL at h
 induction h generalizing i with
 |nil=>simp at b
 |@cons p r ps rs a _ ih=>
  cases i with
  |zero=>exact⟨r,rfl,a⟩
  |succ i=>simpa using ih (by simpa using b)
theorem jb{a:Type}(f:a->Bool)(l:List a){i:Nat}{r:a}(e:l[i]?=KA r):(l.take (i+1)).filter f=(l.take i).filter f++(if f r=KD then[r]else[]):=by
 rw[J3,e,List.filter_append]
 congr 1
 simp[List.filter_cons]
def mn(a c:Vc):Vc:=if la a.1 a.2<la c.1 c.2 then a else c
theorem F6{t b X Y:Int}(a:0<t)(c:0<b){u v:Vc}(d:L9 u)(e:L9 v):(if Kg (Ke t b X 1 u.1) (Ke t b Y 1 u.2) (Ke t b X 1 v.1) (Ke t b Y 1 v.2)then(Ke t b X 1 u.1,Ke t b Y 1 u.2)else(Ke t b X 1 v.1,Ke t b Y 1 v.2))=(Ke t b X 1 (mn u v).1,Ke t b Y 1 (mn u v).2):=by
 have h:=vg (X:=X) (Y:=Y) a c d e;unfold Lx at h;unfold mn;by_cases z:la u.1 u.2<la v.1 v.2
 ·rw[KI (h.mpr z),KI z]
 ·rw[KH (fun q=>z (h.mp q)),KH z]
theorem Cb{u v:Vc}(a:L9 u)(b:L9 v):L9 (mn u v):=by
 unfold mn;split
 ·exact a
 ·exact b
theorem rH{ws:List Wl}(e:∀w∈ws,LD w){g:Nat}(i:g<2*ws.length):L9 (fa ws g):=by
 obtain⟨_,_,f⟩:=bE (ws:=ws) (k:=((g/2:Nat):Int)) () ();have W:=e _ f;unfold fa fw;by_cases h:g%2=0
 ·rw[KI h];exact⟨W.a,W.b⟩
 ·rw[KH h];exact⟨W.c,W.d⟩
def Pm(ws:List Wl)(r:List Nat)(i:Nat):Vc:=(r.take i).foldl (fun a g=>mn a (fa ws g)) (fa ws (r.headD 0))
def fc(ws:List Wl)(r:List Nat):Vc:=Pm ws r r.length
theorem pJ{ws:List Wl}{r:List Nat}{i g:Nat}(e:r[i]?=KA g):Pm ws r (i+1)=mn (Pm ws r i) (fa ws g):=by unfold Pm;rw[J3,e,List.foldl_append];rfl
theorem nT{ws:List Wl}(a:∀w∈ws,LD w){r:List Nat}(b:∀g∈r,g<2*ws.length)(c:0<r.length):∀i,i<=r.length->L9 (Pm ws r i)
 |0,_=>by
  unfold Pm
  cases r with
  |nil=>simp at c
  |cons g r=>exact rH a (b g (by simp))
 |i+1,h=>by
  rw[pJ (Hl (():i<r.length))]
  exact Cb (nT a b c i ()) (rH a (b _ (Iz _)))
def zg(ws:List Wl)(fs:List Int):Int:=(fs.filter fun k=>fs.all fun j=>!LX (LK ws j) (LK ws k)).headD 0
theorem yU{ws:List Wl}(f:∀w∈ws,LD w)(hF:PF ws){p q b:Int}(d:b∈bK ws 1 p q)(h:∀w∈(bK ws 1 p q).map (LK ws),w=LK ws b\/(LX (LK ws b) w=KD/\LX w (LK ws b)=KG)):zg ws (bK ws 1 p q)=b:=by
 obtain⟨t,h1,g,i⟩:=xo f hF (show(0:Int)<1 by decide) (fun k j=>gK j) (List.ne_nil_of_mem d) (oy ws 1 p q);unfold zg;rw[i];show t=b
 have e:LK ws t=LK ws b:=by
  rcases h _ (IU.mpr ⟨t,h1,rfl⟩)with z|z
  ·exact z
  ·rcases g _ (IU.mpr ⟨b,d,rfl⟩)with y|y
   ·exact y.symm
   ·rw[y.1]at z;exact absurd z.2 ⋯
 have a:=f7 (gK h1);have c:=f7 (gK d);by_cases ne:t.toNat=b.toNat
 ·omega
 ·exact absurd ⟨by rw[e],by rw[e]⟩ (hF t.toNat b.toNat _ _ ne (bE a.1 a.2.1).1 (bE c.1 c.2.1).1).ne
def PL(ws:List Wl)(L:List Int)(u:Vc):Int:=if bK ws 1 u.1 u.2=[]then 0 else(L[2*(zg ws (bK ws 1 u.1 u.2)).toNat]?).getD 0
def gQ(L:List Int)(r:List Nat)(v:Int)(i:Nat):List Int:=(r.take i).foldl (fun L g=>L.set g v) L
def fill(L:List Int)(r:List Nat)(v:Int):List Int:=gQ L r v r.length
theorem lD{L:List Int}{r:List Nat}{v:Int}{i g:Nat}(e:r[i]?=KA g):gQ L r v (i+1)=(gQ L r v i).set g v:=by unfold gQ;rw[J3,e,List.foldl_append];rfl
theorem ib(v:Int):∀(r:List Nat) (L:List Int),(r.foldl (fun L g=>L.set g v) L).length=L.length
 |[],L=>rfl
 |g::r,L=>by rw[List.foldl_cons,ib v r,List.length_set]
theorem gh(L:List Int)(r:List Nat)(v:Int)(i:Nat):(gQ L r v i).length=L.length:=ib v _ L
theorem sF{n j:Nat}(h:j<n):L2.ixN n (j:Int)=KA j:=by unfold L2.ixN;rw[KI (),KI ()];rfl
def fO(m:Nat)(a:List (List Nat)):Nat->List Int
 |0=>HY m 0
 |i+1=>fill (fO m a i) ((a[i]?).getD []) ((i+1:Nat):Int)
theorem kR(m:Nat)(a:List (List Nat)):∀i,(fO m a i).length=m
 |0=>by simp[fO]
 |i+1=>by rw[fO,fill,gh,kR m a i]
def b7(ws:List Wl)(ins:List (List Nat)):Nat->List Vc
 |0=>[]
 |i+1=>let c:=fc ws ((ins[i]?).getD []);if c∈b7 ws ins i then b7 ws ins i else b7 ws ins i++[c]
def pI(ws:List Wl)(ins:List (List Nat))(c:Vc):Nat->Option Nat
 |0=>KC
 |i+1=>if fc ws ((ins[i]?).getD [])=c then KA i else pI ws ins c i
theorem jq(ws:List Wl)(ins:List (List Nat)):∀i,(b7 ws ins i).Nodup
 |0=>List.nodup_nil
 |i+1=>by
  have c:=jq ws ins i
  unfold b7
  dsimp only
  split
  ·exact c
  ·rename_i h
   rw[List.nodup_append]
   refine⟨c,by simp,fun a d b e=>?_⟩
   have:b=fc ws ((ins[i]?).getD []):=by simpa using e
   subst this
   exact fun z=>h (z▸d)
theorem iC(ws:List Wl)(ins:List (List Nat)):∀i,(b7 ws ins i).length<=i
 |0=>Hq _
 |i+1=>by
  have a:=iC ws ins i
  unfold b7
  dsimp only
  split
  ·omega
  ·simp;omega
theorem iG{ws:List Wl}{ins:List (List Nat)}{c:Vc}:∀{i},c∈b7 ws ins i->∃j,pI ws ins c i=KA j/\j<i/\fc ws ((ins[j]?).getD [])=c
 |0,h=>by cases h
 |i+1,h=>by
  unfold pI
  by_cases e:fc ws ((ins[i]?).getD [])=c
  ·exact⟨i,by rw[KI e],(),e⟩
  ·rw[KH e]
   have f:c∈b7 ws ins i:=by
    unfold b7 at h
    dsimp only at h
    split at h
    ·exact h
    ·rcases HM.mp h with z|z
     ·exact z
     ·exact absurd (by simpa using z:c=_).symm e
   obtain⟨j,a,b,d⟩:=iG f
   exact⟨j,a,(),d⟩
def fS(ws:List Wl)(ins:List (List Nat))(L:List Int)(ps:List Vc):Nat->List Int
 |0=>L
 |i+1=>let c:=(ps[i]?).getD (0,0);fill (fS ws ins L ps i) ((ins[(pI ws ins c ins.length).getD 0]?).getD []) (PL ws (fS ws ins L ps i) c)
theorem nL(ws:List Wl)(ins:List (List Nat))(L:List Int)(ps:List Vc):∀i,(fS ws ins L ps i).length=L.length
 |0=>rfl
 |i+1=>by rw[fS,fill,gh,nL ws ins L ps i]
def cR(ws:List Wl)(L:List Int):Prop:=∃(a:List (List Nat)) (ps:List Vc),ND ws (2*ws.length) a/\ps.Perm (b7 ws (a.filter fun r=>!aJ ws r) (a.filter fun r=>!aJ ws r).length)/\ps.Pairwise Lx/\
 L=fS ws (a.filter fun r=>!aJ ws r) (fO (2*ws.length) (a.filter (aJ ws)) (a.filter (aJ ws)).length) ps ps.length
theorem jW{ws:List Wl}{L c:List Int}(h:cR ws L)(h':cR ws c):L=c:=by obtain⟨j,ps,R,d,e,rfl⟩:=h;obtain⟨f,g,i,a,b,rfl⟩:=h';have:=iR R i;subst this;have:=yA (d.trans a.symm) e b;subst this;rfl
theorem cR.len{ws:List Wl}{L:List Int}(h:cR ws L):L.length=2*ws.length:=by obtain⟨a,ps,R,b,c,rfl⟩:=h;rw[nL,kR]
theorem gP(k:LV)(d:D)(c:LV):∀kvs:Ly,((kvs.map fun x=>if x.1=k then(x.1,d)else x).find? fun x=>decide (x.1=c)).map (·.2)=if c=k/\(kvs.any fun x=>decide (x.1=k))=KD then KA d else(kvs.find? fun x=>decide (x.1=c)).map (·.2)
 |[]=>by simp
 |x::kvs=>by
  have f:=gP k d c kvs
  rw[Hs,HZ,HZ,JP]
  by_cases a:x.1=k
  ·rw[KI a]
   by_cases b:x.1=c
   ·have e:c=k:=b.symm.trans a
    simp[a,e]
   ·have ne:¬c=k:=fun z=>b (a.trans z.symm)
    rw[KH (fun z=>ne z.1)]
    rw[KH (fun z=>ne z.1)]at f
    simp only[KJ b]
    exact f
  ·rw[KH a]
   by_cases b:x.1=c
   ·have ne:¬c=k:=fun z=>a (b.trans z)
    rw[KH (fun z=>ne z.1)]
    simp[b]
   ·simp only[KJ b,KJ a,Bool.false_or]
    exact f
theorem xm(kvs:Ly)(k:LV)(d:D)(a:LV):c8 (putD kvs k d) a=if a=k then KA d else c8 kvs a:=by
 unfold putD c8;by_cases h:(kvs.any fun x=>decide (x.1=k))=KD
 ·rw[KI h,gP];by_cases e:a=k
  ·rw[KI ⟨e,h⟩,KI e]
  ·rw[KH (fun z=>e z.1),KH e]
 ·rw[KH h,List.find?_append];by_cases e:a=k
  ·subst e;have:(kvs.find? fun x=>decide (x.1=a))=KC:=by rw[List.find?_eq_none];intro x b c;exact h (List.any_eq_true.mpr ⟨x,b,c⟩)
   rw[this,KI rfl];simp
  ·rw[KH e];have:([(k,d)]:Ly).find? (fun x=>decide (x.1=a))=KC:=by simp;exact fun z=>e z.symm
   rw[this];simp
theorem xl(kvs:Ly)(k:LV)(d:D):(putD kvs k d).map (·.1)=if k∈kvs.map (·.1)then kvs.map (·.1)else kvs.map (·.1)++[k]:=by
 unfold putD;have e:((kvs.any fun x=>decide (x.1=k))=KD)↔k∈kvs.map (·.1):=by rw[List.any_eq_true,IU];exact⟨fun c=>by obtain⟨x,a,b⟩:=c;exact(⟨x,a,by simpa using b⟩),fun f=>by obtain⟨x,a,b⟩:=f;exact(⟨x,a,by simpa using b⟩)⟩
 by_cases h:k∈kvs.map (·.1)
 ·rw[KI (e.mpr h),KI h,List.map_map];apply List.map_congr_left;intro x _;show(if x.1=k then(x.1,d)else x).1=x.1;split<;>rfl
 ·rw[KH (fun z=>h (e.mp z)),KH h,HR];rfl
structure Pp(t b X Y:Int)(ws:List Wl)(ins:List (List Nat))(qs:List Addr)(i:Nat)(kvs:Ly):Prop where
 ks:kvs.map (·.1)=(b7 ws ins i).map (gk t b X Y)
 vs:∀c,c8 kvs (gk t b X Y c)=(pI ws ins c i).bind fun j=>(qs[j]?).map D.ref
theorem Pp.nil(t b X Y:Int)(ws:List Wl)(ins:List (List Nat))(qs:List Addr):Pp t b X Y ws ins qs 0 []:=⟨rfl,fun c=>rfl⟩
theorem Pp.put{t b X Y:Int}{ws:List Wl}{ins:List (List Nat)}{qs:List Addr}{i:Nat}{kvs:Ly}{r:List Nat}{q:Addr}(d:0<t)(e:0<b)(h:Pp t b X Y ws ins qs i kvs)(f:ins[i]?=KA r)(eq:qs[i]?=KA q):Pp t b X Y ws ins qs (i+1) (putD kvs (gk t b X Y (fc ws r)) (.ref q)):=by
 have a:(ins[i]?).getD []=r:=by rw[f];rfl
 refine⟨?_,fun c=>?_⟩
 ·rw[xl,h.ks]
  have g:b7 ws ins (i+1)=if fc ws r∈b7 ws ins i then b7 ws ins i else b7 ws ins i++[fc ws r]:=by
   conv=>lhs;unfold b7
   rw[a]
  rw[g];by_cases z:fc ws r∈b7 ws ins i
  ·rw[KI z,KI (IU.mpr ⟨_,z,rfl⟩)]
  ·rw[KH z,KH (fun y=>by
    obtain⟨c,j,k⟩:=IU.mp y
    exact z ((vT d e k)▸j)),HR]
   rfl
 ·rw[xm]
  have ea:pI ws ins c (i+1)=if fc ws r=c then KA i else pI ws ins c i:=by
   conv=>lhs;unfold pI
   rw[a]
  rw[ea];by_cases z:fc ws r=c
  ·rw[KI (by rw[z]),KI z];show _=(qs[i]?).map D.ref;rw[eq];rfl
  ·rw[KH (fun y=>z (vT d e y).symm),KH z];exact h.vs c
theorem qJ{ws:List Wl}:∀{i:Nat} {rs:List (List Nat)},ND ws i rs->∀r∈rs,∃f,f<i/\zl ws f r
 |0,rs,h,r,hr=>by rw[show rs=[]from h]at hr;cases hr
 |i+1,rs,⟨qs,h1,h2⟩,r,hr=>by
  rcases h2 with⟨_,rfl⟩|⟨_,c,R,rfl⟩
  ·obtain⟨f,a,b⟩:=qJ h1 r hr
   exact⟨f,(),b⟩
  ·rcases HM.mp hr with z|z
   ·obtain⟨f,a,b⟩:=qJ h1 r z
    exact⟨f,(),b⟩
   ·rw[Jk.mp z];exact⟨i,(),R⟩
def MU(ps es:List Addr):List D:=(HX es.length).map fun j=>.tup [if j=0 then .non else .ref ((ps[j-1]?).getD 0),.ref ((es[j]?).getD 0)]
def MN(L:List Int)(ins:List (List Nat))(qs:List Addr)(j n:Nat):List Addr:=((HX n).filter fun i=>decide ((L[((ins[i]?).getD []).headD 0]?).getD 0=(j:Int))).map fun i=>(qs[i]?).getD 0
theorem yp(L:List Int)(ins:List (List Nat))(qs:List Addr)(j n:Nat):MN L ins qs j (n+1)=MN L ins qs j n++(if(L[((ins[n]?).getD []).headD 0]?).getD 0=(j:Int)then[(qs[n]?).getD 0]else[]):=by
 unfold MN;rw[JK,List.filter_append,HR]
 congr 1
 by_cases h:(L[((ins[n]?).getD []).headD 0]?).getD 0=(j:Int)
 ·rw[KI h,List.filter_cons,KI (KL h)];rfl
 ·rw[KH h,List.filter_cons,KH (fun z=>h (of_decide_eq_true z))];rfl
theorem jF(L:List Int)(ins:List (List Nat))(qs:List Addr)(j n:Nat):(MN L ins qs j n).length<=n:=by unfold MN;rw[Hn];have:=II (fun i=>decide ((L[((ins[i]?).getD []).headD 0]?).getD 0=(j:Int))) (HX n);rw[List.length_range]at this;exact this
theorem f9(ps es:List Addr):(MU ps es).length=es.length:=by unfold MU;simp
theorem gT(ps es:List Addr){j:Nat}(h:j<es.length):(MU ps es)[j]?=KA (.tup [if j=0 then .non else .ref ((ps[j-1]?).getD 0),.ref ((es[j]?).getD 0)]):=by unfold MU;rw[Ht,List.getElem?_range h];rfl
def PH(ps es:List Addr):List D:=(HX es.length).map fun j=>.tup [.ref ((ps[j]?).getD 0),.ref ((es[j]?).getD 0)]
theorem xZ(ps es:List Addr)(e:Addr):PH ps (es++[e])=PH ps es++[.tup [.ref ((ps[es.length]?).getD 0),.ref e]]:=by
 unfold PH;rw[IJ,List.length_singleton,JK,HR]
 congr 1
 ·refine List.map_congr_left fun j a=>?_;rw[IB (JB.mp a)]
 ·simp
theorem x9(ps es:List Addr)(a:Addr):[D.tup [.non,.ref a]]++PH ps es=MU ps (a::es):=by unfold MU PH;rw[Iu,List.range_succ_eq_map,Hs,List.map_map];rfl
theorem mW{P:Int->Prop}{v:Int}(a:P v):∀(r:List Nat) (L:List Int),(∀x∈L,P x)->∀x∈r.foldl (fun L g=>L.set g v) L,P x
 |[],L,h=>h
 |g::r,L,h=>by
  rw[List.foldl_cons]
  refine mW a r _ fun x b=>?_
  rcases List.mem_or_eq_of_mem_set b with z|z
  ·exact h x z
  ·rw[z];exact a
theorem xA(m:Nat)(a:List (List Nat)){n:Nat}:∀i,i<=n->∀x∈fO m a i,0<=x/\x<=(n:Int)
 |0,_=>fun x b=>by
  have:=List.eq_of_mem_replicate b
  omega
 |i+1,h=>by
  rw[fO,fill]
  exact mW () _ _ (xA m a i ())
theorem ql{P:Int->Prop}(h0:P 0){ws:List Wl}{ins:List (List Nat)}{L:List Int}{ps:List Vc}(h:∀x∈L,P x):∀i,∀x∈fS ws ins L ps i,P x
 |0=>h
 |i+1=>by
  rw[fS,fill]
  refine mW ?_ _ _ (ql h0 h i)
  unfold PL
  split
  ·exact h0
  ·cases e:(fS ws ins L ps i)[2*(zg ws (bK ws 1 ((ps[i]?).getD (0,0)).1 ((ps[i]?).getD (0,0)).2)).toNat]? with
   |none=>exact h0
   |some v=>exact ql h0 h i v (HE e)
theorem yG{ws:List Wl}(i:∀w∈ws,LD w)(hF:PF ws){rs:List (List Nat)}(G:ND ws (2*ws.length) rs){L:List Int}(c:cR ws L){g:Nat}(j:g<2*ws.length):∃v:Nat,L[g]?=KA (v:Int)/\v<=(rs.filter (aJ ws)).length:=by
 have k:=c.len;obtain⟨a,ps,d,_,_,e⟩:=c;have f:=iR d G;subst f;have h:=Hl (():g<L.length);have m:=Iz (():g<L.length);have b:∀x∈L,0<=x/\x<=((a.filter (aJ ws)).length:Int):=by rw[e];exact ql (P:=fun x=>0<=x/\x<=((a.filter (aJ ws)).length:Int)) () (xA _ _ _ (Hq _)) _
 obtain⟨b0,b1⟩:=b _ m;exact⟨(L[g]).toNat,by rw[h];congr 1;omega,()⟩
end SD
namespace SE
open SD PySem PySem.Spec PyProof.Rows L2
end SE
namespace SD
open PySem PySem.Spec PyProof.Rows L2
theorem nF(t b X g h u:Int):Ke t b X 1 (g*u-h)=Ke (g*t) b (X-h*t) 1 u:=by unfold Ke;rw[show(g*u-h)*t+X*1=u*(g*t)+(X-h*t)*1 by grind]
theorem ze(t b X Y g h:Int)(w:Wl):Kz t b X Y (raw g h w)=Kz (g*t) b (X-h*t) (Y-h*t) w:=by unfold Kz raw;dsimp only;rw[nF,nF,nF,nF]
theorem xf(t b X Y g h:Int)(ws:List Wl):(ws.map (raw g h)).map (Kz t b X Y)=ws.map (Kz (g*t) b (X-h*t) (Y-h*t)):=by rw[List.map_map];exact List.map_congr_left fun w _=>ze t b X Y g h w
theorem Ah{t b X Y g h:Int}(S:Lc t b X Y)(G:Gs g h)(a:t<=10^20)(d:b<=10^25)(e:-(10^27)<=X/\X<=10^27)(f:-(10^27)<=Y/\Y<=10^27):Lc (g*t) b (X-h*t) (Y-h*t):=by have t0:=S.t0;have b0:=S.b0;have g0:=G.g0;have g1:=G.g1;have h0:=G.h0;have h1:=G.h1;have c:0<g*t:=Ib g0 t0;have i:g*t<=12*10^20:=Int.mul_le_mul g1 a () ⋯;have j:0<=h*t:=Int.mul_nonneg h0 ();have k:h*t<=24*10^20:=Int.mul_le_mul h1 a () ⋯;exact⟨c,(),b0,(),(),(),(),()⟩
theorem LQ.sub{M d:MH}{r:Addr}{n:Nat}(h:LQ M r n)(s:SD.Sub M d):LQ d r n:=let⟨a,b,c,h1,e⟩:=h;⟨a,b,c,s _ _ h1,e⟩
def MM(t b T:Int):Rat:=Rat.divInt (T*t*t) (2*b*b)
def rT(ws:List Wl)(r:List Nat):Int:=(r.map (PD ws)).sum
def MD(ws:List Wl)(rs:List (List Nat)):Int:=(rs.map (rT ws)).sum
theorem zj{t b:Int}(d:0<b)(S T:Int):MM t b S+MM t b T=MM t b (S+T):=by
 have a:(b:Rat)≠0:=fun z=>by
  have:b=0:=by exact_mod_cast z
  omega
 unfold MM;simp only[JG,Iv,Rat.intCast_add];have c:(((2:Int):Rat))=2:=rfl;rw[c];grind
theorem zY{t b:Int}(d:0<b)(T:Int):0-MM t b T=MM t b (0-T):=by
 have a:(b:Rat)≠0:=fun z=>by
  have:b=0:=by exact_mod_cast z
  omega
 unfold MM;simp only[JG,Iv,Js];have c:(((2:Int):Rat))=2:=rfl;have h0:(((0:Int):Rat))=0:=rfl;rw[c,h0];grind
theorem kY(t b:Int):MM t b 0=0:=by unfold MM;simp
theorem Aq{ws:List Wl}(a:∀w∈ws,LD w)(hF:PF ws){r:List Nat}(h:QL ws r){t b X Y:Int}(c:0<b):(r.map (Nj t b X Y ws)).sum/2=MM t b (rT ws r):=by
 have d:(b:Rat)≠0:=fun z=>by
  have:b=0:=by exact_mod_cast z
  omega
 rw[wQ a hF h c];unfold MM rT;simp only[JG,Iv];have e:(((2:Int):Rat))=2:=rfl;rw[e];grind
theorem EF{t b x y:Int}(S:Lc t b x y){T:Int}(f:-(10^9)<=T/\T<=10^9):Bd 400 (T*t*t)/\Bd 400 (2*b*b)/\0<2*b*b:=by
 have t0:=S.t0;have t1:=S.t1;have b0:=S.b0;have b1:=S.b1;have c:Bd 40 T:=by show T.natAbs<2^40;omega
 have a:Bd 100 t:=by show t.natAbs<2^100;omega
 have d:Bd 100 b:=by show b.natAbs<2^100;omega
 have e:Bd 100 (2*b):=by show(2*b).natAbs<2^100;omega
 exact⟨((c.mul a).mul a).mono ⋯,(e.mul d).mono ⋯,Ib () b0⟩
theorem iW{t b x y:Int}(S:Lc t b x y){T:Int}(a:-(10^9)<=T/\T<=10^9):Kf 400 (MM t b T):=by obtain⟨h1,c,d⟩:=EF S a;exact .divInt () h1 c
theorem sum_in{a:Type}(f:a->Int){B:Int}:∀l:List a,(∀x∈l,-B<=f x/\f x<=B)->-(B*(l.length:Int))<=(l.map f).sum/\(l.map f).sum<=B*(l.length:Int)
 |[],_=>by simp
 |x::l,h=>by
  have h1:=h x (by simp)
  have c:=sum_in f l fun y b=>h y (by simp[b])
  rw[Hs,Jg,Iu]
  have e:B*((l.length+1:Nat):Int)=B*(l.length:Int)+B:=by rw[Int.natCast_add,Int.mul_add];simp
  rw[e];omega
theorem wF{ws:List Wl}(e:∀w∈ws,LD w){f:Nat}(i:f<2*ws.length):(0<=(fa ws f).1/\(fa ws f).1<=20)/\(0<=(fa ws f).2/\(fa ws f).2<=20)/\(0<=(fb ws f).1/\(fb ws f).1<=20)/\(0<=(fb ws f).2/\(fb ws f).2<=20):=by
 obtain⟨_,_,g⟩:=bE (ws:=ws) (k:=((f/2:Nat):Int)) () ();obtain⟨a,b,c,d⟩:=e _ g;unfold fa fb fw;by_cases h:f%2=0
 ·rw[KI h];exact⟨a,b,c,d⟩
 ·rw[KH h];exact⟨c,d,a,b⟩
theorem km{A B x y:Int}(a:-A<=x/\x<=A)(b:-B<=y/\y<=B):-(A*B)<=x*y/\x*y<=A*B:=by
 have h:(x*y).natAbs<=A.toNat*B.toNat:=by rw[Int.natAbs_mul];exact Nat.mul_le_mul () ()
 have e:((A.toNat*B.toNat:Nat):Int)=A*B:=by rw[Int.natCast_mul,Int.toNat_of_nonneg (),Int.toNat_of_nonneg ()]
 omega
theorem yq{ws:List Wl}(a:∀w∈ws,LD w){r:List Nat}(b:∀g∈r,g<2*ws.length)(d:r.length<=80):-64000<=rT ws r/\rT ws r<=64000:=by
 have:=sum_in (PD ws) (B:=800) r fun g c=>by
  obtain⟨e,f,b1,h⟩:=wF a (b g c)
  have i:=km (A:=20) (B:=20) (x:=(fa ws g).1) (y:=(fb ws g).2) () ()
  have j:=km (A:=20) (B:=20) (x:=(fb ws g).1) (y:=(fa ws g).2) () ()
  unfold PD;omega
 unfold rT;omega
structure Oo(ws:List Wl)(r:List Nat):Prop where
 rng:QL ws r
 lt:∀g∈r,g<2*ws.length
 len:r.length<=80
theorem qE{ws:List Wl}(b:∀w∈ws,LD w){rs:List (List Nat)}(a:∀r∈rs,Oo ws r)(c:rs.length<=100):-(10^7)<=MD ws rs/\MD ws rs<=10^7:=by have:=sum_in (rT ws) (B:=64000) rs fun r h=>yq b (a r h).lt (a r h).len;unfold MD;omega
def tG(g h:Int)(ws:List Wl)(f:Nat):Int:=(g*(fa ws f).1-h)*(g*(fb ws f).2-h)-(g*(fb ws f).1-h)*(g*(fa ws f).2-h)
theorem CB{ws:List Wl}(a:∀w∈ws,LD w)(hF:PF ws){r:List Nat}(R:QL ws r)(g h:Int):(r.map (tG g h ws)).sum=g*g*rT ws r:=by
 have e:=wQ a hF R (t:=g) (b:=1) (X:=-h) (Y:=-h) ⋯
 have u:∀x:Int,Ke g 1 (-h) 1 x=((g*x-h:Int):Rat):=fun x=>by
  rw[<-Ko,JG]
  have h1:((1:Int):Rat)=1:=rfl
  rw[h1,show x*g+-h=g*x-h by rw[Int.mul_comm x g];omega]
  grind
 have f:(Nj g 1 (-h) (-h) ws)=fun f=>((tG g h ws f:Int):Rat):=by
  funext f
  unfold Nj tG;rw[u,u,u,u];simp only[Js,Iv]
 rw[f,kO]at e;have h1:((1:Int):Rat)=1:=rfl;rw[h1]at e;have:(((r.map (tG g h ws)).sum:Int):Rat)=((g*g*rT ws r:Int):Rat):=by rw[e,Iv,Iv];unfold rT;grind
 exact_mod_cast this
theorem Fl(t b g T:Int):MM (g*t) b T=MM t b (g*g*T):=by unfold MM;rw[show T*(g*t)*(g*t)=g*g*T*t*t by grind]
theorem mZ{ws:List Wl}(a:∀w∈ws,LD w)(hF:PF ws)(g h:Int):∀{rs:List (List Nat)},(∀r∈rs,Oo ws r)->(rs.map fun r=>(r.map (tG g h ws)).sum).sum=g*g*MD ws rs
 |[],_=>by simp[MD]
 |r::rs,H=>by
  have b:=mZ a hF g h (rs:=rs) fun c d=>H c (by simp[d])
  unfold MD at b ⊢
  rw[Hs,Jg,b,CB a hF (H r (by simp)).rng,Hs,Jg,Int.mul_add]
def inR(L:List Int)(ins:List (List Nat))(j n:Nat):List (List Nat):=((HX n).filter fun i=>decide ((L[((ins[i]?).getD []).headD 0]?).getD 0=(j:Int))).map fun i=>(ins[i]?).getD []
theorem RL.pick{M:MH}{qs:List Addr}{ins:List (List Nat)}(R:RL M qs ins):∀l:List Nat,(∀i∈l,i<qs.length)->RL M (l.map fun i=>(qs[i]?).getD 0) (l.map fun i=>(ins[i]?).getD [])
 |[],_=>.nil
 |i::l,h=>by
  have a:=h i (by simp)
  obtain⟨r,e,m⟩:=R.get a
  refine .cons ?_ (R.pick l fun j b=>h j (by simp[b]))
  show M ((qs[i]?).getD 0)=KA (.lst (((ins[i]?).getD []).map fun g:Nat=>D.int (g:Int)))
  rw[Hl a,e]
  exact m
theorem RL.inn{M:MH}{qs:List Addr}{ins:List (List Nat)}(R:RL M qs ins)(L:List Int)(j:Nat):RL M (MN L ins qs j qs.length) (inR L ins j qs.length):=R.pick _ fun i a=>JB.mp (Ig.mp a).1
theorem nG{L:List Int}{ins:List (List Nat)}{j n:Nat}(b:n<=ins.length){r:List Nat}(h:r∈inR L ins j n):r∈ins:=by unfold inR at h;obtain⟨i,a,rfl⟩:=IU.mp h;have a:=JB.mp (Ig.mp a).1;rw[Hl ()];exact Iz _
theorem nS(L:List Int)(ins:List (List Nat))(j n:Nat):(inR L ins j n).length<=n:=by unfold inR;rw[Hn];have:=II (fun i=>decide ((L[((ins[i]?).getD []).headD 0]?).getD 0=(j:Int))) (HX n);rw[List.length_range]at this;exact this
theorem qI{ws:List Wl}(a:∀w∈ws,LD w)(hF:PF ws)(c:ws.length<=40){rs:List (List Nat)}(G:ND ws (2*ws.length) rs):∀r∈rs,Oo ws r:=fun r b=>by have A:=gi a hF (Hq _) G r b;exact⟨A.rng,A.lt,by have:=A.len;omega⟩
def lR(L:List Int)(a ins:List (List Nat))(j n:Nat):List (List Nat):=(if j=0 then[]else[(a[j-1]?).getD []])++inR L ins j n
theorem nD(a:List Str):(tupleText a).length<=piled a+3:=by
 unfold tupleText;rw[strLen_append,strLen_append];have e1:((("(":String):Str)).length=1:=rfl;have e3:(((if a.length==1 then ",)" else ")":String):Str)).length<=2:=by split<;>decide
 rw[e1];by_cases h:a=[]
 ·subst h;have:(Str.join ", " []).length=0:=rfl;omega
 ·have:=join_length_add a h;omega
open PySem.Sem (wp)
def gM(h h':Heap):Prop:=∀a o,h.get? a=KA o->∃b,h'.get? a=KA b/\b.dict=o.dict
theorem gM.refl{h:Heap}:gM h h:=fun _ o e=>⟨o,e,rfl⟩
theorem gM.trans{h h1 c:Heap}(a:gM h h1)(b:gM h1 c):gM h c:=fun x o e=>let⟨d,e1,f⟩:=a x o e;let⟨g,e2,i⟩:=b x d e1;⟨g,e2,i.trans f⟩
def LZ{b:Type}(t:Sem b):Prop:=∀(M:Model) (c:PySem.Ctx) (Q:b->Pos->Hk->Prop) (E:Hj->Pos->Hk->Prop) (p:Pos) (s:Hk),
 wp M c t Q E p s->wp M c t (fun a e d=>Q a e d/\gM s.heap d.heap) (fun _ _ _=>False) p s
section
variable{α β:Type}
theorem LZ.pure{a:α}:LZ (Pure.pure a:Sem α):=fun M b Q E p s h=>⟨h,.refl⟩
theorem LZ.uns{w:String}:LZ (unsupported w:Sem α):=fun M a Q E p s h=>(show False from h).elim
theorem LZ.bind{t:Sem α}{f:α->Sem β}(h1:LZ t)(j:∀a,LZ (f a)):LZ (t >>= f):=fun M e Q E p s h=>by rw[Sem.wp_bind']at h ⊢;refine Sem.wp_mono M e t (fun a g i c=>?_) (fun _ _ _ z=>z) p s (h1 M e _ E p s h);obtain⟨q,k⟩:=c;exact Sem.wp_mono M e (f a) (fun b n o d=>by obtain⟨l,m⟩:=d;exact(⟨l,k.trans m⟩)) (fun _ _ _ z=>z) g i (j a M e Q E g i q)
theorem LZ.load{a:Addr}:LZ (PySem.load a):=fun M b Q E p s h=>by obtain⟨o,e,q⟩:=(show ∃o,s.heap.get? a=KA o/\Q o p s from h);exact⟨o,e,q,.refl⟩
theorem LZ.stack:LZ PySem.stack:=fun M a Q E p s h=>⟨h,.refl⟩
theorem AQ{h:Heap}{a b:Addr}{f:Obj->Obj}{o:Obj}(c:∀o,(f o).dict=o.dict/\(f o).isFreed=o.isFreed)(e:h.get? b=KA o):∃o',(h.update a f).get? b=KA o'/\o'.dict=o.dict:=by
 by_cases z:a=b
 ·subst z;exact⟨f o,J7 f e ((c o).2.trans (Heap.get?_some_iff.mp e).2),(c o).1⟩
 ·exact⟨o,(IE h f z).trans e,rfl⟩
theorem LZ.update{a:Addr}{f:Obj->Obj}(d:∀o,(f o).dict=o.dict/\(f o).isFreed=o.isFreed):LZ (PySem.update a f):=fun M g Q E p s h=>
 have c:(s.heap.get? a).isSome/\Q ⟨⟩ p { s with heap:=s.heap.update a f }:=h
 show(s.heap.get? a).isSome/\_ from⟨c.1,c.2,fun b o e=>AQ d e⟩
theorem LZ.alloc{o:Obj}:LZ (PySem.alloc o):=fun M b Q E p s h=>⟨h,fun a u e=>⟨u,Ho _ e,rfl⟩⟩
theorem LZ.ite{c:Prop}[Decidable c]{t u:Sem α}(h1:LZ t)(a:LZ u):LZ (if c then t else u):=by
 split
 ·exact h1
 ·exact a
end
theorem uA(g:Array Hj->Array Hj)(o:Obj):(o.mapFields g).dict=o.dict/\(o.mapFields g).isFreed=o.isFreed:=by obtain⟨c,d,a,b⟩:=o;cases a<;>exact⟨rfl,rfl⟩
theorem uq{v:Hj}:LZ (fieldsOf v):=by
 unfold fieldsOf;cases v<;>first|exact .uns|skip
 refine .bind .load fun o=>?_;cases o.data<;>first|exact .uns|exact .pure
theorem hZ{v:Hj}{i:Nat}:LZ (field v i):=by unfold field;refine .bind uq fun vs=>?_;cases vs[i]?<;>first|exact .uns|exact .pure
theorem fX{v x:Hj}{i:Nat}:LZ (setField v i x):=by
 unfold setField;cases v<;>first|exact .uns|skip
 unfold updateField;refine .bind .load fun o=>?_;cases o.data<;>first|exact .uns|skip
 exact .ite (.update fun o=>uA _ o) .uns
theorem eM{e:Hj}{f:Option Addr}:LZ (setFlight e f):=by unfold setFlight;refine .bind hZ fun a=>?_;exact .ite fX .pure
theorem wK:LZ underTheClaimsCaller:=by unfold underTheClaimsCaller;exact .bind .stack fun _=>.pure
theorem oM{env:Env}{b:Bool}:∀{l:List Env},LZ (keptBack env b l)
 |[]=>by
  unfold keptBack
  exact .ite .pure (.bind wK fun _=>.pure)
 |_::_=>.pure
theorem ub{env:Env}{l:List Env}:LZ (behindIsImport env l):=by unfold behindIsImport;refine .ite .pure (.ite .pure (.bind hZ fun _=>.pure))
theorem nX:∀{l:List Env},LZ (readyFrames l)
 |[]=>.pure
 |env::outer=>by
  unfold readyFrames
  cases env.frame with
  |none=>exact .uns
  |some f=>
   refine .bind .load fun o=>.ite .pure (.bind ub fun b=>.bind oM fun v=>.bind (.update fun o=>?_) fun _=>nX)
   obtain⟨c,d,a,e⟩:=o
   cases a<;>exact⟨rfl,rfl⟩
theorem qW{env:Env}:LZ (PySem.frameOf env):=by
 unfold PySem.frameOf frameEnvs;refine .bind (.bind .stack fun _=>.pure) fun l=>.bind ?_ fun r=>?_
 ·generalize List.dropWhile _ l=a;cases a with
  |nil=>exact .pure
  |cons e r=>exact .bind nX fun _=>.pure
 ·cases r<;>first|exact .uns|exact .pure
theorem vq{f:Addr}{b:Bool}:LZ (entryPlaceOf f b):=by
 unfold entryPlaceOf;refine .bind .stack fun a=>?_;split
 ·exact .pure
 ·exact .pure
theorem vB{a b c d e:Hj}{pl:List Hj}:LZ (EntryCells.newEntry a b c d e pl):=by unfold EntryCells.newEntry newFields newObj;dsimp only;refine .ite .uns ?_;unfold newObjAsIs;exact .bind .alloc fun _=>.pure
theorem rX{e:Hj}{env:Env}:LZ (noteFrame e env):=by
 unfold noteFrame;cases env.frame with
 |none=>exact .uns
 |some f=>
  have b:∀a:Hj,LZ (do setField e 1 (<-EntryCells.newEntry a (<-PySem.frameOf env) .none (rawInt f) .none (<-entryPlaceOf f (a != .none)))):=fun a=>.bind qW fun _=>.bind vq fun _=>.bind vB fun _=>fX
  refine .bind hZ fun a=>.ite (.bind hZ fun x=>.ite .pure (.bind fX fun _=>b a)) (b a)
theorem qM{e:Hj}{env:Env}:LZ (leaving env e):=.bind rX fun _=>eM
theorem LZ.any{c:Type}{t:Sem c}(k:LZ t){M:Model}{A:Ij}{Q:c->Hk->Prop}{E:Hj->Hk->Prop}{s:Hk}(h:Hu M A t Q E s):Hu M A t (fun a d=>Q a d/\gM s.heap d.heap) (fun _ _=>False) s:=fun e p b=>k M e _ _ p s (h e p b)
section
variable{prog:HF}{w:Ih}{A:Ij}{E:Hj->Hk->Prop}{hp:Heap}{gs:Array GenState}{dr:Drawn}{tk:Nat}{sys:OsState}
variable{cn cq:Str}{C NS fI:Addr}{KZ ups:List Hj}{Kc:Bool}{sn:List Str}{sub:List Hj}{ab:Bool}{col:Option Bool}{dd:Option Addr}{k0 k1 k2 k3 k5:Option Hj}{mN:Str->Option Hj}{us:List Hj}{oI:Obj}
abbrev AL(us:List Hj):Obj:={ cls:=.type "tuple",data:=.seq us.toArray }
abbrev eF(C t:Addr)(d:Option Addr):Obj:={ cls:=.ref C,dict:=d,data:=.fields #[.ref t,.none,.none,.none,.bool KG,.none] }
theorem uE(T:OwnTail hp Mt ups)(hC:hp.get? C=KA (excClassObj cn cq C NS KZ ups Kc sn sub ab col dd k0 k1 k2 k3 k5 "ValueError.__new__"))(h:hp.Ns NS mN)(i:mN "__init__"=KA (.ref fI))(j:hp.get? fI=KA oI)(l:oI.cls=.type "function")(m:us.length<=Hy)
 {Q:PySem.Fin->Hk->Prop} (k:∀h',(∀b o,hp.get? b=KA o->h'.get? b=KA o)->h'=(hp.push (AL us)).push (eF C hp.objs.size KC)->Hu (HC prog w) A (call (.ref fI) (.ref (hp.objs.size+1)::us)) (fun r g=>r=.none/\Q (.done (.ret (.ref (hp.objs.size+1)))) g) E ⟨h',gs,dr,tk,sys⟩) :
 Hu (HC prog w) A (K8.«type.__call__» ⟨.ref C::us,[]⟩) Q E ⟨hp,gs,dr,tk,sys⟩:=by
 have a:=F.excBase_ValueError
 repeat (first|with_reducible refine wpAny_loadPart_at hC ?_|with_reducible refine wpAny_madeBy_exc hC ?_|wp_step)
 refine codeAny_call_builtin_code (Code.quiet_builtin _ a.quiet) (wpAny_check_new_subU a ⋯ T hC ?_)
 refine codeAny_exc_new_subU a ⋯ a T hC ?_ m
 show Hu _ _ _ _ _ _
 have kp:∀b o,hp.get? b=KA o->((hp.push (AL us)).push (eF C hp.objs.size KC)).get? b=KA o:=fun b o e=>Ho _ (Ho _ e)
 have c:=kp _ _ hC
 have d:=h.keeps kp
 have n:=T.keeps kp
 have p:((hp.push (AL us)).push (eF C hp.objs.size KC)).get? (hp.objs.size+1)=KA (eF C hp.objs.size KC):=Heap.get?_push_at (by simp) rfl
 have f:(Ii C::ups).contains (.ref C)=KD:=by simp
 unfold isInstance
 repeat (first|with_reducible refine wpAny_loadPart_at p ?_|(with_reducible refine wpAny_isSubtype_exc c ?_;rw[f])|wp_step)
 show Hu _ _ (typeLookup (.ref C) _) _ _ _
 refine wpAny_typeLookup_tail c d n a.mroIs a.init.lookup ?_
 rw[i]
 refine J4 (cc ?_)
 unfold bindSpecial
 refine cc (wpAny_typeOf (T:="function") ⟨_,kp _ _ j,l⟩ ?_)
 rw[KI ⋯]
 refine Hm (cc (Hx (k _ kp rfl) (fun r g z=>?_) fun _ _ z=>z))
 obtain⟨rfl,q⟩:=z
 wp_walk
 exact q
theorem uV(T:OwnTail hp Mt ups)(hC:hp.get? C=KA (excClassObj cn cq C NS KZ ups Kc sn sub ab col dd k0 k1 k2 k3 k5 "ValueError.__new__"))(c:hp.Ns NS mN)(d:mN "__init__"=KA (.ref fI))(e:hp.get? fI=KA oI)(f:oI.cls=.type "function")(g:us.length<=Hy)
 {Q:Hj->Hk->Prop} (k:∀h',(∀b o,hp.get? b=KA o->h'.get? b=KA o)->h'=(hp.push (AL us)).push (eF C hp.objs.size KC)->Hu (HC prog w) (A.under (.builtin "type.__call__" ⟨.ref C::us,[]⟩)) (call (.ref fI) (.ref (hp.objs.size+1)::us)) (fun r h=>r=.none/\Q (.ref (hp.objs.size+1)) h) E ⟨h',gs,dr,tk,sys⟩) :
 Hu (HC prog w) A (call (.ref C) us) Q E ⟨hp,gs,dr,tk,sys⟩:=by
 have i:=tc_lookup
 have j:=tc_bind (.ref C)
 have l:(⟨hp,gs,dr,tk,sys⟩:Hk).TypeIs (.ref C) "type":=⟨_,hC,rfl⟩
 refine wpAny_call (codeAny_of_tree ?_)
 show Hu _ _ (callAny (.ref C) _) _ _ _
 repeat (any_goals (first|assumption|with_reducible refine wpAny_loadPart_at hC ?_|wp_step))
 refine⟨rfl,codeAny_call_builtin_at (Code.quiet_builtin _ (by decide +kernel)) entry_typeCall (wpAny_check_type_call_sub hC (uE T hC c d e f g fun h' a b=>?_))⟩
 exact k h' a b
end
open PySem.W (Frag findIn subIn clsIn nsIn typeIn keepIn looks_findIn looks_subIn looks_clsIn Looks)
theorem Ep{K:Frag}{h:Heap}{N:Addr}{mg:Str->Option Hj}{n:Str}{v:Hj}(X:K.In h)(G:h.Ns N mg)(e:nsIn K N n=KA (KA v)):mg n=KA v:=by
 obtain⟨o,c,d,a,hd,_,b⟩:=G;unfold nsIn at e;split at e
 ·rename_i ks ks' n' _ hl;have:=X _ _ hl;rw[a]at this;cases this;cases hd;rw[<-b];unfold nsFind findBy;rw[<-Array.find?_toList];split at e
  ·rename_i en he;rw[he];cases e;rfl
  ·split at e<;>cases e
 ·cases e
structure Ln(K:Frag)(C S fI:Addr):Prop where
 lk:∃cn cq NS KZ Kc sn sub ab col dd k0 k1 k2 k3 k5,K.lookup C=KA (excClassObj cn cq C NS KZ (.ref S::Mt) Kc sn sub ab col dd k0 k1 k2 k3 k5 "ValueError.__new__")/\PySem.W.nsOkIn K NS=KD/\nsIn K NS "__init__"=KA (KA (.ref fI))
 tl:PySem.W.tailIn K Mt (.ref S::Mt)=KD
 fn:typeIn K (.ref fI)=KA (.type "function")
 kp:keepIn K (.ref C)=KD
 hd:JH K C=KD
 sa:findIn K (.ref C) "__setattr__"=KA (KA (.builtin "object.__setattr__"))
 ob:subIn K (.ref C) (.type "object")=KA KD
theorem Ln.at{K:Frag}{C S e:Addr}(c:Ln K C S e){h:Heap}(X:K.In h):∃g i b j k m sub n a o p q r s t v f,h.get? C=KA (excClassObj g i C b j (.ref S::Mt) k m sub n a o p q r s t "ValueError.__new__")/\h.Ns b v/\v "__init__"=KA (.ref e)/\h.get? e=KA f/\f.cls=.type "function"/\OwnTail h Mt (.ref S::Mt):=by
 obtain⟨g,i,b,j,k,m,sub,n,a,o,p,q,r,s,t,l,ok,x⟩:=c.lk;have w:h.Ns b (h.nsMap b):=.of_isNs (PySem.W.isNs_of_in X ok);have d:=c.fn;unfold typeIn at d;dsimp only at d;cases u:K.lookup e with
 |none=>rw[u]at d;cases d
 |some f=>
  rw[u]at d
  exact⟨g,i,b,j,k,m,sub,n,a,o,p,q,r,s,t,_,f,X _ _ l,w,Ep X w x,X _ _ u,Option.some.inj d,PySem.W.tail_of_in X c.tl⟩
section
variable{prog:HF}{w:Ih}{A:Ij}{E:Hj->Hk->Prop}{s:Hk}{K:Frag}{C S fI a t dx:Addr}{dd:Option Addr}{x v:Hj}{name:Str}{mA:Str->Option Hj}{oe:Obj}
theorem ud(c:Ln K C S fI)(X:K.In s.heap)(f:s.heap.get? a=KA (eF C t dd)){Q:Hj->Hk->Prop}
 (k:∀h',(∀b o,b≠a->s.heap.get? b=KA o->h'.get? b=KA o)->h'.get? a=KA (eF C s.heap.objs.size dd)->Q .none { s with heap:=h' }) :
 Hu (HC prog w) A (call (.builtin "ValueError.__init__") [.ref a,x]) Q E s:=by
 obtain⟨j,l,m,n,p,q,sub,r,g,h,u,y,z,B,D,G,H,hC,I,J,L,M,T⟩:=c.at X
 obtain⟨N,O,P,R,i⟩:=s
 have d:=F.excBase_ValueError
 refine wpAny_call (Jn d.init.plain d.initEntry (wpAny_check_init_subU d T hC f rfl ?_))
 wp_walk
 refine k _ (fun b o ne e=>?_) ?_
 ·rw[IE _ _ (Ne.symm ne)]
  exact Ho _ e
 ·rw[J7 _ (Ho _ f) rfl]
  rfl
theorem pF(b:s.heap.get? a=KA (eF C t KC)):PySem.W.InstAt s.heap a (eF C t KC) C KC:=⟨b,rfl,rfl,trivial⟩
theorem sI{j:Obj}{od:Option Obj}{tk:Tok}{R:Result->Hk->Prop}(c:Ln K C S fI)(X:K.In s.heap)(I:PySem.W.InstAt s.heap a j C od)(k:findIn K (.ref C) name=KA KC)
 (h:Hu (HC prog w) A.in1 (Builtin.ObjectAttr.storeInOwnDict (.ref a) (.ref C) (.str name tk) name v KG)
  (fun fin d=>match fin with|.done f=>R (.ok f) d|.again g=>g.quiet=KD/\Jo (HC prog w) A g R d) (fun e d=>R (.error e) d) s) :
 Jo (HC prog w) A (.call (.builtin "object.__setattr__") ⟨[.ref a,.str name tk,v],[]⟩) R s:=by
 have b:=F.store_ValueError
 obtain⟨r,u,y,z,B,D,sub,G,l,m,H,J,L,N,O,P,Q,hC,_⟩:=c.at X
 have o:Looks (HC prog w) s.heap (isInstance (.ref a) (.type "object")) KD:=I.type.andThen (looks_subIn X c.ob)
 refine Jn b.slot.plain b.entry (PySem.W.check_slot (M:=HC prog w) (s:=s) (i:="object.__setattr__") (owner:="object") (n:="__setattr__") (self:=.ref a) (rest:=[.str name tk,v]) (kw:=[]) b.kind b.split o (b.args (.ref a) (.str name tk) v) ?_)
 rw[PySem.W.osa_eq,refuse_eq]
 obtain⟨T,U,V,p,q⟩:=s
 refine cc (cc (I.type.here (cc (wpAny_mroOf_exc hC ?_))))
 rw[refuseLoop_ref,refuseLoop_ref,b.passes]
 refine Hm (cc (I.type.here (cc ((looks_findIn X k).here (cc (Hm ?_))))))
 exact h
theorem AV{Q:Unit->Hk->Prop}(c:Ln K C S fI)(X:K.In s.heap)(f:s.heap.get? a=KA (eF C t KC))(p:findIn K (.ref C) name=KA KC)
 (k:∀h' h,(∀b o,b≠a->s.heap.get? b=KA o->h'.get? b=KA o)->h'.get? a=KA (eF C t (KA s.heap.objs.size))->h'.Ns1 s.heap.objs.size (fun y=>if y=name then KA v else KC)->Q ⟨⟩ { s with heap:=h',toks:=h }) :
 Hu (HC prog w) A (setAttr (.ref a) name v) Q E s:=by
 refine PySem.W.set_plain X (pF f) c.sa (sI (s:={ s with toks:=s.toks+1 }) c X (pF f) p ?_)
 obtain⟨D,q,hd⟩:=PySem.W.any_some c.hd
 have L:=looks_clsIn (M:=HC prog w) X q
 obtain⟨d,F,G,H,r⟩:=s
 have g:a≠d.objs.size:=Im (Hz f)
 refine cc (Hm (cc (cc (wpAny_loadPart f (cc (PySem.W.Looks.at L ?_))))))
 rw[hd]
 refine cc (wpAny_alloc' (cc (wpAny_update' (Ho _ f) (Hm ?_))))
 have gd:((d.push { cls:=.type "dict",data:=.dict #[] }).update a fun o=>{ cls:=o.cls,dict:=KA d.objs.size,data:=o.data,slots:=o.slots }).get? d.objs.size=KA { cls:=.type "dict",data:=.dict #[] }:=
  (IE _ _ g).trans (Heap.get?_push_at rfl rfl)
 have nd:((d.push { cls:=.type "dict",data:=.dict #[] }).update a fun o=>{ cls:=o.cls,dict:=KA d.objs.size,data:=o.data,slots:=o.slots }).Ns d.objs.size (fun _=>KC):=⟨_,#[],_,gd,rfl,fun e u=>absurd u (by simp),fun _=>rfl⟩
 show Hu _ _ (Jy d.objs.size _ name v) _ _ _
 unfold Jy Builtin.ObjectAttr.newKeyGuard
 refine cc (Hm (cc (wpAny_nsSet1 (Heap.Ns1.of_empty nd) fun h' m n=>?_)))
 obtain⟨I,z,B,i,j,l⟩:=m.count (Within.cons name v Within.nil)
 refine cc (wpAny_lookBehind i (by rw[j];exact pastItsLine_dict (IA l (by rw[Iu,List.length_nil,sizeLine_eq];omega))) ?_)
 wp_walk
 refine k h' _ (fun b o ne e=>?_) ?_ m
 ·exact(n.2 b (Im (Hz e))).trans ((IE _ _ (Ne.symm ne)).trans (Ho _ e))
 ·exact(n.2 a g).trans (J7 _ (Ho _ f) rfl)
theorem mT{od:Obj}(b:s.heap.get? a=KA (eF C t (KA dx)))(hd:s.heap.get? dx=KA od):PySem.W.InstAt s.heap a (eF C t (KA dx)) C (KA od):=⟨b,rfl,rfl,hd⟩
theorem xB{ns:List Str}{Q:Unit->Hk->Prop}(c:Ln K C S fI)(X:K.In s.heap)(f:s.heap.get? a=KA (eF C t (KA dx)))(l:s.heap.Ns1 dx mA)(hw:Within mA ns)(hz:ns.length<=1000)(n:findIn K (.ref C) name=KA KC)
 (k:∀h' g,(∀b o,b≠dx->s.heap.get? b=KA o->h'.get? b=KA o)->h'.Ns1 dx (fun y=>if y=name then KA v else mA y)->Q ⟨⟩ { s with heap:=h',toks:=g }) :
 Hu (HC prog w) A (setAttr (.ref a) name v) Q E s:=by
 obtain⟨od,d,_⟩:=mH l
 refine PySem.W.set_plain X (mT f d) c.sa (sI (s:={ s with toks:=s.toks+1 }) c X (mT f d) n ?_)
 obtain⟨B,p,hd⟩:=PySem.W.any_some c.hd
 have L:=looks_clsIn (M:=HC prog w) X p
 obtain⟨D,F,G,H,q⟩:=s
 refine cc (Hm (cc (cc (wpAny_loadPart f (cc (PySem.W.Looks.at L ?_))))))
 rw[hd]
 refine Hm (a:=KA dx) ?_
 show Hu _ _ (Jy dx _ name v) _ _ _
 unfold Jy Builtin.ObjectAttr.newKeyGuard
 refine cc (Hm (cc (wpAny_nsSet1 l fun h' m r=>?_)))
 obtain⟨I,u,z,h,i,j⟩:=m.count (Within.cons name v hw)
 refine cc (wpAny_lookBehind h (by rw[i];exact pastItsLine_dict (IA j (by rw[Iu,sizeLine_eq];omega))) ?_)
 wp_walk
 exact k h' _ (fun b o ne e=>(r.2 b ne).trans e) m
theorem zG{b:Bool}{Q:Hj->Hk->Prop}(j:Slot "ValueError" "__getattribute__" "BaseException.__getattribute__")(X:K.In s.heap)(Z:Mj K C)(l:JH K C=KD)(c:s.heap.get? a=KA oe)(d:oe.cls=.ref C)(e:PySem.W.notCls oe=KD)(hd:oe.dict=KA dx)(m:s.heap.Ns1 dx mA)(n:mA name=KA v)(o:findIn K (.ref C) name=KA KC)(f:PySem.W.handedIn v=KD)
 (h:Q v { s with toks:=s.toks+1 }):Hu (HC prog w) A (getAttr (.ref a) name b) Q E s:=by
 obtain⟨od,g,p⟩:=mH m
 have I:PySem.W.InstAt s.heap a oe C (KA od):=⟨c,d,e,by rw[hd];exact g⟩
 have q:=PySem.W.findObj_own (K:=K) (C:=C) (od:=od) l o rfl (by rw[p,n])
 obtain⟨D,G,H,J,r⟩:=s
 have k:=dH (M:=HC prog w) c d
 have u:=looks_findIn (M:=HC prog w) X Z.ga
 have L2:=looks_findIn (M:=HC prog w) X Z.gt
 have y:=PySem.W.looks_find (M:=HC prog w) X I q
 have L:=j.bind (.ref a)
 have z:(b&&onTheHeap (JA "BaseException.__getattribute__"))=KG:=by cases b<;>rfl
 have i:(JA "BaseException.__getattribute__"==JA "object.__getattribute__")=KG:=by decide +kernel
 have B:(onTheHeap (Ii C)&&JA "BaseException.__getattribute__"==JA "object.__getattribute__")=KG:=by rw[i];rfl
 have N:=PySem.W.handedOut_of f
 unfold getAttr
 repeat (any_goals (first|assumption|with_reducible refine Looks.at k ?_|with_reducible refine Looks.at u ?_|with_reducible refine Looks.at L2 ?_|wp_step))
 refine Jn j.plain F.entry_bexc_ga (mv X Z c d ?_)
 unfold K8.«object.__getattribute__»
 repeat (any_goals (first|assumption|with_reducible refine Looks.at k ?_|with_reducible refine Looks.at y ?_|wp_step))
end
def fm(a C:Addr)(b:Option Addr):Heap->Prop:=fun h=>∃t,h.get? a=KA (eF C t b)
def oQ(a C:Addr)(b:Option Addr):Heap->Prop:=fun h=>∃o,h.get? a=KA o/\o.cls=.ref C/\o.dict=b/\PySem.W.notCls o=KD
def kg(d:Addr)(fs:List (Str×V)):Heap->Prop:=fun h=>∃a,h.Ns1 d a/\(∀f,jD (fs.lookup f) (a f))/\Within a (fs.map (·.1))
theorem WK{P:HF}{w:Ih}{H:Hp}{h:Heap}{a C t:Addr}{b:Option Addr}(e:h.get? a=KA (eF C t b)):bG P w H h a (.ext (fm a C b)):=⟨⟨t,e⟩,⟨_,e⟩,fun h1 c z k=>let⟨t,q⟩:=z;⟨t,k _ q⟩⟩
theorem Yz{P:HF}{w:Ih}{H:Hp}{h:Heap}{a C:Addr}{b:Option Addr}(e:oQ a C b h):bG P w H h a (.ext (oQ a C b)):=⟨e,let⟨o,q,_⟩:=e;⟨o,q⟩,fun h1 c z k=>let⟨o,q,r⟩:=z;⟨o,k _ q,r⟩⟩
theorem YU{P:HF}{w:Ih}{H:Hp}{h:Heap}{d:Addr}{fs:List (Str×V)}(e:kg d fs h):bG P w H h d (.ext (kg d fs)):=⟨e,let⟨_,⟨o,_,_,q,_⟩,_⟩:=e;⟨o,q⟩,fun h1 f z k=>let⟨a,⟨o,b,c,q,r⟩,z⟩:=z;⟨a,⟨o,b,c,k _ q,r⟩,z⟩⟩
def cK(P:HF)(w:Ih):N8:=fun outer H s E e b=>∃a C c d,e=.ref a/\Nl P w outer H d s b a C/\(∃o,b.heap.get? a=KA o/\o.dict=c)/\E (.ref C) c d
def fU(H:Hp)(a:Addr):Hp:=fun b=>if b=a then KC else H b
theorem du{H:Hp}{a b:Addr}(h:b≠a):fU H a b=H b:=by unfold fU;rw[KH h]
theorem rL{H:Hp}{a:Addr}:fU H a a=KC:=by unfold fU;rw[KI rfl]
theorem p9{H:Hp}{a b:Addr}{o:HO}(h:fU H a b=KA o):b≠a/\H b=KA o:=by
 unfold fU at h;split at h
 ·cases h
 ·rename_i n;exact⟨n,h⟩
section
variable{P:HF}{w:Ih}{K:H0}{mg:Str->Option Hj}{base:Heap}{N:List Str}{qual:Str}{scope:JC}{f:Addr}{cd:Hj}{A:Ij}{outer:List Env}{s:Hk}{H:Hp}{E:XK}
theorem CY{CX a:N8}{b:XK}{KQ:List (Addr×Obj)}{σ:L2.St}{H1:Hp}{c:Hk}(I:Inv (bg CX P w K mg base N qual scope f cd A outer s H E) KQ σ H1 c):Inv (bg a P w K mg base N qual scope f cd A outer s H b) KQ σ H1 c:=Inv.jP I (bg a P w K mg base N qual scope f cd A outer s H b).xe
theorem uX{KQ:List (Addr×Obj)}{σ:L2.St}{l:Hp}{k:Hk}{a C t:Addr}{v:Option Addr}{M:Heap->Prop}(I:Inv (bg (cK P w) P w K mg base N qual scope f cd A outer s H E) KQ σ l k)(i:l a=KA (.ext M))(D:k.heap.get? a=KA (eF C t v))(O:s.heap.get? a=KC)(q:E (.ref C) v (fU l a)) :
 (bg (cK P w) P w K mg base N qual scope f cd A outer s H E).xe (.ref a) k:=by
 have h:∀x:Addr,x∉(bg (cK P w) P w K mg base N qual scope f cd A outer s H E).ex:=fun x z=>absurd (show x∈([]:List Addr)from z) (by simp)
 have R:∀x,l x=KC->x≠a:=fun x n z=>by rw[z,i]at n;cases n
 have j:(ja k.heap (a::Lj (bg (cK P w) P w K mg base N qual scope f cd A outer s H E).stack)).StaysIn k.heap:=fun b o z=>(rD z).2
 have stk:∀{x:Addr} {o:Obj},s.heap.get? x=KA o->x∉Lj outer->x∉a::Lj (bg (cK P w) P w K mg base N qual scope f cd A outer s H E).stack:=fun{x o} e n m=>by
  rcases HW.mp m with z|z
  ·rw[z,O]at e;cases e
  ·exact zt (E:=E) (CY I) e n z
 refine Hx (LZ.any qM (wpAny_leaving_firstW (E:=fun _ _=>False) (base:=ja k.heap (a::Lj (bg (cK P w) P w K mg base N qual scope f cd A outer s H E).stack)) (outer:=outer) (L:=(bg (cK P w) P w K mg base N qual scope f cd A outer s H E).env.locals) (a0:=.ref t) I.ok.frames (pM I.stack fun b c=>fq (Io _ c)) rfl D j (fq J0) rfl rfl rfl (Q:=fun _ S=>Nl P w outer H (fU l a) s S a C) fun h' L=>?_)) (fun _ T z=>?_) (fun _ _ z=>z.elim)
 ·obtain⟨U,⟨_,_,V⟩,W,X⟩:=L
  refine⟨I.os,I.bare,⟨_,_,⟨U,fq J0,V,W⟩,fun x o z=>?_,fun x o e1 n p=>?_,fun x o e1 p=>?_⟩,fun x o e1 n G=>?_,fun x o e1 n=>?_,fun b xs z=>?_,fun b o u z=>?_,fun b ps z=>?_⟩
  ·obtain⟨nx,z⟩:=p9 z
   refine(I.hok x o z).eK (fun b u c g=>?_) (fun b z=>?_) fun b xs z=>?_
   ·rw[d8]
    ·exact g
    ·intro Y
     rcases HW.mp Y with y|y
     ·rcases c with c|c
      ·exact nx (c.symm.trans y)
      ·rw[y,i]at c;cases c
     ·have:=I.gg b y
      rcases c with c|c
      ·rw[c,z]at this;cases this
      ·rw[c]at this;cases this
   ·rw[du (fun y=>by rw[y,i]at z;cases z)];exact z
   ·rw[du (fun y=>by rw[y,i]at z;cases z)];exact z
  ·rw[d8 (stk e1 p)]
   exact I.base.keep x o e1 n p (h x)
  ·rw[d8 (stk e1 p)]
   exact I.base.there x o e1 (h x)
  ·obtain⟨sl,g⟩:=I.base.slot x o e1 n G (h x)
   obtain⟨J,r,d⟩:=jN I.gR G
   rw[g]at r;cases r
   obtain⟨B,Z⟩:=X x _ g d
   exact⟨B,Z⟩
  ·have:=I.base.free x o e1 n (h x)
   rw[du (R x this)];exact this
  ·have:=I.base.tups b xs z
   rw[du (fun y=>by rw[y,i]at this;cases this)];exact this
  ·have:=I.base.frzs b o u z
   rw[du (fun y=>by rw[y,i]at this;cases this)];exact this
  ·obtain⟨more,this⟩:=I.base.tbls b ps z
   exact⟨more,by rw[du (fun y=>by rw[y,i]at this;cases this)];exact this⟩
 ·obtain⟨F,sd⟩:=z
  obtain⟨J,r,d'⟩:=sd a _ D
  exact⟨a,C,v,_,rfl,F,⟨J,r,d'⟩,q⟩
end
section
variable{X:Cx}{k:Nat}{fI C S:Addr}{fd:JT}{ps:List Str}{sp:Sp}{c:Str}{np KU pos:Pos}{e:Expr}{es:List Expr}{t:TA}
theorem Aj{KQ:List (Addr×Obj)}{σ:L2.St}{H:Hp}{s:Hk}{Q:VK}{us:List Hj}{vs:List V}(M:Ln X.K C S fI)(F:L5 X.prog X.w X.K X.mg X.base Mf k fI fd ps sp)(z:LH (k+1) X.A)(B:Binds X.K fd ps [])(I:Inv X KQ σ H s)(r:Vals vs us)(D:us.length<=Hy)
 (h:∀a,H a=KC->sp (.ref a::vs) (upd H a (.ext (fm a C KC))) (fun v i=>v=.non/\Q (.ref a) i) E0) :
 Hu (HC X.prog X.w) X.A (call (.ref C) us) (fun u o=>∃a i,u=.ref a/\s.heap.get? a=KC/\Inv X KQ σ i o/\Q (.ref a) i) X.xe s:=by
 obtain⟨cn,cq,NS,KZ,Kc,sn,sub,ab,E,dd,k0,k1,k2,k3,k5,mN,oI,hC,G,J,L,N,T⟩:=M.at I.kIn
 have p:=h (s.heap.objs.size+1) (I.hok.fresh (Nat.le_succ _))
 obtain⟨d,q,x,j,f⟩:=s
 refine uV T hC G J L N D fun l kp O=>?_
 have P:l.get? (d.objs.size+1)=KA (eF C d.objs.size KC):=by rw[O];exact Heap.get?_push_at (by simp) rfl
 have m:Inv X KQ σ (upd H (d.objs.size+1) (.ext (fm (d.objs.size+1) C KC))) ⟨l,q,x,j,f⟩:=I.laid (t':=j) kp (Nat.le_succ _) (WK P)
 have y:Vals (V.ref (d.objs.size+1)::vs) (Ii (d.objs.size+1)::us):=.cons rfl r
 have n:((Ii (d.objs.size+1)::us)++[]).length=ps.length:=by rw[IX,<-y.length];exact F.len _ _ _ _ p
 have g:=B ⟨l,q,x,j,f⟩ (Ii (d.objs.size+1)::us) m.kIn n
 rw[IX]at g
 refine wpAny_call (codeAny_mono (F.run _ X.stack _ _ ⟨Ii (d.objs.size+1)::us,[]⟩ (Ii (d.objs.size+1)::us) _ _ E0 (z.make C us []) (m.CQ.make C us []) g y p) fun r o b=>?_)
 cases r with
 |error e=>exact HS b
 |ok R=>
  cases R with
  |ret u=>
   obtain⟨v,U,W,Y,Z,q3⟩:=m.after b
   subst Z
   exact⟨Y,_,U,rfl,Heap.get?_none_of_le (Nat.le_succ _),W,q3⟩
  |next=>exact HS b
  |brk=>exact HS b
  |cont=>exact HS b
theorem Af(d:X.ex=[]){KQ:List (Addr×Obj)}{σ:L2.St}{H:Hp}{s:Hk}{Q:VK}(M:Ln X.K C S fI)(F:L5 X.prog X.w X.K X.mg X.base Mf k fI fd ps sp)(m:LH (k+1) X.A)(n:Binds X.K fd ps [])(p:Gl X c)(x:X.mg c=KA (.ref C))(y:PA X (e::es) t)(f:(c==("__debug__":Str))=KG)(B:Hv (e::es) X.env=(KG,eval e X.env)::Hv es X.env)(i:(IY KU (Hv es X.env)).any (·.1)=KG)(I:Inv X KQ σ H s) (h:t σ H fun vs H1=>vs.length<=Hy/\∀a,H1 a=KC->sp (.ref a::vs) (upd H1 a (.ext (fm a C KC))) (fun v b=>v=.non/\Q (.ref a) b) E0) : Hu (HC X.prog X.w) X.A (eval (.Call (.Name c np) (e::es) [] KU) X.env) (fun u l=>∃a b,u=.ref a/\X.s₀.heap.get? a=KC/\Inv X KQ σ b l/\Q (.ref a) b) X.xe s:=by
 refine JU (gb I p x ?_ f);refine PySem.W.callWith_K (h₀:=X.base) I.ok.mod.kin M.kp (LA (y KU KQ s σ H _ I h) fun us N ⟨vs,H1,j,r,D,q⟩=>⟨j.kIn,?_⟩) B i;refine LA (Aj (us:=us) M F m n j r (by rw[<-r.length];exact D) q) fun u l ⟨a,b,E,G,J,L⟩=>⟨a,b,E,?_,J,L⟩;cases z:X.s₀.heap.get? a with
 |none=>rfl
 |some o=>
  obtain⟨O,g⟩:=j.base.there a o z (by rw[d];simp)
  rw[G]at g;cases g
def F9(C:Addr)(sp:Sp)(t:TA):TE:=fun σ H Q=>t σ H fun vs H1=>vs.length<=Hy/\∀a,H1 a=KC->sp (.ref a::vs) (upd H1 a (.ext (fm a C KC))) (fun v b=>v=.non/\Q (.ref a) b) E0
end
section
variable{M:Model}{A:Ij}{E:Hj->Hk->Prop}{s:Hk}{env:Env}{K:H0}
theorem uc{x:Sem Hj}{Q:Flow->Hk->Prop}(g:A.handled=KC)
 (h:Hu M A x (fun v b=>∃a C t e c,v=.ref a/\b.heap.get? a=KA (eF C t e)/\(b.heap.get? C=KA c/\c.cls=.type "type")/\K.In b.heap/\IF K (.ref C) (.type "BaseException")=KA KD/\E (.ref a) b) E s):Hu M A (raiseStmt env (KA x) KC) Q E s:=by
 unfold raiseStmt
 refine cc (Hx h (fun v b z=>?_) fun _ _ z=>z)
 obtain⟨a,C,t,e,c,rfl,f,⟨hC,d⟩,X,i,q⟩:=z
 have j:=dH (M:=M) f rfl
 have k:=PySem.W.looks_subIn (M:=M) X i
 obtain⟨m,n,o,p,l⟩:=b
 unfold excFromValue isExcClass isType isInstance
 repeat (first|with_reducible refine wpAny_loadPart_at f ?_|(with_reducible refine wpAny_loadPart_at hC ?_;rw[d])|with_reducible refine PySem.W.Looks.at j ?_|with_reducible refine PySem.W.Looks.at k ?_|wp_step)
 exact wpAny_raiseNew_none g q
end
section
variable{P:HF}{w:Ih}{K:H0}{mg:Str->Option Hj}{base:Heap}{N:List Str}{qual:Str}{scope:JC}{f:Addr}{cd:Hj}{A:Ij}{outer:List Env}{s:Hk}{H:Hp}{E:XK}
variable{k:Nat}{fI C S:Addr}{fd:JT}{ps:List Str}{sp:Sp}{c:Str}{np KU pos:Pos}{e:Expr}{es:List Expr}{t:TA}
theorem uL(M:Ln K C S fI)(m:IF K (.ref C) (.type "BaseException")=KA KD)(F:L5 P w K mg base Mf k fI fd ps sp)(n:LH (k+1) (bg (cK P w) P w K mg base N qual scope f cd A outer s H E).A)(o:Binds K fd ps [])(p:Gl (bg (cK P w) P w K mg base N qual scope f cd A outer s H E) c)(r:mg c=KA (.ref C))(x:PA (bg (cK P w) P w K mg base N qual scope f cd A outer s H E) (e::es) t)(i:(c==("__debug__":Str))=KG) (y:Hv (e::es) (bg (cK P w) P w K mg base N qual scope f cd A outer s H E).env=(KG,eval e (bg (cK P w) P w K mg base N qual scope f cd A outer s H E).env)::Hv es (bg (cK P w) P w K mg base N qual scope f cd A outer s H E).env) (j:(IY KU (Hv es (bg (cK P w) P w K mg base N qual scope f cd A outer s H E).env)).any (·.1)=KG) : PS (bg (cK P w) P w K mg base N qual scope f cd A outer s H E) (.Raise (KA (.Call (.Name c np) (e::es) [] KU)) KC pos) (fun D σ H1=>F9 C sp t σ H1 fun v d=>∃a b,v=.ref a/\d a=KA (.ext (fm a C b))/\E (.ref C) b (fU d a)):=by intro KQ J σ H1 D I q;rw[arm_exec_Raise];refine cc (J5 (uc (K:=K) (I.ok.hd rfl) (cc (Hx (Af (Q:=fun v d=>∃a b,v=.ref a/\d a=KA (.ext (fm a C b))/\E (.ref C) b (fU d a)) rfl M F n o p r x i y j I q) (fun u L z=>cc (J5 (Hm ?_))) fun _ _ z=>z))));obtain⟨a,d,rfl,B,h,O,b,ea,l,G⟩:=z;cases ea;obtain⟨⟨t0,g⟩,_⟩:=h.hok a _ l;obtain⟨_,_,_,_,_,_,_,_,_,_,_,_,_,_,_,_,_,hC,_⟩:=M.at h.kIn;exact⟨a,C,t0,b,_,rfl,g,⟨hC,rfl⟩,h.kIn,m,uX h l g B G⟩
end
theorem LZ.use{b:Type}{t:Sem b}(k:LZ t){M:Model}{A:Ij}{Q:b->Hk->Prop}{E:Hj->Hk->Prop}{s:Hk}(h:Hu M A t (fun a c=>gM s.heap c.heap->Q a c) E s):Hu M A t Q E s:=Hx (LZ.any k h) (fun _ _ z=>z.1 z.2) fun _ _ z=>z.elim
def CK(X:Cx)(body:List Stmt)(tR:TR):Prop:=
 ∀(KQ:List (Addr×Obj)) (s:Hk) (σ:L2.St) (H:Hp) (E:Hp->XK),Inv X KQ σ H s->tR σ H E->Hu (HC X.prog X.w) X.A (execs body X.env) (fun _ _=>False) (fun e b=>∃H1 a,Inv X KQ σ H1 a/\cK X.prog X.w X.stack H1 a (E H1) e b) s
def BY(X:Cx)(ex:Expr)(tR:TR):Prop:=
 ∀(KQ:List (Addr×Obj)) (s:Hk) (σ:L2.St) (H:Hp) (E:Hp->XK),Inv X KQ σ H s->tR σ H E->Hu (HC X.prog X.w) X.A (eval ex X.env) (fun _ _=>False) (fun e b=>∃H1 a,Inv X KQ σ H1 a/\cK X.prog X.w X.stack H1 a (E H1) e b) s
section
variable{Y:Cx}{k:Nat}{f:Addr}{fd:JT}{ps:List Str}{sp:Sp}{x:Str}{p pos:Pos}{e:Expr}{es:List Expr}{t:TA}
theorem yw(F:L5 Y.prog Y.w Y.K Y.mg Y.base (cK Y.prog Y.w) k f fd ps sp)(j:LH k Y.A)(l:Gl Y.nox x)(m:Y.mg x=KA (.ref f))(n:JD Y.K (.ref f)=KD)(o:Binds Y.K fd ps [])
 (y:PA Y.nox (e::es) t) (d:(x==("__debug__":Str))=KG) (B:Hv (e::es) Y.env=(KG,eval e Y.env)::Hv es Y.env) (g:(IY pos (Hv es Y.env)).any (·.1)=KG) :
 BY Y.nox (.Call (.Name x p) (e::es) [] pos) (fun σ H E=>t σ H fun vs H1=>sp vs H1 (fun _ _=>False) (E H1)):=by
 intro KQ s σ H E I h
 refine JU (gb I l m ?_ d)
 refine PySem.W.callWith_K (h₀:=Y.base) I.ok.mod.kin n (LA (Hx (y pos KQ s σ H _ I h) (fun _ _ z=>z) (fun _ _ z=>z.elim)) fun us i ⟨vs,H1,c,r,q⟩=>⟨c.kIn,?_⟩) B g
 have C:(us++[]).length=ps.length:=by rw[IX,<-r.length];exact F.len _ _ _ _ q
 have a:=o i us c.kIn C
 rw[IX]at a
 refine wpAny_call (codeAny_mono (F.run Y.A Y.stack i H1 ⟨us,[]⟩ us vs _ (E H1) j c.CQ a r q) fun r G b=>?_)
 cases r with
 |error e=>exact⟨H1,i,c,b⟩
 |ok D=>
  cases D with
  |ret u=>obtain⟨v,J,_,_,_,_,_,z⟩:=b;exact z.elim
  |next=>exact HS b
  |brk=>exact HS b
  |cont=>exact HS b
theorem zU{ex:Expr}{tR:TR}{y:Str}{a:Pos}(h:BY Y.nox ex tR)(b:JR ex (KA (.Name y a)) pos.line Y.env=pure KG):CK Y.nox [.Assign [.Name y a] ex pos] tR:=by intro KQ s σ H E I q;refine wpAny_execs_cons (Q:=fun _ _=>False) (LA (Q:=fun _ _=>False) ?_ fun f c z=>z.elim);exact wpAny_Assign_Name (LA (h KQ s σ H E I q) fun v c z=>z.elim) b
end
def E2(K:H0)(S:Addr)(j:Nat)(tb:TS)(tR:TR)(th:TS):TS:=fun D σ H=>tb D σ H\/
 tR σ H fun H1 c d b=>∃C,c=.ref C/\IF K (.ref C) (.ref S)=KA KD/\(Ky K H1 b->∀a,b a=KC->th (gone j D) (σ.set j (KA (.ref a))) (upd b a (.ext (oQ a C d))))
theorem yM{Y:Cx}{body:List Stmt}{k:Stmt}{bs:List Stmt}{c n:Str}{cp hp pos:Pos}{j:Nat}{S:Addr}{tb:TS}{tR:TR}{th:TS} (B:Y.stack=Y.env::Y.outer) (g0:Y.env.frame=KA Y.env.locals) (h0:Y.ex=[]) (hN:Y.N.Nodup) (hj:Y.N[j]?=KA n) (V:Y.env.scope.names.lookup n=KA .local) (hg:Gl Y.nox c) (hm:Y.mg c=KA (.ref S)) (i0:(c==("__debug__":Str))=KG) (hS:K7 Y.K S Mt "ValueError.__new__"=KD) (hB:IF Y.K (.ref S) (.type "BaseException")=KA KD) (hb:Mi Y.nox body tb) (hr:CK Y.nox body tR) (hh:∀a,Mi (hold Y.nox a) (k::bs) th) : PS Y.nox (.Try body [.ExceptHandler (KA (.Name c cp)) (KA n) (k::bs) hp] [] [] pos) (E2 Y.K S j tb tR th):=by
 intro KQ s σ H D I h;refine wpAny_Try_except ?_;rcases h with h|h
 ·refine Hx (hb KQ s σ H D I h) (fun A s1 q=>?_) (fun _ _ z=>z.elim);cases A with
  |next=>exact wpAny_execs_nil q
  |brk=>exact q
  |cont=>exact q
  |ret u=>exact q
 ·refine Hx (hr KQ s σ H _ I h) (fun _ _ z=>z.elim) fun e Z E=>?_;obtain⟨H1,s1,i,a,C,dd,H',he,F,⟨oD,gD,dD⟩,C',hC,b0,q⟩:=E;subst he;cases hC;obtain⟨b,a0,A,hok,kp,j0⟩:=id F.bs;have k0:Z.heap.FunFrames b (Y.env::Y.outer):=by rw[<-B];exact A.2.2.1
  have mk:∀t:Heap,b.StaysIn t->t.FunFrames b (Y.env::Y.outer)->t.TracedW b a (.ref C) a0->(∀x o,Z.heap.get? x=KA o->(∀vs:Array Hj,o.data≠.fields vs)->∃y,t.get? x=KA { o with slots:=y })->Nl Y.prog Y.w Y.stack H1 H' s1 { Z with heap:=t } a C:=
   fun t c1 c2 c3 c4=>⟨F.os,F.bare,⟨b,a0,⟨c1,A.2.1,by rw[B];exact c2,c3⟩,hok,kp,j0⟩,fun x o e n m=>by
    obtain⟨y,g⟩:=F.slot x o e n m
    obtain⟨o',G,d⟩:=jN A.2.2.1 m
    rw[g]at G;cases G
    obtain⟨m0,g2⟩:=c4 x _ g d
    exact⟨m0,g2⟩,F.free,F.tups,F.frzs,F.tbls⟩
  refine LZ.use rX (wpAny_noteFrame_onW (base:=b) (outer:=Y.outer) (L:=Y.env.locals) (by rw[<-B];exact i.ok.frames) k0 g0 A.2.2.2 A.1 A.2.1 fun h2 nt LN=>?_);refine LZ.use eM (wpAny_setFlight_noneW (base:=b) (l:=Y.env::Y.outer) nt.1 nt.2.1 nt.2.2.1 fun t PJ c0 M d0 n0=>?_);have F3:=mk t PJ c0 M fun x o e d=>by obtain⟨y,g⟩:=nt.2.2.2 x o e d;exact⟨y,d0 x _ g d⟩
  have I3:Inv Y.nox KQ σ H' { Z with heap:=t }:=i.pB F3.os (F3.un i.gg) F3.hok F3.bare (ch:=[]) (fun b z=>absurd z (by simp));refine wpAny_handleBy_cons (codeAny_handlers_test ?_) (by intro z;cases z);refine gb (X:=hold Y.nox a) (pH I3) hg hm ?_ i0;obtain⟨oe,vs,T,oT,ts,ho,⟨O,_⟩,_⟩:=id M;refine oR (K:=Y.K) I3.kIn ho O hS hB b0 ?_;show Jo _ _ (Code.handlers (.ref a) [.ExceptHandler KC (KA n) (k::bs) hp] Y.env) _ _;refine codeAny_handlers_suite_as ?_;refine LZ.use eM (wpAny_setFlight_noneW (base:=b) (l:=Y.env::Y.outer) PJ c0 (show t.TracedAtW b a (.ref C) a0 Jq from M) fun h4 NZ o0 e0 r0 s0=>?_);have F4:=mk h4 NZ o0 e0 fun x o e d=>by obtain⟨y,g⟩:=nt.2.2.2 x o e d;exact⟨y,r0 x _ (d0 x _ g d) d⟩
  have I4:Inv Y.nox KQ σ H' { Z with heap:=h4 }:=i.pB F4.os (F4.un i.gg) F4.hok F4.bare (ch:=[]) (fun b z=>absurd z (by simp));have P:∀x:Addr,x∉Y.nox.ex:=fun x z=>by rw[show Y.nox.ex=[]from h0]at z;simp at z
  have I5:Inv Y.nox KQ σ (upd H' a (.ext (oQ a C dd))) { Z with heap:=h4 }:=by
   refine lC I4 F4.new (fun o e n=>?_) (fun z=>?_) (fun x c e z=>?_) (fun p hp z=>?_) ?_
   ·obtain⟨y,g⟩:∃y,s1.heap.get? a=KA { o with slots:=y }:=by
     by_cases mf:a∈Y.nox.fs
     ·exact i.base.slot a o e n mf (P a)
     ·exact⟨o.slots,i.base.keep a o e n mf (P a)⟩
    exact F.apart g (i.base.free a o e n (P a)) rfl
   ·obtain⟨m,⟨o,_,_,g,_⟩,_⟩:=i.loc;exact F.apart g i.free z.symm
   ·obtain⟨v,o,g,_⟩:=i.cell x c e;exact F.apart g (i.freeC x c e) z
   ·obtain⟨g,n,_⟩:=i.pin p hp;exact F.apart g n z
   ·obtain⟨oe,vs,T,oT,ts,ho,⟨O,_⟩,t0,_⟩:=id e0;obtain⟨o',G,d'⟩:=(LN.trans (n0.trans s0)) a oD gD;have G:h4.get? a=KA o':=G;rw[ho]at G;cases G;exact Yz ⟨oe,ho,O,d'.trans dD,by unfold PySem.W.notCls;rw[t0]⟩
  refine d6 (X:=Y.nox) (v:=.ref a) I5 hN hj (.inl V) rfl (fun s6 I6=>?_) (.inr V);refine Hx (hh a KQ s6 _ _ (gone j D) (pH I6) (q (Av (F.un i.gg)) a F4.new)) (fun f s7 hs=>?_) (fun _ _ z=>z.elim);show Hu _ _ (do bindName Y.env n Jq;unbindBehindTheSuite Y.env n hp) (fun _ f0=>SP Y.nox KQ D f f0) _ s7;cases f with
  |next=>obtain⟨Q,R,J,z⟩:=hs;exact gc (X:=Y.nox) (eO (X:=Y.nox) I.ok J) hN hj V fun s8 U=>⟨_,R,U,z⟩
  |brk=>obtain⟨Q,R,J,z⟩:=hs;exact gc (X:=Y.nox) (eO (X:=Y.nox) I.ok J) hN hj V fun s8 U=>⟨_,R,U,z⟩
  |cont=>obtain⟨Q,R,J,z⟩:=hs;exact gc (X:=Y.nox) (eO (X:=Y.nox) I.ok J) hN hj V fun s8 U=>⟨_,R,U,z⟩
  |ret u=>obtain⟨v,Q,R,J,r,z⟩:=hs;exact gc (X:=Y.nox) (eO (X:=Y.nox) I.ok J) hN hj V fun s8 U=>⟨v,_,R,U,r,z⟩
open PySem.W (findIn)
section
variable{X:Cx}
def Part(X:Cx)(e:Expr)(c:L2.St->Hp->Prop):Prop:=∀(KQ:List (Addr×Obj)) (s:Hk) (σ:L2.St) (H:Hp),Inv X KQ σ H s->c σ H->Hu (HC X.prog X.w) X.A (eval e X.env) (fun v a=>∃x t,v=.str x t/\x.length<=1000/\Inv X KQ σ H a) X.xe s
def Parts(X:Cx):List Expr->(L2.St->Hp->Prop)->Prop
 |[],c=>∀σ H,c σ H
 |e::es,c=>∃a b,Part X e a/\Parts X es b/\∀σ H,c σ H->a σ H/\b σ H
theorem yu{x:Str}{j}{p:Pos}(h:x.length<=1000):Part X (.Constant (.str x) j p) (fun _ _=>True):=fun KQ s σ H I _=>Calls.Constant_str ⟨x,_,rfl,h,I.tok _⟩
theorem ot(i:Int)(h:i.natAbs<10^200):(J1 (toString i)).length<=1000:=by
 have key:∀n:Nat,n<10^200->((Nat.repr n).toList.map Char.toNat).length<=200:=fun n h=>by rw[Nat.toList_repr,Hn];exact(Nat.length_toDigits_le_iff (b:=10) (k:=200) ⋯ ⋯).mpr h
 have e:(J1 (toString i)).length=(J1 (toString i)).cps.toList.length:=by simp[PySem.Str.length]
 rw[e,signs_ofString];cases i with
 |ofNat n=>exact IA (key n h) ⋯
 |negSucc n=>
  show(("-"++Nat.repr (n+1)).toList.map Char.toNat).length<=1000
  have:=key (n+1) h
  simp only[String.toList_append,HR,IJ]
  have z:("-".toList.map Char.toNat).length=1:=⋯
  omega
def Small(v:V):Prop:=v=.non\/∃i:Int,v=.int i/\-(10^40)<i/\i<10^40
theorem yk{e:Expr}{te:TE}{p:Pos}(c:PE X e te):Part X (.FormattedValue e (-1) KC p) (fun σ H=>te σ H fun v H1=>H1=H/\Small v):=by
 intro KQ s σ H I h;refine wpAny_FormattedValue_plain (LA (c KQ s σ H _ I h) fun v j z=>?_);obtain⟨x,H1,a,b,d,f⟩:=z;subst d;rcases f with rfl|⟨i,rfl,h0,h1⟩
 ·cases (show v=Jq from b);exact wpAny_formatField_none ⟨_,_,rfl,by decide +kernel,a.tok _⟩
 ·obtain⟨t,rfl⟩:=(show ∃t,v=Value.int i t from b)
  have g:i.natAbs.log2<1920:=by
   have:i.natAbs<2^200:=()
   by_cases z:i.natAbs=0
   ·rw[z];decide
   ·exact Nat.lt_trans ((Nat.log2_lt z).mpr this) ⋯
  exact wpAny_formatField_int g ⟨_,_,rfl,ot i (),a.tok _⟩
theorem om{KQ:List (Addr×Obj)}{Q:VK}{σ:L2.St}{H:Hp}:∀{es:List Expr} {b:List (Sem Hj)} {c:L2.St->Hp->Prop} {a:Str} {s:Hk},b=es.map (fun e=>eval e X.env)->Parts X es c->c σ H->Inv X KQ σ H s->a.length+1000*es.length<=Hy->(∀m,Q (.str m) H)->
 Joins (HC X.prog X.w) X.A X.xe b a (fun out d=>out.length<=Hy/\EP X KQ σ Q (.str out d.toks) { d with toks:=d.toks+1 }) s
 |[],b,c,a,s,et,hp,hc,I,hl,q=>by
  subst et
  exact⟨by simpa using hl,.str a,H,I.tok _,⟨_,rfl⟩,q _⟩
 |e::es,b,c,a,s,et,hp,hc,I,hl,q=>by
  subst et
  obtain⟨k,l,h1,f,g⟩:=hp
  obtain⟨h,i⟩:=g σ H hc
  refine Hx (h1 KQ s σ H I h) (fun v d z=>?_) fun _ _ z=>z
  obtain⟨x,t,rfl,n,j⟩:=z
  have la:(a++x).length=a.length+x.length:=PySem.Str.length_append a x
  rw[Iu]at hl
  exact⟨x,t,rfl,(),om rfl f i j () q⟩
def FU(c:L2.St->Hp->Prop):TE:=fun σ H Q=>c σ H/\∀m,Q (.str m) H
theorem AK{e1 e2:Expr}{es:List Expr}{p:Pos}{c:L2.St->Hp->Prop}(h:Parts X (e1::e2::es) c)(b:es.length<=10)(a:evalEach (e1::e2::es) X.env=(e1::e2::es).map (fun e=>eval e X.env)):PE X (.JoinedStr (e1::e2::es) p) (FU c):=by
 intro KQ s σ H Q I q;refine wpAny_JoinedStr ?_
 have:(Str.empty).length+1000*(e1::e2::es).length<=Hy:=by
  have z:20000<=Hy:=LB rfl
  have y:(Str.empty).length=0:=rfl
  simp only[Iu];omega
 exact om a h q.1 I this q.2
end
section
variable{X:Cx}{S:Addr}{c:Str}{a1 a2:Expr}{np apos KU pos:Pos}{t:TA}
structure QE(K:H0)(S:Addr):Prop where
 ga:PySem.W.specialIn K (.ref S) "__getattribute__"=KA (KA (.builtin "type.__getattribute__"))
 rd:PySem.W.readsIn K S (.type "type")=KD
 fi:PySem.W.findCls K (.ref S) (.type "type") "__init__"=KA (.val (.builtin "ValueError.__init__"))
def A7(K:H0)(S:Addr)(t:TA):TE:=fun σ H Q=>t σ H fun vs H1=>∃a x C d b,vs=[.ref a,.str x]/\Ln K C S d/\H1 a=KA (.ext (fm a C b))/\Q .non (upd H1 a (.ext (fm a C b)))
theorem y9{pl:Sem Bool}(B:QE X.K S)(v:Gl X c)(w:X.mg c=KA (.ref S))(y:PA X [a1,a2] t)(l:(c==("__debug__":Str))=KG)(d:Hv [a1,a2] X.env=(KG,eval a1 X.env)::Hv [a2] X.env)(m:(IY KU (Hv [a2] X.env)).any (·.1)=KG)
 (A:eval (.Call (.Attribute (.Name c np) "__init__" apos) [a1,a2] [] KU) X.env=(do
  let ov <-eval (.Name c np) X.env
  standAt apos.atName
  let(f,first) <-holding [ov] (getMethod ov "__init__" pl)
  callWith KU f first (IY KU (Hv [a1,a2] X.env)) (backToKw KU (JO [] X.env)))):PE X (.Call (.Attribute (.Name c np) "__init__" apos) [a1,a2] [] KU) (A7 X.K S t):=by
 intro KQ s σ H Q I h
 refine PySem.W.methodCall_KW (pl:=pl) (gb I v w ?_ l) A
 refine PySem.W.method_cls I.kIn B.ga (PySem.W.cls_value I.kIn B.rd B.fi rfl ?_)
 have D:=I.tok (s.toks+1)
 have i:((IY KU (Hv [a1,a2] X.env)).any (·.1)||false)=KG:=by rw[d];show((KG||(IY KU (Hv [a2] X.env)).any (·.1))||false)=KG;rw[m];rfl
 have j:=y KU KQ _ σ H _ D h
 rw[d]at j i ⊢
 refine PySem.W.callWith_of (P:=fun h=>X.K.In h) i (fun h _=>⟨.machine,.inr (.inl rfl),.now⟩) (Calls.evalArgs_plain (LA j fun us E z=>?_))
 obtain⟨vs,H1,k,r,a,x,C,L,N,F,M,o,q⟩:=z
 subst F
 obtain⟨G,O,rfl,n,J⟩:=vals2 r
 cases (show G=Ii a from n)
 refine⟨k.kIn,?_⟩
 obtain⟨⟨t0,g⟩,_⟩:=k.hok a _ o
 refine ud M k.kIn g fun R kp p=>⟨.non,_,k.write (x:=a) (e:=a) (t':=E.toks) (by rw[o];exact Jv) (.inl rfl) (fun b u ne e=>kp b u ne e) ⟨_,p⟩ (WK p),rfl,q⟩
end
section
variable{X:Cx}{o value:Expr}{f:Str}{pos pos':Pos}{ta tv:TE}
def A8(K:H0)(ta tv:TE)(f:Str):TS:=fun D σ H=>tv σ H fun y H1=>ta σ H1 fun x c=>∃a C S d,x=.ref a/\Ln K C S d/\findIn K (.ref C) f=KA KC/\
 ((c a=KA (.ext (fm a C KC))/\∀b,c b=KC->D.nx σ (upd (upd c a (.ext (fm a C (KA b)))) b (.ext (kg b [(f,y)]))))\/
  ∃b fs,c a=KA (.ext (fm a C (KA b)))/\c b=KA (.ext (kg b fs))/\fs.length<=900/\D.nx σ (upd c b (.ext (kg b (jT f y fs)))))
theorem AD(T:PE X o ta)(U:PE X value tv)(V:JR value (KA (.Attribute o f pos')) pos.line X.env=pure KG):PS X (.Assign [.Attribute o f pos'] value pos) (A8 X.K ta tv f):=by
 intro KQ s σ H D I h;refine plainObj_wpAny_Assign_Attribute (LA (U KQ s σ H _ I h) fun u W ⟨y,H1,Y,L,q⟩=>LA (T KQ W σ H1 _ Y q) fun Z i z=>?_) V;obtain⟨x,A,d,rx,a,C,S,fI,ex,M,N,j⟩:=z;subst ex;obtain rfl:Z=Ii a:=rx;rcases j with⟨k,j⟩|⟨B,fs,k,l,hl,j⟩
 ·obtain⟨⟨t0,g⟩,_⟩:=d.hok a _ k;have t:A i.heap.objs.size=KC:=d.hok.fresh (Hq _);have ne:i.heap.objs.size≠a:=fun z=>by rw[z,k]at t;cases t
  refine AV M d.kIn g N fun O m kp P w=>?_;have I3:Inv X KQ σ (upd A a (.ext (fm a C (KA i.heap.objs.size)))) { i with heap:=O,toks:=m }:=d.write (x:=a) (e:=a) (by rw[k];exact Jv) (.inl rfl) (fun b u E e=>kp b u E e) ⟨_,P⟩ (WK P);refine⟨σ,_,?_,j _ t⟩;have F:upd A a (.ext (fm a C (KA i.heap.objs.size))) i.heap.objs.size=KC:=by rw[aE ne];exact t
  refine lC I3 F (fun o e n=>?_) (fun z=>?_) (fun x c e z=>?_) (fun p hp z=>?_) (YU ⟨_,w,fun g=>?_,fun g G=>?_⟩)
  ·exact absurd (HL (Hz e) d.sz) (Jp _)
  ·exact absurd (z▸d.lt) (Jp _)
  ·obtain⟨v,o,J,_⟩:=d.cell x c e;exact absurd (z▸Hz J) (Jp _)
  ·obtain⟨J,_⟩:=d.pin p hp;exact absurd (z▸Hz J) (Jp _)
  ·show jD (JN g [(f,y)]) (if g=f then KA u else KC);by_cases z:g=f
   ·subst z;rw[KI rfl];simp only[JN,beq_self_eq_true];exact L
   ·rw[KH z];have:(g==f)=KG:=beq_eq_false_iff_ne.mpr z;simp only[JN,this];exact Jv
  ·by_cases z:g=f
   ·subst z;simp
   ·exact absurd (show(if g=f then KA u else KC)=KC by rw[KH z]) G
 ·obtain⟨⟨t0,g⟩,_⟩:=d.hok a _ k;obtain⟨⟨Q,n0,r,R⟩,_⟩:=d.hok B _ l;refine xB M d.kIn g n0 R (by rw[Hn];omega) N fun O m kp w=>⟨σ,_,d.write (x:=B) (e:=B) (by rw[l];exact Jv) (.inl rfl) (fun b u E e=>kp b u E e) (let⟨o,_,_,e,_⟩:=w;⟨o,e⟩) (YU ⟨_,w,fun g=>?_,fun g G=>?_⟩),j⟩
  ·show jD ((jT f y fs).lookup g) (if g=f then KA u else Q g);rw[jm];by_cases z:g=f
   ·rw[KI z,KI z];exact L
   ·rw[KH z,KH z];exact r g
  ·by_cases z:g=f
   ·rw[z];exact(iN f y fs).1
   ·refine(iN f y fs).2 g (R g fun y=>G ?_);show(if g=f then KA u else Q g)=KC;rw[KH z];exact y
structure Vk(K:H0)(C:Addr)(f:Str):Prop where
 c:Mj K C
 hd:JH K C=KD
 no:findIn K (.ref C) f=KA KC
def F5(K:H0)(ta:TE)(f:Str):TE:=fun σ H Q=>ta σ H fun x H1=>∃a C b fs v c,x=.ref a/\H1 a=KA (.ext c)/\(∀h,c h->oQ a C (KA b) h)/\H1 b=KA (.ext (kg b fs))/\Vk K C f/\fs.lookup f=KA v/\Q v H1
theorem z5(i:PE X o ta)(j:Jz o f X.env (eval o X.env)=eval o X.env):PE X (.Attribute o f pos) (F5 X.K ta f):=by intro KQ s σ H Q I h;refine AA j (LA (i KQ s σ H _ I h) fun u D z=>?_);obtain⟨x,H1,b,k,a,C,m,fs,v,E,ex,ea,n,t,Z,l,q⟩:=z;subst ex;obtain rfl:u=Ii a:=k;obtain⟨p,_⟩:=b.hok a _ ea;obtain⟨G,g,w,hd,d⟩:=n _ p;obtain⟨⟨y,A,r,_⟩,_⟩:=b.hok m _ t;obtain⟨u,B,e⟩:=jD.some_of (v:=v) (o:=y f) (by rw[<-l];exact r f);exact zG F.excAttr_ValueError.ga b.kIn Z.c Z.hd g w d hd A B Z.no (t6 e) ⟨v,H1,b.tok _,e,q⟩
end
inductive Oz(ns:List Str):D->Prop
 |non (h:ns.length=2:=by rfl):Oz ns .non
 |int {i:Int} (h0:-(10^40)<i) (h1:i<10^40):Oz ns (.int i)
def YC(ns:List Str)(v:V):Prop:=Small v/\(ns.length=2\/∃i,v=.int i)
def sV:D->V
 |.int i=>.int i
 |_=>.non
theorem Oz.rep{ns:List Str}{K:H0}{H:Hp}{d:D}{v:V}(h:Oz ns d)(r:Rep K H d v):v=sV d/\YC ns v:=by
 cases h with
 |non h=>rw[Rep]at r;exact⟨r,.inl r,.inl h⟩
 |int h0 h1=>rw[Rep]at r;exact⟨r,.inr ⟨_,r,h0,h1⟩,.inr ⟨_,r⟩⟩
theorem Oz.back{ns:List Str}{K:H0}{H:Hp}{d:D}(h:Oz ns d):Rep K H d (sV d):=by
 cases h with
 |non=>rw[Rep];rfl
 |int h0 h1=>rw[Rep];rfl
def jB(C:Addr)(c:Option Addr):MO:=.gen fun K H a=>∃b,H a=KA (.ext b)/\∀h,b h->oQ a C c h
def tQ(fs:List (Str×D)):MO:=.gen fun K H d=>H d=KA (.ext (kg d (fs.map fun p=>(p.1,sV p.2))))
theorem GU{K:H0}{H:Hp}{a C:Addr}{c:Option Addr}{b:Heap->Prop}(h:H a=KA (.ext b))(k:∀h,b h->oQ a C c h):lz K H a (jB C c):=⟨⟨b,h,k⟩,by rw[h];simp,fun d g e=>⟨b,e.trans h,k⟩⟩
theorem Gu{K:H0}{H:Hp}{d:Addr}{fs:List (Str×D)}(h:H d=KA (.ext (kg d (fs.map fun p=>(p.1,sV p.2))))):lz K H d (tQ fs):=⟨h,by rw[h];simp,fun a g e=>e.trans h⟩
theorem LG.Fy{K:H0}{H:Hp}{M:MH}{p:Addr}{o:HO}{m:MO}(h:LG K H M)(b:H p=KC)(q:lz K (upd H p o) p m):LG K (upd H p o) (ar M p m):=fun a u e=>by
 by_cases ne:a=p
 ·subst ne;rw[ai]at e;cases e;exact q
 ·rw[aq ne]at e;exact(h a u e).eK (.new b) (aE ne)
theorem mM(f:Str):∀fs:List (Str×D),(fs.map fun p=>(p.1,sV p.2)).lookup f=(fs.lookup f).map sV
 |[]=>rfl
 |(x,d)::r=>by
  simp only[Hs,JN]
  cases f==x with
  |true=>rfl
  |false=>exact mM f r
def YQ(C:Addr)(names:List Str):Sp:=fun vs H Q _=>∃a b,vs=.ref a::b/\b.length=names.length/\(∀y∈b,YC names y)/\H a=KA (.ext (fm a C KC))/\
 ∀c,H c=KC->Q .non (upd (upd H a (.ext (fm a C (KA c)))) c (.ext (kg c (names.zip b))))
def Vf(P:HF)(w:Ih)(K:H0)(mg:Str->Option Hj)(base:Heap)(k:Nat)(c:Str)(C:Addr)(names:List Str):Prop:=
 ∃S a fd ps,Ln K C S a/\IF K (.ref C) (.type "BaseException")=KA KD/\L5 P w K mg base Mf k a fd ps (YQ C names)/\Binds K fd ps []/\mg c=KA (.ref C)
theorem Vf.mono{P:HF}{w:Ih}{K:H0}{mg:Str->Option Hj}{base:Heap}{j k:Nat}{c:Str}{C:Addr}{names:List Str}(h:Vf P w K mg base j c C names)(l:j<=k):Vf P w K mg base k c C names:=let⟨S,a,fd,ps,M,B,F,r⟩:=h;⟨S,a,fd,ps,M,B,F.mono l,r⟩
theorem qL{xs:List Str}:∀{names:List Str} {a:List D} {vs:List V} {K:H0} {H:Hp},aB K H a vs->(∀d∈a,Oz xs d)->(names.zip a).map (fun p=>(p.1,sV p.2))=names.zip vs/\∀v∈vs,YC xs v
 |names,[],vs,K,H,r,h=>by
  rw[aB]at r;subst r
  exact⟨by simp,by simp⟩
 |names,d::a,vs,K,H,r,h=>by
  rw[aB]at r
  obtain⟨v,k,rfl,i,f⟩:=r
  obtain⟨e,g⟩:=(h d J0).rep i
  cases names with
  |nil=>
   obtain⟨_,b⟩:=qL (names:=[]) f (fun d hd=>h d (Io _ hd))
   exact⟨rfl,fun x c=>(HW.mp c).elim (fun z=>z▸g) (b x)⟩
  |cons n ns=>
   obtain⟨j,b⟩:=qL (names:=ns) f (fun d hd=>h d (Io _ hd))
   exact⟨by rw[List.zip_cons_cons,Hs,j,e];rfl,fun x c=>(HW.mp c).elim (fun z=>z▸g) (b x)⟩
section
variable{X:Cx}{k:Nat}{C:Addr}{names:List Str}{c f:Str}{np KU pos:Pos}{e o:Expr}{es:List Expr}{t:L8}{ta:TD}
def Ci(K:H0)(ta:TD)(f:Str):TD:=fun δ M Q=>ta δ M fun x b=>∃a C g fs d,x=.ref a/\b a=KA (jB C (KA g))/\b g=KA (tQ fs)/\Vk K C f/\fs.lookup f=KA d/\Oz [f,f] d/\Q d b
theorem zq(j:DE X o ta)(m:Jz o f X.env (eval o X.env)=eval o X.env:=by rfl):DE X (.Attribute o f pos) (Ci X.K ta f):=
 aV (z5 j m) fun σ H Q b=>by obtain⟨δ,M,R,n,p,q,g⟩:=b;exact(⟨δ,M,_,n,p,q,fun x D v H1 g1 i h z=>by
  obtain⟨a,C,r,fs,d,ex,h1,s,Z,l,u,w⟩:=z
  subst ex
  rw[Rep]at i;subst i
  obtain⟨⟨y,ea,A⟩,_⟩:=h _ _ h1
  obtain⟨B,_⟩:=h _ _ s
  exact⟨a,C,r,_,sV d,y,rfl,ea,A,B,Z,by rw[mM,l];rfl,g _ _ _ _ g1 u.back h w⟩⟩)
def pR(K:H0):RC:=fun d M Q=>ny K d M Q\/∃a C h c g b,d=[.ref a,c]/\M a=KA (jB C h)/\PU K C/\G5 c=KA g/\IK K (.ref C) g=KA b/\Q (.bl b) M
theorem rj{K:H0}(B:X.K=K):cW X (.builtin "isinstance") (pR K):=by
 subst B;intro KQ s σ H vs us Q I w D;obtain⟨E,M,R,y,a,q,g⟩:=D;rcases q with q|⟨x,C,V,c,G,b,J,L,z,j,N,q⟩
 ·exact uf KQ s σ H vs us Q I w ⟨E,M,R,y,a,q,g⟩
 ·subst J;obtain⟨v,u,rfl,r,i⟩:=dC y;rw[Rep]at r;subst r;obtain⟨O,P,rfl,l,A⟩:=vals2 w;cases (show O=Ii x from l)
  have S:P=G:=by
   cases c with
   |ty n=>cases j;rw[Rep]at i;subst i;exact A
   |ref d=>cases j;rw[Rep]at i;subst i;exact A
   |_=>cases j
  subst S;obtain⟨⟨W,ea,T⟩,_⟩:=a _ _ L;obtain⟨p,_⟩:=I.hok x _ ea;obtain⟨o,g1,U,_⟩:=T _ p;have h:∀m,EP X KQ σ Q (.bool b) { s with toks:=m }:=fun m=>⟨.bl b,H,I.tok m,rfl,g _ _ _ _ .refl (by rw[Rep]) a q⟩;exact JZ (rW F.excAttr_ValueError.ga z.c z.s) I.kIn ⟨o,g1,U⟩ N (fun z=>nomatch z) h
end
abbrev RK:=Addr->Option Addr->MH->Prop
section
variable{P:HF}{w:Ih}{K:H0}{mg:Str->Option Hj}{base:Heap}{N:List Str}{qual:Str}{scope:JC}{f:Addr}{cd:Hj}{A:Ij}{outer:List Env}{s:Hk}{H:Hp}{E:XK}
def wD(R:RK)(C:Addr)(names:List Str)(t:L8):Ld:=fun B δ M=>t δ M fun a c=>a.length=names.length/\a.length<=1000/\(∀d∈a,Oz names d)/\∀b,c b=KC->R C (KA b) (ar c b (tQ (names.zip a)))
theorem uh{R:RK}{k:Nat}{C:Addr}{names:List Str}{c:Str}{v n pos:Pos}{e:Expr}{es:List Expr}{t:L8}(hE:∀C o p r,LG K r p->R C o p->E (.ref C) o r)(M:Vf P w K mg base k c C names)(x:LH (k+1) (bg (cK P w) P w K mg base N qual scope f cd A outer s H E).A)(h:DA (bg (cK P w) P w K mg base N qual scope f cd A outer s H E) (e::es) t)(G:Gl (bg (cK P w) P w K mg base N qual scope f cd A outer s H E) c:=by rfl)(i:(c==("__debug__":Str))=KG:=by decide) (I:Hv (e::es) (bg (cK P w) P w K mg base N qual scope f cd A outer s H E).env=(KG,eval e (bg (cK P w) P w K mg base N qual scope f cd A outer s H E).env)::Hv es (bg (cK P w) P w K mg base N qual scope f cd A outer s H E).env:=by rfl) (j:(IY n (Hv es (bg (cK P w) P w K mg base N qual scope f cd A outer s H E).env)).any (·.1)=KG:=by rfl) : DSt (bg (cK P w) P w K mg base N qual scope f cd A outer s H E) (.Raise (KA (.Call (.Name c v) (e::es) [] n)) KC pos) (wD R C names t):=by
 obtain⟨S,Y,fd,ps,M,B,F,J,L⟩:=M;refine b5 (uL M B F x J G L h i I j) fun D σ H1 ⟨δ,O,Q,a0,Z,ok,q⟩=>⟨δ,O,_,Q,a0,q,fun ds M1 vs H1 g1 l u z=>?_⟩;obtain⟨l1,l2,T,U⟩:=z;obtain⟨V,W⟩:=qL (names:=names) l T;refine⟨by rw[<-l.length];exact IA l2 ⋯,fun a h=>⟨a,vs,rfl,by rw[<-l.length,l1],W,aH,fun g d=>⟨rfl,a,KA g,rfl,?_,hE C (KA g) _ _ ?_ (U g ?_)⟩⟩⟩
 ·have ne:g≠a:=fun z=>by subst z;rw[aH]at d;cases d
  rw[aE ne.symm,aH]
 ·have ne:g≠a:=fun z=>by subst z;rw[aH]at d;cases d
  have m:H1 g=KC:=by rw[aE ne]at d;exact d
  have X:fU (upd (upd (upd H1 a (.ext (fm a C KC))) a (.ext (fm a C (KA g)))) g (.ext (kg g (names.zip vs)))) a=upd H1 g (.ext (kg g (names.zip vs))):=by
   funext b
   by_cases z:b=a
   ·subst z;rw[rL,aE ne.symm];exact h.symm
   ·rw[du z];by_cases y:b=g
    ·subst y;rw[aH,aH]
    ·rw[aE y,aE z,aE z,aE y]
  rw[X];refine u.Fy m ?_;rw[<-V];exact Gu aH
 ·have ne:g≠a:=fun z=>by subst z;rw[aH]at d;cases d
  rw[aE ne]at d;exact u.fresh d
abbrev qP:=List D->MH->RK->Prop
def wq(K:H0)(sp:qP):Sp:=fun vs H _ E=>∃a M R,aB K H a vs/\LG K H M/\sp a M R/\∀C b c d,LG K d c->R C b c->E (.ref C) b d
def ma(P:HF)(w:Ih)(K:H0)(mg:Str->Option Hj)(base:Heap)(k:Nat)(x:Str)(sp:qP):Prop:=
 ∃f fd ps,L5 P w K mg base (cK P w) k f fd ps (wq K sp)/\mg x=KA (.ref f)/\JD K (.ref f)=KD/\Binds K fd ps []
theorem ma.mono{j k:Nat}{x:Str}{sp:qP}(h:ma P w K mg base j x sp)(l:j<=k):ma P w K mg base k x sp:=let⟨f,fd,ps,F,r⟩:=h;⟨f,fd,ps,F.mono l,r⟩
end
section
variable{P:HF}{w:Ih}{K:H0}{mg:Str->Option Hj}{base:Heap}
theorem EJ{x:Str}{st:Stmt}{N ps:List Str}{k:Nat}{sp:qP}(T:Txt K mg x st)(S:Kv N ps (ao st))
 (p:∀(kV e l:Hj) (an:Option Addr) (cdv ct:Hj) (us:List Hj),us.length=ps.length->bindArgs (Ja x x (bF st) (aR st) (ao st) .none kV e l an cdv ct) ⟨us,[]⟩=pure (ps.zip us))
 (len:∀b M R,sp b M R->b.length=ps.length)
 (body:∀(f:Addr) (cdv:Hj) (A:Ij) (outer:List Env) (s:Hk) (H:Hp) (E:XK) (R:RK),LH k (A.deeper (envOfC x (ao st) s.heap.objs.size f cdv))->(∀C m n o,LG K o n->R C m n->E (.ref C) m o)->
  ∃t,DSs (bg (cK P w) P w K mg base N x (ao st) f cdv A outer s H E) (aR st) t/\∀b M,sp b M R->t { nx:=fun _ _=>False,rt:=fun _ _=>False } (dZ N b) M):ma P w K mg base (k+1) x sp:=by
 obtain⟨f,fd,F,r⟩:=T
 have g:=F.binds p
 have h:=F.kp
 obtain⟨oc,od,kV,e,l,an,cdv,ct,osl,rfl,lk,i⟩:=F.ex
 refine⟨f,_,ps,A5 lk i S (fun vs H Q E c=>by obtain⟨b,M,R,j,_,q,_⟩:=c;rw[<-j.length];exact len _ _ _ q) (fun A outer s H vs Q E u d=>?_),r,h,g⟩
 obtain⟨b,M,R,j,a,q,hE⟩:=d
 obtain⟨t,v,y⟩:=body f cdv A outer s H E R u hE
 exact⟨_,v,dZ N b,M,jf j,a,{ nx:=fun _ _=>False,rt:=fun _ _=>False },⟨fun _ _ _ _ _ _ _ z=>z.elim,fun _ _ _ _ _ _ _ z=>z.elim,fun _ _ _ _ _ _ _ z=>z,fun _ _ _ _ _ _ _ z=>z⟩,y b M q⟩
end
abbrev yV:=DS->MH->RK->Prop
def q0(K:H0)(t:yV):TR:=fun σ H E=>∃δ M R,Slots K H δ σ/\LG K H M/\t δ M R/\∀C a b H1 c,Ky K H H1->LG K c b->R C a b->E H1 (.ref C) a c
def AY(sp:qP)(t:L8):yV:=fun δ M R=>t δ M fun a b=>sp a b R
section
variable{Y:Cx}
theorem uQ{k:Nat}{x:Str}{sp:qP}{p pos:Pos}{e:Expr}{es:List Expr}{t:L8}(C:ma Y.prog Y.w Y.K Y.mg Y.base k x sp)(d:LH k Y.A)(g:DA Y.nox (e::es) t)(h:Gl Y.nox x:=by rfl)(a:(x==("__debug__":Str))=KG:=by decide) (i:Hv (e::es) Y.env=(KG,eval e Y.env)::Hv es Y.env:=by rfl) (b:(IY pos (Hv es Y.env)).any (·.1)=KG:=by rfl):BY Y.nox (.Call (.Name x p) (e::es) [] pos) (q0 Y.K (AY sp t)):=by obtain⟨f,fd,ps,F,j,l,m⟩:=C;intro KQ s σ H E I ⟨δ,M,R,n,o,q,c⟩;exact yw F d h j l m g a i b KQ s σ H E I ⟨δ,M,_,n,o,q,fun r u vs H1 g1 v y z=>⟨r,u,R,v,y,z,fun C B D G J L=>c C B D H1 G g1 J L⟩⟩
def Dl(K:H0)(S:Addr)(j:Nat)(tb:Ld)(tR:yV)(th:Ld):Ld:=fun B δ M=>tb B δ M\/
 tR δ M fun C c b=>IF K (.ref C) (.ref S)=KA KD/\∀a,b a=KC->th (BE j B) (δ.set j (KA (.ref a))) (ar b a (jB C c))
theorem Ac{body:List Stmt}{b:Stmt}{bs:List Stmt}{c n:Str}{F G pos:Pos}{S:Addr}{tb:Ld}{tR:yV}{th:Ld}(j:Nat)(I:Y.N.Nodup)(cl:QD Y.K c S)(J:Y.mg c=KA (.ref S))(L:IF Y.K (.ref S) (.type "BaseException")=KA KD)
 (O:DSs Y.nox body tb) (P:CK Y.nox body (q0 Y.K tR)) (Q:∀a,DSs (hold Y.nox a) (b::bs) th)
 (R:Y.N[j]?=KA n:=by rfl) (T:Y.env.scope.names.lookup n=KA .local:=by rfl) (U:Gl Y.nox c:=by rfl) (m:(c==("__debug__":Str))=KG:=by decide) (o:Y.stack=Y.env::Y.outer:=by rfl) (p:Y.env.frame=KA Y.env.locals:=by rfl) (s:Y.ex=[]:=by rfl) :
 DSt Y.nox (.Try body [.ExceptHandler (KA (.Name c F)) (KA n) (b::bs) G] [] [] pos) (Dl Y.K S j tb tR th):=
 b5 (yM (tb:=tj Y.K tb) (tR:=q0 Y.K tR) (th:=tj Y.K th) o p s I R T U J m cl.ex L O P Q) fun D σ H ⟨δ,M,t,a,B,ok,q⟩=>by
  rcases q with q|q
  ·exact .inl ⟨δ,M,t,a,B,ok,q⟩
  ·refine .inr ⟨δ,M,_,t,a,q,fun C A V H1 W g1 E z=>⟨C,rfl,z.1,fun X x u=>?_⟩⟩
   have g:Ky Y.K H (upd W x (.ext (oQ x C A))):=(g1.trans X).trans (.new u)
   refine⟨δ.set j (KA (.ref x)),ar V x (jB C A),(t.mono g).set (by rw[Rep]) j,E.Fy u (GU aH fun h z=>z),BE j B,?_,z.2 x (E.fresh u)⟩
   exact⟨fun i w k y e l f z=>ok.nx _ _ _ _ (g.trans e) (l.gone j) f z,fun d w v y e r f z=>ok.rt _ _ _ _ (g.trans e) r f z,fun i w k y e l f z=>ok.bk _ _ _ _ (g.trans e) (l.gone j) f z,fun i w k y e l f z=>ok.ct _ _ _ _ (g.trans e) (l.gone j) f z⟩
end
section
variable{X:Cx}{e:Expr}{es:List Expr}{c1 c2:L2.St->Hp->Prop}
theorem parts_nil:Parts X [] (fun _ _=>True):=fun _ _=>trivial
theorem jZ(h1:Part X e c1)(a:Parts X es c2):Parts X (e::es) (fun σ H=>c1 σ H/\c2 σ H):=⟨c1,c2,h1,a,fun _ _ z=>z⟩
end
section
variable{P:HF}{w:Ih}{K:H0}{mg:Str->Option Hj}{base:Heap}{C S fI:Addr}{n1 n2:Str}{N:List Str}{vs:List V}{H:Hp}{Q:VK}{E:XK}{c:L2.St->Hp->Prop}
theorem CS(M:Ln K C S fI)(h1:findIn K (.ref C) n1=KA KC)(d:N.length=2)(h:YQ C [n1] vs H Q E)(f:∀a y,Small y->c [KA (.ref a),KA y] H) :
 D7 (Bk (A7 K S (sS (xJ 0) (sS (FU c) Ca)))) (A8 K (xJ 0) (Vs (fun xs H Q=>(∃i,xs=[.int i]/\Q (.int i) H)\/∃k,xs=[.bl k]/\Q (.int (if k then 1 else 0)) H) (sS (xJ 1) Ca)) n1) { nx:=fun _ g=>Q .non g,rt:=Q } (L2.start N vs) H:=by
 obtain⟨a,j,rfl,l,n,o,q⟩:=h
 match j,l with
 |[y],_=>
  have e:L2.start N [.ref a,y]=[KA (.ref a),KA y]:=by unfold L2.start;rw[d];rfl
  obtain⟨p,r⟩:=n y (by simp)
  obtain⟨i,rfl⟩:=r.resolve_left (fun z=>absurd z (⋯:¬(1:Nat)=2))
  rw[e]
  refine⟨_,rfl,f a _ p,fun m=>⟨a,m,C,fI,KC,rfl,M,o,?_⟩⟩
  exact⟨_,rfl,.inl ⟨i,rfl,_,rfl,a,C,S,fI,rfl,M,h1,.inl ⟨aH,fun b hd=>by
   have ne:b≠a:=fun z=>by subst z;rw[aH]at hd;cases hd
   rw[Am];rw[aE ne]at hd;exact q b hd⟩⟩⟩
end
section
variable{K:H0}{mg:Str->Option Hj}{x y qual:Str}{st:Stmt}{C S fI:Addr}
theorem B5{n:Str}(a:IT K Ir x=KA (KA (.ref C)))(h:findIn K (.ref C) n=KA KC):findIn K (.ref (cl K x)) n=KA KC:=by rw[dN a];exact h
theorem xV{n:String}(h:K7 K S Mt n=KD):PySem.W.tailIn K Mt (.ref S::Mt)=KD:=by
 unfold K7 at h;split at h
 ·rename_i dct cd sl hl;split at h
  ·simp only[IQ,beq_iff_eq]at h;unfold PySem.W.tailIn;simp only[hl,Bool.or_eq_true,IQ,beq_iff_eq];refine .inr ⟨⟨h.1.2,h.2⟩,?_⟩;unfold PySem.W.tailIn;simp
  ·cases h
 ·cases h
theorem zI{h i:Str}{c fI:Addr}{j:List Hj}{k:Bool}{m:List Str}{sub:List Hj}{n:Bool}{d:Option Bool}{o:Option Addr}{p q r s t:Option Hj}{u:Hj}{nd:Option Addr}{es:Array IL}{v:Nat}{ns:Array (Option Hj)}{oc:Hj}{od an:Option Addr}{osl:Array (Option Hj)}{kV f w cdv ct:Hj}
 (a:IT K Ir x=KA (KA (.ref C))) (b:IT K Ir y=KA (KA (.ref S))) (l:K.lookup C=KA (excClassObj h i C c j (.ref S::Mt) k m sub n d o p q r s t "ValueError.__new__")) (lN:K.lookup c=KA ⟨u,nd,.dict es v,ns⟩) (ok:(es.toList.all fun e=>match e.key with|.str _ _=>KD|_=>KG)=KD) (ni:IT K c "__init__"=KA (KA (.ref fI)))
 (e:K7 K S Mt "ValueError.__new__"=KD) (fn:PySem.W.typeIn K (.ref fI)=KA (.type "function")) (kp:JD K (.ref C)=KD) (hd:JH K C=KD) (sa:findIn K (.ref C) "__setattr__"=KA (KA (.builtin "object.__setattr__"))) (ob:IF K (.ref C) (.type "object")=KA KD)
 (lf:K.lookup fI=KA ⟨oc,od,.func (Ja "__init__" qual (bF st) (aR st) (ao st) .none kV f w an cdv ct),osl⟩) (cf:PySem.W.codeIn K cdv qual=KD) (kf:JD K (.ref fI)=KD):∃fI fd,Ln K (cl K x) (cl K y) fI/\PQ K "__init__" qual st fI fd:=by
 rw[dN a,dN b]
 have g:PySem.W.nsOkIn K c=KD:=by unfold PySem.W.nsOkIn;rw[lN];show(es.all _)=KD;rw[<-Array.all_toList];exact ok
 exact⟨fI,_,⟨⟨_,_,_,_,_,_,_,_,_,_,_,_,_,_,_,l,g,ni⟩,xV e,fn,kp,hd,sa,ob⟩,yc lf cf kf⟩
theorem Ad(a:IT K Ir x=KA (KA (.ref C)))(h1:PySem.W.specialIn K (.ref C) "__getattribute__"=KA (KA (.builtin "type.__getattribute__")))(b:PySem.W.readsIn K C (.type "type")=KD)(c:PySem.W.findCls K (.ref C) (.type "type") "__init__"=KA (.val (.builtin "ValueError.__init__"))):QE K (cl K x):=by rw[dN a];exact⟨h1,b,c⟩
theorem E4(a:IT K Ir x=KA (KA (.ref C)))(h:JH K C=KD):JH K (cl K x)=KD:=by rw[dN a];exact h
end
section
variable{X:Cx}
theorem pP{K:H0}{H:Hp}:∀{a:List Addr} {xs:List V},aB K H (a.map D.ref) xs->xs=a.map V.ref
 |[],xs,h=>by rw[Jb,aB]at h;exact h
 |c::a,xs,h=>by
  rw[Hs,aB]at h
  obtain⟨x,r,rfl,h1,b⟩:=h
  rw[Rep]at h1
  rw[h1,pP b];rfl
theorem pT:∀{a:List Addr} {us:List Hj},Vals (a.map V.ref) us->us=a.map Ii
 |[],_,.nil=>rfl
 |c::a,_,.cons h t=>by rw[pT t];cases (show _=Ii c from h);rfl
def wI(K:H0):RC:=fun c M Q=>pR K c M Q\/∃(a C:Addr) (e:Option Addr) (d:List Addr) (b:Bool),c=[.ref a,.tup (d.map D.ref)]/\M a=KA (jB C e)/\PU K C/\PySem.W.kitAny K (.ref C) (d.map Ii)=KA b/\Q (.bl b) M
theorem gF{K:H0}(j:X.K=K):cW X (.builtin "isinstance") (wI K):=by
 subst j;intro KQ s σ H vs us Q I f k;obtain⟨l,M,R,h,a,q,d⟩:=k;rcases q with q|⟨x,C,P,S,b,m,t,z,w,q⟩
 ·exact rj rfl KQ s σ H vs us Q I f ⟨l,M,R,h,a,q,d⟩
 ·subst m;obtain⟨v,u,rfl,r,i⟩:=dC h;rw[Rep]at r;subst r;rw[Rep]at i;obtain⟨p,xs,rfl,h1,y⟩:=i;cases pP y;obtain⟨A,B,rfl,e,D⟩:=vals2 f;cases (show A=Ii x from e);cases (show B=Ii p from D);obtain⟨E,r,⟨o,e1,e2,n,e3⟩,_⟩:=I.tuple h1;cases pT r;obtain⟨⟨T,ea,G⟩,_⟩:=a _ _ t;obtain⟨g,_⟩:=I.hok x _ ea;obtain⟨J,g1,L,_⟩:=G _ g;obtain⟨oc,od,N,osl⟩:=o;cases e2;cases e3;exact PySem.W.kia_tup (rW F.excAttr_ValueError.ga z.c z.s) I.kIn ⟨J,g1,L⟩ e1 w (fun z=>nomatch z) fun O=>⟨.bl b,H,I.tok O,rfl,d _ _ _ _ .refl (by rw[Rep]) a q⟩
theorem tM{K:H0}{t:Hj}:∀{a:List Hj},(∀c∈a,IK K t c=KA KG)->PySem.W.kitAny K t a=KA KG
 |[],_=>rfl
 |c::a,h=>by rw[PySem.W.kitAny,h c (by simp)];exact tM fun c b=>h c (by simp[b])
end
theorem rS{i:Int}(h:Bd 600 i):PyData.showable (.int i)=KD:=KL (Nat.lt_trans (h.log2 ⋯) ⋯)
theorem tm{i:Int}(h:Bd 600 i):(PyData.shown (.int i)).length<=1000:=ot i (Nat.lt_trans h ⋯)
theorem ou{x:JW}{b:Int}(s:x.showable=KD)(d:x.hasDict=KG)(n:x.depth=0)(l:x.shown.length<=1000)(a:Bd 600 b):Vd (.tuple [x,.int b]):=by
 refine⟨?_,?_,?_,?_⟩
 ·show(x.showable&&(PyData.showable (.int b)&&KD))=KD;rw[s,rS a];rfl
 ·show(x.hasDict||(KG||false))=KG;rw[d];rfl
 ·rw[PyData.depth,PyData.depthAll,PyData.depthAll,PyData.depthAll,PyData.depth,n];decide
 ·show(tupleText [x.shown,(PyData.int b).shown]).length<=Hy;refine IA (nD _) ?_;rw[piled_cons,piled_cons,piled_nil];have:=tm a;have:10000<=Hy:=LB rfl;omega
theorem sr{a b:Int}(c:Bd 600 a)(d:Bd 600 b):Vd (.tuple [.int a,.int b]):=ou (rS c) rfl (by rw[PyData.depth]) (tm c) d
theorem DH{b:Int}(a:Bd 600 b):Vd (.tuple [.str "absent",.int b]):=ou (by decide +kernel) rfl (by rw[PyData.depth]) (by decide +kernel) a
theorem sT{M:MH}(q:Rat):Pd M (Kp q) (.tuple [.int q.num,.int (q.den:Int)]):=.tup (.cons (.int _) (.cons (.int _) .nil))
theorem Bb{M:MH}(n:Int):Pd M (.tup [.str "absent",.int n]) (.tuple [.str "absent",.int n]):=.tup (.cons (.str _) (.cons (.int _) .nil))
section
variable{P:HF}{w:Ih}{K:H0}{mg:Str->Option Hj}{base:Heap}{x:Str}{st:Stmt}{N:List Str}{k:Nat}
def Nh(C:D->MH->DK->Prop):Ms:=fun b M Q=>match b with
 |[a]=>C a M Q
 |_=>False
theorem fv{p:Str}{C:D->MH->DK->Prop}(T:Txt K mg x st)(S:Kv N [p] (ao st))
 (body:∀(f:Addr) (cdv:Hj) (A:Ij) (outer:List Env) (s:Hk) (H:Hp) (E:XK),LH k (A.deeper (envOfC x (ao st) s.heap.objs.size f cdv))->
  ∃t,DSs (bg Mf P w K mg base N x (ao st) f cdv A outer s H E).nox (aR st) t/\∀a M Q,C a M Q->t (oY Q) (dZ N [a]) M)
 (e:∀(kV b d:Hj) (an:Option Addr) (cdv ct a:Hj),bindArgs (Ja x x (bF st) (aR st) (ao st) .none kV b d an cdv ct) ⟨[a],[]⟩=pure ([p].zip [a]):=by intros;rfl):Cal P w K mg base (k+1) x (Nh C):=by
 refine qj T S (fun kV b d an cdv ct us g=>?_) (fun c M Q h=>?_) fun f cdv A outer s H E i=>?_
 ·obtain⟨a,rfl⟩:=vp g
  exact e ..
 ·rcases c with _|⟨a,_|⟨w,c⟩⟩
  all_goals first|exact HS h|rfl
 ·obtain⟨t,h,j⟩:=body f cdv A outer s H E i
  refine⟨t,h,fun c M Q h=>?_⟩
  rcases c with _|⟨a,_|⟨w,c⟩⟩
  all_goals first|exact HS h|exact j _ _ _ h
def L7(C:D->D->MH->DK->Prop):Ms:=fun c M Q=>match c with
 |[a,b]=>C a b M Q
 |_=>False
theorem aU{p q:Str}{C:D->D->MH->DK->Prop}(T:Txt K mg x st)(S:Kv N [p,q] (ao st))
 (body:∀(f:Addr) (cdv:Hj) (A:Ij) (outer:List Env) (s:Hk) (H:Hp) (E:XK),LH k (A.deeper (envOfC x (ao st) s.heap.objs.size f cdv))->
  ∃t,DSs (bg Mf P w K mg base N x (ao st) f cdv A outer s H E).nox (aR st) t/\∀a b M Q,C a b M Q->t (oY Q) (dZ N [a,b]) M)
 (g:∀(kV c e:Hj) (an:Option Addr) (cdv ct a b:Hj),bindArgs (Ja x x (bF st) (aR st) (ao st) .none kV c e an cdv ct) ⟨[a,b],[]⟩=pure ([p,q].zip [a,b]):=by intros;rfl):Cal P w K mg base (k+1) x (L7 C):=by
 refine qj T S (fun kV c e an cdv ct us i=>?_) (fun d M Q h=>?_) fun f cdv A outer s H E j=>?_
 ·obtain⟨a,b,rfl⟩:=rh i
  exact g ..
 ·rcases d with _|⟨a,_|⟨b,_|⟨w,d⟩⟩⟩
  all_goals first|exact HS h|rfl
 ·obtain⟨t,h,l⟩:=body f cdv A outer s H E j
  refine⟨t,h,fun d M Q h=>?_⟩
  rcases d with _|⟨a,_|⟨b,_|⟨w,d⟩⟩⟩
  all_goals first|exact HS h|exact l _ _ _ _ h
def QG(C:D->D->D->MH->DK->Prop):Ms:=fun d M Q=>match d with
 |[a,b,c]=>C a b c M Q
 |_=>False
theorem oH{p q r:Str}{C:D->D->D->MH->DK->Prop}(T:Txt K mg x st)(S:Kv N [p,q,r] (ao st))
 (body:∀(f:Addr) (cdv:Hj) (A:Ij) (outer:List Env) (s:Hk) (H:Hp) (E:XK),LH k (A.deeper (envOfC x (ao st) s.heap.objs.size f cdv))->
  ∃t,DSs (bg Mf P w K mg base N x (ao st) f cdv A outer s H E).nox (aR st) t/\∀a b c M Q,C a b c M Q->t (oY Q) (dZ N [a,b,c]) M)
 (i:∀(kV d g:Hj) (an:Option Addr) (cdv ct a b c:Hj),bindArgs (Ja x x (bF st) (aR st) (ao st) .none kV d g an cdv ct) ⟨[a,b,c],[]⟩=pure ([p,q,r].zip [a,b,c]):=by intros;rfl):Cal P w K mg base (k+1) x (QG C):=by
 refine qj T S (fun kV d g an cdv ct us j=>?_) (fun e M Q h=>?_) fun f cdv A outer s H E l=>?_
 ·obtain⟨a,b,c,rfl⟩:=Fu j
  exact i ..
 ·rcases e with _|⟨a,_|⟨b,_|⟨c,_|⟨w,e⟩⟩⟩⟩
  all_goals first|exact HS h|rfl
 ·obtain⟨t,h,m⟩:=body f cdv A outer s H E l
  refine⟨t,h,fun e M Q h=>?_⟩
  rcases e with _|⟨a,_|⟨b,_|⟨c,_|⟨w,e⟩⟩⟩⟩
  all_goals first|exact HS h|exact m _ _ _ _ _ h
def YS(C:D->D->D->D->MH->DK->Prop):Ms:=fun e M Q=>match e with
 |[a,b,c,d]=>C a b c d M Q
 |_=>False
theorem EG{p q r t:Str}{C:D->D->D->D->MH->DK->Prop}(T:Txt K mg x st)(S:Kv N [p,q,r,t] (ao st))
 (body:∀(f:Addr) (cdv:Hj) (A:Ij) (outer:List Env) (s:Hk) (H:Hp) (E:XK),LH k (A.deeper (envOfC x (ao st) s.heap.objs.size f cdv))->
  ∃t,DSs (bg Mf P w K mg base N x (ao st) f cdv A outer s H E).nox (aR st) t/\∀a b c d M Q,C a b c d M Q->t (oY Q) (dZ N [a,b,c,d]) M)
 (j:∀(kV e i:Hj) (an:Option Addr) (cdv ct a b c d:Hj),bindArgs (Ja x x (bF st) (aR st) (ao st) .none kV e i an cdv ct) ⟨[a,b,c,d],[]⟩=pure ([p,q,r,t].zip [a,b,c,d]):=by intros;rfl):Cal P w K mg base (k+1) x (YS C):=by
 refine qj T S (fun kV e i an cdv ct us l=>?_) (fun g M Q h=>?_) fun f cdv A outer s H E m=>?_
 ·obtain⟨a,b,c,d,rfl⟩:=Gv l
  exact j ..
 ·rcases g with _|⟨a,_|⟨b,_|⟨c,_|⟨d,_|⟨w,g⟩⟩⟩⟩⟩
  all_goals first|exact HS h|rfl
 ·obtain⟨t,h,n⟩:=body f cdv A outer s H E m
  refine⟨t,h,fun g M Q h=>?_⟩
  rcases g with _|⟨a,_|⟨b,_|⟨c,_|⟨d,_|⟨w,g⟩⟩⟩⟩⟩
  all_goals first|exact HS h|exact n _ _ _ _ _ _ h
end
theorem P8{t:Ld}{B:EndsD}{δ:DS}{M:MH}(h:∀a:EndsD,(∀δ M,B.nx δ M->a.nx δ M)->t a δ M):t B δ M:=h B fun _ _ h=>h
@[elab_as_elim] theorem Ox{P:List (Option D)->Prop}{n:Nat}{T:List (Option D)}(b:T.length=n+1)(h:∀(a:Option D) (U:List (Option D)),U.length=n->P (a::U)):P T:=by
 cases T with
 |nil=>cases b
 |cons a U=>exact h a U (Nat.succ.inj b)
theorem ZL{P:List (Option D)->Prop}{T:List (Option D)}(b:T.length=0)(h:P []):P T:=by
 cases T with
 |nil=>exact h
 |cons a U=>cases b
@[elab_as_elim] theorem Ge{P:List (Option D)->Prop}{T:List (Option D)}(d:T.length=3)(h:∀a b c,P [a,b,c]):P T:=Ox (P:=P) d fun a U d=>Ox (P:=fun T=>P (a::T)) d fun b U d=>Ox (P:=fun T=>P (a::b::T)) d fun c U d=>ZL (P:=fun T=>P (a::b::c::T)) d (h a b c)
@[elab_as_elim] theorem Gx{P:List (Option D)->Prop}{T:List (Option D)}(g:T.length=6)(h:∀a b c d e f,P [a,b,c,d,e,f]):P T:=Ox (P:=P) g fun a U g=>Ox (P:=fun T=>P (a::T)) g fun b U g=>Ox (P:=fun T=>P (a::b::T)) g fun c U g=>Ge (P:=fun T=>P (a::b::c::T)) g (h a b c)
@[elab_as_elim] theorem GC{P:List (Option D)->Prop}{T:List (Option D)}(k:T.length=9)(h:∀a b c d e f g i j,P [a,b,c,d,e,f,g,i,j]):P T:=Ox (P:=P) k fun a U k=>Ox (P:=fun T=>P (a::T)) k fun b U k=>Ox (P:=fun T=>P (a::b::T)) k fun c U k=>Gx (P:=fun T=>P (a::b::c::T)) k (h a b c)
theorem zP{a:Type}{f:a->D}{l:List a}{i:Nat}{d:D}(h:(l.map f)[i]?=KA d):∃x,l[i]?=KA x/\d=f x:=by
 rw[Ht]at h;cases e:l[i]? with
 |none=>rw[e]at h;cases h
 |some x=>rw[e]at h;cases h;exact⟨x,rfl,rfl⟩
theorem DO{a:Type}{f:a->D}{l:List a}{i:Nat}(h:i<(l.map f).length):i<l.length:=by rwa [Hn]at h
theorem Vy{M:MH}{p a:PySem.Addr}{o u:MO}(h:M a=KA u)(b:M p=KC):(ar M p o) a=KA u:=by
 have n:a≠p:=fun e=>by rw[e,b]at h;cases h
 rw[aq n];exact h
inductive Vo(a b c d:Prop):Prop
 |mk (_:a) (_:b) (_:c) (_:d):Vo a b c d
inductive YL(a b c d e:Prop):Prop
 |mk (_:a) (_:b) (_:c) (_:d) (_:e):YL a b c d e
inductive Vn(a b c d e f:Prop):Prop
 |mk (_:a) (_:b) (_:c) (_:d) (_:e) (_:f):Vn a b c d e f
inductive YK(a b c d e f g:Prop):Prop
 |mk (_:a) (_:b) (_:c) (_:d) (_:e) (_:f) (_:g):YK a b c d e f g
inductive YJ(a b c d e f g h:Prop):Prop
 |mk (_:a) (_:b) (_:c) (_:d) (_:e) (_:f) (_:g) (_:h):YJ a b c d e f g h
inductive YI(a b c d e f g h i:Prop):Prop
 |mk (_:a) (_:b) (_:c) (_:d) (_:e) (_:f) (_:g) (_:h) (_:i):YI a b c d e f g h i
inductive Vp(a b c d e f g h i j:Prop):Prop
 |mk (_:a) (_:b) (_:c) (_:d) (_:e) (_:f) (_:g) (_:h) (_:i) (_:j):Vp a b c d e f g h i j
inductive QN{a0 a1:Type}(p:a0->a1->Prop):Prop
 |mk (x0:a0) (x1:a1) (h:p x0 x1):QN p
inductive PR{a0 a1 a2:Type}(p:a0->a1->a2->Prop):Prop
 |mk (x0:a0) (x1:a1) (x2:a2) (h:p x0 x1 x2):PR p
inductive QM{a0 a1 a2 a3:Type}(p:a0->a1->a2->a3->Prop):Prop
 |mk (x0:a0) (x1:a1) (x2:a2) (x3:a3) (h:p x0 x1 x2 x3):QM p
inductive Y5{a0 a1 a2 a3 a4:Type}(p:a0->a1->a2->a3->a4->Prop):Prop
 |mk (x0:a0) (x1:a1) (x2:a2) (x3:a3) (x4:a4) (h:p x0 x1 x2 x3 x4):Y5 p
inductive YG{a0 a1 a2 a3 a4 a5 a6:Type}(p:a0->a1->a2->a3->a4->a5->a6->Prop):Prop
 |mk (x0:a0) (x1:a1) (x2:a2) (x3:a3) (x4:a4) (x5:a5) (x6:a6) (h:p x0 x1 x2 x3 x4 x5 x6):YG p
end SD
namespace QQ
open PySem PySem.Spec PyProof.Rows L2 SD
def top(i:Nat):Stmt:=IH.main.body.getD i (.Pass ⟨0,0,0,0⟩)
abbrev mJ:Stmt:=top 53
abbrev j5:Stmt:=top 54
abbrev fR:Stmt:=top 58
abbrev ff:Stmt:=top 59
abbrev gU:Stmt:=top 60
abbrev ky:Stmt:=top 55
abbrev nY:Stmt:=top 56
abbrev jr:Stmt:=top 57
abbrev jX:Stmt:=top 61
abbrev eC:Stmt:=top 62
abbrev gn:Stmt:=top 72
abbrev jc:Stmt:=top 64
abbrev kX:Stmt:=top 63
abbrev jk:Stmt:=top 65
abbrev kr:Stmt:=top 66
abbrev jh:Stmt:=top 34
abbrev eB:Stmt:=top 35
abbrev Bw:Stmt:=top 25
abbrev wN:Stmt:=top 26
abbrev my:Stmt:=top 27
abbrev e7:Stmt:=top 36
abbrev gr:Stmt:=top 37
abbrev jo:Stmt:=top 38
abbrev k6:Stmt:=top 39
abbrev dE:Stmt:=top 10
abbrev eZ:Stmt:=top 15
abbrev lF:Stmt:=top 16
abbrev gZ:Stmt:=top 40
abbrev dS:Stmt:=top 43
abbrev mF:Stmt:=top 14
abbrev kB:Stmt:=top 18
abbrev ig:Stmt:=top 20
abbrev fT:Stmt:=top 44
abbrev gx:Stmt:=top 21
abbrev gw:Stmt:=top 22
abbrev sC:Stmt:=top 29
abbrev ly:Stmt:=top 19
abbrev jV:Stmt:=top 30
abbrev kL:Stmt:=top 11
abbrev jR:Stmt:=top 23
abbrev kW:Stmt:=top 24
abbrev kj:Stmt:=top 31
abbrev gv:Stmt:=top 32
abbrev g9:Stmt:=top 45
abbrev d9:Stmt:=top 46
abbrev lH:Stmt:=top 47
abbrev kT:Stmt:=top 68
abbrev lB:Stmt:=top 67
abbrev j6:Stmt:=top 69
abbrev vH:Stmt:=top 12
abbrev ji:Stmt:=top 41
abbrev fy:Stmt:=top 49
abbrev jn:Stmt:=top 50
abbrev fh:Stmt:=top 70
abbrev kI:Stmt:=top 71
abbrev wH:Stmt:=top 13
abbrev fV:Stmt:=top 51
abbrev Bs:Stmt:=top 73
abbrev mj:Stmt:=tq (top 6) 0
theorem qx:Kv ["self","number"] ["self","number"] (ao mj):=⟨rfl,rfl,rfl,⋯,rfl,⋯,⋯⟩
local macro_rules | `(tactic| walk_at "sc") => `(tactic| exact ⟨rfl, rfl, rfl, by decide, rfl, by decide, by decide⟩)
theorem _root_.SD.Cal.m{P:HF}{w:Ih}{K:H0}{mg:Str->Option Hj}{base:Heap}{j k:Nat}{x:Str}{sp:Ms}(h:Cal P w K mg base j x sp)(l:j<=k:=by decide):Cal P w K mg base k x sp:=h.mono l
open SD.Zq
structure Tx(K:H0)(mg:Str->Option Hj):Prop where
 f_law_pot:Txt K mg "_law_pot" mJ
 f_law_take:Txt K mg "_law_take" j5
 f_law_new_spot:Txt K mg "_law_new_spot" fR
 f_law_some_spot:Txt K mg "_law_some_spot" ff
 f_law_square:Txt K mg "_law_square" gU
 f_law_side:Txt K mg "_law_side" ky
 f_law_on:Txt K mg "_law_on" nY
 f_law_apart:Txt K mg "_law_apart" jr
 f_law_laid:Txt K mg "_law_laid" jX
 f_law_shuts_here:Txt K mg "_law_shuts_here" eC
 f_law_squares:Txt K mg "_law_squares" gn
 f_law_frame:Txt K mg "_law_frame" jc
 f_law_frac:Txt K mg "_law_frac" kX
 f_law_given:Txt K mg "_law_given" jk
 f_law_plot:Txt K mg "_law_plot" kr
 f_face_ends:Txt K mg "face_ends" jh
 f_faces_by_start:Txt K mg "faces_by_start" eB
 f_gap:Txt K mg "gap" Bw
 f_lean:Txt K mg "lean" wN
 f_side_of:Txt K mg "side_of" my
 f_is_met_sooner:Txt K mg "is_met_sooner" e7
 f_face_behind:Txt K mg "face_behind" gr
 f_ring_from:Txt K mg "ring_from" jo
 f_rings_of:Txt K mg "rings_of" k6
 f_greatest_divisor:Txt K mg "greatest_divisor" dE
 f_common_bottom:Txt K mg "common_bottom" eZ
 f_top_over:Txt K mg "top_over" lF
 f_twice_area:Txt K mg "twice_area" gZ
 f_outer_and_inner:Txt K mg "outer_and_inner" dS
 f_is_less:Txt K mg "is_less" mF
 f_is_ahead:Txt K mg "is_ahead" kB
 f_earlier_of:Txt K mg "earlier_of" ig
 f_first_corner:Txt K mg "first_corner" fT
 f_place_among:Txt K mg "place_among" gx
 f_ahead_first:Txt K mg "ahead_first" gw
 f_spans:Txt K mg "spans" sC
 f_later_of:Txt K mg "later_of" ly
 f_is_above:Txt K mg "is_above" jV
 f_fraction:Txt K mg "fraction" kL
 f_own_spot:Txt K mg "own_spot" jR
 f_own_wall:Txt K mg "own_wall" kW
 f_upper_of:Txt K mg "upper_of" kj
 f_upper_below:Txt K mg "upper_below" gv
 f_land_about:Txt K mg "land_about" g9
 f_lands_of_faces:Txt K mg "lands_of_faces" d9
 f_lands_of:Txt K mg "lands_of" lH
 f_law_area:Txt K mg "_law_area" kT
 f_law_same:Txt K mg "_law_same" lB
 f_law_real:Txt K mg "_law_real" j6
 f_plus:Txt K mg "plus" vH
 f_ring_area:Txt K mg "ring_area" ji
 f_sum_of_areas:Txt K mg "sum_of_areas" fy
 f_land_area:Txt K mg "land_area" jn
 f_law_of_others:Txt K mg "_law_of_others" fh
 f_law_told:Txt K mg "_law_told" kI
 f_less:Txt K mg "less" wH
 f_area_shut_in:Txt K mg "area_shut_in" fV
 f_law:Txt K mg "law" Bs
 b_ValueError:mg "ValueError"=KC
 b_abs:mg "abs"=KC
 b_enumerate:mg "enumerate"=KC
 b_int:mg "int"=KC
 b_isinstance:mg "isinstance"=KC
 b_len:mg "len"=KC
 b_list:mg "list"=KC
 b_max:mg "max"=KC
 b_min:mg "min"=KC
 b_range:mg "range"=KC
 b_repr:mg "repr"=KC
 b_sum:mg "sum"=KC
 b_tuple:mg "tuple"=KC
 b_zip:mg "zip"=KC
 r_Absent:mg "Absent"=KA (.ref (cl K "Absent"))
 r_Crossing:mg "Crossing"=KA (.ref (cl K "Crossing"))
 r_NoFraction:mg "NoFraction"=KA (.ref (cl K "NoFraction"))
 r_NoRow:mg "NoRow"=KA (.ref (cl K "NoRow"))
 r_NoText:mg "NoText"=KA (.ref (cl K "NoText"))
 r_NoWall:mg "NoWall"=KA (.ref (cl K "NoWall"))
 r_SpotError:mg "SpotError"=KA (.ref (cl K "SpotError"))
 r_TooMany:mg "TooMany"=KA (.ref (cl K "TooMany"))
 e_SpotError:QD K "SpotError" (cl K "SpotError")
 eb_SpotError:IF K (.ref (cl K "SpotError")) (.type "BaseException")=KA KD
 B_SpotError:QE K (cl K "SpotError")
 eb_Absent:IF K (.ref (cl K "Absent")) (.type "BaseException")=KA KD
 es_Absent_SpotError:IF K (.ref (cl K "Absent")) (.ref (cl K "SpotError"))=KA KD
 fn_Absent_number:PySem.W.findIn K (.ref (cl K "Absent")) "number"=KA KC
 hd_Absent:JH K (cl K "Absent")=KD
 m_Absent:∃fI fd,Ln K (cl K "Absent") (cl K "SpotError") fI/\PQ K "__init__" "Absent.__init__" mj fI fd
 ek_Absent:PU K (cl K "Absent")
 kv_Absent:IK K (.ref (cl K "Absent")) (.type "ValueError")=KA KD
 ki_Absent_Absent:IK K (.ref (cl K "Absent")) (.ref (cl K "Absent"))=KA KD
 ki_Absent_Crossing:IK K (.ref (cl K "Absent")) (.ref (cl K "Crossing"))=KA KG
 ki_Absent_NoFraction:IK K (.ref (cl K "Absent")) (.ref (cl K "NoFraction"))=KA KG
 ki_Absent_NoRow:IK K (.ref (cl K "Absent")) (.ref (cl K "NoRow"))=KA KG
 ki_Absent_NoText:IK K (.ref (cl K "Absent")) (.ref (cl K "NoText"))=KA KG
 ki_Absent_NoWall:IK K (.ref (cl K "Absent")) (.ref (cl K "NoWall"))=KA KG
 ki_Absent_TooMany:IK K (.ref (cl K "Absent")) (.ref (cl K "TooMany"))=KA KG
variable{P:HF}{w:Ih}{K:H0}{mg:Str->Option Hj}{base:Heap}
theorem uR(T:Tx K mg):Vf P w K mg base 1 "Absent" (cl K "Absent") ["number"]:=by obtain⟨d,fd,M,F⟩:=T.m_Absent;refine⟨_,d,fd,["self","number"],M,T.eb_Absent,F.ok (k:=0) (N:=["self","number"]) qx (fun vs H Q E h=>by obtain⟨a,e,rfl,b,_⟩:=h;simp[b]) (fun cdv A outer s H vs Q E f h=>⟨_,pj (tw (y9 T.B_SpotError rfl T.r_SpotError (jL (pv 0) (jL (AK (jZ (yu ⋯) (jZ (yk (pv 1)) parts_nil)) ⋯ rfl) rq)) ⋯ rfl rfl rfl)) (rV (AD (pv 0) (mG mO rfl T.b_int qw (jL (pv 1) rq)) rfl)),CS M T.fn_Absent_number rfl h (fun a y0 c=>⟨trivial,⟨_,rfl,rfl,c⟩,trivial⟩)⟩),F.binds (fun _ _ _ _ _ _ us b=>match us,b with|[_,_],_=>rfl),T.r_Absent⟩
theorem gz:Kv ["_law_script","_law_k","_law_cell"] ["_law_script","_law_k"] (ao mJ):=by walk_at "sc"
inductive N5(x y:D)(M:MH)(Q:DK):Prop
 |mk (ns:List Int) (k:Int) (_:x=.rol (Jc D.int ns)) (_:y=.int k) (_:0<=k) (_:∀r o,M r=KC->LQ (ar M r o) r 0->Q (.ref r) (ar M r o))
theorem uH(T:Tx K mg):Cal P w K mg base 1 "_law_pot" (L7 N5):=by
 refine aU (k:=0) T.f_law_pot gz fun f cdv A outer s H E b=>⟨_,(ag (az 2 gz.nd af) (ag (aW (aM (bZ b.units) (dv 1) (aG bP rfl T.b_len bR (aa (dv 0) ae))) (ak (az 2 gz.nd (aw (dv 0) (dv 1)))) aK) (ak (ay (bw (aa (aG (rQ rfl b.units) rfl T.b_max xY (aa (dv 2) (aa (au bf (me f6 af) (dv 2)) ae))) (aa (au dY (dv 2) af) (aa af ae)))))))),fun _ _ M Q h=>?_⟩;obtain⟨ns,k,rfl,rfl,n,q⟩:=h;refine cj (fun δ a=>a=M/\δ=[KA (.rol (Jc D.int ns)),KA (.int k),KA (.int 0)]) ?_ (fun c=>c _ _ ⟨rfl,rfl⟩);rintro δ a ⟨e,rfl⟩;subst a;refine cj (fun δ a=>a=M/\∃z:Int,δ=[KA (.rol (Jc D.int ns)),KA (.int k),KA (.int z)]) ?_ (fun c=>?_);rotate_left
 ·refine⟨_,rfl,_,rfl,trivial,_,rfl,?_⟩;refine bD (fun g=>?_) (fun _=>c _ _ ⟨rfl,0,rfl⟩);have i:k<(ns.length:Int):=by simpa using g
  obtain⟨j,rfl⟩:∃j:Nat,k=(j:Int):=⟨k.toNat,()⟩;have l:j<ns.length:=()
  exact⟨_,rfl,_,rfl,.int ns[j],bj (by simp[l]),c _ _ ⟨rfl,_,rfl⟩⟩
 rintro δ a ⟨e,z,rfl⟩;subst a;have m:=Int.fmod_nonneg_of_pos z (show(0:Int)<2147483647 by decide);have d:=Int.fmod_lt_of_pos z (show(0:Int)<2147483647 by decide);refine⟨_,rfl,_,rfl,trivial,?_⟩;refine⟨_,rfl,(show(2147483647:Int)≠0 by decide),LB rfl,fun r b=>?_⟩;exact LL (q r _ b ⟨_,_,_,ai,(),m,d,⋯,⋯⟩)
theorem dR:Kv ["_law_pot_here","_law_size","_law_digit","_law_mixed"] ["_law_pot_here","_law_size"] (ao j5):=by walk_at "sc"
inductive NK(y z:D)(M:MH)(Q:DK):Prop
 |mk (r:Addr) (b:Int) (n:Nat) (_:y=.ref r) (_:z=.int b) (_:LQ M r n) (_:n<900000) (_:0<b) (_:Bd 8000 b) (_:∀v o,0<=v->v<b->LQ (ar M r o) r (n+1)->Q (.int v) (ar M r o))
theorem aD(T:Tx K mg):Cal P w K mg base 1 "_law_take" (L7 NK):=by
 refine aU (k:=0) T.f_law_take dR fun f cdv A outer s H E B=>⟨_,(ag (aW (aM (iY B.units) (aw (dv 0) af) af) (ag (az 2 dR.nd (au dY (aw (dv 0) af) (dv 1))) (ag (br (au fD (aw (dv 0) af) (dv 1)) (nh (dv 0) af)) (ak (ay (dv 2))))) aK) (ag (br (au aO (aw (dv 0) af) af) (nh (dv 0) af)) (ag (az 3 dR.nd (au dY (au aO (au aO (au aF (aw (dv 0) af) af) (au aF (au aF (aw (dv 0) af) (aw (dv 0) af)) af)) af) af)) (ag (az 3 dR.nd (au dY (au aF (dv 3) (dv 3)) af)) (ak (ay (au dY (au fD (au dY (au aF (dv 3) (au aO (dv 3) af)) af) af) (dv 1)))))))),fun _ _ M Q h=>?_⟩;obtain⟨r,b,n,rfl,rfl,⟨x,y,c,d,v,e,g,o,C⟩,p,z,t,q⟩:=h;have a:b≠0:=()
 have l:∀n:Int,0<=n.fmod b/\n.fmod b<b:=fun n=>⟨Int.fmod_nonneg_of_pos _ z,Int.fmod_lt_of_pos _ z⟩;have i:Bd 64 (c+1):=by show(c+1).natAbs<2^64;omega
 have j:Bd 64 y:=by show y.natAbs<2^64;omega
 refine⟨_,rfl,_,_,d,rfl,trivial,_,rfl,?_⟩;refine bD (fun h=>?_) (fun h=>?_)
 ·refine⟨_,rfl,_,_,d,rfl,_,rfl,a,?_⟩;refine⟨_,rfl,_,_,d,rfl,_,rfl,⟨a,t⟩,_,rfl,_,_,d,rfl,?_⟩;have u:0<=Int.fdiv x b:=by rw[Iw _ ()];exact Int.ediv_nonneg v ()
  exact⟨_,rfl,LL (q _ _ (l _).1 (l _).2 ⟨_,_,_,ai,u,e,g,o,()⟩)⟩
 ·have p:∀{m:Int} (n:Int),0<m->m<=2^31->Bd 64 (n.fmod m):=fun{m} n h0 h1=>by
   have D:=Int.fmod_nonneg_of_pos n h0
   have F:=Int.fmod_lt_of_pos n h0
   show(n.fmod m).natAbs<2^64
   omega
  refine⟨_,rfl,_,_,d,rfl,_,rfl,_,_,d,rfl,?_⟩;refine⟨_,rfl,_,_,ai,rfl,aL j,?_⟩;refine⟨_,rfl,_,_,ai,rfl,_,rfl,_,_,ai,rfl,aL i,Ab (bC ⋯),(show(2147483629:Int)≠0 by decide),?_⟩;refine⟨_,rfl,_,rfl,aL (p _ ⋯ ⋯),(show(2147483587:Int)≠0 by decide),?_⟩;refine⟨_,rfl,_,rfl,aL (p _ ⋯ ⋯),(show(2147483563:Int)≠0 by decide),⟨⋯,bC ⋯⟩,_,rfl,a,?_⟩;exact LL (q _ _ (l _).1 (l _).2 ⟨_,_,_,ai,v,e,g,(),()⟩)
theorem jv:Kv ["_law_pot_here","_law_wide"] ["_law_pot_here","_law_wide"] (ao fR):=by walk_at "sc"
inductive La(u v:D)(M:MH)(Q:DK):Prop
 |mk (r:Addr) (n:Nat) (m:Int) (_:u=.ref r) (_:v=.int m) (_:LQ M r n) (_:n<800000) (_:(0<m/\m<=10)) (_:∀(p:Vc) M',(4<=p.1/\p.1<=13)->(4<=p.2/\p.2<=13)->Kx [r] M M'->LQ M' r (n+2)->Q (gp 6 24 p) M')
theorem fB(T:Tx K mg):Cal P w K mg base 2 "_law_new_spot" (L7 La):=by
 refine aU (k:=1) T.f_law_new_spot jv fun f cdv A outer s H E a=>⟨_,(ak (ay (aC (aa (au aF af (aj (aD T).m a (aa (dv 0) (aa (dv 1) ae)))) (aa (au aF af (aj (aD T).m a (aa (dv 0) (aa (dv 1) ae)))) ae))))),fun _ _ M Q h=>?_⟩;obtain⟨r,n,m,rfl,rfl,b,o,p,k⟩:=h;refine⟨_,rfl,_,rfl,r,m,n,rfl,rfl,b,(),(),bC (),fun x q c d g=>?_⟩;refine⟨aL (bC ⋯),_,rfl,_,rfl,r,m,n+1,rfl,rfl,g,(),(),bC (),fun y t i j l=>⟨aL (bC ⋯),LB rfl,?_⟩⟩;have e:gp 6 24 (x+4,y+4)=.tup [.int (6*x),.int (6*y)]:=by unfold gp;rw[show 6*(x+4,y+4).1-24=6*x by show 6*(x+4)-24=_;omega,show 6*(x+4,y+4).2-24=6*y by show 6*(y+4)-24=_;omega]
 have:=k (x+4,y+4) _ ⟨by show 4<=x+4;omega,by show x+4<=13;omega⟩ ⟨by show 4<=y+4;omega,by show y+4<=13;omega⟩ ((Kx.refl.upd (by simp)).upd (by simp)) l;rw[e]at this;exact LL this
theorem ir:Kv ["_law_pot_here","_law_shuts","_law_wide"] ["_law_pot_here","_law_shuts","_law_wide"] (ao ff):=by walk_at "sc"
inductive Lz(u v x:D)(M:MH)(Q:DK):Prop
 |mk (r l:Addr) (n:Nat) (m:Int) (ws:List Wl) (_:u=.ref r) (_:v=.ref l) (_:x=.int m) (_:r≠l) (_:M l=KA (.lst (ws.map (LC 6 24)))) (_:(∀w∈ws,LD w)) (_:ws.length<=40) (_:LQ M r n) (_:n<700000) (_:(0<m/\m<=10)) (_:∀(p:Vc) M',L9 p->Kx [r] M M'->LQ M' r (n+3)->Q (gp 6 24 p) M')
theorem jz(T:Tx K mg):Cal P w K mg base 3 "_law_some_spot" (QG Lz):=by
 refine oH (k:=2) T.f_law_some_spot ir fun f cdv A outer s H E b=>⟨_,(ag (aW (nZ (xa (aM (cB b.units) (dv 1) (bw ae)) (qN (aM (cB b.units) (aj (aD T).m b (aa (dv 0) (aa af ae))) af)))) (ak (ay (aj (fB T).m b (aa (dv 0) (aa (dv 2) ae))))) aK) (ak (ay (aw (aw (dv 1) (aj (aD T).m b (aa (dv 0) (aa (aG bP rfl T.b_len bR (aa (dv 1) ae)) ae)))) (aj (aD T).m b (aa (dv 0) (aa af ae))))))),fun _ _ _ M Q h=>?_⟩;obtain⟨r,l,n,m,ws,rfl,rfl,rfl,c,D,R,F,S,hn,U,k⟩:=h;(try dsimp only[SD.fg,SD.cZ,SD.aN,SD.fJ,SD.eW,SD.cX,SD.dw,SD.tBD,SD.fH,SD.EndsD.nxt,SD.EndsD.lp])
 refine⟨_,rfl,LB rfl,fun z u=>?_⟩;have d:∀{G},(ar M z G) l=KA (.lst (ws.map (LC 6 24))):=fun{G}=>by rw[aq (aA D u)];exact D
 have I:∀{G},LQ (ar M z G) r n:=fun{G}=>S.new u;have J:∀{G},Kx [r] M (ar M z G):=fun{G}=>Kx.refl.new u;refine⟨_,_,.lst d (vf 6 24 ws),.lst ai .nil,uD 6 24 ws,rfl,_,rfl,?_⟩;rw[qm];have a:∀{j:MH} {q:Nat},Kx [r] M j->LQ j r q->q<=n+1->eW (wA (L7 La) (qq (N7 0) (qq (N7 2) Bn))) { nx:=fun x y=>Po Q .non y,rt:=Po Q } [KA (.ref r),KA (.ref l),KA (.int m)] j:=fun{j q} V t le=>⟨_,rfl,_,rfl,r,q,m,rfl,rfl,t,(),U,fun p y p1 p2 B C=>LL (k p y ⟨(),()⟩ (V.trans B) (C.le ()))⟩;refine bD (fun e=>?_) (fun e=>?_)
 ·exact a J I ()
 have L:0<ws.length:=by
  cases ws with
  |nil=>simp at e
  |cons w ws=>simp
 refine⟨_,rfl,r,3,n,rfl,rfl,I,(),⋯,bC ⋯,fun v o h0 h1 t=>⟨_,rfl,?_⟩⟩;have N:=J (G:=.lst []);refine bD (fun _=>a (N.upd (by simp)) t ()) (fun _=>?_);have i:(ar (ar M z (.lst [])) r o) l=KA (.lst (ws.map (LC 6 24))):=by rw[aq c.symm];exact d
 have W:Kx [r] M (ar (ar M z (.lst [])) r o):=N.upd (by simp);refine⟨_,rfl,_,rfl,_,rfl,_,i,r,_,n+1,rfl,rfl,t,(),(by rw[Hn];omega),bC (by rw[Hn];omega),fun v2 o2 a0 O C=>?_⟩;obtain⟨w,X,Y⟩:=zp (g:=6) (h:=24) (ws:=ws) a0 (by rw[Hn]at O;exact O);refine⟨_,_,(by rw[aq c.symm];exact i),Y,?_⟩;refine⟨_,rfl,r,2,n+2,rfl,rfl,C,(),⋯,bC ⋯,fun v3 o3 b0 b1 Z=>?_⟩;obtain⟨p,bp,ep⟩:=yL (g:=6) (h:=24) (R w X) b0 b1;exact⟨_,ep,LL (k p _ bp ((W.upd (by simp)).upd (by simp)) Z)⟩
theorem cT:Kv ["_law_pot_here","_law_wide","_law_x","_law_y","_law_far"] ["_law_pot_here","_law_wide"] (ao gU):=by walk_at "sc"
inductive Mc(u v:D)(M:MH)(Q:DK):Prop
 |mk (r:Addr) (n:Nat) (m:Int) (_:u=.ref r) (_:v=.int m) (_:LQ M r n) (_:n<700000) (_:(0<m/\m<=10)) (_:∀(q:Addr) (us:List Vc) M',Kx [r] M M'->r≠q->M q=KC->M' q=KA (.lst (us.map (gp 6 24)))->us.length=5->(∀u∈us,L9 u)->LQ M' r (n+4)->Q (.ref q) M')
theorem mX(T:Tx K mg):Cal P w K mg base 3 "_law_square" (L7 Mc):=by
 refine aU (k:=2) T.f_law_square cT fun f cdv A outer s H E d=>⟨_,(ag (br (aj (fB T).m d (aa (dv 0) (aa (dv 1) ae))) (aY rfl (ax (av 2 cT.nd) (ax (av 3 cT.nd) aQ)))) (ag (az 4 cT.nd (au aF af (au aO af (aj (aD T).m d (aa (dv 0) (aa af ae)))))) (ag (aW (aM (cB d.units) (aj (aD T).m d (aa (dv 0) (aa af ae))) af) (ak (ay (bw (aa (aC (aa (au bf (dv 2) (dv 4)) (aa (au bf (dv 3) (dv 4)) ae))) (aa (aC (aa (au aO (dv 2) (dv 4)) (aa (au bf (dv 3) (dv 4)) ae))) (aa (aC (aa (au aO (dv 2) (dv 4)) (aa (au aO (dv 3) (dv 4)) ae))) (aa (aC (aa (au bf (dv 2) (dv 4)) (aa (au aO (dv 3) (dv 4)) ae))) (aa (aC (aa (au bf (dv 2) (dv 4)) (aa (au bf (dv 3) (dv 4)) ae))) ae)))))))) aK) (ak (ay (bw (aa (aC (aa (au bf (dv 2) (dv 4)) (aa (dv 3) ae))) (aa (aC (aa (dv 2) (aa (au bf (dv 3) (dv 4)) ae))) (aa (aC (aa (au aO (dv 2) (dv 4)) (aa (dv 3) ae))) (aa (aC (aa (dv 2) (aa (au aO (dv 3) (dv 4)) ae))) (aa (aC (aa (au bf (dv 2) (dv 4)) (aa (dv 3) ae))) ae))))))))))),fun _ _ M Q h=>?_⟩;obtain⟨r,n,m,rfl,rfl,D,O,F,k⟩:=h;refine⟨_,rfl,_,rfl,r,n,m,rfl,rfl,D,(),F,fun p G R S I J=>?_⟩;refine⟨_,rfl,rfl,_,_,rfl,_,_,rfl,rfl,?_⟩;refine⟨_,rfl,r,4,n+2,rfl,rfl,J,(),⋯,bC ⋯,fun f o h0 h1 L=>⟨aL (bC ⋯),?_⟩⟩;refine⟨_,rfl,r,2,n+3,rfl,rfl,L,(),⋯,bC ⋯,fun v N a0 U g=>⟨_,rfl,?_⟩⟩;have b:Kx [r] M (ar (ar G r o) r N):=(I.upd (by simp)).upd (by simp);have j:6*p.1-24-6*(1+f)=6*(p.1-(1+f))-24:=()
 have l:6*p.2-24-6*(1+f)=6*(p.2-(1+f))-24:=()
 have t:6*p.1-24+6*(1+f)=6*(p.1+(1+f))-24:=()
 have B:6*p.2-24+6*(1+f)=6*(p.2+(1+f))-24:=()
 have C:∀(x y:Int),(x=p.1-(1+f)\/x=p.1\/x=p.1+(1+f))->(y=p.2-(1+f)\/y=p.2\/y=p.2+(1+f))->L9 (x,y):=fun x y V W=>by
  refine⟨⟨?_,?_⟩,⟨?_,?_⟩⟩
  ·show 0<=x;omega
  ·show x<=20;omega
  ·show 0<=y;omega
  ·show y<=20;omega
 refine bD (fun _=>?_) (fun _=>?_)
 ·refine⟨_,rfl,_,rfl,trivial,_,rfl,_,rfl,trivial,LB rfl,?_⟩;refine⟨_,rfl,_,rfl,_,rfl,_,rfl,trivial,LB rfl,?_⟩;refine⟨_,rfl,_,rfl,_,rfl,_,rfl,LB rfl,?_⟩;refine⟨_,rfl,_,rfl,trivial,_,rfl,_,rfl,LB rfl,?_⟩;refine⟨_,rfl,_,rfl,trivial,_,rfl,_,rfl,trivial,LB rfl,LB rfl,fun q a=>?_⟩
  have i:M q=KC:=by
   cases e:M q with
   |none=>rfl
   |some ob=>
    by_cases z:q=r
    ·subst z;rw[ai]at a;cases a
    ·rw[b q ob (by simpa using z) e]at a;cases a
  refine LL (k q [(p.1-(1+f),p.2-(1+f)),(p.1+(1+f),p.2-(1+f)),(p.1+(1+f),p.2+(1+f)),(p.1-(1+f),p.2+(1+f)),(p.1-(1+f),p.2-(1+f))] _ (b.new a) (g.ne a) i ?_ rfl ?_ (g.new a))
  ·rw[ai];simp only[gp,Hs,Jb];rw[<-j,<-l,<-t,<-B]
  ·intro u c;simp only[HW,List.not_mem_nil,or_false]at c;rcases c with rfl|rfl|rfl|rfl|rfl<;>exact C _ _ (by simp) (by simp)
 ·refine⟨_,rfl,_,rfl,trivial,_,rfl,LB rfl,?_⟩;refine⟨_,rfl,_,rfl,_,rfl,trivial,LB rfl,?_⟩;refine⟨_,rfl,_,rfl,_,rfl,LB rfl,?_⟩;refine⟨_,rfl,_,rfl,_,rfl,LB rfl,?_⟩;refine⟨_,rfl,_,rfl,trivial,_,rfl,LB rfl,LB rfl,fun q a=>?_⟩
  have i:M q=KC:=by
   cases e:M q with
   |none=>rfl
   |some ob=>
    by_cases z:q=r
    ·subst z;rw[ai]at a;cases a
    ·rw[b q ob (by simpa using z) e]at a;cases a
  refine LL (k q [(p.1-(1+f),p.2),(p.1,p.2-(1+f)),(p.1+(1+f),p.2),(p.1,p.2+(1+f)),(p.1-(1+f),p.2)] _ (b.new a) (g.ne a) i ?_ rfl ?_ (g.new a))
  ·rw[ai];simp only[gp,Hs,Jb];rw[<-j,<-l,<-t,<-B]
  ·intro u c;simp only[HW,List.not_mem_nil,or_false]at c;rcases c with rfl|rfl|rfl|rfl|rfl<;>exact C _ _ (by simp) (by simp)
theorem cz:Kv ["_law_shut","_law_spot","_law_a","_law_b","_law_c","_law_d","_law_way"] ["_law_shut","_law_spot"] (ao ky):=by walk_at "sc"
inductive NL(u v:D)(M:MH)(Q:DK):Prop
 |mk (g h:Int) (w:Wl) (p:Vc) (_:u=LC g h w) (_:v=gp g h p) (_:Gs g h) (_:LD w) (_:L9 p) (_:Q (.int (HQ (sd w p.1 p.2))) M)
theorem dm(T:Tx K mg):Cal P w K mg base 1 "_law_side" (L7 NL):=by
 refine aU (k:=0) T.f_law_side cz fun f cdv A outer s H E e=>⟨_,(ag (br (aw (dv 0) af) (aY rfl (ax (av 2 cz.nd) (ax (av 3 cz.nd) aQ)))) (ag (br (aw (dv 0) af) (aY rfl (ax (av 4 cz.nd) (ax (av 5 cz.nd) aQ)))) (ag (az 6 cz.nd (au bf (au aF (au bf (dv 4) (dv 2)) (au bf (aw (dv 1) af) (dv 3))) (au aF (au bf (dv 5) (dv 3)) (au bf (aw (dv 1) af) (dv 2))))) (ak (ay (au bf (fY xv rfl T.b_int qw (aa (cJ (iY e.units) (dv 6) af) ae)) (fY xv rfl T.b_int qw (aa (cJ (bZ e.units) (dv 6) af) ae)))))))),fun _ _ M Q h=>?_⟩;obtain⟨g,h,w,p,rfl,rfl,G,W,n,k⟩:=h;have i:=AJ G W.a;have j:=AJ G W.b;have l:=AJ G W.c;have m:=AJ G W.d;refine⟨_,rfl,_,rfl,_,rfl,rfl,_,_,rfl,_,_,rfl,rfl,?_⟩;refine⟨_,rfl,_,rfl,_,rfl,rfl,_,_,rfl,_,_,rfl,rfl,?_⟩;refine⟨_,rfl,_,rfl,trivial,_,rfl,_,rfl,_,rfl,trivial,aL ((l.sub i).mono ⋯),?_⟩;refine⟨_,rfl,_,rfl,trivial,_,rfl,_,rfl,_,rfl,trivial,aL ((m.sub j).mono ⋯),trivial,?_⟩;refine⟨_,rfl,trivial,_,rfl,trivial,trivial,?_⟩
 have e1:∀z:Int,(if decide (0<z)=KD then(1:Int)else 0)-(if decide (z<0)=KD then(1:Int)else 0)=HQ z:=fun z=>by
  rcases Ie z 0 with h|h|h
  ·rw[Ia h,KH (by simp;omega),KI (by simpa using h)];rfl
  ·subst h;rfl
  ·rw[Ip h,KI (by simpa using h),KH (by simp;omega)];rfl
 have e2:=D6 g h w.1 w.2.1 w.2.2.1 w.2.2.2 p.1 p.2;unfold ML at e2;have e3:=e1 ((g*w.2.2.1-h-(g*w.1-h))*(g*p.2-h-(g*w.2.1-h))-(g*w.2.2.2-h-(g*w.2.1-h))*(g*p.1-h-(g*w.1-h)));have e4:HQ ((g*w.2.2.1-h-(g*w.1-h))*(g*p.2-h-(g*w.2.1-h))-(g*w.2.2.2-h-(g*w.2.1-h))*(g*p.1-h-(g*w.1-h)))=HQ (sd w p.1 p.2):=by rw[e2,Ed G.g0];rfl
 rw[<-e4,<-e3]at k;exact LL k
theorem uG:Kv ["_law_shut","_law_spot"] ["_law_shut","_law_spot"] (ao nY):=by walk_at "sc"
inductive Nf(u v:D)(M:MH)(Q:DK):Prop
 |mk (g h:Int) (w:Wl) (p:Vc) (_:u=LC g h w) (_:v=gp g h p) (_:Gs g h) (_:LD w) (_:L9 p) (_:Q (.bl (decide (l1 w<=la p.1 p.2)&&(decide (la p.1 p.2<=l2 w)&&decide (sd w p.1 p.2=0)))) M)
theorem wj(T:Tx K mg):Cal P w K mg base 2 "_law_on" (L7 Nf):=by
 refine aU (k:=1) T.f_law_on uG fun f cdv A outer s H E c=>⟨_,(ak (ay (k8 (cJ (vQ c.units) (aw (dv 0) af) (dv 1)) (k8 (cJ (vQ c.units) (dv 1) (aw (dv 0) af)) (kh (cJ (cB c.units) (aj (dm T).m c (aa (dv 0) (aa (dv 1) ae))) af)))))),fun _ _ M Q h=>?_⟩;obtain⟨g,h,w,p,rfl,rfl,G,W,i,k⟩:=h;(try dsimp only[SD.fg,SD.cZ,SD.aN,SD.fJ,SD.eW,SD.cX,SD.dw,SD.tBD,SD.fH,SD.EndsD.nxt,SD.EndsD.lp])
 refine ye (decide (l1 w<=la p.1 p.2)) (decide (la p.1 p.2<=l2 w)&&decide (sd w p.1 p.2=0)) (fun K j=>?_) (fun _ K j=>?_) (LL k)
 ·refine⟨_,rfl,_,rfl,_,rfl,[g*w.1-h,g*w.2.1-h],[g*p.1-h,g*p.2-h],rfl,rfl,?_⟩;rw[rZ G.g0,Bg W.b i.2];exact j
 ·refine ye (decide (la p.1 p.2<=l2 w)) (decide (sd w p.1 p.2=0)) (fun l a=>?_) (fun _ l a=>?_) j
  ·refine⟨_,rfl,_,rfl,_,rfl,[g*p.1-h,g*p.2-h],[g*w.2.2.1-h,g*w.2.2.2-h],rfl,rfl,?_⟩;rw[rZ G.g0,Bg i.2 W.d];exact a
  ·refine⟨_,rfl,_,rfl,g,h,w,p,rfl,rfl,G,W,i,?_⟩;have e:decide (HQ (sd w p.1 p.2)=0)=decide (sd w p.1 p.2=0):=by rw[KN];exact Int.sign_eq_zero_iff_zero
   show l (.bl (decide _)) _;rw[e];exact a
theorem cF:Kv ["_law_one","_law_other","_law_shut","_law_ends","_law_spot","_law_both"] ["_law_one","_law_other"] (ao jr):=by walk_at "sc"
inductive Mp(u v:D)(M:MH)(Q:DK):Prop
 |mk (g h:Int) (U V:Wl) (_:u=LC g h U) (_:v=LC g h V) (_:Gs g h) (_:LD U) (_:LD V) (_:∀b:Bool,(b=KD->L6 U V)->Q (.bl b) M)
theorem oZ(T:Tx K mg):Cal P w K mg base 3 "_law_apart" (L7 Mp):=by
 refine aU (k:=2) T.f_law_apart cF fun f cdv A outer s H E o=>⟨_,(ag (bA HP rfl (aS (bw (aa (aC (aa (dv 0) (aa (dv 1) ae))) (aa (aC (aa (dv 1) (aa (dv 0) ae))) ae)))) (aY rfl (ax (av 2 cF.nd) (ax (av 3 cF.nd) aQ))) (ak (bA HP rfl (aS (dv 3)) (av 4 cF.nd) (ak (aW (nZ (kS (cM (aj (wj T).m o (aa (dv 2) (aa (dv 4) ae)))) (gY (aM (oO (nC o)) (dv 4) (dv 2) (by with_unfolding_all rfl))))) (ak (ay jt)) aK))))) (ag (az 5 cF.nd (cJ (bZ o.units) (au aF (aj (dm T).m o (aa (dv 0) (aa (aw (dv 1) af) ae))) (aj (dm T).m o (aa (dv 0) (aa (aw (dv 1) af) ae)))) af)) (ak (ay (k8 (cJ (mE o.units) (dv 0) (dv 1)) (kh (rN (k8 (dv 5) (kh (cJ (bZ o.units) (au aF (aj (dm T).m o (aa (dv 1) (aa (aw (dv 0) af) ae))) (aj (dm T).m o (aa (dv 1) (aa (aw (dv 0) af) ae)))) af)))))))))),fun _ _ M Q h=>?_⟩;obtain⟨g,h,U,V,rfl,rfl,G,r,t,k⟩:=h;refine cj (fun δ u=>SD.Sub M u/\(PR fun C F n=>δ=[KA (LC g h U),KA (LC g h V),C,F,n,KC])/\(aT U (l1 V) (LM U V)/\aT U (l2 V) (LN U V))/\(aT V (l1 U) (LM V U)/\aT V (l2 U) (LN V U))) ?_ (fun hu=>?_);rotate_left
 ·refine⟨_,rfl,_,rfl,LB rfl,_,rfl,_,rfl,LB rfl,LB rfl,fun lp O=>⟨[.tup [LC g h U,LC g h V],.tup [LC g h V,LC g h U]],ai,?_⟩⟩;refine⟨fun i δ u=>(SD.Sub M u/\u lp=KA (.lst [.tup [LC g h U,LC g h V],.tup [LC g h V,LC g h U]]))/\(PR fun C F n=>δ=[KA (LC g h U),KA (LC g h V),C,F,n,KC])/\(0<i->aT U (l1 V) (LM U V)/\aT U (l2 V) (LN U V))/\(1<i->aT V (l1 U) (LM V U)/\aT V (l2 U) (LN V U)),⟨⟨.new O .refl,ai⟩,⟨_,_,_,rfl⟩,fun z=>absurd z ⋯,fun z=>absurd z ⋯⟩,fun _ _ _ _ q=>q.1.2,?_,?_⟩
  ·rintro i d δ u Y hd ⟨⟨I,J⟩,⟨C,F,n,rfl⟩,R,Z⟩;have Y:i<2:=Y;have hd:[D.tup [LC g h U,LC g h V],.tup [LC g h V,LC g h U]][i]?=KA d:=hd
   have pick:∃A B,d=.tup [LC g h A,LC g h B]/\LD A/\LD B/\((aT A (l1 B) (LM A B)/\aT A (l2 B) (LN A B))->(0<i+1->aT U (l1 V) (LM U V)/\aT U (l2 V) (LN U V))/\(1<i+1->aT V (l1 U) (LM V U)/\aT V (l2 U) (LN V U))):=by
    rcases(():i=0\/i=1)with rfl|rfl
    ·cases hd;exact⟨U,V,rfl,r,t,fun z=>⟨fun _=>z,fun y=>absurd y ⋯⟩⟩
    ·cases hd;exact⟨V,U,rfl,t,r,fun z=>⟨fun _=>R ⋯,fun _=>z⟩⟩
   obtain⟨A,B,rfl,HA,HB,nxt⟩:=pick;refine⟨_,rfl,rfl,_,_,rfl,_,_,rfl,rfl,?_⟩;refine⟨_,rfl,[gp g h (ea B),gp g h (eb B)],rfl,?_⟩;refine⟨fun j δ l=>l=u/\(∃n,δ=[KA (LC g h U),KA (LC g h V),KA (LC g h A),KA (LC g h B),n,KC])/\(0<j->aT A (l1 B) (LM A B))/\(1<j->aT A (l2 B) (LN A B)),⟨rfl,⟨_,rfl⟩,fun z=>absurd z ⋯,fun z=>absurd z ⋯⟩,fun _ _ _ _ _=>rfl,?_,?_⟩
   ·rintro j d δ l hj hd ⟨e,⟨n,rfl⟩,S,q2⟩;subst l;have hj:j<2:=hj;have hd:[gp g h (ea B),gp g h (eb B)][j]?=KA d:=hd
    have pk:∃p:Vc,d=gp g h p/\L9 p/\(aT A (la p.1 p.2) (sd A p.1 p.2)->(0<j+1->aT A (l1 B) (LM A B))/\(1<j+1->aT A (l2 B) (LN A B))):=by
     rcases(():j=0\/j=1)with rfl|rfl
     ·cases hd;exact⟨_,rfl,HB.ea,fun z=>⟨fun _=>z,fun y=>absurd y ⋯⟩⟩
     ·cases hd;exact⟨_,rfl,HB.eb,fun z=>⟨fun _=>S ⋯,fun _=>z⟩⟩
    obtain⟨p,rfl,hp,W⟩:=pk;(try dsimp only[SD.fg,SD.cZ,SD.aN,SD.fJ,SD.eW,SD.cX,SD.dw,SD.tBD,SD.fH,SD.EndsD.nxt,SD.EndsD.lp])
    refine vG (decide (l1 A<=la p.1 p.2)&&(decide (la p.1 p.2<=l2 A)&&decide (sd A p.1 p.2=0))) (!(decide (ea A=p)||decide (eb A=p))) (fun K v=>⟨_,rfl,_,rfl,g,h,A,p,rfl,rfl,G,HA,hp,_,rfl,v⟩) (fun _ K v=>⟨_,rfl,_,rfl,?_⟩) ?_
    ·refine⟨_,_,Pd.of rfl,.inr (Pd.of rfl),rfl,rfl,_,rfl,?_⟩;rw[JP,JP,List.any_nil,qr G.g0,qr G.g0,Bool.or_false];exact v
    refine bD (fun _=>⟨M,I,k KG (fun z=>absurd z HJ)⟩) (fun N=>?_);refine⟨rfl,⟨_,rfl⟩,W (xW HA hp.2 ?_)⟩;have e1:decide (ea A=p)=decide (A.1=p.1/\A.2.1=p.2):=by rw[KN];exact⟨fun z=>by rw[<-z];exact⟨rfl,rfl⟩,fun z=>Prod.ext z.1 z.2⟩
    have e2:decide (eb A=p)=decide (A.2.2.1=p.1/\A.2.2.2=p.2):=by rw[KN];exact⟨fun z=>by rw[<-z];exact⟨rfl,rfl⟩,fun z=>Prod.ext z.1 z.2⟩
    have N:=eq_false_of_ne_true N;rw[e1,e2]at N;have key:∀a b c d:Bool,((a&&(b&&c))&&d)=KG->(d&&((a&&b)&&c))=KG:=⋯
    exact key _ _ _ _ N
   ·rintro δ l ⟨e,⟨n,rfl⟩,S,q2⟩;subst l;exact⟨⟨I,J⟩,⟨_,_,_,rfl⟩,nxt ⟨S (⋯:0<2),q2 (⋯:1<2)⟩⟩
  ·rintro δ u ⟨⟨I,_⟩,⟨C,F,n,rfl⟩,R,Z⟩;exact hu _ _ ⟨I,⟨_,_,_,rfl⟩,R (⋯:0<2),Z (⋯:1<2)⟩
 rintro δ u ⟨I,⟨C,F,n,rfl⟩,⟨e1,e2⟩,⟨e3,e4⟩⟩;refine⟨_,rfl,_,rfl,_,rfl,g,h,U,ea V,rfl,rfl,G,r,t.ea,?_⟩;refine⟨_,rfl,_,rfl,_,rfl,g,h,U,eb V,rfl,rfl,G,r,t.eb,aL (Bm _),trivial,?_⟩;have L:∀b:Bool,b=(!PyData.eqv (.tuple [.tuple [.int (g*U.1-h),.int (g*U.2.1-h)],.tuple [.int (g*U.2.2.1-h),.int (g*U.2.2.2-h)]]) (.tuple [.tuple [.int (g*V.1-h),.int (g*V.2.1-h)],.tuple [.int (g*V.2.2.1-h),.int (g*V.2.2.2-h)]]))->b=KD->¬(l1 U=l1 V/\l2 U=l2 V):=fun b e z ⟨z1,z2⟩=>by obtain⟨a1,a2⟩:=ng r.b t.b z1;obtain⟨a3,a4⟩:=ng r.d t.d z2;rw[e,a1,a2,a3,a4]at z;simp[IM,Jd]at z
 generalize X:(!PyData.eqv (.tuple [.tuple [.int (g*U.1-h),.int (g*U.2.1-h)],.tuple [.int (g*U.2.2.1-h),.int (g*U.2.2.2-h)]]) (.tuple [.tuple [.int (g*V.1-h),.int (g*V.2.1-h)],.tuple [.int (g*V.2.2.1-h),.int (g*V.2.2.2-h)]]))=b1 at L;(try dsimp only[SD.fg,SD.cZ,SD.aN,SD.fJ,SD.eW,SD.cX,SD.dw,SD.tBD,SD.fH,SD.EndsD.nxt,SD.EndsD.lp])
 refine ye b1 (!(decide (HQ (LM U V)*HQ (LN U V)<0)&&decide (HQ (LM V U)*HQ (LN V U)<0))) (fun K v=>⟨_,rfl,_,rfl,_,_,Pd.of rfl,Pd.of rfl,rfl,rfl,?_⟩) (fun _ K v=>?_) ⟨M,I,k _ fun z=>?_⟩
 ·rw[<-X]at v;exact v
 ·exact ye (decide (HQ (LM U V)*HQ (LN U V)<0)) (decide (HQ (LM V U)*HQ (LN V U)<0)) (fun K' x=>⟨_,rfl,x⟩) (fun _ K' x=>⟨_,rfl,_,rfl,_,rfl,g,h,V,ea U,rfl,rfl,G,t,r.ea,_,rfl,_,rfl,_,rfl,g,h,V,eb U,rfl,rfl,G,t,r.eb,aL (Bm _),trivial,x⟩) ⟨_,rfl,v⟩
 ·rw[IQ]at z;refine⟨L b1 rfl z.1,e1,e2,e3,e4,?_⟩;have:=z.2;by_cases c1:HQ (LM U V)*HQ (LN U V)<0
  ·by_cases c2:HQ (LM V U)*HQ (LN V U)<0
   ·rw[KL c1,KL c2]at this;cases this
   ·exact .inr ()
  ·exact .inl ()
theorem dU:Kv ["_law_pot_here","_law_shuts","_law_spots","_law_one","_law_other","_law_shut"] ["_law_pot_here","_law_shuts","_law_spots"] (ao jX):=by walk_at "sc"
inductive NP(u v w:D)(M:MH)(Q:DK):Prop
 |mk (r l q:Addr) (n:Nat) (ws:List Wl) (us:List Vc) (_:u=.ref r) (_:v=.ref l) (_:w=.ref q) (_:r≠l) (_:q≠l) (_:q≠r) (_:M l=KA (.lst (ws.map (LC 6 24)))) (_:(∀w∈ws,LD w)) (_:PF ws) (_:ws.length<=30) (_:M q=KA (.lst (us.map (gp 6 24)))) (_:(∀u∈us,L9 u)) (_:us.length<=6) (_:LQ M r n) (_:n<600000) (_:∀(ws':List Wl) M',Kx [r,l] M M'->M' l=KA (.lst (ws'.map (LC 6 24)))->(∀w∈ws',LD w)->PF ws'->ws'.length<=ws.length+5->LQ M' r (n+6)->Q .non M')
theorem rB(T:Tx K mg):Cal P w K mg base 4 "_law_laid" (QG NP):=by
 refine oH (k:=3) T.f_law_laid dU fun f cdv A outer s H E X=>⟨_,(ak (bA HP rfl (Dy rfl T.b_zip (aa (dv 2) (aa (yl (dv 2) (zA af) y6) ae))) (aY rfl (ax (av 3 dU.nd) (ax (av 4 dU.nd) aQ))) (ag (az 5 dU.nd (aC (aa (aG (tK rfl X.units) rfl T.b_min xt (aa (dv 3) (aa (dv 4) ae))) (aa (aG (rQ rfl X.units) rfl T.b_max xY (aa (dv 3) (aa (dv 4) ae))) ae)))) (ak (aW (nZ (kS (aM (mE X.units) (dv 3) (dv 4)) (gY (aM (oO (nC X)) jt (fW (Kw.of (xs:=["_law_some"]) (js:=[5]) rfl) rfl (aS (dv 1)) (fun _ _ _ _=>cu) (fun _ _ _ _=>(aj (oZ T).m X (aa (dv 1) (aa (dv 0) ae))))) (by with_unfolding_all rfl))))) (ak (cI (fE (dv 1) (aa (aj (aD T).m X (aa (dv 0) (aa (au aO (aG bP rfl T.b_len bR (aa (dv 1) ae)) af) ae))) (aa (dv 5) ae))))) aK))))),fun _ _ _ M Q h=>?_⟩;obtain⟨r,l,q,n,ws,us,rfl,rfl,rfl,a0,d0,e0,hl,hU,hF,g0,hq,hB,i0,P0,hn,k⟩:=h;refine⟨_,rfl,_,rfl,_,rfl,_,hq,fun q2 C=>?_⟩;rw[tX];have b0:∀{a o},M a=KA o->a≠q2:=fun h=>aA h C;have lq:r≠q2:=P0.ne C;refine⟨q,q2,us.map (gp 6 24),(us.drop 1).map (gp 6 24),rfl,(by rw[aq (b0 hq)];exact hq),ai,?_⟩;have j0:min (us.map (gp 6 24)).length ((us.drop 1).map (gp 6 24)).length<=5:=by simp;omega
 refine⟨fun i δ B=>QM fun(c:List Wl) (o3 o4 o5:Option D)=>YJ (δ=[KA (.ref r),KA (.ref l),KA (.ref q),o3,o4,o5]) (Kx [r,l] M B) (B q2=KA (.lst ((us.drop 1).map (gp 6 24)))) (B l=KA (.lst (c.map (LC 6 24)))) (∀w∈c,LD w) (PF c) (c.length<=ws.length+i) (LQ B r (n+i)),⟨ws,_,_,_,rfl,Kx.refl.new C,ai,by rw[aq (b0 hl)];exact hl,hU,hF,(),P0.new C⟩,fun i δ B _ z=>by obtain⟨_,_,_,_,_,Y,h2,_⟩:=z;exact⟨Y q _ (by simp[d0,e0]) hq,h2⟩,?_,?_⟩;rotate_left
 ·rintro δ B ⟨c,o3,o4,o5,rfl,Y,h2,F,J,L,G,Z⟩;have G:c.length<=ws.length+min (us.map (gp 6 24)).length ((us.drop 1).map (gp 6 24)).length:=G;have Z:LQ B r (n+min (us.map (gp 6 24)).length ((us.drop 1).map (gp 6 24)).length):=Z;exact LL (k c B Y F J L () (Z.le ()))
 rintro i d δ B hi hd ⟨c,o3,o4,o5,rfl,Y,h2,F,J,L,G,Z⟩;have hi:i<min (us.map (gp 6 24)).length ((us.drop 1).map (gp 6 24)).length:=hi;have hd:((us.map (gp 6 24))[i]?).bind (fun d=>(((us.drop 1).map (gp 6 24))[i]?).map fun e=>D.tup [d,e])=KA d:=hd;have iu:i<us.length:=by simp at hi;omega
 have iv:1+i<us.length:=by simp at hi;omega
 obtain⟨u,v,rfl,bu,bv⟩:∃u v,d=.tup [gp 6 24 u,gp 6 24 v]/\L9 u/\L9 v:=by refine⟨us[i],us[1+i],?_,hB _ (Iz iu),hB _ (Iz iv)⟩;rw[Ht,Hl iu,Ht,List.getElem?_drop,Hl iv]at hd;cases hd;rfl
 refine⟨_,rfl,rfl,_,_,rfl,_,_,rfl,rfl,?_⟩;refine⟨_,rfl,_,rfl,[6*u.1-24,6*u.2-24],[6*v.1-24,6*v.2-24],rfl,rfl,?_⟩;refine⟨_,rfl,_,rfl,[6*u.1-24,6*u.2-24],[6*v.1-24,6*v.2-24],rfl,rfl,LB rfl,?_⟩;refine⟨_,rfl,_,rfl,_,_,Pd.of rfl,Pd.of rfl,rfl,rfl,_,rfl,?_⟩;rw[qr ⋯];refine bD (fun O=>?_) (fun _=>?_);rotate_left
 ·refine lY rfl ?_;exact⟨c,_,_,_,rfl,Y,h2,F,J,L,(),Z.le ()⟩
 have O:u≠v:=fun z=>by rw[z]at O;simp at O
 obtain⟨w,hw,e1,e2⟩:=Ag (g:=6) (h:=24) ⋯ bu bv O;rw[e1,e2];refine⟨_,rfl,c.map (LC 6 24),F,?_⟩;refine⟨by simp;omega,fun z hz=>?_⟩;have nz:∀{a o},B a=KA o->a≠z:=fun h=>aA h hz;refine⟨fun j ys M2=>∃bs:List Bool,ys=bs.map D.bl/\bs.length=j/\(∀(t:Nat) (v:Wl),bs[t]?=KA KD->c[t]?=KA v->L6 w v)/\M2=ar B z (.lst ys),⟨[],rfl,rfl,fun t v h=>by simp at h,rfl⟩,?_,?_,?_⟩
 ·rintro j ys M2 _ ⟨bs,_,_,_,rfl⟩;show(ar B z _) l=_;rw[aq (nz F)];exact F
 ·rintro j ys d M2 hj hd ⟨bs,rfl,p,hf,rfl⟩;have hd:(c.map (LC 6 24))[j]?=KA d:=hd;rw[Ht]at hd;cases ev:c[j]? with
  |none=>rw[ev]at hd;cases hd
  |some v=>
   rw[ev]at hd
   cases hd
   refine⟨_,rfl,?_⟩
   dsimp only[SD.cO]
   refine lG ?_
   refine⟨_,rfl,_,rfl,6,24,w,v,rfl,rfl,⟨⋯,⋯,⋯,⋯⟩,hw,J v (HE ev),fun b hb=>?_⟩
   refine⟨_,.refl,ai,bs++[b],by simp,by simp[p],fun t v' R S=>?_,by rw[bH]⟩
   rcases Nat.lt_trichotomy t bs.length with y|y|y
   ·rw[IB y]at R;exact hf t v' R S
   ·subst y;rw[IG (Hq _)]at R;have f0:b=KD:=by simpa using R
    rw[p,ev]at S;cases S;exact hb f0
   ·rw[List.getElem?_eq_none (by simp;omega)]at R;cases R
 rintro ys M2 ⟨bs,rfl,p,hf,rfl⟩;have U:bs.length=c.length:=by rw[p];simp
 have c2:∀{a o},B a=KA o->(ar B z (.lst (bs.map D.bl))) a=KA o:=fun h=>by rw[aq (nz h)];exact h
 refine⟨_,_,.bl KG,.inl (.lst ai (vL bs)),rfl,yj bs,_,rfl,?_⟩;rw[C9];have P2:LQ (ar B z (.lst (bs.map D.bl))) r (n+i):=Z.new hz;have V:Kx [r,l] M (ar B z (.lst (bs.map D.bl))):=Y.new hz;have N:=c2 F;have W:=c2 h2;generalize ar B z (.lst (bs.map D.bl))=M3 at P2 V N W ⊢;refine bD (fun I=>?_) (fun _=>⟨c,_,_,_,rfl,V,W,N,J,L,(),P2.le ()⟩);refine⟨_,rfl,l,_,rfl,N,?_⟩;refine⟨_,rfl,_,rfl,_,N,r,_,n+i,rfl,rfl,P2,(),(by rw[Hn];omega),bC (by rw[Hn];omega),fun v o h0 h1 P3=>?_⟩;rw[Hn]at h1;obtain⟨j,rfl⟩:∃j:Nat,v=(j:Int):=⟨v.toNat,()⟩;refine⟨_,rfl,_,_,j,rfl,(by rw[aq a0.symm];exact N),(by rw[Hn];omega),(by rw[Hn];omega),?_⟩;have c0:q2≠l:=fun e=>by rw[e]at C;rw[hl]at C;cases C
 refine⟨fj c j w,_,_,_,rfl,(V.upd (by simp)).upd (by simp),(by rw[aq c0,aq lq.symm];exact W),?_,fun x hx=>?_,Ce L fun t v hv=>hf t v ?_ hv,?_,P3.upd a0⟩
 ·rw[ai];exact congrArg (fun z=>KA (MO.lst z)) (ko (LC 6 24) c j w)
 ·have:=(gj c j w).mem_iff.mp hx;rcases HW.mp this with z|z
  ·rw[z];exact hw
  ·exact J x z
 ·have R:t<bs.length:=by rw[U];exact(HN.mp hv).1
  rw[Hl R];have I:bs.any (fun b=>b==KG)=KG:=by simpa using I
  rw[List.any_eq_false]at I;have:=I _ (Iz R);cases e:bs[t]with
  |true=>rfl
  |false=>rw[e]at this;simp at this
 ·rw[(gj c j w).length_eq,Iu];omega
theorem aX:Kv ["_law_pot_here","_law_most","_law_shuts","_law_wide","_law_k","_law_spots"] ["_law_pot_here","_law_most"] (ao eC):=by walk_at "sc"
inductive Ls(u v:D)(M:MH)(Q:DK):Prop
 |mk (r:Addr) (n:Nat) (m:Int) (_:u=.ref r) (_:v=.int m) (_:(0<=m/\m<=12)) (_:LQ M r n) (_:n<100000) (_:∀(l:Addr) (ws:List Wl) M',r≠l->M l=KC->Kx [r] M M'->M' l=KA (.lst (ws.map (LC 6 24)))->(∀w∈ws,LD w)->PF ws->ws.length<=15->LQ M' r (n+400)->Q (.ref l) M')
theorem ix(T:Tx K mg):Cal P w K mg base 5 "_law_shuts_here" (L7 Ls):=by
 refine aU (k:=4) T.f_law_shuts_here aX fun f cdv A outer s H E L=>⟨_,(ag (az 2 aX.nd (bw ae)) (ag (az 3 aX.nd (aw (bw (aa af (aa af (aa af (aa af ae))))) (aj (aD T).m L (aa (dv 0) (aa af ae))))) (ag (g8 HP rfl rfl T.b_range (aa (aj (aD T).m L (aa (dv 0) (aa (au aO (dv 1) af) ae))) ae) (av 4 aX.nd) (ag (eo 5 aX.nd (Kw.of (xs:=["_law_j"]) (js:=[0,2,3]) rfl) rfl (fZ rfl T.b_range (aa (au aO af (aj (aD T).m L (aa (dv 0) (aa af ae)))) ae)) (fun _ _ _ _=>cu) (fun _ _ _ _=>(aj (jz T).m L (aa (dv 1) (aa (dv 2) (aa (dv 3) ae)))))) (ag (aW (aM (cB L.units) (aj (aD T).m L (aa (dv 0) (aa af ae))) af) (ak (cI (bJ (dv 5) (aa (aw (dv 5) af) ae)))) aK) (ag (aW (aM (cB L.units) (aj (aD T).m L (aa (dv 0) (aa af ae))) af) (ak (az 5 aX.nd (aj (mX T).m L (aa (dv 0) (aa (dv 3) ae))))) aK) (ak (aW (aM (bZ L.units) (aG bP rfl T.b_len bR (aa (dv 2) ae)) af) (ak (cI (aj (rB T).m L (aa (dv 0) (aa (dv 2) (aa (dv 5) ae)))))) aK)))))) (ak (ay (dv 2)))))),fun _ _ M Q h=>?_⟩;obtain⟨r,n,m,rfl,rfl,hm,P0,hn,k⟩:=h;refine⟨LB rfl,fun l hl=>?_⟩;have g:r≠l:=P0.ne hl;refine⟨LB rfl,fun z hz=>?_⟩;have t0:r≠z:=(P0.new hl).ne hz;have v0:l≠z:=aA ai hz;refine⟨_,rfl,r,4,n,rfl,rfl,(P0.new hl).new hz,(),⋯,bC ⋯,fun v o h0 h1 P1=>?_⟩
 obtain⟨S,w0,m0⟩:∃S:Int,atI [D.int 3,D.int 4,D.int 6,D.int 10] v=KA (.int S)/\(0<S/\S<=10):=by
  rcases(():v=0\/v=1\/v=2\/v=3)with rfl|rfl|rfl|rfl
  ·exact⟨3,rfl,⋯⟩
  ·exact⟨4,rfl,⋯⟩
  ·exact⟨6,rfl,⋯⟩
  ·exact⟨10,rfl,⋯⟩
 refine⟨_,_,(by rw[aq t0.symm,ai]),w0,?_⟩;refine⟨_,rfl,_,rfl,r,m+1,n+1,rfl,rfl,P1,(),(),bC (),fun c o2 a0 a1 P2=>?_⟩;have n0:(ar (ar (ar (ar M l (.lst [])) z (.lst [.int 3,.int 4,.int 6,.int 10])) r o) r o2) l=KA (.lst (([]:List Wl).map (LC 6 24))):=by rw[aq g.symm,aq g.symm,aq v0,ai];rfl
 have o0:Kx [r,l] M (ar (ar (ar (ar M l (.lst [])) z (.lst [.int 3,.int 4,.int 6,.int 10])) r o) r o2):=(((Kx.refl.new hl).new hz).upd (by simp)).upd (by simp);generalize ar (ar (ar (ar M l (.lst [])) z (.lst [.int 3,.int 4,.int 6,.int 10])) r o) r o2=M2 at P2 n0 o0 ⊢;refine⟨c.toNat,?_,(),fun i δ t=>PR fun(ws:List Wl) (o4 o5:Option D)=>YK (δ=[KA (.ref r),KA (.int m),KA (.ref l),KA (.int S),o4,o5]) (Kx [r,l] M t) (t l=KA (.lst (ws.map (LC 6 24)))) (∀w∈ws,LD w) (PF ws) (ws.length<=15) (LQ t r (n+2+28*i)),⟨[],_,_,rfl,o0,n0,fun w hw=>absurd hw (by simp),DU,⋯,P2⟩,?_,?_⟩
 ·rw[Int.toNat_of_nonneg a0]
 rotate_left
 ·rintro δ t ⟨ws,o4,o5,rfl,kx,c0,hU,hF,N,P'⟩;refine⟨_,rfl,LL (k l ws t g hl (fun a ob O e=>?_) c0 hU hF N (P'.le ()))⟩
  exact kx a ob (by
   intro hm
   rcases HW.mp hm with rfl|hm
   ·exact O (by simp)
   ·have:a=l:=by simpa using hm
    subst this;rw[hl]at e;cases e) e
 rintro i δ t hi ⟨ws,o4,o5,rfl,kx,c0,hU,hF,N,P'⟩;have o1:i<=12:=()
 refine⟨_,rfl,r,4,n+2+28*i,rfl,rfl,P',(),⋯,bC ⋯,fun c2 o3 b0 b1 P3=>?_⟩;have e0:(ar t r o3) l=KA (.lst (ws.map (LC 6 24))):=by rw[aq g.symm];exact c0
 have U:Kx [r,l] M (ar t r o3):=kx.upd (by simp);generalize ar t r o3=M3 at P3 e0 U ⊢;refine⟨2+c2.toNat,(by rw[show((2+c2.toNat:Nat):Int)=2+c2 by omega]),(),?_⟩;refine⟨by show 2+c2.toNat<=1000000;omega,fun p hp=>?_⟩;have I:r≠p:=P3.ne hp;have V:l≠p:=aA e0 hp;refine⟨fun j ys M2=>∃us:List Vc,ys=us.map (gp 6 24)/\us.length=j/\(∀u∈us,L9 u)/\Kx [r,l] M M2/\M2 l=KA (.lst (ws.map (LC 6 24)))/\M2 p=KA (.lst ys)/\LQ M2 r (n+3+28*i+3*j),⟨[],rfl,rfl,fun u hu=>absurd hu (by simp),U.new hp,by rw[aq V];exact e0,ai,(P3.new hp).le ()⟩,fun _ _ _ _ _=>trivial,?_,?_⟩
 ·rintro j ys d M2 hj hd ⟨us,rfl,x0,W,f0,X,g0,P4⟩;have hj:j<2+c2.toNat:=hj;refine⟨_,rfl,?_⟩;dsimp only[SD.cO];refine lG ?_;refine⟨_,rfl,_,rfl,_,rfl,r,l,n+3+28*i+3*j,S,ws,rfl,rfl,rfl,g,X,hU,(),P4,(),m0,fun u M5 bu y Y=>?_⟩;have B:=y p _ (by simpa using I.symm) g0;refine⟨M5,.refl,B,us++[u],by simp,by simp[x0],fun x hx=>?_,?_,?_,ai,(Y.upd I).le ()⟩
  ·rcases HM.mp hx with z|z
   ·exact W x z
   ·have:x=u:=by simpa using z
    subst this;exact bu
  ·intro a ob O e;have a1:=f0 a ob O e
   have i0:a≠p:=fun z=>by
    subst z
    have:=U a ob O e
    rw[hp]at this;cases this
   rw[aq i0];exact y a ob (fun z=>O (by simp at z;simp[z])) a1
  ·rw[aq V];exact y l _ (by simpa using g.symm) X
 rintro ys M4 ⟨us,rfl,F,W,f0,X,g0,P4⟩;have F:us.length=2+c2.toNat:=F;have P4:LQ M4 r (n+3+28*i+3*(2+c2.toNat)):=P4;have P4:=P4.le (():_<=n+18+28*i);(try dsimp only[SD.aN])
 refine cj (fun δ t=>∃(us:List Vc),YK (δ=[KA (.ref r),KA (.int m),KA (.ref l),KA (.int S),KA (.int (i:Int)),KA (.ref p)]) (Kx [r,l] M t) (t l=KA (.lst (ws.map (LC 6 24)))) (t p=KA (.lst (us.map (gp 6 24)))) (us.length<=6) (∀u∈us,L9 u) (LQ t r (n+19+28*i))) ?_ (fun hu=>?_);rotate_left
 ·refine⟨_,rfl,r,2,n+18+28*i,rfl,rfl,P4,(),⋯,bC ⋯,fun v1 C d0 d1 Y=>⟨_,rfl,?_⟩⟩;have R:(ar M4 r C) l=KA (.lst (ws.map (LC 6 24))):=by rw[aq g.symm];exact X
  have B:(ar M4 r C) p=KA (.lst (us.map (gp 6 24))):=by rw[aq I.symm];exact g0
  have y:Kx [r,l] M (ar M4 r C):=f0.upd (by simp);generalize ar M4 r C=M5 at Y R B y ⊢;have Y:=Y.le (():_<=n+19+28*i);refine bD (fun _=>?_) (fun _=>hu _ _ ⟨us,rfl,y,R,B,(),W,Y⟩)
  obtain⟨u0,j0,rfl⟩:∃u0 j0,us=u0::j0:=by
   cases us with
   |nil=>rw[List.length_nil]at F;omega
   |cons a b=>exact⟨a,b,rfl⟩
  refine⟨_,rfl,p,_,rfl,B,_,rfl,_,_,B,(show atI _ ((0:Nat):Int)=_ from bj (by rfl)),_,_,rfl,B,(by rw[Hn];omega),?_⟩;refine hu _ _ ⟨(u0::j0)++[u0],rfl,?_,(by rw[aq V];exact R),(by rw[ai,HR];rfl),(by rw[IJ];simp at F ⊢;omega),fun x hx=>?_,Y.upd I⟩
  ·intro a ob O e
   have i0:a≠p:=fun z=>by
    subst z
    have:=U a ob O e
    rw[hp]at this;cases this
   rw[aq i0];exact y a ob O e
  ·rcases HM.mp hx with z|z
   ·exact W x z
   ·have:x=u0:=by simpa using z
    subst this;exact W x (by simp)
 rintro δ M5 ⟨us,rfl,y,R,B,F,W,Y⟩;refine cj (fun δ t=>QN fun(q:Addr) (us:List Vc)=>YI (δ=[KA (.ref r),KA (.int m),KA (.ref l),KA (.int S),KA (.int (i:Int)),KA (.ref q)]) (r≠q) (l≠q) (Kx [r,l] M t) (t l=KA (.lst (ws.map (LC 6 24)))) (t q=KA (.lst (us.map (gp 6 24)))) (us.length<=6) (∀u∈us,L9 u) (LQ t r (n+24+28*i))) ?_ (fun hu=>?_);rotate_left
 ·refine⟨_,rfl,r,4,n+19+28*i,rfl,rfl,Y,(),⋯,bC ⋯,fun v1 C d0 d1 P6=>⟨_,rfl,?_⟩⟩;have G:(ar M5 r C) l=KA (.lst (ws.map (LC 6 24))):=by rw[aq g.symm];exact R
  have r0:(ar M5 r C) p=KA (.lst (us.map (gp 6 24))):=by rw[aq I.symm];exact B
  have J:Kx [r,l] M (ar M5 r C):=y.upd (by simp);generalize ar M5 r C=M6 at P6 G r0 J ⊢;refine bD (fun _=>?_) (fun _=>hu _ _ ⟨p,us,rfl,I,V,J,G,r0,F,W,P6.le ()⟩);refine⟨_,rfl,_,rfl,r,n+20+28*i,S,rfl,rfl,P6.le (),(),m0,fun q y0 M7 Z k0 z0 c1 l5 e1 P7=>?_⟩;refine hu _ _ ⟨q,y0,rfl,k0,aA G z0,fun a ob O e=>Z a ob (fun z=>O (by simp at z;simp[z])) (J a ob O e),Z l _ (by simpa using g.symm) G,c1,(),e1,P7.le ()⟩
 rintro δ M6 ⟨q,us,rfl,k0,f1,J,G,g1,F,W,P6⟩;refine⟨_,rfl,_,G,trivial,_,rfl,?_⟩;refine bD (fun s0=>?_) (fun _=>⟨ws,_,_,rfl,J,G,hU,hF,N,P6.le ()⟩)
 have s0:ws.length<11:=by
  have:(((ws.map (LC 6 24)).length:Nat):Int)<11:=by simpa using s0
  rw[Hn]at this;omega
 refine⟨_,rfl,_,rfl,_,rfl,r,l,q,n+24+28*i,ws,us,rfl,rfl,rfl,g,f1.symm,k0.symm,G,hU,hF,(),g1,W,F,P6,(),fun i1 M7 Z j1 k1 m1 n1 P7=>?_⟩;exact⟨i1,_,_,rfl,J.trans Z,j1,k1,m1,(),P7.le ()⟩
theorem a9:Kv ["_law_pot_here","_law_most","_law_many","_law_shuts","_law_k","_law_found","_law_shut"] ["_law_pot_here","_law_most"] (ao gn):=by walk_at "sc"
inductive MR(u v:D)(M:MH)(Q:DK):Prop
 |mk (r:Addr) (n:Nat) (_:u=.ref r) (_:v=.int 13) (_:LQ M r n) (_:n<100000) (_:∀(l:Addr) (ws:List Wl) M',r≠l->M l=KC->Kx [r] M M'->M' l=KA (.lst (ws.map (LC 12 0)))->(∀w∈ws,LD w)->PF ws->ws.length<=40->LQ M' r (n+50)->Q (.ref l) M')
theorem lZ(T:Tx K mg):Cal P w K mg base 2 "_law_squares" (L7 MR):=by
 refine aU (k:=1) T.f_law_squares a9 fun f cdv A outer s H E hr=>⟨_,(ag (az 2 a9.nd (au aO af (aj (aD T).m hr (aa (dv 0) (aa (au bf (dv 1) af) ae))))) (ag (eo 3 a9.nd (Kw.of (xs:=["_law_k"]) (js:=[]) rfl) rfl (fZ rfl T.b_range (aa (au aO (dv 2) af) ae)) (fun _ _ _ _=>cu) (fun _ _ _ _=>(aC (aa (aC (aa (au aF af (dv 0)) (aa af ae))) (aa (aC (aa (au aF af (dv 0)) (aa af ae))) ae))))) (ag (g8 HP rfl rfl T.b_range (aa (dv 2) ae) (av 4 a9.nd) (ak (az 3 a9.nd (au aO (dv 3) (fW (Kw.of (xs:=["_law_y"]) (js:=[4]) rfl) rfl (aS (aC (aa af (aa af ae)))) (fun _ _ _ _=>cu) (fun _ _ _ _=>(aC (aa (aC (aa (au aF af (dv 1)) (aa (dv 0) ae))) (aa (aC (aa (au aO (au aF af (dv 1)) af) (aa (dv 0) ae))) ae))))))))) (ag (aW (aM (cB hr.units) (aj (aD T).m hr (aa (dv 0) (aa af ae))) af) (ak (ay (dv 3))) aK) (ag (az 5 a9.nd (bw ae)) (ag (bA HP rfl (aS (dv 3)) (av 6 a9.nd) (ak (cI (fE (dv 5) (aa (aj (aD T).m hr (aa (dv 0) (aa (au aO (aG bP rfl T.b_len bR (aa (dv 5) ae)) af) ae))) (aa (dv 6) ae)))))) (ak (ay (dv 5))))))))),fun _ _ M Q h=>?_⟩;obtain⟨r,n,rfl,rfl,P0,hn,k⟩:=h;refine⟨_,rfl,_,rfl,trivial,r,8,n,rfl,rfl,P0,(),⋯,bC ⋯,fun v o h0 h1 P1=>?_⟩;obtain⟨m,rfl⟩:∃m:Nat,v=(m:Int):=⟨v.toNat,()⟩;have a0:Kx [r] M (ar M r o):=Kx.refl.upd (by simp)
 have b0:∀a,(ar M r o) a=KC->M a=KC:=fun a e=>by
  cases h:M a with
  |none=>rfl
  |some ob=>
   by_cases z:a=r
   ·subst z;rw[ai]at e;cases e
   ·rw[aq z]at e;rw[h]at e;cases e
 generalize ar M r o=M1 at P1 a0 b0 ⊢;refine⟨_,rfl,6+m+1,(by simp),(),?_⟩;refine⟨by show 6+m+1<=1000000;omega,fun p hp=>?_⟩;have m0:r≠p:=P1.ne hp;refine⟨fun j y M2=>y=((K3 0 j).map fun k:Nat=>LY (k:Int)).map (LC 12 0)/\M2=ar M1 p (.lst y),⟨rfl,rfl⟩,fun _ _ _ _ _=>trivial,?_,?_⟩
 ·rintro j y d M2 hj hd ⟨rfl,rfl⟩;have hd:KA (D.int (j:Int))=KA d:=hd;cases hd;refine⟨_,rfl,?_⟩;dsimp only[SD.cO];refine lG ?_;refine⟨_,rfl,aL (bC ⋯),LB rfl,_,rfl,aL (bC ⋯),LB rfl,LB rfl,_,.refl,ai,?_,by rw[bH]⟩;rw[List.range'_concat,HR,HR];simp[Ga]
 rintro y M2 ⟨rfl,rfl⟩;have c0:(ar M1 p (.lst (((K3 0 (6+m+1)).map fun k:Nat=>LY (k:Int)).map (LC 12 0)))) p=KA (.lst ((MC (6+m) 0).map (LC 12 0))):=ai;have e0:Kx [r] M (ar M1 p (.lst (((K3 0 (6+m+1)).map fun k:Nat=>LY (k:Int)).map (LC 12 0)))):=a0.new hp;have P2:LQ (ar M1 p (.lst (((K3 0 (6+m+1)).map fun k:Nat=>LY (k:Int)).map (LC 12 0)))) r (n+1):=P1.new hp;generalize ar M1 p (.lst (((K3 0 (6+m+1)).map fun k:Nat=>LY (k:Int)).map (LC 12 0)))=M2 at c0 e0 P2 ⊢;(try dsimp only[SD.aN])
 refine cj (fun δ c=>QM fun(l2:Addr) (O V x:Option D)=>Vn (δ=[KA (.ref r),KA (.int 13),KA (.int ((6+m:Nat):Int)),KA (.ref l2),O,V,x]) (LQ c r (n+1)) (Kx [r] M c) (c l2=KA (.lst ((MC (6+m) (6+m)).map (LC 12 0)))) (r≠l2) (M l2=KC)) ?_ (fun hu=>?_);rotate_left
 ·refine⟨_,rfl,6+m,by simp,(),fun i δ c=>QM fun(l2:Addr) (O V x:Option D)=>Vn (δ=[KA (.ref r),KA (.int 13),KA (.int ((6+m:Nat):Int)),KA (.ref l2),O,V,x]) (LQ c r (n+1)) (Kx [r] M c) (c l2=KA (.lst ((MC (6+m) i).map (LC 12 0)))) (r≠l2) (M l2=KC),⟨p,_,_,_,by simp;rfl,P2,e0,c0,m0,b0 p hp⟩,?_,fun δ c h=>hu _ _ h⟩;rintro i δ J W ⟨l2,O,V,x,rfl,P3,B,C,F,f0⟩;refine⟨_,rfl,LB rfl,[.int 0,.int 12],rfl,?_⟩;refine⟨by show 2<=1000000;decide,fun q hq=>?_⟩;have n0:l2≠q:=aA C hq;have u0:r≠q:=P3.ne hq;refine⟨fun j y M4=>y=(([LS (i:Int) 0,LS (i:Int) 1]).take j).map (LC 12 0)/\M4=ar J q (.lst y),⟨rfl,rfl⟩,fun _ _ _ _ _=>rfl,?_,?_⟩
  ·rintro j y d M4 hj hd ⟨rfl,rfl⟩;have hj:j<2:=hj;have hd:[D.int 0,D.int 12][j]?=KA d:=hd;obtain⟨w1,w2⟩:=G0 (i:Int);rcases(():j=0\/j=1)with rfl|rfl
   ·cases hd;refine⟨_,rfl,?_⟩;dsimp only[SD.cO];refine lG ?_;refine⟨_,rfl,aL (bC ⋯),_,rfl,LB rfl,_,rfl,aL (bC ⋯),_,rfl,LB rfl,LB rfl,_,.refl,ai,?_,by rw[bH]⟩;simp[w1]
   ·cases hd;refine⟨_,rfl,?_⟩;dsimp only[SD.cO];refine lG ?_;refine⟨_,rfl,aL (bC ⋯),_,rfl,LB rfl,_,rfl,aL (bC ⋯),_,rfl,LB rfl,LB rfl,_,.refl,ai,?_,by rw[bH]⟩;simp[w1,w2]
  rintro y M4 ⟨rfl,rfl⟩;have L:=nK (6+m) i;refine⟨_,_,(by rw[aq n0];exact C),ai,(by rw[Hn,L];show 6+m+1+2*i+2<=Hy;have sz:1000000<=Hy:=LB rfl;omega),fun X b=>?_⟩;have b:(ar J q (.lst ((([LS (i:Int) 0,LS (i:Int) 1]).take 2).map (LC 12 0)))) X=KC:=b;have Y:=(P3.new (o:=.lst ((([LS (i:Int) 0,LS (i:Int) 1]).take 2).map (LC 12 0))) hq);have t:=B.new (o:=.lst ((([LS (i:Int) 0,LS (i:Int) 1]).take 2).map (LC 12 0))) hq
  have G:M X=KC:=by
   cases h:M X with
   |none=>rfl
   |some ob=>
    by_cases z:X=r
    ·subst z;obtain⟨_,_,_,e,_⟩:=Y;rw[b]at e;cases e
    ·have:=t X ob (by simpa using z) h;rw[b]at this;cases this
  exact⟨X,_,_,_,rfl,Y.new b,t.new b,by rw[ai,MC,HR];rfl,Y.ne b,G⟩
 rintro δ o0 ⟨l2,O,V,x,rfl,P3,B,C,F,f0⟩;have L:=nK (6+m) (6+m);refine cj (fun δ c=>Vo (δ=[KA (.ref r),KA (.int 13),KA (.int ((6+m:Nat):Int)),KA (.ref l2),O,V,x]) (LQ c r (n+2)) (Kx [r] M c) (c l2=KA (.lst ((MC (6+m) (6+m)).map (LC 12 0))))) ?_ (fun hu=>?_);rotate_left
 ·refine⟨_,rfl,r,2,n+1,rfl,rfl,P3,(),⋯,bC ⋯,fun v1 r0 d0 d1 P5=>⟨_,rfl,?_⟩⟩;have g:(ar o0 r r0) l2=KA (.lst ((MC (6+m) (6+m)).map (LC 12 0))):=by rw[aq F.symm];exact C
  refine bD (fun _=>?_) (fun _=>hu _ _ ⟨rfl,P5,B.upd (by simp),g⟩);obtain⟨q1,q2,q3⟩:=BC (m:=6+m) () (sA (6+m));exact⟨_,rfl,LL (k l2 _ _ F f0 (B.upd (by simp)) g q2 q1 q3 (P5.le ()))⟩
 rintro δ J ⟨rfl,Y,t,b⟩;refine⟨LB rfl,fun l g=>?_⟩;have I:r≠l:=Y.ne g;have g0:l2≠l:=aA b g
 have G:M l=KC:=by
  cases h:M l with
  |none=>rfl
  |some ob=>
   have:=t l ob (by simpa using I.symm) h
   rw[g]at this;cases this
 have P5:LQ (ar J l (.lst [])) r (n+2):=Y.new g;have R:(ar J l (.lst [])) l2=KA (.lst ((MC (6+m) (6+m)).map (LC 12 0))):=by rw[aq g0];exact b
 have i0:(ar J l (.lst [])) l=KA (.lst (([]:List Wl).map (LC 12 0))):=ai;have j0:Kx [r] M (ar J l (.lst [])):=t.new g;generalize ar J l (.lst [])=M4 at P5 R i0 j0 ⊢;refine⟨_,rfl,_,R,fun i δ c=>QN fun(ws:List Wl) (x:Option D)=>Vn (δ=[KA (.ref r),KA (.int 13),KA (.int ((6+m:Nat):Int)),KA (.ref l2),O,KA (.ref l),x]) (LQ c r (n+2+i)) (Kx [r] M c) (c l2=KA (.lst ((MC (6+m) (6+m)).map (LC 12 0)))) (c l=KA (.lst (ws.map (LC 12 0)))) (ws.Perm ((MC (6+m) (6+m)).take i)),⟨[],_,rfl,P5,j0,R,i0,by simp⟩,fun i δ c _ z=>by obtain⟨_,_,_,_,_,h2,_⟩:=z;exact h2,?_,?_⟩;rotate_left
 ·rintro δ c ⟨ws,x,rfl,Z,S,k0,u,N⟩;have N:ws.Perm ((MC (6+m) (6+m)).take ((MC (6+m) (6+m)).map (LC 12 0)).length):=N;have Z:LQ c r (n+2+((MC (6+m) (6+m)).map (LC 12 0)).length):=Z;rw[Hn]at N Z;rw[List.take_length]at N;obtain⟨q1,q2,q3⟩:=BC (m:=6+m) () (N.trans (sA (6+m)));exact⟨_,rfl,LL (k l ws _ I G S u q2 q1 q3 (Z.le ()))⟩
 rintro i d δ M5 W hd ⟨ws,x,rfl,Z,S,k0,u,N⟩;have W:i<((MC (6+m) (6+m)).map (LC 12 0)).length:=W;rw[Hn]at W;have U:ws.length=i:=by rw[N.length_eq,Ju];omega
 have hd:((MC (6+m) (6+m)).map (LC 12 0))[i]?=KA d:=hd;rw[Ht,Hl W]at hd;cases hd;refine⟨_,rfl,l,_,rfl,u,_,rfl,_,rfl,_,u,r,(i:Int)+1,n+2+i,rfl,by simp[U],Z,(),(),bC (),fun v2 o7 v0 w0 P7=>?_⟩;obtain⟨j,rfl⟩:∃j:Nat,v2=(j:Int):=⟨v2.toNat,()⟩;have s0:(ar M5 r o7) l=KA (.lst (ws.map (LC 12 0))):=by rw[aq I.symm];exact u
 refine⟨_,rfl,_,_,j,rfl,s0,by simp;omega,by simp;omega,?_⟩;refine⟨fj ws j (MC (6+m) (6+m))[i],_,rfl,P7.upd I,?_,(by rw[aq g0,aq F.symm];exact k0),(by rw[ai,ko]),?_⟩
 ·intro a ob na e;have t0:a≠l:=fun z=>by subst z;rw[G]at e;cases e
  rw[aq t0];exact(S.upd (by simp)) a ob na e
 rw[J3,Hl W];exact(gj ws j _).trans ((List.Perm.cons _ N).trans (List.perm_append_comm (l₁:=[(MC (6+m) (6+m))[i]]) (l₂:=(MC (6+m) (6+m)).take i)))
theorem df:Kv ["_law_pot_here","_law_many","_law_kind","_law_far"] ["_law_pot_here","_law_many"] (ao jc):=by walk_at "sc"
inductive Mo(u v:D)(M:MH)(Q:DK):Prop
 |mk (r:Addr) (n:Nat) (m:Int) (_:u=.ref r) (_:v=.int m) (_:LQ M r n) (_:n<700000) (_:∀(t b x y:Int) M',Lc t b x y->t<=10^20->b<=10^25->(-(10^27)<=x/\x<=10^27)->(-(10^27)<=y/\y<=10^27)->Kx [r] M M'->LQ M' r (n+5)->Q (Px t b x y) M')
theorem pS(T:Tx K mg):Cal P w K mg base 2 "_law_frame" (L7 Mo):=by
 refine aU (k:=1) T.f_law_frame df fun f cdv A outer s H E U=>⟨_,(ag (az 2 df.nd (aj (aD T).m U (aa (dv 0) (aa af ae)))) (ag (aW (aM (bZ U.units) (dv 2) af) (ak (ay (aC (aa af (aa af (aa af (aa af ae))))))) aK) (ag (aW (nZ (kS (aM (cB U.units) (dv 2) af) (gY (aM (bZ U.units) (dv 1) af)))) (ag (eo 3 df.nd (Kw.of (xs:=["_law_k"]) (js:=[0]) rfl) rfl (fZ rfl T.b_range (aa af ae)) (fun _ _ _ _=>cu) (fun _ _ _ _=>(au bf (aj (aD T).m U (aa (dv 1) (aa (au aO (au aF af (au eR af af)) af) ae))) (au eR af af)))) (ak (ay (aC (aa (au aO af (aj (aD T).m U (aa (dv 0) (aa (au eR af af) ae)))) (aa (au aO af (aj (aD T).m U (aa (dv 0) (aa (au eR af af) ae)))) (aa (aw (dv 3) af) (aa (aw (dv 3) af) ae)))))))) aK) (ag (eo 3 df.nd (Kw.of (xs:=["_law_k"]) (js:=[0]) rfl) rfl (fZ rfl T.b_range (aa af ae)) (fun _ _ _ _=>cu) (fun _ _ _ _=>(au bf (aj (aD T).m U (aa (dv 1) (aa (au aO (au aF af (au eR af af)) af) ae))) (au eR af af)))) (ak (ay (aC (aa (au aO af (aj (aD T).m U (aa (dv 0) (aa (au eR af af) ae)))) (aa (au aO af (aj (aD T).m U (aa (dv 0) (aa (au eR af af) ae)))) (aa (aw (dv 3) af) (aa (aw (dv 3) af) ae))))))))))),fun _ _ M Q h=>?_⟩;obtain⟨r,n,m,rfl,rfl,P0,hn,k⟩:=h;refine⟨_,rfl,r,16,n,rfl,rfl,P0,(),⋯,bC ⋯,fun kd o h0 h1 V=>?_⟩;have q:Kx [r] M (ar M r o):=Kx.refl.upd (by simp);generalize ar M r o=M1 at V q ⊢;refine⟨_,rfl,trivial,_,rfl,?_⟩;refine bD (fun _=>?_) (fun _=>?_)
 ·exact⟨LB rfl,LL (k 1 1 0 0 M1 ⟨⋯,⋯,⋯,⋯,⋯,⋯,⋯,⋯⟩ ⋯ ⋯ ⋯ ⋯ q (V.le ()))⟩
 (try dsimp only[SD.fg,SD.cZ,SD.aN,SD.fJ,SD.eW,SD.cX,SD.dw,SD.tBD,SD.fH,SD.EndsD.nxt,SD.EndsD.lp])
 refine⟨_,rfl,_,rfl,?_⟩;refine bD (fun _=>?_) (fun _=>?_)
 ·refine⟨_,rfl,trivial,_,rfl,?_⟩;refine bD (fun _=>?_) (fun _=>?_)
  ·refine⟨2,rfl,⋯,?_⟩;refine⟨by show 2<=1000000;omega,fun p G=>?_⟩;have b:r≠p:=V.ne G;refine⟨fun j I c=>∃us:List Int,I=us.map D.int/\us.length=j/\(∀u∈us,-(10^27)<=u/\u<=10^27)/\Kx [r] M c/\c p=KA (.lst I)/\LQ c r (n+1+j),⟨[],rfl,rfl,fun u hu=>absurd hu (by simp),q.new G,ai,V.new G⟩,fun _ _ _ _ _=>trivial,?_,?_⟩
   ·rintro j I d c W hd ⟨us,rfl,N,J,e,g,t⟩;have W:j<2:=W;refine⟨_,rfl,?_⟩;dsimp only[SD.cO];refine lG ?_;refine⟨_,rfl,⟨⋯,⋯,⋯⟩,aL (bC ⋯),r,2*10^27+1,n+1+j,rfl,rfl,t,(),⋯,Bd.mono (m:=100) (by show(2*10^27+1:Int).natAbs<2^100;decide) ⋯,fun v l a0 a1 L=>?_⟩;have B:(ar c r l) p=KA (.lst (us.map D.int)):=by rw[aq b.symm];exact g
    have C:Kx [r] M (ar c r l):=e.upd (by simp);generalize ar c r l=M5 at B C L ⊢;refine⟨⟨⋯,⋯,⋯⟩,trivial,M5,.refl,B,us++[v-10^27],by simp,by simp[N],fun x X=>?_,?_,ai,L.upd b⟩
    ·rcases HM.mp X with z|z
     ·exact J x z
     ·have:x=v-10^27:=by simpa using z
      subst this;omega
    ·intro a ob Y ea
     have O:a≠p:=fun z=>by
      subst z
      have:=q a ob Y ea
      rw[G]at this;cases this
     rw[aq O];exact C a ob Y ea
   rintro I R ⟨us,rfl,i,J,e,g,t⟩;have i:us.length=2:=i;have t:LQ R r (n+3):=t
   obtain⟨x,y,rfl⟩:∃x y,us=[x,y]:=by
    match us,i with
    |[x,y],_=>exact⟨x,y,rfl⟩
   have X:=J x (by simp);have hy:=J y (by simp);refine⟨_,rfl,⟨⋯,⋯,⋯⟩,r,10^20,n+3,rfl,rfl,t,(),⋯,Bd.mono (m:=100) (by show(10^20:Int).natAbs<2^100;decide) ⋯,fun v l a0 a1 L=>?_⟩;refine⟨_,rfl,⟨⋯,⋯,⋯⟩,r,10^25,n+4,rfl,rfl,L,(),⋯,Bd.mono (m:=100) (by show(10^25:Int).natAbs<2^100;decide) ⋯,fun v2 Z b0 b1 P6=>?_⟩;have F:(ar (ar R r l) r Z) p=KA (.lst ([x,y].map D.int)):=by rw[aq b.symm,aq b.symm];exact g
   have S:Kx [r] M (ar (ar R r l) r Z):=(e.upd (by simp)).upd (by simp);refine⟨_,rfl,_,_,F,rfl,_,rfl,_,_,F,rfl,LB rfl,?_⟩;exact LL (k (1+v) (1+v2) x y _ ⟨(),(),(),(),(),(),(),()⟩ () () () () S P6)
  ·refine⟨2,rfl,⋯,?_⟩;refine⟨by show 2<=1000000;omega,fun p G=>?_⟩;have b:r≠p:=V.ne G;refine⟨fun j I c=>∃us:List Int,I=us.map D.int/\us.length=j/\(∀u∈us,-(10^6)<=u/\u<=10^6)/\Kx [r] M c/\c p=KA (.lst I)/\LQ c r (n+1+j),⟨[],rfl,rfl,fun u hu=>absurd hu (by simp),q.new G,ai,V.new G⟩,fun _ _ _ _ _=>trivial,?_,?_⟩
   ·rintro j I d c W hd ⟨us,rfl,N,J,e,g,t⟩;have W:j<2:=W;refine⟨_,rfl,?_⟩;dsimp only[SD.cO];refine lG ?_;refine⟨_,rfl,⟨⋯,⋯,⋯⟩,aL (bC ⋯),r,2*10^6+1,n+1+j,rfl,rfl,t,(),⋯,Bd.mono (m:=100) (by show(2*10^6+1:Int).natAbs<2^100;decide) ⋯,fun v l a0 a1 L=>?_⟩;have B:(ar c r l) p=KA (.lst (us.map D.int)):=by rw[aq b.symm];exact g
    have C:Kx [r] M (ar c r l):=e.upd (by simp);generalize ar c r l=M5 at B C L ⊢;refine⟨⟨⋯,⋯,⋯⟩,trivial,M5,.refl,B,us++[v-10^6],by simp,by simp[N],fun x X=>?_,?_,ai,L.upd b⟩
    ·rcases HM.mp X with z|z
     ·exact J x z
     ·have:x=v-10^6:=by simpa using z
      subst this;omega
    ·intro a ob Y ea
     have O:a≠p:=fun z=>by
      subst z
      have:=q a ob Y ea
      rw[G]at this;cases this
     rw[aq O];exact C a ob Y ea
   rintro I R ⟨us,rfl,i,J,e,g,t⟩;have i:us.length=2:=i;have t:LQ R r (n+3):=t
   obtain⟨x,y,rfl⟩:∃x y,us=[x,y]:=by
    match us,i with
    |[x,y],_=>exact⟨x,y,rfl⟩
   have X:=J x (by simp);have hy:=J y (by simp);refine⟨_,rfl,⟨⋯,⋯,⋯⟩,r,10^4,n+3,rfl,rfl,t,(),⋯,Bd.mono (m:=100) (by show(10^4:Int).natAbs<2^100;decide) ⋯,fun v l a0 a1 L=>?_⟩;refine⟨_,rfl,⟨⋯,⋯,⋯⟩,r,10^4,n+4,rfl,rfl,L,(),⋯,Bd.mono (m:=100) (by show(10^4:Int).natAbs<2^100;decide) ⋯,fun v2 Z b0 b1 P6=>?_⟩;have F:(ar (ar R r l) r Z) p=KA (.lst ([x,y].map D.int)):=by rw[aq b.symm,aq b.symm];exact g
   have S:Kx [r] M (ar (ar R r l) r Z):=(e.upd (by simp)).upd (by simp);refine⟨_,rfl,_,_,F,rfl,_,rfl,_,_,F,rfl,LB rfl,?_⟩;exact LL (k (1+v) (1+v2) x y _ ⟨(),(),(),(),(),(),(),()⟩ () () () () S P6)
 ·refine⟨2,rfl,⋯,?_⟩;refine⟨by show 2<=1000000;omega,fun p G=>?_⟩;have b:r≠p:=V.ne G;refine⟨fun j I c=>∃us:List Int,I=us.map D.int/\us.length=j/\(∀u∈us,-(10^6)<=u/\u<=10^6)/\Kx [r] M c/\c p=KA (.lst I)/\LQ c r (n+1+j),⟨[],rfl,rfl,fun u hu=>absurd hu (by simp),q.new G,ai,V.new G⟩,fun _ _ _ _ _=>trivial,?_,?_⟩
  ·rintro j I d c W hd ⟨us,rfl,N,J,e,g,t⟩;have W:j<2:=W;refine⟨_,rfl,?_⟩;dsimp only[SD.cO];refine lG ?_;refine⟨_,rfl,⟨⋯,⋯,⋯⟩,aL (bC ⋯),r,2*10^6+1,n+1+j,rfl,rfl,t,(),⋯,Bd.mono (m:=100) (by show(2*10^6+1:Int).natAbs<2^100;decide) ⋯,fun v l a0 a1 L=>?_⟩;have B:(ar c r l) p=KA (.lst (us.map D.int)):=by rw[aq b.symm];exact g
   have C:Kx [r] M (ar c r l):=e.upd (by simp);generalize ar c r l=M5 at B C L ⊢;refine⟨⟨⋯,⋯,⋯⟩,trivial,M5,.refl,B,us++[v-10^6],by simp,by simp[N],fun x X=>?_,?_,ai,L.upd b⟩
   ·rcases HM.mp X with z|z
    ·exact J x z
    ·have:x=v-10^6:=by simpa using z
     subst this;omega
   ·intro a ob Y ea
    have O:a≠p:=fun z=>by
     subst z
     have:=q a ob Y ea
     rw[G]at this;cases this
    rw[aq O];exact C a ob Y ea
  rintro I R ⟨us,rfl,i,J,e,g,t⟩;have i:us.length=2:=i;have t:LQ R r (n+3):=t
  obtain⟨x,y,rfl⟩:∃x y,us=[x,y]:=by
   match us,i with
   |[x,y],_=>exact⟨x,y,rfl⟩
  have X:=J x (by simp);have hy:=J y (by simp);refine⟨_,rfl,⟨⋯,⋯,⋯⟩,r,10^4,n+3,rfl,rfl,t,(),⋯,Bd.mono (m:=100) (by show(10^4:Int).natAbs<2^100;decide) ⋯,fun v l a0 a1 L=>?_⟩;refine⟨_,rfl,⟨⋯,⋯,⋯⟩,r,10^4,n+4,rfl,rfl,L,(),⋯,Bd.mono (m:=100) (by show(10^4:Int).natAbs<2^100;decide) ⋯,fun v2 Z b0 b1 P6=>?_⟩;have F:(ar (ar R r l) r Z) p=KA (.lst ([x,y].map D.int)):=by rw[aq b.symm,aq b.symm];exact g
  have S:Kx [r] M (ar (ar R r l) r Z):=(e.upd (by simp)).upd (by simp);refine⟨_,rfl,_,_,F,rfl,_,rfl,_,_,F,rfl,LB rfl,?_⟩;exact LL (k (1+v) (1+v2) x y _ ⟨(),(),(),(),(),(),(),()⟩ () () () () S P6)
theorem dX:Kv ["_law_top","_law_bottom","_law_one","_law_other"] ["_law_top","_law_bottom"] (ao kX):=by walk_at "sc"
inductive NQ(x y:D)(M:MH)(Q:DK):Prop
 |mk (t:_) (b:_) (_:x=.int t) (_:y=.int b) (_:0<b) (_:Bd 8000 t) (_:Bd 8000 b) (_:Q (Kp (Rat.divInt t b)) M)
theorem gL(T:Tx K mg):Cal P w K mg base 1 "_law_frac" (L7 NQ):=by
 refine aU (k:=0) T.f_law_frac dX fun f cdv A outer s H E j=>⟨_,(ag (az 2 dX.nd (aG qg rfl T.b_abs qA (aa (dv 0) ae))) (ag (az 3 dX.nd (dv 1)) (ag (ie HP (aM (iY j.units) (dv 3) af) (ak (fP 2 3 rfl dX.nd (aa (dv 3) (aa (au dY (dv 2) (dv 3)) ae))))) (ak (ay (aC (aa (au fD (dv 0) (dv 2)) (aa (au fD (dv 1) (dv 2)) ae)))))))),fun _ _ M Q h=>?_⟩;obtain⟨t,b,rfl,rfl,l,p,d,q⟩:=h;obtain⟨n,rfl⟩:∃n:Nat,b=(n:Int):=⟨b.toNat,()⟩;have r:=Ma.d4 (t:=t) (show(n:Int)≠0 by omega);have c:Bd 8000 ((JV t.natAbs (n:Int).natAbs:Nat):Int):=d.of_le (by simpa using Nat.gcd_le_right t.natAbs (():0<(n:Int).natAbs));refine⟨_,rfl,_,rfl,?_⟩;refine⟨fun m δ i=>i=M/\∃x y:Nat,δ=[KA (.int t),KA (.int n),KA (.int x),KA (.int y)]/\JV x y=JV t.natAbs (n:Int).natAbs/\m=y,⟨_,rfl,_,n,rfl,rfl,rfl⟩,?_⟩;rintro m δ i ⟨rfl,x,y,rfl,a,o⟩;refine⟨_,rfl,trivial,_,rfl,?_⟩;refine bD (fun h=>?_) (fun h=>?_)
 ·have e:0<y:=by
   have:(0:Int)<(y:Int):=by simpa using h
   omega
  have g:(y:Int)≠0:=()
  refine⟨_,rfl,_,rfl,_,rfl,g,_,_,rfl,?_⟩;refine⟨x%y,by rw[o];exact Nat.mod_lt _ e,rfl,y,x%y,?_,?_,rfl⟩
  ·rw[<-Ma.sX];rfl
  ·rw[<-a,Nat.gcd_comm x y,Nat.gcd_rec y x,Nat.gcd_comm]
 ·have g:y=0:=by
   have:¬(0:Int)<(y:Int):=by simpa using h
   omega
  subst g;rw[Nat.gcd_zero_right]at a;subst a;obtain⟨e1,e2⟩:=Ma.sH (t:=t) l;refine⟨_,rfl,_,rfl,⟨(),c⟩,_,rfl,_,rfl,⟨(),c⟩,LB rfl,?_⟩;dsimp only;rw[e1,e2];exact LL q
theorem cG:Kv ["_law_frame_here","_law_spot","_law_p","_law_q","_law_s","_law_t"] ["_law_frame_here","_law_spot"] (ao jk):=by walk_at "sc"
inductive Mn(s v:D)(M:MH)(Q:DK):Prop
 |mk (t b x y p q:Int) (_:s=Px t b x y) (_:v=.tup [.int p,.int q]) (_:Lc t b x y) (_:(-(10^6)<=p/\p<=10^6)) (_:(-(10^6)<=q/\q<=10^6)) (_:Q (Kn (Ke t b x 1 p) (Ke t b y 1 q)) M)
theorem jg(T:Tx K mg):Cal P w K mg base 2 "_law_given" (L7 Mn):=by
 refine aU (k:=1) T.f_law_given cG fun f cdv A outer s H E c=>⟨_,(ag (br (dv 0) (aY rfl (ax (av 2 cG.nd) (ax (av 3 cG.nd) (ax (av 4 cG.nd) (ax (av 5 cG.nd) aQ)))))) (ak (ay (aC (aa (aj (gL T).m c (aa (au aO (au aF (aw (dv 1) af) (dv 2)) (dv 4)) (aa (dv 3) ae))) (aa (aj (gL T).m c (aa (au aO (au aF (aw (dv 1) af) (dv 2)) (dv 5)) (aa (dv 3) ae))) ae)))))),fun _ _ M Q h=>?_⟩;obtain⟨t,b,x,y,p,q,rfl,rfl,S,d,e,k⟩:=h;have i:Bd 100 t:=by have:=S.t0;have:=S.t1;show t.natAbs<2^100;omega
 have a:∀{z:Int},(-(10^6)<=z/\z<=10^6)->Bd 64 z:=fun{z} h=>by show z.natAbs<2^64;omega
 have g:Bd 8000 b:=by have:=S.b0;have:=S.b1;exact Bd.mono (m:=100) (by show b.natAbs<2^100;omega) ⋯
 have big:∀{z w:Int},(-(10^6)<=z/\z<=10^6)->(-(10^30)<=w/\w<=10^30)->Bd 8000 (z*t+w):=fun{z w} h1 l=>by
  have e1:Bd 164 (z*t):=(a h1).mul i
  have e2:Bd 164 w:=by show w.natAbs<2^164;omega
  exact(e1.add e2).mono ⋯
 have j:b≠0:=by have:=S.b0;omega
 refine⟨_,rfl,_,rfl,rfl,_,_,rfl,_,_,rfl,_,_,rfl,_,_,rfl,rfl,?_⟩;refine⟨_,rfl,_,rfl,_,rfl,aL (a d),_,rfl,_,rfl,p*t+x,b,rfl,rfl,S.b0,big d ⟨S.x0,S.x1⟩,g,?_⟩;refine⟨_,rfl,_,rfl,_,rfl,aL (a e),_,rfl,_,rfl,q*t+y,b,rfl,rfl,S.b0,big e ⟨S.y0,S.y1⟩,g,LB rfl,?_⟩;rw[Ko,Ko];exact LL k
theorem oE:Kv ["_law_frame_here","_law_shuts"] ["_law_frame_here","_law_shuts"] (ao kr):=by walk_at "sc"
inductive NO(s v:D)(M:MH)(Q:DK):Prop
 |mk (t b x y:Int) (l:Addr) (ws:List (Int×Int×Int×Int)) (_:s=Px t b x y) (_:v=.ref l) (_:M l=KA (.lst (ws.map uw))) (_:Lc t b x y) (_:ws.length<=1000) (_:(∀w∈ws,YX (10^6) w)) (_:Q (.tup (ws.map (Kz t b x y))) M)
theorem rE(T:Tx K mg):Cal P w K mg base 3 "_law_plot" (L7 NO):=by
 refine aU (k:=2) T.f_law_plot oE fun f cdv A outer s H E n=>⟨_,(ak (ay (fY xH rfl T.b_tuple xP (aa (vE (Kw.of (xs:=["_law_first","_law_second"]) (js:=[0]) rfl) rfl (aS (dv 1)) (fun _ _ _ _=>cu) (fun _ _ _ _=>(aC (aa (aj (jg T).m n (aa (dv 2) (aa (dv 0) ae))) (aa (aj (jg T).m n (aa (dv 2) (aa (dv 1) ae))) ae))))) ae)))),fun _ _ M Q h=>?_⟩;obtain⟨t,b,x,y,l,ws,rfl,rfl,g,S,C,o,k⟩:=h;refine⟨_,rfl,ws.map uw,g,comp_map (fun i=>((ws.map (Kz t b x y))[i]?).getD .non) (by simp;omega) (fun p D j=>?_) ?_ (fun p j=>⟨_,ai,?_⟩)⟩
 ·show(ar M p _) l=_;rw[aq (aA g j)];exact g
 ·intro i e q F a _;have a:(ws.map uw)[i]?=KA e:=a;rw[Ht]at a;cases d:ws[i]? with
  |none=>rw[d]at a;cases a
  |some w=>
   rw[d]at a
   cases a
   obtain⟨r,u,v,z⟩:=o w (HE d)
   refine⟨_,⟨_,rfl,rfl,rfl⟩,fun K B=>?_⟩
   have c:=B q .refl
   rw[getD_map d]at c
   refine⟨_,rfl,_,rfl,t,b,x,y,w.1,w.2.1,rfl,rfl,S,r,u,?_⟩
   exact⟨_,rfl,_,rfl,t,b,x,y,w.2.2.1,w.2.2.2,rfl,rfl,S,v,z,LB rfl,c⟩
 ·refine⟨_,.new j .refl,?_⟩
  have e:(HX (ws.map uw).length).map (fun i=>((ws.map (Kz t b x y))[i]?).getD .non)=ws.map (Kz t b x y):=by
   have:=SD.range_getD (ws.map (Kz t b x y))
   rw[Hn]at this ⊢
   exact this
  dsimp only;rw[e];exact k
theorem eP:Kv ["plot","face","first","second"] ["plot","face"] (ao jh):=by walk_at "sc"
inductive Mq(u v:D)(M:MH)(Q:DK):Prop
 |mk (t b X Y:Int) (ws:List Wl) (f:Nat) (_:u=.tup (ws.map (Kz t b X Y))) (_:v=.int (f:Int)) (_:f<2*ws.length) (_:ws.length<=1000) (_:Q (Kz t b X Y (fw ws f)) M)
theorem bN(T:Tx K mg):Cal P w K mg base 1 "face_ends" (L7 Mq):=by
 refine aU (k:=0) T.f_face_ends eP fun f cdv A outer s H E e=>⟨_,(ag (br (aw (dv 0) (au fD (dv 1) af)) (aY rfl (ax (av 2 eP.nd) (ax (av 3 eP.nd) aQ)))) (ak (ay (iO (aM (cB e.units) (au dY (dv 1) af) af) (aC (aa (dv 2) (aa (dv 3) ae))) (aC (aa (dv 3) (aa (dv 2) ae))))))),fun _ _ M Q h=>?_⟩;obtain⟨t,b,X,Y,ws,f,rfl,rfl,j,c,k⟩:=h;obtain⟨d,l,m⟩:=bE (ws:=ws) (k:=((f/2:Nat):Int)) () ();have g:(f:Int).fdiv 2=((f/2:Nat):Int):=by rw[Iw _ ⋯];omega
 have i:(f:Int).fmod 2=((f%2:Nat):Int):=by rw[Int.fmod_eq_emod_of_nonneg _ ⋯];omega
 have a:atI (ws.map (Kz t b X Y)) ((f:Int).fdiv 2)=KA (Kz t b X Y (LK ws ((f/2:Nat):Int))):=by rw[g];refine bj ?_;rw[K1]at d;rw[Ht,d];rfl
 refine⟨_,rfl,_,rfl,⟨⋯,bC ⋯⟩,_,a,?_⟩;refine⟨_,rfl,rfl,_,_,rfl,_,_,rfl,rfl,?_⟩;refine⟨_,rfl,(show(2:Int)≠0 by decide),_,rfl,?_⟩;dsimp only;rw[i];refine bD (fun h=>?_) (fun h=>?_)
 ·have h:f%2=0:=by have:((f%2:Nat):Int)=0:=by simpa using h
                   omega
  refine⟨_,rfl,_,rfl,LB rfl,LL ?_⟩;unfold fw at k;rw[KI h]at k;exact k
 ·have h:¬f%2=0:=fun z=>by rw[z]at h;simp at h
  refine⟨_,rfl,_,rfl,LB rfl,LL ?_⟩;unfold fw at k;rw[KH h]at k;exact k
theorem cH:Kv ["plot","leaving","face"] ["plot"] (ao eB):=by walk_at "sc"
def Ow(t b X Y:Int)(p:Vc):LV:=((Ke t b X 1 p.1).num,((Ke t b X 1 p.1).den:Int),(Ke t b Y 1 p.2).num,((Ke t b Y 1 p.2).den:Int))
theorem sN{t b X Y:Int}(a:0<t)(c:0<b){p q:Vc}(h:Ow t b X Y p=Ow t b X Y q):p=q:=by unfold Ow at h;injection h with h1 h;injection h with d h;injection h with e f;have e1:Ke t b X 1 p.1=Ke t b X 1 q.1:=Rat.ext h1 (by exact_mod_cast d);have e2:Ke t b Y 1 p.2=Ke t b Y 1 q.2:=Rat.ext e (by exact_mod_cast f);have g:=(Kl a c ⋯ ⋯).mp e1;have i:=(Kl a c ⋯ ⋯).mp e2;exact Prod.ext () ()
def MJ(ws:List Wl)(i:Nat)(p:Vc):List Int:=((HX i).filter fun g=>decide (fa ws g=p)).map fun g:Nat=>(g:Int)
theorem oJ(ws:List Wl)(i:Nat)(p:Vc):MJ ws (i+1) p=MJ ws i p++(if fa ws i=p then[(i:Int)]else[]):=by
 unfold MJ;rw[JK,List.filter_append,HR];by_cases h:fa ws i=p
 ·simp[h]
 ·simp[h]
theorem An(ws:List Wl)(i:Nat)(p:Vc):(MJ ws i p).length<=i:=by unfold MJ;rw[Hn];have:=II (fun g=>decide (fa ws g=p)) (HX i);simpa using this
theorem xn{kvs:Ly}{k:LV}(d:D)(h:c8 kvs k=KC)(j:LV):c8 (putD kvs k d) j=if j=k then KA d else c8 kvs j:=by
 have a:(kvs.any fun x=>decide (x.1=k))=KG:=by unfold c8 at h;rw[Option.map_eq_none_iff,List.find?_eq_none]at h;rw[List.any_eq_false];exact h
 unfold putD;rw[KH (by rw[a];decide)];unfold c8 at *;rw[List.find?_append];by_cases e:j=k
 ·subst e;rw[KI rfl];rw[Option.map_eq_none_iff]at h;rw[h];simp
 ·rw[KH e];have:¬k=j:=fun z=>e z.symm;cases kvs.find? fun x=>decide (x.1=j)<;>simp[this]
structure Pr(t b X Y:Int)(ws:List Wl)(i:Nat)(M M':MH)(ld:Addr)(kvs:Ly)(L:Vc->Addr):Prop where
 d:M' ld=KA (MV kvs)
 some:∀p,MJ ws i p≠[]->c8 kvs (Ow t b X Y p)=.some (.ref (L p))/\M' (L p)=.some (.lst ((MJ ws i p).map D.int))/\L p≠ld/\M (L p)=KC
 none:∀p,MJ ws i p=[]->c8 kvs (Ow t b X Y p)=.none
 inj:∀p q,MJ ws i p≠[]->MJ ws i q≠[]->L p=L q->p=q
inductive Lw(u:D)(M:MH)(Q:DK):Prop
 |mk (t b X Y:Int) (ws:List Wl) (_:u=.tup (ws.map (Kz t b X Y))) (_:Lc t b X Y) (_:ws.length<=40) (_:∀(M':MH) (ld:Addr) (kvs:Ly) (L:Vc->Addr),SD.Sub M M'->Pr t b X Y ws (2*ws.length) M M' ld kvs L->Q (.ref ld) M')
theorem iE(T:Tx K mg):Cal P w K mg base 2 "faces_by_start" (Nh Lw):=by
 refine fv (k:=1) T.f_faces_by_start cH fun f cdv A outer s H E hr=>⟨_,(ag (az 1 cH.nd wX) (ag (g8 HP rfl rfl T.b_range (aa (au aF af (aG bP rfl T.b_len bR (aa (dv 0) ae))) ae) (av 2 cH.nd) (ak (cI (bJ (AM (nC hr) (dv 1) (aa (aw (aj (bN T).m hr (aa (dv 0) (aa (dv 2) ae))) af) (aa (bw ae) ae))) (aa (dv 2) ae))))) (ak (ay (dv 1))))),fun _ M Q h=>?_⟩;obtain⟨t,b,X,Y,ws,rfl,S,a0,k⟩:=h;have R:(ws.map (Kz t b X Y)).length=ws.length:=by simp
 refine fun ld J=>?_;refine⟨_,rfl,aL (bC ⋯),2*ws.length,(by rw[R];simp),(),?_⟩;refine⟨fun i δ l=>PR fun(kvs:Ly) (L:Vc->Addr) (U:Option D)=>Vo (δ=[KA (.tup (ws.map (Kz t b X Y))),KA (.ref ld),U]) (SD.Sub M l) (kvs.length<=i) (Pr t b X Y ws i M l ld kvs L),?_,?_,?_⟩
 ·exact⟨[],fun _=>0,_,rfl,.new J .refl,Hq _,ai,fun p h=>absurd rfl h,fun p _=>rfl,fun p q h=>absurd rfl h⟩
 ·rintro i δ l hi ⟨kvs,L,U,rfl,N,hk,V⟩;have W:∀{q:Addr} {o},l q=KC->(ar l q o) ld=KA (MV kvs):=fun u=>by rw[aq (aA V.d u)];exact V.d
  have c:∀p,fa ws i≠p->MJ ws (i+1) p=MJ ws i p:=fun p h=>by rw[oJ,KH h,IX]
  have r:MJ ws (i+1) (fa ws i)=MJ ws i (fa ws i)++[(i:Int)]:=by rw[oJ,KI rfl]
  have ll:=An ws i (fa ws i);refine⟨_,rfl,ld,kvs,rfl,V.d,_,rfl,_,rfl,t,b,X,Y,ws,i,rfl,rfl,hi,(),_,rfl,LB rfl,fun q u=>?_⟩;refine⟨kvs,Ow t b X Y (fa ws i),.ref q,rfl,W u,(),fun d' hd=>?_,fun hn=>?_⟩
  ·have ne:MJ ws i (fa ws i)≠[]:=fun z=>by rw[V.none _ z]at hd;cases hd
   obtain⟨v1,v2,v3,v4⟩:=V.some _ ne;rw[v1]at hd;cases hd;have Z:∀{a o},l a=KA o->(ar l q (.lst [])) a=KA o:=fun h=>by rw[aq (aA h u)];exact h
   refine⟨L (fa ws i),_,rfl,Z v2,_,rfl,_,_,rfl,Z v2,(by rw[Hn];omega),?_⟩;have C:∀{a o G},l a=KA o->a≠L (fa ws i)->(ar (ar l q (.lst [])) (L (fa ws i)) G) a=KA o:=fun h n=>by rw[aq n];exact Z h
   refine⟨kvs,L,_,rfl,fun a o h=>C (N _ _ h) (fun z=>by subst z;rw[v4]at h;cases h),(),C V.d v3.symm,fun p h=>?_,fun p h=>?_,fun p v h F e=>?_⟩
   ·by_cases z:fa ws i=p
    ·subst z;refine⟨v1,?_,v3,v4⟩;rw[ai,r,HR];rfl
    ·rw[c p z]at h ⊢;obtain⟨u1,u2,O,u4⟩:=V.some p h;exact⟨u1,C u2 (fun y=>z (V.inj _ _ ne h y.symm)),O,u4⟩
   ·by_cases z:fa ws i=p
    ·subst z;rw[r]at h;simp at h
    ·rw[c p z]at h;exact V.none p h
   ·have g:∀p,MJ ws (i+1) p≠[]->MJ ws i p≠[]:=fun p h=>by
     by_cases z:fa ws i=p
     ·subst z;exact ne
     ·rw[c p z]at h;exact h
    exact V.inj p v (g p h) (g v F) e
  ·have em:MJ ws i (fa ws i)=[]:=by
    cases z:MJ ws i (fa ws i)with
    |nil=>rfl
    |cons x xs=>
     have:=(V.some _ (by rw[z];simp)).1
     rw[hn]at this;cases this
   have B:q≠ld:=(aA V.d u).symm;have cq:(ar (ar l q (.lst [])) ld (MV (putD kvs (Ow t b X Y (fa ws i)) (.ref q)))) q=KA (.lst []):=by rw[aq B,ai]
   refine⟨q,[],rfl,cq,_,rfl,_,_,rfl,cq,⋯,?_⟩;have C:∀{a o D' G},l a=KA o->a≠ld->(ar (ar (ar l q (.lst [])) ld D') q G) a=KA o:=fun h n=>by rw[aq (aA h u),aq n,aq (aA h u)];exact h
   have mq:M q=KC:=by
    cases z:M q with
    |none=>rfl
    |some o=>rw[N _ _ z]at u;cases u
   have vn:=fun j=>xn (.ref q) hn j;refine⟨putD kvs (Ow t b X Y (fa ws i)) (.ref q),fun p=>if fa ws i=p then q else L p,_,rfl,fun a o h=>C (N _ _ h) (fun z=>by subst z;rw[J]at h;cases h),?_,(by rw[aq B.symm,ai]),fun p h=>?_,fun p h=>?_,fun p v h F e=>?_⟩
   ·have:(putD kvs (Ow t b X Y (fa ws i)) (.ref q)).length<=kvs.length+1:=by
     unfold putD;split
     ·rw[Hn];omega
     ·simp
    omega
   ·by_cases z:fa ws i=p
    ·subst z;refine⟨by rw[vn,KI rfl,KI rfl],?_,by rw[KI rfl];exact B,by rw[KI rfl];exact mq⟩;rw[KI rfl,ai,r,em];rfl
    ·rw[c p z]at h ⊢;obtain⟨u1,u2,O,u4⟩:=V.some p h;rw[KH z];exact⟨by rw[vn,KH (fun y=>z (sN S.t0 S.b0 y).symm)];exact u1,C u2 O,O,u4⟩
   ·by_cases z:fa ws i=p
    ·subst z;rw[r]at h;simp at h
    ·rw[c p z]at h;rw[vn,KH (fun y=>z (sN S.t0 S.b0 y).symm)];exact V.none p h
   ·by_cases z:fa ws i=p<;>by_cases I:fa ws i=v
    ·rw[<-z,<-I]
    ·rw[c v I]at F;rw[KI z,KH I]at e;have:=(V.some v F).2.1;rw[<-e,u]at this;cases this
    ·rw[c p z]at h;rw[KH z,KI I]at e;have:=(V.some p h).2.1;rw[e,u]at this;cases this
    ·rw[c p z]at h;rw[c v I]at F;rw[KH z,KH I]at e;exact V.inj p v h F e
 ·rintro δ l ⟨kvs,L,U,rfl,N,hk,V⟩;exact⟨_,rfl,⟨l,.refl,k l ld kvs L N V⟩⟩
theorem Dv:Kv ["one","other"] ["one","other"] (ao Bw):=by walk_at "sc"
inductive QC(x y:D)(M:MH)(Q:DK):Prop
 |mk (t1 b1 t2 b2:Int) (_:x=.tup [.int t1,.int b1]) (_:y=.tup [.int t2,.int b2]) (_:Bd 1000000 t1) (_:Bd 1000000 b1) (_:Bd 1000000 t2) (_:Bd 1000000 b2) (_:Q (.tup [.int (t1*b2-t2*b1),.int (b1*b2)]) M)
theorem oP(T:Tx K mg):Cal P w K mg base 1 "gap" (L7 QC):=by refine aU (k:=0) T.f_gap Dv fun f cdv A outer s H E d=>⟨_,(ak (ay (aC (aa (au bf (au aF (aw (dv 0) af) (aw (dv 1) af)) (au aF (aw (dv 1) af) (aw (dv 0) af))) (aa (au aF (aw (dv 0) af) (aw (dv 1) af)) ae))))),fun _ _ M Q h=>?_⟩;obtain⟨t1,b1,e,g,rfl,rfl,h1,a,c,b,k⟩:=h;refine⟨_,rfl,_,rfl,_,rfl,_,rfl,cA h1 b,_,rfl,_,rfl,_,rfl,_,rfl,cA c a,trivial,?_⟩;exact⟨_,rfl,_,rfl,_,rfl,_,rfl,cA a b,LB rfl,LL k⟩
theorem c9:Kv ["wall","spot","a","b","c","d","x","y","across","up","along","high"] ["wall","spot"] (ao wN):=by walk_at "sc"
inductive PY(u v:D)(M:MH)(Q:DK):Prop
 |mk (n:Nat) (a b c d x y:Rat) (_:u=Kd a b c d) (_:v=Kn x y) (_:Kf n a) (_:Kf n b) (_:Kf n c) (_:Kf n d) (_:Kf n x) (_:Kf n y) (_:n<=20000) (_:∀t e:Int,0<e->Rat.divInt t e=Ki a b c d x y->Bd (8*n+3) t->Bd (8*n+3) e->Q (.tup [.int t,.int e]) M)
theorem C5(T:Tx K mg):Cal P w K mg base 2 "lean" (L7 PY):=by
 refine aU (k:=1) T.f_lean c9 fun f cdv A outer s H E o=>⟨_,(ag (br (dv 0) (aY rfl (ax (aY rfl (ax (av 2 c9.nd) (ax (av 3 c9.nd) aQ))) (ax (aY rfl (ax (av 4 c9.nd) (ax (av 5 c9.nd) aQ))) aQ)))) (ag (br (dv 1) (aY rfl (ax (av 6 c9.nd) (ax (av 7 c9.nd) aQ)))) (ag (fP 8 9 rfl c9.nd (aa (aj (oP T).m o (aa (dv 4) (aa (dv 2) ae))) (aa (aj (oP T).m o (aa (dv 5) (aa (dv 3) ae))) ae))) (ag (fP 10 11 rfl c9.nd (aa (aj (oP T).m o (aa (dv 6) (aa (dv 2) ae))) (aa (aj (oP T).m o (aa (dv 7) (aa (dv 3) ae))) ae))) (ak (ay (aj (oP T).m o (aa (aC (aa (au aF (aw (dv 8) af) (aw (dv 11) af)) (aa (au aF (aw (dv 8) af) (aw (dv 11) af)) ae))) (aa (aC (aa (au aF (aw (dv 9) af) (aw (dv 10) af)) (aa (au aF (aw (dv 9) af) (aw (dv 10) af)) ae))) ae))))))))),fun _ _ M Q h=>?_⟩;obtain⟨n,a,b,c,d,x,y,rfl,rfl,g,j,p,hd,t,u,G,k⟩:=h;have e:∀{m:Nat} {i:Int},Bd m i->m<=1000000->Bd 1000000 i:=fun z l=>z.mono l;have B:=p.pX g;have C:=hd.pX j;have D:=t.pX g;have F:=u.pX j;have e1:=p.2.mul g.2;have e2:=hd.2.mul j.2;have e3:=t.2.mul g.2;have e4:=u.2.mul j.2;refine⟨_,rfl,_,rfl,rfl,_,_,rfl,⟨_,rfl,rfl,_,_,rfl,_,_,rfl,rfl,?_⟩⟩;refine⟨_,_,rfl,⟨_,rfl,rfl,_,_,rfl,_,_,rfl,rfl,?_⟩⟩;refine⟨rfl,_,rfl,_,rfl,rfl,_,_,rfl,_,_,rfl,rfl,?_⟩;refine⟨_,rfl,_,rfl,_,_,_,_,rfl,rfl,e p.1 (),e p.2 (),e g.1 (),e g.2 (),?_⟩;refine⟨_,rfl,_,rfl,_,_,_,_,rfl,rfl,e hd.1 (),e hd.2 (),e j.1 (),e j.2 (),?_⟩;refine⟨_,_,rfl,?_⟩;refine⟨_,rfl,_,rfl,_,_,_,_,rfl,rfl,e t.1 (),e t.2 (),e g.1 (),e g.2 (),?_⟩;refine⟨_,rfl,_,rfl,_,_,_,_,rfl,rfl,e u.1 (),e u.2 (),e j.1 (),e j.2 (),?_⟩;refine⟨_,_,rfl,?_⟩;refine⟨_,rfl,_,rfl,_,rfl,_,rfl,cA (e B ()) (e F ()),?_⟩;refine⟨_,rfl,_,rfl,_,rfl,_,rfl,cA (e e1 ()) (e e4 ()),LB rfl,?_⟩;refine⟨_,rfl,_,rfl,_,rfl,_,rfl,cA (e C ()) (e D ()),?_⟩;refine⟨_,rfl,_,rfl,_,rfl,_,rfl,cA (e e2 ()) (e e3 ()),LB rfl,?_⟩;refine⟨_,_,_,_,rfl,rfl,e (B.mul F) (),e (e1.mul e4) (),e (C.mul D) (),e (e2.mul e3) (),?_⟩;have v:∀q r:Rat,0<(q.den:Int)*(r.den:Int):=fun q r=>Ib (Kq q) (Kq r);refine LL (k _ _ (Ib (Ib (v c a) (v y b)) (Ib (v d b) (v x a))) (Ma.zT a b c d x y) ?_ ?_)
 ·exact((((B.mul F).mul (e2.mul e3)).mono (():_<=8*n+2)).sub (((C.mul D).mul (e1.mul e4)).mono (():_<=8*n+2)))
 ·exact((e1.mul e4).mul (e2.mul e3)).mono ()
theorem ki:Kv ["wall","spot","top"] ["wall","spot"] (ao my):=by walk_at "sc"
inductive N4(u v:D)(M:MH)(Q:DK):Prop
 |mk (n:Nat) (a b c d x y:Rat) (_:u=Kd a b c d) (_:v=Kn x y) (_:Kf n a) (_:Kf n b) (_:Kf n c) (_:Kf n d) (_:Kf n x) (_:Kf n y) (_:n<=1900) (_:Q (.int (Kj (Ki a b c d x y))) M)
theorem dk(T:Tx K mg):Cal P w K mg base 3 "side_of" (L7 N4):=by
 refine aU (k:=2) T.f_side_of ki fun f cdv A outer s H E g=>⟨_,(ag (az 2 ki.nd (aw (aj (C5 T).m g (aa (dv 0) (aa (dv 1) ae))) af)) (ag (aW (aM (iY g.units) (dv 2) af) (ak (ay af)) aK) (ag (aW (aM (bZ g.units) (dv 2) af) (ak (ay (me f6 af))) aK) (ak (ay af))))),fun _ _ M Q h=>?_⟩;obtain⟨n,a,b,c,d,x,y,rfl,rfl,j,l,o,hd,p,q,u,k⟩:=h;refine⟨_,rfl,_,rfl,n,a,b,c,d,x,y,rfl,rfl,j,l,o,hd,p,q,(),fun t e r i _ _=>⟨_,rfl,?_⟩⟩;rw[<-i,Ma.yY r]at k;refine⟨_,rfl,trivial,_,rfl,?_⟩;refine bD (fun h=>?_) (fun h=>?_)
 ·rw[KI (by simpa using h)]at k;exact LL k
 rw[KH (by simpa using h)]at k;refine⟨_,rfl,trivial,_,rfl,?_⟩;refine bD (fun h=>?_) (fun h=>?_)
 ·rw[KI (by simpa using h)]at k;exact LL k
 ·rw[KH (by simpa using h)]at k;exact LL k
theorem cP:Kv ["corner","came_from","one","other","turn","other_turn"] ["corner","came_from","one","other"] (ao e7):=by walk_at "sc"
inductive MA(u v x y:D)(M:MH)(Q:DK):Prop
 |mk (t b X Y:Int) (c p q r:Vc) (_:u=Kn (Ke t b X 1 c.1) (Ke t b Y 1 c.2)) (_:v=Kn (Ke t b X 1 p.1) (Ke t b Y 1 p.2)) (_:x=Kn (Ke t b X 1 q.1) (Ke t b Y 1 q.2)) (_:y=Kn (Ke t b X 1 r.1) (Ke t b Y 1 r.2)) (_:Lc t b X Y) (_:(0<=c.1/\c.1<=20)) (_:(0<=c.2/\c.2<=20)) (_:(0<=p.1/\p.1<=20)) (_:(0<=p.2/\p.2<=20)) (_:(0<=q.1/\q.1<=20)) (_:(0<=q.2/\q.2<=20)) (_:(0<=r.1/\r.1<=20)) (_:(0<=r.2/\r.2<=20)) (_:Q (.bl (Na (p.1-c.1,p.2-c.2) (q.1-c.1,q.2-c.2) (r.1-c.1,r.2-c.2))) M)
theorem jC(T:Tx K mg):Cal P w K mg base 4 "is_met_sooner" (YS MA):=by
 refine EG (k:=3) T.f_is_met_sooner cP fun f cdv A outer s H E a=>⟨_,(ag (az 4 cP.nd (aj (dk T).m a (aa (aC (aa (dv 0) (aa (dv 1) ae))) (aa (dv 2) ae)))) (ag (az 5 cP.nd (aj (dk T).m a (aa (aC (aa (dv 0) (aa (dv 1) ae))) (aa (dv 3) ae)))) (ag (aW (aM (mE a.units) (dv 4) (dv 5)) (ak (ay (cJ (bZ a.units) (dv 4) (dv 5)))) aK) (ak (ay (cJ (cB a.units) (aj (dk T).m a (aa (aC (aa (dv 0) (aa (dv 2) ae))) (aa (dv 3) ae))) (me f6 af))))))),fun _ _ _ _ M Q h=>?_⟩;obtain⟨t,b,X,Y,c,p,q,r,rfl,rfl,rfl,rfl,S,d,g,i,j,l,n,o,u,k⟩:=h;have one:(0:Int)<1/\(1:Int)<=10^6:=⋯
 have v:∀{z:Int},(0<=z/\z<=20)->(-(10^6)<=z/\z<=10^6):=fun{z} h=>()
 have bx:∀{z:Int},(0<=z/\z<=20)->Kf 200 (Ke t b X 1 z):=fun{z} h=>S.bx one (v h);have by':∀{z:Int},(0<=z/\z<=20)->Kf 200 (Ke t b Y 1 z):=fun{z} h=>S.by' one (v h)
 have e1:=iD (X:=X) (Y:=Y) S.t0 S.b0 (c.1,c.2,p.1,p.2) q.1 q.2;have e2:=iD (X:=X) (Y:=Y) S.t0 S.b0 (c.1,c.2,p.1,p.2) r.1 r.2;have e3:=iD (X:=X) (Y:=Y) S.t0 S.b0 (c.1,c.2,q.1,q.2) r.1 r.2;have x:sd (c.1,c.2,p.1,p.2) q.1 q.2=vc (p.1-c.1,p.2-c.2) (q.1-c.1,q.2-c.2):=rfl;have y:sd (c.1,c.2,p.1,p.2) r.1 r.2=vc (p.1-c.1,p.2-c.2) (r.1-c.1,r.2-c.2):=rfl;have B:sd (c.1,c.2,q.1,q.2) r.1 r.2=vc (q.1-c.1,q.2-c.2) (r.1-c.1,r.2-c.2):=rfl;rw[x]at e1;rw[y]at e2;rw[B]at e3;dsimp only at e1 e2 e3;refine⟨_,rfl,_,rfl,LB rfl,_,rfl,200,_,_,_,_,_,_,rfl,rfl,bx d,by' g,bx i,by' j,bx l,by' n,⋯,?_⟩;rw[e1];refine⟨_,rfl,_,rfl,LB rfl,_,rfl,200,_,_,_,_,_,_,rfl,rfl,bx d,by' g,bx i,by' j,bx o,by' u,⋯,?_⟩;rw[e2];refine⟨_,rfl,_,rfl,_,rfl,?_⟩;unfold Na at k;refine bD (fun h=>?_) (fun h=>?_)
 ·have ne:¬HQ (vc (p.1-c.1,p.2-c.2) (q.1-c.1,q.2-c.2))=HQ (vc (p.1-c.1,p.2-c.2) (r.1-c.1,r.2-c.2)):=fun z=>by rw[z]at h;simp at h
  rw[KH ne]at k;exact⟨_,rfl,_,rfl,trivial,LL k⟩
 ·have eq:HQ (vc (p.1-c.1,p.2-c.2) (q.1-c.1,q.2-c.2))=HQ (vc (p.1-c.1,p.2-c.2) (r.1-c.1,r.2-c.2)):=by simpa using h
  rw[KI eq]at k;refine⟨_,rfl,_,rfl,LB rfl,_,rfl,200,_,_,_,_,_,_,rfl,rfl,bx d,by' g,bx l,by' n,bx o,by' u,⋯,?_⟩;rw[e3];have e:decide (vc (q.1-c.1,q.2-c.2) (r.1-c.1,r.2-c.2)<0)=decide (HQ (vc (q.1-c.1,q.2-c.2) (r.1-c.1,r.2-c.2))=-1):=by rw[KN];rcases gW (vc (q.1-c.1,q.2-c.2) (r.1-c.1,r.2-c.2))with z|z|z<;>omega
  rw[e]at k;exact LL k
theorem aZ:Kv ["plot","leaving","face","came_from","corner","back","best","rival"] ["plot","leaving","face"] (ao gr):=by walk_at "sc"
def dz(ws:List Wl)(f j:Nat):Option Nat:=((((HX (2*ws.length)).filter fun g=>decide (fa ws g=fb ws f)).take j).filter fun g=>decide (g≠fx f)).foldl (c7 (N0 ws f)) KC
theorem mQ(R:Nat->Nat->Bool):∀(l:List Nat) (o:Option Nat) {h:Nat},l.foldl (c7 R) o=KA h->h∈l\/o=KA h
 |[],o,h,e=>.inr e
 |g::l,o,h,e=>by
  rw[List.foldl_cons]at e
  rcases mQ R l _ e with z|z
  ·exact .inl (by simp[z])
  ·cases o with
   |none=>cases z;exact .inl (by simp)
   |some k=>
    unfold c7 at z
    dsimp only at z
    by_cases r:R g k=KD
    ·rw[KI r]at z;cases z;exact .inl (by simp)
    ·rw[KH r]at z;exact .inr z
theorem rM(ws:List Wl)(f j:Nat)(h:((HX (2*ws.length)).filter fun g=>decide (fa ws g=fb ws f)).length<=j):dz ws f j=(i8 ws f).foldl (c7 (N0 ws f)) KC:=by
 unfold dz i8 ym;rw[IP h,List.filter_filter]
 congr 1
 apply List.filter_congr;intro x _;rw[Bool.and_comm]
theorem qi{ws:List Wl}{f j h:Nat}(e:dz ws f j=KA h):h∈i8 ws f:=by
 unfold dz at e;rcases mQ _ _ _ e with z|z
 ·have a:=Ig.mp z;have b:=Ig.mp (List.mem_of_mem_take a.1);exact cE.mpr ⟨by simpa using b.1,by simpa using b.2,by simpa using a.2⟩
 ·cases z
inductive MS(u v w:D)(M:MH)(Q:DK):Prop
 |mk (t b X Y:Int) (ws:List Wl) (M0:MH) (ld:Addr) (kvs:Ly) (L:Vc->Addr) (f:Nat) (_:u=.tup (ws.map (Kz t b X Y))) (_:v=.ref ld) (_:w=.int (f:Int)) (_:Lc t b X Y) (_:ws.length<=40) (_:(∀w∈ws,LD w)) (_:f<2*ws.length) (_:Pr t b X Y ws (2*ws.length) M0 M ld kvs L) (_:Q (.int (bh ws f:Int)) M)
theorem gy(T:Tx K mg):Cal P w K mg base 5 "face_behind" (QG MS):=by
 refine oH (k:=4) T.f_face_behind aZ fun f cdv A outer s H E r=>⟨_,(ag (br (aj (bN T).m r (aa (dv 0) (aa (dv 2) ae))) (aY rfl (ax (av 3 aZ.nd) (ax (av 4 aZ.nd) aQ)))) (ag (az 5 aZ.nd (au Cr (dv 2) af)) (ag (az 6 aZ.nd (dv 5)) (ag (bA HP rfl (aS (oS (nC r) (dv 1) (dv 4) (by intro _ _;with_unfolding_all rfl))) (av 7 aZ.nd) (ak (aW (nZ (kS (aM (mE r.units) (dv 7) (dv 5)) (gY (nZ (xa (aM (cB r.units) (dv 6) (dv 5)) (qN (cM (aj (jC T).m r (aa (dv 4) (aa (dv 3) (aa (aw (aj (bN T).m r (aa (dv 0) (aa (dv 7) ae))) af) (aa (aw (aj (bN T).m r (aa (dv 0) (aa (dv 6) ae))) af) ae)))))))))))) (ak (az 6 aZ.nd (dv 7))) aK))) (ak (ay (dv 6))))))),fun _ _ _ M Q h=>?_⟩;obtain⟨t,b,X,Y,ws,M0,ld,kvs,L,f,rfl,rfl,rfl,S,J,Z,u,V,k⟩:=h;have exf:Builtin.bitXor (f:Int) 1=((fx f:Nat):Int):=C4 f ()
 have n:∀g:Nat,g<2*ws.length->((0<=(fa ws g).1/\(fa ws g).1<=20)/\(0<=(fa ws g).2/\(fa ws g).2<=20))/\((0<=(fb ws g).1/\(fb ws g).1<=20)/\(0<=(fb ws g).2/\(fb ws g).2<=20)):=fun g y=>by
  obtain⟨_,_,w3⟩:=bE (ws:=ws) (k:=((g/2:Nat):Int)) () ()
  have W:=Z _ w3
  unfold fa fb fw
  by_cases h:g%2=0
  ·rw[KI h];exact⟨⟨W.a,W.b⟩,W.c,W.d⟩
  ·rw[KH h];exact⟨⟨W.c,W.d⟩,W.a,W.b⟩
 have ne:MJ ws (2*ws.length) (fb ws f)≠[]:=by
  unfold MJ
  have:fx f∈(HX (2*ws.length)).filter fun g=>decide (fa ws g=fb ws f):=Ig.mpr ⟨JB.mpr (jU u),by simpa using kJ ws f⟩
  intro z
  rw[List.map_eq_nil_iff]at z
  rw[z]at this
  cases this
 obtain⟨v1,N,v3,v4⟩:=V.some _ ne;refine⟨_,rfl,_,rfl,t,b,X,Y,ws,f,rfl,rfl,u,(),?_⟩;refine⟨_,rfl,rfl,_,_,rfl,_,_,rfl,rfl,?_⟩;refine⟨_,rfl,trivial,?_⟩;dsimp only;rw[exf];refine⟨_,rfl,?_⟩;refine⟨_,rfl,_,rfl,ld,kvs,Ow t b X Y (fb ws f),_,rfl,rfl,V.d,v1,(MJ ws (2*ws.length) (fb ws f)).map D.int,N,?_⟩;refine⟨fun j δ B=>B=M/\∃F,δ=[KA (.tup (ws.map (Kz t b X Y))),KA (.ref ld),KA (.int (f:Int)),KA (Kn (Ke t b X 1 (fw ws f).1) (Ke t b Y 1 (fw ws f).2.1)),KA (Kn (Ke t b X 1 (fw ws f).2.2.1) (Ke t b Y 1 (fw ws f).2.2.2)),KA (.int ((fx f:Nat):Int)),KA (.int (((dz ws f j).getD (fx f):Nat):Int)),F],⟨rfl,_,rfl⟩,fun j δ B _ z=>by obtain⟨rfl,_⟩:=z;exact N,?_,?_⟩
 ·rintro j d δ B hj hd ⟨rfl,F,rfl⟩;have hd:((((HX (2*ws.length)).filter fun g=>decide (fa ws g=fb ws f)).map fun g:Nat=>(g:Int)).map D.int)[j]?=KA d:=hd;rw[Ht,Ht]at hd;cases C:((HX (2*ws.length)).filter fun g=>decide (fa ws g=fb ws f))[j]? with
  |none=>rw[C]at hd;cases hd
  |some g=>
   rw[C]at hd
   cases hd
   have v:=Ig.mp (HE C)
   have y:g<2*ws.length:=by simpa using v.1
   have G:fa ws g=fb ws f:=by simpa using v.2
   have nx:dz ws f (j+1)=if g=fx f then dz ws f j else c7 (N0 ws f) (dz ws f j) g:=by
    unfold dz;rw[J3,C,Option.toList_some,List.filter_append,List.foldl_append];by_cases z:g=fx f
    ·simp[z]
    ·simp[z]
   have p:∀h,dz ws f j=KA h->h∈i8 ws f:=fun h e=>qi e
   generalize dz ws f j=o at nx p ⊢
   by_cases z:g=fx f
   ·(try dsimp only[SD.fg,SD.cZ,SD.aN,SD.fJ,SD.eW,SD.cX,SD.dw,SD.tBD,SD.fH,SD.EndsD.nxt,SD.EndsD.lp])
    refine vG KG KG (fun K l=>⟨_,rfl,_,rfl,_,rfl,?_⟩) (fun q=>absurd q ⋯) (lY rfl ⟨rfl,KA (.int (g:Int)),?_⟩)
    ·rw[show(!decide ((g:Int)=((fx f:Nat):Int)))=KG by rw[z];simp];exact l
    ·rw[nx,KI z];rfl
   ·rw[KH z]at nx
    have O:(!decide ((g:Int)=((fx f:Nat):Int)))=KD:=by
     have:¬((g:Int)=((fx f:Nat):Int)):=fun q=>z ()
     rw[KJ this];rfl
    cases o with
    |none=>
     (try dsimp only[SD.fg,SD.cZ,SD.aN,SD.fJ,SD.eW,SD.cX,SD.dw,SD.tBD,SD.fH,SD.EndsD.nxt,SD.EndsD.lp])
     refine vG KD KD (fun K l=>⟨_,rfl,_,rfl,_,rfl,by rw[O];exact l⟩) (fun _ K l=>WI KD KD (fun R i=>⟨_,rfl,_,rfl,_,rfl,?_⟩) (fun q=>absurd q ⋯) l) (mY rfl ⟨_,rfl,rfl,KA (.int (g:Int)),?_⟩)
     ·rw[show decide ((((KC:Option Nat).getD (fx f):Nat):Int)=((fx f:Nat):Int))=KD by simp];exact i
     ·rw[nx];rfl
    |some h=>
     have x:=cE.mp (p h rfl)
     have d1:fd ws (fx f)=((fa ws f).1-(fb ws f).1,(fa ws f).2-(fb ws f).2):=by unfold fd fa fb;rw[BA];rfl
     have U:∀g,fa ws g=fb ws f->fd ws g=((fb ws g).1-(fb ws f).1,(fb ws g).2-(fb ws f).2):=fun g e=>by rw[<-e];rfl
     have es:N0 ws f g h=Na ((fa ws f).1-(fb ws f).1,(fa ws f).2-(fb ws f).2) ((fb ws g).1-(fb ws f).1,(fb ws g).2-(fb ws f).2) ((fb ws h).1-(fb ws f).1,(fb ws h).2-(fb ws f).2):=by unfold N0;rw[d1,U g G,U h x.2.1]
     have I:decide ((((KA h).getD (fx f):Nat):Int)=((fx f:Nat):Int))=KG:=KJ (fun q=>x.2.2 (by have q':((h:Nat):Int)=((fx f:Nat):Int):=q;omega))
     (try dsimp only[SD.fg,SD.cZ,SD.aN,SD.fJ,SD.eW,SD.cX,SD.dw,SD.tBD,SD.fH,SD.EndsD.nxt,SD.EndsD.lp])
     refine vG KD (KG||N0 ws f g h) (fun K l=>⟨_,rfl,_,rfl,_,rfl,by rw[O];exact l⟩) (fun _ K l=>WI KG (N0 ws f g h) (fun R i=>⟨_,rfl,_,rfl,_,rfl,by rw[I];exact i⟩) (fun _ R i=>?_) l) ?_
     ·refine⟨_,rfl,_,rfl,_,rfl,_,rfl,t,b,X,Y,ws,g,rfl,rfl,y,(),_,rfl,_,rfl,_,rfl,t,b,X,Y,ws,h,rfl,rfl,x.1,(),_,rfl,t,b,X,Y,fb ws f,fa ws f,fb ws g,fb ws h,rfl,rfl,rfl,rfl,S,(n f u).2.1,(n f u).2.2,(n f u).1.1,(n f u).1.2,(n g y).2.1,(n g y).2.2,(n h x.1).2.1,(n h x.1).2.2,_,rfl,?_⟩;rw[<-es];exact i
     ·refine bD (fun q=>?_) (fun q=>?_)
      ·refine⟨_,rfl,rfl,KA (.int (g:Int)),?_⟩;have q:N0 ws f g h=KD:=by simpa using q
       have e:c7 (N0 ws f) (KA h) g=KA g:=by unfold c7;simp[q]
       rw[nx,e];rfl
      ·refine⟨rfl,KA (.int (g:Int)),?_⟩;have q:¬N0 ws f g h=KD:=by simpa using q
       have e:c7 (N0 ws f) (KA h) g=KA h:=by unfold c7;simp[q]
       rw[nx,e];rfl
 ·rintro δ B ⟨rfl,F,rfl⟩;have e:=rM ws f ((MJ ws (2*ws.length) (fb ws f)).map D.int).length (by simp[MJ]);dsimp only;rw[e];exact⟨_,rfl,LL k⟩
theorem dg:Kv ["plot","leaving","face","ring","at"] ["plot","leaving","face"] (ao jo):=by walk_at "sc"
theorem sY{t b X Y:Int}{ws:List Wl}{i:Nat}{f M:MH}{ld:Addr}{kvs:Ly}{L:Vc->Addr}{p:Addr}{o:MO}(V:Pr t b X Y ws i f M ld kvs L)(j:M p=KC):Pr t b X Y ws i f (ar M p o) ld kvs L:=⟨by rw[aq (aA V.d j)];exact V.d,fun q h=>let⟨a,c,e,g⟩:=V.some q h;⟨a,by rw[aq (aA c j)];exact c,e,g⟩,V.none,V.inj⟩
inductive Ml(u v w:D)(M:MH)(Q:DK):Prop
 |mk (t b X Y:Int) (ws:List Wl) (M0:MH) (ld:Addr) (kvs:Ly) (L:Vc->Addr) (f:Nat) (_:u=.tup (ws.map (Kz t b X Y))) (_:v=.ref ld) (_:w=.int (f:Int)) (_:Lc t b X Y) (_:ws.length<=40) (_:(∀w∈ws,LD w)) (_:PF ws) (_:f<2*ws.length) (_:Pr t b X Y ws (2*ws.length) M0 M ld kvs L) (_:∀(p:Addr) (kk:Nat),M p=KC->NR ws f kk->bh ws (MK ws f kk)=f->Q (.ref p) (ar M p (.lst ((rn ws f kk).map fun g:Nat=>D.int (g:Int)))))
theorem oA(T:Tx K mg):Cal P w K mg base 6 "ring_from" (QG Ml):=by
 refine oH (k:=5) T.f_ring_from dg fun f cdv A outer s H E n=>⟨_,(ag (az 3 dg.nd (bw (aa (dv 2) ae))) (ag (az 4 dg.nd (aj (gy T).m n (aa (dv 0) (aa (dv 1) (aa (dv 2) ae))))) (ag (ie HP (aM (mE n.units) (dv 4) (dv 2)) (ag (cI (bJ (dv 3) (aa (dv 4) ae))) (ak (az 4 dg.nd (aj (gy T).m n (aa (dv 0) (aa (dv 1) (aa (dv 4) ae)))))))) (ak (ay (dv 3)))))),fun _ _ _ M Q h=>?_⟩;obtain⟨t,b,X,Y,ws,r,ld,kvs,L,f,rfl,rfl,rfl,S,c,d,hF,i,V,k⟩:=h;refine⟨_,rfl,LB rfl,fun p o=>?_⟩;refine⟨_,rfl,_,rfl,_,rfl,t,b,X,Y,ws,r,ld,kvs,L,f,rfl,rfl,rfl,S,c,d,i,sY V o,?_⟩;refine⟨fun m δ j=>∃a,Vo (δ=[KA (.tup (ws.map (Kz t b X Y))),KA (.ref ld),KA (.int (f:Int)),KA (.ref p),KA (.int ((MK ws f (a+1):Nat):Int))]) (j=ar M p (.lst ((rn ws f a).map fun g:Nat=>D.int (g:Int)))) (NR ws f a) (m=2*ws.length-a),⟨_,0,rfl,rfl,Ap ws f,rfl⟩,?_⟩;rintro m δ j ⟨a,rfl,rfl,q,rfl⟩;have v:=so d hF i q;refine⟨_,rfl,_,rfl,_,rfl,?_⟩;refine bD (fun h=>?_) (fun h=>?_)
 ·have ne:bh ws (MK ws f a)≠f:=fun z=>by
   have:MK ws f (a+1)=f:=z
   rw[this]at h;simp at h
  have l:=Ax d hF i q ne;have u:=so d hF i l;refine⟨_,rfl,p,_,rfl,ai,_,rfl,_,_,rfl,ai,(by rw[Hn,iL];omega),?_⟩;have e:ar (ar M p (.lst ((rn ws f a).map fun g:Nat=>D.int (g:Int)))) p (.lst (((rn ws f a).map fun g:Nat=>D.int (g:Int))++[.int ((MK ws f (a+1):Nat):Int)]))=ar M p (.lst ((rn ws f (a+1)).map fun g:Nat=>D.int (g:Int))):=by rw[bH,tO,HR];rfl
  rw[e];refine⟨_,rfl,_,rfl,_,rfl,t,b,X,Y,ws,r,ld,kvs,L,MK ws f (a+1),rfl,rfl,rfl,S,c,d,fu d hF i (a+1),sY V o,?_⟩;exact⟨2*ws.length-(a+1),(),a+1,rfl,rfl,l,rfl⟩
 ·have eq:bh ws (MK ws f a)=f:=by
   have:((MK ws f (a+1):Nat):Int)=(f:Int):=by simpa using h
   have e:MK ws f (a+1)=bh ws (MK ws f a):=rfl
   omega
  exact⟨_,rfl,⟨_,.refl,k p a o q eq⟩⟩
theorem bS:Kv ["plot","leaving","rings","gone_along","face","ring","part"] ["plot"] (ao k6):=by walk_at "sc"
theorem zd{t b X Y:Int}{ws:List Wl}{i:Nat}{f M j:MH}{ld:Addr}{kvs:Ly}{L:Vc->Addr}(V:Pr t b X Y ws i f M ld kvs L)(s:SD.Sub M j):Pr t b X Y ws i f j ld kvs L:=⟨s _ _ V.d,fun q h=>let⟨a,c,e,g⟩:=V.some q h;⟨a,s _ _ c,e,g⟩,V.none,V.inj⟩
theorem kA{M a:MH}(s:SD.Sub M a){p:Addr}(h:a p=KC):M p=KC:=by
 cases z:M p with
 |none=>rfl
 |some o=>rw[s _ _ z]at h;cases h
inductive NH(u:D)(M:MH)(Q:DK):Prop
 |mk (t b X Y:Int) (ws:List Wl) (_:u=.tup (ws.map (Kz t b X Y))) (_:Lc t b X Y) (_:ws.length<=40) (_:(∀w∈ws,LD w)) (_:PF ws) (_:∀(M':MH) (lr:Addr) (ps:List Addr) (rs:List (List Nat)),SD.Sub M M'->M lr=KC->M' lr=KA (.lst (ps.map D.ref))->ND ws (2*ws.length) rs->RL M' ps rs->(∀p∈ps,p≠lr/\M p=KC)->Q (.ref lr) M')
theorem rC(T:Tx K mg):Cal P w K mg base 7 "rings_of" (Nh NH):=by
 refine fv (k:=6) T.f_rings_of bS fun f cdv A outer s H E C=>⟨_,(ag (az 1 bS.nd (aj (iE T).m C (aa (dv 0) ae))) (ag (az 2 bS.nd (bw ae)) (ag (az 3 bS.nd xu) (ag (g8 HP rfl rfl T.b_range (aa (au aF af (aG bP rfl T.b_len bR (aa (dv 0) ae))) ae) (av 4 bS.nd) (ak (aW (qK (nC C) (dv 4) (dv 3)) (ag (az 5 bS.nd (aj (oA T).m C (aa (dv 0) (aa (dv 1) (aa (dv 4) ae))))) (ag (cI (bJ (dv 2) (aa (dv 5) ae))) (ak (bA HP rfl (aS (dv 5)) (av 6 bS.nd) (ak (v8 (nC C) (dv 3) (dv 6) jt)))))) aK))) (ak (ay (dv 2))))))),fun _ M Q h=>?_⟩;obtain⟨t,b,X,Y,ws,rfl,S,W,hU,hF,k⟩:=h;have g0:(ws.map (Kz t b X Y)).length=ws.length:=by simp
 refine⟨_,rfl,t,b,X,Y,ws,rfl,S,W,fun M1 ld kvs L Z V=>?_⟩;refine⟨LB rfl,fun l a0=>fun y I=>?_⟩;have J:y≠l:=fun z=>by subst z;rw[ai]at I;cases I
 have c0:M1 y=KC:=by have h:=I;rw[aq J]at h;exact h
 refine⟨_,rfl,aL (bC ⋯),2*ws.length,(by rw[g0];simp),(),?_⟩;refine⟨fun i δ r=>YG fun(ps:List Addr) (x:List (List Nat)) (n:Nat) (Sg:Int->Bool) (o4 o5 o6:Option D)=>Vp (δ=[KA (.tup (ws.map (Kz t b X Y))),KA (.ref ld),KA (.ref l),KA (.ref y),o4,o5,o6]) (SD.Sub M1 r) (r l=KA (.lst (ps.map D.ref))) (r y=KA (Oy n Sg)) (ps.length<=i) (n<=i*80) (∀g:Nat,Sg (g:Int)=decide (g∈x.flatten)) (ND ws i x) (RL r ps x) (∀p∈ps,p≠l/\p≠y/\M1 p=KC),?_,?_,?_⟩
 ·exact⟨[],[],0,fun _=>KG,_,_,_,rfl,.new I (.new a0 .refl),(by rw[aq J.symm,ai];rfl),ai,Hq _,Jl _,fun g=>by simp,rfl,.nil,fun p N=>by cases N⟩
 ·rintro i δ r hi ⟨ps,x,n,Sg,o4,o5,o6,rfl,sb,C,hg,h0,i0,hS,R,O,u⟩;(try dsimp only[SD.aN])
  refine P8 fun B hB=>?_;refine⟨_,rfl,_,rfl,(i:Int),y,n,Sg,rfl,rfl,hg,_,rfl,?_⟩;rw[hS];refine bD (fun h=>?_) (fun h=>hB _ _ ⟨ps,x,n,Sg,_,_,_,rfl,sb,C,hg,(),(),hS,⟨x,R,.inl ⟨by simpa using h,rfl⟩⟩,O,u⟩);have j0:i∉x.flatten:=by simpa using h
  refine⟨_,rfl,_,rfl,_,rfl,t,b,X,Y,ws,M,ld,kvs,L,i,rfl,rfl,rfl,S,W,hU,hF,hi,zd V sb,fun p j N nr eq=>?_⟩;have kb:=so hU hF hi nr;have c1:∀{a o G},r a=KA o->(ar r p G) a=KA o:=fun h=>by rw[aq (aA h N)];exact h
  have d0:p≠l:=(aA C N).symm;have b0:p≠y:=(aA hg N).symm;refine⟨_,rfl,l,_,rfl,c1 C,_,rfl,_,_,rfl,c1 C,(by simp;omega),?_⟩;have c2:∀{a o G D'},r a=KA o->a≠l->(ar (ar r p G) l D') a=KA o:=fun h n=>by rw[aq n];exact c1 h
  have e0:=c2 (G:=.lst ((rn ws i j).map fun g:Nat=>D.int (g:Int))) (D':=.lst (ps.map D.ref++[.ref p])) hg J;have U:(ar (ar r p (.lst ((rn ws i j).map fun g:Nat=>D.int (g:Int)))) l (.lst (ps.map D.ref++[.ref p]))) p=KA (.lst ((rn ws i j).map fun g:Nat=>D.int (g:Int))):=by rw[aq d0,ai]
  have f0:(ar (ar r p (.lst ((rn ws i j).map fun g:Nat=>D.int (g:Int)))) l (.lst (ps.map D.ref++[.ref p]))) l=KA (.lst (ps.map D.ref++[.ref p])):=ai;have c3:∀{a o},r a=KA o->a≠l->(ar (ar r p (.lst ((rn ws i j).map fun g:Nat=>D.int (g:Int)))) l (.lst (ps.map D.ref++[.ref p]))) a=KA o:=fun h n=>c2 h n;clear c2;generalize ar (ar r p (.lst ((rn ws i j).map fun g:Nat=>D.int (g:Int)))) l (.lst (ps.map D.ref++[.ref p]))=N2 at e0 U f0 c3 ⊢;refine⟨_,rfl,(rn ws i j).map fun g:Nat=>D.int (g:Int),U,?_⟩;refine⟨fun a δ v=>PR fun(F:Nat) (S':Int->Bool) (o6:Option D)=>YL (δ=[KA (.tup (ws.map (Kz t b X Y))),KA (.ref ld),KA (.ref l),KA (.ref y),KA (.int (i:Int)),KA (.ref p),o6]) (v y=KA (Oy F S')) (∀c,c≠y->v c=N2 c) (F<=n+a) (∀g:Nat,S' (g:Int)=(decide (g∈x.flatten)||decide (g∈(rn ws i j).take a))),⟨n,Sg,_,rfl,e0,fun _ _=>rfl,Hq _,fun g=>by rw[hS];simp⟩,fun a δ v _ z=>by obtain⟨_,_,_,_,_,z,_⟩:=z;show v p=_;rw[z p b0];exact U,?_,?_⟩
  ·rintro a d δ v ha hd ⟨F,S',o6,rfl,h1,h2,h3,h4⟩;have m0:a<j+1:=by have:a<((rn ws i j).map fun g:Nat=>D.int (g:Int)).length:=ha;simpa[iL]using this
   have hd:((rn ws i j).map fun g:Nat=>D.int (g:Int))[a]?=KA d:=hd;rw[Ht]at hd;cases eg:(rn ws i j)[a]? with
   |none=>rw[eg]at hd;cases hd
   |some g=>
    rw[eg]at hd
    cases hd
    refine⟨_,rfl,_,rfl,y,(g:Int),F,S',rfl,rfl,h1,(),?_⟩
    refine⟨F+1,_,_,rfl,ai,fun c hc=>by rw[aq hc];exact h2 c hc,(),fun g'=>?_⟩
    rw[h4,J3,eg]
    have e:decide (((g':Nat):Int)=((g:Nat):Int))=decide (g'=g):=by rw[KN];omega
    rw[e]
    simp only[HM,Option.toList_some,Jk,Bool.decide_or]
    cases decide (g'=g)<;>cases decide (g'∈x.flatten)<;>simp
  ·rintro δ v ⟨F,S',o6,rfl,h1,h2,h3,h4⟩;have h3:F<=n+(j+1):=by simpa[iL]using h3
   have h4:∀g:Nat,S' (g:Int)=(decide (g∈x.flatten)||decide (g∈(rn ws i j).take ((rn ws i j).map fun g:Nat=>D.int (g:Int)).length)):=h4;have et:(rn ws i j).take ((rn ws i j).map fun g:Nat=>D.int (g:Int)).length=rn ws i j:=IP (by simp);rw[et]at h4;have c4:∀{a o},r a=KA o->a≠l->a≠y->v a=KA o:=fun h n F=>by rw[h2 _ F];exact c3 h n
   refine hB _ _ ⟨ps++[p],x++[rn ws i j],F,S',_,_,_,rfl,fun a o h=>c4 (sb _ _ h) (fun z=>by subst z;rw[a0]at h;cases h) (fun z=>by subst z;rw[c0]at h;cases h),(by rw[h2 l J.symm,HR];exact f0),h1,by simp;omega,(),fun g=>?_,⟨x,R,.inr ⟨j0,_,⟨j,nr,eq,rfl⟩,rfl⟩⟩,?_,fun p' k0=>?_⟩
   ·rw[h4];simp only[List.flatten_append,HM,K2,List.flatten_nil,IX,Bool.decide_or]
   ·exact(O.mono fun q hq o e=>c4 e (u q hq).1 (u q hq).2.1).snoc (by rw[h2 p b0];exact U)
   ·rcases HM.mp k0 with z|z
    ·exact u p' z
    ·have:p'=p:=by simpa using z
     subst this;exact⟨d0,b0,kA sb N⟩
 ·rintro δ r ⟨ps,x,n,Sg,o4,o5,o6,rfl,sb,C,hg,h0,i0,hS,R,O,u⟩;exact⟨_,rfl,⟨r,.refl,k r l ps x (SD.Sub.trans Z sb) (kA Z a0) C R O fun p N=>⟨(u p N).1,kA Z (u p N).2.2⟩⟩⟩
theorem cY:Kv ["one","other"] ["one","other"] (ao dE):=by walk_at "sc"
inductive Li(x y:D)(M:MH)(Q:DK):Prop
 |mk (a b:Nat) (_:x=.int (a:Int)) (_:y=.int (b:Int)) (_:Q (.int ((JV a b:Nat):Int)) M)
theorem dF(T:Tx K mg):Cal P w K mg base 1 "greatest_divisor" (L7 Li):=by
 refine aU (k:=0) T.f_greatest_divisor cY fun f cdv A outer s H E i=>⟨_,(ag (ie HP (aM (mE i.units) (dv 1) af) (ak (fP 0 1 rfl cY.nd (aa (dv 1) (aa (au dY (dv 0) (dv 1)) ae))))) (ak (ay (dv 0)))),fun _ _ M Q h=>?_⟩;obtain⟨a,b,rfl,rfl,q⟩:=h;refine⟨fun m δ g=>g=M/\∃x y:Nat,δ=[KA (.int x),KA (.int y)]/\JV x y=JV a b/\m=y,⟨_,rfl,_,_,rfl,rfl,rfl⟩,?_⟩;rintro m δ g ⟨rfl,x,y,rfl,c,j⟩;refine⟨_,rfl,_,rfl,?_⟩;refine bD (fun h=>?_) (fun h=>?_)
 ·have d:(y:Int)≠0:=by simpa using h
  refine⟨_,rfl,_,rfl,_,rfl,d,_,_,rfl,?_⟩;have e:0<y:=()
  refine⟨x%y,by rw[j];exact Nat.mod_lt _ e,rfl,y,x%y,?_,?_,rfl⟩
  ·rw[<-Ma.sX];rfl
  ·rw[<-c,Nat.gcd_comm x y,Nat.gcd_rec y x,Nat.gcd_comm]
 ·have d:y=0:=by simpa using h
  subst d;rw[Nat.gcd_zero_right]at c;subst c;exact⟨_,rfl,LL q⟩
theorem bV:Kv ["parts","common","part"] ["parts"] (ao eZ):=by walk_at "sc"
inductive MB(u:D)(M:MH)(Q:DK):Prop
 |mk (p:Addr) (qs:List Rat) (b:Nat) (_:u=.ref p) (_:M p=KA (.lst (qs.map Kp))) (_:0<b) (_:b<=10^26) (_:(∀q∈qs,q.den ∣ b)) (_:∀c:Nat,0<c->c ∣ b->(∀q∈qs,q.den ∣ c)->Q (.int (c:Int)) M)
theorem eY(T:Tx K mg):Cal P w K mg base 2 "common_bottom" (Nh MB):=by
 refine fv (k:=1) T.f_common_bottom bV fun f cdv A outer s H E I=>⟨_,(ag (az 1 bV.nd af) (ag (bA HP rfl (aS (dv 0)) (av 2 bV.nd) (ak (az 1 bV.nd (au aF (au fD (dv 1) (aj (dF T).m I (aa (dv 1) (aa (aw (dv 2) af) ae)))) (aw (dv 2) af))))) (ak (ay (dv 1))))),fun _ M Q h=>?_⟩;obtain⟨p,qs,b,rfl,G,a,v,o,k⟩:=h;refine⟨_,rfl,qs.map Kp,G,?_⟩;refine⟨fun i δ r=>r=M/\QN fun(c:Nat) (x:Option D)=>Vo (δ=[KA (.ref p),KA (.int (c:Int)),x]) (0<c) (c ∣ b) (∀q∈qs.take i,q.den ∣ c),⟨rfl,1,_,rfl,⋯,Nat.one_dvd _,fun q o=>by simp at o⟩,fun i δ r _ z=>by obtain⟨rfl,_⟩:=z;exact G,?_,?_⟩
 ·rintro i d δ r O hd ⟨rfl,c,x,rfl,g,t,y⟩;have hd:(qs.map Kp)[i]?=KA d:=hd;rw[Ht]at hd;cases u:qs[i]? with
  |none=>rw[u]at hd;cases hd
  |some q=>
   rw[u]at hd
   cases hd
   have j:=HE u
   have g0:0<JV c q.den:=Nat.gcd_pos_of_pos_left _ g
   have J:c<=b:=Nat.le_of_dvd a t
   have L:JV c q.den<=c:=Nat.gcd_le_left _ g
   have B:∀{n:Nat},n<=10^26->Bd 100 (n:Int):=fun{n} h=>by show(n:Int).natAbs<2^100;omega
   have C:Bd 100 ((c:Int).fdiv ((JV c q.den:Nat):Int)):=(B (n:=c) ()).of_le (by rw[Iw _ ()];exact Int.natAbs_ediv_le_natAbs _ _)
   have N:(c:Int).fdiv ((JV c q.den:Nat):Int)*(q.den:Int)=((Nat.lcm c q.den:Nat):Int):=by
    rw[Iw _ (),<-Int.natCast_ediv,<-Int.natCast_mul]
    congr 1
    rw[Nat.lcm,Nat.mul_comm c q.den,Nat.mul_div_assoc _ (Nat.gcd_dvd_left c q.den),Nat.mul_comm]
   refine⟨_,rfl,_,rfl,_,rfl,_,rfl,c,q.den,rfl,rfl,⟨(),(B ()).mono ⋯⟩,_,rfl,_,rfl,cA (C.mono ⋯) ((B (IA (Nat.le_of_dvd a (o q j)) v)).mono ⋯),?_⟩
   dsimp only
   rw[N]
   refine⟨rfl,Nat.lcm c q.den,_,rfl,Nat.lcm_pos g q.den_pos,Nat.lcm_dvd t (o q j),fun F l=>?_⟩
   rw[J3,u]at l
   rcases HM.mp l with z|z
   ·exact Nat.dvd_trans (y F z) (Nat.dvd_lcm_left c q.den)
   ·have:F=q:=by simpa using z
    subst this;exact Nat.dvd_lcm_right c F.den
 ·rintro δ r ⟨rfl,c,x,rfl,g,t,y⟩;exact⟨_,rfl,LL (k c g t (by have e:qs.take (qs.map Kp).length=qs:=IP (by simp);rw[<-e];exact y))⟩
theorem oq:Kv ["part","bottom"] ["part","bottom"] (ao lF):=by walk_at "sc"
inductive NG(u v:D)(M:MH)(Q:DK):Prop
 |mk (q:Rat) (B:Int) (_:u=Kp q) (_:v=.int B) (_:Kf 200 q) (_:0<B) (_:B<=10^26) (_:Q (.int (q.num*B.fdiv (q.den:Int))) M)
theorem eE(T:Tx K mg):Cal P w K mg base 1 "top_over" (L7 NG):=by
 refine aU (k:=0) T.f_top_over oq fun f cdv A outer s H E c=>⟨_,(ak (ay (au aF (aw (dv 0) af) (au fD (dv 1) (aw (dv 0) af))))),fun _ _ M Q h=>?_⟩;obtain⟨q,B,rfl,rfl,a,h0,h1,k⟩:=h;have bB:Bd 100 B:=by show B.natAbs<2^100;omega
 have b:(B.fdiv (q.den:Int)).natAbs<=B.natAbs:=by rw[Iw _ ()];exact Int.natAbs_ediv_le_natAbs _ _
 exact⟨_,rfl,_,rfl,_,rfl,_,rfl,_,rfl,⟨Kr q,a.2.mono ⋯⟩,cA (a.1.mono ⋯) ((bB.of_le b).mono ⋯),LL k⟩
theorem aP:Kv ["plot","ring","ways","x_bottom","y_bottom","total","x","y","next_x","next_y"] ["plot","ring"] (ao gZ):=by walk_at "sc"
theorem mS{I:Oq}{js:List Nat}{m:MW}{te:TD}{δ:DS}{f:MH}{Q:DK}(a b g0 g1:Nat->D)(r:I.n<=1000)(hC:∀p c,f p=KC->I.C (ar f p (.lst c)))(l:∀i d,i<I.n->I.item i=KA d->d=.tup [a i,b i]) (hw:∀i M R,i<I.n->R ⟨2,fun j=>[a i,b i][j]?,fun M=>CF M (.tup [a i,b i]) [a i,b i]⟩ M->m (cδ [KA (.tup [a i,b i]),KC] js δ) M R) (h0:∀i M (K:DK),i<I.n->K (g0 i) M->te (cδ [KA (.tup [a i,b i]),KA (a i)] js δ) M K) (h1:∀i M (K:DK),i<I.n->K (g1 i) M->te (cδ [KA (.tup [a i,b i]),KA (b i)] js δ) M K) (s:∀p,f p=KC->Q (.ref p) (ar f p (.lst ((HX I.n).flatMap fun i=>[g0 i,g1 i])))):FY I js m te δ f Q:=by
 refine⟨r,fun p o=>⟨fun i c M=>c=(HX i).flatMap (fun i=>[g0 i,g1 i])/\M=ar f p (.lst c),⟨rfl,rfl⟩,?_,?_,?_⟩⟩
 ·rintro i c M _ ⟨_,rfl⟩;exact hC p c o
 ·rintro i c d M g hd ⟨rfl,rfl⟩;obtain rfl:=l i d g hd;refine hw i _ _ g ⟨LB rfl,fun j h M=>h=(HX i).flatMap (fun i=>[g0 i,g1 i])++[g0 i,g1 i].take j/\M=ar f p (.lst h),⟨by simp,rfl⟩,fun _ _ _ _ _=>rfl,?_,?_⟩
  ·rintro j h e M q k ⟨rfl,rfl⟩;have q:j<2:=q;have k:[a i,b i][j]?=KA e:=k;rcases(():j=0\/j=1)with rfl|rfl
   ·cases k;exact h0 i _ _ g ⟨_,.refl,ai,by simp,by rw[bH]⟩
   ·cases k;exact h1 i _ _ g ⟨_,.refl,ai,by simp,by rw[bH]⟩
  ·rintro h M ⟨rfl,rfl⟩;refine⟨?_,rfl⟩;rw[JK,List.flatMap_append];simp
 ·rintro c M ⟨rfl,rfl⟩;exact s p o
inductive MZ(u v:D)(M:MH)(Q:DK):Prop
 |mk (t b X Y:Int) (ws:List Wl) (p:Addr) (r:List Nat) (_:u=.tup (ws.map (Kz t b X Y))) (_:v=.ref p) (_:M p=KA (.lst (r.map fun g:Nat=>D.int (g:Int)))) (_:Lc t b X Y) (_:(∀w∈ws,LD w)) (_:ws.length<=40) (_:r.length<=80) (_:(∀g∈r,g<2*ws.length)) (_:∀tot B:Int,0<B->B<=10^52->Bd 1000 tot->(tot:Rat)=(r.map (Nj t b X Y ws)).sum*(B:Rat)->Q (.tup [.int tot,.int B]) M)
theorem gO(T:Tx K mg):Cal P w K mg base 3 "twice_area" (L7 MZ):=by
 refine aU (k:=2) T.f_twice_area aP fun f cdv A outer s H E V=>⟨_,(ag (eo 2 aP.nd (Kw.of (xs:=["face"]) (js:=[0]) rfl) rfl (aS (dv 1)) (fun _ _ _ _=>cu) (fun _ _ _ _=>(aj (bN T).m V (aa (dv 1) (aa (dv 0) ae))))) (ag (az 3 aP.nd (aj (eY T).m V (aa (wV (Kw.of (xs:=["way","corner"]) (js:=[]) rfl) rfl (aS (dv 2)) (fun _ _ _ _=>(aS (dv 0))) (fun _ _ _ _=>(aw (dv 1) af))) ae))) (ag (az 4 aP.nd (aj (eY T).m V (aa (wV (Kw.of (xs:=["way","corner"]) (js:=[]) rfl) rfl (aS (dv 2)) (fun _ _ _ _=>(aS (dv 0))) (fun _ _ _ _=>(aw (dv 1) af))) ae))) (ag (az 5 aP.nd af) (ag (bA HP rfl (aS (dv 2)) (aY rfl (ax (aY rfl (ax (av 6 aP.nd) (ax (av 7 aP.nd) aQ))) (ax (aY rfl (ax (av 8 aP.nd) (ax (av 9 aP.nd) aQ))) aQ))) (ag (vk 5 aP.nd CO (au aF (aj (eE T).m V (aa (dv 6) (aa (dv 3) ae))) (aj (eE T).m V (aa (dv 9) (aa (dv 4) ae))))) (ak (vk 5 aP.nd CV (au aF (aj (eE T).m V (aa (dv 8) (aa (dv 3) ae))) (aj (eE T).m V (aa (dv 7) (aa (dv 4) ae)))))))) (ak (ay (aC (aa (dv 5) (aa (au aF (dv 3) (dv 4)) ae)))))))))),fun _ _ M Q h=>?_⟩;obtain⟨t,b,X,Y,ws,p,r,rfl,rfl,hp,S,hU,f1,g1,V,k⟩:=h;refine⟨_,rfl,_,hp,comp_map (fun j=>Kz t b X Y (fw ws ((r[j]?).getD 0))) (by show(r.map fun g:Nat=>D.int (g:Int)).length<=1000000;simp;omega) (fun q ys hq=>by show(ar M q _) p=_;rw[aq (aA hp hq)];exact hp) ?_ (fun O x0=>?_)⟩
 ·intro j d M6 hj hd sb;have hd:(r.map fun g:Nat=>D.int (g:Int))[j]?=KA d:=hd;rw[Ht]at hd;cases C:r[j]? with
  |none=>rw[C]at hd;cases hd
  |some g=>
   rw[C]at hd
   cases hd
   exact⟨_,rfl,fun K hK=>⟨_,rfl,_,rfl,t,b,X,Y,ws,g,rfl,rfl,V g (HE C),(),hK _ .refl⟩⟩
 have e1:(HX (r.map fun g:Nat=>D.int (g:Int)).length).map (fun j=>Kz t b X Y (fw ws ((r[j]?).getD 0)))=r.map fun g=>Kz t b X Y (fw ws g):=by
  rw[Hn];apply List.ext_getElem
  ·simp
  ·intro i h1 h2;simp at h1;simp[h1]
 dsimp only;rw[e1];have I:(ar M O (.lst (r.map fun g=>Kz t b X Y (fw ws g)))) O=KA (.lst (r.map fun g=>Kz t b X Y (fw ws g))):=ai;have m0:SD.Sub M (ar M O (.lst (r.map fun g=>Kz t b X Y (fw ws g)))):=.new x0 .refl;generalize ar M O (.lst (r.map fun g=>Kz t b X Y (fw ws g)))=M1 at I m0 ⊢;have e0:(r.map fun g=>Kz t b X Y (fw ws g)).length=r.length:=by simp
 refine⟨_,rfl,_,I,mS (fun i=>Kn (Ke t b X 1 (fa ws ((r[i]?).getD 0)).1) (Ke t b Y 1 (fa ws ((r[i]?).getD 0)).2)) (fun i=>Kn (Ke t b X 1 (fb ws ((r[i]?).getD 0)).1) (Ke t b Y 1 (fb ws ((r[i]?).getD 0)).2)) (fun i=>Kp (Ke t b X 1 (fa ws ((r[i]?).getD 0)).1)) (fun i=>Kp (Ke t b X 1 (fb ws ((r[i]?).getD 0)).1)) (by show(r.map fun g=>Kz t b X Y (fw ws g)).length<=1000;omega) (fun q ys hq=>by show(ar M1 q _) O=_;rw[aq (aA I hq)];exact I) (fun i d J hd=>?_) (fun i M R J h=>⟨_,rfl,_,rfl,h⟩) (fun i M K J h=>⟨_,rfl,_,rfl,h⟩) (fun i M K J h=>⟨_,rfl,_,rfl,h⟩) (fun px n0=>?_)⟩
 ·have hd:(r.map fun g=>Kz t b X Y (fw ws g))[i]?=KA d:=hd;rw[Ht]at hd;cases C:r[i]? with
  |none=>rw[C]at hd;cases hd
  |some g=>
   rw[C]at hd
   cases hd
   rfl
 obtain⟨l,rfl⟩:∃l:Nat,b=(l:Int):=⟨b.toNat,by have:=S.b0;omega⟩;have a0:0<l:=by have:=S.b0;omega
 have dv:∀(Z x:Int),(Ke t (l:Int) Z 1 x).den ∣ l:=fun Z x=>by
  have h:=yS (n:=x*t+Z*1) (d:=(l:Int)*1) ()
  rw[Int.mul_one (l:Int)]at h
  unfold Ke
  rw[Int.mul_one (l:Int)]
  exact Int.ofNat_dvd.mp h
 have eX:∀(Z:Int) (F:Vc->Int) (n:Nat),((HX n).flatMap fun i=>[Kp (Ke t (l:Int) Z 1 (F (fa ws ((r[i]?).getD 0)))),Kp (Ke t (l:Int) Z 1 (F (fb ws ((r[i]?).getD 0))))])=((HX n).flatMap fun i=>[Ke t (l:Int) Z 1 (F (fa ws ((r[i]?).getD 0))),Ke t (l:Int) Z 1 (F (fb ws ((r[i]?).getD 0)))]).map Kp:=fun Z F n=>by rw[List.map_flatMap];rfl
 have c0:∀(Z:Int) (F:Vc->Int) (n:Nat) (q:Rat),q∈((HX n).flatMap fun i=>[Ke t (l:Int) Z 1 (F (fa ws ((r[i]?).getD 0))),Ke t (l:Int) Z 1 (F (fb ws ((r[i]?).getD 0)))])->q.den ∣ l:=fun Z F n q hq=>by
  obtain⟨i,_,J⟩:=List.mem_flatMap.mp hq;rcases HW.mp J with z|z
  ·rw[z];exact dv _ _
  ·rw[show q=_ from by simpa using z];exact dv _ _
 have d0:∀(Z:Int) (F:Vc->Int) (c:Nat),(∀q∈((HX r.length).flatMap fun i=>[Ke t (l:Int) Z 1 (F (fa ws ((r[i]?).getD 0))),Ke t (l:Int) Z 1 (F (fb ws ((r[i]?).getD 0)))]),q.den ∣ c)->∀(i g:Nat),r[i]?=KA g->(Ke t (l:Int) Z 1 (F (fa ws g))).den ∣ c/\(Ke t (l:Int) Z 1 (F (fb ws g))).den ∣ c:=fun Z F c h i g C=>by
  have J:i<r.length:=(HN.mp C).1
  refine⟨h _ (List.mem_flatMap.mpr ⟨i,JB.mpr J,?_⟩),h _ (List.mem_flatMap.mpr ⟨i,JB.mpr J,?_⟩)⟩
  ·rw[C];simp
  ·rw[C];simp
 have o0:l<=10^26:=by have:=S.b1;omega
 refine⟨px,_,l,rfl,(by rw[ai];dsimp only;rw[e0];exact congrArg (fun z=>KA (MO.lst z)) (eX X (fun v=>v.1) r.length)),a0,o0,c0 X (fun v=>v.1) _,fun L i1 y0 z0=>?_⟩;have U:∀{o},(ar M1 px o) O=KA (.lst (r.map fun g=>Kz t (l:Int) X Y (fw ws g))):=fun{o}=>by rw[aq (aA I n0)];exact I
 have a1:∀{o},SD.Sub M (ar M1 px o):=fun{o}=>.new n0 m0;refine⟨_,rfl,_,U,mS (fun i=>Kn (Ke t (l:Int) X 1 (fa ws ((r[i]?).getD 0)).1) (Ke t (l:Int) Y 1 (fa ws ((r[i]?).getD 0)).2)) (fun i=>Kn (Ke t (l:Int) X 1 (fb ws ((r[i]?).getD 0)).1) (Ke t (l:Int) Y 1 (fb ws ((r[i]?).getD 0)).2)) (fun i=>Kp (Ke t (l:Int) Y 1 (fa ws ((r[i]?).getD 0)).2)) (fun i=>Kp (Ke t (l:Int) Y 1 (fb ws ((r[i]?).getD 0)).2)) (by show(r.map fun g=>Kz t (l:Int) X Y (fw ws g)).length<=1000;omega) (fun q ys hq=>by show(ar _ q _) O=_;rw[aq (aA U hq)];exact U) (fun i d J hd=>?_) (fun i M R J h=>⟨_,rfl,_,rfl,h⟩) (fun i M K J h=>⟨_,rfl,_,rfl,h⟩) (fun i M K J h=>⟨_,rfl,_,rfl,h⟩) (fun py r0=>?_)⟩
 ·have hd:(r.map fun g=>Kz t (l:Int) X Y (fw ws g))[i]?=KA d:=hd;rw[Ht]at hd;cases C:r[i]? with
  |none=>rw[C]at hd;cases hd
  |some g=>
   rw[C]at hd
   cases hd
   rfl
 refine⟨py,_,l,rfl,(by rw[ai];dsimp only;rw[e0];exact congrArg (fun z=>KA (MO.lst z)) (eX Y (fun v=>v.2) r.length)),a0,o0,c0 Y (fun v=>v.2) _,fun N j1 c1 d1=>?_⟩;have ux:=d0 X (fun v=>v.1) L z0;have uy:=d0 Y (fun v=>v.2) N d1;have s0:∀{o o'},py≠O->(ar (ar M1 px o) py o') O=KA (.lst (r.map fun g=>Kz t (l:Int) X Y (fw ws g))):=fun ne=>by rw[aq ne.symm];exact U
 have t0:py≠O:=(aA U r0).symm;refine⟨_,rfl,_,s0 t0,?_⟩;have f0:=SD.Sub.new (o:=MO.lst ((HX (r.map fun g=>Kz t (l:Int) X Y (fw ws g)).length).flatMap fun i=>[Kp (Ke t (l:Int) Y 1 (fa ws ((r[i]?).getD 0)).2),Kp (Ke t (l:Int) Y 1 (fb ws ((r[i]?).getD 0)).2)])) r0 a1;dsimp only at f0 ⊢;have u0:=s0 (o:=MO.lst ((HX (r.map fun g=>Kz t (l:Int) X Y (fw ws g)).length).flatMap fun i=>[Kp (Ke t (l:Int) X 1 (fa ws ((r[i]?).getD 0)).1),Kp (Ke t (l:Int) X 1 (fb ws ((r[i]?).getD 0)).1)])) (o':=MO.lst ((HX (r.map fun g=>Kz t (l:Int) X Y (fw ws g)).length).flatMap fun i=>[Kp (Ke t (l:Int) Y 1 (fa ws ((r[i]?).getD 0)).2),Kp (Ke t (l:Int) Y 1 (fb ws ((r[i]?).getD 0)).2)])) t0;generalize ar (ar M1 px (MO.lst ((HX (r.map fun g=>Kz t (l:Int) X Y (fw ws g)).length).flatMap fun i=>[Kp (Ke t (l:Int) X 1 (fa ws ((r[i]?).getD 0)).1),Kp (Ke t (l:Int) X 1 (fb ws ((r[i]?).getD 0)).1)]))) py (MO.lst ((HX (r.map fun g=>Kz t (l:Int) X Y (fw ws g)).length).flatMap fun i=>[Kp (Ke t (l:Int) Y 1 (fa ws ((r[i]?).getD 0)).2),Kp (Ke t (l:Int) Y 1 (fb ws ((r[i]?).getD 0)).2)]))=M3 at f0 u0 ⊢;have y:(0:Int)<(L:Int)/\(L:Int)<=10^26:=by have:=Nat.le_of_dvd a0 y0;omega
 have u:(0:Int)<(N:Int)/\(N:Int)<=10^26:=by have:=Nat.le_of_dvd a0 c1;omega
 refine⟨fun i δ M'=>M'=M3/\Y5 fun(G:Int) (o6 o7 o8 o9:Option D)=>δ=[KA (.tup (ws.map (Kz t (l:Int) X Y))),KA (.ref p),KA (.ref O),KA (.int (L:Int)),KA (.int (N:Int)),KA (.int G),o6,o7,o8,o9]/\(G:Rat)=((r.take i).map (Nj t (l:Int) X Y ws)).sum*(((L:Int)*(N:Int):Int):Rat)/\Bd (600+2*i) G,⟨rfl,0,_,_,_,_,rfl,(by simp),(by show(0:Int).natAbs<2^(600+2*0);decide)⟩,fun i δ M' _ z=>by obtain⟨rfl,_⟩:=z;exact u0,?_,?_⟩
 ·rintro i d δ M' J hd ⟨rfl,G,o6,o7,o8,o9,rfl,et,bt⟩;have hd:(r.map fun g=>Kz t (l:Int) X Y (fw ws g))[i]?=KA d:=hd;rw[Ht]at hd;cases C:r[i]? with
  |none=>rw[C]at hd;cases hd
  |some g=>
   rw[C]at hd
   cases hd
   have hg:=V g (HE C)
   obtain⟨_,_,w3⟩:=bE (ws:=ws) (k:=((g/2:Nat):Int)) () ()
   have W:=hU _ w3
   have W6:∀{z:Int},(0<=z/\z<=20)->(-(10^6)<=z/\z<=10^6):=fun{z} h=>()
   have one:(0:Int)<1/\(1:Int)<=10^6:=⋯
   have rg:((0<=(fa ws g).1/\(fa ws g).1<=20)/\(0<=(fa ws g).2/\(fa ws g).2<=20))/\((0<=(fb ws g).1/\(fb ws g).1<=20)/\(0<=(fb ws g).2/\(fb ws g).2<=20)):=by
    unfold fa fb fw;by_cases h:g%2=0
    ·rw[KI h];exact⟨⟨W.a,W.b⟩,W.c,W.d⟩
    ·rw[KH h];exact⟨⟨W.c,W.d⟩,W.a,W.b⟩
   have g0:Kf 200 (Ke t (l:Int) X 1 (fa ws g).1):=S.bx one (W6 rg.1.1)
   have i0:Kf 200 (Ke t (l:Int) Y 1 (fa ws g).2):=S.by' one (W6 rg.1.2)
   have j0:Kf 200 (Ke t (l:Int) X 1 (fb ws g).1):=S.bx one (W6 rg.2.1)
   have k0:Kf 200 (Ke t (l:Int) Y 1 (fb ws g).2):=S.by' one (W6 rg.2.2)
   have tb:∀{q:Rat} {B:Int},Kf 200 q->0<B->B<=10^26->Bd 300 (q.num*B.fdiv (q.den:Int)):=fun{q B} h h0 h1=>by
    have bB:Bd 100 B:=by show B.natAbs<2^100;omega
    have dB:(B.fdiv (q.den:Int)).natAbs<=B.natAbs:=by rw[Iw _ ()];exact Int.natAbs_ediv_le_natAbs _ _
    exact h.1.mul (bB.of_le dB)
   have m6:∀{z:Int},Bd 300 z->Bd 1000000 z:=fun h=>h.mono ⋯
   refine⟨_,rfl,rfl,_,_,rfl,_,rfl,rfl,_,_,rfl,_,_,rfl,rfl,_,_,rfl,_,rfl,rfl,_,_,rfl,_,_,rfl,rfl,rfl,?_⟩
   (try dsimp only[SD.aN])
   refine P8 fun B hB=>?_
   refine⟨G,rfl,_,rfl,_,rfl,Ke t (l:Int) X 1 (fa ws g).1,(L:Int),rfl,rfl,g0,y.1,y.2,_,rfl,_,rfl,Ke t (l:Int) Y 1 (fb ws g).2,(N:Int),rfl,rfl,k0,u.1,u.2,cA (m6 (tb g0 y.1 y.2)) (m6 (tb k0 u.1 u.2)),_,rfl,?_⟩
   refine⟨_,rfl,_,rfl,_,rfl,Ke t (l:Int) X 1 (fb ws g).1,(L:Int),rfl,rfl,j0,y.1,y.2,_,rfl,_,rfl,Ke t (l:Int) Y 1 (fa ws g).2,(N:Int),rfl,rfl,i0,u.1,u.2,cA (m6 (tb j0 y.1 y.2)) (m6 (tb i0 u.1 u.2)),_,rfl,?_⟩
   refine hB _ _ ⟨rfl,_,_,_,_,_,rfl,?_,?_⟩
   ·rw[J3,C,Option.toList_some,HR,List.sum_append];have ex:=ux i g C;have ey:=uy i g C;have t1:=sf (Ke t (l:Int) X 1 (fa ws g).1) (L:Int) (Int.ofNat_dvd.mpr ex.1);have t2:=sf (Ke t (l:Int) Y 1 (fb ws g).2) (N:Int) (Int.ofNat_dvd.mpr ey.2);have t3:=sf (Ke t (l:Int) X 1 (fb ws g).1) (L:Int) (Int.ofNat_dvd.mpr ex.2);have t4:=sf (Ke t (l:Int) Y 1 (fa ws g).2) (N:Int) (Int.ofNat_dvd.mpr ey.1);dsimp only;rw[Js,Rat.intCast_add,et,Iv,Iv,t1,t2,Iv,t3,t4];simp only[Hs,Jb,Jg,List.sum_nil];unfold Nj;grind
   ·have p1:=((tb g0 y.1 y.2).mul (tb k0 u.1 u.2)).mono (():300+300<=600+2*i);have p2:=((tb j0 y.1 y.2).mul (tb i0 u.1 u.2)).mono (():300+300<=600+2*i+1);exact((bt.add p1).sub p2).mono ()
 ·rintro δ M' ⟨rfl,G,o6,o7,o8,o9,rfl,et,bt⟩;have e:r.take (r.map fun g=>Kz t (l:Int) X Y (fw ws g)).length=r:=IP (by simp);rw[e]at et;have v0:Bd 100 (L:Int):=by show(L:Int).natAbs<2^100;omega
  have w0:Bd 100 (N:Int):=by show(N:Int).natAbs<2^100;omega
  have pp:=Ib y.1 u.1
  have pl:(L:Int)*(N:Int)<=10^52:=by
   have h1:=Int.mul_le_mul y.2 u.2 (IV u.1) (show(0:Int)<=10^26 by decide)
   exact Int.le_trans h1 ⋯
  exact⟨_,rfl,_,rfl,_,rfl,cA (v0.mono ⋯) (w0.mono ⋯),LB rfl,⟨M,f0,k G _ pp pl (bt.mono (by rw[e0];first|omega|(dsimp only;omega)|(simp only[Hn]at *;omega))) et⟩⟩
theorem cw:Kv ["plot","outers","inners","ring"] ["plot"] (ao dS):=by walk_at "sc"
inductive Lm(u:D)(M:MH)(Q:DK):Prop
 |mk (t b X Y:Int) (ws:List Wl) (_:u=.tup (ws.map (Kz t b X Y))) (_:Lc t b X Y) (_:ws.length<=40) (_:(∀w∈ws,LD w)) (_:PF ws) (_:∀(M':MH) (lo li:Addr) (ps qs:List Addr) (rs:List (List Nat)),SD.Sub M M'->ND ws (2*ws.length) rs->M' lo=KA (.lst (ps.map D.ref))->M' li=KA (.lst (qs.map D.ref))->RL M' ps (rs.filter (aJ ws))->RL M' qs (rs.filter fun r=>!aJ ws r)->M lo=KC->M li=KC->(∀p∈ps++qs,M p=KC)->Q (.tup [.ref lo,.ref li]) M')
theorem dM(T:Tx K mg):Cal P w K mg base 8 "outer_and_inner" (Nh Lm):=by
 refine fv (k:=7) T.f_outer_and_inner cw fun f cdv A outer s H E hr=>⟨_,(ag (fP 1 2 rfl cw.nd (aa (bw ae) (aa (bw ae) ae))) (ag (bA HP rfl (aS (aj (rC T).m hr (aa (dv 0) ae))) (av 3 cw.nd) (ak (aW (aM (iY hr.units) (aw (aj (gO T).m hr (aa (dv 0) (aa (dv 3) ae))) af) af) (ak (cI (bJ (dv 1) (aa (dv 3) ae)))) (ak (cI (bJ (dv 2) (aa (dv 3) ae))))))) (ak (ay (aC (aa (dv 1) (aa (dv 2) ae))))))),fun _ M Q h=>?_⟩;obtain⟨t,b,X,Y,ws,rfl,S,I,hU,hF,k⟩:=h;refine⟨LB rfl,fun x L=>⟨LB rfl,fun n N=>?_⟩⟩;have q:x≠n:=aA ai N;have J:M n=KC:=by have h:=N;rw[aq q.symm]at h;exact h
 refine⟨_,_,rfl,?_⟩;refine⟨_,rfl,t,b,X,Y,ws,rfl,S,I,hU,hF,fun y lr pr C O F a0 R c0 g0=>?_⟩;have d0:y x=KA (.lst []):=O _ _ (by rw[aq q,ai]);have e0:y n=KA (.lst []):=O _ _ ai;have h0:SD.Sub M y:=SD.Sub.trans (.new N (.new L .refl)) O;have i0:lr≠x:=fun z=>by subst z;rw[aq q,ai]at F;cases F
 have j0:lr≠n:=fun z=>by subst z;rw[ai]at F;cases F
 have pn:∀p∈pr,p≠x/\p≠n/\M p=KC:=fun p g=>by
  have h:=(g0 p g).2
  have a:p≠n:=fun z=>by subst z;rw[ai]at h;cases h
  rw[aq a]at h
  have c:p≠x:=fun z=>by subst z;rw[ai]at h;cases h
  rw[aq c]at h
  exact⟨c,a,h⟩
 have k0:=eT R;have m0:=c0.len;have f0:=gi hU hF (Hq _) R;refine⟨_,a0,?_⟩;refine⟨fun i δ G=>PR fun(ps qs:List Addr) (o3:Option D)=>YI (δ=[KA (.tup (ws.map (Kz t b X Y))),KA (.ref x),KA (.ref n),o3]) (∀c,c≠x->c≠n->G c=y c) (G x=KA (.lst (ps.map D.ref))) (G n=KA (.lst (qs.map D.ref))) (RL y ps ((C.take i).filter (aJ ws))) (RL y qs ((C.take i).filter fun r=>!aJ ws r)) (ps.length<=i) (qs.length<=i) (∀p∈ps++qs,p∈pr),⟨[],[],_,rfl,fun _ _ _=>rfl,d0,e0,.nil,.nil,Hq _,Hq _,fun p g=>by cases g⟩,fun i δ G _ z=>by obtain⟨_,_,_,_,z,_⟩:=z;show G lr=_;rw[z lr i0 j0];exact a0,?_,?_⟩
 ·rintro i d δ G hi hd ⟨ps,qs,o3,rfl,l,u,v,U,R2,l1,l2,j⟩;have hi:i<pr.length:=by have:i<(pr.map D.ref).length:=hi;simpa using this
  have hd:(pr.map D.ref)[i]?=KA d:=hd;rw[Ht,Hl hi]at hd;cases hd;obtain⟨r,er,V⟩:=c0.get hi;have W:pr[i]∈pr:=Iz hi;obtain⟨p1,p2,p3⟩:=pn _ W;have A:=f0 r (HE er);refine⟨_,rfl,_,rfl,t,b,X,Y,ws,pr[i],r,rfl,rfl,(by rw[l _ p1 p2];exact V),S,hU,I,by have:=A.len;omega,A.lt,fun n0 B hB o0 bt et=>?_⟩;refine⟨_,rfl,trivial,_,rfl,?_⟩;have sg:=xr hU hF A.rng S.t0 S.b0 hB et;have Z:=jb (aJ ws) C er;have f2:=jb (fun r=>!aJ ws r) C er;refine bD (fun h=>?_) (fun h=>?_)
  ·have o:aJ ws r=KD:=by rw[<-sg];exact h
   rw[o]at Z f2;rw[KI rfl]at Z;rw[KH ⋯,IX]at f2;refine⟨_,rfl,x,_,rfl,u,_,rfl,_,_,rfl,u,(by rw[Hn];omega),?_⟩;refine⟨ps++[pr[i]],qs,_,rfl,fun c a c2=>by rw[aq a];exact l c a c2,by rw[ai,HR];rfl,by rw[aq q.symm];exact v,by rw[Z];exact U.snoc V,by rw[f2];exact R2,by simp;omega,(),fun p g=>?_⟩;rcases HM.mp g with z|z
   ·rcases HM.mp z with z|z
    ·exact j p (HM.mpr (.inl z))
    ·rw[show p=pr[i] by simpa using z];exact W
   ·exact j p (HM.mpr (.inr z))
  ·have o:aJ ws r=KG:=by rw[<-sg];simpa using h
   rw[o]at Z f2;rw[KH ⋯,IX]at Z;rw[KI (show(!KG)=KD from rfl)]at f2;refine⟨_,rfl,n,_,rfl,v,_,rfl,_,_,rfl,v,(by rw[Hn];omega),?_⟩;refine⟨ps,qs++[pr[i]],_,rfl,fun c a c2=>by rw[aq c2];exact l c a c2,by rw[aq q];exact u,by rw[ai,HR];rfl,by rw[Z];exact U,by rw[f2];exact R2.snoc V,(),by simp;omega,fun p g=>?_⟩;rcases HM.mp g with z|z
   ·exact j p (HM.mpr (.inl z))
   ·rcases HM.mp z with z|z
    ·exact j p (HM.mpr (.inr z))
    ·rw[show p=pr[i] by simpa using z];exact W
 ·rintro δ G ⟨ps,qs,o3,rfl,l,u,v,U,R2,l1,l2,j⟩;have et:C.take (pr.map D.ref).length=C:=IP (by rw[Hn];omega);have U:RL y ps ((C.take (pr.map D.ref).length).filter (aJ ws)):=U;have R2:RL y qs ((C.take (pr.map D.ref).length).filter fun r=>!aJ ws r):=R2;rw[et]at U R2;have kp:∀p∈ps++qs,G p=y p:=fun p g=>let z:=pn p (j p g);l p z.1 z.2.1
  refine⟨_,rfl,_,rfl,LB rfl,LL (k G x n ps qs C (fun a o h=>?_) R u v (U.mono fun p g o e=>by rw[kp p (HM.mpr (.inl g))];exact e) (R2.mono fun p g o e=>by rw[kp p (HM.mpr (.inr g))];exact e) L J fun p g=>(pn p (j p g)).2.2)⟩;rw[l a (fun z=>by subst z;rw[L]at h;cases h) (fun z=>by subst z;rw[J]at h;cases h)];exact h0 _ _ h
theorem qB:Kv ["one","other"] ["one","other"] (ao mF):=by walk_at "sc"
inductive N6(x y:D)(M:MH)(Q:DK):Prop
 |mk (q r:Rat) (_:x=Kp q) (_:y=Kp r) (_:Kf 100000 q) (_:Kf 100000 r) (_:Q (.bl (decide (q<r))) M)
theorem mL(T:Tx K mg):Cal P w K mg base 1 "is_less" (L7 N6):=by refine aU (k:=0) T.f_is_less qB fun f cdv A outer s H E b=>⟨_,(ak (ay (cJ (bZ b.units) (au aF (aw (dv 0) af) (aw (dv 1) af)) (au aF (aw (dv 1) af) (aw (dv 0) af))))),fun _ _ M Q h=>?_⟩;obtain⟨q,r,rfl,rfl,h1,a,k⟩:=h;refine⟨_,rfl,_,rfl,_,rfl,_,rfl,cA (h1.1.mono ⋯) (a.2.mono ⋯),?_⟩;refine⟨_,rfl,_,rfl,_,rfl,_,rfl,cA (a.1.mono ⋯) (h1.2.mono ⋯),trivial,?_⟩;dsimp only;rw[Ma.Fh];exact LL k
theorem pU:Kv ["one","other"] ["one","other"] (ao kB):=by walk_at "sc"
inductive NW(x y:D)(M:MH)(Q:DK):Prop
 |mk (a b c d:Rat) (_:x=Kn a b) (_:y=Kn c d) (_:Kf 100000 a) (_:Kf 100000 b) (_:Kf 100000 c) (_:Kf 100000 d) (_:Q (.bl (decide (a<c\/a=c/\b<d))) M)
theorem cQ(T:Tx K mg):Cal P w K mg base 2 "is_ahead" (L7 NW):=by
 refine aU (k:=1) T.f_is_ahead pU fun f cdv A outer s H E g=>⟨_,(ag (aW (aM (cB g.units) (aw (dv 0) af) (aw (dv 1) af)) (ak (ay (aj (mL T).m g (aa (aw (dv 0) af) (aa (aw (dv 1) af) ae))))) aK) (ak (ay (aj (mL T).m g (aa (aw (dv 0) af) (aa (aw (dv 1) af) ae)))))),fun _ _ M Q h=>?_⟩;obtain⟨a,b,c,d,rfl,rfl,h1,i,j,l,k⟩:=h;refine⟨_,rfl,_,rfl,_,rfl,_,rfl,_,_,Pd.of rfl,Pd.of rfl,rfl,rfl,?_⟩;rw[Ma.qS];refine⟨_,rfl,?_⟩;refine bD (fun h=>?_) (fun h=>?_)
 ·have e:a=c:=by simpa using h
  subst e;refine⟨_,rfl,_,rfl,_,rfl,_,rfl,b,d,rfl,rfl,i,l,?_⟩
  have z:(a<a\/a=a/\b<d)↔b<d:=by
   have:=Rat.lt_irrefl (a:=a)
   simp[this]
  rw[decide_eq_decide.mpr z]at k;exact LL k
 ·have e:¬a=c:=by simpa using h
  refine⟨_,rfl,_,rfl,_,rfl,_,rfl,a,c,rfl,rfl,h1,j,?_⟩;have z:(a<c\/a=c/\b<d)↔a<c:=by simp[e]
  rw[decide_eq_decide.mpr z]at k;exact LL k
theorem lM:Kv ["one","other"] ["one","other"] (ao ig):=by walk_at "sc"
inductive Me(x y:D)(M:MH)(Q:DK):Prop
 |mk (c d g h:Rat) (_:x=Kn c d) (_:y=Kn g h) (_:Kf 100000 c) (_:Kf 100000 d) (_:Kf 100000 g) (_:Kf 100000 h) (_:∀s:Rat×Rat,s=(if Kg c d g h then(c,d)else(g,h))->Q (Kn s.1 s.2) M)
theorem gX(T:Tx K mg):Cal P w K mg base 3 "earlier_of" (L7 Me):=by
 refine aU (k:=2) T.f_earlier_of lM fun f cdv A outer s H E b=>⟨_,(ak (ay (iO (cM (aj (cQ T).m b (aa (dv 0) (aa (dv 1) ae)))) (dv 0) (dv 1)))),fun _ _ M Q h=>?_⟩;obtain⟨c,d,g,a,rfl,rfl,h1,e,i,j,k⟩:=h;refine⟨_,rfl,_,rfl,c,d,g,a,rfl,rfl,h1,e,i,j,_,rfl,?_⟩;refine bD (fun h=>?_) (fun h=>?_)
 ·have z:Kg c d g a:=by simpa[Kg]using h
  have:=k (c,d) (by rw[KI z]);exact⟨_,rfl,LL this⟩
 ·have z:¬Kg c d g a:=by simpa[Kg]using h
  have:=k (g,a) (by rw[KH z]);exact⟨_,rfl,LL this⟩
theorem ck:Kv ["plot","ring","first","face"] ["plot","ring"] (ao fT):=by walk_at "sc"
inductive MF(u v:D)(M:MH)(Q:DK):Prop
 |mk (t b X Y:Int) (ws:List Wl) (p:Addr) (r:List Nat) (_:u=.tup (ws.map (Kz t b X Y))) (_:v=.ref p) (_:M p=KA (.lst (r.map fun g:Nat=>D.int (g:Int)))) (_:Lc t b X Y) (_:(∀w∈ws,LD w)) (_:ws.length<=40) (_:0<r.length) (_:(∀g∈r,g<2*ws.length)) (_:Q (Mh t b X Y (fc ws r)) M)
theorem kQ(T:Tx K mg):Cal P w K mg base 4 "first_corner" (L7 MF):=by
 refine aU (k:=3) T.f_first_corner ck fun f cdv A outer s H E j=>⟨_,(ag (az 2 ck.nd (aw (aj (bN T).m j (aa (dv 0) (aa (aw (dv 1) af) ae))) af)) (ag (bA HP rfl (aS (dv 1)) (av 3 ck.nd) (ak (az 2 ck.nd (aj (gX T).m j (aa (dv 2) (aa (aw (aj (bN T).m j (aa (dv 0) (aa (dv 3) ae))) af) ae)))))) (ak (ay (dv 2))))),fun _ _ M Q h=>?_⟩;obtain⟨t,b,X,Y,ws,p,r,rfl,rfl,u,S,C,F,c,j,k⟩:=h
 obtain⟨g0,G,v⟩:∃g0 G,r=g0::G:=by
  cases r with
  |nil=>simp at c
  |cons a l=>exact⟨a,l,rfl⟩
 have o:∀{z:Vc},L9 z->Kf 100000 (Ke t b X 1 z.1)/\Kf 100000 (Ke t b Y 1 z.2):=fun{z} h=>by
  have one:(0:Int)<1/\(1:Int)<=10^6:=⋯
  exact⟨(S.bx one (by have:=h.1;omega)).mono ⋯,(S.by' one (by have:=h.2;omega)).mono ⋯⟩
 refine⟨_,rfl,_,rfl,_,_,u,(show atI _ ((0:Nat):Int)=KA (.int (g0:Int))from bj (by rw[v];rfl)),t,b,X,Y,ws,g0,rfl,rfl,j g0 (by rw[v];simp),(),_,rfl,?_⟩;refine⟨_,rfl,_,u,?_⟩;refine⟨fun i δ q=>q=M/\∃x:Option D,δ=[KA (.tup (ws.map (Kz t b X Y))),KA (.ref p),KA (Mh t b X Y (Pm ws r i)),x],⟨rfl,_,by rw[v];rfl⟩,fun i δ q _ z=>by obtain⟨rfl,_⟩:=z;exact u,?_,?_⟩
 ·rintro i d δ q n hd ⟨rfl,x,rfl⟩;have n:i<r.length:=by have:i<(r.map fun g:Nat=>D.int (g:Int)).length:=n;simpa using this
  have hd:(r.map fun g:Nat=>D.int (g:Int))[i]?=KA d:=hd;rw[Ht,Hl n]at hd;cases hd;have I:=j r[i] (Iz n);have b1:=nT C j c i ();have y:=rH C I;refine⟨_,rfl,_,rfl,_,rfl,t,b,X,Y,ws,r[i],rfl,rfl,I,(),_,rfl,?_⟩;refine⟨_,_,_,_,rfl,rfl,(o b1).1,(o b1).2,(o y).1,(o y).2,fun s B=>?_⟩;have B:=B.trans (F6 (X:=X) (Y:=Y) S.t0 S.b0 b1 y);subst B;exact⟨rfl,_,by rw[pJ (Hl n)];rfl⟩
 ·rintro δ q ⟨rfl,x,rfl⟩;have e:Pm ws r (r.map fun g:Nat=>D.int (g:Int)).length=fc ws r:=by rw[Hn];rfl
  refine⟨_,rfl,LL ?_⟩;dsimp only;rw[e];exact k
theorem bQ:Kv ["row","spot","low","high","middle"] ["row","spot"] (ao gx):=by walk_at "sc"
inductive MQ(x y:D)(M:MH)(Q:DK):Prop
 |mk (l:Addr) (t b X Y:Int) (ps:List Vc) (u:Vc) (_:x=.ref l) (_:y=Mh t b X Y u) (_:M l=KA (.lst (ps.map (Mh t b X Y)))) (_:Lc t b X Y) (_:ps.length<=200) (_:(∀p∈ps,L9 p)) (_:L9 u) (_:ps.Pairwise Lx) (_:∀j:Nat,j<=ps.length->(∀i,i<j->Lx (p0 ps i) u)->(∀i,j<=i->i<ps.length->¬Lx (p0 ps i) u)->Q (.int (j:Int)) M)
theorem lW(T:Tx K mg):Cal P w K mg base 3 "place_among" (L7 MQ):=by
 refine aU (k:=2) T.f_place_among bQ fun f cdv A outer s H E v=>⟨_,(ag (fP 2 3 rfl bQ.nd (aa af (aa (aG bP rfl T.b_len bR (aa (dv 0) ae)) ae))) (ag (ie HP (aM (bZ v.units) (dv 2) (dv 3)) (ag (az 4 bQ.nd (au fD (au aO (dv 2) (dv 3)) af)) (ak (aW (cM (aj (cQ T).m v (aa (aw (dv 0) (dv 4)) (aa (dv 1) ae)))) (ak (az 2 bQ.nd (au aO (dv 4) af))) (ak (az 3 bQ.nd (dv 4))))))) (ak (ay (dv 2))))),fun _ _ M Q h=>?_⟩;obtain⟨l,t,b,X,Y,ps,u,rfl,rfl,x,S,N,F,o,y,k⟩:=h;have G:(ps.map (Mh t b X Y)).length=ps.length:=by simp
 refine⟨_,rfl,_,x,_,_,rfl,?_⟩;refine⟨fun m δ B=>B=M/\PR fun(g d:Nat) (C:Option D)=>Vn (δ=[KA (.ref l),KA (Mh t b X Y u),KA (.int (g:Int)),KA (.int (d:Int)),C]) (g<=d) (d<=ps.length) (∀i,i<g->Lx (p0 ps i) u) (∀i,d<=i->i<ps.length->¬Lx (p0 ps i) u) (m=d-g),⟨_,rfl,0,ps.length,_,by rw[G];rfl,Jl _,Hq _,fun i d=>(),fun i h1 p=>(),rfl⟩,?_⟩;rintro m δ B ⟨rfl,g,d,C,rfl,h1,p,a,c,O⟩;refine⟨_,rfl,_,rfl,trivial,_,rfl,?_⟩;refine bD (fun h=>?_) (fun h=>?_)
 ·have I:g<d:=by
   have:(g:Int)<(d:Int):=by simpa using h
   omega
  have n:Int.fdiv ((g:Int)+(d:Int)) 2=(((g+d)/2:Nat):Int):=by rw[Iw _ ⋯];omega
  have j:(g+d)/2<ps.length:=()
  refine⟨_,rfl,_,rfl,⟨⋯,bC ⋯⟩,?_⟩;dsimp only;rw[n];generalize R:(g+d)/2=q at j ⊢;have J:ps[q]?=KA (p0 ps q):=by unfold p0;simp[j]
  have r:=F _ (rP j);refine⟨_,rfl,_,rfl,_,_,x,bj (by rw[Ht,J];rfl),_,rfl,_,_,_,_,rfl,rfl,(r.bx S).mono ⋯,(r.by' S).mono ⋯,(o.bx S).mono ⋯,(o.by' S).mono ⋯,_,rfl,?_⟩;have ah:=vg (X:=X) (Y:=Y) S.t0 S.b0 r o;refine bD (fun h=>?_) (fun h=>?_)
  ·have z:Lx (p0 ps q) u:=ah.mp (by simpa[Kg]using h);refine⟨_,rfl,d-(q+1),(),rfl,q+1,d,_,rfl,(),p,fun i L=>?_,c,rfl⟩;by_cases e:i=q
   ·subst e;exact z
   ·have:=List.pairwise_iff_getElem.mp y i q () j ();have e1:p0 ps i=ps[i]:=by unfold p0;simp[show i<ps.length by omega]
    have e2:p0 ps q=ps[q]:=by unfold p0;simp[j]
    rw[e2]at z;rw[e1];unfold Lx at z this ⊢;omega
  ·have z:¬Lx (p0 ps q) u:=fun w=>by
    have:=ah.mpr w
    simp[Kg]at h this
    exact absurd this (by simpa using h)
   refine⟨_,rfl,q-g,(),rfl,g,q,_,rfl,(),(),a,fun i U V=>?_,rfl⟩;by_cases e:i=q
   ·subst e;exact z
   ·have:=List.pairwise_iff_getElem.mp y q i j () ();have e1:p0 ps i=ps[i]:=by unfold p0;simp[show i<ps.length by omega]
    have e2:p0 ps q=ps[q]:=by unfold p0;simp[j]
    rw[e2]at z;rw[e1];unfold Lx at z this ⊢;omega
 ·have:g=d:=by
   have:¬(g:Int)<(d:Int):=by simpa using h
   omega
  subst this;(repeat (first|refine⟨_,rfl,?_⟩|refine⟨trivial,?_⟩|refine⟨_,_,rfl,?_⟩|refine⟨rfl,?_⟩|refine⟨LB rfl,?_⟩))
  exact LL (k g p a c)
theorem dG:Kv ["spots","row","spot"] ["spots"] (ao gw):=by walk_at "sc"
inductive MT(x:D)(M:MH)(Q:DK):Prop
 |mk (l:Addr) (t b X Y:Int) (us:List Vc) (_:x=.ref l) (_:M l=KA (.lst (us.map (Mh t b X Y)))) (_:Lc t b X Y) (_:us.length<=200) (_:(∀p∈us,L9 p)) (_:us.Nodup) (_:∀(M':MH) (z:Addr) (ps:List Vc),SD.Sub M M'->M z=KC->M' z=KA (.lst (ps.map (Mh t b X Y)))->ps.Perm us->ps.Pairwise Lx->Q (.ref z) M')
theorem lV(T:Tx K mg):Cal P w K mg base 4 "ahead_first" (Nh MT):=by
 refine fv (k:=3) T.f_ahead_first dG fun f cdv A outer s H E hr=>⟨_,(ag (az 1 dG.nd (bw ae)) (ag (bA HP rfl (aS (dv 0)) (av 2 dG.nd) (ak (cI (fE (dv 1) (aa (aj (lW T).m hr (aa (dv 1) (aa (dv 2) ae))) (aa (dv 2) ae)))))) (ak (ay (dv 1))))),fun _ M Q h=>?_⟩;obtain⟨l,t,b,X,Y,us,rfl,I,S,hn,V,nd,k⟩:=h;refine⟨LB rfl,fun z C=>?_⟩;have J:l≠z:=aA I C;refine⟨_,rfl,us.map (Mh t b X Y),(by show(ar M z _) l=_;rw[aq J];exact I),?_⟩;refine⟨fun i δ n=>QN fun(ps:List Vc) (L:Option D)=>YL (δ=[KA (.ref l),KA (.ref z),L]) (SD.Sub M n) (n z=KA (.lst (ps.map (Mh t b X Y)))) (ps.Perm (us.take i)) (ps.Pairwise Lx),⟨[],_,rfl,.new C .refl,ai,by simp,List.Pairwise.nil⟩,fun i δ n _ q=>by obtain⟨_,_,_,x,_⟩:=q;exact x _ _ I,?_,?_⟩
 ·rintro i d δ n hi hd ⟨ps,L,rfl,x,g,r,F⟩;have hd:(us.map (Mh t b X Y))[i]?=KA d:=hd;rw[Ht]at hd;cases v:us[i]? with
  |none=>rw[v]at hd;cases hd
  |some u=>
   rw[v]at hd
   cases hd
   have iu:i<us.length:=(HN.mp v).1
   have N:us[i]=u:=(HN.mp v).2
   have W:=V u (HE v)
   have O:∀p∈ps,p∈us:=fun p y=>List.mem_of_mem_take (r.mem_iff.mp y)
   have B:∀p∈ps,L9 p:=fun p y=>V p (O p y)
   have a0:ps.length=i:=by rw[r.length_eq,Ju];omega
   have nu:u∉ps:=fun y=>by
    have:=r.mem_iff.mp y
    obtain⟨j,G,Z⟩:=List.getElem_of_mem this
    have R:j<i:=by rw[Ju]at G;omega
    rw[List.getElem_take]at Z
    have:=List.pairwise_iff_getElem.mp nd j i () iu R
    exact this (Z.trans N.symm)
   refine⟨_,rfl,z,_,rfl,g,_,rfl,_,rfl,z,t,b,X,Y,ps,u,rfl,rfl,g,S,(),B,W,F,fun j G a c=>?_⟩
   obtain⟨i1,i2⟩:=C6 F G a fun i h1 U=>Aw (B _ (rP U)) W (fun e=>nu (e▸rP U)) (c i h1 U)
   refine⟨_,rfl,_,_,j,rfl,g,by rw[Hn];exact G,by rw[Hn];omega,fj ps j u,_,rfl,fun a o h=>?_,by rw[ai,ko],?_,i1⟩
   ·rw[aq (aA h C)];exact x _ _ h
   ·rw[J3,v];exact i2.trans ((List.Perm.cons u r).trans (List.perm_append_singleton u (us.take i)).symm)
 ·rintro δ n ⟨ps,L,rfl,x,g,r,F⟩;have e:us.take (us.map (Mh t b X Y)).length=us:=by rw[Hn,List.take_length]
  exact⟨_,rfl,n,.refl,k n z ps x C g (by rw[<-e];exact r) F⟩
theorem xE:Kv ["wall","spot"] ["wall","spot"] (ao sC):=by walk_at "sc"
inductive Ou(u v:D)(M:MH)(Q:DK):Prop
 |mk (n:Nat) (a b c d x y:Rat) (_:u=Kd a b c d) (_:v=Kn x y) (_:Kf n a) (_:Kf n b) (_:Kf n c) (_:Kf n d) (_:Kf n x) (_:Kf n y) (_:n<=100000) (_:Q (.bl (!decide (Kg x y a b)&&decide (Kg x y c d))) M)
theorem zF(T:Tx K mg):Cal P w K mg base 3 "spans" (L7 Ou):=by
 refine aU (k:=2) T.f_spans xE fun f cdv A outer s H E i=>⟨_,(ak (ay (k8 (rN (aj (cQ T).m i (aa (dv 1) (aa (aw (dv 0) af) ae)))) (kh (aj (cQ T).m i (aa (dv 1) (aa (aw (dv 0) af) ae))))))),fun _ _ M Q h=>?_⟩;obtain⟨n,a,b,c,d,x,y,rfl,rfl,o,p,r,hd,j,l,t,k⟩:=h;have e:∀{q:Rat},Kf n q->Kf 100000 q:=fun z=>z.mono t;(try dsimp only[SD.fg,SD.cZ,SD.aN,SD.fJ,SD.eW,SD.cX,SD.dw,SD.tBD,SD.fH,SD.EndsD.nxt,SD.EndsD.lp])
 exact ye (!decide (Kg x y a b)) (decide (Kg x y c d)) (fun K g=>⟨_,rfl,_,rfl,_,rfl,x,y,a,b,rfl,rfl,e j,e l,e o,e p,_,rfl,g⟩) (fun _ K g=>⟨_,rfl,_,rfl,_,rfl,x,y,c,d,rfl,rfl,e j,e l,e r,e hd,g⟩) (LL k)
theorem pC:Kv ["one","other"] ["one","other"] (ao ly):=by walk_at "sc"
inductive NU(x y:D)(M:MH)(Q:DK):Prop
 |mk (a b e f:Rat) (_:x=Kn a b) (_:y=Kn e f) (_:Kf 100000 a) (_:Kf 100000 b) (_:Kf 100000 e) (_:Kf 100000 f) (_:∀s:Rat×Rat,s=(if Kg e f a b then(a,b)else(e,f))->Q (Kn s.1 s.2) M)
theorem qR(T:Tx K mg):Cal P w K mg base 3 "later_of" (L7 NU):=by
 refine aU (k:=2) T.f_later_of pC fun f cdv A outer s H E c=>⟨_,(ak (ay (iO (cM (aj (cQ T).m c (aa (dv 1) (aa (dv 0) ae)))) (dv 0) (dv 1)))),fun _ _ M Q h=>?_⟩;obtain⟨a,b,e,f,rfl,rfl,h1,d,g,i,k⟩:=h;refine⟨_,rfl,_,rfl,e,f,a,b,rfl,rfl,g,i,h1,d,_,rfl,?_⟩;refine bD (fun h=>?_) (fun h=>?_)
 ·have z:Kg e f a b:=by simpa[Kg]using h
  have:=k (a,b) (by rw[KI z]);exact⟨_,rfl,LL this⟩
 ·have z:¬Kg e f a b:=by simpa[Kg]using h
  have:=k (e,f) (by rw[KH z]);exact⟨_,rfl,LL this⟩
theorem dW:Kv ["one","other","start","end","place","deciding"] ["one","other"] (ao jV):=by walk_at "sc"
inductive NX(u v:D)(M:MH)(Q:DK):Prop
 |mk (t b X Y:Int) (U V:Wl) (_:u=Kz t b X Y U) (_:v=Kz t b X Y V) (_:Lc t b X Y) (_:LD U) (_:LD V) (_:Q (.bl (LX U V)) M)
theorem rJ(T:Tx K mg):Cal P w K mg base 4 "is_above" (L7 NX):=by
 refine aU (k:=3) T.f_is_above dW fun f cdv A outer s H E x=>⟨_,(ag (fP 2 3 rfl dW.nd (aa (aj (qR T).m x (aa (aw (dv 0) af) (aa (aw (dv 1) af) ae))) (aa (aj (gX T).m x (aa (aw (dv 0) af) (aa (aw (dv 1) af) ae))) ae))) (ag (aW (gI (cM (aj (cQ T).m x (aa (dv 2) (aa (dv 3) ae))))) (ak (ay jt)) aK) (ag (br (iO (aM (cB x.units) (aw (dv 0) af) (aw (dv 1) af)) (aC (aa af (aa (dv 3) ae))) (aC (aa af (aa (dv 2) ae)))) (aY rfl (ax (av 4 dW.nd) (ax (av 5 dW.nd) aQ)))) (ag (aW (aM (cB x.units) (dv 5) (aw (dv 0) (dv 4))) (ak (ay (cJ (cB x.units) (aj (dk T).m x (aa (dv 1) (aa (dv 5) ae))) af))) aK) (ak (ay (cJ (cB x.units) (aj (dk T).m x (aa (dv 0) (aa (dv 5) ae))) (me f6 af)))))))),fun _ _ M Q h=>?_⟩;obtain⟨t,b,X,Y,U,V,rfl,rfl,S,g,i,k⟩:=h;have C:=S.t0;have F:=S.b0;have one:(0:Int)<1/\(1:Int)<=10^6:=⋯
 have W6:∀{z:Int},(0<=z/\z<=20)->(-(10^6)<=z/\z<=10^6):=fun{z} h=>()
 have bx:∀{z:Int},(0<=z/\z<=20)->Kf 200 (Ke t b X 1 z):=fun{z} h=>S.bx one (W6 h);have by':∀{z:Int},(0<=z/\z<=20)->Kf 200 (Ke t b Y 1 z):=fun{z} h=>S.by' one (W6 h)
 have n:∀{q:Rat},Kf 200 q->Kf 100000 q:=fun z=>z.mono ⋯
 have W:∃r u:Int,(if Kg (Ke t b X 1 V.1) (Ke t b Y 1 V.2.1) (Ke t b X 1 U.1) (Ke t b Y 1 U.2.1)then(Ke t b X 1 U.1,Ke t b Y 1 U.2.1)else(Ke t b X 1 V.1,Ke t b Y 1 V.2.1))=(Ke t b X 1 r,Ke t b Y 1 u)/\(0<=r/\r<=20)/\(0<=u/\u<=20)/\la r u=max (l1 U) (l1 V)/\((l1 V<l1 U/\r=U.1/\u=U.2.1)\/(¬l1 V<l1 U/\r=V.1/\u=V.2.1)):=by
  have z:=nj (X:=X) (Y:=Y) (p:=V.1) (q:=V.2.1) (e:=U.1) (f:=U.2.1) C F i.b g.b
  by_cases y:la V.1 V.2.1<la U.1 U.2.1
  ·exact⟨U.1,U.2.1,by rw[KI (z.mpr y)],g.a,g.b,by unfold l1;omega,.inl ⟨y,rfl,rfl⟩⟩
  ·exact⟨V.1,V.2.1,by rw[KH (fun q=>y (z.mp q))],i.a,i.b,by unfold l1;omega,.inr ⟨y,rfl,rfl⟩⟩
 have G:∃ex v:Int,(if Kg (Ke t b X 1 U.2.2.1) (Ke t b Y 1 U.2.2.2) (Ke t b X 1 V.2.2.1) (Ke t b Y 1 V.2.2.2)then(Ke t b X 1 U.2.2.1,Ke t b Y 1 U.2.2.2)else(Ke t b X 1 V.2.2.1,Ke t b Y 1 V.2.2.2))=(Ke t b X 1 ex,Ke t b Y 1 v)/\(0<=ex/\ex<=20)/\(0<=v/\v<=20)/\la ex v=min (l2 U) (l2 V)/\((l2 U<l2 V/\ex=U.2.2.1/\v=U.2.2.2)\/(¬l2 U<l2 V/\ex=V.2.2.1/\v=V.2.2.2)):=by
  have z:=nj (X:=X) (Y:=Y) (p:=U.2.2.1) (q:=U.2.2.2) (e:=V.2.2.1) (f:=V.2.2.2) C F g.d i.d
  by_cases y:la U.2.2.1 U.2.2.2<la V.2.2.1 V.2.2.2
  ·exact⟨U.2.2.1,U.2.2.2,by rw[KI (z.mpr y)],g.c,g.d,by unfold l2;omega,.inl ⟨y,rfl,rfl⟩⟩
  ·exact⟨V.2.2.1,V.2.2.2,by rw[KH (fun q=>y (z.mp q))],i.c,i.d,by unfold l2;omega,.inr ⟨y,rfl,rfl⟩⟩
 obtain⟨r,u,es,Z,I,ls,cs⟩:=W;obtain⟨ex,v,ee,a0,J,le,ce⟩:=G;refine⟨_,rfl,_,rfl,_,rfl,_,rfl,_,_,_,_,rfl,rfl,n (bx g.a),n (by' g.b),n (bx i.a),n (by' i.b),fun s1 c0=>?_⟩;rw[es]at c0;subst c0;refine⟨_,rfl,_,rfl,_,rfl,_,rfl,_,_,_,_,rfl,rfl,n (bx g.c),n (by' g.d),n (bx i.c),n (by' i.d),fun s2 d0=>?_⟩;rw[ee]at d0;subst d0;refine⟨_,_,rfl,?_⟩;refine⟨_,rfl,_,rfl,Ke t b X 1 r,Ke t b Y 1 u,Ke t b X 1 ex,Ke t b Y 1 v,rfl,rfl,n (bx Z),n (by' I),n (bx a0),n (by' J),_,rfl,?_⟩;have L:=nj (X:=X) (Y:=Y) (p:=r) (q:=u) (e:=ex) (f:=v) C F I J;rw[ls,le]at L;refine bD (fun h=>?_) (fun h=>?_)
 ·have N:¬(max (l1 U) (l1 V)<min (l2 U) (l2 V)):=fun z=>by
   have z':=L.mpr z
   unfold Kg at z'
   simp[z']at h
  have e:LX U V=KG:=by unfold LX;rw[KH N]
  rw[e]at k;exact LL k
 have N:max (l1 U) (l1 V)<min (l2 U) (l2 V):=L.mp (Decidable.byContradiction fun z=>h ((Bool.not_eq_true' _).mpr (KJ z)));dsimp only[SD.cX];refine cj (fun δ M'=>M'=M/\YG fun(pl j l O B:Int) (o2 o3:Option D)=>δ=[KA (Kz t b X Y U),KA (Kz t b X Y V),o2,o3,KA (.int pl),KA (Kn (Ke t b X 1 j) (Ke t b Y 1 l))]/\atI [Kn (Ke t b X 1 U.1) (Ke t b Y 1 U.2.1),Kn (Ke t b X 1 U.2.2.1) (Ke t b Y 1 U.2.2.2)] pl=KA (Kn (Ke t b X 1 O) (Ke t b Y 1 B))/\(0<=j/\j<=20)/\(0<=l/\l<=20)/\(0<=B/\B<=20)/\(la j l=la O B->decide (0<sd V j l)=LX U V)/\(la j l≠la O B->decide (sd U j l<0)=LX U V)) ?_ (fun hu=>?_);rotate_left
 ·refine⟨_,rfl,_,rfl,_,rfl,_,rfl,_,_,Pd.of rfl,Pd.of rfl,rfl,rfl,?_⟩;rw[Km];refine⟨_,rfl,?_⟩;have q1:=gV (X:=X) (Y:=Y) (p:=U.1) (q:=U.2.1) (e:=V.1) (f:=V.2.1) C F g.b i.b;refine bD (fun h=>?_) (fun h=>?_)
  ·have e1:l1 U=l1 V:=q1.mp (by simpa using h);refine⟨_,rfl,LB rfl,?_⟩;refine⟨_,rfl,rfl,_,_,rfl,_,_,rfl,rfl,?_⟩;refine hu _ _ ⟨rfl,1,ex,v,U.2.2.1,U.2.2.2,_,_,rfl,rfl,a0,J,g.d,fun z=>?_,fun z=>?_⟩
   ·rcases ce with⟨o,rfl,rfl⟩|⟨o,rfl,rfl⟩
    ·unfold LX;rw[KI N,KI e1,KI o];rfl
    ·have y1:LN U V=0:=pW g i z.symm;have y2:sd V V.2.2.1 V.2.2.2=0:=pW i i rfl;unfold LX;rw[KI N,KI e1,KH o,y1,y2]
   ·rcases ce with⟨o,rfl,rfl⟩|⟨o,rfl,rfl⟩
    ·exact absurd rfl z
    ·unfold LX;rw[KI N,KI e1,KH o];rfl
  ·have e1:¬l1 U=l1 V:=fun z=>h (by simpa using q1.mpr z);refine⟨_,rfl,LB rfl,?_⟩;refine⟨_,rfl,rfl,_,_,rfl,_,_,rfl,rfl,?_⟩;refine hu _ _ ⟨rfl,0,r,u,U.1,U.2.1,_,_,rfl,rfl,Z,I,g.b,fun z=>?_,fun z=>?_⟩
   ·rcases cs with⟨o,rfl,rfl⟩|⟨o,rfl,rfl⟩
    ·unfold LX;rw[KI N,KH e1,KI o];rfl
    ·exact absurd z.symm e1
   ·rcases cs with⟨o,rfl,rfl⟩|⟨o,rfl,rfl⟩
    ·exact absurd rfl z
    ·unfold LX;rw[KI N,KH e1,KH o];rfl
 rintro δ M' ⟨rfl,pl,j,l,O,B,o2,o3,rfl,f0,e0,R,g0,c1,c2⟩;refine⟨_,rfl,_,rfl,_,rfl,_,f0,_,_,Pd.of rfl,Pd.of rfl,rfl,rfl,?_⟩;rw[Km];have q2:=gV (X:=X) (Y:=Y) (p:=j) (q:=l) (e:=O) (f:=B) C F R g0;refine⟨_,rfl,?_⟩;refine bD (fun h=>?_) (fun h=>?_)
 ·have z:la j l=la O B:=q2.mp (by simpa using h);refine⟨_,rfl,_,rfl,200,_,_,_,_,_,_,rfl,rfl,bx i.a,by' i.b,bx i.c,by' i.d,bx e0,by' R,⋯,?_⟩;rw[iD C F];have e:decide (HQ (sd V j l)=1)=LX U V:=by rw[<-c1 z,KN];exact Yt _
  show Po Q (.bl (decide _)) _;rw[e];exact LL k
 ·have z:la j l≠la O B:=fun q=>h (by simpa using q2.mpr q);refine⟨_,rfl,_,rfl,200,_,_,_,_,_,_,rfl,rfl,bx g.a,by' g.b,bx g.c,by' g.d,bx e0,by' R,⋯,?_⟩;rw[iD C F];have e:decide (HQ (sd U j l)=-1)=LX U V:=by rw[<-c2 z,KN];exact GD _
  show Po Q (.bl (decide _)) _;rw[e];exact LL k
theorem fQ:Kv ["top","bottom","divisor"] ["top","bottom"] (ao kL):=by walk_at "sc"
inductive NY(x y:D)(M:MH)(Q:DK):Prop
 |mk (t:_) (b:_) (_:x=.int t) (_:y=.int b) (_:b≠0) (_:Bd 8000 t) (_:Bd 8000 b) (_:Q (Kp (Rat.divInt t b)) M)
theorem dn(T:Tx K mg):Cal P w K mg base 2 "fraction" (L7 NY):=by
 refine aU (k:=1) T.f_fraction fQ fun f cdv A outer s H E e=>⟨_,(ag (aW (aM (cB e.units) (dv 1) af) (ak pE) aK) (ag (az 2 fQ.nd (aj (dF T).m e (aa (aG qg rfl T.b_abs qA (aa (dv 0) ae)) (aa (aG qg rfl T.b_abs qA (aa (dv 1) ae)) ae)))) (ag (aW (aM (bZ e.units) (dv 1) af) (ak (az 2 fQ.nd (me f6 (dv 2)))) aK) (ak (ay (aC (aa (au fD (dv 0) (dv 2)) (aa (au fD (dv 1) (dv 2)) ae)))))))),fun _ _ M Q h=>?_⟩;obtain⟨t,b,rfl,rfl,i,j,g,q⟩:=h;have l:=Ma.d4 (t:=t) i;have a:Bd 8000 ((JV t.natAbs b.natAbs:Nat):Int):=g.of_le (by simpa using Nat.gcd_le_right t.natAbs (():0<b.natAbs));refine⟨_,rfl,_,rfl,lY (KJ i) ?_⟩;refine⟨_,rfl,_,rfl,t.natAbs,b.natAbs,rfl,rfl,?_⟩;refine⟨_,rfl,trivial,_,rfl,?_⟩;refine bD (fun h=>?_) (fun h=>?_)
 ·have c:b<0:=by simpa using h
  obtain⟨e1,e2⟩:=Ma.AW (t:=t) c;refine⟨_,rfl,_,rfl,_,rfl,⟨(),a.neg⟩,_,rfl,_,rfl,⟨(),a.neg⟩,LB rfl,?_⟩;dsimp only;rw[e1,e2];exact LL q
 ·have d:0<b:=by
   have:¬b<0:=by simpa using h
   omega
  obtain⟨e1,e2⟩:=Ma.sH (t:=t) d;refine⟨_,rfl,_,rfl,⟨(),a⟩,_,rfl,_,rfl,⟨(),a⟩,LB rfl,?_⟩;dsimp only;rw[e1,e2];exact LL q
theorem fL:Kv ["spot","x","y"] ["spot"] (ao jR):=by walk_at "sc"
inductive NJ(x:D)(M:MH)(Q:DK):Prop
 |mk (a b:Rat) (_:x=Kn a b) (_:Kf 8000 a) (_:Kf 8000 b) (_:Q (Kn a b) M)
theorem lh(T:Tx K mg):Cal P w K mg base 3 "own_spot" (Nh NJ):=by refine fv (k:=2) T.f_own_spot fL fun f cdv A outer s H E c=>⟨_,(ag (br (dv 0) (aY rfl (ax (av 1 fL.nd) (ax (av 2 fL.nd) aQ)))) (ak (ay (aC (aa (aj (dn T).m c (aa (aw (dv 1) af) (aa (aw (dv 1) af) ae))) (aa (aj (dn T).m c (aa (aw (dv 2) af) (aa (aw (dv 2) af) ae))) ae)))))),fun _ M Q h=>?_⟩;obtain⟨a,b,rfl,h1,d,k⟩:=h;refine⟨_,rfl,_,rfl,rfl,_,_,rfl,_,_,rfl,rfl,?_⟩;refine⟨_,rfl,_,rfl,_,rfl,_,rfl,a.num,(a.den:Int),rfl,rfl,Kr a,h1.1,h1.2,?_⟩;refine⟨_,rfl,_,rfl,_,rfl,_,rfl,b.num,(b.den:Int),rfl,rfl,Kr b,d.1,d.2,LB rfl,?_⟩;rw[Jw,Jw];exact LL k
theorem pD:Kv ["wall"] ["wall"] (ao kW):=by walk_at "sc"
inductive NI(x:D)(M:MH)(Q:DK):Prop
 |mk (a b c d:Rat) (_:x=Kd a b c d) (_:Kf 8000 a) (_:Kf 8000 b) (_:Kf 8000 c) (_:Kf 8000 d) (_:Q (Kd a b c d) M)
theorem qt(T:Tx K mg):Cal P w K mg base 4 "own_wall" (Nh NI):=by refine fv (k:=3) T.f_own_wall pD fun f cdv A outer s H E e=>⟨_,(ak (ay (aC (aa (aj (lh T).m e (aa (aw (dv 0) af) ae)) (aa (aj (lh T).m e (aa (aw (dv 0) af) ae)) ae))))),fun _ M Q h=>?_⟩;obtain⟨a,b,c,d,rfl,h1,g,i,j,k⟩:=h;exact⟨_,rfl,_,rfl,a,b,rfl,h1,g,_,rfl,_,rfl,c,d,rfl,i,j,LB rfl,LL k⟩
theorem dO:Kv ["walls","upper","wall"] ["walls"] (ao kj):=by walk_at "sc"
inductive NF(u:D)(M:MH)(Q:DK):Prop
 |mk (a:Addr) (t b X Y:Int) (us:List Wl) (top:Wl) (_:u=.ref a) (_:M a=KA (.lst (us.map (Kz t b X Y)))) (_:Lc t b X Y) (_:(∀w∈us,LD w)) (_:top∈us) (_:(∀w∈us,w=top\/(LX top w=KD/\LX w top=KG))) (_:Q (Kz t b X Y top) M)
theorem qZ(T:Tx K mg):Cal P w K mg base 5 "upper_of" (Nh NF):=by
 refine fv (k:=4) T.f_upper_of dO fun f cdv A outer s H E C=>⟨_,(ag (az 1 dO.nd (aw (dv 0) af)) (ag (bA HP rfl (aS (dv 0)) (av 2 dO.nd) (ak (aW (cM (aj (rJ T).m C (aa (dv 2) (aa (dv 1) ae)))) (ak (az 1 dO.nd (dv 2))) aK))) (ak (ay (aj (qt T).m C (aa (dv 1) ae)))))),fun _ M Q h=>?_⟩;obtain⟨a,t,b,X,Y,us,top,rfl,u,S,x,D,F,k⟩:=h;cases us with
 |nil=>cases D
 |cons g us=>
  refine⟨_,rfl,_,_,u,bj (j:=0) (v:=Kz t b X Y g) rfl,?_⟩
  refine⟨_,rfl,(g::us).map (Kz t b X Y),u,?_⟩
  refine⟨fun i δ p=>p=M/\QN fun l y=>δ=[KA (.ref a),KA (Kz t b X Y l),y]/\l∈g::us/\(top∈(g::us).take i->l=top),⟨rfl,g,_,rfl,by simp,fun z=>by simp at z⟩,fun i δ p _ z=>by obtain⟨rfl,_⟩:=z;exact u,?_,?_⟩
  ·rintro i d δ p L hd ⟨rfl,l,y,rfl,n,o⟩;have hd:((g::us).map (Kz t b X Y))[i]?=KA d:=hd;rw[Ht]at hd;cases r:(g::us)[i]? with
   |none=>rw[r]at hd;cases hd
   |some w=>
    rw[r]at hd
    cases hd
    have B:w∈g::us:=HE r
    have G:∀z,z∈(g::us).take (i+1)->z∈(g::us).take i\/z=w:=fun z I=>by rw[J3,r]at I;simpa using I
    refine⟨_,rfl,_,rfl,t,b,X,Y,w,l,rfl,rfl,S,x w B,x l n,_,rfl,?_⟩
    refine bD (fun h=>?_) (fun h=>?_)
    ·refine⟨_,rfl,rfl,w,_,rfl,B,fun z=>?_⟩;rcases G _ z with z|z
     ·have:=o z;subst this;rcases F w B with q|q
      ·exact q
      ·rw[q.2]at h;cases h
     ·exact z.symm
    ·refine⟨rfl,l,_,rfl,n,fun z=>?_⟩;rcases G _ z with z|z
     ·exact o z
     ·subst z;rcases F l n with q|q
      ·exact q
      ·exact absurd q.1 h
  ·rintro δ p ⟨rfl,l,y,rfl,n,o⟩;have e:l=top:=o (by show top∈(g::us).take ((g::us).map (Kz t b X Y)).length;rw[IP (by simp)];exact D);subst e;have W:=x l n;have one:(0:Int)<1/\(1:Int)<=10^6:=⋯
   have J:∀{z:Int},(0<=z/\z<=20)->(-(10^6)<=z/\z<=10^6):=fun{z} h=>()
   have bx:∀{z:Int},(0<=z/\z<=20)->Kf 8000 (Ke t b X 1 z):=fun{z} h=>(S.bx one (J h)).mono ⋯;have by':∀{z:Int},(0<=z/\z<=20)->Kf 8000 (Ke t b Y 1 z):=fun{z} h=>(S.by' one (J h)).mono ⋯
   exact⟨_,rfl,_,_,_,_,rfl,bx W.a,by' W.b,bx W.c,by' W.d,LL k⟩
theorem fK:Kv ["walls","spot","below"] ["walls","spot"] (ao gv):=by walk_at "sc"
inductive MP(u v:D)(M:MH)(Q:DK):Prop
 |mk (t b X Y p q m:Int) (ws:List Wl) (_:u=.tup (ws.map (Kz t b X Y))) (_:v=Kn (Ke t b X m p) (Ke t b Y m q)) (_:Lc t b X Y) (_:(∀w∈ws,LD w)) (_:ws.length<=40) (_:(-1000<=p/\p<=1000)) (_:(-10<=q/\q<=85)) (_:(0<m/\m<=4)) (_:(bK ws m p q=[]->Q .non M)) (_:(∀tt∈bK ws m p q,(∀w∈(bK ws m p q).map (LK ws),w=LK ws tt\/(LX (LK ws tt) w=KD/\LX w (LK ws tt)=KG))->Q (Kz t b X Y (LK ws tt)) M)) (_:(bK ws m p q≠[]->∃tt∈bK ws m p q,∀w∈(bK ws m p q).map (LK ws),w=LK ws tt\/(LX (LK ws tt) w=KD/\LX w (LK ws tt)=KG)))
theorem lT(T:Tx K mg):Cal P w K mg base 6 "upper_below" (L7 MP):=by
 refine aU (k:=5) T.f_upper_below fK fun f cdv A outer s H E y=>⟨_,(ag (eo 2 fK.nd (Kw.of (xs:=["wall"]) (js:=[1]) rfl) rfl (aS (dv 0)) (fun _ _ _ _=>(As (nZ (kS (cM (aj (zF T).m y (aa (dv 0) (aa (dv 1) ae)))) (gY (aM (cB y.units) (aj (dk T).m y (aa (dv 0) (aa (dv 1) ae))) af)))))) (fun _ _ _ _=>(dv 0))) (ak (ay (iO (Dt (dv 2)) (aj (qZ T).m y (aa (dv 2) ae)) iS)))),fun _ _ M Q h=>?_⟩;obtain⟨t,b,X,Y,p,q,m,ws,rfl,rfl,S,L,N,hp,O,F,k0,k1,ex⟩:=h;have G:(ws.map (Kz t b X Y)).length=ws.length:=by simp
 have one:(0:Int)<1/\(1:Int)<=10^6:=⋯
 have i:(0:Int)<m/\m<=10^6:=()
 have R:∀{z:Int},(0<=z/\z<=20)->(-(10^6)<=z/\z<=10^6):=fun{z} h=>()
 have bx:∀{z:Int},(0<=z/\z<=20)->Kf 200 (Ke t b X 1 z):=fun{z} h=>S.bx one (R h);have by':∀{z:Int},(0<=z/\z<=20)->Kf 200 (Ke t b Y 1 z):=fun{z} h=>S.by' one (R h)
 have U:Kf 200 (Ke t b X m p):=S.bx i ();have V:Kf 200 (Ke t b Y m q):=S.by' i ();refine⟨_,rfl,ws.map (Kz t b X Y),rfl,zL (fun j=>if bB ws m p q j=KD then KA (Kz t b X Y (LK ws (j:Int)))else KC) (by show(ws.map (Kz t b X Y)).length<=1000000;rw[G];omega) (fun _ _ _=>rfl) ?_ (fun Z n=>?_)⟩
 ·intro a d M6 ha hd sb;have hd:(ws.map (Kz t b X Y))[a]?=KA d:=hd;have ha:a<ws.length:=by have:a<(ws.map (Kz t b X Y)).length:=ha;omega
  obtain⟨w1,w2,w3⟩:=bE (ws:=ws) (k:=(a:Int)) () ();have I:ws[a]?=KA (LK ws (a:Int)):=by simpa using w1
  rw[Ht,I]at hd;cases hd;have W:=L _ w3
  have s1:(!decide (Kg (Ke t b X m p) (Ke t b Y m q) (Ke t b X 1 (LK ws (a:Int)).1) (Ke t b Y 1 (LK ws (a:Int)).2.1))&&decide (Kg (Ke t b X m p) (Ke t b Y m q) (Ke t b X 1 (LK ws (a:Int)).2.2.1) (Ke t b Y 1 (LK ws (a:Int)).2.2.2)))=QF ws m (la p q) a:=by
   unfold QF;rw[decide_eq_decide.mpr (xD S.t0 S.b0 F O W.b),decide_eq_decide.mpr (xD S.t0 S.b0 F O W.d),<-decide_not]
   congr 1
   rw[KN];unfold l1;omega
  refine⟨_,rfl,fun K B=>?_,fun v C K B=>?_⟩
  ·have o:K (bB ws m p q a) M6:=by cases z:bB ws m p q a<;>rw[z]at B<;>exact B
   unfold bB at o;refine vG (QF ws m (la p q) a) (decide (HQ (sd (Vq m (LK ws (a:Int))) p q)=1)) (fun K' g=>⟨_,rfl,_,rfl,200,_,_,_,_,_,_,rfl,rfl,bx W.a,by' W.b,bx W.c,by' W.d,U,V,⋯,?_⟩) (fun _ K' g=>⟨_,rfl,_,rfl,200,_,_,_,_,_,_,rfl,rfl,bx W.a,by' W.b,bx W.c,by' W.d,U,V,⋯,_,rfl,?_⟩) o
   ·rw[s1];exact⟨_,rfl,g⟩
   ·rw[Az S.t0 S.b0 F.1];exact g
  ·cases z:bB ws m p q a with
   |false=>rw[z]at C;cases C
   |true=>
    rw[z]at C
    cases C
    exact⟨_,rfl,B _ .refl⟩
 dsimp only;rw[vA];refine⟨_,rfl,Z,_,rfl,ai,?_⟩;by_cases D:bK ws m p q=[]
 ·rw[D];exact lY rfl ⟨_,.new n .refl,k0 D⟩
 ·obtain⟨J,r,e⟩:=ex D
  refine mY (by
   cases z:bK ws m p q with
   |nil=>exact absurd z D
   |cons a l=>rfl) ?_
  have u:∀k∈bK ws m p q,0<=k/\k<ws.length:=fun k x=>⟨(f7 (gK x)).1,(f7 (gK x)).2.1⟩;refine⟨_,rfl,Z,t,b,X,Y,(bK ws m p q).map (LK ws),LK ws J,rfl,ai,S,fun w hw=>?_,IU.mpr ⟨J,r,rfl⟩,e,⟨_,.new n .refl,k1 J r e⟩⟩;obtain⟨kk,x,rfl⟩:=IU.mp hw;exact L _ (bE (u kk x).1 (u kk x).2).2.2
theorem gu:Kv ["plot","lands","corner","wall"] ["plot","lands","corner"] (ao g9):=by walk_at "sc"
inductive Md(u v x:D)(M:MH)(Q:DK):Prop
 |mk (t b X Y:Int) (ws:List Wl) (l:Addr) (L:List Int) (c:Vc) (_:u=.tup (ws.map (Kz t b X Y))) (_:v=.ref l) (_:x=Mh t b X Y c) (_:M l=KA (.lst (L.map D.int))) (_:L.length=2*ws.length) (_:Lc t b X Y) (_:(∀w∈ws,LD w)) (_:PF ws) (_:ws.length<=40) (_:L9 c) (_:Q (.int (PL ws L c)) M)
theorem nI(T:Tx K mg):Cal P w K mg base 7 "land_about" (QG Md):=by
 refine oH (k:=6) T.f_land_about gu fun f cdv A outer s H E r=>⟨_,(ag (az 3 gu.nd (aj (lT T).m r (aa (dv 0) (aa (dv 2) ae)))) (ak (ay (iO (aM Bz (dv 3) iS) af (aw (dv 1) (au aF af (qU (nC r) (dv 0) (aa (dv 3) ae)))))))),fun _ _ _ M Q h=>?_⟩;obtain⟨t,b,X,Y,ws,l,L,c,rfl,rfl,rfl,z,I,S,j,hF,n,u,k⟩:=h;have ex:bK ws 1 c.1 c.2≠[]->∃a∈bK ws 1 c.1 c.2,∀w∈(bK ws 1 c.1 c.2).map (LK ws),w=LK ws a\/(LX (LK ws a) w=KD/\LX w (LK ws a)=KG):=fun B=>by obtain⟨a,h1,q,_⟩:=xo j hF (show(0:Int)<1 by decide) (fun k C=>gK C) B (oy _ _ _ _);exact⟨a,h1,q⟩
 have J:=u.1;have N:=u.2;refine⟨_,rfl,_,rfl,t,b,X,Y,c.1,c.2,1,ws,rfl,rfl,S,j,n,(),(),⋯,(fun F=>?_),(fun a d o=>?_),ex⟩
 ·have k:Q (.int 0) M:=by unfold PL at k;rw[KI F]at k;exact k
  exact⟨_,rfl,_,rfl,_,rfl,mY rfl (LL k)⟩
 ·have sp:=f7 (gK d);obtain⟨x,O,G⟩:=bE sp.1 sp.2.1;have tn:a.toNat<ws.length:=()
  have k:Q (.int ((L[2*a.toNat]?).getD 0)) M:=by unfold PL at k;rw[KH (List.ne_nil_of_mem d),yU j hF d o]at k;exact k
  have q:2*a.toNat<L.length:=()
  rw[Hl q]at k;refine⟨_,rfl,_,rfl,_,rfl,lY rfl ?_⟩;refine⟨_,rfl,_,rfl,_,rfl,_,rfl,_,PZ t b X Y (LK ws a),a.toNat,rfl,(by simp;omega),Pd.of rfl,rfl,fun i y R p=>?_,?_⟩
  ·rw[Ht]at p;cases g:ws[i]? with
   |none=>rw[g]at p;cases p
   |some U=>
    rw[g]at p
    cases p
    refine⟨PZ t b X Y U,Pd.of rfl,rfl,?_⟩
    by_cases e:i=a.toNat
    ·subst e;rw[x]at g;cases g;rw[vt,KL rfl]
    ·rw[KJ e];exact BN S.t0 S.b0 (j _ (HE g)) (j _ G) (hF i a.toNat _ _ e g x).ne
  ·refine⟨aL (bC ⋯),_,_,z,(by rw[show(2:Int)*((a.toNat:Nat):Int)=((2*a.toNat:Nat):Int) by omega];exact bj (v:=D.int L[2*a.toNat]) (by rw[Ht,Hl q];rfl)),LL k⟩
theorem aI:Kv ["plot","outers","inners","lands","number","ring","face","ring_at","corner","land"] ["plot"] (ao d9):=by walk_at "sc"
inductive Lu(u:D)(M:MH)(Q:DK):Prop
 |mk (t b X Y:Int) (ws:List Wl) (_:u=.tup (ws.map (Kz t b X Y))) (_:Lc t b X Y) (_:ws.length<=40) (_:(∀w∈ws,LD w)) (_:PF ws) (_:∀(M':MH) (z:Addr) (L:List Int),SD.Sub M M'->M z=KC->M' z=KA (.lst (L.map D.int))->cR ws L->Q (.ref z) M')
theorem iT(T:Tx K mg):Cal P w K mg base 9 "lands_of_faces" (Nh Lu):=by
 refine fv (k:=8) T.f_lands_of_faces aI fun f cdv A outer s H E O=>⟨_,(ag (br (aj (dM T).m O (aa (dv 0) ae)) (aY rfl (ax (av 1 aI.nd) (ax (av 2 aI.nd) aQ)))) (ag (az 3 aI.nd (au zb (bw (aa af ae)) (au aF af (aG bP rfl T.b_len bR (aa (dv 0) ae))))) (ag (bA HP rfl (xg rfl T.b_enumerate (aa (dv 1) ae)) (aY rfl (ax (av 4 aI.nd) (ax (av 5 aI.nd) aQ))) (ak (bA HP rfl (aS (dv 5)) (av 6 aI.nd) (ak (br (dv 4) (nh (dv 3) (dv 6))))))) (ag (ve 7 aI.nd (nC O) (Kw.of (xs:=["ring"]) (js:=[0]) rfl) rfl (aS (dv 2)) (fun _ _ _ _=>cu) (fun _ _ _ _=>(aj (kQ T).m O (aa (dv 1) (aa (dv 0) ae)))) (fun _ _ _ _=>(dv 0))) (ag (bA HP rfl (aS (aj (lV T).m O (aa (fY (xN rfl) rfl T.b_list yP (aa (dv 7) ae)) ae))) (av 8 aI.nd) (ag (az 9 aI.nd (aj (nI T).m O (aa (dv 0) (aa (dv 3) (aa (dv 8) ae))))) (ak (bA HP rfl (aS (oS (nC O) (dv 7) (dv 8) (by intro _ _;with_unfolding_all rfl))) (av 6 aI.nd) (ak (br (dv 9) (nh (dv 3) (dv 6)))))))) (ak (ay (dv 3)))))))),fun _ M Q h=>?_⟩;obtain⟨t,b,X,Y,ws,rfl,S,U,hU,hF,k⟩:=h;have e0:(ws.map (Kz t b X Y)).length=ws.length:=by simp
 refine⟨_,rfl,t,b,X,Y,ws,rfl,S,U,hU,hF,fun M1 lo li ps qs rs m0 R ho hi RO RI m1 n1 o1=>?_⟩;refine⟨_,rfl,rfl,_,_,rfl,_,_,rfl,rfl,?_⟩;have RO:=RO;generalize J:rs.filter (aJ ws)=l at RO;generalize N:(rs.filter fun r=>!aJ ws r)=ins at RI;have d0:=gi hU hF (Hq _) R;have p1:=eT R;have q1:l.length<=80:=by rw[<-J];have:=II (aJ ws) rs;omega
 have r1:ins.length<=80:=by rw[<-N];have:=II (fun r=>!aJ ws r) rs;omega
 have n0:∀r∈l,YD ws r:=fun r O=>d0 r (by rw[<-J]at O;exact(Ig.mp O).1);have V:∀r∈ins,YD ws r:=fun r O=>d0 r (by rw[<-N]at O;exact(Ig.mp O).1);have b1:=RO.len;have c1:=RI.len;refine⟨LB rfl,fun z0 o0=>⟨_,rfl,aL (bC ⋯),.int 0,ai,by rw[e0];omega,by rw[e0];omega,fun z hz=>?_⟩⟩;have W:SD.Sub M1 (ar (ar M1 z0 (.lst [.int 0])) z (.lst (HY ((2:Int)*((ws.map (Kz t b X Y)).length:Nat)).toNat (.int 0)))):=.new hz (.new o0 .refl);have r0:(ar (ar M1 z0 (.lst [.int 0])) z (.lst (HY ((2:Int)*((ws.map (Kz t b X Y)).length:Nat)).toNat (.int 0)))) z=KA (.lst ((fO (2*ws.length) l 0).map D.int)):=by rw[ai,e0,show((2:Int)*(ws.length:Nat)).toNat=2*ws.length by omega,fO,List.map_replicate]
 have nz:∀{a o},M1 a=KA o->a≠z:=fun h e=>by
  subst e
  have h0:=SD.Sub.new (o:=.lst [.int 0]) o0 .refl _ _ h
  rw[hz]at h0;cases h0
 have fz:M z=KC:=by
  cases e:M z with
  |none=>rfl
  |some o=>exact absurd rfl (nz (m0 _ _ e))
 generalize ar (ar M1 z0 (.lst [.int 0])) z (.lst (HY ((2:Int)*((ws.map (Kz t b X Y)).length:Nat)).toNat (.int 0)))=M2 at W r0 ⊢;(try dsimp only[SD.aN])
 refine cj (fun δ y=>∃o4 o5 I:Option D,δ=[KA (.tup (ws.map (Kz t b X Y))),KA (.ref lo),KA (.ref li),KA (.ref z),o4,o5,I,KC,KC,KC]/\(∀c,c≠z->y c=M2 c)/\y z=KA (.lst ((fO (2*ws.length) l l.length).map D.int))) ?_ (fun hu=>?_);rotate_left
 ·refine⟨_,rfl,lo,ps.map D.ref,rfl,W _ _ ho,fun i δ y=>∃o4 o5 I:Option D,δ=[KA (.tup (ws.map (Kz t b X Y))),KA (.ref lo),KA (.ref li),KA (.ref z),o4,o5,I,KC,KC,KC]/\(∀c,c≠z->y c=M2 c)/\y z=KA (.lst ((fO (2*ws.length) l i).map D.int)),⟨_,_,_,rfl,fun _ _=>rfl,r0⟩,fun i δ y _ q=>by obtain⟨_,_,_,_,q,_⟩:=q;show y lo=_;rw[q lo (nz ho)];exact W _ _ ho,?_,?_⟩
  ·rintro i d δ y hi hd ⟨o4,o5,I,rfl,kM,v⟩;have hi:i<ps.length:=by have:i<(ps.map D.ref).length:=hi;simpa using this
   have hd:((ps.map D.ref)[i]?).map (fun d=>D.tup [.int ((i+1:Nat):Int),d])=KA d:=hd;rw[Ht,Hl hi]at hd;cases hd;obtain⟨r,er,f0⟩:=RO.get hi;have A:=n0 r (HE er);have Z:M2 ps[i]=KA (.lst (r.map fun g:Nat=>D.int (g:Int))):=W _ _ f0;refine⟨_,rfl,rfl,_,_,rfl,_,_,rfl,rfl,?_⟩;(try dsimp only[SD.aN])
   refine P8 fun B hB=>?_;refine⟨_,rfl,r.map (fun g:Nat=>D.int (g:Int)),(by show y ps[i]=_;rw[kM _ (nz f0)];exact Z),fun j δ u=>∃I:Option D,δ=[KA (.tup (ws.map (Kz t b X Y))),KA (.ref lo),KA (.ref li),KA (.ref z),KA (.int ((i+1:Nat):Int)),KA (.ref ps[i]),I,KC,KC,KC]/\(∀c,c≠z->u c=M2 c)/\u z=KA (.lst ((gQ (fO (2*ws.length) l i) r ((i+1:Nat):Int) j).map D.int)),⟨_,rfl,kM,v⟩,fun j δ u _ q=>by obtain⟨_,_,q,_⟩:=q;show u ps[i]=_;rw[q _ (nz f0)];exact Z,?_,?_⟩
   ·rintro j d δ u hj hd ⟨I,rfl,L,n⟩;have hj:j<r.length:=by have:j<(r.map fun g:Nat=>D.int (g:Int)).length:=hj;simpa using this
    have hd:(r.map fun g:Nat=>D.int (g:Int))[j]?=KA d:=hd;rw[Ht,Hl hj]at hd;cases hd;refine⟨_,rfl,_,rfl,_,rfl,_,r[j],n,sF (by rw[Hn,gh,kR];exact A.lt _ (Iz hj)),?_⟩;exact⟨_,rfl,fun c hc=>by rw[aq hc];exact L c hc,by rw[ai,lD (Hl hj),List.map_set]⟩
   ·rintro δ u ⟨I,rfl,L,n⟩;have n:u z=KA (.lst ((gQ (fO (2*ws.length) l i) r ((i+1:Nat):Int) (r.map fun g:Nat=>D.int (g:Int)).length).map D.int)):=n;rw[Hn]at n;exact hB _ _ ⟨_,_,_,rfl,L,by rw[n,fO,er];rfl⟩
  ·rintro δ y ⟨o4,o5,I,rfl,kM,v⟩;have v:y z=KA (.lst ((fO (2*ws.length) l (ps.map D.ref).length).map D.int)):=v;rw[Hn,b1]at v;exact hu _ _ ⟨_,_,_,rfl,kM,v⟩
 rintro δ M3 ⟨o4,o5,I,rfl,d1,g0⟩;have G:∀{a o},M1 a=KA o->M3 a=KA o:=fun{a o} h=>by rw[d1 a (nz h)];exact W _ _ h
 refine⟨_,rfl,qs.map D.ref,G hi,by show(qs.map D.ref).length<=900000;rw[Hn];omega,fun p hp=>?_⟩;have np:∀{a o},M3 a=KA o->a≠p:=fun h=>aA h hp;refine⟨fun i kvs y=>Pp t b X Y ws ins qs i kvs/\y=ar M3 p (MV kvs),⟨Pp.nil ..,rfl⟩,fun i kvs y _ q=>by obtain⟨_,rfl⟩:=q;show(ar M3 p _) li=_;rw[aq (np (G hi))];exact G hi,?_,?_⟩
 ·rintro i kvs d y C hd ⟨RD,rfl⟩;have C:i<qs.length:=by have:i<(qs.map D.ref).length:=C;simpa using this
  have hd:(qs.map D.ref)[i]?=KA d:=hd;rw[Ht,Hl C]at hd;cases hd;obtain⟨r,er,s0⟩:=RI.get C;have A:=V r (HE er);refine⟨_,rfl,?_⟩;dsimp only[SD.cO];refine lG ?_;refine⟨_,rfl,_,rfl,t,b,X,Y,ws,qs[i],r,rfl,rfl,(by rw[aq (np (G s0))];exact G s0),S,hU,U,A.pos,A.lt,?_⟩;refine⟨_,rfl,gk t b X Y (fc ws r),wR ..,ai,?_,RD.put S.t0 S.b0 er (Hl C),by rw[bH]⟩;have:=congrArg List.length RD.ks;rw[Hn,Hn]at this;have:=iC ws ins i;omega
 rintro kvs M4 ⟨RD,rfl⟩;have RD:Pp t b X Y ws ins qs (qs.map D.ref).length kvs:=RD;rw[Hn,c1]at RD;have a0:(ar M3 p (MV kvs)) z=KA (.lst ((fO (2*ws.length) l l.length).map D.int)):=by rw[aq (np g0)];exact g0
 have i0:∀{a o},M1 a=KA o->(ar M3 p (MV kvs)) a=KA o:=fun{a o} h=>by rw[aq (np (G h))];exact G h
 have j0:(ar M3 p (MV kvs)) p=KA (MV kvs):=ai
 have fp:M1 p=KC:=by
  cases e:M1 p with
  |none=>rfl
  |some o=>rw[G e]at hp;cases hp
 generalize ar M3 p (MV kvs)=M4 at a0 i0 j0 ⊢;refine⟨_,rfl,.inr ⟨p,kvs,rfl,j0,fun p2 Z=>?_⟩⟩
 have ek:kvs.map (fun x=>Ng x.1)=(b7 ws ins ins.length).map (Mh t b X Y):=by
  have:=congrArg (Jc Ng) RD.ks
  rw[List.map_map,List.map_map]at this
  exact this
 have kb:∀c∈b7 ws ins ins.length,L9 c:=fun c hc=>by
  obtain⟨j,_,hj,e⟩:=iG hc
  rw[Hl hj]at e
  have A:=V _ (Iz hj)
  rw[<-e]
  exact nT hU A.lt A.pos _ (Hq _)
 have kl:=iC ws ins ins.length;refine⟨p2,t,b,X,Y,b7 ws ins ins.length,rfl,(by rw[ai,ek]),S,(),kb,jq ws ins _,fun M5 zc F e1 k0 u0 pm up=>?_⟩;have c0:∀{a o},M4 a=KA o->M5 a=KA o:=fun{a o} h=>e1 _ _ (by rw[aq (aA h Z)];exact h);have f1:=c0 a0;have g1:=c0 j0;have i1:zc≠z:=fun e=>by subst e;rw[aq (aA a0 Z)]at k0;rw[a0]at k0;cases k0
 have j1:p≠z:=fun e=>by subst e;rw[g0]at hp;cases hp
 refine⟨_,u0,?_⟩;refine⟨fun i δ y=>∃I o8 o9:Option D,δ=[KA (.tup (ws.map (Kz t b X Y))),KA (.ref lo),KA (.ref li),KA (.ref z),o4,o5,I,KA (.ref p),o8,o9]/\(∀c,c≠z->y c=M5 c)/\y z=KA (.lst ((fS ws ins (fO (2*ws.length) l l.length) F i).map D.int)),⟨_,_,_,rfl,fun _ _=>rfl,f1⟩,fun i δ y _ q=>by obtain⟨_,_,_,_,q,_⟩:=q;show y zc=_;rw[q zc i1];exact u0,?_,?_⟩
 ·rintro i d δ y C hd ⟨k1,o8,o9,rfl,kM,v⟩;have C:i<F.length:=by have:i<(F.map (Mh t b X Y)).length:=C;simpa using this
  have hd:(F.map (Mh t b X Y))[i]?=KA d:=hd;rw[Ht,Hl C]at hd;cases hd;have v0:=pm.mem_iff.mp (Iz C);obtain⟨j,ej,hj,_⟩:=iG v0;have w0:j<qs.length:=()
  obtain⟨r,er,x0⟩:=RI.get w0;have A:=V r (HE er);have y0:M5 qs[j]=KA (.lst (r.map fun g:Nat=>D.int (g:Int))):=c0 (i0 x0);have a1:=nz x0;have eS:fS ws ins (fO (2*ws.length) l l.length) F (i+1)=fill (fS ws ins (fO (2*ws.length) l l.length) F i) r (PL ws (fS ws ins (fO (2*ws.length) l l.length) F i) F[i]):=by rw[fS,Hl C,Jx,ej,Jx,er,Jx]
  (try dsimp only[SD.aN])
  refine P8 fun B hB=>?_;refine⟨_,rfl,_,rfl,_,rfl,t,b,X,Y,ws,z,fS ws ins (fO (2*ws.length) l l.length) F i,F[i],rfl,rfl,rfl,v,by rw[nL,kR],S,hU,hF,U,kb _ v0,?_⟩;refine⟨_,rfl,_,rfl,p,kvs,gk t b X Y F[i],.ref qs[j],rfl,wR ..,(by rw[kM p j1];exact g1),(by rw[RD.vs,ej];show(qs[j]?).map D.ref=_;rw[Hl w0];rfl),r.map (fun g:Nat=>D.int (g:Int)),(by show y qs[j]=_;rw[kM _ a1];exact y0),?_⟩;refine⟨fun a δ u=>∃I:Option D,δ=[KA (.tup (ws.map (Kz t b X Y))),KA (.ref lo),KA (.ref li),KA (.ref z),o4,o5,I,KA (.ref p),KA (Mh t b X Y F[i]),KA (.int (PL ws (fS ws ins (fO (2*ws.length) l l.length) F i) F[i]))]/\(∀c,c≠z->u c=M5 c)/\u z=KA (.lst ((gQ (fS ws ins (fO (2*ws.length) l l.length) F i) r (PL ws (fS ws ins (fO (2*ws.length) l l.length) F i) F[i]) a).map D.int)),⟨_,rfl,kM,v⟩,fun a δ u _ q=>by obtain⟨_,_,q,_⟩:=q;show u qs[j]=_;rw[q _ a1];exact y0,?_,?_⟩
  ·rintro a d δ u ha hd ⟨I,rfl,L,n⟩;have ha:a<r.length:=by have:a<(r.map fun g:Nat=>D.int (g:Int)).length:=ha;simpa using this
   have hd:(r.map fun g:Nat=>D.int (g:Int))[a]?=KA d:=hd;rw[Ht,Hl ha]at hd;cases hd;refine⟨_,rfl,_,rfl,_,rfl,_,r[a],n,sF (by rw[Hn,gh,nL,kR];exact A.lt _ (Iz ha)),?_⟩;exact⟨_,rfl,fun c hc=>by rw[aq hc];exact L c hc,by rw[ai,lD (Hl ha),List.map_set]⟩
  ·rintro δ u ⟨I,rfl,L,n⟩;have n:u z=KA (.lst ((gQ (fS ws ins (fO (2*ws.length) l l.length) F i) r (PL ws (fS ws ins (fO (2*ws.length) l l.length) F i) F[i]) (r.map fun g:Nat=>D.int (g:Int)).length).map D.int)):=n;rw[Hn]at n;exact hB _ _ ⟨_,_,_,rfl,L,by rw[n,eS];rfl⟩
 ·rintro δ y ⟨k1,o8,o9,rfl,kM,v⟩;have v:y z=KA (.lst ((fS ws ins (fO (2*ws.length) l l.length) F (F.map (Mh t b X Y)).length).map D.int)):=v;rw[Hn]at v;refine⟨_,rfl,LL (k y z _ (fun a o h=>?_) fz v ⟨rs,F,R,by rw[N];exact pm,up,by rw[N,J]⟩)⟩;have h1:=m0 _ _ h;rw[kM a (nz h1)];exact c0 (i0 h1)
theorem cy:Kv ["plot","outers","inners","lands","numbers","ring"] ["plot"] (ao lH):=by walk_at "sc"
inductive NV(u:D)(M:MH)(Q:DK):Prop
 |mk (t b X Y:Int) (ws:List Wl) (_:u=.tup (ws.map (Kz t b X Y))) (_:Lc t b X Y) (_:ws.length<=40) (_:(∀w∈ws,LD w)) (_:PF ws) (_:∀(M':MH) (z:Addr) (ps qs es:List Addr) (rs:List (List Nat)) (L:List Int),SD.Sub M M'->M z=KC->ND ws (2*ws.length) rs->cR ws L->RL M' ps (rs.filter (aJ ws))->RL M' qs (rs.filter fun r=>!aJ ws r)->es.length=ps.length+1->M' z=KA (.lst (MU ps es))->(∀(j:Nat) e,es[j]?=KA e->M' e=KA (.lst ((MN L (rs.filter fun r=>!aJ ws r) qs j qs.length).map D.ref)))->(∀p∈ps++qs++es,M p=KC)->Q (.ref z) M')
theorem eJ(T:Tx K mg):Cal P w K mg base 10 "lands_of" (Nh NV):=by
 refine fv (k:=9) T.f_lands_of cy fun f cdv A outer s H E hr=>⟨_,(ag (br (aj (dM T).m hr (aa (dv 0) ae)) (aY rfl (ax (av 1 cy.nd) (ax (av 2 cy.nd) aQ)))) (ag (az 3 cy.nd (au aO (bw (aa (aC (aa iS (aa (bw ae) ae))) ae)) (fW (Kw.of (xs:=["ring"]) (js:=[]) rfl) rfl (aS (dv 1)) (fun _ _ _ _=>cu) (fun _ _ _ _=>(aC (aa (dv 0) (aa (bw ae) ae))))))) (ag (az 4 cy.nd (aj (iT T).m hr (aa (dv 0) ae))) (ag (bA HP rfl (aS (dv 2)) (av 5 cy.nd) (ak (cI (bJ (aw (aw (dv 3) (aw (dv 4) (aw (dv 5) af))) af) (aa (dv 5) ae))))) (ak (ay (dv 3))))))),fun _ M Q h=>?_⟩;obtain⟨t,b,X,Y,ws,rfl,S,W,hU,hF,k⟩:=h;refine⟨_,rfl,t,b,X,Y,ws,rfl,S,W,hU,hF,fun O lo li ps qs rs U R ho hi RO RI d1 e1 s0=>?_⟩;refine⟨_,rfl,rfl,_,_,rfl,_,_,rfl,rfl,?_⟩;generalize F:rs.filter (aJ ws)=c0 at RO k;generalize J:(rs.filter fun r=>!aJ ws r)=ins at RI k;have c1:=gi hU hF (Hq _) R;have g1:=eT R;have h1:c0.length<=80:=by rw[<-F];have:=II (aJ ws) rs;omega
 have i1:ins.length<=80:=by rw[<-J];have:=II (fun r=>!aJ ws r) rs;omega
 have j1:=RO.len;have k1:=RI.len;refine⟨LB rfl,fun C d0=>⟨LB rfl,LB rfl,fun a1 g0=>?_⟩⟩;have hE:(ar (ar O C (.lst [])) a1 (.lst [.tup [.non,.ref C]])) C=KA (.lst []):=by rw[aq (aA ai g0)];exact ai
 have hA:(ar (ar O C (.lst [])) a1 (.lst [.tup [.non,.ref C]])) a1=KA (.lst [.tup [.non,.ref C]]):=ai;have s2:SD.Sub O (ar (ar O C (.lst [])) a1 (.lst [.tup [.non,.ref C]])):=.new g0 (.new d0 .refl);generalize ar (ar O C (.lst [])) a1 (.lst [.tup [.non,.ref C]])=M2 at hE hA s2 ⊢;refine⟨_,rfl,ps.map D.ref,s2 _ _ ho,by show(ps.map D.ref).length<=1000000;rw[Hn];omega,fun z hz=>?_⟩;refine⟨fun i ys G=>∃u:List Addr,u.length=i/\ys=PH ps u/\SD.Sub M2 G/\G z=KA (.lst ys)/\(∀e∈u,G e=KA (.lst [])/\M2 e=KC/\e≠z)/\u.Nodup,⟨[],rfl,rfl,.new hz .refl,ai,(by simp),List.nodup_nil⟩,fun i ys G _ q=>by obtain⟨_,_,_,q,_⟩:=q;exact q _ _ (s2 _ _ ho),?_,?_⟩
 ·rintro i ys d G g hd ⟨u,el,rfl,sb,h0,fe,ne⟩;have hd:(ps.map D.ref)[i]?=KA d:=hd;have g:i<ps.length:=by have:i<(ps.map D.ref).length:=g;simpa using this
  rw[Ht,Hl g]at hd;cases hd;refine⟨_,rfl,?_⟩;dsimp only[SD.cO];refine lG ?_;refine⟨_,rfl,LB rfl,fun e N=>⟨LB rfl,?_⟩⟩;have Z:z≠e:=aA h0 N;have t0:(ar G e (.lst [])) z=KA (.lst (PH ps u)):=by rw[aq Z];exact h0
  have ts:=xZ ps u e;rw[el,Hl g]at ts;refine⟨_,.refl,t0,u++[e],by simp[el],ts.symm,fun a o h=>?_,ai,fun x hx=>?_,?_⟩
  ·have na:a≠z:=aA h hz;rw[aq na,aq (aA (sb _ _ h) N)];exact sb _ _ h
  ·rcases HM.mp hx with y|y
   ·obtain⟨f1,f2,f3⟩:=fe x y;exact⟨by rw[aq f3,aq (aA f1 N)];exact f1,f2,f3⟩
   ·rw[Jk.mp y];refine⟨by rw[aq Z.symm];exact ai,?_,Z.symm⟩;cases q:M2 e with
    |none=>rfl
    |some o=>rw[sb _ _ q]at N;cases N
  ·rw[List.nodup_append];exact⟨ne,by simp,fun a ha c hc e'=>by rw[Jk]at hc;rw[e',hc]at ha;rw[(fe e ha).1]at N;cases N⟩
 rintro ys M3 ⟨u,el,rfl,V,u0,fe,ne⟩;have el:u.length=ps.length:=by rw[el];show(ps.map D.ref).length=_;rw[Hn]
 have tl:(PH ps u).length=u.length:=by unfold PH;simp
 refine⟨_,_,V _ _ hA,u0,(by have:1000<=Hy:=LB rfl;rw[tl];show 1+_<=_;omega),fun l hl=>?_⟩;rw[x9]
 have i0:O l=KC:=by
  cases q:O l with
  |none=>rfl
  |some o=>rw[V _ _ (s2 _ _ q)]at hl;cases hl
 have v0:M l=KC:=by
  cases q:M l with
  |none=>rfl
  |some o=>rw[U _ _ q]at i0;cases i0
 have s4:SD.Sub M3 (ar M3 l (.lst (MU ps (C::u)))):=.new hl .refl;have a0:(ar M3 l (.lst (MU ps (C::u)))) l=KA (.lst (MU ps (C::u))):=ai;have w0:=V _ _ hE
 have n:∀e∈C::u,M3 e=KA (.lst [])/\O e=KC:=fun e N=>by
  rcases HW.mp N with y|y
  ·subst y;exact⟨w0,d0⟩
  ·obtain⟨f1,f2,_⟩:=fe e y;refine⟨f1,?_⟩;cases q:O e with
   |none=>rfl
   |some o=>rw[s2 _ _ q]at f2;cases f2
 have j0:(C::u).Nodup:=JY.mpr ⟨(fun m=>by have:=(fe C m).2.1;rw[hE]at this;cases this),ne⟩;generalize ea:C::u=I at n j0 a0 s4;have x0:I.length=ps.length+1:=by rw[<-ea,Iu,el]
 show SD.aN 3 (D.ref l) _ (ar M3 l (.lst (MU ps I))) _;generalize ar M3 l (.lst (MU ps I))=M4 at s4 a0 ⊢;refine⟨_,rfl,t,b,X,Y,ws,rfl,S,W,hU,hF,fun M5 zn L b0 y0 z0 il=>?_⟩;have sM:∀a o,O a=KA o->M5 a=KA o:=fun a o h=>b0 _ _ (s4 _ _ (V _ _ (s2 _ _ h)));have nq:∀a o,O a=KA o->a∉I:=fun a o h m=>by rw[(n a m).2]at h;cases h
 have k0:=b0 _ _ a0;have nl:l∉I:=fun m=>by rw[(n l m).1]at hl;cases hl
 have nn:zn∉I:=fun m=>by
  have:=s4 _ _ (n zn m).1
  rw[y0]at this;cases this
 refine⟨_,rfl,qs.map D.ref,sM _ _ hi,fun i δ G=>∃(o5:Option D),δ=[KA (.tup (ws.map (Kz t b X Y))),KA (.ref lo),KA (.ref li),KA (.ref l),KA (.ref zn),o5]/\(∀a o,a∉I->M5 a=KA o->G a=KA o)/\∀(j:Nat) e,I[j]?=KA e->G e=KA (.lst ((MN L ins qs j i).map D.ref)),⟨_,rfl,fun a o _ h=>h,fun j e h=>b0 _ _ (s4 _ _ (n e (HE h)).1)⟩,fun i δ G _ q=>by obtain⟨_,_,q,_⟩:=q;exact q _ _ (nq _ _ hi) (sM _ _ hi),?_,?_⟩
 ·rintro i d δ G g hd ⟨o5,rfl,kM,kE⟩;have g:i<qs.length:=by have:i<(qs.map D.ref).length:=g;simpa using this
  have hd:(qs.map D.ref)[i]?=KA d:=hd;rw[Ht,Hl g]at hd;cases hd;obtain⟨r,er,mr⟩:=RI.get g;have mi:r∈rs:=by have:=HE er;rw[<-J]at this;exact(Ig.mp this).1
  obtain⟨f0,f1,Rf⟩:=qJ R r mi;have r0:r[0]?=KA f0/\r.headD 0=f0:=by obtain⟨kk,_,_,e⟩:=Rf;rw[e,rn,List.range_succ_eq_map];exact⟨rfl,rfl⟩
  obtain⟨v,ev,vl⟩:=yG hU hF R il f1;rw[F]at vl;have va:v<I.length:=()
  have eA:I[v]?=KA I[v]:=Hl va;(try dsimp only[SD.aN])
  refine P8 fun B hB=>?_;refine⟨_,rfl,_,rfl,_,rfl,_,_,kM _ _ (nq _ _ mr) (sM _ _ mr),bj (v:=D.int (f0:Int)) (by rw[Ht,r0.1];rfl),_,_,kM _ _ nn z0,bj (v:=D.int (v:Int)) (by rw[Ht,ev];rfl),_,_,kM _ _ nl k0,bj (gT ps I va),_,rfl,?_⟩;rw[eA];refine⟨_,_,rfl,kE v _ eA,_,rfl,_,_,rfl,kE v _ eA,(by rw[Hn];have:=jF L ins qs v i;omega),?_⟩;refine hB _ _ ⟨_,rfl,fun a o na h=>?_,fun j e N=>?_⟩
  ·rw[aq (fun z=>na (by rw[z];exact Iz va))];exact kM a o na h
  ·have m0:e=I[v]↔j=v:=by obtain⟨hj,ej⟩:=HN.mp N;rw[<-ej];exact List.getElem_inj j0
   have eh:((ins[i]?).getD []).headD 0=f0:=by rw[er];exact r0.2
   have b1:(L[f0]?).getD 0=(v:Int):=by rw[ev];rfl
   have eq:(qs[i]?).getD 0=qs[i]:=by rw[Hl g];rfl
   rw[yp,eh,b1,eq];show(ar G I[v] (.lst ((MN L ins qs v i).map D.ref++[D.ref qs[i]]))) e=_;by_cases c:j=v
   ·subst c;rw[m0.mpr rfl,ai,KI rfl,HR];rfl
   ·rw[aq (fun z=>c (m0.mp z)),kE j e N,KH (fun z=>c ()),IX]
 ·rintro δ G ⟨o5,rfl,kM,kE⟩
  have tf:∀{n0:List Addr} {o0:List (List Nat)},RL O n0 o0->RL G n0 o0:=fun h=>by
   induction h with
   |nil=>exact .nil
   |cons a _ ih=>exact .cons (kM _ _ (nq _ _ a) (sM _ _ a)) ih
  refine⟨_,rfl,LL (k G l ps qs I rs L (fun a o h=>kM _ _ (nq _ _ (U _ _ h)) (sM _ _ (U _ _ h))) v0 R il (by rw[F];exact tf RO) (by rw[J];exact tf RI) x0 (kM _ _ nl k0) (fun j e N=>?_) fun p hp=>?_)⟩
  ·have:=kE j e N;rw[J]
   rwa [show(qs.map D.ref).length=qs.length from Hn ..]at this
  ·rcases HM.mp hp with y|y
   ·exact s0 p y
   ·cases q:M p with
    |none=>rfl
    |some o=>have:=(n p y).2;rw[U _ _ q]at this;cases this
theorem bO:Kv ["_law_shuts","_law_ring","_law_total","_law_face","_law_one","_law_other"] ["_law_shuts","_law_ring"] (ao kT):=by walk_at "sc"
inductive NT(u v:D)(M:MH)(Q:DK):Prop
 |mk (g h:Int) (l p:Addr) (ws:List Wl) (r:List Nat) (_:u=.ref l) (_:v=.ref p) (_:Gs g h) (_:M l=KA (.lst (ws.map (LC g h)))) (_:M p=KA (.lst (r.map fun g:Nat=>D.int (g:Int)))) (_:(∀f∈r,f<2*ws.length)) (_:ws.length<=40) (_:r.length<=80) (_:(∀w∈ws,LD w)) (_:Q (.int (r.map (tG g h ws)).sum) M)
theorem jY(T:Tx K mg):Cal P w K mg base 1 "_law_area" (L7 NT):=by
 refine aU (k:=0) T.f_law_area bO fun f cdv A outer s H E c=>⟨_,(ag (az 2 bO.nd af) (ag (bA HP rfl (aS (dv 1)) (av 3 bO.nd) (ag (br (aw (dv 0) (au fD (dv 3) af)) (aY rfl (ax (av 4 bO.nd) (ax (av 5 bO.nd) aQ)))) (ag (aW (aM (cB c.units) (au dY (dv 3) af) af) (ak (fP 4 5 rfl bO.nd (aa (dv 5) (aa (dv 4) ae)))) aK) (ak (az 2 bO.nd (au bf (au aO (dv 2) (au aF (aw (dv 4) af) (aw (dv 5) af))) (au aF (aw (dv 5) af) (aw (dv 4) af)))))))) (ak (ay (dv 2))))),fun _ _ M Q h=>?_⟩;obtain⟨g,h,l,p,ws,r,rfl,rfl,G,I,t,c,u,J,L,k⟩:=h;refine⟨_,rfl,_,t,fun i δ a=>PR fun(j m n:Option D)=>δ=[KA (.ref l),KA (.ref p),KA (.int ((r.take i).map (tG g h ws)).sum),j,m,n]/\a=M,⟨_,_,_,rfl,rfl⟩,fun i δ a _ q=>by obtain⟨_,_,_,_,e⟩:=q;rw[e];exact t,?_,?_⟩
 ·rintro i d δ a W hd ⟨j,m,n,rfl,e⟩;subst e;obtain⟨f,v,rfl⟩:=zP hd;have N:=c f (HE v);obtain⟨z,X,Y⟩:=bE (ws:=ws) (k:=((f/2:Nat):Int)) () ();have O:(f:Int).fdiv 2=((f/2:Nat):Int):=by rw[Iw _ ⋯];omega
  have R:(f:Int).fmod 2=((f%2:Nat):Int):=by rw[Int.fmod_eq_emod_of_nonneg _ ⋯];omega
  have o:atI (ws.map (LC g h)) ((f:Int).fdiv 2)=KA (LC g h (LK ws ((f/2:Nat):Int))):=by rw[O];refine bj ?_;rw[K1]at z;rw[Ht,z];rfl
  have S:(((r.take (i+1)).map (tG g h ws)).sum)=((r.take i).map (tG g h ws)).sum+tG g h ws f:=by rw[J3,v,HR,List.sum_append];simp
  have C:∀{x:Int},(0<=x/\x<=20)->Bd 64 (g*x-h):=fun{x} Z=>by
   have h1:=G.g0
   have h2:=G.g1
   have h3:=G.h0
   have h4:=G.h1
   have:=km (A:=12) (B:=20) (x:=g) (y:=x) () ()
   show(g*x-h).natAbs<2^64
   omega
  obtain⟨U,a2,b1,b2⟩:=wF L N;(try dsimp only[SD.aN])
  refine P8 fun B V=>?_;refine⟨_,rfl,_,rfl,⟨⋯,bC ⋯⟩,_,_,I,o,_,rfl,rfl,_,_,rfl,_,_,rfl,rfl,?_⟩;(try dsimp only[SD.aN])
  refine cj (fun δ b=>b=a/\δ=[KA (.ref l),KA (.ref p),KA (.int ((r.take i).map (tG g h ws)).sum),KA (.int (f:Int)),KA (gp g h (fa ws f)),KA (gp g h (fb ws f))]) ?_ (fun F=>?_);rotate_left
  ·refine⟨_,rfl,(show(2:Int)≠0 by decide),_,rfl,?_⟩;rw[R];refine bD (fun q=>?_) (fun q=>?_)
   ·have q:f%2=1:=by have:((f%2:Nat):Int)=1:=by simpa using q
                     omega
    refine⟨_,rfl,_,rfl,_,_,rfl,F _ _ ⟨rfl,?_⟩⟩;unfold fa fb fw;rw[KH ()];rfl
   ·have q:f%2=0:=by have:¬((f%2:Nat):Int)=1:=by simpa using q
                     omega
    refine F _ _ ⟨rfl,?_⟩;unfold fa fb fw;rw[KI q];rfl
  rintro δ b ⟨e,rfl⟩;subst e;refine⟨_,rfl,_,rfl,_,rfl,_,rfl,_,rfl,aL (C U),_,rfl,_,rfl,_,rfl,_,rfl,aL (C b1),trivial,V _ _ ⟨KA (.int (f:Int)),KA (gp g h (fa ws f)),KA (gp g h (fb ws f)),?_,rfl⟩⟩;rw[S];have e:∀s:Int,s+(g*(fa ws f).1-h)*(g*(fb ws f).2-h)-(g*(fb ws f).1-h)*(g*(fa ws f).2-h)=s+tG g h ws f:=fun s=>by unfold tG;omega
  rw[<-e];rfl
 ·rintro δ a ⟨j,m,n,rfl,e⟩;subst e;have e:r.take (r.map fun g:Nat=>D.int (g:Int)).length=r:=IP (by simp);rw[e];exact⟨_,rfl,LL k⟩
theorem oF:Kv ["_law_found","_law_due"] ["_law_found","_law_due"] (ao lB):=by walk_at "sc"
inductive NM(x y:D)(M:MH)(Q:DK):Prop
 |mk (P:_) (_:Pd M x P) (_:Pd M y P) (_:wM P=KD) (_:Vd P) (_:Q (.bl KD) M)
theorem gH(T:Tx K mg):Cal P w K mg base 1 "_law_same" (L7 NM):=by refine aU (k:=0) T.f_law_same oF fun f cdv A outer s H E a=>⟨_,(ak (ay (cJ DP (aG (sL a.gd a.units) rfl T.b_repr sQ (aa (dv 0) ae)) (aG (sL a.gd a.units) rfl T.b_repr sQ (aa (dv 1) ae))))),fun _ _ M Q h=>?_⟩;obtain⟨P,b,c,di,S,k⟩:=h;exact⟨_,rfl,P,b,di,S,_,rfl,P,c,di,S,rfl,LL k⟩
theorem cV:Kv ["_law_frame_here","_law_twice","_law_p","_law_q","_law_s","_law_t"] ["_law_frame_here","_law_twice"] (ao j6):=by walk_at "sc"
inductive NN(s v:D)(M:MH)(Q:DK):Prop
 |mk (t b x y T:Int) (_:s=Px t b x y) (_:v=.int T) (_:Lc t b x y) (_:(-(10^9)<=T/\T<=10^9)) (_:Q (Kp (MM t b T)) M)
theorem kH(T:Tx K mg):Cal P w K mg base 2 "_law_real" (L7 NN):=by
 refine aU (k:=1) T.f_law_real cV fun f cdv A outer s H E e=>⟨_,(ag (br (dv 0) (aY rfl (ax (av 2 cV.nd) (ax (av 3 cV.nd) (ax (av 4 cV.nd) (ax (av 5 cV.nd) aQ)))))) (ak (ay (aj (gL T).m e (aa (au aF (au aF (dv 1) (dv 2)) (dv 2)) (aa (au aF (au aF af (dv 3)) (dv 3)) ae)))))),fun _ _ M Q h=>?_⟩;obtain⟨t,b,x,y,T,rfl,rfl,S,g,k⟩:=h;have t0:=S.t0;have t1:=S.t1;have b0:=S.b0;have b1:=S.b1;obtain⟨h1,i,j⟩:=EF S g;have d:Bd 64 T:=by show T.natAbs<2^64;omega
 have l:Bd 1000000 t:=Bd.mono (m:=100) (by show t.natAbs<2^100;omega) ⋯;have n:Bd 1000000 b:=Bd.mono (m:=100) (by show b.natAbs<2^100;omega) ⋯;have a:Bd 1000000 (T*t):=(Bd.mul (d.mono ⋯:Bd 100 T) (by show t.natAbs<2^100;omega:Bd 100 t)).mono ⋯;have c:Bd 1000000 (2*b):=Bd.mono (m:=100) (by show(2*b).natAbs<2^100;omega) ⋯;exact⟨_,rfl,_,rfl,rfl,_,_,rfl,_,_,rfl,_,_,rfl,_,_,rfl,rfl,_,rfl,_,rfl,aL d,_,rfl,cA a l,_,rfl,aL (bC ⋯),_,rfl,cA c n,_,_,rfl,rfl,j,h1.mono ⋯,i.mono ⋯,LL k⟩
theorem zw:Kv ["one","other"] ["one","other"] (ao vH):=by walk_at "sc"
inductive PV(x y:D)(M:MH)(Q:DK):Prop
 |mk (n:Nat) (q r:Rat) (_:x=Kp q) (_:y=Kp r) (_:Kf n q) (_:Kf n r) (_:2*n+1<=8000) (_:Q (Kp (q+r)) M)
theorem Cc(T:Tx K mg):Cal P w K mg base 3 "plus" (L7 PV):=by refine aU (k:=2) T.f_plus zw fun f cdv A outer s H E c=>⟨_,(ak (ay (aj (dn T).m c (aa (au aO (au aF (aw (dv 0) af) (aw (dv 1) af)) (au aF (aw (dv 1) af) (aw (dv 0) af))) (aa (au aF (aw (dv 0) af) (aw (dv 1) af)) ae))))),fun _ _ M Q h=>?_⟩;obtain⟨n,q,r,rfl,rfl,h1,a,b,k⟩:=h;obtain⟨i,d,e,g⟩:=h1.mOk a ();refine⟨_,rfl,_,rfl,_,rfl,_,rfl,d,_,rfl,_,rfl,_,rfl,_,rfl,e,_,rfl,_,rfl,_,rfl,_,rfl,g,?_⟩;refine⟨_,_,rfl,rfl,Ma.l9 q r,(h1.FH a).mono b,(h1.Bh a).mono b,?_⟩;rw[Ma.add_eq];exact LL k
theorem eU:Kv ["plot","ring","top","bottom"] ["plot","ring"] (ao ji):=by walk_at "sc"
inductive Mm(u v:D)(M:MH)(Q:DK):Prop
 |mk (t b X Y:Int) (ws:List Wl) (p:Addr) (r:List Nat) (_:u=.tup (ws.map (Kz t b X Y))) (_:v=.ref p) (_:M p=KA (.lst (r.map fun g:Nat=>D.int (g:Int)))) (_:Lc t b X Y) (_:(∀w∈ws,LD w)) (_:ws.length<=40) (_:r.length<=80) (_:(∀g∈r,g<2*ws.length)) (_:Q (Kp ((r.map (Nj t b X Y ws)).sum/2)) M)
theorem pZ(T:Tx K mg):Cal P w K mg base 4 "ring_area" (L7 Mm):=by
 refine aU (k:=3) T.f_ring_area eU fun f cdv A outer s H E d=>⟨_,(ag (br (aj (gO T).m d (aa (dv 0) (aa (dv 1) ae))) (aY rfl (ax (av 2 eU.nd) (ax (av 3 eU.nd) aQ)))) (ak (ay (aj (dn T).m d (aa (dv 2) (aa (au aF af (dv 3)) ae)))))),fun _ _ M Q h=>?_⟩;obtain⟨t,b,X,Y,ws,p,r,rfl,rfl,i,S,j,a,g,d,k⟩:=h;refine⟨_,rfl,_,rfl,t,b,X,Y,ws,p,r,rfl,rfl,i,S,j,a,g,d,fun c B v l n o=>?_⟩;refine⟨_,rfl,rfl,_,_,rfl,_,_,rfl,rfl,?_⟩
 have e:Rat.divInt c (2*B)=(r.map (Nj t b X Y ws)).sum/2:=by
  have q:(B:Rat)≠0:=fun z=>by
   have:B=0:=by exact_mod_cast z
   omega
  rw[JG,o,Iv]
  have u:(((2:Int):Rat))=2:=rfl
  rw[u]
  grind
 rw[<-e]at k;exact⟨_,rfl,_,rfl,aL (bC ⋯),c,2*B,rfl,rfl,(),n.mono ⋯,(show Bd 8000 (2*B)from(show Bd 200 (2*B) by show(2*B).natAbs<2^200;omega).mono ⋯),LL k⟩
theorem cm:Kv ["plot","rings","total","ring"] ["plot","rings"] (ao fy):=by walk_at "sc"
inductive ME(u v:D)(M:MH)(Q:DK):Prop
 |mk (t b X Y:Int) (ws:List Wl) (p:Addr) (ps:List Addr) (rs:List (List Nat)) (_:u=.tup (ws.map (Kz t b X Y))) (_:v=.ref p) (_:M p=KA (.lst (ps.map D.ref))) (_:RL M ps rs) (_:Lc t b X Y) (_:ws.length<=40) (_:(∀w∈ws,LD w)) (_:PF ws) (_:(∀r∈rs,Oo ws r)) (_:rs.length<=100) (_:Q (Kp (MM t b (MD ws rs))) M)
theorem fG(T:Tx K mg):Cal P w K mg base 5 "sum_of_areas" (L7 ME):=by
 refine aU (k:=4) T.f_sum_of_areas cm fun f cdv A outer s H E j=>⟨_,(ag (az 2 cm.nd (aC (aa af (aa af ae)))) (ag (bA HP rfl (aS (dv 1)) (av 3 cm.nd) (ak (az 2 cm.nd (aj (Cc T).m j (aa (dv 2) (aa (aj (pZ T).m j (aa (dv 0) (aa (dv 3) ae))) ae)))))) (ak (ay (dv 2))))),fun _ _ M Q h=>?_⟩;obtain⟨t,b,X,Y,ws,p,ps,rs,rfl,rfl,u,R,S,a,l,hF,c,v,k⟩:=h;have y:Kp (MM t b (MD ws (rs.take 0)))=.tup [.int 0,.int 1]:=by show Kp (MM t b 0)=_;rw[kY];rfl
 have z:=R.len;refine⟨LB rfl,?_⟩;rw[<-y];refine⟨_,rfl,_,u,fun i δ n=>∃(o:Option D),δ=[KA (.tup (ws.map (Kz t b X Y))),KA (.ref p),KA (Kp (MM t b (MD ws (rs.take i)))),o]/\n=M,⟨_,rfl,rfl⟩,fun i δ n _ q=>by obtain⟨_,_,e⟩:=q;rw[e];exact u,?_,?_⟩
 ·rintro i d δ n B hd ⟨o,rfl,e⟩;subst e;have g:=DO B;obtain⟨q,eq,rfl⟩:=zP hd;obtain⟨r,x,j⟩:=R.get g;rw[Hl g]at eq;cases eq;have O:=c r (HE x);have F:=qE l (rs:=rs.take i) (fun r h=>c r (List.mem_of_mem_take h)) (by have:=List.length_take_le i rs;omega);have G:=yq l O.lt O.len;have C:MD ws (rs.take (i+1))=MD ws (rs.take i)+rT ws r:=by unfold MD;rw[J3,x,HR,List.sum_append];simp
  refine⟨_,rfl,_,rfl,_,rfl,t,b,X,Y,ws,_,r,rfl,rfl,j,S,l,a,O.len,O.lt,?_⟩;rw[Aq l hF O.rng S.b0];refine⟨400,_,_,rfl,rfl,iW S (),iW S (),⋯,?_⟩;rw[zj S.b0,<-C];exact⟨_,rfl,rfl⟩
 ·rintro δ n ⟨o,rfl,e⟩;subst e;have e:rs.take (ps.map D.ref).length=rs:=IP (by simp;omega);rw[e];exact⟨_,rfl,LL k⟩
theorem bW:Kv ["plot","land","lands","outer","inners"] ["plot","land"] (ao jn):=by walk_at "sc"
inductive Lv(u v:D)(M:MH)(Q:DK):Prop
 |mk (t b X Y:Int) (ws:List Wl) (rs:List (List Nat)) (L:List Int) (j:Nat) (hh0:u=.tup (ws.map (Kz t b X Y))) (hh1:v=.int (j:Int)) (hh2:Lc t b X Y) (hh3:ws.length<=40) (hh4:(∀w∈ws,LD w)) (hh5:PF ws) (hh6:ND ws (2*ws.length) rs) (hh7:cR ws L) (hh8:0<j) (hh9:j<=(rs.filter (aJ ws)).length) (hh10:∀M':MH,SD.Sub M M'->Q (Kp (MM t b (MD ws (lR L (rs.filter (aJ ws)) (rs.filter fun r=>!aJ ws r) j (rs.filter fun r=>!aJ ws r).length)))) M'):Lv u v M Q
def de:Ms:=fun a M Q=>match a with
 |[u,v]=>Lv u v M Q
 |_=>False
theorem m5:∀a M Q,de a M Q->a.length=2:=fun a M Q h=>by
 unfold de at h;split at h
 ·rfl
 ·exact h.elim
theorem pO(T:Tx K mg):Cal P w K mg base 11 "land_area" de:=by
 refine qj (k:=10) T.f_land_area bW (fun _ _ _ _ _ _ us hl=>by obtain⟨_,_,rfl⟩:=SD.rh hl;rfl) m5 fun f cdv A outer s H E v=>⟨_,(ag (az 2 bW.nd (aj (eJ T).m v (aa (dv 0) ae))) (ag (aW (gI (oB (bZ v.units) (bZ v.units) af (dv 1) (aG bP rfl T.b_len bR (aa (dv 2) ae)))) (ak pE) aK) (ag (br (aw (dv 2) (dv 1)) (aY rfl (ax (av 3 bW.nd) (ax (av 4 bW.nd) aQ)))) (ak (ay (aj (fG T).m v (aa (dv 0) (aa (au aO (bw (aa (dv 3) ae)) (dv 4)) ae)))))))),fun ds M Q h=>?r⟩
 case r=>
  unfold de at h
  split at h
  case h_2=>exact h.elim
  obtain⟨t,b,X,Y,ws,rs,L,j,rfl,rfl,S,d,x,hF,G,il,j0,j1,k⟩:=h
  refine⟨_,rfl,t,b,X,Y,ws,rfl,S,d,x,hF,fun y z ps qs B l g C fz G' F I J le V W fr=>?_⟩
  have er:=iR G' G
  subst er
  have eL:=jW F il
  subst eL
  have ok:=qI x hF d G
  have a0:=eT G
  generalize n:l.filter (aJ ws)=e at I j1 k
  generalize i:(l.filter fun r=>!aJ ws r)=ins at J W k
  have N:∀r∈e,Oo ws r:=fun r h=>ok r (by rw[<-n]at h;exact(Ig.mp h).1)
  have O:∀r∈ins,Oo ws r:=fun r h=>ok r (by rw[<-i]at h;exact(Ig.mp h).1)
  have b0:ins.length<=80:=by rw[<-i];have:=II (fun r=>!aJ ws r) l;omega
  have c0:=I.len
  have R:=J.len
  (try dsimp only[SD.aN])
  refine⟨_,rfl,trivial,_,rfl,mY (KL (show(0:Int)<(j:Int) by omega)) ?_⟩
  refine⟨_,rfl,_,V,trivial,_,rfl,?_⟩
  refine bD (fun q=>?_) (fun _=>?_)
  ·simp only[f9,Bool.not_eq_true',decide_eq_false_iff_not,Bool.and_eq_false_iff]at q;exfalso;omega
  have Z:B[j]?=KA B[j]:=Hl ()
  have hj:=W j _ Z
  refine⟨_,rfl,_,rfl,_,_,V,bj (gT ps B ()),_,rfl,rfl,_,_,rfl,_,_,rfl,rfl,?_⟩
  rw[KH (),Z,Hl (():j-1<ps.length)]
  refine⟨_,rfl,_,rfl,LB rfl,fun a ha=>⟨_,rfl,_,_,ai,Vy hj ha,(by rw[Hn];have:=jF g ins qs j qs.length;have:1000<=Hy:=LB rfl;show 1+_<=_;omega),fun c hc=>?_⟩⟩
  have s2:SD.Sub y (ar (ar y a (.lst [.ref ps[j-1]])) c (.lst ([D.ref ps[j-1]]++(MN g ins qs j qs.length).map D.ref))):=.new hc (.new ha .refl)
  obtain⟨r,u,U⟩:=I.get (():j-1<ps.length)
  have RA:RL y (ps[j-1]::MN g ins qs j qs.length) (lR g e ins j ins.length):=by unfold lR;rw[KH (),u,<-R];exact .cons U (J.inn g j)
  refine⟨t,b,X,Y,ws,c,ps[j-1]::MN g ins qs j qs.length,lR g e ins j ins.length,rfl,rfl,ai,RA.mono fun p _ o h=>s2 _ _ h,S,d,x,hF,fun r' h=>?_,?_,LL (k _ (SD.Sub.trans C s2))⟩
  ·unfold lR at h;rw[KH (),u]at h;rcases HM.mp h with h|h
   ·rw[Jk.mp h];exact N r (HE u)
   ·exact O r' (nG (Hq _) h)
  ·unfold lR;rw[KH ()];have:=nS g ins j ins.length;simp;omega
def cS(K:H0):qP:=fun e M R=>match e with
 |[u,v]=>∃(t b X Y:Int) (ws:List Wl) (c:List (List Nat)) (n:Int),u=.tup (ws.map (Kz t b X Y))/\v=.int n/\Lc t b X Y/\ws.length<=40/\(∀w∈ws,LD w)/\PF ws/\ND ws (2*ws.length) c/\(n<=0\/(c.filter (aJ ws)).length<n)/\-(10^40)<n/\n<10^40/\∀a d,SD.Sub M a->a d=KA (tQ [("number",.int n)])->R (cl K "Absent") (KA d) a
 |_=>False
theorem lX(K:H0):∀a M Q,cS K a M Q->a.length=2:=fun a M Q h=>by
 unfold cS at h;split at h
 ·rfl
 ·exact h.elim
theorem pN(T:Tx K mg):ma P w K mg base 11 "land_area" (cS K):=by
 refine EJ (k:=10) (N:=["plot","land","lands","outer","inners"]) (ps:=["plot","land"]) T.f_land_area bW (fun _ _ _ _ _ _ us p=>match us,p with|[_,_],_=>rfl) (lX K) fun f cdv A outer s H E R g hE=>⟨_,(ag (az 2 bW.nd (aj (eJ T).m g (aa (dv 0) ae)))
  (ag (aW (gI (oB (bZ g.units) (bZ g.units) af (dv 1) (aG bP rfl T.b_len bR (aa (dv 2) ae)))) (ak (uh hE ((uR T).mono ⋯) g (aa (dv 1) ae))) aK)
  uO)),fun O M h=>?r⟩
 case r=>
  unfold cS at h
  split at h
  case h_2=>exact h.elim
  obtain⟨t,b,X,Y,ws,Q,n,rfl,rfl,S,a,q,hF,G,U,u,v,k⟩:=h
  refine⟨_,rfl,t,b,X,Y,ws,rfl,S,a,q,hF,fun l z ps qs x y V i W B C F Z le I he fr=>?_⟩
  have J:=iR B G
  subst J
  have L:=F.len
  (try dsimp only[SD.aN])
  have c:∀e,l e=KC->R (cl K "Absent") (KA e) (ar l e (tQ [("number",.int n)])):=fun e j=>k _ e (.new j i) ai
  have o:∀d∈[D.int n],Oz ["number"] d:=fun d hd=>by rw[Jk.mp hd];exact .int u v
  by_cases h:0<n
  ·refine⟨_,rfl,trivial,_,rfl,mY (KL h) ?_⟩;refine⟨_,rfl,_,I,trivial,_,rfl,?_⟩;refine mY (by rw[f9];show(!(decide (n<(x.length:Int))))=KD;rw[KJ ()];rfl) ?_;exact⟨_,rfl,rfl,(⋯:1<=1000),o,c⟩
  ·refine⟨_,rfl,trivial,_,rfl,lY (KJ h) ?_⟩;refine⟨_,rfl,?_⟩;refine mY (by rfl) ?_;exact⟨_,rfl,rfl,(⋯:1<=1000),o,c⟩
theorem iH:Kv ["_law_e"] ["_law_e"] (ao fh):=by walk_at "sc"
def bX(K:H0):Ms:=fun b M Q=>match b with
 |[x]=>∃(a:Addr) (c:Option Addr),x=.ref a/\M a=KA (jB (cl K "Absent") c)/\Q (.bl KG) M
 |_=>False
theorem iK(K:H0):∀a M Q,(bX K) a M Q->a.length=1:=fun a M Q h=>by
 unfold bX at h;split at h
 ·rfl
 ·exact h.elim
theorem jy(T:Tx K mg):Cal P w K mg base 1 "_law_of_others" (bX K):=by
 refine qj (k:=0) T.f_law_of_others iH (fun _ _ _ _ _ _ us e=>by obtain⟨_,rfl⟩:=SD.vp e;rfl) (iK K) fun f cdv A outer s H E i=>⟨_,(ak (ay (FZ (aG (gF (K:=K) rfl) rfl T.b_isinstance d3 (aa (dv 0) (aa (aC (aa (gE rfl T.r_Crossing) (aa (gE rfl T.r_NoFraction) (aa (gE rfl T.r_NoRow) (aa (gE rfl T.r_NoText) (aa (gE rfl T.r_NoWall) (aa (gE rfl T.r_TooMany) ae))))))) ae))) (kh (rN (aG (gF (K:=K) rfl) rfl T.b_isinstance d3 (aa (dv 0) (aa (Fz rfl T.b_ValueError lQ) ae)))))))),fun j M Q h=>?r⟩
 case r=>
  unfold bX at h
  split at h
  case h_2=>exact h.elim
  obtain⟨a,l,rfl,b,k⟩:=h
  have g:PySem.W.kitAny K (.ref (cl K "Absent")) ([cl K "Crossing",cl K "NoFraction",cl K "NoRow",cl K "NoText",cl K "NoWall",cl K "TooMany"].map Ii)=KA KG:=tM fun c d=>by
   simp only[Hs,Jb,HW,List.not_mem_nil,or_false]at d;rcases d with rfl|rfl|rfl|rfl|rfl|rfl
   ·exact T.ki_Absent_Crossing
   ·exact T.ki_Absent_NoFraction
   ·exact T.ki_Absent_NoRow
   ·exact T.ki_Absent_NoText
   ·exact T.ki_Absent_NoWall
   ·exact T.ki_Absent_TooMany
  refine⟨_,rfl,LB rfl,.inr ⟨a,_,_,_,_,rfl,b,T.ek_Absent,g,?_⟩⟩
  refine⟨_,rfl,?_⟩
  refine lY (by rfl) ?_
  refine⟨_,rfl,.inl (.inr ⟨a,_,_,_,_,_,rfl,b,T.ek_Absent,rfl,T.kv_Absent,?_⟩)⟩
  exact⟨_,rfl,LL k⟩
theorem cC:Kv ["_law_plot_here","_law_land","_law_told_here","_law_kept","_law_e"] ["_law_plot_here","_law_land"] (ao kI):=by walk_at "sc"
def dQ(K:H0):Ms:=fun d M Q=>match d with
 |[u,v]=>∃(t b X Y:Int) (ws:List Wl) (a:List (List Nat)) (n:Int),u=.tup (ws.map (Kz t b X Y))/\v=.int n/\Lc t b X Y/\ws.length<=40/\(∀w∈ws,LD w)/\PF ws/\ND ws (2*ws.length) a/\
  ((∃(L:List Int) (j:Nat),n=(j:Int)/\cR ws L/\0<j/\j<=(a.filter (aJ ws)).length/\∀c:MH,SD.Sub M c->Q (Kp (MM t b (MD ws (lR L (a.filter (aJ ws)) (a.filter fun r=>!aJ ws r) j (a.filter fun r=>!aJ ws r).length)))) c)\/
   ((n<=0\/(a.filter (aJ ws)).length<n)/\-(10^40)<n/\n<10^40/\∀c:MH,SD.Sub M c->Q (.tup [.str "absent",.int n]) c))
 |_=>False
theorem pV(K:H0):∀a M Q,(dQ K) a M Q->a.length=2:=fun a M Q h=>by
 unfold dQ at h;split at h
 ·rfl
 ·exact h.elim
theorem jQ(T:Tx K mg):Cal P w K mg base 12 "_law_told" (dQ K):=by
 refine qj (k:=11) T.f_law_told cC (fun _ _ _ _ _ _ us B=>by obtain⟨_,_,rfl⟩:=SD.rh B;rfl) (pV K) fun f cdv A outer s H E l=>⟨_,(ag (az 2 cC.nd iS) (ag (az 3 cC.nd iS) (ag (Ac 4 cC.nd T.e_SpotError T.r_SpotError T.eb_SpotError (ak (az 2 cC.nd (aj (pO T).m l (aa (dv 0) (aa (dv 1) ae))))) (zU (uQ ((pN T).mono ⋯) l (aa (dv 0) (aa (dv 1) ae))) rfl) (fun _=>(ak (az 3 cC.nd (dv 4))))) (ag (aW (aM Bz (dv 3) iS) (ak (ay (dv 2))) aK) (ag (aW (nZ (xa (gI (cM (aG (gF (K:=K) rfl) rfl T.b_isinstance d3 (aa (dv 3) (aa (gE rfl T.r_Absent) ae))))) (qN (cM (aj (jy T).m l (aa (dv 3) ae)))))) (ak (ay (aC (aa qc ae)))) aK) (ak (ay (aC (aa qc (aa (zq (dv 3)) ae)))))))))),fun N M Q h=>?r⟩
 case r=>
  unfold dQ at h
  split at h
  case h_2=>exact h.elim
  obtain⟨t,b,X,Y,ws,q,n,rfl,rfl,S,a,u,hF,G,h⟩:=h
  (try dsimp only[SD.aN])
  rcases h with⟨L,j,rfl,C,D,F,k⟩|⟨I,v,x,k⟩
  ·refine .inl ⟨_,rfl,_,rfl,t,b,X,Y,ws,q,L,j,rfl,rfl,S,a,u,hF,G,C,D,F,fun g o=>?_⟩;(try dsimp only[SD.aN])
   refine⟨_,rfl,_,rfl,_,rfl,mY rfl ?_⟩;exact⟨_,rfl,LL (k g o)⟩
  ·refine .inr ⟨_,rfl,_,rfl,t,b,X,Y,ws,q,n,rfl,rfl,S,a,u,hF,G,I,v,x,fun g d o y=>⟨T.es_Absent_SpotError,fun e z=>?_⟩⟩;have hE:(ar g e (jB (cl K "Absent") (KA d))) e=KA (jB (cl K "Absent") (KA d)):=ai;have hF:(ar g e (jB (cl K "Absent") (KA d))) d=KA (tQ [("number",.int n)]):=by rw[aq (aA y z)];exact y
   have i:SD.Sub M (ar g e (jB (cl K "Absent") (KA d))):=.new z o;generalize ar g e (jB (cl K "Absent") (KA d))=O at hE hF i ⊢;refine⟨_,rfl,?_⟩;(try dsimp only[SD.aN])
   refine⟨_,rfl,_,rfl,_,rfl,lY rfl ?_⟩;(try dsimp only[SD.fg,SD.cZ,SD.aN,SD.fJ,SD.eW,SD.cX,SD.dw,SD.tBD,SD.fH,SD.EndsD.nxt,SD.EndsD.lp])
   refine WI KG KG (fun J p=>⟨_,rfl,.inl (.inr ⟨e,_,_,_,_,_,rfl,hE,T.ek_Absent,rfl,T.ki_Absent_Absent,_,rfl,p⟩)⟩) (fun _ J p=>⟨_,rfl,e,_,rfl,hE,_,rfl,p⟩) ?_;refine lY ⋯ ?_;exact⟨_,rfl,e,_,d,_,_,rfl,hE,hF,⟨T.ek_Absent.c,T.hd_Absent,T.fn_Absent_number⟩,rfl,.int v x,LB rfl,LL (k _ i)⟩
theorem yE:Kv ["one","other"] ["one","other"] (ao wH):=by walk_at "sc"
inductive PX(x y:D)(M:MH)(Q:DK):Prop
 |mk (n:Nat) (q r:Rat) (_:x=Kp q) (_:y=Kp r) (_:Kf n q) (_:Kf n r) (_:2*n+1<=8000) (_:Q (Kp (q-r)) M)
theorem DX(T:Tx K mg):Cal P w K mg base 3 "less" (L7 PX):=by refine aU (k:=2) T.f_less yE fun f cdv A outer s H E c=>⟨_,(ak (ay (aj (dn T).m c (aa (au bf (au aF (aw (dv 0) af) (aw (dv 1) af)) (au aF (aw (dv 1) af) (aw (dv 0) af))) (aa (au aF (aw (dv 0) af) (aw (dv 1) af)) ae))))),fun _ _ M Q h=>?_⟩;obtain⟨n,q,r,rfl,rfl,h1,a,b,k⟩:=h;obtain⟨i,d,e,g⟩:=h1.mOk a ();refine⟨_,rfl,_,rfl,_,rfl,_,rfl,d,_,rfl,_,rfl,_,rfl,_,rfl,e,trivial,_,rfl,_,rfl,_,rfl,_,rfl,g,?_⟩;refine⟨_,_,rfl,rfl,Ma.l9 q r,(h1.pX a).mono b,(h1.Bh a).mono b,?_⟩;rw[Ma.sub_eq];exact LL k
theorem ju:Kv ["plot"] ["plot"] (ao fV):=by walk_at "sc"
inductive MG(u:D)(M:MH)(Q:DK):Prop
 |mk (t b X Y:Int) (ws:List Wl) (rs:List (List Nat)) (L:List Int) (_:u=.tup (ws.map (Kz t b X Y))) (_:Lc t b X Y) (_:ws.length<=40) (_:(∀w∈ws,LD w)) (_:PF ws) (_:ND ws (2*ws.length) rs) (_:cR ws L) (_:∀M':MH,SD.Sub M M'->Q (Kp (MM t b (0-MD ws (lR L (rs.filter (aJ ws)) (rs.filter fun r=>!aJ ws r) 0 (rs.filter fun r=>!aJ ws r).length)))) M')
theorem j7(T:Tx K mg):Cal P w K mg base 11 "area_shut_in" (Nh MG):=by
 refine fv (k:=10) T.f_area_shut_in ju fun f cdv A outer s H E l=>⟨_,(ak (ay (aj (DX T).m l (aa (aC (aa af (aa af ae))) (aa (aj (fG T).m l (aa (dv 0) (aa (aw (aw (aj (eJ T).m l (aa (dv 0) ae)) af) af) ae))) ae))))),fun _ M Q h=>?_⟩;obtain⟨t,b,X,Y,ws,Z,L,rfl,S,a,i,hF,G,D,k⟩:=h;refine⟨LB rfl,_,rfl,_,rfl,t,b,X,Y,ws,rfl,S,a,i,hF,fun v z ps qs g c e n fz F o RO p le I x fr=>?_⟩;have J:=iR F G;subst J;have N:=jW o D;subst N;have ok:=qI i hF a G;have O:=eT G;generalize d:(c.filter fun r=>!aJ ws r)=ins at p x k;have q:∀r∈ins,Oo ws r:=fun r h=>ok r (by rw[<-d]at h;exact(Ig.mp h).1);have R:ins.length<=80:=by rw[<-d];have:=II (fun r=>!aJ ws r) c;omega
 have u:=p.len;have y:g[0]?=KA g[0]:=Hl ();have U:=x 0 _ y;refine⟨_,_,I,(show atI (MU ps g) ((0:Nat):Int)=_ from bj (gT ps g (j:=0) ())),_,rfl,?_⟩;rw[y];have V:RL v (MN e ins qs 0 qs.length) (lR e (c.filter (aJ ws)) ins 0 ins.length):=by unfold lR;rw[KI rfl,<-u];exact p.inn e 0
 have B:∀r∈lR e (c.filter (aJ ws)) ins 0 ins.length,Oo ws r:=fun r h=>by unfold lR at h;rw[KI rfl,List.nil_append]at h;exact q r (nG (Hq _) h)
 have C:(lR e (c.filter (aJ ws)) ins 0 ins.length).length<=100:=by
  unfold lR
  rw[KI rfl,List.nil_append]
  have:=nS e ins 0 ins.length
  omega
 have TT:=qE i B C;refine⟨t,b,X,Y,ws,g[0],_,_,rfl,rfl,U,V,S,a,i,hF,B,C,?_⟩;have W:Kp (MM t b 0)=.tup [.int 0,.int 1]:=by rw[kY];rfl
 rw[<-W];refine⟨400,_,_,rfl,rfl,iW S ⋯,iW S (),⋯,?_⟩;rw[kY,zY S.b0];exact LL (k v n)
theorem cx:Kv ["_law_script","_law_k","_law_pot_here","_law_shuts","_law_frame_here","_law_plot_here","_law_lands","_law_land","_law_outer","_law_inners","_law_due"] ["_law_script"] (ao Bs):=by walk_at "sc"
inductive Ov(x:D)(M:MH)(Q:DK):Prop
 |mk (ns:_) (hh0:x=.rol (Jc D.int ns)) (hh1:ns.length<=63) (hh2:∀M',Q (.bl KD) M'):Ov x M Q
def iQ:Ms:=fun a M Q=>match a with
 |[x]=>Ov x M Q
 |_=>False
theorem D0:∀a M Q,iQ a M Q->a.length=1:=fun a M Q h=>by
 unfold iQ at h;split at h
 ·rfl
 ·exact h.elim
theorem El{P:HF}{w:Ih}{K:H0}{mg:Str->Option Hj}{fa:Addr}(T:Tx K mg)(k1:mg "law"=KA (.ref fa)):∃fd,(∀(s:Hk) (u:Hj),BindsTo s fd ⟨[u],[]⟩ [("_law_script",u)])/\∀base:Heap,L5 P w K mg base Mf 13 fa fd ["_law_script"] (gJ K iQ):=by
 refine Ha (k:=12) (N:=["_law_script","_law_k","_law_pot_here","_law_shuts","_law_frame_here","_law_plot_here","_law_lands","_law_land","_law_outer","_law_inners","_law_due"]) T.f_law k1 cx (fun _ _ _ _ _ _ us hl=>by obtain⟨_,rfl⟩:=SD.vp hl;rfl) D0 fun base f cdv A outer s H E U=>⟨_,(ag (g8 HP rfl rfl T.b_range (aa (au aO af (aG (tK rfl U.units) rfl T.b_min xt (aa af (aa (aG bP rfl T.b_len bR (aa (dv 0) ae)) ae)))) ae) (av 1 cx.nd) (ag (az 2 cx.nd (aj (uH T).m U (aa (dv 0) (aa (dv 1) ae)))) (ag (az 3 cx.nd (aj (ix T).m U (aa (dv 2) (aa af ae)))) (ag (aW (aM (cB U.units) (aj (aD T).m U (aa (dv 2) (aa af ae))) af) (ak (az 3 cx.nd (aj (lZ T).m U (aa (dv 2) (aa af ae))))) aK) (ag (az 4 cx.nd (aj (pS T).m U (aa (dv 2) (aa (aG bP rfl T.b_len bR (aa (dv 3) ae)) ae)))) (ag (aW (aM (iY U.units) (aG bP rfl T.b_len bR (aa (dv 3) ae)) af) (ak (az 4 cx.nd (aC (aa af (aa af (aa af (aa af ae))))))) aK) (ag (az 5 cx.nd (aj (rE T).m U (aa (dv 4) (aa (dv 3) ae)))) (ag (az 6 cx.nd (aj (eJ T).m U (aa (dv 5) ae))) (ag (bA HP rfl (u5 rfl T.b_range (aa af (aa (aG bP rfl T.b_len bR (aa (dv 6) ae)) ae))) (av 7 cx.nd) (ag (br (aw (dv 6) (dv 7)) (aY rfl (ax (av 8 cx.nd) (ax (av 9 cx.nd) aQ)))) (ag (az 10 cx.nd (aG (yf rfl) rfl T.b_sum yy (aa (fW (Kw.of (xs:=["_law_ring"]) (js:=[3]) rfl) rfl (aS (au aO (bw (aa (dv 8) ae)) (dv 9))) (fun _ _ _ _=>cu) (fun _ _ _ _=>(aj (jY T).m U (aa (dv 1) (aa (dv 0) ae))))) ae))) (ak (aW (gI (cM (aj (gH T).m U (aa (aj (jQ T).m U (aa (dv 5) (aa (dv 7) ae))) (aa (aj (kH T).m U (aa (dv 4) (aa (dv 10) ae))) ae))))) (ak (ay jt)) aK))))) (ag (bA HP rfl (aS (bw (aa af (aa (me f6 af) (aa (aG bP rfl T.b_len bR (aa (dv 6) ae)) (aa (au aO (aG bP rfl T.b_len bR (aa (dv 6) ae)) (aj (aD T).m U (aa (dv 2) (aa af ae)))) (aa (au eR af af) ae))))))) (av 7 cx.nd) (ak (aW (gI (cM (aj (gH T).m U (aa (aj (jQ T).m U (aa (dv 5) (aa (dv 7) ae))) (aa (aC (aa qc (aa (dv 7) ae))) ae))))) (ak (ay jt)) aK))) (ag (az 10 cx.nd (au bf af (aG (yf rfl) rfl T.b_sum yy (aa (fW (Kw.of (xs:=["_law_ring"]) (js:=[3]) rfl) rfl (aS (aw (aw (dv 6) af) af)) (fun _ _ _ _=>cu) (fun _ _ _ _=>(aj (jY T).m U (aa (dv 1) (aa (dv 0) ae))))) ae)))) (ak (aW (gI (cM (aj (gH T).m U (aa (aj (j7 T).m U (aa (dv 5) ae)) (aa (aj (kH T).m U (aa (dv 4) (aa (dv 10) ae))) ae))))) (ak (ay jt)) aK))))))))))))) (ak (ay jt))),fun ds M Q h=>?r⟩
 case r=>
  unfold iQ at h
  split at h
  case h_2=>exact h.elim
  obtain⟨ns,rfl,q2,k⟩:=h
  obtain⟨m,hm,r2⟩:∃m:Nat,1+min (2:Int) ((Jc D.int ns).length:Nat)=(m:Int)/\m<=3:=⟨(1+min (2:Int) ((Jc D.int ns).length:Nat)).toNat,(),()⟩
  refine⟨_,rfl,m,(by rw[hm]),(),fun i δ M=>∃T:List (Option D),δ=KA (.rol (Jc D.int ns))::T/\T.length=10,⟨_,rfl,rfl⟩,?_,fun _ _ _=>LL (k _)⟩
  rintro i δ M hi ⟨T,rfl,hT⟩
  refine Ox hT fun o1 T hT=>?_
  refine GC hT fun o2 o3 o4 o5 o6 o7 o8 o9 c0=>?_
  (try dsimp only[SD.aN])
  refine P8 fun B hB=>?_
  refine⟨_,rfl,_,rfl,ns,(i:Int),rfl,rfl,(),fun r ob U P0=>?_⟩
  generalize ar M r ob=Ma at P0 ⊢
  refine⟨_,rfl,r,0,9,rfl,rfl,⋯,P0,⋯,fun l ws Mb b0 fl kx hl X hF F P1=>?_⟩
  (try dsimp only[SD.aN])
  refine cj (fun δ M'=>QM fun(g h:Int) (l:Addr) (ws:List Wl)=>YJ (Gs g h) (δ=[KA (.rol (Jc D.int ns)),KA (.int (i:Int)),KA (.ref r),KA (.ref l),o4,o5,o6,o7,o8,o9,c0]) (r≠l) (M' l=KA (.lst (ws.map (LC g h)))) (∀w∈ws,LD w) (PF ws) (ws.length<=40) (LQ M' r 500)) ?_ (fun hu=>?_)
  rotate_left
  ·refine⟨_,rfl,r,10,0+400,rfl,rfl,P1,(),⋯,bC ⋯,fun v o h0 h1 P2=>⟨_,rfl,?_⟩⟩;refine bD (fun _=>?_) (fun _=>hu _ _ ⟨6,24,l,ws,⟨⋯,⋯,⋯,⋯⟩,rfl,b0,by rw[aq b0.symm];exact hl,X,hF,(),P2.le ()⟩);exact⟨_,rfl,r,0+400+1,rfl,rfl,P2,(),fun l2 m1 M4 n2 f2 s2 p1 U2 F2 y0 P3=>hu _ _ ⟨12,0,l2,m1,⟨⋯,⋯,⋯,⋯⟩,rfl,n2,p1,U2,F2,y0,P3.le ()⟩⟩
  clear hl b0 fl kx X hF F P1
  rintro δ M3 ⟨g,h,l,ws,G,rfl,b0,hl,X,hF,F,P3⟩
  refine⟨_,rfl,_,rfl,_,hl,r,500,_,rfl,rfl,P3,(),fun t b x y M4 S ht hb hx hy q1 P4=>?_⟩
  have o0:=q1 l _ (by simpa using b0.symm) hl
  (try dsimp only[SD.aN])
  refine cj (fun δ M'=>M'=M4/\∃(t b x y:Int),Lc t b x y/\t<=10^20/\b<=10^25/\(-(10^27)<=x/\x<=10^27)/\(-(10^27)<=y/\y<=10^27)/\δ=[KA (.rol (Jc D.int ns)),KA (.int (i:Int)),KA (.ref r),KA (.ref l),KA (Px t b x y),o5,o6,o7,o8,o9,c0]) ?_ (fun hu=>?_)
  rotate_left
  ·refine⟨_,rfl,_,o0,trivial,_,rfl,?_⟩;refine bD (fun _=>?_) (fun _=>?_)
   ·exact⟨LB rfl,hu _ _ ⟨rfl,1,1,0,0,⟨⋯,⋯,⋯,⋯,⋯,⋯,⋯,⋯⟩,⋯,⋯,⋯,⋯,rfl⟩⟩
   ·exact hu _ _ ⟨rfl,t,b,x,y,S,ht,hb,hx,hy,rfl⟩
  clear S ht hb hx hy
  rintro δ M' ⟨e,t,b,x,y,S,ht,hb,hx,hy,rfl⟩
  subst e
  refine⟨_,rfl,_,rfl,t,b,x,y,l,ws.map (raw g h),rfl,rfl,(by rw[v7];exact o0),S,by rw[Hn];omega,fun w hw=>?_,?_⟩
  ·obtain⟨w0,r1,rfl⟩:=IU.mp hw;obtain⟨a1,a2,a3,a4⟩:=B6 G (X w0 r1);exact⟨(),(),(),()⟩
  rw[xf]
  have S':=Ah S G ht hb hx hy
  have eQ:=Fl t b g
  generalize t2:g*t=t' at S' eQ ⊢
  generalize x-h*t=x' at S' ⊢
  generalize y-h*t=y' at S' ⊢
  refine⟨_,rfl,t',b,x',y',ws,rfl,S',F,X,hF,fun M5 z ps qs V rs L z0 fz R il RO RI le hz he fr=>?_⟩
  have ok:=qI X hF F R
  have u2:=eT R
  have keep:=R
  generalize I:rs.filter (aJ ws)=C at RO
  generalize a0:(rs.filter fun r=>!aJ ws r)=ins at RI he
  have s1:∀r∈C,Oo ws r:=fun r h=>ok r (by rw[<-I]at h;exact(Ig.mp h).1)
  have t1:∀r∈ins,Oo ws r:=fun r h=>ok r (by rw[<-a0]at h;exact(Ig.mp h).1)
  have v2:C.length<=80:=by rw[<-I];have:=II (aJ ws) rs;omega
  have w2:ins.length<=80:=by rw[<-a0];have:=II (fun r=>!aJ ws r) rs;omega
  have x2:=RO.len
  have b1:=RI.len
  have d0:∀j,∀Y∈lR L C ins j ins.length,j<=C.length->Oo ws Y:=fun j Y h hj=>by
   unfold lR at h;rcases HM.mp h with h|h
   ·split at h
    ·cases h
    ·rw[Jk.mp h,Hl (():j-1<C.length)];exact s1 _ (Iz _)
   ·exact t1 Y (nG (Hq _) h)
  have k0:∀j,(lR L C ins j ins.length).length<=81:=fun j=>by
   unfold lR
   have:=nS L ins j ins.length
   rw[IJ]
   split<;>simp<;>omega
  have c1:∀j,j<=C.length->(-(10^9)<=g*g*MD ws (lR L C ins j ins.length)/\g*g*MD ws (lR L C ins j ins.length)<=10^9):=fun j hj=>by
   have a:=qE X (fun Y h=>d0 j Y h hj) (IA (k0 j) ⋯)
   have h1:=G.g0
   have h2:=G.g1
   have c:=km (A:=12) (B:=12) (x:=g) (y:=g) () ()
   have:=km (A:=144) (B:=5184000) (x:=g*g) (y:=MD ws (lR L C ins j ins.length)) () (by
    have:=sum_in (rT ws) (B:=64000) (lR L C ins j ins.length) fun r h=>yq X (d0 j r h hj).lt (d0 j r h hj).len
    have:=k0 j
    unfold MD;omega)
   omega
  have d1:=z0 _ _ o0
  have P5:LQ M5 r 505:=P4.sub z0
  refine⟨_,rfl,_,hz,1,((MU ps V).length:Int),rfl,⟨⋯,⋯,by rw[f9];omega,by rw[f9];omega⟩,fun j δ M'=>QM fun(o7 o8 o9 c0:Option D)=>δ=[KA (.rol (Jc D.int ns)),KA (.int (i:Int)),KA (.ref r),KA (.ref l),KA (Px t b x y),KA (.tup (ws.map (Kz t' b x' y'))),KA (.ref z),o7,o8,o9,c0]/\SD.Sub M5 M',⟨_,_,_,_,rfl,.refl⟩,fun _ _ _ _ _=>trivial,?_,?_⟩
  ·rintro j d δ M6 hj hd ⟨o7,o8,o9,c0,rfl,J⟩
   have hj:j<C.length:=by
    have:j<(((MU ps V).length:Int)-1).toNat:=hj
    rw[f9]at this;omega
   have hd:KA (D.int ((j+1:Nat):Int))=KA d:=by rw[<-hd,show((j+1:Nat):Int)=1+(j:Int) by omega]
   cases hd;have ep:(ps[j]?).getD 0=ps[j]:=by rw[Hl ()];rfl
   have r0:(V[j+1]?).getD 0=V[j+1]:=by rw[Hl ()];rfl
   have ej:V[j+1]?=KA V[j+1]:=Hl ();obtain⟨ro,u1,w1⟩:=RO.get (():j<ps.length);have x1:=J _ _ (he (j+1) _ ej);(try dsimp only[SD.aN])
   refine P8 fun B2 y1=>?_;refine⟨_,rfl,_,rfl,_,_,J _ _ hz,bj (gT ps V ()),_,rfl,rfl,_,_,rfl,_,_,rfl,rfl,?_⟩;rw[KH (),r0,show j+1-1=j from rfl,ep];have RA:RL M6 (ps[j]::MN L ins qs (j+1) qs.length) (lR L C ins (j+1) ins.length):=by unfold lR;rw[KH (),show j+1-1=j from rfl,u1,<-b1];exact .cons (J _ _ w1) ((RI.inn L (j+1)).mono fun p _ o h=>J _ _ h)
   have Z:=fun Y h=>d0 (j+1) Y h ();have s0:=k0 (j+1);have inj:=c1 (j+1) ();have eG:=mZ X hF g h Z;have f0:=eQ (MD ws (lR L C ins (j+1) ins.length));have z1:(MN L ins qs (j+1) qs.length).length<=80:=by have:=jF L ins qs (j+1) qs.length;omega
   generalize t0:lR L C ins (j+1) ins.length=rl at RA Z s0 inj eG f0;have u0:=RA.len;refine⟨_,rfl,LB rfl,fun a ha=>⟨_,rfl,_,_,ai,Vy x1 ha,(by rw[Hn];have:1000<=Hy:=LB rfl;show 1+_<=_;omega),fun c hc=>?_⟩⟩;have s7:SD.Sub M6 (ar (ar M6 a (.lst [.ref ps[j]])) c (.lst ([D.ref ps[j]]++(MN L ins qs (j+1) qs.length).map D.ref))):=.new hc (.new ha .refl);have h7:(ar (ar M6 a (.lst [.ref ps[j]])) c (.lst ([D.ref ps[j]]++(MN L ins qs (j+1) qs.length).map D.ref))) c=KA (.lst ((ps[j]::MN L ins qs (j+1) qs.length).map D.ref)):=ai;generalize ar (ar M6 a (.lst [.ref ps[j]])) c (.lst ([D.ref ps[j]]++(MN L ins qs (j+1) qs.length).map D.ref))=M7 at s7 h7 ⊢;refine⟨_,h7,comp_map (fun q=>D.int ((((rl[q]?).getD []).map (tG g h ws)).sum)) (by show(Jc D.ref _).length<=1000000;rw[Hn];omega) (fun q ys hq=>Vy h7 hq) ?_ (fun pn e1=>?_)⟩
   ·intro q d M8 hq hd sb;have i0:=DO hq;obtain⟨p,ep,rfl⟩:=zP hd;obtain⟨Y,er,mr⟩:=RA.get i0;rw[Hl i0]at ep;cases ep;have O:=Z Y (HE er);refine⟨_,rfl,fun K hK=>?_⟩;have j0:=hK _ .refl;simp only[er,Jx]at j0;exact⟨_,rfl,_,rfl,g,h,l,_,ws,Y,rfl,rfl,G,sb _ _ (s7 _ _ (J _ _ d1)),sb _ _ (s7 _ _ mr),O.lt,F,O.len,X,j0⟩
   have e2:(HX ((ps[j]::MN L ins qs (j+1) qs.length).map D.ref).length).map (fun q=>D.int ((((rl[q]?).getD []).map (tG g h ws)).sum))=(rl.map fun r=>(r.map (tG g h ws)).sum).map D.int:=by
    rw[Hn,u0];apply List.ext_getElem
    ·simp
    ·intro q h1 h2;simp at h1;simp[h1]
   dsimp only;rw[e2];refine⟨_,ai,?_⟩;rw[eG];refine⟨_,rfl,_,rfl,t',b,x',y',ws,rs,_,rfl,rfl,S',F,X,hF,R,.inl ⟨L,j+1,rfl,il,(),by rw[I];omega,fun M9 W=>?_⟩⟩;rw[I,a0,t0,f0];have qb:=iW S inj;exact⟨_,rfl,_,rfl,t,b,x,y,_,rfl,rfl,S,inj,_,sT _,sT _,rfl,sr (qb.1.mono ⋯) (qb.2.mono ⋯),_,rfl,bD (fun h=>absurd h ⋯) fun _=>y1 _ _ ⟨_,_,_,_,rfl,(J.trans s7).trans (SD.Sub.trans (.new e1 .refl) W)⟩⟩
  rintro δ M6 ⟨y2,b2,c2,f1,rfl,J⟩
  have d2:=P4.ne fz
  have P6:=P5.sub J
  have x0:=J _ _ hz
  (try dsimp only[SD.aN])
  refine⟨_,rfl,_,x0,_,rfl,_,x0,_,rfl,r,9,505,rfl,rfl,P6,(),⋯,bC ⋯,fun v o v0 v1 P7=>?_⟩
  refine⟨⟨⋯,⋯,⋯⟩,LB rfl,fun a ha=>?_⟩
  have s8:∀c q,c≠r->M6 c=KA q->∀q',(ar (ar M6 r o) a q') c=KA q:=fun c q hc hq q'=>by rw[aq (aA (by rw[aq hc];exact hq) ha),aq hc];exact hq
  have g2:=s8 z _ d2.symm x0
  have i2:=s8 l _ b0.symm (J _ _ d1)
  have ej:V[0]?=KA V[0]:=Hl ()
  have r0:(V[0]?).getD 0=V[0]:=by rw[ej];rfl
  have i1:∀p∈ps++qs++V,p≠r:=fun p hp e=>by
   obtain⟨_,_,_,e',_⟩:=P4
   have:=fr p hp
   rw[e,e']at this;cases this
  have j2:=s8 _ _ (i1 _ (by simp)) (J _ _ (he 0 _ ej))
  have k2:=(RI.mono (fun p hp q h=>J _ _ h)).mono (fun p hp q h=>s8 p q (i1 p (by simp[hp])) h (.lst [.int 0,.int (-1),.int ((MU ps V).length:Int),.int ((MU ps V).length+v),.int (10^29)]))
  refine⟨_,ai,fun j δ M'=>∃(o7:Option D),δ=[KA (.rol (Jc D.int ns)),KA (.int (i:Int)),KA (.ref r),KA (.ref l),KA (Px t b x y),KA (.tup (ws.map (Kz t' b x' y'))),KA (.ref z),o7,b2,c2,f1]/\SD.Sub (ar (ar M6 r o) a (.lst [.int 0,.int (-1),.int ((MU ps V).length:Int),.int ((MU ps V).length+v),.int (10^29)])) M',⟨_,rfl,.refl⟩,fun j δ M' _ q=>by obtain⟨_,_,q⟩:=q;exact q _ _ ai,?_,?_⟩
  ·rintro j d δ M9 hj hd ⟨o7,rfl,W⟩;have hd:[D.int 0,D.int (-1),D.int ((MU ps V).length:Int),D.int ((MU ps V).length+v),D.int (10^29)][j]?=KA d:=hd;obtain⟨n,rfl,hn,n0,n1⟩:∃n:Int,d=.int n/\(n<=0\/(C.length:Int)<n)/\-(10^40)<n/\n<10^40:=by have:=HE hd;rw[f9]at this;simp only[HW,List.not_mem_nil,or_false]at this;rcases this with e|e|e|e|e<;>exact⟨_,e,(),(),()⟩
   refine⟨_,rfl,_,rfl,t',b,x',y',ws,rs,n,rfl,rfl,S',F,X,hF,R,.inr ⟨by rw[I];exact hn,n0,n1,fun m2 j1=>?_⟩⟩;exact⟨_,rfl,LB rfl,_,Bb n,Bb n,rfl,DH (Bd.mono (m:=200) (by show n.natAbs<2^200;omega) ⋯),_,rfl,bD (fun h=>absurd h ⋯) fun _=>⟨_,rfl,SD.Sub.trans W j1⟩⟩
  rintro δ M9 ⟨o7,rfl,W⟩
  have h9:=W _ _ (j2 _)
  refine⟨_,rfl,_,_,W _ _ (g2 _),(show atI (MU ps V) ((0:Nat):Int)=_ from bj (gT ps V (j:=0) ())),_,rfl,?_⟩
  rw[r0]
  have RA:RL M9 (MN L ins qs 0 qs.length) (lR L C ins 0 ins.length):=by unfold lR;rw[KI rfl,<-b1];exact(k2.inn L 0).mono fun p _ o h=>W _ _ h
  have Z:=fun Y h=>d0 0 Y h ()
  have s0:=k0 0
  have inj:=c1 0 ()
  have eG:=mZ X hF g h Z
  have f0:=eQ (0-MD ws (lR L C ins 0 ins.length))
  have z1:(MN L ins qs 0 qs.length).length<=80:=by have:=jF L ins qs 0 qs.length;omega
  generalize t0:lR L C ins 0 ins.length=rl at RA Z s0 inj eG f0
  have u0:=RA.len
  refine⟨_,h9,comp_map (fun q=>D.int ((((rl[q]?).getD []).map (tG g h ws)).sum)) (by show(Jc D.ref _).length<=1000000;rw[Hn];omega) (fun q ys hq=>Vy h9 hq) ?_ (fun pn e1=>?_)⟩
  ·intro q d m2 hq hd sb;have i0:=DO hq;obtain⟨p,ep,rfl⟩:=zP hd;obtain⟨Y,er,mr⟩:=RA.get i0;rw[Hl i0]at ep;cases ep;have O:=Z Y (HE er);refine⟨_,rfl,fun K hK=>?_⟩;have j0:=hK _ .refl;simp only[er,Jx]at j0;exact⟨_,rfl,_,rfl,g,h,l,_,ws,Y,rfl,rfl,G,sb _ _ (W _ _ (i2 _)),sb _ _ mr,O.lt,F,O.len,X,j0⟩
  have e2:(HX ((MN L ins qs 0 qs.length).map D.ref).length).map (fun q=>D.int ((((rl[q]?).getD []).map (tG g h ws)).sum))=(rl.map fun r=>(r.map (tG g h ws)).sum).map D.int:=by
   rw[Hn,u0];apply List.ext_getElem
   ·simp
   ·intro q h1 h2;simp at h1;simp[h1]
  dsimp only
  rw[e2]
  refine⟨_,ai,?_⟩
  rw[eG]
  refine⟨trivial,?_⟩
  have e0:(0:Int)-g*g*MD ws rl=g*g*(0-MD ws rl):=by grind
  have m0:-(10^9)<=g*g*(0-MD ws rl)/\g*g*(0-MD ws rl)<=10^9:=by rw[<-e0];omega
  have qb:=iW S m0
  refine⟨_,rfl,t',b,x',y',ws,rs,L,rfl,S',F,X,hF,R,il,fun z2 p2=>?_⟩
  rw[I,a0,t0,f0]
  exact⟨_,rfl,_,rfl,t,b,x,y,_,rfl,by rw[<-e0],S,m0,_,sT _,sT _,rfl,sr (qb.1.mono ⋯) (qb.2.mono ⋯),_,rfl,bD (fun h=>absurd h ⋯) fun _=>hB _ _ ⟨_,rfl,rfl⟩⟩
theorem C3(ns:List Int)(M:MH)(h:ns.length<=63):iQ [.rol (ns.map D.int)] M (fun d _=>d=.bl KD):=⟨ns,rfl,h,fun _=>rfl⟩
def kE(P:Hw)(n:String)(k:Nat)(v:Hj):IL:={ hash:=PyData.keyHash P (J1 n),key:=.str (J1 n) k,val:=v }
def kF(i:Nat)(n m:String)(k c:Nat):Obj:={ cls:=.type "function",data:=.func { name:=J1 n,qualname:=J1 n,params:=bF (top i),body:=.stmts (aR (top i)),scope:=ao (top i),globals:=↑3,closure:=[],defaults:=.none,kwdefaults:=.none,pyModule:=.str (J1 m) k,code:=.ref c } }
def ZV(P:Hw):List IL:=[kE P "__name__" ↑165 (.str "law_spotlook_k58_areas" 712),kE P "__doc__" ↑166 (.none),kE P "__package__" ↑167 (.none),kE P "__loader__" ↑168 (.builtin "__main__.__loader__#opaque"),kE P "__spec__" ↑169 (.none),kE P "__annotations__" ↑170 (.ref ↑6),kE P "__builtins__" ↑171 (.ref ↑4),kE P "__file__" ↑173 (.str "/claim/cut.py" 172)]
def ZU(P:Hw):List IL:=[kE P "__cached__" ↑174 (.none),kE P "SpotError" ↑206 (.ref ↑24),kE P "NoFraction" ↑222 (.ref ↑37),kE P "NoWall" ↑238 (.ref ↑49),kE P "TooMany" ↑263 (.ref ↑68),kE P "Crossing" ↑290 (.ref ↑87),kE P "Absent" ↑315 (.ref ↑106),kE P "NoText" ↑340 (.ref ↑125)]
def ZT(P:Hw):List IL:=[kE P "NoRow" ↑356 (.ref ↑137),kE P "greatest_divisor" ↑366 (.ref ↑146),kE P "fraction" ↑375 (.ref ↑153),kE P "plus" ↑383 (.ref ↑160),kE P "less" ↑391 (.ref ↑167),kE P "is_less" ↑399 (.ref ↑174),kE P "common_bottom" ↑408 (.ref ↑181),kE P "top_over" ↑416 (.ref ↑188)]
def ZS(P:Hw):List IL:=[kE P "is_ahead" ↑426 (.ref ↑195),kE P "later_of" ↑434 (.ref ↑202),kE P "earlier_of" ↑442 (.ref ↑209),kE P "place_among" ↑453 (.ref ↑216),kE P "ahead_first" ↑462 (.ref ↑223),kE P "own_spot" ↑471 (.ref ↑230),kE P "own_wall" ↑478 (.ref ↑237),kE P "gap" ↑486 (.ref ↑244)]
def ZR(P:Hw):List IL:=[kE P "lean" ↑504 (.ref ↑251),kE P "side_of" ↑513 (.ref ↑258),kE P "spans" ↑523 (.ref ↑265),kE P "is_above" ↑535 (.ref ↑272),kE P "upper_of" ↑544 (.ref ↑279),kE P "upper_below" ↑550 (.ref ↑284),kE P "face_ends" ↑562 (.ref ↑291),kE P "faces_by_start" ↑571 (.ref ↑298)]
def ZQ(P:Hw):List IL:=[kE P "is_met_sooner" ↑583 (.ref ↑305),kE P "face_behind" ↑597 (.ref ↑312),kE P "ring_from" ↑608 (.ref ↑319),kE P "rings_of" ↑621 (.ref ↑326),kE P "twice_area" ↑627 (.ref ↑331),kE P "ring_area" ↑637 (.ref ↑338),kE P "outer_and_inner" ↑649 (.ref ↑345),kE P "first_corner" ↑659 (.ref ↑352)]
def ZP(P:Hw):List IL:=[kE P "land_about" ↑669 (.ref ↑359),kE P "lands_of_faces" ↑675 (.ref ↑364),kE P "lands_of" ↑681 (.ref ↑369),kE P "sum_of_areas" ↑693 (.ref ↑376),kE P "land_area" ↑704 (.ref ↑383),kE P "area_shut_in" ↑711 (.ref ↑390),kE P "_law_pot" ↑722 (.ref ↑397),kE P "_law_take" ↑732 (.ref ↑404)]
def ZO(P:Hw):List IL:=[kE P "_law_side" ↑745 (.ref ↑411),kE P "_law_on" ↑753 (.ref ↑418),kE P "_law_apart" ↑765 (.ref ↑425),kE P "_law_new_spot" ↑773 (.ref ↑432),kE P "_law_some_spot" ↑782 (.ref ↑439),kE P "_law_square" ↑793 (.ref ↑446),kE P "_law_laid" ↑799 (.ref ↑451),kE P "_law_shuts_here" ↑805 (.ref ↑456)]
def ZN(P:Hw):List IL:=[kE P "_law_frac" ↑815 (.ref ↑463),kE P "_law_frame" ↑821 (.ref ↑468),kE P "_law_given" ↑833 (.ref ↑475),kE P "_law_plot" ↑839 (.ref ↑480),kE P "_law_same" ↑847 (.ref ↑487),kE P "_law_area" ↑859 (.ref ↑494),kE P "_law_real" ↑871 (.ref ↑501),kE P "_law_of_others" ↑878 (.ref ↑508)]
def ZM(P:Hw):List IL:=[kE P "_law_told" ↑889 (.ref ↑515),kE P "_law_squares" ↑895 (.ref ↑520),kE P "law" ↑901 (.ref ↑525)]
def kG(P:Hw):Obj:={ cls:=.type "dict",data:=.dict (HD (ZV P++(ZU P++(ZT P++(ZS P++(ZR P++(ZQ P++(ZP P++(ZO P++(ZN P++(ZM P))))))))))) 75 }
def LW(n:String)(a0:Nat)(h:Nat)(i:Nat)(j:Nat)(k:Nat)(l:Nat)(a:Nat)(b:Nat)(c:Nat)(d:Nat)(e:Nat)(f:Nat)(g:Nat):Obj:={ cls:=.type "code",data:=.fields #[.str (J1 n) a0,.str (J1 n) h,.str "/claim/cut.py" i,.int (Ka j) 0,.int (Ka k) 0,.int 0 0,.int 0 0,.int 3 0,.ref l,.bool KD,.int 181 0,.ref a,.none,.ref b,.ref c,.ref d,.int (Ka e) 0,.int (Ka f) 0,.str "/claim/cut.py" g] }
def kM(i j:Nat)(n q m:String)(k c:Nat):Obj:={ cls:=.type "function",data:=.func { name:=J1 n,qualname:=J1 q,params:=bF (SD.tq (top i) j),body:=.stmts (aR (SD.tq (top i) j)),scope:=ao (SD.tq (top i) j),globals:=↑3,closure:=[],defaults:=.none,kwdefaults:=.none,pyModule:=.str (J1 m) k,code:=.ref c } }
def Gq(P:Hw):Obj:={ cls:=.type "dict",data:=.dict (HD [kE P "__module__" ↑196 (.str "spotlook.errors" 187),kE P "__firstlineno__" ↑200 (.int 2 199),kE P "__static_attributes__" ↑201 (.ref ↑22),kE P "__weakref__" ↑203 (.ref ↑25),kE P "__doc__" ↑204 (.none)]) 3 }
def GO(P:Hw):Obj:={ cls:=.type "dict",data:=.dict (HD [kE P "__module__" ↑214 (.str "spotlook.errors" 187),kE P "__firstlineno__" ↑218 (.int 4 217),kE P "__static_attributes__" ↑219 (.ref ↑35),kE P "__doc__" ↑220 (.none)]) 2 }
def Gp(P:Hw):Obj:={ cls:=.type "dict",data:=.dict (HD [kE P "__module__" ↑230 (.str "spotlook.errors" 187),kE P "__firstlineno__" ↑234 (.int 6 233),kE P "__static_attributes__" ↑235 (.ref ↑47),kE P "__doc__" ↑236 (.none)]) 2 }
def Gm(P:Hw):Obj:={ cls:=.type "dict",data:=.dict (HD [kE P "__module__" ↑246 (.str "spotlook.errors" 187),kE P "__firstlineno__" ↑250 (.int 8 249),kE P "__init__" ↑258 (.ref ↑65),kE P "__static_attributes__" ↑260 (.ref ↑66),kE P "__doc__" ↑261 (.none)]) 2 }
def G9(P:Hw):Obj:={ cls:=.type "dict",data:=.dict (HD [kE P "__module__" ↑271 (.str "spotlook.errors" 187),kE P "__firstlineno__" ↑275 (.int 13 274),kE P "__init__" ↑284 (.ref ↑84),kE P "__static_attributes__" ↑287 (.ref ↑85),kE P "__doc__" ↑288 (.none)]) 2 }
def FA(P:Hw):Obj:={ cls:=.type "dict",data:=.dict (HD [kE P "__module__" ↑298 (.str "spotlook.errors" 187),kE P "__firstlineno__" ↑302 (.int 19 301),kE P "__init__" ↑310 (.ref ↑103),kE P "__static_attributes__" ↑312 (.ref ↑104),kE P "__doc__" ↑313 (.none)]) 2 }
def EK(P:Hw):Obj:={ cls:=.type "dict",data:=.dict (HD [kE P "__module__" ↑323 (.str "spotlook.errors" 187),kE P "__firstlineno__" ↑327 (.int 24 326),kE P "__init__" ↑335 (.ref ↑122),kE P "__static_attributes__" ↑337 (.ref ↑123),kE P "__doc__" ↑338 (.none)]) 2 }
def ES(P:Hw):Obj:={ cls:=.type "dict",data:=.dict (HD [kE P "__module__" ↑348 (.str "spotlook.errors" 187),kE P "__firstlineno__" ↑352 (.int 29 351),kE P "__static_attributes__" ↑353 (.ref ↑135),kE P "__doc__" ↑354 (.none)]) 2 }
def kN(l:List Obj)(i:Nat):Obj:=l.getD i { cls:=.none,data:=.dict #[] }
def Lb(n q:Str)(a b c l k f r:Nat)(t:Bool)(s:Nat)(x y z:Hj)(d e:Nat):Obj:={ cls:=.type "code",data:=.fields #[.str n a,.str q b,.str "/claim/cut.py" c,.int l 0,.int k 0,.int 0 0,.int 0 0,.int f 0,.ref r,.bool t,.int 181 0,.ref s,.none,x,y,z,.int d 0,.int l 0,.str "/claim/cut.py" e] }
def Pu(n:Str)(s g a i j:Nat):Obj:={ cls:=.type "type",data:=.cls { name:=n,bases:=[.ref 24],mro:=[.ref s,.ref 24,.type "ValueError",.type "Exception",.type "BaseException",.type "object"],ns:=g,qualname:=n,hasDict:=KD,slotNames:=[],subclasses:=[],abstract:=KG,collection:=KC,hasDel:=KG },slots:=#[KA (.ref a),KC,KA (.str n i),KA (.str n j),KA (.builtin "ValueError.__new__"),KA (.bool KD)] }
def Pt(n:Str)(s g a i j:Nat):Obj:={ cls:=.type "type",data:=.cls { name:=n,bases:=[.ref ↑24],mro:=[.ref s,.ref ↑24,.type "ValueError",.type "Exception",.type "BaseException",.type "object"],ns:=g,qualname:=n,hasDict:=KD,slotNames:=[],subclasses:=[],abstract:=KG,collection:=KC,hasDel:=KG },slots:=#[KA (.ref a),KC,KA (.str n i),KA (.str n j),KA (.builtin "ValueError.__new__"),KA (.bool KD)] }
def MI:Hj:=.str "law_spotlook_k58_areas" 712
def MX(i:Nat)(n:String)(c:Nat):Obj:=kF i n "law_spotlook_k58_areas" ↑712 c
def Pk:List Obj:=[{ cls:=.none,data:=.dict #[] 0 },{ cls:=.type "type",data:=.cls { name:="SpotError",bases:=[(.type "ValueError")],mro:=[(.ref ↑24),(.type "ValueError"),(.type "Exception"),(.type "BaseException"),(.type "object")],ns:=23,qualname:="SpotError",hasDict:=KD,slotNames:=[],subclasses:=[(.ref ↑37),(.ref ↑49),(.ref ↑68),(.ref ↑87),(.ref ↑106),(.ref ↑125),(.ref ↑137)],abstract:=KG,collection:=KC,hasDel:=KG },slots:=#[(KA (.ref ↑15)),KC,(KA (.str "SpotError" 189)),(KA (.str "SpotError" 197)),(KA (.builtin "ValueError.__new__")),(KA (.bool KD))] },(Pt "NoFraction" ↑37 36 ↑28 207 215),(Pt "NoWall" ↑49 48 ↑40 223 231),(Lb "__init__" "TooMany.__init__" 251 252 253 10 2 3 59 KD 60 (.ref 61) (.ref 62) (.ref 63) 256 257),kM ↑4 ↑0 "__init__" "TooMany.__init__" "spotlook.errors" ↑187 ↑64,(Pt "TooMany" ↑68 67 ↑52 239 247),(Lb "__init__" "Crossing.__init__" 276 277 278 15 3 3 78 KD 79 (.ref 80) (.ref 81) (.ref 82) 282 283)]
def Pj:List Obj:=[kM ↑5 ↑0 "__init__" "Crossing.__init__" "spotlook.errors" ↑187 ↑83,(Pt "Crossing" ↑87 86 ↑71 264 272),(Lb "__init__" "Absent.__init__" 303 304 305 21 2 3 97 KD 98 (.ref 99) (.ref 100) (.ref 101) 308 309),kM ↑6 ↑0 "__init__" "Absent.__init__" "spotlook.errors" ↑187 ↑102,(Pt "Absent" ↑106 105 ↑90 291 299),(Lb "__init__" "NoText.__init__" 328 329 330 26 2 3 116 KD 117 (.ref 118) (.ref 119) (.ref 120) 333 334),kM ↑7 ↑0 "__init__" "NoText.__init__" "spotlook.errors" ↑187 ↑121,(Pt "NoText" ↑125 124 ↑109 316 324)]
def Ph:List Obj:=[(Pt "NoRow" ↑137 136 ↑128 341 349),LW "greatest_divisor" ↑359 ↑360 ↑361 ↑32 ↑2 ↑140 ↑141 ↑142 ↑143 ↑144 ↑364 ↑32 ↑365,kF ↑10 "greatest_divisor" "spotlook.fractions" ↑357 ↑145,LW "fraction" ↑367 ↑368 ↑369 ↑36 ↑2 ↑147 ↑148 ↑149 ↑150 ↑151 ↑373 ↑36 ↑374,kF ↑11 "fraction" "spotlook.fractions" ↑357 ↑152,LW "plus" ↑376 ↑377 ↑378 ↑43 ↑2 ↑154 ↑155 ↑156 ↑157 ↑158 ↑381 ↑43 ↑382,kF ↑12 "plus" "spotlook.fractions" ↑357 ↑159,LW "less" ↑384 ↑385 ↑386 ↑45 ↑2 ↑161 ↑162 ↑163 ↑164 ↑165 ↑389 ↑45 ↑390]
def Pg:List Obj:=[kF ↑13 "less" "spotlook.fractions" ↑357 ↑166,LW "is_less" ↑392 ↑393 ↑394 ↑47 ↑2 ↑168 ↑169 ↑170 ↑171 ↑172 ↑397 ↑47 ↑398,kF ↑14 "is_less" "spotlook.fractions" ↑357 ↑173,LW "common_bottom" ↑400 ↑401 ↑402 ↑49 ↑1 ↑175 ↑176 ↑177 ↑178 ↑179 ↑406 ↑49 ↑407,kF ↑15 "common_bottom" "spotlook.fractions" ↑357 ↑180,LW "top_over" ↑409 ↑410 ↑411 ↑54 ↑2 ↑182 ↑183 ↑184 ↑185 ↑186 ↑414 ↑54 ↑415,kF ↑16 "top_over" "spotlook.fractions" ↑357 ↑187,LW "is_ahead" ↑419 ↑420 ↑421 ↑57 ↑2 ↑189 ↑190 ↑191 ↑192 ↑193 ↑424 ↑57 ↑425]
def Pf:List Obj:=[kF ↑18 "is_ahead" "spotlook.spots" ↑417 ↑194,LW "later_of" ↑427 ↑428 ↑429 ↑61 ↑2 ↑196 ↑197 ↑198 ↑199 ↑200 ↑432 ↑61 ↑433,kF ↑19 "later_of" "spotlook.spots" ↑417 ↑201,LW "earlier_of" ↑435 ↑436 ↑437 ↑63 ↑2 ↑203 ↑204 ↑205 ↑206 ↑207 ↑440 ↑63 ↑441,kF ↑20 "earlier_of" "spotlook.spots" ↑417 ↑208,LW "place_among" ↑443 ↑444 ↑445 ↑65 ↑2 ↑210 ↑211 ↑212 ↑213 ↑214 ↑451 ↑65 ↑452,kF ↑21 "place_among" "spotlook.spots" ↑417 ↑215,LW "ahead_first" ↑454 ↑455 ↑456 ↑74 ↑1 ↑217 ↑218 ↑219 ↑220 ↑221 ↑460 ↑74 ↑461]
def Pe:List Obj:=[kF ↑22 "ahead_first" "spotlook.spots" ↑417 ↑222,LW "own_spot" ↑463 ↑464 ↑465 ↑79 ↑1 ↑224 ↑225 ↑226 ↑227 ↑228 ↑469 ↑79 ↑470,kF ↑23 "own_spot" "spotlook.spots" ↑417 ↑229,LW "own_wall" ↑472 ↑473 ↑474 ↑82 ↑1 ↑231 ↑232 ↑233 ↑234 ↑235 ↑476 ↑82 ↑477,kF ↑24 "own_wall" "spotlook.spots" ↑417 ↑236,LW "gap" ↑479 ↑480 ↑481 ↑84 ↑2 ↑238 ↑239 ↑240 ↑241 ↑242 ↑484 ↑84 ↑485,kF ↑25 "gap" "spotlook.spots" ↑417 ↑243,LW "lean" ↑487 ↑488 ↑489 ↑86 ↑2 ↑245 ↑246 ↑247 ↑248 ↑249 ↑502 ↑86 ↑503]
def Pc:List Obj:=[kF ↑26 "lean" "spotlook.spots" ↑417 ↑250,LW "side_of" ↑505 ↑506 ↑507 ↑92 ↑2 ↑252 ↑253 ↑254 ↑255 ↑256 ↑511 ↑92 ↑512,kF ↑27 "side_of" "spotlook.spots" ↑417 ↑257,LW "spans" ↑516 ↑517 ↑518 ↑100 ↑2 ↑259 ↑260 ↑261 ↑262 ↑263 ↑521 ↑100 ↑522,kF ↑29 "spans" "spotlook.above" ↑514 ↑264,LW "is_above" ↑524 ↑525 ↑526 ↑102 ↑2 ↑266 ↑267 ↑268 ↑269 ↑270 ↑533 ↑102 ↑534,kF ↑30 "is_above" "spotlook.above" ↑514 ↑271,LW "upper_of" ↑536 ↑537 ↑538 ↑110 ↑1 ↑273 ↑274 ↑275 ↑276 ↑277 ↑542 ↑110 ↑543]
def Pb:List Obj:=[kF ↑31 "upper_of" "spotlook.above" ↑514 ↑278,(Lb "upper_below" "upper_below" 545 546 547 116 2 3 280 KD 281 .none .none (.ref 282) 548 549),kF ↑32 "upper_below" "spotlook.above" ↑514 ↑283,LW "face_ends" ↑553 ↑554 ↑555 ↑120 ↑2 ↑285 ↑286 ↑287 ↑288 ↑289 ↑560 ↑120 ↑561,kF ↑34 "face_ends" "spotlook.rings" ↑551 ↑290,LW "faces_by_start" ↑563 ↑564 ↑565 ↑123 ↑1 ↑292 ↑293 ↑294 ↑295 ↑296 ↑569 ↑123 ↑570,kF ↑35 "faces_by_start" "spotlook.rings" ↑551 ↑297,LW "is_met_sooner" ↑572 ↑573 ↑574 ↑128 ↑4 ↑299 ↑300 ↑301 ↑302 ↑303 ↑581 ↑128 ↑582]
def Pa:List Obj:=[kF ↑36 "is_met_sooner" "spotlook.rings" ↑551 ↑304,LW "face_behind" ↑584 ↑585 ↑586 ↑134 ↑3 ↑306 ↑307 ↑308 ↑309 ↑310 ↑595 ↑134 ↑596,kF ↑37 "face_behind" "spotlook.rings" ↑551 ↑311,LW "ring_from" ↑598 ↑599 ↑600 ↑142 ↑3 ↑313 ↑314 ↑315 ↑316 ↑317 ↑606 ↑142 ↑607,kF ↑38 "ring_from" "spotlook.rings" ↑551 ↑318,LW "rings_of" ↑609 ↑610 ↑611 ↑149 ↑1 ↑320 ↑321 ↑322 ↑323 ↑324 ↑619 ↑149 ↑620,kF ↑39 "rings_of" "spotlook.rings" ↑551 ↑325,(Lb "twice_area" "twice_area" 622 623 624 160 2 3 327 KD 328 .none .none (.ref 329) 625 626)]
def P9:List Obj:=[kF ↑40 "twice_area" "spotlook.rings" ↑551 ↑330,LW "ring_area" ↑628 ↑629 ↑630 ↑169 ↑2 ↑332 ↑333 ↑334 ↑335 ↑336 ↑635 ↑169 ↑636,kF ↑41 "ring_area" "spotlook.rings" ↑551 ↑337,LW "outer_and_inner" ↑640 ↑641 ↑642 ↑173 ↑1 ↑339 ↑340 ↑341 ↑342 ↑343 ↑647 ↑173 ↑648,kF ↑43 "outer_and_inner" "spotlook.lands" ↑638 ↑344,LW "first_corner" ↑650 ↑651 ↑652 ↑181 ↑2 ↑346 ↑347 ↑348 ↑349 ↑350 ↑657 ↑181 ↑658,kF ↑44 "first_corner" "spotlook.lands" ↑638 ↑351,LW "land_about" ↑660 ↑661 ↑662 ↑186 ↑3 ↑353 ↑354 ↑355 ↑356 ↑357 ↑667 ↑186 ↑668]
def NC:List Obj:=[kF ↑45 "land_about" "spotlook.lands" ↑638 ↑358,(Lb "lands_of_faces" "lands_of_faces" 670 671 672 189 1 3 360 KD 361 .none .none (.ref 362) 673 674),kF ↑46 "lands_of_faces" "spotlook.lands" ↑638 ↑363,(Lb "lands_of" "lands_of" 676 677 678 201 1 3 365 KD 366 .none .none (.ref 367) 679 680),kF ↑47 "lands_of" "spotlook.lands" ↑638 ↑368,LW "sum_of_areas" ↑684 ↑685 ↑686 ↑209 ↑2 ↑370 ↑371 ↑372 ↑373 ↑374 ↑691 ↑209 ↑692,kF ↑49 "sum_of_areas" "spotlook.beside" ↑682 ↑375,LW "land_area" ↑694 ↑695 ↑696 ↑214 ↑2 ↑377 ↑378 ↑379 ↑380 ↑381 ↑702 ↑214 ↑703]
def NB:List Obj:=[kF ↑50 "land_area" "spotlook.beside" ↑682 ↑382,LW "area_shut_in" ↑705 ↑706 ↑707 ↑220 ↑1 ↑384 ↑385 ↑386 ↑387 ↑388 ↑709 ↑220 ↑710,kF ↑51 "area_shut_in" "spotlook.beside" ↑682 ↑389,LW "_law_pot" ↑714 ↑715 ↑716 ↑223 ↑2 ↑391 ↑392 ↑393 ↑394 ↑395 ↑720 ↑223 ↑721,MX ↑53 "_law_pot" ↑396,LW "_law_take" ↑723 ↑724 ↑725 ↑228 ↑2 ↑398 ↑399 ↑400 ↑401 ↑402 ↑730 ↑228 ↑731,MX ↑54 "_law_take" ↑403,LW "_law_side" ↑733 ↑734 ↑735 ↑237 ↑2 ↑405 ↑406 ↑407 ↑408 ↑409 ↑743 ↑237 ↑744]
def NA:List Obj:=[MX ↑55 "_law_side" ↑410,LW "_law_on" ↑746 ↑747 ↑748 ↑242 ↑2 ↑412 ↑413 ↑414 ↑415 ↑416 ↑751 ↑242 ↑752,MX ↑56 "_law_on" ↑417,LW "_law_apart" ↑754 ↑755 ↑756 ↑244 ↑2 ↑419 ↑420 ↑421 ↑422 ↑423 ↑763 ↑244 ↑764,MX ↑57 "_law_apart" ↑424,LW "_law_new_spot" ↑766 ↑767 ↑768 ↑251 ↑2 ↑426 ↑427 ↑428 ↑429 ↑430 ↑771 ↑251 ↑772,MX ↑58 "_law_new_spot" ↑431,LW "_law_some_spot" ↑774 ↑775 ↑776 ↑253 ↑3 ↑433 ↑434 ↑435 ↑436 ↑437 ↑780 ↑253 ↑781]
def Mz:List Obj:=[MX ↑59 "_law_some_spot" ↑438,LW "_law_square" ↑783 ↑784 ↑785 ↑257 ↑2 ↑440 ↑441 ↑442 ↑443 ↑444 ↑791 ↑257 ↑792,MX ↑60 "_law_square" ↑445,(Lb "_law_laid" "_law_laid" 794 795 796 263 3 3 447 KD 448 .none .none (.ref 449) 797 798),MX ↑61 "_law_laid" ↑450,(Lb "_law_shuts_here" "_law_shuts_here" 800 801 802 268 2 3 452 KD 453 .none .none (.ref 454) 803 804),MX ↑62 "_law_shuts_here" ↑455,LW "_law_frac" ↑806 ↑807 ↑808 ↑280 ↑2 ↑457 ↑458 ↑459 ↑460 ↑461 ↑813 ↑280 ↑814]
def My:List Obj:=[MX ↑63 "_law_frac" ↑462,(Lb "_law_frame" "_law_frame" 816 817 818 286 2 3 464 KD 465 .none .none (.ref 466) 819 820),MX ↑64 "_law_frame" ↑467,LW "_law_given" ↑822 ↑823 ↑824 ↑295 ↑2 ↑469 ↑470 ↑471 ↑472 ↑473 ↑831 ↑295 ↑832,MX ↑65 "_law_given" ↑474,(Lb "_law_plot" "_law_plot" 834 835 836 298 2 3 476 KD 477 .none .none (.ref 478) 837 838),MX ↑66 "_law_plot" ↑479,LW "_law_same" ↑840 ↑841 ↑842 ↑300 ↑2 ↑481 ↑482 ↑483 ↑484 ↑485 ↑845 ↑300 ↑846]
def Mx:List Obj:=[MX ↑67 "_law_same" ↑486,LW "_law_area" ↑848 ↑849 ↑850 ↑302 ↑2 ↑488 ↑489 ↑490 ↑491 ↑492 ↑857 ↑302 ↑858,MX ↑68 "_law_area" ↑493,LW "_law_real" ↑860 ↑861 ↑862 ↑310 ↑2 ↑495 ↑496 ↑497 ↑498 ↑499 ↑869 ↑310 ↑870,MX ↑69 "_law_real" ↑500,LW "_law_of_others" ↑872 ↑873 ↑874 ↑313 ↑1 ↑502 ↑503 ↑504 ↑505 ↑506 ↑876 ↑313 ↑877,MX ↑70 "_law_of_others" ↑507,LW "_law_told" ↑879 ↑880 ↑881 ↑315 ↑2 ↑509 ↑510 ↑511 ↑512 ↑513 ↑887 ↑315 ↑888]
def Ol:List Obj:=[MX ↑71 "_law_told" ↑514,(Lb "_law_squares" "_law_squares" 890 891 892 327 2 3 516 KD 517 .none .none (.ref 518) 893 894),MX ↑72 "_law_squares" ↑519,(Lb "law" "law" 896 897 898 338 1 3 521 KD 522 .none .none (.ref 523) 899 900),MX ↑73 "law" ↑524]
def kK:Hw->H0:=fun P=>(↑2,kN Pk ↑0)::(↑3,kG P)::(↑23,Gq P)::(↑24,kN Pk ↑1)::(↑36,GO P)::(↑37,kN Pk ↑2)::(↑48,Gp P)::(↑49,kN Pk ↑3)::(↑64,kN Pk ↑4)::(↑65,kN Pk ↑5)::(↑67,Gm P)::(↑68,kN Pk ↑6)::(↑83,kN Pk ↑7)::(↑84,kN Pj ↑0)::(↑86,G9 P)::(↑87,kN Pj ↑1)::(↑102,kN Pj ↑2)::(↑103,kN Pj ↑3)::(↑105,FA P)::(↑106,kN Pj ↑4)::(↑121,kN Pj ↑5)::(↑122,kN Pj ↑6)::(↑124,EK P)::(↑125,kN Pj ↑7)::(↑136,ES P)::(↑137,kN Ph ↑0)::(↑145,kN Ph ↑1)::(↑146,kN Ph ↑2)::(↑152,kN Ph ↑3)::(↑153,kN Ph ↑4)::(↑159,kN Ph ↑5)::(↑160,kN Ph ↑6)::(↑166,kN Ph ↑7)::(↑167,kN Pg ↑0)::(↑173,kN Pg ↑1)::(↑174,kN Pg ↑2)::(↑180,kN Pg ↑3)::(↑181,kN Pg ↑4)::(↑187,kN Pg ↑5)::(↑188,kN Pg ↑6)::(↑194,kN Pg ↑7)::(↑195,kN Pf ↑0)::(↑201,kN Pf ↑1)::(↑202,kN Pf ↑2)::(↑208,kN Pf ↑3)::(↑209,kN Pf ↑4)::(↑215,kN Pf ↑5)::(↑216,kN Pf ↑6)::(↑222,kN Pf ↑7)::(↑223,kN Pe ↑0)::(↑229,kN Pe ↑1)::(↑230,kN Pe ↑2)::(↑236,kN Pe ↑3)::(↑237,kN Pe ↑4)::(↑243,kN Pe ↑5)::(↑244,kN Pe ↑6)::(↑250,kN Pe ↑7)::(↑251,kN Pc ↑0)::(↑257,kN Pc ↑1)::(↑258,kN Pc ↑2)::(↑264,kN Pc ↑3)::(↑265,kN Pc ↑4)::(↑271,kN Pc ↑5)::(↑272,kN Pc ↑6)::(↑278,kN Pc ↑7)::(↑279,kN Pb ↑0)::(↑283,kN Pb ↑1)::(↑284,kN Pb ↑2)::(↑290,kN Pb ↑3)::(↑291,kN Pb ↑4)::(↑297,kN Pb ↑5)::(↑298,kN Pb ↑6)::(↑304,kN Pb ↑7)::(↑305,kN Pa ↑0)::(↑311,kN Pa ↑1)::(↑312,kN Pa ↑2)::(↑318,kN Pa ↑3)::(↑319,kN Pa ↑4)::(↑325,kN Pa ↑5)::(↑326,kN Pa ↑6)::(↑330,kN Pa ↑7)::(↑331,kN P9 ↑0)::(↑337,kN P9 ↑1)::(↑338,kN P9 ↑2)::(↑344,kN P9 ↑3)::(↑345,kN P9 ↑4)::(↑351,kN P9 ↑5)::(↑352,kN P9 ↑6)::(↑358,kN P9 ↑7)::(↑359,kN NC ↑0)::(↑363,kN NC ↑1)::(↑364,kN NC ↑2)::(↑368,kN NC ↑3)::(↑369,kN NC ↑4)::(↑375,kN NC ↑5)::(↑376,kN NC ↑6)::(↑382,kN NC ↑7)::(↑383,kN NB ↑0)::(↑389,kN NB ↑1)::(↑390,kN NB ↑2)::(↑396,kN NB ↑3)::(↑397,kN NB ↑4)::(↑403,kN NB ↑5)::(↑404,kN NB ↑6)::(↑410,kN NB ↑7)::(↑411,kN NA ↑0)::(↑417,kN NA ↑1)::(↑418,kN NA ↑2)::(↑424,kN NA ↑3)::(↑425,kN NA ↑4)::(↑431,kN NA ↑5)::(↑432,kN NA ↑6)::(↑438,kN NA ↑7)::(↑439,kN Mz ↑0)::(↑445,kN Mz ↑1)::(↑446,kN Mz ↑2)::(↑450,kN Mz ↑3)::(↑451,kN Mz ↑4)::(↑455,kN Mz ↑5)::(↑456,kN Mz ↑6)::(↑462,kN Mz ↑7)::(↑463,kN My ↑0)::(↑467,kN My ↑1)::(↑468,kN My ↑2)::(↑474,kN My ↑3)::(↑475,kN My ↑4)::(↑479,kN My ↑5)::(↑480,kN My ↑6)::(↑486,kN My ↑7)::(↑487,kN Mx ↑0)::(↑493,kN Mx ↑1)::(↑494,kN Mx ↑2)::(↑500,kN Mx ↑3)::(↑501,kN Mx ↑4)::(↑507,kN Mx ↑5)::(↑508,kN Mx ↑6)::(↑514,kN Mx ↑7)::(↑515,kN Ol ↑0)::(↑519,kN Ol ↑1)::(↑520,kN Ol ↑2)::(↑524,kN Ol ↑3)::(↑525,kN Ol ↑4)::[]
end QQ
noncomputable section
local macro_rules|`(def $n $s:optDeclSig $v:declVal)=>`(noncomputable def $n $s:optDeclSig $v)
namespace QQ
open PySem L2
inductive Tg{A:Type}(a:A):Type where|mk:Tg a
noncomputable def pk{A:Type}{a:A}(_:Tg a):A:=a
noncomputable def hE(P:Hw)(n:Str)(k:Nat)(v:Hj):IL:={ hash:=PyData.keyHash P n,key:=.str n k,val:=v }
noncomputable def Lo(k:Nat)(l:List IL):Obj:={ cls:=.type "dict",data:=.dict (HD l) k }
noncomputable def Le:Hj:=.str "spotlook.errors" 187
noncomputable def kU(s:Stmt)(n q:Str)(g:Nat)(m c:Hj):JT:={ name:=n,qualname:=q,params:=bF s,body:=.stmts (aR s),scope:=ao s,globals:=g,closure:=[],defaults:=.none,kwdefaults:=.none,pyModule:=m,code:=c }
noncomputable def kC(s:Stmt)(i:Nat):Stmt:=match s with
 |.ClassDef (body:=b) ..=>b.getD i (.Pass ⟨0,0,0,0⟩)
 |s=>s
noncomputable def LO(l:List Hj):Obj:={ cls:=.type "tuple",data:=.seq l.toArray 0 }
noncomputable def Vx(l:List Hj):Obj:={ cls:=.none,data:=.fields l.toArray }
local macro_rules | `(tactic| walk_at "st") => `(tactic| (intro t; (conv at t => (arg 1; whnf)); exact pk (.mk : type_of% t)))
local macro_rules | `(⇑$n:num) => `((by refine' (?_ : Tg (top $n) → Stmt) .mk; walk_at "st" : Stmt))
def YO:Stmt:=⇑0
def WH:Stmt:=⇑1
def QW:Stmt:=⇑2
def PJ:Stmt:=⇑3
def NZ:Stmt:=⇑4
def Mr:Stmt:=⇑5
def QP:Stmt:=⇑6
def Mu:Stmt:=⇑7
def WG:Stmt:=⇑8
def YN:Stmt:=⇑9
def Mw:Stmt:=⇑10
def Mv:Stmt:=⇑11
def Oh:Stmt:=⇑12
def Mg:Stmt:=⇑13
def Og:Stmt:=⇑14
def Of:Stmt:=⇑15
def Oe:Stmt:=⇑16
def QX:Stmt:=⇑17
def Od:Stmt:=⇑18
def Oc:Stmt:=⇑19
def Ob:Stmt:=⇑20
def Oa:Stmt:=⇑21
def O9:Stmt:=⇑22
def O8:Stmt:=⇑23
def O7:Stmt:=⇑24
def O6:Stmt:=⇑25
def O5:Stmt:=⇑26
def O4:Stmt:=⇑27
def QV:Stmt:=⇑28
def O3:Stmt:=⇑29
def O2:Stmt:=⇑30
def O1:Stmt:=⇑31
def O0:Stmt:=⇑32
def QU:Stmt:=⇑33
def OZ:Stmt:=⇑34
def OY:Stmt:=⇑35
def OX:Stmt:=⇑36
def OW:Stmt:=⇑37
def OV:Stmt:=⇑38
def OU:Stmt:=⇑39
def OT:Stmt:=⇑40
def OS:Stmt:=⇑41
def QT:Stmt:=⇑42
def OR:Stmt:=⇑43
def OQ:Stmt:=⇑44
def OP:Stmt:=⇑45
def OO:Stmt:=⇑46
def ON:Stmt:=⇑47
def QS:Stmt:=⇑48
def OM:Stmt:=⇑49
def OL:Stmt:=⇑50
def OK:Stmt:=⇑51
def QR:Stmt:=⇑52
def OJ:Stmt:=⇑53
def OI:Stmt:=⇑54
def OH:Stmt:=⇑55
def OG:Stmt:=⇑56
def OF:Stmt:=⇑57
def OE:Stmt:=⇑58
def OD:Stmt:=⇑59
def OC:Stmt:=⇑60
def OB:Stmt:=⇑61
def OA:Stmt:=⇑62
def Nz:Stmt:=⇑63
def Ny:Stmt:=⇑64
def Nx:Stmt:=⇑65
def Nw:Stmt:=⇑66
def Nv:Stmt:=⇑67
def Nu:Stmt:=⇑68
def Nt:Stmt:=⇑69
def Nr:Stmt:=⇑70
def Nq:Stmt:=⇑71
def Np:Stmt:=⇑72
def Nn:Stmt:=⇑73
noncomputable def Yu:JC:=by refine'(?_:Tg (IH.main.scope)->JC) .mk;walk_at "st"
noncomputable def ZX:Str:=by refine'(?_:Tg (IH.main.file)->Str) .mk;walk_at "st"
noncomputable def ZW:Given:=by refine'(?_:Tg (IH.given)->Given) .mk;walk_at "st"
noncomputable def Yv:List Stmt:=Ny::Nx::Nw::Nv::Nu::Nt::Nr::Nq::Np::Nn::[]
noncomputable def Yw:List Stmt:=QS::OM::OL::OK::QR::OJ::OI::OH::OG::OF::OE::OD::OC::OB::OA::Nz::Yv
noncomputable def Yx:List Stmt:=O0::QU::OZ::OY::OX::OW::OV::OU::OT::OS::QT::OR::OQ::OP::OO::ON::Yw
noncomputable def Yy:List Stmt:=Oe::QX::Od::Oc::Ob::Oa::O9::O8::O7::O6::O5::O4::QV::O3::O2::O1::Yx
noncomputable def pw2:HF:={ main:={ body:=YO::WH::QW::PJ::NZ::Mr::QP::Mu::WG::YN::Mw::Mv::Oh::Mg::Og::Of::Yy,scope:=Yu,futureAnnotations:=KG,file:=ZX,more:=[] },modules:=[],parses:=[],absent:=[],harvested:=[],given:=ZW }
noncomputable def Y7:List Stmt:=Np::Nn::[]
noncomputable def Y8:List Stmt:=OG::OF::OE::OD::OC::OB::OA::Nz::Ny::Nx::Nw::Nv::Nu::Nt::Nr::Nq::Y7
noncomputable def Y9:List Stmt:=OW::OV::OU::OT::OS::OR::OQ::OP::OO::ON::OM::OL::OK::OJ::OI::OH::Y8
noncomputable def Ya:List Stmt:=Oc::Ob::Oa::O9::O8::O7::O6::O5::O4::O3::O2::O1::O0::OZ::OY::OX::Y9
noncomputable def vw:HF:={ pw2 with main:={ pw2.main with body:=WH::QW::PJ::NZ::Mr::QP::Mu::WG::Mw::Mv::Oh::Mg::Og::Of::Oe::Od::Ya } }
noncomputable def sx0:List Stmt:=[YO,WH]
noncomputable def sx1:List Stmt:=[QW]
noncomputable def sx2:List Stmt:=[PJ]
noncomputable def sx3:List Stmt:=[NZ]
noncomputable def sx4:List Stmt:=[Mr]
noncomputable def sx5:List Stmt:=[QP]
noncomputable def sx6:List Stmt:=[Mu]
noncomputable def sx7:List Stmt:=[WG,YN,Mw,Mv,Oh,Mg,Og]
noncomputable def sx8:List Stmt:=[Of,Oe,QX,Od,Oc,Ob,Oa,O9,O8,O7,O6,O5,O4,QV]
noncomputable def sx9:List Stmt:=[O3,O2,O1,O0,QU,OZ,OY,OX,OW,OV,OU,OT,OS,QT]
noncomputable def sx10:List Stmt:=[OR,OQ,OP,OO,ON,QS,OM,OL,OK,QR,OJ,OI,OH,OG]
noncomputable def sx11:List Stmt:=[OF,OE,OD,OC,OB,OA,Nz,Ny,Nx,Nw,Nv,Nu,Nt]
noncomputable def sx12:List Stmt:=[Nr,Nq,Np,Nn]
noncomputable def V9(P:Hw):List IL:=[hE P "__doc__" 166 .none,hE P "__package__" 167 .none,hE P "__loader__" 168 (.builtin "__main__.__loader__#opaque"),hE P "__spec__" 169 .none,hE P "__annotations__" 170 (.ref 6),hE P "__builtins__" 171 (.ref 4),hE P "__file__" 173 (.str "/claim/cut.py" 172),hE P "__cached__" 174 .none]
noncomputable def V8(P:Hw):List IL:=[hE P "SpotError" 206 (.ref 24),hE P "NoFraction" 222 (.ref 37),hE P "NoWall" 238 (.ref 49),hE P "TooMany" 263 (.ref 68),hE P "Crossing" 290 (.ref 87),hE P "Absent" 315 (.ref 106),hE P "NoText" 340 (.ref 125),hE P "NoRow" 356 (.ref 137)]
noncomputable def V7(P:Hw):List IL:=[hE P "greatest_divisor" 366 (.ref 146),hE P "fraction" 375 (.ref 153),hE P "plus" 383 (.ref 160),hE P "less" 391 (.ref 167),hE P "is_less" 399 (.ref 174),hE P "common_bottom" 408 (.ref 181),hE P "top_over" 416 (.ref 188),hE P "is_ahead" 426 (.ref 195)]
noncomputable def V6(P:Hw):List IL:=[hE P "later_of" 434 (.ref 202),hE P "earlier_of" 442 (.ref 209),hE P "place_among" 453 (.ref 216),hE P "ahead_first" 462 (.ref 223),hE P "own_spot" 471 (.ref 230),hE P "own_wall" 478 (.ref 237),hE P "gap" 486 (.ref 244),hE P "lean" 504 (.ref 251)]
noncomputable def V5(P:Hw):List IL:=[hE P "side_of" 513 (.ref 258),hE P "spans" 523 (.ref 265),hE P "is_above" 535 (.ref 272),hE P "upper_of" 544 (.ref 279),hE P "upper_below" 550 (.ref 284),hE P "face_ends" 562 (.ref 291),hE P "faces_by_start" 571 (.ref 298),hE P "is_met_sooner" 583 (.ref 305)]
noncomputable def V4(P:Hw):List IL:=[hE P "face_behind" 597 (.ref 312),hE P "ring_from" 608 (.ref 319),hE P "rings_of" 621 (.ref 326),hE P "twice_area" 627 (.ref 331),hE P "ring_area" 637 (.ref 338),hE P "outer_and_inner" 649 (.ref 345),hE P "first_corner" 659 (.ref 352),hE P "land_about" 669 (.ref 359)]
noncomputable def V3(P:Hw):List IL:=[hE P "lands_of_faces" 675 (.ref 364),hE P "lands_of" 681 (.ref 369),hE P "sum_of_areas" 693 (.ref 376),hE P "land_area" 704 (.ref 383),hE P "area_shut_in" 711 (.ref 390),hE P "_law_pot" 722 (.ref 397),hE P "_law_take" 732 (.ref 404),hE P "_law_side" 745 (.ref 411)]
noncomputable def V2(P:Hw):List IL:=[hE P "_law_on" 753 (.ref 418),hE P "_law_apart" 765 (.ref 425),hE P "_law_new_spot" 773 (.ref 432),hE P "_law_some_spot" 782 (.ref 439),hE P "_law_square" 793 (.ref 446),hE P "_law_laid" 799 (.ref 451),hE P "_law_shuts_here" 805 (.ref 456),hE P "_law_frac" 815 (.ref 463)]
noncomputable def V1(P:Hw):List IL:=[hE P "_law_frame" 821 (.ref 468),hE P "_law_given" 833 (.ref 475),hE P "_law_plot" 839 (.ref 480),hE P "_law_same" 847 (.ref 487),hE P "_law_area" 859 (.ref 494),hE P "_law_real" 871 (.ref 501),hE P "_law_of_others" 878 (.ref 508),hE P "_law_told" 889 (.ref 515)]
noncomputable def V0(P:Hw):List IL:=[hE P "_law_squares" 895 (.ref 520),hE P "law" 901 (.ref 525)]
noncomputable def Nb(P:Hw):List IL:=V9 P++(V8 P++(V7 P++(V6 P++(V5 P++(V4 P++(V3 P++(V2 P++(V1 P++(V0 P)))))))))
noncomputable def Lp:List Hj:=[(.int 2 0),(.int 0 0),(.ref 20),(.int 4 0),(.int 0 0),(.ref 33),(.int 6 0),(.int 0 0),(.ref 45),(.int 8 0),(.int 0 0),(.ref 57),(.int 13 0),(.int 0 0),(.ref 76),(.int 19 0),(.int 0 0),(.ref 95),(.int 24 0),(.int 0 0),(.ref 114),(.int 29 0),(.int 0 0),(.ref 133),(.int 32 0),(.int 0 0),(.ref 145),(.int 36 0),(.int 0 0),(.ref 152),(.int 43 0),(.int 0 0),(.ref 159),(.int 45 0),(.int 0 0),(.ref 166),(.int 47 0),(.int 0 0),(.ref 173),(.int 49 0),(.int 0 0),(.ref 180),(.int 54 0),(.int 0 0),(.ref 187),(.int 57 0),(.int 0 0),(.ref 194),(.int 61 0),(.int 0 0),(.ref 201),(.int 63 0),(.int 0 0),(.ref 208),(.int 65 0),(.int 0 0),(.ref 215),(.int 74 0),(.int 0 0),(.ref 222),(.int 79 0),(.int 0 0),(.ref 229),(.int 82 0),(.int 0 0),(.ref 236),(.int 84 0),(.int 0 0),(.ref 243),(.int 86 0),(.int 0 0),(.ref 250),(.int 92 0),(.int 0 0),(.ref 257),(.int 100 0),(.int 0 0),(.ref 264),(.int 102 0),(.int 0 0),(.ref 271),(.int 110 0),(.int 0 0),(.ref 278),(.int 116 0),(.int 0 0),(.ref 283),(.int 120 0),(.int 0 0),(.ref 290),(.int 123 0),(.int 0 0),(.ref 297),(.int 128 0),(.int 0 0),(.ref 304),(.int 134 0),(.int 0 0),(.ref 311),(.int 142 0),(.int 0 0),(.ref 318),(.int 149 0),(.int 0 0),(.ref 325),(.int 160 0),(.int 0 0),(.ref 330),(.int 169 0),(.int 0 0),(.ref 337),(.int 173 0),(.int 0 0),(.ref 344),(.int 181 0),(.int 0 0),(.ref 351),(.int 186 0),(.int 0 0),(.ref 358),(.int 189 0),(.int 0 0),(.ref 363),(.int 201 0),(.int 0 0),(.ref 368),(.int 209 0),(.int 0 0),(.ref 375),(.int 214 0),(.int 0 0),(.ref 382),(.int 220 0),(.int 0 0),(.ref 389),(.int 223 0),(.int 0 0),(.ref 396),(.int 228 0),(.int 0 0),(.ref 403),(.int 237 0),(.int 0 0),(.ref 410),(.int 242 0),(.int 0 0),(.ref 417),(.int 244 0),(.int 0 0),(.ref 424),(.int 251 0),(.int 0 0),(.ref 431),(.int 253 0),(.int 0 0),(.ref 438),(.int 257 0),(.int 0 0),(.ref 445),(.int 263 0),(.int 0 0),(.ref 450),(.int 268 0),(.int 0 0),(.ref 455),(.int 280 0),(.int 0 0),(.ref 462),(.int 286 0),(.int 0 0),(.ref 467),(.int 295 0),(.int 0 0),(.ref 474),(.int 298 0),(.int 0 0),(.ref 479),(.int 300 0),(.int 0 0),(.ref 486),(.int 302 0),(.int 0 0),(.ref 493),(.int 310 0),(.int 0 0),(.ref 500),(.int 313 0),(.int 0 0),(.ref 507),(.int 315 0),(.int 0 0),(.ref 514),(.int 327 0),(.int 0 0),(.ref 519),(.int 338 0),(.int 0 0),(.ref 524)]
noncomputable def hC(n:Str)(i j k a l b c d e m o p q r f g h:Nat)(s:Bool):Obj:={ cls:=.type "code",data:=.fields #[.str n i,.str n j,.str "/claim/cut.py" k,.int (Ka m) 0,.int (Ka o) 0,.int (Ka p) 0,.int (Ka q) 0,.int (Ka r) 0,.ref l,.bool s,.int (Ka f) 0,.ref b,.none,.ref c,.ref d,.ref e,.int (Ka g) 0,.int (Ka h) 0,.str "/claim/cut.py" a] }
noncomputable def hF(t:Hj)(s:Stmt)(n:Str)(g:Nat)(m c:Hj):Obj:={ cls:=t,data:=.func (kU s n n g m c) }
noncomputable def LP(s:Stmt)(n:Str)(m:Hj)(r:Nat):Obj:=hF (.type "function") s n 3 m (.ref r)
def Xn:Obj:=LO []
def Xm:Obj:={ cls:=.none,data:=.fields (HD (Lp.take 0)) }
noncomputable def Xl:Obj:=Lb "<module>" "<module>" 182 183 184 1 0 0 11 KG 12 .none .none .none 185 186
noncomputable def Xk:Obj:={ cls:=(.type "frame"),slots:=#[(KA (.ref 13)),(KA (.ref 3)),(KA (.ref 3)),KC,(KA (.str "__main__" 164)),KC,(KA (.ref 0))] }
def Xj(P:Hw):Obj:=Lo 10 (hE P "__name__" 165 Le::(Nb P).take 9)
def Xi:Obj:={ cls:=.none,data:=.fields (HD (Lp.take 3)) }
def Xh:Obj:=LO [(.type "ValueError")]
noncomputable def Xg:Obj:={ cls:=(.type "builtin_function_or_method"),data:=(.fields #[(.builtin "type.__prepare__"),(.type "type")]) }
def Xf(P:Hw):Obj:=Lo 4 [hE P "__module__" 196 Le,hE P "__qualname__" 198 (.str "SpotError" 197),hE P "__firstlineno__" 200 (.int 2 199),hE P "__static_attributes__" 201 (.ref 22)]
noncomputable def Xe:Obj:=Lb "SpotError" "SpotError" 191 192 193 2 0 0 18 KG 19 .none .none .none 194 195
def Xd:Obj:={ cls:=(.type "frame"),slots:=#[(KA (.ref 20)),(KA (.ref 3)),(KA (.ref 17)),KC,(KA Le),KC,(KA (.ref 0))] }
def Xc(P:Hw):Obj:=Lo 3 [hE P "__module__" 196 Le,hE P "__firstlineno__" 200 (.int 2 199),hE P "__static_attributes__" 201 (.ref 22),hE P "__weakref__" 203 (.ref 25),hE P "__doc__" 204 .none]
noncomputable def Xb:Obj:={ cls:=(.type "type"),data:=(.cls { name:="SpotError",bases:=[(.type "ValueError")],mro:=[(.ref 24),(.type "ValueError"),(.type "Exception"),(.type "BaseException"),(.type "object")],ns:=23,qualname:="SpotError",hasDict:=KD,slotNames:=[],subclasses:=[],abstract:=KG,collection:=KC,hasDel:=KG }),slots:=#[(KA (.ref 15)),KC,(KA (.str "SpotError" 189)),(KA (.str "SpotError" 197)),(KA (.builtin "ValueError.__new__")),(KA (.bool KD))] }
noncomputable def Xa:Obj:={ cls:=(.type "getset_descriptor"),data:=(.fields #[(.str "__weakref__" 202),(.ref 24),(.builtin "ExceptionGroup.__weakref__"),.none]) }
noncomputable def X9:Obj:={ cls:=(.type "super"),data:=(.fields #[(.ref 24),(.ref 24),(.ref 24)]) }
noncomputable def X8:Obj:={ cls:=(.type "builtin_function_or_method"),data:=(.fields #[(.builtin "object.__init_subclass__"),(.ref 24)]) }
def X7(P:Hw):Obj:=Lo 11 (hE P "__name__" 165 Le::(Nb P).take 10)
def X6:Obj:={ cls:=.none,data:=.fields (HD (Lp.take 6)) }
noncomputable def X5:Obj:={ cls:=(.type "type"),data:=(.cls { name:="SpotError",bases:=[(.type "ValueError")],mro:=[(.ref 24),(.type "ValueError"),(.type "Exception"),(.type "BaseException"),(.type "object")],ns:=23,qualname:="SpotError",hasDict:=KD,slotNames:=[],subclasses:=[(.ref 37)],abstract:=KG,collection:=KC,hasDel:=KG }),slots:=#[(KA (.ref 15)),KC,(KA (.str "SpotError" 189)),(KA (.str "SpotError" 197)),(KA (.builtin "ValueError.__new__")),(KA (.bool KD))] }
def X4:Obj:=LO [(.ref 24)]
def X3(P:Hw):Obj:=Lo 4 [hE P "__module__" 214 Le,hE P "__qualname__" 216 (.str "NoFraction" 215),hE P "__firstlineno__" 218 (.int 4 217),hE P "__static_attributes__" 219 (.ref 35)]
noncomputable def X2:Obj:=Lb "NoFraction" "NoFraction" 209 210 211 4 0 0 31 KG 32 .none .none .none 212 213
def X1:Obj:={ cls:=(.type "frame"),slots:=#[(KA (.ref 33)),(KA (.ref 3)),(KA (.ref 30)),KC,(KA Le),KC,(KA (.ref 0))] }
def X0(P:Hw):Obj:=Lo 2 [hE P "__module__" 214 Le,hE P "__firstlineno__" 218 (.int 4 217),hE P "__static_attributes__" 219 (.ref 35),hE P "__doc__" 220 .none]
noncomputable def XZ:Obj:=Pu "NoFraction" 37 36 28 207 215
noncomputable def XY:Obj:={ cls:=(.type "super"),data:=(.fields #[(.ref 37),(.ref 37),(.ref 37)]) }
noncomputable def XX:Obj:={ cls:=(.type "builtin_function_or_method"),data:=(.fields #[(.builtin "object.__init_subclass__"),(.ref 37)]) }
def XW(P:Hw):Obj:=Lo 12 (hE P "__name__" 165 Le::(Nb P).take 11)
def XU:Obj:={ cls:=.none,data:=.fields (HD (Lp.take 9)) }
noncomputable def XT:Obj:={ cls:=(.type "type"),data:=(.cls { name:="SpotError",bases:=[(.type "ValueError")],mro:=[(.ref 24),(.type "ValueError"),(.type "Exception"),(.type "BaseException"),(.type "object")],ns:=23,qualname:="SpotError",hasDict:=KD,slotNames:=[],subclasses:=[(.ref 37),(.ref 49)],abstract:=KG,collection:=KC,hasDel:=KG }),slots:=#[(KA (.ref 15)),KC,(KA (.str "SpotError" 189)),(KA (.str "SpotError" 197)),(KA (.builtin "ValueError.__new__")),(KA (.bool KD))] }
def XS(P:Hw):Obj:=Lo 4 [hE P "__module__" 230 Le,hE P "__qualname__" 232 (.str "NoWall" 231),hE P "__firstlineno__" 234 (.int 6 233),hE P "__static_attributes__" 235 (.ref 47)]
noncomputable def XR:Obj:=Lb "NoWall" "NoWall" 225 226 227 6 0 0 43 KG 44 .none .none .none 228 229
def XQ:Obj:={ cls:=(.type "frame"),slots:=#[(KA (.ref 45)),(KA (.ref 3)),(KA (.ref 42)),KC,(KA Le),KC,(KA (.ref 0))] }
def XO(P:Hw):Obj:=Lo 2 [hE P "__module__" 230 Le,hE P "__firstlineno__" 234 (.int 6 233),hE P "__static_attributes__" 235 (.ref 47),hE P "__doc__" 236 .none]
noncomputable def XN:Obj:=Pu "NoWall" 49 48 40 223 231
noncomputable def XM:Obj:={ cls:=(.type "super"),data:=(.fields #[(.ref 49),(.ref 49),(.ref 49)]) }
noncomputable def XJ:Obj:={ cls:=(.type "builtin_function_or_method"),data:=(.fields #[(.builtin "object.__init_subclass__"),(.ref 49)]) }
def XI(P:Hw):Obj:=Lo 13 (hE P "__name__" 165 Le::(Nb P).take 12)
def XH:Obj:={ cls:=.none,data:=.fields (HD (Lp.take 12)) }
noncomputable def XG:Obj:={ cls:=(.type "type"),data:=(.cls { name:="SpotError",bases:=[(.type "ValueError")],mro:=[(.ref 24),(.type "ValueError"),(.type "Exception"),(.type "BaseException"),(.type "object")],ns:=23,qualname:="SpotError",hasDict:=KD,slotNames:=[],subclasses:=[(.ref 37),(.ref 49),(.ref 68)],abstract:=KG,collection:=KC,hasDel:=KG }),slots:=#[(KA (.ref 15)),KC,(KA (.str "SpotError" 189)),(KA (.str "SpotError" 197)),(KA (.builtin "ValueError.__new__")),(KA (.bool KD))] }
def XF(P:Hw):Obj:=Lo 5 [hE P "__module__" 246 Le,hE P "__qualname__" 248 (.str "TooMany" 247),hE P "__firstlineno__" 250 (.int 8 249),hE P "__init__" 258 (.ref 65),hE P "__static_attributes__" 260 (.ref 66)]
def XE:Obj:=Vx [(.int 10 0),(.int 4 0),(.ref 64)]
noncomputable def XD:Obj:=Lb "TooMany" "TooMany" 241 242 243 8 0 0 55 KG 56 .none .none .none 244 245
def XC:Obj:={ cls:=(.type "frame"),slots:=#[(KA (.ref 57)),(KA (.ref 3)),(KA (.ref 54)),KC,(KA Le),KC,(KA (.ref 0))] }
def XB:Obj:=LO [(.str "self" 254),(.str "count" 255)]
def XA:Obj:={ cls:=.none,data:=(.func (kU (kC NZ 0) "__init__" "TooMany.__init__" 0 .none .none)) }
noncomputable def Wz:Obj:=Lb "__init__" "TooMany.__init__" 251 252 253 10 2 3 59 KD 60 (.ref 61) (.ref 62) (.ref 63) 256 257
def Wy:Obj:={ cls:=(.type "function"),data:=(.func (kU (kC NZ 0) "__init__" "TooMany.__init__" 3 Le (.ref 64))) }
def Wx:Obj:=LO [(.str "count" 259)]
def Ww(P:Hw):Obj:=Lo 2 [hE P "__module__" 246 Le,hE P "__firstlineno__" 250 (.int 8 249),hE P "__init__" 258 (.ref 65),hE P "__static_attributes__" 260 (.ref 66),hE P "__doc__" 261 .none]
noncomputable def Wv:Obj:=Pu "TooMany" 68 67 52 239 247
noncomputable def Wu:Obj:={ cls:=(.type "super"),data:=(.fields #[(.ref 68),(.ref 68),(.ref 68)]) }
noncomputable def Wt:Obj:={ cls:=(.type "builtin_function_or_method"),data:=(.fields #[(.builtin "object.__init_subclass__"),(.ref 68)]) }
def Ws(P:Hw):Obj:=Lo 14 (hE P "__name__" 165 Le::(Nb P).take 13)
def Wr:Obj:={ cls:=.none,data:=.fields (HD (Lp.take 15)) }
noncomputable def Wq:Obj:={ cls:=(.type "type"),data:=(.cls { name:="SpotError",bases:=[(.type "ValueError")],mro:=[(.ref 24),(.type "ValueError"),(.type "Exception"),(.type "BaseException"),(.type "object")],ns:=23,qualname:="SpotError",hasDict:=KD,slotNames:=[],subclasses:=[(.ref 37),(.ref 49),(.ref 68),(.ref 87)],abstract:=KG,collection:=KC,hasDel:=KG }),slots:=#[(KA (.ref 15)),KC,(KA (.str "SpotError" 189)),(KA (.str "SpotError" 197)),(KA (.builtin "ValueError.__new__")),(KA (.bool KD))] }
def Wo(P:Hw):Obj:=Lo 5 [hE P "__module__" 271 Le,hE P "__qualname__" 273 (.str "Crossing" 272),hE P "__firstlineno__" 275 (.int 13 274),hE P "__init__" 284 (.ref 84),hE P "__static_attributes__" 287 (.ref 85)]
def Wn:Obj:=Vx [(.int 15 0),(.int 4 0),(.ref 83)]
noncomputable def Wm:Obj:=Lb "Crossing" "Crossing" 266 267 268 13 0 0 74 KG 75 .none .none .none 269 270
def Wk:Obj:={ cls:=(.type "frame"),slots:=#[(KA (.ref 76)),(KA (.ref 3)),(KA (.ref 73)),KC,(KA Le),KC,(KA (.ref 0))] }
def Wj:Obj:=LO [(.str "self" 279),(.str "wall" 280),(.str "other" 281)]
def Wi:Obj:={ cls:=.none,data:=(.func (kU (kC Mr 0) "__init__" "Crossing.__init__" 0 .none .none)) }
noncomputable def Wh:Obj:=Lb "__init__" "Crossing.__init__" 276 277 278 15 3 3 78 KD 79 (.ref 80) (.ref 81) (.ref 82) 282 283
def Wg:Obj:={ cls:=(.type "function"),data:=(.func (kU (kC Mr 0) "__init__" "Crossing.__init__" 3 Le (.ref 83))) }
def Wf:Obj:=LO [(.str "other" 285),(.str "wall" 286)]
def We(P:Hw):Obj:=Lo 2 [hE P "__module__" 271 Le,hE P "__firstlineno__" 275 (.int 13 274),hE P "__init__" 284 (.ref 84),hE P "__static_attributes__" 287 (.ref 85),hE P "__doc__" 288 .none]
noncomputable def Wd:Obj:=Pu "Crossing" 87 86 71 264 272
noncomputable def Wc:Obj:={ cls:=(.type "super"),data:=(.fields #[(.ref 87),(.ref 87),(.ref 87)]) }
noncomputable def Wb:Obj:={ cls:=(.type "builtin_function_or_method"),data:=(.fields #[(.builtin "object.__init_subclass__"),(.ref 87)]) }
def Wa(P:Hw):Obj:=Lo 15 (hE P "__name__" 165 Le::(Nb P).take 14)
def W9:Obj:={ cls:=.none,data:=.fields (HD (Lp.take 18)) }
noncomputable def W8:Obj:={ cls:=(.type "type"),data:=(.cls { name:="SpotError",bases:=[(.type "ValueError")],mro:=[(.ref 24),(.type "ValueError"),(.type "Exception"),(.type "BaseException"),(.type "object")],ns:=23,qualname:="SpotError",hasDict:=KD,slotNames:=[],subclasses:=[(.ref 37),(.ref 49),(.ref 68),(.ref 87),(.ref 106)],abstract:=KG,collection:=KC,hasDel:=KG }),slots:=#[(KA (.ref 15)),KC,(KA (.str "SpotError" 189)),(KA (.str "SpotError" 197)),(KA (.builtin "ValueError.__new__")),(KA (.bool KD))] }
def W7(P:Hw):Obj:=Lo 5 [hE P "__module__" 298 Le,hE P "__qualname__" 300 (.str "Absent" 299),hE P "__firstlineno__" 302 (.int 19 301),hE P "__init__" 310 (.ref 103),hE P "__static_attributes__" 312 (.ref 104)]
def W5:Obj:=Vx [(.int 21 0),(.int 4 0),(.ref 102)]
noncomputable def W0:Obj:=Lb "Absent" "Absent" 293 294 295 19 0 0 93 KG 94 .none .none .none 296 297
def WZ:Obj:={ cls:=(.type "frame"),slots:=#[(KA (.ref 95)),(KA (.ref 3)),(KA (.ref 92)),KC,(KA Le),KC,(KA (.ref 0))] }
def WY:Obj:=LO [(.str "self" 306),(.str "number" 307)]
def WX:Obj:={ cls:=.none,data:=(.func (kU (kC QP 0) "__init__" "Absent.__init__" 0 .none .none)) }
noncomputable def WW:Obj:=Lb "__init__" "Absent.__init__" 303 304 305 21 2 3 97 KD 98 (.ref 99) (.ref 100) (.ref 101) 308 309
def WV:Obj:={ cls:=(.type "function"),data:=(.func (kU (kC QP 0) "__init__" "Absent.__init__" 3 Le (.ref 102))) }
def WU:Obj:=LO [(.str "number" 311)]
def WT(P:Hw):Obj:=Lo 2 [hE P "__module__" 298 Le,hE P "__firstlineno__" 302 (.int 19 301),hE P "__init__" 310 (.ref 103),hE P "__static_attributes__" 312 (.ref 104),hE P "__doc__" 313 .none]
noncomputable def WS:Obj:=Pu "Absent" 106 105 90 291 299
noncomputable def WR:Obj:={ cls:=(.type "super"),data:=(.fields #[(.ref 106),(.ref 106),(.ref 106)]) }
noncomputable def WQ:Obj:={ cls:=(.type "builtin_function_or_method"),data:=(.fields #[(.builtin "object.__init_subclass__"),(.ref 106)]) }
def WO(P:Hw):Obj:=Lo 16 (hE P "__name__" 165 Le::(Nb P).take 15)
def WN:Obj:={ cls:=.none,data:=.fields (HD (Lp.take 21)) }
noncomputable def WM:Obj:={ cls:=(.type "type"),data:=(.cls { name:="SpotError",bases:=[(.type "ValueError")],mro:=[(.ref 24),(.type "ValueError"),(.type "Exception"),(.type "BaseException"),(.type "object")],ns:=23,qualname:="SpotError",hasDict:=KD,slotNames:=[],subclasses:=[(.ref 37),(.ref 49),(.ref 68),(.ref 87),(.ref 106),(.ref 125)],abstract:=KG,collection:=KC,hasDel:=KG }),slots:=#[(KA (.ref 15)),KC,(KA (.str "SpotError" 189)),(KA (.str "SpotError" 197)),(KA (.builtin "ValueError.__new__")),(KA (.bool KD))] }
def WL(P:Hw):Obj:=Lo 5 [hE P "__module__" 323 Le,hE P "__qualname__" 325 (.str "NoText" 324),hE P "__firstlineno__" 327 (.int 24 326),hE P "__init__" 335 (.ref 122),hE P "__static_attributes__" 337 (.ref 123)]
def VY:Obj:=Vx [(.int 26 0),(.int 4 0),(.ref 121)]
noncomputable def VX:Obj:=Lb "NoText" "NoText" 318 319 320 24 0 0 112 KG 113 .none .none .none 321 322
def VW:Obj:={ cls:=(.type "frame"),slots:=#[(KA (.ref 114)),(KA (.ref 3)),(KA (.ref 111)),KC,(KA Le),KC,(KA (.ref 0))] }
def VU:Obj:=LO [(.str "self" 331),(.str "row" 332)]
def VT:Obj:={ cls:=.none,data:=(.func (kU (kC Mu 0) "__init__" "NoText.__init__" 0 .none .none)) }
noncomputable def VS:Obj:=Lb "__init__" "NoText.__init__" 328 329 330 26 2 3 116 KD 117 (.ref 118) (.ref 119) (.ref 120) 333 334
def VR:Obj:={ cls:=(.type "function"),data:=(.func (kU (kC Mu 0) "__init__" "NoText.__init__" 3 Le (.ref 121))) }
def VQ:Obj:=LO [(.str "row" 336)]
def VP(P:Hw):Obj:=Lo 2 [hE P "__module__" 323 Le,hE P "__firstlineno__" 327 (.int 24 326),hE P "__init__" 335 (.ref 122),hE P "__static_attributes__" 337 (.ref 123),hE P "__doc__" 338 .none]
noncomputable def VO:Obj:=Pu "NoText" 125 124 109 316 324
noncomputable def VN:Obj:={ cls:=(.type "super"),data:=(.fields #[(.ref 125),(.ref 125),(.ref 125)]) }
noncomputable def VM:Obj:={ cls:=(.type "builtin_function_or_method"),data:=(.fields #[(.builtin "object.__init_subclass__"),(.ref 125)]) }
def VL(P:Hw):Obj:=Lo 22 (hE P "__name__" 165 (.str "spotlook.fractions" 357)::(Nb P).take 21)
def VJ:Obj:={ cls:=.none,data:=.fields (HD (Lp.take 39)) }
noncomputable def VI:Obj:={ cls:=(.type "type"),data:=(.cls { name:="SpotError",bases:=[(.type "ValueError")],mro:=[(.ref 24),(.type "ValueError"),(.type "Exception"),(.type "BaseException"),(.type "object")],ns:=23,qualname:="SpotError",hasDict:=KD,slotNames:=[],subclasses:=[(.ref 37),(.ref 49),(.ref 68),(.ref 87),(.ref 106),(.ref 125),(.ref 137)],abstract:=KG,collection:=KC,hasDel:=KG }),slots:=#[(KA (.ref 15)),KC,(KA (.str "SpotError" 189)),(KA (.str "SpotError" 197)),(KA (.builtin "ValueError.__new__")),(KA (.bool KD))] }
def VG(P:Hw):Obj:=Lo 4 [hE P "__module__" 348 Le,hE P "__qualname__" 350 (.str "NoRow" 349),hE P "__firstlineno__" 352 (.int 29 351),hE P "__static_attributes__" 353 (.ref 135)]
noncomputable def VF:Obj:=Lb "NoRow" "NoRow" 343 344 345 29 0 0 131 KG 132 .none .none .none 346 347
def VE:Obj:={ cls:=(.type "frame"),slots:=#[(KA (.ref 133)),(KA (.ref 3)),(KA (.ref 130)),KC,(KA Le),KC,(KA (.ref 0))] }
def VD(P:Hw):Obj:=Lo 2 [hE P "__module__" 348 Le,hE P "__firstlineno__" 352 (.int 29 351),hE P "__static_attributes__" 353 (.ref 135),hE P "__doc__" 354 .none]
noncomputable def VC:Obj:=Pu "NoRow" 137 136 128 341 349
noncomputable def VB:Obj:={ cls:=(.type "super"),data:=(.fields #[(.ref 137),(.ref 137),(.ref 137)]) }
noncomputable def VA:Obj:={ cls:=(.type "builtin_function_or_method"),data:=(.fields #[(.builtin "object.__init_subclass__"),(.ref 137)]) }
def Uz:Obj:=LO [(.str "one" 362),(.str "other" 363)]
def Uy:Obj:=hF .none Mw "greatest_divisor" 0 .none .none
def Ux:Obj:=hC "greatest_divisor" 359 360 361 365 140 141 142 143 144 32 2 0 0 3 181 364 32 KD
def Uw:Obj:=LP Mw "greatest_divisor" (.str "spotlook.fractions" 357) 145
def Uv:Obj:=LO [(.str "top" 370),(.str "bottom" 371),(.str "divisor" 372)]
def Uu:Obj:=hF .none Mv "fraction" 0 .none .none
def Ut:Obj:=hC "fraction" 367 368 369 374 147 148 149 150 151 36 2 0 0 3 181 373 36 KD
def Us:Obj:=LP Mv "fraction" (.str "spotlook.fractions" 357) 152
def Ur:Obj:=LO [(.str "one" 379),(.str "other" 380)]
def Uq:Obj:=hF .none Oh "plus" 0 .none .none
def Up:Obj:=hC "plus" 376 377 378 382 154 155 156 157 158 43 2 0 0 3 181 381 43 KD
def Uo:Obj:=LP Oh "plus" (.str "spotlook.fractions" 357) 159
def Um:Obj:=LO [(.str "one" 387),(.str "other" 388)]
def Ul:Obj:=hF .none Mg "less" 0 .none .none
def Uk:Obj:=hC "less" 384 385 386 390 161 162 163 164 165 45 2 0 0 3 181 389 45 KD
def Uj:Obj:=LP Mg "less" (.str "spotlook.fractions" 357) 166
def Ui:Obj:=LO [(.str "one" 395),(.str "other" 396)]
def Uh:Obj:=hF .none Og "is_less" 0 .none .none
def Ug:Obj:=hC "is_less" 392 393 394 398 168 169 170 171 172 47 2 0 0 3 181 397 47 KD
def Ue:Obj:=LP Og "is_less" (.str "spotlook.fractions" 357) 173
def Ud(P:Hw):Obj:=Lo 34 (hE P "__name__" 165 (.str "spotlook.above" 514)::(Nb P).take 33)
def Uc:Obj:={ cls:=.none,data:=.fields (HD (Lp.take 75)) }
def Ub:Obj:=LO [(.str "parts" 403),(.str "common" 404),(.str "part" 405)]
def Ua:Obj:=hF .none Of "common_bottom" 0 .none .none
def U9:Obj:=hC "common_bottom" 400 401 402 407 175 176 177 178 179 49 1 0 0 3 181 406 49 KD
def U8:Obj:=LP Of "common_bottom" (.str "spotlook.fractions" 357) 180
def U7:Obj:=LO [(.str "part" 412),(.str "bottom" 413)]
def U6:Obj:=hF .none Oe "top_over" 0 .none .none
def U5:Obj:=hC "top_over" 409 410 411 415 182 183 184 185 186 54 2 0 0 3 181 414 54 KD
def U4:Obj:=LP Oe "top_over" (.str "spotlook.fractions" 357) 187
def U3:Obj:=LO [(.str "one" 422),(.str "other" 423)]
def U1:Obj:=hF .none Od "is_ahead" 0 .none .none
def U0:Obj:=hC "is_ahead" 419 420 421 425 189 190 191 192 193 57 2 0 0 3 181 424 57 KD
def UZ:Obj:=LP Od "is_ahead" (.str "spotlook.spots" 417) 194
def UY:Obj:=LO [(.str "one" 430),(.str "other" 431)]
def UX:Obj:=hF .none Oc "later_of" 0 .none .none
def UW:Obj:=hC "later_of" 427 428 429 433 196 197 198 199 200 61 2 0 0 3 181 432 61 KD
def UU:Obj:=LP Oc "later_of" (.str "spotlook.spots" 417) 201
def UT:Obj:=LO [(.str "one" 438),(.str "other" 439)]
def US:Obj:=hF .none Ob "earlier_of" 0 .none .none
def UR:Obj:=hC "earlier_of" 435 436 437 441 203 204 205 206 207 63 2 0 0 3 181 440 63 KD
def UQ:Obj:=LP Ob "earlier_of" (.str "spotlook.spots" 417) 208
def UP:Obj:=LO [(.str "row" 446),(.str "spot" 447),(.str "low" 448),(.str "high" 449),(.str "middle" 450)]
def UO:Obj:=hF .none Oa "place_among" 0 .none .none
def UN:Obj:=hC "place_among" 443 444 445 452 210 211 212 213 214 65 2 0 0 3 181 451 65 KD
def UM:Obj:=LP Oa "place_among" (.str "spotlook.spots" 417) 215
def UL:Obj:=LO [(.str "spots" 457),(.str "row" 458),(.str "spot" 459)]
def UK:Obj:=hF .none O9 "ahead_first" 0 .none .none
def UJ:Obj:=hC "ahead_first" 454 455 456 461 217 218 219 220 221 74 1 0 0 3 181 460 74 KD
def UI:Obj:=LP O9 "ahead_first" (.str "spotlook.spots" 417) 222
def UH:Obj:=LO [(.str "spot" 466),(.str "x" 467),(.str "y" 468)]
def UG:Obj:=hF .none O8 "own_spot" 0 .none .none
def UE:Obj:=hC "own_spot" 463 464 465 470 224 225 226 227 228 79 1 0 0 3 181 469 79 KD
def UD:Obj:=LP O8 "own_spot" (.str "spotlook.spots" 417) 229
def UC:Obj:=LO [(.str "wall" 475)]
def UB:Obj:=hF .none O7 "own_wall" 0 .none .none
def UA:Obj:=hC "own_wall" 472 473 474 477 231 232 233 234 235 82 1 0 0 3 181 476 82 KD
def Tz:Obj:=LP O7 "own_wall" (.str "spotlook.spots" 417) 236
def Tw:Obj:=LO [(.str "one" 482),(.str "other" 483)]
def Tv:Obj:=hF .none O6 "gap" 0 .none .none
def Tu:Obj:=hC "gap" 479 480 481 485 238 239 240 241 242 84 2 0 0 3 181 484 84 KD
def Tt:Obj:=LP O6 "gap" (.str "spotlook.spots" 417) 243
def Ts:Obj:=LO [(.str "wall" 490),(.str "spot" 491),(.str "a" 492),(.str "b" 493),(.str "c" 494),(.str "d" 495),(.str "x" 496),(.str "y" 497),(.str "across" 498),(.str "up" 499),(.str "along" 500),(.str "high" 501)]
def Tr:Obj:=hF .none O5 "lean" 0 .none .none
def Tq:Obj:=hC "lean" 487 488 489 503 245 246 247 248 249 86 2 0 0 3 181 502 86 KD
def Tp:Obj:=LP O5 "lean" (.str "spotlook.spots" 417) 250
def To:Obj:=LO [(.str "wall" 508),(.str "spot" 509),(.str "top" 510)]
def Tn:Obj:=hF .none O4 "side_of" 0 .none .none
def Tj:Obj:=hC "side_of" 505 506 507 512 252 253 254 255 256 92 2 0 0 3 181 511 92 KD
def Ti:Obj:=LP O4 "side_of" (.str "spotlook.spots" 417) 257
def Th(P:Hw):Obj:=Lo 46 (hE P "__name__" 165 (.str "spotlook.lands" 638)::(Nb P).take 45)
def Tf:Obj:={ cls:=.none,data:=.fields (HD (Lp.take 111)) }
def Te:Obj:=LO [(.str "wall" 519),(.str "spot" 520)]
def Td:Obj:=hF .none O3 "spans" 0 .none .none
def Tc:Obj:=hC "spans" 516 517 518 522 259 260 261 262 263 100 2 0 0 3 181 521 100 KD
def Tb:Obj:=LP O3 "spans" (.str "spotlook.above" 514) 264
def Ta:Obj:=LO [(.str "one" 527),(.str "other" 528),(.str "start" 529),(.str "end" 530),(.str "place" 531),(.str "deciding" 532)]
def T9:Obj:=hF .none O2 "is_above" 0 .none .none
def T8:Obj:=hC "is_above" 524 525 526 534 266 267 268 269 270 102 2 0 0 3 181 533 102 KD
def T7:Obj:=LP O2 "is_above" (.str "spotlook.above" 514) 271
def T6:Obj:=LO [(.str "walls" 539),(.str "upper" 540),(.str "wall" 541)]
def T5:Obj:=hF .none O1 "upper_of" 0 .none .none
def T4:Obj:=hC "upper_of" 536 537 538 543 273 274 275 276 277 110 1 0 0 3 181 542 110 KD
def T3:Obj:=LP O1 "upper_of" (.str "spotlook.above" 514) 278
def TZ:Obj:=hF .none O0 "upper_below" 0 .none .none
noncomputable def TY:Obj:=Lb "upper_below" "upper_below" 545 546 547 116 2 3 280 KD 281 .none .none (.ref 282) 548 549
def TX:Obj:=LP O0 "upper_below" (.str "spotlook.above" 514) 283
def TV:Obj:=LO [(.str "plot" 556),(.str "face" 557),(.str "first" 558),(.str "second" 559)]
def TU:Obj:=hF .none OZ "face_ends" 0 .none .none
def TQ:Obj:=hC "face_ends" 553 554 555 561 285 286 287 288 289 120 2 0 0 3 181 560 120 KD
def TN:Obj:=LP OZ "face_ends" (.str "spotlook.rings" 551) 290
def TM:Obj:=LO [(.str "plot" 566),(.str "leaving" 567),(.str "face" 568)]
def TL:Obj:=hF .none OY "faces_by_start" 0 .none .none
def TK:Obj:=hC "faces_by_start" 563 564 565 570 292 293 294 295 296 123 1 0 0 3 181 569 123 KD
def TJ:Obj:=LP OY "faces_by_start" (.str "spotlook.rings" 551) 297
def TH:Obj:=LO [(.str "corner" 575),(.str "came_from" 576),(.str "one" 577),(.str "other" 578),(.str "turn" 579),(.str "other_turn" 580)]
def TF:Obj:=hF .none OX "is_met_sooner" 0 .none .none
def TC:Obj:=hC "is_met_sooner" 572 573 574 582 299 300 301 302 303 128 4 0 0 3 181 581 128 KD
def TB:Obj:=LP OX "is_met_sooner" (.str "spotlook.rings" 551) 304
def Sz:Obj:=LO [(.str "plot" 587),(.str "leaving" 588),(.str "face" 589),(.str "came_from" 590),(.str "corner" 591),(.str "back" 592),(.str "best" 593),(.str "rival" 594)]
def Sy:Obj:=hF .none OW "face_behind" 0 .none .none
def Sx:Obj:=hC "face_behind" 584 585 586 596 306 307 308 309 310 134 3 0 0 3 181 595 134 KD
def Sw:Obj:=LP OW "face_behind" (.str "spotlook.rings" 551) 311
def Sv:Obj:=LO [(.str "plot" 601),(.str "leaving" 602),(.str "face" 603),(.str "ring" 604),(.str "at" 605)]
def Su:Obj:=hF .none OV "ring_from" 0 .none .none
def Ss:Obj:=hC "ring_from" 598 599 600 607 313 314 315 316 317 142 3 0 0 3 181 606 142 KD
def Sr:Obj:=LP OV "ring_from" (.str "spotlook.rings" 551) 318
def Sq:Obj:=LO [(.str "plot" 612),(.str "leaving" 613),(.str "rings" 614),(.str "gone_along" 615),(.str "face" 616),(.str "ring" 617),(.str "part" 618)]
def So:Obj:=hF .none OU "rings_of" 0 .none .none
def Sn:Obj:=hC "rings_of" 609 610 611 620 320 321 322 323 324 149 1 0 0 3 181 619 149 KD
def Sm:Obj:=LP OU "rings_of" (.str "spotlook.rings" 551) 325
def Sl:Obj:=hF .none OT "twice_area" 0 .none .none
noncomputable def Sk:Obj:=Lb "twice_area" "twice_area" 622 623 624 160 2 3 327 KD 328 .none .none (.ref 329) 625 626
def Sj:Obj:=LP OT "twice_area" (.str "spotlook.rings" 551) 330
def Si:Obj:=LO [(.str "plot" 631),(.str "ring" 632),(.str "top" 633),(.str "bottom" 634)]
def Sh:Obj:=hF .none OS "ring_area" 0 .none .none
def Sf:Obj:=hC "ring_area" 628 629 630 636 332 333 334 335 336 169 2 0 0 3 181 635 169 KD
def Se:Obj:=LP OS "ring_area" (.str "spotlook.rings" 551) 337
def Sd(P:Hw):Obj:=Lo 58 (hE P "__name__" 165 MI::(Nb P).take 57)
def Sb:Obj:={ cls:=.none,data:=.fields (HD (Lp.take 147)) }
def Sa:Obj:=LO [(.str "plot" 643),(.str "outers" 644),(.str "inners" 645),(.str "ring" 646)]
def S9:Obj:=hF .none OR "outer_and_inner" 0 .none .none
def S8:Obj:=hC "outer_and_inner" 640 641 642 648 339 340 341 342 343 173 1 0 0 3 181 647 173 KD
def S7:Obj:=LP OR "outer_and_inner" (.str "spotlook.lands" 638) 344
def S6:Obj:=LO [(.str "plot" 653),(.str "ring" 654),(.str "first" 655),(.str "face" 656)]
def S5:Obj:=hF .none OQ "first_corner" 0 .none .none
def S4:Obj:=hC "first_corner" 650 651 652 658 346 347 348 349 350 181 2 0 0 3 181 657 181 KD
def S3:Obj:=LP OQ "first_corner" (.str "spotlook.lands" 638) 351
def S2:Obj:=LO [(.str "plot" 663),(.str "lands" 664),(.str "corner" 665),(.str "wall" 666)]
def S1:Obj:=hF .none OP "land_about" 0 .none .none
def S0:Obj:=hC "land_about" 660 661 662 668 353 354 355 356 357 186 3 0 0 3 181 667 186 KD
def SY:Obj:=LP OP "land_about" (.str "spotlook.lands" 638) 358
def SX:Obj:=hF .none OO "lands_of_faces" 0 .none .none
noncomputable def SW:Obj:=Lb "lands_of_faces" "lands_of_faces" 670 671 672 189 1 3 360 KD 361 .none .none (.ref 362) 673 674
def SV:Obj:=LP OO "lands_of_faces" (.str "spotlook.lands" 638) 363
def SU:Obj:=hF .none ON "lands_of" 0 .none .none
noncomputable def SS:Obj:=Lb "lands_of" "lands_of" 676 677 678 201 1 3 365 KD 366 .none .none (.ref 367) 679 680
def SR:Obj:=LP ON "lands_of" (.str "spotlook.lands" 638) 368
def SQ:Obj:=LO [(.str "plot" 687),(.str "rings" 688),(.str "total" 689),(.str "ring" 690)]
def SO:Obj:=hF .none OM "sum_of_areas" 0 .none .none
def SN:Obj:=hC "sum_of_areas" 684 685 686 692 370 371 372 373 374 209 2 0 0 3 181 691 209 KD
def SM:Obj:=LP OM "sum_of_areas" (.str "spotlook.beside" 682) 375
def SK:Obj:=LO [(.str "plot" 697),(.str "land" 698),(.str "lands" 699),(.str "outer" 700),(.str "inners" 701)]
def SJ:Obj:=hF .none OL "land_area" 0 .none .none
def SH:Obj:=hC "land_area" 694 695 696 703 377 378 379 380 381 214 2 0 0 3 181 702 214 KD
def SG:Obj:=LP OL "land_area" (.str "spotlook.beside" 682) 382
def SA:Obj:=LO [(.str "plot" 708)]
def Rz:Obj:=hF .none OK "area_shut_in" 0 .none .none
def Ry:Obj:=hC "area_shut_in" 705 706 707 710 384 385 386 387 388 220 1 0 0 3 181 709 220 KD
def Rx:Obj:=LP OK "area_shut_in" (.str "spotlook.beside" 682) 389
def Rw:Obj:=LO [(.str "_law_script" 717),(.str "_law_k" 718),(.str "_law_cell" 719)]
def Rv:Obj:=hF .none OJ "_law_pot" 0 .none .none
def Ru:Obj:=hC "_law_pot" 714 715 716 721 391 392 393 394 395 223 2 0 0 3 181 720 223 KD
def Rt:Obj:=LP OJ "_law_pot" MI 396
def Rr:Obj:=LO [(.str "_law_pot_here" 726),(.str "_law_size" 727),(.str "_law_digit" 728),(.str "_law_mixed" 729)]
def Rq:Obj:=hF .none OI "_law_take" 0 .none .none
def Rp:Obj:=hC "_law_take" 723 724 725 731 398 399 400 401 402 228 2 0 0 3 181 730 228 KD
def Ro:Obj:=LP OI "_law_take" MI 403
def Rn:Obj:=LO [(.str "_law_shut" 736),(.str "_law_spot" 737),(.str "_law_a" 738),(.str "_law_b" 739),(.str "_law_c" 740),(.str "_law_d" 741),(.str "_law_way" 742)]
def Rm:Obj:=hF .none OH "_law_side" 0 .none .none
def Rl:Obj:=hC "_law_side" 733 734 735 744 405 406 407 408 409 237 2 0 0 3 181 743 237 KD
def Rk:Obj:=LP OH "_law_side" MI 410
def Rj:Obj:=LO [(.str "_law_shut" 749),(.str "_law_spot" 750)]
def Ri:Obj:=hF .none OG "_law_on" 0 .none .none
def Rh:Obj:=hC "_law_on" 746 747 748 752 412 413 414 415 416 242 2 0 0 3 181 751 242 KD
def Rg:Obj:=LP OG "_law_on" MI 417
def Rc(P:Hw):Obj:=Lo 71 (hE P "__name__" 165 MI::(Nb P).take 70)
def Rb:Obj:={ cls:=.none,data:=.fields (HD (Lp.take 186)) }
def Ra:Obj:=LO [(.str "_law_one" 757),(.str "_law_other" 758),(.str "_law_shut" 759),(.str "_law_ends" 760),(.str "_law_spot" 761),(.str "_law_both" 762)]
def R9:Obj:=hF .none OF "_law_apart" 0 .none .none
def R8:Obj:=hC "_law_apart" 754 755 756 764 419 420 421 422 423 244 2 0 0 3 181 763 244 KD
def R7:Obj:=LP OF "_law_apart" MI 424
def R6:Obj:=LO [(.str "_law_pot_here" 769),(.str "_law_wide" 770)]
def R5:Obj:=hF .none OE "_law_new_spot" 0 .none .none
def R4:Obj:=hC "_law_new_spot" 766 767 768 772 426 427 428 429 430 251 2 0 0 3 181 771 251 KD
def R3:Obj:=LP OE "_law_new_spot" MI 431
def R0:Obj:=LO [(.str "_law_pot_here" 777),(.str "_law_shuts" 778),(.str "_law_wide" 779)]
def RZ:Obj:=hF .none OD "_law_some_spot" 0 .none .none
def RY:Obj:=hC "_law_some_spot" 774 775 776 781 433 434 435 436 437 253 3 0 0 3 181 780 253 KD
def RX:Obj:=LP OD "_law_some_spot" MI 438
def RW:Obj:=LO [(.str "_law_pot_here" 786),(.str "_law_wide" 787),(.str "_law_x" 788),(.str "_law_y" 789),(.str "_law_far" 790)]
def RV:Obj:=hF .none OC "_law_square" 0 .none .none
def RU:Obj:=hC "_law_square" 783 784 785 792 440 441 442 443 444 257 2 0 0 3 181 791 257 KD
def RT:Obj:=LP OC "_law_square" MI 445
def RS:Obj:=hF .none OB "_law_laid" 0 .none .none
noncomputable def RR:Obj:=Lb "_law_laid" "_law_laid" 794 795 796 263 3 3 447 KD 448 .none .none (.ref 449) 797 798
def RQ:Obj:=LP OB "_law_laid" MI 450
def RP:Obj:=hF .none OA "_law_shuts_here" 0 .none .none
noncomputable def RN:Obj:=Lb "_law_shuts_here" "_law_shuts_here" 800 801 802 268 2 3 452 KD 453 .none .none (.ref 454) 803 804
def RM:Obj:=LP OA "_law_shuts_here" MI 455
def RJ:Obj:=LO [(.str "_law_top" 809),(.str "_law_bottom" 810),(.str "_law_one" 811),(.str "_law_other" 812)]
def RH:Obj:=hF .none Nz "_law_frac" 0 .none .none
def RG:Obj:=hC "_law_frac" 806 807 808 814 457 458 459 460 461 280 2 0 0 3 181 813 280 KD
def RF:Obj:=LP Nz "_law_frac" MI 462
def RE:Obj:=hF .none Ny "_law_frame" 0 .none .none
noncomputable def RB:Obj:=Lb "_law_frame" "_law_frame" 816 817 818 286 2 3 464 KD 465 .none .none (.ref 466) 819 820
def Qz:Obj:=LP Ny "_law_frame" MI 467
def Qy:Obj:=LO [(.str "_law_frame_here" 825),(.str "_law_spot" 826),(.str "_law_p" 827),(.str "_law_q" 828),(.str "_law_s" 829),(.str "_law_t" 830)]
def Qx:Obj:=hF .none Nx "_law_given" 0 .none .none
def Qw:Obj:=hC "_law_given" 822 823 824 832 469 470 471 472 473 295 2 0 0 3 181 831 295 KD
def Qv:Obj:=LP Nx "_law_given" MI 474
def Qu:Obj:=hF .none Nw "_law_plot" 0 .none .none
noncomputable def Qt:Obj:=Lb "_law_plot" "_law_plot" 834 835 836 298 2 3 476 KD 477 .none .none (.ref 478) 837 838
def Qs:Obj:=LP Nw "_law_plot" MI 479
def Qr:Obj:=LO [(.str "_law_found" 843),(.str "_law_due" 844)]
def Qq:Obj:=hF .none Nv "_law_same" 0 .none .none
def Qp:Obj:=hC "_law_same" 840 841 842 846 481 482 483 484 485 300 2 0 0 3 181 845 300 KD
def Qo:Obj:=LP Nv "_law_same" MI 486
def Qn:Obj:=LO [(.str "_law_shuts" 851),(.str "_law_ring" 852),(.str "_law_total" 853),(.str "_law_face" 854),(.str "_law_one" 855),(.str "_law_other" 856)]
def Qm:Obj:=hF .none Nu "_law_area" 0 .none .none
def Ql:Obj:=hC "_law_area" 848 849 850 858 488 489 490 491 492 302 2 0 0 3 181 857 302 KD
def Qk:Obj:=LP Nu "_law_area" MI 493
def Qj:Obj:=LO [(.str "_law_frame_here" 863),(.str "_law_twice" 864),(.str "_law_p" 865),(.str "_law_q" 866),(.str "_law_s" 867),(.str "_law_t" 868)]
def Qi:Obj:=hF .none Nt "_law_real" 0 .none .none
def Qh:Obj:=hC "_law_real" 860 861 862 870 495 496 497 498 499 310 2 0 0 3 181 869 310 KD
def Qg:Obj:=LP Nt "_law_real" MI 500
def Qf(P:Hw):Obj:=Lo 75 (hE P "__name__" 165 MI::(Nb P).take 74)
def Qe:Obj:={ cls:=.none,data:=.fields (HD (Lp.take 198)) }
def Qd:Obj:=LO [(.str "_law_e" 875)]
def Qc:Obj:=hF .none Nr "_law_of_others" 0 .none .none
def Qb:Obj:=hC "_law_of_others" 872 873 874 877 502 503 504 505 506 313 1 0 0 3 181 876 313 KD
def Qa:Obj:=LP Nr "_law_of_others" MI 507
def Q9:Obj:=LO [(.str "_law_plot_here" 882),(.str "_law_land" 883),(.str "_law_told_here" 884),(.str "_law_kept" 885),(.str "_law_e" 886)]
def Q8:Obj:=hF .none Nq "_law_told" 0 .none .none
def Q7:Obj:=hC "_law_told" 879 880 881 888 509 510 511 512 513 315 2 0 0 3 181 887 315 KD
def Q6:Obj:=LP Nq "_law_told" MI 514
def Q5:Obj:=hF .none Np "_law_squares" 0 .none .none
noncomputable def Q4:Obj:=Lb "_law_squares" "_law_squares" 890 891 892 327 2 3 516 KD 517 .none .none (.ref 518) 893 894
def Q3:Obj:=LP Np "_law_squares" MI 519
def Q2:Obj:=hF .none Nn "law" 0 .none .none
noncomputable def Q1:Obj:=Lb "law" "law" 896 897 898 338 1 3 521 KD 522 .none .none (.ref 523) 899 900
def Q0:Obj:=LP Nn "law" MI 524
noncomputable def ZK(P:Hw):List Obj:=[PySem.W.boot_o_0 P,PySem.W.boot_o_1 P,PySem.W.boot_o_2 P,PySem.W.boot_o_3 P,PySem.W.boot_o_4 P,PySem.W.boot_o_5 P,PySem.W.boot_o_6 P,PySem.W.boot_o_7 P,PySem.W.boot_o_8 P,PySem.W.boot_o_9 P,PySem.W.boot_o_10 P,Xn,Xm,Xl,Xk,Xj P]
noncomputable def ZJ(P:Hw):List Obj:=[Xi,Xh,Xg,Xf P,Xe,Xd,Xc P,Xb,Xa,X9,X8,X7 P,X6,X5,X4,X3 P]
noncomputable def ZI(P:Hw):List Obj:=[X2,X1,X0 P,XZ,XY,XX,XW P,XU,XT,XS P,XR,XQ,XO P,XN,XM,XJ]
noncomputable def ZH(P:Hw):List Obj:=[XI P,XH,XG,XF P,XE,XD,XC,XB,XA,Wz,Wy,Wx,Ww P,Wv,Wu,Wt]
noncomputable def ZG(P:Hw):List Obj:=[Ws P,Wr,Wq,Wo P,Wn,Wm,Wk,Wj,Wi,Wh,Wg,Wf,We P,Wd,Wc,Wb]
noncomputable def ZF(P:Hw):List Obj:=[Wa P,W9,W8,W7 P,W5,W0,WZ,WY,WX,WW,WV,WU,WT P,WS,WR,WQ]
noncomputable def ZE(P:Hw):List Obj:=[WO P,WN,WM,WL P,VY,VX,VW,VU,VT,VS,VR,VQ,VP P,VO,VN,VM]
noncomputable def ZD(P:Hw):List Obj:=[VL P,VJ,VI,VG P,VF,VE,VD P,VC,VB,VA,Uz,Uy,Ux,Uw,Uv,Uu]
noncomputable def ZC(P:Hw):List Obj:=[Ut,Us,Ur,Uq,Up,Uo,Um,Ul,Uk,Uj,Ui,Uh,Ug,Ue,Ud P,Uc]
noncomputable def ZA(P:Hw):List Obj:=[Ub,Ua,U9,U8,U7,U6,U5,U4,U3,U1,U0,UZ,UY,UX,UW,UU]
noncomputable def YA(P:Hw):List Obj:=[UT,US,UR,UQ,UP,UO,UN,UM,UL,UK,UJ,UI,UH,UG,UE,UD]
noncomputable def Xz(P:Hw):List Obj:=[UC,UB,UA,Tz,Tw,Tv,Tu,Tt,Ts,Tr,Tq,Tp,To,Tn,Tj,Ti]
noncomputable def Xy(P:Hw):List Obj:=[Th P,Tf,Te,Td,Tc,Tb,Ta,T9,T8,T7,T6,T5,T4,T3,TZ,TY]
noncomputable def Xx(P:Hw):List Obj:=[TX,TV,TU,TQ,TN,TM,TL,TK,TJ,TH,TF,TC,TB,Sz,Sy,Sx]
noncomputable def Xw(P:Hw):List Obj:=[Sw,Sv,Su,Ss,Sr,Sq,So,Sn,Sm,Sl,Sk,Sj,Si,Sh,Sf,Se]
noncomputable def Xv(P:Hw):List Obj:=[Sd P,Sb,Sa,S9,S8,S7,S6,S5,S4,S3,S2,S1,S0,SY,SX,SW]
noncomputable def Xu(P:Hw):List Obj:=[SV,SU,SS,SR,SQ,SO,SN,SM,SK,SJ,SH,SG,SA,Rz,Ry,Rx]
noncomputable def Xt(P:Hw):List Obj:=[Rw,Rv,Ru,Rt,Rr,Rq,Rp,Ro,Rn,Rm,Rl,Rk,Rj,Ri,Rh,Rg]
noncomputable def Xs(P:Hw):List Obj:=[Rc P,Rb,Ra,R9,R8,R7,R6,R5,R4,R3,R0,RZ,RY,RX,RW,RV]
noncomputable def Xr(P:Hw):List Obj:=[RU,RT,RS,RR,RQ,RP,RN,RM,RJ,RH,RG,RF,RE,RB,Qz,Qy]
noncomputable def Xq(P:Hw):List Obj:=[Qx,Qw,Qv,Qu,Qt,Qs,Qr,Qq,Qp,Qo,Qn,Qm,Ql,Qk,Qj,Qi]
noncomputable def Xp(P:Hw):List Obj:=[Qh,Qg,Qf P,Qe,Qd,Qc,Qb,Qa,Q9,Q8,Q7,Q6,Q5,Q4,Q3,Q2]
noncomputable def Xo(P:Hw):List Obj:=[Q1,Q0]
noncomputable def fA(c i:Nat)(P:Hw):Obj:=(([ZK P,ZJ P,ZI P,ZH P,ZG P,ZF P,ZE P,ZD P,ZC P,ZA P,YA P,Xz P,Xy P,Xx P,Xw P,Xv P,Xu P,Xt P,Xs P,Xr P,Xq P,Xp P,Xo P]:List (List Obj)).getD c []).getD i { cls:=.none }
noncomputable def Ym(n:Nat->Hr->Hr->Hr)(e:Hr):Hr:=(fun m:Nat->Hr=>(n 0 (n 1 (n 3 (m 7) (m 11)) (n 5 (m 9) (m 13))) (n 2 (n 4 (m 8) (m 12)) (n 6 (m 10) (m 14))))) fun a=>n a e e
noncomputable def tX0(f:Nat->Nat->Hw->Obj)(P:Hw):Hr:=Ym (fun k=>.node (f (k/16) (k%16) P)) .nil
noncomputable def Yl(n:Nat->Hr->Hr->Hr)(e:Hr):Hr:=(fun m:Nat->Hr=>(n 0 (n 1 (n 15 (n 7 (m 17) (m 22)) (n 11 (m 12) (m 26))) (n 5 (n 9 (m 19) (m 24)) (n 13 (m 21) e))) (n 2 (n 4 (n 8 (m 18) (m 23)) (n 16 (m 20) e)) (n 6 (n 10 (m 11) (m 25)) (n 14 (m 11) e))))) fun a=>n a e e
noncomputable def tX1(f:Nat->Nat->Hw->Obj)(P:Hw):Hr:=Yl (fun k=>.node (f (k/16) (k%16) P)) .nil
noncomputable def Yk(n:Nat->Hr->Hr->Hr)(e:Hr):Hr:=(fun m:Nat->Hr=>(n 0 (n 1 (n 27 (n 7 (n 17 (m 11) e) (n 22 (m 37) e)) (n 11 (n 12 (m 11) e) (m 26))) (n 5 (n 9 (n 19 (m 32) e) (m 24)) (n 13 (n 21 (m 35) e) (m 18)))) (n 2 (n 4 (n 8 (n 18 (m 12) e) (m 29)) (n 28 (n 20 (m 34) e) (m 30))) (n 6 (n 10 (n 11 (m 33) e) (m 25)) (n 14 (n 11 (m 36) e) (m 31)))))) fun a=>n a e e
noncomputable def tX2(f:Nat->Nat->Hw->Obj)(P:Hw):Hr:=Yk (fun k=>.node (f (k/16) (k%16) P)) .nil
noncomputable def Yj(n:Nat->Hr->Hr->Hr)(e:Hr):Hr:=(fun m:Nat->Hr=>(n 0 (n 1 (n 38 (n 7 (n 17 (m 11) (m 11)) (n 22 (m 37) e)) (n 11 (n 12 (m 11) (m 47)) (n 26 (m 11) e))) (n 5 (n 9 (n 19 (m 32) (m 45)) (n 24 (m 18) e)) (n 13 (n 21 (m 35) e) (n 18 (m 42) e)))) (n 2 (n 4 (n 8 (n 18 (m 12) (m 44)) (n 40 (m 30) e)) (n 39 (n 20 (m 34) e) (n 30 (m 12) e))) (n 6 (n 10 (n 11 (m 33) (m 46)) (n 25 (m 41) e)) (n 14 (n 11 (m 36) e) (n 31 (m 43) e)))))) fun a=>n a e e
noncomputable def tX3(f:Nat->Nat->Hw->Obj)(P:Hw):Hr:=Yj (fun k=>.node (f (k/16) (k%16) P)) .nil
noncomputable def Yi(n:Nat->Hr->Hr->Hr)(e:Hr):Hr:=(fun m:Nat->Hr=>(n 0 (n 1 (n 48 (n 7 (n 17 (n 11 (m 56) e) (m 11)) (n 22 (m 37) (m 11))) (n 11 (n 12 (n 11 (m 60) e) (m 47)) (n 26 (m 11) (m 11)))) (n 5 (n 9 (n 19 (n 32 (m 58) e) (m 45)) (n 24 (m 18) (m 53))) (n 13 (n 21 (n 35 (m 62) e) (m 18)) (n 18 (m 42) (m 55))))) (n 2 (n 4 (n 8 (n 18 (n 12 (m 57) e) (m 44)) (n 50 (m 30) (m 52))) (n 49 (n 20 (n 34 (m 61) e) (m 30)) (n 30 (m 12) (m 12)))) (n 6 (n 10 (n 11 (n 33 (m 59) e) (m 46)) (n 25 (m 41) (m 54))) (n 14 (n 11 (n 36 (m 63) e) (m 51)) (n 31 (m 43) (m 11))))))) fun a=>n a e e
noncomputable def tX4(f:Nat->Nat->Hw->Obj)(P:Hw):Hr:=Yi (fun k=>.node (f (k/16) (k%16) P)) .nil
noncomputable def Yh(n:Nat->Hr->Hr->Hr)(e:Hr):Hr:=(fun m:Nat->Hr=>(n 0 (n 1 (n 64 (n 7 (n 17 (n 11 (m 56) e) (n 11 (m 12) e)) (n 22 (n 37 (m 30) e) (n 11 (m 77) e))) (n 11 (n 12 (n 11 (m 60) e) (n 47 (m 73) e)) (n 26 (n 11 (m 68) e) (m 11)))) (n 5 (n 9 (n 19 (n 32 (m 58) e) (n 45 (m 11) e)) (n 24 (n 18 (m 67) e) (n 53 (m 79) e))) (n 13 (n 21 (n 35 (m 62) e) (n 18 (m 75) e)) (n 18 (n 42 (m 70) e) (m 55))))) (n 2 (n 4 (n 8 (n 18 (n 12 (m 57) e) (n 44 (m 71) e)) (n 66 (n 30 (m 18) e) (n 52 (m 78) e))) (n 65 (n 20 (n 34 (m 61) e) (n 30 (m 74) e)) (n 30 (n 12 (m 69) e) (m 12)))) (n 6 (n 10 (n 11 (n 33 (m 59) e) (n 46 (m 72) e)) (n 25 (n 41 (m 11) e) (m 54))) (n 14 (n 11 (n 36 (m 63) e) (n 51 (m 76) e)) (n 31 (n 43 (m 11) e) (m 11))))))) fun a=>n a e e
noncomputable def tX5(f:Nat->Nat->Hw->Obj)(P:Hw):Hr:=Yh (fun k=>.node (f (k/16) (k%16) P)) .nil
noncomputable def Yg(n:Nat->Hr->Hr->Hr)(e:Hr):Hr:=(fun m:Nat->Hr=>(n 0 (n 1 (n 80 (n 7 (n 17 (n 11 (m 56) (m 85)) (n 11 (m 12) e)) (n 22 (n 37 (m 30) (m 90)) (n 11 (m 77) e))) (n 11 (n 12 (n 11 (m 60) (m 87)) (n 47 (m 73) e)) (n 26 (n 11 (m 68) (m 94)) (n 11 (m 18) e)))) (n 5 (n 9 (n 19 (n 32 (m 58) (m 11)) (n 45 (m 11) e)) (n 24 (n 18 (m 67) (m 92)) (n 53 (m 79) e))) (n 13 (n 21 (n 35 (m 62) (m 88)) (n 18 (m 75) e)) (n 18 (n 42 (m 70) e) (n 55 (m 11) e))))) (n 2 (n 4 (n 8 (n 18 (n 12 (m 57) (m 86)) (n 44 (m 71) e)) (n 82 (n 30 (m 18) (m 91)) (n 52 (m 78) e))) (n 81 (n 20 (n 34 (m 61) (m 11)) (n 30 (m 74) e)) (n 30 (n 12 (m 69) (m 95)) (n 12 (m 83) e)))) (n 6 (n 10 (n 11 (n 33 (m 59) (m 12)) (n 46 (m 72) e)) (n 25 (n 41 (m 11) (m 93)) (n 54 (m 30) e))) (n 14 (n 11 (n 36 (m 63) (m 89)) (n 51 (m 76) e)) (n 31 (n 43 (m 11) e) (n 11 (m 84) e))))))) fun a=>n a e e
noncomputable def tX6(f:Nat->Nat->Hw->Obj)(P:Hw):Hr:=Yg (fun k=>.node (f (k/16) (k%16) P)) .nil
noncomputable def Yf(n:Nat->Hr->Hr->Hr)(e:Hr):Hr:=(fun m:Nat->Hr=>(n 0 (n 1 (n 96 (n 7 (n 17 (n 11 (n 56 (m 111) e) (m 85)) (n 11 (m 12) (m 99))) (n 22 (n 37 (m 30) (m 90)) (n 11 (m 77) (m 11)))) (n 11 (n 12 (n 11 (m 60) (m 87)) (n 47 (m 73) (m 102))) (n 26 (n 11 (m 68) (m 94)) (n 11 (m 18) (m 107))))) (n 5 (n 9 (n 19 (n 32 (m 58) (m 11)) (n 45 (m 11) (m 100))) (n 24 (n 18 (m 67) (m 92)) (n 53 (m 79) (m 105)))) (n 13 (n 21 (n 35 (m 62) (m 88)) (n 18 (m 75) (m 12))) (n 18 (n 42 (m 70) (m 30)) (n 55 (m 11) (m 109)))))) (n 2 (n 4 (n 8 (n 18 (n 12 (m 57) (m 86)) (n 44 (m 71) (m 11))) (n 98 (n 30 (m 18) (m 91)) (n 52 (m 78) (m 104)))) (n 97 (n 20 (n 34 (m 61) (m 11)) (n 30 (m 74) (m 11))) (n 30 (n 12 (m 69) (m 95)) (n 12 (m 83) (m 108))))) (n 6 (n 10 (n 11 (n 33 (m 59) (m 12)) (n 46 (m 72) (m 101))) (n 25 (n 41 (m 11) (m 93)) (n 54 (m 30) (m 106)))) (n 14 (n 11 (n 36 (m 63) (m 89)) (n 51 (m 76) (m 103))) (n 31 (n 43 (m 11) (m 18)) (n 11 (m 84) (m 110)))))))) fun a=>n a e e
noncomputable def tX7(f:Nat->Nat->Hw->Obj)(P:Hw):Hr:=Yf (fun k=>.node (f (k/16) (k%16) P)) .nil
noncomputable def Ye(n:Nat->Hr->Hr->Hr)(e:Hr):Hr:=(fun m:Nat->Hr=>(n 0 (n 1 (n 112 (n 7 (n 17 (n 11 (n 56 (m 111) e) (n 85 (m 132) e)) (n 11 (n 12 (m 11) e) (m 99))) (n 22 (n 37 (n 30 (m 11) e) (n 90 (m 137) e)) (n 11 (n 77 (m 127) e) (m 11)))) (n 11 (n 12 (n 11 (n 60 (m 11) e) (n 87 (m 134) e)) (n 47 (n 73 (m 11) e) (m 102))) (n 26 (n 11 (n 68 (m 121) e) (n 94 (m 11) e)) (n 11 (n 18 (m 12) e) (m 107))))) (n 5 (n 9 (n 19 (n 32 (n 58 (m 18) e) (n 11 (m 11) e)) (n 45 (n 11 (m 124) e) (m 100))) (n 24 (n 18 (n 67 (m 119) e) (n 92 (m 12) e)) (n 53 (n 79 (m 129) e) (m 105)))) (n 13 (n 21 (n 35 (n 62 (m 116) e) (n 88 (m 135) e)) (n 18 (n 75 (m 126) e) (m 12))) (n 18 (n 42 (n 70 (m 12) e) (n 30 (m 140) e)) (n 55 (n 11 (m 11) e) (m 109)))))) (n 2 (n 4 (n 8 (n 18 (n 12 (n 57 (m 30) e) (n 86 (m 133) e)) (n 44 (n 71 (m 123) e) (m 11))) (n 114 (n 30 (n 18 (m 118) e) (n 91 (m 11) e)) (n 52 (n 78 (m 128) e) (m 104)))) (n 113 (n 20 (n 34 (n 61 (m 12) e) (n 11 (m 11) e)) (n 30 (n 74 (m 12) e) (m 11))) (n 30 (n 12 (n 69 (m 11) e) (n 95 (m 139) e)) (n 12 (n 83 (m 130) e) (m 108))))) (n 6 (n 10 (n 11 (n 33 (n 59 (m 115) e) (n 12 (m 12) e)) (n 46 (n 72 (m 125) e) (m 101))) (n 25 (n 41 (n 11 (m 120) e) (n 93 (m 138) e)) (n 54 (n 30 (m 11) e) (m 106)))) (n 14 (n 11 (n 36 (n 63 (m 117) e) (n 89 (m 136) e)) (n 51 (n 76 (m 11) e) (m 103))) (n 31 (n 43 (n 11 (m 122) e) (n 18 (m 141) e)) (n 11 (n 84 (m 131) e) (m 110)))))))) fun a=>n a e e
noncomputable def tX8(f:Nat->Nat->Hw->Obj)(P:Hw):Hr:=Ye (fun k=>.node (f (k/16) (k%16) P)) .nil
noncomputable def Yd(n:Nat->Hr->Hr->Hr)(e:Hr):Hr:=(fun m:Nat->Hr=>(n 0 (n 1 (n 142 (n 7 (n 17 (n 11 (n 56 (n 111 (m 11) e) (m 152)) (n 85 (m 132) (m 171))) (n 11 (n 12 (m 11) (m 161)) (n 99 (m 11) (m 12)))) (n 22 (n 37 (n 30 (m 11) (m 11)) (n 90 (m 137) (m 11))) (n 11 (n 77 (m 127) (m 166)) (n 11 (m 12) (m 184))))) (n 11 (n 12 (n 11 (n 60 (m 11) (m 155)) (n 87 (m 134) (m 11))) (n 47 (n 73 (m 11) (m 12)) (n 102 (m 145) (m 182)))) (n 26 (n 11 (n 68 (m 121) (m 11)) (n 94 (m 11) (m 177))) (n 11 (n 18 (m 12) (m 168)) (n 107 (m 150) (m 187)))))) (n 5 (n 9 (n 19 (n 32 (n 58 (n 18 (m 190) e) (m 153)) (n 11 (m 11) (m 12))) (n 45 (n 11 (m 124) (m 163)) (n 100 (m 144) (m 11)))) (n 24 (n 18 (n 67 (m 119) (m 158)) (n 92 (m 12) (m 176))) (n 53 (n 79 (m 129) (m 11)) (n 105 (m 11) (m 185))))) (n 13 (n 21 (n 35 (n 62 (m 116) (m 12)) (n 88 (m 135) (m 174))) (n 18 (n 75 (m 126) (m 11)) (n 12 (m 147) (m 11)))) (n 18 (n 42 (n 70 (m 12) (m 160)) (n 30 (m 140) (m 179))) (n 55 (n 11 (m 11) (m 169)) (n 109 (m 11) (m 12))))))) (n 2 (n 4 (n 8 (n 18 (n 12 (n 57 (n 30 (m 189) e) (m 11)) (n 86 (m 133) (m 11))) (n 44 (n 71 (m 123) (m 162)) (n 11 (m 12) (m 180)))) (n 114 (n 30 (n 18 (m 118) (m 157)) (n 91 (m 11) (m 12))) (n 52 (n 78 (m 128) (m 167)) (n 104 (m 148) (m 11))))) (n 143 (n 20 (n 34 (n 61 (m 12) (m 11)) (n 11 (m 11) (m 173))) (n 30 (n 74 (m 12) (m 164)) (n 11 (m 146) (m 183)))) (n 30 (n 12 (n 69 (m 11) (m 12)) (n 95 (m 139) (m 178))) (n 12 (n 83 (m 130) (m 11)) (n 108 (m 151) (m 11)))))) (n 6 (n 10 (n 11 (n 33 (n 59 (n 115 (m 191) e) (m 154)) (n 12 (m 12) (m 172))) (n 46 (n 72 (m 125) (m 11)) (n 101 (m 11) (m 181)))) (n 25 (n 41 (n 11 (m 120) (m 159)) (n 93 (m 138) (m 11))) (n 54 (n 30 (m 11) (m 12)) (n 106 (m 149) (m 186))))) (n 14 (n 11 (n 36 (n 63 (m 117) (m 156)) (n 89 (m 136) (m 175))) (n 51 (n 76 (m 11) (m 165)) (n 103 (m 11) (m 12)))) (n 31 (n 43 (n 11 (m 122) (m 11)) (n 18 (m 141) (m 11))) (n 11 (n 84 (m 131) (m 170)) (n 110 (m 12) (m 188))))))))) fun a=>n a e e
noncomputable def tX9(f:Nat->Nat->Hw->Obj)(P:Hw):Hr:=Yd (fun k=>.node (f (k/16) (k%16) P)) .nil
noncomputable def WE(n:Nat->Hr->Hr->Hr)(e:Hr):Hr:=(fun m:Nat->Hr=>(n 0 (n 1 (n 192 (n 7 (n 17 (n 11 (n 56 (n 111 (m 11) e) (n 152 (m 228) e)) (n 85 (n 132 (m 209) e) (m 171))) (n 11 (n 12 (n 11 (m 200) e) (n 161 (m 11) e)) (n 99 (n 11 (m 218) e) (m 12)))) (n 22 (n 37 (n 30 (n 11 (m 195) e) (n 11 (m 11) e)) (n 90 (n 137 (m 11) e) (m 11))) (n 11 (n 77 (n 127 (m 205) e) (m 166)) (n 11 (n 12 (m 223) e) (m 184))))) (n 11 (n 12 (n 11 (n 60 (n 11 (m 11) e) (n 155 (m 11) e)) (n 87 (n 134 (m 212) e) (m 11))) (n 47 (n 73 (n 11 (m 202) e) (m 12)) (n 102 (n 145 (m 12) e) (m 182)))) (n 26 (n 11 (n 68 (n 121 (m 12) e) (n 11 (m 235) e)) (n 94 (n 11 (m 11) e) (m 177))) (n 11 (n 18 (n 12 (m 207) e) (m 168)) (n 107 (n 150 (m 225) e) (m 187)))))) (n 5 (n 9 (n 19 (n 32 (n 58 (n 18 (m 190) e) (n 153 (m 12) e)) (n 11 (n 11 (m 210) e) (m 12))) (n 45 (n 11 (n 124 (m 11) e) (n 163 (m 238) e)) (n 100 (n 144 (m 220) e) (m 11)))) (n 24 (n 18 (n 67 (n 119 (m 197) e) (n 158 (m 233) e)) (n 92 (n 12 (m 215) e) (m 176))) (n 53 (n 79 (n 129 (m 12) e) (m 11)) (n 105 (n 11 (m 11) e) (m 185))))) (n 13 (n 21 (n 35 (n 62 (n 116 (m 194) e) (n 12 (m 231) e)) (n 88 (n 135 (m 12) e) (m 174))) (n 18 (n 75 (n 126 (m 203) e) (m 11)) (n 12 (n 147 (m 11) e) (m 11)))) (n 18 (n 42 (n 70 (n 12 (m 11) e) (n 160 (m 12) e)) (n 30 (n 140 (m 217) e) (m 179))) (n 55 (n 11 (n 11 (m 11) e) (m 169)) (n 109 (n 11 (m 226) e) (m 12))))))) (n 2 (n 4 (n 8 (n 18 (n 12 (n 57 (n 30 (m 189) e) (n 11 (m 11) e)) (n 86 (n 133 (m 11) e) (m 11))) (n 44 (n 71 (n 123 (m 201) e) (n 162 (m 237) e)) (n 11 (n 12 (m 219) e) (m 180)))) (n 114 (n 30 (n 18 (n 118 (m 196) e) (n 157 (m 12) e)) (n 91 (n 11 (m 214) e) (m 12))) (n 52 (n 78 (n 128 (m 11) e) (m 167)) (n 104 (n 148 (m 224) e) (m 11))))) (n 193 (n 20 (n 34 (n 61 (n 12 (m 12) e) (n 11 (m 230) e)) (n 11 (n 11 (m 11) e) (m 173))) (n 30 (n 74 (n 12 (m 11) e) (m 164)) (n 11 (n 146 (m 221) e) (m 183)))) (n 30 (n 12 (n 69 (n 11 (m 198) e) (n 12 (m 11) e)) (n 95 (n 139 (m 12) e) (m 178))) (n 12 (n 83 (n 130 (m 208) e) (m 11)) (n 108 (n 151 (m 11) e) (m 11)))))) (n 6 (n 10 (n 11 (n 33 (n 59 (n 115 (m 191) e) (n 154 (m 229) e)) (n 12 (n 12 (m 211) e) (m 172))) (n 46 (n 72 (n 125 (m 12) e) (n 11 (m 239) e)) (n 101 (n 11 (m 11) e) (m 181)))) (n 25 (n 41 (n 11 (n 120 (m 11) e) (n 159 (m 234) e)) (n 93 (n 138 (m 216) e) (m 11))) (n 54 (n 30 (n 11 (m 206) e) (m 12)) (n 106 (n 149 (m 12) e) (m 186))))) (n 14 (n 11 (n 36 (n 63 (n 117 (m 11) e) (n 156 (m 232) e)) (n 89 (n 136 (m 213) e) (m 175))) (n 51 (n 76 (n 11 (m 204) e) (m 165)) (n 103 (n 11 (m 222) e) (m 12)))) (n 31 (n 43 (n 11 (n 122 (m 199) e) (n 11 (m 236) e)) (n 18 (n 141 (m 11) e) (m 11))) (n 11 (n 84 (n 131 (m 12) e) (m 170)) (n 110 (n 12 (m 227) e) (m 188))))))))) fun a=>n a e e
noncomputable def tX10(f:Nat->Nat->Hw->Obj)(P:Hw):Hr:=WE (fun k=>.node (f (k/16) (k%16) P)) .nil
noncomputable def WD(n:Nat->Hr->Hr->Hr)(e:Hr):Hr:=(fun m:Nat->Hr=>(n 0 (n 1 (n 240 (n 7 (n 17 (n 11 (n 56 (n 111 (m 11) (m 267)) (n 152 (m 228) e)) (n 85 (n 132 (m 209) (m 11)) (n 171 (m 248) e))) (n 11 (n 12 (n 11 (m 200) (m 12)) (n 161 (m 11) e)) (n 99 (n 11 (m 218) e) (n 12 (m 257) e)))) (n 22 (n 37 (n 30 (n 11 (m 195) (m 11)) (n 11 (m 11) e)) (n 90 (n 137 (m 11) e) (n 11 (m 253) e))) (n 11 (n 77 (n 127 (m 205) (m 280)) (n 166 (m 243) e)) (n 11 (n 12 (m 223) e) (n 184 (m 262) e))))) (n 11 (n 12 (n 11 (n 60 (n 11 (m 11) (m 11)) (n 155 (m 11) e)) (n 87 (n 134 (m 212) e) (n 11 (m 250) e))) (n 47 (n 73 (n 11 (m 202) (m 278)) (n 12 (m 11) e)) (n 102 (n 145 (m 12) e) (n 182 (m 12) e)))) (n 26 (n 11 (n 68 (n 121 (m 12) (m 273)) (n 11 (m 235) e)) (n 94 (n 11 (m 11) e) (n 177 (m 255) e))) (n 11 (n 18 (n 12 (m 207) (m 283)) (n 168 (m 12) e)) (n 107 (n 150 (m 225) e) (n 187 (m 264) e)))))) (n 5 (n 9 (n 19 (n 32 (n 58 (n 18 (m 190) (m 12)) (n 153 (m 12) e)) (n 11 (n 11 (m 210) (m 286)) (n 12 (m 11) e))) (n 45 (n 11 (n 124 (m 11) (m 11)) (n 163 (m 238) e)) (n 100 (n 144 (m 220) e) (n 11 (m 259) e)))) (n 24 (n 18 (n 67 (n 119 (m 197) (m 272)) (n 158 (m 233) e)) (n 92 (n 12 (m 215) e) (n 176 (m 12) e))) (n 53 (n 79 (n 129 (m 12) (m 281)) (n 11 (m 245) e)) (n 105 (n 11 (m 11) e) (n 185 (m 11) e))))) (n 13 (n 21 (n 35 (n 62 (n 116 (m 194) (m 270)) (n 12 (m 231) e)) (n 88 (n 135 (m 12) e) (n 174 (m 251) e))) (n 18 (n 75 (n 126 (m 203) (m 11)) (n 11 (m 242) e)) (n 12 (n 147 (m 11) e) (n 11 (m 11) e)))) (n 18 (n 42 (n 70 (n 12 (m 11) (m 275)) (n 160 (m 12) e)) (n 30 (n 140 (m 217) e) (n 179 (m 11) e))) (n 55 (n 11 (n 11 (m 11) (m 12)) (n 169 (m 11) e)) (n 109 (n 11 (m 226) e) (n 12 (m 265) e))))))) (n 2 (n 4 (n 8 (n 18 (n 12 (n 57 (n 30 (m 189) (m 11)) (n 11 (m 11) e)) (n 86 (n 133 (m 11) (m 285)) (n 11 (m 249) e))) (n 44 (n 71 (n 123 (m 201) (m 276)) (n 162 (m 237) e)) (n 11 (n 12 (m 219) e) (n 180 (m 258) e)))) (n 114 (n 30 (n 18 (n 118 (m 196) (m 12)) (n 157 (m 12) e)) (n 91 (n 11 (m 214) e) (n 12 (m 11) e))) (n 52 (n 78 (n 128 (m 11) (m 11)) (n 167 (m 244) e)) (n 104 (n 148 (m 224) e) (n 11 (m 263) e))))) (n 241 (n 20 (n 34 (n 61 (n 12 (m 12) (m 269)) (n 11 (m 230) e)) (n 11 (n 11 (m 11) e) (n 173 (m 11) e))) (n 30 (n 74 (n 12 (m 11) (m 279)) (n 164 (m 12) e)) (n 11 (n 146 (m 221) e) (n 183 (m 260) e)))) (n 30 (n 12 (n 69 (n 11 (m 198) (m 274)) (n 12 (m 11) e)) (n 95 (n 139 (m 12) e) (n 178 (m 256) e))) (n 12 (n 83 (n 130 (m 208) (m 11)) (n 11 (m 246) e)) (n 108 (n 151 (m 11) e) (n 11 (m 11) e)))))) (n 6 (n 10 (n 11 (n 33 (n 59 (n 115 (m 191) (m 268)) (n 154 (m 229) e)) (n 12 (n 12 (m 211) (m 287)) (n 172 (m 12) e))) (n 46 (n 72 (n 125 (m 12) (m 277)) (n 11 (m 239) e)) (n 101 (n 11 (m 11) e) (n 181 (m 11) e)))) (n 25 (n 41 (n 11 (n 120 (m 11) (m 11)) (n 159 (m 234) e)) (n 93 (n 138 (m 216) e) (n 11 (m 254) e))) (n 54 (n 30 (n 11 (m 206) (m 282)) (n 12 (m 11) e)) (n 106 (n 149 (m 12) e) (n 186 (m 12) e))))) (n 14 (n 11 (n 36 (n 63 (n 117 (m 11) (m 271)) (n 156 (m 232) e)) (n 89 (n 136 (m 213) e) (n 175 (m 252) e))) (n 51 (n 76 (n 11 (m 204) (m 12)) (n 165 (m 11) e)) (n 103 (n 11 (m 222) e) (n 12 (m 261) e)))) (n 31 (n 43 (n 11 (n 122 (m 199) (m 11)) (n 11 (m 236) e)) (n 18 (n 141 (m 11) e) (n 11 (m 12) e))) (n 11 (n 84 (n 131 (m 12) (m 284)) (n 170 (m 247) e)) (n 110 (n 12 (m 227) e) (n 188 (m 266) e))))))))) fun a=>n a e e
noncomputable def tX11(f:Nat->Nat->Hw->Obj)(P:Hw):Hr:=WD (fun k=>.node (f (k/16) (k%16) P)) .nil
noncomputable def WC(n:Nat->Hr->Hr->Hr)(e:Hr):Hr:=(fun m:Nat->Hr=>(n 0 (n 1 (n 288 (n 7 (n 17 (n 11 (n 56 (n 111 (m 11) (m 267)) (n 152 (m 228) (m 11))) (n 85 (n 132 (m 209) (m 11)) (n 171 (m 248) (m 324)))) (n 11 (n 12 (n 11 (m 200) (m 12)) (n 161 (m 11) (m 315))) (n 99 (n 11 (m 218) (m 296)) (n 12 (m 257) (m 11))))) (n 22 (n 37 (n 30 (n 11 (m 195) (m 11)) (n 11 (m 11) (m 310))) (n 90 (n 137 (m 11) (m 291)) (n 11 (m 253) (m 329)))) (n 11 (n 77 (n 127 (m 205) (m 280)) (n 166 (m 243) (m 319))) (n 11 (n 12 (m 223) (m 301)) (n 184 (m 262) e))))) (n 11 (n 12 (n 11 (n 60 (n 11 (m 11) (m 11)) (n 155 (m 11) (m 308))) (n 87 (n 134 (m 212) (m 11)) (n 11 (m 250) (m 326)))) (n 47 (n 73 (n 11 (m 202) (m 278)) (n 12 (m 11) (m 317))) (n 102 (n 145 (m 12) (m 298)) (n 182 (m 12) (m 335))))) (n 26 (n 11 (n 68 (n 121 (m 12) (m 273)) (n 11 (m 235) (m 312))) (n 94 (n 11 (m 11) (m 12)) (n 177 (m 255) (m 11)))) (n 11 (n 18 (n 12 (m 207) (m 283)) (n 168 (m 12) (m 322))) (n 107 (n 150 (m 225) (m 11)) (n 187 (m 264) e)))))) (n 5 (n 9 (n 19 (n 32 (n 58 (n 18 (m 190) (m 12)) (n 153 (m 12) (m 306))) (n 11 (n 11 (m 210) (m 286)) (n 12 (m 11) (m 11)))) (n 45 (n 11 (n 124 (m 11) (m 11)) (n 163 (m 238) (m 12))) (n 100 (n 144 (m 220) (m 11)) (n 11 (m 259) (m 334))))) (n 24 (n 18 (n 67 (n 119 (m 197) (m 272)) (n 158 (m 233) (m 11))) (n 92 (n 12 (m 215) (m 293)) (n 176 (m 12) (m 12)))) (n 53 (n 79 (n 129 (m 12) (m 281)) (n 11 (m 245) (m 320))) (n 105 (n 11 (m 11) (m 12)) (n 185 (m 11) e))))) (n 13 (n 21 (n 35 (n 62 (n 116 (m 194) (m 270)) (n 12 (m 231) (m 12))) (n 88 (n 135 (m 12) (m 290)) (n 174 (m 251) (m 327)))) (n 18 (n 75 (n 126 (m 203) (m 11)) (n 11 (m 242) (m 11))) (n 12 (n 147 (m 11) (m 299)) (n 11 (m 11) (m 337))))) (n 18 (n 42 (n 70 (n 12 (m 11) (m 275)) (n 160 (m 12) (m 313))) (n 30 (n 140 (m 217) (m 11)) (n 179 (m 11) (m 332)))) (n 55 (n 11 (n 11 (m 11) (m 12)) (n 169 (m 11) (m 12))) (n 109 (n 11 (m 226) (m 304)) (n 12 (m 265) e))))))) (n 2 (n 4 (n 8 (n 18 (n 12 (n 57 (n 30 (m 189) (m 11)) (n 11 (m 11) (m 12))) (n 86 (n 133 (m 11) (m 285)) (n 11 (m 249) (m 325)))) (n 44 (n 71 (n 123 (m 201) (m 276)) (n 162 (m 237) (m 11))) (n 11 (n 12 (m 219) (m 297)) (n 180 (m 258) (m 12))))) (n 114 (n 30 (n 18 (n 118 (m 196) (m 12)) (n 157 (m 12) (m 311))) (n 91 (n 11 (m 214) (m 292)) (n 12 (m 11) (m 11)))) (n 52 (n 78 (n 128 (m 11) (m 11)) (n 167 (m 244) (m 11))) (n 104 (n 148 (m 224) (m 11)) (n 11 (m 263) e))))) (n 289 (n 20 (n 34 (n 61 (n 12 (m 12) (m 269)) (n 11 (m 230) (m 11))) (n 11 (n 11 (m 11) (m 12)) (n 173 (m 11) (m 11)))) (n 30 (n 74 (n 12 (m 11) (m 279)) (n 164 (m 12) (m 318))) (n 11 (n 146 (m 221) (m 11)) (n 183 (m 260) (m 336))))) (n 30 (n 12 (n 69 (n 11 (m 198) (m 274)) (n 12 (m 11) (m 11))) (n 95 (n 139 (m 12) (m 294)) (n 178 (m 256) (m 331)))) (n 12 (n 83 (n 130 (m 208) (m 11)) (n 11 (m 246) (m 11))) (n 108 (n 151 (m 11) (m 303)) (n 11 (m 11) e)))))) (n 6 (n 10 (n 11 (n 33 (n 59 (n 115 (m 191) (m 268)) (n 154 (m 229) (m 307))) (n 12 (n 12 (m 211) (m 287)) (n 172 (m 12) (m 12)))) (n 46 (n 72 (n 125 (m 12) (m 277)) (n 11 (m 239) (m 316))) (n 101 (n 11 (m 11) (m 12)) (n 181 (m 11) (m 11))))) (n 25 (n 41 (n 11 (n 120 (m 11) (m 11)) (n 159 (m 234) (m 12))) (n 93 (n 138 (m 216) (m 11)) (n 11 (m 254) (m 330)))) (n 54 (n 30 (n 11 (m 206) (m 282)) (n 12 (m 11) (m 321))) (n 106 (n 149 (m 12) (m 302)) (n 186 (m 12) e))))) (n 14 (n 11 (n 36 (n 63 (n 117 (m 11) (m 271)) (n 156 (m 232) (m 309))) (n 89 (n 136 (m 213) (m 11)) (n 175 (m 252) (m 328)))) (n 51 (n 76 (n 11 (m 204) (m 12)) (n 165 (m 11) (m 12))) (n 103 (n 11 (m 222) (m 300)) (n 12 (m 261) e)))) (n 31 (n 43 (n 11 (n 122 (m 199) (m 11)) (n 11 (m 236) (m 314))) (n 18 (n 141 (m 11) (m 295)) (n 11 (m 12) (m 333)))) (n 11 (n 84 (n 131 (m 12) (m 284)) (n 170 (m 247) (m 323))) (n 110 (n 12 (m 227) (m 305)) (n 188 (m 266) e))))))))) fun a=>n a e e
noncomputable def tX12(f:Nat->Nat->Hw->Obj)(P:Hw):Hr:=WC (fun k=>.node (f (k/16) (k%16) P)) .nil
noncomputable def WB(n:Nat->Hr->Hr->Hr)(e:Hr):Hr:=(fun m:Nat->Hr=>(n 0 (n 1 (n 338 (n 7 (n 17 (n 11 (n 56 (n 111 (n 11 (m 344) e) (m 267)) (n 152 (m 228) (m 11))) (n 85 (n 132 (m 209) (m 11)) (n 171 (m 248) (m 324)))) (n 11 (n 12 (n 11 (m 200) (m 12)) (n 161 (m 11) (m 315))) (n 99 (n 11 (m 218) (m 296)) (n 12 (m 257) (m 11))))) (n 22 (n 37 (n 30 (n 11 (n 195 (m 349) e) (m 11)) (n 11 (m 11) (m 310))) (n 90 (n 137 (m 11) (m 291)) (n 11 (m 253) (m 329)))) (n 11 (n 77 (n 127 (m 205) (m 280)) (n 166 (m 243) (m 319))) (n 11 (n 12 (m 223) (m 301)) (n 184 (m 262) (m 12)))))) (n 11 (n 12 (n 11 (n 60 (n 11 (n 11 (m 347) e) (m 11)) (n 155 (m 11) (m 308))) (n 87 (n 134 (m 212) (m 11)) (n 11 (m 250) (m 326)))) (n 47 (n 73 (n 11 (m 202) (m 278)) (n 12 (m 11) (m 317))) (n 102 (n 145 (m 12) (m 298)) (n 182 (m 12) (m 335))))) (n 26 (n 11 (n 68 (n 121 (n 12 (m 351) e) (m 273)) (n 11 (m 235) (m 312))) (n 94 (n 11 (m 11) (m 12)) (n 177 (m 255) (m 11)))) (n 11 (n 18 (n 12 (m 207) (m 283)) (n 168 (m 12) (m 322))) (n 107 (n 150 (m 225) (m 11)) (n 187 (m 264) (m 342))))))) (n 5 (n 9 (n 19 (n 32 (n 58 (n 18 (n 190 (m 345) e) (m 12)) (n 153 (m 12) (m 306))) (n 11 (n 11 (m 210) (m 286)) (n 12 (m 11) (m 11)))) (n 45 (n 11 (n 124 (m 11) (m 11)) (n 163 (m 238) (m 12))) (n 100 (n 144 (m 220) (m 11)) (n 11 (m 259) (m 334))))) (n 24 (n 18 (n 67 (n 119 (n 197 (m 11) e) (m 272)) (n 158 (m 233) (m 11))) (n 92 (n 12 (m 215) (m 293)) (n 176 (m 12) (m 12)))) (n 53 (n 79 (n 129 (m 12) (m 281)) (n 11 (m 245) (m 320))) (n 105 (n 11 (m 11) (m 12)) (n 185 (m 11) (m 11)))))) (n 13 (n 21 (n 35 (n 62 (n 116 (n 194 (m 12) e) (m 270)) (n 12 (m 231) (m 12))) (n 88 (n 135 (m 12) (m 290)) (n 174 (m 251) (m 327)))) (n 18 (n 75 (n 126 (m 203) (m 11)) (n 11 (m 242) (m 11))) (n 12 (n 147 (m 11) (m 299)) (n 11 (m 11) (m 337))))) (n 18 (n 42 (n 70 (n 12 (n 11 (m 353) e) (m 275)) (n 160 (m 12) (m 313))) (n 30 (n 140 (m 217) (m 11)) (n 179 (m 11) (m 332)))) (n 55 (n 11 (n 11 (m 11) (m 12)) (n 169 (m 11) (m 12))) (n 109 (n 11 (m 226) (m 304)) (n 12 (m 265) (m 11)))))))) (n 2 (n 4 (n 8 (n 18 (n 12 (n 57 (n 30 (n 189 (m 11) e) (m 11)) (n 11 (m 11) (m 12))) (n 86 (n 133 (m 11) (m 285)) (n 11 (m 249) (m 325)))) (n 44 (n 71 (n 123 (m 201) (m 276)) (n 162 (m 237) (m 11))) (n 11 (n 12 (m 219) (m 297)) (n 180 (m 258) (m 12))))) (n 114 (n 30 (n 18 (n 118 (n 196 (m 350) e) (m 12)) (n 157 (m 12) (m 311))) (n 91 (n 11 (m 214) (m 292)) (n 12 (m 11) (m 11)))) (n 52 (n 78 (n 128 (m 11) (m 11)) (n 167 (m 244) (m 11))) (n 104 (n 148 (m 224) (m 11)) (n 11 (m 263) (m 340)))))) (n 339 (n 20 (n 34 (n 61 (n 12 (n 12 (m 11) e) (m 269)) (n 11 (m 230) (m 11))) (n 11 (n 11 (m 11) (m 12)) (n 173 (m 11) (m 11)))) (n 30 (n 74 (n 12 (m 11) (m 279)) (n 164 (m 12) (m 318))) (n 11 (n 146 (m 221) (m 11)) (n 183 (m 260) (m 336))))) (n 30 (n 12 (n 69 (n 11 (n 198 (m 352) e) (m 274)) (n 12 (m 11) (m 11))) (n 95 (n 139 (m 12) (m 294)) (n 178 (m 256) (m 331)))) (n 12 (n 83 (n 130 (m 208) (m 11)) (n 11 (m 246) (m 11))) (n 108 (n 151 (m 11) (m 303)) (n 11 (m 11) (m 343))))))) (n 6 (n 10 (n 11 (n 33 (n 59 (n 115 (n 191 (m 346) e) (m 268)) (n 154 (m 229) (m 307))) (n 12 (n 12 (m 211) (m 287)) (n 172 (m 12) (m 12)))) (n 46 (n 72 (n 125 (m 12) (m 277)) (n 11 (m 239) (m 316))) (n 101 (n 11 (m 11) (m 12)) (n 181 (m 11) (m 11))))) (n 25 (n 41 (n 11 (n 120 (n 11 (m 12) e) (m 11)) (n 159 (m 234) (m 12))) (n 93 (n 138 (m 216) (m 11)) (n 11 (m 254) (m 330)))) (n 54 (n 30 (n 11 (m 206) (m 282)) (n 12 (m 11) (m 321))) (n 106 (n 149 (m 12) (m 302)) (n 186 (m 12) (m 341)))))) (n 14 (n 11 (n 36 (n 63 (n 117 (n 11 (m 348) e) (m 271)) (n 156 (m 232) (m 309))) (n 89 (n 136 (m 213) (m 11)) (n 175 (m 252) (m 328)))) (n 51 (n 76 (n 11 (m 204) (m 12)) (n 165 (m 11) (m 12))) (n 103 (n 11 (m 222) (m 300)) (n 12 (m 261) (m 11))))) (n 31 (n 43 (n 11 (n 122 (m 199) (m 11)) (n 11 (m 236) (m 314))) (n 18 (n 141 (m 11) (m 295)) (n 11 (m 12) (m 333)))) (n 11 (n 84 (n 131 (m 12) (m 284)) (n 170 (m 247) (m 323))) (n 110 (n 12 (m 227) (m 305)) (n 188 (m 266) (m 12)))))))))) fun a=>n a e e
noncomputable def tX13(f:Nat->Nat->Hw->Obj)(P:Hw):Hr:=WB (fun k=>.node (f (k/16) (k%16) P)) .nil
noncomputable def hX0(f:Nat->Nat->Hw->Obj)(P:Hw):Heap:=(fun g:Nat->Obj=>(⟨⟨[g 0,g 1,g 2,g 3,g 4,g 5,g 6,g 7,g 8,g 9,g 10,g 11,g 12,g 13,g 14]⟩,{}⟩:Heap)) fun k=>f (k/16) (k%16) P
noncomputable def hX1(f:Nat->Nat->Hw->Obj)(P:Hw):Heap:=(fun g:Nat->Obj=>(⟨⟨[g 0,g 1,g 2,g 338,g 4,g 5,g 6,g 7,g 8,g 9,g 10,g 11,g 339,g 13,g 14,g 17,g 18,g 19,g 11,g 12,g 20,g 21,g 11,g 22,g 114,g 24,g 25,g 26,g 30,g 18,g 31,g 11,g 12,g 32,g 33,g 11,g 34,g 35,g 36,g 37,g 30,g 18,g 41,g 11,g 12,g 42,g 43,g 11,g 44,g 45,g 46,g 47,g 30,g 18,g 51,g 11,g 52,g 53,g 54,g 11,g 12,g 55,g 11,g 56,g 57,g 58,g 59,g 60,g 61,g 62,g 63,g 30,g 18,g 67,g 11,g 68,g 69,g 70,g 11,g 12,g 71,g 11,g 72,g 73,g 74,g 75,g 76,g 77,g 78,g 79,g 30,g 18,g 83,g 11,g 84,g 85,g 86,g 11,g 12,g 87,g 11,g 88,g 89,g 90,g 91,g 92,g 93,g 94,g 95,g 30,g 18,g 99,g 11,g 100,g 101,g 102,g 11,g 12,g 103,g 11,g 104,g 105,g 106,g 107,g 108,g 109,g 110,g 111,g 30,g 18,g 115,g 11,g 12,g 116,g 117,g 11,g 118,g 119,g 120,g 121,g 11,g 12,g 122,g 11,g 123,g 124,g 125,g 11,g 12,g 126,g 11,g 127,g 128,g 129,g 11,g 12,g 130,g 11,g 131,g 132,g 133,g 11,g 12,g 134,g 11,g 135,g 136,g 137,g 11,g 12,g 138,g 11,g 139,g 140,g 141,g 11,g 12,g 144,g 11,g 145,g 146,g 147,g 11,g 12,g 148,g 11,g 149,g 150,g 151,g 11,g 12,g 152,g 11,g 153,g 154,g 155,g 11,g 12,g 156,g 11,g 157,g 158,g 159,g 11,g 12,g 160,g 11,g 161,g 162,g 163,g 11,g 12,g 164,g 11,g 165,g 166,g 167,g 11,g 12,g 168,g 11,g 169,g 170,g 171,g 11,g 12,g 172,g 11,g 173,g 174,g 175,g 11,g 12,g 176,g 11,g 177,g 178,g 179,g 11,g 12,g 180,g 11,g 181,g 182,g 183,g 11,g 12,g 184,g 11,g 185,g 186,g 187,g 11,g 12,g 188,g 11,g 189,g 190,g 191,g 11,g 12,g 194,g 11,g 195,g 196,g 197,g 11,g 12,g 198,g 11,g 199,g 200,g 201,g 11,g 12,g 202,g 11,g 203,g 204,g 205,g 11,g 12,g 206,g 207,g 208,g 11,g 12,g 209,g 11,g 210,g 211,g 212,g 11,g 12,g 213,g 11,g 214,g 215,g 216,g 11,g 12,g 217,g 11,g 218,g 219,g 220,g 11,g 12,g 221,g 11,g 222,g 223,g 224,g 11,g 12,g 225,g 11,g 226,g 227,g 228,g 11,g 12,g 229,g 11,g 230,g 231,g 232,g 11,g 12,g 233,g 234,g 235,g 11,g 12,g 236,g 11,g 237,g 238,g 239,g 11,g 12,g 242,g 11,g 243,g 244,g 245,g 11,g 12,g 246,g 11,g 247,g 248,g 249,g 11,g 12,g 250,g 11,g 251,g 252,g 253,g 11,g 12,g 254,g 255,g 256,g 11,g 12,g 257,g 258,g 259,g 11,g 12,g 260,g 11,g 261,g 262,g 263,g 11,g 12,g 264,g 11,g 265,g 266,g 267,g 11,g 12,g 268,g 11,g 269,g 270,g 271,g 11,g 12,g 272,g 11,g 273,g 274,g 275,g 11,g 12,g 276,g 11,g 277,g 278,g 279,g 11,g 12,g 280,g 11,g 281,g 282,g 283,g 11,g 12,g 284,g 11,g 285,g 286,g 287,g 11,g 12,g 290,g 11,g 291,g 292,g 293,g 11,g 12,g 294,g 11,g 295,g 296,g 297,g 11,g 12,g 298,g 11,g 299,g 300,g 301,g 11,g 12,g 302,g 11,g 303,g 304,g 305,g 11,g 12,g 306,g 307,g 308,g 11,g 12,g 309,g 310,g 311,g 11,g 12,g 312,g 11,g 313,g 314,g 315,g 11,g 12,g 316,g 317,g 318,g 11,g 12,g 319,g 11,g 320,g 321,g 322,g 11,g 12,g 323,g 324,g 325,g 11,g 12,g 326,g 11,g 327,g 328,g 329,g 11,g 12,g 330,g 11,g 331,g 332,g 333,g 11,g 12,g 334,g 11,g 335,g 336,g 337,g 11,g 12,g 340,g 11,g 341,g 342,g 343,g 11,g 12,g 344,g 11,g 345,g 346,g 347,g 11,g 12,g 348,g 349,g 350,g 11,g 12,g 351,g 352,g 353]⟩,{}⟩:Heap)) fun k=>f (k/16) (k%16) P
theorem laid:(fun(_:HF) (_:HF) (_:Nat->Nat->Hw->Obj) (_:List Stmt) (_:List Stmt) (_:List Stmt) (_:List Stmt) (_:List Stmt) (_:List Stmt) (_:List Stmt) (_:List Stmt) (_:List Stmt) (_:List Stmt) (_:List Stmt) (_:List Stmt) (_:List Stmt)=>KD) pw2 vw fA sx0 sx1 sx2 sx3 sx4 sx5 sx6 sx7 sx8 sx9 sx10 sx11 sx12=KD:=by k_qdec
end QQ
namespace PySem.W.Fast
noncomputable def tw7551895710943119471:HF:=tw4061903402435717205
theorem te7551895710943119471:IH=tw7551895710943119471:=Eq.trans (by kernel_rfl:IH=QQ.pw2) te4061903402435717205
noncomputable def tw11258973209304317169:HF:=tw2543460329597916322
theorem te11258973209304317169:QQ.vw=tw11258973209304317169:=te2543460329597916322
noncomputable def tw8232843033915546445:List Stmt:=tw4220349153739756805
theorem te8232843033915546445:QQ.sx0=tw8232843033915546445:=te4220349153739756805
noncomputable def tw1853004440672674204:List Stmt:=tw11397161696757032129
theorem te1853004440672674204:QQ.sx1=tw1853004440672674204:=te11397161696757032129
noncomputable def tw13377773301623675663:List Stmt:=tw10303515436491237874
theorem te13377773301623675663:QQ.sx2=tw13377773301623675663:=te10303515436491237874
noncomputable def tw13983524164542302101:List Stmt:=tw12358083906500975388
theorem te13983524164542302101:QQ.sx3=tw13983524164542302101:=te12358083906500975388
noncomputable def tw15642363414910076703:List Stmt:=tw2861187580803015100
theorem te15642363414910076703:QQ.sx4=tw15642363414910076703:=te2861187580803015100
noncomputable def tw15200381368230749535:List Stmt:=tw9932084693255007381
theorem te15200381368230749535:QQ.sx5=tw15200381368230749535:=te9932084693255007381
noncomputable def tw15344180651804257915:List Stmt:=tw1890974291257386441
theorem te15344180651804257915:QQ.sx6=tw15344180651804257915:=te1890974291257386441
noncomputable def tw3727175801926923367:List Stmt:=tw11967835380637100291
theorem te3727175801926923367:QQ.sx7=tw3727175801926923367:=te11967835380637100291
noncomputable def tw13030530552321238861:List Stmt:=tw17779941298030502338
theorem te13030530552321238861:QQ.sx8=tw13030530552321238861:=te17779941298030502338
noncomputable def tw3793382718780051052:List Stmt:=tw17991644005593546017
theorem te3793382718780051052:QQ.sx9=tw3793382718780051052:=te17991644005593546017
noncomputable def tw12507060667177348779:List Stmt:=tw1963477239447466229
theorem te12507060667177348779:QQ.sx10=tw12507060667177348779:=te1963477239447466229
noncomputable def tw6244695558452581124:List Stmt:=tw9135815729137251366
theorem te6244695558452581124:QQ.sx11=tw6244695558452581124:=te9135815729137251366
noncomputable def tw16010665380735289406:List Stmt:=tw5081009958689482214
theorem te16010665380735289406:QQ.sx12=tw16010665380735289406:=te5081009958689482214
noncomputable def tw9383953620160547606:Hw->BT:=QQ.tX0 tw16523235828492288951
theorem te9383953620160547606:QQ.tX0 QQ.fA=tw9383953620160547606:=congrArg QQ.tX0 te16523235828492288951
noncomputable def tw5148538808357862923:Hw->BT:=QQ.tX1 tw16523235828492288951
theorem te5148538808357862923:QQ.tX1 QQ.fA=tw5148538808357862923:=congrArg QQ.tX1 te16523235828492288951
noncomputable def tw10817641371949368589:Hw->BT:=QQ.tX2 tw16523235828492288951
theorem te10817641371949368589:QQ.tX2 QQ.fA=tw10817641371949368589:=congrArg QQ.tX2 te16523235828492288951
noncomputable def tw11701567113332503111:Hw->BT:=QQ.tX3 tw16523235828492288951
theorem te11701567113332503111:QQ.tX3 QQ.fA=tw11701567113332503111:=congrArg QQ.tX3 te16523235828492288951
noncomputable def tw17694289456717191317:Hw->BT:=QQ.tX4 tw16523235828492288951
theorem te17694289456717191317:QQ.tX4 QQ.fA=tw17694289456717191317:=congrArg QQ.tX4 te16523235828492288951
noncomputable def tw2110945788166585900:Hw->BT:=QQ.tX5 tw16523235828492288951
theorem te2110945788166585900:QQ.tX5 QQ.fA=tw2110945788166585900:=congrArg QQ.tX5 te16523235828492288951
noncomputable def tw8147125803552009572:Hw->BT:=QQ.tX6 tw16523235828492288951
theorem te8147125803552009572:QQ.tX6 QQ.fA=tw8147125803552009572:=congrArg QQ.tX6 te16523235828492288951
noncomputable def tw8111607514502873334:Hw->BT:=QQ.tX7 tw16523235828492288951
theorem te8111607514502873334:QQ.tX7 QQ.fA=tw8111607514502873334:=congrArg QQ.tX7 te16523235828492288951
noncomputable def tw2878309915678305071:Hw->BT:=QQ.tX8 tw16523235828492288951
theorem te2878309915678305071:QQ.tX8 QQ.fA=tw2878309915678305071:=congrArg QQ.tX8 te16523235828492288951
noncomputable def tw645415905499350284:Hw->BT:=QQ.tX9 tw16523235828492288951
theorem te645415905499350284:QQ.tX9 QQ.fA=tw645415905499350284:=congrArg QQ.tX9 te16523235828492288951
noncomputable def tw12447231650583073640:Hw->BT:=QQ.tX10 tw16523235828492288951
theorem te12447231650583073640:QQ.tX10 QQ.fA=tw12447231650583073640:=congrArg QQ.tX10 te16523235828492288951
noncomputable def tw13348401059263356370:Hw->BT:=QQ.tX11 tw16523235828492288951
theorem te13348401059263356370:QQ.tX11 QQ.fA=tw13348401059263356370:=congrArg QQ.tX11 te16523235828492288951
noncomputable def tw15646887637225659945:Hw->BT:=QQ.tX12 tw16523235828492288951
theorem te15646887637225659945:QQ.tX12 QQ.fA=tw15646887637225659945:=congrArg QQ.tX12 te16523235828492288951
noncomputable def tw11515310189017238755:Hw->BT:=QQ.tX13 tw16523235828492288951
theorem te11515310189017238755:QQ.tX13 QQ.fA=tw11515310189017238755:=congrArg QQ.tX13 te16523235828492288951
noncomputable def tw627853492744424404:Hw->PySem.Heap:=QQ.hX0 tw16523235828492288951
theorem te627853492744424404:QQ.hX0 QQ.fA=tw627853492744424404:=congrArg QQ.hX0 te16523235828492288951
noncomputable def tw5293142703435372299:Hw->PySem.Heap:=QQ.hX1 tw16523235828492288951
theorem te5293142703435372299:QQ.hX1 QQ.fA=tw5293142703435372299:=congrArg QQ.hX1 te16523235828492288951
end PySem.W.Fast
end
open PySem PySem.W PyProof.Rows
set_option maxRecDepth 100000 in
set_option maxHeartbeats 0 in
theorem PySem.Challenge.cw_spotlook_k58_areas_holds : PySem.Challenge.rw_spotlook_k58_areas.Holds := by
 w_on;o_law;o_head (PySem.W.kHook QQ.kK [↑2,↑3,↑23,↑24,↑36,↑37,↑48,↑49,↑64,↑65,↑67,↑68,↑83,↑84,↑86,↑87,↑102,↑103,↑105,↑106,↑121,↑122,↑124,↑125,↑136,↑137,↑145,↑146,↑152,↑153,↑159,↑160,↑166,↑167,↑173,↑174,↑180,↑181,↑187,↑188,↑194,↑195,↑201,↑202,↑208,↑209,↑215,↑216,↑222,↑223,↑229,↑230,↑236,↑237,↑243,↑244,↑250,↑251,↑257,↑258,↑264,↑265,↑271,↑272,↑278,↑279,↑283,↑284,↑290,↑291,↑297,↑298,↑304,↑305,↑311,↑312,↑318,↑319,↑325,↑326,↑330,↑331,↑337,↑338,↑344,↑345,↑351,↑352,↑358,↑359,↑363,↑364,↑368,↑369,↑375,↑376,↑382,↑383,↑389,↑390,↑396,↑397,↑403,↑404,↑410,↑411,↑417,↑418,↑424,↑425,↑431,↑432,↑438,↑439,↑445,↑446,↑450,↑451,↑455,↑456,↑462,↑463,↑467,↑468,↑474,↑475,↑479,↑480,↑486,↑487,↑493,↑494,↑500,↑501,↑507,↑508,↑514,↑515,↑519,↑520,↑524,↑525] (fun _=>by kernel_rfl));(case hw=>w_witness2)
 k_fill
 refine SD.xK (k:=13) (x:="_law_script") (sp:=QQ.iQ) (l:=PySem.Challenge.rw_spotlook_k58_areas) rfl rfl ⟨rfl,⋯,⋯,rfl⟩ (fun w h Y=>PySem.W.kIn_of Y) ?F QQ.C3
 case F=>
  intro w mg fa h KX G hmg
  have T:QQ.Tx (L2.KOf KX) mg:=by
   dsimp only[L2.KOf]
   constructor
   all_goals first
    |(refine' SD.zX)
    |(refine' SD.E6 KX G ?a;(case a=>k_is))
    |(refine' SD.G6 ?a ?b;(case a=>k_is);(case b=>k_exc))
    |(refine' SD.zN ?a ?b;(case a=>k_is);(case b=>k_is))
    |(refine' SD.Ad ?a ?b ?c ?d;(case a=>k_is);(case b=>k_is);(case c=>k_is);(case d=>k_is))
    |(refine' SD.Co ?a ?b ?c;(case a=>k_is);(case b=>k_is);(case c=>k_is))
    |(refine' SD.B5 ?a ?b;(case a=>k_is);(case b=>k_is))
    |(refine' SD.E4 ?a ?b;(case a=>k_is);(case b=>k_is))
    |(refine' SD.zI ?a ?b ?l ?lN ?ok ?ni ?e ?fn ?kp ?hd ?sa ?ob ?lf ?cf ?kf;(case a=>k_is);(case b=>k_is);(case l=>k_is);(case lN=>k_is);(case ok=>rfl);(case ni=>k_is);(case e=>k_exc);(case fn=>k_is);(case kp=>k_is);(case hd=>k_is);(case sa=>k_is);(case ob=>k_is);(case lf=>k_is);(case cf=>k_is);(case kf=>k_is))
    |(refine' SD.Ee ?a ?b ?c ?d ?e ?f ?g;(case a=>k_is);(case b=>k_is);(case c=>k_is);(case d=>k_is);(case e=>k_is);(case f=>k_is);(case g=>k_is))
    |(refine' SD.Ae ?a ?b (by decide +kernel);(case a=>k_is);(case b=>k_is))
    |(refine' SD.Dx ?a ?b ?c ?d ?e;(case a=>k_is);(case b=>k_is);(case c=>k_is);(case d=>k_is);(case e=>with_unfolding_all rfl))
    |(refine' PySem.W.mg_none_of KX G ?a;(case a=>k_is))
    |(refine' SD.Txt.mk KX G ?a ?l ?c ?k;(case a=>k_is);(case l=>k_is);(case c=>k_is);(case k=>k_is))
  exact QQ.El T hmg
