import PyProof.Rows.All
import Wide.All
import OpenK.AllK
import Wide.FinOn
import Lean
import PyProof.EqAt
import PyProof.EqKinds
import PyProof.TupleCall
import PySem.Challenge.RW_spotlook_k26_whole_lands_are_joined
open Option renaming some->LA
open Option renaming none->LB
open Bool renaming true->LC
open Bool renaming false->LD
theorem LF{c:Prop}{d:Decidable c}(h:¬c){a:Sort _}{x y:a}:(if c then x else y)=y:=if_neg h
theorem LG{c:Prop}{d:Decidable c}(h:c){a:Sort _}{x y:a}:(if c then x else y)=x:=if_pos h
theorem LH{p:Prop}[Decidable p](h:¬p):decide p=false:=decide_eq_false h
theorem LI{p:Prop}[Decidable p](h:p):decide p=true:=decide_eq_true h
theorem LJ{p:Prop}[Decidable p](h:decide p=true):p:=of_decide_eq_true h
theorem LK{p q:Prop}{_:Decidable p}{_:Decidable q}:(decide p=decide q)=(p↔q):=propext decide_eq_decide
theorem LL{p:Prop}[Decidable p]:(decide p=true)=p:=decide_eq_true_eq
local macro_rules|`(())=>`(by omega)
local macro_rules|`(⋯)=>`(by decide)
local macro_rules | `(tactic| omega) => `(tactic| lia)
open Bool renaming false_ne_true->Iq,and_eq_true->ID,false_and->J7,true_and->Jl,false_eq_true->JV,eq_iff_iff->K7,decide_and->KH,and_false->L0
open Classical renaming byContradiction->K9
open False renaming elim->L7
open ForInStep renaming yield->Kh
open Int renaming lt_trichotomy->Ig,sign->Ij,mul_neg_of_pos_of_neg->Io,mul_pos->Ip,mul_neg_of_neg_of_pos->IE,mul_le_mul_of_nonneg_left->IF,sign_eq_neg_one_of_neg->II,mul_pos_of_neg_of_neg->IT,sign_eq_one_of_pos->IX,fdiv_eq_ediv_of_nonneg->J8,le_of_lt->J9,toNat_natCast->Jh,mul_nonneg->Jw,mul_eq_zero->JR,mul_zero->JT,lt_of_mul_lt_mul_left->K8,add_nonneg->Kx,mul_lt_mul_of_pos_left->Ky,lt_iff_le_and_ne->KQ,ofNat->L3,not_le->L8
open List renaming getElem?_eq_getElem->Ia,getElem?_map->Ie,map_cons->Ih,length_map->Ii,mem_of_getElem?->Il,getElem?_eq_some_iff->Iu,range->Iv,mem_append_right->IA,size_toArray->IB,mem_filter->IJ,map_append->IK,mem_append->IL,replicate->IQ,find?_cons->IU,mem_range->IZ,mem_map->J1,mem_cons->J3,mem_cons_of_mem->Jb,all_eq_true->Je,getElem?_append_right->Jf,length_cons->Jg,mem_singleton->Jj,getElem?_append_left->Jk,sum_cons->Jm,getElem_mem->Jn,toArray->Jr,mem_cons_self->Js,append_nil->Jv,lookup_cons->Jz,length_append->JC,range_succ->JE,map_nil->JF,take_of_length_le->JH,map->JI,replicate_succ->JJ,length_nil->JP,ne_nil_of_mem->JW,pairwise_iff_getElem->Ka,take_succ->Kf,map_congr_left->Kl,map_map->Ko,any_cons->Kp,length_take->Kt,zip_cons_cons->Kw,filterMap_append->KC,foldl_cons->KG,flatten_cons->KL,append_assoc->KN
open List.Pairwise renaming filter->KP
open Nat renaming le_refl->Ic,lt_of_lt_of_le->IM,ne_of_lt->J6,le_trans->Jp,zero_le->JA,mod_two_eq_zero_or_one->K3,gcd->KA
open PyProof.Rows renaming IntsAre->JO,callWith_type1->JY
open PySem renaming wpAny_bind->cc,Value->HY,Shared->HZ,wpAny_pure->I0,wpAny->Im,sizeLine->Ir,wpAny_mono->Iw,starEach->Iz,model->IC,Program->IH,Params->IS,foldedSetIterable->IW,compareOp->IY,World->J5,mem_of_lookup->Ja,wpAny_newObj_type->Jc,Around->Jd,wpAny_loadPart'->Ji,cLine->Jq,DictEntry->Jt,bootBuiltins->Ju,wpAny_truthy_bool->JB,wpAny_holding->JD,backTo->JL,wpAny_standAt->JM,sysModules->JU,cellsFrom->JX,letOwnedTupleGo->K5,binaryOp->Kb,Spec->Kd,wpAny_typeNameOfWhole_keyiter->Ke,wpAny_callSpecial?_slot->Kg,NameKind->Kk,codeAny->Km,swapsWith->Ks,wpAny_call_entry->Ku,Scope->Kv,wpAny_passesOwn->KD,mainGlobals->KI,keywordEach->KJ,wpAny_pyIter_enum->KO,behindInMarks->KR,assignEach->KS,PyData->KU,assign->KW,wpAny_seqItems->KY,FuncData->L9,Paired->La,Builtin->Lb
open PySem.Challenge renaming pw_spotlook_k26_whole_lands_are_joined->IV
open PySem.F renaming slot_dict_keyiterator_next->JS,slot_tuple_iterator_next->Kz
open PySem.Heap renaming get?_push_of_some->Ib,get?_push_size->Ik,lt_size->Iy,get?_update_other->JG,SameBut->K0,size_push->K1,get?_update_self->Kc
open PySem.Heap.SameBut renaming update->K4
open PySem.NameKind renaming free->Kq
open PySem.PassesOwn renaming never->IG
open PySem.PyData renaming eqv->J0,eqvAll->Jo,canLayAll0->JK,depthAll->Kj,canLay0->KZ
open PySem.SeqAt renaming shaped->Jy,canLay_of_shaped->Kn
open PySem.Str renaming ofString->JQ
open PySem.Value renaming ref->Jx,none->JZ,bool->L5,type->L6
open PySem.W renaming Frag->H0,BT->IP,fnOf->JN
open Rat renaming intCast_mul->J4,intCast_sub->K6,intCast_add->Ki,mul_pos->Kr,div_def->L4
local macro_rules | `(↑$n:num) => `(nat_lit $n)
set_option Elab.async false
set_option linter.all false
set_option maxRecDepth 100000
set_option maxHeartbeats 4000000
theorem nbL{n m:Nat}(h:Nat.ble n m=LC):n<=m:=Nat.le_of_ble_eq_true h
namespace L2
open PySem PySem.Spec PyProof.Rows
abbrev Key:=Sum Int Str
def nL:Key->HY->Bool
 |.inl k,v=>Value.isInt k v
 |.inr x,v=>Value.isStrOf x v
def Hh(w:J5):Key->Int
 |.inl k=>hashInt k
 |.inr x=>hashStr w x
theorem bO:∀{k:Key} {v:HY},nL k v=LC->(∃i t,k=Sum.inl i/\v=Value.int i t)\/(∃x t,k=Sum.inr x/\v=Value.str x t)
 |.inl i,v,h=>by
  obtain⟨t,e⟩:=Value.isInt_shape (k:=i) (v:=v) h
  exact .inl ⟨i,t,rfl,e⟩
 |.inr x,v,h=>by
  obtain⟨t,e⟩:=Value.isStrOf_shape (x:=x) (v:=v) h
  exact .inr ⟨x,t,rfl,e⟩
theorem vz(i:Int)(t:Tok):nL (.inl i) (.int i t)=LC:=by simp[nL,Value.isInt]
theorem vO(x:Str)(t:Tok):nL (.inr x) (.str x t)=LC:=by simp[nL,Value.isStrOf]
theorem Dc(a b:Int):decide ((Sum.inl a:Key)=Sum.inl b)=(a==b):=by
 by_cases e:a=b
 ·subst e;simp
 ·have h:¬(Sum.inl a:Key)=Sum.inl b:=fun q=>e (Sum.inl.inj q);rw[LH h];exact(beq_eq_false_iff_ne.mpr e).symm
theorem C0(a b:Str):decide ((Sum.inr a:Key)=Sum.inr b)=decide (a=b):=by
 by_cases e:a=b
 ·subst e;simp
 ·have h:¬(Sum.inr a:Key)=Sum.inr b:=fun q=>e (Sum.inr.inj q);rw[LH h,LH e]
theorem CL(a:Int)(b:Str):decide ((Sum.inl a:Key)=Sum.inr b)=LD:=LH (fun q=>nomatch q)
theorem Eg(a:Str)(b:Int):decide ((Sum.inr a:Key)=Sum.inl b)=LD:=LH (fun q=>nomatch q)
def b7(prog:IH)(w:J5):PySem.KeyKind prog w Key where
 is:=nL
 hash:=Hh w
 inj:=fun v a b f d=>by
  rcases bO f with⟨i,t,rfl,rfl⟩|⟨x,t,rfl,rfl⟩
  ·rcases bO d with⟨j,u,rfl,e⟩|⟨y,u,rfl,e⟩
   ·injection e with e1 _;rw[e1]
   ·exact nomatch e
  ·rcases bO d with⟨j,u,rfl,e⟩|⟨y,u,rfl,e⟩
   ·exact nomatch e
   ·injection e with e1 _;rw[e1]
 byValue:=fun k v h=>by
  rcases bO h with⟨i,t,rfl,rfl⟩|⟨x,t,rfl,rfl⟩<;>rfl
 pyHash:=fun c h=>by
  rcases bO c with⟨i,t,rfl,rfl⟩|⟨x,t,rfl,rfl⟩
  ·exact wpAny_pyHash_int h
  ·exact wpAny_pyHash_str h
 eqBool:=fun g c h=>by
  rcases bO g with⟨i,t,rfl,rfl⟩|⟨x,t,rfl,rfl⟩
  ·rcases bO c with⟨j,u,rfl,rfl⟩|⟨y,u,rfl,rfl⟩
   ·rw[Dc]at h;exact wpAny_eqBool_int h
   ·rw[CL]at h;exact SeqAt.EqAt.int_str i t y u _ _ _ _ h
  ·rcases bO c with⟨j,u,rfl,rfl⟩|⟨y,u,rfl,rfl⟩
   ·rw[Eg]at h;exact SeqAt.EqAt.str_int x t j u _ _ _ _ h
   ·rw[C0]at h;exact wpAny_eqBool_str h
 «strs»:=fun k x t v h=>by
  rcases bO h with⟨i,u,rfl,e⟩|⟨y,u,rfl,e⟩
  ·exact nomatch e
  ·injection e with e1 _
   subst e1
   cases v<;>rfl
theorem qE(prog:IH)(w:J5)(i:Int)(t:Tok):(b7 prog w).is (.inl i) (.int i t)=LC:=vz i t
theorem qA(prog:IH)(w:J5)(x:Str)(t:Tok):(b7 prog w).is (.inr x) (.str x t)=LC:=vO x t
inductive V where
 |non|bl (b:Bool)|int (i:Int)|str (x:Str)|byt (b:Array UInt8)|flt (b:UInt64)|ref (a:Addr)|ty (n:String)
 deriving DecidableEq
def RelV:V->HY->Prop
 |.non,u=>u=JZ
 |.bl b,u=>u=L5 b
 |.int i,u=>∃t,u=Value.int i t
 |.str x,u=>∃t,u=Value.str x t
 |.byt b,u=>∃t,u=Value.bytes b t
 |.flt b,u=>∃t,u=Value.float b t
 |.ref a,u=>u=Jx a
 |.ty n,u=>u=L6 n
abbrev Vals:List V->List HY->Prop:=La RelV
theorem Vals.length{xs:List V}{us:List HY}(r:Vals xs us):xs.length=us.length:=Paired.length r
theorem Vals.get:∀{xs:List V} {us:List HY} {i:Nat} {x:V},Vals xs us->xs[i]?=LA x->∃u,us[i]?=LA u/\RelV x u
 |_,_,_,_,.nil,e=>by simp at e
 |_,_,0,_,.cons r _,e=>by simp at e;subst e;exact⟨_,rfl,r⟩
 |_,_,i+1,x,.cons _ t,e=>by
  obtain⟨u,a,b⟩:=Vals.get (i:=i) (x:=x) t (by simpa using e)
  exact⟨u,by simpa using a,b⟩
theorem Vals.set{x:V}{u:HY}(r:RelV x u):∀{xs:List V} {us:List HY} (i:Nat),Vals xs us->Vals (xs.set i x) (us.set i u)
 |_,_,_,.nil=>.nil
 |_,_,0,.cons _ t=>.cons r t
 |_,_,i+1,.cons q t=>.cons q (Vals.set r i t)
theorem Vals.append:∀{xs a:List V} {us ws:List HY},Vals xs us->Vals a ws->Vals (xs++a) (us++ws):=by
 intro xs a us ws h s
 induction h with
 |nil=>exact s
 |cons r t b=>exact .cons r b
theorem Vals.take:∀{xs:List V} {us:List HY} (n:Nat),Vals xs us->Vals (xs.take n) (us.take n)
 |_,_,0,_=>.nil
 |_,_,_+1,.nil=>.nil
 |_,_,n+1,.cons r t=>.cons r (Vals.take n t)
theorem Vals.drop:∀{xs:List V} {us:List HY} (n:Nat),Vals xs us->Vals (xs.drop n) (us.drop n)
 |_,_,0,r=>r
 |_,_,_+1,.nil=>.nil
 |_,_,n+1,.cons _ t=>Vals.drop n t
def vf:Option V->Option HY->Prop
 |some v,LA u=>RelV v u
 |none,LB=>True
 |_,_=>False
def KV{a:Type}:List (a×V)->List (a×HY)->Prop:=La fun(p:a×V) (q:a×HY)=>p.1=q.1/\RelV p.2 q.2
def kV:Key->V
 |.inl i=>.int i
 |.inr x=>.str x
inductive HO where
 |lst (xs:List V)
 |tup (xs:List V)
 |dK (kvs:List (Key×V))|dT (kvs:List (List Key×V))
 |set (S:Int->Bool) (n:Nat)
 |ins (C dx:Addr) (fs:List (Str×V))
 |own (x:Addr)
 |xd (fs:List (Str×V))
 |met (f x:Addr)
 |rng (lo hi:Int)
 |frz (o:Obj) (u:HO)
 |tbl (ps:Array HY)
 |ext (φ:Heap->Prop)
abbrev Hp:=Addr->Option HO
def upd(H:Hp)(a:Addr)(o:HO):Hp:=fun b=>if b=a then LA o else H b
theorem aZ{H:Hp}{a:Addr}{o:HO}:upd H a o a=LA o:=by unfold upd;rw[LG rfl]
theorem aT{H:Hp}{a b:Addr}{o:HO}(h:b≠a):upd H a o b=H b:=by unfold upd;rw[LF h]
theorem Gb{H:Hp}{a b:Addr}{o u:HO}(h:H a=LA o)(h':H b=LA u)(d:o≠u):a≠b:=by intro e;subst e;rw[h]at h';exact d (Option.some.inj h')
theorem dX{H:Hp}{a b:Addr}{o:HO}(h:H a=LA o)(h':H b=LB):a≠b:=by intro e;subst e;rw[h]at h';cases h'
section
variable(P:IH)(w:J5)
def NoD(h:Heap)(a:Addr):Prop:=∃o,h.get? a=LA o/\o.dict=LB
theorem NoD.new(h:Heap)(u:Array HY):NoD (h.push { cls:=.type "tuple",data:=.seq u }) h.objs.size:=⟨_,Ik _ rfl,rfl⟩
def cF(H:Hp)(h:Heap)(a:Addr):HO->Prop
 |.lst xs=>xs.length<=Ir/\∃(b:List HY) (n:Nat),Vals xs b/\h.get? a=LA { cls:=.type "list",data:=.seq b.toArray n }
 |.tup xs=>xs.length<=Ir/\∃b:List HY,Vals xs b/\IsTup h a b.toArray/\NoD h a
 |.dK kvs=>kvs.length<=Ir/\(a==JU)=LD/\∃vs,KV kvs vs/\h.DictOf (b7 P w) a vs
 |.dT kvs=>kvs.length<=Ir/\(a==JU)=LD/\∃xs:List (List Key×Addr×HY),
  La (fun(p:List Key×V) (q:List Key×Addr×HY)=>p.1=q.1/\H q.2.1=LA (.tup (p.1.map kV))/\RelV p.2 q.2.2) kvs xs/\
  ∃o g k,h.get? a=LA o/\o.ExactDict/\o.data=.dict g k/\g.toList=xs.map (entryOfKey (tupleKind (b7 P w)))/\(xs.map (·.1)).Nodup
 |.set S n=>h.SetOf (intKind P w) a S n
 |.ins C d fs=>H d=LA (.own a)/\fs.length<=1000/\d≠a/\h.get? a=LA (PySem.W.instObj C d)/\
  ∃c,h.Ns1 d c/\(∀f,vf (fs.lookup f) (c f))/\PySem.Within c (fs.map (·.1))
 |.own _=>∃o,h.get? a=LA o
 |.xd fs=>∃c,h.Ns1 a c/\∀f,vf (fs.lookup f) (c f)
 |.rng l m=>∃t u v,h.get? a=LA { cls:=.type "range",data:=.fields #[.int l t,.int m u,.int 1 v] }
 |.frz o u=>h.get? a=LA o/\cF H h a u
 |.tbl ps=>h.get? a=LA { cls:=.none,data:=.fields ps }
 |.met f x=>h.get? a=LA (PySem.W.methodObj (.ref f) (.ref x))
 |.ext e=>e h/\(∃o,h.get? a=LA o)/\∀i j:Heap,e i->(∀o,i.get? a=LA o->j.get? a=LA o)->e j
def HOk(H:Hp)(h:Heap):Prop:=∀a o,H a=LA o->cF P w H h a o
end
section
variable{P:IH}{w:J5}{H H':Hp}{h h':Heap}{a:Addr}{o:HO}
theorem cF.lt(x:cF P w H h a o):a<h.objs.size:=by
 cases o with
 |lst xs=>obtain⟨_,_,_,_,e⟩:=x;exact Iy e
 |tup xs=>obtain⟨_,_,_,p,_⟩:=x;exact p.lt
 |dK kvs=>obtain⟨_,_,_,_,o,_,_,e,_⟩:=x;exact Iy e
 |dT kvs=>obtain⟨_,_,_,_,o,_,_,e,_⟩:=x;exact Iy e
 |set S n=>obtain⟨o,_,_,_,e,_⟩:=x;exact Iy e
 |ins C b fs=>obtain⟨_,_,_,e,_⟩:=x;exact Iy e
 |own y=>obtain⟨_,e⟩:=x;exact Iy e
 |xd fs=>obtain⟨_,⟨_,_,_,e,_⟩,_⟩:=x;exact Iy e
 |rng c d=>obtain⟨_,_,_,e⟩:=x;exact Iy e
 |frz g u=>obtain⟨e,_⟩:=x;exact Iy e
 |tbl ps=>exact Iy (show h.get? a=LA _ from x)
 |met f y=>exact Iy (show h.get? a=LA _ from x)
 |ext i=>obtain⟨_,⟨_,e⟩,_⟩:=x;exact Iy e
theorem Paired.E4{c d:Type}{F G:c->d->Prop}:∀{l₁:List c} {l₂:List d},La F l₁ l₂->(∀a b,F a b->G a b)->La G l₁ l₂:=by
 intro l₁ l₂ h f
 induction h with
 |nil=>exact .nil
 |cons r t e=>exact .cons (f _ _ r) e
theorem cF.iD(x:cF P w H h a o)(k:∀b u,(b=a\/H b=LA (.own a))->h.get? b=LA u->h'.get? b=LA u) (s:∀b,H b=LA (.own a)->H' b=LA (.own a)) (A:∀b xs,H b=LA (.tup xs)->H' b=LA (.tup xs)):cF P w H' h' a o:=by
 induction o with
 |lst xs=>obtain⟨z,l,n,r,e⟩:=x;exact⟨z,l,n,r,k _ _ (.inl rfl) e⟩
 |tup xs=>obtain⟨z,l,r,⟨g,e,c⟩,B,e2,D⟩:=x;exact⟨z,l,r,⟨g,k _ _ (.inl rfl) e,c⟩,B,k _ _ (.inl rfl) e2,D⟩
 |dK kvs=>obtain⟨z,y,vs,r,g,i,j,e,c⟩:=x;exact⟨z,y,vs,r,g,i,j,k _ _ (.inl rfl) e,c⟩
 |dT kvs=>
  obtain⟨z,y,xs,r,g,i,j,e,c⟩:=x
  exact⟨z,y,xs,Paired.E4 r fun p q z=>⟨z.1,A _ _ z.2.1,z.2.2⟩,g,i,j,k _ _ (.inl rfl) e,c⟩
 |set S n=>obtain⟨g,i,j,t,e,c⟩:=x;exact⟨g,i,j,t,k _ _ (.inl rfl) e,c⟩
 |ins C F fs=>
  obtain⟨d,z,ne,e,m,⟨od,i,j,e2,c⟩,r⟩:=x
  exact⟨s _ d,z,ne,k _ _ (.inl rfl) e,m,⟨od,i,j,k _ _ (.inr d) e2,c⟩,r⟩
 |own y=>obtain⟨g,e⟩:=x;exact⟨g,k _ _ (.inl rfl) e⟩
 |xd fs=>obtain⟨m,⟨od,i,j,e,c⟩,r⟩:=x;exact⟨m,⟨od,i,j,k _ _ (.inl rfl) e,c⟩,r⟩
 |rng G I=>obtain⟨t,u,v,e⟩:=x;exact⟨t,u,v,k _ _ (.inl rfl) e⟩
 |frz g u E=>obtain⟨e,q⟩:=x;exact⟨k _ _ (.inl rfl) e,E q⟩
 |tbl ps=>
  have e:h.get? a=LA { cls:=.none,data:=.fields ps }:=x
  show h'.get? a=LA { cls:=.none,data:=.fields ps }
  exact k a _ (.inl rfl) e
 |met f y=>
  have e:h.get? a=LA (PySem.W.methodObj (.ref f) (.ref y)):=x
  show h'.get? a=LA (PySem.W.methodObj (.ref f) (.ref y))
  exact k a _ (.inl rfl) e
 |ext J=>obtain⟨p,⟨o,e⟩,st⟩:=x;exact⟨st _ _ p fun o q=>k _ _ (.inl rfl) q,⟨o,k _ _ (.inl rfl) e⟩,st⟩
theorem HOk.lt(x:HOk P w H h)(e:H a=LA o):a<h.objs.size:=(x a o e).lt
theorem HOk.fresh(x:HOk P w H h)(e:h.objs.size<=a):H a=LB:=by
 cases q:H a with
 |none=>rfl
 |some u=>exact absurd (IM (x.lt q) e) (Nat.lt_irrefl _)
theorem HOk.kept(x:HOk P w H h)(k:∀b u,h.get? b=LA u->h'.get? b=LA u):HOk P w H h':=fun a o e=>(x a o e).iD (fun b u _ q=>k b u q) (fun _ q=>q) fun _ _ q=>q
theorem HOk.laid(x:HOk P w H h)(k:∀b u,h.get? b=LA u->h'.get? b=LA u)(g:h.objs.size<=a)(new:cF P w (upd H a o) h' a o):HOk P w (upd H a o) h':=fun b u e=>by
 have d:=x.fresh g;by_cases f:b=a
 ·subst f;rw[aZ]at e;cases e;exact new
 ·rw[aT f]at e;exact(x b u e).iD (fun c v _ q=>k c v q) (fun c q=>by rw[aT (dX q d)];exact q) fun c xs q=>by rw[aT (dX q d)];exact q
end
def Rd(H:Hp)(a:Addr)(u:HO):Prop:=H a=LA u\/∃o,H a=LA (.frz o u)
theorem Rd.ok{P:IH}{w:J5}{H:Hp}{h:Heap}{a:Addr}{u:HO}(r:Rd H a u)(x:HOk P w H h):cF P w H h a u:=by
 rcases r with r|⟨o,r⟩
 ·exact x a u r
 ·obtain⟨_,q⟩:=x a _ r;exact q
def Mut:Option HO->Prop
 |some (.lst _)=>True
 |some (.dK _)=>True
 |some (.dT _)=>True
 |some (.set _ _)=>True
 |some (.ins _ _ _)=>True
 |some (.ext _)=>True
 |_=>False
section
variable{P:IH}{w:J5}{H:Hp}{h h':Heap}{x e:Addr}{o':HO}
theorem HOk.write(ok:HOk P w H h)(g:Mut (H x))(m:e=x\/H e=LA (.own x))(k:∀b u,b≠e->h.get? b=LA u->h'.get? b=LA u)(l:∃u,h'.get? e=LA u)
 (new:cF P w (upd H x o') h' x o'):HOk P w (upd H x o') h':=fun b u q=>by
 have d:∀c y,H c=LA (.own y)->c≠x:=fun c y r z=>by subst z;rw[r]at g;exact g
 have f:∀c xs,H c=LA (.tup xs)->c≠x:=fun c xs r z=>by subst z;rw[r]at g;exact g
 by_cases i:b=x
 ·subst i;rw[aZ]at q;cases q;exact new
 ·rw[aT i]at q
  by_cases a:b=e
  ·have n:H b=LA (.own x):=by
    rcases m with z|z
    ·exact absurd (a.trans z) i
    ·rw[a];exact z
   rw[q]at n;cases n
   obtain⟨v,o⟩:=l
   exact⟨v,by rw[a];exact o⟩
  ·refine(ok b u q).iD (fun c v j r=>k c v ?_ r) (fun c r=>by rw[aT (d c b r)];exact r) fun c xs r=>by rw[aT (f c xs r)];exact r
   rcases j with rfl|j
   ·exact a
   ·rintro rfl
    rcases m with z|z
    ·exact d c b j z
    ·rw[j]at z;cases z;exact i rfl
end
structure Un(fs ex:List Addr)(H H':Hp)(h h':Heap):Prop where
 keep:∀b o,h.get? b=LA o->H b=LB->b∉fs->b∉ex->h'.get? b=LA o
 slot:∀b o,h.get? b=LA o->H b=LB->b∈fs->b∉ex->∃sl,h'.get? b=LA { o with slots:=sl }
 free:∀b o,h.get? b=LA o->H b=LB->b∉ex->H' b=LB
 there:∀b o,h.get? b=LA o->b∉ex->∃o',h'.get? b=LA o'
 tups:∀b xs,H b=LA (.tup xs)->H' b=LA (.tup xs)
 frzs:∀b o u,H b=LA (.frz o u)->H' b=LA (.frz o u)
 tbls:∀b ps,H b=LA (.tbl ps)->∃more,H' b=LA (.tbl (ps++more))
section
variable{fs LM ex LN:List Addr}{H H1 H2:Hp}{h h1 h2 h':Heap}{a x e:Addr}{o:HO}
theorem Un.any(u:Un fs ex H H1 h h1){b:Addr}{c:Obj}(q:h.get? b=LA c)(n:H b=LB)(d:b∉ex):∃g,h1.get? b=LA { c with slots:=g }:=by
 by_cases f:b∈fs
 ·exact u.slot b c q n f d
 ·exact⟨c.slots,u.keep b c q n f d⟩
theorem Un.kept(k:∀b u,h.get? b=LA u->h'.get? b=LA u):Un fs ex H H h h':=⟨fun b c q _ _ _=>k b c q,fun b c q _ _ _=>⟨c.slots,k b c q⟩,fun _ _ _ n _=>n,fun b c q _=>⟨c,k b c q⟩,fun _ _ q=>q,fun _ _ _ q=>q,fun _ ps q=>⟨#[],by rw[q];simp⟩⟩
theorem Un.refl:Un fs ex H H h h:=Un.kept fun _ _ q=>q
theorem Un.laid(k:∀b u,h.get? b=LA u->h'.get? b=LA u)(d:h.objs.size<=a)(c:H a=LB):Un fs ex H (upd H a o) h h' where
 keep:=fun b u q _ _ _=>k b u q
 slot:=fun b u q _ _ _=>⟨u.slots,k b u q⟩
 free:=fun b u q n _=>by rw[aT (J6 (IM (Iy q) d))];exact n
 there:=fun b u q _=>⟨u,k b u q⟩
 tups:=fun b xs q=>by rw[aT (dX q c)];exact q
 frzs:=fun b u xs q=>by rw[aT (dX q c)];exact q
 tbls:=fun b ps q=>⟨#[],by rw[aT (dX q c),q];simp⟩
theorem Un.write(d:Mut (H x))(l:e=x\/H e=LA (.own x))(k:∀b u,b≠e->h.get? b=LA u->h'.get? b=LA u)(f:∃u,h'.get? e=LA u):Un fs ex H (upd H x o) h h':=by
 have i:∀b,H b=LB->b≠x:=fun b n z=>by subst z;rw[n]at d;exact d
 have j:∀b,H b=LB->b≠e:=fun b n z=>by
  subst z;rcases l with r|r
  ·exact i b n r
  ·rw[n]at r;cases r
 have g:∀b u,H b=LA u->¬Mut (LA u)->b≠x:=fun b u q m z=>by subst z;rw[q]at d;exact m d
 refine⟨fun b u q n _ _=>k b u (j b n) q,fun b u q n _ _=>⟨u.slots,k b u (j b n) q⟩,fun b u q n _=>by rw[aT (i b n)];exact n,fun b u q _=>?_,fun b xs q=>by rw[aT (g b _ q fun z=>z)];exact q,fun b u xs q=>by rw[aT (g b _ q fun z=>z)];exact q,fun b ps q=>⟨#[],by rw[aT (g b _ q fun z=>z),q];simp⟩⟩;by_cases c:b=e
 ·subst c;exact f
 ·exact⟨u,k b u c q⟩
end
def trk(h:Heap)(H:Hp):List Addr:=(Iv h.objs.size).filter fun a=>(H a).isSome
def oB(h:Heap)(H:Hp):Heap:=PySem.W.hideAll h (trk h H)
theorem vE(h:Heap)(H:Hp):(oB h H).objs.size=h.objs.size:=PySem.W.hideAll_size _ _
theorem yB{h:Heap}{H:Hp}{b:Addr}{o:Obj}(e:h.get? b=LA o)(n:H b=LB):(oB h H).get? b=LA o:=
 PySem.W.hideAll_get _ e fun a=>by
  have q:(H b).isSome=LC:=(IJ.mp a).2
  rw[n]at q;simp at q
theorem AW{h:Heap}{H:Hp}{b:Addr}{o:Obj}(e:(oB h H).get? b=LA o):h.get? b=LA o/\H b=LB:=by
 have a:h.get? b=LA o:=PySem.W.of_hideAll (trk h H) e;refine⟨a,?_⟩;cases q:H b with
 |none=>rfl
 |some x=>
  have c:b∈trk h H:=IJ.mpr ⟨IZ.mpr (Iy a),by simp[q]⟩
  have z:(oB h H).get? b=LB:=PySem.W.hideAll_none (trk h H) c
  rw[z]at e;cases e
structure Mod(K:H0)(mg:Str->Option HY)(base:Heap):Prop where
 kin:K.In base
 glob:base.Ns KI mg
 blt:∃mb,base.Ns builtinsNs mb/\∀x:Str,x≠"__name__"->mb x=Ju x
 nolimit:base.NoLimit
structure Cx where
 prog:IH
 w:J5
 K:H0
 mg:Str->Option HY
 base:Heap
 A:Jd
 N:List Str
 s₀:HZ
 H₀:Hp
 env:Env
 outer:List Env
 stack:List Env
 ex:List Addr
 fn:Str->Bool
 calm:Bool
 pn:List (Addr×Obj)
 xe:HY->HZ->Prop
def frs(l:List Env):List Addr:=l.filterMap (·.frame)
abbrev Cx.fs(X:Cx):List Addr:=frs X.outer
def Vis(sc:Kv)(x:Str):Prop:=sc.names.lookup x=LA .local\/sc.names.lookup x=LA .cell\/sc.names.lookup x=LA .free
def Loc(sc:Kv)(x:Str):Prop:=sc.names.lookup x=LA .local\/sc.names.lookup x=LA .cell
def Look(env:Env)(h:Heap)(m:Str->Option HY)(x:Str)(u:HY):Prop:=
 (env.kindOf x=LA .local/\m x=LA u)\/((env.kindOf x=LA .cell\/env.kindOf x=LA .free)/\∃c,env.cells.lookup x=LA c/\h.IsCell c (LA u))
structure Cx.Ok(X:Cx):Prop where
 mod:Mod X.K X.mg X.base
 kind:X.env.scope.kind=.function
 glob:X.env.globals=KI
 blt:X.env.builtins=builtinsNs
 above:X.s₀.heap.objs.size<=X.env.locals
 inj:∀x y c,X.env.cells.lookup x=LA c->X.env.cells.lookup y=LA c->x=y
 has:∀x,(X.env.kindOf x=LA .cell\/X.env.kindOf x=LA .free)->∃c,X.env.cells.lookup x=LA c
 cab:∀x c,X.fn x=LC->X.env.cells.lookup x=LA c->X.s₀.heap.objs.size<=c
 hd:X.calm=LC->X.A.handled=LB
 frames:X.A.frames=LA X.stack
 stk:X.stack=X.outer\/(X.stack=X.env::X.outer/\X.env.frame=LA X.env.locals)
 exf:∀b∈X.ex,b≠X.env.locals/\∀x c,X.env.cells.lookup x=LA c->c≠b
 bs:∀b o,X.base.get? b=LA o->X.s₀.heap.get? b=LA o/\X.H₀ b=LB
 bsz:X.base.objs.size<=X.s₀.heap.objs.size
 noex:∀b o,X.base.get? b=LA o->b∉X.ex
 exfs:∀b∈X.ex,b∉X.fs
 mD:X.s₀.heap.FunFrames X.base X.outer
 frf:∀b∈X.fs,X.H₀ b=LB
structure Inv(X:Cx)(pins:List (Addr×Obj))(σ:List (Option V))(H:Hp)(s:HZ):Prop where
 ok:X.Ok
 os:s.os=X.s₀.os
 bare:AllBare s.gens
 base:Un X.fs X.ex X.H₀ H X.s₀.heap s.heap
 loc:∃m,s.heap.Ns X.env.locals m/\∀(i:Nat) (x:Str) (v:V),X.N[i]?=LA x->σ[i]?=LA (LA v)->Vis X.env.scope x->∃u,RelV v u/\Look X.env s.heap m x u
 cell:∀x c,X.env.cells.lookup x=LA c->∃v,s.heap.IsCell c v
 free:H X.env.locals=LB
 freeC:∀x c,X.env.cells.lookup x=LA c->H c=LB
 pin:∀p∈X.pn++pins,s.heap.get? p.1=LA p.2/\H p.1=LB/\p.1≠X.env.locals/\p.1∉X.fs/\∀v,p.2.data≠.cell v
 hok:HOk X.prog X.w H s.heap
 len:σ.length=X.N.length
section
variable{X:Cx}{pins:List (Addr×Obj)}{σ:List (Option V)}{H H':Hp}{s:HZ}{h':Heap}
theorem Cx.Ok.Hy(ok:X.Ok){b:Addr}{o:Obj}(e:X.base.get? b=LA o):b∉X.fs:=fun a=>by have:=(ok.mD.mem a).1;rw[e]at this;cases this
theorem Inv.bs(I:Inv X pins σ H s):∀b o,X.base.get? b=LA o->s.heap.get? b=LA o/\H b=LB:=fun b o e=>⟨I.base.keep b o (I.ok.bs b o e).1 (I.ok.bs b o e).2 (I.ok.Hy e) (I.ok.noex b o e),I.base.free b o (I.ok.bs b o e).1 (I.ok.bs b o e).2 (I.ok.noex b o e)⟩
theorem Inv.bk(I:Inv X pins σ H s):∀b o,X.base.get? b=LA o->s.heap.get? b=LA o:=fun b o e=>(I.bs b o e).1
theorem Inv.mod(I:Inv X pins σ H s):Mod X.K X.mg X.base:=I.ok.mod
theorem Inv.kIn(I:Inv X pins σ H s):X.K.In s.heap:=I.ok.mod.kin.keeps I.bk
theorem Inv.lt(I:Inv X pins σ H s):X.env.locals<s.heap.objs.size:=let⟨_,a,_⟩:=I.loc;a.lt
theorem Inv.sz(I:Inv X pins σ H s):X.s₀.heap.objs.size<=s.heap.objs.size:=Jp I.ok.above (Nat.le_of_lt I.lt)
theorem Inv.G7(I:Inv X pins σ H s){a:Addr}(h:s.heap.objs.size<=a):a∉X.fs:=fun b=>by obtain⟨_,o,c,_⟩:=I.ok.mD.mem b;exact absurd (IM (Iy c) (Jp I.sz h)) (Nat.lt_irrefl _)
theorem Inv.cne(I:Inv X pins σ H s):∀x c,X.env.cells.lookup x=LA c->c≠X.env.locals:=fun x c e z=>by obtain⟨v,o,d,hd⟩:=I.cell x c e;obtain⟨m,⟨f,g,h,a,b,_⟩,_⟩:=I.loc;rw[z,a]at d;cases d;rw[b]at hd;cases hd
theorem Inv.mD(I:Inv X pins σ H s):s.heap.FunFrames X.base X.outer:=by
 have all:∀(l:List Env),(∀b∈frs l,b∈X.fs)->X.s₀.heap.FunFrames X.base l->s.heap.FunFrames X.base l:=by
  intro l
  induction l with
  |nil=>intro _ _;trivial
  |cons env r g=>
   intro f h
   obtain⟨i,⟨L,o,a,j,k,hd⟩,m⟩:=h
   have c:L∈X.fs:=f L (by unfold frs;rw[List.filterMap_cons,a];exact Js)
   obtain⟨n,e⟩:=I.base.slot L o k (I.ok.frf L c) c fun z=>I.ok.exfs L z c
   exact⟨i,⟨L,_,a,j,e,hd⟩,g (fun b d=>f b (by unfold frs;rw[List.filterMap_cons,a];exact Jb _ d)) m⟩
 exact all X.outer (fun _ d=>d) I.ok.mD
theorem Inv.stack(I:Inv X pins σ H s):s.heap.FunFrames X.base X.stack:=by
 rcases I.ok.stk with e|⟨e,a⟩
 ·rw[e];exact I.mD
 ·rw[e];obtain⟨m,b,_⟩:=I.loc;refine .cons (by rw[I.ok.kind];decide) a b ?_ I.mD;exact Heap.get?_none_of_le (Jp I.ok.bsz I.ok.above)
theorem Inv.tU(I:Inv X pins σ H s):∀b∈frs X.stack,b∈X.env.locals::X.fs:=fun b a=>by
 rcases I.ok.stk with e|⟨e,c⟩
 ·rw[e]at a;exact Jb _ a
 ·rw[e]at a;unfold frs at a;rw[List.filterMap_cons,c]at a;exact a
theorem Inv.uO(I:Inv X pins σ H s):∀b∈frs X.stack,H b=LB:=fun b a=>by
 rcases J3.mp (I.tU b a)with e|a
 ·rw[e];exact I.free
 ·obtain⟨_,o,c,_⟩:=I.ok.mD.mem a;exact I.base.free b o c (I.ok.frf b a) fun z=>I.ok.exfs b z a
theorem Inv.step{g':Array GenState}{t':Nat}{d':Drawn}{ch:List Addr}(I:Inv X pins σ H s)
 (f:∀b∈ch,(b∈X.ex\/X.s₀.heap.objs.size<=b)/\b≠X.env.locals/\(∀x c,X.env.cells.lookup x=LA c->c≠b)/\∀p∈X.pn++pins,p.1≠b)
 (keep:∀b o,b≠X.env.locals->b∉X.fs->b∉ch->s.heap.get? b=LA o->H b=LB->h'.get? b=LA o)
 (slot:∀b o,b≠X.env.locals->b∈X.fs->b∉ch->s.heap.get? b=LA o->H b=LB->∃C,h'.get? b=LA { o with slots:=C }) (free:∀b o,b∉ch->s.heap.get? b=LA o->H b=LB->H' b=LB)
 (there:∀b o,b∉ch->s.heap.get? b=LA o->∃o',h'.get? b=LA o')
 (tups:∀b xs,H b=LA (.tup xs)->H' b=LA (.tup xs)) (frzs:∀b o u,H b=LA (.frz o u)->H' b=LA (.frz o u)) (tbls:∀b ps,H b=LA (.tbl ps)->∃more,H' b=LA (.tbl (ps++more)))
 (ns:∀m,s.heap.Ns X.env.locals m->h'.Ns X.env.locals m) (hok:HOk X.prog X.w H' h') (J:AllBare g') :
 Inv X pins σ H' { s with heap:=h',gens:=g',drawn:=d',toks:=t' }:=by
 have B:∀b o,X.s₀.heap.get? b=LA o->b≠X.env.locals:=fun b o e=>J6 (IM (Iy e) I.ok.above)
 have j:∀b o,X.s₀.heap.get? b=LA o->b∉X.ex->b∉ch:=fun b o e a t=>by
  rcases(f b t).1 with z|z
  ·exact a z
  ·exact absurd (IM (Iy e) z) (Nat.lt_irrefl _)
 have g:∀x c,X.env.cells.lookup x=LA c->∀v,s.heap.IsCell c v->h'.IsCell c v:=fun x c e v y=>by
  obtain⟨o,A,hd⟩:=y
  have h:c∉ch:=fun z=>(f c z).2.2.1 x c e rfl
  by_cases E:c∈X.fs
  ·obtain⟨C,q⟩:=slot c o (I.cne x c e) E h A (I.freeC x c e)
   exact⟨_,q,hd⟩
  ·exact⟨o,keep c o (I.cne x c e) E h A (I.freeC x c e),hd⟩
 refine⟨I.ok,I.os,J,⟨fun b o e n t a=>?_,fun b o e n t a=>?_,fun b o e n a=>?_,fun b o e a=>?_,fun b xs e=>tups b xs (I.base.tups b xs e),fun b o xs e=>frzs b o xs (I.base.frzs b o xs e),fun b ps e=>?_⟩,?_,fun x c e=>?_,?_,fun x c e=>?_,fun p F=>?_,hok,I.len⟩
 ·exact keep b o (B b o e) t (j b o e a) (I.base.keep b o e n t a) (I.base.free b o e n a)
 ·obtain⟨C,e1⟩:=I.base.slot b o e n t a
  obtain⟨D,e2⟩:=slot b _ (B b o e) t (j b o e a) e1 (I.base.free b o e n a)
  exact⟨D,e2⟩
 ·obtain⟨o',e1⟩:=I.base.there b o e a
  exact free b o' (j b o e a) e1 (I.base.free b o e n a)
 ·obtain⟨o',e1⟩:=I.base.there b o e a
  exact there b o' (j b o e a) e1
 ·obtain⟨K,e1⟩:=I.base.tbls b ps e
  obtain⟨L,e2⟩:=tbls b _ e1
  exact⟨K++L,by rw[e2,Array.append_assoc]⟩
 ·obtain⟨m,M,N⟩:=I.loc
  refine⟨m,ns m M,fun i x v e1 e2 e3=>?_⟩
  obtain⟨u,r,l⟩:=N i x v e1 e2 e3
  refine⟨u,r,?_⟩
  rcases l with l|⟨k,c,e,z⟩
  ·exact .inl l
  ·exact .inr ⟨k,c,e,g x c e _ z⟩
 ·obtain⟨v,z⟩:=I.cell x c e
  exact⟨v,g x c e v z⟩
 ·obtain⟨m,⟨o,_,_,A,_⟩,_⟩:=I.loc
  exact free _ o (fun z=>(f _ z).2.1 rfl) A I.free
 ·obtain⟨v,o,A,hd⟩:=I.cell x c e
  exact free c o (fun z=>(f c z).2.2.1 x c e rfl) A (I.freeC x c e)
 ·obtain⟨e,n,ne,G,d⟩:=I.pin p F
  have h:p.1∉ch:=fun z=>(f p.1 z).2.2.2 p F rfl
  exact⟨keep p.1 p.2 ne G h e n,free p.1 p.2 h e n,ne,G,d⟩
theorem Inv.un{t':Nat}(I:Inv X pins σ H s)(u:Un X.fs [] H H' s.heap h')(hok:HOk X.prog X.w H' h'):Inv X pins σ H' { s with heap:=h',toks:=t' }:=by
 obtain⟨m,⟨o,k,l,g,r⟩,_⟩:=id I.loc;obtain⟨p,h⟩:=u.any g I.free (by simp)
 exact I.step (g':=s.gens) (d':=s.drawn) (ch:=[]) (fun _ z=>nomatch z) (fun b o _ c _ e n=>u.keep b o e n c (by simp)) (fun b o _ c _ e n=>u.slot b o e n c (by simp)) (fun b o _ e n=>u.free b o e n (by simp)) (fun b o _ e=>u.there b o e (by simp)) u.tups u.frzs u.tbls (fun q i=>by
  obtain⟨t,d,f,a,j⟩:=i
  rw[g]at a;cases a
  exact⟨_,d,f,h,j⟩) hok I.bare
theorem Inv.call{g':Array GenState}{t':Nat}{d':Drawn}{ch:List Addr}(I:Inv X pins σ H s)(u:Un (frs X.stack) ch H H' s.heap h')(hok:HOk X.prog X.w H' h')(k:AllBare g') (d:∀b∈ch,(b∈X.ex\/X.s₀.heap.objs.size<=b)/\b≠X.env.locals/\(∀x c,X.env.cells.lookup x=LA c->c≠b)/\∀p∈X.pn++pins,p.1≠b) : Inv X pins σ H' { s with heap:=h',gens:=g',drawn:=d',toks:=t' }:=by
 obtain⟨m,⟨o,v,y,j,r⟩,_⟩:=id I.loc;obtain⟨A,g⟩:=u.any j I.free fun z=>(d _ z).2.1 rfl
 exact I.step (ch:=ch) d (fun b o g l a e n=>u.keep b o e n (fun z=>(J3.mp (I.tU b z)).elim g l) a) (fun b o _ _ a e n=>u.any e n a) (fun b o a e n=>u.free b o e n a) (fun b o a e=>u.there b o e a) u.tups u.frzs u.tbls (fun B q=>by
  obtain⟨C,h,i,f,t⟩:=q
  rw[j]at f;cases f
  exact⟨_,h,i,g,t⟩) hok k
theorem Inv.turned{t':Nat}{it:Addr}(I:Inv X pins σ H s)(k:∀b o,b≠it->s.heap.get? b=LA o->h'.get? b=LA o)(g:H it=LB)(f:it≠X.env.locals)
 (h:it∈X.ex\/X.s₀.heap.objs.size<=it) (i:∀x c,X.env.cells.lookup x=LA c->c≠it) (j:∀p∈X.pn++pins,p.1≠it):Inv X pins σ H { s with heap:=h',toks:=t' }:=by
 have d:∀b u,H b=LA u->b≠it:=fun b u e z=>by rw[z,g]at e;cases e
 refine I.step (g':=s.gens) (d':=s.drawn) (ch:=[it]) (fun b l=>?_) (fun b o _ _ a e _=>k b o (fun z=>a (by simp[z])) e) (fun b o _ _ a e _=>⟨o.slots,k b o (fun z=>a (by simp[z])) e⟩) (fun _ _ _ _ n=>n)
  (fun b o a e=>⟨o,k b o (fun z=>a (by simp[z])) e⟩) (fun _ _ e=>e) (fun _ _ _ e=>e) (fun b ps e=>⟨#[],by rw[e];simp⟩) (fun m t=>?_) (fun b u e=>?_) I.bare
 ·have e:b=it:=by simpa using l
  subst e
  exact⟨h,f,i,j⟩
 ·obtain⟨o,w,y,A,r⟩:=t
  exact⟨o,w,y,k _ o (Ne.symm f) A,r⟩
 ·refine(I.hok b u e).iD (fun c v a q=>k c v ?_ q) (fun _ q=>q) fun _ _ q=>q
  rcases a with z|z
  ·rw[z];exact d b u e
  ·exact d c _ z
theorem Inv.tok(I:Inv X pins σ H s)(t:Nat):Inv X pins σ H { s with toks:=t }:=I.un (h':=s.heap) (t':=t) Un.refl I.hok
theorem Inv.kept{t':Nat}(I:Inv X pins σ H s)(k:∀b u,s.heap.get? b=LA u->h'.get? b=LA u):Inv X pins σ H { s with heap:=h',toks:=t' }:=I.un (Un.kept k) (I.hok.kept k)
theorem Inv.laid{a:Addr}{o:HO}{t':Nat}(I:Inv X pins σ H s)(k:∀b u,s.heap.get? b=LA u->h'.get? b=LA u)(c:s.heap.objs.size<=a)(new:cF X.prog X.w (upd H a o) h' a o) : Inv X pins σ (upd H a o) { s with heap:=h',toks:=t' }:=I.un (Un.laid k c (I.hok.fresh c)) (I.hok.laid k c new)
theorem Inv.write{x e:Addr}{o:HO}{t':Nat}(I:Inv X pins σ H s)(c:Mut (H x))(d:e=x\/H e=LA (.own x))(k:∀b u,b≠e->s.heap.get? b=LA u->h'.get? b=LA u)(a:∃u,h'.get? e=LA u) (new:cF X.prog X.w (upd H x o) h' x o):Inv X pins σ (upd H x o) { s with heap:=h',toks:=t' }:=I.un (Un.write c d k a) (I.hok.write c d k a new)
theorem Inv.uT{pins':List (Addr×Obj)}(I:Inv X pins σ H s)(h:∀p∈pins',s.heap.get? p.1=LA p.2/\H p.1=LB/\p.1≠X.env.locals/\p.1∉X.fs/\∀v,p.2.data≠.cell v):Inv X pins' σ H s:=⟨I.ok,I.os,I.bare,I.base,I.loc,I.cell,I.free,I.freeC,fun p a=>(IL.mp a).elim (fun z=>I.pin p (List.mem_append_left _ z)) (h p),I.hok,I.len⟩
theorem ra{N:List Str}(c:N.Nodup){i j:Nat}{x:Str}(a:N[i]?=LA x)(b:N[j]?=LA x):i=j:=by obtain⟨d,e1⟩:=Iu.mp a;obtain⟨e,e2⟩:=Iu.mp b;exact(List.getElem_inj c).mp (e1.trans e2.symm)
theorem jU{M:Model}{A:Jd}{E:HY->HZ->Prop}{i:Nat}{x:Str}{v:V}{u:HY}{Q:Unit->HZ->Prop}(I:Inv X pins σ H s)(hN:X.N.Nodup)(K:X.N[i]?=LA x)(t:Loc X.env.scope x)(r:RelV v u)
 (h:∀W,Inv X pins (σ.set i (LA v)) H W->(∃a,K0 a s.heap W.heap/\(a=X.env.locals\/X.env.cells.lookup x=LA a))->Q .unit W) (hf:X.fn x=LC\/X.env.scope.names.lookup x=LA .local:=by first|exact .inl rfl|exact .inr rfl|assumption):Im M A (storeName X.env x u) Q E s:=by
 obtain⟨m,Y,hl⟩:=id I.loc
 have L:(X.env.scope.kind==.class||(X.env.scope.kind==.module&&X.env.locals != X.env.globals))=LD:=by rw[I.ok.kind];rfl
 have C:i<σ.length:=by rw[I.len];exact(Iu.mp K).1
 have cne:=I.cne
 have g:∀{a:Addr} {h':Heap},(∃o,s.heap.get? a=LA o/\H a=LB)->K0 a s.heap h'->HOk X.prog X.w H h':=fun{a h'} ha f b ob e=>by
  obtain⟨_,_,B⟩:=ha
  refine(I.hok b ob e).iD (fun c T l q=>(f.2 c ?_).trans q) (fun _ q=>q) fun _ _ q=>q
  rintro rfl
  rcases l with rfl|l
  ·rw[B]at e;cases e
  ·rw[B]at l;cases l
 rcases t with D|D
 ·refine wpAny_storeName_local D Y (fun h' Z f=>?_) L
  obtain⟨oL,_,_,a0,_⟩:=id Y
  refine h _ ⟨I.ok,I.os,I.bare,⟨fun b o e n F t=>?_,fun b o e n F t=>?_,I.base.free,fun b o e t=>?_,I.base.tups,I.base.frzs,I.base.tbls⟩,⟨_,Z,fun j y v' e1 e2 e3=>?_⟩,fun y c e=>?_,I.free,I.freeC,fun p hp=>?_,g ⟨oL,a0,I.free⟩ f,by simpa using I.len⟩ ⟨_,f,.inl rfl⟩
  ·exact(f.2 b (J6 (IM (Iy e) I.ok.above))).trans (I.base.keep b o e n F t)
  ·obtain⟨sl,e1⟩:=I.base.slot b o e n F t
   exact⟨sl,(f.2 b (J6 (IM (Iy e) I.ok.above))).trans e1⟩
  ·obtain⟨o',e1⟩:=I.base.there b o e t
   exact⟨o',(f.2 b (J6 (IM (Iy e) I.ok.above))).trans e1⟩
  ·by_cases G:j=i
   ·subst G
    rw[K]at e1;cases e1
    rw[List.getElem?_set_self C]at e2
    cases e2
    exact⟨u,r,.inl ⟨D,by simp⟩⟩
   ·rw[List.getElem?_set_ne (Ne.symm G)]at e2
    obtain⟨u',r',q⟩:=hl j y v' e1 e2 e3
    refine⟨u',r',?_⟩
    rcases q with⟨k,e⟩|⟨k,c,e,z⟩
    ·refine .inl ⟨k,?_⟩
     have:y≠x:=fun e=>G (ra hN e1 (e▸K))
     simp[this,e]
    ·exact .inr ⟨k,c,e,z.sameBut f (cne y c e)⟩
  ·obtain⟨T,z⟩:=I.cell y c e
   exact⟨T,z.sameBut f (cne y c e)⟩
  ·obtain⟨e,n,ne,nf,d⟩:=I.pin p hp
   exact⟨(f.2 p.1 ne).trans e,n,ne,nf,d⟩
 ·have J:X.fn x=LC:=by
   rcases hf with z|z
   ·exact z
   ·rw[z]at D;cases D
  obtain⟨c,l⟩:=I.ok.has x (.inl D)
  obtain⟨T,z⟩:=I.cell x c l
  refine wpAny_storeName_cell I.ok.kind D l z (fun h' O f=>?_)
  obtain⟨oc,P,R⟩:=id z
  refine h { s with heap:=h' } ⟨I.ok,I.os,I.bare,⟨fun b o e n F t=>?_,fun b o e n F t=>?_,I.base.free,fun b o e t=>?_,I.base.tups,I.base.frzs,I.base.tbls⟩,⟨m,Y.sameBut f (Ne.symm (cne x c l)),fun j y v' e1 e2 e3=>?_⟩,fun y U e=>?_,I.free,I.freeC,fun p hp=>?_,g ⟨oc,P,I.freeC x c l⟩ f,by simpa using I.len⟩ ⟨c,f,.inr l⟩
  ·exact(f.2 b (J6 (IM (Iy e) (I.ok.cab x c J l)))).trans (I.base.keep b o e n F t)
  ·obtain⟨sl,e1⟩:=I.base.slot b o e n F t
   exact⟨sl,(f.2 b (J6 (IM (Iy e) (I.ok.cab x c J l)))).trans e1⟩
  ·obtain⟨o',e1⟩:=I.base.there b o e t
   exact⟨o',(f.2 b (J6 (IM (Iy e) (I.ok.cab x c J l)))).trans e1⟩
  ·by_cases G:j=i
   ·subst G
    rw[K]at e1;cases e1
    rw[List.getElem?_set_self C]at e2
    cases e2
    exact⟨u,r,.inr ⟨.inl D,c,l,O⟩⟩
   ·rw[List.getElem?_set_ne (Ne.symm G)]at e2
    obtain⟨u',r',q⟩:=hl j y v' e1 e2 e3
    refine⟨u',r',?_⟩
    rcases q with q|⟨k,U,e,z'⟩
    ·exact .inl q
    ·refine .inr ⟨k,U,e,z'.sameBut f ?_⟩
     rintro rfl
     exact G (ra hN e1 (I.ok.inj _ _ _ e l▸K))
  ·by_cases S:U=c
   ·subst S;exact⟨_,O⟩
   ·obtain⟨w2,z2⟩:=I.cell y U e
    exact⟨w2,z2.sameBut f S⟩
  ·obtain⟨e,n,ne,nf,d⟩:=I.pin p hp
   refine⟨(f.2 p.1 ?_).trans e,n,ne,nf,d⟩
   intro q
   rw[q,P]at e
   have q':oc=p.2:=Option.some.inj e
   exact d T (by rw[<-q'];exact R)
theorem gF{M:Model}{A:Jd}{E:HY->HZ->Prop}{i:Nat}{x:Str}{v:V}{u:HY}{Q:Unit->HZ->Prop}(I:Inv X pins σ H s)(b:X.N.Nodup)(c:X.N[i]?=LA x)(d:Loc X.env.scope x)(r:RelV v u) (h:∀a,Inv X pins (σ.set i (LA v)) H a->Q .unit a) (e:X.fn x=LC\/X.env.scope.names.lookup x=LA .local:=by first|exact .inl rfl|exact .inr rfl|assumption):Im M A (storeName X.env x u) Q E s:=jU I b c d r (fun a f _=>h a f) e
theorem Inv.xg{a:HZ}{ch:List Addr}(I:Inv X pins σ H s)(f:a.os=s.os)(u:Un (frs X.stack) ch H H' s.heap a.heap)(hok:HOk X.prog X.w H' a.heap)(g:AllBare a.gens)
 (d:∀b∈ch,(b∈X.ex\/X.s₀.heap.objs.size<=b)/\b≠X.env.locals/\(∀x c,X.env.cells.lookup x=LA c->c≠b)/\∀p∈X.pn++pins,p.1≠b):Inv X pins σ H' a:=by
 obtain⟨h',g',d',t',h⟩:=a
 have e:h=s.os:=f
 subst e
 exact I.call (g':=g') (t':=t') (d':=d') u hok g d
end
abbrev XK:=HY->Option Addr->Hp->Prop
abbrev St:=List (Option V)
abbrev VK:=V->Hp->Prop
abbrev TE:=St->Hp->VK->Prop
abbrev TT:=St->Hp->(Bool->Hp->Prop)->Prop
abbrev TA:=St->Hp->(List V->Hp->Prop)->Prop
structure Ends where
 nx:St->Hp->Prop
 rt:VK
 bk:St->Hp->Prop:=fun _ _=>False
 ct:St->Hp->Prop:=fun _ _=>False
abbrev TS:=Ends->St->Hp->Prop
def EP(X:Cx)(pins:List (Addr×Obj))(σ:St)(Q:VK)(u:HY)(b:HZ):Prop:=∃v a,Inv X pins σ a b/\RelV v u/\Q v a
def TP(X:Cx)(pins:List (Addr×Obj))(σ:St)(Q:Bool->Hp->Prop)(b:Bool)(c:HZ):Prop:=∃a,Inv X pins σ a c/\Q b a
def AP(X:Cx)(pins:List (Addr×Obj))(σ:St)(Q:List V->Hp->Prop)(us:List HY)(b:HZ):Prop:=∃vs a,Inv X pins σ a b/\Vals vs us/\Q vs a
def SP(X:Cx)(pins:List (Addr×Obj))(D:Ends)(f:Flow)(c:HZ):Prop:=
 match f with
 |.next=>∃a b,Inv X pins a b c/\D.nx a b
 |.brk=>∃a b,Inv X pins a b c/\D.bk a b
 |.cont=>∃a b,Inv X pins a b c/\D.ct a b
 |.ret u=>∃v a b,Inv X pins a b c/\RelV v u/\D.rt v b
def PE(X:Cx)(e:Expr)(t:TE):Prop:=
 ∀(pins:List (Addr×Obj)) (s:HZ) (σ:St) (H:Hp) (Q:VK),Inv X pins σ H s->t σ H Q->Im (IC X.prog X.w) X.A (eval e X.env) (EP X pins σ Q) X.xe s
def PT(X:Cx)(e:Expr)(t:TT):Prop:=
 ∀(pins:List (Addr×Obj)) (s:HZ) (σ:St) (H:Hp) (Q:Bool->Hp->Prop),Inv X pins σ H s->t σ H Q->Im (IC X.prog X.w) X.A (isTrue e X.env (eval e X.env)) (TP X pins σ Q) X.xe s
def PW(X:Cx)(e:Expr)(t:TT):Prop:=
 ∀(a:Sem HY) (pins:List (Addr×Obj)) (s:HZ) (σ:St) (H:Hp) (Q:Bool->Hp->Prop),Inv X pins σ H s->t σ H Q->Im (IC X.prog X.w) X.A (isTrue e X.env a) (TP X pins σ Q) X.xe s
theorem PW.pt{X:Cx}{e:Expr}{t:TT}(h:PW X e t):PT X e t:=h _
def PA(X:Cx)(es:List Expr)(t:TA):Prop:=
 ∀(pos:Pos) (pins:List (Addr×Obj)) (s:HZ) (σ:St) (H:Hp) (Q:List V->Hp->Prop),Inv X pins σ H s->t σ H Q->Im (IC X.prog X.w) X.A (spliced (JL pos (Iz es X.env))) (AP X pins σ Q) X.xe s
def PS(X:Cx)(st:Stmt)(t:TS):Prop:=
 ∀(pins:List (Addr×Obj)) (s:HZ) (σ:St) (H:Hp) (D:Ends),Inv X pins σ H s->t D σ H->Im (IC X.prog X.w) X.A (exec st X.env) (SP X pins D) X.xe s
def PSs(X:Cx)(st:List Stmt)(t:TS):Prop:=
 ∀(pins:List (Addr×Obj)) (s:HZ) (σ:St) (H:Hp) (D:Ends),Inv X pins σ H s->t D σ H->Im (IC X.prog X.w) X.A (execs st X.env) (SP X pins D) X.xe s
theorem thn{b:Type}{t:Sem b}{Q c:b->HZ->Prop}{M:Model}{A:Jd}{E:HY->HZ->Prop}{s:HZ}(h:Im M A t Q E s)(d:∀a s,Q a s->c a s):Im M A t c E s:=Iw h d fun _ _ x=>x
section
variable{X:Cx}
def Hj(i:Nat):TE:=fun σ H Q=>∃v,σ[i]?=LA (LA v)/\Q v H
def tC(v:V):TE:=fun _ H Q=>Q v H
theorem Ej{i:Nat}{x:Str}{pos:Pos}(j:X.N[i]?=LA x)(k:Vis X.env.scope x)(hd:(x==("__debug__":Str))=LD:=by decide)(f:(x==("__classdict__":Str))=LD:=by decide):PE X (.Name x pos) (Hj i):=by
 intro pins s σ H Q I h;obtain⟨v,e,h⟩:=h;obtain⟨m,n,o⟩:=I.loc;obtain⟨u,r,l⟩:=o i x v j e k;have b:EP X pins σ Q u s:=⟨v,H,I,r,h⟩;rcases l with⟨d,p⟩|⟨d,c,g,a⟩
 ·exact wpAny_Name (wpAny_loadName_local I.ok.kind d n p b) hd
 ·rcases d with d|d
  ·exact wpAny_Name (wpAny_loadName_cell I.ok.kind d g a b) hd
  ·exact wpAny_Name (wpAny_loadName_free I.ok.kind d g a b f) hd
theorem xH{i j pos}:PE X (.Constant (.int i) j pos) (tC (.int i)):=fun _ _ _ H _ I h=>wpAny_Constant_int ⟨.int i,H,I.tok _,⟨_,rfl⟩,h⟩
theorem EU{b j pos}:PE X (.Constant (.bool b) j pos) (tC (.bl b)):=fun _ _ _ H _ I h=>Constant_bool ⟨.bl b,H,I,rfl,h⟩
theorem Dt{j pos}:PE X (.Constant .none j pos) (tC .non):=fun _ _ _ H _ I h=>Constant_none ⟨.non,H,I,rfl,h⟩
theorem DD{x j pos}:PE X (.Constant (.str x) j pos) (tC (.str x)):=fun _ _ _ H _ I h=>Calls.Constant_str ⟨.str x,H,I.tok _,⟨_,rfl⟩,h⟩
def Gl(X:Cx)(x:Str):Prop:=X.env.kindOf x=LA .globalImplicit
theorem AU{E:HY->HZ->Prop}{pins:List (Addr×Obj)}{s:HZ}{σ:St}{H:Hp}{x:Str}{u:HY}{pos:Pos}{Q:HY->HZ->Prop}(I:Inv X pins σ H s)(a:Gl X x)(b:X.mg x=LA u)(h:Q u s) (hd:(x==("__debug__":Str))=LD:=by decide):Im (IC X.prog X.w) X.A (eval (.Name x pos) X.env) Q E s:=Calls.Name_function_global I.ok.kind a (Calls.loadGlobal_global (by rw[I.ok.glob];exact I.mod.glob.keeps I.bk) b h) hd
theorem iI{E:HY->HZ->Prop}{pins:List (Addr×Obj)}{s:HZ}{σ:St}{H:Hp}{x:Str}{u:HY}{pos:Pos}{Q:HY->HZ->Prop}(I:Inv X pins σ H s)(a:Gl X x)(b:X.mg x=LB)(c:Ju x=LA u)(h:Q u s) (d:x≠"__name__":=by decide) (hd:(x==("__debug__":Str))=LD:=by decide):Im (IC X.prog X.w) X.A (eval (.Name x pos) X.env) Q E s:=by obtain⟨g,e,f⟩:=I.mod.blt;exact Calls.Name_function_global I.ok.kind a (Calls.loadGlobal_builtin (by rw[I.ok.glob];exact I.mod.glob.keeps I.bk) b (by rw[I.ok.blt];exact e.keeps I.bk) ((f x d).trans c) h) hd
variable{a b:Expr}{ta tb:TE}{pos:Pos}
def PC(X:Cx)(op:CmpOp)(a b:Expr)(t:TE):Prop:=
 ∀(pins:List (Addr×Obj)) (s:HZ) (σ:St) (H:Hp) (Q:VK),Inv X pins σ H s->t σ H Q->
  Im (IC X.prog X.w) X.A (eval a X.env) (fun v c=>Im (IC X.prog X.w) X.A (eval b X.env) (fun u d=>Im (IC X.prog X.w) X.A (IY op v u) (EP X pins σ Q) X.xe d) X.xe c) X.xe s
def tB(t:TE):TT:=fun σ H Q=>t σ H fun x H1=>∃c,x=.bl c/\Q c H1
theorem EH{op:CmpOp}{t:TE}(h:PC X op a b t)(f:KR op b=LD:=by first|exact nobehind _ ⋯ ⋯|rfl):PT X (.Compare a [op] [b] pos) (tB t):=by intro pins s σ H Q I g;refine wpAny_isTrue_Compare1 (thn (h pins s σ H _ I g) fun v m f=>thn f fun u n i=>thn i fun c o e=>?_) f;obtain⟨x,H1,j,k,l⟩:=e;obtain⟨d,rfl,q⟩:=l;cases k;exact JB ⟨H1,j,q⟩
theorem DO{e:Expr}{t:TE}(h:PE X e t)(g:∀c,isTrue e X.env c=(do let v <-c;standAt e.pos;holding [v] (truthy v)):=by intro _;rfl):PT X e (tB t):=by intro pins s σ H Q I i;refine isTrue_plain (thn (h pins s σ H _ I i) fun v m f=>?_) (g _);obtain⟨x,H1,j,k,l⟩:=f;obtain⟨d,rfl,q⟩:=l;cases k;exact JB ⟨H1,j,q⟩
variable{tA LP:TT}{rest:List Expr}
def Hi(t u:TT):TT:=fun σ H Q=>t σ H fun c H1=>if c=LC then u σ H1 Q else Q LD H1
def tOr(t u:TT):TT:=fun σ H Q=>t σ H fun c H1=>if c=LC then Q LC H1 else u σ H1 Q
def Ht(t:TT):TT:=fun σ H Q=>t σ H fun c H1=>Q (!c) H1
theorem Bp(d:PT X a tA):PW X (.BoolOp .And [a] pos) tA:=by
 intro f pins s σ H Q I h;refine isTrue_and (thn (d pins s σ H Q I h) fun c g e=>?_);cases c with
 |true=>exact isTrue_and_nil e
 |false=>exact e
theorem Dx(d:PT X a tA):PW X (.BoolOp .Or [a] pos) tA:=by
 intro f pins s σ H Q I h;refine isTrue_or (thn (d pins s σ H Q I h) fun c g e=>?_);cases c with
 |false=>exact isTrue_or_nil e
 |true=>exact e
theorem Em(g:PT X a tA)(i:PW X (.BoolOp .And (b::rest) pos) LP):PW X (.BoolOp .And (a::b::rest) pos) (Hi tA LP):=by
 intro j pins s σ H Q I h;refine isTrue_and (thn (g pins s σ H _ I h) fun c k d=>?_);obtain⟨H1,e,f⟩:=d;cases c with
 |true=>exact i j pins k σ H1 Q e f
 |false=>exact⟨H1,e,f⟩
theorem Fx(g:PT X a tA)(i:PW X (.BoolOp .Or (b::rest) pos) LP):PW X (.BoolOp .Or (a::b::rest) pos) (tOr tA LP):=by
 intro j pins s σ H Q I h;refine isTrue_or (thn (g pins s σ H _ I h) fun c k d=>?_);obtain⟨H1,e,f⟩:=d;cases c with
 |true=>exact⟨H1,e,f⟩
 |false=>exact i j pins k σ H1 Q e f
theorem EM(d:PT X a tA):PT X (.UnaryOp .Not a pos) (Ht tA):=by intro pins s σ H Q I h;exact isTrue_not (d pins s σ H (fun c H1=>Q (!c) H1) I h)
def FX(ta tb:TE):TE:=fun σ H Q=>ta σ H fun x H1=>∃c,x=.bl c/\if c=LC then tb σ H1 Q else Q (.bl LD) H1
def Hk(ta tb:TE):TE:=fun σ H Q=>ta σ H fun x H1=>∃c,x=.bl c/\if c=LC then Q (.bl LC) H1 else tb σ H1 Q
def Fj(ta:TE):TE:=fun σ H Q=>ta σ H fun x H1=>∃c,x=.bl c/\Q (.bl (!c)) H1
theorem Dr{op}{t:TE}(h:PE X a t):PE X (.BoolOp op [a] pos) t:=fun pins s σ H Q I c=>BoolOp_one (h pins s σ H Q I c)
theorem Du(g:PE X a ta)(i:PE X (.BoolOp .And (b::rest) pos) tb):PE X (.BoolOp .And (a::b::rest) pos) (FX ta tb):=by
 intro pins s σ H Q I h;refine BoolOp_and (thn (g pins s σ H _ I h) fun v j d=>?_);obtain⟨x,H1,f,k,e⟩:=d;obtain⟨c,rfl,e⟩:=e;cases k;refine JB ?_;cases c with
 |true=>exact i pins j σ H1 Q f e
 |false=>exact⟨.bl LD,H1,f,rfl,e⟩
theorem GV(g:PE X a ta)(i:PE X (.BoolOp .Or (b::rest) pos) tb):PE X (.BoolOp .Or (a::b::rest) pos) (Hk ta tb):=by
 intro pins s σ H Q I h;refine BoolOp_or (thn (g pins s σ H _ I h) fun v j d=>?_);obtain⟨x,H1,f,k,e⟩:=d;obtain⟨c,rfl,e⟩:=e;cases k;refine JB ?_;cases c with
 |false=>exact i pins j σ H1 Q f e
 |true=>exact⟨.bl LC,H1,f,rfl,e⟩
theorem Cv(f:PE X a ta):PE X (.UnaryOp .Not a pos) (Fj ta):=by intro pins s σ H Q I h;refine UnaryOp_ (thn (f pins s σ H _ I h) fun v j d=>?_);obtain⟨x,H1,g,i,e⟩:=d;obtain⟨c,rfl,e⟩:=e;cases i;exact not_of (JB ⟨.bl (!c),H1,g,rfl,e⟩)
def tIf(t:TT)(ta tb:TE):TE:=fun σ H Q=>t σ H fun c H1=>if c=LC then ta σ H1 Q else tb σ H1 Q
theorem yk{c:Expr}(j:PT X c tA)(k:PE X a ta)(l:PE X b tb):PE X (.IfExp c a b pos) (tIf tA ta tb):=by
 intro pins s σ H Q I h;refine wpAny_IfExp (thn (j pins s σ H _ I h) fun d f e=>?_);obtain⟨H1,g,i⟩:=e;cases d with
 |true=>exact k pins f σ H1 Q g i
 |false=>exact l pins f σ H1 Q g i
end
def SqL(K:H0)(H:Hp)(a:Addr)(xs:List V):Prop:=
 Rd H a (.lst xs)\/
  ∃(o:Obj) (b:Array HY) (n:Nat),K.lookup a=LA o/\o.cls=.type "list"/\o.dict=LB/\o.data=.seq b n/\b.size<=Ir/\Vals xs b.toList
def SqT(K:H0)(H:Hp)(a:Addr)(xs:List V):Prop:=
 Rd H a (.tup xs)\/
  ∃(o:Obj) (b:Array HY) (n:Nat),K.lookup a=LA o/\(o.cls=.type "tuple"/\o.dict=LB)/\o.data=.seq b n/\b.size<=Ir/\Vals xs b.toList
def HL:HY->Option V
 |.none=>LA .non
 |.bool b=>LA (.bl b)
 |.int i _=>LA (.int i)
 |.str x _=>LA (.str x)
 |.bytes b _=>LA (.byt b)
 |.float b _=>LA (.flt b)
 |.ref a=>LA (.ref a)
 |.type n=>LA (.ty n)
 |_=>LB
theorem RelV.abs{x:V}{u:HY}(r:RelV x u):HL u=LA x:=by
 cases x with
 |non=>cases r;rfl
 |bl _=>cases r;rfl
 |int _=>obtain⟨t,rfl⟩:=r;rfl
 |str _=>obtain⟨t,rfl⟩:=r;rfl
 |byt _=>obtain⟨t,rfl⟩:=r;rfl
 |flt _=>obtain⟨t,rfl⟩:=r;rfl
 |ref _=>cases r;rfl
 |ty _=>cases r;rfl
theorem RelV.inj{x y:V}{u:HY}(r:RelV x u)(q:RelV y u):x=y:=Option.some.inj (r.abs.symm.trans q.abs)
theorem Vals.inj:∀{xs a:List V} {us:List HY},Vals xs us->Vals a us->xs=a:=by
 intro xs a us h
 induction h generalizing a with
 |nil=>intro k;cases k;rfl
 |cons r t b=>
  intro k
  cases k with
  |cons c d=>rw[r.inj c,b d]
section
variable{X:Cx}{pins:List (Addr×Obj)}{σ:St}{H:Hp}{s:HZ}{a:Addr}{xs ys:List V}
theorem SqL.of{K:H0}(h:H a=LA (.lst xs)):SqL K H a xs:=.inl (.inl h)
theorem SqT.of{K:H0}(h:H a=LA (.tup xs)):SqT K H a xs:=.inl (.inl h)
theorem Inv.list(I:Inv X pins σ H s)(h:SqL X.K H a xs):∃b:List HY,Vals xs b/\PlainL s.heap a b.toArray/\xs.length<=Ir:=by
 rcases h with h|⟨o,b,n,c,d,hd,f,g,r⟩
 ·obtain⟨z,b,n,r,e⟩:=h.ok I.hok;exact⟨b,r,⟨_,n,e,rfl,rfl,rfl⟩,z⟩
 ·refine⟨b.toList,r,⟨o,n,I.kIn a o c,d,hd,by simpa using f⟩,?_⟩;have e:=r.length;simp only[Array.length_toList]at e;omega
theorem Inv.tuple(I:Inv X pins σ H s)(h:SqT X.K H a xs):∃b:List HY,Vals xs b/\IsTup s.heap a b.toArray/\xs.length<=Ir:=by
 rcases h with h|⟨o,b,n,c,d,f,g,r⟩
 ·obtain⟨z,b,r,p,_⟩:=h.ok I.hok;exact⟨b,r,p,z⟩
 ·refine⟨b.toList,r,⟨o,I.kIn a o c,d.1,n,by simpa using f⟩,?_⟩;have e:=r.length;simp only[Array.length_toList]at e;omega
theorem Inv.Dl(I:Inv X pins σ H s)(h:SqT X.K H a xs):NoD s.heap a:=by
 rcases h with h|⟨o,b,n,c,d,e,f,r⟩
 ·obtain⟨z,b,r,_,p⟩:=h.ok I.hok;exact p
 ·exact⟨o,I.kIn a o c,d.2⟩
theorem Inv.gc(I:Inv X pins σ H s)(h:SqL X.K H a xs)(h':SqL X.K H a ys):xs=ys:=by
 obtain⟨c,r,⟨o,n,e,_,_,d⟩,_⟩:=I.list h;obtain⟨b,i,⟨k,l,f,_,_,g⟩,_⟩:=I.list h';rw[e]at f;cases f;rw[d]at g;injection g with j _;have:c=b:=by simpa using congrArg Array.toList j
 subst this;exact r.inj i
theorem Inv.oe(I:Inv X pins σ H s)(h:SqT X.K H a xs)(h':SqT X.K H a ys):xs=ys:=by
 obtain⟨c,r,⟨o,e,_,n,d⟩,_⟩:=I.tuple h;obtain⟨b,i,⟨k,f,_,l,g⟩,_⟩:=I.tuple h';rw[e]at f;cases f;rw[d]at g;injection g with j _;have:c=b:=by simpa using congrArg Array.toList j
 subst this;exact r.inj i
end
abbrev Cx.m7(X:Cx)(E:HY->HZ->Prop):Cx:={ X with xe:=E }
abbrev Cx.nox(X:Cx):Cx:=X.m7 fun _ _=>False
theorem Cx.Ok.m7{X:Cx}(ok:X.Ok)(E:HY->HZ->Prop):(X.m7 E).Ok:=⟨ok.mod,ok.kind,ok.glob,ok.blt,ok.above,ok.inj,ok.has,ok.cab,ok.hd,ok.frames,ok.stk,ok.exf,ok.bs,ok.bsz,ok.noex,ok.exfs,ok.mD,ok.frf⟩
theorem Cx.Ok.gJ{X:Cx}{E:HY->HZ->Prop}(ok:(X.m7 E).Ok):X.Ok:=⟨ok.mod,ok.kind,ok.glob,ok.blt,ok.above,ok.inj,ok.has,ok.cab,ok.hd,ok.frames,ok.stk,ok.exf,ok.bs,ok.bsz,ok.noex,ok.exfs,ok.mD,ok.frf⟩
section
variable{X:Cx}{pins:List (Addr×Obj)}{σ:St}{H:Hp}{s:HZ}{E:HY->HZ->Prop}
theorem Inv.m7(I:Inv X pins σ H s)(E:HY->HZ->Prop):Inv (X.m7 E) pins σ H s:=⟨I.ok.m7 E,I.os,I.bare,I.base,I.loc,I.cell,I.free,I.freeC,I.pin,I.hok,I.len⟩
theorem Inv.gJ(I:Inv (X.m7 E) pins σ H s):Inv X pins σ H s:=⟨I.ok.gJ,I.os,I.bare,I.base,I.loc,I.cell,I.free,I.freeC,I.pin,I.hok,I.len⟩
theorem SP.gJ{D:Ends}{f:Flow}{c:HZ}(h:SP (X.m7 E) pins D f c):SP X pins D f c:=by
 cases f with
 |next=>obtain⟨a,b,I,q⟩:=h;exact⟨a,b,I.gJ,q⟩
 |brk=>obtain⟨a,b,I,q⟩:=h;exact⟨a,b,I.gJ,q⟩
 |cont=>obtain⟨a,b,I,q⟩:=h;exact⟨a,b,I.gJ,q⟩
 |ret u=>obtain⟨v,a,b,I,r,q⟩:=h;exact⟨v,a,b,I.gJ,r,q⟩
theorem PSs.nox{st:List Stmt}{t:TS}(h:PSs X.nox st t):PSs X st t:=fun pins s σ H D I a=>Iw (h pins s σ H D (I.m7 _) a) (fun _ _ q=>q.gJ) fun _ _ z=>L7 z
end
section
variable{X:Cx}{st:Stmt}{rest:List Stmt}{t u:TS}{e:Expr}{te:TE}{pos:Pos}
def E7:TS:=fun D σ H=>D.nx σ H
def HP(t u:TS):TS:=fun D σ H=>t { D with nx:=u D } σ H
theorem AD:PSs X [] E7:=fun _ _ σ H _ I h=>wpAny_execs_nil ⟨σ,H,I,h⟩
theorem yM(b:PS X st t)(c:PSs X rest u):PSs X (st::rest) (HP t u):=by
 intro pins s σ H D I h;refine wpAny_execs_cons (thn (b pins s σ H { D with nx:=u D } I h) fun f d q=>?_);cases f with
 |next=>
  obtain⟨a,g,i,q⟩:=q
  exact c pins d a g D i q
 |ret v=>exact q
 |brk=>exact q
 |cont=>exact q
theorem A8(a:PS X st t):PSs X [st] t:=by
 intro pins s σ H D I h;refine wpAny_execs_cons (thn (a pins s σ H D I h) fun f b q=>?_);cases f with
 |next=>exact wpAny_execs_nil q
 |ret v=>exact q
 |brk=>exact q
 |cont=>exact q
theorem Inv.quiet{pins:List (Addr×Obj)}{σ:St}{H:Hp}{s:HZ}(I:Inv X pins σ H s):interactive X.env=LD:=by simp[interactive,I.ok.kind]
def Fo(te:TE):TS:=fun D σ H=>te σ H fun _ H1=>D.nx σ H1
theorem Bi(b:PE X e te)(c:Ks e LB pos.line X.env=pure LD:=by rfl):PS X (.Expr e pos) (Fo te):=by intro pins s σ H D I h;exact wpAny_Expr_any (thn (b pins s σ H _ I h) fun v g a=>by obtain⟨x,H1,d,i,f⟩:=a;exact(⟨σ,H1,d,f⟩)) I.quiet c
def HM(te:TE):TS:=fun D σ H=>te σ H D.rt
theorem DB(b:PE X e te):PS X (.Return (LA e) pos) (HM te):=by intro pins s σ H D I h;exact wpAny_Return_some (thn (b pins s σ H _ I h) fun v g a=>by obtain⟨x,H1,c,d,f⟩:=a;exact(⟨x,σ,H1,c,d,f⟩))
def G8(c:TT)(t u:TS):TS:=fun D σ H=>c σ H fun b H1=>if b=LC then t D σ H1 else u D σ H1
theorem Fy{c:Expr}{a b:List Stmt}{tc:TT}(k:PT X c tc)(l:PSs X a t)(m:PSs X b u):PS X (.If c a b pos) (G8 tc t u):=by
 intro pins s σ H D I h;refine wpAny_If (thn (k pins s σ H _ I h) fun d g f=>?_);obtain⟨H1,i,j⟩:=f;cases d with
 |true=>exact l pins g σ H1 D i j
 |false=>exact m pins g σ H1 D i j
def Ep:TS:=fun _ _ _=>False
theorem zi:PS X st Ep:=fun _ _ _ _ _ _ h=>h.elim
end
abbrev TG:=V->St->Hp->(St->Hp->Prop)->Prop
abbrev TGs:=List V->St->Hp->(St->Hp->Prop)->Prop
def PG(X:Cx)(a:Expr)(t:TG):Prop:=
 ∀(pins:List (Addr×Obj)) (s:HZ) (σ:St) (H:Hp) (v:V) (u:HY) (Q:St->Hp->Prop),Inv X pins σ H s->RelV v u->t v σ H Q->
  Im (IC X.prog X.w) X.A (KW a X.env u) (fun _ d=>∃b c,Inv X pins b c d/\Q b c) X.xe s
def PGs(X:Cx)(c:List Expr)(t:TGs):Prop:=
 ∀(pins:List (Addr×Obj)) (s:HZ) (σ:St) (H:Hp) (vs:List V) (us:List HY) (Q:St->Hp->Prop),Inv X pins σ H s->Vals vs us->t vs σ H Q->
  Im (IC X.prog X.w) X.A (assignInOrder ((KS c X.env).map (·.2)) us) (fun _ d=>∃a b,Inv X pins a b d/\Q a b) X.xe s
abbrev CS:=V->V->V->Hp->(Hp->Prop)->Prop
def Gw(X:Cx)(t:CS):Prop:=
 ∀(pins:List (Addr×Obj)) (s:HZ) (σ:St) (H:Hp) (o i v:V) (a b u:HY) (Q:Hp->Prop),Inv X pins σ H s->RelV o a->RelV i b->RelV v u->t o i v H Q->
  Im (IC X.prog X.w) X.A (setItem a b u) (fun _ d=>∃c,Inv X pins σ c d/\Q c) X.xe s
abbrev TIp:=V->V->Hp->VK->Prop
def PIp(X:Cx)(op:Operator)(t:TIp):Prop:=
 ∀(pins:List (Addr×Obj)) (s:HZ) (σ:St) (H:Hp) (x y:V) (v u:HY) (Q:VK),Inv X pins σ H s->RelV x v->RelV y u->t x y H Q->
  Im (IC X.prog X.w) X.A (inplaceOp op v u) (EP X pins σ Q) X.xe s
section
variable{X:Cx}{pos:Pos}
def fV(i:Nat):TG:=fun v σ H Q=>Q (σ.set i (LA v)) H
theorem uS{i:Nat}{x:Str}(a:X.N.Nodup)(b:X.N[i]?=LA x)(c:Loc X.env.scope x)(d:X.fn x=LC\/X.env.scope.names.lookup x=LA .local:=by first|exact .inl rfl|exact .inr rfl|assumption):PG X (.Name x pos) (fV i):=by intro pins s σ H v u Q I r h;exact wpAny_assign_Name (gF I a b c r (fun f e=>⟨_,H,e,h⟩) d)
def CH:TGs:=fun vs σ H Q=>vs=[]/\Q σ H
def qR(t:TG)(u:TGs):TGs:=fun vs σ H Q=>∃v r,vs=v::r/\t v σ H fun a b=>u r a b Q
theorem uF:PGs X [] CH:=by intro pins s σ H vs us Q I r h;obtain⟨e,h⟩:=h;subst e;cases r;exact assignInOrder_nil ⟨σ,H,I,h⟩
theorem mG{e:Expr}{es:List Expr}{t:TG}{u:TGs}(c:PG X e t)(d:PGs X es u) (f:(KS (e::es) X.env).map (·.2)=KW e X.env::(KS es X.env).map (·.2):=by rfl):PGs X (e::es) (qR t u):=by
 intro pins s σ H vs us Q I r h;obtain⟨v,l,e1,h⟩:=h;subst e1;cases r with
 |cons r g=>
  rw[f]
  refine assignInOrder_cons (thn (c pins s σ H _ _ _ I r h) fun _ i a=>?_)
  obtain⟨b,H1,j,k⟩:=a
  exact d pins i b H1 _ _ Q j g k
def Ee(K:H0)(n:Nat)(t:TGs):TG:=fun v σ H Q=>∃a xs,v=.ref a/\SqT K H a xs/\xs.length=n/\t xs σ H Q
theorem xT{es:List Expr}{k:Nat}{t:TGs}{n:Nat}(g:X.calm=LC)(h:PGs X es t)
 (i:(KS es X.env).length=n:=by rfl) (c:(KS es X.env).findIdx? (·.1)=LB:=by rfl):PG X (.Tuple es k pos) (Ee X.K n t):=by
 intro pins s σ H v u Q I r d
 obtain⟨a,xs,e1,j,l,d⟩:=d
 subst e1
 cases r
 obtain⟨m,f,p,y⟩:=I.tuple j
 refine assign_Tuple_tuple (I.ok.hd g) p (by simp[i,<-l,f.length]) c fun q w=>?_
 have x:Inv X pins σ H { s with heap:=q }:=I.kept (t':=s.toks) fun b o e=>w b o (J6 (Iy e)) e
 exact h pins _ σ H xs _ Q x (by simpa using f) d
def Hf(a b:TE)(t:CS):TG:=fun v σ H Q=>a σ H fun o H1=>b σ H1 fun i c=>t o i v c fun d=>Q σ d
theorem Cj{o i:Expr}{f g:TE}{t:CS}(j:PE X o f)(k:PE X i g)(l:Gw X t)
 (m:∀v,KW (.Subscript o i pos) X.env v=(do
  let d <-holding [v] (eval o X.env)
  let e <-holding [v,d] (eval i X.env)
  standAt pos
  holding [v,d,e] (setItem d e v)
  release [v,d,e] []):=by intro _;rfl):PG X (.Subscript o i pos) (Hf f g t):=by
 intro pins s σ H v u Q I r h
 rw[m]
 refine cc (JD (thn (j pins s σ H _ I h) fun d n a=>?_))
 obtain⟨x,H1,p,q,w⟩:=a
 refine cc (JD (thn (k pins n σ H1 _ p w) fun e z b=>?_))
 obtain⟨y,A,B,C,D⟩:=b
 refine cc (JM (cc (JD (thn (l pins z σ A x y v d e u _ B q C r D) fun _ J c=>?_))))
 obtain⟨E,F,G⟩:=c
 exact wpAny_release ⟨σ,E,F,G⟩
def zZ(te:TE)(g:TG):TS:=fun D σ H=>te σ H fun x H1=>g x σ H1 D.nx
theorem DF{tg e:Expr}{te:TE}{g:TG}(b:PE X e te)(c:PG X tg g)(d:swapsWithSole [tg] e pos.line X.env=pure LD:=by rfl)(hw:swappedStores [tg] e X.env=pure LB:=by rfl) (f:(KS [tg] X.env).map (·.2)=[KW tg X.env]:=by rfl):PS X (.Assign [tg] e pos) (zZ te g):=by intro pins s σ H D I h;refine wpAny_Assign_stores (thn (b pins s σ H _ I h) fun v i a=>?_) d hw;obtain⟨x,H1,j,k,l⟩:=a;rw[f];exact thn (c pins i σ H1 x v _ j k l) fun _ m q=>q
theorem DZ{i:Nat}{x:Str}{e:Expr}{te:TE}{b:Pos}(c:X.N.Nodup)(d:X.N[i]?=LA x)(f:Loc X.env.scope x)(g:PE X e te)(j:Ks e (LA (.Name x b)) pos.line X.env=pure LD:=by rfl)(k:X.fn x=LC\/X.env.scope.names.lookup x=LA .local:=by first|exact .inl rfl|exact .inr rfl|assumption) : PS X (.Assign [.Name x b] e pos) (zZ te (fV i)):=by intro pins s σ H D I h;refine wpAny_Assign_Name (thn (g pins s σ H _ I h) fun v p a=>?_) j;obtain⟨y,H1,l,m,n⟩:=a;exact gF l c d f m (fun q o=>⟨_,H1,o,n⟩) k
def G9(i j:Nat)(a:TA):TS:=fun D σ H=>a σ H fun vs H1=>∃v w,vs=[v,w]/\D.nx ((σ.set i (LA v)).set j (LA w)) H1
theorem Et{i j:Nat}{x y:Str}{a b:Expr}{C:TA}{l m pt:Pos}{n r d}(K:X.calm=LC)(E:X.N.Nodup)(L:X.N[i]?=LA x)(M:X.N[j]?=LA y)(t:i≠j)
 (F:X.env.scope.names.lookup x=LA .local) (G:X.env.scope.names.lookup y=LA .local) (O:PA X [a,b] C)
 (hw:swappedStores [.Tuple [.Name x l,.Name y m] n pt] (.Tuple [a,b] r d) X.env=pure (LA [x,y]))
 (P:swapsWithSole [.Tuple [.Name x l,.Name y m] n pt] (.Tuple [a,b] r d) pos.line X.env=pure LD:=by rfl) :
 PS X (.Assign [.Tuple [.Name x l,.Name y m] n pt] (.Tuple [a,b] r d) pos) (G9 i j C):=by
 intro pins s σ H D I h
 rw[exec_Assign_arm]
 refine cc (JM ?_)
 rw[P]
 refine cc (I0 ?_)
 rw[LF ⋯]
 refine cc (Tuple_ (thn (O _ pins s σ H _ I h) fun us f c=>?_))
 obtain⟨vs,H1,Q,R,u⟩:=c
 obtain⟨v,w,e1,u⟩:=u
 subst e1
 obtain⟨g,k,rfl,S,z⟩:∃g k,us=[g,k]/\RelV v g/\RelV w k:=by
  cases R with
  |cons p q=>
   cases q with
   |cons T U=>
    cases U
    exact⟨_,_,rfl,p,T⟩
 refine Jc ?_ (by show 2<=Ir;decide)
 have V:Inv X pins σ H1 { f with heap:=f.heap.push { cls:=.type "tuple",data:=.seq [g,k].toArray } }:=Q.kept (t':=f.toks) fun b o e=>Ib _ e
 rw[hw]
 refine cc (I0 ?_)
 show Im (IC X.prog X.w) X.A (do rule "assign.swapped-stores";let items <-unpackItems (.ref f.heap.objs.size) 2 LB;assignInOrder [fun v=>bindName X.env y v,fun v=>bindName X.env x v] items.reverse;pure Flow.next) _ _ _
 refine cc (wpAny_rule (cc (unpackItems_tuple (items:=#[g,k]) (I.ok.hd K) (IsTup.new f.heap _) fun h' B=>?_)))
 have W:=V.kept (h':=h') (t':=f.toks) fun b o e=>B b o (J6 (Iy e)) e
 show Im _ _ (assignInOrder [fun v=>bindName X.env y v,fun v=>bindName X.env x v] [k,g] >>= fun _=>pure Flow.next) _ _ _
 refine cc (assignInOrder_cons (wpAny_bindName (gF W E M (.inl G) z (fun Z Y=>?_) (.inr G))))
 refine assignInOrder_cons (wpAny_bindName (gF Y E L (.inl F) S (fun s3 J=>assignInOrder_nil (I0 ?_)) (.inr F)))
 rw[List.set_comm _ _ (Ne.symm t)]at J
 exact⟨_,H1,J,u⟩
def HR(i:Nat)(te:TE)(a:TIp):TS:=fun D σ H=>∃x,σ[i]?=LA (LA x)/\te σ H fun y H1=>a x y H1 fun z b=>D.nx (σ.set i (LA z)) b
theorem CV{i:Nat}{x:Str}{e:Expr}{te:TE}{op:Operator}{q:TIp}{g:Pos}(B:X.N.Nodup)(t:X.N[i]?=LA x)(o:Loc X.env.scope x)(C:PE X e te)(E:PIp X op q)(F:X.fn x=LC\/X.env.scope.names.lookup x=LA .local:=by first|exact .inl rfl|exact .inr rfl|assumption) :
 PS X (.AugAssign (.Name x g) op e pos) (HR i te q):=by
 intro pins s σ H D I h
 obtain⟨v,e1,h⟩:=h
 obtain⟨m,G,J⟩:=I.loc
 have p:Vis X.env.scope x:=by rcases o with k|k;exact .inl k;exact .inr (.inl k)
 obtain⟨u,r,l⟩:=J i x v t e1 p
 refine wpAny_AugAssign_Name ?_
 have go:Im (IC X.prog X.w) X.A (eval e X.env) (fun w j=>Im (IC X.prog X.w) X.A (inplaceOp op u w) (fun r n=>Im (IC X.prog X.w) X.A (storeName X.env x r) (fun _=>SP X pins D .next) X.xe n) X.xe j) X.xe s:=by
  refine thn (C pins s σ H _ I h) fun w K a=>?_
  obtain⟨y,H1,L,M,O⟩:=a
  refine thn (E pins K σ H1 v y u w _ L r M O) fun z W b=>?_
  obtain⟨Y,P,Q,R,S⟩:=b
  exact gF Q B t o R (fun Z T=>⟨_,P,T,S⟩) F
 rcases l with⟨d,U⟩|⟨d,c,V,f⟩
 ·exact wpAny_loadName_local I.ok.kind d G U go
 ·rcases d with d|d
  ·exact wpAny_loadName_cell I.ok.kind d V f go
  ·rcases o with k|k
   ·have:X.env.scope.names.lookup x=LA .free:=d
    rw[k]at this;cases this
   ·have:X.env.scope.names.lookup x=LA .free:=d
    rw[k]at this;cases this
def ipI(f:Int->Int->Int):TIp:=fun x y H Q=>∃i j,x=.int i/\y=.int j/\Q (.int (f i j)) H
theorem D7:PIp X .Add (ipI fun i j=>i+j):=by intro pins s σ H x y v u Q I a b h;obtain⟨i,j,e1,e2,q⟩:=h;subst e1;subst e2;obtain⟨t,rfl⟩:=a;obtain⟨c,rfl⟩:=b;exact iadd_int ⟨.int _,H,I.tok _,⟨_,rfl⟩,q⟩
theorem DM:PIp X .Sub (ipI fun i j=>i-j):=by intro pins s σ H x y v u Q I a b h;obtain⟨i,j,e1,e2,q⟩:=h;subst e1;subst e2;obtain⟨t,rfl⟩:=a;obtain⟨c,rfl⟩:=b;exact isub_int ⟨.int _,H,I.tok _,⟨_,rfl⟩,q⟩
end
section
variable{X:Cx}{pos:Pos}
def ED(c:TT)(f:TS):TS:=fun D σ H=>∃W:Nat->St->Hp->Prop,(∃m,W m σ H)/\∀m σ H,W m σ H->
 c σ H fun b H1=>if b=LC then ∃N:St->Hp->Prop,(∀a d,N a d->∃e,e<m/\W e a d)/\f { D with nx:=N,ct:=N,bk:=D.nx } σ H1 else D.nx σ H1
theorem wX{c:Expr}{body:List Stmt}{tc:TT}{t:TS}(u:PassesOwn (IC X.prog X.w) X.A X.env X.xe)(C:PT X c tc)(E:PSs X body t):PS X (.While c body [] pos) (ED tc t):=by
 intro pins s σ H D I h;obtain⟨W,⟨F,G⟩,g⟩:=h;refine wpAny_While (codeAny_whileLoop (fun n J=>∃i x,Inv X pins i x J/\W n i x) ?_ F ⟨σ,H,I,G⟩);rintro n K ⟨d,H1,L,M⟩;refine KD u (thn (C pins K d H1 _ L (g n d H1 M)) fun b O e=>?_);obtain⟨y,z,k⟩:=e;cases b with
 |true=>
  obtain⟨N,B,k⟩:=k
  rw[LG rfl]
  refine KD u (thn (E pins O d y _ z k) fun f P l=>?_)
  cases f with
  |next=>
   obtain⟨a,j,m,o⟩:=l
   obtain⟨p,q,r⟩:=B a j o
   exact⟨p,q,a,j,m,r⟩
  |cont=>
   obtain⟨a,j,m,o⟩:=l
   obtain⟨p,q,r⟩:=B a j o
   exact⟨p,q,a,j,m,r⟩
  |brk=>exact l
  |ret v=>exact l
 |false=>
  rw[LF Iq]
  exact wpAny_execs_nil ⟨d,y,z,k⟩
end
structure It where
 go:Nat->Hp->Prop
 yld:Nat->Hp->V->Hp->Prop
 stop:Nat->Hp->Prop
def cB(X:Cx)(pins:List (Addr×Obj))(H:Hp)(b:Addr):Prop:=
 H b=LB/\b≠X.env.locals/\b∉X.fs/\(b∈X.ex\/X.s₀.heap.objs.size<=b)/\(∀x c,X.env.cells.lookup x=LA c->c≠b)/\∀p∈X.pn++pins,p.1≠b
theorem Inv.om{X:Cx}{pins:List (Addr×Obj)}{σ:St}{H d:Hp}{s:HZ}{b:Addr}(I:Inv X pins σ H s)(a:s.heap.objs.size<=b)(f:d b=LB):cB X pins d b:=by
 refine⟨f,Nat.ne_of_gt (IM I.lt a),I.G7 a,.inr (Jp I.sz a),fun x c e z=>?_,fun p g z=>?_⟩
 ·obtain⟨v,q⟩:=I.cell x c e;exact absurd (IM q.lt (by rw[z];exact a)) (Nat.lt_irrefl _)
 ·exact absurd (IM (Iy (I.pin p g).1) (by rw[z];exact a)) (Nat.lt_irrefl _)
structure Turn(P:IH)(w:J5)(K:H0)(tg:Expr)(J:It)(fp:List Addr)(it:Addr)(tn:Nat->Heap->Prop):Prop where
 mem:it∈fp
 obj:∀i h,tn i h->∀b∈fp,∃o,h.get? b=LA o/\∀v,o.data≠.cell v
 keep:∀i h h',tn i h->(∀b∈fp,∀o,h.get? b=LA o->h'.get? b=LA o)->tn i h'
 item:∀(X:Cx),X.prog=P->X.w=w->X.K=K->X.calm=LC->∀(i:Nat) (pins:List (Addr×Obj)) (s:HZ) (σ:St) (H:Hp) (E:HY->HZ->Prop),Inv X pins σ H s->(∀b∈fp,cB X pins H b)->tn i s.heap->J.go i H->
  Im (IC P w) X.A (pyNext (.ref it)) (fun r s1=>∃u,r=LA u/\
   Im (IC P w) X.A (K5 tg (.ref it) u) (fun _ s2=>∃x H',Inv X pins σ H' s2/\RelV x u/\J.yld i H x H'/\tn (i+1) s2.heap/\∀b∈fp,H' b=LB) E s1) E s
 done:∀(X:Cx),X.prog=P->X.w=w->X.K=K->X.calm=LC->∀(i:Nat) (pins:List (Addr×Obj)) (s:HZ) (σ:St) (H:Hp) (E:HY->HZ->Prop),Inv X pins σ H s->(∀b∈fp,cB X pins H b)->tn i s.heap->J.stop i H->
  Im (IC P w) X.A (pyNext (.ref it)) (fun r s1=>r=LB/\Inv X pins σ H s1) E s
 self:∀(A:Jd) (i:Nat) (s:HZ) (Q:HY->HZ->Prop) (E:HY->HZ->Prop),tn i s.heap->Q (.ref it) s->Im (IC P w) A (pyIter (.ref it)) Q E s
abbrev TI:=St->Hp->(It->Hp->Prop)->Prop
def PIE(X:Cx)(pins:List (Addr×Obj))(σ:St)(tg:Expr)(R:It->Hp->Prop)(a:HY)(d:HZ):Prop:=
 ∃(it:Addr) (fp:List Addr) (tn:Nat->Heap->Prop) (J:It) (c:Hp),a=.ref it/\Inv X pins σ c d/\Turn X.prog X.w X.K tg J fp it tn/\tn 0 d.heap/\(∀b∈fp,cB X pins c b)/\R J c
def PI(X:Cx)(tg a:Expr)(b:TI):Prop:=
 ∀(pins:List (Addr×Obj)) (s:HZ) (σ:St) (H:Hp) (R:It->Hp->Prop),Inv X pins σ H s->b σ H R->
  Im (IC X.prog X.w) X.A (eval a X.env) (fun v c=>Im (IC X.prog X.w) X.A (pyIter v) (PIE X pins σ tg R) X.xe c) X.xe s
theorem xa{M:Model}{A:Jd}{E:HY->HZ->Prop}{s:HZ}{tg:Expr}{it:Addr}{u:HY}{o:Obj}{n:String}{vs:Array HY}{Q:Unit->HZ->Prop}(b:s.heap.get? it=LA o)(c:o.cls=.type n)(hd:o.data=.fields vs) (d:["enumerate","zip","dict_itemiterator","dict_reverseitemiterator","odict_iterator","itertools.zip_longest","itertools.pairwise"].contains n=LD) (a:Q .unit s):Im M A (K5 tg (.ref it) u) Q E s:=by
 unfold K5
 cases tg<;>first
  |exact I0 a
  |(cases u<;>first
   |exact I0 a
   |(refine cc (wpAny_load b ?_)
     rw[c,hd]
     show Im M A (if(["enumerate","zip","dict_itemiterator","dict_reverseitemiterator","odict_iterator","itertools.zip_longest","itertools.pairwise"].contains n&&vs[0]?==LA (rawInt _))=LC then _ else _) Q E s
     rw[LF (by intro h;rw[d,J7]at h;cases h)]
     exact I0 a))
def Itl(K:H0)(a:Addr):It:=
 ⟨fun i H=>∃xs x,SqL K H a xs/\xs[i]?=LA x,fun i H x b=>b=H/\∀xs,SqL K H a xs->xs[i]?=LA x,fun i H=>∃xs,SqL K H a xs/\xs.length<=i⟩
def Itt(K:H0)(a:Addr):It:=
 ⟨fun i H=>∃xs x,SqT K H a xs/\xs[i]?=LA x,fun i H x b=>b=H/\∀xs,SqT K H a xs->xs[i]?=LA x,fun i H=>∃xs,SqT K H a xs/\xs.length<=i⟩
def Itr(a:Int)(n:Nat):It:=⟨fun i _=>i<n,fun i H x b=>b=H/\x=.int (a+i),fun i _=>n<=i⟩
theorem vK{P:IH}{w:J5}{K:H0}{tg:Expr}(a it:Addr):Turn P w K tg (Itl K a) [it] it (fun i h=>h.IsListIter it a i) where
 mem:=by simp
 obj:=fun i h st b f=>by
  have e:b=it:=by simpa using f
  subst e
  obtain⟨o,e,c,d⟩:=st
  exact⟨o,e,fun v z=>by rw[d]at z;cases z⟩
 keep:=fun i h j st k=>st.at fun o e=>k it (by simp) o e
 item:=by
  intro X n q r L i pins s σ H E I l st t
  subst n q r
  obtain⟨xs,x,m,y⟩:=t
  obtain⟨A,B,p,M⟩:=I.list m
  obtain⟨u,N,O⟩:=B.get y
  obtain⟨C,D,Q,F,G,J⟩:=l it (by simp)
  refine wpAny_pyNext_list_item st p.isList (x:=u) (by simpa using N) fun j g R=>?_
  have S:Inv X pins σ H { s with heap:=j }:=I.turned (t':=s.toks) (fun b o f e=>(R.2 b f).trans e) C D F G J
  obtain⟨o,e,c,d⟩:=id g
  exact⟨u,rfl,xa (s:={ s with heap:=j }) e c d ⋯ ⟨x,H,S,O,⟨rfl,fun U T=>by rw[I.gc T m];exact y⟩,g,fun b f=>(l b f).1⟩⟩
 done:=by
  intro X n q r L i pins s σ H E I l st t
  subst n q r
  obtain⟨xs,m,y⟩:=t
  obtain⟨A,B,p,M⟩:=I.list m
  obtain⟨C,D,Q,F,G,J⟩:=l it (by simp)
  have V:=B.length
  exact wpAny_pyNext_list_end (I.ok.hd L) st p.isList (by simp;omega) fun j eb=>⟨rfl,I.turned (t':=s.toks) (fun b o f e=>eb b o f e) C D F G J⟩
 self:=fun _ _ _ _ _ st h=>wpAny_pyIter_listiter st h
theorem tQ{P:IH}{w:J5}{K:H0}{tg:Expr}(a it:Addr):Turn P w K tg (Itt K a) [it] it (fun i h=>h.IsTupleIter it a i) where
 mem:=by simp
 obj:=fun i h st b f=>by
  have e:b=it:=by simpa using f
  subst e
  obtain⟨o,e,c,d⟩:=st
  exact⟨o,e,fun v z=>by rw[d]at z;cases z⟩
 keep:=fun i h l st k=>st.at fun o e=>k it (by simp) o e
 item:=by
  intro X q r t L i pins s σ H E I m st y
  subst q r t
  obtain⟨xs,x,n,A⟩:=y
  obtain⟨g,B,p,M⟩:=I.tuple n
  obtain⟨u,N,O⟩:=B.get A
  obtain⟨C,D,Q,F,G,J⟩:=m it (by simp)
  refine wpAny_pyNext_tuple_item st (show s.heap.IsTuple a g.toArray from p) (x:=u) (by simpa using N) fun l j R=>?_
  have S:Inv X pins σ H { s with heap:=l }:=I.turned (t':=s.toks) (fun b o f e=>(R.2 b f).trans e) C D F G J
  obtain⟨o,e,c,d⟩:=id j
  exact⟨u,rfl,xa (s:={ s with heap:=l }) e c d ⋯ ⟨x,H,S,O,⟨rfl,fun U T=>by rw[I.oe T n];exact A⟩,j,fun b f=>(m b f).1⟩⟩
 done:=by
  intro X q r t L i pins s σ H E I m st y
  subst q r t
  obtain⟨xs,n,A⟩:=y
  obtain⟨g,B,p,M⟩:=I.tuple n
  obtain⟨C,D,Q,F,G,J⟩:=m it (by simp)
  have V:=B.length
  exact wpAny_pyNext_tuple_end (I.ok.hd L) st (show s.heap.IsTuple a g.toArray from p) (by simp;omega) fun l eb=>⟨rfl,I.turned (t':=s.toks) (fun b o f e=>eb b o f e) C D F G J⟩
 self:=fun _ _ _ _ _ st h=>wpAny_pyIter_tupleiter st h
theorem sF{P:IH}{w:J5}{K:H0}{tg:Expr}(it:Addr)(d:Int)(n:Nat):Turn P w K tg (Itr d n) [it] it (fun i h=>IsRangeIter h it (d+(i:Nat)*1) ((n:Int)-(i:Nat)) 1) where
 mem:=by simp
 obj:=fun i h st b a=>by
  have e:b=it:=by simpa using a
  subst e
  exact⟨_,st,fun v z=>by
   have C:Data.fields _=Data.cell v:=z
   cases C⟩
 keep:=fun i h f st k=>k it (by simp) _ st
 item:=by
  intro X j l m p i pins s σ H E I g st q
  subst j l m
  obtain⟨r,u,D,x,y,A⟩:=g it (by simp)
  have W:=Walks.range (prog:=X.prog) (w:=X.w) (I.ok.hd p) it d 1 n
  refine W.item i s _ _ q st fun v f B F c G=>?_
  obtain⟨t,rfl⟩:=F
  have J:Inv X pins σ H { s with heap:=f,toks:=B }:=I.turned (fun b o a e=>G b o (by simpa using a) e) r u x y A
  refine⟨_,rfl,xa (s:={ s with heap:=f,toks:=B }) (n:="range_iterator") c rfl rfl ⋯ ⟨.int (d+i),H,J,⟨t,?_⟩,⟨rfl,rfl⟩,c,fun b a=>(g b a).1⟩⟩
  rw[Int.mul_one]
 done:=by
  intro X j l m p i pins s σ H E I g st q
  subst j l m
  obtain⟨r,u,D,x,y,A⟩:=g it (by simp)
  exact wpAny_pyNext_range_end (I.ok.hd p) st (by have:n<=i:=q;omega) fun f eb=>⟨rfl,I.turned (t':=s.toks) (fun b o a e=>eb b o a e) r u x y A⟩
 self:=fun _ _ _ _ _ st h=>wpAny_pyIter_rangeiter st h
section
variable{X:Cx}{tg:Expr}
theorem yV{pins:List (Addr×Obj)}{σ:St}{H:Hp}{s:HZ}{R:It->Hp->Prop}{E:HY->HZ->Prop}{a c:Int}{t u v:Tok}{tk:Nat}(I:Inv X pins σ H s)(f:-(2^62)<=a)(g:a<2^62)(h:-(2^62)<=c)(i:c<2^62)
 (q:R (Itr a (c-a).toNat) H):Im (IC X.prog X.w) X.A (pyIter (.ref s.heap.objs.size)) (PIE X pins σ tg R) E { s with heap:=s.heap.push { cls:=.type "range",data:=.fields #[.int a t,.int c u,.int 1 v] },toks:=tk }:=by
 refine wpAny_pyIter_range (IsRange.new ..) (small_one f g h i) ?_
 have d:Inv X pins σ H { s with heap:=s.heap.push { cls:=.type "range",data:=.fields #[.int a t,.int c u,.int 1 v] },toks:=tk }:=I.kept fun b o e=>Ib _ e
 refine⟨(s.heap.push { cls:=.type "range",data:=.fields #[.int a t,.int c u,.int 1 v] }).objs.size,[(s.heap.push { cls:=.type "range",data:=.fields #[.int a t,.int c u,.int 1 v] }).objs.size],_,_,H,rfl,
  d.kept (t':=tk) fun b o e=>Ib _ e,sF _ a (c-a).toNat,?_,fun b j=>?_,q⟩
 ·have e1:a+((0:Nat):Int)*1=a:=by simp
  have e2:(((c-a).toNat:Nat):Int)-((0:Nat):Int)=Builtin.Range.rangeSize a c 1:=by rw[rangeSize_one];split<;>omega
  show IsRangeIter _ _ (a+((0:Nat):Int)*1) ((((c-a).toNat:Nat):Int)-((0:Nat):Int)) 1
  rw[e1,e2]
  exact Ik _ rfl
 ·have e:b=(s.heap.push { cls:=.type "range",data:=.fields #[.int a t,.int c u,.int 1 v] }).objs.size:=by simpa using j
  subst e
  exact d.om (Ic _) (d.hok.fresh (Ic _))
def Fu(a:TA):TI:=fun σ H R=>a σ H fun vs H1=>∃j:Int,vs=[.int j]/\-(2^62)<=j/\j<2^62/\R (Itr 0 j.toNat) H1
theorem wA{a:Expr}{d:TA}{p pos:Pos}(f:Gl X "range")(g:X.mg "range"=LB)(i:PA X [a] d)(k:Iz [a] X.env=[(LD,eval a X.env)]:=by rfl):PI X tg (.Call (.Name "range" p) [a] [] pos) (Fu d):=by
 intro pins s σ H R I h;refine Call_ (iI I f g boot_range (JY (thn (i pos pins s σ H _ I h) fun us u b=>?_) k rfl));obtain⟨vs,H1,l,m,c⟩:=b;obtain⟨j,e,c,n,q⟩:=c;subst e;cases m with
 |cons r o=>
  cases o
  obtain⟨t,rfl⟩:=r
  exact call_range_1 (yV l () () c n (by simpa using q))
def Hs(e:TI)(g:TG)(f:TS):TS:=fun D σ H=>e σ H fun J H1=>∃W:Nat->Nat->St->Hp->Prop,(∃m,W 0 m σ H1)/\∀i m σ H,W i m σ H->
 (J.stop i H/\D.nx σ H)\/(J.go i H/\∃N:St->Hp->Prop,(∀a b,N a b->∃d,d<m/\W (i+1) d a b)/\∀x b,J.yld i H x b->g x σ b fun c h=>f { D with nx:=N,ct:=N,bk:=D.nx } c h)
def gH(fp:List Addr)(h:Heap):List (Addr×Obj):=fp.filterMap fun b=>(h.get? b).map fun o=>(b,o)
theorem bP{fp:List Addr}{h:Heap}{b:Addr}{o:Obj}(a:b∈fp)(e:h.get? b=LA o):(b,o)∈gH fp h:=List.mem_filterMap.mpr ⟨b,a,by rw[e];rfl⟩
theorem vU{fp:List Addr}{h:Heap}{p:Addr×Obj}(a:p∈gH fp h):p.1∈fp/\h.get? p.1=LA p.2:=by
 obtain⟨b,c,e⟩:=List.mem_filterMap.mp a;cases q:h.get? b with
 |none=>rw[q]at e;cases e
 |some o=>
  rw[q]at e
  have d:(b,o)=p:=Option.some.inj e
  subst d
  exact⟨c,q⟩
theorem Inv.pinned{pins:List (Addr×Obj)}{σ:St}{H:Hp}{s:HZ}{fp:List Addr}(I:Inv X pins σ H s)(f:∀b∈fp,cB X pins H b)(g:∀b∈fp,∃o,s.heap.get? b=LA o/\∀v,o.data≠.cell v):Inv X (pins++gH fp s.heap) σ H s:=
 I.uT fun p h=>(IL.mp h).elim (fun z=>I.pin p (IA _ z)) fun z=>by
  obtain⟨a,e⟩:=vU z
  obtain⟨i,j,k,_⟩:=f p.1 a
  obtain⟨o,c,d⟩:=g p.1 a
  rw[e]at c;cases c
  exact⟨e,i,j,k,d⟩
theorem Inv.eB{pins a:List (Addr×Obj)}{σ:St}{H:Hp}{s:HZ}(I:Inv X (pins++a) σ H s):Inv X pins σ H s:=I.uT fun p b=>I.pin p (IA _ (List.mem_append_left _ b))
theorem yn{c:Expr}{body:List Stmt}{Y:TI}{g:TG}{Z:TS}{pos:Pos}(K:PassesOwn (IC X.prog X.w) X.A X.env X.xe)(hc:X.calm=LC)(hi:PI X tg c Y)(hg:PG X tg g)(j:PSs X body Z)
 (hs:∀x,IW c X.env x=pure x:=by intro _;rfl):PS X (.For tg c body [] pos) (Hs Y g Z):=by
 intro pins s σ H D I h
 refine wpAny_For (thn (hi pins s σ H _ I h) fun v s1 h1=>thn h1 fun a0 s2 h2=>?_) hs
 obtain⟨it,fp,tn,J,H2,e,I2,T,st2,f2,W,⟨m0,w0⟩,L⟩:=h2
 subst e
 have k:∀{z:Hp},(∀b∈fp,z b=LB)->∀b∈fp,cB X pins z b:=fun hn b j=>⟨hn b j,(f2 b j).2⟩
 refine codeAny_forLoop_any (fun n s'=>∃i l z,Inv X pins l z s'/\tn i s'.heap/\(∀b∈fp,z b=LB)/\W i n l z) ?_ m0 ⟨0,σ,H2,I2,st2,fun b j=>(f2 b j).1,w0⟩
 rintro n s3 ⟨i,p,P,I3,st3,M,w3⟩
 rcases L i n p P w3 with⟨stop,qn⟩|⟨go,N,hN,step⟩
 ·refine KD K (thn (T.done X rfl rfl rfl hc i pins s3 p P X.xe I3 (k M) st3 stop) fun r s4 B=>?_)
  obtain⟨Q,I4⟩:=B
  subst Q
  exact wpAny_execs_nil ⟨p,P,I4,qn⟩
 ·refine KD K (thn (T.item X rfl rfl rfl hc i pins s3 p P X.xe I3 (k M) st3 go) fun r s4 C=>?_)
  obtain⟨u,Q,h4⟩:=C
  subst Q
  refine KD K (thn h4 fun _ s5 E=>?_)
  obtain⟨x,H5,I5,r5,y5,st5,R⟩:=E
  have S:=I5.pinned (k R) (T.obj _ _ st5)
  refine KD K (thn (hg _ s5 p H5 x u _ S r5 (step x H5 y5)) fun _ s6 F=>?_)
  obtain⟨U,H6,I6,q6⟩:=F
  refine KD K (thn (j _ s6 U H6 _ I6 q6) fun f V G=>?_)
  have q:∀{a:St} {t:Hp},Inv X (pins++gH fp s5.heap) a t V->N a t->∃m,m<n/\∃i l z,Inv X pins l z V/\tn i V.heap/\(∀b∈fp,z b=LB)/\W i m l z:=fun{a t} y O=>by
   obtain⟨m',hm,w7⟩:=hN a t O
   refine⟨m',hm,i+1,a,t,y.eB,T.keep _ _ _ st5 fun b j o e=>(y.pin (b,o) (IA _ (IA _ (bP j e)))).1,fun b j=>?_,w7⟩
   obtain⟨o,e,d⟩:=T.obj _ _ st5 b j
   exact(y.pin (b,o) (IA _ (IA _ (bP j e)))).2.1
  cases f with
  |next=>obtain⟨a,t,y,O⟩:=G;exact q y O
  |cont=>obtain⟨a,t,y,O⟩:=G;exact q y O
  |brk=>obtain⟨a,t,y,G⟩:=G;exact⟨a,t,y.eB,G⟩
  |ret v=>obtain⟨x7,a,t,y,r7,G⟩:=G;exact⟨x7,a,t,y.eB,r7,G⟩
end
theorem vm{h:Int}{n:Nat}{g:TG}{k:TS}{D:Ends}{σ:St}{H:Hp}(a:Nat->St->Hp->Prop)(o:a 0 σ H)
 (q:∀i σ H,i<n->a i σ H->g (.int (h+i)) σ H fun b j=>k { D with nx:=a (i+1),ct:=a (i+1),bk:=D.nx } b j) (hd:∀σ H,a n σ H->D.nx σ H) :
 ∃W:Nat->Nat->St->Hp->Prop,(∃m,W 0 m σ H)/\∀i m σ H,W i m σ H->
  ((Itr h n).stop i H/\D.nx σ H)\/((Itr h n).go i H/\∃N:St->Hp->Prop,(∀c d,N c d->∃l,l<m/\W (i+1) l c d)/\∀x d,(Itr h n).yld i H x d->g x σ d fun b j=>k { D with nx:=N,ct:=N,bk:=D.nx } b j):=by
 refine⟨fun i m σ H=>m=n-i/\i<=n/\a i σ H,⟨n,by simp,JA _,o⟩,?_⟩
 rintro i m σ H ⟨rfl,s,p⟩
 by_cases f:i<n
 ·refine .inr ⟨f,a (i+1),fun c d r=>⟨n-(i+1),(),rfl,f,r⟩,fun x d y=>?_⟩
  obtain⟨e,y⟩:=y
  subst e y
  exact q i σ _ f p
 ·have e:i=n:=()
  subst e
  exact .inl ⟨Ic _,hd σ H p⟩
abbrev R2:=V->V->Hp->VK->Prop
def OpR(X:Cx)(f:HY->HY->Sem HY)(r:R2):Prop:=
 ∀(pins:List (Addr×Obj)) (s:HZ) (σ:St) (H:Hp) (x y:V) (v u:HY) (Q:VK),Inv X pins σ H s->RelV x v->RelV y u->r x y H Q->
  Im (IC X.prog X.w) X.A (f v u) (EP X pins σ Q) X.xe s
def UnR(X:Cx)(f:HY->Sem HY)(r:V->Hp->VK->Prop):Prop:=
 ∀(pins:List (Addr×Obj)) (s:HZ) (σ:St) (H:Hp) (x:V) (v:HY) (Q:VK),Inv X pins σ H s->RelV x v->r x H Q->
  Im (IC X.prog X.w) X.A (f v) (EP X pins σ Q) X.xe s
def cG(X:Cx)(f:HY)(r:List V->Hp->VK->Prop):Prop:=
 ∀(pins:List (Addr×Obj)) (s:HZ) (σ:St) (H:Hp) (xs:List V) (us:List HY) (Q:VK),Inv X pins σ H s->Vals xs us->r xs H Q->
  Im (IC X.prog X.w) X.A (call f us) (EP X pins σ Q) X.xe s
def Ho(X:Cx)(r:V->Hp->(Bool->Hp->Prop)->Prop):Prop:=
 ∀(pins:List (Addr×Obj)) (s:HZ) (σ:St) (H:Hp) (x:V) (v:HY) (Q:Bool->Hp->Prop),Inv X pins σ H s->RelV x v->r x H Q->
  Im (IC X.prog X.w) X.A (truthy v) (TP X pins σ Q) X.xe s
def tOp(r:R2)(a b:TE):TE:=fun σ H Q=>a σ H fun x H1=>b σ H1 fun y c=>r x y c Q
def tUn(r:V->Hp->VK->Prop)(a:TE):TE:=fun σ H Q=>a σ H fun x H1=>r x H1 Q
def rI(C:Int->Int->Prop)(g:Int->Int->V):R2:=fun x y H Q=>∃i j,x=.int i/\y=.int j/\C i j/\Q (g i j) H
def rI0(g:Int->Int->V):R2:=fun x y H Q=>∃i j,x=.int i/\y=.int j/\Q (g i j) H
def rU(g:Int->V):V->Hp->VK->Prop:=fun x H Q=>∃i,x=.int i/\Q (g i) H
section
variable{X:Cx}{a b c:Expr}{ta tb tc:TE}{pos:Pos}
theorem DV(l:PE X a ta)(m:PE X b tb){pins:List (Addr×Obj)}{s:HZ}{σ:St}{H:Hp}{R:V->V->Hp->Prop}(I:Inv X pins σ H s) (h:ta σ H fun x H1=>tb σ H1 fun y g=>R x y g) {Q:HY->HZ->Prop} {f:HY->HY->Sem HY} (n:∀v u k x y g,Inv X pins σ g k->RelV x v->RelV y u->R x y g->Im (IC X.prog X.w) X.A (f v u) Q X.xe k) : Im (IC X.prog X.w) X.A (eval a X.env) (fun v i=>Im (IC X.prog X.w) X.A (eval b X.env) (fun u j=>Im (IC X.prog X.w) X.A (f v u) Q X.xe j) X.xe i) X.xe s:=by refine thn (l pins s σ H _ I h) fun v o d=>?_;obtain⟨x,H1,p,q,r⟩:=d;refine thn (m pins o σ H1 _ p r) fun u k e=>?_;obtain⟨y,g,t,z,B⟩:=e;exact n v u k x y g t q z B
theorem FP{op:Operator}{r:R2}(d:OpR X (Kb op) r)(e:PE X a ta)(f:PE X b tb):PE X (.BinOp a op b pos) (tOp r ta tb):=by intro pins s σ H Q I h;exact wpAny_BinOp (DV e f I h fun v u g x y i j k l q=>d pins g σ i x y v u Q j k l q)
theorem Fs{op:UnaryOp}{r:V->Hp->VK->Prop}(e:UnR X (unaryOp op) r)(f:PE X a ta):PE X (.UnaryOp op a pos) (tUn r ta):=by intro pins s σ H Q I h;exact UnaryOp_ (thn (f pins s σ H _ I h) fun v g d=>by obtain⟨x,H1,i,j,k⟩:=d;exact(e pins g σ H1 x v Q i j k))
theorem opI{f:HY->HY->Sem HY}{C:Int->Int->Prop}{g:Int->Int->Int} (d:∀(i j:Int) (t u:Tok) (s:HZ) (Q:HY->HZ->Prop) (E:HY->HZ->Prop),C i j->Q (.int (g i j) s.toks) { s with toks:=s.toks+1 }->Im (IC X.prog X.w) X.A (f (.int i t) (.int j u)) Q E s) : OpR X f (rI C fun i j=>.int (g i j)):=by intro pins s σ H x y v u Q I e k h;obtain⟨i,j,rfl,rfl,l,q⟩:=h;obtain⟨t,rfl⟩:=e;obtain⟨m,rfl⟩:=k;exact d i j t m s _ _ l ⟨.int (g i j),H,I.tok _,⟨_,rfl⟩,q⟩
theorem Eb{f:HY->HY->Sem HY}{g:Int->Int->Int} (d:∀(i j:Int) (t u:Tok) (s:HZ) (Q:HY->HZ->Prop) (E:HY->HZ->Prop),Q (.int (g i j) s.toks) { s with toks:=s.toks+1 }->Im (IC X.prog X.w) X.A (f (.int i t) (.int j u)) Q E s) : OpR X f (rI0 fun i j=>.int (g i j)):=by intro pins s σ H x y v u Q I e k h;obtain⟨i,j,rfl,rfl,q⟩:=h;obtain⟨t,rfl⟩:=e;obtain⟨l,rfl⟩:=k;exact d i j t l s _ _ ⟨.int (g i j),H,I.tok _,⟨_,rfl⟩,q⟩
theorem Az{f:HY->HY->Sem HY}{g:Int->Int->Bool} (d:∀(i j:Int) (t u:Tok) (s:HZ) (Q:HY->HZ->Prop) (E:HY->HZ->Prop),Q (.bool (g i j)) s->Im (IC X.prog X.w) X.A (f (.int i t) (.int j u)) Q E s) : OpR X f (rI0 fun i j=>.bl (g i j)):=by intro pins s σ H x y v u Q I e k h;obtain⟨i,j,rfl,rfl,q⟩:=h;obtain⟨t,rfl⟩:=e;obtain⟨l,rfl⟩:=k;exact d i j t l s _ _ ⟨.bl (g i j),H,I,rfl,q⟩
def Ga(i j:Int):Prop:=0<=j/\j<=1000000/\i.natAbs<2^64
theorem Dq:OpR X (Kb .Add) (rI0 fun i j=>.int (i+j)):=Eb fun _ _ _ _ _ _ _ q=>add_int q
theorem CO:OpR X (Kb .Sub) (rI0 fun i j=>.int (i-j)):=Eb fun _ _ _ _ _ _ _ q=>sub_int q
theorem Af:OpR X (Kb .Mod) (rI (fun _ j=>j≠0) fun i j=>.int (i.fmod j)):=opI fun _ _ _ _ _ _ _ d q=>mod_int' d q
theorem EI:OpR X (Kb .Pow) (rI Ga fun i j=>.int (i^j.toNat)):=opI fun _ _ _ _ _ _ _ d q=>pow_int_small d.1 d.2.1 d.2.2 q
theorem Ek:OpR X (Kb .BitXor) (rI0 fun i j=>.int (Builtin.bitXor i j)):=Eb fun _ _ _ _ _ _ _ q=>xor_int q
theorem unI{f:HY->Sem HY}{g:Int->Int} (d:∀(i:Int) (t:Tok) (s:HZ) (Q:HY->HZ->Prop) (E:HY->HZ->Prop),Q (.int (g i) s.toks) { s with toks:=s.toks+1 }->Im (IC X.prog X.w) X.A (f (.int i t)) Q E s) : UnR X f (rU fun i=>.int (g i)):=by intro pins s σ H x v Q I e h;obtain⟨i,rfl,q⟩:=h;obtain⟨t,rfl⟩:=e;exact d i t s _ _ ⟨.int (g i),H,I.tok _,⟨_,rfl⟩,q⟩
theorem Ec:UnR X (unaryOp .USub) (rU fun i=>.int (-i)):=unI fun _ _ _ _ _ q=>neg_int q
end
section
variable{X:Cx}{a b c:Expr}{ta tb tc:TE}{pos:Pos}
theorem Gj:OpR X (IY .Lt) (rI0 fun i j=>.bl (decide (i<j))):=Az fun _ _ _ _ _ _ _ q=>lt_int q
theorem GY:OpR X (IY .LtE) (rI0 fun i j=>.bl (decide (i<=j))):=Az fun _ _ _ _ _ _ _ q=>le_int q
theorem FQ:OpR X (IY .Gt) (rI0 fun i j=>.bl (decide (j<i))):=Az fun _ _ _ _ _ _ _ q=>gt_int q
theorem Gd:OpR X (IY .GtE) (rI0 fun i j=>.bl (decide (j<=i))):=Az fun _ _ _ _ _ _ _ q=>ge_int q
theorem OpR.or{f:HY->HY->Sem HY}{r d:R2}(h:OpR X f r)(h':OpR X f d):OpR X f (fun x y H Q=>r x y H Q\/d x y H Q):=by
 intro pins s σ H x y v u Q I e g q;rcases q with q|q
 ·exact h pins s σ H x y v u Q I e g q
 ·exact h' pins s σ H x y v u Q I e g q
theorem zH(b:Expr){op:CmpOp}(h:op≠.In:=by decide)(d:op≠.NotIn:=by decide):KR op b=LD:=by
 have e1:(op==CmpOp.In)=LD:=by cases op<;>first|rfl|exact absurd rfl h
 have e2:(op==CmpOp.NotIn)=LD:=by cases op<;>first|rfl|exact absurd rfl d
 cases b<;>simp[KR,e1,e2]
theorem Bf{op:CmpOp}{r:R2}(d:OpR X (IY op) r)(e:PE X a ta)(f:PE X b tb)(g:KR op b=LD):PE X (.Compare a [op] [b] pos) (tOp r ta tb):=by intro pins s σ H Q I h;exact wpAny_Compare1 (DV e f I h fun v u i x y j k l m q=>d pins i σ j x y v u Q k l m q) g
def B7(t:TE):TT:=fun σ H Q=>t σ H fun x d=>∃k,x=.bl k/\Q k d
theorem BD{op:CmpOp}{r:R2}(d:OpR X (IY op) r)(f:PE X a ta)(g:PE X b tb)(i:KR op b=LD):PT X (.Compare a [op] [b] pos) (B7 (tOp r ta tb)):=by intro pins s σ H Q I h;refine wpAny_isTrue_Compare1 (thn (f pins s σ H _ I h) fun v j ⟨x,H1,l,m,n⟩=>thn (g pins j σ H1 _ l n) fun u o ⟨y,p,q,t,w⟩=>thn (d pins o σ p x y v u _ q m t w) fun c E ⟨z,A,B,C,k,e,D⟩=>?_) i;subst e;cases C;exact JB ⟨A,B,D⟩
def Cm(r e:R2)(ta tb tc:TE):TE:=fun σ H Q=>ta σ H fun x H1=>tb σ H1 fun y f=>r x y f fun z d=>∃k,z=.bl k/\
 (if k=LC then tc σ d fun g h=>e y g h Q else Q (.bl LD) d)
theorem yH{op g:CmpOp}{r j:R2}(p:OpR X (IY op) r)(i:OpR X (IY g) j)(q:PE X a ta)(t:PE X b tb)(w:PE X c tc) (A:lastMarks [op,g] [b,c]=LD:=by with_unfolding_all rfl):PE X (.Compare a [op,g] [b,c] pos) (Cm r j ta tb tc):=by
 intro pins s σ H Q I h;refine Compare_chain (thn (q pins s σ H _ I h) fun v B ⟨x,H1,C,D,E⟩=>chain_link (thn (t pins B σ H1 _ C E) fun u F ⟨y,G,J,l,K⟩=>thn (p pins F σ G x y v u _ J D l K) fun d L ⟨z,m,n,M,k,e,o⟩=>?_)) A;subst e;cases M;refine JB ?_;cases k with
 |false=>exact ite_ff ⟨.bl LD,m,n,rfl,o⟩
 |true=>exact ite_tt (chain_last (thn (w pins L σ m _ n o) fun N O f=>by obtain⟨P,R,S,T,U⟩:=f;exact(i pins O σ R y P u N Q S l T U)))
def F7(K:H0)(x:V)(H:Hp)(k:Bool):Prop:=
 match x with
 |.non=>k=LD
 |.bl b=>k=b
 |.int i=>k=(i != 0)
 |.str y=>y.length<=Ir/\k=((y.length:Int) != 0)
 |.byt y=>y.size<=Ir/\k=((y.size:Int) != 0)
 |.ref p=>(∃xs,SqL K H p xs/\k=!xs.isEmpty)\/(∃xs,SqT K H p xs/\k=!xs.isEmpty)\/∃kvs,H p=LA (.dK kvs)/\k=!kvs.isEmpty
 |_=>False
theorem si{d:Type}{kvs:List (d×V)}{vs:List (d×HY)}(r:KV kvs vs):(!vs.isEmpty)=!kvs.isEmpty:=by cases r<;>rfl
theorem kQ{xs:List V}{d:List HY}(r:Vals xs d):(!d.toArray.isEmpty)=!xs.isEmpty:=by cases r<;>simp
theorem jA:(Ir:Nat)<2^63:=by rw[sizeLine_eq];decide
theorem EN:Ho X (fun x H Q=>∃k,F7 X.K x H k/\Q k H):=by
 intro pins s σ H x v Q I g h;obtain⟨k,e,q⟩:=h;have A:=jA;have B:Ir=16777216:=sizeLine_eq;cases x with
 |non=>
  cases g
  have d:k=LD:=e
  subst d
  exact truthy_none ⟨H,I,q⟩
 |bl b=>
  cases g
  have d:k=b:=e
  subst d
  exact JB ⟨H,I,q⟩
 |int i=>
  obtain⟨t,rfl⟩:=g
  have d:k=(i != 0):=e
  subst d
  exact PySem.P.truthy_int ⟨H,I,q⟩
 |str y=>
  obtain⟨t,rfl⟩:=g
  obtain⟨u,d⟩:y.length<=Ir/\k=((y.length:Int) != 0):=e
  subst d
  exact PySem.P.truthy_str () ⟨H,I.tok _,q⟩
 |byt y=>
  obtain⟨t,rfl⟩:=g
  obtain⟨u,d⟩:y.size<=Ir/\k=((y.size:Int) != 0):=e
  subst d
  exact PySem.W.truthy_bytes () ⟨H,I.tok _,q⟩
 |ref p=>
  cases g
  have d:(∃xs,SqL X.K H p xs/\k=!xs.isEmpty)\/(∃xs,SqT X.K H p xs/\k=!xs.isEmpty)\/∃kvs,H p=LA (.dK kvs)/\k=!kvs.isEmpty:=e
  rcases d with⟨xs,j,d⟩|⟨xs,j,d⟩|⟨kvs,j,d⟩
  ·subst d;obtain⟨l,r,n,o⟩:=I.list j;have f:=r.length;exact wpAny_truthy_list n.isList (by simp only[IB];omega) ⟨H,I.tok _,by rw[kQ r];exact q⟩
  ·subst d;obtain⟨l,r,n,o⟩:=I.tuple j;have f:=r.length;exact truthy_tuple n (by simp only[IB];omega) ⟨H,I.tok _,by rw[kQ r];exact q⟩
  ·subst d;obtain⟨o,z,vs,r,m⟩:kvs.length<=Ir/\(p==JU)=LD/\∃vs,KV kvs vs/\s.heap.DictOf (b7 X.prog X.w) p vs:=I.hok p _ j;have f:kvs.length=vs.length:=Paired.length r;exact wpAny_truthy_dict z m () ⟨H,I.tok _,by rw[si r];exact q⟩
 |_=>exact(show False from e).elim
theorem yJ(g:PE X a ta)(i:∀d,isTrue a X.env d=(do let v <-d;standAt a.pos;holding [v] (truthy v))) :
 PT X a (fun σ H Q=>ta σ H fun x f=>∃k,F7 X.K x f k/\Q k f):=by
 intro pins s σ H Q I h
 exact isTrue_plain (thn (g pins s σ H _ I h) fun v j e=>by obtain⟨x,H1,l,m,n⟩:=e;exact(EN pins j σ H1 x v Q l m n)) (i _)
theorem vals1{x:V}{us:List HY}(r:Vals [x] us):∃u,us=[u]/\RelV x u:=by
 cases r with
 |cons d e=>cases e;exact⟨_,rfl,d⟩
theorem vals2{x y:V}{us:List HY}(r:Vals [x,y] us):∃u d,us=[u,d]/\RelV x u/\RelV y d:=by
 cases r with
 |cons e f=>
  cases f with
  |cons g h=>cases h;exact⟨_,_,rfl,e,g⟩
theorem xt:cG X (.builtin "abs") (fun xs H Q=>∃i,xs=[.int i]/\Q (.int (if i<0 then -i else i)) H):=by intro pins s σ H xs us Q I r h;obtain⟨i,rfl,q⟩:=h;obtain⟨u,rfl,t,rfl⟩:=vals1 r;exact call_abs_int fun u d=>⟨.int (if i<0 then -i else i),H,I.tok _,⟨_,rfl⟩,q⟩
theorem vY(e:X.calm=LC):cG X (.builtin "max") (fun xs H Q=>∃i j,xs=[.int i,.int j]/\Q (.int (if j>i then j else i)) H):=by
 intro pins s σ H xs us Q I r h;obtain⟨i,j,rfl,q⟩:=h;obtain⟨u,f,rfl,⟨t,rfl⟩,⟨g,rfl⟩⟩:=vals2 r;refine max_two_ints (I.ok.hd e) fun l m k=>⟨_,H,I.kept k,?_,q⟩;by_cases d:j>i
 ·rw[LG d,LG d];exact⟨_,rfl⟩
 ·rw[LF d,LF d];exact⟨_,rfl⟩
theorem vH(e:X.calm=LC):cG X (.builtin "min") (fun xs H Q=>∃i j,xs=[.int i,.int j]/\Q (.int (if j<i then j else i)) H):=by
 intro pins s σ H xs us Q I r h;obtain⟨i,j,rfl,q⟩:=h;obtain⟨u,f,rfl,⟨t,rfl⟩,⟨g,rfl⟩⟩:=vals2 r;refine min_two_ints (I.ok.hd e) fun l m k=>⟨_,H,I.kept k,?_,q⟩;by_cases d:j<i
 ·rw[LG d,LG d];exact⟨_,rfl⟩
 ·rw[LF d,LF d];exact⟨_,rfl⟩
theorem wB:cG X (.type "int") (fun xs H Q=>(∃i,xs=[.int i]/\Q (.int i) H)\/∃k,xs=[.bl k]/\Q (.int (if k then 1 else 0)) H):=by
 intro pins s σ H xs us Q I r h;rcases h with⟨i,rfl,q⟩|⟨k,rfl,q⟩
 ·obtain⟨u,rfl,t,rfl⟩:=vals1 r;exact call_int_int ⟨.int i,H,I,⟨_,rfl⟩,q⟩
 ·obtain⟨u,rfl,d⟩:=vals1 r;cases d;exact call_int_bool ⟨.int (if k then 1 else 0),H,I.tok _,⟨_,rfl⟩,q⟩
end
structure Room(k:Nat)(A:Jd):Prop where
 hd:A.handled=LB
 dp:A.depth+3*k+5<recursionLimit
 un:A.units+16*k+200<Jq
 gd:A.guards=LA []
theorem Room.mono{j k:Nat}{A:Jd}(r:Room k A)(h:j<=k):Room j A:=⟨r.hd,by have:=r.dp;omega,by have:=r.un;omega,r.gd⟩
theorem Room.deeper{k:Nat}{A:Jd}(r:Room (k+1) A)(env:Env):Room k (A.deeper env):=⟨r.hd,by have:=r.dp;show A.depth+1+3*k+5<_;omega,by have:=r.un;show A.units+3+16*k+200<_;omega,r.gd⟩
theorem Room.depth{k:Nat}{A:Jd}(r:Room k A):A.depth<recursionLimit:=by have:=r.dp;omega
theorem Room.units{k:Nat}{A:Jd}(r:Room k A):A.units+64<Jq:=by have:=r.un;omega
def Hw:TA:=fun _ H Q=>Q [] H
def FI(a:TE)(b:TA):TA:=fun σ H Q=>a σ H fun x H1=>b σ H1 fun xs c=>Q (x::xs) c
section
variable{X:Cx}{e:Expr}{es:List Expr}{te:TE}{t:TA}{pos:Pos}
theorem Ct:PA X [] Hw:=fun _ _ _ _ H Q I h=>Calls.spliced_nil ⟨[],H,I,.nil,h⟩
theorem A6(c:PE X e te)(d:PA X es t)(f:Iz (e::es) X.env=(LD,eval e X.env)::Iz es X.env:=by rfl):PA X (e::es) (FI te t):=by intro pos pins s σ H Q I h;rw[f];show Im _ _ (spliced ((LD,eval e X.env)::JL pos (Iz es X.env))) _ _ s;refine Calls.spliced_cons (thn (c pins s σ H _ I h) fun u g a=>?_);obtain⟨x,H1,i,j,k⟩:=a;exact thn (d pos pins g σ H1 _ i k) fun us p b=>by obtain⟨xs,l,m,n,o⟩:=b;exact(⟨x::xs,l,m,.cons j n,o⟩)
def G6(t:TA):TE:=fun σ H Q=>t σ H fun xs H1=>xs.length<=Ir/\∀p,H1 p=LB->Q (.ref p) (upd H1 p (.tup xs))
def HE(t:TA):TE:=fun σ H Q=>t σ H fun xs H1=>xs.length<=Ir/\∀p,H1 p=LB->Q (.ref p) (upd H1 p (.lst xs))
theorem D0{x1}(h:PA X es t):PE X (.Tuple es x1 pos) (G6 t):=by intro pins s σ H Q I d;refine wpAny_Tuple_spliced (thn (h pos pins s σ H _ I d) fun us a ⟨xs,H1,c,r,z,q⟩=>⟨by rw[<-r.length];exact z,?_⟩);have f:H1 a.heap.objs.size=LB:=c.hok.fresh (Ic _);refine⟨.ref a.heap.objs.size,upd H1 a.heap.objs.size (.tup xs),c.laid (t':=a.toks) (fun b u e=>Ib _ e) (Ic _) ?_,rfl,q _ f⟩;exact⟨z,us,r,⟨_,Ik _ rfl,rfl,_,rfl⟩,⟨_,Ik _ rfl,rfl⟩⟩
theorem Ci(h:PA X es t):PE X (.List es pos) (HE t):=by intro pins s σ H Q I d;refine wpAny_List_spliced (thn (h pos pins s σ H _ I d) fun us a ⟨xs,H1,c,r,z,q⟩=>⟨by rw[<-r.length];exact z,?_⟩);have f:H1 a.heap.objs.size=LB:=c.hok.fresh (Ic _);refine⟨.ref a.heap.objs.size,upd H1 a.heap.objs.size (.lst xs),c.laid (t':=a.toks) (fun b u e=>Ib _ e) (Ic _) ?_,rfl,q _ f⟩;exact⟨z,us,0,r,Ik _ rfl⟩
end
abbrev Sp:=List V->Hp->VK->XK->Prop
abbrev CXT:=List Env->Hp->HZ->XK->HY->HZ->Prop
structure Env0(P:IH)(w:J5)(K:H0)(mg:Str->Option HY)(base:Heap)(A:Jd)(outer:List Env)(s:HZ)(H:Hp):Prop where
 frames:A.frames=LA outer
 mod:Mod K mg base
 bs:∀b o,base.get? b=LA o->s.heap.get? b=LA o/\H b=LB
 bsz:base.objs.size<=s.heap.objs.size
 mD:s.heap.FunFrames base outer
 frf:∀b∈frs outer,H b=LB
 hok:HOk P w H s.heap
 bare:AllBare s.gens
def CE(outer:List Env)(P:IH)(w:J5)(H:Hp)(s:HZ)(Q:VK)(u:HY)(a:HZ):Prop:=
 ∃v b,a.os=s.os/\AllBare a.gens/\Un (frs outer) [] H b s.heap a.heap/\HOk P w b a.heap/\RelV v u/\Q v b
def CR(CX:CXT)(outer:List Env)(P:IH)(w:J5)(H:Hp)(s:HZ)(Q:VK)(E:XK)(r:Result)(a:HZ):Prop:=
 match r with
 |.ok (.ret u)=>CE outer P w H s Q u a
 |.ok _=>False
 |.error e=>CX outer H s E e a
structure FnOk(P:IH)(w:J5)(K:H0)(mg:Str->Option HY)(base:Heap)(CX:CXT)(k:Nat)(f:Addr)(fd:L9)(ps:List Str)(sp:Sp):Prop where
 len:∀vs H Q E,sp vs H Q E->vs.length=ps.length
 run:∀(A:Jd) (outer:List Env) (s:HZ) (H:Hp) (args:Args) (us:List HY) (vs:List V) (Q:VK) (E:XK),Room k A->Env0 P w K mg base A outer s H->BindsTo s fd args (ps.zip us)->Vals vs us->sp vs H Q E->
  Km (IC P w) A (.call (.ref f) args) (CR CX outer P w H s Q E) s
theorem FnOk.mono{P:IH}{w:J5}{K:H0}{mg:Str->Option HY}{base:Heap}{CX:CXT}{j k:Nat}{f:Addr}{fd:L9}{ps:List Str}{sp:Sp}(F:FnOk P w K mg base CX j f fd ps sp)(h:j<=k) : FnOk P w K mg base CX k f fd ps sp:=⟨F.len,fun A outer s H args us vs Q E a=>F.run A outer s H args us vs Q E (a.mono h)⟩
section
variable{X:Cx}{pins:List (Addr×Obj)}{σ:St}{H:Hp}{s s':HZ}
theorem Inv.Hm(I:Inv X pins σ H s):Env0 X.prog X.w X.K X.mg X.base X.A X.stack s H:=⟨I.ok.frames,I.ok.mod,I.bs,Jp I.ok.bsz I.sz,I.stack,I.uO,I.hok,I.bare⟩
theorem Inv.after{Q:VK}{u:HY}(I:Inv X pins σ H s)(h:CE X.stack X.prog X.w H s Q u s'):EP X pins σ Q u s':=by obtain⟨v,c,os,bare,un,hok,r,q⟩:=h;obtain⟨e,g,d,t,a⟩:=s';obtain rfl:a=s.os:=os;exact⟨v,c,I.call (h':=e) (g':=g) (d':=d) (t':=t) (ch:=[]) un hok bare (fun b z=>absurd z (by simp)),r,q⟩
end
def GJ(sp:Sp)(a:List V)(E:XK)(t:TA):TE:=fun σ H Q=>t σ H fun vs H1=>sp (vs++a) H1 Q E
def Binds(K:H0)(fd:L9)(ps:List Str)(a:List HY):Prop:=
 ∀(s:HZ) (us:List HY),K.In s.heap->(us++a).length=ps.length->BindsTo s fd ⟨us,[]⟩ (ps.zip (us++a))
theorem Binds.all{K:H0}{fd:L9}{ps:List Str}(h:∀us:List HY,us.length=ps.length->bindArgs fd ⟨us,[]⟩=pure (ps.zip us)):Binds K fd ps []:=fun s us _ a=>by rw[Jv]at a ⊢;exact .of_eq (h us a)
def Passes(CX:CXT)(X:Cx)(E:XK):Prop:=∀(pins:List (Addr×Obj)) (σ:St) (H:Hp) (s:HZ) (e:HY) (a:HZ),Inv X pins σ H s->CX X.stack H s E e a->X.xe e a
section
variable{X:Cx}{CX:CXT}{k:Nat}{f C:Addr}{fd:L9}{ps:List Str}{sp:Sp}{LQ:List V}{ds:List HY}{E:XK}{x m:Str}{p pos apos:Pos}{e o:Expr}{es:List Expr}{ta:TE}{t:TA}
theorem D4{pins:List (Addr×Obj)}{σ:St}{H:Hp}{s:HZ}{Q:VK}{us:List HY}{vs:List V}(F:FnOk X.prog X.w X.K X.mg X.base CX k f fd ps sp)(c:Room k X.A)(d:Binds X.K fd ps ds)(hd:Vals LQ ds)(g:Passes CX X E)
 (I:Inv X pins σ H s) (r:Vals vs us) (h:sp (vs++LQ) H Q E):Im (IC X.prog X.w) X.A (call (.ref f) us) (EP X pins σ Q) X.xe s:=by
 have b:Vals (vs++LQ) (us++ds):=r.append hd
 have i:(us++ds).length=ps.length:=by rw[<-b.length];exact F.len _ _ _ _ h
 refine wpAny_call (codeAny_mono (F.run X.A X.stack s H ⟨us,[]⟩ (us++ds) (vs++LQ) Q E c I.Hm (d s us I.kIn i) b h) fun r j a=>?_)
 cases r with
 |error e=>exact g pins σ H s e j I a
 |ok l=>
  cases l with
  |ret u=>exact I.after a
  |next=>exact L7 a
  |brk=>exact L7 a
  |cont=>exact L7 a
theorem zS(F:FnOk X.prog X.w X.K X.mg X.base CX k f fd ps sp)(d:Room k X.A)(g:Gl X x)(i:X.mg x=LA (.ref f))(j:PySem.W.keepIn X.K (.ref f)=LC)(l:Binds X.K fd ps ds)(hd:Vals LQ ds)(n:Passes CX X E) (u:PA X (e::es) t) (a:(x==("__debug__":Str))=LD:=by decide) (v:Iz (e::es) X.env=(LD,eval e X.env)::Iz es X.env:=by rfl) (b:(JL pos (Iz es X.env)).any (·.1)=LD:=by rfl) : PE X (.Call (.Name x p) (e::es) [] pos) (GJ sp LQ E t):=by intro pins s σ H Q I h;refine wpAny_Call_Name_kw (AU I g i ?_ a);refine PySem.W.callWith_K (h₀:=X.base) I.ok.mod.kin j (thn (u pos pins s σ H _ I h) fun us y ⟨vs,H1,c,r,q⟩=>⟨c.kIn,?_⟩) v b;exact D4 F d l hd n c r q
end
structure FnScope(N P:List Str)(sc:Kv):Prop where
 kind:sc.kind=.function
 co:sc.isCoroutine=LD
 gen:sc.isGenerator=LD
 nd:N.Nodup
 pre:N.take P.length=P
 par:∀x∈P,sc.names.lookup x=LA .local\/sc.names.lookup x=LA .cell
 nofree:∀y∈sc.names,y.2≠.free
theorem nD{kindOf:Str->Option Kk}{x:Str}:∀{binds:List (Str×HY)} {m:Str->Option HY},(∀v,(x,v)∉binds)->bindL kindOf binds m x=m x
 |[],_,_=>rfl
 |(n,v)::r,m,h=>by
  unfold bindL
  rw[nD fun w a=>h w (Jb _ a)]
  split
  ·have:x≠n:=by rintro rfl;exact h v Js
   simp[this]
  ·rfl
theorem nA{kindOf:Str->Option Kk}{x:Str}:∀{binds:List (Str×HY)} {m:Str->Option HY},(∀v,(x,v)∉binds)->bindC kindOf binds m x=m x
 |[],_,_=>rfl
 |(n,v)::r,m,h=>by
  unfold bindC
  rw[nA fun w a=>h w (Jb _ a)]
  split
  ·rfl
  ·have:x≠n:=by rintro rfl;exact h v Js
   simp[this]
theorem n6{kindOf:Str->Option Kk}{x:Str}{v:HY}:∀{P:List Str} {vs:List HY} {i:Nat} {m:Str->Option HY},P.Nodup->P[i]?=LA x->vs[i]?=LA v->kindOf x=LA .local->
 bindL kindOf (P.zip vs) m x=LA v
 |[],_,_,_,_,h,_,_=>by simp at h
 |_::_,[],_,_,_,_,h,_=>by simp at h
 |p::P,w::vs,0,m,nd,h1,h2,hk=>by
  simp at h1 h2;subst h1;subst h2
  show bindL kindOf ((p,w)::P.zip vs) m p=_
  unfold bindL
  rw[nD fun v a=>(List.nodup_cons.mp nd).1 (List.of_mem_zip a).1,LG hk]
  simp
 |p::P,w::vs,i+1,m,nd,h1,h2,hk=>by
  show bindL kindOf ((p,w)::P.zip vs) m x=_
  unfold bindL
  exact n6 (i:=i) (List.nodup_cons.mp nd).2 (by simpa using h1) (by simpa using h2) hk
theorem nT{kindOf:Str->Option Kk}{x:Str}{v:HY}:∀{P:List Str} {vs:List HY} {i:Nat} {m:Str->Option HY},P.Nodup->P[i]?=LA x->vs[i]?=LA v->kindOf x≠LA .local->
 bindC kindOf (P.zip vs) m x=LA v
 |[],_,_,_,_,h,_,_=>by simp at h
 |_::_,[],_,_,_,_,h,_=>by simp at h
 |p::P,w::vs,0,m,nd,h1,h2,hk=>by
  simp at h1 h2;subst h1;subst h2
  show bindC kindOf ((p,w)::P.zip vs) m p=_
  unfold bindC
  rw[nA fun v a=>(List.nodup_cons.mp nd).1 (List.of_mem_zip a).1,LF hk]
  simp
 |p::P,w::vs,i+1,m,nd,h1,h2,hk=>by
  show bindC kindOf ((p,w)::P.zip vs) m x=_
  unfold bindC
  exact nT (i:=i) (List.nodup_cons.mp nd).2 (by simpa using h1) (by simpa using h2) hk
def start(N:List Str)(vs:List V):St:=vs.map LA++IQ (N.length-vs.length) LB
def jN(CX:CXT)(P:IH)(w:J5)(K:H0)(mg:Str->Option HY)(base:Heap)(N:List Str)(qual:Str)(scope:Kv)(f:Addr)(b:HY)(A:Jd)(outer:List Env)(s:HZ)(H:Hp)(E:XK):Cx where
 prog:=P
 w:=w
 K:=K
 mg:=mg
 base:=base
 A:=A.deeper (envOfC qual scope s.heap.objs.size f b)
 N:=N
 s₀:=s
 H₀:=H
 env:=envOfC qual scope s.heap.objs.size f b
 outer:=outer
 stack:=envOfC qual scope s.heap.objs.size f b::outer
 ex:=[]
 calm:=LC
 fn:=fun _=>LC
 pn:=[]
 xe:=fun e c=>Im (IC P w) (A.deeper (envOfC qual scope s.heap.objs.size f b)) (leaving (envOfC qual scope s.heap.objs.size f b) e) (fun _ a=>CX outer H s E e a) (fun d a=>CX outer H s E d a) c
theorem lU{sc:Kv}{n:Nat}{x:Str}(h:sc.names.lookup x=LA .cell):∃c,(JX n sc.names []).lookup x=LA c:=by have q:=PySem.W.cellsFrom_some sc.names n [] (.inl h);exact Option.isSome_iff_exists.mp q
theorem vh{CX:CXT}{P:IH}{w:J5}{K:H0}{mg:Str->Option HY}{base:Heap}{N ps:List Str}{qual:Str}{scope:Kv}{f:Addr}{t:HY}{A:Jd}{outer:List Env}{s D:HZ}{H:Hp}{E:XK}{us:List HY}{vs:List V}
 (S:FnScope N ps scope) (hd:A.handled=LB) (g:Env0 P w K mg base A outer s H) (M:vs.length=ps.length) (r:Vals vs us)
 (x:InCallC s s.heap.objs.size (bindL (envOfC qual scope s.heap.objs.size f t).kindOf (ps.zip us) fun _=>LB) (JX (s.heap.objs.size+1) scope.names []) (bindC (envOfC qual scope s.heap.objs.size f t).kindOf (ps.zip us) fun _=>LB) D) :
 Inv (jN CX P w K mg base N qual scope f t A outer s H E) [] (start N vs) H D:=by
 have I:ps.length<=N.length:=by have:=congrArg List.length S.pre;rw[Kt]at this;omega
 obtain⟨B,O,rfl,F⟩:=x.done
 have j:∀b:Addr,b∉(jN CX P w K mg base N qual scope f t A outer s H E).ex:=fun b z=>absurd (show b∈([]:List Addr)from z) (by simp)
 refine⟨⟨g.mod,S.kind,rfl,rfl,Ic _,fun y z c B d=>?_,fun y l=>?_,fun y c _ h=>?_,fun _=>hd,Around.frames_deeper g.frames,.inr ⟨rfl,rfl⟩,fun b z=>absurd z (j b),g.bs,g.bsz,fun b _ _=>j b,fun b z=>absurd z (j b),g.mD,g.frf⟩,
  rfl,g.bare,Un.kept F,⟨_,x.toInCall.ns,fun i y v B d Q=>?_⟩,fun y c h=>⟨_,x.cell y c h⟩,g.hok.fresh (Ic _),fun y c h=>?_,fun p m=>absurd (show p∈([]:List (Addr×Obj))from m) (by simp),g.hok.kept F,?_⟩
 ·exact name_of_addr x.apart (Ja B) (Ja d)
 ·have l:scope.names.lookup y=LA .cell\/scope.names.lookup y=LA .free:=l
  rcases l with l|l
  ·exact lU l
  ·exact absurd rfl (S.nofree _ (Ja l))
 ·exact Nat.le_of_lt (x.above y c (Ja h))
 ·have C:i<vs.length:=by
   unfold start at d
   by_cases C:i<vs.length
   ·exact C
   ·rw[Jf (by simpa using C)]at d
    rw[List.getElem?_replicate]at d
    split at d<;>cases d
  have J:vs[i]?=LA v:=by
   unfold start at d
   rw[Jk (by simpa using C),Ie]at d
   cases e:vs[i]? with
   |none=>rw[e]at d;cases d
   |some a=>rw[e]at d;cases d;rfl
  obtain⟨u,G,L⟩:=r.get J
  have m:ps[i]?=LA y:=by
   rw[<-S.pre,List.getElem?_take_of_lt ()];exact B
  have o:ps.Nodup:=by rw[<-S.pre];exact S.nd.sublist (List.take_sublist _ _)
  refine⟨u,L,?_⟩
  rcases S.par y (Il m)with k|k
  ·exact .inl ⟨k,n6 o m G k⟩
  ·obtain⟨c,e⟩:=lU (n:=s.heap.objs.size+1) k
   refine .inr ⟨.inl k,c,e,?_⟩
   have q:=x.cell y c e
   rw[nT o m G (by show scope.names.lookup y≠_;rw[k];decide)]at q
   exact q
 ·exact g.hok.fresh (Nat.le_of_lt (x.above y c (Ja h)))
 ·unfold start
  show _=N.length
  rw[JC,Ii,List.length_replicate]
  omega
theorem FG{CX:CXT}{P:IH}{w:J5}{K:H0}{mg:Str->Option HY}{base:Heap}{k:Nat}{f:Addr}{name qual:Str}{params:Arguments}{body:List Stmt}{scope:Kv}{G kV j L cdv ct oc:HY}{an od:Option Addr}
 {osl:Array (Option HY)} {N ps:List Str} {sp:Sp} (R:K.lookup f=LA ⟨oc,od,.func (JN name qual params body scope G kV j L an cdv ct),osl⟩) (z:PySem.W.codeIn K cdv qual=LC) (S:FnScope N ps scope)
 (len:∀vs H Q E,sp vs H Q E->vs.length=ps.length)
 (g:∀(A:Jd) (outer:List Env) (s:HZ) (H:Hp) (vs:List V) (Q:VK) (E:XK),Room k (A.deeper (envOfC qual scope s.heap.objs.size f cdv))->sp vs H Q E->
  ∃t,PSs (jN CX P w K mg base N qual scope f cdv A outer s H E) body t/\t { nx:=fun _ d=>Q .non d,rt:=Q } (start N vs) H) :
 FnOk P w K mg base CX (k+1) f (JN name qual params body scope G kV j L an cdv ct) ps sp:=by
 refine⟨len,fun A outer s H args us vs Q E B l T r m=>?_⟩
 have U:=len _ _ _ _ m
 have M:K.In s.heap:=l.mod.kin.keeps fun b o e=>(l.bs b o e).1
 have C:s.heap.NoLimit:=l.mod.nolimit.keeps fun b o e=>(l.bs b o e).1
 have h:∀y∈ps.zip us,scope.names.lookup y.1=LA .local\/(scope.names.lookup y.1=LA .cell/\((JX (s.heap.objs.size+1) scope.names []).lookup y.1).isSome=LC):=fun a X=>by
  obtain⟨n,v⟩:=a
  rcases S.par n (List.of_mem_zip X).1 with q|q
  ·exact .inl q
  ·exact .inr ⟨q,PySem.W.cellsFrom_some _ _ _ (.inl q)⟩
 refine codeAny_call_function B.depth (M _ _ R) rfl S.co S.gen rfl (PySem.W.codeRec_of M z) (T _ _ _ _ ?_)
 refine wpAny_newFunctionEnv_cells S.kind h fun env Y O x=>?_
 subst Y
 refine⟨C.keeps x.toInCall.keep,codeAny_func ?_⟩
 obtain⟨t,Z,hq⟩:=g A outer s H vs Q E (B.deeper _) m
 have I:Inv (jN CX P w K mg base N qual scope f cdv A outer s H E) [] (start N vs) H O:=vh S B.hd l U r x
 refine Iw (Z [] O (start N vs) H _ I hq) (fun fl D i=>?_) fun e D i=>i
 have p:∀{c:St} {d:Hp} {v:V} {u:HY},Inv (jN CX P w K mg base N qual scope f cdv A outer s H E) [] c d D->RelV v u->Q v d->CE outer P w H s Q u D:=
  fun{c d v u} J F q=>⟨v,d,J.os,J.bare,J.base,J.hok,F,q⟩
 cases fl with
 |ret u=>
  obtain⟨v,c,d,J,F,q⟩:=i
  exact p J F q
 |next=>
  obtain⟨c,d,J,q⟩:=i
  exact p (v:=V.non) (u:=JZ) J rfl q
 |brk=>
  obtain⟨_,_,_,q⟩:=i
  exact L7 q
 |cont=>
  obtain⟨_,_,_,q⟩:=i
  exact L7 q
section
variable{X:Cx}{x:Str}{p pos:Pos}{e:Expr}{es:List Expr}{t:TA}{id T:String}{r:List V->Hp->VK->Prop}
def tCB(r:List V->Hp->VK->Prop)(t:TA):TE:=fun σ H Q=>t σ H fun vs H1=>r vs H1 Q
theorem xl(d:cG X (.builtin id) r)(f:Gl X x)(g:X.mg x=LB)(i:Ju x=LA (.builtin id))(j:PA X (e::es) t)(k:x≠"__name__":=by decide)(b:(x==("__debug__":Str))=LD:=by decide) (l:Iz (e::es) X.env=(LD,eval e X.env)::Iz es X.env:=by rfl) (c:(JL pos (Iz es X.env)).any (·.1)=LD:=by rfl):PE X (.Call (.Name x p) (e::es) [] pos) (tCB r t):=by intro pins s σ H Q I h;refine wpAny_Call_Name_kw (iI I f g i ?_ k b);exact PyProof.Rows.callWith_builtin1 (thn (j pos pins s σ H _ I h) fun us m a=>by obtain⟨vs,H1,n,o,q⟩:=a;exact(d pins m σ H1 vs us Q n o q)) l c
theorem wm(d:cG X (.type T) r)(f:Gl X x)(g:X.mg x=LB)(i:Ju x=LA (.type T))(j:PA X (e::es) t)(k:x≠"__name__":=by decide)(b:(x==("__debug__":Str))=LD:=by decide) (l:Iz (e::es) X.env=(LD,eval e X.env)::Iz es X.env:=by rfl) (c:(JL pos (Iz es X.env)).any (·.1)=LD:=by rfl):PE X (.Call (.Name x p) (e::es) [] pos) (tCB r t):=by intro pins s σ H Q I h;refine wpAny_Call_Name_kw (iI I f g i ?_ k b);exact JY (thn (j pos pins s σ H _ I h) fun us m a=>by obtain⟨vs,H1,n,o,q⟩:=a;exact(d pins m σ H1 vs us Q n o q)) l c
end
end L2
namespace HT
open PySem PyProof.Rows
def lexLt:List Int->List Int->Bool
 |[],[]=>LD
 |[],_::_=>LC
 |_::_,[]=>LD
 |x::xs,y::ys=>if x=y then lexLt xs ys else decide (x<y)
theorem sR(x y:Int)(xs a:List Int):lexLt (x::xs) (y::a)=if x=y then lexLt xs a else decide (x<y):=rfl
theorem mY:lexLt [] []=LD:=rfl
theorem k5(y:Int)(a:List Int):lexLt [] (y::a)=LC:=rfl
theorem lh(x:Int)(xs:List Int):lexLt (x::xs) []=LD:=rfl
theorem kS(A:Jd)(s:HZ)(a:Int)(t:Tok)(c:Int)(u:Tok):∃e,SeqAt.EqAt A s (.int a t) (.int c u) e/\(e=LC↔a=c):=⟨(a==c),SeqAt.EqAt.int_int a t c u,by simp⟩
theorem yx(A:Jd)(s:HZ)(a:Int)(t:Tok)(c:Int)(u:Tok)(prog:IH)(w:J5)(E:HY->HZ->Prop)(Q:HY->HZ->Prop)(h:Q (.bool (decide (a<c))) s) : Im (IC prog w) A (richCompare .Lt (.int a t) (.int c u)) Q E s:=(PyProof.Rows.lt_int h:Im (IC prog w) A (IY .Lt (.int a t) (.int c u)) Q E s)
section
open PySem.SeqAt
open PySem.AutoSeq1 (wpAny_loadPart')
open PySem.MeetsSeq PySem.MeetsSeq2 PySem.MeetsSeq3
theorem mX(l b:Addr)(items f:Array HY)(n Q:Nat)(S I:Option Addr)(T J:Array (Option HY))(ns F:List Int)(N:JO items.toList ns)(O:JO f.toList F) :
 Meets (Lb.«tuple.__lt__» ⟨[.ref l,.ref b],[]⟩)
  (fun _ R s=>s.heap.get? l=LA { cls:=.type "tuple",dict:=S,data:=.seq items n,slots:=T }/\s.heap.get? b=LA { cls:=.type "tuple",dict:=I,data:=.seq f Q,slots:=J }/\
   R (.ok (.ret (.bool (lexLt ns F)))) s):=
 .of_wp fun prog w A R s h=>by
  obtain⟨G,g,d,H,os⟩:=s;obtain⟨U,V,h⟩:=h
  have f2:=AutoSeq1.sub_tuple_tuple
  have z1:items.size=ns.length:=by rw[<-N.length];simp
  have z2:f.size=F.length:=by rw[<-O.length];simp
  wp_walk using Ji U,Ji V,wpAny_forIn_list _ (fun p b K=>b.1=LB/\K=⟨G,g,d,H,os⟩/\∃(vs ws:List HY) (j k:List Int),p=vs.zip ws/\
   JO vs j/\JO ws k/\j.length+f.size=k.length+items.size/\R (.ok (.ret (.bool (lexLt j k)))) ⟨G,g,d,H,os⟩) _
  case turn=>
   rintro⟨y,x⟩ p b K ⟨z,rfl,vs,ws,j,k,m,B,o,i,r⟩
   cases B with
   |nil=>rw[List.zip_nil_left]at m;cases m
   |cons a t D=>
    cases o with
    |nil=>rw[List.zip_nil_right]at m;cases m
    |cons c u E=>
     rw[Kw]at m
     injection m with L C
     injection L with W X
     subst W X
     rw[sR]at r
     simp only[Jg]at i
     obtain⟨e,Y,v⟩:=kS A.in1 ⟨G,g,d,H,os⟩ a t c u
     refine cc (Y prog w _ _ ?_)
     cases e with
     |true=>
      rw[LG (v.mp rfl)]at r
      wp_walk
      exact⟨rfl,rfl,_,_,_,_,C,D,E,(),r⟩
     |false=>
      rw[LF (fun q=>absurd (v.mpr q) Iq)]at r
      have M:=yx A.in1 ⟨G,g,d,H,os⟩ a t c u prog w
      wp_walk using M
      exact⟨_,rfl,by simpa using r⟩
  case fin=>
   rintro⟨b1,b2⟩ K ⟨z,rfl,vs,ws,j,k,m,B,o,i,r⟩
   simp only at z
   subst z
   have P:lexLt j k=decide (items.size<f.size):=by
    cases B with
    |nil=>
     cases o with
     |nil=>
      simp only[JP]at i
      rw[mY]
      exact(LH ()).symm
     |cons c u Z=>
      simp only[JP,Jg]at i
      rw[k5]
      exact(LI ()).symm
    |cons a t P=>
     cases o with
     |nil=>
      simp only[JP,Jg]at i
      rw[lh]
      exact(LH ()).symm
     |cons c u Z=>
      rw[Kw]at m
      cases m
   rw[P]at r
   wp_walk
   exact⟨_,rfl,by simpa[Builtin.Tuple.tupleCompareSizes]using r⟩
  case h=>
   exact⟨rfl,rfl,items.toList,f.toList,ns,F,rfl,N,O,(),h⟩
end
section
variable{prog:IH}{w:J5}{A:Jd}{E:HY->HZ->Prop}{s:HZ}
theorem lI{l b:Addr}{items a:Array HY}{ns c:List Int}{Q:HY->HZ->Prop}(p:IsTup s.heap l items)(q:IsTup s.heap b a)(r:JO items.toList ns)(t:JO a.toList c) (u:A.units<Jq) (h:Q (.bool (lexLt ns c)) s):Im (IC prog w) A (IY .Lt (.ref l) (.ref b)) Q E s:=by obtain⟨⟨cls,v,data,y⟩,k,m,n,hd⟩:=id p;obtain⟨⟨o,g,i,j⟩,d,e,z,f⟩:=id q;simp only at m hd e f;subst m hd e f;exact richCompare_meets_room (op:=.Lt) ⟨_,k,rfl⟩ ⟨_,d,rfl⟩ PySem.F.slot_tuple_lt PySem.F.entry_tuple_lt (PySem.F.args_tuple_lt_2 _ _) (mX l b items a n z v g y j ns c r t) ⟨k,d,show L5 (lexLt ns c)≠Value.notImplemented/\Q (.bool (lexLt ns c)) s from⟨(fun x=>nomatch x),h⟩⟩ u
theorem AO{t b:Addr}{vs ws:List HY}{Q:HY->HZ->Prop}(r:IsTup s.heap t vs.toArray)(u:IsTup s.heap b ws.toArray)(k:vs≠[])
 (v:ws=[]->Q (.ref t) s) (x:ws≠[]->Q (.ref s.heap.objs.size) { s with heap:=s.heap.push { cls:=.type "tuple",data:=.seq (vs++ws).toArray } })
 (hsz:vs.length+ws.length<=Ir):Im (IC prog w) A (Kb .Add (.ref t) (.ref b)) Q E s:=by
 obtain⟨⟨cls,l,data,m⟩,h,o,n,hd⟩:=id r
 obtain⟨⟨p,c,j,d⟩,a,f,q,g⟩:=id u
 simp only at o hd f g
 subst o hd f g
 have e:vs.toArray++ws.toArray=(vs++ws).toArray:=by simp
 by_cases i:ws=[]
 ·exact concat_meets ⟨_,h,rfl⟩ ⟨_,a,rfl⟩ noFill_tuple_add seq_tuple_add PySem.F.slot_tuple_add PySem.F.entry_tuple_add (PySem.F.args_tuple_add_2 _ _)
   (tuple_addW1 t b vs.toArray ws.toArray n q l c m d (by simpa using k) (by simp[i])) ⟨h,a,v i⟩
 ·refine concat_meets ⟨_,h,rfl⟩ ⟨_,a,rfl⟩ noFill_tuple_add seq_tuple_add PySem.F.slot_tuple_add PySem.F.entry_tuple_add (PySem.F.args_tuple_add_2 _ _)
   (tuple_addW2 t b vs.toArray ws.toArray n q l c m d (by simpa using k) (by simpa using i) (by rw[IB,IB];exact hsz)) ⟨h,a,?_⟩
  rw[e]
  exact x i
def sIx(n d:Nat):Option Int->Nat
 |none=>d
 |some v=>if v<0 then(v+(n:Int)).toNat else min v.toNat n
theorem D5(n d:Nat)(hd:d<=n)(o:Option Int):sIx n d o<=n:=by
 cases o with
 |none=>exact hd
 |some v=>
  show(if v<0 then(v+(n:Int)).toNat else min v.toNat n)<=n
  by_cases a:v<0
  ·rw[LG a];omega
  ·rw[LF a];exact Nat.min_le_right _ _
theorem u9(v:Int)(n d:Nat):(if v<0 then max (v+(n:Int)) 0 else min v (n:Int))=((sIx n d (LA v):Nat):Int):=by
 show(if v<0 then max (v+(n:Int)) 0 else min v (n:Int))=(((if v<0 then(v+(n:Int)).toNat else min v.toNat n):Nat):Int);by_cases a:v<0
 ·simp only[LG a];omega
 ·simp only[LF a];omega
theorem so(a b:Option Int)(n:Nat):Builtin.Slice.sliceAdjust a b 1 (n:Int)=(((sIx n 0 a:Nat):Int),((sIx n n b:Nat):Int)):=by
 have c:¬((1:Int)<0):=()
 unfold Builtin.Slice.sliceAdjust;simp only[c,if_false];refine Prod.ext ?_ ?_
 ·cases a with
  |none=>rfl
  |some v=>exact u9 v n 0
 ·cases b with
  |none=>rfl
  |some v=>exact u9 v n n
theorem rO(i j:Nat):Builtin.Slice.slicePlaces (i:Int) (j:Int) 1=j-i:=by
 unfold Builtin.Slice.slicePlaces;have a:(1:Int)>0:=()
 simp only[a,if_true,Int.ediv_one];split<;>omega
theorem kT{v:HY}{o:Option Int}{Q:Option Int->HZ->Prop}(p:IsPart v o)(h:Q o s):Im (IC prog w) A (Builtin.Slice.slicePartIndex v) Q E s:=by
 cases p with
 |none=>exact slicePart_none h
 |int i t=>exact slicePart_int h
theorem jW{f:Addr}{vl e:HY}{a b:Option Int}{n:Nat}{Q:Int×Int×Nat->HZ->Prop}(g:s.heap.IsSliceOf f vl e .none)(i:IsPart vl a)(j:IsPart e b)
 (h:Q (((sIx n 0 a:Nat):Int),1,sIx n n b-sIx n 0 a) s):Im (IC prog w) A (Builtin.Slice.sliceApplied (.ref f) (pure (n:Int))) Q E s:=by
 obtain⟨os,c,k,d⟩:=id g
 unfold Builtin.Slice.sliceApplied Builtin.Slice.sliceFields
 refine cc (cc (wpAny_field c d (x:=vl) rfl (cc (wpAny_field c d (x:=e) rfl (cc (wpAny_field c d (x:=.none) rfl (I0 ?_)))))))
 refine cc (slicePart_none ?_)
 show Im _ _ (if((1:Int)==0)=LC then _ else _) _ _ s
 rw[LF ⋯]
 refine cc (kT i (cc (kT j (cc (I0 ?_)))))
 show Im _ _ (match Builtin.Slice.sliceAdjust a b 1 (n:Int)with|(a,b)=>pure (a,(1:Int),Builtin.Slice.slicePlaces a b 1)) _ _ s
 rw[so a b n]
 show Im _ _ (pure (((sIx n 0 a:Nat):Int),(1:Int),Builtin.Slice.slicePlaces ((sIx n 0 a:Nat):Int) ((sIx n n b:Nat):Int) 1)) _ _ s
 rw[rO]
 exact I0 h
theorem yA(xs:Array HY)(i k:Nat):((Iv k).filterMap fun(m:Nat)=>xs[((i:Int)+(m:Int)*1).toNat]?).toArray=((xs.toList.drop i).take k).toArray:=by
 have e:(fun(m:Nat)=>xs[((i:Int)+(m:Int)*1).toNat]?)=fun m=>xs[i+m]?:=by
  funext m
  have:((i:Int)+(m:Int)*1).toNat=i+m:=()
  rw[this]
 rw[e];have:=pick_run xs i k;rw[List.filterMap_map]at this;have e2:((fun x=>xs[x]?)∘fun x=>i+x)=fun m=>xs[i+m]?:=rfl;rw[e2]at this;rw[this]
theorem iS{t e:Addr}{items:Array HY}{vl k:HY}{b c:Option Int}{Q:HY->HZ->Prop}(d:IsTup s.heap t items)(l:s.heap.IsSliceOf e vl k .none)(n:IsPart vl b)(o:IsPart k c)
 (hw:¬(sIx items.size 0 b=0/\sIx items.size items.size c=items.size))
 (h:Q (.ref s.heap.objs.size) { s with heap:=s.heap.push { cls:=.type "tuple",data:=.seq ((items.toList.drop (sIx items.size 0 b)).take (sIx items.size items.size c-sIx items.size 0 b)).toArray } })
 (hsz:items.size<=Ir):Im (IC prog w) A (getItem (.ref t) (.ref e)) Q E s:=by
 have a:sizeOk (.seq ((items.toList.drop (sIx items.size 0 b)).take (sIx items.size items.size c-sIx items.size 0 b)).toArray):=by
  show((items.toList.drop (sIx items.size 0 b)).take (sIx items.size items.size c-sIx items.size 0 b)).toArray.size<=Ir
  rw[IB,Kt,List.length_drop,Array.length_toList]
  omega
 have r:sIx items.size items.size c<=items.size:=D5 _ _ (Ic _) c
 obtain⟨os,f,g,p⟩:=id l
 have i:s.TypeIs (.ref e) "slice":=⟨os,f,g⟩
 unfold getItem
 try with_reducible refine JD ?_
 first|refine cc (I0 ?_)|skip
 refine cc (wpAny_sequenceKey d.typeIs ⋯ ?_)
 refine cc (Kg (name:=JQ "__getitem__") d.typeIs PyProof.Rows.slot_tuple_getitem
  (Ku PyProof.Rows.slot_tuple_getitem d.typeIs entry_tuple_getitem ?_ (args_tuple_getitem _ _)))
 show Im _ _ (Builtin.Tuple.tupleItemsOf (.ref t) >>= _) _ _ s
 refine cc (tupleItemsOf_ d ?_)
 refine cc (wpAny_typeOf i ?_)
 rw[LG ⋯]
 refine cc (jW l n o ?_)
 have j:¬((((sIx items.size 0 b:Nat):Int)==0&&(1:Int)==1&&(sIx items.size items.size c-sIx items.size 0 b)==items.size)=LC):=by
  intro q
  rw[ID,ID]at q
  have u:((sIx items.size 0 b:Nat):Int)=0:=eq_of_beq q.1.1
  have v:sIx items.size items.size c-sIx items.size 0 b=items.size:=eq_of_beq q.2
  exact hw ⟨(),()⟩
 show Im _ _ (if(((sIx items.size 0 b:Nat):Int)==0&&(1:Int)==1&&(sIx items.size items.size c-sIx items.size 0 b)==items.size)=LC then _ else _) _ _ s
 rw[LF j,yA]
 first
  |exact cc (m:=Builtin.Tuple.tupleExact _) (Jc (I0 ⟨_,rfl,I0 h⟩) a)
  |exact cc (m:=Builtin.Tuple.tupleExact _) (Jc (cc (I0 (I0 ⟨_,rfl,I0 h⟩))) a)
  |exact cc (cc (m:=Builtin.Tuple.tupleExact _) (Jc (I0 (I0 ⟨_,rfl,I0 h⟩)) a))
  |exact cc (cc (m:=Builtin.Tuple.tupleExact _) (Jc (I0 ⟨_,rfl,I0 h⟩) a))
end
end HT
namespace L2
open PySem PySem.Spec PyProof.Rows
abbrev TO:=St->Hp->(Option Int->Hp->Prop)->Prop
def PO(X:Cx)(e:Option Expr)(t:TO):Prop:=
 ∀(pins:List (Addr×Obj)) (s:HZ) (σ:St) (H:Hp) (Q:Option Int->Hp->Prop),Inv X pins σ H s->t σ H Q->
  Im (IC X.prog X.w) X.A (evalPart e X.env) (fun u b=>∃o a,Inv X pins σ a b/\IsPart u o/\Q o a) X.xe s
def Bn:TO:=fun _ H Q=>Q LB H
def FO(t:TE):TO:=fun σ H Q=>t σ H fun x H1=>∃i,x=.int i/\Q (LA i) H1
theorem intsAre_of{ns:List Int}:∀{us:List HY},Vals (ns.map V.int) us->JO us ns:=by
 induction ns with
 |nil=>intro us r;rw[JF]at r;cases r;exact .nil
 |cons n ns a=>
  intro us r
  rw[Ih]at r
  cases r with
  |cons b c=>
   obtain⟨t,e⟩:=b
   subst e
   exact .cons n t (a c)
section
variable{X:Cx}{e:Expr}{te:TE}{lo hi:Option Expr}{tl th:TO}{pos p2:Pos}
theorem A0:PO X LB Bn:=by intro pins s σ H Q I h;rw[evalPart_none];exact I0 ⟨LB,H,I,.none,h⟩
theorem Ad(h:PE X e te):PO X (LA e) (FO te):=by intro pins s σ H Q I b;rw[evalPart_some];refine thn (h pins s σ H _ I b) fun u g a=>?_;obtain⟨x,H1,c,d,f⟩:=a;obtain⟨i,rfl,q⟩:=f;obtain⟨t,rfl⟩:=d;exact⟨LA i,H1,c,.int i t,q⟩
def SlR(X:Cx)(r:V->Option Int->Option Int->Hp->VK->Prop):Prop:=
 ∀(pins:List (Addr×Obj)) (s:HZ) (σ:St) (H:Hp) (x:V) (v vl a:HY) (lo hi:Option Int) (b:Addr) (Q:VK),Inv X pins σ H s->RelV x v->s.heap.IsSliceOf b vl a .none->IsPart vl lo->IsPart a hi->r x lo hi H Q->
  ∃T id,typeLookup (.type T) "__getitem__"=pure (LA (.builtin id))/\s.TypeIs v T/\Im (IC X.prog X.w) X.A (getItem v (.ref b)) (EP X pins σ Q) X.xe s
theorem SlR.or{r a:V->Option Int->Option Int->Hp->VK->Prop}(h:SlR X r)(h':SlR X a):SlR X (fun x lo hi H Q=>r x lo hi H Q\/a x lo hi H Q):=by
 intro pins s σ H x v vl b lo hi c Q I d f g i q;rcases q with q|q
 ·exact h pins s σ H x v vl b lo hi c Q I d f g i q
 ·exact h' pins s σ H x v vl b lo hi c Q I d f g i q
def tSl(r:V->Option Int->Option Int->Hp->VK->Prop)(te:TE)(tl th:TO):TE:=fun σ H Q=>te σ H fun x H1=>tl σ H1 fun l a=>th σ a fun u b=>r x l u b Q
theorem yC{r:V->Option Int->Option Int->Hp->VK->Prop}(i:SlR X r)(j:PE X e te)(k:PO X lo tl)(m:PO X hi th):PE X (.Subscript e (.Slice lo hi LB p2) pos) (tSl r te tl th):=by intro pins s σ H Q I h;refine Subscript_ (thn (j pins s σ H _ I h) fun v n c=>?_);obtain⟨x,H1,o,p,t⟩:=c;refine wpAny_Slice (thn (k pins n σ H1 _ o t) fun vl y ⟨l,z,B,C,D⟩=>thn (m pins y σ z _ B D) fun f a d=>?_);obtain⟨u,g,E,F,G⟩:=d;rw[evalPart_none];refine I0 ?_;have J:Inv X pins σ g { a with heap:=a.heap.push { cls:=.type "slice",data:=.fields #[vl,f,.none] } }:=E.kept (t':=a.toks) fun b N q=>Ib _ q;obtain⟨T,id,K,L,M⟩:=i pins { a with heap:=a.heap.push { cls:=.type "slice",data:=.fields #[vl,f,.none] } } σ g x v vl f l u a.heap.objs.size Q J p (Heap.IsSliceOf.new ..) C F G;show Im (IC X.prog X.w) X.A (subscriptTail e (.Slice lo hi LB p2) v (.ref a.heap.objs.size)) (EP X pins σ Q) X.xe { a with heap:=a.heap.push { cls:=.type "slice",data:=.fields #[vl,f,.none] } };exact tail_any (ops:=[.ref a.heap.objs.size,v]) L K M (by with_unfolding_all rfl)
def ql(xs:List V)(lo hi:Option Int):List V:=(xs.drop (HT.sIx xs.length 0 lo)).take (HT.sIx xs.length xs.length hi-HT.sIx xs.length 0 lo)
theorem j6(xs:List V)(lo hi:Option Int):(ql xs lo hi).length<=xs.length:=by unfold ql;rw[Kt,List.length_drop];omega
def HX(K:H0):V->Option Int->Option Int->Hp->VK->Prop:=fun x lo hi H Q=>∃a xs,x=.ref a/\SqT K H a xs/\
 ¬(HT.sIx xs.length 0 lo=0/\HT.sIx xs.length xs.length hi=xs.length)/\∀p,H p=LB->Q (.ref p) (upd H p (.tup (ql xs lo hi)))
theorem DQ:SlR X (HX X.K):=by
 intro pins s σ H x v vl p lo hi t Q I i j k l h;obtain⟨a,xs,rfl,m,n,q⟩:=h;cases i;obtain⟨d,r,f,g⟩:=I.tuple m;have c:d.toArray.size=xs.length:=by rw[IB];exact r.length.symm
 refine⟨"tuple",_,PyProof.Rows.slot_tuple_getitem.lookup,f.typeIs,?_⟩;refine HT.iS f j k l (by rw[c];exact n) ?_ (by rw[c];exact g);rw[c];refine⟨.ref s.heap.objs.size,_,I.laid (t':=s.toks) (o:=.tup (ql xs lo hi)) (fun b u q=>Ib _ q) (Ic _) ?_,rfl,q _ (I.hok.fresh (Ic _))⟩;exact⟨Jp (j6 xs lo hi) g,_,(r.drop (HT.sIx xs.length 0 lo)).take (HT.sIx xs.length xs.length hi-HT.sIx xs.length 0 lo),IsTup.new _ _,NoD.new _ _⟩
def HC(K:H0):R2:=fun x y H Q=>∃a b ns c,x=.ref a/\y=.ref b/\SqT K H a (ns.map V.int)/\SqT K H b (c.map V.int)/\Q (.bl (HT.lexLt ns c)) H
theorem Ea(g:X.A.units<Jq):OpR X (IY .Lt) (HC X.K):=by intro pins s σ H x y v u Q I i j h;obtain⟨a,b,ns,f,rfl,rfl,k,l,q⟩:=h;cases i;cases j;obtain⟨d,m,n,_⟩:=I.tuple k;obtain⟨c,o,p2,_⟩:=I.tuple l;have p:JO d.toArray.toList ns:=intsAre_of m;have r:JO c.toArray.toList f:=intsAre_of o;exact HT.lI n p2 p r g ⟨.bl (HT.lexLt ns f),H,I,rfl,q⟩
def FW(K:H0):R2:=fun x y H Q=>∃a b xs c,x=.ref a/\y=.ref b/\SqT K H a xs/\SqT K H b c/\xs≠[]/\xs.length+c.length<=Ir/\
 (c=[]->Q (.ref a) H)/\(c≠[]->∀p,H p=LB->Q (.ref p) (upd H p (.tup (xs++c))))
theorem Vals.oF{xs:List V}{us:List HY}(r:Vals xs us):us=[]↔xs=[]:=by
 cases r with
 |nil=>simp
 |cons _ _=>simp
theorem z5:OpR X (Kb .Add) (FW X.K):=by intro pins s σ H x y v u Q I i j h;obtain⟨a,b,xs,k,rfl,rfl,l,m,n,f,p,r⟩:=h;cases i;cases j;obtain⟨t,d,A,_⟩:=I.tuple l;obtain⟨g,c,p2,_⟩:=I.tuple m;refine HT.AO A p2 (fun z=>n (d.oF.mp z)) (fun z=>⟨.ref a,H,I,rfl,p (c.oF.mp z)⟩) (fun z=>?_) (by rw[<-d.length,<-c.length];exact f);refine⟨.ref s.heap.objs.size,_,I.laid (t':=s.toks) (o:=.tup (xs++k)) (fun b B q=>Ib _ q) (Ic _) ?_,rfl,r (fun w=>z (c.oF.mpr w)) _ (I.hok.fresh (Ic _))⟩;exact⟨by rw[JC];exact f,_,d.append c,IsTup.new _ _,NoD.new _ _⟩
end
def ixN(n:Nat)(i:Int):Option Nat:=if 0<=i then(if i<n then LA i.toNat else LB)else if -(n:Int)<=i then LA (i+n).toNat else LB
def atI{a:Type}(xs:List a)(i:Int):Option a:=(ixN xs.length i).bind fun j=>xs[j]?
theorem t6{n:Nat}{i:Int}{j:Nat}(h:ixN n i=LA j):seqIndex? i n=LA j/\j<n/\-(n:Int)<=i/\i<n:=by
 unfold ixN at h;by_cases b:0<=i
 ·rw[LG b]at h;by_cases a:i<n
  ·rw[LG a]at h;have e:i.toNat=j:=Option.some.inj h;exact⟨by rw[seqIndex_of b a,e],(),(),a⟩
  ·rw[LF a]at h;cases h
 ·rw[LF b]at h;by_cases a:-(n:Int)<=i
  ·rw[LG a]at h;have e:(i+n).toNat=j:=Option.some.inj h;exact⟨by rw[seqIndex_neg () a,e],(),a,()⟩
  ·rw[LF a]at h;cases h
theorem oX{a:Type}{xs:List a}{i:Int}{v:a}(h:atI xs i=LA v):∃j,seqIndex? i xs.length=LA j/\xs[j]?=LA v/\j<xs.length/\-(xs.length:Int)<=i/\i<xs.length:=by
 unfold atI at h;cases e:ixN xs.length i with
 |none=>rw[e]at h;cases h
 |some j=>
  rw[e]at h
  obtain⟨b,c,d,f⟩:=t6 e
  exact⟨j,b,h,c,d,f⟩
theorem bZ{a:Type}{xs:List a}{j:Nat}{v:a}(h:xs[j]?=LA v):atI xs (j:Int)=LA v:=by
 have b:j<xs.length:=(Iu.mp h).1;have e:ixN xs.length (j:Int)=LA j:=by unfold ixN;rw[LG (),LG ()];simp
 unfold atI;rw[e];exact h
def ph(b:Expr):Prop:=∀o i,subscripted b LD o i=operate [o,i] (getItem o i)
def IxR(X:Cx)(r:R2):Prop:=
 ∀(b a:Expr) (pins:List (Addr×Obj)) (s:HZ) (σ:St) (H:Hp) (x y:V) (v u:HY) (Q:VK),Inv X pins σ H s->RelV x v->RelV y u->r x y H Q->
  subscripted a LD v u=operate [v,u] (getItem v u)->Im (IC X.prog X.w) X.A (subscriptTail b a v u) (EP X pins σ Q) X.xe s
def MtR(X:Cx)(id:String)(r:V->List V->Hp->VK->Prop):Prop:=
 ∀(pins:List (Addr×Obj)) (s:HZ) (σ:St) (H:Hp) (x:V) (xs:List V) (v:HY) (us:List HY) (Q:VK),Inv X pins σ H s->RelV x v->Vals xs us->r x xs H Q->
  Im (IC X.prog X.w) X.A (call (.builtin id) (v::us)) (EP X pins σ Q) X.xe s
section
variable{X:Cx}{a b:Expr}{ta tb:TE}{pos:Pos}
theorem IxR.or{r e:R2}(h:IxR X r)(h':IxR X e):IxR X (fun x y H Q=>r x y H Q\/e x y H Q):=by
 intro c d pins s σ H x y v u Q I f g q i;rcases q with q|q
 ·exact h c d pins s σ H x y v u Q I f g q i
 ·exact h' c d pins s σ H x y v u Q I f g q i
theorem ET{r:R2}(c:IxR X r)(d:PE X a ta)(e:PE X b tb)(f:ph b):PE X (.Subscript a b pos) (tOp r ta tb):=by intro pins s σ H Q I h;exact Subscript_ (DV d e I h fun v u g x y i j k l q=>c a b pins g σ i x y v u Q j k l q (f _ _))
def GK(K:H0):R2:=fun x y H Q=>∃p xs i v,x=.ref p/\y=.int i/\SqL K H p xs/\atI xs i=LA v/\Q v H
def GD(K:H0):R2:=fun x y H Q=>∃p xs i v,x=.ref p/\y=.int i/\SqT K H p xs/\atI xs i=LA v/\Q v H
def Gp:R2:=fun x y H Q=>∃z i c,x=.str z/\y=.int i/\z.length<=Ir/\atI z.cps.toList i=LA c/\Q (.str ⟨#[c]⟩) H
theorem Aw:IxR X (GK X.K):=by
 intro e f pins s σ H x y v u Q I B C h n;obtain⟨p,xs,i,z,rfl,rfl,D,E,q⟩:=h;cases B;obtain⟨t,rfl⟩:=C;obtain⟨g,r,k,N⟩:=I.list D;obtain⟨j,d,F,O,G,J⟩:=oX E;obtain⟨w,o,l⟩:=r.get F;have L:=r.length;have P:=jA;have c:EP X pins σ Q w s:=⟨z,H,I,l,q⟩;by_cases A:0<=i
 ·have m:i.toNat=j:=by rw[seqIndex_of A J]at d;exact Option.some.inj d
  exact item_listR k.isList A () (by rw[m];simpa using o) c n
 ·have m:(i+(g.toArray.size:Int)).toNat=j:=by rw[seqIndex_neg () G]at d;rw[IB,<-L];exact Option.some.inj d
  exact subscriptTail_builtinR (x:=w) k.isList.typeIs slot_list_getitem.lookup (wpAny_getItem_list_neg (Q:=fun r M=>r=w/\EP X pins σ Q r M) k.isList () (by rw[IB]<;>omega) () (by rw[m];simpa using o) ⟨rfl,c⟩) n
theorem Dp:IxR X (GD X.K):=by intro c d pins s σ H x y v u Q I k l h m;obtain⟨p,xs,i,z,rfl,rfl,n,o,q⟩:=h;cases k;obtain⟨t,rfl⟩:=l;obtain⟨A,r,g,G⟩:=I.tuple n;obtain⟨j,B,C,J,L,M⟩:=oX o;obtain⟨w,D,e⟩:=r.get C;have E:=r.length;have N:=jA;have f:EP X pins σ Q w s:=⟨z,H,I,e,q⟩;exact subscriptTail_builtinR (x:=w) g.typeIs slot_tuple_getitem.lookup (getItem_tuple (j:=j) (Q:=fun r F=>r=w/\EP X pins σ Q r F) g () () (by rw[IB,<-E];exact B) (by simpa using D) ⟨rfl,f⟩) m
theorem Di:IxR X Gp:=by
 intro d e pins s σ H x y v u Q I g k h l;obtain⟨z,i,c,rfl,rfl,w,m,q⟩:=h;obtain⟨t,rfl⟩:=g;obtain⟨A,rfl⟩:=k;obtain⟨j,f,n,B,o,p⟩:=oX m;have r:z.cps.toList.length=z.length:=by simp[Str.length]
 rw[r]at f o p;have C:=jA
 exact tail_any (typeIs_str s z t) slot_str_getitem.lookup (getItem_str (c:=c) (by
  have e1:decide (i < -(2^63:Int))=LD:=LH ()
  have e2:decide (i≥2^63)=LD:=LH ()
  rw[e1,e2,Bool.or_false]) (by rw[f];simpa using n) ⟨.str ⟨#[c]⟩,H,I.tok _,⟨_,rfl⟩,q⟩) l
def rIx(K:H0):R2:=fun x y H Q=>GK K x y H Q\/GD K x y H Q\/Gp x y H Q
theorem CN:IxR X (rIx X.K):=Aw.or (Dp.or Di)
theorem sP(c:List HY)(n j:Nat)(u:HY):Obj.mapSeq (·.setIfInBounds j u) { cls:=.type "list",data:=.seq c.toArray n }={ cls:=.type "list",data:=.seq (c.set j u).toArray n }:=by simp[Obj.mapSeq]
theorem Inv.lst{pins:List (Addr×Obj)}{σ:St}{H:Hp}{s:HZ}{p:Addr}{xs:List V}(I:Inv X pins σ H s)(h:H p=LA (.lst xs)) : ∃(c:List HY) (n:Nat),Vals xs c/\s.heap.get? p=LA { cls:=.type "list",data:=.seq c.toArray n }/\xs.length<=Ir:=by obtain⟨z,c,n,r,e⟩:=I.hok p _ h;exact⟨c,n,r,e,z⟩
theorem Inv.EJ{pins:List (Addr×Obj)}{σ:St}{H:Hp}{s:HZ}{p:Addr}{xs d:List V}{c its':List HY}{n g:Nat}{f:Obj->Obj}(I:Inv X pins σ H s)(h:H p=LA (.lst xs))
 (j:s.heap.get? p=LA { cls:=.type "list",data:=.seq c.toArray n }) (i:f { cls:=.type "list",data:=.seq c.toArray n }={ cls:=.type "list",data:=.seq its'.toArray g }) (r:Vals d its') (hz:d.length<=Ir) (t:Nat) :
 Inv X pins σ (upd H p (.lst d)) { s with heap:=s.heap.update p f,toks:=t }:=by
 have e:(s.heap.update p f).get? p=LA { cls:=.type "list",data:=.seq its'.toArray g }:=by
  rw[Kc f j (by rw[i]<;>rfl),i]
 refine I.write (x:=p) (e:=p) (by rw[h];trivial) (.inl rfl) (fun b u k q=>(JG _ _ (Ne.symm k)).trans q) ⟨_,e⟩ ?_
 exact⟨hz,its',g,r,e⟩
def E1:V->V->V->Hp->(Hp->Prop)->Prop:=fun o i v H Q=>∃p xs k j,o=.ref p/\i=.int k/\H p=LA (.lst xs)/\ixN xs.length k=LA j/\Q (upd H p (.lst (xs.set j v)))
theorem set_list:Gw X E1:=by
 intro pins s σ H o i v E F u Q I z A B h;obtain⟨p,xs,k,j,rfl,rfl,l,C,q⟩:=h;cases z;obtain⟨t,rfl⟩:=A;obtain⟨c,n,r,e,D⟩:=I.lst l;obtain⟨d,G,m,w⟩:=t6 C;have f:=r.length;have J:=jA;have x:Inv X pins σ (upd H p (.lst (xs.set j v))) { s with heap:=s.heap.update p (Obj.mapSeq (·.setIfInBounds j u)) }:=I.EJ l e (sP c n j u) (r.set B j) (by rw[List.length_set];exact D) s.toks;by_cases y:0<=k
 ·have g:k.toNat=j:=by rw[seqIndex_of y w]at d;exact Option.some.inj d
  exact PySem.W.ki_setAt e y () (by rw[IB,<-f];exact w) (by rw[g];exact⟨_,x,q⟩)
 ·have g:(k+(c.toArray.size:Int)).toNat=j:=by rw[seqIndex_neg () m]at d;rw[IB,<-f];exact Option.some.inj d
  exact PySem.W.ki_setBack e () (by rw[IB,<-f];exact m) () (by rw[g];exact⟨_,x,q⟩)
theorem ox(c d:Option Int)(n:Nat):(sliceBounds c d LB n).1=((HT.sIx n 0 c:Nat):Int)/\(sliceBounds c d LB n).2.1=((HT.sIx n n d:Nat):Int)/\(sliceBounds c d LB n).2.2=1:=by
 refine⟨?_,?_,rfl⟩
 ·cases c with
  |none=>simp[sliceBounds,HT.sIx]
  |some i=>
   simp only[sliceBounds,HT.sIx,Option.getD_none,show(1:Int)>0 by decide,if_true]
   by_cases h:i<0
   ·simp only[h,if_true]<;>omega
   ·simp only[h,if_false]<;>omega
 ·cases d with
  |none=>simp[sliceBounds,HT.sIx]
  |some i=>
   simp only[sliceBounds,HT.sIx,Option.getD_none,show(1:Int)>0 by decide,if_true]
   by_cases h:i<0
   ·simp only[h,if_true]<;>omega
   ·simp only[h,if_false]<;>omega
theorem mR(c:List HY)(d e:Option Int):slicePick c.toArray d e LB=((c.drop (HT.sIx c.length 0 d)).take (HT.sIx c.length c.length e-HT.sIx c.length 0 d)).toArray:=by obtain⟨f,g,h⟩:=ox d e c.toArray.size;unfold slicePick;rw[f,g,h];simp only[sliceRange_one,pick_run,IB]<;>rfl
def HQ(K:H0):V->Option Int->Option Int->Hp->VK->Prop:=fun x c d H Q=>∃a xs,x=.ref a/\SqL K H a xs/\∀p,H p=LB->Q (.ref p) (upd H p (.lst (ql xs c d)))
theorem Bm:SlR X (HQ X.K):=by intro pins s σ H x v vl p d e t Q I g i j k h;obtain⟨a,xs,rfl,l,q⟩:=h;cases g;obtain⟨m,r,f,n⟩:=I.list l;have c:=r.length;refine⟨"list",_,slot_list_getitem.lookup,f.isList.typeIs,?_⟩;refine wpAny_getItem_list_slice f.isList i j k .none (by simp) ?_ (by rw[IB]<;>omega);rw[mR,<-c];refine⟨.ref s.heap.objs.size,_,I.laid (t':=s.toks) (o:=.lst (ql xs d e)) (fun b u q=>Ib _ q) (Ic _) ?_,rfl,q _ (I.hok.fresh (Ic _))⟩;exact⟨Jp (j6 xs d e) n,_,0,(r.drop (HT.sIx xs.length 0 d)).take (HT.sIx xs.length xs.length e-HT.sIx xs.length 0 d),Ik _ rfl⟩
theorem ou:cG X (.builtin "len") (fun xs H Q=>∃p d,xs=[.ref p]/\(SqL X.K H p d\/SqT X.K H p d)/\Q (.int d.length) H):=by
 intro pins s σ H xs us Q I r h;obtain⟨p,d,rfl,e,q⟩:=h;obtain⟨u,rfl,j⟩:=vals1 r;cases j;have l:=jA;rcases e with e|e
 ·obtain⟨f,g,i,k⟩:=I.list e;have c:=g.length;exact Calls.call_len_list i.isList (by simp only[IB]<;>omega) ⟨.int d.length,H,I.tok _,⟨s.toks+1,by rw[IB,c]⟩,q⟩
 ·obtain⟨f,g,i,k⟩:=I.tuple e;have c:=g.length;exact len_tuple i (by simp only[IB]<;>omega) ⟨.int d.length,H,I.tok _,⟨s.toks+1,by rw[IB,c]⟩,q⟩
theorem cG.or{f:HY}{r c:List V->Hp->VK->Prop}(h:cG X f r)(h':cG X f c):cG X f (fun xs H Q=>r xs H Q\/c xs H Q):=by
 intro pins s σ H xs us Q I d q;rcases q with q|q
 ·exact h pins s σ H xs us Q I d q
 ·exact h' pins s σ H xs us Q I d q
theorem pJ:cG X (.type "list") (fun xs H Q=>∃p f,xs=[.ref p]/\(SqL X.K H p f\/SqT X.K H p f)/\∀l,H l=LB->Q (.ref l) (upd H l (.lst f))):=by
 intro pins s σ H xs us Q I r h;obtain⟨p,f,rfl,j,q⟩:=h;obtain⟨u,rfl,A⟩:=vals1 r;cases A;have k:∀(c:List HY),Vals f c->f.length<=Ir->∀(d:Heap) (g:Nat),(∀b z,s.heap.get? b=LA z->d.get? b=LA z)->d.get? s.heap.objs.size=LA { cls:=.type "list",dict:=LB,data:=.seq c.toArray g,slots:=#[] }->EP X pins σ Q (.ref s.heap.objs.size) { s with heap:=d }:=fun c i m d g kp e=>⟨.ref s.heap.objs.size,_,I.laid (t':=s.toks) kp (Ic _) (show cF X.prog X.w _ d _ (.lst f)from⟨m,c,g,i,e⟩),rfl,q _ (I.hok.fresh (Ic _))⟩;rcases j with j|j
 ·obtain⟨c,i,v,m⟩:=I.list j;have t:=i.length;obtain⟨o,x,y,n,hd⟩:=v.isList;exact call_list_seq p (.inl rfl) x y hd (fun d g kp e=>k c i m d g kp e) (by simp only[IB]<;>omega)
 ·obtain⟨c,i,v,m⟩:=I.tuple j;have t:=i.length;obtain⟨o,x,y,n,hd⟩:=v;exact call_list_seq p (.inr rfl) x y hd (fun d g kp e=>k c i m d g kp e) (by simp only[IB]<;>omega)
theorem mS:cG X (.type "tuple") (fun xs H Q=>∃p d,xs=[.ref p]/\((SqL X.K H p d/\∀l,H l=LB->Q (.ref l) (upd H l (.tup d)))\/(SqT X.K H p d/\Q (.ref p) H))):=by
 intro pins s σ H xs us Q I r h;obtain⟨p,d,rfl,h⟩:=h;obtain⟨u,rfl,t⟩:=vals1 r;cases t;rcases h with⟨g,q⟩|⟨g,q⟩
 ·obtain⟨c,i,j,k⟩:=I.list g;have m:=i.length;refine call_tuple_list j.isList (fun f kp=>?_) (by simp only[IB]<;>omega);have n:Inv X pins σ H { s with heap:=f }:=I.kept (t':=s.toks) kp;have v:Inv X pins σ (upd H f.objs.size (.tup d)) { s with heap:=f.push { cls:=.type "tuple",data:=.seq c.toArray } }:=n.laid (t':=s.toks) (fun b o e=>Ib _ e) (Ic _) (show cF X.prog X.w _ _ _ (.tup d)from⟨k,c,i,IsTup.new _ _,NoD.new _ _⟩);exact⟨.ref f.objs.size,_,v,rfl,q _ (n.hok.fresh (Ic _))⟩
 ·obtain⟨c,i,j,k⟩:=I.tuple g;exact call_tuple_same j ⟨.ref p,H,I,rfl,q⟩
def tyV(K:H0)(T:String)(x:V)(H:Hp):Prop:=match x with
 |.str _=>T="str"
 |.int _=>T="int"
 |.ref p=>(T="list"/\∃xs,SqL K H p xs)\/(T="tuple"/\∃o,K.lookup p=LA o/\o.cls=.type "tuple"/\o.dict=LB)\/
  (T="dict"/\((∃kvs,H p=LA (.dK kvs))\/∃kvs,H p=LA (.dT kvs)))\/(T="set"/\∃S n,H p=LA (.set S n))
 |_=>False
theorem Dm{pins:List (Addr×Obj)}{σ:St}{H:Hp}{s:HZ}{T:String}{x:V}{v:HY}(I:Inv X pins σ H s)(r:RelV x v)(ty:tyV X.K T x H) : s.TypeIs v T/\∀a,v=.ref a->∃f,s.heap.get? a=LA f/\f.dict=LB:=by
 cases x with
 |str z=>
  obtain⟨t,rfl⟩:=r
  cases (show T="str" from ty)
  exact⟨typeIs_str s z t,fun _ e=>nomatch e⟩
 |int i=>
  obtain⟨t,rfl⟩:=r
  cases (show T="int" from ty)
  exact⟨typeIs_int s i t,fun _ e=>nomatch e⟩
 |ref p=>
  cases r
  rcases ty with⟨rfl,xs,h⟩|⟨rfl,o,d,j,hd⟩|⟨rfl,d⟩|⟨rfl,S,n,d⟩
  ·obtain⟨k,_,g,_⟩:=I.list h;refine⟨g.isList.typeIs,fun a e=>?_⟩;cases e;obtain⟨o,n,e,c,hd,_⟩:=g;exact⟨o,e,hd⟩
  ·refine⟨⟨o,I.kIn p o d,j⟩,fun a e=>?_⟩;cases e;exact⟨o,I.kIn _ o d,hd⟩
  ·have z:∃o,s.heap.get? p=LA o/\o.ExactDict:=by
    rcases d with⟨kvs,d⟩|⟨kvs,d⟩
    ·obtain⟨_,_,_,_,o,_,_,e,ex,_⟩:=I.hok p _ d;exact⟨o,e,ex⟩
    ·obtain⟨_,_,_,_,o,_,_,e,ex,_⟩:=I.hok p _ d;exact⟨o,e,ex⟩
   obtain⟨o,e,ex⟩:=z;refine⟨⟨o,e,ex.1⟩,fun a e2=>?_⟩;cases e2;exact⟨o,e,ex.2.1⟩
  ·obtain⟨o,_,_,_,e,ex,_⟩:=I.hok p _ d;refine⟨⟨o,e,ex.1⟩,fun a e2=>?_⟩;cases e2;exact⟨o,e,ex.2.1⟩
 |_=>exact L7 ty
def tBM(K:H0)(T:String)(r:V->List V->Hp->VK->Prop)(c:TE)(t:TA):TE:=fun σ H Q=>c σ H fun x H1=>tyV K T x H1/\t σ H1 fun xs d=>r x xs d Q
variable{o e:Expr}{es:List Expr}{to:TE}{t:TA}{name:Str}{apos br:Pos}{T id:String}{r:V->List V->Hp->VK->Prop}
theorem B3(p:PlainAttrs T)(slot:Slot T name id)(k:typeOf (.builtin id)=pure (.type "method_descriptor"))(q:MtR X id r)(u:PE X o to)(w:PA X (e::es) t)
 (g:attributeBase o name X.env (eval o X.env)=eval o X.env:=by rfl)
 (j:((JL br (Iz (e::es) X.env)).all (fun x=>!x.1)&&(backToKw br (KJ [] X.env)).all (fun x=>x.1.isSome)
  && decide ((e::es).length+([]:List Keyword).length+(if([]:List Keyword).isEmpty then 0 else 1)<30))=LC:=by rfl)
 (i:(apos.endLine==br.line)=LC:=by rfl) (y:Iz (e::es) X.env=(LD,eval e X.env)::Iz es X.env:=by rfl) (c:(JL br (Iz es X.env)).any (·.1)=LD:=by rfl) :
 PE X (.Call (.Attribute o name apos) (e::es) [] br) (tBM X.K T r to t):=by
 intro pins s σ H Q I h
 refine wpAny_Call_method_late g j i rfl (thn (u pins s σ H _ I h) fun v z d=>?_)
 obtain⟨x,H1,l,m,ty,A⟩:=d
 obtain⟨B,C⟩:=Dm l m ty
 refine⟨T,id,p,slot,k,B,C,?_⟩
 have n:=w br pins z σ H1 _ l A
 rw[y]at n ⊢
 refine Calls.callWith_builtin (by show(LD||(JL br (Iz es X.env)).any (·.1))=LD;rw[c]<;>rfl) (Calls.evalArgs_plain ?_)
 exact thn n fun us D f=>by obtain⟨vs,E,F,G,J⟩:=f;exact(q pins D σ E x vs v us Q F m G J)
/- xs.append(e),list.index on a module's tuple .. are MtR facts of 06m -/
end
def MtM(X:Cx)(id:String)(r:V->List V->Hp->VK->Prop):Prop:=
 ∀(pins:List (Addr×Obj)) (s:HZ) (σ:St) (H:Hp) (x:V) (xs:List V) (v:HY) (us:List HY) (Q:VK),Inv X pins σ H s->RelV x v->Vals xs us->r x xs H Q->
  Im (IC X.prog X.w) X.A (call (.builtin id) (v::us)) (EP X pins σ Q) X.xe s
theorem Vals.one:∀{x:V} {us:List HY},Vals [x] us->∃u,us=[u]/\RelV x u:=by
 intro x us h;cases h with
 |cons r t=>cases t;exact⟨_,rfl,r⟩
theorem Vals.two:∀{x y:V} {us:List HY},Vals [x,y] us->∃u v,us=[u,v]/\RelV x u/\RelV y v:=by
 intro x y us h;cases h with
 |cons r t=>
  cases t with
  |cons q n=>cases n;exact⟨_,_,rfl,r,q⟩
theorem Vals.rep{xs:List V}{us:List HY}(h:Vals xs us):∀k:Nat,Vals (IQ k xs).flatten (IQ k us).flatten
 |0=>.nil
 |k+1=>by
  rw[JJ,JJ,KL,KL]
  exact Vals.append h (Vals.rep h k)
theorem foldl_rep(a:List HY):∀(k:Nat) (b:List HY),
 List.foldl (fun x1 c=>x1++c) b.toArray (IQ k a.toArray)=(b++(IQ k a).flatten).toArray
 |0,b=>by simp
 |k+1,b=>by
  have e:b.toArray++a.toArray=(b++a).toArray:=by simp
  have e2:(b++a)++(IQ k a).flatten=b++(IQ (k+1) a).flatten:=by
   rw[JJ,KL,KN]
  rw[<-e2,<-foldl_rep a k (b++a),<-e,JJ,KG]
section
variable{X:Cx}{pins:List (Addr×Obj)}{σ:St}{H:Hp}{s:HZ}{l b:Addr}{xs ys zs:List V}
theorem Inv.GF{a its':List HY}{n:Nat}{f:Array HY->Array HY}{t':Nat}(I:Inv X pins σ H s)(c:H l=LA (.lst xs))
 (e:s.heap.get? l=LA { cls:=.type "list",data:=.seq a.toArray n }) (d:f a.toArray=its'.toArray) (g:Vals ys its') (hz:ys.length<=Ir) :
 Inv X pins σ (upd H l (.lst ys)) { s with heap:=s.heap.update l (Obj.mapSeq f),toks:=t' }:=by
 have q:=PySem.IsL.update e f
 rw[d]at q
 refine I.write (x:=l) (e:=l) (by rw[c];exact trivial) (.inl rfl) (fun j u h i=>(JG s.heap (Obj.mapSeq f) (Ne.symm h)).trans i) ⟨_,q⟩ ?_
 exact⟨hz,its',_,g,q⟩
theorem Inv.FR{a:List HY}{t':Nat}(I:Inv X pins σ H s)(c:Vals ys a)(hz:ys.length<=Ir) : Inv X pins σ (upd H s.heap.objs.size (.lst ys)) { s with heap:=s.heap.push { cls:=.type "list",data:=.seq a.toArray },toks:=t' }:=I.laid (fun _ _ q=>Ib _ q) (Ic _) ⟨hz,a,0,c,Ik _ rfl⟩
theorem Inv.fresh(I:Inv X pins σ H s):H s.heap.objs.size=LB:=I.hok.fresh (Ic _)
theorem Inv.oE(I:Inv X pins σ H s)(c:H l=LA (.lst xs)):xs.length<=Ir/\∃(a:List HY) (n:Nat),Vals xs a/\xs.length=a.length/\s.heap.get? l=LA { cls:=.type "list",data:=.seq a.toArray n }:=by obtain⟨z,a,n,r,e⟩:=I.hok l _ c;exact⟨z,a,n,r,r.length,e⟩
theorem xA{n:Nat}(h:n<=Ir):Builtin.List.listTooLong n=LD:=by unfold Builtin.List.listTooLong;exact LH ()
end
section
variable{X:Cx}
def zV:V->List V->Hp->VK->Prop:=fun x vs H Q=>∃l xs y,x=.ref l/\vs=[y]/\H l=LA (.lst xs)/\xs.length<Ir/\Q .non (upd H l (.lst (xs++[y])))
theorem jJ:MtM X "list.append" zV:=by intro pins s σ H x vs v us Q I c d h;obtain⟨l,xs,y,rfl,rfl,b,g,q⟩:=h;cases c;obtain⟨u,rfl,f⟩:=d.one;obtain⟨z,a,n,r,i,e⟩:=I.oE b;refine call_meets F.slot_list_append ⟨_,e,rfl⟩ F.entry_list_append (F.args_list_append_2 _ _) (PySem.list_append l a.toArray n u (by rw[IB];omega)) ⟨e,?_⟩;refine⟨.non,_,I.GF (its':=a++[u]) b e (by simp) (r.append (.cons f .nil)) ?_,rfl,q⟩;rw[JC,List.length_singleton];omega
def HN:R2:=fun x y H Q=>∃l b xs a,x=.ref l/\y=.ref b/\H l=LA (.lst xs)/\H b=LA (.lst a)/\xs.length+a.length<=Ir/\∀p,H p=LB->Q (.ref p) (upd H p (.lst (xs++a)))
theorem CQ:OpR X (Kb .Add) HN:=by
 intro pins s σ H x y v u Q I d f h;obtain⟨l,b,xs,m,rfl,rfl,g,i,o,q⟩:=h;cases d;cases f;obtain⟨z,c,n,r,p,e⟩:=I.oE g;obtain⟨t,a,w,j,k,e2⟩:=I.oE i;refine PySem.P.add_list e e2 ?_ (by rw[IB,IB];omega);have ea:c.toArray++a.toArray=(c++a).toArray:=by simp
 rw[ea];exact⟨.ref _,_,I.FR (t':=s.toks) (r.append j) (by rw[JC];omega),rfl,q _ I.fresh⟩
def HH:R2:=fun x y H Q=>∃l k xs,x=.ref l/\y=.int k/\H l=LA (.lst xs)/\-(2^63)<=k/\k<2^63/\xs.length*k.toNat<=Ir/\
 ∀p,H p=LB->Q (.ref p) (upd H p (.lst (IQ k.toNat xs).flatten))
theorem len_rep{a:Type}(xs:List a)(k:Nat):(IQ k xs).flatten.length=k*xs.length:=by
 induction k with
 |zero=>simp
 |succ k b=>rw[JJ,KL,JC,b,Nat.succ_mul,Nat.add_comm]
theorem Dg:OpR X (Kb .Mult) HH:=by
 intro pins s σ H x y v u Q I p w h;obtain⟨l,k,xs,rfl,rfl,A,B,C,o,q⟩:=h;cases p;obtain⟨t,rfl⟩:=w;obtain⟨z,b,n,r,D,e⟩:=I.oE A;have d:b.toArray.size*k.toNat<=Ir:=by rw[IB,<-D];exact o
 have f:¬b.toArray.size*k.toNat>(2^63-1)/8:=by
  have:(Ir:Nat)<=(2^63-1)/8:=⋯
  omega
 have g:¬(!Builtin.List.listFitsIndex k)=LC:=by rw[fitsIndex_both B C];exact Iq
 have c:¬Builtin.List.listTooLong (b.toArray.size*k.toNat)=LC:=by rw[xA d];exact Iq
 have i:List.foldl (fun x1 j=>x1++j) #[] (IQ (if b.toArray.isEmpty=LC then 0 else k.toNat) b.toArray)=(IQ k.toNat b).flatten.toArray:=by
  have E:∀m:Nat,List.foldl (fun x1 j=>x1++j) #[] (IQ m b.toArray)=(IQ m b).flatten.toArray:=fun m=>by
   have:=foldl_rep b m []
   rw[List.nil_append]at this
   exact this
  rw[E]
  cases b with
  |nil=>simp
  |cons a J=>rw[LF (by simp)]
 refine wpAny_binaryOp_repeat_ref (T:="list") (U:="int") ⋯ ⟨_,e,rfl⟩ (fun G=>typeIs_int G k t) noFill_list_mul F.fills_int_mul F.slot_int_rmul repeat_list F.slot_int_index.lookup
  (call_meets F.slot_int_rmul (typeIs_int s k t) F.entry_int_rmul (F.args_int_rmul_2 _ _) (int___rmul___int_list k t l b.toArray n)
   ⟨e,rfl,⟨_,e,rfl⟩,call_meets F.slot_list_mul ⟨_,e,rfl⟩ F.entry_list_mul (F.args_list_mul_2 _ _) (AutoListH.list___mul___list_int_3 l b.toArray n k t g f c) ⟨e,?_⟩⟩)
 rw[i];exact⟨.ref _,_,I.FR (t':=s.toks) (r.rep k.toNat) (by rw[len_rep,Nat.mul_comm];exact o),rfl,q _ I.fresh⟩
end
end L2
namespace Att
open PySem PySem.W PySem.Calls PyProof.Rows
theorem kh{P:IS}{h:Heap}:∀(ns:List Int) (vs:List HY),WellAll P h vs (ns.map WData.int)->JO vs ns:=by
 intro ns
 induction ns with
 |nil=>
  intro vs w
  rw[JF]at w
  cases w
  exact .nil
 |cons n ns c=>
  intro vs w
  rw[Ih]at w
  cases w with
  |cons a b=>
   cases a
   exact .cons _ _ (c _ b)
theorem wb{l:OpenLaw}{n:Nat}(o:l.most=LA n){P:IS}{h:Heap}{args:List WData}{b:List HY}
 (c:l.row.toRowW.claim.pre args=LC) (j:WellAll P h b args) :
 ∃a vs ns,b=[Jx a]/\args=[WData.list (ns.map WData.int)]/\h.get? a=LA { cls:=.type "list",data:=.seq vs.toArray }/\JO vs ns/\ns.length<=n:=by
 have k:WShape.hasAll [] args [.list .int]=LC:=(pre_splitW c).1
 have m:l.pre.holds [] { args:=args }=LC:=(pre_splitW c).2
 obtain⟨d,r,rfl,p,s⟩:=hasAllW_cons k
 obtain rfl:=hasAllW_nil s
 obtain⟨xs,rfl,t⟩:=hasW_list p
 obtain⟨ns,rfl⟩:=items_int t
 have e:ns.length<=n:=by
  unfold OpenLaw.pre at m
  have g:(WTm.not (.lt (.lit (.int (n:Int))) (.len (.arg 0)))).holds [] { args:=[.list (ns.map .int)] }=LC:=by
   have g:=(holds_andW m).1
   rw[o]at g
   exact g
  have i:=condW_of g (w_not (w_lt w_lit (w_len_list (w_arg rfl))))
  rw[Ii]at i
  refine Nat.le_of_not_lt fun q=>?_
  have u:(n:Int)<((ns.length:Nat):Int):=()
  first
   |(rw[LI u]at i;exact absurd i ⋯)
   |(simp at i;omega)
 cases j with
 |cons v w=>
  cases w
  cases v with
  |list x f=>exact⟨_,_,ns,rfl,rfl,x,kh ns _ f,e⟩
theorem vW(l:OpenLaw)(args:List WData):l.row.toRowW.claim.post args (.bool LC) args=LC:=
 postW_of (r:=l.row.toRowW) (X:=(LC==LC))
  (show WShape.has [] (.bool LC) .bool=LC by first|rfl|decide|simp[WShape.has,WShape.arms,WShape.armsAll])
  (show(WTm.eq .res (.lit (.bool LC))).value [] { args:=args,res:=LA (.bool LC),after:=args }=LA (.bool (LC==LC))from w_eq_bool (w_res rfl) w_lit) rfl
theorem qo{l:OpenLaw}{n:Nat}{q:IH}{c:List Str}{y:(Str->Option HY)->Heap->Prop}{z:J5->Heap->Prop}{d:DefRec}
 (D:l.most=LA n) (p:d.params.defaults=[])
 (call:∀(w:J5) (s₀ b:HZ) (mg s:Str->Option HY) (fa:Addr) (o:Obj) (t k e:HY) (a:Addr) (vs:List HY) (ns:List Int),
  Ground q c [] y w s₀ mg s b.heap->z w b.heap->
  b.heap.get? fa=LA o->o.data=.func (docDef d.name d.params d.body d.scope t k e)->b.heap.CodeRec k d.name->mg d.name=LA (.ref fa)->
  b.heap.get? a=LA { cls:=.type "list",data:=.seq vs.toArray }->JO vs ns->ns.length<=n->b.gens=#[]->
  Km (IC l.prog w) callerA (.call (.ref fa) ⟨[.ref a],[]⟩) (fun r m=>r=.ok (.ret (.bool LC))/\OldK b.heap m.heap/\m.os=b.os/\AllBare m.gens) b) :
 WalkO q c y z l.row.toRowW d [] (fun f vs=>PySem.call f vs):=by
 intro w s₀ b mg s G Y fa o t k e E kV F hd u A v H args B P h C I x J
 obtain rfl:E=.none:=Dflts.none A p
 obtain rfl:kV=.none:=Dflts.noKw A
 obtain⟨a,vs,ns,rfl,rfl,i,g,j⟩:=wb D h x
 refine enter_call (codeAny_mono (call w s₀ b mg s fa o t k e a vs ns G Y F (fd_plain hd) u v i g j H) fun r m K=>?_)
 obtain⟨rfl,L,M,N⟩:=K
 exact⟨.inl ⟨.bool LC,.bool LC,[],rfl,fun _=>rfl,.bool LC,vW l _,fun _=>⟨List.Pairwise.nil,fun _ O=>(nomatch O)⟩⟩,L,M,N⟩
section
variable{prog:IH}{w:J5}{A:Jd}{E:HY->HZ->Prop}{s:HZ}{K:Frag}
end
end Att
namespace L2
open PySem PySem.Spec PyProof.Rows
theorem ny:∀{vs:List HY} {ns:List Int},JO vs ns->Vals (ns.map V.int) vs
 |_,_,.nil=>.nil
 |_,_,.cons n t h=>.cons ⟨t,rfl⟩ (ny h)
def Dy(H:Hp):Prop:=∀b,H b=LB\/∃o xs,H b=LA (.frz o (.lst xs))
theorem wG{P:IH}{w:J5}{K:H0}{mg L:Str->Option HY}{CX:CXT}{k:Nat}{fa a:Addr}{fd:L9}{x:Str}{sp:Sp}{c:HZ}{vs:List HY}{ns:List Int}
 (T:K.In c.heap) (y:c.heap.Ns KI mg) (g:c.heap.Ns builtinsNs L) (M:∀x:Str,x≠"__name__"->L x=Ju x) (A:c.heap.NoLimit) (hg:c.gens=#[])
 (J:c.heap.get? a=LA { cls:=.type "list",data:=.seq vs.toArray }) (U:JO vs ns) (W:ns.length<=Ir) (hr:Room k callerA)
 (F:∀base:Heap,K.In base->base.Ns KI mg->FnOk P w K mg base CX k fa fd [x] sp) (t:∀(s:HZ) (u:HY),BindsTo s fd ⟨[u],[]⟩ [(x,u)])
 (N:∀H:Hp,Dy H->SqL K H a (ns.map V.int)->sp [.ref a] H (fun v _=>v=.bl LC) fun _ _ _=>False)
 (O:∀H e i,CX [] H c (fun _ _ _=>False) e i->False) :
 Km (IC P w) callerA (.call (.ref fa) ⟨[.ref a],[]⟩) (fun r i=>r=.ok (.ret (.bool LC))/\OldK c.heap i.heap/\i.os=c.os/\AllBare i.gens) c:=by
 have X:=ny U
 have B:=U.length
 have p:∀H:Hp,Dy H->SqL K H a (ns.map V.int)->HOk P w H c.heap->(∀b,H b≠LB->b=a)->(H a≠LB->K.lookup a=LB)->
  Km (IC P w) callerA (.call (.ref fa) ⟨[.ref a],[]⟩) (fun r i=>r=.ok (.ret (.bool LC))/\OldK c.heap i.heap/\i.os=c.os/\AllBare i.gens) c:=by
  intro H Y hS hok Z hK
  have f:∀{b:Addr} {o:Obj},c.heap.get? b=LA o->H b=LB->(oB c.heap H).get? b=LA o:=fun e n=>yB e n
  have Q:∀{b:Addr} {o:Obj} {C:Array Jt} {D:Nat},c.heap.get? b=LA o->o.data=.dict C D->H b=LB:=fun{b o C D} e d=>by
   cases q:H b with
   |none=>rfl
   |some u=>
    have R:b=a:=Z b (by rw[q];simp)
    subst R
    rw[J]at e;cases e
    have d':Data.seq vs.toArray _=Data.dict C D:=d
    cases d'
  have j:∀{b:Addr} {m:Str->Option HY},c.heap.Ns b m->(oB c.heap H).Ns b m:=fun{b m} l=>by obtain⟨o,C,D,e,d,r⟩:=l;exact(⟨o,C,D,f e (Q e d),d,r⟩)
  have E:K.In (oB c.heap H):=fun b o e=>f (T b o e) (by
   cases q:H b with
   |none=>rfl
   |some u=>
    have R:b=a:=Z b (by rw[q];simp)
    subst R
    rw[hK (by rw[q];simp)]at e;cases e)
  have hM:Mod K mg (oB c.heap H):=⟨E,j y,⟨L,j g,M⟩,let⟨mc,h1,h2⟩:=A;⟨mc,j h1,h2⟩⟩
  have e0:Env0 P w K mg (oB c.heap H) callerA [] c H:=⟨rfl,hM,fun b o e=>AW e,Nat.le_of_eq (vE _ _),trivial,fun b g=>absurd (show b∈([]:List Addr)from g) (by simp),hok,.of_eq hg⟩
  refine codeAny_mono ((F _ E (j y)).run callerA [] c H ⟨[.ref a],[]⟩ [.ref a] [.ref a] _ _ hr e0 (t c (.ref a)) (.cons rfl .nil) (N H Y hS)) fun r i h=>?_
  cases r with
  |error e=>exact(O H e i h).elim
  |ok fl=>
   cases fl with
   |next=>exact L7 h
   |brk=>exact L7 h
   |cont=>exact L7 h
   |ret u=>
    obtain⟨v,H',os,bare,un,G,r',q⟩:=h
    have q':v=.bl LC:=q
    subst q'
    obtain rfl:u=L5 LC:=r'
    refine⟨rfl,OldK.of_keep fun b o e=>?_,os,bare⟩
    cases q:H b with
    |none=>exact un.keep b o e q (by intro z;exact absurd (show b∈([]:List Addr)from z) (by simp)) (by simp)
    |some u=>
     rcases Y b with z|⟨ob,xs,z⟩
     ·rw[q]at z;cases z
     ·have z2:=un.frzs b ob _ z
      obtain⟨e1,_⟩:=hok b _ z
      obtain⟨e2,_⟩:=G b _ z2
      rw[e]at e1;cases e1
      exact e2
 cases S:K.lookup a with
 |some o=>
  have e:=T a o S
  rw[J]at e
  cases e
  refine p (fun _=>LB) (fun _=>.inl rfl) (.inr ⟨_,vs.toArray,_,S,rfl,rfl,rfl,by rw[IB,B];exact W,by simpa using X⟩) (fun b u z=>by have I:(LB:Option HO)=LA u:=z;cases I) (fun b z=>absurd rfl z) fun z=>absurd rfl z
 |none=>
  refine p (fun b=>if b=a then LA (.frz { cls:=.type "list",data:=.seq vs.toArray } (.lst (ns.map V.int)))else LB) (fun b=>?_) (.inl (.inr ⟨{ cls:=.type "list",data:=.seq vs.toArray },LG rfl⟩)) (fun b u z=>?_) (fun b z=>?_) fun _=>S
  ·by_cases g:b=a
   ·exact .inr ⟨_,_,LG g⟩
   ·exact .inl (LF g)
  ·by_cases g:b=a
   ·have I:=(LG g).symm.trans z
    cases I
    subst g
    exact⟨J,by rw[Ii];exact W,vs,_,X,J⟩
   ·have I:=(LF g).symm.trans z
    cases I
  ·by_cases g:b=a
   ·exact g
   ·exact absurd (LF g) z
abbrev KOf{K:H0}{h:Heap}(_:K.In h):H0:=K
theorem zU{l:PySem.W.OpenLaw}{n k:Nat}{q:IH}{i:List Str}{E:(Str->Option HY)->Heap->Prop}{C:J5->Heap->Prop}{d:DefRec}{K:IS->H0}{CX:J5->CXT}{sp:J5->Sp}{x:Str}
 (I:l.most=LA n) (r:n<=Ir) (t:d.params.defaults=[]) (J:Room k callerA)
 (L:∀(w:J5) (h:Heap),C w h->(K w.params).In h)
 (F:∀(w:J5) (mg:Str->Option HY) (fa:Addr) (h:Heap),(K w.params).In h->h.Ns KI mg->mg d.name=LA (.ref fa)->
  ∃fd:L9,(∀(s:HZ) (u:HY),BindsTo s fd ⟨[u],[]⟩ [(x,u)])/\
   ∀base:Heap,(K w.params).In base->base.Ns KI mg->FnOk l.prog w (K w.params) mg base (CX w) k fa fd [x] (sp w))
 (y:∀(w:J5) (H:Hp) (a:Addr) (ns:List Int),ns.length<=n->Dy H->SqL (K w.params) H a (ns.map V.int)->sp w [.ref a] H (fun v _=>v=.bl LC) fun _ _ _=>False)
 (z:∀(w:J5) (H:Hp) (s:HZ) (e:HY) (A:HZ),CX w [] H s (fun _ _ _=>False) e A->False) :
 PySem.W.WalkO q i E C l.row.toRowW d [] (fun f vs=>PySem.call f vs):=by
 refine Att.qo I t fun w s₀ m mg S fa o U X M a vs ns G Y Z hd N B p j c O=>?_
 have D:=L w _ Y
 obtain⟨fd,P,hF⟩:=F w mg fa _ D G.T.g B
 exact wG D G.T.g G.T.b G.T.builtins G.T.nolimit O p j (Jp c r) J hF P (fun H Q R=>y w H a ns c Q R) fun H e A=>z w H m e A
def cz(s:Stmt):Arguments:=match s with
 |.FunctionDef _ a _ _ _ _ _ _ _ _=>a
 |_=>{ posonlyargs:=[],args:=[],vararg:=LB,kwonlyargs:=[],kw_defaults:=[],kwarg:=LB,defaults:=[] }
def bg(s:Stmt):List Stmt:=match s with
 |.FunctionDef _ _ b _ _ _ _ _ _ _=>b
 |_=>[]
def au(s:Stmt):Kv:=match s with
 |.FunctionDef _ _ _ _ _ _ sc _ _ _=>sc
 |_=>{ kind:=.function,names:=[],isGenerator:=LD,isCoroutine:=LD }
abbrev CX0:CXT:=fun _ _ _ _ _ _=>False
abbrev E0:XK:=fun _ _ _=>False
theorem FJ{X:Cx}:Passes CX0 X E0:=fun _ _ _ _ _ _ _ h=>h.elim
structure Fun(K:H0)(x qual:Str)(st:Stmt)(f:Addr)(fd:L9):Prop where
 ex:∃(oc:HY) (od:Option Addr) (kV doc pm:HY) (an:Option Addr) (cdv ct:HY) (osl:Array (Option HY)),
  fd=JN x qual (cz st) (bg st) (au st) .none kV doc pm an cdv ct/\K.lookup f=LA ⟨oc,od,.func fd,osl⟩/\PySem.W.codeIn K cdv qual=LC
 kp:PySem.W.keepIn K (.ref f)=LC
section
variable{P:IH}{w:J5}{K:H0}{mg:Str->Option HY}{base:Heap}
theorem Fun.ok{x qual:Str}{st:Stmt}{f:Addr}{fd:L9}{N ps:List Str}{k:Nat}{sp:Sp}(F:Fun K x qual st f fd)(S:FnScope N ps (au st))(len:∀vs H Q E,sp vs H Q E->vs.length=ps.length)
 (a:∀(cdv:HY) (A:Jd) (outer:List Env) (s:HZ) (H:Hp) (vs:List V) (Q:VK) (E:XK),Room k (A.deeper (envOfC qual (au st) s.heap.objs.size f cdv))->sp vs H Q E->
  ∃t,PSs (jN CX0 P w K mg base N qual (au st) f cdv A outer s H E).nox (bg st) t/\t { nx:=fun _ d=>Q .non d,rt:=Q } (start N vs) H):FnOk P w K mg base CX0 (k+1) f fd ps sp:=by
 obtain⟨oc,od,kV,e,j,an,cdv,ct,osl,rfl,g,b⟩:=F.ex
 refine FG g b S len fun A outer s H vs Q E i c=>?_
 obtain⟨t,h,q⟩:=a cdv A outer s H vs Q E i c
 exact⟨t,h.nox,q⟩
theorem Fun.binds{x qual:Str}{st:Stmt}{f:Addr}{fd:L9}{ps:List Str}(F:Fun K x qual st f fd) (h:∀(kV a b:HY) (an:Option Addr) (cdv ct:HY) (us:List HY),us.length=ps.length->bindArgs (JN x qual (cz st) (bg st) (au st) .none kV a b an cdv ct) ⟨us,[]⟩=pure (ps.zip us)):Binds K fd ps []:=by obtain⟨oc,od,kV,a,b,an,cdv,ct,osl,rfl,d,c⟩:=F.ex;exact .all (h kV a b an cdv ct)
theorem CI{x qual:Str}{st:Stmt}{f:Addr}{oc:HY}{od an:Option Addr}{osl:Array (Option HY)}{kV a b cdv ct:HY}(l:K.lookup f=LA ⟨oc,od,.func (JN x qual (cz st) (bg st) (au st) .none kV a b an cdv ct),osl⟩) (c:PySem.W.codeIn K cdv qual=LC) (k:PySem.W.keepIn K (.ref f)=LC):Fun K x qual st f (JN x qual (cz st) (bg st) (au st) .none kV a b an cdv ct):=⟨⟨oc,od,kV,a,b,an,cdv,ct,osl,rfl,l,c⟩,k⟩
end
theorem DY{A B:Prop}(h:A):if LC=LC then A else B:=by rw[LG rfl];exact h
theorem bL{c A B:Prop}[Decidable c](a:c->A)(b:¬c->B):if c then A else B:=by
 by_cases h:c
 ·rw[LG h];exact a h
 ·rw[LF h];exact b h
section
variable{κ:Type}[DecidableEq κ]
def fq(kvs:List (κ×V))(k:κ):Option V:=(kvs.find? fun a=>decide (a.1=k)).map (·.2)
def putK(kvs:List (κ×V))(k:κ)(v:V):List (κ×V):=
 if(kvs.any fun a=>decide (a.1=k))=LC then kvs.map (fun a=>if a.1=k then(a.1,v)else a)else kvs++[(k,v)]
theorem cj{p:κ×V}{r:List (κ×V)}{k:κ}(e:p.1=k):fq (p::r) k=LA p.2:=by simp[fq,IU,e]
theorem cg{p:κ×V}{r:List (κ×V)}{k:κ}(e:¬p.1=k):fq (p::r) k=fq r k:=by simp[fq,IU,e]
theorem d4(k:κ):∀kvs:List (κ×V),(kvs.any fun a=>decide (a.1=k))=(fq kvs k).isSome
 |[]=>rfl
 |p::r=>by
  rw[Kp]
  by_cases e:p.1=k
  ·simp only[cj e,LI e,Bool.true_or,Option.isSome_some]
  ·rw[cg e,LH e,Bool.false_or];exact d4 k r
theorem qB(k j:κ)(y:V):∀kvs:List (κ×V),fq (kvs.map fun a=>if a.1=k then(a.1,y)else a) j=(fq kvs j).map fun x=>if j=k then y else x
 |[]=>rfl
 |p::r=>by
  have b:=qB k j y r
  rw[Ih]
  by_cases h:p.1=k
  ·rw[LG h]
   by_cases e:p.1=j
   ·rw[cj (p:=(p.1,y)) e,cj e,Option.map_some,LG (e.symm.trans h)]
   ·rw[cg (p:=(p.1,y)) e,cg e,b]
  ·rw[LF h]
   by_cases e:p.1=j
   ·rw[cj (p:=p) e,cj e,Option.map_some,LF (fun z=>h (e.trans z))]
   ·rw[cg (p:=p) e,cg e,b]
theorem nB(k j:κ)(y:V):∀kvs:List (κ×V),fq kvs k=LB->fq (kvs++[(k,y)]) j=if j=k then LA y else fq kvs j
 |[],_=>by
  by_cases e:k=j
  ·rw[LG e.symm];exact cj (p:=(k,y)) e
  ·rw[LF (fun z=>e z.symm)];exact cg (p:=(k,y)) e
 |p::r,hn=>by
  rw[List.cons_append]
  have a:¬p.1=k:=fun z=>by rw[cj z]at hn;cases hn
  rw[cg a]at hn
  have b:=nB k j y r hn
  by_cases e:p.1=j
  ·rw[cj e,cj e,LF (fun z=>a (e.trans z))]
  ·rw[cg e,cg e,b]
theorem yX(kvs:List (κ×V))(k j:κ)(y:V):fq (putK kvs k y) j=if j=k then LA y else fq kvs j:=by
 unfold putK;by_cases a:(kvs.any fun b=>decide (b.1=k))=LC
 ·rw[LG a,qB];rw[d4]at a;by_cases e:j=k
  ·obtain⟨x,c⟩:=Option.isSome_iff_exists.mp a;rw[LG e,e,c,Option.map_some,LG rfl]
  ·rw[LF e];cases fq kvs j with
   |none=>rfl
   |some x=>rw[Option.map_some,LF e]
 ·rw[LF a];refine nB k j y kvs ?_;rw[d4]at a;cases q:fq kvs k with
  |none=>rfl
  |some x=>rw[q]at a;exact(a rfl).elim
theorem gr(kvs:List (κ×V))(k:κ)(v:V):(putK kvs k v).length<=kvs.length+1:=by
 unfold putK;split
 ·rw[Ii];omega
 ·rw[JC,Jg,JP];omega
theorem vf.jV{o:Option V}{u:Option HY}(r:vf o u):o.isSome=u.isSome:=by
 cases o with
 |none=>cases u with
  |none=>rfl
  |some _=>exact(show False from r).elim
 |some _=>cases u with
  |none=>exact(show False from r).elim
  |some _=>rfl
theorem KV.val{kvs:List (κ×V)}{vs:List (κ×HY)}(r:KV kvs vs)(k:κ):vf (fq kvs k) (valueAt vs k):=by
 unfold KV at r
 induction r with
 |nil=>exact True.intro
 |@cons p q ps qs h t ih=>
  obtain⟨c,d⟩:=h
  by_cases e:p.1=k
  ·have a:q.1=k:=c.symm.trans e;have b:valueAt (q::qs) k=LA q.2:=by simp[valueAt,IU,a]
   rw[cj e,b];exact d
  ·have a:¬q.1=k:=fun z=>e (c.trans z);have b:valueAt (q::qs) k=valueAt qs k:=by simp[valueAt,IU,a]
   rw[cg e,b];exact ih
theorem KV.any{kvs:List (κ×V)}{vs:List (κ×HY)}(r:KV kvs vs)(k:κ):(kvs.any fun a=>decide (a.1=k))=vs.any fun a=>decide (a.1=k):=by
 unfold KV at r
 induction r with
 |nil=>rfl
 |cons h t b=>rw[Kp,Kp,b,h.1]
theorem KV.Dk{kvs:List (κ×V)}{vs:List (κ×HY)}(r:KV kvs vs)(k:κ){y:V}{u:HY}(c:RelV y u) :
 KV (kvs.map fun a=>if a.1=k then(a.1,y)else a) (vs.map fun a=>if a.1=k then(a.1,u)else a):=by
 unfold KV at r ⊢
 induction r with
 |nil=>exact .nil
 |@cons p q ps qs h t ih=>
  rw[Ih,Ih]
  refine .cons ?_ ih
  obtain⟨b,d⟩:=h
  by_cases e:p.1=k
  ·rw[LG e,LG (b.symm.trans e)];exact⟨b,c⟩
  ·rw[LF e,LF (fun z=>e (b.trans z))];exact⟨b,d⟩
theorem KV.put{kvs:List (κ×V)}{vs:List (κ×HY)}(r:KV kvs vs)(k:κ){y:V}{u:HY}(a:RelV y u):KV (putK kvs k y) (stored vs k u):=by
 unfold putK stored;rw[r.any k];by_cases e:(vs.any fun b=>decide (b.1=k))=LC
 ·rw[LG e,LG e];exact r.Dk k a
 ·rw[LF e,LF e];exact Paired.snoc r ⟨rfl,a⟩
theorem KV.length{kvs:List (κ×V)}{vs:List (κ×HY)}(r:KV kvs vs):kvs.length=vs.length:=Paired.length r
end
theorem yI{P:IH}{w:J5}{k:Key}{u:HY}(r:RelV (kV k) u):(b7 P w).is k u=LC:=by
 cases k with
 |inl i=>obtain⟨t,e⟩:=(show ∃t,u=Value.int i t from r);subst e;exact qE P w i t
 |inr x=>obtain⟨t,e⟩:=(show ∃t,u=Value.str x t from r);subst e;exact qA P w x t
theorem nG{P:IH}{w:J5}:∀{ks:List Key} {us:List HY},Vals (ks.map kV) us->ItemsAre (b7 P w) ks us
 |[],_,r=>by rw[JF]at r;cases r;exact .nil
 |k::ks,_,r=>by
  rw[Ih]at r
  cases r with
  |cons h t=>exact .cons (yI h) (nG t)
abbrev KT(H:Hp):List (List Key×V)->List (List Key×Addr×HY)->Prop:=La fun p q=>p.1=q.1/\H q.2.1=LA (.tup (p.1.map kV))/\RelV p.2 q.2.2
theorem KT.val{H:Hp}{kvs:List (List Key×V)}{xs:List (List Key×Addr×HY)}(r:KT H kvs xs)(k:List Key):vf (fq kvs k) ((atKey xs k).map (·.2)):=by
 induction r with
 |nil=>exact True.intro
 |@cons p q ps qs h t ih=>
  obtain⟨c,_,d⟩:=h
  by_cases e:p.1=k
  ·have a:q.1=k:=c.symm.trans e;have b:atKey (q::qs) k=LA q.2:=by simp[atKey,IU,a]
   rw[cj e,b];exact d
  ·have a:¬q.1=k:=fun z=>e (c.trans z);have b:atKey (q::qs) k=atKey qs k:=by simp[atKey,IU,a]
   rw[cg e,b];exact ih
theorem KT.Dk{H:Hp}{kvs:List (List Key×V)}{xs:List (List Key×Addr×HY)}(r:KT H kvs xs)(k:List Key){y:V}{u:HY}(d:RelV y u) :
 KT H (kvs.map fun b=>if b.1=k then(b.1,y)else b) (xs.map (putAt k u)):=by
 induction r with
 |nil=>exact .nil
 |@cons p q ps qs h t ih=>
  rw[Ih,Ih]
  refine .cons ?_ ih
  obtain⟨a,c,f⟩:=h
  unfold putAt
  by_cases e:p.1=k
  ·rw[LG e,LG (a.symm.trans e)];exact⟨a,c,d⟩
  ·rw[LF e,LF (fun z=>e (a.trans z))];exact⟨a,c,f⟩
theorem KT.put{H:Hp}{kvs:List (List Key×V)}{xs:List (List Key×Addr×HY)}(r:KT H kvs xs)(k:List Key){b:Addr}{y:V}{u:HY}(c:H b=LA (.tup (k.map kV)))(a:RelV y u) :
 KT H (putK kvs k y) (storedH xs k b u):=by
 have e:(kvs.any fun d=>decide (d.1=k))=(atKey xs k).isSome:=by
  rw[d4,(r.val k).jV,Option.isSome_map]
 unfold putK storedH
 rw[e]
 by_cases q:(atKey xs k).isSome=LC
 ·rw[LG q,LG q];exact r.Dk k a
 ·rw[LF q,LF q];exact Paired.snoc r ⟨rfl,c,a⟩
theorem KT.keeps{H a:Hp}{kvs:List (List Key×V)}{xs:List (List Key×Addr×HY)}(r:KT H kvs xs)(d:∀b c,H b=LA (.tup c)->a b=LA (.tup c)):KT a kvs xs:=Paired.E4 r fun _ _ z=>⟨z.1,d _ _ z.2.1,z.2.2⟩
section
variable{P:IH}{w:J5}{H:Hp}{h:Heap}{a:Addr}
theorem Cg{u:HO}(ok:HOk P w H h)(e:Rd H a u):cF P w H h a u:=e.ok ok
theorem BM{kvs:List (Key×V)}(ok:HOk P w H h)(e:Rd H a (.dK kvs)):kvs.length<=Ir/\(a==JU)=LD/\∃vs,KV kvs vs/\h.DictOf (b7 P w) a vs:=show cF P w H h a (.dK kvs)from Cg ok e
theorem Fp{kvs:List (Key×V)}(ok:HOk P w H h)(e:H a=LA (.dK kvs)):kvs.length<=Ir/\(a==JU)=LD/\∃vs,KV kvs vs/\h.DictOf (b7 P w) a vs:=BM ok (.inl e)
theorem tG{ks:List Key}(ok:HOk P w H h)(e:H a=LA (.tup (ks.map kV))):(tupleKind (b7 P w)).is h ks a:=by obtain⟨_,b,r,⟨o,c,d,n,f⟩,_⟩:=(show cF P w H h a (.tup (ks.map kV))from ok a _ e);exact⟨o,b.toArray,n,c,d,f,by simpa using nG r⟩
theorem BZ{kvs:List (List Key×V)}(ok:HOk P w H h)(e:Rd H a (.dT kvs)):kvs.length<=Ir/\(a==JU)=LD/\
 ∃xs,KT H kvs xs/\h.DictOfH (tupleKind (b7 P w)) a xs:=by
 obtain⟨z,y,xs,r,o,c,d,f,g,i,j,k⟩:=(show cF P w H h a (.dT kvs)from Cg ok e)
 refine⟨z,y,xs,r,o,c,d,f,g,i,j,fun x b=>?_,k⟩
 have all:∀{l:List (List Key×V)} {m:List (List Key×Addr×HY)},KT H l m->∀x∈m,(tupleKind (b7 P w)).is h x.1 x.2.1:=by
  intro l m q
  induction q with
  |nil=>intro x b;exact nomatch b
  |@cons p q ps qs hq t ih=>
   intro x b
   rcases J3.mp b with e|b
   ·subst e
    exact tG ok (by rw[<-hq.1];exact hq.2.1)
   ·exact ih x b
 exact all r x b
theorem FL{kvs:List (List Key×V)}(ok:HOk P w H h)(e:H a=LA (.dT kvs)):kvs.length<=Ir/\(a==JU)=LD/\∃xs,KT H kvs xs/\h.DictOfH (tupleKind (b7 P w)) a xs:=BZ ok (.inl e)
end
def Dh(H:Hp)(a:Addr)(y:V)(r:Option V):Prop:=
 (∃kvs k,Rd H a (.dK kvs)/\y=kV k/\r=fq kvs k)\/∃kvs k b,Rd H a (.dT kvs)/\y=.ref b/\H b=LA (.tup (k.map kV))/\r=fq kvs k
def Fh(H:Hp)(a:Addr)(y v:V)(c:Hp):Prop:=
 (∃kvs k,H a=LA (.dK kvs)/\y=kV k/\kvs.length<Ir/\c=upd H a (.dK (putK kvs k v)))\/
 ∃kvs k b,H a=LA (.dT kvs)/\y=.ref b/\H b=LA (.tup (k.map kV))/\kvs.length<Ir/\c=upd H a (.dT (putK kvs k v))
section
variable{X:Cx}{pins:List (Addr×Obj)}{σ:St}{H:Hp}{s:HZ}{a:Addr}{y v:V}{u r:HY}{o:Option V}{A:Jd}{E:HY->HZ->Prop}
theorem Inv.big(I:Inv X pins σ H s):JU<s.heap.objs.size:=by have h:KI<s.heap.objs.size:=(I.mod.glob.keeps I.bk).lt;exact Nat.lt_trans ⋯ h
theorem A3{Q:HY->HZ->Prop}(m:A.units+1<Jq)(I:Inv X pins σ H s)(g:Dh H a y o)(i:RelV y u)(h:∀j,Inv X pins σ H j->Q (.bool (!o.isSome)) j) : Im (IC X.prog X.w) A (IY .NotIn u (.ref a)) Q E s:=by
 rcases g with⟨kvs,k,e,d,l⟩|⟨kvs,k,b,e,d,eb,l⟩
 ·subst d;obtain⟨z,hd,vs,c,f⟩:=BM I.hok e;refine wpAny_notIn_of (yI i) hd f.mapOf ?_;rw[<-(c.val k).jV,<-l];exact h _ (I.tok _)
 ·subst d;cases (show u=Jx b from i);obtain⟨z,hd,xs,c,f⟩:=BZ I.hok e;refine wpAny_notIn_heap (tupleKind_room_in1 m) (tG I.hok eb) hd f ?_;have q:=(c.val k).jV;rw[Option.isSome_map]at q;rw[<-q,<-l];exact h _ (I.tok _)
theorem ji{h':Heap}{t':Nat}{c:HO}(I:Inv X pins σ H s)(d:Mut (H a))(f:K0 a s.heap h')(g:∃q,h'.get? a=LA q)(new:cF X.prog X.w (upd H a c) h' a c) : Inv X pins σ (upd H a c) { s with heap:=h',toks:=t' }:=I.write (x:=a) (e:=a) d (.inl rfl) (fun b q h z=>(f.2 b h).trans z) g new
theorem C5{P:IH}{w:J5}{c:Hp}{h':Heap}{kvs:List (Key×V)}{vs:List (Key×HY)}(z:kvs.length<=Ir)(hd:(a==JU)=LD)(b:KV kvs vs)(d:h'.DictOf (b7 P w) a vs) : cF P w c h' a (.dK kvs):=⟨z,hd,vs,b,d⟩
theorem wk{B:Hp}{Q:Unit->HZ->Prop}(K:A.units+1<Jq)(I:Inv X pins σ H s)(g:Fh H a y v B)(C:RelV y u)(D:RelV v r)(h:∀F,Inv X pins σ B F->Q .unit F) : Im (IC X.prog X.w) A (setItem (.ref a) u r) Q E s:=by
 rcases g with⟨kvs,k,e,j,l,m⟩|⟨kvs,k,b,e,j,eb,l,m⟩
 ·subst j m;obtain⟨z,hd,vs,d,n⟩:=Fp I.hok e;have p:vs.length<=Ir:=by rw[<-d.length];exact z
  have t:(putK kvs k v).length<=Ir:=by have:=gr kvs k v;omega
  refine wpAny_setItem_pairs (hsz:=p) (yI C) n fun G f x=>h _ ?_;have L:∃q,G.get? a=LA q:=let⟨q,_,_,i,_⟩:=f;⟨q,i⟩
  exact ji I (by rw[e];exact True.intro) x L (C5 t hd (d.put k D) f)
 ·subst j m;cases (show u=Jx b from C);obtain⟨z,hd,xs,d,n⟩:=FL I.hok e;have p:xs.length<=Ir:=by rw[<-Paired.length d];exact z
  have t:(putK kvs k v).length<=Ir:=by have:=gr kvs k v;omega
  refine wpAny_setItem_heap (hsz:=p) (tupleKind_room_in1 K) (tG I.hok eb) n fun G f x=>h _ ?_;obtain⟨q,M,N,i,O,P,R,_,S⟩:=f;refine ji I (by rw[e];exact True.intro) x ⟨q,i⟩ ⟨t,hd,_,(d.put k eb D).keeps fun c T J=>?_,q,M,N,i,O,P,R,S⟩;rw[aT (Gb J e (fun z=>nomatch z))];exact J
end
def Fz(i:Expr):Prop:=∀a b,subscripted i LD a b=operate [a,b] (getItem a b)
def AQ(ty c:TE):TE:=fun σ H Q=>ty σ H fun y H1=>c σ H1 fun x b=>∃a o,x=.ref a/\Dh b a y o/\Q (.bl (!o.isSome)) b
def GO(c ty d:TE):TS:=fun D σ H=>d σ H fun v H1=>c σ H1 fun x e=>ty σ e fun y f=>∃a b,x=.ref a/\Fh f a y v b/\D.nx σ b
section
variable{X:Cx}{o i e value:Expr}{pos pos' LR:Pos}{td ty tv:TE}
theorem vD(b:X.A.units+1<Jq)(c:PE X i ty)(d:PE X o td):PC X .NotIn i o (AQ ty td):=by intro pins s σ H Q I h;refine thn (c pins s σ H _ I h) fun v f ⟨y,H1,j,k,l⟩=>thn (d pins f σ H1 _ j l) fun u w ⟨x,m,n,p,a,q,ex,g,r⟩=>?_;subst ex;obtain rfl:u=Jx a:=p;exact A3 b n g k fun z t=>⟨.bl (!q.isSome),m,t,rfl,r⟩
theorem Av(b:X.A.units+1<Jq)(c:PE X o td)(d:PE X i ty)(f:PE X value tv)(j:Ks value (LA (.Subscript o i pos')) pos.line X.env=pure LD) : PS X (.Assign [.Subscript o i pos'] value pos) (GO td ty tv):=by intro pins s σ H D I h;refine wpAny_Assign_Subscript (thn (f pins s σ H _ I h) fun r k ⟨v,H1,l,m,n⟩=>thn (c pins k σ H1 _ l n) fun u p ⟨x,q,t,w,z⟩=>thn (d pins p σ q _ t z) fun J K ⟨y,L,B,C,a,E,ex,g,F⟩=>?_) j;subst ex;obtain rfl:u=Jx a:=w;exact wk b B g C m fun M G=>⟨σ,E,G,F⟩
end
theorem ym{P:IH}{w:J5}{H:Hp}(h:Heap)(a:JU<h.objs.size):cF P w H (h.push { cls:=.type "dict",data:=.dict #[] }) h.objs.size (.dK []):=⟨JA _,beq_eq_false_iff_ne.mpr (Ne.symm (J6 a)),[],.nil,Heap.DictOf.new h⟩
def DJ:TE:=fun _ H Q=>∀p,H p=LB->Q (.ref p) (upd H p (.dK []))
section
variable{X:Cx}{pos:Pos}
theorem zK:PE X (.Dict [] [] pos) DJ:=fun pins s σ H Q I h=>wpAny_Dict_empty ⟨.ref s.heap.objs.size,_,I.laid (a:=s.heap.objs.size) (o:=.dK []) (t':=s.toks) (fun _ _ q=>Ib _ q) (Ic _) (ym s.heap I.big),rfl,h _ (I.hok.fresh (Ic _))⟩
end
end L2
namespace SD
theorem AK{c:Type}{l:List c}(h:l.length=1):∃a,l=[a]:=by
 cases l with
 |nil=>cases h
 |cons a l=>
  cases l with
  |nil=>exact⟨a,rfl⟩
  |cons b l=>cases h
theorem C7{b:Type}{n:Nat}{l:List b}(h:l.length=n+1):∃a r,l=a::r/\r.length=n:=by
 cases l with
 |nil=>cases h
 |cons a l=>exact⟨a,l,rfl,Nat.succ.inj h⟩
theorem vN{c:Type}{l:List c}(h:l.length=2):∃a b,l=[a,b]:=by obtain⟨a,r,rfl,d⟩:=C7 h;obtain⟨b,rfl⟩:=AK d;exact⟨a,b,rfl⟩
theorem Fb{d:Type}{l:List d}(h:l.length=3):∃a b c,l=[a,b,c]:=by obtain⟨a,r,rfl,e⟩:=C7 h;obtain⟨b,c,rfl⟩:=vN e;exact⟨a,b,c,rfl⟩
theorem HF{e:Type}{l:List e}(h:l.length=4):∃a b c d,l=[a,b,c,d]:=by obtain⟨a,r,rfl,f⟩:=C7 h;obtain⟨b,c,d,rfl⟩:=Fb f;exact⟨a,b,c,d,rfl⟩
open PySem PySem.Spec PyProof.Rows L2
inductive D where
 |non|bl (b:Bool)|int (i:Int)|str (x:Str)|ty (n:String)|ref (a:Addr)|rol (ds:List D)|tup (ds:List D)
def SqF(K:H0)(H:Hp)(a:Addr)(xs:List V):Prop:=
 (∃o,H a=LA (.frz o (.lst xs)))\/
  ∃(o:Obj) (b:Array HY) (n:Nat),K.lookup a=LA o/\o.cls=.type "list"/\o.dict=LB/\o.data=.seq b n/\b.size<=Ir/\Vals xs b.toList
theorem SqF.sql{K:H0}{H:Hp}{a:Addr}{xs:List V}(h:SqF K H a xs):SqL K H a xs:=by
 rcases h with h|h
 ·exact .inl (.inr h)
 ·exact .inr h
mutual
def Rep(K:H0)(H:Hp):D->V->Prop
 |.non,v=>v=.non
 |.bl b,v=>v=.bl b
 |.int i,v=>v=.int i
 |.str x,v=>v=.str x
 |.ty n,v=>v=.ty n
 |.ref a,v=>v=.ref a
 |.rol ds,v=>∃a xs,v=.ref a/\SqF K H a xs/\aE K H ds xs
 |.tup ds,v=>∃a xs,v=.ref a/\SqT K H a xs/\aE K H ds xs
def aE(K:H0)(H:Hp):List D->List V->Prop
 |[],xs=>xs=[]
 |d::ds,xs=>∃x r,xs=x::r/\Rep K H d x/\aE K H ds r
end
structure Grow(K:H0)(H H':Hp):Prop where
 t:∀a xs,SqT K H a xs->SqT K H' a xs
 f:∀a xs,SqF K H a xs->SqF K H' a xs
theorem Grow.refl{K:H0}{H:Hp}:Grow K H H:=⟨fun _ _ h=>h,fun _ _ h=>h⟩
theorem Grow.trans{K:H0}{H H1 c:Hp}(a:Grow K H H1)(b:Grow K H1 c):Grow K H c:=⟨fun x y h=>b.t x y (a.t x y h),fun x y h=>b.f x y (a.f x y h)⟩
theorem Grow.put{K:H0}{H:Hp}{p:Addr}{o:HO}(c:∀xs,H p≠LA (.tup xs))(b:∀u xs,H p≠LA (.frz u xs)):Grow K H (upd H p o):=by
 refine⟨fun a xs h=>?_,fun a xs h=>?_⟩
 ·rcases h with(h|⟨u,h⟩)|h
  ·exact .inl (.inl (by rw[aT (by intro e;subst e;exact c _ h)];exact h))
  ·exact .inl (.inr ⟨u,by rw[aT (by intro e;subst e;exact b _ _ h)];exact h⟩)
  ·exact .inr h
 ·rcases h with⟨u,h⟩|h
  ·exact .inl ⟨u,by rw[aT (by intro e;subst e;exact b _ _ h)];exact h⟩
  ·exact .inr h
theorem Grow.new{K:H0}{H:Hp}{p:Addr}{o:HO}(h:H p=LB):Grow K H (upd H p o):=.put (fun xs e=>by rw[h]at e;cases e) (fun u xs e=>by rw[h]at e;cases e)
theorem Grow.lst{K:H0}{H:Hp}{p:Addr}{o:HO}{xs:List V}(h:H p=LA (.lst xs)):Grow K H (upd H p o):=.put (fun a e=>by rw[h]at e;cases e) (fun u a e=>by rw[h]at e;cases e)
mutual
theorem Rep.mono{K:H0}{H i:Hp}(g:Grow K H i):∀{d:D} {v:V},Rep K H d v->Rep K i d v
 |.non,_,h=>h
 |.bl _,_,h=>h
 |.int _,_,h=>h
 |.str _,_,h=>h
 |.ty _,_,h=>h
 |.ref _,_,h=>h
 |.rol ds,_,h=>by
  rw[Rep]at h ⊢
  obtain⟨a,xs,e,b,c⟩:=h
  exact⟨a,xs,e,g.f _ _ b,aE.mono g c⟩
 |.tup ds,_,h=>by
  rw[Rep]at h ⊢
  obtain⟨a,xs,e,b,c⟩:=h
  exact⟨a,xs,e,g.t _ _ b,aE.mono g c⟩
theorem aE.mono{K:H0}{H b:Hp}(g:Grow K H b):∀{a:List D} {xs:List V},aE K H a xs->aE K b a xs
 |[],_,h=>h
 |d::a,_,h=>by
  rw[aE]at h ⊢
  obtain⟨x,r,e,c,f⟩:=h
  exact⟨x,r,e,Rep.mono g c,aE.mono g f⟩
end
section
variable{K:H0}{H H':Hp}
theorem aE.nil:aE K H [] []:=by rw[aE]
theorem aE.cons{d:D}{c:List D}{x:V}{r:List V}(a:Rep K H d x)(b:aE K H c r):aE K H (d::c) (x::r):=by rw[aE];exact⟨x,r,rfl,a,b⟩
theorem aE.length:∀{a:List D} {xs:List V},aE K H a xs->a.length=xs.length
 |[],xs,h=>by rw[aE]at h;subst h;rfl
 |d::a,xs,h=>by
  rw[aE]at h
  obtain⟨x,r,rfl,_,b⟩:=h
  simp[aE.length b]
theorem aE.get:∀{a:List D} {xs:List V} {i:Nat} {d:D},aE K H a xs->a[i]?=LA d->∃x,xs[i]?=LA x/\Rep K H d x
 |[],_,_,_,_,e=>by simp at e
 |_::_,xs,0,_,h,e=>by
  rw[aE]at h
  obtain⟨x,r,rfl,b,_⟩:=h
  simp at e;subst e
  exact⟨x,rfl,b⟩
 |_::a,xs,i+1,d,h,e=>by
  rw[aE]at h
  obtain⟨x,r,rfl,_,c⟩:=h
  simpa using aE.get (i:=i) (d:=d) c (by simpa using e)
theorem aE.set{d:D}{x:V}(a:Rep K H d x):∀{b:List D} {xs:List V} (i:Nat),aE K H b xs->aE K H (b.set i d) (xs.set i x)
 |[],_,_,h=>by rw[aE]at h;subst h;simp[aE.nil]
 |_::_,_,0,h=>by
  rw[aE]at h
  obtain⟨y,r,rfl,_,c⟩:=h
  exact .cons a c
 |_::b,_,i+1,h=>by
  rw[aE]at h
  obtain⟨y,r,rfl,e,c⟩:=h
  exact .cons e (aE.set a i c)
theorem aE.append:∀{a es:List D} {xs b:List V},aE K H a xs->aE K H es b->aE K H (a++es) (xs++b)
 |[],_,_,_,h,k=>by rw[aE]at h;subst h;exact k
 |_::a,_,_,_,h,k=>by
  rw[aE]at h
  obtain⟨y,r,rfl,c,d⟩:=h
  exact .cons c (aE.append d k)
theorem aE.of_get:∀{c:List D} {xs:List V},c.length=xs.length->(∀(i:Nat) d x,c[i]?=LA d->xs[i]?=LA x->Rep K H d x)->aE K H c xs
 |[],[],_,_=>.nil
 |[],_::_,h,_=>by simp at h
 |_::_,[],h,_=>by simp at h
 |d::c,x::xs,h,k=>.cons (k 0 d x rfl rfl) (aE.of_get (by simpa using h) fun i d x a b=>k (i+1) d x (by simpa using a) (by simpa using b))
theorem aE.take{c:List D}{xs:List V}(n:Nat)(h:aE K H c xs):aE K H (c.take n) (xs.take n):=by
 refine .of_get (by simp[h.length]) fun i d x a b=>?_
 have f:i<n:=by
  rw[List.getElem?_take]at a;split at a
  ·assumption
  ·cases a
 rw[List.getElem?_take_of_lt f]at a b;obtain⟨y,e,r⟩:=h.get a;rw[e]at b;cases b;exact r
theorem aE.drop{c:List D}{xs:List V}(n:Nat)(h:aE K H c xs):aE K H (c.drop n) (xs.drop n):=by refine .of_get (by simp[h.length]) fun i d x a b=>?_;rw[List.getElem?_drop]at a b;obtain⟨y,e,r⟩:=h.get a;rw[e]at b;cases b;exact r
theorem jS:∀(ns:List Int),aE K H (ns.map D.int) (ns.map V.int)
 |[]=>.nil
 |n::ns=>.cons (by rw[Rep]) (jS ns)
end
def HJ(a C:Addr):Heap->Prop:=fun h=>∃o,h.get? a=LA o/\o.cls=.ref C
inductive MO where
 |lst (ds:List D)|err (C:Addr)
 |dct (n:Nat) (P:List Int->Bool)
 |gen (A:H0->Hp->Addr->Prop)
abbrev MH:=Addr->Option MO
def qV(K:H0)(H:Hp)(a:Addr):MO->Prop
 |.lst c=>∃xs,H a=LA (.lst xs)/\aE K H c xs
 |.err C=>H a=LA (.ext (HJ a C))
 |.dct n P=>∃kvs:List (List Key×V),H a=LA (.dT kvs)/\kvs.length<=n/\∀k:List Int,(kvs.any fun d=>decide (d.1=k.map Sum.inl))=P k
 |.gen A=>A K H a/\H a≠LB/\∀b,Grow K H b->b a=H a->A K b a
def Abs(K:H0)(H:Hp)(M:MH):Prop:=∀a o,M a=LA o->qV K H a o
def ay(M:MH)(a:Addr)(o:MO):MH:=fun b=>if b=a then LA o else M b
theorem ai{M:MH}{a:Addr}{o:MO}:ay M a o a=LA o:=by unfold ay;rw[LG rfl]
theorem ak{M:MH}{a b:Addr}{o:MO}(h:b≠a):ay M a o b=M b:=by unfold ay;rw[LF h]
theorem a9{M:MH}{a:Addr}{o u:MO}:ay (ay M a o) a u=ay M a u:=by funext b;unfold ay;split<;>rfl
section
variable{K:H0}{H H':Hp}{M:MH}
theorem qV.some{a:Addr}{o:MO}(h:qV K H a o):H a≠LB:=by
 cases o with
 |lst c=>
  obtain⟨xs,b,_⟩:=h
  rw[b];simp
 |err C=>rw[show H a=_ from h];simp
 |dct n P=>
  obtain⟨kvs,b,_⟩:=h
  rw[b];simp
 |gen A=>exact h.2.1
theorem Abs.fresh(h:Abs K H M){p:Addr}(a:H p=LB):M p=LB:=by
 cases e:M p with
 |none=>rfl
 |some o=>exact absurd a (h p o e).some
theorem qV.iD{a:Addr}{o:MO}(g:Grow K H H')(e:H' a=H a)(h:qV K H a o):qV K H' a o:=by
 cases o with
 |lst i=>
  obtain⟨xs,b,c⟩:=h
  exact⟨xs,e.trans b,c.mono g⟩
 |err C=>exact e.trans h
 |dct n P=>
  obtain⟨kvs,b,c⟩:=h
  exact⟨kvs,e.trans b,c⟩
 |gen A=>exact⟨h.2.2 H' g e,fun z=>h.2.1 (by rw[<-e];exact z),fun d f e2=>h.2.2 d (g.trans f) (e2.trans e)⟩
theorem Abs.new{p:Addr}{o:HO}(h:Abs K H M)(b:H p=LB):Abs K (upd H p o) M:=fun a u e=>by
 have ne:a≠p:=fun z=>by subst z;rw[h.fresh b]at e;cases e
 exact(h a u e).iD (.new b) (aT ne)
theorem Abs.m8{p:Addr}{xs:List V}{b:List D}(h:Abs K H M)(c:H p=LB)(r:aE K H b xs):Abs K (upd H p (.lst xs)) (ay M p (.lst b)):=fun a u e=>by
 by_cases ne:a=p
 ·subst ne;rw[ai]at e;cases e;exact⟨xs,aZ,r.mono (.new c)⟩
 ·rw[ak ne]at e;exact(h a u e).iD (.new c) (aT ne)
theorem Abs.zl{p:Addr}{xs b:List V}{c:List D}(h:Abs K H M)(d:H p=LA (.lst xs))(r:aE K H c b):Abs K (upd H p (.lst b)) (ay M p (.lst c)):=fun a u e=>by
 by_cases ne:a=p
 ·subst ne;rw[ai]at e;cases e;exact⟨b,aZ,r.mono (.lst d)⟩
 ·rw[ak ne]at e;exact(h a u e).iD (.lst d) (aT ne)
theorem Abs.sub{b:MH}(h:Abs K H M)(s:∀a o,b a=LA o->M a=LA o):Abs K H b:=fun a o e=>h a o (s a o e)
end
abbrev DS:=List (Option D)
structure Slots(K:H0)(H:Hp)(δ:DS)(σ:L2.St):Prop where
 len:δ.length=σ.length
 at':∀(i:Nat) d,δ[i]?=LA (LA d)->∃v,σ[i]?=LA (LA v)/\Rep K H d v
section
variable{K:H0}{H H':Hp}{δ:DS}{σ:L2.St}
theorem Slots.mono(g:Grow K H H')(h:Slots K H δ σ):Slots K H' δ σ:=⟨h.len,fun i d e=>let⟨v,a,b⟩:=h.at' i d e;⟨v,a,b.mono g⟩⟩
theorem Slots.set{d:D}{v:V}(r:Rep K H d v)(i:Nat)(h:Slots K H δ σ):Slots K H (δ.set i (LA d)) (σ.set i (LA v)):=by
 refine⟨by simp[h.len],fun j e q=>?_⟩;rw[List.getElem?_set]at q;by_cases a:i=j
 ·subst a;rw[LG rfl]at q;by_cases b:i<δ.length
  ·rw[LG b]at q;cases q;exact⟨v,by rw[List.getElem?_set,LG rfl,LG (by rw[<-h.len];exact b)],r⟩
  ·rw[LF b]at q;cases q
 ·rw[LF a]at q;obtain⟨c,e1,e2⟩:=h.at' j e q;exact⟨c,by rw[List.getElem?_set,LF a];exact e1,e2⟩
theorem qt{N:List Str}{a:List D}{vs:List V}(r:aE K H a vs):Slots K H (a.map LA++IQ (N.length-a.length) LB) (L2.start N vs):=by
 have c:=r.length;refine⟨by unfold L2.start;simp[c],fun i d e=>?_⟩;unfold L2.start;by_cases b:i<a.length
 ·rw[Jk (by simpa using b),Ie]at e;cases q:a[i]? with
  |none=>rw[q]at e;cases e
  |some f=>
   rw[q]at e;cases e
   obtain⟨x,e1,e2⟩:=r.get q
   refine⟨x,?_,e2⟩
   rw[Jk (by simp;omega),Ie,e1];rfl
 ·rw[Jf (by simpa using b),List.getElem?_replicate]at e;split at e<;>cases e
end
abbrev DK:=D->MH->Prop
abbrev TD:=DS->MH->DK->Prop
abbrev TTD:=DS->MH->(Bool->MH->Prop)->Prop
abbrev TAD:=DS->MH->(List D->MH->Prop)->Prop
structure EndsD where
 nx:DS->MH->Prop
 rt:DK
 bk:DS->MH->Prop:=fun _ _=>False
 ct:DS->MH->Prop:=fun _ _=>False
abbrev TSD:=EndsD->DS->MH->Prop
section
variable(K:H0)
def Fin(H:Hp)(R:DK)(Q:VK):Prop:=∀d b v a,Grow K H a->Rep K a d v->Abs K a b->R d b->Q v a
def Ap(H:Hp)(R:Bool->MH->Prop)(Q:Bool->Hp->Prop):Prop:=∀b c a,Grow K H a->Abs K a c->R b c->Q b a
def FinA(H:Hp)(R:List D->MH->Prop)(Q:List V->Hp->Prop):Prop:=∀b c vs a,Grow K H a->aE K a b vs->Abs K a c->R b c->Q vs a
def lift(t:TD):TE:=fun σ H Q=>∃δ M R,Slots K H δ σ/\Abs K H M/\t δ M R/\Fin K H R Q
def liftT(t:TTD):TT:=fun σ H Q=>∃δ M R,Slots K H δ σ/\Abs K H M/\t δ M R/\Ap K H R Q
def wV(t:TAD):TA:=fun σ H Q=>∃δ M R,Slots K H δ σ/\Abs K H M/\t δ M R/\FinA K H R Q
structure EndsOk(H:Hp)(B:EndsD)(E:Ends):Prop where
 nx:∀δ M σ H',Grow K H H'->Slots K H' δ σ->Abs K H' M->B.nx δ M->E.nx σ H'
 rt:∀d M v H',Grow K H H'->Rep K H' d v->Abs K H' M->B.rt d M->E.rt v H'
 bk:∀δ M σ H',Grow K H H'->Slots K H' δ σ->Abs K H' M->B.bk δ M->E.bk σ H'
 ct:∀δ M σ H',Grow K H H'->Slots K H' δ σ->Abs K H' M->B.ct δ M->E.ct σ H'
def BU(t:TSD):TS:=fun E σ H=>∃δ M,Slots K H δ σ/\Abs K H M/\∃B,EndsOk K H B E/\t B δ M
end
def DE(X:Cx)(e:Expr)(t:TD):Prop:=PE X e (lift X.K t)
def DT(X:Cx)(e:Expr)(t:TTD):Prop:=PT X e (liftT X.K t)
def DW(X:Cx)(e:Expr)(t:TTD):Prop:=PW X e (liftT X.K t)
def DA(X:Cx)(es:List Expr)(t:TAD):Prop:=PA X es (wV X.K t)
def DSt(X:Cx)(st:Stmt)(t:TSD):Prop:=PS X st (BU X.K t)
def DSs(X:Cx)(st:List Stmt)(t:TSD):Prop:=PSs X st (BU X.K t)
theorem bj{X:Cx}{e:Expr}{t t':TE}(h:PE X e t)(k:∀σ H Q,t' σ H Q->t σ H Q):PE X e t':=fun pins s σ H Q I q=>h pins s σ H Q I (k σ H Q q)
theorem l5{X:Cx}{e:Expr}{t t':TT}(h:PT X e t)(k:∀σ H Q,t' σ H Q->t σ H Q):PT X e t':=fun pins s σ H Q I q=>h pins s σ H Q I (k σ H Q q)
theorem zh{X:Cx}{e:Expr}{t t':TT}(h:PW X e t)(k:∀σ H Q,t' σ H Q->t σ H Q):PW X e t':=fun a pins s σ H Q I q=>h a pins s σ H Q I (k σ H Q q)
theorem yP{X:Cx}{e:List Expr}{t t':TA}(h:PA X e t)(k:∀σ H Q,t' σ H Q->t σ H Q):PA X e t':=fun pos pins s σ H Q I q=>h pos pins s σ H Q I (k σ H Q q)
theorem cO{X:Cx}{e:Stmt}{t t':TS}(h:PS X e t)(k:∀D σ H,t' D σ H->t D σ H):PS X e t':=fun pins s σ H D I q=>h pins s σ H D I (k D σ H q)
theorem uJ{X:Cx}{e:List Stmt}{t t':TS}(h:PSs X e t)(k:∀D σ H,t' D σ H->t D σ H):PSs X e t':=fun pins s σ H D I q=>h pins s σ H D I (k D σ H q)
section
variable{K:H0}{H H1 H':Hp}
theorem Fin.go{R:DK}{Q:VK}(g:Grow K H H1)(h:Fin K H R Q):Fin K H1 R Q:=fun d M v H' a=>h d M v H' (g.trans a)
theorem Ap.go{R:Bool->MH->Prop}{Q:Bool->Hp->Prop}(g:Grow K H H1)(h:Ap K H R Q):Ap K H1 R Q:=fun b M H' a=>h b M H' (g.trans a)
theorem EndsOk.go{B:EndsD}{E:Ends}(g:Grow K H H1)(h:EndsOk K H B E):EndsOk K H1 B E:=⟨fun d M v H' a=>h.nx d M v H' (g.trans a),fun d M v H' a=>h.rt d M v H' (g.trans a),fun d M v H' a=>h.bk d M v H' (g.trans a),fun d M v H' a=>h.ct d M v H' (g.trans a)⟩
end
section
variable{X:Cx}
inductive tVarD(i:Nat)(δ:DS)(M:MH)(Q:DK):Prop
 |mk (d:D) (h:δ[i]?=LA (LA d)) (q:Q d M):tVarD i δ M Q
def tCD(d:D):TD:=fun _ M Q=>Q d M
theorem dv(i:Nat){x:Str}{pos:Pos}(c:X.N[i]?=LA x:=by rfl)(f:Vis X.env.scope x:=by first|exact Or.inl rfl|exact Or.inr (Or.inl rfl)|exact Or.inr (Or.inr rfl))(hd:(x==("__debug__":Str))=LD:=by decide)
 (a:(x==("__classdict__":Str))=LD:=by decide):DE X (.Name x pos) (tVarD i):=
 bj (Ej c f hd a) fun σ H Q g=>by
  obtain⟨δ,M,R,h,j,⟨d,e,r⟩,b⟩:=g
  obtain⟨v,e1,e2⟩:=h.at' i d e
  exact⟨v,e1,b d M v H .refl e2 j r⟩
theorem dc{e:Expr}{v:V}{d:D}(h:PE X e (tC v))(r:∀H,Rep X.K H d v):DE X e (tCD d):=bj h fun σ H Q a=>by obtain⟨δ,M,R,f,c,q,b⟩:=a;exact(b d M v H .refl (r H) c q)
theorem af{i j pos}:DE X (.Constant (.int i) j pos) (tCD (.int i)):=dc xH fun _=>by rw[Rep]
theorem iz{i j pos}:DE X (.Constant (.bool i) j pos) (tCD (.bl i)):=dc EU fun _=>by rw[Rep]
theorem iM{j pos}:DE X (.Constant .none j pos) (tCD .non):=dc Dt fun _=>by rw[Rep]
theorem md{x j pos}:DE X (.Constant (.str x) j pos) (tCD (.str x)):=dc DD fun _=>by rw[Rep]
end
abbrev R2D:=D->D->MH->DK->Prop
def oq(K:H0)(r:R2D):R2:=fun v u H Q=>∃x y M R,Rep K H x v/\Rep K H y u/\Abs K H M/\r x y M R/\Fin K H R Q
def OpD(X:Cx)(f:HY->HY->Sem HY)(r:R2D):Prop:=OpR X f (oq X.K r)
def vG(r:R2D)(a b:TD):TD:=fun δ M Q=>a δ M fun x c=>b δ c fun y d=>r x y d Q
theorem iK{X:Cx}{f:HY->HY->Sem HY}{r c:R2}(h:OpR X f r)(k:∀x y H Q,c x y H Q->r x y H Q):OpR X f c:=fun pins s σ H x y v u Q I a b q=>h pins s σ H x y v u Q I a b (k _ _ _ _ q)
theorem ku{K:H0}{r:R2D}{b c:TD}{σ:L2.St}{H:Hp}{Q:VK}(h:lift K (vG r b c) σ H Q):tOp (oq K r) (lift K b) (lift K c) σ H Q:=by obtain⟨δ,M,R,d,g,q,a⟩:=h;refine⟨δ,M,_,d,g,q,fun x i v H1 e j k l=>?_⟩;exact⟨δ,i,_,d.mono e,k,l,fun y m u s f n o p=>⟨x,y,m,R,j.mono f,n,o,p,a.go (e.trans f)⟩⟩
section
variable{X:Cx}{a b:Expr}{ta tb:TD}{pos:Pos}
theorem aw{op:Operator}{r:R2D}(c:OpD X (Kb op) r)(d:DE X a ta)(e:DE X b tb):DE X (.BinOp a op b pos) (vG r ta tb):=bj (FP c d e) fun _ _ _ h=>ku h
theorem c8{op:CmpOp}{r:R2D}(c:OpD X (IY op) r)(d:DE X a ta)(e:DE X b tb)(f:KR op b=LD:=by exact zH _):DE X (.Compare a [op] [b] pos) (vG r ta tb):=bj (Bf c d e f) fun _ _ _ h=>ku h
inductive IsBl(x:D)(M:MH)(Q:Bool->MH->Prop):Prop
 |mk (c:Bool) (h:x=.bl c) (q:Q c M):IsBl x M Q
def tBD(t:TD):TTD:=fun δ M Q=>t δ M fun x c=>IsBl x c Q
theorem nW{K:H0}{t:TD}{t':TE}(i:∀σ H Q,lift K t σ H Q->t' σ H Q){σ:L2.St}{H:Hp}{Q:Bool->Hp->Prop}(h:liftT K (tBD t) σ H Q):B7 t' σ H Q:=by obtain⟨δ,M,R,j,k,q,f⟩:=h;refine i _ _ _ ⟨δ,M,_,j,k,q,fun x l v H1 m g n d=>?_⟩;obtain⟨c,e,o⟩:=d;subst e;rw[Rep]at g;exact⟨c,g,f c l H1 m n o⟩
theorem aI{op:CmpOp}{r:R2D}(c:OpD X (IY op) r)(d:DE X a ta)(e:DE X b tb)(f:KR op b=LD:=by exact zH _):DT X (.Compare a [op] [b] pos) (tBD (vG r ta tb)):=l5 (BD c d e f) fun _ _ _ h=>nW (fun _ _ _ h=>ku h) h
theorem cZ{e:Expr}{t:TD}(h:DE X e t)(d:∀c,isTrue e X.env c=(do let v <-c;standAt e.pos;holding [v] (truthy v)):=by intro _;rfl):DT X e (tBD t):=
 l5 (DO h d) fun _ _ _ h=>nW (t':=lift X.K t) (fun _ _ _ h=>h) h
end
section
variable{X:Cx}{a b c:Expr}{ta tb:TD}{tA LP:TTD}{rest:List Expr}{pos:Pos}
def Ca(t u:TTD):TTD:=fun δ M Q=>t δ M fun c d=>if c=LC then u δ d Q else Q LD d
def FD(t u:TTD):TTD:=fun δ M Q=>t δ M fun c d=>if c=LC then Q LC d else u δ d Q
def gK(t:TTD):TTD:=fun δ M Q=>t δ M fun c d=>Q (!c) d
theorem df(d:DT X a tA):DW X (.BoolOp .And [a] pos) tA:=Bp d
theorem oK(d:DT X a tA):DW X (.BoolOp .Or [a] pos) tA:=Dx d
theorem eR(j:DT X a tA)(k:DW X (.BoolOp .And (b::rest) pos) LP):DW X (.BoolOp .And (a::b::rest) pos) (Ca tA LP):=
 zh (Em j k) fun σ H Q d=>by obtain⟨δ,M,R,h,l,q,e⟩:=d;exact(⟨δ,M,_,h,l,q,fun c m H1 g i f=>by
  cases c with
  |true=>rw[LG rfl]at f ⊢;exact⟨δ,m,R,h.mono g,i,f,e.go g⟩
  |false=>rw[LF Iq]at f ⊢;exact e _ _ _ g i f⟩)
theorem uC(j:DT X a tA)(k:DW X (.BoolOp .Or (b::rest) pos) LP):DW X (.BoolOp .Or (a::b::rest) pos) (FD tA LP):=
 zh (Fx j k) fun σ H Q d=>by obtain⟨δ,M,R,h,l,q,e⟩:=d;exact(⟨δ,M,_,h,l,q,fun c m H1 g i f=>by
  cases c with
  |true=>rw[LG rfl]at f ⊢;exact e _ _ _ g i f
  |false=>rw[LF Iq]at f ⊢;exact⟨δ,m,R,h.mono g,i,f,e.go g⟩⟩)
theorem iU{e:Expr}{t:TTD}(h:DW X e t):DT X e t:=PW.pt h
theorem Cp(f:DT X a tA):DT X (.UnaryOp .Not a pos) (gK tA):=l5 (EM f) fun σ H Q d=>by obtain⟨δ,M,R,g,h,q,e⟩:=d;exact(⟨δ,M,_,g,h,q,fun c l H1 i j k=>e _ _ _ i j k⟩)
def yD(ta tb:TD):TD:=fun δ M Q=>ta δ M fun x d=>IsBl x d fun c d=>if c=LC then tb δ d Q else Q (.bl LD) d
def BS(ta tb:TD):TD:=fun δ M Q=>ta δ M fun x d=>IsBl x d fun c d=>if c=LC then Q (.bl LC) d else tb δ d Q
def ER(ta:TD):TD:=fun δ M Q=>ta δ M fun x d=>IsBl x d fun c d=>Q (.bl (!c)) d
theorem oY{op}{t:TD}(h:DE X a t):DE X (.BoolOp op [a] pos) t:=Dr h
theorem pK(k:DE X a ta)(l:DE X (.BoolOp .And (b::rest) pos) tb):DE X (.BoolOp .And (a::b::rest) pos) (yD ta tb):=
 bj (Du k l) fun σ H Q ⟨δ,M,R,h,m,q,d⟩=>⟨δ,M,_,h,m,q,fun x n v H1 g i j o=>by
  obtain⟨c,e,f⟩:=o
  subst e
  rw[Rep]at i
  refine⟨c,i,?_⟩
  cases c with
  |true=>rw[LG rfl]at f ⊢;exact⟨δ,n,R,h.mono g,j,f,d.go g⟩
  |false=>rw[LF Iq]at f ⊢;exact d _ _ _ _ g (by rw[Rep]) j f⟩
theorem FE(k:DE X a ta)(l:DE X (.BoolOp .Or (b::rest) pos) tb):DE X (.BoolOp .Or (a::b::rest) pos) (BS ta tb):=
 bj (GV k l) fun σ H Q ⟨δ,M,R,h,m,q,d⟩=>⟨δ,M,_,h,m,q,fun x n v H1 g i j o=>by
  obtain⟨c,e,f⟩:=o
  subst e
  rw[Rep]at i
  refine⟨c,i,?_⟩
  cases c with
  |true=>rw[LG rfl]at f ⊢;exact d _ _ _ _ g (by rw[Rep]) j f
  |false=>rw[LF Iq]at f ⊢;exact⟨δ,n,R,h.mono g,j,f,d.go g⟩⟩
theorem rT(h:DE X a ta):DE X (.UnaryOp .Not a pos) (ER ta):=
 bj (Cv h) fun σ H Q d=>by obtain⟨δ,M,R,i,j,q,f⟩:=d;exact(⟨δ,M,_,i,j,q,fun x o v H1 k g l m=>by
  obtain⟨c,e,n⟩:=m
  subst e
  rw[Rep]at g
  exact⟨c,g,f _ _ _ _ k (by rw[Rep]) l n⟩⟩)
def Hr(t:TTD)(ta tb:TD):TD:=fun δ M Q=>t δ M fun c d=>if c=LC then ta δ d Q else tb δ d Q
theorem gC(k:DT X c tA)(l:DE X a ta)(m:DE X b tb):DE X (.IfExp c a b pos) (Hr tA ta tb):=
 bj (yk k l m) fun σ H Q d=>by obtain⟨δ,M,R,h,n,q,e⟩:=d;exact(⟨δ,M,_,h,n,q,fun c i H1 f j g=>by
  cases c with
  |true=>rw[LG rfl]at g ⊢;exact⟨δ,i,R,h.mono f,j,g,e.go f⟩
  |false=>rw[LF Iq]at g ⊢;exact⟨δ,i,R,h.mono f,j,g,e.go f⟩⟩)
end
def HW(r:D->MH->DK->Prop)(a:TD):TD:=fun δ M Q=>a δ M fun x b=>r x b Q
def B4(K:H0)(r:D->MH->DK->Prop):V->Hp->VK->Prop:=fun v H Q=>∃x M R,Rep K H x v/\Abs K H M/\r x M R/\Fin K H R Q
theorem pZ{X:Cx}{a:Expr}{d:TD}{pos:Pos}{op:UnaryOp}{r:D->MH->DK->Prop}(e:UnR X (unaryOp op) (B4 X.K r))(f:DE X a d):DE X (.UnaryOp op a pos) (HW r d):=bj (Fs e f) fun σ H Q b=>by obtain⟨δ,M,R,g,h,q,c⟩:=b;exact(⟨δ,M,_,g,h,q,fun x i v H1 j k l m=>⟨x,i,R,k,l,m,c.go j⟩⟩)
def E6:TAD:=fun _ M Q=>Q [] M
def Cn(a:TD)(b:TAD):TAD:=fun δ M Q=>a δ M fun x c=>b δ c fun xs d=>Q (x::xs) d
section
variable{X:Cx}{e:Expr}{es:List Expr}{te:TD}{t:TAD}{pos:Pos}
theorem ag:DA X [] E6:=yP Ct fun σ H Q a=>by obtain⟨δ,M,R,d,c,q,b⟩:=a;exact(b _ _ _ _ .refl .nil c q)
theorem ae(g:DE X e te)(h:DA X es t)(b:Iz (e::es) X.env=(LD,eval e X.env)::Iz es X.env:=by rfl):DA X (e::es) (Cn te t):=
 yP (A6 g h b) fun σ H Q a=>by obtain⟨δ,M,R,b,i,q,c⟩:=a;exact(⟨δ,M,_,b,i,q,fun x j v H1 d k l m=>
  ⟨δ,j,_,b.mono d,l,m,fun xs r vs s f n o p=>c _ _ _ _ (d.trans f) (.cons (k.mono f) n) o p⟩⟩)
def Gg(t:TAD):TD:=fun δ M Q=>t δ M fun xs a=>xs.length<=Ir/\Q (.tup xs) a
def GG(t:TAD):TD:=fun δ M Q=>t δ M fun xs a=>xs.length<=Ir/\∀p,a p=LB->Q (.ref p) (ay a p (.lst xs))
theorem aF{x1}(h:DA X es t):DE X (.Tuple es x1 pos) (Gg t):=bj (D0 h) fun σ H Q a=>by obtain⟨δ,M,R,g,i,q,c⟩:=a;exact(⟨δ,M,_,g,i,q,fun xs m vs H1 j f k b=>by obtain⟨z,l⟩:=b;exact(⟨by rw[<-f.length];exact z,fun p d=>c _ _ _ _ (j.trans (.new d)) (by rw[Rep];exact⟨p,vs,rfl,SqT.of aZ,f.mono (.new d)⟩) (k.new d) l⟩)⟩)
theorem bI(h:DA X es t):DE X (.List es pos) (GG t):=bj (Ci h) fun σ H Q a=>by obtain⟨δ,M,R,i,j,q,c⟩:=a;exact(⟨δ,M,_,i,j,q,fun xs m vs H1 k f g b=>by obtain⟨z,l⟩:=b;exact(⟨by rw[<-f.length];exact z,fun p d=>c _ _ _ _ (k.trans (.new d)) (by rw[Rep]) (g.m8 d f) (l p (g.fresh d))⟩)⟩)
end
def IxD(X:Cx)(r:R2D):Prop:=IxR X (oq X.K r)
theorem Dw{X:Cx}{r c:R2}(h:IxR X r)(k:∀x y H Q,c x y H Q->r x y H Q):IxR X c:=fun e1 e2 pins s σ H x y v u Q I a b q=>h e1 e2 pins s σ H x y v u Q I a b (k _ _ _ _ q)
theorem EL{X:Cx}{a b:Expr}{c d:TD}{pos:Pos}{r:R2D}(e:IxD X r)(f:DE X a c)(g:DE X b d)(i:ph b):DE X (.Subscript a b pos) (vG r c d):=bj (ET e f g i) fun _ _ _ h=>ku h
inductive AtD(ds:List D)(i:Int)(M:MH)(Q:DK):Prop
 |mk (d:D) (h:atI ds i=LA d) (q:Q d M):AtD ds i M Q
inductive AtM(a:Addr)(i:Int)(M:MH)(Q:DK):Prop
 |mk (ds:List D) (d:D) (h:M a=LA (.lst ds)) (q:atI ds i=LA d/\Q d M):AtM a i M Q
def CT:R2D:=fun x y M Q=>match x,y with
 |.tup ds,.int i=>AtD ds i M Q
 |.rol ds,.int i=>AtD ds i M Q
 |.ref a,.int i=>AtM a i M Q
 |_,_=>False
theorem aE.atI{K:H0}{H:Hp}{a:List D}{xs:List V}{i:Int}{d:D}(h:aE K H a xs)(e:L2.atI a i=LA d):∃x,L2.atI xs i=LA x/\Rep K H d x:=by
 unfold L2.atI at e ⊢;rw[<-h.length];cases q:ixN a.length i with
 |none=>rw[q]at e;cases e
 |some j=>
  rw[q]at e
  exact h.get e
theorem wj{K:H0}{v u:V}{H:Hp}{Q:VK}(h:oq K CT v u H Q):rIx K v u H Q:=by
 obtain⟨x,y,M,R,c,g,a,q,b⟩:=h;unfold CT at q;split at q
 ·obtain⟨d,e,q⟩:=q;obtain rfl:u=.int _:=g;rw[Rep]at c;obtain⟨p,xs,rfl,i,f⟩:=c;obtain⟨x,e1,e2⟩:=f.atI e;exact .inr (.inl ⟨p,xs,_,x,rfl,rfl,i,e1,b _ _ _ _ .refl e2 a q⟩)
 ·obtain⟨d,e,q⟩:=q;obtain rfl:u=.int _:=g;rw[Rep]at c;obtain⟨p,xs,rfl,i,f⟩:=c;obtain⟨x,e1,e2⟩:=f.atI e;exact .inl ⟨p,xs,_,x,rfl,rfl,i.sql,e1,b _ _ _ _ .refl e2 a q⟩
 ·obtain⟨l,d,j,e,q⟩:=q;obtain rfl:u=.int _:=g;obtain rfl:v=.ref _:=c;obtain⟨xs,k,f⟩:=a _ _ j;obtain⟨x,e1,e2⟩:=f.atI e;exact .inl ⟨_,xs,_,x,rfl,rfl,SqL.of k,e1,b _ _ _ _ .refl e2 a q⟩
 ·exact q.elim
theorem ax{X:Cx}{a b:Expr}{c d:TD}{pos:Pos}(e:DE X a c)(f:DE X b d)(g:ph b:=by exact fun _ _=>rfl):DE X (.Subscript a b pos) (vG CT c d):=EL (Dw CN fun _ _ _ _ h=>wj h) e f g
def Bd(n:Nat)(i:Int):Prop:=i.natAbs<2^n
instance(n:Nat)(i:Int):Decidable (Bd n i):=inferInstanceAs (Decidable (i.natAbs<2^n))
theorem Bd.mono{m n:Nat}{i:Int}(h:Bd m i)(l:m<=n):Bd n i:=IM h (Nat.pow_le_pow_right ⋯ l)
theorem Bd.bits{n:Nat}{i:Int}(h:Bd n i):Builtin.Int.intBits i<=n:=by
 unfold Builtin.Int.intBits;split
 ·exact JA _
 ·rename_i hz;have a:i.natAbs≠0:=fun e=>hz (by simpa using Int.natAbs_eq_zero.mp e);exact(Nat.log2_lt a).mpr h
theorem Bd.log2{n:Nat}{i:Int}(h:Bd n i)(b:0<n):i.natAbs.log2<n:=by
 by_cases a:i.natAbs=0
 ·rw[a];simpa using b
 ·exact(Nat.log2_lt a).mpr h
theorem Bd.mul{m n:Nat}{i j:Int}(a:Bd m i)(b:Bd n j):Bd (m+n) (i*j):=by unfold Bd at *;rw[Int.natAbs_mul,Nat.pow_add];exact Nat.mul_lt_mul'' a b
theorem Bd.add{n:Nat}{i j:Int}(a:Bd n i)(b:Bd n j):Bd (n+1) (i+j):=by unfold Bd at *;rw[Nat.pow_succ];have:=Int.natAbs_add_le i j;omega
theorem Bd.sub{n:Nat}{i j:Int}(a:Bd n i)(b:Bd n j):Bd (n+1) (i-j):=by unfold Bd at *;rw[Nat.pow_succ];have:=Int.natAbs_sub_le i j;omega
theorem Bd.neg{n:Nat}{i:Int}(a:Bd n i):Bd n (-i):=by unfold Bd at *;rw[Int.natAbs_neg];exact a
theorem Bd.of_le{n:Nat}{i j:Int}(a:Bd n i)(b:j.natAbs<=i.natAbs):Bd n j:=Nat.lt_of_le_of_lt b a
theorem bA{n:Nat}{i:Int}(h:i.natAbs<2^64)(l:64<=n:=by decide):Bd n i:=Bd.mono (m:=64) h l
theorem eQ{i j:Int}(a:Bd 1000000 i)(b:Bd 1000000 j):IntMulOk i j:=.of_bits (Jp a.bits ⋯) (Jp b.bits ⋯)
theorem aO{i j:Int}(a:Bd 64 i):IntMulOk i j:=.of_left a.bits
theorem fU{i j:Int}(a:Bd 64 j):IntMulOk i j:=.of_right a.bits
def rI2(C:Int->Int->Prop)(g:Int->Int->D):R2D:=fun x y M Q=>match x,y with
 |.int i,.int j=>C i j/\Q (g i j) M
 |_,_=>False
section
variable{X:Cx}
theorem dk{f:HY->HY->Sem HY}{C:Int->Int->Prop}{g:Int->Int->V}{g':Int->Int->D}(h:OpR X f (rI C g))(e:∀i j H,Rep X.K H (g' i j) (g i j)):OpD X f (rI2 C g'):=
 iK h fun v u H Q c=>by
  obtain⟨x,y,M,R,d,k,a,q,b⟩:=c
  unfold rI2 at q
  split at q
  ·obtain rfl:v=.int _:=d
   obtain rfl:u=.int _:=k
   exact⟨_,_,rfl,rfl,q.1,b _ _ _ _ .refl (e _ _ _) a q.2⟩
  ·exact q.elim
theorem ri0{f:HY->HY->Sem HY}{g:Int->Int->V}(h:OpR X f (rI0 g)):OpR X f (rI (fun _ _=>True) g):=iK h fun x y H Q c=>by obtain⟨i,j,a,b,_,q⟩:=c;exact(⟨i,j,a,b,q⟩)
def Gi:R2D:=rI2 (fun _ _=>True) fun i j=>.int (i-j)
def Gn:R2D:=rI2 IntMulOk fun i j=>.int (i*j)
def CFd(i j:Int):Prop:=j≠0/\Bd 8000 j
def Hl:R2D:=rI2 CFd fun i j=>.int (i.fdiv j)
def GN:R2D:=rI2 (fun _ j=>j≠0) fun i j=>.int (i.fmod j)
def Gz:R2D:=rI2 Ga fun i j=>.int (i^j.toNat)
def HG:R2D:=rI2 (fun _ _=>True) fun i j=>.bl (decide (i<j))
def Hg:R2D:=rI2 (fun _ _=>True) fun i j=>.bl (decide (i<=j))
def HI:R2D:=rI2 (fun _ _=>True) fun i j=>.bl (decide (j<i))
def Hc:R2D:=rI2 (fun _ _=>True) fun i j=>.bl (decide (j<=i))
theorem cx:OpD X (Kb .Sub) Gi:=dk (ri0 CO) fun _ _ _=>by rw[Rep]
theorem aG:OpD X (Kb .Mult) Gn:=dk (opI fun _ _ _ _ _ _ _ a q=>mul_int q a) fun _ _ _=>by rw[Rep]
theorem eJ:OpD X (Kb .FloorDiv) Hl:=dk (opI fun _ _ _ _ _ _ _ a q=>floordiv_int a.1 q (.inl (PyProof.noPylong_of_log2 (Nat.lt_trans (a.2.log2 ⋯) ⋯)))) fun _ _ _=>by rw[Rep]
theorem iH:OpD X (Kb .Mod) GN:=dk Af fun _ _ _=>by rw[Rep]
theorem jI:OpD X (Kb .Pow) Gz:=dk EI fun _ _ _=>by rw[Rep]
theorem GR:OpD X (IY .Lt) HG:=dk (ri0 Gj) fun _ _ _=>by rw[Rep]
theorem E8:OpD X (IY .LtE) Hg:=dk (ri0 GY) fun _ _ _=>by rw[Rep]
theorem GS:OpD X (IY .Gt) HI:=dk (ri0 FQ) fun _ _ _=>by rw[Rep]
theorem zG:OpD X (IY .GtE) Hc:=dk (ri0 Gd) fun _ _ _=>by rw[Rep]
def B2:D->MH->DK->Prop:=fun x M Q=>match x with
 |.int i=>Q (.int (-i)) M
 |_=>False
theorem jj:UnR X (unaryOp .USub) (B4 X.K B2):=fun pins s σ H x v Q I r b=>by obtain⟨d,M,R,e,a,q,c⟩:=b;exact(Ec pins s σ H x v Q I r (by
 unfold B2 at q
 split at q
 ·obtain rfl:x=.int _:=e;exact⟨_,rfl,c _ _ _ _ .refl (by rw[Rep]) a q⟩
 ·exact q.elim))
def B5:R2D:=fun x y M Q=>match x,y with
 |.int i,.int j=>Q (.int (i+j)) M
 |.tup a,.tup b=>a≠[]/\a.length+b.length<=Ir/\Q (.tup (a++b)) M
 |.ref a,.ref b=>∃xs c,M a=LA (.lst xs)/\M b=LA (.lst c)/\xs.length+c.length<=Ir/\∀p,M p=LB->Q (.ref p) (ay M p (.lst (xs++c)))
 |_,_=>False
theorem aJ:OpD X (Kb .Add) B5:=iK (Dq.or (z5.or CQ)) fun v u H Q l=>by
 obtain⟨x,y,M,R,g,h,a,q,b⟩:=l;unfold B5 at q;split at q
 ·obtain rfl:v=.int _:=g;obtain rfl:u=.int _:=h;exact .inl ⟨_,_,rfl,rfl,b _ _ _ _ .refl (by rw[Rep]) a q⟩
 ·rename_i da db;obtain⟨m,n,q⟩:=q;rw[Rep]at g;obtain⟨p,xs,rfl,i,d⟩:=g;obtain⟨o,j,rfl,k,f⟩:∃a xs,u=V.ref a/\SqT X.K H a xs/\aE X.K H db xs:=by rw[Rep]at h;exact h
  have l1:=d.length;have l2:=f.length;refine .inr (.inl ⟨p,o,xs,j,rfl,rfl,i,k,?_,(),fun e=>?_,fun _ z c=>?_⟩)
  ·intro e;subst e;exact m (List.length_eq_zero_iff.mp (by simpa using l1))
  ·subst e;obtain rfl:db=[]:=List.length_eq_zero_iff.mp (by simpa using l2);exact b _ _ _ _ .refl (by rw[Rep,Jv];exact⟨p,xs,rfl,i,d⟩) a q
  ·exact b _ _ _ _ (.new c) (by rw[Rep];exact⟨z,_,rfl,SqT.of aZ,(d.append f).mono (.new c)⟩) (a.new c) q
 ·obtain⟨r,s,e1,e2,n,q⟩:=q;obtain rfl:v=.ref _:=g;obtain rfl:u=.ref _:=h;obtain⟨xs,i,d⟩:=a _ _ e1;obtain⟨j,k,f⟩:=a _ _ e2;have l1:=d.length;have l2:=f.length;exact .inr (.inr ⟨_,_,xs,j,rfl,rfl,i,k,(),fun z c=>b _ _ _ _ (.new c) (by rw[Rep]) (a.m8 c (d.append f)) (q z (a.fresh c))⟩)
 ·exact q.elim
end
mutual
inductive Pd(M:MH):D->KU->Prop
 |non:Pd M .non .none
 |bl (b:Bool):Pd M (.bl b) (.bool b)
 |int (i:Int):Pd M (.int i) (.int i)
 |str (x:Str):Pd M (.str x) (.str x)
 |tup {ds:List D} {ps:List KU}:Pds M ds ps->Pd M (.tup ds) (.tuple ps)
 |rol {ds:List D} {ps:List KU}:Pds M ds ps->Pd M (.rol ds) (.list ps)
 |lst {a:Addr} {ds:List D} {ps:List KU}:M a=LA (.lst ds)->Pds M ds ps->Pd M (.ref a) (.list ps)
inductive Pds(M:MH):List D->List KU->Prop
 |nil:Pds M [] []
 |cons {d:D} {ds:List D} {p:KU} {ps:List KU}:Pd M d p->Pds M ds ps->Pds M (d::ds) (p::ps)
end
mutual
def pdO:D->Option KU
 |.non=>LA .none
 |.bl b=>LA (.bool b)
 |.int i=>LA (.int i)
 |.str x=>LA (.str x)
 |.tup a=>match tI a with
  |some ps=>LA (.tuple ps)
  |none=>LB
 |_=>LB
def tI:List D->Option (List KU)
 |[]=>LA []
 |d::ds=>match pdO d,tI ds with
  |some p,LA ps=>LA (p::ps)
  |_,_=>LB
end
mutual
theorem Pd.of{M:MH}:∀{d:D} {p:KU},pdO d=LA p->Pd M d p
 |.non,p,h=>by rw[pdO]at h;cases h;exact .non
 |.bl b,p,h=>by rw[pdO]at h;cases h;exact .bl b
 |.int i,p,h=>by rw[pdO]at h;cases h;exact .int i
 |.str x,p,h=>by rw[pdO]at h;cases h;exact .str x
 |.ty _,p,h=>by simp[pdO]at h
 |.ref _,p,h=>by simp[pdO]at h
 |.rol _,p,h=>by simp[pdO]at h
 |.tup ds,p,h=>by
  rw[pdO]at h
  cases e:tI ds with
  |none=>rw[e]at h;cases h
  |some ps=>rw[e]at h;cases h;exact .tup (Pds.of e)
theorem Pds.of{M:MH}:∀{a:List D} {ps:List KU},tI a=LA ps->Pds M a ps
 |[],ps,h=>by rw[tI]at h;cases h;exact .nil
 |d::a,ps,h=>by
  rw[tI]at h
  cases e1:pdO d with
  |none=>rw[e1]at h;cases h
  |some p=>
   cases e2:tI a with
   |none=>rw[e1,e2]at h;cases h
   |some qs=>rw[e1,e2]at h;cases h;exact .cons (Pd.of e1) (Pds.of e2)
end
section
variable{X:Cx}{pins:List (Addr×Obj)}{σ:L2.St}{H:Hp}{s:HZ}{M:MH}
mutual
theorem bR(I:Inv X pins σ H s)(q:Abs X.K H M):∀{d:D} {p:KU} {v:V} {u:HY},Pd M d p->Rep X.K H d v->L2.RelV v u->∃c,Reads s.heap u p c
 |_,_,_,_,.non,r,e=>by rw[Rep]at r;subst r;cases e;exact⟨_,.none⟩
 |_,_,_,_,.bl b,r,e=>by rw[Rep]at r;subst r;cases e;exact⟨_,.bool b⟩
 |_,_,_,_,.int i,r,e=>by rw[Rep]at r;subst r;obtain⟨t,rfl⟩:=e;exact⟨_,.int i t⟩
 |_,_,_,_,.str x,r,e=>by rw[Rep]at r;subst r;obtain⟨t,rfl⟩:=e;exact⟨_,.str x t⟩
 |_,_,_,_,.tup hp,r,e=>by
  rw[Rep]at r
  obtain⟨a,xs,rfl,w,f⟩:=r
  cases e
  obtain⟨g,h,⟨o,j,k,n,l⟩,_⟩:=I.tuple w
  obtain⟨c,m⟩:=gX I q hp f h
  exact⟨c,reads_tuple_at j k l (by simpa using m)⟩
 |_,_,_,_,.rol hp,r,e=>by
  rw[Rep]at r
  obtain⟨a,xs,rfl,w,f⟩:=r
  cases e
  obtain⟨g,h,⟨o,n,j,k,_,l⟩,_⟩:=I.list w.sql
  obtain⟨c,m⟩:=gX I q hp f h
  exact⟨_,reads_list_at j k l (by simpa using m)⟩
 |_,_,_,_,.lst ha hp,r,e=>by
  rw[Rep]at r
  subst r
  cases e
  obtain⟨xs,y,f⟩:=q _ _ ha
  obtain⟨g,h,⟨o,n,j,k,_,l⟩,_⟩:=I.list (SqL.of y)
  obtain⟨c,m⟩:=gX I q hp f h
  exact⟨_,reads_list_at j k l (by simpa using m)⟩
theorem gX(I:Inv X pins σ H s)(a:Abs X.K H M):∀{b:List D} {ps:List KU} {vs:List V} {us:List HY},Pds M b ps->aE X.K H b vs->Vals vs us->∃c,ReadsAll s.heap us ps c
 |_,_,_,_,.nil,r,e=>by rw[aE]at r;subst r;cases e;exact⟨_,.nil⟩
 |_,_,_,_,.cons h1 h2,r,e=>by
  rw[aE]at r
  obtain⟨x,r,rfl,d,f⟩:=r
  cases e with
  |cons e1 e2=>
   obtain⟨c,g⟩:=bR I a h1 d e1
   obtain⟨bs,h⟩:=gX I a h2 f e2
   exact⟨_,.cons g h⟩
end
end
inductive rEqG(g:Bool->Bool)(x y:D)(M:MH)(Q:DK):Prop
 |mk (p q:KU) (h1:Pd M x p) (h2:Pd M y q) (h3:Jy p=LC) (h4:Jy q=LC) (hq:Q (.bl (g (J0 p q))) M):rEqG g x y M Q
def Gy:R2D:=fun x y M Q=>match x,y with
 |.int i,.int j=>Q (.bl (decide (i=j))) M
 |.bl i,.bl j=>Q (.bl (decide (i=j))) M
 |x,y=>rEqG (fun b=>b) x y M Q
def yN:R2D:=fun x y M Q=>match x,y with
 |.int i,.int j=>Q (.bl (!decide (i=j))) M
 |.bl i,.bl j=>Q (.bl (!decide (i=j))) M
 |x,y=>rEqG (fun b=>!b) x y M Q
section
variable{X:Cx}
theorem DN(d:X.A.units+64<Jq):OpD X (IY .Eq) (rEqG fun b=>b):=by intro pins s σ H v u t w Q I e f h;obtain⟨x,y,M,R,g,i,a,⟨p,q,j,k,l,m,n⟩,c⟩:=h;obtain⟨z,o⟩:=bR I a j g e;obtain⟨bs,r⟩:=bR I a k i f;exact eq_dataH o r l m d ⟨.bl _,H,I,rfl,c _ _ _ _ .refl (by rw[Rep]) a n⟩
theorem De(d:X.A.units+64<Jq):OpD X (IY .NotEq) (rEqG fun b=>!b):=by intro pins s σ H v u t w Q I e f h;obtain⟨x,y,M,R,g,i,a,⟨p,q,j,k,l,m,n⟩,c⟩:=h;obtain⟨z,o⟩:=bR I a j g e;obtain⟨bs,r⟩:=bR I a k i f;exact ne_dataH o r l m d ⟨.bl _,H,I,rfl,c _ _ _ _ .refl (by rw[Rep]) a n⟩
theorem kJ{i j:Int}:(i==j)=decide (i=j):=by by_cases h:i=j<;>simp[h]
theorem qg{i j:Bool}:(i==j)=decide (i=j):=by cases i<;>cases j<;>rfl
theorem b6(c:X.A.units+64<Jq):OpD X (IY .Eq) Gy:=iK (DN c) fun v u H Q d=>by
 obtain⟨x,y,M,R,e,f,a,q,b⟩:=d;refine⟨x,y,M,R,e,f,a,?_,b⟩;unfold Gy at q;split at q
 ·exact⟨_,_,.int _,.int _,rfl,rfl,by simpa[J0,kJ]using q⟩
 ·exact⟨_,_,.bl _,.bl _,rfl,rfl,by simpa[J0,qg]using q⟩
 ·exact q
theorem fY(c:X.A.units+64<Jq):OpD X (IY .NotEq) yN:=iK (De c) fun v u H Q d=>by
 obtain⟨x,y,M,R,e,f,a,q,b⟩:=d;refine⟨x,y,M,R,e,f,a,?_,b⟩;unfold yN at q;split at q
 ·exact⟨_,_,.int _,.int _,rfl,rfl,by simpa[J0,kJ]using q⟩
 ·exact⟨_,_,.bl _,.bl _,rfl,rfl,by simpa[J0,qg]using q⟩
 ·exact q
def isC:D->D->Option Bool
 |.non,.non=>LA LC
 |.non,.bl _=>LA LD
 |.bl _,.non=>LA LD
 |.bl a,.bl b=>LA (decide (a=b))
 |_,.non=>LA LD
 |_,.bl _=>LA LD
 |_,_=>LB
inductive rIsG(g:Bool->Bool)(x y:D)(M:MH)(Q:DK):Prop
 |mk (b:Bool) (h:isC x y=LA b) (q:Q (.bl (g b)) M):rIsG g x y M Q
def Hb:R2D:=rIsG fun b=>b
def By:R2D:=rIsG fun b=>!b
theorem og{K:H0}{H:Hp}{x y:D}{b:Bool}{v u:V}{f g:HY}(h:isC x y=LA b)(d:Rep K H x v)(e:Rep K H y u)(j:L2.RelV v f)(k:L2.RelV u g):plainIs f g=LC/\(f==g)=b:=by
 have l:g=.none\/∃c,g=.bool c:=by
  cases y with
  |non=>rw[Rep]at e;subst e;exact .inl k
  |bl c=>rw[Rep]at e;subst e;exact .inr ⟨c,k⟩
  |_=>cases x<;>exact absurd (show(LB:Option Bool)=LA b from h) (fun z=>nomatch z)
 cases x with
 |non=>
  rw[Rep]at d;subst d;cases (show f=JZ from j)
  cases y<;>try exact absurd (show(LB:Option Bool)=LA b from h) (fun z=>nomatch z)
  ·rw[Rep]at e;subst e;cases (show g=JZ from k);cases (show LA LC=LA b from h);exact⟨rfl,rfl⟩
  ·rw[Rep]at e;subst e;cases (show g=L5 _ from k);cases (show LA LD=LA b from h);exact⟨rfl,rfl⟩
 |bl c=>
  rw[Rep]at d;subst d;cases (show f=L5 _ from j)
  cases y<;>try exact absurd (show(LB:Option Bool)=LA b from h) (fun z=>nomatch z)
  ·rw[Rep]at e;subst e;cases (show g=JZ from k);cases (show LA LD=LA b from h);exact⟨rfl,rfl⟩
  ·rename_i c';rw[Rep]at e;subst e;cases (show g=L5 _ from k);cases (show LA (decide (c=c'))=LA b from h);refine⟨rfl,?_⟩;cases c<;>cases c'<;>rfl
 |int i=>
  rw[Rep]at d;subst d;obtain⟨t,rfl⟩:=j
  cases y<;>first|exact absurd (show(LB:Option Bool)=LA b from h) (fun z=>nomatch z)|(cases (show LA LD=LA b from h);rcases l with rfl|⟨c,rfl⟩<;>exact⟨rfl,rfl⟩)
 |str i=>
  rw[Rep]at d;subst d;obtain⟨t,rfl⟩:=j
  cases y<;>first|exact absurd (show(LB:Option Bool)=LA b from h) (fun z=>nomatch z)|(cases (show LA LD=LA b from h);rcases l with rfl|⟨c,rfl⟩<;>exact⟨rfl,rfl⟩)
 |ty i=>
  rw[Rep]at d;subst d;cases (show f=L6 _ from j)
  cases y<;>first|exact absurd (show(LB:Option Bool)=LA b from h) (fun z=>nomatch z)|(cases (show LA LD=LA b from h);rcases l with rfl|⟨c,rfl⟩<;>exact⟨rfl,rfl⟩)
 |ref i=>
  rw[Rep]at d;subst d;cases (show f=Jx _ from j)
  cases y<;>first|exact absurd (show(LB:Option Bool)=LA b from h) (fun z=>nomatch z)|(cases (show LA LD=LA b from h);rcases l with rfl|⟨c,rfl⟩<;>exact⟨rfl,rfl⟩)
 |rol i=>
  rw[Rep]at d;obtain⟨a,xs,rfl,_,_⟩:=d;cases (show f=Jx _ from j)
  cases y<;>first|exact absurd (show(LB:Option Bool)=LA b from h) (fun z=>nomatch z)|(cases (show LA LD=LA b from h);rcases l with rfl|⟨c,rfl⟩<;>exact⟨rfl,rfl⟩)
 |tup i=>
  rw[Rep]at d;obtain⟨a,xs,rfl,_,_⟩:=d;cases (show f=Jx _ from j)
  cases y<;>first|exact absurd (show(LB:Option Bool)=LA b from h) (fun z=>nomatch z)|(cases (show LA LD=LA b from h);rcases l with rfl|⟨c,rfl⟩<;>exact⟨rfl,rfl⟩)
theorem xD:OpD X (IY .Is) Hb:=by intro pins s σ H v u j k Q I d f h;obtain⟨x,y,M,R,g,i,a,⟨b,e,q⟩,c⟩:=h;obtain⟨e1,e2⟩:=og e g i d f;exact wpAny_is_plain e1 ⟨.bl b,H,I,by rw[e2];rfl,c _ _ _ _ .refl (by rw[Rep]) a q⟩
theorem yr:OpD X (IY .IsNot) By:=by intro pins s σ H v u j k Q I d f h;obtain⟨x,y,M,R,g,i,a,⟨b,e,q⟩,c⟩:=h;obtain⟨e1,e2⟩:=og e g i d f;exact wpAny_isNot_plain e1 ⟨.bl (!b),H,I,by rw[e2];rfl,c _ _ _ _ .refl (by rw[Rep]) a q⟩
end
abbrev RC:=List D->MH->DK->Prop
def BP(K:H0)(r:RC):List V->Hp->VK->Prop:=fun vs H Q=>∃a M R,aE K H a vs/\Abs K H M/\r a M R/\Fin K H R Q
def fh(X:Cx)(f:HY)(r:RC):Prop:=cG X f (BP X.K r)
theorem cI{X:Cx}{f:HY}{r b:List V->Hp->VK->Prop}(h:cG X f r)(k:∀xs H Q,b xs H Q->r xs H Q):cG X f b:=fun pins s σ H xs us Q I a q=>h pins s σ H xs us Q I a (k _ _ _ q)
def C3(r:RC)(t:TAD):TD:=fun δ M Q=>t δ M fun a b=>r a b Q
theorem uo{K:H0}{r:RC}{t:TAD}{σ:L2.St}{H:Hp}{Q:VK}(h:lift K (C3 r t) σ H Q):tCB (BP K r) (wV K t) σ H Q:=by obtain⟨δ,M,R,b,c,q,a⟩:=h;exact⟨δ,M,_,b,c,q,fun d e vs H1 f g i j=>⟨d,e,R,g,i,j,a.go f⟩⟩
section
variable{X:Cx}{x:Str}{p pos:Pos}{e:Expr}{es:List Expr}{t:TAD}{id T:String}{r:RC}
theorem aS(c:fh X (.builtin id) r)(d:Gl X x)(f:X.mg x=LB)(g:Ju x=LA (.builtin id))(i:DA X (e::es) t)(j:x≠"__name__":=by decide)(a:(x==("__debug__":Str))=LD:=by decide) (k:Iz (e::es) X.env=(LD,eval e X.env)::Iz es X.env:=by rfl) (b:(JL pos (Iz es X.env)).any (·.1)=LD:=by rfl):DE X (.Call (.Name x p) (e::es) [] pos) (C3 r t):=bj (xl c d f g i j a k b) fun _ _ _ h=>uo h
theorem cS(c:fh X (.type T) r)(d:Gl X x)(f:X.mg x=LB)(g:Ju x=LA (.type T))(i:DA X (e::es) t)(j:x≠"__name__":=by decide)(a:(x==("__debug__":Str))=LD:=by decide) (k:Iz (e::es) X.env=(LD,eval e X.env)::Iz es X.env:=by rfl) (b:(JL pos (Iz es X.env)).any (·.1)=LD:=by rfl):DE X (.Call (.Name x p) (e::es) [] pos) (C3 r t):=bj (wm c d f g i j a k b) fun _ _ _ h=>uo h
theorem cH{K:H0}{H:Hp}{d:D}{vs:List V}(h:aE K H [d] vs):∃v,vs=[v]/\Rep K H d v:=by rw[aE]at h;obtain⟨x,r,rfl,b,a⟩:=h;rw[aE]at a;subst a;exact⟨x,rfl,b⟩
theorem gi{K:H0}{H:Hp}{d e:D}{vs:List V}(h:aE K H [d,e] vs):∃v u,vs=[v,u]/\Rep K H d v/\Rep K H e u:=by rw[aE]at h;obtain⟨x,r,rfl,a,b⟩:=h;obtain⟨u,rfl,c⟩:=cH b;exact⟨x,u,rfl,a,c⟩
def F0:RC:=fun a M Q=>match a with
 |[.int i]=>Q (.int (i.natAbs:Int)) M
 |_=>False
theorem pA:fh X (.builtin "abs") F0:=cI xt fun vs H Q c=>by
 obtain⟨f,M,R,d,a,q,b⟩:=c;unfold F0 at q;split at q
 ·rename_i i;obtain⟨v,rfl,r⟩:=cH d;rw[Rep]at r;subst r;have e:(if i<0 then -i else i)=(i.natAbs:Int):=by split<;>omega
  exact⟨_,rfl,b _ _ _ _ .refl (by rw[Rep,e]) a q⟩
 ·exact q.elim
def FV:RC:=fun a M Q=>match a with
 |[.int i,.int j]=>Q (.int (max i j)) M
 |_=>False
def GQ:RC:=fun a M Q=>match a with
 |[.int i,.int j]=>Q (.int (min i j)) M
 |_=>False
theorem Ei(d:X.calm=LC):fh X (.builtin "max") FV:=cI (vY d) fun vs H Q f=>by
 obtain⟨k,M,R,g,a,q,b⟩:=f;unfold FV at q;split at q
 ·rename_i i j;obtain⟨v,u,rfl,r,c⟩:=gi g;rw[Rep]at r;subst r;have h:u=.int j:=by rw[Rep]at c;exact c
  subst h;have e:(if j>i then j else i)=max i j:=by split<;>omega
  exact⟨_,_,rfl,b _ _ _ _ .refl (by rw[Rep,e]) a q⟩
 ·exact q.elim
theorem Cr(d:X.calm=LC):fh X (.builtin "min") GQ:=cI (vH d) fun vs H Q f=>by
 obtain⟨k,M,R,g,a,q,b⟩:=f;unfold GQ at q;split at q
 ·rename_i i j;obtain⟨v,u,rfl,r,c⟩:=gi g;rw[Rep]at r;subst r;have h:u=.int j:=by rw[Rep]at c;exact c
  subst h;have e:(if j<i then j else i)=min i j:=by split<;>omega
  exact⟨_,_,rfl,b _ _ _ _ .refl (by rw[Rep,e]) a q⟩
 ·exact q.elim
def F8:RC:=fun a M Q=>match a with
 |[.tup xs]=>Q (.int (xs.length:Int)) M
 |[.rol xs]=>Q (.int (xs.length:Int)) M
 |[.ref l]=>∃xs,M l=LA (.lst xs)/\Q (.int (xs.length:Int)) M
 |_=>False
theorem eU:fh X (.builtin "len") F8:=cI ou fun vs H Q g=>by
 obtain⟨i,M,R,f,a,q,b⟩:=g;unfold F8 at q;split at q
 ·obtain⟨v,rfl,r⟩:=cH f;rw[Rep]at r;obtain⟨l,xs,rfl,c,d⟩:=r;exact⟨l,xs,rfl,.inr c,b _ _ _ _ .refl (by rw[Rep,d.length]) a q⟩
 ·obtain⟨v,rfl,r⟩:=cH f;rw[Rep]at r;obtain⟨l,xs,rfl,c,d⟩:=r;exact⟨l,xs,rfl,.inl c.sql,b _ _ _ _ .refl (by rw[Rep,d.length]) a q⟩
 ·obtain⟨v,rfl,r⟩:=cH f;rw[Rep]at r;subst r;obtain⟨xs,e,q⟩:=q;obtain⟨h,c,d⟩:=a _ _ e;exact⟨_,h,rfl,.inl (SqL.of c),b _ _ _ _ .refl (by rw[Rep,d.length]) a q⟩
 ·exact q.elim
def xf:RC:=fun a M Q=>match a with
 |[.tup xs]=>Q (.tup xs) M
 |[.rol xs]=>Q (.tup xs) M
 |[.ref l]=>∃xs,M l=LA (.lst xs)/\Q (.tup xs) M
 |_=>False
theorem q0:fh X (.type "tuple") xf:=cI mS fun vs H Q i=>by
 obtain⟨j,M,R,g,a,q,b⟩:=i;unfold xf at q;split at q
 ·obtain⟨v,rfl,r⟩:=cH g;rw[Rep]at r;obtain⟨l,xs,rfl,d,f⟩:=r;exact⟨l,xs,rfl,.inr ⟨d,b _ _ _ _ .refl (by rw[Rep];exact⟨l,xs,rfl,d,f⟩) a q⟩⟩
 ·obtain⟨v,rfl,r⟩:=cH g;rw[Rep]at r;obtain⟨l,xs,rfl,d,f⟩:=r;exact⟨l,xs,rfl,.inl ⟨d.sql,fun p c=>b _ _ _ _ (.new c) (by rw[Rep];exact⟨p,xs,rfl,SqT.of aZ,f.mono (.new c)⟩) (a.new c) q⟩⟩
 ·obtain⟨v,rfl,r⟩:=cH g;rw[Rep]at r;subst r;obtain⟨xs,e,q⟩:=q;obtain⟨h,d,f⟩:=a _ _ e;exact⟨_,h,rfl,.inl ⟨SqL.of d,fun p c=>b _ _ _ _ (.new c) (by rw[Rep];exact⟨p,h,rfl,SqT.of aZ,f.mono (.new c)⟩) (a.new c) q⟩⟩
 ·exact q.elim
def B9:RC:=fun a M Q=>match a with
 |[.int i]=>Q (.int i) M
 |[.bl k]=>Q (.int (if k=LC then 1 else 0)) M
 |_=>False
theorem oP:fh X (.type "int") B9:=cI wB fun vs H Q d=>by
 obtain⟨f,M,R,c,a,q,b⟩:=d;unfold B9 at q;split at q
 ·obtain⟨v,rfl,r⟩:=cH c;rw[Rep]at r;subst r;exact .inl ⟨_,rfl,b _ _ _ _ .refl (by rw[Rep]) a q⟩
 ·obtain⟨v,rfl,r⟩:=cH c;rw[Rep]at r;subst r;exact .inr ⟨_,rfl,b _ _ _ _ .refl (by rw[Rep]) a q⟩
 ·exact q.elim
end
abbrev TGD:=D->DS->MH->(DS->MH->Prop)->Prop
abbrev tL:=List D->DS->MH->(DS->MH->Prop)->Prop
section
variable(K:H0)
def yQ(H:Hp)(R:DS->MH->Prop)(Q:L2.St->Hp->Prop):Prop:=∀a d b c,Grow K H c->Slots K c a b->Abs K c d->R a d->Q b c
def Gq(t:TGD):TG:=fun v σ H Q=>∃d δ M R,Rep K H d v/\Slots K H δ σ/\Abs K H M/\t d δ M R/\yQ K H R Q
def En(t:tL):TGs:=fun vs σ H Q=>∃a δ M R,aE K H a vs/\Slots K H δ σ/\Abs K H M/\t a δ M R/\yQ K H R Q
end
theorem yQ.go{K:H0}{H H1:Hp}{R:DS->MH->Prop}{Q:L2.St->Hp->Prop}(g:Grow K H H1)(h:yQ K H R Q):yQ K H1 R Q:=fun d M v a b=>h d M v a (g.trans b)
def DG(X:Cx)(e:Expr)(t:TGD):Prop:=PG X e (Gq X.K t)
def DGs(X:Cx)(es:List Expr)(t:tL):Prop:=PGs X es (En X.K t)
theorem sW{X:Cx}{e:Expr}{t t':TG}(h:PG X e t)(k:∀v σ H Q,t' v σ H Q->t v σ H Q):PG X e t':=fun pins s σ H v u Q I r q=>h pins s σ H v u Q I r (k _ _ _ _ q)
theorem vb{X:Cx}{e:List Expr}{t t':TGs}(h:PGs X e t)(k:∀v σ H Q,t' v σ H Q->t v σ H Q):PGs X e t':=fun pins s σ H v u Q I r q=>h pins s σ H v u Q I r (k _ _ _ _ q)
section
variable{X:Cx}{pos:Pos}
def aX(i:Nat):TGD:=fun d δ M Q=>Q (δ.set i (LA d)) M
theorem aA(i:Nat){x:Str}(e:X.N.Nodup)(f:X.N[i]?=LA x:=by rfl)(g:Loc X.env.scope x:=by first|exact Or.inl rfl|exact Or.inr rfl)(h:X.fn x=LC\/X.env.scope.names.lookup x=LA .local:=by first|exact .inl rfl|exact .inr rfl|assumption):DG X (.Name x pos) (aX i):=sW (uS e f g h) fun v σ H Q b=>by obtain⟨d,δ,M,R,r,j,a,q,c⟩:=b;exact(c _ _ _ _ .refl (j.set r i) a q)
def FT:tL:=fun a δ M Q=>a=[]/\Q δ M
inductive gConsD(t:TGD)(u:tL)(ds:List D)(δ:DS)(M:MH)(Q:DS->MH->Prop):Prop
 |mk (d:D) (r:List D) (h:ds=d::r) (q:t d δ M fun δ' M'=>u r δ' M' Q):gConsD t u ds δ M Q
theorem ba:DGs X [] FT:=vb uF fun vs σ H Q d=>by obtain⟨g,δ,M,R,c,f,a,⟨e,q⟩,b⟩:=d;subst e;rw[aE]at c;exact⟨c,b _ _ _ _ .refl f a q⟩
theorem aC{e:Expr}{es:List Expr}{t:TGD}{u:tL}(i:DG X e t)(j:DGs X es u) (b:(KS (e::es) X.env).map (·.2)=KW e X.env::(KS es X.env).map (·.2):=by rfl):DGs X (e::es) (gConsD t u):=vb (mG i j b) fun vs σ H Q k=>by obtain⟨w,δ,M,R,g,b,a,⟨d,r,e,q⟩,c⟩:=k;subst e;rw[aE]at g;obtain⟨x,xs,rfl,l,m⟩:=g;exact⟨x,xs,rfl,d,δ,M,_,l,b,a,q,fun f n o y h p s v=>⟨r,f,n,R,m.mono h,p,s,v,c.go h⟩⟩
inductive gTupD(n:Nat)(t:tL)(d:D)(δ:DS)(M:MH)(Q:DS->MH->Prop):Prop
 |mk (ds:List D) (h:d=.tup ds) (q:ds.length=n/\t ds δ M Q):gTupD n t d δ M Q
theorem bJ{es:List Expr}{k:Nat}{t:tL}{n:Nat}(g:X.calm=LC)(h:DGs X es t) (i:(KS es X.env).length=n:=by rfl) (b:(KS es X.env).findIdx? (·.1)=LB:=by rfl):DG X (.Tuple es k pos) (gTupD n t):=sW (xT g h i b) fun v σ H Q j=>by obtain⟨d,δ,M,R,r,l,a,⟨m,e,o,q⟩,c⟩:=j;subst e;rw[Rep]at r;obtain⟨p,xs,rfl,s,f⟩:=r;exact⟨p,xs,rfl,s,by rw[<-f.length];exact o,m,δ,M,R,f,l,a,q,c⟩
def Cc:D->D->D->MH->(MH->Prop)->Prop:=fun o i v M Q=>match o,i with
 |.ref p,.int k=>∃a j,M p=LA (.lst a)/\ixN a.length k=LA j/\Q (ay M p (.lst (a.set j v)))
 |_,_=>False
def Fn(a b:TD):TGD:=fun v δ M Q=>a δ M fun o c=>b δ c fun i d=>Cc o i v d fun e=>Q δ e
theorem kX{o i:Expr}{k l:TD}(t:DE X o k)(u:DE X i l)
 (w:∀v,KW (.Subscript o i pos) X.env v=(do
  let ov <-holding [v] (eval o X.env)
  let iv <-holding [v,ov] (eval i X.env)
  standAt pos
  holding [v,ov,iv] (setItem ov iv v)
  release [v,ov,iv] []):=by intro _;rfl):DG X (.Subscript o i pos) (Fn k l):=
 sW (Cj t u set_list w) fun v σ H Q x=>by
  obtain⟨d,δ,M,R,r,e,a,q,f⟩:=x
  exact⟨δ,M,_,e,a,q,fun o y z H1 c A B C=>⟨δ,y,_,e.mono c,B,C,fun i F D m g E n b=>by
   unfold Cc at b
   split at b
   ·obtain⟨G,j,e1,e2,b⟩:=b
    obtain rfl:z=.ref _:=A
    obtain rfl:D=.int _:=E
    obtain⟨xs,h,p⟩:=n _ _ e1
    refine⟨_,xs,_,j,rfl,rfl,h,by rw[<-p.length];exact e2,?_⟩
    have s:Grow X.K m (upd m _ (.lst (xs.set j v))):=.lst h
    exact f _ _ _ _ ((c.trans g).trans s) (e.mono ((c.trans g).trans s)) (n.zl h (p.set (r.mono (c.trans g)) j)) b
   ·exact b.elim⟩⟩
end
section
variable{X:Cx}{pos:Pos}{st:Stmt}{rest:List Stmt}{t u:TSD}
def cY:TSD:=fun B δ M=>B.nx δ M
def f6(t u:TSD):TSD:=fun B δ M=>t { B with nx:=u B } δ M
theorem aN:DSs X [] cY:=uJ AD fun E σ H b=>by obtain⟨δ,M,c,a,B,ok,q⟩:=b;exact(ok.nx _ _ _ _ .refl c a q)
theorem aj(d:DSt X st t)(e:DSs X rest u):DSs X (st::rest) (f6 t u):=uJ (yM d e) fun E σ H b=>by obtain⟨δ,M,f,a,B,ok,q⟩:=b;exact(⟨δ,M,f,a,{ B with nx:=u B },⟨fun c h i m g j k l=>⟨c,h,j,k,B,ok.go g,l⟩,ok.rt,ok.bk,ok.ct⟩,q⟩)
theorem aq(a:DSt X st t):DSs X [st] t:=A8 a
def Bx:TSD:=fun _ _ _=>False
theorem lJ:DSt X st Bx:=cO zi fun E σ H b=>by obtain⟨δ,M,c,a,B,ok,q⟩:=b;exact(q.elim)
def dU(te:TD):TSD:=fun B δ M=>te δ M fun _ a=>B.nx δ a
theorem cC{e:Expr}{te:TD}(g:DE X e te)(c:Ks e LB pos.line X.env=pure LD:=by rfl):DSt X (.Expr e pos) (dU te):=cO (Bi g c) fun E σ H b=>by obtain⟨δ,M,c,a,B,ok,q⟩:=b;exact(⟨δ,M,_,c,a,q,fun d j v H1 f k h i=>ok.nx _ _ _ _ f (c.mono f) h i⟩)
def gn(te:TD):TSD:=fun B δ M=>te δ M B.rt
theorem aD{e:Expr}{te:TD}(c:DE X e te):DSt X (.Return (LA e) pos) (gn te):=cO (DB c) fun E σ H b=>by obtain⟨δ,M,f,a,B,ok,q⟩:=b;exact(⟨δ,M,_,f,a,q,fun d k v H1 g h i j=>ok.rt _ _ _ _ g h i j⟩)
def gN(c:TTD)(t u:TSD):TSD:=fun B δ M=>c δ M fun b a=>if b=LC then t B δ a else u B δ a
theorem bc{c:Expr}{a b:List Stmt}{tc:TTD}(j:DT X c tc)(k:DSs X a t)(l:DSs X b u):DSt X (.If c a b pos) (gN tc t u):=
 cO (Fy j k l) fun E σ H d=>by obtain⟨δ,M,g,a,B,ok,q⟩:=d;exact(⟨δ,M,_,g,a,q,fun c h H1 e i f=>by
  cases c with
  |true=>rw[LG rfl]at f ⊢;exact⟨δ,h,g.mono e,i,B,ok.go e,f⟩
  |false=>rw[LF Iq]at f ⊢;exact⟨δ,h,g.mono e,i,B,ok.go e,f⟩⟩)
def dC(te:TD)(g:TGD):TSD:=fun B δ M=>te δ M fun d a=>g d δ a B.nx
theorem cv{tg e:Expr}{te:TD}{g:TGD}(h:DE X e te)(i:DG X tg g)(c:swapsWithSole [tg] e pos.line X.env=pure LD:=by rfl)(hw:swappedStores [tg] e X.env=pure LB:=by rfl)
 (j:(KS [tg] X.env).map (·.2)=[KW tg X.env]:=by rfl):DSt X (.Assign [tg] e pos) (dC te g):=
 cO (DF h i c hw j) fun E σ H b=>by obtain⟨δ,M,c,a,B,ok,q⟩:=b;exact(⟨δ,M,_,c,a,q,fun d k v H1 f l m n=>
  ⟨d,δ,k,B.nx,l,c.mono f,m,n,fun o y p z r s w x=>ok.nx _ _ _ _ (f.trans r) s w x⟩⟩)
theorem az(i:Nat){x:Str}{e:Expr}{te:TD}{c:Pos}(h:X.N.Nodup)(j:DE X e te)(k:X.N[i]?=LA x:=by rfl)(l:Loc X.env.scope x:=by first|exact Or.inl rfl|exact Or.inr rfl)(f:Ks e (LA (.Name x c)) pos.line X.env=pure LD:=by rfl) (m:X.fn x=LC\/X.env.scope.names.lookup x=LA .local:=by first|exact .inl rfl|exact .inr rfl|assumption):DSt X (.Assign [.Name x c] e pos) (dC te (aX i)):=cO (DZ h k l j f m) fun E σ H b=>by obtain⟨δ,M,f,a,B,ok,q⟩:=b;exact(⟨δ,M,_,f,a,q,fun d r v H1 g n o p=>ok.nx _ _ _ _ g ((f.mono g).set n i) o p⟩)
def GA(i j:Nat)(a:TAD):TSD:=fun B δ M=>a δ M fun b c=>∃d e,b=[d,e]/\B.nx ((δ.set i (LA d)).set j (LA e)) c
theorem fQ(i j:Nat){x y:Str}{a b:Expr}{o:TAD}{h k pt:Pos}{l m f}(r:X.calm=LC)(s:X.N.Nodup)(w:DA X [a,b] o)(n:i≠j:=by decide)(A:X.N[i]?=LA x:=by rfl)(C:X.N[j]?=LA y:=by rfl)
 (D:X.env.scope.names.lookup x=LA .local:=by rfl) (F:X.env.scope.names.lookup y=LA .local:=by rfl)
 (hw:swappedStores [.Tuple [.Name x h,.Name y k] l pt] (.Tuple [a,b] m f) X.env=pure (LA [x,y]):=by rfl)
 (g:swapsWithSole [.Tuple [.Name x h,.Name y k] l pt] (.Tuple [a,b] m f) pos.line X.env=pure LD:=by rfl) :
 DSt X (.Assign [.Tuple [.Name x h,.Name y k] l pt] (.Tuple [a,b] m f) pos) (GA i j o):=
 cO (Et r s A C n D F w hw g) fun E σ H c=>by obtain⟨δ,M,g,a,B,ok,q⟩:=c;exact(⟨δ,M,_,g,a,q,fun P Q vs H1 p G I J=>by
  obtain⟨d,e,z,K⟩:=J
  subst z
  obtain⟨v,u,rfl,L,O⟩:=gi G
  exact⟨v,u,rfl,ok.nx _ _ _ _ p (((g.mono p).set L i).set O j) I K⟩⟩)
def Bv(c:TTD)(g:TSD):TSD:=fun B δ M=>∃W:Nat->DS->MH->Prop,(∃m,W m δ M)/\∀m δ M,W m δ M->
 c δ M fun b f=>if b=LC then g { B with nx:=fun a e=>∃d,d<m/\W d a e,ct:=fun a e=>∃d,d<m/\W d a e,bk:=B.nx } δ f else B.nx δ f
theorem iW{c:Expr}{body:List Stmt}{tc:TTD}{I:TSD}(L:PassesOwn (IC X.prog X.w) X.A X.env X.xe)(N:DT X c tc)(O:DSs X body I):DSt X (.While c body [] pos) (Bv tc I):=
 cO (wX L N O) fun E σ H P=>by
  obtain⟨δ,M,q,a,B,ok,W,⟨m,C⟩,r⟩:=P
  refine⟨fun m σ e=>Grow X.K H e/\∃δ M,Slots X.K e δ σ/\Abs X.K e M/\W m δ M,⟨m,.refl,δ,M,q,a,C⟩,?_⟩
  rintro m σ e ⟨g,δ,M,q,a,C⟩
  refine⟨δ,M,_,q,a,r m δ M C,fun b Q H1 k J y=>?_⟩
  cases b with
  |true=>
   rw[LG rfl]at y ⊢
   refine⟨fun D F=>∃p,p<m/\(Grow X.K H F/\∃δ M,Slots X.K F δ D/\Abs X.K F M/\W p δ M),fun n e h=>h,δ,Q,q.mono k,J,_,?_,y⟩
   refine⟨fun f z n e o s x i=>by obtain⟨p,l,G⟩:=i;exact(⟨p,l,(g.trans k).trans o,f,z,s,x,G⟩),fun d M v e o=>ok.rt d M v e ((g.trans k).trans o),fun f z n e o s x R=>ok.nx _ _ _ _ ((g.trans k).trans o) s x R,fun f z n e o s x j=>by obtain⟨p,l,G⟩:=j;exact(⟨p,l,(g.trans k).trans o,f,z,s,x,G⟩)⟩
  |false=>
   rw[LF Iq]at y ⊢
   exact ok.nx _ _ _ _ (g.trans k) (q.mono k) J y
inductive ForW(g:TGD)(tb:TSD)(B:EndsD)(n:Nat)(δ0:DS)(M0:MH):Prop
 |mk (W:Nat->DS->MH->Prop) (w0:W 0 δ0 M0) (turn:∀i δ M,i<n->W i δ M->g (.int (i:Int)) δ M fun δ2 M2=>tb { B with nx:=W (i+1),ct:=W (i+1),bk:=B.nx } δ2 M2) (done:∀δ M,W n δ M->B.nx δ M):ForW g tb B n δ0 M0
inductive ForR(g:TGD)(tb:TSD)(B:EndsD)(ds:List D)(δ0:DS)(M0:MH):Prop
 |mk (n:Nat) (e:ds=[.int (n:Int)]) (q:n<2^60/\ForW g tb B n δ0 M0):ForR g tb B ds δ0 M0
def Ey(a:TAD)(g:TGD)(b:TSD):TSD:=fun B δ M=>a δ M fun c d=>ForR g b B c δ d
theorem dI{tg e:Expr}{body:List Stmt}{I:TAD}{g:TGD}{J:TSD}{p L:Pos}(O:PassesOwn (IC X.prog X.w) X.A X.env X.xe)(P:X.calm=LC)(Q:Gl X "range")(R:X.mg "range"=LB)(S:DA X [e] I)(T:DG X tg g)(U:DSs X body J)
 (o:Iz [e] X.env=[(LD,eval e X.env)]:=by rfl) (V:∀x,IW (.Call (.Name "range" p) [e] [] L) X.env x=pure x:=by intro _;rfl):DSt X (.For tg (.Call (.Name "range" p) [e] [] L) body [] pos) (Ey I g J):=
 cO (yn O P (wA Q R S o) T U V) fun E σ H ⟨δ,M,o,a,B,ok,q⟩=>⟨δ,M,_,o,a,q,fun ds Y vs H1 N Z a1 z9=>by
  obtain⟨n,e,hn,W,w0,j,done⟩:=z9
  subst e
  obtain⟨v,rfl,r⟩:=cH Z
  rw[Rep]at r;subst r
  refine⟨(n:Int),rfl,(),(),?_⟩
  rw[show((n:Int)).toNat=n from by simp]
  refine vm (fun i σ c=>Grow X.K H c/\∃δ M,Slots X.K c δ σ/\Abs X.K c M/\W i δ M) ⟨N,δ,Y,o.mono N,a1,w0⟩ ?_ ?_
  ·rintro i σ H2 hi ⟨h,δ,M,z,C,D⟩
   refine⟨.int (i:Int),δ,M,_,by rw[Rep];simp,z,C,j i δ M hi D,fun F M3 a0 H3 s s3 a3 q3=>?_⟩
   refine⟨F,M3,s3,a3,_,?_,q3⟩
   exact⟨fun b y k c f l m G=>⟨(h.trans s).trans f,b,y,l,m,G⟩,fun d M v c f=>ok.rt d M v c ((h.trans s).trans f),fun b y k c f l m q'=>ok.nx _ _ _ _ ((h.trans s).trans f) l m q',fun b y k c f l m G=>⟨(h.trans s).trans f,b,y,l,m,G⟩⟩
  ·rintro σ H2 ⟨h,δ,M,z,C,D⟩
   exact ok.nx _ _ _ _ h z C (done δ M D)⟩
end
theorem oI{b:Bool}{A B:Prop}(e:b=LC)(h:A):if b=LC then A else B:=by rw[LG e];exact h
theorem fv{b:Bool}{A B:Prop}(e:b=LD)(h:B):if b=LC then A else B:=by rw[LF (by rw[e];exact Iq)];exact h
theorem orV{b c:TD}{δ:DS}{M:MH}{Q:DK}(a d:Bool)(f:∀K:DK,K (.bl a) M->b δ M K)(g:a=LD->∀K:DK,K (.bl d) M->c δ M K)(e:Q (.bl (a||d)) M):BS b c δ M Q:=
 f _ ⟨a,rfl,by
  cases a with
  |true=>rw[LG rfl];exact e
  |false=>rw[LF Iq];exact g rfl _ e⟩
theorem zX{b c:TD}{δ:DS}{M:MH}{Q:DK}(a d:Bool)(f:∀K:DK,K (.bl a) M->b δ M K)(g:a=LC->∀K:DK,K (.bl d) M->c δ M K)(e:Q (.bl (a&&d)) M):yD b c δ M Q:=
 f _ ⟨a,rfl,by
  cases a with
  |true=>rw[LG rfl];exact g rfl _ e
  |false=>rw[LF Iq];exact e⟩
theorem orT{b c:TTD}{δ:DS}{M:MH}{Q:Bool->MH->Prop}(a d:Bool)(f:∀K:Bool->MH->Prop,K a M->b δ M K)(g:a=LD->∀K:Bool->MH->Prop,K d M->c δ M K)(e:Q (a||d) M):FD b c δ M Q:=
 f _ (by
  cases a with
  |true=>rw[LG rfl];exact e
  |false=>rw[LF Iq];exact g rfl _ e)
theorem rL{b c:TTD}{δ:DS}{M:MH}{Q:Bool->MH->Prop}(a d:Bool)(f:∀K:Bool->MH->Prop,K a M->b δ M K)(g:a=LC->∀K:Bool->MH->Prop,K d M->c δ M K)(e:Q (a&&d) M):Ca b c δ M Q:=
 f _ (by
  cases a with
  |true=>rw[LG rfl];exact g rfl _ e
  |false=>rw[LF Iq];exact e)
def Aj(r b:R2D)(c d tc:TD):TD:=fun δ M Q=>c δ M fun x e=>d δ e fun y f=>r x y f fun z a=>∃k,z=.bl k/\if k=LC then tc δ a fun u g=>b y u g Q else Q (.bl LD) a
theorem yG{X:Cx}{a b c:Expr}{o p tc:TD}{pos:Pos}{op f:CmpOp}{r s:R2D}(D:OpD X (IY op) r)(m:OpD X (IY f) s)(E:DE X a o)(F:DE X b p)(G:DE X c tc)
 (I:lastMarks [op,f] [b,c]=LD:=by with_unfolding_all rfl):DE X (.Compare a [op,f] [b,c] pos) (Aj r s o p tc):=
 bj (yH D m E F G I) fun σ H Q J=>by
  obtain⟨δ,M,R,n,K,q,g⟩:=J
  refine⟨δ,M,_,n,K,q,fun x L v H1 h N O P=>?_⟩
  refine⟨δ,L,_,n.mono h,O,P,fun y S u H2 i t T U=>?_⟩
  refine⟨x,y,S,_,N.mono i,t,T,U,fun z V w H3 j A B d=>?_⟩
  obtain⟨k,e,l⟩:=d
  subst e
  rw[Rep]at A
  refine⟨k,A,?_⟩
  cases k with
  |true=>
   rw[LG rfl]at l ⊢
   exact⟨δ,V,_,n.mono ((h.trans i).trans j),B,l,fun W Y w' H4 C Z a4 q4=>⟨y,W,Y,R,t.mono (j.trans C),Z,a4,q4,g.go (((h.trans i).trans j).trans C)⟩⟩
  |false=>
   rw[LF Iq]at l ⊢
   exact g _ _ _ _ ((h.trans i).trans j) (by rw[Rep]) B l
theorem bN{t u:TSD}{B:EndsD}{δ:DS}{M:MH}(W:DS->MH->Prop)(c:∀a b,W a b->u B a b)(d:(∀a b,W a b->u B a b)->t { B with nx:=u B } δ M):f6 t u B δ M:=d c
def Sub(b M:MH):Prop:=∀a o,b a=LA o->M a=LA o
def mQ(r:Addr)(b M:MH):Prop:=∀a o,a≠r->b a=LA o->M a=LA o
theorem Sub.refl{M:MH}:Sub M M:=fun _ _ h=>h
theorem Sub.trans{M c d:MH}(a:Sub M c)(b:Sub c d):Sub M d:=fun x o h=>b x o (a x o h)
theorem Sub.new{M b:MH}{p:Addr}{o:MO}(c:M p=LB)(s:Sub b M):Sub b (ay M p o):=fun a u h=>by rw[ak (fun e=>by subst e;rw[s _ _ h]at c;cases c)];exact s _ _ h
theorem mQ.refl{M:MH}{r:Addr}:mQ r M M:=fun _ _ _ h=>h
theorem mQ.new{M b:MH}{r p:Addr}{o:MO}(c:M p=LB)(s:mQ r b M):mQ r b (ay M p o):=fun a u ne h=>by rw[ak (fun e=>by subst e;rw[s _ _ ne h]at c;cases c)];exact s _ _ ne h
theorem mQ.same{M b:MH}{r:Addr}{o:MO}(s:mQ r b M):mQ r b (ay M r o):=fun a u ne h=>by rw[ak ne];exact s _ _ ne h
theorem Sub.Gf{M b:MH}{r:Addr}{o:MO}(s:mQ r b M):Sub (ay b r o) (ay M r o):=fun a u h=>by
 by_cases e:a=r
 ·subst e;rw[ai]at h ⊢;exact h
 ·rw[ak e]at h ⊢;exact s _ _ e h
inductive Ret(Q:DK)(d:D)(M:MH):Prop
 |mk (M':MH) (s:Sub M' M) (q:Q d M'):Ret Q d M
theorem rtn{Q:DK}{d:D}{M:MH}(q:Q d M):Ret Q d M:=⟨M,.refl,q⟩
abbrev SpD:=List D->MH->DK->Prop
def iE(K:H0)(sp:SpD):Sp:=fun vs H Q _=>∃a M R,aE K H a vs/\Abs K H M/\sp a M R/\Fin K H R Q
def Cal(P:IH)(w:J5)(K:H0)(mg:Str->Option HY)(base:Heap)(k:Nat)(x:Str)(sp:SpD):Prop:=
 ∃f fd ps,FnOk P w K mg base CX0 k f fd ps (iE K sp)/\mg x=LA (.ref f)/\PySem.W.keepIn K (.ref f)=LC/\Binds K fd ps []
theorem Cal.mono{P:IH}{w:J5}{K:H0}{mg:Str->Option HY}{base:Heap}{j k:Nat}{x:Str}{sp:SpD}(h:Cal P w K mg base j x sp)(l:j<=k):Cal P w K mg base k x sp:=let⟨f,fd,ps,F,r⟩:=h;⟨f,fd,ps,F.mono l,r⟩
section
variable{X:Cx}{k:Nat}{x:Str}{sp:SpD}{p pos:Pos}{e:Expr}{es:List Expr}{t:TAD}
def DR(sp:SpD)(t:TAD):TD:=fun δ M Q=>t δ M fun a b=>sp a b Q
theorem ao(C:Cal X.prog X.w X.K X.mg X.base k x sp)(g:Room k X.A)(h:DA X (e::es) t)(i:Gl X x:=by rfl)(b:(x==("__debug__":Str))=LD:=by decide)
 (j:Iz (e::es) X.env=(LD,eval e X.env)::Iz es X.env:=by rfl) (c:(JL pos (Iz es X.env)).any (·.1)=LD:=by rfl):DE X (.Call (.Name x p) (e::es) [] pos) (DR sp t):=by
 obtain⟨f,fd,ps,F,l,m,n⟩:=C
 refine bj (zS F g i l m n .nil FJ h b j c) fun σ H Q a=>?_
 obtain⟨δ,M,R,o,r,q,d⟩:=a
 refine⟨δ,M,_,o,r,q,fun s u vs H1 v y z B=>?_⟩
 show iE X.K sp (vs++[]) H1 Q E0
 rw[Jv]
 exact⟨s,u,R,y,z,B,d.go v⟩
end
def gw(N:List Str)(a:List D):DS:=a.map LA++IQ (N.length-a.length) LB
section
variable{P:IH}{w:J5}{K:H0}{mg:Str->Option HY}{base:Heap}
theorem fnD{x qual:Str}{st:Stmt}{f:Addr}{fd:L9}{N ps:List Str}{k:Nat}{sp:SpD}(F:Fun K x qual st f fd)(S:FnScope N ps (au st))(len:∀b M Q,sp b M Q->b.length=ps.length)
 (n:∀X:Cx,X.prog=P->True) (body:∀(cdv:HY) (A:Jd) (outer:List Env) (s:HZ) (H:Hp) (E:XK),Room k (A.deeper (envOfC qual (au st) s.heap.objs.size f cdv))->
  ∃t,DSs (jN CX0 P w K mg base N qual (au st) f cdv A outer s H E).nox (bg st) t/\∀b M Q,sp b M Q->t { nx:=fun _ j=>Ret Q .non j,rt:=Ret Q } (gw N b) M):FnOk P w K mg base CX0 (k+1) f fd ps (iE K sp):=by
 refine F.ok S (fun vs H Q E c=>by obtain⟨b,M,R,o,_,q,_⟩:=c;rw[<-o.length];exact len _ _ _ q) fun cdv A outer s H vs Q E C e=>?_
 obtain⟨b,M,R,o,a,q,l⟩:=e
 obtain⟨t,h,D⟩:=body cdv A outer s H E C
 refine⟨_,h,gw N b,M,qt o,a,{ nx:=fun _ j=>Ret R .non j,rt:=Ret R },⟨fun G j I y g J p m=>?_,fun d j v y g r p i=>by obtain⟨B,u,m⟩:=i;exact(l _ _ _ _ g r (p.sub u) m),fun _ _ _ _ _ _ _ z=>z,fun _ _ _ _ _ _ _ z=>z⟩,D b M R q⟩
 obtain⟨B,u,m⟩:=m
 exact l .non B .non y g (by rw[Rep]) (p.sub u) m
def Txt(K:H0)(mg:Str->Option HY)(x:Str)(st:Stmt):Prop:=∃f fd,Fun K x x st f fd/\mg x=LA (.ref f)
theorem Txt.mk{h:Heap}{x:Str}{st:Stmt}{f:Addr}{oc:HY}{od an:Option Addr}{osl:Array (Option HY)}{kV b d cdv ct:HY}(X:K.In h)(G:h.Ns KI mg)(a:PySem.W.nsIn K KI x=LA (LA (.ref f))) (l:K.lookup f=LA ⟨oc,od,.func (JN x x (cz st) (bg st) (au st) .none kV b d an cdv ct),osl⟩) (c:PySem.W.codeIn K cdv x=LC) (k:PySem.W.keepIn K (.ref f)=LC):Txt K mg x st:=⟨f,_,CI l c k,PySem.W.mg_of X G a⟩
theorem zQ{x:Str}{st:Stmt}{N ps:List Str}{k:Nat}{sp:SpD}(T:Txt K mg x st)(S:FnScope N ps (au st))
 (c:∀(kV b d:HY) (an:Option Addr) (cdv ct:HY) (us:List HY),us.length=ps.length->bindArgs (JN x x (cz st) (bg st) (au st) .none kV b d an cdv ct) ⟨us,[]⟩=pure (ps.zip us))
 (len:∀a M Q,sp a M Q->a.length=ps.length)
 (body:∀(f:Addr) (cdv:HY) (A:Jd) (outer:List Env) (s:HZ) (H:Hp) (E:XK),Room k (A.deeper (envOfC x (au st) s.heap.objs.size f cdv))->
  ∃t,DSs (jN CX0 P w K mg base N x (au st) f cdv A outer s H E).nox (bg st) t/\∀a M Q,sp a M Q->t { nx:=fun _ e=>Ret Q .non e,rt:=Ret Q } (gw N a) M):Cal P w K mg base (k+1) x sp:=by
 obtain⟨f,fd,F,g⟩:=T
 exact⟨f,fd,ps,fnD F S len (fun _ _=>trivial) (body f),g,F.kp,F.binds c⟩
end
theorem oD:Ju "abs"=LA (.builtin "abs"):=by decide +kernel
theorem rJ:Ju "max"=LA (.builtin "max"):=by decide +kernel
theorem rH:Ju "min"=LA (.builtin "min"):=by decide +kernel
theorem eV:Ju "len"=LA (.builtin "len"):=by decide +kernel
theorem Eu:Ju "all"=LA (.builtin "all"):=by decide +kernel
theorem p7:Ju "tuple"=LA (.type "tuple"):=by decide +kernel
theorem tY:Ju "list"=LA (.type "list"):=by decide +kernel
theorem oZ:Ju "int"=LA (.type "int"):=by decide +kernel
section
variable{P:IH}{w:J5}{K:H0}{mg:Str->Option HY}
theorem Hq{x:Str}{st:Stmt}{N:List Str}{p:Str}{k:Nat}{sp:SpD}{fa:Addr}(T:Txt K mg x st)(c:mg x=LA (.ref fa))(S:FnScope N [p] (au st))
 (g:∀(kV a d:HY) (an:Option Addr) (cdv ct:HY) (us:List HY),us.length=[p].length->bindArgs (JN x x (cz st) (bg st) (au st) .none kV a d an cdv ct) ⟨us,[]⟩=pure ([p].zip us))
 (len:∀b M Q,sp b M Q->b.length=[p].length)
 (body:∀(base:Heap) (f:Addr) (cdv:HY) (A:Jd) (outer:List Env) (s:HZ) (H:Hp) (E:XK),Room k (A.deeper (envOfC x (au st) s.heap.objs.size f cdv))->
  ∃t,DSs (jN CX0 P w K mg base N x (au st) f cdv A outer s H E).nox (bg st) t/\∀b M Q,sp b M Q->t { nx:=fun _ h=>Ret Q .non h,rt:=Ret Q } (gw N b) M) :
 ∃fd,(∀(s:HZ) (u:HY),BindsTo s fd ⟨[u],[]⟩ [(p,u)])/\∀base:Heap,FnOk P w K mg base CX0 (k+1) fa fd [p] (iE K sp):=by
 obtain⟨f,fd,F,i⟩:=T
 have e:=c.symm.trans i
 cases e
 refine⟨fd,fun s u=>?_,fun base=>fnD F S len (fun _ _=>trivial) (body base _)⟩
 obtain⟨oc,od,kV,a,d,an,cdv,ct,osl,rfl,l,j⟩:=F.ex
 exact .of_eq (g kV a d an cdv ct [u] rfl)
end
theorem yc{l:PySem.W.OpenLaw}{k:Nat}{q:IH}{i:List Str}{t:(Str->Option HY)->Heap->Prop}{p:J5->Heap->Prop}{d:DefRec}{K:IS->H0}{sp:SpD}{x:Str}
 (A:l.most=LA 63) (j:d.params.defaults=[]) (B:Room k callerA)
 (C:∀(w:J5) (h:Heap),p w h->(K w.params).In h)
 (F:∀(w:J5) (mg:Str->Option HY) (fa:Addr) (h:Heap),(K w.params).In h->h.Ns KI mg->mg d.name=LA (.ref fa)->
  ∃fd:L9,(∀(s:HZ) (u:HY),BindsTo s fd ⟨[u],[]⟩ [(x,u)])/\
   ∀base:Heap,FnOk l.prog w (K w.params) mg base CX0 k fa fd [x] (iE (K w.params) sp))
 (m:∀(ns:List Int) (M:MH),ns.length<=63->sp [.rol (ns.map D.int)] M (fun d _=>d=.bl LC)) :
 PySem.W.WalkO q i t p l.row.toRowW d [] (fun f vs=>PySem.call f vs):=by
 refine zU (x:=x) (n:=63) (CX:=fun _=>CX0) (sp:=fun w=>iE (K w.params) sp) A ⋯ j B C (fun w mg fa h a b c=>?_) (fun w H a ns E G I=>?_) fun _ _ _ _ _ z=>z
 ·obtain⟨fd,J,L⟩:=F w mg fa h a b c
  exact⟨fd,J,fun base _ _=>L base⟩
 ·have hF:SqF (K w.params) H a (ns.map V.int):=by
   rcases I with(z|z)|z
   ·rcases G a with y|⟨o,xs,y⟩
    ·rw[z]at y;cases y
    ·rw[z]at y;cases y
   ·exact .inl z
   ·exact .inr z
  refine⟨[.rol (ns.map D.int)],fun _=>LB,_,.cons (by rw[Rep];exact⟨a,_,rfl,hF,jS ns⟩) .nil,(fun _ _ e=>nomatch e:Abs (K w.params) H fun _=>LB),m ns _ E,fun d N v O g r P e=>?_⟩
  subst e
  rw[Rep]at r
  exact r
end SD
namespace Ma
open PySem PySem.Spec PyProof.Rows L2 SD
abbrev fr(q:Rat):D:=.tup [.int q.num,.int (q.den:Int)]
theorem den_pos(q:Rat):(0:Int)<(q.den:Int):=by have:=q.den_pos;omega
def Bq(n:Nat)(q:Rat):Prop:=Bd n q.num/\Bd n (q.den:Int)
theorem Bq.mono{m n:Nat}{q:Rat}(h:Bq m q)(l:m<=n):Bq n q:=⟨h.1.mono l,h.2.mono l⟩
theorem qi{t b:Int}(a:0<b):t.fdiv b=t/b:=J8 _ ()
theorem fdiv_neg{t b:Int}(hd:b ∣ t)(d:0<b):t.fdiv (-b)=-(t/b):=by
 obtain⟨c,rfl⟩:=hd;have a:b≠0:=()
 rw[Int.mul_ediv_cancel_left _ a];have:b*c=-b * -c:=by rw[Int.neg_mul_neg]
 rw[this];exact Int.mul_fdiv_cancel_left _ ()
theorem uW(t b:Int):((KA t.natAbs b.natAbs:Nat):Int) ∣ t:=Int.ofNat_dvd_left.mpr (Nat.gcd_dvd_left _ _)
theorem ur(t b:Int):((KA t.natAbs b.natAbs:Nat):Int) ∣ b:=Int.ofNat_dvd_left.mpr (Nat.gcd_dvd_right _ _)
theorem n9(t b:Int):Int.gcd b t=KA t.natAbs b.natAbs:=by unfold Int.gcd;exact Nat.gcd_comm _ _
theorem e9{t b:Int}(a:b≠0):0<KA t.natAbs b.natAbs:=Nat.gcd_pos_of_pos_right _ ()
theorem tX{t b:Int}(a:0<b):t.fdiv (KA t.natAbs b.natAbs:Nat)=(Rat.divInt t b).num/\b.fdiv (KA t.natAbs b.natAbs:Nat)=((Rat.divInt t b).den:Int):=by
 have c:=e9 (t:=t) (b:=b) ();rw[qi (),qi (),Rat.num_divInt,Rat.den_divInt,LF (),IX a,Int.one_mul,n9];refine⟨rfl,?_⟩;rw[Int.natCast_ediv]
 congr 1
 omega
theorem uP{t b:Int}(a:b<0):t.fdiv (-((KA t.natAbs b.natAbs:Nat):Int))=(Rat.divInt t b).num/\b.fdiv (-((KA t.natAbs b.natAbs:Nat):Int))=((Rat.divInt t b).den:Int):=by
 have c:=e9 (t:=t) (b:=b) ();rw[fdiv_neg (uW t b) (),fdiv_neg (ur t b) (),Rat.num_divInt,Rat.den_divInt,LF (),II a,n9];constructor
 ·rw[show(-1:Int)*t=-t from by omega,Int.neg_ediv_of_dvd (uW t b)]
 ·rw[Int.natCast_ediv,show((b.natAbs:Nat):Int)=-b from by omega,Int.neg_ediv_of_dvd (ur t b)]
theorem sJ{t b:Int}(a:b≠0):(Rat.divInt t b).num.natAbs<=t.natAbs/\(Rat.divInt t b).den<=b.natAbs:=by
 constructor
 ·rw[Rat.num_divInt];refine Jp (Int.natAbs_ediv_le_natAbs _ _) ?_;rw[Int.natAbs_mul];rcases Ig b 0 with h|h|h
  ·rw[II h];simp
  ·exact absurd h a
  ·rw[IX h];simp
 ·rw[Rat.den_divInt,LF a];exact Nat.div_le_self _ _
theorem Bq.divInt{n:Nat}{t b:Int}(a:b≠0)(c:Bd n t)(d:Bd n b):Bq n (Rat.divInt t b):=by obtain⟨e,f⟩:=sJ (t:=t) a;exact⟨Nat.lt_of_le_of_lt e c,Nat.lt_of_le_of_lt (by simpa using f) d⟩
theorem u7(x y:Nat):Int.fmod (x:Int) (y:Int)=((x%y:Nat):Int):=by rw[Int.fmod_eq_emod_of_nonneg _ ()];rfl
theorem tR(q r:Rat):J0 (.tuple [.int q.num,.int (q.den:Int)]) (.tuple [.int r.num,.int (r.den:Int)])=decide (q=r):=by
 simp only[J0,Jo,Bool.and_true];by_cases h:q=r
 ·subst h;simp
 ·rw[LH h];rw[Bool.eq_false_iff];intro z;rw[ID,beq_iff_eq,beq_iff_eq]at z;exact h (Rat.ext z.1 (by have:=z.2;omega))
theorem EW(q r:Rat):decide (q.num*(r.den:Int)<r.num*(q.den:Int))=decide (q<r):=by rw[LK,Rat.lt_iff]
abbrev spt(a b:Rat):D:=.tup [fr a,fr b]
theorem iV(a b c d:Rat):J0 (.tuple [.tuple [.int a.num,.int (a.den:Int)],.tuple [.int b.num,.int (b.den:Int)]]) (.tuple [.tuple [.int c.num,.int (c.den:Int)],.tuple [.int d.num,.int (d.den:Int)]])=decide (a=c/\b=d):=by rw[J0,Jo,Jo,Jo,tR,tR,Bool.and_true,KH]
theorem iF(q:Rat):(q.den:Int)≠0:=by have:=q.den_pos;omega
theorem sub_eq(q r:Rat):Rat.divInt (q.num*(r.den:Int)-r.num*(q.den:Int)) ((q.den:Int)*(r.den:Int))=q-r:=by rw[<-Rat.divInt_sub_divInt _ _ (iF q) (iF r),Rat.num_divInt_den,Rat.num_divInt_den]
theorem uQ(q r:Rat):(q.den:Int)*(r.den:Int)≠0:=Int.mul_ne_zero (iF q) (iF r)
theorem Bq.uI{n:Nat}{q r:Rat}(a:Bq n q)(b:Bq n r):Bd (2*n+1) (q.num*(r.den:Int)-r.num*(q.den:Int)):=((a.1.mul b.2).sub (b.1.mul a.2)).mono ()
def sgn(z:Rat):Int:=if 0<z then 1 else if z<0 then -1 else 0
def cr(a b c d x y:Rat):Rat:=(c-a)*(y-b)-(d-b)*(x-a)
abbrev wll(a b c d:Rat):D:=.tup [spt a b,spt c d]
def ah(a b c d:Rat):Prop:=a<c\/a=c/\b<d
instance(a b c d:Rat):Decidable (ah a b c d):=inferInstanceAs (Decidable (_\/_))
theorem qW(z:Rat):sgn z=0↔z=0:=by
 unfold sgn;split
 ·grind
 ·split<;>grind
theorem pos_int{i:Int}(h:0<i):(0:Rat)<(i:Rat):=by rw[Rat.lt_iff];simpa using h
theorem pick{xs:List Int}{v:Int}(b:0<=v)(c:v<xs.length){P:Int->Prop}(h:∀m∈xs,P m):∃m,atI (xs.map D.int) v=LA (.int m)/\P m:=by
 obtain⟨j,rfl⟩:∃j:Nat,v=(j:Int):=⟨v.toNat,()⟩;have a:j<xs.length:=()
 exact⟨xs[j],bZ (by simp[a]),h _ (Jn a)⟩
end Ma
namespace SD
open PySem PySem.Spec PyProof.Rows L2
def fo(names:List (Str×Kk))(env:Env):List (Str×Addr):=(names.filter fun y=>y.2==.free).reverse.map fun y=>(y.1,(env.cells.lookup y.1).getD 0)
theorem rB{scope:Kv}{env:Env}(h:∀y∈scope.names,y.2=.free->∃c,env.cells.lookup y.1=LA c):closureFor scope env=pure (fo scope.names env):=by
 have key:∀(names:List (Str×Kk)) (b:List (Str×Addr)),(∀y∈names,y.2=.free->∃c,env.cells.lookup y.1=LA c)->
  (forIn names b (fun(x:Str×Kk) (r:List (Str×Addr))=>if(x.2==Kq)=LC then do let a <-cellOf env x.1;pure (Kh ((x.1,a)::r))else pure (Kh r)):Sem (List (Str×Addr)))=pure (fo names env++b):=by
  intro names
  induction names with
  |nil=>intro b _;rfl
  |cons y l g=>
   intro b e
   obtain⟨n,k⟩:=y
   rw[List.forIn_cons]
   by_cases d:(k==Kq)=LC
   ·obtain⟨c,i⟩:=e (n,k) (Js ..) (by simpa using d)
    have e1:cellOf env n=pure c:=by unfold cellOf;rw[i]
    dsimp only
    rw[LG d,e1]
    simp only[pure_bind]
    rw[g _ fun y f=>e y (Jb _ f)]
    unfold fo
    rw[List.filter_cons_of_pos (by simpa using d),List.reverse_cons,IK,KN]
    simp[i]
   ·dsimp only
    rw[LF d]
    simp only[pure_bind]
    rw[g _ fun y f=>e y (Jb _ f)]
    unfold fo
    rw[List.filter_cons_of_neg (by simpa using d)]
 have:=key scope.names [] h;rw[Jv]at this;unfold closureFor;exact Eq.trans (congrArg (fun t:Sem (List (Str×Addr))=>t >>= fun j=>pure j) this) rfl
theorem pT{env:Env}{y:Str}{c:Addr}:∀{names:List (Str×Kk)},(∀z∈names,z.2=.free->∃c,env.cells.lookup z.1=LA c)->(fo names env).lookup y=LA c->env.cells.lookup y=LA c:=by intro names h e;have b:=Ja e;unfold fo at b;obtain⟨z,a,e2⟩:=J1.mp b;rw[List.mem_reverse,IJ]at a;obtain⟨f,d⟩:=h z a.1 (by simpa using a.2);rw[d]at e2;cases e2;exact d
theorem rp{env:Env}{y:Str}{names:List (Str×Kk)}(a:(y,Kq)∈names):∃c,(fo names env).lookup y=LA c:=by
 cases e:(fo names env).lookup y with
 |some c=>exact⟨c,rfl⟩
 |none=>
  have:=List.lookup_eq_none_iff.mp e (y,(env.cells.lookup y).getD 0) (J1.mpr ⟨(y,.free),List.mem_reverse.mpr (IJ.mpr ⟨a,rfl⟩),rfl⟩)
  simp at this
theorem gD{env:Env}(d:env.scope.kind=.function):∀{names:List (Str×Kk)} {y:Str} {k:Kk},
 (names.map fun(n,k)=>if(k==Kq&&env.scope.kind==.function&&env.kindOf n==LA .cell)then(n,NameKind.cell)else(n,k)).lookup y=LA k->
  names.lookup y=LA k\/(k=.cell/\names.lookup y=LA .free)
 |[],_,_,h=>by simp at h
 |(n,q)::r,y,k,h=>by
  have e:=@gD env d r y k
  rw[Ih]at h
  dsimp only at h
  by_cases b:(y==n)=LC
  ·by_cases c:(q==Kq&&env.scope.kind==.function&&env.kindOf n==LA .cell)=LC
   ·rw[LG c,Jz,b]at h
    have f:q=.free:=by
     rw[ID,ID]at c
     simpa using c.1.1
    cases h
    right
    exact⟨rfl,by rw[Jz,b,f]⟩
   ·rw[LF c,Jz,b]at h
    left
    rw[Jz,b];exact h
  ·have a:(y==n)=LD:=by simpa using b
   have g:(r.map fun(n,k)=>if(k==Kq&&env.scope.kind==.function&&env.kindOf n==LA .cell)then(n,NameKind.cell)else(n,k)).lookup y=LA k:=by
    split at h
    ·rw[Jz,a]at h;exact h
    ·rw[Jz,a]at h;exact h
   rw[Jz,a]
   exact e g
theorem lX{X:Cx}{tg a:Expr}{c b:TI}(h:PI X tg a c)(k:∀σ H R,b σ H R->c σ H R):PI X tg a b:=fun pins s σ H R I q=>h pins s σ H R I (k _ _ _ q)
def Hn(K:H0)(b:TE):TI:=fun σ H R=>b σ H fun x H1=>∃a,x=.ref a/\(((∃xs,SqL K H1 a xs)/\R (Itl K a) H1)\/((∃xs,SqT K H1 a xs)/\R (Itt K a) H1))
theorem EK{X:Cx}{tg l:Expr}{j:TE}(k:PE X l j):PI X tg l (Hn X.K j):=by
 intro pins s σ H R I h;refine thn (k pins s σ H _ I h) fun v c d=>?_;obtain⟨x,H1,f,m,n⟩:=d;obtain⟨a,e,z⟩:=n;subst e;cases m
 have fp:∀b∈[c.heap.objs.size],cB X pins H1 b:=fun b r=>by
  obtain rfl:b=c.heap.objs.size:=by simpa using r
  exact f.om (Ic _) (f.hok.fresh (Ic _))
 rcases z with⟨⟨xs,i⟩,q⟩|⟨⟨xs,i⟩,q⟩
 ·obtain⟨g,t,p,u⟩:=f.list i;exact wpAny_pyIter_list p.isList ⟨_,[c.heap.objs.size],_,_,H1,rfl,f.kept (t':=c.toks) fun b o e=>Ib _ e,vK a _,⟨_,Ik _ rfl,rfl,rfl⟩,fp,q⟩
 ·obtain⟨g,t,p,u⟩:=f.tuple i;exact wpAny_pyIter_tuple (show c.heap.IsTuple a g.toArray from p) ⟨_,[c.heap.objs.size],_,_,H1,rfl,f.kept (t':=c.toks) fun b o e=>Ib _ e,tQ a _,⟨_,Ik _ rfl,rfl,rfl⟩,fp,q⟩
structure ItD where
 n:Nat
 item:Nat->Option D
 C:MH->Prop
abbrev TID:=DS->MH->(ItD->MH->Prop)->Prop
structure ItOk(K:H0)(H1:Hp)(I:ItD)(J:It):Prop where
 stop:∀H2 M2,Grow K H1 H2->Abs K H2 M2->I.C M2->J.stop I.n H2
 go:∀i H2 M2,i<I.n->Grow K H1 H2->Abs K H2 M2->I.C M2->J.go i H2
 yld:∀i H2 M2 v H3,i<I.n->Grow K H1 H2->Abs K H2 M2->I.C M2->J.yld i H2 v H3->Grow K H2 H3/\Abs K H3 M2/\∃d,I.item i=LA d/\Rep K H3 d v
def mL(K:H0)(t:TID):TI:=fun σ H R=>∃δ M b,Slots K H δ σ/\Abs K H M/\t δ M b/\∀I c a J,Grow K H a->Abs K a c->b I c->ItOk K a I J->R J a
def DI(X:Cx)(tg a:Expr)(t:TID):Prop:=PI X tg a (mL X.K t)
def DL(M:MH):D->List D->Prop
 |.tup ds,es=>es=ds
 |.rol ds,es=>es=ds
 |.ref a,es=>M a=LA (.lst es)
 |_,_=>False
inductive Sq1(d:D)(M:MH)(R:ItD->MH->Prop):Prop
 |mk (ds:List D) (h:DL M d ds) (q:R ⟨ds.length,fun i=>ds[i]?,fun M=>DL M d ds⟩ M):Sq1 d M R
def He(a:TD):TID:=fun δ M R=>a δ M fun d b=>Sq1 d b R
section
variable{X:Cx}{tg:Expr}
theorem aV{l:Expr}{E:TD}(G:DE X l E):DI X tg l (He E):=
 lX (EK G) fun σ H R I=>by
  obtain⟨δ,M,O,J,K,q,o⟩:=I
  exact⟨δ,M,_,J,K,q,fun d y v H1 A s z L=>by
   obtain⟨e,sq,B⟩:=L
   cases d with
   |tup C=>
    obtain rfl:e=C:=sq
    rw[Rep]at s
    obtain⟨a,xs,rfl,j,m⟩:=s
    refine⟨a,rfl,.inr ⟨⟨xs,j⟩,o _ y H1 _ A z B ⟨fun n _ c _ _=>⟨xs,c.t _ _ j,by rw[m.length];exact Ic _⟩,fun i n _ b c _ _=>?_,?_⟩⟩⟩
    ·have g:i<xs.length:=by rw[<-m.length];exact b
     exact⟨xs,xs[i],c.t _ _ j,by simp[g]⟩
    ·rintro i n p v F b c h _ ⟨rfl,k⟩
     have b:i<e.length:=b
     obtain⟨x,e1,e2⟩:=(m.mono c).get (show e[i]?=LA e[i] by simp[b])
     have:=k xs (c.t _ _ j)
     rw[e1]at this;cases this
     exact⟨.refl,h,_,by simp[b],e2⟩
   |rol C=>
    obtain rfl:e=C:=sq
    rw[Rep]at s
    obtain⟨a,xs,rfl,j,m⟩:=s
    refine⟨a,rfl,.inl ⟨⟨xs,j.sql⟩,o _ y H1 _ A z B ⟨fun n _ c _ _=>⟨xs,(c.f _ _ j).sql,by rw[m.length];exact Ic _⟩,fun i n _ b c _ _=>?_,?_⟩⟩⟩
    ·have g:i<xs.length:=by rw[<-m.length];exact b
     exact⟨xs,xs[i],(c.f _ _ j).sql,by simp[g]⟩
    ·rintro i n p v F b c h _ ⟨rfl,k⟩
     have b:i<e.length:=b
     obtain⟨x,e1,e2⟩:=(m.mono c).get (show e[i]?=LA e[i] by simp[b])
     have:=k xs (c.f _ _ j).sql
     rw[e1]at this;cases this
     exact⟨.refl,h,_,by simp[b],e2⟩
   |ref a=>
    rw[Rep]at s;subst s
    obtain⟨xs,N,m⟩:=z _ _ (show y a=LA (.lst e)from sq)
    refine⟨a,rfl,.inl ⟨⟨xs,SqL.of N⟩,o _ y H1 _ A z B ⟨fun n p c h u=>?_,fun i n p b c h u=>?_,?_⟩⟩⟩
    ·obtain⟨r,k,w⟩:=h _ _ (show p a=LA (.lst e)from u)
     exact⟨r,SqL.of k,by rw[w.length];exact Ic _⟩
    ·obtain⟨r,k,w⟩:=h _ _ (show p a=LA (.lst e)from u)
     have g:i<r.length:=by rw[<-w.length];exact b
     exact⟨r,r[i],SqL.of k,by simp[g]⟩
    ·rintro i n p v F b c h u ⟨rfl,k⟩
     have b:i<e.length:=b
     obtain⟨r,D,w⟩:=h _ _ (show p a=LA (.lst e)from u)
     obtain⟨x,e1,e2⟩:=w.get (show e[i]?=LA e[i] by simp[b])
     have:=k r (SqL.of D)
     rw[e1]at this;cases this
     exact⟨.refl,h,_,by simp[b],e2⟩
   |_=>exact sq.elim⟩
inductive ForD(g:TGD)(tb:TSD)(B:EndsD)(I:ItD)(δ0:DS)(M0:MH):Prop
 |mk (W:Nat->DS->MH->Prop) (w0:W 0 δ0 M0) (hC:∀i δ M,i<=I.n->W i δ M->I.C M) (turn:∀i d δ M,i<I.n->I.item i=LA d->W i δ M->g d δ M fun δ2 M2=>tb { B with nx:=W (i+1),ct:=W (i+1),bk:=B.nx } δ2 M2) (done:∀δ M,W I.n δ M->B.nx δ M):ForD g tb B I δ0 M0
def Fc(a:TID)(g:TGD)(b:TSD):TSD:=fun B δ M=>a δ M fun I c=>ForD g b B I δ c
theorem bX{b:Expr}{body:List Stmt}{R:TID}{g:TGD}{S:TSD}{pos:Pos}(Y:PassesOwn (IC X.prog X.w) X.A X.env X.xe)(Z:X.calm=LC)(p:DI X tg b R)(hG:DG X tg g)(hb:DSs X body S)
 (hf:∀x,IW b X.env x=pure x:=by intro _;rfl):DSt X (.For tg b body [] pos) (Fc R g S):=
 cO (yn Y Z p hG hb hf) fun E σ H ⟨δ,M,T,a,B,ok,q⟩=>⟨δ,M,_,T,a,q,fun I M1 H1 J D a1 z9 O=>by
  obtain⟨W,w0,hC,r,done⟩:=z9
  refine⟨fun i m σ h=>m=I.n-i/\i<=I.n/\Grow X.K H1 h/\∃δ M,Slots X.K h δ σ/\Abs X.K h M/\W i δ M,⟨I.n,by simp,JA _,.refl,δ,M1,T.mono D,a1,w0⟩,?_⟩
  rintro i m σ h ⟨rfl,p,s,j,l,U,F,t⟩
  by_cases e:i<I.n
  ·refine .inr ⟨O.go i h l e s F (hC _ _ _ p t),fun c o=>Grow X.K H1 o/\∃δ M,Slots X.K o δ c/\Abs X.K o M/\W (i+1) δ M,fun c o z=>⟨I.n-(i+1),(),rfl,e,z⟩,fun x o y=>?_⟩
   obtain⟨V,a3,d,ed,rd⟩:=O.yld i h l x o e s F (hC _ _ _ p t) y
   refine⟨d,j,l,_,rd,U.mono V,a3,r i d j l e ed t,fun P M4 a0 H4 g4 s4 a4 q4=>⟨P,M4,s4,a4,_,?_,q4⟩⟩
   have G:Grow X.K H1 H4:=(s.trans V).trans g4
   exact⟨fun f L c N k u C Q=>⟨G.trans k,f,L,u,C,Q⟩,fun d M v N k=>ok.rt d M v N ((D.trans G).trans k),fun f L c N k u C q'=>ok.nx _ _ _ _ ((D.trans G).trans k) u C q',fun f L c N k u C Q=>⟨G.trans k,f,L,u,C,Q⟩⟩
  ·obtain rfl:i=I.n:=()
   exact .inl ⟨O.stop h l s F (hC _ _ _ p t),ok.nx _ _ _ _ (D.trans s) U F (done j l t)⟩⟩
def F9(i:Nat)(te:TD)(f:Int->Int->Int):TSD:=fun B δ M=>∃k,δ[i]?=LA (LA (.int k))/\te δ M fun y a=>∃j,y=.int j/\B.nx (δ.set i (LA (.int (f k j)))) a
theorem ya(i:Nat){x:Str}{e:Expr}{te:TD}{op:Operator}{f:Int->Int->Int}{pos c:Pos}(l:X.N.Nodup)(m:PIp X op (ipI f))(n:DE X e te)(o:X.N[i]?=LA x:=by rfl)(p:Loc X.env.scope x:=by first|exact Or.inl rfl|exact Or.inr rfl)
 (s:X.fn x=LC\/X.env.scope.names.lookup x=LA .local:=by first|exact .inl rfl|exact .inr rfl|assumption):DSt X (.AugAssign (.Name x c) op e pos) (F9 i te f):=
 cO (CV l o p n m s) fun E σ H t=>by
  obtain⟨δ,M,d,a,B,ok,k,e1,q⟩:=t
  obtain⟨v,e2,r⟩:=d.at' i _ e1
  rw[Rep]at r;subst r
  refine⟨_,e2,δ,M,_,d,a,q,fun y C u H1 g h w b=>?_⟩
  obtain⟨j,z,A⟩:=b
  subst z
  rw[Rep]at h;subst h
  exact⟨k,j,rfl,rfl,ok.nx _ _ _ _ g ((d.mono g).set (by rw[Rep]) i) w A⟩
end
end SD
namespace Ma
open SD
theorem mN{a b:Int}(h:0<b):0<Rat.divInt a b↔0<a:=by
 have c:=Rat.divInt_nonneg_iff_of_pos_right (a:=-a) h;rw[<-Rat.neg_divInt]at c;have:¬(0<=-Rat.divInt a b)↔0<Rat.divInt a b:=by constructor<;>intro z<;>grind
 rw[<-this,c];omega
theorem rV{a b:Int}(h:0<b):Rat.divInt a b<0↔a<0:=by
 have c:=Rat.divInt_nonneg_iff_of_pos_right (a:=a) h;have:¬(0<=Rat.divInt a b)↔Rat.divInt a b<0:=by constructor<;>intro z<;>grind
 rw[<-this,c];omega
theorem AN{t b:Int}(h:0<b):sgn (Rat.divInt t b)=if 0<t then 1 else if t<0 then -1 else 0:=by unfold sgn;simp only[mN h,rV h]
theorem AS(a b c d x y:Rat) :
 Rat.divInt ((c.num*(a.den:Int)-a.num*(c.den:Int))*(y.num*(b.den:Int)-b.num*(y.den:Int))*((d.den:Int)*(b.den:Int)*((x.den:Int)*(a.den:Int))) -
  (d.num*(b.den:Int)-b.num*(d.den:Int))*(x.num*(a.den:Int)-a.num*(x.den:Int))*((c.den:Int)*(a.den:Int)*((y.den:Int)*(b.den:Int))))
  ((c.den:Int)*(a.den:Int)*((y.den:Int)*(b.den:Int))*((d.den:Int)*(b.den:Int)*((x.den:Int)*(a.den:Int))))=cr a b c d x y:=by
 rw[<-Rat.divInt_sub_divInt _ _ (Int.mul_ne_zero (uQ c a) (uQ y b)) (Int.mul_ne_zero (uQ d b) (uQ x a)),<-Rat.divInt_mul_divInt,<-Rat.divInt_mul_divInt,sub_eq,sub_eq,sub_eq,sub_eq]
 rfl
end Ma
namespace SD
open PySem PySem.Spec PyProof.Rows L2
abbrev NoE:HY->HZ->Prop:=fun _ _=>False
def cN(X:Cx)(xs:List Str)(js:List Nat):List Str:=xs++js.map fun j=>(X.N[j]?).getD ("":Str)
def cσ(os:L2.St)(js:List Nat)(σ:L2.St):L2.St:=os++js.map fun j=>(σ[j]?).join
theorem cP:∀(names:List (Str×Kk)) (n:Nat) (a:List (Str×Addr)),JX n names a=JX n names []++a
 |[],_,_=>rfl
 |(x,k)::r,n,a=>by
  unfold JX
  split
  ·rw[cP r (n+1) ((x,n)::a),cP r (n+1) [(x,n)],KN];rfl
  ·exact cP r n a
theorem jM:∀(names:List (Str×Kk)) (n:Nat) {y:Str} {c:Addr},(y,c)∈JX n names []->(y,NameKind.cell)∈names
 |[],_,_,_,h=>by cases h
 |(x,k)::r,n,y,c,h=>by
  unfold JX at h
  split at h
  ·rename_i hk
   rw[cP]at h
   rcases IL.mp h with h|h
   ·exact Jb _ (jM r _ h)
   ·have e:(y,c)=(x,n):=by simpa using h
    cases e
    obtain rfl:k=.cell:=by simpa using hk
    exact Js
  ·exact Jb _ (jM r _ h)
theorem qx{l r:List (Str×Addr)}{y:Str}{c:Addr}(h:(l++r).lookup y=LA c):l.lookup y=LA c\/(l.lookup y=LB/\r.lookup y=LA c):=by
 rw[List.lookup_append]at h;cases e:l.lookup y with
 |some a=>rw[e]at h;exact .inl h
 |none=>rw[e]at h;exact .inr ⟨rfl,h⟩
theorem wW{env:Env}{y:Str}{c:Addr}{names:List (Str×Kk)}(h:(fo names env).lookup y=LA c):(y,Kq)∈names:=by
 have b:=Ja h;unfold fo at b;obtain⟨z,a,e⟩:=J1.mp b;rw[List.mem_reverse,IJ]at a;obtain⟨n,k⟩:=z;obtain rfl:k=.free:=by simpa using a.2
 cases e;exact a.1
theorem fN{env:Env}{k:Kk}(c:k≠.free):∀{names:List (Str×Kk)} {x:Str},names.lookup x=LA k->
 (names.map fun(n,k)=>if(k==Kq&&env.scope.kind==.function&&env.kindOf n==LA .cell)then(n,NameKind.cell)else(n,k)).lookup x=LA k
 |[],_,h=>by simp at h
 |(n,q)::r,x,h=>by
  have d:=@fN env k c r x
  rw[Ih]
  dsimp only
  by_cases b:(x==n)=LC
  ·rw[Jz,b]at h
   cases h
   rw[LF (by intro z;rw[ID,ID]at z;exact c (by simpa using z.1.1)),Jz,b]
  ·have a:(x==n)=LD:=by simpa using b
   rw[Jz,a]at h
   split<;>(rw[Jz,a];exact d h)
theorem oM{M:Model}{A:Jd}{E:HY->HZ->Prop}{s:HZ}{scope:Kv}{globals:Addr}{b:List (Str×Addr)}{qual:Str}{env:Env}{Q:Env->HZ->Prop} (h:Q { scope:=scope,locals:=s.heap.objs.size,globals:=globals,cells:=JX (s.heap.objs.size+1) scope.names b,qual:=qual,func:=LB,code:=env.code,frame:=env.frame,builtins:=env.builtins } { s with heap:=pushCells (s.heap.push { cls:=.type "dict",data:=.dict #[] }) scope.names }) : Im M A (newFunctionEnv scope globals b [] qual LB .none (LA env)) Q E s:=by simp only[newFunctionEnv,Option.isSome_some,if_true];refine cc (wpAny_alloc ?_);refine cc (wpAny_layCells _ (fun name kind cells=>by cases a:kind==NameKind.cell<;>simp[a]) _ _ _ _ ?_);rw[show({ s with heap:=s.heap.push { cls:=.type "dict",data:=.dict #[] } }:HZ).heap.objs.size=s.heap.objs.size+1 from K1 ..];refine cc ?_;rw[List.forIn_nil];exact I0 (I0 h)
def kg(scope:Kv)(C:Addr)(env:Env):Env:=
 { scope:=relabel scope env,locals:=C,globals:=env.globals,cells:=JX (C+1) scope.names (fo scope.names env),qual:=env.qual,func:=LB,code:=env.code,frame:=env.frame,builtins:=env.builtins }
def cxC(X:Cx)(xs:List Str)(js:List Nat)(scope:Kv)(C:Addr)(s:HZ)(H:Hp)(fp:List Addr):Cx where
 prog:=X.prog
 w:=X.w
 K:=X.K
 mg:=X.mg
 base:=X.base
 A:=X.A
 N:=cN X xs js
 s₀:=s
 H₀:=H
 env:=kg scope C X.env
 outer:=X.stack
 stack:=X.stack
 ex:=fp
 fn:=fun y=>xs.contains y
 calm:=X.calm
 pn:=[]
 xe:=fun _ _=>False
structure CScope(X:Cx)(xs:List Str)(js:List Nat)(scope:Kv):Prop where
 kind:scope.kind=.function
 cell:∀y∈scope.names,y.2=.cell->y.1∈xs
 free':∀y∈scope.names,y.2=.free->y.1∉xs
 names:∀y∈scope.names,y.2=.local->scope.names.lookup y.1=LA .local
 own:∀x∈xs,scope.names.lookup x=LA .local\/scope.names.lookup x=LA .cell
 out:∀y∈scope.names,y.2=.free->X.env.kindOf y.1=LA .cell\/X.env.kindOf y.1=LA .free
 nd:(cN X xs js).Nodup
 js:∀j∈js,scope.names.lookup ((X.N[j]?).getD ("":Str))≠LA .local
section
variable{X:Cx}{xs:List Str}{js:List Nat}{scope:Kv}{pins:List (Addr×Obj)}{σ:L2.St}{H:Hp}{s:HZ}{fp:List Addr}
theorem CScope.cells(c:CScope X xs js scope)(ok:X.Ok):∀y∈scope.names,y.2=.free->∃a,X.env.cells.lookup y.1=LA a:=fun y b d=>ok.has _ (c.out y b d)
theorem CScope.A9(c:CScope X xs js scope)(ok:X.Ok):closureFor scope X.env=pure (fo scope.names X.env):=rB (c.cells ok)
theorem CScope.kindOf(c:CScope X xs js scope)(ok:X.Ok){C:Addr}{y:Str}{k:Kk}(e:(kg scope C X.env).kindOf y=LA k):scope.names.lookup y=LA k\/(k=.cell/\scope.names.lookup y=LA .free):=gD ok.kind e
theorem my(c:CScope X xs js scope)(I:Inv X pins σ H s)(G:∀b∈fp,cB X pins H b)(A:∀b∈fp,b<s.heap.objs.size){h':Heap}(Q:h'=pushCells (s.heap.push { cls:=.type "dict",data:=.dict #[] }) scope.names)(k:∀b o,s.heap.get? b=LA o->h'.get? b=LA o) :
 Inv (cxC X xs js scope s.heap.objs.size s H fp) [] (cσ (IQ xs.length LB) js σ) H { s with heap:=h' }:=by
 have ok:=I.ok
 have Z:h'.Ns s.heap.objs.size fun _=>LB:=by rw[Q];exact(Heap.Ns.new s.heap (.type "dict")).keeps (pushCells_keeps _ _)
 have t:CellsOk h' (s.heap.objs.size+1) (JX (s.heap.objs.size+1) scope.names []):=by
  have:=cellsFrom_ok scope.names (s.heap.push { cls:=.type "dict",data:=.dict #[] }) (s.heap.objs.size+1) [] ⟨fun _ _ B=>(nomatch B),List.Pairwise.nil⟩ (by rw[K1];exact Ic _)
  rw[K1]at this
  rw[Q];exact this
 have R:∀{y:Str} {a:Addr},(fo scope.names X.env).lookup y=LA a->X.env.cells.lookup y=LA a:=fun e=>pT (c.cells ok) e
 have D:∀{y:Str} {a:Addr},X.env.cells.lookup y=LA a->a<s.heap.objs.size:=fun e=>by obtain⟨v,z⟩:=I.cell _ _ e;exact z.lt
 have d:∀{y:Str} {a:Addr},(kg scope s.heap.objs.size X.env).cells.lookup y=LA a->((y,a)∈JX (s.heap.objs.size+1) scope.names []/\s.heap.objs.size<a)\/X.env.cells.lookup y=LA a:=fun{y a} e=>by
  have e:(JX (s.heap.objs.size+1) scope.names (fo scope.names X.env)).lookup y=LA a:=e
  rw[cP]at e
  rcases qx e with z|⟨_,z⟩
  ·exact .inl ⟨Ja z,(t.empty _ _ (Ja z)).2⟩
  ·exact .inr (R z)
 have free:∀{y:Str},(kg scope s.heap.objs.size X.env).kindOf y=LA .cell\/(kg scope s.heap.objs.size X.env).kindOf y=LA .free->scope.names.lookup y=LA .cell\/scope.names.lookup y=LA .free:=fun{y} e=>by
  rcases e with e|e
  ·rcases c.kindOf ok e with z|⟨_,z⟩
   ·exact .inl z
   ·exact .inr z
  ·rcases c.kindOf ok e with z|⟨z,_⟩
   ·exact .inr z
   ·cases z
 refine⟨⟨ok.mod,c.kind,ok.glob,ok.blt,Ic _,fun y z a f g=>?_,fun y K=>?_,fun y a h e=>?_,ok.hd,ok.frames,.inl rfl,fun b w=>⟨J6 (A b w),fun y a e=>?_⟩,
  I.bs,Jp ok.bsz I.sz,fun b o e w=>?_,fun b w=>?_,I.stack,I.uO⟩,rfl,I.bare,Un.kept k,?_,fun y a e=>?_,I.hok.fresh (Ic _),fun y a e=>?_,fun p hp=>absurd (show p∈([]:List (Addr×Obj))from hp) (by simp),I.hok.kept k,?_⟩
 ·rcases d f with⟨m1,l1⟩|S<;>rcases d g with⟨m2,l2⟩|T
  ·exact name_of_addr t.apart m1 m2
  ·exact absurd (D T) (Nat.not_lt.mpr (Nat.le_of_lt l1))
  ·exact absurd (D S) (Nat.not_lt.mpr (Nat.le_of_lt l2))
  ·exact ok.inj y z a S T
 ·show ∃c,(JX (s.heap.objs.size+1) scope.names (fo scope.names X.env)).lookup y=LA c
  rw[cP,List.lookup_append]
  rcases free K with z|z
  ·obtain⟨a,e⟩:=lU (n:=s.heap.objs.size+1) z
   exact⟨a,by rw[e];rfl⟩
  ·obtain⟨a,e⟩:=rp (env:=X.env) (Ja z)
   cases q:(JX (s.heap.objs.size+1) scope.names []).lookup y with
   |none=>exact⟨a,by rw[e];rfl⟩
   |some J=>exact⟨J,rfl⟩
 ·have hx:y∈xs:=by simpa[cxC]using h
  have e:(JX (s.heap.objs.size+1) scope.names (fo scope.names X.env)).lookup y=LA a:=e
  rw[cP]at e
  rcases qx e with z|⟨_,z⟩
  ·exact Nat.le_of_lt (t.empty _ _ (Ja z)).2
  ·exact absurd hx (c.free' _ (wW z) rfl)
 ·rcases d e with⟨_,l⟩|o
  ·exact Nat.ne_of_gt (Nat.lt_trans (A b w) l)
  ·exact(G b w).2.2.2.2.1 y a o
 ·rcases(G b w).2.2.2.1 with z|z
  ·exact ok.noex b o e z
  ·exact absurd (IM (IM (Iy e) ok.bsz) z) (Nat.lt_irrefl _)
 ·intro z
  rcases J3.mp (I.tU b z)with y|y
  ·exact(G b w).2.1 y
  ·exact(G b w).2.2.1 y
 ·refine⟨_,Z,fun i y v f g h3=>?_⟩
  have f:(xs++js.map fun j=>(X.N[j]?).getD ("":Str))[i]?=LA y:=f
  have g:(IQ xs.length (LB:Option V)++js.map fun j=>(σ[j]?).join)[i]?=LA (LA v):=g
  by_cases U:i<xs.length
  ·rw[Jk (by simpa using U),List.getElem?_replicate,LG U]at g
   cases g
  ·have x:y∉xs:=fun K=>by
    rw[Jf ()]at f
    have nd:=c.nd
    unfold cN at nd
    exact(List.nodup_append.mp nd).2.2 y K y (Il f) rfl
   rw[Jf ()]at f
   rw[Jf (by simp;omega)]at g
   rw[List.length_replicate]at g
   rw[Ie]at f g
   cases L:js[i-xs.length]? with
   |none=>rw[L]at f;cases f
   |some j=>
    rw[L]at f g
    have e1:(X.N[j]?).getD ("":Str)=y:=Option.some.inj f
    have e2:(σ[j]?).join=LA v:=Option.some.inj g
    have e3:σ[j]?=LA (LA v):=by
     cases q:σ[j]? with
     |none=>rw[q]at e2;cases e2
     |some o=>rw[q]at e2;exact congrArg LA e2
    have hj:j<X.N.length:=by rw[<-I.len];exact(Iu.mp e3).1
    have e4:X.N[j]?=LA y:=by
     rw[Ia hj]at e1 ⊢
     exact congrArg LA e1
    have nl:scope.names.lookup y≠LA .local:=by
     have:=c.js j (Il L)
     rw[e1]at this
     exact this
    have W:(kg scope s.heap.objs.size X.env).kindOf y=LA .cell\/(kg scope s.heap.objs.size X.env).kindOf y=LA .free:=by
     rcases h3 with z|z|z
     ·rcases c.kindOf (C:=s.heap.objs.size) ok z with q|⟨q,_⟩
      ·exact absurd q nl
      ·cases q
     ·exact .inl z
     ·exact .inr z
    have B:(y,Kq)∈scope.names:=by
     rcases free W with z|z
     ·exact absurd (c.cell _ (Ja z) rfl) x
     ·exact Ja z
    obtain⟨a,Y⟩:=rp (env:=X.env) B
    have M:(kg scope s.heap.objs.size X.env).cells.lookup y=LA a:=by
     show(JX (s.heap.objs.size+1) scope.names (fo scope.names X.env)).lookup y=LA a
     rw[cP,List.lookup_append]
     cases q:(JX (s.heap.objs.size+1) scope.names []).lookup y with
     |none=>rw[Y];rfl
     |some J=>exact absurd (c.cell _ (jM _ _ (Ja q)) rfl) x
    have E:Vis X.env.scope y:=by
     rcases c.out _ B rfl with z|z
     ·exact .inr (.inl z)
     ·exact .inr (.inr z)
    obtain⟨m,_,hl⟩:=I.loc
    obtain⟨u,r,l⟩:=hl j y v e4 e3 E
    refine⟨u,r,?_⟩
    rcases l with⟨z,_⟩|⟨_,J,O,o,P,hd⟩
    ·rcases c.out _ B rfl with q|q
     ·have F:X.env.kindOf y=LA .local:=z
      rw[q]at F;cases F
     ·have F:X.env.kindOf y=LA .local:=z
      rw[q]at F;cases F
    ·refine .inr ⟨W,J,?_,o,k _ _ P,hd⟩
     have:=R Y
     rw[O]at this
     cases this
     exact M
 ·rcases d e with⟨m,_⟩|o
  ·exact⟨_,(t.empty _ _ m).1⟩
  ·obtain⟨v,o,P,hd⟩:=I.cell y a o
   exact⟨v,o,k _ _ P,hd⟩
 ·rcases d e with⟨_,l⟩|o
  ·exact I.hok.fresh (Nat.le_of_lt l)
  ·exact I.freeC y a o
 ·show(cσ (IQ xs.length LB) js σ).length=(cN X xs js).length
  unfold cσ cN
  simp
end
def PTs(X:Cx)(a:List Expr)(t:TT):Prop:=∀(pins:List (Addr×Obj)) (s:HZ) (σ:L2.St) (H:Hp) (Q:Bool->Hp->Prop),Inv X pins σ H s->t σ H Q->
 Im (IC X.prog X.w) X.A (forIn a LC fun c r=>if r=LC then do let ok <-isTrue c X.env (eval c X.env);pure (Kh ok)else pure (Kh r)) (TP X pins σ Q) X.xe s
theorem zW{X:Cx}:PTs X [] (fun _ H Q=>Q LC H):=fun pins s σ H Q I q=>wpAny_tests_nil ⟨H,I,q⟩
theorem Bo{X:Cx}{c:Expr}{t:TT}(h:PT X c t):PTs X [c] t:=fun pins s σ H Q I q=>wpAny_tests_one (h pins s σ H Q I q)
theorem wD{prog:IH}{w:J5}{A:Jd}{R:Result->HZ->Prop}{s:HZ}{d a b:Expr}{f:List Expr}{scope:Kv}{pos:Pos}{it g:HY}{env:Env}(J:Nat->HZ->Prop)
 (step:∀n s,J n s->Im (IC prog w) A (pyNext it) (fun r j=>match r with
  |none=>R (.ok .next) j
  |some v=>Im (IC prog w) A (K5 a it v) (fun _ l=>Im (IC prog w) A (KW a env v) (fun _ o=>
   Im (IC prog w) A (forIn f LC fun c r=>if r=LC then do let ok <-isTrue c env (eval c env);pure (Kh ok)else pure (Kh r)) (fun ok k=>
    if ok=LC then Im (IC prog w) A (eval d env) (fun x p=>Im (IC prog w) A (call (.builtin "list.append") [g,x]) (fun _ q=>∃m,m<n/\J m q) NoE p) NoE k
    else ∃m,m<n/\J m k) NoE o) NoE l) NoE j) NoE s)
 (n:Nat) (h:J n s):Km (IC prog w) A (.compLoop (.ListComp d [⟨a,b,f,0⟩] scope pos) 0 it g env) R s:=by
 have i:∀{E:HY->HZ->Prop} e t,NoE e t->E e t:=fun _ _ z=>z.elim
 refine codeAny_loop rfl J (fun n s B=>?_) n h
 show Im _ _ (Sem.onRaise (compTurn (.ListComp d [⟨a,b,f,0⟩] scope pos) 0 it g env) (fun x=>do noteFrame x env;theTreesLotGoes x)) _ _ s
 refine wpAny_noted ?_
 rw[compTurn_list]
 refine cc (JM (cc (Iw (step n s B) (fun r j u=>?_) i)))
 cases r with
 |none=>exact I0 u
 |some v=>
  refine cc (Iw u (fun _ l C=>cc (Iw C (fun _ o D=>cc (Iw D (fun ok k y=>?_) i)) i)) i)
  cases ok with
  |false=>exact I0 ⟨rfl,y⟩
  |true=>exact cc (cc (Iw y (fun x p F=>cc (Iw F (fun _ q G=>I0 (I0 ⟨rfl,G⟩)) i)) i))
abbrev Own:=V->Hp->L2.St->Prop
structure TgOk(n:Nat)(g:TG)(own:Own):Prop where
 len:∀y H os,own y H os->os.length=n
 run:∀y H os0 tail os (Q:L2.St->Hp->Prop),os0.length=n->own y H os->Q (os++tail) H->g y (os0++tail) H Q
def BF(js:List Nat)(own:Own)(tc:TT)(te:TE)(σ:L2.St)(J:It)(H1:Hp)(Q:VK):Prop:=∀D,H1 D=LB->∃W:Nat->Nat->Hp->Prop,(∃m,W 0 m (upd H1 D (.lst [])))/\∀i m H,W i m H->
 (J.stop i H/\Q (.ref D) H)\/(J.go i H/\∀y c,J.yld i H y c->∃os,own y c os/\tc (cσ os js σ) c fun b d=>if b=LC then
  te (cσ os js σ) d fun v e=>∃xs,e D=LA (.lst xs)/\xs.length<Ir/\∃a,a<m/\W (i+1) a (upd e D (.lst (xs++[v])))else ∃a,a<m/\W (i+1) a d)
def sS(js:List Nat)(own:Own)(a:TI)(tc:TT)(te:TE):TE:=fun σ H Q=>a σ H fun J H1=>BF js own tc te σ J H1 Q
section
variable{X:Cx}{xs:List Str}{tg:Expr}{pos:Pos}{js:List Nat}{scope:Kv}{elt iter:Expr}{ifs:List Expr}{te:TE}{tc:TT}{g:TG}{own:Own}{wi:TI}{pins:List (Addr×Obj)}{σ:L2.St}{H:Hp}{s:HZ}{fp:List Addr}{it:Addr}{tn:Nat->Heap->Prop}{J:It}
theorem rj(c:CScope X xs js scope)(hc:X.calm=LC)(hG:TgOk xs.length g own)(hg:∀C s H fp,PG (cxC X xs js scope C s H fp) tg g)(ht:∀C s H fp,PTs (cxC X xs js scope C s H fp) ifs tc)(he:∀C s H fp,PE (cxC X xs js scope C s H fp) elt te)
 {R:HY->Addr->Result->HZ->Prop} {E:HY->HZ->Prop} {Q:VK}
 (I:Inv X pins σ H s) (T:Turn X.prog X.w X.K tg J fp it tn) (st:tn 0 s.heap) (hf:∀b∈fp,cB X pins H b) (wc:BF js own tc te σ J H Q)
 (hR:∀D C f F,Inv X pins σ f F->cB X pins f C->(∃m,F.heap.Ns C m)->Q (.ref D) f->R (.ref D) C (.ok .next) F) :
 Im (IC X.prog X.w) X.A (newList []) (fun d0 e0=>Im (IC X.prog X.w) X.A (newFunctionEnv scope X.env.globals (fo scope.names X.env) [] X.env.qual LB .none (LA X.env)) (fun N f0=>
  Km (IC X.prog X.w) X.A (.compStart (.ListComp elt [⟨tg,iter,ifs,0⟩] scope pos) 0 (.ref it) d0 { N with scope:=relabel scope X.env }) (R d0 N.locals) f0) E e0) E s:=by
 have g0:∀b∈fp,b<s.heap.objs.size:=fun b a=>let⟨o,e,_⟩:=T.obj 0 _ st b a;Iy e
 have hD:H s.heap.objs.size=LB:=I.hok.fresh (Ic _)
 refine Jc (oM ?_)
 generalize hh:s.heap.push { cls:=.type "list",dict:=LB,data:=.seq ([]:List HY).toArray }=h
 generalize h0:pushCells (({ s with heap:=h }:HZ).heap.push { cls:=.type "dict",data:=.dict #[] }) scope.names=j
 have k3:∀b o,s.heap.get? b=LA o->h.get? b=LA o:=fun b o e=>by rw[<-hh];exact Ib _ e
 have I3:Inv X pins σ (upd H s.heap.objs.size (.lst [])) { s with heap:=h }:=by
  refine I.laid (t':=s.toks) k3 (Ic _) ?_
  refine⟨JA _,[],0,.nil,?_⟩
  rw[<-hh]
  exact Ik _ rfl
 have k:∀b∈fp,cB X pins (upd H s.heap.objs.size (.lst [])) b:=fun b a=>⟨by rw[aT (J6 (g0 b a))];exact(hf b a).1,(hf b a).2⟩
 have s0:h.objs.size=s.heap.objs.size+1:=by rw[<-hh,K1]
 have i0:∀b∈fp,b<h.objs.size:=fun b a=>by rw[s0];exact Nat.lt_succ_of_lt (g0 b a)
 have k4:∀b o,h.get? b=LA o->j.get? b=LA o:=fun b o e=>by rw[<-h0];exact pushCells_keeps _ _ b o (Ib _ e)
 have I4:=my c I3 k i0 (h':=j) h0.symm k4
 obtain⟨W,⟨m0,w0⟩,k0⟩:=wc _ hD
 have st4:tn 0 j:=T.keep 0 _ _ st fun b a o e=>k4 b o (k3 b o e)
 generalize hX:cxC X xs js scope h.objs.size { s with heap:=h } (upd H s.heap.objs.size (.lst [])) fp=X' at I4
 have S:∀{pins':List (Addr×Obj)} {f:Hp} {G:L2.St} {F:HZ},Inv X' [] G f F->(∀b∈fp,f b=LB)->∀b∈fp,cB X' [] f b:=fun{pins' f G F} J' hn b a=>by
  subst hX
  obtain⟨a1,a2⟩:=J'.ok.exf b a
  exact⟨hn b a,a1,J'.ok.exfs b a,.inl a,a2,fun p hp=>absurd (show p∈([]:List (Addr×Obj))from hp) (by simp)⟩
 have O:Km (IC X.prog X.w) X.A (.compLoop (.ListComp elt [⟨tg,iter,ifs,0⟩] scope pos) 0 (.ref it) (.ref s.heap.objs.size) (kg scope h.objs.size X.env)) (R (.ref s.heap.objs.size) h.objs.size)
  { s with heap:=j }:=by
  refine wD (fun n F=>∃i os f,os.length=xs.length/\Inv X' [] (cσ os js σ) f F/\tn i F.heap/\(∀b∈fp,f b=LB)/\W i n f) ?_ m0 ⟨0,_,_,by simp,I4,st4,fun b a=>(k b a).1,w0⟩
  rintro n s5 ⟨i,os,H5,t0,I5,st5,l0,w5⟩
  rcases k0 i n H5 w5 with⟨stop,q⟩|⟨go,step⟩
  ·subst hX
   refine Iw (T.done (cxC X xs js scope h.objs.size { s with heap:=h } (upd H s.heap.objs.size (.lst [])) fp) rfl rfl rfl hc i [] s5 _ H5 NoE I5 (S (pins':=[]) I5 l0) st5 stop) (fun r s6 U=>?_) fun _ _ z=>z
   obtain⟨hr,I6⟩:=U
   subst hr
   refine hR _ _ H5 s6 (I3.xg I6.os I6.base I6.hok I6.bare fun b a=>⟨(k b a).2.2.2.1,(k b a).2.1,(k b a).2.2.2.2.1,(k b a).2.2.2.2.2⟩) (I3.om (Ic _) I6.free) (let⟨m,hm,_⟩:=I6.loc;⟨m,hm⟩) q
  ·subst hX
   refine Iw (T.item (cxC X xs js scope h.objs.size { s with heap:=h } (upd H s.heap.objs.size (.lst [])) fp) rfl rfl rfl hc i [] s5 _ H5 NoE I5 (S (pins':=[]) I5 l0) st5 go) (fun r s6 V=>?_) fun _ _ z=>z
   obtain⟨u,hr,h6⟩:=V
   subst hr
   refine Iw h6 (fun _ s7 Y=>?_) fun _ _ z=>z
   obtain⟨y,H7,I7,r7,y7,st7,u0⟩:=Y
   have v0:=I7.pinned (S (pins':=[]) I7 u0) (T.obj _ _ st7)
   obtain⟨L,n0,q8⟩:=step y H7 y7
   have l8:=hG.len _ _ _ n0
   refine Iw (hg _ _ _ _ _ s7 _ H7 y u (fun G f=>G=cσ L js σ/\f=H7) v0 r7 (hG.run y H7 os _ L _ t0 n0 ⟨rfl,rfl⟩)) (fun _ s8 Z=>?_) fun _ _ z=>z
   obtain⟨e1,H8,I8,e8,x0⟩:=Z
   subst e8 x0
   refine Iw (ht _ _ _ _ _ s8 _ _ _ I8 q8) (fun ok s9 a0=>?_) fun _ _ z=>z
   obtain⟨H9,I9,q9⟩:=a0
   have P:∀{M:Nat} {l:Hp} {t:HZ},Inv (cxC X xs js scope h.objs.size { s with heap:=h } (upd H s.heap.objs.size (.lst [])) fp) ([]++gH fp s7.heap) (cσ L js σ) l t->M<n->W (i+1) M l->
    ∃m,m<n/\∃i os f,os.length=xs.length/\Inv (cxC X xs js scope h.objs.size { s with heap:=h } (upd H s.heap.objs.size (.lst [])) fp) [] (cσ os js σ) f t/\tn i t.heap/\(∀b∈fp,f b=LB)/\W i m f:=fun{M l t} x B y0=>by
    refine⟨M,B,i+1,L,l,l8,x.eB,T.keep _ _ _ st7 fun b a o e=>(x.pin (b,o) (IA _ (IA _ (bP a e)))).1,fun b a=>?_,y0⟩
    obtain⟨o',e,d⟩:=T.obj _ _ st7 b a
    exact(x.pin (b,o') (IA _ (IA _ (bP a e)))).2.1
   cases ok with
   |false=>
    rw[LF Iq]at q9 ⊢
    obtain⟨M,B,w9⟩:=q9
    exact P I9 B w9
   |true=>
    rw[LG rfl]at q9 ⊢
    refine Iw (he _ _ _ _ _ s9 _ _ _ I9 q9) (fun v t b0=>?_) fun _ _ z=>z
    obtain⟨vv,l,x,z0,ys,o0,r0,b1⟩:=b0
    refine Iw (jJ (X:=(cxC X xs js scope h.objs.size { s with heap:=h } (upd H s.heap.objs.size (.lst [])) fp)) _ t _ l (.ref s.heap.objs.size) [vv] (.ref s.heap.objs.size) [v] (fun _ f=>∃M,M<n/\W (i+1) M f) x rfl (.cons z0 .nil) ⟨_,ys,vv,rfl,rfl,o0,r0,b1⟩) (fun _ f1 c0=>?_) fun _ _ z=>z
    obtain⟨_,g1,c1,_,M,B,d1⟩:=c0
    exact P c1 B d1
 exact codeAny_compStart_list O (T.self X.A 0 _ _ _ st4 O)
theorem As(c:CScope X xs js scope)(k:X.calm=LC)(l:PI X tg iter wi)(n:TgOk xs.length g own)(p:∀C s H fp,PG (cxC X xs js scope C s H fp) tg g)(r:∀C s H fp,PTs (cxC X xs js scope C s H fp) ifs tc)(t:∀C s H fp,PE (cxC X xs js scope C s H fp) elt te)(u:∀x,IW iter X.env x=pure x:=by intro _;rfl) : PE X (.ListComp elt [⟨tg,iter,ifs,0⟩] scope pos) (sS js own wi tc te):=by intro pins s σ H Q I h;rw[eval_ListComp];refine wpAny_comprehension_free (use:=LB) rfl u (c.A9 I.ok) c.kind c.names (thn (l pins s σ H _ I h) fun v M y=>thn y fun z N a=>?_);obtain⟨it,fp,tn,J,O,e,B,T,st,E,w⟩:=a;subst e;refine rj (R:=fun i C=>compPost (IC X.prog X.w) X.A X.xe LB (EP X pins σ Q) i C) c k n p r t B T st E w fun D C F G K f d q=>?_;obtain⟨m,L⟩:=d;exact⟨m,L,fun P j=>⟨.ref D,F,K.turned (t':=G.toks) (fun b o ne e=>j.extBut b o ne e) f.1 f.2.1 f.2.2.2.1 f.2.2.2.2.1 f.2.2.2.2.2,rfl,q⟩⟩
theorem zY{i:Nat}{y:Str}{l j:Pos}(c:CScope X xs js scope)(F:X.calm=LC)(G:X.N.Nodup)(K:PI X tg iter wi)(L:TgOk xs.length g own)(M:∀C s H fp,PG (cxC X xs js scope C s H fp) tg g)(O:∀C s H fp,PTs (cxC X xs js scope C s H fp) ifs tc)(P:∀C s H fp,PE (cxC X xs js scope C s H fp) elt te)(S:X.N[i]?=LA y)(E:X.env.scope.names.lookup y=LA .local)
 (p:Ks (.ListComp elt [⟨tg,iter,ifs,0⟩] scope pos) (LA (.Name y l)) j.line X.env=pure LC) (U:∀x,IW iter X.env x=pure x:=by intro _;rfl) :
 PS X (.Assign [.Name y l] (.ListComp elt [⟨tg,iter,ifs,0⟩] scope pos) j) (zZ (sS js own wi tc te) (fV i)):=by
 intro pins s σ H B I h
 rw[exec_Assign_Name_used _ _ _ _ p]
 refine cc (JM (cc ?_))
 show Im _ X.A (do let _ <-comprehension (.ListComp elt [⟨tg,iter,ifs,0⟩] scope pos) scope X.env _ (newList []) LD (eval iter X.env) (LA (KW (.Name y l) X.env))) _ _ s
 refine cc (Iw (wpAny_comprehension_free (use:=LA (KW (.Name y l) X.env)) (Q:=fun _ n=>SP X pins B .next n) rfl U (c.A9 I.ok) c.kind c.names
  (thn (K pins s σ H _ I h) fun v s1 V=>thn V fun W s2 z=>?_)) (fun _ n Y=>I0 (I0 Y)) fun _ _ e=>e)
 obtain⟨it,fp,tn,J,H2,e,Z,T,st,f2,w⟩:=z
 subst e
 refine rj (R:=fun r C=>compPost (IC X.prog X.w) X.A X.xe (LA (KW (.Name y l) X.env)) (fun _ n=>SP X pins B .next n) r C) c F L M O P Z T st f2 w fun D C H' n I' k d q=>?_
 obtain⟨m,hm⟩:=d
 show Im _ X.A (KW (.Name y l) X.env (.ref D)) _ _ _
 refine wpAny_assign_Name (jU I' G S (.inl E) (v:=.ref D) rfl (fun s9 I9 f=>?_) (.inr E))
 obtain⟨a,sb,ha⟩:=f
 have t:C≠a:=by
  rcases ha with z|z
  ·rw[z];exact k.2.1
  ·exact fun e=>k.2.2.2.2.1 y a z e.symm
 refine⟨m,hm.sameBut sb t,fun h' u=>?_⟩
 exact⟨_,H',I9.turned (t':=s9.toks) (fun b o ne e=>u.extBut b o ne e) k.1 k.2.1 k.2.2.2.1 k.2.2.2.2.1 k.2.2.2.2.2,q⟩
end
inductive Tgt where
 |one|many (n:Nat)
def qm(K:H0):Tgt->Own
 |.one=>fun y _ os=>os=[LA y]
 |.many n=>fun y H os=>∃a xs,y=.ref a/\SqT K H a xs/\xs.length=n/\os=xs.map LA
theorem rF{K:H0}:TgOk 1 (fV 0) (qm K .one):=⟨fun _ _ os h=>by rw[h];rfl,fun y H b a os Q c d q=>by
 obtain⟨o,rfl⟩:=AK c
 rw[show os=[LA y]from d]at q;exact q⟩
theorem CK{K:H0}:TgOk 2 (Ee K 2 (qR (fV 0) (qR (fV 1) CH))) (qm K (.many 2)):=⟨fun _ _ os z=>by
 obtain⟨a,xs,_,_,b,e⟩:=z
 rw[e];simpa using b,fun y H f c os Q b z q=>by
 obtain⟨a,xs,e,g,d,h⟩:=z
 obtain⟨o,i,rfl⟩:=vN b
 obtain⟨u,v,rfl⟩:=vN d
 rw[h]at q;exact⟨a,_,e,g,d,u,_,rfl,v,_,rfl,rfl,q⟩⟩
def zu:Tgt->D->DS->Prop
 |.one,d,os=>os=[LA d]
 |.many n,d,os=>∃a,d=.tup a/\a.length=n/\os=a.map LA
def cδ(os:DS)(js:List Nat)(δ:DS):DS:=os++js.map fun j=>(δ[j]?).join
theorem kI{K:H0}{H:Hp}{δ os:DS}{σ us:L2.St}{js:List Nat}(c:Slots K H δ σ)(r:Slots K H os us):Slots K H (cδ os js δ) (cσ us js σ):=by
 refine⟨by simp[cδ,cσ,r.len],fun i e q=>?_⟩;unfold cδ at q;unfold cσ;by_cases a:i<os.length
 ·rw[Jk a]at q;rw[Jk (by rw[<-r.len];exact a)];exact r.at' i e q
 ·rw[Jf ()]at q;rw[Jf (by rw[<-r.len];omega),<-r.len];rw[Ie]at q ⊢;cases b:js[i-os.length]? with
  |none=>rw[b]at q;cases q
  |some j=>
   rw[b]at q
   have e2:(δ[j]?).join=LA e:=Option.some.inj q
   have e3:δ[j]?=LA (LA e):=by
    cases z:δ[j]? with
    |none=>rw[z]at e2;cases e2
    |some o=>rw[z]at e2;exact congrArg LA e2
   obtain⟨d,e4,f⟩:=c.at' j e e3
   exact⟨d,by rw[show(LA j).map (fun j=>(σ[j]?).join)=LA ((σ[j]?).join)from rfl,e4];rfl,f⟩
theorem jE{K:H0}{H:Hp}{a:List D}{xs:List V}(r:aE K H a xs):Slots K H (a.map LA) (xs.map LA):=by
 refine⟨by simp[r.length],fun i d e=>?_⟩;rw[Ie]at e ⊢;cases q:a[i]? with
 |none=>rw[q]at e;cases e
 |some b=>
  rw[q]at e;cases e
  obtain⟨x,e1,e2⟩:=r.get q
  exact⟨x,by rw[e1];rfl,e2⟩
theorem qu{K:H0}{H:Hp}{tk:Tgt}{d:D}{v:V}{os:DS}(r:Rep K H d v)(h:zu tk d os):∃us,qm K tk v H us/\Slots K H os us:=by
 cases tk with
 |one=>
  rw[show os=[LA d]from h]
  exact⟨[LA v],rfl,jE (.cons r .nil)⟩
 |many n=>
  obtain⟨f,rfl,c,rfl⟩:=h
  rw[Rep]at r
  obtain⟨a,xs,rfl,e,b⟩:=r
  exact⟨_,⟨a,xs,rfl,e,by rw[<-b.length];exact c,rfl⟩,jE b⟩
def mB:TTD:=fun _ M Q=>Q LC M
def xJ(I:ItD)(tk:Tgt)(js:List Nat)(tc:TTD)(te:TD)(δ:DS)(f:MH)(Q:DK):Prop:=I.n<=1000000/\∀p,f p=LB->∃W:Nat->List D->MH->Prop,W 0 [] (ay f p (.lst []))/\(∀i a M,i<=I.n->W i a M->I.C M)/\
 (∀i a d M,i<I.n->I.item i=LA d->W i a M->∃os,zu tk d os/\tc (cδ os js δ) M fun b g=>if b=LC then te (cδ os js δ) g fun e h=>∃c,Sub c h/\c p=LA (.lst a)/\W (i+1) (a++[e]) (ay c p (.lst (a++[e])))else ∃c,Sub c g/\W (i+1) a c)/\∀a M,W I.n a M->Q (.ref p) M
def jG(a:TID)(tk:Tgt)(js:List Nat)(tc:TTD)(te:TD):TD:=fun δ M Q=>a δ M fun I b=>xJ I tk js tc te δ b Q
section
variable{X:Cx}{K:H0}
theorem nN{D:TID}{tk:Tgt}{js:List Nat}{tc:TTD}{te:TD}{σ:L2.St}{H:Hp}{Q:VK}(h:lift K (jG D tk js tc te) σ H Q):sS js (qm K tk) (mL K D) (liftT K tc) (lift K te) σ H Q:=by
 obtain⟨δ,M,R,E,T,q,t⟩:=h;refine⟨δ,M,_,E,T,q,fun I M1 H1 J F G w x p y=>?_⟩;obtain⟨U,w⟩:=w;obtain⟨W,V,hC,l,done⟩:=w p (G.fresh y);refine⟨fun i m j=>m=I.n-i/\i<=I.n/\Grow K H1 j/\∃c M,c.length<=i/\Abs K j M/\W i c M,⟨I.n,by simp,JA _,.new y,[],_,Ic _,G.m8 y .nil,V⟩,?_⟩;rintro i m j ⟨rfl,z,f,c,k,Y,r,o⟩;by_cases a:i<I.n
 ·refine .inr ⟨x.go i j k a f r (hC _ _ _ z o),fun v Z hy=>?_⟩;obtain⟨A,a3,d,ed,rd⟩:=x.yld i j k v Z a f r (hC _ _ _ z o) hy;obtain⟨os,ow,q3⟩:=l i c d k a ed o;obtain⟨us,uv,su⟩:=qu rd ow;have L:=kI (js:=js) (E.mono ((F.trans f).trans A)) su;refine⟨us,uv,cδ os js δ,k,_,L,a3,q3,fun b M4 H4 B N s=>?_⟩;cases b with
  |false=>
   rw[LF Iq]at s ⊢
   obtain⟨M5,s5,w5⟩:=s
   exact⟨I.n-(i+1),(),rfl,a,(f.trans A).trans B,c,M5,(),N.sub s5,w5⟩
  |true=>
   rw[LG rfl]at s ⊢
   refine⟨cδ os js δ,M4,_,L.mono B,N,s,fun e M' u H5 g5 r5 O g=>?_⟩
   obtain⟨M6,P,e6,w6⟩:=g
   obtain⟨zs,C,S⟩:=(O.sub P) _ _ e6
   refine⟨zs,C,?_,I.n-(i+1),(),rfl,a,(((f.trans A).trans B).trans g5).trans (.lst C),c++[e],_,by simp;omega,(O.sub P).zl C (S.append (.cons r5 .nil)),w6⟩
   rw[<-S.length]
   exact Nat.lt_of_le_of_lt Y (IM a (Jp U ⋯))
 ·obtain rfl:i=I.n:=()
  exact .inl ⟨x.stop j k f r (hC _ _ _ z o),t _ _ _ _ (F.trans f) (by rw[Rep]) r (done c k o)⟩
variable{xs:List Str}{tg:Expr}{pos:Pos}{js:List Nat}{scope:Kv}{elt iter:Expr}{ifs:List Expr}{te:TD}{tc:TTD}{g:TG}{tk:Tgt}{wd:TID}
def DTs(X:Cx)(ifs:List Expr)(t:TTD):Prop:=PTs X ifs (liftT X.K t)
theorem cX:DTs X [] mB:=fun pins s σ H Q I a=>by obtain⟨δ,M,R,d,c,q,b⟩:=a;exact(zW pins s σ H Q I (b _ _ _ .refl c q))
theorem uV{c:Expr}{t:TTD}(h:DT X c t):DTs X [c] t:=Bo h
theorem uN(c:CScope X xs js scope)(a:X.calm=LC)(b:DI X tg iter wd)(d:TgOk xs.length g (qm X.K tk))(e:∀C s H fp,PG (cxC X xs js scope C s H fp) tg g)(f:∀C s H fp,DTs (cxC X xs js scope C s H fp) ifs tc)(i:∀C s H fp,DE (cxC X xs js scope C s H fp) elt te) (j:∀x,IW iter X.env x=pure x:=by intro _;rfl):DE X (.ListComp elt [⟨tg,iter,ifs,0⟩] scope pos) (jG wd tk js tc te):=bj (As (te:=lift X.K te) (tc:=liftT X.K tc) c a b d e f i j) fun _ _ _ h=>nN h
theorem AI(i:Nat){y:Str}{j b:Pos}(l:X.N.Nodup)(c:CScope X xs js scope)(m:X.calm=LC)(n:DI X tg iter wd)(o:TgOk xs.length g (qm X.K tk))(p:∀C s H fp,PG (cxC X xs js scope C s H fp) tg g)(r:∀C s H fp,DTs (cxC X xs js scope C s H fp) ifs tc)(t:∀C s H fp,DE (cxC X xs js scope C s H fp) elt te) (u:X.N[i]?=LA y:=by rfl) (w:X.env.scope.names.lookup y=LA .local:=by rfl) (h:Ks (.ListComp elt [⟨tg,iter,ifs,0⟩] scope pos) (LA (.Name y j)) b.line X.env=pure LC:=by rfl) (f:∀x,IW iter X.env x=pure x:=by intro _;rfl) : DSt X (.Assign [.Name y j] (.ListComp elt [⟨tg,iter,ifs,0⟩] scope pos) b) (dC (jG wd tk js tc te) (aX i)):=cO (zY (te:=lift X.K te) (tc:=liftT X.K tc) c m l n o p r t u w h f) fun E σ H e=>by obtain⟨δ,M,f,a,B,ok,q⟩:=e;exact(nN ⟨δ,M,_,f,a,q,fun d F v H1 k z A D=>ok.nx _ _ _ _ k ((f.mono k).set z i) A D⟩)
theorem comp_map{I:ItD}{tk:Tgt}{js:List Nat}{te:TD}{δ:DS}{b:MH}{Q:DK}(f:Nat->D)(j:I.n<=1000000)(hC:∀p a,b p=LB->I.C (ay b p (.lst a))) (h:∀i d M,i<I.n->I.item i=LA d->Sub b M->∃os,zu tk d os/\∀K:DK,(∀c,Sub M c->K (f i) c)->te (cδ os js δ) M K) (l:∀p,b p=LB->Q (.ref p) (ay b p (.lst ((Iv I.n).map f)))):xJ I tk js mB te δ b Q:=by
 refine⟨j,fun p e=>⟨fun i a M=>a=(Iv i).map f/\M=ay b p (.lst a),⟨rfl,rfl⟩,?_,?_,?_⟩⟩
 ·rintro i a M _ ⟨_,rfl⟩;exact hC p a e
 ·rintro i a d M m hd ⟨rfl,rfl⟩;obtain⟨os,o,k⟩:=h i d _ m hd (.new e .refl);refine⟨os,o,?_⟩;unfold mB;refine DY (k _ ?_);exact fun c q=>⟨_,q,ai,by rw[JE,IK];rfl,by rw[a9]⟩
 ·rintro a M ⟨rfl,rfl⟩;exact l p e
end
def E3(X:Cx)(xs:List Str)(js:List Nat)(scope:Kv):Bool:=
 scope.kind==.function&&scope.names.all (fun y=>(y.2 != .cell||xs.contains y.1)&&(y.2 != .free||!xs.contains y.1))&&scope.names.all (fun y=>y.2 != .local||scope.names.lookup y.1==LA .local)&&xs.all (fun x=>scope.names.lookup x==LA .local||scope.names.lookup x==LA .cell) &&
  scope.names.all (fun y=>y.2 != .free||(X.env.kindOf y.1==LA .cell||X.env.kindOf y.1==LA .free))&&decide (cN X xs js).Nodup&&js.all (fun j=>scope.names.lookup ((X.N[j]?).getD ("":Str)) != LA .local)
theorem CScope.of{X:Cx}{xs:List Str}{js:List Nat}{scope:Kv}(h:E3 X xs js scope=LC):CScope X xs js scope:=by
 unfold E3 at h;simp only[ID]at h;obtain⟨⟨⟨⟨⟨⟨d,c⟩,e⟩,f⟩,g⟩,i⟩,k⟩:=h;refine⟨by simpa using d,fun y a l=>?_,fun y a b=>?_,fun y a m=>?_,fun x n=>?_,fun y a b=>?_,LJ i,fun j o=>?_⟩
 ·have:=Je.mp c y a;rw[l]at this;simpa using this
 ·have:=Je.mp c y a;rw[b]at this;simpa using this
 ·have:=Je.mp e y a;rw[m]at this;simpa using this
 ·have:=Je.mp f x n;simpa using this
 ·have:=Je.mp g y a;rw[b]at this;simpa using this
 ·have:=Je.mp k j o;simpa using this
abbrev TOD:=DS->MH->(Option Int->MH->Prop)->Prop
def t9(K:H0)(t:TOD):TO:=fun σ H Q=>∃δ M R,Slots K H δ σ/\Abs K H M/\t δ M R/\∀o b a,Grow K H a->Abs K a b->R o b->Q o a
def zj:TOD:=fun _ M Q=>Q LB M
def DU(t:TD):TOD:=fun δ M Q=>t δ M fun x a=>∃i,x=.int i/\Q (LA i) a
def cutD(xs:List D)(a b:Option Int):List D:=(xs.drop (HT.sIx xs.length 0 a)).take (HT.sIx xs.length xs.length b-HT.sIx xs.length 0 a)
def F6:D->Option Int->Option Int->MH->DK->Prop:=fun x c d M Q=>match x with
 |.ref a=>∃b,M a=LA (.lst b)/\∀p,M p=LB->Q (.ref p) (ay M p (.lst (cutD b c d)))
 |.rol b=>∀p,M p=LB->Q (.ref p) (ay M p (.lst (cutD b c d)))
 |.tup b=>¬(HT.sIx b.length 0 c=0/\HT.sIx b.length b.length d=b.length)/\Q (.tup (cutD b c d)) M
 |_=>False
def Hd(te:TD)(a b:TOD):TD:=fun δ M Q=>te δ M fun x c=>a δ c fun l d=>b δ d fun u e=>F6 x l u e Q
theorem aE.cut{K:H0}{H:Hp}{a:List D}{xs:List V}(h:aE K H a xs)(b c:Option Int):aE K H (cutD a b c) (ql xs b c):=by unfold cutD ql;rw[h.length];exact(h.drop _).take _
section
variable{X:Cx}{e a:Expr}{te:TD}{tl th:TOD}{lo hi:Option Expr}{pos p2:Pos}
theorem xw{e:Option Expr}{t t':TO}(h:PO X e t)(k:∀σ H Q,t' σ H Q->t σ H Q):PO X e t':=fun pins s σ H Q I q=>h pins s σ H Q I (k _ _ _ q)
theorem fK:PO X LB (t9 X.K zj):=xw A0 fun σ H Q b=>by obtain⟨δ,M,R,d,a,q,c⟩:=b;exact(c _ _ _ .refl a q)
theorem fL(h:DE X e te):PO X (LA e) (t9 X.K (DU te)):=xw (Ad h) fun σ H Q b=>by obtain⟨δ,M,R,g,a,q,c⟩:=b;exact(⟨δ,M,_,g,a,q,fun d o v H1 j f k l=>by
 obtain⟨i,m,n⟩:=l
 subst m
 rw[Rep]at f
 exact⟨i,f,c _ _ _ j k n⟩⟩)
theorem d8(r:DE X a te)(s:PO X lo (t9 X.K tl))(t:PO X hi (t9 X.K th)):DE X (.Subscript a (.Slice lo hi LB p2) pos) (Hd te tl th):=
 bj (yC (Bm.or DQ) r s t) fun σ H Q f=>by obtain⟨δ,M,R,m,a,q,g⟩:=f;exact(⟨δ,M,_,m,a,q,fun x w v H1 n y A B=>⟨δ,w,_,m.mono n,A,B,fun l C I o D E=>⟨δ,C,_,m.mono (n.trans o),D,E,fun u J L p h d=>by
  have G:=(n.trans o).trans p
  have j:=y.mono (o.trans p)
  unfold F6 at d
  split at d
  ·obtain⟨N,e3,d⟩:=d
   obtain rfl:v=.ref _:=j
   obtain⟨xs,k,i⟩:=h _ _ e3
   exact .inl ⟨_,xs,rfl,SqL.of k,fun z c=>g _ _ _ _ (G.trans (.new c)) (by rw[Rep]) (h.m8 c (i.cut _ _)) (d z (h.fresh c))⟩
  ·rw[Rep]at j
   obtain⟨b,xs,rfl,k,i⟩:=j
   exact .inl ⟨_,xs,rfl,k.sql,fun z c=>g _ _ _ _ (G.trans (.new c)) (by rw[Rep]) (h.m8 c (i.cut _ _)) (d z (h.fresh c))⟩
  ·obtain⟨F,d⟩:=d
   rw[Rep]at j
   obtain⟨b,xs,rfl,k,i⟩:=j
   exact .inr ⟨_,xs,rfl,k,by rw[<-i.length];exact F,fun z c=>g _ _ _ _ (G.trans (.new c)) (by rw[Rep];exact⟨z,_,rfl,SqT.of aZ,(i.cut _ _).mono (.new c)⟩) (h.new c) d⟩
  ·exact d.elim⟩⟩⟩)
end
section
variable{X:Cx}{x y z:Str}{px py pz pt pos:Pos}{kt:Nat}{js:List Nat}{scope:Kv}{elt iter:Expr}{ifs:List Expr}{te:TD}{tc:TTD}{wd:TID}{xs:List Str}
theorem iG(c:CScope X xs js scope)(i:Nat)(a:xs[i]?=LA x){C:Addr}{s:HZ}{H:Hp}{fp:List Addr}:PG (cxC X xs js scope C s H fp) (.Name x px) (fV i):=by
 have d:i<xs.length:=(Iu.mp a).1;have b:=Il a
 have e:Loc (cxC X xs js scope C s H fp).env.scope x:=by
  rcases c.own x b with z|z
  ·exact .inl (fN ⋯ z)
  ·exact .inr (fN ⋯ z)
 refine uS (i:=i) c.nd ?_ e (.inl (by show xs.contains x=LC;simpa using b));show(xs++js.map fun j=>(X.N[j]?).getD ("":Str))[i]?=LA x;rw[Jk d];exact a
theorem Bj(c:CScope X [x,y] js scope)(a:X.calm=LC){C:Addr}{s:HZ}{H:Hp}{fp:List Addr}:PG (cxC X [x,y] js scope C s H fp) (.Tuple [.Name x px,.Name y py] kt pt) (Ee X.K 2 (qR (fV 0) (qR (fV 1) CH))):=xT (X:=cxC X [x,y] js scope C s H fp) a (mG (iG c 0 rfl) (mG (iG c 1 rfl) uF)) rfl rfl
theorem iX(c:CScope X [x] js scope)(a:X.calm=LC)(b:DI X (.Name x px) iter wd)(d:∀C s H fp,DTs (cxC X [x] js scope C s H fp) ifs tc)(e:∀C s H fp,DE (cxC X [x] js scope C s H fp) elt te) (f:∀x,IW iter X.env x=pure x:=by intro _;rfl):DE X (.ListComp elt [⟨.Name x px,iter,ifs,0⟩] scope pos) (jG wd .one js tc te):=uN c a b rF (fun _ _ _ _=>iG c 0 rfl) d e f
theorem qX(c:CScope X [x,y] js scope)(a:X.calm=LC)(b:DI X (.Tuple [.Name x px,.Name y py] kt pt) iter wd)(d:∀C s H fp,DTs (cxC X [x,y] js scope C s H fp) ifs tc)(e:∀C s H fp,DE (cxC X [x,y] js scope C s H fp) elt te) (f:∀x,IW iter X.env x=pure x:=by intro _;rfl):DE X (.ListComp elt [⟨.Tuple [.Name x px,.Name y py] kt pt,iter,ifs,0⟩] scope pos) (jG wd (.many 2) js tc te):=uN c a b CK (fun _ _ _ _=>Bj c a) d e f
theorem eY(i:Nat){v:Str}{d a:Pos}(e:X.N.Nodup)(c:CScope X [x] js scope)(f:X.calm=LC)(g:DI X (.Name x px) iter wd)(h:∀C s H fp,DTs (cxC X [x] js scope C s H fp) ifs tc)(j:∀C s H fp,DE (cxC X [x] js scope C s H fp) elt te) (k:X.N[i]?=LA v:=by rfl) (l:X.env.scope.names.lookup v=LA .local:=by rfl) (b:Ks (.ListComp elt [⟨.Name x px,iter,ifs,0⟩] scope pos) (LA (.Name v d)) a.line X.env=pure LC:=by rfl) (m:∀x,IW iter X.env x=pure x:=by intro _;rfl) : DSt X (.Assign [.Name v d] (.ListComp elt [⟨.Name x px,iter,ifs,0⟩] scope pos) a) (dC (jG wd .one js tc te) (aX i)):=AI i e c f g rF (fun _ _ _ _=>iG c 0 rfl) h j k l b m
end
section
variable{prog:IH}{w:J5}{A:Jd}{E:HY->HZ->Prop}{s:HZ}
theorem zk{N L:String}{op:CmpOp}{a b:HY}{c:Bool}{Q:HY->HZ->Prop}(n:(N="max"/\L="max.loop"/\op=.Gt)\/(N="min"/\L="min.loop"/\op=.Lt))(hh:A.handled=LB)
 (R:∀(t:HZ) (Q':HY->HZ->Prop) (E':HY->HZ->Prop),(∀x o,s.heap.get? x=LA o->t.heap.get? x=LA o)->Q' (.bool c) t->Im (IC prog w) A.in1 (richCompare op b a) Q' E' t)
 (h:∀h' tk,(∀x o,s.heap.get? x=LA o->h'.get? x=LA o)->Q (if c=LC then b else a) { s with heap:=h',toks:=tk }) :
 Im (IC prog w) A (call (.builtin N) [a,b]) Q E s:=by
 rcases n with⟨rfl,P,rfl⟩|⟨rfl,P,rfl⟩
 have D:(toString "max"++toString ".loop":String)=L:=by rw[P];decide
 have i:=F.plain_max_loop
 have G:=F.entry_max_loop
 refine call_function_tree F.kind_max F.plain_max F.entry_max (F.args_max2 _ _) ?_
 rotate_left
 have D:(toString "min"++toString ".loop":String)=L:=by rw[P];decide
 have i:=F.plain_min_loop
 have G:=F.entry_min_loop
 refine call_function_tree F.kind_min F.plain_min F.entry_min (F.args_min2 _ _) ?_
 all_goals
  rw[<-P]at i G
  show Im _ A.in1 (Builtin.Builtins.bindParams _ ["key","default"] 0 ⟨[],[]⟩ >>= fun _=>_) _ _ s
  refine cc (wpAny_of_eq (a:=[LB,LB]) rfl ?_)
  show Im _ A.in1 (newTuple [a,b] >>= fun _=>_) _ _ s
  refine cc (Jc ?_)
  generalize e1:s.heap.push { cls:=.type "tuple",dict:=LB,data:=.seq ([a,b]:List HY).toArray }=k
  have k1:∀x o,s.heap.get? x=LA o->k.get? x=LA o:=fun x o q=>by rw[<-e1];exact Ib _ q
  have hT:k.IsTuple s.heap.objs.size #[a,b]:=by rw[<-e1];exact⟨_,Ik _ rfl,rfl,0,rfl⟩
  have z1:k.objs.size=s.heap.objs.size+1:=by rw[<-e1,K1]
  refine cc (wpAny_pyIter_tuple (s:={ s with heap:=k }) hT ?_)
  refine cc (Jc ?_)
  dsimp only
  generalize eI:k.objs.size=I
  generalize e2:k.push _=z
  have k2:∀x o,k.get? x=LA o->z.get? x=LA o:=fun x o q=>by rw[<-e2];exact Ib _ q
  have hI:z.IsTupleIter I s.heap.objs.size 0:=by rw[<-e2,<-eI];exact⟨_,Ik _ rfl,rfl,rfl⟩
  have z2:z.objs.size=I+1:=by rw[<-e2,K1,eI]
  generalize eS:z.objs.size=S
  generalize e3:z.push _=l
  have T:∀x o,z.get? x=LA o->l.get? x=LA o:=fun x o q=>by rw[<-e3];exact Ib _ q
  have hS:l.get? S=LA { cls:=.type "list",dict:=LB,data:=.seq #[] 0,slots:=#[] }:=by rw[<-e3,<-eS];exact Ik _ rfl
  have H:S≠I:=()
  have g:∀x o,s.heap.get? x=LA o->x≠I/\x≠S:=fun x o q=>⟨J6 (IM (Iy q) ()),J6 (IM (Iy q) ())⟩
  have J:l.IsTuple s.heap.objs.size #[a,b]:=by
   obtain⟨o,q,r⟩:=hT
   exact⟨o,T _ _ (k2 _ _ q),r⟩
  have U:l.IsTupleIter I s.heap.objs.size 0:=hI.at fun o q=>T _ _ q
  have TI:s.heap.objs.size≠I:=()
  have TS:s.heap.objs.size≠S:=()
  have m:∀x o,s.heap.get? x=LA o->l.get? x=LA o:=fun x o q=>T _ _ (k2 _ _ (k1 _ _ q))
  rw[D]
  refine I0 ⟨plainId_quiet i _,?_⟩
  have f:∀(t:HZ) (v:HY) (n:Nat),t.heap.IsTupleIter I s.heap.objs.size 2->t.heap.IsTuple s.heap.objs.size #[a,b]->t.heap.get? S=LA { cls:=.type "list",dict:=LB,data:=.seq #[v,v] n,slots:=#[] }->
   (∃h' tk,t={ s with heap:=h',toks:=tk }/\∀x o,s.heap.get? x=LA o->h'.get? x=LA o)->v=(if c=LC then b else a)->Km (IC prog w) A (.builtin L ⟨[.ref I,.none,.ref S],[]⟩) (fun r s'=>match r with|.ok (.ret v)=>Q v s'|.ok _=>False|.error e=>E e s') t:=by
   rintro t v n i2 tT lS ⟨h',tk,rfl,kt⟩ ev
   refine codeAny_builtin G ?_
   rw[Around.under_plainId i _]
   show Im _ A.in1 (seqItems? (.ref S) >>= fun _=>_) _ _ _
   refine cc (KY lS rfl ?_)
   show Im _ A.in1 (tryCatch (pyNext (.ref I)) _ >>= fun _=>_) _ _ _
   refine cc (wpAny_tryCatch (wpAny_pyNext_tuple_end (A:=A.in1) hh i2 tT (by simp) fun B C=>?_))
   have V:B.get? S=LA _:=C _ _ H lS
   show Im _ A.in1 (updateSeq S (fun _=>#[]) >>= fun _=>_) _ _ _
   refine cc (wpAny_updateSeq V rfl (cc (wpAny_letGo (I0 ?_))))
   show Q v _
   rw[ev]
   exact h _ _ fun x o q=>(JG _ _ (g x o q).2.symm).trans (C x o (g x o q).1 (kt x o q))
  refine codeAny_builtin G ?_
  rw[Around.under_plainId i _]
  show Im _ A.in1 (seqItems? (.ref S) >>= fun _=>_) _ _ _
  refine cc (KY (s:={ s with heap:=l }) hS rfl ?_)
  show Im _ A.in1 (tryCatch (pyNext (.ref I)) _ >>= fun _=>_) _ _ _
  refine cc (wpAny_tryCatch (wpAny_pyNext_tuple_item (s:={ s with heap:=l }) U J (x:=a) (by simp) fun B i4 C=>?_))
  have K:B.get? S=LA _:=(C.2 _ H).trans hS
  have W:B.IsTuple s.heap.objs.size #[a,b]:=by
   obtain⟨o,q,r⟩:=J
   exact⟨o,(C.2 _ TI).trans q,r⟩
  show Im _ A.in1 (updateSeq S (fun _=>#[a,a]) >>= fun _=>_) _ _ _
  refine cc (wpAny_updateSeq K rfl ?_)
  rw[D]
  refine I0 ⟨plainId_quiet i _,?_⟩
  generalize e5:B.update S _=p
  have X:∀x,x≠S->p.get? x=B.get? x:=fun x q=>by rw[<-e5];exact JG _ _ q.symm
  have j:∃n,p.get? S=LA { cls:=.type "list",dict:=LB,data:=.seq #[a,a] n,slots:=#[] }:=⟨_,by rw[<-e5];exact Kc _ K rfl⟩
  obtain⟨n5,j⟩:=j
  have i5:p.IsTupleIter I s.heap.objs.size 1:=i4.at fun o q=>(X _ H.symm).trans q
  have M:p.IsTuple s.heap.objs.size #[a,b]:=by
   obtain⟨o,q,r⟩:=W
   exact⟨o,(X _ TS).trans q,r⟩
  have u:∀x o,s.heap.get? x=LA o->p.get? x=LA o:=fun x o q=>(X _ (g x o q).2).trans ((C.2 _ (g x o q).1).trans (m x o q))
  refine codeAny_builtin G ?_
  rw[Around.under_plainId i _]
  show Im _ A.in1 (seqItems? (.ref S) >>= fun _=>_) _ _ _
  refine cc (KY (s:={ s with heap:=p }) j rfl ?_)
  show Im _ A.in1 (tryCatch (pyNext (.ref I)) _ >>= fun _=>_) _ _ _
  refine cc (wpAny_tryCatch (wpAny_pyNext_tuple_item (s:={ s with heap:=p }) i5 M (x:=b) (by simp) fun Y i6 Z=>?_))
  have y:Y.get? S=LA _:=(Z.2 _ H).trans j
  have O:Y.IsTuple s.heap.objs.size #[a,b]:=by
   obtain⟨o,q,r⟩:=M
   exact⟨o,(Z.2 _ TI).trans q,r⟩
  have d:∀x o,s.heap.get? x=LA o->Y.get? x=LA o:=fun x o q=>(Z.2 _ (g x o q).1).trans (u x o q)
  show Im _ A.in1 (tryCatch (holding [b,b] (richCompare _ b a >>= fun _=>_)) _ >>= fun _=>_) _ _ _
  refine cc (wpAny_tryCatch (JD (cc (R _ _ _ d ?_))))
  refine cc (JD (JB ?_))
  refine cc (wpAny_letGo (I0 ?_))
  cases c with
  |true=>
   simp only[if_true]at f ⊢
   refine cc (wpAny_updateSeq y rfl (cc (wpAny_letGo ?_)))
   rw[D]
   refine I0 ⟨plainId_quiet i _,f _ b _ (i6.at fun o q=>(JG _ _ H).trans q) ?_ (Kc _ y rfl) ⟨_,_,rfl,fun x o q=>(JG _ _ (g x o q).2.symm).trans (d x o q)⟩ rfl⟩
   obtain⟨o,q,r⟩:=O
   exact⟨o,(JG _ _ TS.symm).trans q,r⟩
  |false=>
   simp only[JV,if_false]at f ⊢
   refine cc (wpAny_letGo ?_)
   rw[D]
   exact I0 ⟨plainId_quiet i _,f _ a _ i6 O y ⟨_,_,rfl,d⟩ rfl⟩
end
end SD
namespace HT
open PySem PyProof.Rows
def lexLe:List Int->List Int->Bool
 |[],[]=>LC
 |[],_::_=>LC
 |_::_,[]=>LD
 |x::xs,y::ys=>if x=y then lexLe xs ys else decide (x<=y)
theorem sa(x y:Int)(xs a:List Int):lexLe (x::xs) (y::a)=if x=y then lexLe xs a else decide (x<=y):=rfl
theorem mW:lexLe [] []=LC:=rfl
theorem lY(y:Int)(a:List Int):lexLe [] (y::a)=LC:=rfl
theorem kP(x:Int)(xs:List Int):lexLe (x::xs) []=LD:=rfl
theorem yp(A:Jd)(s:HZ)(a:Int)(t:Tok)(c:Int)(u:Tok)(prog:IH)(w:J5)(E:HY->HZ->Prop)(Q:HY->HZ->Prop)(h:Q (.bool (decide (a<=c))) s) : Im (IC prog w) A (richCompare .LtE (.int a t) (.int c u)) Q E s:=(PyProof.Rows.le_int h:Im (IC prog w) A (IY .LtE (.int a t) (.int c u)) Q E s)
section
open PySem.SeqAt
open PySem.AutoSeq1 (wpAny_loadPart')
open PySem.MeetsSeq PySem.MeetsSeq2 PySem.MeetsSeq3
theorem mZ(l b:Addr)(items f:Array HY)(n Q:Nat)(S I:Option Addr)(T J:Array (Option HY))(ns F:List Int)(N:JO items.toList ns)(O:JO f.toList F) :
 Meets (Lb.«tuple.__le__» ⟨[.ref l,.ref b],[]⟩)
  (fun _ R s=>s.heap.get? l=LA { cls:=.type "tuple",dict:=S,data:=.seq items n,slots:=T }/\s.heap.get? b=LA { cls:=.type "tuple",dict:=I,data:=.seq f Q,slots:=J }/\
   R (.ok (.ret (.bool (lexLe ns F)))) s):=
 .of_wp fun prog w A R s h=>by
  obtain⟨G,g,d,H,os⟩:=s;obtain⟨U,V,h⟩:=h
  have f2:=AutoSeq1.sub_tuple_tuple
  have z1:items.size=ns.length:=by rw[<-N.length];simp
  have z2:f.size=F.length:=by rw[<-O.length];simp
  wp_walk using Ji U,Ji V,wpAny_forIn_list _ (fun p b K=>b.1=LB/\K=⟨G,g,d,H,os⟩/\∃(vs ws:List HY) (j k:List Int),p=vs.zip ws/\
   JO vs j/\JO ws k/\j.length+f.size=k.length+items.size/\R (.ok (.ret (.bool (lexLe j k)))) ⟨G,g,d,H,os⟩) _
  case turn=>
   rintro⟨y,x⟩ p b K ⟨z,rfl,vs,ws,j,k,m,B,o,i,r⟩
   cases B with
   |nil=>rw[List.zip_nil_left]at m;cases m
   |cons a t D=>
    cases o with
    |nil=>rw[List.zip_nil_right]at m;cases m
    |cons c u E=>
     rw[Kw]at m
     injection m with L C
     injection L with W X
     subst W X
     rw[sa]at r
     simp only[Jg]at i
     obtain⟨e,Y,v⟩:=kS A.in1 ⟨G,g,d,H,os⟩ a t c u
     refine cc (Y prog w _ _ ?_)
     cases e with
     |true=>
      rw[LG (v.mp rfl)]at r
      wp_walk
      exact⟨rfl,rfl,_,_,_,_,C,D,E,(),r⟩
     |false=>
      rw[LF (fun q=>absurd (v.mpr q) Iq)]at r
      have M:=yp A.in1 ⟨G,g,d,H,os⟩ a t c u prog w
      wp_walk using M
      exact⟨_,rfl,by simpa using r⟩
  case fin=>
   rintro⟨b1,b2⟩ K ⟨z,rfl,vs,ws,j,k,m,B,o,i,r⟩
   simp only at z
   subst z
   have P:lexLe j k=decide (items.size<=f.size):=by
    cases B with
    |nil=>
     cases o with
     |nil=>
      simp only[JP]at i
      rw[mW]
      exact(LI ()).symm
     |cons c u Z=>
      simp only[JP,Jg]at i
      rw[lY]
      exact(LI ()).symm
    |cons a t P=>
     cases o with
     |nil=>
      simp only[JP,Jg]at i
      rw[kP]
      exact(LH ()).symm
     |cons c u Z=>
      rw[Kw]at m
      cases m
   rw[P]at r
   wp_walk
   exact⟨_,rfl,by simpa[Builtin.Tuple.tupleCompareSizes]using r⟩
  case h=>
   exact⟨rfl,rfl,items.toList,f.toList,ns,F,rfl,N,O,(),h⟩
end
section
variable{prog:IH}{w:J5}{A:Jd}{E:HY->HZ->Prop}{s:HZ}
theorem rA{l b:Addr}{items a:Array HY}{ns c:List Int}{Q:HY->HZ->Prop}(p:IsTup s.heap l items)(q:IsTup s.heap b a)(r:JO items.toList ns)(t:JO a.toList c) (u:A.units<Jq) (h:Q (.bool (lexLe ns c)) s):Im (IC prog w) A (IY .LtE (.ref l) (.ref b)) Q E s:=by obtain⟨⟨cls,v,data,y⟩,k,m,n,hd⟩:=id p;obtain⟨⟨o,g,i,j⟩,d,e,z,f⟩:=id q;simp only at m hd e f;subst m hd e f;exact richCompare_meets_room (op:=.LtE) ⟨_,k,rfl⟩ ⟨_,d,rfl⟩ PySem.F.slot_tuple_le PySem.F.entry_tuple_le (PySem.F.args_tuple_le_2 _ _) (mZ l b items a n z v g y j ns c r t) ⟨k,d,show L5 (lexLe ns c)≠Value.notImplemented/\Q (.bool (lexLe ns c)) s from⟨(fun x=>nomatch x),h⟩⟩ u
end
def bV:List Int->List Int->Bool
 |[],[]=>LD
 |[],_::_=>LD
 |_::_,[]=>LC
 |x::xs,y::ys=>if x=y then bV xs ys else decide (y<x)
theorem tN(x y:Int)(xs a:List Int):bV (x::xs) (y::a)=if x=y then bV xs a else decide (y<x):=rfl
theorem m5:bV [] []=LD:=rfl
theorem kY(y:Int)(a:List Int):bV [] (y::a)=LD:=rfl
theorem mM(x:Int)(xs:List Int):bV (x::xs) []=LC:=rfl
theorem y6(A:Jd)(s:HZ)(a:Int)(t:Tok)(c:Int)(u:Tok)(prog:IH)(w:J5)(E:HY->HZ->Prop)(Q:HY->HZ->Prop)(h:Q (.bool (decide (c<a))) s) : Im (IC prog w) A (richCompare .Gt (.int a t) (.int c u)) Q E s:=(PyProof.Rows.gt_int h:Im (IC prog w) A (IY .Gt (.int a t) (.int c u)) Q E s)
section
open PySem.SeqAt
open PySem.AutoSeq1 (wpAny_loadPart')
open PySem.MeetsSeq PySem.MeetsSeq2 PySem.MeetsSeq3
theorem mV(l b:Addr)(items f:Array HY)(n Q:Nat)(S I:Option Addr)(T J:Array (Option HY))(ns F:List Int)(N:JO items.toList ns)(O:JO f.toList F) :
 Meets (Lb.«tuple.__gt__» ⟨[.ref l,.ref b],[]⟩)
  (fun _ R s=>s.heap.get? l=LA { cls:=.type "tuple",dict:=S,data:=.seq items n,slots:=T }/\s.heap.get? b=LA { cls:=.type "tuple",dict:=I,data:=.seq f Q,slots:=J }/\
   R (.ok (.ret (.bool (bV ns F)))) s):=
 .of_wp fun prog w A R s h=>by
  obtain⟨G,g,d,H,os⟩:=s;obtain⟨U,V,h⟩:=h
  have f2:=AutoSeq1.sub_tuple_tuple
  have z1:items.size=ns.length:=by rw[<-N.length];simp
  have z2:f.size=F.length:=by rw[<-O.length];simp
  wp_walk using Ji U,Ji V,wpAny_forIn_list _ (fun p b K=>b.1=LB/\K=⟨G,g,d,H,os⟩/\∃(vs ws:List HY) (j k:List Int),p=vs.zip ws/\
   JO vs j/\JO ws k/\j.length+f.size=k.length+items.size/\R (.ok (.ret (.bool (bV j k)))) ⟨G,g,d,H,os⟩) _
  case turn=>
   rintro⟨y,x⟩ p b K ⟨z,rfl,vs,ws,j,k,m,B,o,i,r⟩
   cases B with
   |nil=>rw[List.zip_nil_left]at m;cases m
   |cons a t D=>
    cases o with
    |nil=>rw[List.zip_nil_right]at m;cases m
    |cons c u E=>
     rw[Kw]at m
     injection m with L C
     injection L with W X
     subst W X
     rw[tN]at r
     simp only[Jg]at i
     obtain⟨e,Y,v⟩:=kS A.in1 ⟨G,g,d,H,os⟩ a t c u
     refine cc (Y prog w _ _ ?_)
     cases e with
     |true=>
      rw[LG (v.mp rfl)]at r
      wp_walk
      exact⟨rfl,rfl,_,_,_,_,C,D,E,(),r⟩
     |false=>
      rw[LF (fun q=>absurd (v.mpr q) Iq)]at r
      have M:=y6 A.in1 ⟨G,g,d,H,os⟩ a t c u prog w
      wp_walk using M
      exact⟨_,rfl,by simpa using r⟩
  case fin=>
   rintro⟨b1,b2⟩ K ⟨z,rfl,vs,ws,j,k,m,B,o,i,r⟩
   simp only at z
   subst z
   have P:bV j k=decide (items.size>f.size):=by
    cases B with
    |nil=>
     cases o with
     |nil=>
      simp only[JP]at i
      rw[m5]
      exact(LH ()).symm
     |cons c u Z=>
      simp only[JP,Jg]at i
      rw[kY]
      exact(LH ()).symm
    |cons a t P=>
     cases o with
     |nil=>
      simp only[JP,Jg]at i
      rw[mM]
      exact(LI ()).symm
     |cons c u Z=>
      rw[Kw]at m
      cases m
   rw[P]at r
   wp_walk
   exact⟨_,rfl,by simpa[Builtin.Tuple.tupleCompareSizes]using r⟩
  case h=>
   exact⟨rfl,rfl,items.toList,f.toList,ns,F,rfl,N,O,(),h⟩
end
section
variable{prog:IH}{w:J5}{A:Jd}{E:HY->HZ->Prop}{s:HZ}
theorem kR{l b:Addr}{items a:Array HY}{ns c:List Int}{Q:HY->HZ->Prop}(p:IsTup s.heap l items)(q:IsTup s.heap b a)(r:JO items.toList ns)(t:JO a.toList c) (u:A.units<Jq) (h:Q (.bool (bV ns c)) s):Im (IC prog w) A (IY .Gt (.ref l) (.ref b)) Q E s:=by obtain⟨⟨cls,v,data,y⟩,k,m,n,hd⟩:=id p;obtain⟨⟨o,g,i,j⟩,d,e,z,f⟩:=id q;simp only at m hd e f;subst m hd e f;exact richCompare_meets_room (op:=.Gt) ⟨_,k,rfl⟩ ⟨_,d,rfl⟩ PySem.F.slot_tuple_gt PySem.F.entry_tuple_gt (PySem.F.args_tuple_gt_2 _ _) (mV l b items a n z v g y j ns c r t) ⟨k,d,show L5 (bV ns c)≠Value.notImplemented/\Q (.bool (bV ns c)) s from⟨(fun x=>nomatch x),h⟩⟩ u
end
end HT
namespace SD
open PySem PySem.Spec PyProof.Rows L2
section
variable{X:Cx}
theorem fG{K:H0}{H:Hp}:∀{ns:List Int} {xs:List V},aE K H (ns.map D.int) xs->xs=ns.map V.int
 |[],xs,h=>by rw[JF,aE]at h;exact h
 |n::ns,xs,h=>by
  rw[Ih,aE]at h
  obtain⟨x,r,rfl,a,b⟩:=h
  rw[Rep]at a
  rw[a,fG b];rfl
theorem DH(e:X.A.units<Jq):OpR X (IY .LtE) (fun x y H Q=>∃a b ns c,x=.ref a/\y=.ref b/\SqT X.K H a (ns.map V.int)/\SqT X.K H b (c.map V.int)/\Q (.bl (HT.lexLe ns c)) H):=by intro pins s σ H x y v u Q I f g h;obtain⟨a,b,ns,c,rfl,rfl,i,j,q⟩:=h;cases f;cases g;obtain⟨k,l,m,_⟩:=I.tuple i;obtain⟨d,n,o,_⟩:=I.tuple j;exact HT.rA m o (intsAre_of l) (intsAre_of n) e ⟨.bl (HT.lexLe ns c),H,I,rfl,q⟩
theorem D3(e:X.A.units<Jq):OpR X (IY .Gt) (fun x y H Q=>∃a b ns c,x=.ref a/\y=.ref b/\SqT X.K H a (ns.map V.int)/\SqT X.K H b (c.map V.int)/\Q (.bl (HT.bV ns c)) H):=by intro pins s σ H x y v u Q I f g h;obtain⟨a,b,ns,c,rfl,rfl,i,j,q⟩:=h;cases f;cases g;obtain⟨k,l,m,_⟩:=I.tuple i;obtain⟨d,n,o,_⟩:=I.tuple j;exact HT.kR m o (intsAre_of l) (intsAre_of n) e ⟨.bl (HT.bV ns c),H,I,rfl,q⟩
def qd(f:Int->Int->Bool)(g:List Int->List Int->Bool):R2D:=fun x y M Q=>match x,y with
 |.int i,.int j=>True/\Q (.bl (f i j)) M
 |.tup a,.tup b=>∃ns c,a=JI D.int ns/\b=JI D.int c/\Q (.bl (g ns c)) M
 |_,_=>False
theorem xN{op:CmpOp}{f:Int->Int->Bool}{g:List Int->List Int->Bool}(n:OpD X (IY op) (rI2 (fun _ _=>True) fun i j=>.bl (f i j))) (o:OpR X (IY op) (fun x y H Q=>∃a b ns d,x=.ref a/\y=.ref b/\SqT X.K H a (ns.map V.int)/\SqT X.K H b (d.map V.int)/\Q (.bl (g ns d)) H)):OpD X (IY op) (qd f g):=by
 refine iK (n.or o) fun v u H Q c=>?_;obtain⟨x,y,M,R,h,k,a,q,e⟩:=c;unfold qd at q;split at q
 ·exact .inl ⟨_,_,M,R,h,k,a,q,e⟩
 ·obtain⟨ns,d,rfl,rfl,q⟩:=q;rw[Rep]at h;obtain⟨p,xs,rfl,l,r⟩:=h;obtain⟨s,w,rfl,m,t⟩:∃a xs,u=V.ref a/\SqT X.K H a xs/\aE X.K H (JI D.int d) xs:=by rw[Rep]at k;exact k
  rw[fG r]at l;rw[fG t]at m;exact .inr ⟨p,s,ns,d,rfl,rfl,l,m,e _ _ _ _ .refl (by rw[Rep]) a q⟩
 ·exact q.elim
theorem dP(a:X.A.units+64<Jq):OpD X (IY .Lt) (qd (fun i j=>decide (i<j)) HT.lexLt):=xN GR (Ea ())
theorem oR(a:X.A.units+64<Jq):OpD X (IY .LtE) (qd (fun i j=>decide (i<=j)) HT.lexLe):=xN E8 (DH ())
theorem oS(a:X.A.units+64<Jq):OpD X (IY .Gt) (qd (fun i j=>decide (j<i)) HT.bV):=xN GS (D3 ())
theorem vF(f:X.calm=LC)(F:X.A.units+64<Jq):cG X (.builtin "max") (fun xs H Q=>∃p q ns a,xs=[.ref p,.ref q]/\SqT X.K H p (ns.map V.int)/\SqT X.K H q (a.map V.int)/\Q (if HT.bV a ns=LC then .ref q else .ref p) H):=by
 intro pins s σ H xs us Q I r g;obtain⟨p,q,ns,a,e,h,i,k⟩:=g;subst e;obtain⟨u,v,rfl,j,l⟩:=vals2 r;cases j;cases l;obtain⟨m,n,o,_⟩:=I.tuple h;obtain⟨d,w,x,_⟩:=I.tuple i;refine zk (.inl ⟨rfl,rfl,rfl⟩) (c:=HT.bV a ns) (I.ok.hd f) (fun t G J b y=>?_) fun L M b=>⟨_,H,I.kept b,?_,k⟩
 ·obtain⟨z,B,b1⟩:=o;obtain⟨C,D,E⟩:=x;exact HT.kR (A:=X.A.in1) (s:=t) ⟨C,b _ _ D,E⟩ ⟨z,b _ _ B,b1⟩ (intsAre_of w) (intsAre_of n) (by show X.A.units+1<Jq;omega) y
 ·cases HT.bV a ns<;>rfl
theorem vS(f:X.calm=LC)(F:X.A.units+64<Jq):cG X (.builtin "min") (fun xs H Q=>∃p q ns a,xs=[.ref p,.ref q]/\SqT X.K H p (ns.map V.int)/\SqT X.K H q (a.map V.int)/\Q (if HT.lexLt a ns=LC then .ref q else .ref p) H):=by
 intro pins s σ H xs us Q I r g;obtain⟨p,q,ns,a,e,h,i,k⟩:=g;subst e;obtain⟨u,v,rfl,j,l⟩:=vals2 r;cases j;cases l;obtain⟨m,n,o,_⟩:=I.tuple h;obtain⟨d,w,x,_⟩:=I.tuple i;refine zk (.inr ⟨rfl,rfl,rfl⟩) (c:=HT.lexLt a ns) (I.ok.hd f) (fun t G J b y=>?_) fun L M b=>⟨_,H,I.kept b,?_,k⟩
 ·obtain⟨z,B,b1⟩:=o;obtain⟨C,D,E⟩:=x;exact HT.lI (A:=X.A.in1) (s:=t) ⟨C,b _ _ D,E⟩ ⟨z,b _ _ B,b1⟩ (intsAre_of w) (intsAre_of n) (by show X.A.units+1<Jq;omega) y
 ·cases HT.lexLt a ns<;>rfl
def Ce:RC:=fun d M Q=>match d with
 |[.int i,.int j]=>Q (.int (max i j)) M
 |[.tup a,.tup b]=>∃ns c,a=JI D.int ns/\b=JI D.int c/\Q (.tup (JI D.int (if HT.bV c ns=LC then c else ns))) M
 |_=>False
def B1:RC:=fun d M Q=>match d with
 |[.int i,.int j]=>Q (.int (min i j)) M
 |[.tup a,.tup b]=>∃ns c,a=JI D.int ns/\b=JI D.int c/\Q (.tup (JI D.int (if HT.lexLt c ns=LC then c else ns))) M
 |_=>False
theorem pP(f:X.calm=LC)(n:X.A.units+64<Jq):fh X (.builtin "max") Ce:=cI (cG.or (Ei f) (vF f n)) fun vs H Q o=>by
 obtain⟨s,M,R,g,a,q,b⟩:=o;unfold Ce at q;split at q
 ·exact .inl ⟨_,M,R,g,a,q,b⟩
 ·obtain⟨ns,e,rfl,rfl,q⟩:=q;obtain⟨v,u,rfl,h,i⟩:=gi g;rw[Rep]at h;obtain⟨p,xs,rfl,j,k⟩:=h;obtain⟨r,t,rfl,l,m⟩:∃a xs,u=V.ref a/\SqT X.K H a xs/\aE X.K H (JI D.int e) xs:=by rw[Rep]at i;exact i
  have c:=j;have d:=l;rw[fG k]at c;rw[fG m]at d;refine .inr ⟨p,r,ns,e,rfl,c,d,b _ _ _ _ .refl ?_ a q⟩;by_cases z:HT.bV e ns=LC
  ·rw[LG z,LG z,Rep];exact⟨_,_,rfl,l,m⟩
  ·rw[LF z,LF z,Rep];exact⟨_,_,rfl,j,k⟩
 ·exact q.elim
theorem pG(f:X.calm=LC)(n:X.A.units+64<Jq):fh X (.builtin "min") B1:=cI (cG.or (Cr f) (vS f n)) fun vs H Q o=>by
 obtain⟨s,M,R,g,a,q,b⟩:=o;unfold B1 at q;split at q
 ·exact .inl ⟨_,M,R,g,a,q,b⟩
 ·obtain⟨ns,e,rfl,rfl,q⟩:=q;obtain⟨v,u,rfl,h,i⟩:=gi g;rw[Rep]at h;obtain⟨p,xs,rfl,j,k⟩:=h;obtain⟨r,t,rfl,l,m⟩:∃a xs,u=V.ref a/\SqT X.K H a xs/\aE X.K H (JI D.int e) xs:=by rw[Rep]at i;exact i
  have c:=j;have d:=l;rw[fG k]at c;rw[fG m]at d;refine .inr ⟨p,r,ns,e,rfl,c,d,b _ _ _ _ .refl ?_ a q⟩;by_cases z:HT.lexLt e ns=LC
  ·rw[LG z,LG z,Rep];exact⟨_,_,rfl,l,m⟩
  ·rw[LF z,LF z,Rep];exact⟨_,_,rfl,j,k⟩
 ·exact q.elim
end
end SD
namespace Ma
open SD
theorem ui{p z:Int}(h:0<p):0<p*z↔0<z:=by
 constructor
 ·intro q;by_cases a:0<z
  ·exact a
  ·have:p*z<=0:=Int.mul_nonpos_of_nonneg_of_nonpos () ();omega
 ·exact fun q=>Ip h q
theorem nM{a b c d:Int}(f:0<b)(hd:0<d):Rat.divInt a b<Rat.divInt c d↔a*d<c*b:=by
 have e:=Rat.divInt_sub_divInt c a (d₁:=d) (d₂:=b) () ();have g:Rat.divInt a b<Rat.divInt c d↔0<Rat.divInt c d-Rat.divInt a b:=by constructor<;>intro z<;>grind
 rw[g,e,mN (Ip hd f)];omega
def ut(t b X m x:Int):Rat:=Rat.divInt (x*t+X*m) (b*m)
theorem t7{t b X m n x y:Int}(c:0<t)(a:0<b)(d:0<m)(f:0<n):ut t b X m x<ut t b X n y↔n*x<m*y:=by
 unfold ut;rw[nM (Ip a d) (Ip a f)];have e:(y*t+X*n)*(b*m)-(x*t+X*m)*(b*n)=(b*t)*(m*y-n*x):=by grind
 have:=ui (z:=m*y-n*x) (Ip a c);omega
theorem gA{t b X m n x y:Int}(d:0<t)(f:0<b)(g:0<m)(h:0<n):ut t b X m x=ut t b X n y↔n*x=m*y:=by
 have i:=t7 (X:=X) (x:=x) (y:=y) d f g h;have j:=t7 (X:=X) (x:=y) (y:=x) d f h g;constructor
 ·intro e;have a:¬ut t b X m x<ut t b X n y:=by rw[e];exact Rat.lt_irrefl
  have c:¬ut t b X n y<ut t b X m x:=by rw[e];exact Rat.lt_irrefl
  rw[i]at a;rw[j]at c;omega
 ·intro e;have a:¬ut t b X m x<ut t b X n y:=by rw[i];omega
  have c:¬ut t b X n y<ut t b X m x:=by rw[j];omega
  grind
theorem xP{t b X x:Int}:Rat.divInt (x*t+X) b=ut t b X 1 x:=by unfold ut;rw[Int.mul_one,Int.mul_one]
theorem nH{t b X Y m n x y u v:Int}(a:0<t)(c:0<b)(d:0<m)(e:0<n) : ah (ut t b X m x) (ut t b Y m y) (ut t b X n u) (ut t b Y n v)↔HT.lexLt [n*x,n*y] [m*u,m*v]=LC:=by
 unfold ah;rw[t7 a c d e,gA a c d e,t7 a c d e];simp only[HT.lexLt];by_cases h:n*x=m*u
 ·rw[LG h];by_cases f:n*y=m*v
  ·rw[LG f];simp;omega
  ·rw[LF f];simp;omega
 ·rw[LF h];simp;omega
theorem vJ(a b c d:Int):HT.lexLe [a,b] [c,d]=!HT.lexLt [c,d] [a,b]:=by
 simp only[HT.lexLe,HT.lexLt];by_cases h:a=c
 ·subst h;rw[LG rfl,LG rfl];by_cases f:b=d
  ·subst f;rw[LG rfl,LG rfl];rfl
  ·rw[LF f,LF (fun e=>f e.symm)];rw[<-decide_not,LK];omega
 ·rw[LF h,LF (fun e=>h e.symm),<-decide_not,LK];omega
theorem n8(a b c d:Int):HT.bV [a,b] [c,d]=HT.lexLt [c,d] [a,b]:=by
 simp only[HT.bV,HT.lexLt];by_cases h:a=c
 ·subst h;rw[LG rfl,LG rfl];by_cases f:b=d
  ·subst f;simp
  ·rw[LF f,LF (fun e=>f e.symm)]
 ·rw[LF h,LF (fun e=>h e.symm)]
theorem cE{a b c d:Int}:HT.lexLt [a,b] [c,d]=LC↔a<c\/(a=c/\b<d):=by
 simp only[HT.lexLt];by_cases h:a=c
 ·subst h;rw[LG rfl];by_cases e:b=d
  ·subst e;rw[LG rfl];simp
  ·rw[LF e];simp
 ·rw[LF h];simp;omega
end Ma
open Ma renaming wll->LV,ut->LW,Bq->LX,ah->LY,pos_int->LZ,cr->Lc,sgn->Ld,nH->Le,cE->Lf,gA->Lh,iV->Li,spt->Lj,fr->Lk,den_pos->Lm,iF->Ln
namespace SD
open PySem PySem.Spec PyProof.Rows L2
theorem av{M:MH}{a p:PySem.Addr}{o:MO}(h:M a=LA o)(b:M p=LB):a≠p:=fun e=>by subst e;rw[h]at b;cases b
def scl(t b x y:Int):D:=.tup [.int t,.int b,.int x,.int y]
structure Scl(t b x y:Int):Prop where
 t0:0<t
 t1:t<=10^24
 b0:0<b
 b1:b<=10^26
 x0:-(10^30)<=x
 x1:x<=10^30
 y0:-(10^30)<=y
 y1:y<=10^30
def uw(w:Int×Int×Int×Int):D:=.tup [.tup [.int w.1,.int w.2.1],.tup [.int w.2.2.1,.int w.2.2.2]]
def rwl(t b x y:Int)(w:Int×Int×Int×Int):D:=LV (LW t b x 1 w.1) (LW t b y 1 w.2.1) (LW t b x 1 w.2.2.1) (LW t b y 1 w.2.2.2)
def Uok(n:Int)(w:Int×Int×Int×Int):Prop:=(-n<=w.1/\w.1<=n)/\(-n<=w.2.1/\w.2.1<=n)/\(-n<=w.2.2.1/\w.2.2.1<=n)/\(-n<=w.2.2.2/\w.2.2.2<=n)
def uby(m:Int)(w:Int×Int×Int×Int):Int×Int×Int×Int:=(m*w.1,m*w.2.1,m*w.2.2.1,m*w.2.2.2)
theorem range_getD(l:List D):(Iv l.length).map (fun i=>(l[i]?).getD .non)=l:=by refine List.ext_getElem (by simp) fun i b a=>?_;simp[a]
theorem getD_map{b:Type}{f:b->D}{l:List b}{i:Nat}{a:b}(h:l[i]?=LA a):((l.map f)[i]?).getD .non=f a:=by rw[Ie,h];rfl
theorem Cd{t b x m p:Int}(h:0<t/\t<=10^24)(c:0<b/\b<=10^26)(i:-(10^30)<=x/\x<=10^30)(d:0<m/\m<=10^6)(j:-(10^6)<=p/\p<=10^6):LX 200 (LW t b x m p):=by
 have e:Bd 80 t:=by show t.natAbs<2^80;omega
 have a:Bd 64 m:=by show m.natAbs<2^64;omega
 have f:Bd 64 p:=by show p.natAbs<2^64;omega
 have g:Bd 90 b:=by show b.natAbs<2^90;omega
 have bx:Bd 100 x:=by show x.natAbs<2^100;omega
 refine Ma.Bq.divInt (by have:=Ip c.1 d.1;omega) ?_ ((g.mul a).mono ⋯);exact(((f.mul e).mono (by decide:64+80<=164)).add (bx.mul a)).mono ⋯
theorem Scl.bx{t b x y m p:Int}(S:Scl t b x y)(a:0<m/\m<=10^6)(c:-(10^6)<=p/\p<=10^6):LX 200 (LW t b x m p):=Cd ⟨S.t0,S.t1⟩ ⟨S.b0,S.b1⟩ ⟨S.x0,S.x1⟩ a c
theorem Scl.by'{t b x y m p:Int}(S:Scl t b x y)(a:0<m/\m<=10^6)(c:-(10^6)<=p/\p<=10^6):LX 200 (LW t b y m p):=Cd ⟨S.t0,S.t1⟩ ⟨S.b0,S.b1⟩ ⟨S.y0,S.y1⟩ a c
theorem pC(a b c d:Int):J0 (.tuple [.int a,.int b]) (.tuple [.int c,.int d])=decide (a=c/\b=d):=by simp only[J0,Jo,kJ,Bool.and_true,KH]
open PySem PySem.Spec PyProof.Rows L2 Ma
instance(a b c d:Rat):Decidable (LY a b c d):=inferInstanceAs (Decidable (_\/_))
def crs(a b c d:Int):Int:=a*d-b*c
theorem yh{t b X m x:Int}(a:0<b)(c:0<m):LW t b X m x=((t:Rat)/b)*((x:Rat)/m)+(X:Rat)/b:=by
 unfold LW;rw[Rat.divInt_eq_div];have d:(b:Rat)≠0:=by have:=LZ a;grind
 have e:(m:Rat)≠0:=by have:=LZ c;grind
 rw[Ki,J4,J4,J4];grind
theorem dh{t b X x:Int}(a:0<b):LW t b X 1 x=((t:Rat)/b)*(x:Rat)+(X:Rat)/b:=by rw[yh a ⋯];have:((1:Int):Rat)=1:=rfl;rw[this];grind
theorem xV(k x y p q r s e f:Rat):Lc (k*p+x) (k*q+y) (k*r+x) (k*s+y) (k*e+x) (k*f+y)=k*k*((r-p)*(f-q)-(s-q)*(e-p)):=by unfold Lc;grind
theorem GB{t b X Y p q r s e f:Int}(a:0<b):Lc (LW t b X 1 p) (LW t b Y 1 q) (LW t b X 1 r) (LW t b Y 1 s) (LW t b X 1 e) (LW t b Y 1 f)=((t:Rat)/b)*((t:Rat)/b)*((crs (r-p) (s-q) (e-p) (f-q):Int):Rat):=by rw[dh a,dh a,dh a,dh a,dh a,dh a,xV];unfold crs;rw[K6,J4,J4,K6,K6,K6,K6]
theorem sgn_mul{k:Rat}(a:0<k)(z:Int):Ld (k*(z:Rat))=Ij z:=by
 unfold Ld;by_cases b:0<z
 ·rw[LG (Kr a (LZ b)),IX b]
 ·by_cases c:z<0
  ·have d:0<k*((-z:Int):Rat):=Kr a (LZ ());rw[Rat.intCast_neg]at d;rw[LF (by grind),LG (by grind),II c]
  ·obtain rfl:z=0:=()
   have:((0:Int):Rat)=0:=rfl;rw[this];simp
theorem oG{k:Rat}(a:0<k)(z:Int):k*(z:Rat)=0↔z=0:=by have h:=sgn_mul a z;rw[<-Ma.qW,h];exact Int.sign_eq_zero_iff_zero
theorem dr{x y:Int}:0<Ij x*Ij y↔(0<x/\0<y)\/(x<0/\y<0):=by
 rcases Ig x 0 with h|h|h<;>rcases Ig y 0 with a|a|a
 ·rw[II h,II a];omega
 ·subst a;simp
 ·rw[II h,IX a];omega
 ·subst h;simp
 ·subst h;simp
 ·subst h;simp
 ·rw[IX h,II a];omega
 ·subst a;simp
 ·rw[IX h,IX a];omega
theorem FF{t b X Y p q e f:Int}(a:0<t)(c:0<b):LY (LW t b X 1 p) (LW t b Y 1 q) (LW t b X 1 e) (LW t b Y 1 f)↔(p<e\/(p=e/\q<f)):=by rw[Le a c ⋯ ⋯,Lf];omega
end SD
namespace HT
open PySem PyProof.Rows
end HT
namespace SD
open PySem PySem.Spec PyProof.Rows L2
section
variable{X:Cx}
def AZ(g:Bool->Bool):R2D:=fun x y M Q=>∃p ps,Pd M x p/\(Pd M y (.list ps)\/Pd M y (.tuple ps))/\Jy p=LC/\JK ps=LC/\Q (.bl (g (ps.any fun q=>J0 q p))) M
theorem lV{p:KU}{n:Nat}(h:Jy p=LC):min n p.depth<=63+1:=Jp (Nat.min_le_right _ _) (SeqAt.depth_of_shaped h)
theorem GC(r:X.A.units+66<Jq):OpD X (IY .In) (AZ fun b=>b):=by
 intro pins s σ H v u t w Q I m g h;obtain⟨x,y,M,R,o,i,a,⟨p,ps,q,c,e,j,k⟩,d⟩:=h;obtain⟨z,l⟩:=bR I a q o m;have B:=lV (n:=Kj ps) e;rcases c with c|c
 ·obtain⟨bs,f⟩:=bR I a c i g;exact SeqAt.in_list_reads f l j (Kn e) () ⟨.bl _,H,I,rfl,d _ _ _ _ .refl (by rw[Rep]) a k⟩
 ·obtain⟨bs,f⟩:=bR I a c i g;exact SeqAt.in_tuple_reads f l j (Kn e) () ⟨.bl _,H,I,rfl,d _ _ _ _ .refl (by rw[Rep]) a k⟩
theorem zt(r:X.A.units+66<Jq):OpD X (IY .NotIn) (AZ fun b=>!b):=by
 intro pins s σ H v u t w Q I m g h;obtain⟨x,y,M,R,o,i,a,⟨p,ps,q,c,e,j,k⟩,d⟩:=h;obtain⟨z,l⟩:=bR I a q o m;have B:=lV (n:=Kj ps) e;rcases c with c|c
 ·obtain⟨bs,f⟩:=bR I a c i g;exact SeqAt.notIn_list_reads f l j (Kn e) () ⟨.bl _,H,I,rfl,d _ _ _ _ .refl (by rw[Rep]) a k⟩
 ·obtain⟨bs,f⟩:=bR I a c i g;exact SeqAt.notIn_tuple_reads f l j (Kn e) () ⟨.bl _,H,I,rfl,d _ _ _ _ .refl (by rw[Rep]) a k⟩
theorem rh{K:H0}{H:Hp}:∀{bs:List Bool} {xs:List V},aE K H (bs.map D.bl) xs->xs=bs.map V.bl
 |[],xs,h=>by rw[JF,aE]at h;exact h
 |n::ns,xs,h=>by
  rw[Ih,aE]at h
  obtain⟨x,r,rfl,a,b⟩:=h
  rw[Rep]at a
  rw[a,rh b];rfl
theorem lK:∀{bs:List Bool} {us:List HY},Vals (bs.map V.bl) us->us=bs.map L5
 |[],_,.nil=>rfl
 |b::bs,_,.cons r t=>by
  cases (show _=L5 b from r)
  rw[lK t];rfl
def FY:RC:=fun a M Q=>match a with
 |[.ref l]=>∃bs:List Bool,M l=LA (.lst (JI D.bl bs))/\Q (.bl (bs.all id)) M
 |_=>False
theorem vX(h:X.calm=LC):cG X (.builtin "all") (fun xs H Q=>∃(p:Addr) (bs:List Bool),xs=[.ref p]/\SqL X.K H p (bs.map V.bl)/\Q (.bl (bs.all id)) H):=by
 intro pins s σ H xs us Q I r j;obtain⟨l,bs,e,m,k⟩:=j;subst e;obtain⟨u,rfl,n⟩:=vals1 r;cases n;obtain⟨c,o,q,_⟩:=I.list m;have g:=lK o;have d:=q.isList;have lt:l≠s.heap.objs.size:=J6 (let⟨_,e,_⟩:=d;Iy e);refine call_all_walk (x:=.ref l) (wpAny_pyIter_list d ⟨s.heap.objs.size,[s.heap.objs.size,l],[s.heap.objs.size],c.toArray.size,_,_,fun i=>(bs[i]?).getD LC,rfl,Walks.list (A:=X.A.in1) (I.ok.hd h) _ l lt c.toArray,⟨⟨_,Ik _ rfl,rfl,rfl⟩,d.push _⟩,fun i v t w C y z=>?_,fun D E B=>?_⟩)
 ·have a:c[i]?=LA v:=by simpa using y
  rw[g,Ie]at a;cases eb:bs[i]? with
  |none=>rw[eb]at a;cases a
  |some b=>
   rw[eb]at a
   cases a
   have f:w b t:=by simpa[eb]using z
   exact JB f
 ·rw[show((Iv c.toArray.size).all fun i=>(bs[i]?).getD LC)=bs.all id by rw[IB,g,Ii];exact LSm.range_all bs];exact⟨.bl (bs.all id),H,I.kept (LSm.kept_iter B),rfl,k⟩
theorem Ds(d:X.calm=LC):fh X (.builtin "all") FY:=cI (vX d) fun vs H Q f=>by
 obtain⟨i,M,R,g,a,q,b⟩:=f;unfold FY at q;split at q
 ·obtain⟨bs,e,q⟩:=q;obtain⟨v,rfl,r⟩:=cH g;rw[Rep]at r;subst r;obtain⟨xs,c,h⟩:=a _ _ e;rw[rh h]at c;exact⟨_,bs,rfl,SqL.of c,b _ _ _ _ .refl (by rw[Rep]) a q⟩
 ·exact q.elim
def Fd(c:TD)(t:TAD):TD:=fun δ M Q=>c δ M fun x a=>∃l e,x=.ref l/\a l=LA (.lst e)/\t δ a fun f b=>∃xs d,f=[d]/\b l=LA (.lst xs)/\xs.length<1000000/\Q .non (ay b l (.lst (xs++[d])))
variable{o e:Expr}{to:TD}{t:TAD}{apos br:Pos}
theorem bo(z:DE X o to)(A:DA X [e] t)
 (b:attributeBase o "append" X.env (eval o X.env)=eval o X.env:=by rfl)
 (i:((JL br (Iz [e] X.env)).all (fun x=>!x.1)&&(backToKw br (KJ [] X.env)).all (fun x=>x.1.isSome)
  && decide ([e].length+([]:List Keyword).length+(if([]:List Keyword).isEmpty then 0 else 1)<30))=LC:=by rfl)
 (c:(apos.endLine==br.line)=LC:=by rfl) (B:Iz [e] X.env=(LD,eval e X.env)::Iz [] X.env:=by rfl) (a:(JL br (Iz [] X.env)).any (·.1)=LD:=by rfl) :
 DE X (.Call (.Attribute o "append" apos) [e] [] br) (Fd to t):=
 bj (B3 PySem.F.plainAttrs_list PySem.F.slot_list_append PySem.F.type_list_append jJ z A b i c B a) fun σ H Q C=>by
  obtain⟨δ,M,R,j,D,q,m⟩:=C
  refine⟨δ,M,_,j,D,q,fun x E v H1 p r s f=>?_⟩
  obtain⟨l,S,ex,G,I⟩:=f
  subst ex
  rw[Rep]at r
  subst r
  obtain⟨vs,n,_⟩:=s _ _ G
  refine⟨.inl ⟨rfl,vs,SqL.of n⟩,δ,E,_,j.mono p,s,I,fun T U us V J K w g=>?_⟩
  obtain⟨xs,d,L,N,W,O⟩:=g
  subst L
  obtain⟨u,rfl,P⟩:=cH K
  obtain⟨ws,h,k⟩:=w _ _ N
  have y:=k.length
  refine⟨l,ws,u,rfl,rfl,h,IM () (show 1000000<=Ir from nbL rfl),?_⟩
  exact m _ _ _ _ (p.trans (J.trans (.lst h))) (by rw[Rep]) (w.zl h (k.append (.cons P .nil))) O
end
theorem lZ{k:Nat}{A:Jd}(r:Room k A):A.units+66<Jq:=by have:=r.un;omega
abbrev Wl:=Int×Int×Int×Int
def la(x y:Int):Int:=100*x+y
def l1(w:Wl):Int:=la w.1 w.2.1
def l2(w:Wl):Int:=la w.2.2.1 w.2.2.2
def sd(w:Wl)(x y:Int):Int:=crs (w.2.2.1-w.1) (w.2.2.2-w.2.1) (x-w.1) (y-w.2.1)
def sd1(w v:Wl):Int:=sd w v.1 v.2.1
def sd2(w v:Wl):Int:=sd w v.2.2.1 v.2.2.2
structure Un5(w:Wl):Prop where
 a:0<=w.1/\w.1<=20
 b:0<=w.2.1/\w.2.1<=20
 c:0<=w.2.2.1/\w.2.2.1<=20
 d:0<=w.2.2.2/\w.2.2.2<=20
 lt:l1 w<l2 w
def bH(w:Wl)(l s:Int):Prop:=l=l1 w\/l=l2 w\/l<l1 w\/l2 w<l\/s≠0
structure Fair(U V:Wl):Prop where
 ne:¬(l1 U=l1 V/\l2 U=l2 V)
 e1:bH U (l1 V) (sd1 U V)
 e2:bH U (l2 V) (sd2 U V)
 e3:bH V (l1 U) (sd1 V U)
 e4:bH V (l2 U) (sd2 V U)
 pr:0<=Ij (sd1 U V)*Ij (sd2 U V)\/0<=Ij (sd1 V U)*Ij (sd2 V U)
theorem Fair.swap{U V:Wl}(h:Fair U V):Fair V U:=⟨fun z=>h.ne ⟨z.1.symm,z.2.symm⟩,h.e3,h.e4,h.e1,h.e2,h.pr.symm⟩
def abv(U V:Wl):Bool:=
 if max (l1 U) (l1 V)<min (l2 U) (l2 V)then
  if l1 U=l1 V then(if l2 U<l2 V then decide (0<sd2 V U)else decide (sd2 U V<0))
  else if l1 V<l1 U then decide (0<sd1 V U)else decide (sd1 U V<0)
 else LD
theorem sg1(z:Int):Ij z=1↔0<z:=Int.sign_eq_one_iff_pos
theorem sgm(z:Int):-Ij z=1↔z<0:=by
 rcases Ig z 0 with h|h|h
 ·rw[II h];omega
 ·subst h;simp
 ·rw[IX h];omega
theorem sgp{x y:Int}(h:0<=Ij x*Ij y):¬(0<x/\y<0)/\¬(x<0/\0<y):=by
 constructor
 ·rintro⟨a,b⟩;rw[IX a,II b]at h;omega
 ·rintro⟨a,b⟩;rw[II a,IX b]at h;omega
theorem dQ{z k:Int}(a:0<k)(h:0<z*k):0<z:=by
 rcases Ig z 0 with q|q|q
 ·have:=IE q a;omega
 ·subst q;simp at h
 ·exact q
theorem fD{z k:Int}(a:0<k)(h:z*k<0):z<0:=by
 rcases Ig z 0 with q|q|q
 ·exact q
 ·subst q;simp at h
 ·have:=Ip q a;omega
theorem within{a b c d g h e f:Int}(p:a*(f-e)=d*(g-e)-c*(h-e))(q:b*(f-e)=d*(g-f)-c*(h-f))
 (r:e<g) (s:e<h) (t:g<f) (u:h<f) (F:(¬(0<c/\d<0)/\¬(c<0/\0<d))\/(¬(0<a/\b<0)/\¬(a<0/\0<b))) (v:c≠0) (w:d≠0):0<c↔0<d:=by
 have k:0<f-e:=()
 have A:¬(0<c/\d<0):=fun i=>by
  obtain⟨x,y⟩:=i
  have j:=IE y (():0<g-e)
  have l:=Ip x (():0<h-e)
  have m:=IT y (():g-f<0)
  have n:=Io x (():h-f<0)
  have o:=fD (z:=a) k ()
  have b1:=dQ (z:=b) k ()
  omega
 have B:¬(c<0/\0<d):=fun i=>by
  obtain⟨x,y⟩:=i
  have j:=Ip y (():0<g-e)
  have l:=IE x (():0<h-e)
  have m:=Io y (():g-f<0)
  have n:=IT x (():h-f<0)
  have o:=dQ (z:=a) k ()
  have b1:=fD (z:=b) k ()
  omega
 omega
theorem iQ{a b c d f h i g:Int}(q:b*(g-i)=d*(f-g)-c*(h-g))(r:c*(h-f)=b*(i-f)-a*(g-f))
 (s:i<f) (t:f<g) (u:g<h) (F:(¬(0<c/\d<0)/\¬(c<0/\0<d))\/(¬(0<a/\b<0)/\¬(a<0/\0<b))) (v:c≠0) (b0:b≠0):0<c↔b<0:=by
 have e:d*(f-g)=-(d*(g-f)):=by rw[<-Int.mul_neg];congr 1;omega
 have w:¬(0<c/\0<b):=fun j=>by
  obtain⟨x,y⟩:=j
  have k:=Ip y (():0<g-i)
  have l:=Ip x (():0<h-g)
  have m:=Ip x (():0<h-f)
  have n:=Io y (():i-f<0)
  have o:=fD (z:=a) (():0<g-f) ()
  have p:=fD (z:=d) (():0<g-f) ()
  omega
 have A:¬(c<0/\b<0):=fun j=>by
  obtain⟨x,y⟩:=j
  have k:=IE y (():0<g-i)
  have l:=IE x (():0<h-g)
  have m:=IE x (():0<h-f)
  have n:=IT y (():i-f<0)
  have o:=dQ (z:=a) (():0<g-f) ()
  have p:=dQ (z:=d) (():0<g-f) ()
  omega
 omega
theorem qa(U V:Wl):sd1 U V*(l2 V-l1 V)=sd2 V U*(l1 U-l1 V)-sd1 V U*(l2 U-l1 V):=by unfold sd1 sd2 sd l1 l2 la crs;grind
theorem p5(U V:Wl):sd2 U V*(l2 V-l1 V)=sd2 V U*(l1 U-l2 V)-sd1 V U*(l2 U-l2 V):=by unfold sd1 sd2 sd l1 l2 la crs;grind
theorem gE{x y u v:Int}(a:0<=y/\y<=20)(b:0<=v/\v<=20)(h:la x y=la u v):x=u/\y=v:=by unfold la at h;omega
theorem ve{U V:Wl}(a:Un5 U)(c:Un5 V)(h:l1 U=l1 V):sd1 U V=0:=by obtain⟨e1,e2⟩:=gE a.b c.b h;unfold sd1 sd crs;rw[e1,e2];simp
theorem mH{U V:Wl}(a:Un5 U)(b:Un5 V)(h:l2 U=l2 V):sd2 U V=0:=by obtain⟨e1,e2⟩:=gE a.d b.d h;unfold sd2 sd crs;rw[e1,e2];grind
theorem bH.nz{w:Wl}{l s:Int}(h:bH w l s)(a:l1 w<l)(b:l<l2 w):s≠0:=by
 unfold bH at h;rcases h with h|h|h|h|h
 ·omega
 ·omega
 ·omega
 ·omega
 ·exact h
theorem bC{a b c d:Int}:max a c<min b d↔a<b/\a<d/\c<b/\c<d:=by rw[Int.max_lt,Int.lt_min,Int.lt_min,and_assoc]
section
variable{U V:Wl}(ap:max (l1 U) (l1 V)<min (l2 U) (l2 V))
include ap
theorem kd(z:l1 U<l1 V):abv U V=decide (sd1 U V<0):=by unfold abv;rw[LG ap,LF (Int.ne_of_lt z),LF (Int.not_lt.mpr (J9 z))]
theorem lO(z:l1 V<l1 U):abv U V=decide (0<sd1 V U):=by unfold abv;rw[LG ap,LF (fun e=>Int.ne_of_lt z e.symm),LG z]
theorem uU(z:l1 U=l1 V)(y:l2 U<l2 V):abv U V=decide (0<sd2 V U):=by unfold abv;rw[LG ap,LG z,LG y]
theorem qr(z:l1 U=l1 V)(y:¬l2 U<l2 V):abv U V=decide (sd2 U V<0):=by unfold abv;rw[LG ap,LG z,LF y]
end
theorem wF{a:Int}(h:a≠0):decide (0<a)=!decide (a<0):=by rw[<-decide_not,LK];omega
theorem sG{a:Int}(h:a≠0):decide (a<0)=!decide (0<a):=by rw[<-decide_not,LK];omega
theorem du{U V:Wl}(d:Un5 U)(e:Un5 V)(F:Fair U V)(b:max (l1 U) (l1 V)<min (l2 U) (l2 V)):abv V U=!abv U V:=by
 have c:=b;rw[Int.max_comm,Int.min_comm]at c;have o:=bC.mp b;rcases Ig (l1 U) (l1 V)with h|h|h
 ·rw[lO c h,kd b h,wF (F.e1.nz h o.2.2.1)]
 ·rcases Ig (l2 U) (l2 V)with a|a|a
  ·rw[qr c h.symm (Int.not_lt.mpr (J9 a)),uU b h a,sG (F.e4.nz o.2.2.1 a)]
  ·exact absurd ⟨h,a⟩ F.ne
  ·rw[uU c h.symm a,qr b h (Int.not_lt.mpr (J9 a)),wF (F.e2.nz o.2.1 a)]
 ·rw[kd c h,lO b h,sG (F.e3.nz h o.2.1)]
theorem Cb{a b c d:Int}(e:0<=b/\b<=20)(hd:0<=d/\d<=20):HT.lexLt [a,b] [c,d]=decide (la a b<la c d):=by have h:=Lf (a:=a) (b:=b) (c:=c) (d:=d);rw[K7,h,LL];unfold la;omega
theorem Fi{a b c d:Int}(e:0<=b/\b<=20)(hd:0<=d/\d<=20):HT.bV [a,b] [c,d]=decide (la c d<la a b):=by rw[Ma.n8,Cb hd e]
theorem zg{x y u v:Int}(a:0<=y/\y<=20)(b:0<=v/\v<=20):(x=u/\y=v)↔la x y=la u v:=by unfold la;omega
theorem uM{I:ItD}{tk:Tgt}{js:List Nat}{tc:TTD}{te:TD}{δ:DS}{b:MH}{Q:DK}(f:Nat->Option D)(j:I.n<=1000000)(hC:∀p a,b p=LB->I.C (ay b p (.lst a))) (h:∀i d M,i<I.n->I.item i=LA d->Sub b M->∃os,zu tk d os/\(∀K:Bool->MH->Prop,K (f i).isSome M->tc (cδ os js δ) M K)/\∀e,f i=LA e->∀K:DK,(∀c,Sub M c->K e c)->te (cδ os js δ) M K) (k:∀p,b p=LB->Q (.ref p) (ay b p (.lst ((Iv I.n).filterMap f)))):xJ I tk js tc te δ b Q:=by
 refine⟨j,fun p g=>⟨fun i a M=>a=(Iv i).filterMap f/\M=ay b p (.lst a),⟨rfl,rfl⟩,?_,?_,?_⟩⟩
 ·rintro i a M _ ⟨_,rfl⟩;exact hC p a g
 ·rintro i a d M l hd ⟨rfl,rfl⟩;obtain⟨os,m,o,q⟩:=h i d _ l hd (.new g .refl);refine⟨os,m,o _ ?_⟩;cases e:f i with
  |none=>
   refine fv rfl ⟨_,.refl,?_,?_⟩
   ·rw[JE,KC];simp[e]
   ·rfl
  |some v=>
   refine oI rfl (q v e _ fun c r=>⟨_,r,ai,?_,by rw[a9]⟩)
   rw[JE,KC];simp[e]
 ·rintro a M ⟨rfl,rfl⟩;exact k p g
theorem yO{A:Wl}{x y:Int}(c:Un5 A)(e:0<=y/\y<=20)(h:(!(decide (A.1=x/\A.2.1=y)||decide (A.2.2.1=x/\A.2.2.2=y))&&(decide (l1 A<=la x y)&&decide (la x y<=l2 A)&&decide (sd A x y=0)))=LD):bH A (la x y) (sd A x y):=by
 unfold bH;by_cases f:A.1=x/\A.2.1=y
 ·exact .inl ((zg c.b e).mp f).symm
 ·by_cases g:A.2.2.1=x/\A.2.2.2=y
  ·exact .inr (.inl ((zg c.d e).mp g).symm)
  ·rw[LH f,LH g,Bool.or_false,Bool.not_false,Jl,<-KH,<-KH,decide_eq_false_iff_not]at h;by_cases i:sd A x y=0
   ·rcases Int.lt_or_le (la x y) (l1 A)with z|z
    ·exact .inr (.inr (.inl z))
    ·rcases Int.lt_or_le (l2 A) (la x y)with a|a
     ·exact .inr (.inr (.inr (.inl a)))
     ·exact absurd ⟨⟨z,a⟩,i⟩ h
   ·exact .inr (.inr (.inr (.inr i)))
theorem CY(M:MH)(A:Wl)(x y:Int)(g:Bool->Bool)(Q:DK)(q:Q (.bl (g (decide (A.1=x/\A.2.1=y)||decide (A.2.2.1=x/\A.2.2.2=y)))) M):AZ g (.tup [.int x,.int y]) (uw A) M Q:=by refine⟨_,_,Pd.of rfl,.inr (Pd.of rfl),rfl,rfl,?_⟩;rw[Kp,Kp,List.any_nil,pC,pC,Bool.or_false];exact q
theorem uj(z:Int):Bd 64 (Ij z):=by
 rcases Ig z 0 with h|h|h
 ·rw[II h];decide
 ·subst h;decide
 ·rw[IX h];decide
def uwP(w:Wl):KU:=.tuple [.tuple [.int w.1,.int w.2.1],.tuple [.int w.2.2.1,.int w.2.2.2]]
theorem tS{M:MH}:∀ws:List Wl,Pds M (ws.map uw) (ws.map uwP)
 |[]=>.nil
 |w::ws=>.cons (Pd.of rfl) (tS ws)
theorem zF:∀ws:List Wl,JK (ws.map uwP)=LC
 |[]=>rfl
 |w::ws=>by rw[Ih,JK,zF ws];rfl
theorem xR:∀ws:List Wl,Kj (ws.map uwP)<=10
 |[]=>nbL rfl
 |w::ws=>by
  rw[Ih,Kj]
  exact Nat.max_le.mpr ⟨nbL rfl,xR ws⟩
theorem nq(ws:List Wl):Jy (.list (ws.map uwP))=LC:=by unfold Jy;have a:=zF ws;have b:=xR ws;rw[ID];refine⟨by rw[KZ];exact a,LI ?_⟩;rw[PyData.depth];omega
theorem lT:∀ws:List Wl,J0 (.list (ws.map uwP)) (.list [])=ws.isEmpty
 |[]=>by simp[J0,Jo]
 |w::ws=>by simp[J0,Jo]
def PF(ws:List Wl):Prop:=∀(i j:Nat) (U V:Wl),i≠j->ws[i]?=LA U->ws[j]?=LA V->Fair U V
theorem C4:PF []:=fun i j U V _ h=>by simp at h
theorem wu{ws:List Wl}{U:Wl}(h:PF ws)(d:∀(j:Nat) (w:Wl),ws[j]?=LA w->Fair U w):PF (ws++[U]):=by
 intro i j A B c f g
 have get:∀{k:Nat} {C:Wl},(ws++[U])[k]?=LA C->ws[k]?=LA C\/(k=ws.length/\C=U):=fun{k C} e=>by
  rcases Nat.lt_trichotomy k ws.length with z|z|z
  ·rw[Jk z]at e;exact .inl e
  ·subst z;rw[Jf (Ic _)]at e;simp at e;exact .inr ⟨rfl,e.symm⟩
  ·rw[List.getElem?_eq_none (by simp;omega)]at e;cases e
 rcases get f with a|⟨a,rfl⟩<;>rcases get g with b|⟨b,rfl⟩
 ·exact h i j A B c a b
 ·exact(d _ _ a).swap
 ·exact d _ _ b
 ·omega
theorem wI{w:Wl}(h:Un5 w){v:Int}(e:0<=v)(f:v<2):∃x y,atI [D.tup [.int w.1,.int w.2.1],.tup [.int w.2.2.1,.int w.2.2.2]] v=LA (.tup [.int x,.int y])/\(0<=x/\x<=20)/\(0<=y/\y<=20):=by
 rcases(():v=0\/v=1)with rfl|rfl
 ·exact⟨_,_,rfl,h.a,h.b⟩
 ·exact⟨_,_,rfl,h.c,h.d⟩
theorem Ah{ws:List Wl}{v:Int}(b:0<=v)(c:v<ws.length):∃w,w∈ws/\atI (ws.map uw) v=LA (uw w):=by
 obtain⟨j,rfl⟩:∃j:Nat,v=(j:Int):=⟨v.toNat,()⟩;have a:j<ws.length:=()
 exact⟨ws[j],Jn a,bZ (by simp[a])⟩
theorem vT{p q e f:Int}(c:0<=p/\p<=20)(a:0<=q/\q<=20)(d:0<=e/\e<=20)(b:0<=f/\f<=20)(ne:¬(p=e/\q=f)) :
 ∃w:Wl,(if HT.lexLt [e,f] [p,q]=LC then[e,f]else[p,q])=[w.1,w.2.1]/\(if HT.bV [e,f] [p,q]=LC then[e,f]else[p,q])=[w.2.2.1,w.2.2.2]/\Un5 w:=by
 rw[Cb b a,Fi b a]
 have i:la p q≠la e f:=fun z=>ne ((zg a b).mpr z)
 by_cases h:la e f<la p q
 ·exact⟨(e,f,p,q),by rw[LG (LI h)],by rw[LF (by simp;omega)],⟨d,b,c,a,h⟩⟩
 ·have g:la p q<la e f:=()
  exact⟨(p,q,e,f),by rw[LF (by simpa using h)],by rw[LG (LI g)],⟨c,a,d,b,g⟩⟩
theorem mF{t b X Y p q e f:Int}(a:0<t)(c:0<b)(d:0<=q/\q<=20)(g:0<=f/\f<=20):LY (LW t b X 1 p) (LW t b Y 1 q) (LW t b X 1 e) (LW t b Y 1 f)↔la p q<la e f:=by rw[FF a c];unfold la;omega
theorem iR{t b X Y p q e f:Int}(a:0<t)(c:0<b)(d:0<=q/\q<=20)(g:0<=f/\f<=20):(LW t b X 1 p=LW t b X 1 e/\LW t b Y 1 q=LW t b Y 1 f)↔la p q=la e f:=by rw[Lh a c ⋯ ⋯,Lh a c ⋯ ⋯];unfold la;omega
theorem jD{t b X Y:Int}(c:0<t)(a:0<b)(w:Wl)(x y:Int):Ld (Lc (LW t b X 1 w.1) (LW t b Y 1 w.2.1) (LW t b X 1 w.2.2.1) (LW t b Y 1 w.2.2.2) (LW t b X 1 x) (LW t b Y 1 y))=Ij (sd w x y):=by
 have k:(0:Rat)<(t:Rat)/b:=by rw[L4];exact Kr (LZ c) (Rat.inv_pos.mpr (LZ a))
 rw[GB a,sgn_mul (Kr k k)];rfl
theorem G5(z:Int):Ij z=-1↔z<0:=by rw[<-sgm];omega
section
variable{X:Cx}
def hZ{a:Type}(xs:List a)(j:Nat)(y:a):List a:=xs.take j++y::xs.drop j
def Be:V->List V->Hp->VK->Prop:=fun x vs H Q=>∃l xs y,∃(k:Int) (j:Nat),x=.ref l/\vs=[.int k,y]/\k=(j:Int)/\H l=LA (.lst xs)/\j<=xs.length/\xs.length<1000000/\Q .non (upd H l (.lst (hZ xs j y)))
theorem Ay(a:List HY)(k:Int)(j:Nat)(u:HY)(b:k=(j:Int))(c:j<=a.length) :
 (a.toArray.extract 0 (if k<0 then(k+((a.toArray.size:Nat):Int)).toNat else min k.toNat a.toArray.size)).push u++a.toArray.extract (if k<0 then(k+((a.toArray.size:Nat):Int)).toNat else min k.toNat a.toArray.size)=(hZ a j u).toArray:=by
 have e:(if k<0 then(k+((a.toArray.size:Nat):Int)).toNat else min k.toNat a.toArray.size)=j:=by
  rw[LF (),IB];omega
 rw[e]
 apply Array.toList_inj.mp
 simp[hZ]
 exact JH (by simp)
theorem we:MtM X "list.insert" Be:=by
 intro pins s σ H x vs v us Q I g h i;obtain⟨l,xs,y,k,j,ex,m,o,f,A,B,q⟩:=i;subst ex m;cases g;obtain⟨C,c,rfl,p,u⟩:=h.two;obtain⟨t,rfl⟩:=p;obtain⟨z,a,n,r,w,e⟩:=I.oE f;have b:Builtin.List.listFitsIndex k=LC:=by unfold Builtin.List.listFitsIndex;simp;omega
 have d:a.toArray.size<=Ir:=by rw[IB,<-w];exact z
 refine call_meets PySem.F.slot_list_insert ⟨_,e,rfl⟩ PySem.F.entry_list_insert (PySem.F.args_list_insert_3 _ _ _) (PySem.AutoSeq1.list_insert_list_int_val_1 l a.toArray n k t c (by rw[b];decide) d) ⟨e,?_⟩;refine⟨.non,_,I.GF (its':=hZ a j c) f e (Ay a k j c o ()) ((Vals.take j r).append (.cons u (Vals.drop j r))) ?_,rfl,q⟩;show(xs.take j++y::xs.drop j).length<=Ir;simp only[JC,Kt,Jg,List.length_drop];have:1000000<=Ir:=nbL rfl;omega
def Gm(c:TD)(t:TAD):TD:=fun δ M Q=>c δ M fun x a=>∃l e,x=.ref l/\a l=LA (.lst e)/\t δ a fun f b=>∃xs d,∃j:Nat,f=[.int (j:Int),d]/\b l=LA (.lst xs)/\j<=xs.length/\xs.length<1000000/\Q .non (ay b l (.lst (hZ xs j d)))
variable{o e1 e2:Expr}{to:TD}{t:TAD}{apos br:Pos}
theorem j4(A:DE X o to)(B:DA X [e1,e2] t)
 (b:attributeBase o "insert" X.env (eval o X.env)=eval o X.env:=by rfl)
 (i:((JL br (Iz [e1,e2] X.env)).all (fun x=>!x.1)&&(backToKw br (KJ [] X.env)).all (fun x=>x.1.isSome)
  && decide ([e1,e2].length+([]:List Keyword).length+(if([]:List Keyword).isEmpty then 0 else 1)<30))=LC:=by rfl)
 (c:(apos.endLine==br.line)=LC:=by rfl) (C:Iz [e1,e2] X.env=(LD,eval e1 X.env)::Iz [e2] X.env:=by rfl) (a:(JL br (Iz [e2] X.env)).any (·.1)=LD:=by rfl) :
 DE X (.Call (.Attribute o "insert" apos) [e1,e2] [] br) (Gm to t):=
 bj (B3 PySem.F.plainAttrs_list PySem.F.slot_list_insert PySem.F.type_list_insert we A B b i c C a) fun σ H Q D=>by
  obtain⟨δ,M,R,k,E,q,n⟩:=D
  refine⟨δ,M,_,k,E,q,fun x G v H1 s u w e=>?_⟩
  obtain⟨l,T,ex,I,J⟩:=e
  subst ex
  rw[Rep]at u
  subst u
  obtain⟨vs,p,_⟩:=w _ _ I
  refine⟨.inl ⟨rfl,vs,SqL.of p⟩,δ,G,_,k.mono s,w,J,fun U V us W K L y f=>?_⟩
  obtain⟨xs,d,j,N,O,Y,Z,P⟩:=f
  subst N
  obtain⟨u1,S,rfl,m,r⟩:=gi L
  rw[Rep]at m
  subst m
  obtain⟨ws,g,h⟩:=y _ _ O
  have z:=h.length
  exact⟨l,ws,S,_,j,rfl,rfl,rfl,g,(),(),n _ _ _ _ (s.trans (K.trans (.lst g))) (by rw[Rep]) (y.zl g ((h.take j).append (.cons r (h.drop j)))) P⟩
def xy:RC:=fun a M Q=>match a with
 |[.ref l]=>∃xs,M l=LA (.lst xs)/\∀p,M p=LB->Q (.ref p) (ay M p (.lst xs))
 |[.tup xs]=>∀p,M p=LB->Q (.ref p) (ay M p (.lst xs))
 |_=>False
theorem Ao:fh X (.type "list") xy:=cI pJ fun vs H Q h=>by
 obtain⟨i,M,R,g,a,q,c⟩:=h;unfold xy at q;split at q
 ·obtain⟨j,e,q⟩:=q;obtain⟨v,rfl,r⟩:=cH g;rw[Rep]at r;subst r;obtain⟨xs,d,f⟩:=a _ _ e;exact⟨_,xs,rfl,.inl (SqL.of d),fun z b=>c _ _ _ _ (.new b) (by rw[Rep]) (a.m8 b f) (q z (a.fresh b))⟩
 ·obtain⟨v,rfl,r⟩:=cH g;rw[Rep]at r;obtain⟨p,xs,rfl,d,f⟩:=r;exact⟨_,xs,rfl,.inr d,fun z b=>c _ _ _ _ (.new b) (by rw[Rep]) (a.m8 b f) (q z (a.fresh b))⟩
 ·exact q.elim
end
def lam(w:Wl):Int:=l2 w-l1 w
def Nm(w:Wl)(t:Int):Int:=2*w.1*lam w+(t-2*l1 w)*(w.2.2.1-w.1)
def Gh(U V:Wl)(t:Int):Int:=Nm V t*lam U-Nm U t*lam V
theorem Fw(U V:Wl):Gh U V (2*l1 U)=2*(lam U*sd1 V U):=by unfold Gh Nm lam sd1 sd l1 l2 la crs;grind
theorem Fq(U V:Wl):Gh U V (2*l2 U)=2*(lam U*sd2 V U):=by unfold Gh Nm lam sd2 sd l1 l2 la crs;grind
theorem t5(U V:Wl)(t:Int):Gh V U t=-Gh U V t:=by unfold Gh;grind
theorem Ha(U V:Wl):Gh U V (2*l1 V)=-(2*(lam V*sd1 U V)):=by rw[<-Fw,t5]
theorem Hu(U V:Wl):Gh U V (2*l2 V)=-(2*(lam V*sd2 U V)):=by rw[<-Fq,t5]
theorem GU(U V:Wl)(p q t:Int):Gh U V t*(q-p)=Gh U V p*(q-t)+Gh U V q*(t-p):=by unfold Gh Nm;grind
theorem e9{U V:Wl}{p q t:Int}(c:p<t)(d:t<q)(a:0<=Gh U V p)(b:0<=Gh U V q)(g:0<Gh U V p\/0<Gh U V q):0<Gh U V t:=by
 refine dQ (k:=q-p) () ?_;rw[GU U V p q t];have e:=Jw a (():0<=q-t);have f:=Jw b (():0<=t-p);rcases g with g|g
 ·have:=Ip g (():0<q-t);omega
 ·have:=Ip g (():0<t-p);omega
theorem mx2{a b t:Int}:2*max a b<t↔2*a<t/\2*b<t:=by rw[Int.max_def];split<;>omega
theorem mn2{a b t:Int}:t<2*min a b↔t<2*a/\t<2*b:=by rw[Int.min_def];split<;>omega
theorem yW{a c d b1 e f:Int}(h:a<b1/\a<e/\a<f)(h':c<b1/\c<e/\c<f)(g:d<b1/\d<e/\d<f):∃t,(2*a<t/\2*c<t/\2*d<t)/\t<2*b1/\t<2*e/\t<2*f:=by have k:∀{b},a<b->c<b->d<b->max (max a c) d<b:=fun x y z=>Int.max_lt.mpr ⟨Int.max_lt.mpr ⟨x,y⟩,z⟩;have l:max (max a c) d<min (min b1 e) f:=Int.lt_min.mpr ⟨Int.lt_min.mpr ⟨k h.1 h'.1 g.1,k h.2.1 h'.2.1 g.2.1⟩,k h.2.2 h'.2.2 g.2.2⟩;have i:a<=max (max a c) d:=Int.le_trans (Int.le_max_left ..) (Int.le_max_left ..);have j:c<=max (max a c) d:=Int.le_trans (Int.le_max_right ..) (Int.le_max_left ..);have o:d<=max (max a c) d:=Int.le_max_right ..;have p:min (min b1 e) f<=b1:=Int.le_trans (Int.min_le_left ..) (Int.min_le_left ..);have q:min (min b1 e) f<=e:=Int.le_trans (Int.min_le_left ..) (Int.min_le_right ..);have r:min (min b1 e) f<=f:=Int.min_le_right ..;generalize max (max a c) d=m at *;generalize min (min b1 e) f=n at *;clear h h' g k;refine⟨m+n,⟨?_,?_,?_⟩,?_,?_,?_⟩<;>omega
theorem rl{U V:Wl}{t:Int}(k:Un5 U)(l:Un5 V)(F:Fair U V)(j:max (l1 U) (l1 V)<min (l2 U) (l2 V))(t1:2*max (l1 U) (l1 V)<t)(B:t<2*min (l2 U) (l2 V))(h:abv U V=LC):0<Gh U V t:=by
 have r:l1 U<l1 V->sd1 U V<0:=fun z=>LJ ((kd j z).symm.trans h);have hC:l1 V<l1 U->0<sd1 V U:=fun z=>LJ ((lO j z).symm.trans h);have P:l1 U=l1 V->l2 U<l2 V->0<sd2 V U:=fun z y=>LJ ((uU j z y).symm.trans h);have Q:l1 U=l1 V->¬l2 U<l2 V->sd2 U V<0:=fun z y=>LJ ((qr j z y).symm.trans h);clear h;obtain⟨o1,m,n,o4⟩:=bC.mp j;clear j;obtain⟨R,S⟩:=mx2.mp t1;obtain⟨T,W⟩:=mn2.mp B;clear t1 B;have C:=F.e1.nz;have D:=F.e2.nz;have E:=F.e3.nz;have G:=F.e4.nz;have pr:(¬(0<sd1 V U/\sd2 V U<0)/\¬(sd1 V U<0/\0<sd2 V U))\/(¬(0<sd1 U V/\sd2 U V<0)/\¬(sd1 U V<0/\0<sd2 U V)):=F.pr.elim (fun z=>.inr (sgp z)) (fun z=>.inl (sgp z));have z1:=ve k l;have z2:=mH k l;have H:=ve l k;have I:=mH l k;have X:=fun e f g s d i=>within (qa U V) (p5 U V) e f g s pr d i;have Y:=fun e f g s d i=>within (qa V U) (p5 V U) e f g s pr.symm d i;have Z:=fun e f g d i=>iQ (p5 U V) (qa V U) e f g pr d i;have s2:=fun e f g d i=>iQ (p5 V U) (qa U V) e f g pr.symm d i;clear pr;have ne:=F.ne;have J:0<lam U:=by have:=k.lt;unfold lam;omega
 have K:0<lam V:=by have:=l.lt;unfold lam;omega
 have L:=Fw U V;have M:=Fq U V;have G3:=Ha U V;have G4:=Hu U V;have u:0<sd1 V U->0<Gh U V (2*l1 U):=fun z=>by rw[L];have:=Ip J z;omega
 have v:0<sd2 V U->0<Gh U V (2*l2 U):=fun z=>by rw[M];have:=Ip J z;omega
 have w:sd1 U V<0->0<Gh U V (2*l1 V):=fun z=>by rw[G3];have:=Io K z;omega
 have x:sd2 U V<0->0<Gh U V (2*l2 V):=fun z=>by rw[G4];have:=Io K z;omega
 have N:sd1 V U=0->Gh U V (2*l1 U)=0:=fun z=>by rw[L,z];simp
 have O:sd2 V U=0->Gh U V (2*l2 U)=0:=fun z=>by rw[M,z];simp
 rcases Ig (l1 U) (l1 V)with y|y|y<;>rcases Ig (l2 U) (l2 V)with c|c|c
 ·have A:=C y n;have nd:=G n c;have q:=s2 y n c A nd;have o:sd1 U V<0:=r y;have b:=w o;have a:=v ();exact e9 (p:=2*l1 V) (q:=2*l2 U) (by assumption) (by assumption) (J9 b) (by first|exact J9 a|exact Int.le_of_eq a.symm) (.inl b)
 ·have o:sd1 U V<0:=r y;have b:=w o;have a:=O (I c.symm);exact e9 (p:=2*l1 V) (q:=2*l2 U) (by assumption) (by assumption) (J9 b) (by first|exact J9 a|exact Int.le_of_eq a.symm) (.inl b)
 ·have A:=C y n;have nb:=D () c;have q:=Y y () n c A nb;have o:sd1 U V<0:=r y;have b:=w o;have a:=x ();exact e9 (p:=2*l1 V) (q:=2*l2 V) (by assumption) (by assumption) (J9 b) (by first|exact J9 a|exact Int.le_of_eq a.symm) (.inl b)
 ·have b:=N (H y.symm);have a:=v (P y c);exact e9 (p:=2*l1 U) (q:=2*l2 U) (by assumption) (by assumption) (Int.le_of_eq b.symm) (J9 a) (.inr a)
 ·exact absurd ⟨y,c⟩ ne
 ·have b:=N (H y.symm);have a:=x (Q y ());exact e9 (p:=2*l1 U) (q:=2*l2 V) (by assumption) (by assumption) (Int.le_of_eq b.symm) (J9 a) (.inr a)
 ·have q:=X y () m c (E y m) (G () c);have d:0<sd1 V U:=hC y;have b:=u d;have a:=v ();exact e9 (p:=2*l1 U) (q:=2*l2 U) (by assumption) (by assumption) (J9 b) (by first|exact J9 a|exact Int.le_of_eq a.symm) (.inl b)
 ·have d:0<sd1 V U:=hC y;have b:=u d;have a:=O (I c.symm);exact e9 (p:=2*l1 U) (q:=2*l2 U) (by assumption) (by assumption) (J9 b) (by first|exact J9 a|exact Int.le_of_eq a.symm) (.inl b)
 ·have q:=Z y m c (E y m) (D m c);have d:0<sd1 V U:=hC y;have b:=u d;have a:=x ();exact e9 (p:=2*l1 U) (q:=2*l2 V) (by assumption) (by assumption) (J9 b) (by first|exact J9 a|exact Int.le_of_eq a.symm) (.inl b)
theorem nZ{U V W:Wl}(a:Un5 U)(d:Un5 V)(b:Un5 W)(r:Fair U V)(s:Fair V W)(h:Fair U W)(i:max (l1 U) (l1 V)<min (l2 U) (l2 V))(j:max (l1 V) (l1 W)<min (l2 V) (l2 W))(f:max (l1 U) (l1 W)<min (l2 U) (l2 W))
 (u:abv U V=LC) (v:abv V W=LC):abv U W=LC:=by
 have c:=bC.mp i
 have g:=bC.mp j
 have l:=bC.mp f
 obtain⟨t,⟨x1,m,o⟩,y1,p,q⟩:=yW ⟨c.1,c.2.1,l.2.1⟩ ⟨c.2.2.1,c.2.2.2,g.2.1⟩ ⟨l.2.2.1,g.2.2.1,g.2.2.2⟩
 have w:=rl (t:=t) a d r i (mx2.mpr ⟨x1,m⟩) (mn2.mpr ⟨y1,p⟩) u
 have x:=rl (t:=t) d b s j (mx2.mpr ⟨m,o⟩) (mn2.mpr ⟨p,q⟩) v
 have y:0<lam U:=by have:=a.lt;unfold lam;omega
 have A:0<lam V:=by have:=d.lt;unfold lam;omega
 have B:0<lam W:=by have:=b.lt;unfold lam;omega
 have D:0<Gh U W t:=by
  refine dQ (k:=lam V) A ?_
  have e:Gh U W t*lam V=lam U*Gh V W t+lam W*Gh U V t:=by unfold Gh;grind
  rw[e]
  exact Int.add_pos (Ip y x) (Ip B w)
 cases z:abv U W with
 |true=>rfl
 |false=>
  have n:=du a b h f
  rw[z]at n
  have C:=rl (t:=t) b a h.swap (by rw[Int.max_comm,Int.min_comm];exact f) (mx2.mpr ⟨o,x1⟩) (mn2.mpr ⟨q,y1⟩) n
  rw[t5]at C
  omega
theorem bQ{U:Wl}(a:Un5 U):abv U U=LD:=by
 unfold abv;split
 ·rw[LG rfl,LF (),mH a a rfl];rfl
 ·rfl
theorem qM{a b:Type}(f:a->b)(xs:List a)(j:Nat)(y:a):hZ (xs.map f) j (f y)=(hZ xs j y).map f:=by unfold hZ;simp[List.map_take,List.map_drop]
theorem vV{a:Type}(xs:List a)(j:Nat)(y:a):(hZ xs j y).Perm (y::xs):=by
 unfold hZ;have h:(xs.take j++y::xs.drop j).Perm (y::(xs.take j++xs.drop j)):=List.perm_middle
 rwa [List.take_append_drop]at h
theorem gO{b:Type}(p:b->Bool)(f:b->D):∀l:List b,l.filterMap (fun k=>if p k=LC then LA (f k)else LB)=(l.filter p).map f
 |[]=>rfl
 |a::l=>by
  rw[List.filterMap_cons,List.filter_cons]
  cases h:p a
  ·simp[gO p f l]
  ·simp[gO p f l]
def wAt(ws:List Wl)(k:Int):Wl:=(ws[k.toNat]?).getD (0,0,0,0)
theorem aW{ws:List Wl}{k:Int}(b:0<=k)(c:k<ws.length):ws[k.toNat]?=LA (wAt ws k)/\atI (ws.map uw) k=LA (uw (wAt ws k))/\wAt ws k∈ws:=by
 obtain⟨j,rfl⟩:∃j:Nat,k=(j:Int):=⟨k.toNat,()⟩;have a:j<ws.length:=()
 have e:wAt ws (j:Int)=ws[j]:=by unfold wAt;simp[a]
 refine⟨by rw[e];simp[a],?_,by rw[e];exact Jn a⟩;rw[e];exact bZ (by simp[a])
theorem xW{R:Int->Int->Bool}:∀fs:List Int,fs≠[]->(∀k∈fs,∀j∈fs,k≠j->R j k=!R k j)->(∀k∈fs,∀j∈fs,∀i∈fs,k≠j->j≠i->k≠i->R k j=LC->R j i=LC->R k i=LC)->∃t∈fs,∀k∈fs,k=t\/R t k=LC
 |[],h,_,_=>absurd rfl h
 |[a],_,_,_=>⟨a,by simp,fun k c=>.inl (by simpa using c)⟩
 |a::b::l,_,tot,tr=>by
  obtain⟨t,d,top⟩:=xW (R:=R) (b::l) (by simp) (fun k c j f=>tot k (.tail _ c) j (.tail _ f)) (fun k c j f i p=>tr k (.tail _ c) j (.tail _ f) i (.tail _ p))
  by_cases e:a=t
  ·subst e
   refine⟨a,by simp,fun k c=>?_⟩
   rcases J3.mp c with rfl|c
   ·exact .inl rfl
   ·exact top k c
  ·have m:=tot a (by simp) t (.tail _ d) e
   cases q:R a t with
   |false=>
    rw[q]at m
    refine⟨t,.tail _ d,fun k c=>?_⟩
    rcases J3.mp c with rfl|c
    ·exact .inr m
    ·exact top k c
   |true=>
    refine⟨a,by simp,fun k c=>?_⟩
    rcases J3.mp c with rfl|g
    ·exact .inl rfl
    ·by_cases n:k=a
     ·exact .inl n
     ·rcases top k g with rfl|z
      ·exact .inr q
      ·by_cases o:k=t
       ·subst o;exact .inr q
       ·exact .inr (tr a (by simp) t (.tail _ d) k c e (fun y=>o y.symm) (fun y=>n y.symm) q z)
theorem rW{fs:List Int}{t:Int}{p:Int->Bool}(nd:fs.Nodup)(f:t∈fs)(b:∀k∈fs,p k=LC↔k=t):fs.filter p=[t]:=by
 induction fs with
 |nil=>cases f
 |cons a l g=>
  rw[List.nodup_cons]at nd
  rw[List.filter_cons]
  by_cases e:a=t
  ·subst e;rw[LG ((b a (by simp)).mpr rfl)];have:l.filter p=[]:=List.filter_eq_nil_iff.mpr fun k c d=>nd.1 ((b k (.tail _ c)).mp d▸c);rw[this]
  ·rw[LF (fun z=>e ((b a (by simp)).mp z))];exact g nd.2 ((J3.mp f).resolve_left (fun z=>e z.symm)) fun k c=>b k (.tail _ c)
def frP(q:Rat):KU:=.tuple [.int q.num,.int (q.den:Int)]
def rwP(t b x y:Int)(w:Wl):KU:=.tuple [.tuple [frP (LW t b x 1 w.1),frP (LW t b y 1 w.2.1)],.tuple [frP (LW t b x 1 w.2.2.1),frP (LW t b y 1 w.2.2.2)]]
theorem p6(t b x y:Int)(w:Wl):J0 (rwP t b x y w) (rwP t b x y w)=LC:=by simp[rwP,frP,J0,Jo]
theorem AF{a b x y:Int}(e:-10<=b/\b<=85)(f:-10<=y/\y<=85):HT.lexLt [a,b] [x,y]=decide (la a b<la x y):=by have h:=Lf (a:=a) (b:=b) (c:=x) (d:=y);rw[K7,h,LL];unfold la;omega
def spB(ws:List Wl)(m s:Int)(j:Nat):Bool:=decide (m*l1 (wAt ws (j:Int))<=s)&&decide (s<m*l2 (wAt ws (j:Int)))
def spK(ws:List Wl)(m s:Int):List Int:=((Iv ws.length).filter (spB ws m s)).map fun j:Nat=>(j:Int)
theorem ju{ws:List Wl}{m s k:Int}(h:k∈spK ws m s):0<=k/\k<ws.length/\m*l1 (wAt ws k)<=s/\s<m*l2 (wAt ws k):=by unfold spK at h;obtain⟨j,a,rfl⟩:=J1.mp h;rw[IJ,IZ]at a;have:=a.2;unfold spB at this;rw[ID,LL,LL]at this;exact⟨(),(),this.1,this.2⟩
theorem EO(m a b:Int):la (m*a) (m*b)=m*la a b:=by unfold la;grind
theorem over_of{m s a b c d:Int}(j:0<m)(f:m*a<=s)(g:s<m*b)(h:m*c<=s)(i:s<m*d):max a c<min b d:=by have e:∀{x y:Int},m*x<=s->s<m*y->x<y:=fun{x y} p q=>K8 (Int.lt_of_le_of_lt p q) ();have:=e f g;have:=e f i;have:=e h g;have:=e h i;omega
theorem zd{ws:List Wl}{fs:List Int}{m s:Int}(r:∀w∈ws,Un5 w)(hF:PF ws)(u:0<m)(v:∀k∈fs,k∈spK ws m s)(x:fs≠[])(nd:fs.Nodup) :
 ∃t∈fs,(∀w∈fs.map (wAt ws),w=wAt ws t\/(abv (wAt ws t) w=LC/\abv w (wAt ws t)=LD))/\(fs.filter fun k=>fs.all fun j=>!abv (wAt ws j) (wAt ws k))=[t]:=by
 have sp:=fun k d=>ju (v k d)
 have un:∀k∈fs,Un5 (wAt ws k):=fun k d=>r _ (aW (sp k d).1 (sp k d).2.1).2.2
 have fr:∀k∈fs,∀j∈fs,k≠j->Fair (wAt ws k) (wAt ws j):=fun k d j f ne=>by
  have a:=sp k d
  have b:=sp j f
  exact hF k.toNat j.toNat _ _ () (aW a.1 a.2.1).1 (aW b.1 b.2.1).1
 have n:∀k∈fs,∀j∈fs,max (l1 (wAt ws k)) (l1 (wAt ws j))<min (l2 (wAt ws k)) (l2 (wAt ws j)):=fun k d j f=>
  over_of u (sp k d).2.2.1 (sp k d).2.2.2 (sp j f).2.2.1 (sp j f).2.2.2
 have g:∀k∈fs,∀j∈fs,k≠j->abv (wAt ws j) (wAt ws k)=!abv (wAt ws k) (wAt ws j):=fun k d j f ne=>du (un k d) (un j f) (fr k d j f ne) (n k d j f)
 obtain⟨t,o,top⟩:=xW (R:=fun k j=>abv (wAt ws k) (wAt ws j)) fs x g (fun k d j f i l a b c p q=>nZ (un k d) (un j f) (un i l) (fr k d j f a) (fr j f i l b) (fr k d i l c) (n k d j f) (n j f i l) (n k d i l) p q)
 refine⟨t,o,fun w y=>?_,rW nd o fun k d=>?_⟩
 ·obtain⟨k,d,rfl⟩:=J1.mp y
  by_cases e:k=t
  ·exact .inl (by rw[e])
  ·have a:=(top k d).resolve_left e
   have b:=g t o k d (fun z=>e z.symm)
   rw[a]at b
   exact .inr ⟨a,b⟩
 ·rw[Je]
  constructor
  ·intro h
   by_cases e:k=t
   ·exact e
   ·have a:=(top k d).resolve_left e
    have:=h t o
    rw[a]at this
    cases this
  ·rintro rfl j f
   by_cases e:j=k
   ·rw[e,bQ (un k d)];rfl
   ·have a:=(top j f).resolve_left e
    have b:=g k d j f (fun z=>e z.symm)
    rw[b,a];rfl
section
variable{X:Cx}{pins:List (Addr×Obj)}{σ:L2.St}{H:Hp}{s:HZ}
theorem iL{h':Heap}{t':Nat}{e it:Addr}(I:Inv X pins σ H s)(k:∀b o,b≠e->b≠it->s.heap.get? b=LA o->h'.get? b=LA o)(g:cB X pins H e)(h:cB X pins H it):Inv X pins σ H { s with heap:=h',toks:=t' }:=by
 obtain⟨i,e1,_,e3,e4,j⟩:=g;obtain⟨l,f,_,p,t,w⟩:=h;have ne:∀b u,H b=LA u->b≠e/\b≠it:=fun b u q=>⟨fun z=>(by rw[z,i]at q;cases q),fun z=>(by rw[z,l]at q;cases q)⟩;have d:∀{b:Addr},b∉[e,it]->b≠e/\b≠it:=fun{b} a=>⟨fun z=>a (by simp[z]),fun z=>a (by simp[z])⟩;refine I.step (g':=s.gens) (d':=s.drawn) (ch:=[e,it]) (fun b x=>?_) (fun b o _ _ a q _=>k b o (d a).1 (d a).2 q) (fun b o _ _ a q _=>⟨o.slots,k b o (d a).1 (d a).2 q⟩) (fun _ _ _ _ n=>n) (fun b o a q=>⟨o,k b o (d a).1 (d a).2 q⟩) (fun _ _ q=>q) (fun _ _ _ q=>q) (fun b ps q=>⟨#[],by rw[q];simp⟩) (fun m A=>?_) (fun b u q=>?_) I.bare
 ·rcases(show b=e\/b=it by simpa using x)with rfl|rfl
  ·exact⟨e3,e1,e4,j⟩
  ·exact⟨p,f,t,w⟩
 ·obtain⟨o,B,C,D,r⟩:=A;exact⟨o,B,C,k _ o (Ne.symm e1) (Ne.symm f) D,r⟩
 ·refine(I.hok b u q).iD (fun c v a z=>?_) (fun _ z=>z) fun _ _ z=>z;rcases a with y|y
  ·subst y;exact k _ v (ne _ u q).1 (ne _ u q).2 z
  ·exact k c v (ne c _ y).1 (ne c _ y).2 z
end
def Ite(K:H0)(a:Addr):It:=
 ⟨fun i H=>∃xs x,SqL K H a xs/\xs[i]?=LA x,fun i H x b=>∃T y,x=.ref T/\H T=LB/\b=upd H T (.tup [.int (i:Int),y])/\∀xs,SqL K H a xs->xs[i]?=LA y,fun i H=>∃xs,SqL K H a xs/\xs.length<=i⟩
theorem wg{P:IH}{w:J5}{K:H0}{n:List Expr}{V}{pt:Pos}(a e it:Addr)(r:e≠it):Turn P w K (.Tuple n V pt) (Ite K a) [e,it] e (fun i h=>(∃g,IsEnum h e it (i:Int) g)/\h.IsListIter it a i) where
 mem:=by simp
 obj:=fun i h st b t=>by
  rcases(show b=e\/b=it by simpa using t)with rfl|rfl
  ·obtain⟨⟨g,q⟩,_⟩:=st
   exact⟨_,q,fun v z=>by
    have W:Data.fields _=Data.cell v:=z
    cases W⟩
  ·obtain⟨o,q,c,d⟩:=st.2
   exact⟨o,q,fun v z=>by rw[d]at z;cases z⟩
 keep:=fun i h Y st k=>by
  obtain⟨⟨g,q⟩,st⟩:=st
  exact⟨⟨g,k e (by simp) _ q⟩,st.at fun o z=>k it (by simp) o z⟩
 item:=by
  intro X C D F O i pins s σ H E I A st G
  subst C D F
  obtain⟨xs,x,B,J⟩:=G
  obtain⟨L,M,p,Z⟩:=I.list B
  obtain⟨u,hu,ru⟩:=M.get J
  obtain⟨⟨g,m⟩,j⟩:=st
  have le:e<s.heap.objs.size:=Iy m
  have li:it<s.heap.objs.size:=by obtain⟨o,q,_⟩:=j;exact Iy q
  refine wpAny_pyNext_enum_item m j p.isList (x:=u) (by simpa using hu) r fun Q ho y hT a0 hk=>⟨_,rfl,wpAny_letOwnedTupleGo_enum (s:={ s with heap:=Q,toks:=s.toks+1 }) ho fun R N l=>?_⟩
  have l:K0 e Q R:=l
  have fr:=I.fresh
  have I1:Inv X pins σ (upd H s.heap.objs.size (.tup [.int (i:Int),x])) { s with heap:=s.heap.push { cls:=.type "tuple",data:=.seq #[.int (i:Int) s.toks,u] },toks:=s.toks }:=
   I.laid (fun b v q=>Ib _ q) (Ic _) ⟨nbL rfl,[.int (i:Int) s.toks,u],.cons ⟨_,rfl⟩ (.cons ru .nil),⟨_,Ik _ rfl,rfl,_,rfl⟩,⟨_,Ik _ rfl,rfl⟩⟩
  have S:∀{b:Addr},b<s.heap.objs.size->cB X pins H b->cB X pins (upd H s.heap.objs.size (.tup [.int (i:Int),x])) b:=fun{b} lt f=>⟨by rw[aT (J6 lt)];exact f.1,f.2⟩
  have T:=S le (A e (by simp))
  have U:=S li (A it (by simp))
  have I2:Inv X pins σ (upd H s.heap.objs.size (.tup [.int (i:Int),x])) { s with heap:=R,toks:=s.toks+1 }:=by
   refine iL (s:={ s with heap:=s.heap.push { cls:=.type "tuple",data:=.seq #[.int (i:Int) s.toks,u] },toks:=s.toks }) I1 (fun b o ne ni q=>?_) T U
   have q:(s.heap.push { cls:=.type "tuple",data:=.seq #[.int (i:Int) s.toks,u] }).get? b=LA o:=q
   refine(l.2 b ne).trans ?_
   rcases Heap.get?_push_cases q with⟨rfl,rfl⟩|q
   ·exact hT
   ·exact hk b o ne ni q
  refine⟨.ref s.heap.objs.size,_,I2,rfl,⟨_,x,rfl,fr,rfl,fun ys hy=>by rw[I.gc hy B];exact J⟩,⟨⟨u,?_⟩,y.at fun o z=>(l.2 it r.symm).trans z⟩,fun b t=>?_⟩
  ·have:(((i+1:Nat):Int))=(i:Int)+1:=()
   rw[this];exact N
  ·rcases(show b=e\/b=it by simpa using t)with rfl|rfl
   ·exact T.1
   ·exact U.1
 done:=by
  intro X C D F O i pins s σ H E I A st G
  subst C D F
  obtain⟨xs,B,J⟩:=G
  obtain⟨L,M,p,Z⟩:=I.list B
  obtain⟨⟨g,m⟩,j⟩:=st
  obtain⟨f0,f1,f2,f3,f4,f5⟩:=A it (by simp)
  have hl:=M.length
  exact wpAny_pyNext_enum_end (I.ok.hd O) m j p.isList (by simp;omega) fun Y eb=>⟨rfl,I.turned (t':=s.toks) (fun b o t q=>eb b o t q) f0 f1 f3 f4 f5⟩
 self:=fun _ _ _ _ _ st h=>let⟨⟨_,m⟩,_⟩:=st;KO m h
theorem fE:Ju "enumerate"=LA (.type "enumerate"):=by decide +kernel
section
variable{X:Cx}{elts:List Expr}{kt:Nat}{pt:Pos}
def E9(K:H0)(b:TA):TI:=fun σ H R=>b σ H fun vs H1=>∃a xs,vs=[.ref a]/\H1 a=LA (.lst xs)/\R (Ite K a) H1
theorem A7{a:Expr}{j:TA}{p pos:Pos}(m:Gl X "enumerate")(o:X.mg "enumerate"=LB)(t:PA X [a] j)(v:Iz [a] X.env=[(LD,eval a X.env)]:=by rfl):PI X (.Tuple elts kt pt) (.Call (.Name "enumerate" p) [a] [] pos) (E9 X.K j):=by
 intro pins s σ H R I h;refine Call_ (iI I m o fE (JY (thn (t pos pins s σ H _ I h) fun us c d=>?_) v rfl));obtain⟨vs,H1,g,w,x⟩:=d;obtain⟨l,xs,y,A,q⟩:=x;subst y;obtain⟨u,rfl,B⟩:=w.one;cases B;obtain⟨z,C,n,r,G,e⟩:=g.oE A;refine call_enumerate_1 e fun J k i D E=>KO k ?_
 have fp:∀b∈[c.heap.objs.size+1,c.heap.objs.size],cB X pins H1 b:=fun b F=>by
  have f:c.heap.objs.size<=b:=by
   rcases(show b=c.heap.objs.size+1\/b=c.heap.objs.size by simpa using F)with rfl|rfl
   ·exact Nat.le_succ _
   ·exact Ic _
  exact g.om f (g.hok.fresh f)
 exact⟨_,[c.heap.objs.size+1,c.heap.objs.size],_,_,H1,rfl,g.kept (t':=c.toks) E,wg l _ _ (Nat.succ_ne_self _),⟨⟨_,k⟩,i⟩,fp,q⟩
def GZ(c:TAD):TID:=fun δ M R=>c δ M fun e b=>∃l a,e=[.ref l]/\b l=LA (.lst a)/\R ⟨a.length,fun i=>(a[i]?).map fun d=>.tup [.int (i:Int),d],fun M=>M l=LA (.lst a)⟩ b
theorem Bh{a:Expr}{u:TAD}{p pos:Pos}(B:Gl X "enumerate")(C:X.mg "enumerate"=LB)(D:DA X [a] u)(m:Iz [a] X.env=[(LD,eval a X.env)]:=by rfl):DI X (.Tuple elts kt pt) (.Call (.Name "enumerate" p) [a] [] pos) (GZ u):=
 lX (A7 B C D m) fun σ H R E=>by
  obtain⟨δ,M,P,m,F,q,n⟩:=E
  exact⟨δ,M,_,m,F,q,fun Q G vs H1 I J w K=>by
   obtain⟨l,b,e,L,N⟩:=K
   subst e
   obtain⟨v,rfl,r⟩:=cH J
   rw[Rep]at r;subst r
   obtain⟨xs,O,S⟩:=w _ _ L
   refine⟨l,xs,rfl,O,n _ G H1 _ I w N ⟨fun z g A d h=>?_,fun i z g f A d h=>?_,?_⟩⟩
   ·obtain⟨c,j,k⟩:=d _ _ (show g l=LA (.lst b)from h)
    exact⟨c,SqL.of j,by rw[<-k.length];exact Ic _⟩
   ·obtain⟨c,j,k⟩:=d _ _ (show g l=LA (.lst b)from h)
    have o:i<c.length:=by rw[<-k.length];exact f
    exact⟨c,c[i],SqL.of j,by simp[o]⟩
   ·rintro i z g v U f A d h ⟨T,y,rfl,s,rfl,j⟩
    have f:i<b.length:=f
    obtain⟨c,t,k⟩:=d _ _ (show g l=LA (.lst b)from h)
    obtain⟨x,e1,e2⟩:=k.get (show b[i]?=LA b[i] by simp[f])
    have:=j c (SqL.of t)
    rw[e1]at this;cases this
    exact⟨.new s,d.new s,.tup [.int (i:Int),b[i]],by simp[f],by rw[Rep];exact⟨T,_,rfl,SqT.of aZ,.cons (by rw[Rep]) (.cons (e2.mono (.new s)) .nil)⟩⟩⟩
end
theorem se{U V:Wl}(p:l1 U<l2 U)(r:l1 V<l2 V)(F:Fair U V)(b:sd1 U V=0)(c:sd2 U V=0):¬max (l1 U) (l1 V)<min (l2 U) (l2 V):=by
 intro d;rw[bC]at d;obtain⟨s,g,i,t⟩:=d;have e:=qa V U;have f:=p5 V U;rw[b,c]at e f;have j:=F.e1.nz;have k:=F.e2.nz;have l:=F.e3.nz;have m:=F.e4.nz;have ne:=F.ne
 have n:sd1 V U=0:=by
  have:sd1 V U*(l2 U-l1 U)=0:=by rw[e];simp
  rcases JR.mp this with q|q
  ·exact q
  ·omega
 have o:sd2 V U=0:=by
  have:sd2 V U*(l2 U-l1 U)=0:=by rw[f];simp
  rcases JR.mp this with q|q
  ·exact q
  ·omega
 rcases Ig (l1 U) (l1 V)with h|h|h
 ·exact j h i b
 ·rcases Ig (l2 U) (l2 V)with a|a|a
  ·exact m () a o
  ·exact ne ⟨h,a⟩
  ·exact k () a c
 ·exact l h g n
theorem qJ{U V:Wl}(h:abv U V=LC):max (l1 U) (l1 V)<min (l2 U) (l2 V):=by
 unfold abv at h;split at h
 ·assumption
 ·cases h
theorem nO(f:Int->Int):∀fs:List Int,fs≠[]->∃w∈fs,∀k∈fs,f w<=f k
 |[],h=>absurd rfl h
 |[a],_=>⟨a,by simp,fun k c=>by rw[Jj.mp c];exact Int.le_refl _⟩
 |a::b::l,_=>by
  obtain⟨w,d,h⟩:=nO f (b::l) (by simp)
  by_cases e:f a<=f w
  ·refine⟨a,by simp,fun k c=>?_⟩
   rcases J3.mp c with rfl|c
   ·exact Int.le_refl _
   ·have:=h k c;omega
  ·refine⟨w,.tail _ d,fun k c=>?_⟩
   rcases J3.mp c with rfl|c
   ·omega
   ·exact h k c
theorem AX{ws:List Wl}(v:∀w∈ws,Un5 w)(hF:PF ws):∀(n:Nat) (fs:List Int),fs.length=n->fs≠[]->fs.Nodup->(∀k∈fs,0<=k/\k<ws.length)->∃t∈fs,∀k∈fs,abv (wAt ws k) (wAt ws t)=LD:=by
 intro n
 induction n with
 |zero=>intro fs h l;exact absurd (List.eq_nil_of_length_eq_zero h) l
 |succ n x=>
  intro fs A l nd i
  have un:∀k∈fs,Un5 (wAt ws k):=fun k c=>v _ (aW (i k c).1 (i k c).2).2.2
  have fr:∀k∈fs,∀j∈fs,k≠j->Fair (wAt ws k) (wAt ws j):=fun k c j B ne=>by
   have a:=i k c
   have b:=i j B
   exact hF k.toNat j.toNat _ _ () (aW a.1 a.2).1 (aW b.1 b.2).1
  obtain⟨w,f,g⟩:=nO (fun k=>l2 (wAt ws k)) fs l
  by_cases p:fs.erase w=[]
  ·refine⟨w,f,fun k c=>?_⟩
   have:k=w:=by
    by_cases e:k=w
    ·exact e
    ·have:=(List.Nodup.mem_erase_iff nd).mpr ⟨e,c⟩;rw[p]at this;cases this
   subst this;exact bQ (un k c)
  ·obtain⟨t,r,top⟩:=x (fs.erase w) (by rw[List.length_erase_of_mem f,A];rfl) p (nd.erase w) (fun k c=>i k (List.mem_of_mem_erase c));have d:t∈fs:=List.mem_of_mem_erase r;have C:t≠w:=((List.Nodup.mem_erase_iff nd).mp r).1;cases q:abv (wAt ws w) (wAt ws t)with
   |false=>
    refine⟨t,d,fun k c=>?_⟩
    by_cases e:k=w
    ·subst e;exact q
    ·exact top k ((List.Nodup.mem_erase_iff nd).mpr ⟨e,c⟩)
   |true=>
    refine⟨w,f,fun k c=>?_⟩
    cases z:abv (wAt ws k) (wAt ws w)with
    |false=>rfl
    |true=>
     exfalso
     by_cases e:k=w
     ·subst e;rw[bQ (un k c)]at z;cases z
     ·have m:=qJ z;have s:=qJ q;have D:l2 (wAt ws w)<=l2 (wAt ws k):=g k c;have E:l2 (wAt ws w)<=l2 (wAt ws t):=g t d;have F:=(un k c).lt;have G:=(un t d).lt;have H:max (l1 (wAt ws k)) (l1 (wAt ws t))<min (l2 (wAt ws k)) (l2 (wAt ws t)):=bC.mpr ⟨F,Int.lt_of_lt_of_le (bC.mp m).2.1 E,Int.lt_of_lt_of_le (bC.mp s).2.2.1 D,G⟩;have o:k∈fs.erase w:=(List.Nodup.mem_erase_iff nd).mpr ⟨e,c⟩;by_cases u:k=t
      ·subst u;have:=du (un k c) (un w f) (fr k c w f e) m;rw[z,q]at this;cases this
      ·have:=nZ (un k c) (un w f) (un t d) (fr k c w f e) (fr w f t d (fun y=>C y.symm)) (fr k c t d u) m s H z q;rw[top k o]at this;cases this
end SD
namespace HT
open PySem PyProof.Rows
section
open PySem.SeqAt
open PySem.AutoSeq1 (wpAny_loadPart')
open PySem.MeetsSeq PySem.MeetsSeq2 PySem.MeetsSeq3
theorem mP(l:Addr)(items:Array HY)(n:Nat)(r:Option Addr)(t:Array (Option HY))(x:HY)(j:Nat)(C:j<items.size) :
 Meets (Lb.«tuple.index» ⟨[.ref l,x],[]⟩) fun A R s=>s.heap.get? l=LA { cls:=.type "tuple",dict:=r,data:=.seq items n,slots:=t }/\(∀(i:Nat) (D:i<items.size),i<=j->EqAt A.in1 s items[i] x (decide (i=j)))/\R (.ok (.ret (.int (j:Int) s.toks))) { s with toks:=s.toks+1 }:=
 .of_wp fun prog w A R s h=>by
  obtain⟨u,g,d,v,os⟩:=s;obtain⟨y,k,h⟩:=h
  unfold Lb.«tuple.index»
  simp only[Std.Legacy.Range.forIn_eq_forIn_range']
  wp_walk using Ji y,wpAny_forIn_list _ (fun c b o=>b=(LB,.unit)/\o=⟨u,g,d,v,os⟩/\∃m,m<=j/\c=List.range' m (items.size-m) 1) _
  case turn=>
   rintro a c b o ⟨rfl,rfl,m,q,e⟩
   have p:items.size-m=(items.size-m-1)+1:=()
   rw[p,List.range'_succ]at e
   injection e with z B
   subst z B
   have f:a<items.size:=()
   rw[Array.getElem?_eq_getElem f]
   refine cc (k a f q prog w _ _ ?_)
   by_cases e1:a=j
   ·subst e1
    rw[LI rfl]
    wp_walk
    exact⟨_,rfl,h⟩
   ·rw[LH e1]
    wp_walk
    exact⟨rfl,rfl,a+1,(),by rw[show items.size-a-1=items.size-(a+1) by omega]⟩
  case fin=>
   rintro b o ⟨rfl,rfl,m,q,e⟩
   have p:items.size-m=(items.size-m-1)+1:=()
   rw[p,List.range'_succ]at e
   cases e
  exact⟨rfl,rfl,0,(),by simp[Std.Legacy.Range.size]⟩
end
end HT
open HT renaming lexLt->Lo
namespace SD
open PySem PySem.Spec PyProof.Rows L2
section
variable{X:Cx}
def ES(c:TD)(t:TAD):TD:=fun δ M Q=>c δ M fun x e=>∃a,x=.tup a/\t δ e fun f b=>∃d p,∃j:Nat,f=[d]/\j<a.length/\Pd b d p/\Jy p=LC/\
 (∀(i:Nat) (y:D),i<=j->a[i]?=LA y->∃q,Pd b y q/\KZ q=LC/\J0 q p=decide (i=j))/\Q (.int (j:Int)) b
def GH(K:H0):V->List V->Hp->VK->Prop:=fun x vs H Q=>∃a b M v d p,∃j:Nat,x=.ref a/\vs=[v]/\Abs K H M/\Rep K H (.tup b) x/\Rep K H d v/\j<b.length/\Pd M d p/\Jy p=LC/\
 (∀(i:Nat) (y:D),i<=j->b[i]?=LA y->∃q,Pd M y q/\KZ q=LC/\J0 q p=decide (i=j))/\Q (.int (j:Int)) H
theorem EA(hu:X.A.units+66<Jq):MtM X "tuple.index" (GH X.K):=by
 intro pins s σ H x vs v us Q I B C D;obtain⟨a,l,M,v1,d,p,j,ex,E,u,w,hd,G,J,f,g,q⟩:=D;subst ex E;cases B;obtain⟨L,rfl,N⟩:=C.one;rw[Rep]at w;obtain⟨a',xs,ea,O,y⟩:=w;cases ea;obtain⟨c,h,⟨o,z,P,n,R⟩,hz⟩:=I.tuple O;obtain⟨as,S⟩:=bR I u J hd N;have b:c.length=l.length:=by rw[<-h.length,y.length]
 obtain⟨oc,od,T,osl⟩:=o;cases P;cases R;refine call_meets PySem.F.slot_tuple_index ⟨_,z,rfl⟩ PySem.F.entry_tuple_index (PySem.F.args_tuple_index_2 _ _) (HT.mP a c.toArray n od osl L j (by simpa[b]using G)) ⟨z,fun i U m=>?_,?_⟩
 ·have k:i<l.length:=by simpa[b]using U
  obtain⟨V,W,Y,Z⟩:=g i l[i] m (Ia k);obtain⟨x1,e1,r⟩:=y.get (Ia k);obtain⟨u2,e2,t⟩:=h.get e1;obtain⟨bs,q2⟩:=bR I u W r t
  have e3:c.toArray[i]=u2:=by
   have:=Iu.mp e2
   obtain⟨_,e⟩:=this
   simpa using e
  rw[e3,<-Z];have hm:min V.depth p.depth<=63+1:=Jp (Nat.min_le_right _ _) (SeqAt.depth_of_shaped f);exact PySem.SeqAt.eqAt_reads _ _ _ _ _ _ _ _ q2 S Y (Kn f) (by show X.A.units+1+_<Jq;omega)
 ·exact⟨.int _,H,I.tok _,⟨_,rfl⟩,q⟩
theorem CC{o e1:Expr}{m:TE}{t:TA}{c br:Pos}(r:X.A.units+66<Jq)(u:PE X o m)(w:PA X [e1] t)
 (d:attributeBase o "index" X.env (eval o X.env)=eval o X.env)
 (j:((JL br (Iz [e1] X.env)).all (fun x=>!x.1)&&(backToKw br (KJ [] X.env)).all (fun x=>x.1.isSome)
  && decide ([e1].length+([]:List Keyword).length+(if([]:List Keyword).isEmpty then 0 else 1)<30))=LC)
 (f:(c.endLine==br.line)=LC) (y:Iz [e1] X.env=(LD,eval e1 X.env)::Iz [] X.env) (b:(JL br (Iz [] X.env)).any (·.1)=LD) :
 PE X (.Call (.Attribute o "index" c) [e1] [] br) (fun σ H Q=>m σ H fun x H1=>(∃p xs,x=.ref p/\SqT X.K H1 p xs)/\t σ H1 fun vs k=>GH X.K x vs k Q):=by
 intro pins s σ H Q I h
 refine wpAny_Call_method_late d j f rfl (thn (u pins s σ H _ I h) fun v z g=>?_)
 obtain⟨x,H1,l,B,⟨p,xs,ex,n⟩,C⟩:=g
 subst ex
 cases B
 obtain⟨D,_,⟨E,G,J,_⟩,_⟩:=l.tuple n
 obtain⟨L,M,N⟩:=l.Dl n
 refine⟨"tuple","tuple.index",PySem.F.plainAttrs_tuple,PySem.F.slot_tuple_index,PySem.F.type_tuple_index,⟨E,G,J⟩,fun a e=>by cases e;exact⟨L,M,N⟩,?_⟩
 have q:=w br pins z σ H1 _ l C
 rw[y]at q ⊢
 refine Calls.callWith_builtin (by show(LD||(JL br (Iz [] X.env)).any (·.1))=LD;rw[b]<;>rfl) (Calls.evalArgs_plain ?_)
 exact thn q fun us O i=>by obtain⟨vs,k,P,R,S⟩:=i;exact(EA r pins O σ k (.ref p) vs (.ref p) us Q P rfl R S)
variable{o e1:Expr}{to:TD}{t:TAD}{apos br:Pos}
theorem mf(z:X.A.units+66<Jq)(B:DE X o to)(C:DA X [e1] t)
 (c:attributeBase o "index" X.env (eval o X.env)=eval o X.env:=by rfl)
 (h:((JL br (Iz [e1] X.env)).all (fun x=>!x.1)&&(backToKw br (KJ [] X.env)).all (fun x=>x.1.isSome)
  && decide ([e1].length+([]:List Keyword).length+(if([]:List Keyword).isEmpty then 0 else 1)<30))=LC:=by rfl)
 (e:(apos.endLine==br.line)=LC:=by rfl) (D:Iz [e1] X.env=(LD,eval e1 X.env)::Iz [] X.env:=by rfl) (b:(JL br (Iz [] X.env)).any (·.1)=LD:=by rfl) :
 DE X (.Call (.Attribute o "index" apos) [e1] [] br) (ES to t):=
 bj (CC z B C c h e D b) fun σ H Q ⟨δ,M,R,i,E,q,l⟩=>by
  refine⟨δ,M,_,i,E,q,fun x F v H1 u m G f=>?_⟩
  obtain⟨I,ex,J⟩:=f
  subst ex
  have n:=m
  rw[Rep]at m
  obtain⟨a,xs,rfl,K,V⟩:=m
  refine⟨⟨a,xs,rfl,K⟩,δ,F,_,i.mono u,G,J,fun W L us Y w N y g=>?_⟩
  obtain⟨d,p,j,O,P,S,r,k,T⟩:=g
  subst O
  obtain⟨U,rfl,s⟩:=cH N
  exact⟨a,I,L,U,d,p,j,rfl,rfl,y,n.mono w,s,P,S,r,k,l _ _ _ _ (u.trans w) (by rw[Rep]) y T⟩
def FU(te:TD):TTD:=fun δ M Q=>te δ M fun x a=>∃l xs,x=.ref l/\a l=LA (.lst xs)/\Q (!xs.isEmpty) a
theorem EF{e:Expr}{te:TD}(g:DE X e te)(hw:∀a,isTrue e X.env a=(do let v <-a;standAt e.pos;holding [v] (truthy v)):=by intro _;rfl):DT X e (FU te):=
 l5 (yJ g hw) fun σ H Q ⟨δ,M,R,h,i,q,b⟩=>⟨δ,M,_,h,i,q,fun x r v H1 j d f ⟨l,xs,ex,k,m⟩=>by
  subst ex
  rw[Rep]at d;subst d
  obtain⟨c,n,p⟩:=f _ _ k
  refine⟨_,.inl ⟨c,SqL.of n,rfl⟩,?_⟩
  have e:c.isEmpty=xs.isEmpty:=by
   have:=p.length
   cases xs<;>cases c<;>simp at this ⊢
  rw[e]
  exact b _ _ _ j f m⟩
end
open PySem PySem.W PySem.Spec PySem.Calls PyProof.Rows Builtin Builtin.ObjectAttr Builtin.Getset_descriptor
section
variable{P:IH}{w:J5}{K:H0}{mg:Str->Option HY}{base:Heap}{N:List Str}{qual:Str}{scope:Kv}{f:Addr}{cd:HY}{A:Jd}{outer:List Env}{s:HZ}{H:Hp}{E:XK}
end
def two(a t1 b c d:Expr)(scope:Kv)(pos:Pos):Expr:=.ListComp a [⟨t1,b,[],0⟩,⟨c,d,[],0⟩] scope pos
theorem FZ(a t1 d e c:Expr)(scope:Kv)(pos:Pos)(it b:HY)(env:Env):compTurn (two a t1 d e c scope pos) 0 it b env=(do
 standAt d.pos
 match <-pyNext it with
 |none=>pure (.done .next)
 |some v=>
  K5 t1 it v
  KW t1 env v
  let x <-eval c env
  standAt c.pos
  let x <-IW c env x
  let _ <-runOwn (.compStart (two a t1 d e c scope pos) 1 (<-holding [x] (pyIter x)) b env) env
  again (.compLoop (two a t1 d e c scope pos) 0 it b env)):=by rfl
theorem Ft(a t1 e c d:Expr)(scope:Kv)(pos:Pos)(it b:HY)(env:Env):compTurn (two a t1 e c d scope pos) 1 it b env=(do
 standAt d.pos
 match <-pyNext it with
 |none=>pure (.done .next)
 |some v=>
  K5 c it v
  KW c env v
  (do let _ <-call (.builtin "list.append") [b,<-eval a env])
  again (.compLoop (two a t1 e c d scope pos) 1 it b env)):=by rfl
section
variable{prog:IH}{w:J5}{A:Jd}{R:Result->HZ->Prop}{s:HZ}{elt t1 i1 t2 i2:Expr}{scope:Kv}{pos:Pos}{it acc:HY}{env:Env}
theorem DC(c:Km (IC prog w) A (.compLoop (two elt t1 i1 t2 i2 scope pos) 1 it acc env) R s)
 (h:Im (IC prog w) A (pyIter it) (fun a b=>Km (IC prog w) A (.compLoop (two elt t1 i1 t2 i2 scope pos) 1 a acc env) R b) (notedBy (IC prog w) A env fun x b=>R (.error x) b) s) :
 Km (IC prog w) A (.compStart (two elt t1 i1 t2 i2 scope pos) 1 it acc env) R s:=by
 refine codeAny_of_tree ?_
 show Im _ _ ((compStart (two elt t1 i1 t2 i2 scope pos) 1 it acc env).onRaise (fun x=>do noteFrame x env;standAt theWindowsPlace)) _ _ s
 refine wpAny_notedAt ?_
 unfold compStart
 show Im _ _ (ask >>= _) _ _ s
 refine cc (wpAny_askSetting (wpAny_ite ?_))
 split
 ·first
   |exact cc (I0 (I0 (And.intro rfl c)))
   |exact I0 (And.intro rfl c)
 ·refine cc (wpAny_rule ?_)
  show Im _ _ (standAt i2.pos >>= _) _ _ s
  exact cc (JM (cc (Iw h (fun a b d=>I0 (And.intro rfl d)) fun _ _ x=>x)))
theorem GL(J:Nat->HZ->Prop)
 (step:∀n s,J n s->Im (IC prog w) A (pyNext it) (fun r b=>match r with
  |none=>R (.ok .next) b
  |some v=>Im (IC prog w) A (K5 t2 it v) (fun _ c=>Im (IC prog w) A (KW t2 env v) (fun _ d=>
   Im (IC prog w) A (eval elt env) (fun x f=>Im (IC prog w) A (call (.builtin "list.append") [acc,x]) (fun _ g=>∃m,m<n/\J m g) NoE f) NoE d) NoE c) NoE b) NoE s)
 (n:Nat) (h:J n s):Km (IC prog w) A (.compLoop (two elt t1 i1 t2 i2 scope pos) 1 it acc env) R s:=by
 have a:∀{E:HY->HZ->Prop} e i,NoE e i->E e i:=fun _ _ z=>z.elim
 refine codeAny_loop rfl J (fun n s k=>?_) n h
 show Im _ _ (Sem.onRaise (compTurn (two elt t1 i1 t2 i2 scope pos) 1 it acc env) (fun x=>do noteFrame x env;theTreesLotGoes x)) _ _ s
 refine wpAny_noted ?_
 rw[Ft]
 refine cc (JM (cc (Iw (step n s k) (fun r b j=>?_) a)))
 cases r with
 |none=>exact I0 j
 |some v=>
  refine cc (Iw j (fun _ c l=>cc (Iw l (fun _ d o=>?_) a)) a)
  exact cc (cc (Iw o (fun x f p=>cc (Iw p (fun _ g q=>I0 (I0 ⟨rfl,q⟩)) a)) a))
theorem E2(J:Nat->HZ->Prop)(c:∀x,IW i2 env x=pure x)
 (step:∀n s,J n s->Im (IC prog w) A (pyNext it) (fun r d=>match r with
  |none=>R (.ok .next) d
  |some v=>Im (IC prog w) A (K5 t1 it v) (fun _ g=>Im (IC prog w) A (KW t1 env v) (fun _ i=>
   Im (IC prog w) A (eval i2 env) (fun x j=>Im (IC prog w) A (pyIter x) (fun a k=>Km (IC prog w) A (.compStart (two elt t1 i1 t2 i2 scope pos) 1 a acc env) (fun r l=>match r with
    |.ok _=>∃m,m<n/\J m l
    |.error e=>False) k) NoE j) NoE i) NoE g) NoE d) NoE s)
 (n:Nat) (h:J n s):Km (IC prog w) A (.compLoop (two elt t1 i1 t2 i2 scope pos) 0 it acc env) R s:=by
 have b:∀{E:HY->HZ->Prop} e o,NoE e o->E e o:=fun _ _ z=>z.elim
 refine codeAny_loop rfl J (fun n s t=>?_) n h
 show Im _ _ (Sem.onRaise (compTurn (two elt t1 i1 t2 i2 scope pos) 0 it acc env) (fun x=>do noteFrame x env;theTreesLotGoes x)) _ _ s
 refine wpAny_noted ?_
 rw[FZ]
 refine cc (JM (cc (Iw (step n s t) (fun r d p=>?_) b)))
 cases r with
 |none=>exact I0 p
 |some v=>
  refine cc (Iw p (fun _ g u=>cc (Iw u (fun _ i y=>cc (Iw y (fun x j B=>?_) b)) b)) b)
  refine cc (JM ?_)
  rw[c]
  refine cc (I0 ?_)
  refine cc (JD (Iw B (fun a k C=>?_) b))
  refine cc (wpAny_runOwn (codeAny_mono C (fun r l q=>?_)))
  cases r with
  |ok f=>exact I0 ⟨rfl,q⟩
  |error e=>exact q.elim
end
def Fe(js:List Nat)(wi2:TI)(te:TE)(σ:L2.St)(J:It)(H1:Hp)(Q:VK):Prop:=∀D,H1 D=LB->∃W:Nat->Nat->Hp->Prop,(∃m,W 0 m (upd H1 D (.lst [])))/\∀i m H,W i m H->
 (J.stop i H/\Q (.ref D) H)\/(J.go i H/\∀y c,J.yld i H y c->∀o,wi2 (cσ [LA y,o] js σ) c fun b h=>∃U:Nat->Nat->Hp->Prop,(∃n,U 0 n h)/\∀j n a,U j n a->
  (b.stop j a/\∃d,d<m/\W (i+1) d a)\/(b.go j a/\∀z e,b.yld j a z e->te (cσ [LA y,LA z] js σ) e fun v f=>∃xs,f D=LA (.lst xs)/\xs.length<Ir/\∃g,g<n/\U (j+1) g (upd f D (.lst (xs++[v])))))
def BN(js:List Nat)(a wi2:TI)(te:TE):TE:=fun σ H Q=>a σ H fun J H1=>Fe js wi2 te σ J H1 Q
section
variable{X:Cx}{x y:Str}{px py pos:Pos}{js:List Nat}{scope:Kv}{elt i1 i2:Expr}{te:TE}{wi wi2:TI}{pins:List (Addr×Obj)}{σ:L2.St}{H:Hp}{s:HZ}{fp:List Addr}{it:Addr}{tn:Nat->Heap->Prop}{J:It}
theorem Bs(c:CScope X [x,y] js scope)(hc:X.calm=LC)(p1:∀C s H fp,PI (cxC X [x,y] js scope C s H fp) (.Name y py) i2 wi2)(q1:∀(env:Env) x,IW i2 env x=pure x)(he:∀C s H fp,PE (cxC X [x,y] js scope C s H fp) elt te)
 {R:HY->Addr->Result->HZ->Prop} {E:HY->HZ->Prop} {Q:VK}
 (I:Inv X pins σ H s) (T:Turn X.prog X.w X.K (.Name x px) J fp it tn) (st:tn 0 s.heap) (hf:∀b∈fp,cB X pins H b) (wc:Fe js wi2 te σ J H Q)
 (hR:∀D C f F,Inv X pins σ f F->cB X pins f C->(∃m,F.heap.Ns C m)->Q (.ref D) f->R (.ref D) C (.ok .next) F) :
 Im (IC X.prog X.w) X.A (newList []) (fun s0 t0=>Im (IC X.prog X.w) X.A (newFunctionEnv scope X.env.globals (fo scope.names X.env) [] X.env.qual LB .none (LA X.env)) (fun N v0=>
  Km (IC X.prog X.w) X.A (.compStart (two elt (.Name x px) i1 (.Name y py) i2 scope pos) 0 (.ref it) s0 { N with scope:=relabel scope X.env }) (R s0 N.locals) v0) E t0) E s:=by
 have r1:∀C s H fp,PG (cxC X [x,y] js scope C s H fp) (.Name x px) (fV 0):=fun _ _ _ _=>iG c 0 rfl
 have s1:∀C s H fp,PG (cxC X [x,y] js scope C s H fp) (.Name y py) (fV 1):=fun _ _ _ _=>iG c 1 rfl
 have x0:∀b∈fp,b<s.heap.objs.size:=fun b a=>let⟨o,e,_⟩:=T.obj 0 _ st b a;Iy e
 have hD:H s.heap.objs.size=LB:=I.hok.fresh (Ic _)
 refine Jc (oM ?_)
 generalize hh:s.heap.push { cls:=.type "list",dict:=LB,data:=.seq ([]:List HY).toArray }=g
 generalize y0:pushCells (({ s with heap:=g }:HZ).heap.push { cls:=.type "dict",data:=.dict #[] }) scope.names=h
 have k3:∀b o,s.heap.get? b=LA o->g.get? b=LA o:=fun b o e=>by rw[<-hh];exact Ib _ e
 have I3:Inv X pins σ (upd H s.heap.objs.size (.lst [])) { s with heap:=g }:=by
  refine I.laid (t':=s.toks) k3 (Ic _) ?_
  refine⟨JA _,[],0,.nil,?_⟩
  rw[<-hh]
  exact Ik _ rfl
 have k:∀b∈fp,cB X pins (upd H s.heap.objs.size (.lst [])) b:=fun b a=>⟨by rw[aT (J6 (x0 b a))];exact(hf b a).1,(hf b a).2⟩
 have t1:g.objs.size=s.heap.objs.size+1:=by rw[<-hh,K1]
 have z0:∀b∈fp,b<g.objs.size:=fun b a=>by rw[t1];exact Nat.lt_succ_of_lt (x0 b a)
 have k4:∀b o,g.get? b=LA o->h.get? b=LA o:=fun b o e=>by rw[<-y0];exact pushCells_keeps _ _ b o (Ib _ e)
 have I4:=my c I3 k z0 (h':=h) y0.symm k4
 obtain⟨W,⟨m0,w0⟩,b1⟩:=wc _ hD
 have st4:tn 0 h:=T.keep 0 _ _ st fun b a o e=>k4 b o (k3 b o e)
 generalize hX:cxC X [x,y] js scope g.objs.size { s with heap:=g } (upd H s.heap.objs.size (.lst [])) fp=X' at I4
 have S:∀{pins':List (Addr×Obj)} {f:Hp} {l:L2.St} {F:HZ},Inv X' [] l f F->(∀b∈fp,f b=LB)->∀b∈fp,cB X' [] f b:=fun{pins' f l F} J' hn b a=>by
  subst hX
  obtain⟨a1,a2⟩:=J'.ok.exf b a
  exact⟨hn b a,a1,J'.ok.exfs b a,.inl a,a2,fun p hp=>absurd (show p∈([]:List (Addr×Obj))from hp) (by simp)⟩
 have O:Km (IC X.prog X.w) X.A (.compLoop (two elt (.Name x px) i1 (.Name y py) i2 scope pos) 0 (.ref it) (.ref s.heap.objs.size) (kg scope g.objs.size X.env)) (R (.ref s.heap.objs.size) g.objs.size)
  { s with heap:=h }:=by
  refine E2 (fun n F=>∃i os f,os.length=2/\Inv X' [] (cσ os js σ) f F/\tn i F.heap/\(∀b∈fp,f b=LB)/\W i n f) (fun x=>q1 _ x) ?_ m0 ⟨0,_,_,by simp,I4,st4,fun b a=>(k b a).1,w0⟩
  rintro n s5 ⟨i,os,H5,u1,I5,st5,c1,w5⟩
  rcases b1 i n H5 w5 with⟨stop,q⟩|⟨go,step⟩
  ·subst hX
   refine Iw (T.done (cxC X [x,y] js scope g.objs.size { s with heap:=g } (upd H s.heap.objs.size (.lst [])) fp) rfl rfl rfl hc i [] s5 _ H5 NoE I5 (S (pins':=[]) I5 c1) st5 stop) (fun r s6 z6=>?_) fun _ _ z=>z
   obtain⟨Y,I6⟩:=z6
   subst Y
   refine hR _ _ H5 s6 (I3.xg I6.os I6.base I6.hok I6.bare fun b a=>⟨(k b a).2.2.2.1,(k b a).2.1,(k b a).2.2.2.2.1,(k b a).2.2.2.2.2⟩) (I3.om (Ic _) I6.free) (let⟨m,hm,_⟩:=I6.loc;⟨m,hm⟩) q
  ·subst hX
   refine Iw (T.item (cxC X [x,y] js scope g.objs.size { s with heap:=g } (upd H s.heap.objs.size (.lst [])) fp) rfl rfl rfl hc i [] s5 _ H5 NoE I5 (S (pins':=[]) I5 c1) st5 go) (fun r s6 z6=>?_) fun _ _ z=>z
   obtain⟨u,Y,h6⟩:=z6
   subst Y
   refine Iw h6 (fun _ s7 z7=>?_) fun _ _ z=>z
   obtain⟨yv,H7,I7,r7,y7,st7,v1⟩:=z7
   have w1:=I7.pinned (S (pins':=[]) I7 v1) (T.obj _ _ st7)
   obtain⟨o0,o1,rfl⟩:∃o0 o1,os=[o0,o1]:=by
    exact vN u1
   refine Iw (r1 _ _ _ _ _ s7 _ H7 yv u (fun l f=>l=cσ [LA yv,o1] js σ/\f=H7) w1 r7 ⟨rfl,rfl⟩) (fun _ s8 Z=>?_) fun _ _ z=>z
   obtain⟨j3,H8,I8,e8,x1⟩:=Z
   subst e8 x1
   have d1:∀{m':Nat} {o2:Option V} {t:Hp} {B:HZ},Inv (cxC X [x,y] js scope g.objs.size { s with heap:=g } (upd H s.heap.objs.size (.lst [])) fp) ([]++gH fp s7.heap) (cσ [LA yv,o2] js σ) t B->m'<n->W (i+1) m' t->
    ∃m,m<n/\∃i os f,os.length=2/\Inv (cxC X [x,y] js scope g.objs.size { s with heap:=g } (upd H s.heap.objs.size (.lst [])) fp) [] (cσ os js σ) f B/\tn i B.heap/\(∀b∈fp,f b=LB)/\W i m f:=fun{m' o2 t B} G a0 y1=>by
    refine⟨m',a0,i+1,_,t,rfl,G.eB,T.keep _ _ _ st7 fun b a o e=>(G.pin (b,o) (IA _ (IA _ (bP a e)))).1,fun b a=>?_,y1⟩
    obtain⟨o',e,d⟩:=T.obj _ _ st7 b a
    exact(G.pin (b,o') (IA _ (IA _ (bP a e)))).2.1
   refine Iw (p1 _ _ _ _ _ s8 _ _ _ I8 (step yv H8 y7 o1)) (fun v2 s9 h9=>Iw h9 (fun l3 B z1=>?_) fun _ _ z=>z) fun _ _ z=>z
   obtain⟨b2,c2,d2,J2,t,e2,G,T2,st10,M,U,⟨n0,u0⟩,b0⟩:=z1
   subst e2
   have L:Km (IC X.prog X.w) X.A (.compLoop (two elt (.Name x px) i1 (.Name y py) i2 scope pos) 1 (.ref b2) (.ref s.heap.objs.size) (kg scope g.objs.size X.env)) (fun r s6=>match r with
    |.ok _=>∃m,m<n/\∃i os f,os.length=2/\Inv (cxC X [x,y] js scope g.objs.size { s with heap:=g } (upd H s.heap.objs.size (.lst [])) fp) [] (cσ os js σ) f s6/\tn i s6.heap/\(∀b∈fp,f b=LB)/\W i m f
    |.error e=>False) B:=by
    refine GL (fun n2 F=>∃j o2 f,Inv (cxC X [x,y] js scope g.objs.size { s with heap:=g } (upd H s.heap.objs.size (.lst [])) fp) ([]++gH fp s7.heap) (cσ [LA yv,o2] js σ) f F/\d2 j F.heap/\(∀b∈c2,f b=LB)/\U j n2 f) ?_ n0 ⟨0,o1,t,G,st10,fun b a=>(M b a).1,u0⟩
    rintro n2 e1 ⟨j,o2,c0,f1,st11,P,f2⟩
    rcases b0 j n2 c0 f2 with⟨d0,m',a0,w'⟩|⟨g2,e0⟩
    ·refine Iw (T2.done (cxC X [x,y] js scope g.objs.size { s with heap:=g } (upd H s.heap.objs.size (.lst [])) fp) rfl rfl rfl hc j _ e1 _ c0 NoE f1 (fun b a=>⟨P b a,(M b a).2⟩) st11 d0) (fun r h2 f0=>?_) fun _ _ z=>z
     obtain⟨Y,j2⟩:=f0
     subst Y
     exact d1 j2 a0 w'
    ·refine Iw (T2.item (cxC X [x,y] js scope g.objs.size { s with heap:=g } (upd H s.heap.objs.size (.lst [])) fp) rfl rfl rfl hc j _ e1 _ c0 NoE f1 (fun b a=>⟨P b a,(M b a).2⟩) st11 g2) (fun r h2 g0=>?_) fun _ _ z=>z
     obtain⟨u2,Y,k2⟩:=g0
     subst Y
     refine Iw k2 (fun _ m2 h0=>?_) fun _ _ z=>z
     obtain⟨zv,g1,p2,q2,r2,st13,h1⟩:=h0
     have j1:=p2.pinned (fun b a=>⟨h1 b a,(M b a).2⟩) (T2.obj _ _ st13)
     refine Iw (s1 _ _ _ _ _ m2 _ g1 zv u2 (fun l f=>l=cσ [LA yv,LA zv] js σ/\f=g1) j1 q2 ⟨rfl,rfl⟩) (fun _ s2 i0=>?_) fun _ _ z=>z
     obtain⟨i3,t2,w2,x2,k1⟩:=i0
     subst x2 k1
     refine Iw (he _ _ _ _ _ s2 _ _ _ w2 (e0 zv t2 r2)) (fun v y2 k0=>?_) fun _ _ z=>z
     obtain⟨vv,z2,a3,b3,ys,m1,n1,c3⟩:=k0
     refine Iw (jJ (X:=(cxC X [x,y] js scope g.objs.size { s with heap:=g } (upd H s.heap.objs.size (.lst [])) fp)) _ y2 _ z2 (.ref s.heap.objs.size) [vv] (.ref s.heap.objs.size) [v] (fun _ f=>∃n',n'<n2/\U (j+1) n' f) a3 rfl (.cons b3 .nil) ⟨_,ys,vv,rfl,rfl,m1,n1,c3⟩) (fun _ m3 l0=>?_) fun _ _ z=>z
     obtain⟨_,e3,r0,_,n',f3,g3⟩:=l0
     refine⟨n',f3,j+1,_,e3,r0.eB,T2.keep _ _ _ st13 fun b a o e=>(r0.pin (b,o) (IA _ (IA _ (bP a e)))).1,fun b a=>?_,g3⟩
     obtain⟨o',e,d⟩:=T2.obj _ _ st13 b a
     exact(r0.pin (b,o') (IA _ (IA _ (bP a e)))).2.1
   exact DC L (T2.self X.A 0 _ _ _ st10 L)
 exact codeAny_compStart_list O (T.self X.A 0 _ _ _ st4 O)
theorem Ef(c:CScope X [x,y] js scope)(l:X.calm=LC)(n:PI X (.Name x px) i1 wi)(g:∀C s H fp,PI (cxC X [x,y] js scope C s H fp) (.Name y py) i2 wi2)(p:∀C s H fp,PE (cxC X [x,y] js scope C s H fp) elt te) (r:∀x,IW i1 X.env x=pure x:=by intro _;rfl) (i:∀(env:Env) x,IW i2 env x=pure x:=by intro _ _;rfl) : PE X (two elt (.Name x px) i1 (.Name y py) i2 scope pos) (BN js wi wi2 te):=by intro pins s σ H Q I h;unfold two;rw[eval_ListComp];refine wpAny_comprehension_free (use:=LB) rfl r (c.A9 I.ok) c.kind c.names (thn (n pins s σ H _ I h) fun v L t=>thn t fun u M a=>?_);obtain⟨it,fp,tn,J,N,e,z,T,st,B,w⟩:=a;subst e;refine Bs (R:=fun j C=>compPost (IC X.prog X.w) X.A X.xe LB (EP X pins σ Q) j C) c l g i p z T st B w fun D C E F G f d q=>?_;obtain⟨m,K⟩:=d;exact⟨m,K,fun O k=>⟨.ref D,E,G.turned (t':=F.toks) (fun b o ne e=>k.extBut b o ne e) f.1 f.2.1 f.2.2.2.1 f.2.2.2.2.1 f.2.2.2.2.2,rfl,q⟩⟩
end
def Gr(I:ItD)(js:List Nat)(h:TID)(te:TD)(δ:DS)(g:MH)(Q:DK):Prop:=I.n<=1000/\∀p,g p=LB->∃W:Nat->List D->MH->Prop,W 0 [] (ay g p (.lst []))/\(∀i b M,i<=I.n->W i b M->I.C M)/\
 (∀i b d M,i<I.n->I.item i=LA d->W i b M->h (cδ [LA d,LB] js δ) M fun c k=>c.n<=1000/\∃U:Nat->List D->MH->Prop,U 0 b k/\(∀j a M,j<=c.n->U j a M->c.C M)/\
  (∀j a e M,j<c.n->c.item j=LA e->U j a M->te (cδ [LA d,LA e] js δ) M fun v l=>∃f,Sub f l/\f p=LA (.lst a)/\U (j+1) (a++[v]) (ay f p (.lst (a++[v]))))/\∀a M,U c.n a M->W (i+1) a M)/\∀b M,W I.n b M->Q (.ref p) M
def BO(a:TID)(js:List Nat)(b:TID)(te:TD):TD:=fun δ M Q=>a δ M fun I c=>Gr I js b te δ c Q
theorem tV{K:H0}{H:Hp}{d:D}{v:V}(o:Option V)(r:Rep K H d v):Slots K H [LA d,LB] [LA v,o]:=by
 refine⟨rfl,fun i e h=>?_⟩
 match i,h with
 |0,h=>cases h;exact⟨v,rfl,r⟩
 |1,h=>cases h
theorem sQ{K:H0}{H:Hp}{d e:D}{v u:V}(r:Rep K H d v)(q:Rep K H e u):Slots K H [LA d,LA e] [LA v,LA u]:=jE (.cons r (.cons q .nil))
theorem xY{K:H0}{wd LU:TID}{js:List Nat}{te:TD}{σ:L2.St}{H:Hp}{Q:VK}(h:lift K (BO wd js LU te) σ H Q):BN js (mL K wd) (mL K LU) (lift K te) σ H Q:=by
 obtain⟨δ,M,R,L,hM,q,N⟩:=h;refine⟨δ,M,_,L,hM,q,fun I M1 H1 J O a1 P S p T=>?_⟩;obtain⟨hn,P⟩:=P;obtain⟨W,w0,hC,C,done⟩:=P p (a1.fresh T);refine⟨fun i m t=>m=I.n-i/\i<=I.n/\Grow K H1 t/\∃w M,w.length<=i*1000/\Abs K t M/\W i w M,⟨I.n,by simp,JA _,.new T,[],_,JA _,a1.m8 T .nil,w0⟩,?_⟩;rintro i m t ⟨rfl,V,f,w,x,hl,F,D⟩;by_cases a:i<I.n
 ·refine .inr ⟨S.go i t x a f F (hC _ _ _ V D),fun v H3 hy o=>?_⟩;obtain⟨X,a3,d,ed,rd⟩:=S.yld i t x v H3 a f F (hC _ _ _ V D) hy;have q3:=C i w d x a ed D;refine⟨cδ [LA d,LB] js δ,x,_,kI (js:=js) (L.mono ((O.trans f).trans X)) (tV o rd),a3,q3,fun y M4 H4 J2 Y a4 Z g=>?_⟩;obtain⟨b0,U,u0,k,l,r⟩:=Z;refine⟨fun j n z=>n=y.n-j/\j<=y.n/\Grow K H4 z/\∃A M,A.length<=i*1000+j/\Abs K z M/\U j A M,⟨y.n,by simp,JA _,.refl,w,M4,(),a4,u0⟩,?_⟩;rintro j n z ⟨rfl,hj,s,A,B,c0,G,E⟩;by_cases b:j<y.n
  ·refine .inr ⟨g.go j z B b s G (k _ _ _ hj E),fun u H6 a0=>?_⟩;obtain⟨g6,a6,e,ee,re⟩:=g.yld j z B u H6 b s G (k _ _ _ hj E) a0;have s6:=kI (js:=js) (L.mono (((((O.trans f).trans X).trans Y).trans s).trans g6)) (sQ (rd.mono ((Y.trans s).trans g6)) re);refine⟨cδ [LA d,LA e] js δ,B,_,s6,a6,l j A e B b ee E,fun vv M' uu H7 g7 r7 a7 c=>?_⟩;obtain⟨M8,s8,e8,w8⟩:=c;obtain⟨ts,hx,rs⟩:=(a7.sub s8) _ _ e8;refine⟨ts,hx,?_,y.n-(j+1),(),rfl,b,((s.trans g6).trans g7).trans (.lst hx),A++[vv],_,by simp;omega,(a7.sub s8).zl hx (rs.append (.cons r7 .nil)),w8⟩;rw[<-rs.length];have sz:1000000<=Ir:=nbL rfl;omega
  ·obtain rfl:j=y.n:=()
   exact .inl ⟨g.stop z B s G (k _ _ _ hj E),I.n-(i+1),(),rfl,a,((f.trans X).trans Y).trans s,A,B,(),G,r _ _ E⟩
 ·obtain rfl:i=I.n:=()
  exact .inl ⟨S.stop t x f F (hC _ _ _ V D),N _ _ _ _ (O.trans f) (by rw[Rep]) F (done w x D)⟩
section
variable{X:Cx}{x y:Str}{px py pos:Pos}{js:List Nat}{scope:Kv}{elt i1 i2:Expr}{te:TD}{wd LU:TID}
theorem zb(c:CScope X [x,y] js scope)(d:X.calm=LC)(e:DI X (.Name x px) i1 wd)(a:∀C s H fp,DI (cxC X [x,y] js scope C s H fp) (.Name y py) i2 LU)(f:∀C s H fp,DE (cxC X [x,y] js scope C s H fp) elt te) (g:∀x,IW i1 X.env x=pure x:=by intro _;rfl) (b:∀(env:Env) x,IW i2 env x=pure x:=by intro _ _;rfl) : DE X (.ListComp elt [⟨.Name x px,i1,[],0⟩,⟨.Name y py,i2,[],0⟩] scope pos) (BO wd js LU te):=bj (Ef (te:=lift X.K te) (wi2:=mL X.K LU) c d e a f g b) fun _ _ _ h=>xY h
end
abbrev SpK:=Int×Int×Int×Int
section
variable{P:IH}{w:J5}
def rM(P:IH)(w:J5)(h:Heap)(n d:Int)(a:Addr):Prop:=IsTupleKey (intKind P w) h [n,d] a
def gu(P:IH)(w:J5)(h:Heap)(k:SpK)(a:Addr):Prop:=∃o b c m,h.get? a=LA o/\o.cls=.type "tuple"/\o.data=.seq #[.ref b,.ref c] m/\rM P w h k.1 k.2.1 b/\rM P w h k.2.2.1 k.2.2.2 c
theorem gu.inj{h:Heap}{a:Addr}{x y:SpK}(p:gu P w h x a)(q:gu P w h y a):x=y:=by
 obtain⟨o,b,c,m,j,v,k,l,n⟩:=p;obtain⟨z,r,s,A,d,B,f,t,u⟩:=q;rw[j]at d;cases d;rw[k]at f;injection f with e _;have e1:b=r/\c=s:=by simpa using e
 obtain⟨rfl,rfl⟩:=e1;have g:=IsTupleKey.inj l t;have i:=IsTupleKey.inj n u;obtain⟨x1,C,D,E⟩:=x;obtain⟨y1,F,G,H⟩:=y;simp at g i;obtain⟨rfl,rfl⟩:=g;obtain⟨rfl,rfl⟩:=i;rfl
theorem gu.keeps{h h':Heap}{k:SpK}{a d:Addr}{o:Obj}{es:Array Jt}{ep:Nat}(p:gu P w h k a)(hd:h.get? d=LA o)(e:o.data=.dict es ep)(f:K0 d h h'):gu P w h' k a:=by
 obtain⟨j,b,c,m,g,l,i,n,q⟩:=p;have ne:a≠d:=fun z=>by rw[z,hd]at g;cases g;rw[e]at i;cases i
 exact⟨j,b,c,m,(f.2 a ne).trans g,l,i,IsTupleKey.keeps n hd e f,IsTupleKey.keeps q hd e f⟩
def yT(P:IH)(w:J5)(k:SpK):Int:=reduceHash (Builtin.Tuple.tupleHashOf [tupleKeyHash (intKind P w) [k.1,k.2.1],tupleKeyHash (intKind P w) [k.2.2.1,k.2.2.2]])
theorem gu.hash{A:Jd}{E:HY->HZ->Prop}{s:HZ}{k:SpK}{a:Addr}{Q:Int->HZ->Prop}(l:A.units+4<Jq)(p:gu P w s.heap k a)(q:Q (yT P w k) { s with toks:=s.toks+7 }):Im (IC P w) A (pyHash (.ref a)) Q E s:=by
 obtain⟨o,b,c,m,e,f,h,i,j⟩:=p;obtain⟨n,g,d,r,os⟩:=s;show Im _ _ (pyHashByItsType (.ref a)) _ _ _;refine PySem.W.pyHash_slot (T:="tuple") ⟨o,e,f⟩ F.slot_tuple_hash F.entry_tuple_hash (F.args_tuple_hash_1 _) rfl (.inr ()) ?_;unfold Lb.«tuple.__hash__»;simp only[<-Array.forIn_toList]
 iterate 4 wp_step
 refine I0 ?_;refine cc (wpAny_tupleItemsOf e h ?_);refine cc ?_;simp only[List.forIn_cons,List.forIn_nil,pure_bind,bind_assoc];refine cc (wpAny_pyHash_tuple (knd:=intKind P w) (by show A.units+1<Jq;omega) i ?_);refine cc (wpAny_pyHash_tuple (knd:=intKind P w) (by show A.units+1<Jq;omega) j ?_);refine I0 ?_;unfold retInt
 wp_walk
 exact⟨_,_,rfl,q⟩
theorem jk{n:Int}{v:HY}(h:(intKind P w).is n v=LC):∃t,v=.int n t:=by
 have h:Value.isInt n v=LC:=h;cases v with
 |int i t=>
  have:(i==n)=LC:=h
  exact⟨t,by rw[eq_of_beq this]⟩
 |_=>cases h
def BA(n d:Int):KU:=.tuple [.int n,.int d]
def oW(k:SpK):KU:=.tuple [BA k.1 k.2.1,BA k.2.2.1 k.2.2.2]
theorem rM.reads{h:Heap}{n d:Int}{a:Addr}(p:rM P w h n d a):∃e,Reads h (.ref a) (BA n d) e:=by
 obtain⟨o,b,m,f,g,i,c⟩:=p;generalize j:b.toList=l at c;cases c with
 |cons k r=>
  cases r with
  |cons q r=>
   cases r
   obtain⟨t1,rfl⟩:=jk k
   obtain⟨s,rfl⟩:=jk q
   exact⟨_,.tuple f g i (by rw[j];exact .cons (.int _ _) (.cons (.int _ _) .nil))⟩
theorem gu.reads{h:Heap}{k:SpK}{a:Addr}(p:gu P w h k a):∃d,Reads h (.ref a) (oW k) d:=by obtain⟨o,b,c,m,e,f,g,i,j⟩:=p;obtain⟨d,l⟩:=i.reads;obtain⟨bs,n⟩:=j.reads;exact⟨_,.tuple e f g (.cons l (.cons n .nil))⟩
theorem zy(x y:SpK):(oW x).eqv (oW y)=decide (x=y):=by obtain⟨x1,a,b,c⟩:=x;obtain⟨y1,d,e,f⟩:=y;simp only[oW,BA,J0,Jo,Bool.and_true];rw[K7];simp[and_assoc]
theorem gu.eq{A:Jd}{E:HY->HZ->Prop}{s:HZ}{x y:SpK}{a b:Addr}{Q:Bool->HZ->Prop}(f:A.units+4<Jq)(p:gu P w s.heap x a)(p':gu P w s.heap y b)(q:Q (decide (x=y)) s):Im (IC P w) A (eqBool (.ref a) (.ref b)) Q E s:=by obtain⟨c,d⟩:=p.reads;obtain⟨bs,e⟩:=p'.reads;have hd:min (oW x).depth (oW y).depth<=3:=Jp (Nat.min_le_left _ _) (nbL rfl);have:=SeqAt.eqAt_reads (oW x) (oW y) A s (.ref a) (.ref b) c bs d e rfl rfl ();rw[zy]at this;exact this P w E Q q
theorem rM.quiet{A:Jd}{E:HY->HZ->Prop}{s:HZ}{n d:Int}{a:Addr}{Q:Bool->HZ->Prop}(i:Nat)(p:rM P w s.heap n d a)(q:Q LC s):Im (IC P w) A (eqIsQuiet (i+1) (.ref a)) Q E s:=by
 obtain⟨o,b,m,c,e,g,f⟩:=p;rw[eqIsQuiet.eq_2];refine cc (wpAny_specialOf ⟨o,c,e⟩ F.slot_tuple_eq.lookup ?_);refine cc (wpAny_isInstance ⟨o,c,e⟩ isSubtype_tuple_tuple ?_);simp only[Bool.not_true,JV,if_false];refine cc (KY c g ?_);simp only[Option.getD_some,<-Array.forIn_toList];generalize t:b.toList=l at f;cases f with
 |cons h r=>
  cases r with
  |cons j r=>
   cases r
   obtain⟨t1,rfl⟩:=jk h
   obtain⟨k,rfl⟩:=jk j
   refine cc ?_
   simp only[List.forIn_cons,List.forIn_nil,pure_bind,bind_assoc,eqIsQuiet_byValue i (show carriedByValue (.int n t1)=LC from rfl),eqIsQuiet_byValue i (show carriedByValue (.int d k)=LC from rfl),Bool.not_true,JV,if_false]
   refine I0 ?_
   exact I0 q
theorem gu.quiet{A:Jd}{E:HY->HZ->Prop}{s:HZ}{k:SpK}{a:Addr}{Q:Bool->HZ->Prop}(p:gu P w s.heap k a)(q:Q LC s):Im (IC P w) A (eqIsQuiet 8 (.ref a)) Q E s:=by obtain⟨o,b,c,m,d,e,f,g,h⟩:=p;rw[eqIsQuiet.eq_2];refine cc (wpAny_specialOf ⟨o,d,e⟩ F.slot_tuple_eq.lookup ?_);refine cc (wpAny_isInstance ⟨o,d,e⟩ isSubtype_tuple_tuple ?_);simp only[Bool.not_true,JV,if_false];refine cc (KY d f ?_);simp only[Option.getD_some,<-Array.forIn_toList];refine cc ?_;simp only[List.forIn_cons,List.forIn_nil,pure_bind,bind_assoc];refine cc (g.quiet 6 ?_);simp only[Bool.not_true,JV,if_false,pure_bind];refine cc (h.quiet 6 ?_);simp only[Bool.not_true,JV,if_false,pure_bind];refine I0 ?_;exact I0 q
def dW(P:IH)(w:J5):HeapKind P w SpK where
 is:=gu P w
 hash:=yT P w
 draws:=fun _=>7
 room:=fun A=>A.units+4<Jq
 inj:=fun p q=>p.inj q
 keeps:=fun p hd b c=>p.keeps hd b c
 pyHash:=fun a p q=>p.hash a q
 eqBool:=fun a p d q=>p.eq a d q
 quiet:=fun p q=>p.quiet q
end
section
variable{X:Cx}{pins:List (Addr×Obj)}{σ:L2.St}{H:Hp}{s:HZ}{a b:Addr}{k:SpK}
def dq(K:H0)(H:Hp)(b:Addr)(k:SpK):Prop:=∃f g,SqT K H b [.ref f,.ref g]/\SqT K H f [.int k.1,.int k.2.1]/\SqT K H g [.int k.2.2.1,.int k.2.2.2]
theorem BX{n d:Int}{f:Addr}(I:L2.Inv X pins σ H s)(h:SqT X.K H f [.int n,.int d]):rM X.prog X.w s.heap n d f:=by
 obtain⟨c,r,e,_⟩:=I.tuple h;cases r with
 |cons g r=>cases r with
  |cons i r=>
   cases r
   obtain⟨t1,rfl⟩:=g
   obtain⟨q,rfl⟩:=i
   obtain⟨o,j,l,m,p⟩:=e
   exact⟨o,_,m,j,l,p,.cons (by show((n==n)=LC);simp) (.cons (by show((d==d)=LC);simp) .nil)⟩
theorem qL(I:L2.Inv X pins σ H s)(h:dq X.K H b k):gu X.prog X.w s.heap k b:=by
 obtain⟨f,g,c,d,e⟩:=h;obtain⟨i,r,j,_⟩:=I.tuple c;cases r with
 |cons l r=>cases r with
  |cons n r=>
   cases r
   cases l
   cases n
   obtain⟨o,p,q,m,t⟩:=j
   exact⟨o,f,g,m,p,q,t,BX I d,BX I e⟩
abbrev SpE:=SpK×Addr×V
def bW(P:IH)(w:J5)(a:Addr)(xs:List SpE):Heap->Prop:=fun h=>(a==JU)=LD/\xs.length<=Ir/\(xs.map (·.1)).Nodup/\∃c:List (SpK×Addr×HY),
 La (fun(p:SpE) (q:SpK×Addr×HY)=>p.1=q.1/\p.2.1=q.2.1/\RelV p.2.2 q.2.2) xs c/\∃o d e,h.get? a=LA o/\o.ExactDict/\o.data=.dict d e/\d.toList=c.map (entryOfKey (dW P w))
def fF(xs:List SpE)(k:SpK)(b:Addr)(v:V):List SpE:=if(xs.any fun x=>decide (x.1=k))=LC then xs.map (fun x=>if x.1=k then(x.1,x.2.1,v)else x)else xs++[(k,b,v)]
abbrev PrS:=fun(p:SpE) (q:SpK×Addr×HY)=>p.1=q.1/\p.2.1=q.2.1/\RelV p.2.2 q.2.2
theorem iT{xs:List SpE}{c:List (SpK×Addr×HY)}(r:La PrS xs c):c.map (·.1)=xs.map (·.1):=by
 induction r with
 |nil=>rfl
 |cons h t d=>rw[Ih,Ih,d,h.1]
theorem BB{xs:List SpE}{d:List (SpK×Addr×HY)}(r:La PrS xs d)(k:SpK):(xs.any fun x=>decide (x.1=k))=(atKey d k).isSome:=by
 induction r with
 |nil=>rfl
 |@cons p q ps qs h t ih=>
  rw[Kp]
  by_cases e:p.1=k
  ·have c:q.1=k:=h.1.symm.trans e;simp[atKey,IU,e,c]
  ·have c:¬q.1=k:=fun z=>e (h.1.trans z);rw[LH e,Bool.false_or,ih];simp[atKey,IU,c]
theorem gY{xs:List SpE}{c:List (SpK×Addr×HY)}(r:La PrS xs c)(k:SpK)(b:Addr){v:V}{u:HY}(d:RelV v u):La PrS (fF xs k b v) (storedH c k b u):=by
 unfold fF storedH;rw[BB r k];by_cases e:(atKey c k).isSome=LC
 ·rw[LG e,LG e];clear e
  induction r with
  |nil=>exact .nil
  |@cons p q ps qs h t ih=>
   rw[Ih,Ih]
   refine .cons ?_ ih
   unfold putAt
   by_cases e:p.1=k
   ·rw[LG e,LG (h.1.symm.trans e)];exact⟨h.1,h.2.1,d⟩
   ·rw[LF e,LF (fun z=>e (h.1.trans z))];exact h
 ·rw[LF e,LF e];exact Paired.snoc r ⟨rfl,rfl,d⟩
theorem kA{xs:List SpE}{c:List (SpK×Addr×HY)}(r:La PrS xs c):xs.length=c.length:=by
 induction r with
 |nil=>rfl
 |cons h t d=>rw[Jg,Jg,d]
theorem AA{xs:List SpE}{c:List (SpK×Addr×HY)}(r:La PrS xs c){q:SpK×Addr×HY}(h:q∈c):∃p∈xs,p.1=q.1/\p.2.1=q.2.1:=by
 induction r with
 |nil=>cases h
 |cons d t f=>
  rcases J3.mp h with z|z
  ·subst z;exact⟨_,by simp,d.1,d.2.1⟩
  ·obtain⟨p,g,e⟩:=f z;exact⟨p,by simp[g],e⟩
theorem k6(xs:List SpE)(k:SpK)(b:Addr)(v:V):(fF xs k b v).length<=xs.length+1:=by
 unfold fF;split
 ·rw[Ii];omega
 ·simp
theorem oN{xs:List SpE}(I:L2.Inv X pins σ H s)(e:H a=LA (.ext (bW X.prog X.w a xs)))(d:∀x∈xs,dq X.K H x.2.1 x.1):(a==JU)=LD/\xs.length<=Ir/\∃c,La PrS xs c/\s.heap.DictOfH (dW X.prog X.w) a c:=by obtain⟨⟨f,g,h,c,r,o,i,j,l,m,n,q⟩,_⟩:=I.hok a _ e;refine⟨f,g,c,r,o,i,j,l,m,n,q,fun x t=>?_,by rw[iT r];exact h⟩;obtain⟨p,u,e1,e2⟩:=AA r t;rw[<-e1,<-e2];exact qL I (d p u)
theorem kD{P:IH}{w:J5}{xs:List SpE}(c d:Heap)(h:bW P w a xs c)(k:∀o,c.get? a=LA o->d.get? a=LA o):bW P w a xs d:=by obtain⟨e,f,g,i,r,o,j,l,m,q⟩:=h;exact⟨e,f,g,i,r,o,j,l,k o m,q⟩
theorem BC{A:Jd}{E:HY->HZ->Prop}{Q:Unit->HZ->Prop}{xs:List SpE}{v:V}{u:HY}(G:A.units+8<Jq)(I:L2.Inv X pins σ H s)(e:H a=LA (.ext (bW X.prog X.w a xs)))(i:∀x∈xs,dq X.K H x.2.1 x.1)(j:dq X.K H b k)(f:RelV v u)(J:xs.length<Ir)
 (h:∀g,L2.Inv X pins σ (upd H a (.ext (bW X.prog X.w a (fF xs k b v)))) g->Q .unit g):Im (IC X.prog X.w) A (setItem (.ref a) (.ref b) u) Q E s:=by
 obtain⟨hd,l,L,r,m⟩:=oN I e i
 refine wpAny_setItem_heap (knd:=dW X.prog X.w) (hsz:=by rw[<-kA r];exact l) (show A.in1.units+4<Jq by show A.units+1+4<Jq;omega) (qL I j) m fun M c n=>h _ ?_
 obtain⟨q,o,p,d,t,z,B,_,C⟩:=c
 refine ji I (by rw[e];exact True.intro) n ⟨q,d⟩ ⟨⟨hd,?_,?_,_,gY r k b f,q,o,p,d,t,z,B⟩,⟨q,d⟩,fun D F x y=>kD D F x y⟩
 ·have:=k6 xs k b v;omega
 ·rw[<-iT (gY r k b f)];exact C
theorem uG(I:L2.Inv X pins σ H s):L2.Inv X pins σ (upd H s.heap.objs.size (.ext (bW X.prog X.w s.heap.objs.size []))) { s with heap:=s.heap.push { cls:=.type "dict",data:=.dict #[] } }:=
 I.laid (a:=s.heap.objs.size) (t':=s.toks) (fun _ _ q=>Ib _ q) (Ic _)
  ⟨⟨beq_eq_false_iff_ne.mpr (Ne.symm (J6 I.big)),JA _,List.nodup_nil,[],.nil,_,#[],0,Ik _ rfl,⟨rfl,rfl,rfl⟩,rfl,rfl⟩,⟨_,Ik _ rfl⟩,fun c d x y=>kD c d x y⟩
def eC(xs:List SpE)(k:SpK):Option V:=(xs.find? fun x=>decide (x.1=k)).map (·.2.2)
theorem pD{xs:List SpE}{d:List (SpK×Addr×HY)}(r:La PrS xs d){v:V}(h:eC xs k=LA v):∃p:Addr×HY,atKey d k=LA p/\RelV v p.2:=by
 induction r with
 |nil=>cases h
 |@cons p q ps qs h' t ih=>
  by_cases e:p.1=k
  ·have c:q.1=k:=h'.1.symm.trans e;simp[eC,IU,e]at h;subst h;exact⟨q.2,by simp[atKey,IU,c],h'.2.2⟩
  ·have c:¬q.1=k:=fun z=>e (h'.1.trans z);have f:eC ps k=LA v:=by simpa[eC,IU,e]using h
   obtain⟨g,i,j⟩:=ih f;exact⟨g,by simpa[atKey,IU,c]using i,j⟩
theorem zP{A:Jd}{E:HY->HZ->Prop}{Q:HY->HZ->Prop}{xs:List SpE}{v:V}(m:A.units+8<Jq)(I:L2.Inv X pins σ H s)(e:H a=LA (.ext (bW X.prog X.w a xs)))(d:∀x∈xs,dq X.K H x.2.1 x.1)(f:dq X.K H b k)(g:eC xs k=LA v) (h:∀u c,L2.Inv X pins σ H c->RelV v u->Q u c):Im (IC X.prog X.w) A (getItem (.ref a) (.ref b)) Q E s:=by obtain⟨hd,n,o,r,i⟩:=oN I e d;obtain⟨p,j,l⟩:=pD r g;exact wpAny_getItem_heap (knd:=dW X.prog X.w) (show A.in1.units+4<Jq by show A.units+1+4<Jq;omega) (qL I f) i j (h _ _ (I.tok _) l)
end
section
variable{prog:IH}{w:J5}{K:Type}[DecidableEq K]{knd:HeapKind prog w K}{A:Jd}{E:HY->HZ->Prop}{s:HZ}
theorem qT{d a:Addr}{xs:List (K×Addr×HY)}{k:K}{v:HY}{Q:HY->HZ->Prop}(q:knd.room A)(b:knd.is s.heap k a)(t:s.heap.DictOfH knd d xs) (u:∀p,atKey xs k=LA p->Q p.2 { s with toks:=s.toks+knd.draws k }) (z:atKey xs k=LB->∀h',h'.DictOfH knd d (storedH xs k a v)->K0 d s.heap h'->Q v { s with heap:=h',toks:=s.toks+knd.draws k }) (hsz:xs.length<=Ir) : Im (IC prog w) A (dictSetDefault d (.ref a) v) Q E s:=by
 obtain⟨o,F,B,f,C,hd,m,h,n⟩:=t;unfold dictSetDefault
 try with_reducible refine JD ?_
 refine cc (knd.pyHash q b ?_);refine cc (wpAny_dictFind_heap (s:={ s with toks:=s.toks+knd.draws k }) q b f hd m h n ?_ ?_)
 ·intro i;have l:k∉xs.map (·.1):=not_mem_keys_of_get i;have g:=atKey_none_of_get i
  refine cc (wpAny_rule (cc (wpAny_updateDictKeys (hz:=by have e:=size_of_entries m;omega) (s:={ s with toks:=s.toks+knd.draws k }) f hd (I0 (z g _ ⟨_,_,B+1,Kc _ f (Obj.isFreed_of_dict (Obj.data_mapDictKeys hd _)),
   C.mapDictKeys _,Obj.data_mapDictKeys hd _,?_,?_,?_⟩ (K4 ..))))))
  ·rw[storedH_new g];simp[m,entryOfKey]
  ·rw[storedH_new g];intro x c;rcases IL.mp c with c|c
   ·exact knd.keeps (h x c) f hd (K4 ..)
   ·have:x=(k,a,v):=by simpa using c
    subst this;exact knd.keeps b f hd (K4 ..)
  ·rw[storedH_new g,IK,List.nodup_append];refine⟨n,by simp,?_⟩;intro x c y D;have:y=k:=by simpa using D
   subst this;exact fun e=>l (e▸c)
 ·intro j p r;have g:=atKey_of_get n r;refine cc (wpAny_dictEntries (s:={ s with toks:=s.toks+knd.draws k }) f hd ?_);rw[entry_at m j,r];exact cc (wpAny_rule (I0 (u p g)))
theorem qf{d a:Addr}{xs:List (K×Addr×HY)}{k:K}{v:HY}{Q:HY->HZ->Prop}(g:knd.room A.in1)(b:knd.is s.heap k a)(c:s.heap.DictOfH knd d xs)(hd:(d==JU)=LD)
 (h:∀p,atKey xs k=LA p->Q p.2 { s with toks:=s.toks+knd.draws k })
 (i:atKey xs k=LB->∀h',h'.DictOfH knd d (storedH xs k a v)->K0 d s.heap h'->Q v { s with heap:=h',toks:=s.toks+knd.draws k }) (hsz:xs.length<=Ir) :
 Im (IC prog w) A (call (.builtin "dict.setdefault") [.ref d,.ref a,v]) Q E s:=by
 refine Ku PySem.F.slot_dict_setdefault c.typeIs PySem.F.entry_dict_setdefault ?_ (PySem.F.args_dict_setdefault_3 _ _ _)
 unfold Lb.«dict.setdefault»
 refine cc ?_
 unfold Builtin.Dict.keyAndDefault
 refine cc (wpAny_notOrdered_dict c.typeIs ?_)
 show Im _ _ (pure (d,Jx a,LA v)) _ _ s
 refine I0 ?_
 show Im _ _ (if(d==JU)=LC then _ else(dictSetDefault d (.ref a) v >>= _)) _ _ s
 rw[LF (by rw[hd];exact Iq)]
 exact cc (qT g b c (fun p j=>I0 ⟨p.2,rfl,h p j⟩) (fun l h' e f=>I0 ⟨v,rfl,i l h' e f⟩) hsz)
end
section
variable{X:Cx}{pins:List (Addr×Obj)}{σ:L2.St}{H:Hp}{s:HZ}{a b:Addr}{k:SpK}
theorem yd{xs:List SpE}{c:List (SpK×Addr×HY)}(r:La PrS xs c)(h:eC xs k=LB):atKey c k=LB:=by
 induction r with
 |nil=>rfl
 |@cons p q ps qs h' t ih=>
  by_cases e:p.1=k
  ·simp[eC,IU,e]at h
  ·have d:¬q.1=k:=fun z=>e (h'.1.trans z);have f:eC ps k=LB:=by simpa[eC,IU,e]using h
   have:=ih f;simpa[atKey,IU,d]using this
theorem rN{A:Jd}{E:HY->HZ->Prop}{Q:HY->HZ->Prop}{xs:List SpE}{v:V}{u:HY}(S:A.units+8<Jq)(I:L2.Inv X pins σ H s)(e:H a=LA (.ext (bW X.prog X.w a xs)))(t:∀x∈xs,dq X.K H x.2.1 x.1)(z:dq X.K H b k)(n:RelV v u)(T:xs.length<Ir)
 (h:∀d o f,eC xs k=LA d->L2.Inv X pins σ H f->RelV d o->Q o f)
 (i:eC xs k=LB->∀f,L2.Inv X pins σ (upd H a (.ext (bW X.prog X.w a (fF xs k b v)))) f->Q u f):Im (IC X.prog X.w) A (call (.builtin "dict.setdefault") [.ref a,.ref b,u]) Q E s:=by
 obtain⟨hd,B,U,r,C⟩:=oN I e t
 refine qf (knd:=dW X.prog X.w) (show A.in1.units+4<Jq by show A.units+1+4<Jq;omega) (qL I z) C hd (fun p j=>?_) (fun D W l F=>?_) (by rw[<-kA r];exact B)
 ·cases c:eC xs k with
  |none=>rw[yd r c]at j;cases j
  |some d=>
   obtain⟨G,g,J⟩:=pD r c
   rw[j]at g
   cases g
   exact h d _ _ c (I.tok _) J
 ·have c:eC xs k=LB:=by
   cases c:eC xs k with
   |none=>rfl
   |some d=>
    obtain⟨G,g,_⟩:=pD r c
    rw[D]at g;cases g
  refine i c _ ?_
  obtain⟨q,L,M,m,N,O,P,_,R⟩:=l
  refine ji I (by rw[e];exact True.intro) F ⟨q,m⟩ ⟨⟨hd,?_,?_,_,gY r k b n,q,L,M,m,N,O,P⟩,⟨q,m⟩,fun h i x y=>kD h i x y⟩
  ·have:=k6 xs k b v;omega
  ·rw[<-iT (gY r k b n)];exact R
end
section
variable{X:Cx}
def C9(X:Cx):TE:=fun _ H Q=>∀p,H p=LB->Q (.ref p) (upd H p (.ext (bW X.prog X.w p [])))
theorem yK{pos:Pos}:PE X (.Dict [] [] pos) (C9 X):=fun pins s σ H Q I h=>wpAny_Dict_empty ⟨.ref s.heap.objs.size,_,uG I,rfl,h _ (I.hok.fresh (Ic _))⟩
structure DsAt(X:Cx)(H:Hp)(a b:Addr)(xs:List SpE)(k:SpK):Prop where
 d:H a=LA (.ext (bW X.prog X.w a xs))
 ks:∀x∈xs,dq X.K H x.2.1 x.1
 key:dq X.K H b k
def Dn(X:Cx)(d ty:TE):TE:=fun σ H Q=>d σ H fun x H1=>ty σ H1 fun y c=>∃a b xs k v,x=.ref a/\y=.ref b/\DsAt X c a b xs k/\eC xs k=LA v/\Q v c
theorem zw{pins:List (Addr×Obj)}{σ:L2.St}{H:Hp}{s:HZ}{a:Addr}{xs:List SpE}(I:L2.Inv X pins σ H s)(e:H a=LA (.ext (bW X.prog X.w a xs))):s.TypeIs (.ref a) "dict"/\∀b,Jx a=.ref b->∃o,s.heap.get? b=LA o/\o.dict=LB:=by obtain⟨⟨_,_,_,_,_,o,_,_,c,d,_⟩,_⟩:=I.hok a _ e;exact⟨⟨o,c,d.1⟩,fun b z=>by cases z;exact⟨o,c,d.2.1⟩⟩
theorem zC{o i:Expr}{e ty:TE}{pos:Pos}(g:X.A.units+8<Jq)(j:PE X o e)(l:PE X i ty)(m:Fz i):PE X (.Subscript o i pos) (Dn X e ty):=by intro pins s σ H Q I h;refine Subscript_ (thn (j pins s σ H _ I h) fun v n ⟨x,H1,p,r,t⟩=>thn (l pins n σ H1 _ p t) fun u K c=>?_);obtain⟨y,w,f,z,a,b,xs,k,B,ex,C,D,E,q⟩:=c;subst ex C;cases r;cases z;exact tail_any (zw f D.d).1 PySem.F.slot_dict_getitem.lookup (zP g f D.d D.ks D.key E fun L M G J=>⟨B,w,G,J,q⟩) (m _ _)
def CG(X:Cx)(d ty e:TE):TS:=fun D σ H=>e σ H fun v H1=>d σ H1 fun x f=>ty σ f fun y c=>∃a b xs k,x=.ref a/\y=.ref b/\DsAt X c a b xs k/\xs.length<Ir/\D.nx σ (upd c a (.ext (bW X.prog X.w a (fF xs k b v))))
theorem yL{o i c:Expr}{g ty j:TE}{pos e:Pos}(l:X.A.units+8<Jq)(m:PE X o g)(n:PE X i ty)(p:PE X c j)(q:Ks c (LA (.Subscript o i e)) pos.line X.env=pure LD) : PS X (.Assign [.Subscript o i e] c pos) (CG X g ty j):=by intro pins s σ H D I h;refine wpAny_Assign_Subscript (thn (p pins s σ H _ I h) fun r t ⟨v,H1,w,z,B⟩=>thn (m pins t σ H1 _ w B) fun u C ⟨x,E,F,G,J⟩=>thn (n pins C σ E _ F J) fun Q R f=>?_) q;obtain⟨y,S,K,L,a,b,xs,k,ex,M,A,N,O⟩:=f;subst ex M;cases G;cases L;exact BC l K A.d A.ks A.key z N fun T P=>⟨σ,_,P,O⟩
def EX(X:Cx)(f:TE)(t:TA):TE:=fun σ H Q=>f σ H fun x H1=>∃a c,x=.ref a/\H1 a=LA (.ext (bW X.prog X.w a c))/\t σ H1 fun vs d=>∃b v xs k,vs=[.ref b,v]/\DsAt X d a b xs k/\xs.length<Ir/\
 (∀e,eC xs k=LA e->Q e d)/\(eC xs k=LB->Q v (upd d a (.ext (bW X.prog X.w a (fF xs k b v)))))
theorem Bz{o e1 e2:Expr}{r:TE}{t:TA}{e br:Pos}(z:X.A.units+8<Jq)(B:PE X o r)(C:PA X [e1,e2] t)
 (f:attributeBase o "setdefault" X.env (eval o X.env)=eval o X.env:=by rfl)
 (l:((JL br (Iz [e1,e2] X.env)).all (fun x=>!x.1)&&(backToKw br (KJ [] X.env)).all (fun x=>x.1.isSome)
  && decide ([e1,e2].length+([]:List Keyword).length+(if([]:List Keyword).isEmpty then 0 else 1)<30))=LC:=by rfl)
 (g:(e.endLine==br.line)=LC:=by rfl) (E:Iz [e1,e2] X.env=(LD,eval e1 X.env)::Iz [e2] X.env:=by rfl) (c:(JL br (Iz [e2] X.env)).any (·.1)=LD:=by rfl) :
 PE X (.Call (.Attribute o "setdefault" e) [e1,e2] [] br) (EX X r t):=by
 intro pins s σ H Q I h
 refine wpAny_Call_method_late f l g rfl (thn (B pins s σ H _ I h) fun v G i=>?_)
 obtain⟨x,H1,u,J,a,K,ex,L,M⟩:=i
 subst ex
 cases J
 obtain⟨N,O⟩:=zw u L
 refine⟨"dict","dict.setdefault",PySem.F.plainAttrs_dict,PySem.F.slot_dict_setdefault,PySem.F.type_dict_setdefault,N,O,?_⟩
 have w:=C br pins G σ H1 _ u M
 rw[E]at w ⊢
 refine Calls.callWith_builtin (by show(LD||(JL br (Iz [e2] X.env)).any (·.1))=LD;rw[c]<;>rfl) (Calls.evalArgs_plain ?_)
 refine thn w fun us s2 j=>?_
 obtain⟨vs,P,R,S,b,T,xs,k,n,D,U,k1,V⟩:=j
 subst n
 obtain⟨u1,u2,rfl,p,m⟩:=S.two
 cases p
 exact rN z R D.d D.ks D.key m U (fun y u' W n q Y=>⟨y,P,q,Y,k1 y n⟩) (fun Z W q=>⟨T,_,q,m,V Z⟩)
end
def spD(k:SpK):D:=.tup [.tup [.int k.1,.int k.2.1],.tup [.int k.2.2.1,.int k.2.2.2]]
section
variable{K:H0}{H H':Hp}{M:MH}{a b:Addr}{k:SpK}
theorem qz{v:V}(r:Rep K H (spD k) v):∃b,v=.ref b/\dq K H b k:=by unfold spD at r;rw[Rep]at r;obtain⟨b,xs,rfl,l,m⟩:=r;obtain⟨s,t,rfl,c,d⟩:=gi m;rw[Rep]at c d;obtain⟨f,fs,rfl,n,o⟩:=c;obtain⟨g,u,rfl,p,q⟩:=d;obtain⟨w,x,rfl,e,h⟩:=gi o;obtain⟨y,z,rfl,i,j⟩:=gi q;rw[Rep]at e h i j;subst e h i j;exact⟨b,rfl,f,g,l,n,p⟩
theorem xj(h:dq K H b k):Rep K H (spD k) (.ref b):=by
 obtain⟨f,g,d,e,i⟩:=h;unfold spD;rw[Rep];refine⟨b,_,rfl,d,?_⟩;have c:∀(m n:Int),aE K H [D.int m,D.int n] [V.int m,V.int n]:=fun m n=>jS [m,n];rw[aE];refine⟨_,_,rfl,?_,?_⟩
 ·rw[Rep];exact⟨f,_,rfl,e,c _ _⟩
 ·rw[aE];refine⟨_,_,rfl,?_,?_⟩
  ·rw[Rep];exact⟨g,_,rfl,i,c _ _⟩
  ·rw[aE]
theorem dq.mono(g:Grow K H H')(h:dq K H b k):dq K H' b k:=by obtain⟨c,e,r⟩:=qz ((xj h).mono g);cases e;exact r
abbrev SpT:=List (SpK×D)
def dsA(kvs:SpT):H0->Hp->Addr->Prop:=fun K H a=>∃xs:List SpE,(∀P w,H a=LA (.ext (bW P w a xs)))/\xs.map (·.1)=kvs.map (·.1)/\(∀x∈xs,dq K H x.2.1 x.1)/\aE K H (kvs.map (·.2)) (xs.map (·.2.2))
theorem yt{kvs:SpT}(h:dsA kvs K H a)(g:Grow K H H')(e:H' a=H a):dsA kvs K H' a:=by obtain⟨xs,c,d,f,i⟩:=h;exact⟨xs,fun P w=>e.trans (c P w),d,fun x j=>(f x j).mono g,i.mono g⟩
def dsM(kvs:SpT):MO:=.gen (dsA kvs)
theorem Abs.dsp{kvs:SpT}(h:Abs K H M)(e:M a=LA (dsM kvs)):dsA kvs K H a:=(h a _ e).1
theorem dsA.xn{kvs:SpT}(h:dsA kvs K H a)(ne:H a≠LB):qV K H a (dsM kvs):=⟨h,ne,fun H' g e=>yt h g e⟩
theorem Abs.BV{p:Addr}(P:IH)(w:J5)(h:Abs K H M)(c:H p=LB):Abs K (upd H p (.ext (bW P w p []))) (ay M p (dsM [])):=fun a u e=>by
 by_cases ne:a=p
 ·subst ne;rw[ai]at e;cases e;exact dsA.xn ⟨[],(fun P w=>aZ),rfl,(fun x d=>by simp at d),(by simp[aE])⟩ (by rw[aZ];simp)
 ·rw[ak ne]at e;exact(h a u e).iD (.new c) (aT ne)
def dF(kvs:SpT)(k:SpK):Option D:=(kvs.find? fun x=>decide (x.1=k)).map (·.2)
def putD(kvs:SpT)(k:SpK)(d:D):SpT:=if(kvs.any fun x=>decide (x.1=k))=LC then kvs.map (fun x=>if x.1=k then(x.1,d)else x)else kvs++[(k,d)]
theorem oO(k:SpK):∀{kvs:SpT} {xs:List SpE},xs.map (·.1)=kvs.map (·.1)->aE K H (kvs.map (·.2)) (xs.map (·.2.2))->(∀d,dF kvs k=LA d->∃v,eC xs k=LA v/\Rep K H d v)/\(dF kvs k=LB->eC xs k=LB)/\((xs.any fun x=>decide (x.1=k))=kvs.any fun x=>decide (x.1=k))
 |[],[],_,_=>⟨(fun d h=>by simp[dF]at h),(fun _=>rfl),rfl⟩
 |[],x::xs,h,_=>by cases h
 |y::kvs,[],h,_=>by cases h
 |y::kvs,x::xs,h,r=>by
  rw[Ih,Ih]at h
  injection h with g i
  rw[Ih,Ih,aE]at r
  obtain⟨v,vs,e,j,l⟩:=r
  injection e with e1 e2
  subst e1 e2
  obtain⟨m,n,o⟩:=oO k i l
  by_cases e:y.1=k
  ·have c:x.1=k:=g.trans e
   refine⟨fun d hd=>?_,fun f=>?_,?_⟩
   ·simp[dF,IU,e]at hd
    subst hd
    exact⟨x.2.2,by simp[eC,IU,c],j⟩
   ·simp[dF,IU,e]at f
   ·simp[e,c]
  ·have c:¬x.1=k:=fun z=>e (g.symm.trans z)
   refine⟨fun d hd=>?_,fun f=>?_,?_⟩
   ·obtain⟨v,p,q⟩:=m d (by simpa[dF,IU,e]using hd)
    exact⟨v,by simpa[eC,IU,c]using p,q⟩
   ·have:=n (by simpa[dF,IU,e]using f)
    simpa[eC,IU,c]using this
   ·rw[Kp,Kp,o,LH e,LH c]
theorem uZ(k:SpK){d:D}{v:V}(r:Rep K H d v):∀{kvs:SpT} {xs:List SpE},xs.map (·.1)=kvs.map (·.1)->aE K H (kvs.map (·.2)) (xs.map (·.2.2))->
 (xs.map fun x=>if x.1=k then(x.1,x.2.1,v)else x).map (·.1)=(kvs.map fun x=>if x.1=k then(x.1,d)else x).map (·.1)/\aE K H ((kvs.map fun x=>if x.1=k then(x.1,d)else x).map (·.2)) ((xs.map fun x=>if x.1=k then(x.1,x.2.1,v)else x).map (·.2.2))
 |[],[],_,h=>⟨rfl,h⟩
 |[],x::xs,h,_=>by cases h
 |y::kvs,[],h,_=>by cases h
 |y::kvs,x::xs,h,q=>by
  rw[Ih,Ih]at h
  injection h with c j
  rw[Ih,Ih,aE]at q
  obtain⟨n,vs,e,l,m⟩:=q
  injection e with e1 e2
  subst e1 e2
  obtain⟨g,i⟩:=uZ k r j m
  by_cases e:y.1=k
  ·have f:x.1=k:=c.trans e
   simp only[Ih,LG e,LG f]
   exact⟨by rw[g];exact congrArg (·::_) c,by rw[aE];exact⟨_,_,rfl,r,i⟩⟩
  ·have f:¬x.1=k:=fun z=>e (c.symm.trans z)
   simp only[Ih,LF e,LF f]
   exact⟨by rw[g];exact congrArg (·::_) c,by rw[aE];exact⟨_,_,rfl,l,i⟩⟩
theorem Dd{kvs:SpT}{xs:List SpE}{d:D}{v:V}(c:xs.map (·.1)=kvs.map (·.1))(f:aE K H (kvs.map (·.2)) (xs.map (·.2.2)))(h:∀x∈xs,dq K H x.2.1 x.1)(i:dq K H b k)(r:Rep K H d v) : (fF xs k b v).map (·.1)=(putD kvs k d).map (·.1)/\aE K H ((putD kvs k d).map (·.2)) ((fF xs k b v).map (·.2.2))/\∀x∈fF xs k b v,dq K H x.2.1 x.1:=by
 unfold fF putD;rw[(oO k c f).2.2];by_cases e:(kvs.any fun x=>decide (x.1=k))=LC
 ·rw[LG e,LG e];obtain⟨j,l⟩:=uZ k r c f;refine⟨j,l,fun x g=>?_⟩;obtain⟨y,m,rfl⟩:=J1.mp g;have:=h y m;by_cases e:y.1=k
  ·rw[LG e];exact this
  ·rw[LF e];exact this
 ·rw[LF e,LF e];refine⟨by rw[IK,IK,c];rfl,?_,fun x g=>?_⟩
  ·rw[IK,IK];exact f.append (by rw[Ih,Ih,JF,JF,aE];exact⟨_,_,rfl,r,by rw[aE]⟩)
  ·rcases IL.mp g with z|z
   ·exact h x z
   ·have:x=(k,b,v):=by simpa using z
    subst this;exact i
theorem Grow.ext{c:Heap->Prop}{o:HO}(h:H a=LA (.ext c)):Grow K H (upd H a o):=.put (fun xs e=>by rw[h]at e;cases e) (fun u xs e=>by rw[h]at e;cases e)
theorem Abs.y8{kvs:SpT}{xs:List SpE}{d:D}{v:V}(P:IH)(w:J5)(h:Abs K H M)(f:∀P w,H a=LA (.ext (bW P w a xs)))(i:xs.map (·.1)=kvs.map (·.1))(j:aE K H (kvs.map (·.2)) (xs.map (·.2.2)))(l:∀x∈xs,dq K H x.2.1 x.1)(m:dq K H b k)(r:Rep K H d v) :
 Abs K (upd H a (.ext (bW P w a (fF xs k b v)))) (ay M a (dsM (putD kvs k d))):=fun c u e=>by
 have g:Grow K H (upd H a (.ext (bW P w a (fF xs k b v)))):=.ext (f P w)
 by_cases ne:c=a
 ·subst ne
  rw[ai]at e;cases e
  obtain⟨n,o,p⟩:=Dd i j l m r
  exact dsA.xn ⟨_,fun P w=>aZ,n,fun x f=>(p x f).mono g,o.mono g⟩ (by rw[aZ];simp)
 ·rw[ak ne]at e
  exact(h c u e).iD g (aT ne)
end
section
variable{X:Cx}
def AL:TD:=fun _ M Q=>∀p,M p=LB->Q (.ref p) (ay M p (dsM []))
theorem pV{pos:Pos}:DE X (.Dict [] [] pos) AL:=bj yK fun σ H Q a=>by obtain⟨δ,M,R,e,d,q,b⟩:=a;exact(fun p c=>b _ _ _ _ (.new c) (by rw[Rep]) (d.BV _ _ c) (q p (d.fresh c)))
def Bl(b ty:TD):TD:=fun δ M Q=>b δ M fun x c=>ty δ c fun y a=>∃l kvs k d,x=.ref l/\y=spD k/\a l=LA (dsM kvs)/\dF kvs k=LA d/\Q d a
theorem rk{o i:Expr}{g ty:TD}{pos:Pos}(P:X.A.units+66<Jq)(n:DE X o g)(p:DE X i ty)(e:Fz i):DE X (.Subscript o i pos) (Bl g ty):=
 bj (zC () n p e) fun σ H Q a=>by obtain⟨δ,M,R,e,r,q,f⟩:=a;exact(⟨δ,M,_,e,r,q,fun x s v H1 h j t w=>⟨δ,s,_,e.mono h,t,w,fun y S u T z B m c=>by
  obtain⟨l,kvs,k,d,ex,C,D,E,F⟩:=c
  subst ex C
  rw[Rep]at j;subst j
  obtain⟨b,rfl,sp⟩:=qz B
  obtain⟨xs,G,I,J,K⟩:=m.dsp D
  obtain⟨L,N,O⟩:=(oO k I K).1 d E
  exact⟨l,b,xs,k,L,rfl,rfl,⟨G _ _,J,sp⟩,N,f _ _ _ _ (h.trans z) O m F⟩⟩⟩)
def AM(b ty c:TD):TSD:=fun B δ M=>c δ M fun d e=>b δ e fun x f=>ty δ f fun y a=>∃l kvs k,x=.ref l/\y=spD k/\a l=LA (dsM kvs)/\kvs.length<1000000/\B.nx δ (ay a l (dsM (putD kvs k d)))
theorem y9{o i a:Expr}{m ty n:TD}{pos c:Pos}(Z:X.A.units+66<Jq)(F:DE X o m)(G:DE X i ty)(I:DE X a n)(e:Ks a (LA (.Subscript o i c)) pos.line X.env=pure LD:=by rfl):DSt X (.Assign [.Subscript o i c] a pos) (AM m ty n):=
 cO (yL () F G I e) fun D σ H ⟨δ,M,e,J,B,ok,q⟩=>⟨δ,M,_,e,J,q,fun d L v H1 f N O P=>⟨δ,L,_,e.mono f,O,P,fun x Q u H2 g p R S=>⟨δ,Q,_,(e.mono f).mono g,R,S,fun y M3 u3 r h T s ⟨l,kvs,k,ex,U,V,hn,W⟩=>by
  subst ex U
  rw[Rep]at p;subst p
  obtain⟨b,rfl,sp⟩:=qz T
  obtain⟨xs,j,t,z,Y⟩:=s.dsp V
  have C:xs.length=kvs.length:=by have:=congrArg List.length t;simpa using this
  have sz:1000000<=Ir:=nbL rfl
  refine⟨l,b,xs,k,rfl,rfl,⟨j _ _,z,sp⟩,(),?_⟩
  have E:Grow X.K r (upd r l (.ext (bW X.prog X.w l (fF xs k b v)))):=.ext (j X.prog X.w)
  exact ok.nx _ _ _ _ (((f.trans g).trans h).trans E) (e.mono (((f.trans g).trans h).trans E)) (s.y8 _ _ j t Y z sp (N.mono (g.trans h))) W⟩⟩⟩
def D8(f:TD)(t:TAD):TD:=fun δ M Q=>f δ M fun x c=>∃l a,x=.ref l/\c l=LA (dsM a)/\t δ c fun g b=>∃kvs k d,g=[spD k,d]/\b l=LA (dsM kvs)/\kvs.length<1000000/\(∀e,dF kvs k=LA e->Q e b)/\(dF kvs k=LB->Q d (ay b l (dsM (putD kvs k d))))
theorem AJ{o e1 e2:Expr}{G:TD}{t:TAD}{f br:Pos}(hu:X.A.units+66<Jq)(W:DE X o G)(Y:DA X [e1,e2] t)
 (g:attributeBase o "setdefault" X.env (eval o X.env)=eval o X.env:=by rfl)
 (j:((JL br (Iz [e1,e2] X.env)).all (fun x=>!x.1)&&(backToKw br (KJ [] X.env)).all (fun x=>x.1.isSome)
  && decide ([e1,e2].length+([]:List Keyword).length+(if([]:List Keyword).isEmpty then 0 else 1)<30))=LC:=by rfl)
 (h:(f.endLine==br.line)=LC:=by rfl) (r:Iz [e1,e2] X.env=(LD,eval e1 X.env)::Iz [e2] X.env:=by rfl) (c:(JL br (Iz [e2] X.env)).any (·.1)=LD:=by rfl) :
 DE X (.Call (.Attribute o "setdefault" f) [e1,e2] [] br) (D8 G t):=
 bj (Bz () W Y g j h r c) fun σ H Q ⟨δ,M,R,r,Z,q,m⟩=>⟨δ,M,_,r,Z,q,fun x M1 v H1 u I J ⟨l,L,ex,y,q1⟩=>by
  subst ex
  rw[Rep]at I;subst I
  obtain⟨z,h0,_⟩:=J.dsp y
  refine⟨l,z,rfl,h0 _ _,δ,M1,_,r.mono u,J,q1,fun ds M2 vs N O r2 B i=>?_⟩
  obtain⟨kvs,k,d,e,hl,hn,k1,k2⟩:=i
  subst e
  obtain⟨v1,P,rfl,C,n⟩:=gi r2
  obtain⟨b,rfl,sp⟩:=qz C
  obtain⟨xs,D,E,S,T⟩:=B.dsp hl
  have U:xs.length=kvs.length:=by have:=congrArg List.length E;simpa using this
  have sz:1000000<=Ir:=nbL rfl
  have dv:=oO k E T
  refine⟨b,P,xs,k,rfl,⟨D _ _,S,sp⟩,(),fun v' a=>?_,fun a=>?_⟩
  ·cases e:dF kvs k with
   |none=>rw[dv.2.1 e]at a;cases a
   |some s=>
    obtain⟨F,p,q4⟩:=dv.1 s e
    rw[a]at p;cases p
    exact m _ _ _ _ (u.trans O) q4 B (k1 s e)
  ·have e:dF kvs k=LB:=by
    cases e:dF kvs k with
    |none=>rfl
    |some s=>
     obtain⟨F,p,_⟩:=dv.1 s e
     rw[a]at p;cases p
   have V:Grow X.K N (upd N l (.ext (bW X.prog X.w l (fF xs k b P)))):=.ext (D X.prog X.w)
   exact m _ _ _ _ ((u.trans O).trans V) (n.mono V) (B.y8 _ _ D E T S sp n) (k2 e)⟩
end
theorem dD{z:Int}(h:0<=z/\z<=20):Bd 10 z:=by show z.natAbs<2^10;omega
theorem D9(t b X m x:Int):LW t b X m x=LW t (b*m) (X*m) 1 x:=by unfold LW;rw[Int.mul_one,Int.mul_one]
theorem tZ{t b X m:Int}(c:0<t)(d:0<b)(e:0<m)(a:Int):LW t b X 1 a=LW t (b*m) (X*m) 1 (m*a):=by rw[<-D9,Lh c d ⋯ e];omega
theorem uK{t b X Y m:Int}(a:0<t)(c:0<b)(d:0<m)(w:Wl)(p q:Int):Ld (Lc (LW t b X 1 w.1) (LW t b Y 1 w.2.1) (LW t b X 1 w.2.2.1) (LW t b Y 1 w.2.2.2) (LW t b X m p) (LW t b Y m q))=Ij (sd (uby m w) p q):=by rw[tZ a c d,tZ a c d,tZ a c d,tZ a c d,D9 t b X m p,D9 t b Y m q];exact jD a (Ip c d) (uby m w) p q
theorem yU{t b X Y m p q a c:Int}(f:0<t)(g:0<b)(e:0<m/\m<=4)(h:-10<=q/\q<=85)(d:0<=c/\c<=20):LY (LW t b X m p) (LW t b Y m q) (LW t b X 1 a) (LW t b Y 1 c)↔la p q<m*la a c:=by have e1:=Jw (():0<=m) d.1;have e2:=Int.mul_le_mul e.2 d.2 d.1 (show(0:Int)<=4 by decide);rw[Le f g e.1 ⋯,Int.one_mul,Int.one_mul,AF h ⟨(),()⟩,LL,EO]
def bB(ws:List Wl)(m p q:Int)(j:Nat):Bool:=spB ws m (la p q) j&&decide (Ij (sd (uby m (wAt ws (j:Int))) p q)=1)
def bK(ws:List Wl)(m p q:Int):List Int:=((Iv ws.length).filter (bB ws m p q)).map fun j:Nat=>(j:Int)
theorem jy{ws:List Wl}{m p q k:Int}(h:k∈bK ws m p q):k∈spK ws m (la p q):=by unfold bK at h;obtain⟨j,a,rfl⟩:=J1.mp h;rw[IJ]at a;have:=a.2;unfold bB at this;rw[ID]at this;exact J1.mpr ⟨j,IJ.mpr ⟨a.1,this.1⟩,rfl⟩
theorem qZ(ws:List Wl)(m p q:Int):(bK ws m p q).Nodup:=by unfold bK List.Nodup;rw[List.pairwise_map];have h:List.Pairwise (fun x y:Nat=>x≠y) ((Iv ws.length).filter (bB ws m p q)):=KP _ List.nodup_range;refine List.Pairwise.imp (R:=fun x y:Nat=>x≠y) ?_ h;intro a b c e;exact c ()
theorem ye{t b X Y:Int}(a:0<t)(c:0<b){U V:Wl}(g:Un5 U)(h:Un5 V)(ne:¬(l1 U=l1 V/\l2 U=l2 V)):J0 (rwP t b X Y U) (rwP t b X Y V)=LD:=by have i:=iR (X:=X) (Y:=Y) (p:=U.1) (q:=U.2.1) (e:=V.1) (f:=V.2.1) a c g.b h.b;have j:=iR (X:=X) (Y:=Y) (p:=U.2.2.1) (q:=U.2.2.2) (e:=V.2.2.1) (f:=V.2.2.2) a c g.d h.d;unfold rwP frP;rw[J0,Jo,Jo,Jo,Li,Li,Bool.and_true,<-KH,decide_eq_false_iff_not,i,j];exact ne
abbrev Vc:=Int×Int
def vc(a b:Vc):Int:=crs a.1 a.2 b.1 b.2
def vl(a:Vc):Int:=la a.1 a.2
theorem eA(a b:Vc):vc b a=-vc a b:=by unfold vc crs;grind
theorem Gv(b x y z:Vc):vc b y*vc x z=vc b x*vc y z+vc b z*vc x y:=by unfold vc crs;grind
theorem D2(a b c:Vc)(h:vc a b=0):vc b c*vl a=vc a c*vl b:=by unfold vc crs at *;unfold vl la;grind
def Ray(a b:Vc):Prop:=vc a b=0->vl a*vl b<0
theorem gb(z:Int):(z<0/\Ij z=-1)\/(z=0/\Ij z=0)\/(0<z/\Ij z=1):=by
 rcases Ig z 0 with h|h|h
 ·exact .inl ⟨h,II h⟩
 ·exact .inr (.inl ⟨h,by subst h;rfl⟩)
 ·exact .inr (.inr ⟨h,IX h⟩)
theorem ft{p q:Int}(h:p*q<0):(p<0/\0<q)\/(0<p/\q<0):=by
 rcases Ig p 0 with a|a|a
 ·rcases Ig q 0 with b|b|b
  ·have:=IT a b;omega
  ·subst b;simp at h
  ·exact .inl ⟨a,b⟩
 ·subst a;simp at h
 ·rcases Ig q 0 with b|b|b
  ·exact .inr ⟨a,b⟩
  ·subst b;simp at h
  ·have:=Ip a b;omega
theorem opp{a b:Vc}(c:Vc)(z:vc a b=0)(h:vl a*vl b<0):Ij (vc b c)=-Ij (vc a c):=by
 have e:=D2 a b c z;generalize vc b c=p at *;generalize vc a c=q at *;have k:∀{x y:Int},0<x->0<y->0<x*y:=fun d f=>Ip d f
 rcases ft h with⟨d,f⟩|⟨d,f⟩<;>rcases gb p with⟨g,e1⟩|⟨g,e1⟩|⟨g,e1⟩<;>rcases gb q with⟨i,e2⟩|⟨i,e2⟩|⟨i,e2⟩<;>rw[e1,e2]<;>first|rfl|(exfalso;subst_vars;first
  |(have k1:=IT g d;have j:=IE i f;omega)
  |(have k1:=IE g d;have j:=IT i f;omega)
  |(have k1:=Io g d;have j:=Ip i f;omega)
  |(have k1:=Ip g d;have j:=Io i f;omega)
  |(have k1:=IT g d;omega)
  |(have k1:=IE g d;omega)
  |(have k1:=Io g d;omega)
  |(have k1:=Ip g d;omega)
  |(have j:=IT i f;omega)
  |(have j:=IE i f;omega)
  |(have j:=Io i f;omega)
  |(have j:=Ip i f;omega))
def snr(b x y:Vc):Bool:=if Ij (vc b x)=Ij (vc b y)then decide (vc x y<0)else decide (Ij (vc b x)<Ij (vc b y))
theorem gV(b x y:Vc):snr b x y=LC↔Ij (vc b x)<Ij (vc b y)\/(Ij (vc b x)=Ij (vc b y)/\vc x y<0):=by
 unfold snr;split
 ·rename_i h;simp;omega
 ·rename_i h;simp;omega
theorem vM{b x y:Vc}(a:Ray b x)(c:Ray b y)(d:Ray x y):snr b x y=LC\/snr b y x=LC:=by
 rw[gV,gV];rcases Ig (vc x y) 0 with h|h|h
 ·omega
 ·have o:=d h;have e:=opp b h o;have e1:vc x b=-vc b x:=eA b x;have e2:vc y b=-vc b y:=eA b y;rw[e1,e2,Int.sign_neg,Int.sign_neg]at e;by_cases ne:Ij (vc b x)=Ij (vc b y)
  ·have f:Ij (vc b x)=0:=()
   have g:Ij (vc b y)=0:=()
   have i:=ft (a (Int.sign_eq_zero_iff_zero.mp f));have j:=ft (c (Int.sign_eq_zero_iff_zero.mp g));have k:=ft o;omega
  ·omega
 ·have:=eA x y;omega
theorem wo{b x y z:Vc}(h:Ray b x)(n:Ray b y)(o:Ray b z)(d:snr b x y=LC)(a:snr b y z=LC):snr b x z=LC:=by
 rw[gV]at *;rcases d with d|⟨d,b1⟩
 ·left;rcases a with a|⟨a,f⟩<;>omega
 ·rcases a with a|⟨a,f⟩
  ·left;omega
  ·right;refine⟨(),?_⟩;have i:=Gv b x y z;rcases gb (vc b y)with⟨k,e⟩|⟨k,e⟩|⟨k,e⟩
   ·have c:vc b x<0:=by rcases gb (vc b x)with q|q|q<;>omega
    have g:vc b z<0:=by rcases gb (vc b z)with q|q|q<;>omega
    have j:=IT c f;have l:=IT g b1;rcases Ig (vc x z) 0 with q|q|q
    ·exact q
    ·rw[q]at i;simp at i;omega
    ·have:=IE k q;omega
   ·exfalso;have c:vc b x=0:=by rcases gb (vc b x)with q|q|q<;>omega
    have m:=h c;have e:=opp y c m;have:Ij (vc x y)=-1:=II b1;rw[k]at e;simp at e;omega
   ·have c:0<vc b x:=by rcases gb (vc b x)with q|q|q<;>omega
    have g:0<vc b z:=by rcases gb (vc b z)with q|q|q<;>omega
    have j:=Io c f;have l:=Io g b1;rcases Ig (vc x z) 0 with q|q|q
    ·exact q
    ·rw[q]at i;simp at i;omega
    ·have:=Ip k q;omega
theorem zR{a b c:Vc}(h:Ray a b)(e:snr a c b=LC)(d:snr b c a=LC):False:=by
 rw[gV]at e d;have e1:vc b a=-vc a b:=eA a b;have e2:vc c b=-vc b c:=eA b c;have e3:vc c a=-vc a c:=eA a c;rw[e1,Int.sign_neg]at d;rw[e2]at e;rw[e3]at d;by_cases z:vc a b=0
 ·have o:=opp c z (h z);rw[z]at e d;simp at e d;rcases gb (vc a c)with q|q|q<;>rcases gb (vc b c)with r|r|r<;>omega
 ·rcases gb (vc a b)with p|p|p<;>rcases gb (vc a c)with q|q|q<;>rcases gb (vc b c)with r|r|r<;>omega
def rev(w:Wl):Wl:=(w.2.2.1,w.2.2.2,w.1,w.2.1)
def fw(ws:List Wl)(f:Nat):Wl:=if f%2=0 then wAt ws ((f/2:Nat):Int)else rev (wAt ws ((f/2:Nat):Int))
def fa(ws:List Wl)(f:Nat):Vc:=((fw ws f).1,(fw ws f).2.1)
def fb(ws:List Wl)(f:Nat):Vc:=((fw ws f).2.2.1,(fw ws f).2.2.2)
def fd(ws:List Wl)(f:Nat):Vc:=((fw ws f).2.2.1-(fw ws f).1,(fw ws f).2.2.2-(fw ws f).2.1)
def fx(f:Nat):Nat:=if f%2=0 then f+1 else f-1
theorem kH(f:Nat):fx f/2=f/2/\(fx f)%2=1-f%2:=by unfold fx;split<;>omega
theorem BG(f:Nat):fx (fx f)=f:=by unfold fx;split<;>split<;>omega
theorem jZ{f n:Nat}(h:f<2*n):fx f<2*n:=by unfold fx;split<;>omega
theorem zI(ws:List Wl)(f:Nat):fw ws (fx f)=rev (fw ws f):=by
 unfold fw;rw[(kH f).1,(kH f).2];by_cases h:f%2=0
 ·rw[LF (),LG h]
 ·rw[LG (),LF h];rfl
theorem e7(ws:List Wl)(f:Nat):fa ws (fx f)=fb ws f:=by unfold fa fb;rw[zI];rfl
theorem za(ws:List Wl)(f:Nat):fb ws (fx f)=fa ws f:=by unfold fa fb;rw[zI];rfl
theorem gQ{ws:List Wl}(c:∀w∈ws,Un5 w)(hF:PF ws){g h:Nat}(x:g<2*ws.length)(y:h<2*ws.length)(ne:g≠h)(e:fa ws g=fa ws h):Ray (fd ws g) (fd ws h):=by
 obtain⟨d,_,i⟩:=aW (ws:=ws) (k:=((g/2:Nat):Int)) () ();obtain⟨f,_,j⟩:=aW (ws:=ws) (k:=((h/2:Nat):Int)) () ();have U:=c _ i;have V:=c _ j;rw[Jh]at d f;unfold fa at e;have e1:=congrArg Prod.fst e;have e2:=congrArg Prod.snd e;unfold fd;unfold fw at *;by_cases same:g/2=h/2
 ·exfalso;rw[<-same]at e1 e2;have lt:=U.lt;unfold l1 l2 la at lt;by_cases p:g%2=0
  ·rw[LG p,LF (():¬h%2=0)]at e1 e2;unfold rev at e1 e2;dsimp only at e1 e2;omega
  ·rw[LF p,LG (():h%2=0)]at e1 e2;unfold rev at e1 e2;dsimp only at e1 e2;omega
 ·have F:=hF _ _ _ _ same d f;generalize wAt ws ((g/2:Nat):Int)=u at *;generalize wAt ws ((h/2:Nat):Int)=v at *;intro z;have A:=U.lt;have B:=V.lt;unfold vc crs at z;have l:=F.e2;have m:=F.e4;have n:=F.e1;have o:=F.e3;have C:=F.ne;unfold bH at n l o m;unfold vl;by_cases p:g%2=0<;>by_cases q:h%2=0
  ·rw[LG p,LG q]at z e1 e2 ⊢;exfalso;simp only[]at z e1 e2;have r:sd2 u v=0:=by unfold sd2 sd crs;grind
   have s:sd2 v u=0:=by unfold sd2 sd crs;grind
   have t:l1 u=l1 v:=by unfold l1;rw[e1,e2]
   omega
  ·rw[LG p,LF q]at z e1 e2 ⊢;unfold rev at *;simp only[]at z e1 e2 ⊢;have a:la (u.2.2.1-u.1) (u.2.2.2-u.2.1)=l2 u-l1 u:=by unfold l1 l2 la;omega
   have b:la (v.1-v.2.2.1) (v.2.1-v.2.2.2)=-(l2 v-l1 v):=by unfold l1 l2 la;omega
   rw[a,b];exact Io () ()
  ·rw[LF p,LG q]at z e1 e2 ⊢;unfold rev at *;simp only[]at z e1 e2 ⊢;have a:la (u.1-u.2.2.1) (u.2.1-u.2.2.2)=-(l2 u-l1 u):=by unfold l1 l2 la;omega
   have b:la (v.2.2.1-v.1) (v.2.2.2-v.2.1)=l2 v-l1 v:=by unfold l1 l2 la;omega
   rw[a,b];exact IE () ()
  ·rw[LF p,LF q]at z e1 e2 ⊢;unfold rev at *;exfalso;simp only[]at z e1 e2;have r:sd1 u v=0:=by unfold sd1 sd crs;grind
   have s:sd1 v u=0:=by unfold sd1 sd crs;grind
   have t:l2 u=l2 v:=by unfold l2;rw[e1,e2]
   omega
def dE(R:Nat->Nat->Bool)(o:Option Nat)(g:Nat):Option Nat:=match o with
 |none=>LA g
 |some h=>if R g h=LC then LA g else LA h
theorem fold_min{R:Nat->Nat->Bool}{S:Nat->Prop}(b:∀x y,S x->S y->x≠y->R x y=LC\/R y x=LC)(f:∀x y z,S x->S y->S z->R x y=LC->R y z=LC->R x z=LC) :
 ∀(l:List Nat) (h:Nat),S h->(∀x∈l,S x)->∃m,l.foldl (dE R) (LA h)=LA m/\S m/\(m=h\/m∈l)/\(h=m\/R m h=LC)/\∀x∈l,x=m\/R m x=LC
 |[],h,sh,_=>⟨h,rfl,sh,.inl rfl,.inl rfl,fun x a=>by cases a⟩
 |g::l,h,sh,hl=>by
  have sg:=hl g (by simp)
  rw[KG]
  by_cases r:R g h=LC
  ·obtain⟨m,e,d,mem,c,i⟩:=fold_min b f l g sg (fun x a=>hl x (by simp[a]))
   have j:dE R (LA h) g=LA g:=by unfold dE;simp[r]
   rw[j]
   refine⟨m,e,d,?_,?_,?_⟩
   ·rcases mem with z|z
    ·right;simp[z]
    ·right;simp[z]
   ·right
    rcases c with z|z
    ·rw[<-z];exact r
    ·exact f _ _ _ d sg sh z r
   ·intro x a
    rcases J3.mp a with z|z
    ·subst z;exact c
    ·exact i x z
  ·obtain⟨m,e,d,mem,c,i⟩:=fold_min b f l h sh (fun x a=>hl x (by simp[a]))
   have j:dE R (LA h) g=LA h:=by unfold dE;simp[r]
   rw[j]
   refine⟨m,e,d,?_,c,?_⟩
   ·rcases mem with z|z
    ·exact .inl z
    ·right;simp[z]
   ·intro x a
    rcases J3.mp a with z|z
    ·subst z
     by_cases ne:x=h
     ·subst ne;exact c
     ·rcases b x h sg sh ne with q|q
      ·exact absurd q r
      ·rcases c with z|z
       ·right;rw[<-z];exact q
       ·right;exact f _ _ _ d sh sg z q
    ·exact i x z
def xC(ws:List Wl)(f g:Nat):Bool:=decide (fa ws g=fb ws f)&&decide (g≠fx f)
def iC(ws:List Wl)(f:Nat):List Nat:=(Iv (2*ws.length)).filter (xC ws f)
def snF(ws:List Wl)(f g h:Nat):Bool:=snr (fd ws (fx f)) (fd ws g) (fd ws h)
def bh(ws:List Wl)(f:Nat):Nat:=((iC ws f).foldl (dE (snF ws f)) LB).getD (fx f)
theorem bM{ws:List Wl}{f g:Nat}:g∈iC ws f↔g<2*ws.length/\fa ws g=fb ws f/\g≠fx f:=by unfold iC xC;simp[IJ]
theorem gU{ws:List Wl}(j:∀w∈ws,Un5 w)(hF:PF ws){f:Nat}(k:f<2*ws.length):(iC ws f=[]/\bh ws f=fx f)\/(bh ws f∈iC ws f/\∀x∈iC ws f,x=bh ws f\/snF ws f (bh ws f) x=LC):=by
 unfold bh;cases c:iC ws f with
 |nil=>exact .inl ⟨rfl,rfl⟩
 |cons g l=>
  right
  have sub:∀x∈g::l,x<2*ws.length/\fa ws x=fb ws f/\x≠fx f:=fun x d=>bM.mp (by rw[c];exact d)
  have h:∀x,(x<2*ws.length/\fa ws x=fb ws f/\x≠fx f)->Ray (fd ws (fx f)) (fd ws x):=fun x d=>gQ j hF (jZ k) d.1 (fun z=>d.2.2 z.symm) (by rw[e7,d.2.1])
  obtain⟨m,e,r,mem,n,o⟩:=fold_min (R:=snF ws f) (S:=fun x=>x<2*ws.length/\fa ws x=fb ws f/\x≠fx f) (fun x y d i ne=>vM (h x d) (h y i) (gQ j hF d.1 i.1 ne (by rw[d.2.1,i.2.1]))) (fun x y z d i p a b=>wo (h x d) (h y i) (h z p) a b) l g (sub g (by simp)) (fun x d=>sub x (by simp[d]))
  rw[KG]
  have q:dE (snF ws f) LB g=LA g:=rfl
  rw[q,e]
  simp only[Option.getD_some]
  refine⟨by rcases mem with z|z<;>simp[z],fun x d=>?_⟩
  rcases J3.mp d with z|z
  ·subst z;exact n
  ·exact o x z
theorem BI{ws:List Wl}(b:∀w∈ws,Un5 w)(hF:PF ws){f:Nat}(a:f<2*ws.length):bh ws f<2*ws.length:=by
 rcases gU b hF a with⟨_,e⟩|⟨h,_⟩
 ·rw[e];exact jZ a
 ·exact(bM.mp h).1
theorem jY{ws:List Wl}(a:∀w∈ws,Un5 w)(hF:PF ws){f:Nat}(b:f<2*ws.length):fa ws (bh ws f)=fb ws f:=by
 rcases gU a hF b with⟨_,e⟩|⟨h,_⟩
 ·rw[e,e7]
 ·exact(bM.mp h).2.1
theorem Cy{ws:List Wl}(a:∀w∈ws,Un5 w)(hF:PF ws){f g:Nat}(b:f<2*ws.length)(d:g<2*ws.length)(e:bh ws f=bh ws g):f=g:=by
 by_cases ne:fx f=fx g
 ·rw[<-BG f,ne,BG]
 ·exfalso;have c:fb ws f=fb ws g:=by rw[<-jY a hF b,<-jY a hF d,e]
  have h:fx g∈iC ws f:=bM.mpr ⟨jZ d,by rw[e7,c],fun z=>ne z.symm⟩;have i:fx f∈iC ws g:=bM.mpr ⟨jZ b,by rw[e7,c],ne⟩;rcases gU a hF b with⟨z,_⟩|⟨k1,k⟩
  ·rw[z]at h;cases h
  ·rcases gU a hF d with⟨z,_⟩|⟨l,m⟩
   ·rw[z]at i;cases i
   ·have n:=(bM.mp k1).2.2;have o:=(bM.mp l).2.2;have p:=(k _ h).resolve_left (fun z=>o (by rw[<-e,<-z]));have j:=(m _ i).resolve_left (fun z=>n (by rw[e,<-z]));rw[<-e]at j;exact zR (gQ a hF (jZ b) (jZ d) ne (by rw[e7,e7,c])) p j
def itb(ws:List Wl)(f:Nat):Nat->Nat
 |0=>f
 |k+1=>bh ws (itb ws f k)
def rn(ws:List Wl)(f k:Nat):List Nat:=(Iv (k+1)).map (itb ws f)
def NR(ws:List Wl)(f k:Nat):Prop:=∀i j,i<j->j<=k->itb ws f i≠itb ws f j
theorem jx(ws:List Wl)(f k:Nat):(rn ws f k).length=k+1:=by simp[rn]
theorem pf(ws:List Wl)(f k:Nat):rn ws f (k+1)=rn ws f k++[itb ws f (k+1)]:=by unfold rn;rw[JE,IK];rfl
theorem t8(ws:List Wl)(f:Nat):rn ws f 0=[f]:=rfl
theorem xx:∀(m:Nat) (l:List Nat),l.Nodup->(∀x∈l,x<m)->l.length<=m
 |0,l,_,h=>by
  cases l with
  |nil=>simp
  |cons a l=>exact absurd (h a (by simp)) ()
 |m+1,l,nd,h=>by
  have d:=xx m (l.erase m) (nd.erase m) (fun x b=>by
   have:=h x (List.mem_of_mem_erase b)
   have ne:x≠m:=fun z=>by
    subst z
    exact absurd b (nd.not_mem_erase)
   omega)
  have:=List.length_erase_le (a:=m) (l:=l)
  by_cases c:m∈l
  ·have:=List.length_erase_of_mem c;omega
  ·rw[List.erase_of_not_mem c]at d;omega
section
variable{ws:List Wl}(hU:∀w∈ws,Un5 w)(hF:PF ws){f:Nat}(hf:f<2*ws.length)
include hU hF hf
theorem dz:∀k,itb ws f k<2*ws.length
 |0=>hf
 |k+1=>BI hU hF (dz k)
theorem Ae{k:Nat}(h:NR ws f k)(ne:bh ws (itb ws f k)≠f):NR ws f (k+1):=fun i j a b e=>by
 by_cases q:j<=k
 ·exact h i j a q e
 ·have:j=k+1:=()
  subst this;cases i with
  |zero=>exact ne e.symm
  |succ i=>exact h i k () (Ic _) (Cy hU hF (dz hU hF hf i) (dz hU hF hf k) e)
theorem ud{k:Nat}(h:NR ws f k):k+1<=2*ws.length:=by
 rw[<-jx ws f k];refine xx _ _ ?_ (fun x d=>?_)
 ·unfold rn;rw[List.nodup_iff_pairwise_ne,List.pairwise_map];refine List.Pairwise.imp_of_mem ?_ (List.pairwise_lt_range (n:=k+1));intro a b g e c;exact h a b c (by have:=IZ.mp e;omega)
 ·unfold rn at d;obtain⟨i,_,rfl⟩:=J1.mp d;exact dz hU hF hf i
end
structure Rng(ws:List Wl)(r:List Nat):Prop where
 ex:∃f k,f<2*ws.length/\k+1<=2*ws.length/\r=rn ws f k/\bh ws (itb ws f k)=f
theorem A4(ws:List Wl)(f:Nat):NR ws f 0:=fun i j a b=>()
theorem round0{ws:List Wl}(b:∀w∈ws,Un5 w)(hF:PF ws){f k:Nat}(d:f<2*ws.length)(c:bh ws (itb ws f k)=f)(a:Vc->Rat):((rn ws f k).map fun g=>a (fb ws g)-a (fa ws g)).sum=0:=by
 have key:∀k,((rn ws f k).map fun g=>a (fb ws g)-a (fa ws g)).sum=a (fb ws (itb ws f k))-a (fa ws f):=fun k=>by
  induction k with
  |zero=>rw[t8];simp only[Ih,JF,Jm,List.sum_nil,Rat.add_zero];rfl
  |succ k e=>
   rw[pf,IK,List.sum_append,e]
   simp only[Ih,JF,Jm,List.sum_nil]
   have:fa ws (itb ws f (k+1))=fb ws (itb ws f k):=jY b hF (dz b hF d k)
   rw[this]
   grind
 rw[key,<-jY b hF (dz b hF d k),c];grind
def twT(ws:List Wl)(g:Nat):Int:=(fa ws g).1*(fb ws g).2-(fb ws g).1*(fa ws g).2
def arT(t b X Y:Int)(ws:List Wl)(g:Nat):Rat:=LW t b X 1 (fa ws g).1*LW t b Y 1 (fb ws g).2-LW t b X 1 (fb ws g).1*LW t b Y 1 (fa ws g).2
theorem uX(a c d:Rat)(u v w:Nat->Rat):∀l:List Nat,(l.map fun g=>a*u g+(c*v g+d*w g)).sum=a*(l.map u).sum+(c*(l.map v).sum+d*(l.map w).sum)
 |[]=>by simp;grind
 |g::l=>by
  rw[Ih,Jm,uX a c d u v w l,Ih,Jm,Ih,Jm,Ih,Jm]
  grind
theorem pY(u:Nat->Int):∀l:List Nat,(l.map fun g=>((u g:Int):Rat)).sum=(((l.map u).sum:Int):Rat)
 |[]=>by simp
 |g::l=>by
  rw[Ih,Jm,pY u l,Ih,Jm,Ki]
theorem Gk{ws:List Wl}(d:∀w∈ws,Un5 w)(hF:PF ws){r:List Nat}(h:Rng ws r){t b X Y:Int}(a:0<b):(r.map (arT t b X Y ws)).sum=((t:Rat)/b)*((t:Rat)/b)*(((r.map (twT ws)).sum:Int):Rat):=by
 obtain⟨f,k,i,_,rfl,c⟩:=h.ex;have j:=round0 d hF i c (fun p=>((p.1:Int):Rat));have l:=round0 d hF i c (fun p=>((p.2:Int):Rat))
 have e:(arT t b X Y ws)=fun g=>(((t:Rat)/b)*((t:Rat)/b))*((twT ws g:Int):Rat)+((-(((t:Rat)/b)*((Y:Rat)/b)))*((((fb ws g).1:Int):Rat)-(((fa ws g).1:Int):Rat))+(((t:Rat)/b)*((X:Rat)/b))*((((fb ws g).2:Int):Rat)-(((fa ws g).2:Int):Rat))):=by
  funext g
  unfold arT twT;rw[dh a,dh a,dh a,dh a,K6,J4,J4];grind
 rw[e,uX,pY];rw[j,l];grind
theorem va(q:Rat)(B:Int)(h:(q.den:Int) ∣ B):((q.num*B.fdiv (q.den:Int):Int):Rat)=q*(B:Rat):=by
 obtain⟨k,rfl⟩:=h;have hd:(q.den:Int)≠0:=by have:=q.den_nz;omega
 have e:((q.den:Int)*k).fdiv (q.den:Int)=k:=by rw[J8 _ ()];exact Int.mul_ediv_cancel_left k hd
 rw[e,J4,J4];have a:((q.den:Int):Rat)≠0:=fun z=>hd (by exact_mod_cast z)
 have m:q*((q.den:Int):Rat)=(q.num:Rat):=by
  have e:=Rat.num_divInt_den q
  rw[Rat.divInt_eq_div]at e
  rw[<-e]
  have e3:((q.num:Rat)/((q.den:Int):Rat))*((q.den:Int):Rat)=(q.num:Rat):=by grind
  rw[e]at e3 ⊢
  exact e3
 rw[<-m];grind
theorem Al{n d:Int}(hd:0<d):((Rat.divInt n d).den:Int) ∣ d:=by rw[Rat.den_divInt,LF ()];have a:d.natAbs/d.gcd n ∣ d.natAbs:=Nat.div_dvd_of_dvd (Int.ofNat_dvd_left.mp (Int.gcd_dvd_left d n));exact Int.ofNat_dvd_left.mpr a
section
variable{X:Cx}
def FC:R2D:=rI2 (fun _ _=>True) fun i j=>.int (Builtin.bitXor i j)
theorem Ez:OpD X (Kb .BitXor) FC:=dk (ri0 Ek) fun _ _ _=>by rw[Rep]
variable{o:Expr}{to:TD}{apos br:Pos}
end
theorem CU:∀f:Nat,f<80->Builtin.bitXor (f:Int) 1=((fx f:Nat):Int):=⋯
def diA(n:Nat)(S:Int->Bool):H0->Hp->Addr->Prop:=fun K H a=>∃kvs:List (Key×V),H a=LA (.dK kvs)/\kvs.length<=n/\∀i:Int,(kvs.any fun b=>decide (b.1=Sum.inl i))=S i
def diM(n:Nat)(S:Int->Bool):MO:=.gen (diA n S)
section
variable{K:H0}{H H':Hp}{M:MH}{a:Addr}
theorem diA.xn{n:Nat}{S:Int->Bool}(h:diA n S K H a):qV K H a (diM n S):=⟨h,(by obtain⟨kvs,b,_⟩:=h;rw[b];simp),fun H' g e=>let⟨kvs,b,c⟩:=h;⟨kvs,e.trans b,c⟩⟩
theorem Abs.di{n:Nat}{S:Int->Bool}(h:Abs K H M)(e:M a=LA (diM n S)):diA n S K H a:=(h a _ e).1
theorem Abs.GW{p:Addr}(h:Abs K H M)(b:H p=LB):Abs K (upd H p (.dK [])) (ay M p (diM 0 fun _=>LD)):=fun a u e=>by
 by_cases ne:a=p
 ·subst ne;rw[ai]at e;cases e;exact diA.xn ⟨[],aZ,Ic _,fun _=>rfl⟩
 ·rw[ak ne]at e;exact(h a u e).iD (.new b) (aT ne)
theorem Grow.dK{kvs:List (Key×V)}{o:HO}(h:H a=LA (.dK kvs)):Grow K H (upd H a o):=.put (fun xs e=>by rw[h]at e;cases e) (fun u xs e=>by rw[h]at e;cases e)
theorem Abs.Gx{n:Nat}{S:Int->Bool}{kvs:List (Key×V)}{i:Int}{v:V}(h:Abs K H M)(b:H a=LA (.dK kvs))(g:kvs.length<=n)(d:∀i:Int,(kvs.any fun f=>decide (f.1=Sum.inl i))=S i) : Abs K (upd H a (.dK (putK kvs (.inl i) v))) (ay M a (diM (n+1) fun j=>decide (j=i)||S j)):=fun c u e=>by
 by_cases ne:c=a
 ·subst ne;rw[ai]at e;cases e;refine diA.xn ⟨_,aZ,by have:=gr kvs (.inl i) v;omega,fun j=>?_⟩;rw[d4,yX];by_cases z:j=i
  ·subst z;rw[LG rfl];simp
  ·rw[LF (fun q=>z (by injection q)),<-d4,d];simp[z]
 ·rw[ak ne]at e;exact(h c u e).iD (.dK b) (aT ne)
end
section
variable{X:Cx}{pos:Pos}
def CJ:TD:=fun _ M Q=>∀p,M p=LB->Q (.ref p) (ay M p (diM 0 fun _=>LD))
theorem zr:DE X (.Dict [] [] pos) CJ:=bj zK fun σ H Q a=>by obtain⟨δ,M,R,e,d,q,b⟩:=a;exact(fun p c=>b _ _ _ _ (.new c) (by rw[Rep]) (d.GW c) (q p (d.fresh c)))
def B6(g:Bool->Bool)(ty b:TD):TD:=fun δ M Q=>ty δ M fun y c=>b δ c fun x a=>∃i l n S,y=.int i/\x=.ref l/\a l=LA (diM n S)/\Q (.bl (g (S i))) a
theorem An{K:H0}{g:Bool->Bool}{ty e:TD}{σ:L2.St}{H:Hp}{Q:VK}(h:lift K (B6 g ty e) σ H Q) : (lift K ty) σ H fun y H1=>(lift K e) σ H1 fun x c=>∃a o,x=.ref a/\Dh c a y o/\Q (.bl (g o.isSome)) c:=by obtain⟨δ,M,R,f,r,q,d⟩:=h;refine⟨δ,M,_,f,r,q,fun y s v H1 j k t w=>⟨δ,s,_,f.mono j,t,w,fun x F u c z m p b=>?_⟩⟩;obtain⟨i,l,n,S,A,ex,B,C⟩:=b;subst A ex;rw[Rep]at k;rw[Rep]at m;subst k m;obtain⟨kvs,D,G,E⟩:=p.di B;refine⟨l,fq kvs (.inl i),rfl,.inl ⟨kvs,.inl i,.inl D,rfl,rfl⟩,?_⟩;rw[<-d4,E];exact d _ _ _ _ (j.trans z) (by rw[Rep]) p C
variable{e1 e2:Expr}{ty td:TD}
theorem rX(p:X.A.units+66<Jq)(j:DE X e1 ty)(k:DE X e2 td)(l:KR .NotIn e2=LD:=by rfl):DT X (.Compare e1 [.NotIn] [e2] pos) (tBD (B6 (fun b=>!b) ty td)):=
 l5 (EH (vD () j k) l) fun σ H Q e=>by obtain⟨δ,M,R,m,n,q,h⟩:=e;exact(An (g:=fun b=>!b) (Q:=fun x i=>∃c,x=.bl c/\Q c i) ⟨δ,M,_,m,n,q,fun d s v i g r a f=>by
  obtain⟨c,o,z⟩:=f
  subst o
  rw[Rep]at r;subst r
  exact⟨c,rfl,h _ _ _ g a z⟩⟩)
def Co(td ty b:TD):TSD:=fun B δ M=>b δ M fun d c=>td δ c fun x e=>ty δ e fun y a=>∃l i n S,x=.ref l/\y=.int i/\a l=LA (diM n S)/\n<1000000/\B.nx δ (ay a l (diM (n+1) fun j=>decide (j=i)||S j))
theorem wJ{o i a:Expr}{k:TD}{b:Pos}(V:X.A.units+66<Jq)(z:DE X o td)(C:DE X i ty)(E:DE X a k)(f:Ks a (LA (.Subscript o i b)) pos.line X.env=pure LD:=by rfl):DSt X (.Assign [.Subscript o i b] a pos) (Co td ty k):=
 cO (Av () z C E f) fun D σ H c=>by obtain⟨δ,M,f,F,B,ok,q⟩:=c;exact(⟨δ,M,_,f,F,q,fun d G v H1 g W I J=>⟨δ,G,_,f.mono g,I,J,fun x L u Y h m N O=>⟨δ,L,_,(f.mono g).mono h,N,O,fun y Z u3 p r s t e=>by
  obtain⟨l,i,n,S,ex,P,Q,hn,R⟩:=e
  subst ex P
  rw[Rep]at m;rw[Rep]at s;subst m s
  obtain⟨kvs,j,T,U⟩:=t.di Q
  have sz:1000000<=Ir:=nbL rfl
  have w:Grow X.K p (upd p l (.dK (putK kvs (.inl i) v))):=.dK j
  exact⟨l,_,rfl,.inl ⟨kvs,.inl i,j,rfl,(),rfl⟩,ok.nx _ _ _ _ (((g.trans h).trans r).trans w) (f.mono (((g.trans h).trans r).trans w)) (t.Gx j T U) R⟩⟩⟩⟩)
end
def f9(ws:List Wl)(f:Nat)(r:List Nat):Prop:=∃a,NR ws f a/\bh ws (itb ws f a)=f/\r=rn ws f a
theorem AV{ws:List Wl}{f:Nat}{r c:List Nat}(h:f9 ws f r)(h':f9 ws f c):r=c:=by
 obtain⟨k,n,e,rfl⟩:=h;obtain⟨g,i,j,rfl⟩:=h';have d:∀{a b:Nat},NR ws f b->bh ws (itb ws f a)=f->¬a<b:=fun{a b} n e l=>n 0 (a+1) () () e.symm;have m:=d i e;have o:=d n j;have:k=g:=()
 rw[this]
def Rgs(ws:List Wl):Nat->List (List Nat)->Prop
 |0,rs=>rs=[]
 |i+1,rs=>∃qs,Rgs ws i qs/\((i∈qs.flatten/\rs=qs)\/(i∉qs.flatten/\∃r,f9 ws i r/\rs=qs++[r]))
theorem zE{ws:List Wl}:∀{i:Nat} {c b:List (List Nat)},Rgs ws i c->Rgs ws i b->c=b
 |0,c,b,h,h'=>by rw[show c=[]from h,show b=[]from h']
 |i+1,c,b,⟨qs,h1,h2⟩,⟨qs',h1',h2'⟩=>by
  have:=zE h1 h1'
  subst this
  rcases h2 with⟨a,rfl⟩|⟨a,r,f,rfl⟩
  ·rcases h2' with⟨d,rfl⟩|⟨d,_⟩
   ·rfl
   ·exact absurd a d
  ·rcases h2' with⟨d,_⟩|⟨d,g,e,rfl⟩
   ·exact absurd d a
   ·rw[AV f e]
def RL(M:MH)(ps:List Addr)(a:List (List Nat)):Prop:=La (fun(p:Addr) (r:List Nat)=>M p=LA (.lst (r.map fun g:Nat=>D.int (g:Int)))) ps a
theorem RL.len{M:MH}{ps:List Addr}{a:List (List Nat)}(h:RL M ps a):ps.length=a.length:=by
 unfold RL at h
 induction h with
 |nil=>rfl
 |cons _ _ b=>rw[Jg,Jg,b]
theorem RL.mono{M b:MH}{ps:List Addr}{c:List (List Nat)}(h:RL M ps c)(s:∀p∈ps,∀o,M p=LA o->b p=LA o):RL b ps c:=by
 unfold RL at *
 induction h with
 |nil=>exact .nil
 |cons a _ d=>exact .cons (s _ (by simp) _ a) (d fun p f o e=>s p (by simp[f]) o e)
theorem RL.snoc{M:MH}{ps:List Addr}{a:List (List Nat)}{p:Addr}{r:List Nat}(h:RL M ps a)(e:M p=LA (.lst (r.map fun g:Nat=>D.int (g:Int)))):RL M (ps++[p]) (a++[r]):=Paired.snoc h e
section
variable{X:Cx}
def p0(us:List (Int×Int))(i:Nat):Int×Int:=us.getD i (0,0)
theorem rD{us:List (Int×Int)}{i:Nat}(h:i<us.length):p0 us i∈us:=by unfold p0;rw[List.getD_eq_getElem?_getD,Ia h];exact Jn h
variable{prog:IH}{w:J5}{A:Jd}{E:HY->HZ->Prop}{s:HZ}
end
section
variable{X:Cx}
def plt(u v:Int×Int):Prop:=100*u.1+u.2<100*v.1+v.2
end
def ki(h:Heap)(d:Addr)(es:Array Jt)(ep:Nat):Prop:=∃o,h.get? d=LA o/\o.ExactDict/\o.data=.dict es ep
section
variable{prog:IH}{w:J5}{A:Jd}{E:HY->HZ->Prop}{s:HZ}{d it:Addr}{es:Array Jt}{ep i:Nat}
theorem ki.ty(h:ki s.heap d es ep):s.TypeIs (.ref d) "dict":=let⟨o,a,b,_⟩:=h;⟨o,a,b.1⟩
theorem ki.kept{h h':Heap}(q:ki h d es ep)(k:∀o,h.get? d=LA o->h'.get? d=LA o):ki h' d es ep:=let⟨o,a,b⟩:=q;⟨o,k o a,b⟩
theorem ki.lt{h:Heap}(q:ki h d es ep):d<h.objs.size:=let⟨_,a,_⟩:=q;Iy a
theorem xZ{Q:HY->HZ->Prop}(f:(d==JU)=LD)(b:ki s.heap d es ep)
 (q:Q (.ref s.heap.objs.size) { s with heap:=s.heap.push { cls:=.type "dict_keyiterator",data:=.fields #[.ref d,.int 0 0,.int es.size 0,.int ep 0] } }):Im (IC prog w) A (pyIter (.ref d)) Q E s:=by
 have a:=b.ty
 obtain⟨o,c,g,e⟩:=b
 refine wpAny_pyIter_slot a F.slot_dict_iter (Ku F.slot_dict_iter a F.entry_dict_iter ?_ (F.args_dict_iter_1 _))
 unfold Lb.«dict.__iter__»
 refine cc ?_
 unfold Builtin.Dict.dictSlotNone
 refine cc (wpAny_notOrdered_dict a ?_)
 show Im _ _ (pure (Jx d)) _ _ s
 refine I0 ?_
 show Im _ _ (Builtin.Dict.showsAll d >>= _) _ _ s
 unfold Builtin.Dict.showsAll
 rw[LF (by rw[f];exact Iq)]
 refine cc (I0 (cc (wpAny_dictEntries c e (cc (wpAny_dictEpoch c e ?_)))))
 refine cc (Jc (I0 ⟨_,rfl,"dict_keyiterator",_,⟨_,Ik _ rfl,rfl⟩,JS.lookup,?_⟩))
 simpa[rawInt]using q
theorem yz{Q:Option HY->HZ->Prop}(b:s.heap.IsKeyIter it d i es.size ep)(h:ki s.heap d es ep)(j:i<es.size)
 (k:∀h':Heap,h'.IsKeyIter it d (i+1) es.size ep->K0 it s.heap h'->Q (LA es[i].key) { s with heap:=h' }):Im (IC prog w) A (pyNext (.ref it)) Q E s:=by
 obtain⟨o,c,l,hd⟩:=id b
 obtain⟨od,e,m,f⟩:=h
 have a:=b.typeIs
 unfold pyNext
 refine cc (wpAny_attempt (Kg (name:=JQ "__next__") a JS (Ku JS a F.entry_dict_keyiterator_next ?_ (F.args_dict_keyiterator_next_1 _))))
 refine cc (I0 (cc (cc ?_)))
 first|refine cc (Ke a (I0 ?_))|refine cc (wpAny_typeNameOf_keyiter a (I0 ?_))
 refine cc (wpAny_fieldsOf c hd ?_)
 simp only[show Builtin.Dict_items.ownsTuple "dict_keyiterator"=LD by decide,JV,if_false]
 show Im _ _ (if(Jx d==JZ)=LC then _ else _) _ _ s
 rw[LF (show ¬((Jx d==JZ)=LC)from Iq)]
 refine cc (I0 (cc (wpAny_dictEntries e f ?_)))
 rw[LF (by simp)]
 refine cc (I0 (cc (wpAny_dictEpoch e f ?_)))
 rw[LF (by simp)]
 refine I0 ?_
 simp only[show ¬((i:Int)<0)from by omega,if_false,Jh,Array.getElem?_eq_getElem j]
 refine cc ?_
 first|refine cc (Ke a (I0 ?_))|refine cc (wpAny_typeNameOf_keyiter a (I0 ?_))
 refine cc (wpAny_isOneOf_keyiter a ?_)
 show Im _ _ (setField (.ref it) 1 (rawInt ((i:Int)+1)) >>= _) _ _ s
 refine cc (wpAny_setField c hd (by simp) ?_)
 have g:(s.heap.update it (Obj.mapFields (·.setIfInBounds 1 (rawInt ((i:Int)+1))))).IsKeyIter it d (i+1) es.size ep:=
  ⟨_,Kc _ c (Obj.isFreed_of_fields (Obj.data_mapFields hd _)),(Obj.cls_mapFields ..).trans l,by rw[Obj.data_mapFields hd];simp[rawInt]⟩
 refine cc (JD (cc (wpAny_isOneOf_keyiter (s:={ s with heap:=s.heap.update it (Obj.mapFields (·.setIfInBounds 1 (rawInt ((i:Int)+1)))) }) g.typeIs ?_)))
 show Im _ _ (pure es[i].key) _ _ _
 exact I0 (I0 ⟨_,rfl,I0 (k _ g (K4 ..))⟩)
theorem Ac{Q:Option HY->HZ->Prop}(j:A.handled=LB)(e:s.heap.IsKeyIter it d es.size es.size ep)(k:ki s.heap d es ep)
 (l:∀h',Heap.ExtBut it s.heap h'->Q LB { s with heap:=h' }):Im (IC prog w) A (pyNext (.ref it)) Q E s:=by
 obtain⟨o,f,n,hd⟩:=id e
 obtain⟨od,g,p,h⟩:=k
 have c:=e.typeIs
 unfold pyNext
 refine cc (wpAny_attempt (Kg (name:=JQ "__next__") c JS (Ku JS c F.entry_dict_keyiterator_next ?_ (F.args_dict_keyiterator_next_1 _))))
 refine cc (I0 (cc (cc ?_)))
 first|refine cc (Ke c (I0 ?_))|refine cc (wpAny_typeNameOf_keyiter c (I0 ?_))
 refine cc (wpAny_fieldsOf f hd ?_)
 simp only[show Builtin.Dict_items.ownsTuple "dict_keyiterator"=LD by decide,JV,if_false]
 show Im _ _ (if(Jx d==JZ)=LC then _ else _) _ _ s
 rw[LF (show ¬((Jx d==JZ)=LC)from Iq)]
 refine cc (I0 (cc (wpAny_dictEntries g h ?_)))
 rw[LF (by simp)]
 refine cc (I0 (cc (wpAny_dictEpoch g h ?_)))
 rw[LF (by simp)]
 refine I0 ?_
 simp only[show ¬((es.size:Int)<0)from by omega,if_false,Jh,Array.getElem?_eq_none (Ic es.size)]
 refine cc ?_
 first|refine cc (Ke c (I0 ?_))|refine cc (wpAny_typeNameOf_keyiter c (I0 ?_))
 show Im _ _ (setField (.ref it) 0 .none >>= _) _ _ s
 refine cc (wpAny_setField f hd (by simp) ?_)
 show Im _ _ (newExc (.type "StopIteration") [] >>= _) _ _ _
 refine cc ?_
 simp only[newExc,newTuple]
 refine cc (Jc ?_ (by size_fits))
 refine cc (m:=firstArgMember _ _) (wpAny_of_eq (a:=JZ) (by first|rfl|(simp only[firstArgMember];rfl)) ?_)
 refine Jc ?_ (by size_fits)
 simp only[raiseNew]
 refine cc (wpAny_handled ?_)
 rw[show A.in1.handled=LB from j]
 refine cc (I0 (wpAny_throw ?_))
 refine cc (wpAny_isInstance (T:="StopIteration") (b:=LC) ⟨_,Ik _ rfl,rfl⟩ isSubtype_stop ?_)
 exact I0 (l _ (((K4 ..).extBut.push _).push _))
theorem vy(m:A.handled=LB)(I d:Addr)(f:d≠I)(es:Array Jt)(ep:Nat):Walks prog w A I [I,d] [I] es.size (fun i v=>∃e,es[i]?=LA e/\v=e.key) (fun i h=>h.IsKeyIter I d i es.size ep/\ki h d es ep) where
 sub:=fun b a=>by simp at a;simp[a]
 frame:=fun _ _ _ st j=>⟨st.1.at fun o e=>j I (by simp) o e,st.2.kept fun o e=>j d (by simp) o e⟩
 item:=fun i s Q E k st c=>yz st.1 st.2 k fun g n l=>c _ g s.toks ⟨es[i],by simp[k],rfl⟩ ⟨n,st.2.kept fun o e=>(l.2 d f).trans e⟩ fun b o a e=>l.extBut b o (fun h=>a (by simp[h])) e
 done:=fun s Q E st c=>Ac m st.1 st.2 fun g p=>c g s.toks fun b o a e=>p b o (fun h=>a (by simp[h])) e
 self:=fun _ _ _ _ st c=>wpAny_pyIter_keyiter st.1 c
theorem AR(c:(d==JU)=LD):PySem.W.KdlSrc prog w "dict" d d es.size (fun i v=>∃e,es[i]?=LA e/\v=e.key) (fun h=>ki h d es ep) where
 type:=fun _ a=>a.ty
 there:=fun _ a=>⟨a.lt,a.lt⟩
 keep:=fun _ _ a f=>a.kept fun o e=>f d (.inl rfl) o e
 notList:=⋯
 notTuple:=⋯
 hint:=fun _ _ _ _ a b=>PySem.W.kdl_hint_dict a.ty b
 iter:=fun _ _ g a=>⟨_,_,(fun _ _ b=>xZ c a b),vy g _ d (J6 a.lt) es ep,⟨⟨_,Ik _ rfl,rfl,rfl⟩,a.kept fun o e=>Ib _ e⟩⟩
end
section
variable{X:Cx}
theorem xQ{P:IH}{w:J5}{xs:List SpE}{a:List (SpK×Addr×HY)}(r:La PrS xs a):(a.map (entryOfKey (dW P w))).map (·.key)=xs.map fun x=>Jx x.2.1:=by
 induction r with
 |nil=>rfl
 |cons h t b=>simp only[Ih,b,h.2.1];rfl
theorem nV:∀xs:List SpE,Vals (xs.map fun x=>V.ref x.2.1) (xs.map fun x=>Jx x.2.1)
 |[]=>.nil
 |x::xs=>.cons rfl (nV xs)
theorem qy(j:X.calm=LC):cG X (.type "list") (fun vs H Q=>∃p xs,vs=[.ref p]/\H p=LA (.ext (bW X.prog X.w p xs))/\∀l,H l=LB->Q (.ref l) (upd H l (.lst (xs.map fun x=>V.ref x.2.1)))):=by
 intro pins s σ H vs us Q I r k;obtain⟨p,xs,m,n,q⟩:=k;subst m;obtain⟨u,rfl,t⟩:=vals1 r;cases t;obtain⟨⟨v,f,F,G,g,o,es,ep,y,z,A,h⟩,_⟩:=I.hok p _ n;have B:es.size=xs.length:=by rw[<-Array.length_toList,h,Ii,kA g]
 refine PySem.W.kdl_call (AR (es:=es) (ep:=ep) v) (I.ok.hd j) ⟨o,y,z,A⟩ (by rw[B];exact f) fun C D a c kp E it=>?_
 have ea:a.toList=xs.map fun x=>Jx x.2.1:=by
  rw[<-xQ (P:=X.prog) (w:=X.w) g,<-h];apply List.ext_getElem?;intro i;by_cases d:i<es.size
  ·have b:i<a.size:=by rw[it.1];exact d
   obtain⟨e,e1,e2⟩:=it.2 i a[i] (by simp[b]);simp[b,d]at e1 ⊢;rw[e2,<-e1]
  ·have b:¬i<a.size:=by rw[it.1];exact d
   simp[d,b]
 refine⟨.ref s.heap.objs.size,_,I.laid (t':=D) kp (Ic _) (show cF X.prog X.w _ C _ (.lst _)from⟨by rw[Ii];exact f,_,c,nV xs,?_⟩),rfl,q _ (I.hok.fresh (Ic _))⟩;rw[<-ea,Array.toArray_toList];exact E
def C8:RC:=fun a M Q=>xy a M Q\/∃l kvs,a=[.ref l]/\M l=LA (dsM kvs)/\∀p,M p=LB->Q (.ref p) (ay M p (.lst (kvs.map fun x=>spD x.1)))
theorem nX{K:H0}{H:Hp}:∀{kvs:SpT} {xs:List SpE},xs.map (·.1)=kvs.map (·.1)->(∀x∈xs,dq K H x.2.1 x.1)->aE K H (kvs.map fun x=>spD x.1) (xs.map fun x=>V.ref x.2.1)
 |[],[],_,_=>by rw[JF,JF];exact aE.nil
 |y::kvs,x::xs,h,k=>by
  rw[Ih,Ih]at h
  injection h with e1 e2
  rw[Ih,Ih]
  exact aE.cons (by rw[<-e1];exact xj (k x (by simp))) (nX e2 fun z a=>k z (by simp[a]))
 |[],_::_,h,_=>by cases h
 |_::_,[],h,_=>by cases h
theorem qQ(f:X.calm=LC):fh X (.type "list") C8:=by
 intro pins s σ H vs us Q I d g;obtain⟨h,M,R,e,a,q,b⟩:=g;rcases q with q|⟨l,kvs,i,j,q⟩
 ·exact Ao pins s σ H vs us Q I d ⟨h,M,R,e,a,q,b⟩
 ·subst i;obtain⟨v,rfl,r⟩:=cH e;rw[Rep]at r;subst r;obtain⟨xs,k,m,n,o⟩:=a.dsp j;exact qy f pins s σ H _ us Q I d ⟨_,xs,rfl,k _ _,fun z c=>b (.ref z) _ _ _ (.new c) (by rw[Rep]) (a.m8 c (nX m n)) (q z (a.fresh c))⟩
end
def gsp(t b X Y:Int)(u:Vc):D:=Lj (LW t b X 1 u.1) (LW t b Y 1 u.2)
def gk(t b X Y:Int)(u:Vc):SpK:=((LW t b X 1 u.1).num,((LW t b X 1 u.1).den:Int),(LW t b Y 1 u.2).num,((LW t b Y 1 u.2).den:Int))
theorem tH(t b X Y:Int)(u:Vc):gsp t b X Y u=spD (gk t b X Y u):=rfl
theorem sT{t b X Y:Int}(a:0<t)(c:0<b){p q:Vc}(h:gk t b X Y p=gk t b X Y q):p=q:=by unfold gk at h;injection h with d h;injection h with e h;injection h with f g;have e1:LW t b X 1 p.1=LW t b X 1 q.1:=Rat.ext d (by exact_mod_cast e);have e2:LW t b Y 1 p.2=LW t b Y 1 q.2:=Rat.ext f (by exact_mod_cast g);have i:=(Lh a c ⋯ ⋯).mp e1;have j:=(Lh a c ⋯ ⋯).mp e2;exact Prod.ext () ()
def B20(u:Vc):Prop:=(0<=u.1/\u.1<=20)/\(0<=u.2/\u.2<=20)
def ea(w:Wl):Vc:=(w.1,w.2.1)
def eb(w:Wl):Vc:=(w.2.2.1,w.2.2.2)
theorem Un5.ea{w:Wl}(h:Un5 w):B20 (ea w):=⟨h.a,h.b⟩
theorem Un5.eb{w:Wl}(h:Un5 w):B20 (eb w):=⟨h.c,h.d⟩
def gI(us:List Vc)(u:Vc):List Vc:=if u∈us then us else us++[u]
theorem qe{us:List Vc}{u v:Vc}:v∈gI us u↔v∈us\/v=u:=by
 unfold gI;split
 ·constructor
  ·exact .inl
  ·rintro(h|rfl)
   ·exact h
   ·assumption
 ·simp
theorem uz{us:List Vc}{u:Vc}(h:us.Nodup):(gI us u).Nodup:=by
 unfold gI;split
 ·exact h
 ·rename_i hn;rw[List.nodup_append];refine⟨h,by simp,fun a c b d e=>?_⟩;have:b=u:=by simpa using d
  subst this;subst e;exact hn c
theorem lR(us:List Vc)(u:Vc):(gI us u).length<=us.length+1:=by
 unfold gI;split
 ·omega
 ·simp
def cnr(ws:List Wl):Nat->List Vc
 |0=>[]
 |i+1=>match ws[i]? with
  |some w=>gI (gI (cnr ws i) (ea w)) (eb w)
  |none=>cnr ws i
theorem sY(ws:List Wl):∀i,(cnr ws i).Nodup
 |0=>List.nodup_nil
 |i+1=>by
  unfold cnr
  split
  ·exact uz (uz (sY ws i))
  ·exact sY ws i
theorem pM(ws:List Wl):∀i,(cnr ws i).length<=2*i
 |0=>Ic _
 |i+1=>by
  have a:=pM ws i
  unfold cnr
  split
  ·have b:=lR (gI (cnr ws i) (ea ‹_›)) (eb ‹_›)
   have c:=lR (cnr ws i) (ea ‹_›)
   omega
  ·omega
theorem pH{ws:List Wl}{u:Vc}:∀i,u∈cnr ws i↔∃j w,j<i/\ws[j]?=LA w/\(u=ea w\/u=eb w)
 |0=>by simp[cnr]
 |i+1=>by
  have d:=pH (ws:=ws) (u:=u) i
  unfold cnr
  split
  ·rename_i w hw
   rw[qe,qe,d]
   constructor
   ·rintro((⟨j,v,c,b,a⟩|h)|h)
    ·exact⟨j,v,(),b,a⟩
    ·exact⟨i,w,(),hw,.inl h⟩
    ·exact⟨i,w,(),hw,.inr h⟩
   ·rintro⟨j,v,c,b,a⟩
    by_cases e:j=i
    ·subst e
     rw[hw]at b;cases b
     rcases a with a|a
     ·exact .inl (.inr a)
     ·exact .inr a
    ·exact .inl (.inl ⟨j,v,(),b,a⟩)
  ·rename_i hw
   rw[d]
   constructor
   ·rintro⟨j,v,c,b,a⟩
    exact⟨j,v,(),b,a⟩
   ·rintro⟨j,v,c,b,a⟩
    by_cases e:j=i
    ·subst e;rw[hw]at b;cases b
    ·exact⟨j,v,(),b,a⟩
theorem E5{ws:List Wl}(a:∀w∈ws,Un5 w){i:Nat}:∀u∈cnr ws i,B20 u:=fun u b=>by
 obtain⟨j,w,_,c,d⟩:=(pH i).mp b;have:=a w (Il c);rcases d with rfl|rfl
 ·exact this.ea
 ·exact this.eb
def cdT(t b X Y:Int)(us:List Vc):SpT:=us.map fun u=>(gk t b X Y u,D.bl LC)
theorem Ax{t b X Y:Int}(c:0<t)(d:0<b)(us:List Vc)(u:Vc):putD (cdT t b X Y us) (gk t b X Y u) (.bl LC)=cdT t b X Y (gI us u):=by
 have ea:((cdT t b X Y us).any fun x=>decide (x.1=gk t b X Y u))=decide (u∈us):=by
  rw[K7,List.any_eq_true,LL];constructor
  ·rintro⟨x,f,e⟩;obtain⟨v,a,rfl⟩:=J1.mp f;have:gk t b X Y v=gk t b X Y u:=by simpa using e
   rw[<-sT c d this];exact a
  ·intro h;exact⟨_,J1.mpr ⟨u,h,rfl⟩,by simp⟩
 unfold putD gI;rw[ea];by_cases h:u∈us
 ·rw[LG (by simpa using h),LG h];unfold cdT;rw[Ko];refine Kl fun v a=>?_;dsimp only[Function.comp];split
  ·rfl
  ·rfl
 ·rw[LF (by simpa using h),LF h];unfold cdT;rw[IK];rfl
theorem xB{a c:List Vc}(b:a.Perm c)(d:a.Pairwise plt)(e:c.Pairwise plt):a=c:=List.Perm.eq_of_pairwise (le:=plt) (fun x y _ _ f g=>by unfold plt at f g;omega) d e b
theorem C6{ps:List Vc}{u:Vc}{j:Nat}(h:ps.Pairwise plt)(m:j<=ps.length)(f:∀i,i<j->plt (p0 ps i) u)(g:∀i,j<=i->i<ps.length->plt u (p0 ps i)):(hZ ps j u).Pairwise plt/\(hZ ps j u).Perm (u::ps):=by
 constructor
 ·unfold hZ;rw[List.pairwise_append]
  have lt:∀x∈ps.take j,plt x u:=fun x b=>by
   obtain⟨i,c,rfl⟩:=List.getElem_of_mem b
   have a:i<j/\i<ps.length:=by rw[Kt]at c;omega
   have:=f i a.1
   unfold p0 at this
   simpa[a.2]using this
  have e:∀x∈ps.drop j,plt u x:=fun x b=>by
   obtain⟨i,c,rfl⟩:=List.getElem_of_mem b
   have a:j+i<ps.length:=by rw[List.length_drop]at c;omega
   have:=g (j+i) () a
   unfold p0 at this
   simpa[a]using this
  refine⟨h.sublist (List.take_sublist _ _),List.pairwise_cons.mpr ⟨e,h.sublist (List.drop_sublist _ _)⟩,fun x b y d=>?_⟩;rcases J3.mp d with rfl|d
  ·exact lt x b
  ·have k:=lt x b;have l:=e y d;unfold plt at k l ⊢;omega
 ·unfold hZ;have:(ps.take j++u::ps.drop j).Perm (u::(ps.take j++ps.drop j)):=List.perm_middle
  rwa [List.take_append_drop]at this
theorem xI{t b X Y:Int}(a:0<t)(c:0<b){u v:Vc}(d:B20 u)(e:B20 v):LY (LW t b X 1 u.1) (LW t b Y 1 u.2) (LW t b X 1 v.1) (LW t b Y 1 v.2)↔plt u v:=mF a c d.2 e.2
theorem B20.bx{t b X Y:Int}(S:Scl t b X Y){u:Vc}(h:B20 u):LX 200 (LW t b X 1 u.1):=S.bx ⋯ (by have:=h.1;omega)
theorem B20.by'{t b X Y:Int}(S:Scl t b X Y){u:Vc}(h:B20 u):LX 200 (LW t b Y 1 u.2):=S.by' ⋯ (by have:=h.2;omega)
theorem Ai{u v:Vc}(a:B20 u)(b:B20 v)(ne:u≠v)(h:¬plt u v):plt v u:=by
 have c:=a.2;have d:=b.2;unfold plt at h ⊢;by_cases e:100*u.1+u.2=100*v.1+v.2
 ·exact absurd (Prod.ext () ()) ne
 ·omega
def gP(t b X Y:Int)(u:Vc):KU:=oW (gk t b X Y u)
theorem ue{M:MH}(t b X Y:Int):∀us:List Vc,Pds M (us.map (gsp t b X Y)) (us.map (gP t b X Y))
 |[]=>.nil
 |u::us=>.cons (Pd.of rfl) (ue t b X Y us)
theorem ua(t b X Y:Int):∀us:List Vc,JK (us.map (gP t b X Y))=LC
 |[]=>rfl
 |u::us=>by rw[Ih,JK,ua t b X Y us];rfl
section
variable{X:Cx}{pins:List (Addr×Obj)}{σ:L2.St}{H:Hp}{s:HZ}{a b:Addr}{k:SpK}
theorem zx{A:Jd}{E:HY->HZ->Prop}{Q:Unit->HZ->Prop}{xs:List SpE}{v:V}{u:HY}(G:A.units+8<Jq)(I:L2.Inv X pins σ H s)(e:H a=LA (.ext (bW X.prog X.w a xs)))(i:∀x∈xs,dq X.K H x.2.1 x.1)(j:dq X.K H b k)(f:RelV v u)(J:xs.length<Ir)
 (h:∀g,L2.Inv X pins σ (upd H a (.ext (bW X.prog X.w a (fF xs k b v)))) g->Q .unit g):Im (IC X.prog X.w) A (dictSet a (.ref b) u) Q E s:=by
 obtain⟨hd,l,L,r,m⟩:=oN I e i
 refine wpAny_dictSet_heap (knd:=dW X.prog X.w) (hsz:=by rw[<-kA r];exact l) (():A.units+4<Jq) (qL I j) m fun M c n=>h _ ?_
 obtain⟨q,o,p,d,t,z,B,_,C⟩:=c
 refine ji I (by rw[e];exact True.intro) n ⟨q,d⟩ ⟨⟨hd,?_,?_,_,gY r k b f,q,o,p,d,t,z,B⟩,⟨q,d⟩,fun D F x y=>kD D F x y⟩
 ·have:=k6 xs k b v;omega
 ·rw[<-iT (gY r k b f)];exact C
end
theorem tu{prog:IH}{w:J5}{A:Jd}{R:Result->HZ->Prop}{s:HZ}{g i a b:Expr}{d:List Expr}{scope:Kv}{pos:Pos}{it:HY}{D:Addr}{env:Env}(J:Nat->HZ->Prop)
 (step:∀n s,J n s->Im (IC prog w) A (pyNext it) (fun r j=>match r with
  |none=>R (.ok .next) j
  |some v=>Im (IC prog w) A (K5 a it v) (fun _ l=>Im (IC prog w) A (KW a env v) (fun _ o=>
   Im (IC prog w) A (forIn d LC fun c r=>if r=LC then do let ok <-isTrue c env (eval c env);pure (Kh ok)else pure (Kh r)) (fun ok k=>
    if ok=LC then Im (IC prog w) A (eval g env) (fun p q=>Im (IC prog w) A (eval i env) (fun t u=>Im (IC prog w) A (dictSet D p t) (fun _ y=>∃m,m<n/\J m y) NoE u) NoE q) NoE k
    else ∃m,m<n/\J m k) NoE o) NoE l) NoE j) NoE s)
 (n:Nat) (h:J n s):Km (IC prog w) A (.compLoop (.DictComp g i [⟨a,b,d,0⟩] scope pos) 0 it (.ref D) env) R s:=by
 have f:∀{E:HY->HZ->Prop} e B,NoE e B->E e B:=fun _ _ z=>z.elim
 refine codeAny_loop rfl J (fun n s G=>?_) n h
 show Im _ _ (Sem.onRaise (compTurn (.DictComp g i [⟨a,b,d,0⟩] scope pos) 0 it (.ref D) env) (fun x=>do noteFrame x env;theTreesLotGoes x)) _ _ s
 refine wpAny_noted ?_
 rw[compTurn_dict]
 refine cc (JM (cc (Iw (step n s G) (fun r j C=>?_) f)))
 cases r with
 |none=>exact I0 C
 |some v=>
  refine cc (Iw C (fun _ l H=>cc (Iw H (fun _ o I=>cc (Iw I (fun ok k F=>?_) f)) f)) f)
  cases ok with
  |false=>exact I0 ⟨rfl,F⟩
  |true=>exact cc (cc (Iw F (fun p q K=>cc (JD (Iw K (fun t u L=>cc (JM (JD (Iw L (fun _ y M=>I0 ⟨rfl,M⟩) f)))) f))) f))
def xU(X:Cx)(js:List Nat)(own:Own)(tc:TT)(tk te:TE)(σ:L2.St)(J:It)(H1:Hp)(Q:VK):Prop:=∀D,H1 D=LB->∃W:Nat->Nat->Hp->Prop,(∃m,W 0 m (upd H1 D (.ext (bW X.prog X.w D []))))/\∀i m H,W i m H->
 (J.stop i H/\Q (.ref D) H)\/(J.go i H/\∀y d,J.yld i H y d->∃os,own y d os/\tc (cσ os js σ) d fun b e=>if b=LC then
  tk (cσ os js σ) e fun f g=>te (cσ os js σ) g fun v c=>∃b k xs,f=.ref b/\c D=LA (.ext (bW X.prog X.w D xs))/\(∀x∈xs,dq X.K c x.2.1 x.1)/\dq X.K c b k/\xs.length<Ir/\∃a,a<m/\W (i+1) a (upd c D (.ext (bW X.prog X.w D (fF xs k b v))))else ∃a,a<m/\W (i+1) a e)
def uY(X:Cx)(js:List Nat)(own:Own)(a:TI)(tc:TT)(tk te:TE):TE:=fun σ H Q=>a σ H fun J H1=>xU X js own tc tk te σ J H1 Q
section
variable{X:Cx}{xs:List Str}{tg:Expr}{pos:Pos}{js:List Nat}{scope:Kv}{kx vx iter:Expr}{ifs:List Expr}{tk te:TE}{tc:TT}{g:TG}{own:Own}{wi:TI}{pins:List (Addr×Obj)}{σ:L2.St}{H:Hp}{s:HZ}{fp:List Addr}{it:Addr}{tn:Nat->Heap->Prop}{J:It}
theorem wq(c:CScope X xs js scope)(hc:X.calm=LC)(hG:TgOk xs.length g own)(hg:∀C s H fp,PG (cxC X xs js scope C s H fp) tg g)(ht:∀C s H fp,PTs (cxC X xs js scope C s H fp) ifs tc)(hk:∀C s H fp,PE (cxC X xs js scope C s H fp) kx tk)(he:∀C s H fp,PE (cxC X xs js scope C s H fp) vx te)(hu:X.A.units+8<Jq)
 {R:HY->Addr->Result->HZ->Prop} {E:HY->HZ->Prop} {Q:VK}
 (I:Inv X pins σ H s) (T:Turn X.prog X.w X.K tg J fp it tn) (st:tn 0 s.heap) (hf:∀b∈fp,cB X pins H b) (wc:xU X js own tc tk te σ J H Q)
 (hR:∀D C h G,Inv X pins σ h G->cB X pins h C->(∃m,G.heap.Ns C m)->Q (.ref D) h->R (.ref D) C (.ok .next) G) :
 Im (IC X.prog X.w) X.A newDict (fun d0 e0=>Im (IC X.prog X.w) X.A (newFunctionEnv scope X.env.globals (fo scope.names X.env) [] X.env.qual LB .none (LA X.env)) (fun N f0=>
  Km (IC X.prog X.w) X.A (.compStart (.DictComp kx vx [⟨tg,iter,ifs,0⟩] scope pos) 0 (.ref it) d0 { N with scope:=relabel scope X.env }) (R d0 N.locals) f0) E e0) E s:=by
 have g0:∀b∈fp,b<s.heap.objs.size:=fun b a=>let⟨o,e,_⟩:=T.obj 0 _ st b a;Iy e
 have hD:H s.heap.objs.size=LB:=I.hok.fresh (Ic _)
 refine Jc (oM ?_)
 generalize hh:s.heap.push { cls:=.type "dict",data:=.dict #[] }=f
 generalize h0:pushCells (({ s with heap:=f }:HZ).heap.push { cls:=.type "dict",data:=.dict #[] }) scope.names=j
 have k3:∀b o,s.heap.get? b=LA o->f.get? b=LA o:=fun b o e=>by rw[<-hh];exact Ib _ e
 have I3:Inv X pins σ (upd H s.heap.objs.size (.ext (bW X.prog X.w s.heap.objs.size []))) { s with heap:=f }:=by
  rw[<-hh];exact uG I
 have l:∀b∈fp,cB X pins (upd H s.heap.objs.size (.ext (bW X.prog X.w s.heap.objs.size []))) b:=fun b a=>⟨by rw[aT (J6 (g0 b a))];exact(hf b a).1,(hf b a).2⟩
 have s0:f.objs.size=s.heap.objs.size+1:=by rw[<-hh,K1]
 have i0:∀b∈fp,b<f.objs.size:=fun b a=>by rw[s0];exact Nat.lt_succ_of_lt (g0 b a)
 have k4:∀b o,f.get? b=LA o->j.get? b=LA o:=fun b o e=>by rw[<-h0];exact pushCells_keeps _ _ b o (Ib _ e)
 have I4:=my c I3 l i0 (h':=j) h0.symm k4
 obtain⟨W,⟨m0,w0⟩,k0⟩:=wc _ hD
 have st4:tn 0 j:=T.keep 0 _ _ st fun b a o e=>k4 b o (k3 b o e)
 generalize hX:cxC X xs js scope f.objs.size { s with heap:=f } (upd H s.heap.objs.size (.ext (bW X.prog X.w s.heap.objs.size []))) fp=X' at I4
 have S:∀{pins':List (Addr×Obj)} {h:Hp} {L:L2.St} {G:HZ},Inv X' [] L h G->(∀b∈fp,h b=LB)->∀b∈fp,cB X' [] h b:=fun{pins' h L G} J' hn b a=>by
  subst hX
  obtain⟨a1,a2⟩:=J'.ok.exf b a
  exact⟨hn b a,a1,J'.ok.exfs b a,.inl a,a2,fun p hp=>absurd (show p∈([]:List (Addr×Obj))from hp) (by simp)⟩
 have O:Km (IC X.prog X.w) X.A (.compLoop (.DictComp kx vx [⟨tg,iter,ifs,0⟩] scope pos) 0 (.ref it) (.ref s.heap.objs.size) (kg scope f.objs.size X.env)) (R (.ref s.heap.objs.size) f.objs.size)
  { s with heap:=j }:=by
  refine tu (fun n G=>∃i os h,os.length=xs.length/\Inv X' [] (cσ os js σ) h G/\tn i G.heap/\(∀b∈fp,h b=LB)/\W i n h) ?_ m0 ⟨0,_,_,by simp,I4,st4,fun b a=>(l b a).1,w0⟩
  rintro n s5 ⟨i,os,H5,t0,I5,st5,l0,w5⟩
  rcases k0 i n H5 w5 with⟨stop,q⟩|⟨go,step⟩
  ·subst hX
   refine Iw (T.done (cxC X xs js scope f.objs.size { s with heap:=f } (upd H s.heap.objs.size (.ext (bW X.prog X.w s.heap.objs.size []))) fp) rfl rfl rfl hc i [] s5 _ H5 NoE I5 (S (pins':=[]) I5 l0) st5 stop) (fun r s6 U=>?_) fun _ _ z=>z
   obtain⟨hr,I6⟩:=U
   subst hr
   refine hR _ _ H5 s6 (I3.xg I6.os I6.base I6.hok I6.bare fun b a=>⟨(l b a).2.2.2.1,(l b a).2.1,(l b a).2.2.2.2.1,(l b a).2.2.2.2.2⟩) (I3.om (Ic _) I6.free) (let⟨m,hm,_⟩:=I6.loc;⟨m,hm⟩) q
  ·subst hX
   refine Iw (T.item (cxC X xs js scope f.objs.size { s with heap:=f } (upd H s.heap.objs.size (.ext (bW X.prog X.w s.heap.objs.size []))) fp) rfl rfl rfl hc i [] s5 _ H5 NoE I5 (S (pins':=[]) I5 l0) st5 go) (fun r s6 V=>?_) fun _ _ z=>z
   obtain⟨u,hr,h6⟩:=V
   subst hr
   refine Iw h6 (fun _ s7 Y=>?_) fun _ _ z=>z
   obtain⟨y,H7,I7,r7,y7,st7,u0⟩:=Y
   have v0:=I7.pinned (S (pins':=[]) I7 u0) (T.obj _ _ st7)
   obtain⟨M,n0,q8⟩:=step y H7 y7
   have l8:=hG.len _ _ _ n0
   refine Iw (hg _ _ _ _ _ s7 _ H7 y u (fun L h=>L=cσ M js σ/\h=H7) v0 r7 (hG.run y H7 os _ M _ t0 n0 ⟨rfl,rfl⟩)) (fun _ s8 Z=>?_) fun _ _ z=>z
   obtain⟨i1,H8,I8,e8,x0⟩:=Z
   subst e8 x0
   refine Iw (ht _ _ _ _ _ s8 _ _ _ I8 q8) (fun ok s9 a0=>?_) fun _ _ z=>z
   obtain⟨H9,I9,q9⟩:=a0
   have P:∀{m':Nat} {x:Hp} {t:HZ},Inv (cxC X xs js scope f.objs.size { s with heap:=f } (upd H s.heap.objs.size (.ext (bW X.prog X.w s.heap.objs.size []))) fp) ([]++gH fp s7.heap) (cσ M js σ) x t->m'<n->W (i+1) m' x->
    ∃m,m<n/\∃i os h,os.length=xs.length/\Inv (cxC X xs js scope f.objs.size { s with heap:=f } (upd H s.heap.objs.size (.ext (bW X.prog X.w s.heap.objs.size []))) fp) [] (cσ os js σ) h t/\tn i t.heap/\(∀b∈fp,h b=LB)/\W i m h:=fun{m' x t} B F y0=>by
    refine⟨m',F,i+1,M,x,l8,B.eB,T.keep _ _ _ st7 fun b a o e=>(B.pin (b,o) (IA _ (IA _ (bP a e)))).1,fun b a=>?_,y0⟩
    obtain⟨o',e,d⟩:=T.obj _ _ st7 b a
    exact(B.pin (b,o') (IA _ (IA _ (bP a e)))).2.1
   cases ok with
   |false=>
    rw[LF Iq]at q9 ⊢
    obtain⟨m',F,w9⟩:=q9
    exact P I9 F w9
   |true=>
    rw[LG rfl]at q9 ⊢
    refine Iw (hk _ _ _ _ _ s9 _ _ _ I9 q9) (fun kv t b0=>?_) fun _ _ z=>z
    obtain⟨kk,x,B,z0,b1⟩:=b0
    refine Iw (he _ _ _ _ _ t _ _ _ B b1) (fun v j1 c0=>?_) fun _ _ z=>z
    obtain⟨vv,k1,c1,d1,b,k,ys,ek,o0,e1,f1,r0,m',F,g1⟩:=c0
    subst ek
    cases z0
    exact zx (X:=cxC X xs js scope f.objs.size { s with heap:=f } (upd H s.heap.objs.size (.ext (bW X.prog X.w s.heap.objs.size []))) fp) hu c1 o0 e1 f1 d1 r0 fun m1 h1=>P h1 F g1
 exact codeAny_compStart_dict O (T.self X.A 0 _ _ _ st4 O)
theorem xu{i:Nat}{y:Str}{l j:Pos}(c:CScope X xs js scope)(F:X.calm=LC)(G:X.N.Nodup)(K:PI X tg iter wi)(L:TgOk xs.length g own)(M:∀C s H fp,PG (cxC X xs js scope C s H fp) tg g)(O:∀C s H fp,PTs (cxC X xs js scope C s H fp) ifs tc)(P:∀C s H fp,PE (cxC X xs js scope C s H fp) kx tk)(S:∀C s H fp,PE (cxC X xs js scope C s H fp) vx te)(U:X.A.units+8<Jq)(V:X.N[i]?=LA y)(E:X.env.scope.names.lookup y=LA .local)
 (p:Ks (.DictComp kx vx [⟨tg,iter,ifs,0⟩] scope pos) (LA (.Name y l)) j.line X.env=pure LC) (W:∀x,IW iter X.env x=pure x:=by intro _;rfl) :
 PS X (.Assign [.Name y l] (.DictComp kx vx [⟨tg,iter,ifs,0⟩] scope pos) j) (zZ (uY X js own wi tc tk te) (fV i)):=by
 intro pins s σ H B I h
 rw[exec_Assign_Name_used _ _ _ _ p]
 refine cc (JM (cc ?_))
 show Im _ X.A (do let _ <-comprehension (.DictComp kx vx [⟨tg,iter,ifs,0⟩] scope pos) scope X.env _ newDict LD (eval iter X.env) (LA (KW (.Name y l) X.env))) _ _ s
 refine cc (Iw (wpAny_comprehension_free (use:=LA (KW (.Name y l) X.env)) (Q:=fun _ n=>SP X pins B .next n) rfl W (c.A9 I.ok) c.kind c.names
  (thn (K pins s σ H _ I h) fun v s1 Y=>thn Y fun Z s2 ⟨it,fp,tn,J,H2,e,I2,T,st,f2,w⟩=>?_)) (fun _ n hq=>I0 (I0 hq)) fun _ _ e=>e)
 subst e
 refine wq (R:=fun r C=>compPost (IC X.prog X.w) X.A X.xe (LA (KW (.Name y l) X.env)) (fun _ n=>SP X pins B .next n) r C) c F L M O P S U I2 T st f2 w fun D C H' n I' k d q=>?_
 obtain⟨m,hm⟩:=d
 show Im _ X.A (KW (.Name y l) X.env (.ref D)) _ _ _
 refine wpAny_assign_Name (jU I' G V (.inl E) (v:=.ref D) rfl (fun s9 I9 f=>?_) (.inr E))
 obtain⟨a,sb,ha⟩:=f
 have t:C≠a:=by
  rcases ha with z|z
  ·rw[z];exact k.2.1
  ·exact fun e=>k.2.2.2.2.1 y a z e.symm
 refine⟨m,hm.sameBut sb t,fun h' u=>?_⟩
 exact⟨_,H',I9.turned (t':=s9.toks) (fun b o ne e=>u.extBut b o ne e) k.1 k.2.1 k.2.2.2.1 k.2.2.2.2.1 k.2.2.2.2.2,q⟩
end
def CP(I:ItD)(tk:Tgt)(js:List Nat)(tc:TTD)(g te:TD)(δ:DS)(a:MH)(Q:DK):Prop:=I.n<=900000/\∀p,a p=LB->∃W:Nat->SpT->MH->Prop,W 0 [] (ay a p (dsM []))/\(∀i kvs M,i<=I.n->W i kvs M->I.C M)/\
 (∀i kvs d M,i<I.n->I.item i=LA d->W i kvs M->∃os,zu tk d os/\tc (cδ os js δ) M fun b c=>if b=LC then g (cδ os js δ) c fun y h=>te (cδ os js δ) h fun e f=>∃k,y=spD k/\f p=LA (dsM kvs)/\kvs.length<=i/\W (i+1) (putD kvs k e) (ay f p (dsM (putD kvs k e)))else W (i+1) kvs c)/\∀kvs M,W I.n kvs M->Q (.ref p) M
def oh(a:TID)(tk:Tgt)(js:List Nat)(tc:TTD)(b te:TD):TD:=fun δ M Q=>a δ M fun I c=>CP I tk js tc b te δ c Q
section
variable{X:Cx}
theorem sD{G:TID}{tk:Tgt}{js:List Nat}{tc:TTD}{L te:TD}{σ:L2.St}{H:Hp}{Q:VK}(h:lift X.K (oh G tk js tc L te) σ H Q):uY X js (qm X.K tk) (mL X.K G) (liftT X.K tc) (lift X.K L) (lift X.K te) σ H Q:=by
 obtain⟨δ,M,R,N,hM,q,x⟩:=h;refine⟨δ,M,_,N,hM,q,fun I M1 H1 J O P z A p B=>?_⟩;obtain⟨hn,z⟩:=z;obtain⟨W,w0,hC,l,done⟩:=z p (P.fresh B);refine⟨fun i m g=>m=I.n-i/\i<=I.n/\Grow X.K H1 g/\∃kvs M,Abs X.K g M/\W i kvs M,⟨I.n,by simp,JA _,.new B,[],_,P.BV _ _ B,w0⟩,?_⟩;rintro i m g ⟨rfl,C,f,kvs,j,r,o⟩;by_cases a:i<I.n
 ·refine .inr ⟨A.go i g j a f r (hC _ _ _ C o),fun v H3 hy=>?_⟩;obtain⟨D,a3,d,ed,rd⟩:=A.yld i g j v H3 a f r (hC _ _ _ C o) hy;obtain⟨os,ow,q3⟩:=l i kvs d j a ed o;obtain⟨us,uv,su⟩:=qu rd ow;have E:=kI (js:=js) (N.mono ((O.trans f).trans D)) su;refine⟨us,uv,cδ os js δ,j,_,E,a3,q3,fun b S H4 s T t=>?_⟩;cases b with
  |false=>
   rw[LF Iq]at t ⊢
   exact⟨I.n-(i+1),(),rfl,a,(f.trans D).trans s,kvs,S,T,t⟩
  |true=>
   rw[LG rfl]at t ⊢
   refine⟨cδ os js δ,S,_,E.mono s,T,t,fun y M5 u H5 U r5 a5 q5=>⟨cδ os js δ,M5,_,(E.mono s).mono U,a5,q5,fun e M6 u6 V Y r6 Z c=>?_⟩⟩
   obtain⟨k,ey,e6,b0,w6⟩:=c
   subst ey
   obtain⟨b,rfl,sp⟩:=qz (r5.mono Y)
   obtain⟨xs,F,h2,h3,h4⟩:=Z.dsp e6
   have a0:xs.length=kvs.length:=by have:=congrArg List.length h2;simpa using this
   have sz:1000000<=Ir:=nbL rfl
   have g7:Grow X.K V (upd V p (.ext (bW X.prog X.w p (fF xs k b u6)))):=.ext (F X.prog X.w)
   exact⟨b,k,xs,rfl,F _ _,h3,sp,(),I.n-(i+1),(),rfl,a,((((f.trans D).trans s).trans U).trans Y).trans g7,putD kvs k e,_,Z.y8 _ _ F h2 h4 h3 sp r6,w6⟩
 ·obtain rfl:i=I.n:=()
  exact .inl ⟨A.stop g j f r (hC _ _ _ C o),x _ _ _ _ (O.trans f) (by rw[Rep]) r (done kvs j o)⟩
variable{xs:List Str}{tg:Expr}{pos:Pos}{js:List Nat}{scope:Kv}{kx vx iter:Expr}{ifs:List Expr}{tx te:TD}{tc:TTD}{g:TG}{tk:Tgt}{wd:TID}
theorem xq(i:Nat){y:Str}{j e:Pos}(l:X.N.Nodup)(I:X.A.units+66<Jq)(c:CScope X xs js scope)(m:X.calm=LC)(n:DI X tg iter wd)(o:TgOk xs.length g (qm X.K tk))(p:∀C s H fp,PG (cxC X xs js scope C s H fp) tg g)(r:∀C s H fp,DTs (cxC X xs js scope C s H fp) ifs tc)(t:∀C s H fp,DE (cxC X xs js scope C s H fp) kx tx)(u:∀C s H fp,DE (cxC X xs js scope C s H fp) vx te) (w:X.N[i]?=LA y:=by rfl) (z:X.env.scope.names.lookup y=LA .local:=by rfl) (h:Ks (.DictComp kx vx [⟨tg,iter,ifs,0⟩] scope pos) (LA (.Name y j)) e.line X.env=pure LC:=by rfl) (f:∀x,IW iter X.env x=pure x:=by intro _;rfl) : DSt X (.Assign [.Name y j] (.DictComp kx vx [⟨tg,iter,ifs,0⟩] scope pos) e) (dC (oh wd tk js tc tx te) (aX i)):=cO (xu (tk:=lift X.K tx) (te:=lift X.K te) (tc:=liftT X.K tc) c m l n o p r t u () w z h f) fun E σ H b=>by obtain⟨δ,M,f,a,B,ok,q⟩:=b;exact(sD ⟨δ,M,_,f,a,q,fun d J v H1 k D F G=>ok.nx _ _ _ _ k ((f.mono k).set D i) F G⟩)
theorem wz(i:Nat){x v:Str}{b e a:Pos}(f:X.N.Nodup)(h:X.A.units+66<Jq)(c:CScope X [x] js scope)(j:X.calm=LC)(k:DI X (.Name x b) iter wd)(l:∀C s H fp,DTs (cxC X [x] js scope C s H fp) ifs tc)(m:∀C s H fp,DE (cxC X [x] js scope C s H fp) kx tx)(n:∀C s H fp,DE (cxC X [x] js scope C s H fp) vx te) (o:X.N[i]?=LA v:=by rfl) (p:X.env.scope.names.lookup v=LA .local:=by rfl) (d:Ks (.DictComp kx vx [⟨.Name x b,iter,ifs,0⟩] scope pos) (LA (.Name v e)) a.line X.env=pure LC:=by rfl) (q:∀x,IW iter X.env x=pure x:=by intro _;rfl) : DSt X (.Assign [.Name v e] (.DictComp kx vx [⟨.Name x b,iter,ifs,0⟩] scope pos) a) (dC (oh wd .one js tc tx te) (aX i)):=xq i f h c j k rF (fun _ _ _ _=>iG c 0 rfl) l m n o p d q
end
section
variable{X:Cx}
def BH:R2D:=fun x y M Q=>match x,y with
 |.ref a,.int k=>∃d,M a=LA (.lst [d])/\0<=k/\k<=1000/\∀z,M z=LB->Q (.ref z) (ay M z (.lst (IQ k.toNat d)))
 |_,_=>False
theorem qY{K:H0}{H:Hp}{d:D}{v:V}(r:Rep K H d v):∀n,aE K H (IQ n d) (IQ n v)
 |0=>by rw[List.replicate_zero,List.replicate_zero];exact .nil
 |n+1=>by rw[JJ,JJ];exact .cons r (qY r n)
theorem qh{a:Type}(v:a):∀n,(IQ n [v]).flatten=IQ n v
 |0=>rfl
 |n+1=>by rw[JJ,KL,qh v n];rfl
theorem AH:OpD X (Kb .Mult) BH:=iK Dg fun v u H Q f=>by
 obtain⟨x,y,M,R,g,h,a,q,b⟩:=f;unfold BH at q;split at q
 ·obtain⟨d,hd,k,l,q⟩:=q;obtain rfl:v=.ref _:=g;obtain rfl:u=.int _:=h;obtain⟨xs,i,j⟩:=a _ _ hd;obtain⟨w,rfl,c⟩:=cH j;have sz:1000000<=Ir:=nbL rfl;refine⟨_,_,_,rfl,rfl,i,(),(),by simp;omega,fun z e=>?_⟩;rw[qh];exact b _ _ _ _ (.new e) (by rw[Rep]) (a.m8 e (qY c _)) (q z (a.fresh e))
 ·exact q.elim
end
section
theorem kW(a u:HY):checkTypeCall "enumerate" ⟨[a],[("start",u)]⟩=pure .unit:=by kernel_rfl
theorem m4(a u:HY):checkBuiltinCall "enumerate.__new__" ⟨[.type "enumerate",a],[("start",u)]⟩=pure .unit:=by kernel_rfl
theorem tE(a b u:HY):argsOk "object.__init__" ⟨[a,b],[("start",u)]⟩:=by unfold argsOk;rw[PySem.signature?_of (id:="object.__init__") (n:=['_','_','t','i','n','i','_','_']) (o:=['t','c','e','j','b','o']) (by kernel_rfl) F.owner_object];kernel_rfl
def k8(l it:Addr):Obj×Obj:=({ cls:=.type "list_iterator",data:=.fields #[.ref l,.int 0 0] },{ cls:=.type "enumerate",data:=.fields #[.none,.bool LD,.ref it,rawInt 1,.none,.none] })
variable{prog:IH}{w:J5}{A:Jd}{E:HY->HZ->Prop}{s:HZ}{l:Addr}{items:Array HY}{n:Nat}{t:Tok}{Q:HY->HZ->Prop}
theorem vQ(a:s.heap.get? l=LA { cls:=.type "list",dict:=LB,data:=.seq items n,slots:=#[] })
 (h:Q (.ref (s.heap.push (k8 l 0).1).objs.size) { s with heap:=(s.heap.push (k8 l 0).1).push (k8 l s.heap.objs.size).2 }) :
 Im (IC prog w) A (Lb.«enumerate.__new__» ⟨[.type "enumerate",.ref l],[("start",.int 1 t)]⟩) (fun fin b=>∃v,fin=.done (.ret v)/\Q v b) E s:=by
 obtain⟨e,g,d,f,os⟩:=s
 have e1:=sub_enumerate
 have e2:Heap.IsList (Shared.heap ⟨e,g,d,f,os⟩) l items:=⟨_,a,rfl,n,rfl⟩
 wp_walk using AutoSeq1.wpAny_loadPart' a
 refine wpAny_stack_any fun st=>I0 ?_
 split
 case h_1 c _ _ _ _ _=>cases (c==L6 "enumerate")<;>(wp_walk using AutoSeq1.wpAny_loadPart' a,wpAny_pyIter_list e2;exact⟨_,rfl,h⟩)
 all_goals (wp_walk using AutoSeq1.wpAny_loadPart' a,wpAny_pyIter_list e2;exact⟨_,rfl,h⟩)
theorem sU:Meets (Lb.«enumerate.__new__» ⟨[.type "enumerate",.ref l],[("start",.int 1 t)]⟩) (fun _ R s=>s.heap.get? l=LA { cls:=.type "list",dict:=LB,data:=.seq items n,slots:=#[] }/\R (.ok (.ret (.ref (s.heap.push (k8 l 0).1).objs.size))) { s with heap:=(s.heap.push (k8 l 0).1).push (k8 l s.heap.objs.size).2 }):=.of_wp fun prog w A R s z=>vQ (Q:=fun v a=>R (.ok (.ret v)) a) z.1 z.2
theorem pX{e:HY}{u:HY}:Meets (Lb.«object.__init__» ⟨[e,.ref l],[("start",u)]⟩) (fun _ R s=>s.TypeIs e "enumerate"/\R (.ok (.ret .none)) s):=
 .of_wp fun prog w A R s a=>by
  obtain⟨ty,r⟩:=a
  have e1:=F.called_enumerate.init.lookup
  have e2:=F.called_enumerate.made
  repeat (any_goals (first|assumption|wp_step))
  exact⟨_,rfl,r⟩
theorem rq(p:s.heap.get? l=LA { cls:=.type "list",dict:=LB,data:=.seq items n,slots:=#[] })
 (h:∀h',IsEnum h' (s.heap.objs.size+1) s.heap.objs.size 1 .none->h'.IsListIter s.heap.objs.size l 0->(∀b o,s.heap.get? b=LA o->h'.get? b=LA o)->Q (.ref (s.heap.objs.size+1)) { s with heap:=h' }) :
 Im (IC prog w) A (call (.type "enumerate") [.ref l] [("start",.int 1 t)]) Q E s:=by
 have C:=F.called_enumerate
 obtain⟨c,u,x⟩:=C.mro
 have y:=C.made
 have B:=C.sub
 have D:=C.notType
 have G:=C.canCreate
 have H:=kW (.ref l) (.int 1 t)
 refine wpAny_call (codeAny_of_tree (I0 ⟨Code.quiet_builtin _ (by decide +kernel),codeAny_builtin F.entry_type_call ?_⟩))
 rw[Around.under_plain rfl rfl]
 repeat (any_goals (first|assumption|wp_step))
 have j:(s.heap.push (k8 l 0).1).objs.size=s.heap.objs.size+1:=K1 ..
 have k:IsEnum ((s.heap.push (k8 l 0).1).push (k8 l s.heap.objs.size).2) (s.heap.objs.size+1) s.heap.objs.size 1 .none:=by
  have:=Ik (s.heap.push (k8 l 0).1) (o:=(k8 l s.heap.objs.size).2) rfl
  rw[j]at this;exact this
 have q:=h _ k ⟨_,Ib _ (Ik _ rfl),rfl,rfl⟩ fun b o z=>Ib _ (Ib _ z)
 refine codeAny_mono (codeAny_call_builtin C.plain F.entry_enumerate_new (wpAny_of_eq (m4 _ _) (sU prog w A.in1 (wants (fun v m=>v=.ref (s.heap.objs.size+1)/\m.TypeIs v "enumerate"/\Q v m) E) s ⟨p,by rw[j];exact⟨rfl,⟨_,k,rfl⟩,q⟩⟩))) fun r f i=>?_
 match r,i with
 |.error e,i=>exact i
 |.ok (.ret v),⟨ev,ty,qv⟩=>
  have I:=C.init.lookup
  have J:=C.init.bind v
  repeat (any_goals (first|assumption|wp_step))
  refine codeAny_mono (codeAny_call_builtin C.init.plain F.entry_object_init (C.init.check _ _ _ _ _ _ _ _ ty (tE _ _ _) (pX prog w A.in1 (wants (fun r d=>r=.none/\Q v d) E) f ⟨ty,rfl,qv⟩))) fun g d a=>?_
  match g,a with
  |.error e,a=>exact a
  |.ok (.ret r),⟨er,q2⟩=>
   subst er
   repeat (any_goals (first|assumption|wp_step))
end
theorem p8{prog:IH}{w:J5}{A:Jd}{it:Addr}{fp:List Addr}{n:Nat}{P:Nat->HY->Prop}{St:Nat->Heap->Prop}(D:Draws prog w A it fp n P St):Draws prog w A it fp (n+1) (fun j x=>∃i,j=i+1/\P i x) (fun j h=>∃i,j=i+1/\St i h) where
 live:=fun j h ⟨i,_,st⟩=>D.live i h st
 frame:=fun j h a ⟨i,e,st⟩ k=>⟨i,e,D.frame i h a st k⟩
 item:=fun j s Q E g ⟨i,e,st⟩ c=>D.item i s Q E () st fun x a d p b f=>c x a d ⟨i,e,p⟩ ⟨i+1,(),b⟩ f
 done:=fun s Q E ⟨i,e,st⟩ hE=>by
  obtain rfl:i=n:=()
  exact D.done s Q E st hE
theorem rY{prog:IH}{w:J5}{A:Jd}(b:A.handled=LB)(it l:Addr)(c:l≠it)(items:Array HY){i:Nat}(d:items[i]?=LB):Draws prog w A it [it,l] i (fun _ _=>False) (fun j h=>j=i/\h.IsListIter it l i/\h.IsList l items) where
 live:=fun _ _ st=>let⟨o,f,_⟩:=st.2.1;⟨o,f⟩
 frame:=fun _ _ _ st a=>⟨st.1,st.2.1.at fun o e=>a it (by simp) o e,st.2.2.at fun o e=>a l (by simp) o e⟩
 item:=fun j s Q E g st _=>absurd st.1 ()
 done:=fun s Q E st hE=>wpAny_nextOf_list_end b st.2.1 st.2.2 d hE
def FN(K:H0)(a:Addr):It:=
 ⟨fun i H=>∃xs x,SqL K H a xs/\xs[i]?=LA x,fun i H x b=>∃T y,x=.ref T/\H T=LB/\b=upd H T (.tup [.int ((i+1:Nat):Int),y])/\∀xs,SqL K H a xs->xs[i]?=LA y,fun i H=>∃xs,SqL K H a xs/\xs.length<=i⟩
theorem sM{P:IH}{w:J5}{K:H0}{F:List Expr}{kt}{pt:Pos}(a e it:Addr)(r:e≠it):Turn P w K (.Tuple F kt pt) (FN K a) [e,it] e (fun i h=>(∃g,IsEnum h e it ((i+1:Nat):Int) g)/\h.IsListIter it a i) where
 mem:=by simp
 obj:=fun i h st b G=>by
  rcases(show b=e\/b=it by simpa using G)with rfl|rfl
  ·obtain⟨⟨g,q⟩,_⟩:=st
   exact⟨_,q,fun v z=>by
    have z':Data.fields _=Data.cell v:=z
    cases z'⟩
  ·obtain⟨o,q,c,d⟩:=st.2
   exact⟨o,q,fun v z=>by rw[d]at z;cases z⟩
 keep:=fun i h h' st k=>by
  obtain⟨⟨g,q⟩,st⟩:=st
  exact⟨⟨g,k e (by simp) _ q⟩,st.at fun o z=>k it (by simp) o z⟩
 item:=by
  intro X O Q R S i pins s σ H E I M st T
  subst O Q R
  obtain⟨xs,x,N,U⟩:=T
  obtain⟨m,V,p,hz⟩:=I.list N
  obtain⟨u,hu,ru⟩:=V.get U
  obtain⟨⟨g,t⟩,j⟩:=st
  have le:e<s.heap.objs.size:=Iy t
  have li:it<s.heap.objs.size:=by obtain⟨o,q,_⟩:=j;exact Iy q
  have y:a≠it:=fun z=>by
   subst z
   obtain⟨o1,W,Y,_⟩:=j
   obtain⟨o2,y1,B,_⟩:=p.isList
   rw[W]at y1;cases y1
   rw[Y]at B;exact absurd (L6.inj B) ⋯
  have Z:e≠a:=fun z=>by
   subst z
   obtain⟨o2,y1,B,_⟩:=p.isList
   rw[show s.heap.get? e=_ from t]at y1;cases y1
   exact absurd (L6.inj B) ⋯
  have C:X.A.in1.handled=LB:=I.ok.hd S
  have b0:i<m.length:=(Iu.mp hu).1
  refine wpAny_pyNext_enum_itemD (i:=i+1) (p8 (Draws.list C it a y m.toArray)) t ⟨i,rfl,j,p.isList⟩ (by simp;omega) r (by simp[r,Z]) fun x0 h1 D l ho J hT c0 hk=>?_
  obtain⟨i0,d0,l⟩:=l
  obtain rfl:i=i0:=()
  obtain⟨i1,e0,L⟩:=J
  obtain rfl:i1=i+1:=()
  obtain rfl:u=x0:=by
   have l:m[i]?=LA x0:=by simpa using l
   rw[hu]at l;cases l;rfl
  refine⟨_,rfl,wpAny_letOwnedTupleGo_enum (s:={ s with heap:=h1,toks:=D+1 }) ho fun h2 a0 n=>?_⟩
  have n:K0 e h1 h2:=n
  have fr:=I.fresh
  have I1:Inv X pins σ (upd H s.heap.objs.size (.tup [.int ((i+1:Nat):Int),x])) { s with heap:=s.heap.push { cls:=.type "tuple",data:=.seq #[.int ((i+1:Nat):Int) D,u] },toks:=s.toks }:=
   I.laid (fun b v q=>Ib _ q) (Ic _) ⟨nbL rfl,[.int ((i+1:Nat):Int) D,u],.cons ⟨_,rfl⟩ (.cons ru .nil),⟨_,Ik _ rfl,rfl,_,rfl⟩,⟨_,Ik _ rfl,rfl⟩⟩
  have fk:∀{b:Addr},b<s.heap.objs.size->cB X pins H b->cB X pins (upd H s.heap.objs.size (.tup [.int ((i+1:Nat):Int),x])) b:=fun{b} lt f=>⟨by rw[aT (J6 lt)];exact f.1,f.2⟩
  have fe:=fk le (M e (by simp))
  have fi:=fk li (M it (by simp))
  have I2:Inv X pins σ (upd H s.heap.objs.size (.tup [.int ((i+1:Nat):Int),x])) { s with heap:=h2,toks:=D+1 }:=by
   refine iL (s:={ s with heap:=s.heap.push { cls:=.type "tuple",data:=.seq #[.int ((i+1:Nat):Int) D,u] },toks:=s.toks }) I1 (fun b o ne ni q=>?_) fe fi
   have q:(s.heap.push { cls:=.type "tuple",data:=.seq #[.int ((i+1:Nat):Int) D,u] }).get? b=LA o:=q
   refine(n.2 b ne).trans ?_
   rcases Heap.get?_push_cases q with⟨rfl,rfl⟩|q
   ·exact hT
   ·exact hk b o ne ni q
  refine⟨.ref s.heap.objs.size,_,I2,rfl,⟨_,x,rfl,fr,rfl,fun ys hy=>by rw[I.gc hy N];exact U⟩,⟨⟨u,?_⟩,L.1.at fun o z=>(n.2 it r.symm).trans z⟩,fun b G=>?_⟩
  ·exact a0
  ·rcases(show b=e\/b=it by simpa using G)with rfl|rfl
   ·exact fe.1
   ·exact fi.1
 done:=by
  intro X O Q R S i pins s σ H E I M st T
  subst O Q R
  obtain⟨xs,N,U⟩:=T
  obtain⟨m,V,p,hz⟩:=I.list N
  obtain⟨⟨g,t⟩,j⟩:=st
  obtain⟨f0,f1,f2,f3,f4,f5⟩:=M it (by simp)
  have hl:=V.length
  have y:a≠it:=fun z=>by
   subst z
   obtain⟨o1,W,Y,_⟩:=j
   obtain⟨o2,y1,B,_⟩:=p.isList
   rw[W]at y1;cases y1
   rw[Y]at B;exact absurd (L6.inj B) ⋯
  have C:X.A.in1.handled=LB:=I.ok.hd S
  exact wpAny_pyNext_enum_endD (rY C it a y m.toArray (i:=i) (by simp;omega)) t ⟨rfl,j,p.isList⟩ fun h' eb=>⟨rfl,I.turned (t':=s.toks) (fun b o G q=>eb b o G q) f0 f1 f3 f4 f5⟩
 self:=fun _ _ _ _ _ st h=>let⟨⟨_,t⟩,_⟩:=st;KO t h
section
variable{X:Cx}{elts:List Expr}{kt:Nat}{pt:Pos}
theorem ly{pos kp:Pos}{T:String}{e k:Expr}{name:Str}{env:Env}{M:Model}{A:Jd}{E:HY->HZ->Prop}{s:HZ}{Q:HY->HZ->Prop}
 (h:Im M A (spliced (JL pos (Iz [e] env))) (fun vs b=>Im M A (eval k env) (fun u c=>Im M A (call (.type T) vs [(name,u)]) Q E c) E b) E s)
 (i:JL pos (Iz [e] env)=(LD,eval e env)::JL pos (Iz [] env):=by rfl) (g:(JL pos (Iz [e] env)).any (·.1)=LD:=by rfl) :
 Im M A (callWith pos (.type T) [] (JL pos (Iz [e] env)) (backToKw pos (KJ [⟨LA name,k,kp⟩] env))) Q E s:=by
 have j:Im M A (evalArgs (.type T) LC (JL pos (Iz [e] env)) (backToKw pos (KJ [⟨LA name,k,kp⟩] env))) (fun a b=>Im M A (call (.type T) a.pos a.kw) Q E b) E s:=by
  rw[i]at h ⊢
  refine evalArgs_kwB rfl (Iw h (fun vs b d=>?_) fun _ _ z=>z)
  exact kws_cons (Iw d (fun u c f=>kws_nil f) fun _ _ z=>z)
 unfold callWith
 refine cc (JD (Iw j (fun a b d=>cc (JM ?_)) fun _ _ z=>z))
 have l:(backToKw pos (KJ [⟨LA name,k,kp⟩] env)).any (·.1.isNone)=LD:=rfl
 simp only[g,l,Bool.or_false]
 exact cc (I0 (cc (Iw d (fun r c m=>cc (JD (wpAny_point (I0 m)))) fun _ _ z=>z)))
def EE(K:H0)(b:TA):TI:=fun σ H R=>b σ H fun vs H1=>∃a xs,vs=[.ref a]/\H1 a=LA (.lst xs)/\R (FN K a) H1
theorem xO{a k:Expr}{j:TA}{p pos kp:Pos}(y:Gl X "enumerate")(B:X.mg "enumerate"=LB)(C:PA X [a] j)(g:∀pins s σ H (Q:VK),Inv X pins σ H s->Q (.int 1) H->Im (IC X.prog X.w) X.A (eval k X.env) (EP X pins σ Q) X.xe s)
 (m:Iz [a] X.env=[(LD,eval a X.env)]:=by rfl):PI X (.Tuple elts kt pt) (.Call (.Name "enumerate" p) [a] [⟨LA "start",k,kp⟩] pos) (EE X.K j):=by
 intro pins s σ H R I h
 refine wpAny_Call_Name_kw (iI I y B fE (ly (thn (C pos pins s σ H _ I h) fun us D ⟨vs,H1,E,F,G⟩=>?_) (by rw[m];rfl) (by rw[m];rfl)))
 obtain⟨l,xs,J,L,q⟩:=G
 subst J
 obtain⟨u,rfl,M⟩:=F.one
 cases M
 refine thn (g pins D σ H1 (fun v N=>v=.int 1/\N=H1) E ⟨rfl,rfl⟩) fun u c ⟨v,o,f,O,e1,e2⟩=>?_
 subst e1 e2
 obtain⟨t,rfl⟩:=O
 obtain⟨z,P,n,r,T,e⟩:=f.oE L
 refine rq e fun U x i g=>KO x ?_
 have fp:∀b∈[c.heap.objs.size+1,c.heap.objs.size],cB X pins o b:=fun b S=>by
  have d:c.heap.objs.size<=b:=by
   rcases(show b=c.heap.objs.size+1\/b=c.heap.objs.size by simpa using S)with rfl|rfl
   ·exact Nat.le_succ _
   ·exact Ic _
  exact f.om d (f.hok.fresh d)
 exact⟨_,[c.heap.objs.size+1,c.heap.objs.size],_,_,o,rfl,f.kept (t':=c.toks) g,sM l _ _ (Nat.succ_ne_self _),⟨⟨_,x⟩,i⟩,fp,q⟩
def EB(c:TAD):TID:=fun δ M R=>c δ M fun e b=>∃l a,e=[.ref l]/\b l=LA (.lst a)/\R ⟨a.length,fun i=>(a[i]?).map fun d=>.tup [.int ((i+1:Nat):Int),d],fun M=>M l=LA (.lst a)⟩ b
theorem zq{a:Expr}{w:TAD}{p pos kp C:Pos}{D}(E:Gl X "enumerate")(F:X.mg "enumerate"=LB)(G:DA X [a] w)(m:Iz [a] X.env=[(LD,eval a X.env)]:=by rfl):DI X (.Tuple elts kt pt) (.Call (.Name "enumerate" p) [a] [⟨LA "start",.Constant (.int 1) D C,kp⟩] pos) (EB w):=
 lX (xO E F G (fun pins s σ H Q I q=>xH pins s σ H Q I q) m) fun σ H R J=>by
  obtain⟨δ,M,V,m,K,q,n⟩:=J
  exact⟨δ,M,_,m,K,q,fun W L vs H1 N O z ⟨l,b,e,P,S⟩=>by
   subst e
   obtain⟨v,rfl,r⟩:=cH O
   rw[Rep]at r;subst r
   obtain⟨xs,U,Y⟩:=z _ _ P
   refine⟨l,xs,rfl,U,n _ L H1 _ N z S ⟨fun A g B d h=>?_,fun i A g f B d h=>?_,?_⟩⟩
   ·obtain⟨c,j,k⟩:=d _ _ (show g l=LA (.lst b)from h)
    exact⟨c,SqL.of j,by rw[<-k.length];exact Ic _⟩
   ·obtain⟨c,j,k⟩:=d _ _ (show g l=LA (.lst b)from h)
    have o:i<c.length:=by rw[<-k.length];exact f
    exact⟨c,c[i],SqL.of j,by simp[o]⟩
   ·rintro i A g v Z f B d h ⟨T,y,rfl,t,rfl,j⟩
    have f:i<b.length:=f
    obtain⟨c,u,k⟩:=d _ _ (show g l=LA (.lst b)from h)
    obtain⟨x,e1,e2⟩:=k.get (show b[i]?=LA b[i] by simp[f])
    have:=j c (SqL.of u)
    rw[e1]at this;cases this
    exact⟨.new t,d.new t,.tup [.int ((i+1:Nat):Int),b[i]],by simp[f],by rw[Rep];exact⟨T,_,rfl,SqT.of aZ,.cons (by rw[Rep]) (.cons (e2.mono (.new t)) .nil)⟩⟩⟩
end
section
variable{X:Cx}{pins:List (Addr×Obj)}{σ:L2.St}{H:Hp}{s:HZ}
theorem j7{h':Heap}{t':Nat}{ch:List Addr}(I:Inv X pins σ H s)(k:∀b o,b∉ch->s.heap.get? b=LA o->h'.get? b=LA o)(f:∀b∈ch,cB X pins H b):Inv X pins σ H { s with heap:=h',toks:=t' }:=by
 have ne:∀b u,H b=LA u->b∉ch:=fun b u q d=>by rw[(f b d).1]at q;cases q
 refine I.step (g':=s.gens) (d':=s.drawn) (ch:=ch) (fun b d=>?_) (fun b o _ _ a q _=>k b o a q) (fun b o _ _ a q _=>⟨o.slots,k b o a q⟩) (fun _ _ _ _ n=>n) (fun b o a q=>⟨o,k b o a q⟩) (fun _ _ q=>q) (fun _ _ _ q=>q) (fun b ps q=>⟨#[],by rw[q];simp⟩) (fun m e=>?_) (fun b u q=>?_) I.bare
 ·obtain⟨l,e1,_,e3,e4,g⟩:=f b d;exact⟨e3,e1,e4,g⟩
 ·obtain⟨o,h,i,j,r⟩:=e;exact⟨o,h,i,k _ o (fun d=>(f _ d).2.1 rfl) j,r⟩
 ·refine(I.hok b u q).iD (fun c v a z=>?_) (fun _ z=>z) fun _ _ z=>z;rcases a with y|y
  ·subst y;exact k _ v (ne _ u q) z
  ·exact k c v (ne c _ y) z
end
def Itz(K:H0)(a b:Addr):It:=
 ⟨fun i H=>∃xs c x y,SqL K H a xs/\SqL K H b c/\xs[i]?=LA x/\c[i]?=LA y,fun i H x d=>∃T y z,x=.ref T/\H T=LB/\d=upd H T (.tup [y,z])/\(∀xs,SqL K H a xs->xs[i]?=LA y)/\∀c,SqL K H b c->c[i]?=LA z,fun i H=>∃xs c,SqL K H a xs/\SqL K H b c/\(xs.length<=i\/c.length<=i)⟩
theorem zJ{P:IH}{w:J5}{K:H0}{N:List Expr}{kt}{pt:Pos}(a b z TI TO j l:Addr)(D:ZipApart z TI TO j l a b):Turn P w K (.Tuple N kt pt) (Itz K a b) [z,TI,TO,j,l] z (fun i h=>IsZip h z TI TO .none/\IsPair h TI (.ref j) (.ref l)/\(∃p q,IsPair h TO p q)/\h.IsListIter j a i/\h.IsListIter l b i) where
 mem:=by simp
 obj:=fun i h st c f=>by
  obtain⟨u,m,⟨p,q,A⟩,B,C⟩:=st
  rcases(show c=z\/c=TI\/c=TO\/c=j\/c=l by simpa using f)with rfl|rfl|rfl|rfl|rfl
  ·exact⟨_,u,fun v y=>by cases (show Data.fields _=Data.cell v from y)⟩
  ·exact⟨_,m,fun v y=>by cases (show Data.seq _ _=Data.cell v from y)⟩
  ·exact⟨_,A,fun v y=>by cases (show Data.seq _ _=Data.cell v from y)⟩
  ·obtain⟨o,F,_,d⟩:=B
   exact⟨o,F,fun v y=>by rw[d]at y;cases y⟩
  ·obtain⟨o,F,_,d⟩:=C
   exact⟨o,F,fun v y=>by rw[d]at y;cases y⟩
 keep:=fun i h O st k=>by
  obtain⟨u,m,⟨p,q,A⟩,B,C⟩:=st
  exact⟨k z (by simp) _ u,k TI (by simp) _ m,⟨p,q,k TO (by simp) _ A⟩,B.at fun o y=>k j (by simp) o y,C.at fun o y=>k l (by simp) o y⟩
 item:=by
  intro X Y Z hK f i pins s σ H E I U st hg
  subst Y Z hK
  obtain⟨xs,ys,x,y,r,t,hx,hy⟩:=hg
  obtain⟨u,m,⟨p,q,A⟩,B,C⟩:=st
  obtain⟨Q,G,p1,a0⟩:=I.list r
  obtain⟨R,J,p2,b0⟩:=I.list t
  obtain⟨S,c0,d0⟩:=G.get hx
  obtain⟨T,e0,f0⟩:=J.get hy
  refine wpAny_pyNext_zip_item D u m A B C p1.isList p2.isList (x:=S) (y:=T) (by simpa using c0) (by simpa using e0) fun O a1 a2 a3 a4 a5 a6 a7=>⟨_,rfl,wpAny_letOwnedTupleGo_zip (s:={ s with heap:=O }) a1 fun L b1 V=>?_⟩
  have V:K0 z O L:=V
  have fr:=I.fresh
  have lt:∀c∈[z,TI,TO,j,l],c<s.heap.objs.size:=fun c f=>by
   rcases(show c=z\/c=TI\/c=TO\/c=j\/c=l by simpa using f)with rfl|rfl|rfl|rfl|rfl
   ·exact Iy u
   ·exact Iy m
   ·exact Iy A
   ·obtain⟨o,F,_⟩:=B;exact Iy F
   ·obtain⟨o,F,_⟩:=C;exact Iy F
  have I1:Inv X pins σ (upd H s.heap.objs.size (.tup [x,y])) { s with heap:=s.heap.push { cls:=.type "tuple",data:=.seq #[S,T] },toks:=s.toks }:=
   I.laid (fun b v q=>Ib _ q) (Ic _) ⟨nbL rfl,[S,T],.cons d0 (.cons f0 .nil),⟨_,Ik _ rfl,rfl,_,rfl⟩,⟨_,Ik _ rfl,rfl⟩⟩
  have fk:∀c∈[z,TI,TO,j,l],cB X pins (upd H s.heap.objs.size (.tup [x,y])) c:=fun c f=>⟨by rw[aT (J6 (lt c f))];exact(U c f).1,(U c f).2⟩
  have I2:Inv X pins σ (upd H s.heap.objs.size (.tup [x,y])) { s with heap:=L,toks:=s.toks }:=by
   refine j7 (ch:=[z,TO,j,l]) (s:={ s with heap:=s.heap.push { cls:=.type "tuple",data:=.seq #[S,T] },toks:=s.toks }) I1 (fun c o g q=>?_) fun c f=>fk c (by simp at f ⊢;rcases f with rfl|rfl|rfl|rfl<;>simp)
   have q:(s.heap.push { cls:=.type "tuple",data:=.seq #[S,T] }).get? c=LA o:=q
   simp at g
   refine(V.2 c g.1).trans ?_
   rcases Heap.get?_push_cases q with⟨rfl,rfl⟩|q
   ·exact a5
   ·exact a7 c o g.1 g.2.1 g.2.2.1 g.2.2.2 q
  have W:∀c o,c≠z->O.get? c=LA o->L.get? c=LA o:=fun c o n e=>(V.2 c n).trans e
  refine⟨.ref s.heap.objs.size,_,I2,rfl,⟨_,x,y,rfl,fr,rfl,fun zs M=>by rw[I.gc M r];exact hx,fun zs M=>by rw[I.gc M t];exact hy⟩,⟨b1,W _ _ D.TIz (a7 _ _ D.TIz D.TITO D.TIi1 D.TIi2 m),⟨_,_,W _ _ D.TOz a2⟩,a3.at fun o e=>W _ o D.i1z e,a4.at fun o e=>W _ o D.i2z e⟩,fun c f=>(fk c f).1⟩
 done:=by
  intro X Y Z hK f i pins s σ H E I U st hg
  subst Y Z hK
  obtain⟨xs,ys,r,t,he⟩:=hg
  obtain⟨u,m,⟨p,q,A⟩,B,C⟩:=st
  obtain⟨Q,G,p1,a0⟩:=I.list r
  obtain⟨R,J,p2,b0⟩:=I.list t
  have l1:=G.length
  have l2:=J.length
  refine wpAny_pyNext_zip_end (I.ok.hd f) D u m A B C p1.isList p2.isList (he.imp (fun e=>by simp;omega) fun e=>by simp;omega) fun O k=>⟨rfl,?_⟩
  exact j7 (t':=s.toks) (ch:=[z,TO,j,l]) I (fun c o g q=>by simp at g;exact k c o g.1 g.2.1 g.2.2.1 g.2.2.2 q) fun c f=>U c (by simp at f ⊢;rcases f with rfl|rfl|rfl|rfl<;>simp)
 self:=fun _ _ _ _ _ st h=>wpAny_pyIter_zip st.1 h
theorem Ed{n l1 l2:Nat}(a:l1<n)(b:l2<n):ZipApart (n+4) (n+2) (n+3) n (n+1) l1 l2:=by constructor<;>exact fun e=>absurd (id e:@Eq Nat _ _) ()
theorem Ck:Ju "zip"=LA (.type "zip"):=by decide +kernel
section
variable{X:Cx}{elts:List Expr}{kt:Nat}{pt:Pos}
def Fm(K:H0)(c:TA):TI:=fun σ H R=>c σ H fun vs H1=>∃a b xs d,vs=[.ref a,.ref b]/\H1 a=LA (.lst xs)/\H1 b=LA (.lst d)/\R (Itz K a b) H1
theorem CZ{a b:Expr}{x:TA}{p pos:Pos}(A:Gl X "zip")(B:X.mg "zip"=LB)(C:PA X [a,b] x)(E:Iz [a,b] X.env=(LD,eval a X.env)::Iz [b] X.env:=by rfl)(j:(JL pos (Iz [b] X.env)).any (·.1)=LD:=by rfl):PI X (.Tuple elts kt pt) (.Call (.Name "zip" p) [a,b] [] pos) (Fm X.K x):=by
 intro pins s σ H R I h;refine Call_ (iI I A B Ck (JY (thn (C pos pins s σ H _ I h) fun us c d=>?_) E j));obtain⟨vs,H1,e,F,G⟩:=d;obtain⟨l1,l2,xs,V,J,k,l,q⟩:=G;subst J;obtain⟨W,Y,rfl,m,n⟩:=vals2 F;cases m;cases n;obtain⟨Z,f,L,M,N,e1⟩:=e.oE k;obtain⟨z2,g,O,P,Q,e2⟩:=e.oE l;have S:c.heap.IsList l1 f.toArray:=⟨_,e1,rfl,L,rfl⟩;have L2:c.heap.IsList l2 g.toArray:=⟨_,e2,rfl,O,rfl⟩;have o:=Iy e1;have r:=Iy e2;refine call_zip_2 S L2 fun h' y t u v w T U=>wpAny_pyIter_zip y ?_
 have fp:∀b∈[c.heap.objs.size+4,c.heap.objs.size+2,c.heap.objs.size+3,c.heap.objs.size,c.heap.objs.size+1],cB X pins H1 b:=fun b z=>by
  have i:c.heap.objs.size<=b:=by simp at z;rcases z with rfl|rfl|rfl|rfl|rfl<;>first|exact Nat.le_add_right _ _|exact Ic _
  exact e.om i (e.hok.fresh i)
 have D:ZipApart (c.heap.objs.size+4) (c.heap.objs.size+2) (c.heap.objs.size+3) c.heap.objs.size (c.heap.objs.size+1) l1 l2:=by exact Ed o r
 exact⟨_,_,_,_,H1,rfl,e.kept (t':=c.toks) U,zJ l1 l2 _ _ _ _ _ D,⟨y,t,⟨_,_,u⟩,v,w⟩,fp,q⟩
def Ge(g:TAD):TID:=fun δ M R=>g δ M fun h f=>∃a b c fs,h=[.ref a,.ref b]/\f a=LA (.lst c)/\f b=LA (.lst fs)/\R ⟨min c.length fs.length,fun i=>(c[i]?).bind fun d=>(fs[i]?).map fun e=>.tup [d,e],fun M=>M a=LA (.lst c)/\M b=LA (.lst fs)⟩ f
theorem yf{K:H0}{D:TAD}:∀(σ:L2.St) (H:Hp) R,mL K (Ge D) σ H R->Fm K (wV K D) σ H R:=
 fun σ H R N=>by
  obtain⟨δ,M,RD,O,P,q,s⟩:=N
  exact⟨δ,M,_,O,P,q,fun ds Q vs H1 S U t ⟨l1,l2,c,fs,e,u,w,V⟩=>by
   subst e
   obtain⟨v1,v2,rfl,r,E⟩:=gi U
   rw[Rep]at r E;subst r E
   obtain⟨xs,W,rs⟩:=t _ _ u
   obtain⟨Y,A,rt⟩:=t _ _ w
   refine⟨l1,l2,xs,Y,rfl,W,A,s _ Q H1 _ S t V ⟨fun F k G j l=>?_,fun i F k m G j l=>?_,?_⟩⟩
   ·obtain⟨n,o⟩:=(show k l1=LA (.lst c)/\k l2=LA (.lst fs)from l)
    obtain⟨a,d,f⟩:=j _ _ n
    obtain⟨b,g,h⟩:=j _ _ o
    refine⟨a,b,SqL.of d,SqL.of g,?_⟩
    show a.length<=min c.length fs.length\/b.length<=min c.length fs.length
    rw[<-f.length,<-h.length];omega
   ·obtain⟨n,o⟩:=(show k l1=LA (.lst c)/\k l2=LA (.lst fs)from l)
    obtain⟨a,d,f⟩:=j _ _ n
    obtain⟨b,g,h⟩:=j _ _ o
    have m:i<min c.length fs.length:=m
    have Z:i<a.length:=by rw[<-f.length];omega
    have h2:i<b.length:=by rw[<-h.length];omega
    exact⟨a,b,a[i],b[i],SqL.of d,SqL.of g,by simp[Z],by simp[h2]⟩
   ·rintro i F k v H3 m G j l ⟨T,y,z,rfl,p,rfl,A,hz⟩
    obtain⟨n,o⟩:=(show k l1=LA (.lst c)/\k l2=LA (.lst fs)from l)
    have m:i<min c.length fs.length:=m
    have I:i<c.length:=()
    have J:i<fs.length:=()
    obtain⟨a,d,f⟩:=j _ _ n
    obtain⟨b,g,h⟩:=j _ _ o
    obtain⟨x,e1,e2⟩:=f.get (show c[i]?=LA c[i] by simp[I])
    obtain⟨x',B,C⟩:=h.get (show fs[i]?=LA fs[i] by simp[J])
    have t1:=A a (SqL.of d)
    have L:=hz b (SqL.of g)
    rw[e1]at t1;cases t1
    rw[B]at L;cases L
    exact⟨.new p,j.new p,.tup [c[i],fs[i]],by simp[I,J],by rw[Rep];exact⟨T,_,rfl,SqT.of aZ,.cons (e2.mono (.new p)) (.cons (C.mono (.new p)) .nil)⟩⟩⟩
theorem Cu{a b:Expr}{d:TAD}{p pos:Pos}(e:Gl X "zip")(f:X.mg "zip"=LB)(g:DA X [a,b] d)(h:Iz [a,b] X.env=(LD,eval a X.env)::Iz [b] X.env:=by rfl)(c:(JL pos (Iz [b] X.env)).any (·.1)=LD:=by rfl):DI X (.Tuple elts kt pt) (.Call (.Name "zip" p) [a,b] [] pos) (Ge d):=lX (CZ e f g h c) yf
end
theorem oT{ws:List Wl}:∀{i:Nat} {a:List (List Nat)},Rgs ws i a->a.length<=i
 |0,a,h=>by rw[show a=[]from h];simp
 |i+1,a,⟨qs,h1,h2⟩=>by
  have:=oT h1
  rcases h2 with⟨_,rfl⟩|⟨_,r,_,rfl⟩
  ·omega
  ·simp;omega
structure RgA(ws:List Wl)(r:List Nat):Prop where
 rng:Rng ws r
 len:r.length<=2*ws.length
 lt:∀g∈r,g<2*ws.length
 pos:0<r.length
theorem ko{ws:List Wl}(b:∀w∈ws,Un5 w)(hF:PF ws):∀{i:Nat} {a:List (List Nat)},i<=2*ws.length->Rgs ws i a->∀r∈a,RgA ws r
 |0,a,_,h,r,hr=>by rw[show a=[]from h]at hr;cases hr
 |i+1,a,hi,⟨qs,h1,h2⟩,r,hr=>by
  rcases h2 with⟨_,rfl⟩|⟨_,k,⟨c,n,e,rfl⟩,rfl⟩
  ·exact ko b hF () h1 r hr
  ·rcases IL.mp hr with z|z
   ·exact ko b hF () h1 r z
   ·have:r=rn ws i c:=by simpa using z
    subst this
    have f:=ud b hF (():i<2*ws.length) n
    refine⟨⟨i,c,(),f,rfl,e⟩,by rw[jx];omega,fun g d=>?_,by rw[jx];omega⟩
    unfold rn at d
    obtain⟨j,_,rfl⟩:=J1.mp d
    exact dz b hF () j
def aP(ws:List Wl)(r:List Nat):Bool:=decide (0<(r.map (twT ws)).sum)
theorem xG{ws:List Wl}(i:∀w∈ws,Un5 w)(hF:PF ws){r:List Nat}(R:Rng ws r){t b X Y a B:Int}(j:0<t)(f:0<b)(k:0<B)(e:(a:Rat)=(r.map (arT t b X Y ws)).sum*(B:Rat)):decide (0<a)=aP ws r:=by
 have l:∀{z:Int},0<z->(0:Rat)<(z:Rat):=fun{z} h=>by exact_mod_cast h
 have c:(0:Rat)<(t:Rat)/b:=by rw[L4];exact Kr (LZ j) (Rat.inv_pos.mpr (LZ f))
 have m:(0:Rat)<((t:Rat)/b)*((t:Rat)/b)*(B:Rat):=Kr (Kr c c) (l k);rw[Gk i hF R f]at e;have e1:(a:Rat)=((t:Rat)/b)*((t:Rat)/b)*(B:Rat)*(((r.map (twT ws)).sum:Int):Rat):=by rw[e];grind
 have d:=sgn_mul m (r.map (twT ws)).sum;rw[<-e1]at d;have g:=sgn_mul (show(0:Rat)<1 by decide) a;rw[Rat.one_mul]at g;rw[g]at d;unfold aP;rw[LK,<-Int.sign_eq_one_iff_pos,d,Int.sign_eq_one_iff_pos]
theorem RL.get{M:MH}{ps:List Addr}{b:List (List Nat)}(h:RL M ps b){i:Nat}(c:i<ps.length):∃r,b[i]?=LA r/\M ps[i]=LA (.lst (r.map fun g:Nat=>D.int (g:Int))):=by
 unfold RL at h
 induction h generalizing i with
 |nil=>simp at c
 |@cons p r ps b a _ ih=>
  cases i with
  |zero=>exact⟨r,rfl,a⟩
  |succ i=>simpa using ih (by simpa using c)
theorem j9{a:Type}(f:a->Bool)(l:List a){i:Nat}{r:a}(e:l[i]?=LA r):(l.take (i+1)).filter f=(l.take i).filter f++(if f r=LC then[r]else[]):=by
 rw[Kf,e,List.filter_append]
 congr 1
 simp[List.filter_cons]
def mn(a c:Vc):Vc:=if la a.1 a.2<la c.1 c.2 then a else c
theorem Gs{t b X Y:Int}(a:0<t)(c:0<b){u v:Vc}(d:B20 u)(e:B20 v):(if LY (LW t b X 1 u.1) (LW t b Y 1 u.2) (LW t b X 1 v.1) (LW t b Y 1 v.2)then(LW t b X 1 u.1,LW t b Y 1 u.2)else(LW t b X 1 v.1,LW t b Y 1 v.2))=(LW t b X 1 (mn u v).1,LW t b Y 1 (mn u v).2):=by
 have h:=xI (X:=X) (Y:=Y) a c d e;unfold plt at h;unfold mn;by_cases z:la u.1 u.2<la v.1 v.2
 ·rw[LG (h.mpr z),LG z]
 ·rw[LF (fun q=>z (h.mp q)),LF z]
theorem Cz{u v:Vc}(a:B20 u)(b:B20 v):B20 (mn u v):=by
 unfold mn;split
 ·exact a
 ·exact b
theorem pg{ws:List Wl}(e:∀w∈ws,Un5 w){g:Nat}(i:g<2*ws.length):B20 (fa ws g):=by
 obtain⟨_,_,f⟩:=aW (ws:=ws) (k:=((g/2:Nat):Int)) () ();have W:=e _ f;unfold fa fw;by_cases h:g%2=0
 ·rw[LG h];exact⟨W.a,W.b⟩
 ·rw[LF h];exact⟨W.c,W.d⟩
def fcI(ws:List Wl)(r:List Nat)(i:Nat):Vc:=(r.take i).foldl (fun a g=>mn a (fa ws g)) (fa ws (r.headD 0))
def fc(ws:List Wl)(r:List Nat):Vc:=fcI ws r r.length
theorem qS{ws:List Wl}{r:List Nat}{i g:Nat}(e:r[i]?=LA g):fcI ws r (i+1)=mn (fcI ws r i) (fa ws g):=by unfold fcI;rw[Kf,e,List.foldl_append];rfl
theorem ot{ws:List Wl}(a:∀w∈ws,Un5 w){r:List Nat}(b:∀g∈r,g<2*ws.length)(c:0<r.length):∀i,i<=r.length->B20 (fcI ws r i)
 |0,_=>by
  unfold fcI
  cases r with
  |nil=>simp at c
  |cons g r=>exact pg a (b g (by simp))
 |i+1,h=>by
  rw[qS (Ia (():i<r.length))]
  exact Cz (ot a b c i ()) (pg a (b _ (Jn _)))
def vC(ws:List Wl)(fs:List Int):Int:=(fs.filter fun k=>fs.all fun j=>!abv (wAt ws j) (wAt ws k)).headD 0
theorem BE{ws:List Wl}(g:∀w∈ws,Un5 w)(hF:PF ws){p q b:Int}(d:b∈bK ws 1 p q)(h:∀w∈(bK ws 1 p q).map (wAt ws),w=wAt ws b\/(abv (wAt ws b) w=LC/\abv w (wAt ws b)=LD)):vC ws (bK ws 1 p q)=b:=by
 obtain⟨t,f,i,j⟩:=zd g hF (show(0:Int)<1 by decide) (fun k l=>jy l) (JW d) (qZ ws 1 p q);unfold vC;rw[j];show t=b
 have e:wAt ws t=wAt ws b:=by
  rcases h _ (J1.mpr ⟨t,f,rfl⟩)with z|z
  ·exact z
  ·rcases i _ (J1.mpr ⟨b,d,rfl⟩)with y|y
   ·exact y.symm
   ·rw[y.1]at z;exact absurd z.2 ⋯
 have a:=ju (jy f);have c:=ju (jy d);by_cases ne:t.toNat=b.toNat
 ·omega
 ·exact absurd ⟨by rw[e],by rw[e]⟩ (hF t.toNat b.toNat _ _ ne (aW a.1 a.2.1).1 (aW c.1 c.2.1).1).ne
def laF(ws:List Wl)(L:List Int)(u:Vc):Int:=if bK ws 1 u.1 u.2=[]then 0 else(L[2*(vC ws (bK ws 1 u.1 u.2)).toNat]?).getD 0
def ie(L:List Int)(r:List Nat)(v:Int)(i:Nat):List Int:=(r.take i).foldl (fun L g=>L.set g v) L
def fill(L:List Int)(r:List Nat)(v:Int):List Int:=ie L r v r.length
theorem l7{L:List Int}{r:List Nat}{v:Int}{i g:Nat}(e:r[i]?=LA g):ie L r v (i+1)=(ie L r v i).set g v:=by unfold ie;rw[Kf,e,List.foldl_append];rfl
theorem iZ(v:Int):∀(r:List Nat) (L:List Int),(r.foldl (fun L g=>L.set g v) L).length=L.length
 |[],L=>rfl
 |g::r,L=>by rw[KG,iZ v r,List.length_set]
theorem gR(L:List Int)(r:List Nat)(v:Int)(i:Nat):(ie L r v i).length=L.length:=iZ v _ L
theorem uB{n j:Nat}(h:j<n):L2.ixN n (j:Int)=LA j:=by unfold L2.ixN;rw[LG (),LG ()];rfl
def fO(m:Nat)(outs:List (List Nat)):Nat->List Int
 |0=>IQ m 0
 |i+1=>fill (fO m outs i) ((outs[i]?).getD []) ((i+1:Nat):Int)
theorem iA(m:Nat)(outs:List (List Nat)):∀i,(fO m outs i).length=m
 |0=>by simp[fO]
 |i+1=>by rw[fO,fill,gR,iA m outs i]
def bY(ws:List Wl)(ins:List (List Nat)):Nat->List Vc
 |0=>[]
 |i+1=>let c:=fc ws ((ins[i]?).getD []);if c∈bY ws ins i then bY ws ins i else bY ws ins i++[c]
def l4(ws:List Wl)(ins:List (List Nat))(c:Vc):Nat->Option Nat
 |0=>LB
 |i+1=>if fc ws ((ins[i]?).getD [])=c then LA i else l4 ws ins c i
theorem j8(ws:List Wl)(ins:List (List Nat)):∀i,(bY ws ins i).Nodup
 |0=>List.nodup_nil
 |i+1=>by
  have c:=j8 ws ins i
  unfold bY
  dsimp only
  split
  ·exact c
  ·rename_i h
   rw[List.nodup_append]
   refine⟨c,by simp,fun a d b e=>?_⟩
   have:b=fc ws ((ins[i]?).getD []):=by simpa using e
   subst this
   exact fun z=>h (z▸d)
theorem jH(ws:List Wl)(ins:List (List Nat)):∀i,(bY ws ins i).length<=i
 |0=>Ic _
 |i+1=>by
  have a:=jH ws ins i
  unfold bY
  dsimp only
  split
  ·omega
  ·simp;omega
theorem gZ{ws:List Wl}{ins:List (List Nat)}{c:Vc}:∀{i},c∈bY ws ins i->∃j,l4 ws ins c i=LA j/\j<i/\fc ws ((ins[j]?).getD [])=c
 |0,h=>by cases h
 |i+1,h=>by
  unfold l4
  by_cases e:fc ws ((ins[i]?).getD [])=c
  ·exact⟨i,by rw[LG e],(),e⟩
  ·rw[LF e]
   have f:c∈bY ws ins i:=by
    unfold bY at h
    dsimp only at h
    split at h
    ·exact h
    ·rcases IL.mp h with z|z
     ·exact z
     ·exact absurd (by simpa using z:c=_).symm e
   obtain⟨j,a,b,d⟩:=gZ f
   exact⟨j,a,(),d⟩
def fS(ws:List Wl)(ins:List (List Nat))(L:List Int)(ps:List Vc):Nat->List Int
 |0=>L
 |i+1=>let c:=(ps[i]?).getD (0,0);fill (fS ws ins L ps i) ((ins[(l4 ws ins c ins.length).getD 0]?).getD []) (laF ws (fS ws ins L ps i) c)
theorem jQ(ws:List Wl)(ins:List (List Nat))(L:List Int)(ps:List Vc):∀i,(fS ws ins L ps i).length=L.length
 |0=>rfl
 |i+1=>by rw[fS,fill,gR,jQ ws ins L ps i]
def cU(ws:List Wl)(L:List Int):Prop:=∃(a:List (List Nat)) (ps:List Vc),Rgs ws (2*ws.length) a/\ps.Perm (bY ws (a.filter fun r=>!aP ws r) (a.filter fun r=>!aP ws r).length)/\ps.Pairwise plt/\
 L=fS ws (a.filter fun r=>!aP ws r) (fO (2*ws.length) (a.filter (aP ws)) (a.filter (aP ws)).length) ps ps.length
theorem rP{ws:List Wl}{L c:List Int}(h:cU ws L)(h':cU ws c):L=c:=by obtain⟨j,ps,R,d,e,rfl⟩:=h;obtain⟨f,g,i,a,b,rfl⟩:=h';have:=zE R i;subst this;have:=xB (d.trans a.symm) e b;subst this;rfl
theorem cU.len{ws:List Wl}{L:List Int}(h:cU ws L):L.length=2*ws.length:=by obtain⟨a,ps,R,b,c,rfl⟩:=h;rw[jQ,iA]
theorem jh(k:SpK)(d:D)(c:SpK):∀kvs:SpT,((kvs.map fun x=>if x.1=k then(x.1,d)else x).find? fun x=>decide (x.1=c)).map (·.2)=if c=k/\(kvs.any fun x=>decide (x.1=k))=LC then LA d else(kvs.find? fun x=>decide (x.1=c)).map (·.2)
 |[]=>by simp
 |x::kvs=>by
  have f:=jh k d c kvs
  rw[Ih,IU,IU,Kp]
  by_cases a:x.1=k
  ·rw[LG a]
   by_cases b:x.1=c
   ·have e:c=k:=b.symm.trans a
    simp[a,e]
   ·have ne:¬c=k:=fun z=>b (a.trans z.symm)
    rw[LF (fun z=>ne z.1)]
    rw[LF (fun z=>ne z.1)]at f
    simp only[LH b]
    exact f
  ·rw[LF a]
   by_cases b:x.1=c
   ·have ne:¬c=k:=fun z=>a (b.trans z)
    rw[LF (fun z=>ne z.1)]
    simp[b]
   ·simp only[LH b,LH a,Bool.false_or]
    exact f
theorem zN(kvs:SpT)(k:SpK)(d:D)(a:SpK):dF (putD kvs k d) a=if a=k then LA d else dF kvs a:=by
 unfold putD dF;by_cases h:(kvs.any fun x=>decide (x.1=k))=LC
 ·rw[LG h,jh];by_cases e:a=k
  ·rw[LG ⟨e,h⟩,LG e]
  ·rw[LF (fun z=>e z.1),LF e]
 ·rw[LF h,List.find?_append];by_cases e:a=k
  ·subst e;have:(kvs.find? fun x=>decide (x.1=a))=LB:=by rw[List.find?_eq_none];intro x b c;exact h (List.any_eq_true.mpr ⟨x,b,c⟩)
   rw[this,LG rfl];simp
  ·rw[LF e];have:([(k,d)]:SpT).find? (fun x=>decide (x.1=a))=LB:=by simp;exact fun z=>e z.symm
   rw[this];simp
theorem xE(kvs:SpT)(k:SpK)(d:D):(putD kvs k d).map (·.1)=if k∈kvs.map (·.1)then kvs.map (·.1)else kvs.map (·.1)++[k]:=by
 unfold putD;have e:((kvs.any fun x=>decide (x.1=k))=LC)↔k∈kvs.map (·.1):=by rw[List.any_eq_true,J1];exact⟨fun c=>by obtain⟨x,a,b⟩:=c;exact(⟨x,a,by simpa using b⟩),fun f=>by obtain⟨x,a,b⟩:=f;exact(⟨x,a,by simpa using b⟩)⟩
 by_cases h:k∈kvs.map (·.1)
 ·rw[LG (e.mpr h),LG h,Ko];apply Kl;intro x _;show(if x.1=k then(x.1,d)else x).1=x.1;split<;>rfl
 ·rw[LF (fun z=>h (e.mp z)),LF h,IK];rfl
structure RDt(t b X Y:Int)(ws:List Wl)(ins:List (List Nat))(qs:List Addr)(i:Nat)(kvs:SpT):Prop where
 ks:kvs.map (·.1)=(bY ws ins i).map (gk t b X Y)
 vs:∀c,dF kvs (gk t b X Y c)=(l4 ws ins c i).bind fun j=>(qs[j]?).map D.ref
theorem RDt.nil(t b X Y:Int)(ws:List Wl)(ins:List (List Nat))(qs:List Addr):RDt t b X Y ws ins qs 0 []:=⟨rfl,fun c=>rfl⟩
theorem RDt.put{t b X Y:Int}{ws:List Wl}{ins:List (List Nat)}{qs:List Addr}{i:Nat}{kvs:SpT}{r:List Nat}{q:Addr}(d:0<t)(e:0<b)(h:RDt t b X Y ws ins qs i kvs)(f:ins[i]?=LA r)(eq:qs[i]?=LA q):RDt t b X Y ws ins qs (i+1) (putD kvs (gk t b X Y (fc ws r)) (.ref q)):=by
 have a:(ins[i]?).getD []=r:=by rw[f];rfl
 refine⟨?_,fun c=>?_⟩
 ·rw[xE,h.ks]
  have g:bY ws ins (i+1)=if fc ws r∈bY ws ins i then bY ws ins i else bY ws ins i++[fc ws r]:=by
   conv=>lhs;unfold bY
   rw[a]
  rw[g];by_cases z:fc ws r∈bY ws ins i
  ·rw[LG z,LG (J1.mpr ⟨_,z,rfl⟩)]
  ·rw[LF z,LF (fun y=>by
    obtain⟨c,j,k⟩:=J1.mp y
    exact z ((sT d e k)▸j)),IK]
   rfl
 ·rw[zN]
  have ea:l4 ws ins c (i+1)=if fc ws r=c then LA i else l4 ws ins c i:=by
   conv=>lhs;unfold l4
   rw[a]
  rw[ea];by_cases z:fc ws r=c
  ·rw[LG (by rw[z]),LG z];show _=(qs[i]?).map D.ref;rw[eq];rfl
  ·rw[LF (fun y=>z (sT d e y).symm),LF z];exact h.vs c
def sg:Nat->(Nat->Int)->Int
 |0,_=>0
 |n+1,g=>sg n g+g n
theorem aK{g h:Nat->Int}:∀{n:Nat},(∀k,k<n->g k=h k)->sg n g=sg n h
 |0,_=>rfl
 |n+1,e=>by rw[sg,sg,aK fun k a=>e k (),e n ()]
theorem cL(g h:Nat->Int):∀n,sg n (fun k=>g k+h k)=sg n g+sg n h
 |0=>rfl
 |n+1=>by rw[sg,sg,sg,cL g h n];omega
theorem gg(g h:Nat->Int):∀n,sg n (fun k=>g k-h k)=sg n g-sg n h
 |0=>rfl
 |n+1=>by rw[sg,sg,sg,gg g h n];omega
theorem uE:∀n,sg n (fun _=>0)=0
 |0=>rfl
 |n+1=>by rw[sg,uE n];rfl
theorem bU{g:Nat->Int}{n:Nat}(h:∀k,k<n->g k=0):sg n g=0:=by rw[aK h,uE]
theorem ez(d:Nat->Int)(j:Nat):∀n,sg n (fun k=>if k=j then d k else 0)=if j<n then d j else 0
 |0=>rfl
 |n+1=>by
  rw[sg,ez d j n]
  by_cases e:n=j
  ·subst e;rw[LF (Nat.lt_irrefl _),LG rfl,LG ()];omega
  ·rw[LF e]
   by_cases l:j<n
   ·rw[LG l,LG ()];omega
   ·rw[LF l,LF ()];rfl
def wn(ws:List Wl)(k:Nat):Wl:=wAt ws (k:Int)
section
variable{ws:List Wl}(hU:∀w∈ws,Un5 w)(hF:PF ws)
include hU in
theorem aH{k:Nat}(h:k<ws.length):Un5 (wn ws k):=hU _ (aW (ws:=ws) (k:=(k:Int)) () ()).2.2
include hF in
theorem aU{i j:Nat}(c:i<ws.length)(d:j<ws.length)(ne:i≠j):Fair (wn ws i) (wn ws j):=by have a:=(aW (ws:=ws) (k:=(i:Int)) () ()).1;have b:=(aW (ws:=ws) (k:=(j:Int)) () ()).1;rw[Jh]at a b;exact hF i j _ _ ne a b
def sp(w:Wl)(t:Int):Bool:=decide (l1 w<=t)&&decide (t<l2 w)
theorem aM{w:Wl}{t:Int}:sp w t=LC↔l1 w<=t/\t<l2 w:=by unfold sp;simp
def Phi(ws:List Wl)(d:Nat->Int)(q:Nat->Bool)(t:Int):Int:=sg ws.length fun k=>if(sp (wn ws k) t&&q k)=LC then d k else 0
def Flow(ws:List Wl)(d:Nat->Int):Prop:=∀t:Int,sg ws.length (fun k=>if l2 (wn ws k)=t then d k else 0)=sg ws.length (fun k=>if l1 (wn ws k)=t then d k else 0)
include hU in
theorem yF{d:Nat->Int}(i:Flow ws d){q:Nat->Bool}{t:Int}(c:Bool)(j:∀k,k<ws.length->l1 (wn ws k)=t\/l2 (wn ws k)=t->q k=c):Phi ws d q t=Phi ws d q (t-1):=by
 unfold Phi
 have e:∀k,k<ws.length->(if(sp (wn ws k) t&&q k)=LC then d k else 0)=(if(sp (wn ws k) (t-1)&&q k)=LC then d k else 0)+(if c=LC then((if l1 (wn ws k)=t then d k else 0)-(if l2 (wn ws k)=t then d k else 0))else 0):=fun k g=>by
  have lt:=(aH hU g).lt
  have h:=j k g
  unfold sp
  generalize l1 (wn ws k)=a at *
  generalize l2 (wn ws k)=b at *
  by_cases x:a=t
  ·have f:=h (.inl x);rw[f,LI (():a<=t),LI (():t<b),LH (():¬a<=t-1),LG x,LF (():¬b=t)];cases c<;>simp
  ·by_cases y:b=t
   ·have f:=h (.inr y);rw[f,LH (():¬t<b),LI (():a<=t-1),LI (():t-1<b),LF x,LG y];cases c
    ·simp
    ·simp;omega
   ·rw[LF x,LF y];have e1:decide (a<=t)=decide (a<=t-1):=by rw[LK];omega
    have e2:decide (t<b)=decide (t-1<b):=by rw[LK];omega
    rw[e1,e2];simp
 rw[aK e,cL];cases c with
 |false=>rw[show sg ws.length (fun k=>if LD=LC then((if l1 (wn ws k)=t then d k else 0)-(if l2 (wn ws k)=t then d k else 0))else 0)=0 from bU fun _ _=>rfl];omega
 |true=>
  have z:sg ws.length (fun k=>if LC=LC then((if l1 (wn ws k)=t then d k else 0)-(if l2 (wn ws k)=t then d k else 0))else 0)=0:=by rw[aK (h:=fun k=>(if l1 (wn ws k)=t then d k else 0)-(if l2 (wn ws k)=t then d k else 0)) fun k _=>LG rfl,gg,i t];omega
  rw[z];omega
include hU in
theorem dO{d:Nat->Int}(c:Flow ws d){q:Nat->Bool}:∀(n:Nat) (t:Int),(∀s,t<s->s<=t+n->∃a,∀k,k<ws.length->l1 (wn ws k)=s\/l2 (wn ws k)=s->q k=a)->Phi ws d q (t+n)=Phi ws d q t
 |0,t,_=>by rw[show t+((0:Nat):Int)=t by omega]
 |n+1,t,h=>by
  obtain⟨a,b⟩:=h (t+(n+1:Nat)) () ()
  rw[yF hU c a b,show t+((n+1:Nat):Int)-1=t+(n:Int) by omega]
  exact dO c n t fun s e f=>h s e ()
include hU in
theorem Ak{d:Nat->Int}(c:Flow ws d)(t:Int):Phi ws d (fun _=>LC) t=0:=by
 have z:∀s:Int,s<0->Phi ws d (fun _=>LC) s=0:=fun s f=>bU fun k e=>by
  have U:=aH hU e
  have:=U.a;have:=U.b
  rw[LF]
  intro q
  rw[Bool.and_true,aM]at q
  unfold l1 la at q
  omega
 by_cases h:t<0
 ·exact z t h
 ·have:=dO hU c (q:=fun _=>LC) (t+1).toNat (-1) fun s _ _=>⟨LC,fun _ _ _=>rfl⟩;rw[show(-1:Int)+((t+1).toNat:Int)=t by omega,z (-1) ()]at this;exact this
end
theorem DX{w:Wl}(h:Un5 w){t:Int}(e:l1 w=t):w.1=t/100/\w.2.1=t%100:=by
 have:=h.a;have:=h.b
 unfold l1 la at e;omega
theorem DP{w:Wl}(h:Un5 w){t:Int}(e:l2 w=t):w.2.2.1=t/100/\w.2.2.2=t%100:=by
 have:=h.c;have:=h.d
 unfold l2 la at e;omega
def sdc(w:Wl)(t:Int):Int:=sd w (t/100) (t%100)
theorem HS{w v:Wl}(h:Un5 v){t:Int}(e:l1 v=t):sdc w t=sd1 w v:=by obtain⟨a,b⟩:=DX h e;unfold sdc sd1;rw[a,b]
theorem HD{w v:Wl}(h:Un5 v){t:Int}(e:l2 v=t):sdc w t=sd2 w v:=by obtain⟨a,b⟩:=DP h e;unfold sdc sd2;rw[a,b]
theorem gM{U V:Wl}(d:Un5 U)(e:Un5 V)(F:Fair U V)(c:l1 U<l2 V)(a:l2 V<l2 U):abv U V=decide (sd2 U V<0):=by
 have f:=d.lt;have g:=e.lt;have nz:=F.e2.nz c a;have b:max (l1 U) (l1 V)<min (l2 U) (l2 V):=bC.mpr ⟨f,c,(),g⟩;have pr:(¬(0<sd1 V U/\sd2 V U<0)/\¬(sd1 V U<0/\0<sd2 V U))\/(¬(0<sd1 U V/\sd2 U V<0)/\¬(sd1 U V<0/\0<sd2 U V)):=F.pr.elim (fun z=>.inr (sgp z)) (fun z=>.inl (sgp z));rcases Ig (l1 U) (l1 V)with h|h|h
 ·have i:=F.e1.nz h ();have q:=within (qa V U) (p5 V U) h () () a pr.symm i nz;rw[kd b h,LK];omega
 ·rw[qr b h ()]
 ·have j:=F.e3.nz h ();have q:=iQ (p5 U V) (qa V U) h () a pr j nz;rw[lO b h,LK];exact q
theorem c9{U V:Wl}(c:Un5 U)(a:Un5 V)(F:Fair U V){t:Int}(g:l1 U<t)(h:t<l2 U)(e:l1 V=t\/l2 V=t):abv U V=decide (sdc U t<0)/\abv V U=decide (0<sdc U t):=by
 have d:=c.lt;have f:=a.lt
 have nz:sdc U t≠0/\abv U V=decide (sdc U t<0)/\max (l1 U) (l1 V)<min (l2 U) (l2 V):=by
  rcases e with e|e
  ·have b:max (l1 U) (l1 V)<min (l2 U) (l2 V):=bC.mpr ⟨d,(),(),f⟩;rw[HS a e];exact⟨F.e1.nz () (),kd b (),b⟩
  ·have b:max (l1 U) (l1 V)<min (l2 U) (l2 V):=bC.mpr ⟨d,(),(),f⟩;rw[HD a e];exact⟨F.e2.nz () (),gM c a F () (),b⟩
 refine⟨nz.2.1,?_⟩;rw[du c a F nz.2.2,nz.2.1,sG nz.1,Bool.not_not]
section
variable{ws:List Wl}(hU:∀w∈ws,Un5 w)(hF:PF ws)
def Bw(ws:List Wl)(d:Nat->Int)(j:Nat):Int:=Phi ws d (fun k=>abv (wn ws j) (wn ws k)) (l1 (wn ws j))
include hU hF in
theorem fu{d:Nat->Int}(c:Flow ws d){j:Nat}(a:j<ws.length){t:Int}(h:sp (wn ws j) t=LC):Phi ws d (fun k=>abv (wn ws j) (wn ws k)) t=Bw ws d j:=by
 rw[aM]at h;have:=dO hU c (q:=fun k=>abv (wn ws j) (wn ws k)) (t-l1 (wn ws j)).toNat (l1 (wn ws j)) fun s f g=>⟨decide (sdc (wn ws j) s<0),fun k b e=>?_⟩
 ·rw[show l1 (wn ws j)+((t-l1 (wn ws j)).toNat:Int)=t by omega]at this;exact this
 ·have ne:j≠k:=fun z=>by subst z;omega
  exact(c9 (aH hU a) (aH hU b) (aU hF a b ne) f () e).1
end
theorem jr(ws:List Wl)(k:Nat):fw ws (2*k)=wn ws k:=by unfold fw wn;rw[LG (),show 2*k/2=k by omega]
theorem rK(ws:List Wl)(k:Nat):fw ws (2*k+1)=rev (wn ws k):=by unfold fw wn;rw[LF (),show(2*k+1)/2=k by omega]
def prc(a b:Vc):Bool:=decide ((vl a<0/\0<vl b)\/(((vl a<0/\vl b<0)\/(0<vl a/\0<vl b))/\vc a b<0))
theorem eE{a b:Vc}:prc a b=LC↔(vl a<0/\0<vl b)\/(((vl a<0/\vl b<0)\/(0<vl a/\0<vl b))/\vc a b<0):=by unfold prc;rw[LL]
theorem EZ(a b x:Vc):vl a*vc b x-vl b*vc a x+vl x*vc a b=0:=by unfold vl la vc crs;grind
def sc(z:Int):_root_.Fin 3:=if z<0 then 0 else if z=0 then 1 else 2
theorem sc0{z:Int}:sc z=0↔z<0:=by
 unfold sc;split
 ·simp[*]
 ·split<;>simp[*]
theorem sc1{z:Int}:sc z=1↔z=0:=by
 unfold sc;split
 ·simp;omega
 ·split<;>simp[*]
theorem sc2{z:Int}:sc z=2↔0<z:=by
 unfold sc;split
 ·simp;omega
 ·split
  ·simp;omega
  ·simp;omega
def zT(a r:_root_.Fin 3):_root_.Fin 3:=if a=0 then 2-r else if a=1 then 1 else r
theorem yE(z:Int):sc (-z)=2-sc z:=by
 rcases Ig z 0 with h|h|h
 ·rw[sc0.mpr h,sc2.mpr ()];rfl
 ·rw[sc1.mpr h,sc1.mpr ()];rfl
 ·rw[sc2.mpr h,sc0.mpr ()];rfl
theorem sH(a r:Int):sc (a*r)=zT (sc a) (sc r):=by
 rcases Ig a 0 with h|h|h
 ·rw[sc0.mpr h];rcases Ig r 0 with k|k|k
  ·rw[sc0.mpr k,sc2.mpr (IT h k)];rfl
  ·rw[sc1.mpr k,sc1.mpr (by rw[k,JT])];rfl
  ·rw[sc2.mpr k,sc0.mpr (IE h k)];rfl
 ·rw[sc1.mpr h,sc1.mpr (by rw[h,Int.zero_mul])];rfl
 ·rw[sc2.mpr h];rcases Ig r 0 with k|k|k
  ·rw[sc0.mpr k,sc0.mpr (Io h k)];rfl
  ·rw[sc1.mpr k,sc1.mpr (by rw[k,JT])];rfl
  ·rw[sc2.mpr k,sc2.mpr (Ip h k)];rfl
def ok3(a b c:_root_.Fin 3):Bool:=!(a != 0&&b != 0&&c != 0&&(a==2||b==2||c==2))&&!(a != 2&&b != 2&&c != 2&&(a==0||b==0||c==0))
theorem jO(z:Int):(z<0/\sc z=0)\/(z=0/\sc z=1)\/(0<z/\sc z=2):=by
 rcases Ig z 0 with h|h|h
 ·exact .inl ⟨h,sc0.mpr h⟩
 ·exact .inr (.inl ⟨h,sc1.mpr h⟩)
 ·exact .inr (.inr ⟨h,sc2.mpr h⟩)
theorem Ew{u v w:Int}(h:u+v+w=0):ok3 (sc u) (sc v) (sc w)=LC:=by rcases jO u with x|x|x<;>rcases jO v with y|y|y<;>rcases jO w with z|z|z<;>rw[x.2,y.2,z.2]<;>first|rfl|(exfalso;omega)
def F5(a b p:_root_.Fin 3):Bool:=(a==0&&b==2)||(((a==0&&b==0)||(a==2&&b==2))&&p==0)
theorem oz(a b:Vc):prc a b=F5 (sc (vl a)) (sc (vl b)) (sc (vc a b)):=by rw[K7,eE];unfold F5;simp[sc0,sc2]
theorem vcn(a b:Vc):sc (vc b a)=2-sc (vc a b):=by rw[eA a b,yE]
theorem BW(a b x:Vc):ok3 (zT (sc (vl a)) (sc (vc b x))) (2-zT (sc (vl b)) (sc (vc a x))) (zT (sc (vl x)) (sc (vc a b)))=LC:=by rw[<-sH,<-sH,<-sH,<-yE];exact Ew (by have:=EZ a b x;omega)
theorem jP{a b c:Vc}(d:prc a b=LC)(e:prc b c=LC):prc a c=LC:=by
 rw[oz]at *;have id:=BW a b c
 revert d e id
 generalize sc (vl a)=A;generalize sc (vl b)=B;generalize sc (vl c)=C;generalize sc (vc a b)=p;generalize sc (vc a c)=q;generalize sc (vc b c)=r
 revert A B C p q r
 decide +kernel
theorem bw{a b:Vc}(c:prc a b=LC)(d:prc b a=LC):False:=by rw[eE]at *;have:=eA a b;omega
theorem vP{a b:Vc}(c:vl a≠0)(d:vl b≠0)(h:Ray a b):prc a b=LC\/prc b a=LC:=by
 rw[eE,eE];have:=eA a b;by_cases z:vc a b=0
 ·have:=ft (h z);omega
 ·omega
def FA(a b p:_root_.Fin 3):Bool:=p != 1||(a==0&&b==2)||(a==2&&b==0)
theorem sI{a b:Vc}(h:Ray a b):FA (sc (vl a)) (sc (vl b)) (sc (vc a b))=LC:=by
 unfold FA;by_cases z:vc a b=0
 ·rcases ft (h z)with q|q
  ·rw[sc0.mpr q.1,sc2.mpr q.2];simp
  ·rw[sc2.mpr q.1,sc0.mpr q.2];simp
 ·have:sc (vc a b)≠1:=fun e=>z (sc1.mp e);simp[this]
def Gu(p q r:_root_.Fin 3):Bool:=decide (p<q)||(p==q&&r==0)
theorem Dz{b x y:Vc}(h:snr b x y=LC):Gu (sc (vc b x)) (sc (vc b y)) (sc (vc x y))=LC:=by rw[gV]at h;unfold Gu;rcases gb (vc b x)with t|t|t<;>rcases gb (vc b y)with u|u|u<;>rw[t.2,u.2]at h<;>rcases jO (vc b x)with p|p|p<;>rcases jO (vc b y)with q|q|q<;>rcases jO (vc x y)with r|r|r<;>rw[p.2,q.2,r.2]<;>first|rfl|(exfalso;omega)
theorem Am{a b x:Vc}(c:vl a≠0)(d:vl b≠0)(f:vl x≠0)(g:Ray a b)(i:Ray a x)(j:Ray b x)(h:snr a b x=LC):(prc a b=LC/\prc b x=LC)\/(prc b x=LC/\prc x a=LC)\/(prc x a=LC/\prc a b=LC):=by
 have h:=Dz h;have id:=BW a b x;have g:=sI g;have i:=sI i;have j:=sI j;have c:sc (vl a)≠1:=fun e=>c (sc1.mp e);have d:sc (vl b)≠1:=fun e=>d (sc1.mp e);have f:sc (vl x)≠1:=fun e=>f (sc1.mp e);rw[oz,oz,oz,vcn a x]
 revert h id g i j c d f
 generalize sc (vl a)=A;generalize sc (vl b)=B;generalize sc (vl x)=X;generalize sc (vc a b)=p;generalize sc (vc a x)=q;generalize sc (vc b x)=r
 revert A B X p q r
 decide +kernel
def dw(w:Wl):Vc:=(w.2.2.1-w.1,w.2.2.2-w.2.1)
def ng(v:Vc):Vc:=(-v.1,-v.2)
theorem g9(ws:List Wl)(k:Nat):fd ws (2*k)=dw (wn ws k):=by unfold fd dw;rw[jr]
theorem tj(ws:List Wl)(k:Nat):fd ws (2*k+1)=ng (dw (wn ws k)):=by unfold fd dw ng;rw[rK];unfold rev;exact Prod.ext (by dsimp only;omega) (by dsimp only;omega)
theorem ma(w:Wl):vl (dw w)=l2 w-l1 w:=by unfold vl dw l1 l2 la;dsimp only;omega
theorem u5(v:Vc):vl (ng v)=-vl v:=by unfold vl ng la;dsimp only;omega
theorem EV(a b:Vc):vc (ng a) (ng b)=vc a b:=by unfold vc ng crs;dsimp only;rw[Int.neg_mul_neg,Int.neg_mul_neg]
theorem cD(ws:List Wl)(k:Nat):la (fa ws (2*k)).1 (fa ws (2*k)).2=l1 (wn ws k):=by unfold fa;rw[jr];rfl
theorem pF(ws:List Wl)(k:Nat):la (fa ws (2*k+1)).1 (fa ws (2*k+1)).2=l2 (wn ws k):=by unfold fa;rw[rK];rfl
theorem jR{U V:Wl}(a:Un5 U)(c:Un5 V)(F:Fair U V)(e:l1 U=l1 V):abv U V=decide (vc (dw U) (dw V)<0)/\vc (dw U) (dw V)≠0:=by
 have i:=a.lt;have j:=c.lt;have d:max (l1 U) (l1 V)<min (l2 U) (l2 V):=bC.mpr ⟨i,(),(),j⟩;obtain⟨f,g⟩:=gE a.b c.b (show la U.1 U.2.1=la V.1 V.2.1 from e);have k:sd2 U V=vc (dw U) (dw V):=by unfold sd2 sd vc dw crs;rw[f,g]
 have l:sd2 V U=-vc (dw U) (dw V):=by unfold sd2 sd vc dw crs;rw[f,g];grind
 rcases Ig (l2 U) (l2 V)with h|h|h
 ·have nz:=F.e4.nz () h;rw[uU d e h,l];refine⟨by rw[LK];omega,()⟩
 ·exact absurd ⟨e,h⟩ F.ne
 ·have nz:=F.e2.nz () h;rw[qr d e (),k];exact⟨rfl,()⟩
theorem xM{U V:Wl}(a:Un5 U)(b:Un5 V)(F:Fair U V)(e:l2 U=l2 V):abv U V=decide (0<vc (dw U) (dw V))/\vc (dw U) (dw V)≠0:=by
 have i:=a.lt;have j:=b.lt;have c:max (l1 U) (l1 V)<min (l2 U) (l2 V):=bC.mpr ⟨i,(),(),j⟩;obtain⟨f,g⟩:=gE a.d b.d (show la U.2.2.1 U.2.2.2=la V.2.2.1 V.2.2.2 from e);have k:sd1 U V=-vc (dw U) (dw V):=by unfold sd1 sd vc dw crs;rw[f,g];grind
 have l:sd1 V U=vc (dw U) (dw V):=by unfold sd1 sd vc dw crs;rw[f,g];grind
 rcases Ig (l1 U) (l1 V)with h|h|h
 ·have nz:=F.e1.nz h ();rw[kd c h,k];refine⟨by rw[LK];omega,()⟩
 ·exact absurd ⟨h,e⟩ F.ne
 ·have nz:=F.e3.nz h ();rw[lO c h,l];exact⟨rfl,()⟩
def Pf(ws:List Wl)(d:Nat->Int)(f:Nat):Int:=if f%2=0 then Bw ws d (f/2)+d (f/2)else Bw ws d (f/2)
theorem eP(ws:List Wl)(d:Nat->Int)(k:Nat):Pf ws d (2*k)=Bw ws d k+d k:=by unfold Pf;rw[LG (),show 2*k/2=k by omega]
theorem jK(ws:List Wl)(d:Nat->Int)(k:Nat):Pf ws d (2*k+1)=Bw ws d k:=by unfold Pf;rw[LF (),show(2*k+1)/2=k by omega]
def Zc(ws:List Wl)(d:Nat->Int)(t:Int):Int:=sg ws.length fun k=>if l1 (wn ws k)<t/\t<l2 (wn ws k)/\0<sdc (wn ws k) t then d k else 0
def Es(ws:List Wl)(d:Nat->Int)(t:Int)(v:Vc):Int:=sg ws.length fun k=>(if l2 (wn ws k)=t/\prc (ng (dw (wn ws k))) v=LC then d k else 0)-(if l1 (wn ws k)=t/\prc (dw (wn ws k)) v=LC then d k else 0)
section
variable{ws:List Wl}(hU:∀w∈ws,Un5 w)(hF:PF ws){d:Nat->Int}(fl:Flow ws d)
include hU hF fl
theorem Au{j:Nat}(a:j<ws.length):Pf ws d (2*j)=Zc ws d (l1 (wn ws j))+Es ws d (l1 (wn ws j)) (dw (wn ws j)):=by
 rw[eP];have one:d j=sg ws.length (fun k=>if k=j then d k else 0):=by rw[ez,LG a]
 have f:=fl (l1 (wn ws j));have J:=aH hU a;have g:=J.lt;have i:=ma (wn ws j);generalize b:l1 (wn ws j)=t at *;rw[one];unfold Bw Phi Zc Es;rw[b,<-cL,<-cL];have z:sg ws.length (fun k=>(if l1 (wn ws k)=t then d k else 0)-(if l2 (wn ws k)=t then d k else 0))=0:=by rw[gg];omega
 refine Eq.trans (aK (h:=fun k=>((if l1 (wn ws k)<t/\t<l2 (wn ws k)/\0<sdc (wn ws k) t then d k else 0)+((if l2 (wn ws k)=t/\prc (ng (dw (wn ws k))) (dw (wn ws j))=LC then d k else 0)-(if l1 (wn ws k)=t/\prc (dw (wn ws k)) (dw (wn ws j))=LC then d k else 0)))+((if l1 (wn ws k)=t then d k else 0)-(if l2 (wn ws k)=t then d k else 0))) fun k e=>?_) (by rw[cL (fun k=>(if l1 (wn ws k)<t/\t<l2 (wn ws k)/\0<sdc (wn ws k) t then d k else 0)+_),z];omega);dsimp only;show(if(sp (wn ws k) t&&abv (wn ws j) (wn ws k))=LC then d k else 0)+(if k=j then d k else 0)=_;have K:=aH hU e;have l:=K.lt;by_cases c:k=j
 ·subst c;rw[LG rfl,bQ J,L0,LF ⋯,LF (),LF (fun q=>()),b,LG rfl,LF (():¬l2 (wn ws k)=t)];have:¬(t=t/\prc (dw (wn ws k)) (dw (wn ws k))=LC):=fun q=>bw q.2 q.2;rw[LF this];omega
 ·rw[LF c];have F:=aU hF a e (fun q=>c q.symm);have m:=ma (wn ws k);rcases Ig (l1 (wn ws k)) t with x|x|x
  ·rcases Ig (l2 (wn ws k)) t with y|y|y
   ·have s:sp (wn ws k) t=LD:=by unfold sp;rw[LH (():¬t<l2 (wn ws k)),L0]
    rw[s,J7,LF ⋯,LF (),LF (),LF (),LF (),LF ()];rfl
   ·have s:sp (wn ws k) t=LD:=by unfold sp;rw[LH (():¬t<l2 (wn ws k)),L0]
    have p:prc (ng (dw (wn ws k))) (dw (wn ws j))=LC:=eE.mpr (.inl ⟨by rw[u5];omega,()⟩);rw[s,J7,LF ⋯,LF (),LG ⟨y,p⟩,LF (),LF (),LG y];omega
   ·have s:sp (wn ws k) t=LC:=aM.mpr ⟨(),y⟩;have T:=(c9 K J F.swap x y (.inl b)).2;rw[s,Jl,T,LF (():¬(l2 (wn ws k)=t/\_)),LF (():¬(l1 (wn ws k)=t/\_)),LF (():¬l1 (wn ws k)=t),LF (():¬l2 (wn ws k)=t)];by_cases q:0<sdc (wn ws k) t
    ·rw[LG (by simpa using q),LG ⟨x,y,q⟩];omega
    ·rw[LF (by simpa using q),LF (fun z=>q z.2.2)];omega
  ·have s:sp (wn ws k) t=LC:=aM.mpr ⟨(),()⟩;obtain⟨A,nz⟩:=jR J K F ()
   have P:prc (dw (wn ws k)) (dw (wn ws j))=decide (0<vc (dw (wn ws j)) (dw (wn ws k))):=by
    rw[K7,eE,LL]
    have:=eA (dw (wn ws j)) (dw (wn ws k))
    omega
   rw[s,Jl,A,P,LF (():¬(l1 (wn ws k)<t/\_)),LF (():¬(l2 (wn ws k)=t/\_)),LG x,LF (():¬l2 (wn ws k)=t)];by_cases q:vc (dw (wn ws j)) (dw (wn ws k))<0
   ·rw[LG (by simpa using q),LF (fun z=>by have:=LJ z.2;omega)];omega
   ·rw[LF (by simpa using q),LG ⟨x,LI ()⟩];omega
  ·have s:sp (wn ws k) t=LD:=by unfold sp;rw[LH (():¬l1 (wn ws k)<=t),J7]
   rw[s,J7,LF ⋯,LF (),LF (),LF (),LF (),LF ()];rfl
theorem CM{j:Nat}(a:j<ws.length):Pf ws d (2*j+1)=Zc ws d (l2 (wn ws j))+Es ws d (l2 (wn ws j)) (ng (dw (wn ws j))):=by
 rw[jK];have J:=aH hU a;have h:=J.lt;have i:=ma (wn ws j);have e:=u5 (dw (wn ws j));rw[<-fu hU hF fl a (t:=l2 (wn ws j)-1) (aM.mpr ⟨(),()⟩)];generalize f:l2 (wn ws j)=t at *;unfold Phi Zc Es;rw[<-cL];refine aK fun k b=>?_;dsimp only;show(if(sp (wn ws k) (t-1)&&abv (wn ws j) (wn ws k))=LC then d k else 0)=_;have K:=aH hU b;have l:=K.lt;by_cases c:k=j
 ·subst c;rw[bQ J,L0,LF ⋯,LF (),LF (fun q=>bw q.2 q.2),LF ()];rfl
 ·have F:=aU hF a b (fun q=>c q.symm);have m:=ma (wn ws k);have g:=u5 (dw (wn ws k));rcases Ig (l1 (wn ws k)) t with x|x|x
  ·rcases Ig (l2 (wn ws k)) t with y|y|y
   ·have s:sp (wn ws k) (t-1)=LD:=by unfold sp;rw[LH (():¬t-1<l2 (wn ws k)),L0]
    rw[s,J7,LF ⋯,LF (),LF (),LF ()];rfl
   ·have s:sp (wn ws k) (t-1)=LC:=aM.mpr ⟨(),()⟩;obtain⟨A,nz⟩:=xM J K F ()
    have P:prc (ng (dw (wn ws k))) (ng (dw (wn ws j)))=decide (0<vc (dw (wn ws j)) (dw (wn ws k))):=by
     rw[K7,eE,LL,EV]
     have:=eA (dw (wn ws j)) (dw (wn ws k))
     omega
    rw[s,Jl,A,P,LF (():¬(l1 (wn ws k)<t/\_)),LF (():¬(l1 (wn ws k)=t/\_))];by_cases q:0<vc (dw (wn ws j)) (dw (wn ws k))
    ·rw[LG (by simpa using q),LG ⟨y,LI q⟩];omega
    ·rw[LF (by simpa using q),LF (fun z=>q (LJ z.2))];rfl
   ·have s:sp (wn ws k) (t-1)=LC:=aM.mpr ⟨(),()⟩;have T:=(c9 K J F.swap x y (.inr f)).2;rw[s,Jl,T,LF (():¬(l2 (wn ws k)=t/\_)),LF (():¬(l1 (wn ws k)=t/\_))];by_cases q:0<sdc (wn ws k) t
    ·rw[LG (by simpa using q),LG ⟨x,y,q⟩];omega
    ·rw[LF (by simpa using q),LF (fun z=>q z.2.2)];omega
  ·have s:sp (wn ws k) (t-1)=LD:=by unfold sp;rw[LH (():¬l1 (wn ws k)<=t-1),J7]
   have p:¬(l1 (wn ws k)=t/\prc (dw (wn ws k)) (ng (dw (wn ws j)))=LC):=fun q=>by
    have:=eE.mp q.2
    omega
   rw[s,J7,LF ⋯,LF (),LF (),LF p];rfl
  ·have s:sp (wn ws k) (t-1)=LD:=by unfold sp;rw[LH (():¬l1 (wn ws k)<=t-1),J7]
   rw[s,J7,LF ⋯,LF (),LF (),LF ()];rfl
theorem uq{g:Nat}(a:g<2*ws.length):Pf ws d g=Zc ws d (la (fa ws g).1 (fa ws g).2)+Es ws d (la (fa ws g).1 (fa ws g).2) (fd ws g):=by
 rcases K3 g with h|h
 ·obtain⟨k,rfl⟩:∃k,g=2*k:=⟨g/2,()⟩;rw[cD,g9];exact Au hU hF fl ()
 ·obtain⟨k,rfl⟩:∃k,g=2*k+1:=⟨g/2,()⟩;rw[pF,tj];exact CM hU hF fl ()
end
def eF(d:Nat->Int)(g:Nat):Int:=if g%2=0 then -d (g/2)else d (g/2)
theorem Cq(d:Nat->Int){n g:Nat}(a:g<2*n):eF d g=sg n fun k=>(if 2*k+1=g then d k else 0)-(if 2*k=g then d k else 0):=by
 rw[gg];unfold eF;by_cases h:g%2=0
 ·rw[LG h,show sg n (fun k=>if 2*k+1=g then d k else 0)=0 from bU fun k _=>LF (),aK (h:=fun k=>if k=g/2 then d k else 0) fun k _=>?_,ez,LG ()]
  ·omega
  ·by_cases e:k=g/2
   ·rw[LG e,LG ()]
   ·rw[LF e,LF ()]
 ·rw[LF h,show sg n (fun k=>if 2*k=g then d k else 0)=0 from bU fun k _=>LF (),aK (h:=fun k=>if k=g/2 then d k else 0) fun k _=>?_,ez,LG ()]
  ·omega
  ·by_cases e:k=g/2
   ·rw[LG e,LG ()]
   ·rw[LF e,LF ()]
theorem F4(ws:List Wl)(d:Nat->Int)(f:Nat):Pf ws d f=Pf ws d (fx f)+eF d (fx f):=by
 unfold Pf eF;rw[(kH f).1,(kH f).2];by_cases h:f%2=0
 ·rw[LG h,LF (),LF ()]
 ·rw[LF h,LG (),LG ()];omega
theorem jz{A B C:Prop}[Decidable A][Decidable B][Decidable C]{x:Int}(h:A↔B\/C)(n:¬(B/\C)):(if A then x else 0)=(if B then x else 0)+(if C then x else 0):=by
 by_cases b:B
 ·rw[LG (h.mpr (.inl b)),LG b,LF fun c=>n ⟨b,c⟩];omega
 ·by_cases c:C
  ·rw[LG (h.mpr (.inr c)),LF b,LG c];omega
  ·rw[LF fun a=>(h.mp a).elim b c,LF b,LF c];rfl
section
variable{ws:List Wl}(hU:∀w∈ws,Un5 w)(hF:PF ws)
include hU in
theorem qP{g:Nat}(a:g<2*ws.length):vl (fd ws g)≠0:=by
 rcases K3 g with h|h
 ·obtain⟨k,rfl⟩:∃k,g=2*k:=⟨g/2,()⟩;have:=(aH hU (():k<ws.length)).lt;rw[g9,ma];omega
 ·obtain⟨k,rfl⟩:∃k,g=2*k+1:=⟨g/2,()⟩;have:=(aH hU (():k<ws.length)).lt;rw[tj,u5,ma];omega
include hU in
theorem GX{g:Nat}(a:g<2*ws.length):0<=(fa ws g).2/\(fa ws g).2<=20:=by
 rcases K3 g with h|h
 ·obtain⟨k,rfl⟩:∃k,g=2*k:=⟨g/2,()⟩;unfold fa;rw[jr];exact(aH hU (():k<ws.length)).b
 ·obtain⟨k,rfl⟩:∃k,g=2*k+1:=⟨g/2,()⟩;unfold fa;rw[rK];exact(aH hU (():k<ws.length)).d
include hU in
theorem BQ{g h:Nat}(c:g<2*ws.length)(d:h<2*ws.length)(e:la (fa ws g).1 (fa ws g).2=la (fa ws h).1 (fa ws h).2):fa ws g=fa ws h:=by obtain⟨a,b⟩:=gE (GX hU c) (GX hU d) e;exact Prod.ext a b
def tf(ws:List Wl)(g:Nat):Int:=la (fa ws g).1 (fa ws g).2
variable{d:Nat->Int}(fl:Flow ws d)
include hU hF fl in
theorem Fg{f:Nat}(S:f<2*ws.length):Pf ws d (bh ws f)=Pf ws d f:=by
 have v:=jZ S;have J:=BI hU hF S;have e1:fa ws (bh ws f)=fa ws (fx f):=by rw[jY hU hF S,e7]
 rw[F4 ws d f,uq hU hF fl J,uq hU hF fl v,e1];have K:=fl (la (fa ws (fx f)).1 (fa ws (fx f)).2);have L:∀g,g<2*ws.length->la (fa ws g).1 (fa ws g).2=la (fa ws (fx f)).1 (fa ws (fx f)).2->fa ws g=fb ws f:=fun g M e=>by rw[BQ hU M v e,e7]
 have N:∀k,la (fa ws (2*k)).1 (fa ws (2*k)).2=l1 (wn ws k):=cD ws;have O:∀k,la (fa ws (2*k+1)).1 (fa ws (2*k+1)).2=l2 (wn ws k):=pF ws;have i:∀k,fd ws (2*k)=dw (wn ws k):=g9 ws;have j:∀k,fd ws (2*k+1)=ng (dw (wn ws k)):=tj ws;have W:=Cq d v;generalize X:la (fa ws (fx f)).1 (fa ws (fx f)).2=t at *;have P:∀k,k<ws.length->l1 (wn ws k)=t->fa ws (2*k)=fb ws f:=fun k l e=>L _ () (by rw[N];exact e);have Q:∀k,k<ws.length->l2 (wn ws k)=t->fa ws (2*k+1)=fb ws f:=fun k l e=>L _ () (by rw[O];exact e);have o:∀k,2*k=fx f->l1 (wn ws k)=t:=fun k e=>by rw[<-N,e,X]
 have s:∀k,2*k+1=fx f->l2 (wn ws k)=t:=fun k e=>by rw[<-O,e,X]
 rcases gU hU hF S with⟨c,e⟩|⟨m,all⟩
 ·-- the only one
  have only:∀g,g<2*ws.length->fa ws g=fb ws f->g=fx f:=fun g M e=>K9 fun ne=>by
   have:g∈iC ws f:=bM.mpr ⟨M,e,ne⟩
   rw[c]at this;cases this
  rw[e]
  have z:eF d (fx f)=0:=by
   rw[W]
   have:=aK (n:=ws.length) (g:=fun k=>(if 2*k+1=fx f then d k else 0)-(if 2*k=fx f then d k else 0)) (h:=fun k=>(if l2 (wn ws k)=t then d k else 0)-(if l1 (wn ws k)=t then d k else 0)) fun k l=>by
    have Z:(2*k+1=fx f)↔l2 (wn ws k)=t:=⟨s k,fun e=>only _ () (Q k l e)⟩
    have a2:(2*k=fx f)↔l1 (wn ws k)=t:=⟨o k,fun e=>only _ () (P k l e)⟩
    simp only[Z,a2]
   rw[this,gg,K];omega
  rw[z];omega
 ·obtain⟨m1,U,Y⟩:=bM.mp m;have T:∀g h,g<2*ws.length->h<2*ws.length->fa ws g=fb ws f->fa ws h=fb ws f->g≠h->Ray (fd ws g) (fd ws h):=fun g h M hh a b ne=>gQ hU hF M hh ne (by rw[a,b]);have V:fa ws (fx f)=fb ws f:=e7 ws f;have R:∀x,x<2*ws.length->fa ws x=fb ws f->x≠fx f->x≠bh ws f->(prc (fd ws (fx f)) (fd ws (bh ws f))=LC/\prc (fd ws (bh ws f)) (fd ws x)=LC)\/(prc (fd ws (bh ws f)) (fd ws x)=LC/\prc (fd ws x) (fd ws (fx f))=LC)\/(prc (fd ws x) (fd ws (fx f))=LC/\prc (fd ws (fx f)) (fd ws (bh ws f))=LC):=fun x y ex u E=>Am (qP hU v) (qP hU J) (qP hU y) (T _ _ v J V U (fun z=>Y z.symm)) (T _ _ v y V ex (fun z=>u z.symm)) (T _ _ J y U ex (fun z=>E z.symm)) ((all x (bM.mpr ⟨y,ex,u⟩)).resolve_left E);rw[Int.add_assoc]
  congr 1
  rw[W];unfold Es;rcases vP (qP hU v) (qP hU J) (T _ _ v J V U (fun z=>Y z.symm))with p|p
  ·have key:∀x,x<2*ws.length->fa ws x=fb ws f->(prc (fd ws x) (fd ws (bh ws f))=LC↔prc (fd ws x) (fd ws (fx f))=LC\/x=fx f):=fun x y ex=>by
    by_cases u:x=fx f
    ·subst u;exact⟨fun _=>.inr rfl,fun _=>p⟩
    ·by_cases E:x=bh ws f
     ·subst E;exact⟨fun q=>(bw q q).elim,fun q=>q.elim (fun q=>(bw p q).elim) (fun q=>absurd q u)⟩
     ·rcases R x y ex u E with⟨_,q⟩|⟨q,r⟩|⟨q,_⟩
      ·exact⟨fun z=>(bw q z).elim,fun z=>z.elim (fun z=>(bw q (jP z p)).elim) fun z=>absurd z u⟩
      ·exact(bw p (jP q r)).elim
      ·exact⟨fun _=>.inl q,fun _=>jP q p⟩
   rw[<-cL];refine aK fun k l=>?_
   have A:(l2 (wn ws k)=t/\prc (ng (dw (wn ws k))) (fd ws (bh ws f))=LC)↔(l2 (wn ws k)=t/\prc (ng (dw (wn ws k))) (fd ws (fx f))=LC)\/2*k+1=fx f:=by
    constructor
    ·rintro⟨a,b⟩;rw[<-j]at b;rcases(key _ () (Q k l a)).mp b with q|q
     ·rw[j]at q;exact .inl ⟨a,q⟩
     ·exact .inr q
    ·intro z;have a:l2 (wn ws k)=t:=z.elim (fun q=>q.1) (s k);refine⟨a,?_⟩;rw[<-j];exact(key _ () (Q k l a)).mpr (z.imp (fun q=>by rw[j];exact q.2) id)
   have B:(l1 (wn ws k)=t/\prc (dw (wn ws k)) (fd ws (bh ws f))=LC)↔(l1 (wn ws k)=t/\prc (dw (wn ws k)) (fd ws (fx f))=LC)\/2*k=fx f:=by
    constructor
    ·rintro⟨a,b⟩;rw[<-i]at b;rcases(key _ () (P k l a)).mp b with q|q
     ·rw[i]at q;exact .inl ⟨a,q⟩
     ·exact .inr q
    ·intro z;have a:l1 (wn ws k)=t:=z.elim (fun q=>q.1) (o k);refine⟨a,?_⟩;rw[<-i];exact(key _ () (P k l a)).mpr (z.imp (fun q=>by rw[i];exact q.2) id)
   have C:¬((l2 (wn ws k)=t/\prc (ng (dw (wn ws k))) (fd ws (fx f))=LC)/\2*k+1=fx f):=fun F=>by obtain⟨⟨_,q⟩,e⟩:=F;rw[<-j,e]at q;exact bw q q
   have D:¬((l1 (wn ws k)=t/\prc (dw (wn ws k)) (fd ws (fx f))=LC)/\2*k=fx f):=fun G=>by obtain⟨⟨_,q⟩,e⟩:=G;rw[<-i,e]at q;exact bw q q
   rw[jz A C,jz B D];omega
  ·have key:∀x,x<2*ws.length->fa ws x=fb ws f->prc (fd ws x) (fd ws (bh ws f))≠LC/\(prc (fd ws x) (fd ws (fx f))=LC\/x=fx f):=fun x y ex=>by
    by_cases u:x=fx f
    ·subst u;exact⟨fun q=>bw p q,.inr rfl⟩
    ·by_cases E:x=bh ws f
     ·subst E;exact⟨fun q=>bw q q,.inl p⟩
     ·rcases R x y ex u E with⟨q,_⟩|⟨q,r⟩|⟨_,q⟩
      ·exact(bw p q).elim
      ·exact⟨fun z=>bw q z,.inl r⟩
      ·exact(bw p q).elim
   rw[bU fun k l=>by
    rw[LF fun z=>(key _ () (Q k l z.1)).1 (by rw[j];exact z.2),LF fun z=>(key _ () (P k l z.1)).1 (by rw[i];exact z.2)];rfl]
   rw[<-cL,aK (h:=fun k=>(if l2 (wn ws k)=t then d k else 0)-(if l1 (wn ws k)=t then d k else 0)) fun k l=>?_,gg,K]
   ·omega
   have A:(l2 (wn ws k)=t)↔(l2 (wn ws k)=t/\prc (ng (dw (wn ws k))) (fd ws (fx f))=LC)\/2*k+1=fx f:=by
    constructor
    ·intro a;rcases(key _ () (Q k l a)).2 with q|q
     ·rw[j]at q;exact .inl ⟨a,q⟩
     ·exact .inr q
    ·exact fun z=>z.elim (fun q=>q.1) (s k)
   have B:(l1 (wn ws k)=t)↔(l1 (wn ws k)=t/\prc (dw (wn ws k)) (fd ws (fx f))=LC)\/2*k=fx f:=by
    constructor
    ·intro a;rcases(key _ () (P k l a)).2 with q|q
     ·rw[i]at q;exact .inl ⟨a,q⟩
     ·exact .inr q
    ·exact fun z=>z.elim (fun q=>q.1) (o k)
   have C:¬((l2 (wn ws k)=t/\prc (ng (dw (wn ws k))) (fd ws (fx f))=LC)/\2*k+1=fx f):=fun H=>by obtain⟨⟨_,q⟩,e⟩:=H;rw[<-j,e]at q;exact bw q q
   have D:¬((l1 (wn ws k)=t/\prc (dw (wn ws k)) (fd ws (fx f))=LC)/\2*k=fx f):=fun I=>by obtain⟨⟨_,q⟩,e⟩:=I;rw[<-i,e]at q;exact bw q q
   rw[jz A C,jz B D];omega
end
theorem wK{ws:List Wl}{f k:Nat}(h:NR ws f k):(rn ws f k).Nodup:=by unfold rn;rw[List.nodup_iff_pairwise_ne,List.pairwise_map];refine List.Pairwise.imp_of_mem ?_ (List.pairwise_lt_range (n:=k+1));intro a b e d c;exact h a b c (by have:=IZ.mp d;omega)
theorem fJ{ws:List Wl}{f k g:Nat}:g∈rn ws f k↔∃i,i<=k/\itb ws f i=g:=by unfold rn;rw[J1];exact⟨fun a=>by obtain⟨i,h,e⟩:=a;exact(⟨i,by have:=IZ.mp h;omega,e⟩),fun b=>by obtain⟨i,h,e⟩:=b;exact(⟨i,IZ.mpr (),e⟩)⟩
theorem lM(c:Nat->Int){n:Nat}:∀r:List Nat,r.Nodup->(∀g∈r,g<2*n)->(r.map c).sum=sg n fun k=>(if 2*k∈r then c (2*k)else 0)+(if 2*k+1∈r then c (2*k+1)else 0)
 |[],_,_=>by rw[bU fun k _=>by simp];rfl
 |g::r,nd,h=>by
  rw[List.nodup_cons]at nd
  rw[Ih,Jm,lM c r nd.2 fun x i=>h x (Jb _ i)]
  have j:=h g Js
  have e:c g=sg n fun k=>(if 2*k=g then c (2*k)else 0)+(if 2*k+1=g then c (2*k+1)else 0):=by
   rw[cL]
   by_cases p:g%2=0
   ·rw[show sg n (fun k=>if 2*k+1=g then c (2*k+1)else 0)=0 from bU fun k _=>LF (),aK (h:=fun k=>if k=g/2 then c (2*k)else 0) fun k _=>?_,ez (fun k=>c (2*k)),LG (),show 2*(g/2)=g by omega]
    ·omega
    ·by_cases e:k=g/2
     ·rw[LG e,LG ()]
     ·rw[LF e,LF ()]
   ·rw[show sg n (fun k=>if 2*k=g then c (2*k)else 0)=0 from bU fun k _=>LF (),aK (h:=fun k=>if k=g/2 then c (2*k+1)else 0) fun k _=>?_,ez (fun k=>c (2*k+1)),LG (),show 2*(g/2)+1=g by omega]
    ·omega
    ·by_cases e:k=g/2
     ·rw[LG e,LG ()]
     ·rw[LF e,LF ()]
  rw[e,<-cL]
  refine aK fun k _=>?_
  have m:∀x:Nat,(x∈g::r)↔(x=g)\/x∈r:=fun x=>J3
  have f:∀x:Nat,¬(x=g/\x∈r):=fun x d=>by obtain⟨a,b⟩:=d;exact(nd.1 (a▸b))
  rw[jz (m (2*k)) (f (2*k)),jz (m (2*k+1)) (f (2*k+1))]
  omega
def dR(r:List Nat)(k:Nat):Int:=(if 2*k∈r then 1 else 0)-(if 2*k+1∈r then 1 else 0)
theorem wR(r:List Nat)(k:Nat)(x:Int):(if 2*k∈r then x else 0)+(if 2*k+1∈r then -x else 0)=dR r k*x:=by unfold dR;split<;>split<;>first|(simp;done)|(simp;omega)
section
variable{ws:List Wl}(hU:∀w∈ws,Un5 w)(hF:PF ws){f:Nat}(hf:f<2*ws.length){r:List Nat}(R:f9 ws f r)
include hU hF hf R
theorem dH:∀g∈r,g<2*ws.length:=fun g a=>by obtain⟨k,n,e,rfl⟩:=R;obtain⟨i,_,rfl⟩:=fJ.mp a;exact dz hU hF hf i
theorem uA:r.Nodup:=by obtain⟨k,n,e,rfl⟩:=R;exact wK n
theorem oy:∀g∈r,bh ws g∈r:=fun g a=>by
 obtain⟨k,n,e,rfl⟩:=R;obtain⟨i,b,rfl⟩:=fJ.mp a;by_cases h:i=k
 ·subst h;rw[e];exact fJ.mpr ⟨0,(),rfl⟩
 ·exact fJ.mpr ⟨i+1,(),rfl⟩
theorem vB:f∈r:=by obtain⟨k,n,e,rfl⟩:=R;exact fJ.mpr ⟨0,(),rfl⟩
theorem nt(a:Vc->Int):sg ws.length (fun k=>dR r k*(a (fb ws (2*k))-a (fa ws (2*k))))=0:=by
 have nd:=uA hU hF hf R;have lt:=dH hU hF hf R;have key:=lM (fun g=>a (fb ws g)-a (fa ws g)) r nd lt
 have z:(r.map fun g=>a (fb ws g)-a (fa ws g)).sum=0:=by
  obtain⟨k,n,e,rfl⟩:=R
  have key:∀k,((rn ws f k).map fun g=>a (fb ws g)-a (fa ws g)).sum=a (fb ws (itb ws f k))-a (fa ws f):=fun k=>by
   induction k with
   |zero=>rw[t8];simp only[Ih,JF,Jm,List.sum_nil,Int.add_zero];rfl
   |succ k b=>
    rw[pf,IK,List.sum_append,b]
    simp only[Ih,JF,Jm,List.sum_nil]
    have:fa ws (itb ws f (k+1))=fb ws (itb ws f k):=jY hU hF (dz hU hF hf k)
    rw[this]
    omega
  rw[key,<-jY hU hF (dz hU hF hf k),e]
  omega
 rw[z]at key;rw[key];refine aK fun k _=>?_;have e2:fx (2*k)=2*k+1:=by unfold fx;rw[LG ()]
 rw[<-e2,e7,za,e2,<-wR,Int.neg_sub]
theorem rG(k:Nat):la (fb ws (2*k)).1 (fb ws (2*k)).2=l2 (wn ws k):=by unfold fb;rw[jr];rfl
theorem aQ:Flow ws (dR r):=fun t=>by
 have h:=nt hU hF hf R fun c=>if la c.1 c.2=t then 1 else 0;have e:=aK (n:=ws.length) (g:=fun k=>dR r k*((if la (fb ws (2*k)).1 (fb ws (2*k)).2=t then 1 else 0)-(if la (fa ws (2*k)).1 (fa ws (2*k)).2=t then 1 else 0))) (h:=fun k=>(if l2 (wn ws k)=t then dR r k else 0)-(if l1 (wn ws k)=t then dR r k else 0)) fun k a=>by rw[cD,rG hU hF hf R];split<;>split<;>simp
 rw[e,gg]at h;omega
theorem cW{d:Nat->Int}(b:Flow ws d){g:Nat}(a:g∈r):Pf ws d g=Pf ws d f:=by
 obtain⟨k,n,e,rfl⟩:=R;obtain⟨i,c,rfl⟩:=fJ.mp a;clear c a
 induction i with
 |zero=>rfl
 |succ i h=>rw[<-h];exact Fg hU hF b (dz hU hF hf i)
end
def xi(w:Wl)(t:Int):Rat:=(Nm w (2*t+1):Rat)/(lam w:Rat)
theorem br{z:Int}(h:0<z):(0:Rat)<(z:Rat):=by exact_mod_cast h
theorem FH{U V:Wl}(a:Un5 U)(b:Un5 V){t:Int}:xi U t<xi V t↔0<Gh U V (2*t+1):=by
 have c:0<lam U:=by have:=a.lt;unfold lam;omega
 have d:0<lam V:=by have:=b.lt;unfold lam;omega
 unfold xi Gh;have e1:(Nm U (2*t+1):Rat)/(lam U:Rat)=Rat.divInt (Nm U (2*t+1)) (lam U):=(Rat.divInt_eq_div ..).symm;have e2:(Nm V (2*t+1):Rat)/(lam V:Rat)=Rat.divInt (Nm V (2*t+1)) (lam V):=(Rat.divInt_eq_div ..).symm;rw[e1,e2,Ma.nM c d];omega
theorem dY{U V:Wl}(a:Un5 U)(b:Un5 V)(F:Fair U V){t:Int}(e:sp U t=LC)(f:sp V t=LC):abv U V=LC↔xi U t<xi V t:=by
 rw[aM]at e f;have c:max (l1 U) (l1 V)<min (l2 U) (l2 V):=bC.mpr ⟨(),(),(),()⟩;have d:=c;rw[Int.max_comm,Int.min_comm]at d;rw[FH a b];constructor
 ·exact rl a b F c (mx2.mpr ⟨(),()⟩) (mn2.mpr ⟨(),()⟩)
 ·intro g;cases z:abv U V with
  |true=>rfl
  |false=>
   have n:=du a b F c
   rw[z]at n
   have h:=rl (t:=2*t+1) b a F.swap d (mx2.mpr ⟨(),()⟩) (mn2.mpr ⟨(),()⟩) n
   rw[t5]at h
   omega
theorem Cf{U V:Wl}(b:Un5 U)(d:Un5 V)(F:Fair U V){t:Int}(f:sp U t=LC)(g:sp V t=LC):xi U t≠xi V t:=fun e=>by
 have a:¬abv U V=LC:=fun z=>by have:=(dY b d F f g).mp z;rw[e]at this;exact Rat.lt_irrefl this
 have c:¬abv V U=LC:=fun z=>by have:=(dY d b F.swap g f).mp z;rw[e]at this;exact Rat.lt_irrefl this
 rw[aM]at f g;rw[du b d F (bC.mpr ⟨(),(),(),()⟩)]at c;cases z:abv U V<;>simp_all
theorem rQ(q:Nat->Rat):∀l:List Nat,l≠[]->∃m∈l,∀x∈l,q x<=q m
 |[],h=>absurd rfl h
 |[a],_=>⟨a,by simp,fun x c=>by rw[Jj.mp c];exact Rat.le_refl⟩
 |a::b::l,_=>by
  obtain⟨m,d,h⟩:=rQ q (b::l) (by simp)
  rcases Rat.le_total (a:=q a) (b:=q m)with z|z
  ·exact⟨m,Jb _ d,fun x c=>(J3.mp c).elim (fun e=>e▸z) (h x)⟩
  ·exact⟨a,Js,fun x c=>(J3.mp c).elim (fun e=>e▸Rat.le_refl) fun c=>Rat.le_trans (h x c) z⟩
theorem xh(q:Nat->Int):∀l:List Nat,l≠[]->∃m∈l,∀x∈l,q m<=q x
 |[],h=>absurd rfl h
 |[a],_=>⟨a,by simp,fun x c=>by rw[Jj.mp c];exact Int.le_refl _⟩
 |a::b::l,_=>by
  obtain⟨m,d,h⟩:=xh q (b::l) (by simp)
  by_cases z:q m<=q a
  ·exact⟨m,Jb _ d,fun x c=>(J3.mp c).elim (fun e=>e▸z) (h x)⟩
  ·exact⟨a,Js,fun x c=>(J3.mp c).elim (fun e=>e▸Int.le_refl _) fun c=>by have:=h x c;omega⟩
structure Low(ws:List Wl)(r:List Nat)(t:Int)(k:Nat):Prop where
 k1:k<ws.length
 e:l1 (wn ws k)=t
 m:2*k∈r\/2*k+1∈r
 ge:∀j,2*j∈r\/2*j+1∈r->t<=l1 (wn ws j)
 low:∀j,2*j∈r\/2*j+1∈r->l1 (wn ws j)=t->abv (wn ws k) (wn ws j)=LD
section
variable{ws:List Wl}(hU:∀w∈ws,Un5 w)(hF:PF ws){f:Nat}(hf:f<2*ws.length){r:List Nat}(R:f9 ws f r)
include hU hF hf R
theorem jo:∃t k,Low ws r t k/\∃g∈r,tf ws g=t/\∀h∈r,t<=tf ws h:=by
 have ne:r≠[]:=JW (vB hU hF hf R);obtain⟨g,c,mn⟩:=xh (tf ws) r ne
 have ge:∀j,2*j∈r\/2*j+1∈r->tf ws g<=l1 (wn ws j):=fun j h=>by
  rcases h with h|h
  ·have:=mn _ h;unfold tf at this;rw[cD]at this;exact this
  ·have:=mn _ (oy hU hF hf R _ h);unfold tf at this;rw[jY hU hF (dH hU hF hf R _ h)]at this;have e2:fx (2*j)=2*j+1:=by unfold fx;rw[LG ()]
   rw[<-e2,za,cD]at this;exact this
 have m:((Iv ws.length).filter fun j=>decide ((2*j∈r\/2*j+1∈r)/\l1 (wn ws j)=tf ws g))≠[]:=by
  have lt:=dH hU hF hf R g c
  refine JW (a:=g/2) ?_
  rw[IJ,IZ,LL]
  refine⟨(),?_⟩
  rcases K3 g with h|h
  ·have e:2*(g/2)=g:=()
   refine⟨.inl (by rw[e];exact c),?_⟩;unfold tf;rw[<-cD,e]
  ·exfalso;have e:2*(g/2)+1=g:=()
   have q:=ge (g/2) (.inr (by rw[e];exact c));have l:=(aH hU (():g/2<ws.length)).lt;have w:tf ws g=l2 (wn ws (g/2)):=by unfold tf;rw[<-pF,e]
   omega
 obtain⟨k,b,n⟩:=rQ (fun j=>xi (wn ws j) (tf ws g)) _ m;rw[IJ,IZ,LL]at b;refine⟨tf ws g,k,⟨b.1,b.2.2,b.2.1,ge,fun j i o=>?_⟩,g,c,rfl,mn⟩;have d:j<ws.length:=by rcases i with h|h<;>(have:=dH hU hF hf R _ h;omega)
 by_cases ne:k=j
 ·subst ne;exact bQ (aH hU d)
 ·have K:=aH hU b.1;have J:=aH hU d;have p:=K.lt;have s:=J.lt;have q:=n j (by rw[IJ,IZ,LL];exact⟨d,i,o⟩);cases z:abv (wn ws k) (wn ws j)with
  |false=>rfl
  |true=>
   have:=(dY K J (aU hF b.1 d ne) (t:=tf ws g) (aM.mpr ⟨(),()⟩) (aM.mpr ⟨(),()⟩)).mp z
   exact absurd this (Rat.not_lt.mpr q)
theorem yy{t:Int}{k:Nat}(L:Low ws r t k):Bw ws (dR r) k=0:=by
 unfold Bw Phi;refine bU fun j b=>?_;by_cases m:2*j∈r\/2*j+1∈r
 ·have ge:=L.ge j m;rw[L.e];refine LF fun q=>?_;rw[ID,aM]at q;have:=L.low j m ();have a:abv (wn ws k) (wn ws j)=LC:=q.2;rw[this]at a;cases a
 ·have:dR r j=0:=by unfold dR;rw[LF fun z=>m (.inl z),LF fun z=>m (.inr z)];rfl
  rw[this];split<;>rfl
theorem oC{t:Int}{k:Nat}(L:Low ws r t k):(2*k+1∈r/\Pf ws (dR r) f=0)\/(2*k+1∉r/\2*k∈r/\Pf ws (dR r) f=1):=by
 have a:=aQ hU hF hf R;have z:=yy hU hF hf R L;by_cases h:2*k+1∈r
 ·left;refine⟨h,?_⟩;rw[<-cW hU hF hf R a h,jK,z]
 ·right;have m:=L.m.resolve_right h;refine⟨h,m,?_⟩;rw[<-cW hU hF hf R a m,eP,z];unfold dR;rw[LG m,LF h];rfl
end
def sq:Nat->(Nat->Rat)->Rat
 |0,_=>0
 |n+1,g=>sq n g+g n
theorem eZ{g h:Nat->Rat}:∀{n:Nat},(∀k,k<n->g k=h k)->sq n g=sq n h
 |0,_=>rfl
 |n+1,e=>by rw[sq,sq,eZ fun k a=>e k (),e n ()]
theorem wL(g h:Nat->Rat):∀n,sq n (fun k=>g k+h k)=sq n g+sq n h
 |0=>by rw[sq,sq,sq,Rat.add_zero]
 |n+1=>by rw[sq,sq,sq,wL g h n];grind
theorem xS(c:Rat)(g:Nat->Rat):∀n,sq n (fun k=>c*g k)=c*sq n g
 |0=>by rw[sq,sq,Rat.mul_zero]
 |n+1=>by rw[sq,sq,xS c g n];grind
theorem ug:∀n,sq n (fun _=>0)=0
 |0=>rfl
 |n+1=>by rw[sq,ug n,Rat.add_zero]
theorem uk(g:Nat->Nat->Rat)(m:Nat):∀n,sq n (fun k=>sq m (g k))=sq m fun t=>sq n fun k=>g k t
 |0=>by rw[sq];exact(ug m).symm
 |n+1=>by
  rw[sq,uk g m n,<-wL]
  rfl
theorem kB(g:Nat->Int):∀n,((sg n g:Int):Rat)=sq n fun k=>((g k:Int):Rat)
 |0=>rfl
 |n+1=>by rw[sg,sq,Ki,kB g n]
theorem sq_nonneg{g:Nat->Rat}:∀{n:Nat},(∀k,k<n->0<=g k)->0<=sq n g
 |0,_=>Rat.le_refl
 |n+1,h=>by
  have a:=sq_nonneg (g:=g) (n:=n) fun k c=>h k ()
  have b:=h n ()
  rw[sq]
  exact Rat.add_nonneg a b
theorem sq_pos{g:Nat->Rat}{j:Nat}(p:0<g j):∀{n:Nat},j<n->(∀k,k<n->0<=g k)->0<sq n g
 |0,hj,_=>absurd hj ()
 |n+1,hj,h=>by
  rw[sq]
  by_cases e:j=n
  ·subst e
   have a:=sq_nonneg (g:=g) (n:=j) fun k c=>h k ()
   grind
  ·have a:=sq_pos p (n:=n) () fun k c=>h k ()
   have b:=h n ()
   grind
theorem kn(p:Nat->Bool)(g:Nat->Rat):∀n,(((Iv n).filter p).map g).sum=sq n fun k=>if p k=LC then g k else 0
 |0=>rfl
 |n+1=>by
  rw[JE,List.filter_append,IK,List.sum_append,kn p g n,sq]
  congr 1
  by_cases h:p n=LC
  ·rw[LG h];simp[h,Rat.add_zero]
  ·rw[LF h];simp[h]
theorem wY{l c:List Nat}(h:l.Perm c)(g:Nat->Rat):(l.map g).sum=(c.map g).sum:=by
 induction h with
 |nil=>rfl
 |cons x _ d=>rw[Ih,Ih,Jm,Jm,d]
 |swap x y l=>simp only[Ih,Jm];grind
 |trans _ _ a b=>rw[a,b]
theorem g8(d q:Nat->Rat)(c a:Rat):∀l:List Nat,(l.map fun x=>d x*(q x-c)).sum=(l.map fun x=>d x*(q x-a)).sum+(l.map d).sum*(a-c)
 |[]=>by simp;grind
 |x::l=>by
  simp only[Ih,Jm]
  rw[g8 d q c a l]
  grind
theorem CA(d q:Nat->Rat):∀(m:Nat) (l:List Nat),l.length=m->l.Nodup->(∀x∈l,∀y∈l,q x=q y->x=y)->(∀x∈l,0<=(l.map fun y=>if q x<=q y then d y else 0).sum)->∀c,(∀x∈l,c<q x)->
 0<=(l.map fun x=>d x*(q x-c)).sum/\∀x∈l,0<(l.map fun y=>if q x<=q y then d y else 0).sum->0<(l.map fun x=>d x*(q x-c)).sum
 |0,l,e,_,_,_,c,_=>by
  rw[List.length_eq_zero_iff.mp e]
  exact⟨Rat.le_refl,fun x b=>by cases b⟩
 |m+1,l,e,nd,inj,A,c,hc=>by
  obtain⟨a,j,p⟩:=rQ (fun x=>-q x) l (fun z=>by rw[z]at e;cases e)
  have mn:∀x∈l,q a<=q x:=fun x b=>by have:=p x b;grind
  have P:=List.perm_cons_erase j
  have k:∀g:Nat->Rat,(l.map g).sum=g a+((l.erase a).map g).sum:=fun g=>by rw[wY P g,Ih,Jm]
  have sub:∀x∈l.erase a,x∈l/\q a<q x:=fun x b=>by
   have f:=List.mem_of_mem_erase b
   have ne:x≠a:=fun z=>by subst z;exact nd.not_mem_erase b
   have r:q a≠q x:=fun z=>ne (inj x f a j z.symm)
   have:=mn x f
   exact⟨f,by grind⟩
  have i:∀x∈l.erase a,(l.map fun y=>if q x<=q y then d y else 0).sum=((l.erase a).map fun y=>if q x<=q y then d y else 0).sum:=fun x b=>by
   rw[k,LF (Rat.not_le.mpr (sub x b).2),Rat.zero_add]
  have all:(l.map fun y=>if q a<=q y then d y else 0).sum=(l.map d).sum:=by
   congr 1
   exact Kl fun y n=>LG (mn y n)
  have D:=A a j
  rw[all]at D
  obtain⟨s,t⟩:=CA d q m (l.erase a) (by rw[List.length_erase_of_mem j];omega) (nd.erase a) (fun x b y n=>inj x (sub x b).1 y (sub y n).1) (fun x b=>by rw[<-i x b];exact A x (sub x b).1) (q a) fun x b=>(sub x b).2
  have e1:(l.map fun x=>d x*(q x-c)).sum=((l.erase a).map fun x=>d x*(q x-q a)).sum+(l.map d).sum*(q a-c):=by
   rw[g8 d q c (q a),k fun x=>d x*(q x-q a)]
   grind
  have o:0<q a-c:=by have:=hc a j;grind
  rw[e1]
  refine⟨Rat.add_nonneg s (Rat.mul_nonneg D (Rat.le_of_lt o)),fun x b h=>?_⟩
  by_cases ex:x=a
  ·subst ex
   rw[all]at h
   have:=Kr h o
   grind
  ·have f:x∈l.erase a:=(List.mem_erase_of_ne ex).mpr b
   rw[i x f]at h
   have:=t x f h
   have:=Rat.mul_nonneg D (Rat.le_of_lt o)
   grind
theorem lP(q:Nat->Rat):∀l:List Nat,∃c,∀x∈l,c<q x
 |[]=>⟨0,fun x b=>by cases b⟩
 |a::l=>by
  obtain⟨c,h⟩:=lP q l
  refine⟨min c (q a)-1,fun x b=>?_⟩
  have d:min c (q a)<=c:=by rw[Rat.min_def];split<;>grind
  have f:min c (q a)<=q a:=by rw[Rat.min_def];split<;>grind
  rcases J3.mp b with e|e
  ·subst e;grind
  ·have:=h x e;grind
def gj(w:Wl)(j:Int):Rat:=2*(w.1:Rat)*(j:Rat)+(j:Rat)*(j:Rat)*(((w.2.2.1-w.1:Int):Rat)/(lam w:Rat))
theorem Bg{w:Wl}(h:0<lam w){t:Int}{j:Int}(e:t=l1 w+j):gj w (j+1)=gj w j+xi w t:=by
 have d:(lam w:Rat)≠0:=by have:=br h;grind
 have ex:xi w t=2*(w.1:Rat)+(2*(j:Rat)+1)*(((w.2.2.1-w.1:Int):Rat)/(lam w:Rat)):=by
  unfold xi Nm
  rw[e,show 2*(l1 w+j)+1-2*l1 w=2*j+1 by omega,Ki,J4,J4,J4,Ki,J4]
  have a:((2:Int):Rat)=2:=rfl
  have b:((1:Int):Rat)=1:=rfl
  rw[a,b,L4,L4]
  have c:(lam w:Rat)*(lam w:Rat)⁻¹=1:=Rat.mul_inv_cancel _ d
  grind
 rw[ex];unfold gj;rw[Ki];have b:((1:Int):Rat)=1:=rfl;rw[b];grind
theorem GI{w:Wl}(hw:Un5 w):∀m:Nat,sq m (fun t=>if sp w (t:Int)=LC then xi w (t:Int)else 0)=gj w (if(m:Int)<=l1 w then 0 else if(m:Int)<=l2 w then(m:Int)-l1 w else lam w)
 |0=>by
  have:(((0:Nat):Int)<=l1 w):=by have:=hw.a;have:=hw.b;unfold l1 la;omega
  rw[LG this,sq]
  unfold gj
  have a:((0:Int):Rat)=0:=rfl
  rw[a];grind
 |m+1=>by
  have g:=hw.lt
  have f:0<lam w:=by unfold lam;omega
  rw[sq,GI hw m]
  by_cases d:((m+1:Nat):Int)<=l1 w
  ·rw[LG (show((m:Nat):Int)<=l1 w by omega),LG d,LF (by rw[aM];omega),Rat.add_zero]
  ·by_cases e:((m+1:Nat):Int)<=l2 w
   ·have s:sp w ((m:Nat):Int)=LC:=aM.mpr ⟨(),()⟩
    rw[LG s,LF d,LG e]
    have st:=Bg f (t:=(m:Int)) (j:=(m:Int)-l1 w) ()
    rw[show((m+1:Nat):Int)-l1 w=(m:Int)-l1 w+1 by omega,st]
    congr 2
    by_cases c:((m:Nat):Int)<=l1 w
    ·rw[LG c];omega
    ·rw[LF c,LG ()]
   ·rw[LF (():¬((m:Nat):Int)<=l1 w),LF d,LF e,LF (show ¬sp w ((m:Nat):Int)=LC by rw[aM];omega),Rat.add_zero]
    congr 1
    by_cases c:((m:Nat):Int)<=l2 w
    ·rw[LG c];unfold lam;omega
    ·rw[LF c]
theorem yw{w:Wl}(hw:Un5 w){N:Nat}(h:l2 w<=N):sq N (fun t=>if sp w (t:Int)=LC then xi w (t:Int)else 0)=(((w.1+w.2.2.1)*lam w:Int):Rat):=by
 have d:=hw.lt;have a:0<lam w:=by unfold lam;omega
 have b:(lam w:Rat)≠0:=by have:=br a;grind
 rw[GI hw N,LF ()]
 have e:(if(N:Int)<=l2 w then(N:Int)-l1 w else lam w)=lam w:=by
  split
  ·unfold lam;omega
  ·rfl
 rw[e];unfold gj;rw[J4,Ki,K6,L4];have c:(lam w:Rat)*(lam w:Rat)⁻¹=1:=Rat.mul_inv_cancel _ b;grind
section
variable{ws:List Wl}(hU:∀w∈ws,Un5 w)(hF:PF ws){f:Nat}(hf:f<2*ws.length){r:List Nat}(R:f9 ws f r)
def lt'(ws:List Wl)(r:List Nat)(t:Int):List Nat:=(Iv ws.length).filter fun k=>sp (wn ws k) t&&decide (dR r k≠0)
theorem me{t:Int}{k:Nat}:k∈lt' ws r t↔k<ws.length/\sp (wn ws k) t=LC/\dR r k≠0:=by unfold lt';rw[IJ,IZ,ID,LL]
include hU hF in
theorem yq{t:Int}:∀x∈lt' ws r t,∀y∈lt' ws r t,xi (wn ws x) t=xi (wn ws y) t->x=y:=fun x a y b e=>K9 fun ne=>by obtain⟨x1,c,_⟩:=me.mp a;obtain⟨y1,d,_⟩:=me.mp b;exact Cf (aH hU x1) (aH hU y1) (aU hF x1 y1 ne) c d e
include hU hF hf R in
theorem pQ{t:Int}{x:Nat}(g:x∈lt' ws r t):((lt' ws r t).map fun y=>if xi (wn ws x) t<=xi (wn ws y) t then(dR r y:Rat)else 0).sum=((Bw ws (dR r) x+dR r x:Int):Rat):=by
 obtain⟨x1,c,h⟩:=me.mp g;have one:dR r x=sg ws.length (fun k=>if k=x then dR r k else 0):=by rw[ez,LG x1]
 rw[<-fu hU hF (aQ hU hF hf R) x1 c,one];unfold Phi lt';rw[<-cL,kB,kn];refine eZ fun k d=>?_;show _=(((if(sp (wn ws k) t&&abv (wn ws x) (wn ws k))=LC then dR r k else 0)+(if k=x then dR r k else 0):Int):Rat);by_cases e:k=x
 ·subst e;rw[c,LI h,bQ (aH hU d),LG (show(LC&&LC)=LC from rfl),LG Rat.le_refl,LG rfl,LF (⋯:¬(LC&&LD)=LC),Int.zero_add]
 ·rw[LF e,Int.add_zero];by_cases s:sp (wn ws k) t=LC
  ·rw[s,Jl,Jl];by_cases z:dR r k=0
   ·rw[LH (fun q=>q z),LF ⋯,z];split<;>rfl
   ·rw[LI z,LG rfl];have F:=aU hF x1 d (fun q=>e q.symm);have a:=dY (aH hU x1) (aH hU d) F c s;have b:=Cf (aH hU x1) (aH hU d) F c s;by_cases q:xi (wn ws x) t<=xi (wn ws k) t
    ·rw[LG q,LG (a.mpr (by grind))]
    ·rw[LF q,LF fun y=>q (Rat.le_of_lt (a.mp y))];rfl
  ·have i:sp (wn ws k) t=LD:=by simpa using s
   rw[i,J7,J7,LF ⋯,LF ⋯];rfl
include hU hF hf R in
theorem wN(t:Int):((lt' ws r t).map fun y=>(dR r y:Rat)).sum=0:=by
 have h:=Ak hU (aQ hU hF hf R) t;unfold Phi at h
 have a:((sg ws.length (fun k=>if(sp (wn ws k) t&&LC)=LC then dR r k else 0):Int):Rat)=0:=by
  have h:sg ws.length (fun k=>if(sp (wn ws k) t&&LC)=LC then dR r k else 0)=0:=h
  rw[h];rfl
 rw[kB]at a;unfold lt';rw[kn];refine Eq.trans (eZ fun k c=>?_) a;rw[Bool.and_true];by_cases s:sp (wn ws k) t=LC
 ·rw[s,Jl,LG rfl];by_cases z:dR r k=0
  ·rw[LH (fun q=>q z),LF ⋯,z];rfl
  ·rw[LI z,LG rfl]
 ·have b:sp (wn ws k) t=LD:=by simpa using s
  rw[b,J7,LF ⋯];rfl
include hU hF hf R in
theorem sf:(((r.map (twT ws)).sum:Int):Rat)=sq 3000 fun t=>((lt' ws r (t:Int)).map fun k=>(dR r k:Rat)*xi (wn ws k) (t:Int)).sum:=by
 have nd:=uA hU hF hf R;have lt:=dH hU hF hf R
 have a:∀k,twT ws (2*k+1)=-twT ws (2*k):=fun k=>by
  have e2:fx (2*k)=2*k+1:=by unfold fx;rw[LG ()]
  unfold twT
  rw[<-e2,e7,za]
  omega
 have z:=nt hU hF hf R fun c=>c.1*la c.1 c.2;rw[lM (twT ws) r nd lt,aK (h:=fun k=>dR r k*((wn ws k).1+(wn ws k).2.2.1)*lam (wn ws k)-dR r k*((fb ws (2*k)).1*la (fb ws (2*k)).1 (fb ws (2*k)).2-(fa ws (2*k)).1*la (fa ws (2*k)).1 (fa ws (2*k)).2)) fun k e=>?_,gg,z,Int.sub_zero,kB]
 ·rw[eZ (h:=fun k=>sq 3000 fun t=>(dR r k:Rat)*(if sp (wn ws k) (t:Int)=LC then xi (wn ws k) (t:Int)else 0)) fun k e=>?_,uk]
  ·refine eZ fun t _=>?_;unfold lt';rw[kn];refine eZ fun k _=>?_;by_cases s:sp (wn ws k) (t:Int)=LC
   ·rw[s,Jl,LG rfl];by_cases z:dR r k=0
    ·rw[LH (fun q=>q z),LF ⋯,z];exact Rat.zero_mul _
    ·rw[LI z,LG rfl]
   ·have g:sp (wn ws k) (t:Int)=LD:=by simpa using s
    rw[g,J7,LF ⋯,LF ⋯,Rat.mul_zero]
  ·have W:=aH hU e;have b:l2 (wn ws k)<=((3000:Nat):Int):=by have:=W.c;have:=W.d;unfold l2 la;omega
   rw[xS,yw W b,Int.mul_assoc,J4]
 ·rw[a,wR];unfold twT fa fb;rw[jr];unfold lam l1 l2 la;grind
include hU hF hf R in
theorem CF{t:Int}{x:Nat}(d:x∈lt' ws r t):(dR r x=1/\Bw ws (dR r) x+dR r x=Pf ws (dR r) f)\/(dR r x=-1/\Bw ws (dR r) x+dR r x=Pf ws (dR r) f-1):=by
 obtain⟨x1,g,b⟩:=me.mp d;have c:=aQ hU hF hf R;by_cases m:2*x∈r
 ·have a:2*x+1∉r:=fun z=>b (by unfold dR;rw[LG m,LG z];rfl);left;refine⟨by unfold dR;rw[LG m,LF a];rfl,?_⟩;rw[<-cW hU hF hf R c m,eP]
 ·have a:2*x+1∈r:=K9 fun z=>b (by unfold dR;rw[LF m,LF z];rfl);have e:dR r x=-1:=by unfold dR;rw[LF m,LG a];rfl
  right;refine⟨e,?_⟩;rw[<-cW hU hF hf R c a,jK,e];rfl
theorem BK{t:Int}:(lt' ws r t).Nodup:=by unfold lt';exact KP _ List.nodup_range
include hU hF hf R in
theorem uc{t:Int}(a:Pf ws (dR r) f=1):0<=((lt' ws r t).map fun k=>(dR r k:Rat)*xi (wn ws k) t).sum/\∀x∈lt' ws r t,dR r x=1->0<((lt' ws r t).map fun k=>(dR r k:Rat)*xi (wn ws k) t).sum:=by
 obtain⟨c,d⟩:=lP (fun k=>xi (wn ws k) t) (lt' ws r t)
 have A:∀x∈lt' ws r t,0<=((lt' ws r t).map fun y=>if xi (wn ws x) t<=xi (wn ws y) t then(dR r y:Rat)else 0).sum:=fun x b=>by
  rw[pQ hU hF hf R b]
  have:=CF hU hF hf R b
  have p:0<=Bw ws (dR r) x+dR r x:=()
  exact_mod_cast p
 have key:=CA (fun k=>(dR r k:Rat)) (fun k=>xi (wn ws k) t) _ (lt' ws r t) rfl BK (yq hU hF) A c d;have e:=g8 (fun k=>(dR r k:Rat)) (fun k=>xi (wn ws k) t) c 0 (lt' ws r t);rw[wN hU hF hf R t,Rat.zero_mul,Rat.add_zero]at e
 have g:((lt' ws r t).map fun k=>(dR r k:Rat)*xi (wn ws k) t).sum=((lt' ws r t).map fun k=>(dR r k:Rat)*(xi (wn ws k) t-c)).sum:=by
  rw[e]
  congr 1
  exact Kl fun k _=>by grind
 rw[g];refine⟨key.1,fun x b h=>key.2 x b ?_⟩;rw[pQ hU hF hf R b];have:=CF hU hF hf R b;have p:0<Bw ws (dR r) x+dR r x:=()
 exact_mod_cast p
include hU hF hf R in
theorem wC{t:Int}(a:Pf ws (dR r) f=0):((lt' ws r t).map fun k=>(dR r k:Rat)*xi (wn ws k) t).sum<=0:=by
 obtain⟨c,d⟩:=lP (fun k=>xi (wn ws k) t) (lt' ws r t)
 have neg:∀(g:Nat->Rat) (l:List Nat),(l.map fun x=>-g x).sum=-(l.map g).sum:=fun g l=>by
  induction l with
  |nil=>rfl
  |cons x l h=>simp only[Ih,Jm];rw[h];grind
 have A:∀x∈lt' ws r t,0<=((lt' ws r t).map fun y=>if xi (wn ws x) t<=xi (wn ws y) t then -(dR r y:Rat)else 0).sum:=fun x b=>by
  have e:((lt' ws r t).map fun y=>if xi (wn ws x) t<=xi (wn ws y) t then -(dR r y:Rat)else 0).sum=-((lt' ws r t).map fun y=>if xi (wn ws x) t<=xi (wn ws y) t then(dR r y:Rat)else 0).sum:=by
   rw[<-neg]
   congr 1
   exact Kl fun y _=>by split<;>grind
  rw[e,pQ hU hF hf R b]
  have:=CF hU hF hf R b
  have p:Bw ws (dR r) x+dR r x<=0:=()
  have p:((Bw ws (dR r) x+dR r x:Int):Rat)<=0:=by exact_mod_cast p
  grind
 have key:=(CA (fun k=>-(dR r k:Rat)) (fun k=>xi (wn ws k) t) _ (lt' ws r t) rfl BK (yq hU hF) A c d).1;have e:=g8 (fun k=>-(dR r k:Rat)) (fun k=>xi (wn ws k) t) c 0 (lt' ws r t);rw[neg,wN hU hF hf R t]at e
 have i:-((lt' ws r t).map fun k=>(dR r k:Rat)*xi (wn ws k) t).sum=((lt' ws r t).map fun k=>-(dR r k:Rat)*(xi (wn ws k) t-0)).sum:=by
  rw[<-neg]
  congr 1
  exact Kl fun k _=>by grind
 rw[e,<-i]at key;grind
include hU hF hf R in
theorem yR:decide (0<(r.map (twT ws)).sum)=decide (Pf ws (dR r) f=1):=by
 obtain⟨t,k,L,_⟩:=jo hU hF hf R;have c:=sf hU hF hf R;rw[LK];rcases oC hU hF hf R L with⟨_,a⟩|⟨d,m,a⟩
 ·rw[a];constructor
  ·intro h;exfalso;have h:(0:Rat)<(((r.map (twT ws)).sum:Int):Rat):=br h;rw[c]at h
   have n:∀n:Nat,sq n (fun t=>((lt' ws r (t:Int)).map fun k=>(dR r k:Rat)*xi (wn ws k) (t:Int)).sum)<=0:=fun n=>by
    induction n with
    |zero=>exact Rat.le_refl
    |succ n l=>
     rw[sq]
     have:=wC hU hF hf R (t:=(n:Int)) a
     grind
   exact absurd h (Rat.not_lt.mpr (n 3000))
  ·intro h;cases h
 ·rw[a];refine⟨fun _=>rfl,fun _=>?_⟩;have W:=aH hU L.k1
  have t0:0<=t/\t<3000:=by
   have:=W.a;have:=W.b;have e:=L.e
   unfold l1 la at e
   omega
  have g:k∈lt' ws r t:=me.mpr ⟨L.k1,aM.mpr ⟨by have:=L.e;omega,by have:=L.e;have:=W.lt;omega⟩,by unfold dR;rw[LG m,LF d];decide⟩;have i:dR r k=1:=by unfold dR;rw[LG m,LF d];rfl
  have p:(0:Rat)<(((r.map (twT ws)).sum:Int):Rat):=by rw[c];refine sq_pos (j:=t.toNat) ?_ () fun n _=>(uc hU hF hf R a).1;rw[show((t.toNat:Nat):Int)=t by omega];exact(uc hU hF hf R a).2 k g i
  exact_mod_cast p
end
theorem nU{ws:List Wl}(i:∀w∈ws,Un5 w)(hF:PF ws){r c:List Nat}{t t':Int}{k g:Nat}(f:∀j,2*j∈c\/2*j+1∈c->j<ws.length)(L:Low ws r t k)(d:Low ws c t' g)(le:t<=t')(p:t=t'->k≠g/\abv (wn ws g) (wn ws k)=LC):Bw ws (dR c) k=0/\dR c k=0:=by
 have A:∀j,2*j∈c\/2*j+1∈c->sp (wn ws j) t=LC->abv (wn ws k) (wn ws j)=LC->False:=fun j m s a=>by
  rw[aM]at s
  have ge:=d.ge j m
  have l:t=t':=()
  obtain⟨ne,b⟩:=p l
  have K:=aH i L.k1
  have n:=aH i d.k1
  have J:=aH i (f j m)
  have E:=K.lt
  have B:=n.lt
  have C:=L.e
  have D:=d.e
  have u:sp (wn ws k) t=LC:=aM.mpr ⟨(),()⟩
  have v:sp (wn ws g) t=LC:=aM.mpr ⟨(),()⟩
  have x:sp (wn ws j) t=LC:=aM.mpr s
  have o:k≠j:=fun z=>by subst z;rw[bQ K]at a;cases a
  have x1:=(dY K J (aU hF L.k1 (f j m) o) u x).mp a
  have F:=(dY n K (aU hF d.k1 L.k1 (fun z=>ne z.symm)) v u).mp b
  have h:g≠j:=fun z=>by subst z;grind
  have y:=(dY n J (aU hF d.k1 (f j m) h) v x).mpr (by grind)
  have:=d.low j m ()
  rw[this]at y;cases y
 constructor
 ·unfold Bw Phi;refine bU fun j G=>?_;by_cases m:2*j∈c\/2*j+1∈c
  ·refine LF fun q=>?_;rw[ID,L.e]at q;exact A j m q.1 q.2
  ·have:dR c j=0:=by unfold dR;rw[LF fun z=>m (.inl z),LF fun z=>m (.inr z)];rfl
   rw[this];split<;>rfl
 ·have m:¬(2*k∈c\/2*k+1∈c):=fun m=>by
   have ge:=d.ge k m
   have C:=L.e
   have l:t=t':=()
   have:=d.low k m ()
   rw[(p l).2]at this;cases this
  unfold dR;rw[LF fun z=>m (.inl z),LF fun z=>m (.inr z)];rfl
section
variable{ws:List Wl}(hU:∀w∈ws,Un5 w)(hF:PF ws){f:Nat}(hf:f<2*ws.length){r:List Nat}(R:f9 ws f r)
include hU hF hf R
theorem ky:∀j,2*j∈r\/2*j+1∈r->j<ws.length:=fun j m=>by rcases m with m|m<;>(have:=dH hU hF hf R _ m;omega)
theorem wt{o:Nat}(c:o<2*ws.length){i:List Nat}(j:f9 ws o i)(x:∀g∈r,g∉i)(a:Pf ws (dR r) f=1)(E:Pf ws (dR i) o=1)(b:Pf ws (dR i) f=1)(y:Pf ws (dR r) o=1):False:=by
 obtain⟨t,k,L,_⟩:=jo hU hF hf R;obtain⟨l,d,h,_⟩:=jo hU hF c j
 have m:2*k∈r:=by
  rcases oC hU hF hf R L with⟨_,z⟩|⟨_,z,_⟩
  ·omega
  ·exact z
 have u:2*d∈i:=by
  rcases oC hU hF c j h with⟨_,z⟩|⟨_,z,_⟩
  ·omega
  ·exact z
 rw[<-cW hU hF hf R (aQ hU hF c j) m,eP]at b;rw[<-cW hU hF c j (aQ hU hF hf R) u,eP]at y;have w:=ky hU hF hf R;have A:=ky hU hF c j;have ne:k≠d:=fun z=>by subst z;exact x _ m u
 have K:=aH hU L.k1;have v:=aH hU h.k1;have G:=K.lt;have B:=v.lt;have H:=L.e;have C:=h.e;have F:=aU hF L.k1 h.k1 ne
 have go:(t<=l/\(t=l->abv (wn ws d) (wn ws k)=LC))\/(l<=t/\(l=t->abv (wn ws k) (wn ws d)=LC)):=by
  rcases Ig t l with z|z|z
  ·exact .inl ⟨(),fun e=>()⟩
  ·have D:max (l1 (wn ws k)) (l1 (wn ws d))<min (l2 (wn ws k)) (l2 (wn ws d)):=bC.mpr ⟨(),(),(),()⟩;have n:=du K v F D;cases q:abv (wn ws k) (wn ws d)with
   |true=>exact .inr ⟨(),fun _=>rfl⟩
   |false=>rw[q]at n;exact .inl ⟨(),fun _=>n⟩
  ·exact .inr ⟨(),fun e=>()⟩
 rcases go with⟨p,s⟩|⟨p,s⟩
 ·have:=nU hU hF A L h p fun e=>⟨ne,s e⟩;omega
 ·have:=nU hU hF w h L p fun e=>⟨fun z=>ne z.symm,s e⟩;omega
theorem pj{t:Int}{k:Nat}(L:Low ws r t k)(m:2*k+1∈r):∀j,j<ws.length->l1 (wn ws j)=t->abv (wn ws k) (wn ws j)=LD:=fun j g x=>by
 by_cases ne:k=j
 ·subst ne;exact bQ (aH hU g)
 ·cases z:abv (wn ws k) (wn ws j)with
  |false=>rfl
  |true=>
   exfalso
   have K:=aH hU L.k1
   have J:=aH hU g
   have y:=L.e
   have F:=aU hF L.k1 g ne
   have B:=dH hU hF hf R _ m
   have E:=ma (wn ws k)
   have G:=K.lt
   have e2:fx (2*k+1)=2*k:=by unfold fx;rw[LF ()];omega
   have eb:fb ws (2*k+1)=fa ws (2*k):=by have:=e7 ws (2*k+1);rw[e2]at this;exact this.symm
   have ea:fa ws (2*j)=fb ws (2*k+1):=by rw[eb];exact BQ hU () () (by rw[cD,cD,y,x])
   have c:2*j∈iC ws (2*k+1):=bM.mpr ⟨(),ea,()⟩
   have A:=jR K J F ()
   rw[A.1,LL]at z
   have b:=oy hU hF hf R _ m
   rcases gU hU hF B with⟨q,_⟩|⟨b1,u⟩
   ·rw[q]at c;cases c
   ·obtain⟨H,a,l⟩:=bM.mp b1;rw[e2]at l
    have M:bh ws (2*k+1)%2=0:=by
     rcases K3 (bh ws (2*k+1))with h|h
     ·exact h
     ·exfalso;obtain⟨i,n⟩:∃i,bh ws (2*k+1)=2*i+1:=⟨bh ws (2*k+1)/2,()⟩;rw[n]at b a;have ge:=L.ge i (.inr b);have N:=(aH hU (ky hU hF hf R i (.inr b))).lt;have:la (fa ws (2*i+1)).1 (fa ws (2*i+1)).2=la (fa ws (2*k)).1 (fa ws (2*k)).2:=by rw[a,eb]
      rw[pF,cD]at this;omega
    obtain⟨i,n⟩:∃i,bh ws (2*k+1)=2*i:=⟨bh ws (2*k+1)/2,()⟩;rw[n]at b u a l;have v:=ky hU hF hf R i (.inl b);have I:=aH hU v
    have C:l1 (wn ws i)=t:=by
     have:la (fa ws (2*i)).1 (fa ws (2*i)).2=la (fa ws (2*k)).1 (fa ws (2*k)).2:=by rw[a,eb]
     rw[cD,cD]at this
     omega
    have o:k≠i:=fun e=>l (by rw[e]);have D:=jR K I (aU hF L.k1 v o) ();have d:=L.low i (.inl b) C;rw[D.1]at d;have d:=of_decide_eq_false d;rcases u _ c with q|q
    ·have:i=j:=()
     subst this;exact d z
    ·unfold snF at q;rw[e2,g9,g9,g9,gV]at q;rcases gb (vc (dw (wn ws k)) (dw (wn ws i)))with p|p|p<;>rcases gb (vc (dw (wn ws k)) (dw (wn ws j)))with s|s|s<;>omega
end
theorem dN{m a b:Int}(c:0<m)(h:m*a<m*b):a<b:=K8 h ()
theorem vg{w v:Wl}{k m:Int}(hw:l1 w<l2 w)(n:l1 v<l2 v)(F:Fair w v)(j:0<k)(k1:k<m)
 (z:(m-k)*sd1 v w+k*sd2 v w=0) (G:m*l1 v<=l1 w*(m-k)+l2 w*k) (H:l1 w*(m-k)+l2 w*k<=m*l2 v):False:=by
 have y:=qa w v
 have A:=p5 w v
 have pr:=F.pr
 have B:=F.e1.nz
 have C:=F.e2.nz
 have D:=se (U:=v) (V:=w) n hw F.swap
 generalize sd1 v w=a at *
 generalize sd2 v w=b at *
 generalize sd1 w v=c at *
 generalize sd2 w v=d at *
 generalize l1 w=p at *
 generalize l2 w=q at *
 generalize l1 v=r at *
 generalize l2 v=s at *
 have I:m*p<p*(m-k)+q*k:=by
  have:=Ip j (():0<q-p)
  have e:p*(m-k)+q*k-m*p=k*(q-p):=by grind
  omega
 have J:p*(m-k)+q*k<m*q:=by
  have:=Ip (():0<m-k) (():0<q-p)
  have e:m*q-(p*(m-k)+q*k)=(m-k)*(q-p):=by grind
  omega
 have g:(m-k)*(c*(s-r))=b*(p*(m-k)+q*k-m*r):=by rw[y];grind
 have i:(m-k)*(d*(s-r))=b*(p*(m-k)+q*k-m*s):=by rw[A];grind
 generalize p*(m-k)+q*k=L at *
 have f:0<m:=()
 have mk:0<m-k:=()
 have o:0<s-r:=()
 by_cases l:b=0
 ·have E:a=0:=by
   subst l
   have:(m-k)*a=0:=()
   rcases JR.mp this with h|h
   ·omega
   ·exact h
  refine D E l (bC.mpr ⟨n,dN f (),dN f (),hw⟩)
 have t:(0<b/\a<0)\/(b<0/\0<a):=by
  rcases Int.lt_or_gt_of_ne l with h|h
  ·right
   have:=Io j h
   exact⟨h,dQ mk (by rw[Int.mul_comm];omega)⟩
  ·left
   have:=Ip j h
   exact⟨h,fD mk (by rw[Int.mul_comm];omega)⟩
 rcases pr with pr|pr
 ·have pr:=sgp pr
  by_cases e1:L=m*r
  ·have:c=0:=by
    rw[e1,Int.sub_self,JT]at g
    rcases JR.mp g with h|h
    ·omega
    ·rcases JR.mp h with h|h
     ·exact h
     ·omega
   exact B (dN f ()) (dN f ()) this
  by_cases e2:L=m*s
  ·have:d=0:=by
    rw[e2,Int.sub_self,JT]at i
    rcases JR.mp i with h|h
    ·omega
    ·rcases JR.mp h with h|h
     ·exact h
     ·omega
   exact C (dN f ()) (dN f ()) this
  have x1:0<L-m*r:=()
  have u:L-m*s<0:=()
  have sg:∀{z:Int},0<(m-k)*(z*(s-r))->0<z:=fun{z} h=>dQ o (dQ mk (by rw[Int.mul_comm];exact h))
  have x:∀{z:Int},(m-k)*(z*(s-r))<0->z<0:=fun{z} h=>fD o (fD mk (by rw[Int.mul_comm];exact h))
  rcases t with⟨h,_⟩|⟨h,_⟩
  ·exact pr.1 ⟨sg (by rw[g];exact Ip h x1),x (by rw[i];exact Io h u)⟩
  ·exact pr.2 ⟨x (by rw[g];exact IE h x1),sg (by rw[i];exact IT h u)⟩
 ·have pr:=sgp pr
  rcases t with h|h
  ·exact pr.2 ⟨h.2,h.1⟩
  ·exact pr.1 ⟨h.2,h.1⟩
theorem nJ{dx dy e f:Int}(h:0<100*dx+dy)(c:-20<=dy/\dy<=20)(z:dx*f=dy*e)(n:¬(e<0\/(e=0/\f<0))):0<=100*e+f:=by
 by_cases a:dx=0
 ·subst a;have:dy*e=0:=()
  rcases JR.mp this with h|h<;>omega
 ·have dp:0<dx:=()
  have b:0<=e:=()
  have k:=Jw (():0<=100*dx+dy) b;have id:(100*e+f)*dx=(100*dx+dy)*e:=by grind
  by_cases g:100*e+f<0
  ·have:=IE g dp;omega
  ·omega
def ix(w:Wl)(m k:Int):Int:=w.1*(m-k)+w.2.2.1*k
def iy(w:Wl)(m k:Int):Int:=w.2.1*(m-k)+w.2.2.2*k
def OnU(v:Wl)(m x y:Int):Prop:=(v.2.2.1-v.1)*(y-m*v.2.1)=(v.2.2.2-v.2.1)*(x-m*v.1)/\¬(x<m*v.1\/(x=m*v.1/\y<m*v.2.1))/\¬(m*v.2.2.1<x\/(m*v.2.2.1=x/\m*v.2.2.2<y))
theorem OnU.la{v:Wl}{m x y:Int}(a:Un5 v)(h:OnU v m x y):m*l1 v<=100*x+y/\100*x+y<=m*l2 v:=by obtain⟨z,c,g⟩:=h;have i:=a.lt;have j:=a.b;have hd:=a.d;unfold l1 l2 SD.la at *;have k:=nJ (dx:=v.2.2.1-v.1) (dy:=v.2.2.2-v.2.1) (e:=x-m*v.1) (f:=y-m*v.2.1) () () z ();have l:=nJ (dx:=v.2.2.1-v.1) (dy:=v.2.2.2-v.2.1) (e:=m*v.2.2.1-x) (f:=m*v.2.2.2-y) () () (by grind) ();constructor<;>grind
theorem A5{w:Wl}{m k:Int}(hw:Un5 w)(c:0<k)(k1:k<m):OnU w m (ix w m k) (iy w m k):=by
 have g:=hw.lt;have l:=hw.b;have hd:=hw.d;unfold l1 l2 SD.la at g;have e1:ix w m k-m*w.1=k*(w.2.2.1-w.1):=by unfold ix;grind
 have e2:iy w m k-m*w.2.1=k*(w.2.2.2-w.2.1):=by unfold iy;grind
 have e3:m*w.2.2.1-ix w m k=(m-k)*(w.2.2.1-w.1):=by unfold ix;grind
 have e4:m*w.2.2.2-iy w m k=(m-k)*(w.2.2.2-w.2.1):=by unfold iy;grind
 have st:∀{j e f:Int},0<j->e=j*(w.2.2.1-w.1)->f=j*(w.2.2.2-w.2.1)->¬(e<0\/(e=0/\f<0)):=fun{j e f} a h n=>by
  by_cases i:w.2.2.1-w.1=0
  ·have:=Ip a (():0<w.2.2.2-w.2.1);rw[i,JT]at h;omega
  ·have:=Ip a (():0<w.2.2.1-w.1);omega
 have o:=st c e1 e2;have p:=st (():0<m-k) e3 e4;refine⟨by rw[e1,e2];grind,(),()⟩
theorem wa{w v:Wl}{m k:Int}(hw:Un5 w)(a:Un5 v)(F:Fair w v)(d:0<k)(k1:k<m):¬OnU v m (ix w m k) (iy w m k):=fun h=>by
 obtain⟨b,c⟩:=h.la a;have z:=h.1;have e:100*ix w m k+iy w m k=l1 w*(m-k)+l2 w*k:=by unfold ix iy l1 l2 la;grind
 rw[e]at b c;refine vg hw.lt a.lt F d k1 ?_ b c;unfold sd1 sd2 sd crs;unfold ix iy at z;grind
theorem fH{v:Wl}(a:Un5 v){m x y:Int}(h:(x=m*v.1/\y=m*v.2.1)\/(x=m*v.2.2.1/\y=m*v.2.2.2))(c:0<m):OnU v m x y:=by
 have e:=a.lt;have g:=a.b;have hd:=a.d;unfold l1 l2 SD.la at e;have e1:m*v.2.2.1-m*v.1=m*(v.2.2.1-v.1):=by grind
 have e2:m*v.2.2.2-m*v.2.1=m*(v.2.2.2-v.2.1):=by grind
 have st:¬(m*v.2.2.1-m*v.1<0\/(m*v.2.2.1-m*v.1=0/\m*v.2.2.2-m*v.2.1<0)):=by
  by_cases f:v.2.2.1-v.1=0
  ·have:=Ip c (():0<v.2.2.2-v.2.1);rw[f]at e1;omega
  ·have:=Ip c (():0<v.2.2.1-v.1);omega
 rcases h with⟨rfl,rfl⟩|⟨rfl,rfl⟩
 ·refine⟨by rw[Int.sub_self,Int.sub_self,JT,JT],(),()⟩
 ·refine⟨by rw[e1,e2];grind,(),()⟩
theorem xK{w:Wl}{m k:Int}(hw:Un5 w)(c:0<k)(k1:k<m):¬(ix w m k=m*w.1/\iy w m k=m*w.2.1)/\¬(ix w m k=m*w.2.2.1/\iy w m k=m*w.2.2.2):=by
 have d:=hw.lt;have e:100*ix w m k+iy w m k=l1 w*(m-k)+l2 w*k:=by unfold ix iy l1 l2 la;grind
 have f:=Ip c (():0<l2 w-l1 w);have g:=Ip (():0<m-k) (():0<l2 w-l1 w);constructor
 ·rintro⟨a,b⟩;rw[a,b]at e;unfold l1 l2 la at *;grind
 ·rintro⟨a,b⟩;rw[a,b]at e;unfold l1 l2 la at *;grind
theorem D6{t b X Y p q r s m x y:Int}(g:0<t)(a:0<b)(d:0<m):Lc (LW t b X 1 p) (LW t b Y 1 q) (LW t b X 1 r) (LW t b Y 1 s) (LW t b X m x) (LW t b Y m y)=0↔(r-p)*(y-m*q)=(s-q)*(x-m*p):=by
 have e:∀(X z:Int),LW t b X 1 z=LW t b X m (m*z):=fun X z=>(Lh g a ⋯ d).mpr ();have l:∀(X z:Int),LW t b X m z=((t:Rat)/b*(1/m))*(z:Rat)+(X:Rat)/b:=fun X z=>by rw[yh a d,L4 (z:Rat),L4 (1:Rat)];grind
 have kp:(0:Rat)<(t:Rat)/b*(1/m):=by rw[L4,L4,Rat.one_mul];exact Kr (Kr (LZ g) (Rat.inv_pos.mpr (LZ a))) (Rat.inv_pos.mpr (LZ d))
 rw[e,e,e,e,l,l,l,l,l,l,xV];have c:((((m*r:Int):Rat)-((m*p:Int):Rat))*(((y:Int):Rat)-((m*q:Int):Rat))-(((m*s:Int):Rat)-((m*q:Int):Rat))*(((x:Int):Rat)-((m*p:Int):Rat)))=(((m*r-m*p)*(y-m*q)-(m*s-m*q)*(x-m*p):Int):Rat):=by simp only[K6,J4]
 rw[c,oG (Kr kp kp)];have f:(m*r-m*p)*(y-m*q)-(m*s-m*q)*(x-m*p)=m*((r-p)*(y-m*q)-(s-q)*(x-m*p)):=by grind
 rw[f,JR];omega
theorem wU{t b X Y m x y:Int}(v:Wl)(a:0<t)(c:0<b)(d:0<m):(Lc (LW t b X 1 v.1) (LW t b Y 1 v.2.1) (LW t b X 1 v.2.2.1) (LW t b Y 1 v.2.2.2) (LW t b X m x) (LW t b Y m y)=0/\¬LY (LW t b X m x) (LW t b Y m y) (LW t b X 1 v.1) (LW t b Y 1 v.2.1)/\¬LY (LW t b X 1 v.2.2.1) (LW t b Y 1 v.2.2.2) (LW t b X m x) (LW t b Y m y))↔OnU v m x y:=by rw[D6 a c d,Le a c d ⋯,Le a c ⋯ d,Lf,Lf];unfold OnU;simp only[Int.one_mul]
def sL(w:Wl)(m p q:Int):Int:=(w.2.2.1-w.1)*(q-m*w.2.1)-(w.2.2.2-w.2.1)*(p-m*w.1)
def spx(w:Wl)(m p q:Int):Prop:=¬(p<m*w.1\/(p=m*w.1/\q<m*w.2.1))/\(p<m*w.2.2.1\/(p=m*w.2.2.1/\q<m*w.2.2.2))
instance(w:Wl)(m p q:Int):Decidable (spx w m p q):=by unfold spx;infer_instance
theorem dn{a b s x y:Int}(c:0<a)(d:0<b)(e:a*s=b*x+y)(f:0<=y):(0<x->0<s)/\(0<=x->0<=s):=by
 constructor
 ·intro h;have:=Ip d h;exact dQ c (by rw[Int.mul_comm];omega)
 ·intro h;have:=Jw (():0<=b) h;by_cases z:s<0
  ·have:=Io c z;omega
  ·omega
theorem C2{v k:Wl}{m p q:Int}(z:0<m)(f:Un5 v)(g:Un5 k)(F:Fair v k)(i:max (l1 v) (l1 k)<min (l2 v) (l2 k))(a:abv v k=LC)(A:v.1<v.2.2.1)(B:k.1<k.2.2.1)(C:m*v.1<=p)(D:p<=m*v.2.2.1)(E:m*k.1<=p)(G:p<=m*k.2.2.1):(0<sL v m p q->0<sL k m p q)/\(0<=sL v m p q->0<=sL k m p q):=by
 have o:=bC.mp i;have j:0<v.2.2.1-v.1:=()
 have l:0<k.2.2.1-k.1:=()
 have r:(v.2.2.1-v.1)*sL k m p q=(k.2.2.1-k.1)*sL v m p q+((k.2.2.1-k.1)*(m * -sd1 v k)+(p-m*k.1) * -vc (dw v) (dw k)):=by unfold sL sd1 sd vc dw crs;grind
 have t:(v.2.2.1-v.1)*sL k m p q=(k.2.2.1-k.1)*sL v m p q+((v.2.2.1-v.1)*(m*sd1 k v)+(p-m*v.1) * -vc (dw v) (dw k)):=by unfold sL sd1 sd vc dw crs;grind
 have u:(v.2.2.1-v.1)*sL k m p q=(k.2.2.1-k.1)*sL v m p q+((k.2.2.1-k.1)*(m * -sd2 v k)+(m*k.2.2.1-p)*vc (dw v) (dw k)):=by unfold sL sd2 sd vc dw crs;grind
 have w:(v.2.2.1-v.1)*sL k m p q=(k.2.2.1-k.1)*sL v m p q+((v.2.2.1-v.1)*(m*sd2 k v)+(m*v.2.2.1-p)*vc (dw v) (dw k)):=by unfold sL sd2 sd vc dw crs;grind
 have d:∀{x y:Int},0<=x->0<=y->0<=x*y:=fun a b=>Jw a b;by_cases c:vc (dw v) (dw k)<=0
 ·by_cases h:l1 k<l1 v
  ·have:=lO i h;rw[a]at this;have:=LJ this.symm;exact dn j l t (Kx (d () (d () ())) (d () ()))
  ·have s:sd1 v k<=0:=by
    by_cases e:l1 v=l1 k
    ·rw[ve f g e];omega
    ·have:=kd i ();rw[a]at this;have:=LJ this.symm;omega
   exact dn j l r (Kx (d () (d () ())) (d () ()))
 ·by_cases h:l2 v<l2 k
  ·have n:=du f g F i;rw[a,gM g f F.swap o.2.2.1 h]at n;have n:=of_decide_eq_false n;exact dn j l w (Kx (d () (d () ())) (d () ()))
  ·have s:sd2 v k<=0:=by
    by_cases e:l2 v=l2 k
    ·rw[mH f g e];omega
    ·have:=gM f g F o.2.1 ();rw[a]at this;have:=LJ this.symm;omega
   exact dn j l u (Kx (d () (d () ())) (d () ()))
section
variable{ws:List Wl}(hU:∀w∈ws,Un5 w)(hF:PF ws)
abbrev BL(ws:List Wl)(m p q:Int)(k:Nat):Prop:=spx (wn ws k) m p q/\0<sL (wn ws k) m p q
def Vs(ws:List Wl)(d:Nat->Int)(m p q:Int):Int:=sg ws.length fun k=>if BL ws m p q k then d k else 0
def At(ws:List Wl)(m p q a:Int):Prop:=∀k,k<ws.length->(spx (wn ws k) m p q↔sp (wn ws k) a=LC)
include hU hF in
theorem oH{d:Nat->Int}(n:Flow ws d){m p q g:Int}(o:0<m)(A:At ws m p q g)(i:∀k,k<ws.length->spx (wn ws k) m p q->(wn ws k).1<(wn ws k).2.2.1){v:Nat}(b:v<ws.length)(h:BL ws m p q v)(top:∀k,k<ws.length->k≠v->BL ws m p q k->abv (wn ws v) (wn ws k)=LC):Vs ws d m p q=Pf ws d (2*v):=by
 have l:=(A v b).mp h.1;have one:d v=sg ws.length (fun j=>if j=v then d j else 0):=by rw[ez,LG b]
 rw[eP,<-fu hU hF n b l,one];unfold Phi Vs;rw[<-cL];refine aK fun j a=>?_;show _=(if(sp (wn ws j) g&&abv (wn ws v) (wn ws j))=LC then d j else 0)+(if j=v then d j else 0);by_cases e:j=v
 ·subst e;rw[LG h,bQ (aH hU a),L0,LF ⋯,LG rfl,Int.zero_add]
 ·rw[LF e,Int.add_zero];by_cases c:BL ws m p q j
  ·rw[LG c,(A j a).mp c.1,top j a e c,LG (show(LC&&LC)=LC from rfl)]
  ·rw[LF c,LF];intro z;rw[ID]at z;have f:=(A j a).mpr z.1;have r:=aM.mp l;have s:=aM.mp z.1;obtain⟨b1,t⟩:=h.1;obtain⟨u,x⟩:=id f;refine c ⟨f,(C2 o (aH hU b) (aH hU a) (aU hF b a (fun y=>e y.symm)) (bC.mpr ⟨(),(),(),()⟩) z.2 (i v b h.1) (i j a f) () () () ()).1 h.2⟩
end
def lN(N x y:Int):Int:=N*x+y
theorem nI(N:Int)(U V:Wl):sd1 U V*(lN N V.2.2.1 V.2.2.2-lN N V.1 V.2.1)=sd2 V U*(lN N U.1 U.2.1-lN N V.1 V.2.1)-sd1 V U*(lN N U.2.2.1 U.2.2.2-lN N V.1 V.2.1):=by unfold sd1 sd2 sd crs lN;grind
theorem nQ(N:Int)(U V:Wl):sd2 U V*(lN N V.2.2.1 V.2.2.2-lN N V.1 V.2.1)=sd2 V U*(lN N U.1 U.2.1-lN N V.2.2.1 V.2.2.2)-sd1 V U*(lN N U.2.2.1 U.2.2.2-lN N V.2.2.1 V.2.2.2):=by unfold sd1 sd2 sd crs lN;grind
def NM(U V:Wl):Prop:=0<Ij (sd1 V U)*Ij (sd2 V U)\/0<Ij (sd1 U V)*Ij (sd2 U V)
theorem NM.fr{U V:Wl}(h:NM U V):(¬(0<sd1 V U/\sd2 V U<0)/\¬(sd1 V U<0/\0<sd2 V U))\/(¬(0<sd1 U V/\sd2 U V<0)/\¬(sd1 U V<0/\0<sd2 U V)):=by unfold NM at h;rw[dr,dr]at h;omega
theorem NM.swap{U V:Wl}(h:NM U V):NM V U:=Or.symm h
theorem x9{a b c d k:Int}(n:(0<c/\0<d)\/(c<0/\d<0)\/(0<a/\0<b)\/(a<0/\b<0))(x y:Int)(g:x<0)(h:0<y)(z:k=0)(i:a=k\/b=k)(id:d*x-c*y=0):False:=by
 rcases n with⟨e,f⟩|⟨e,f⟩|⟨e,f⟩|⟨e,f⟩
 ·have:=Io f g;have:=Ip e h;omega
 ·have:=IT f g;have:=IE e h;omega
 ·omega
 ·omega
theorem NM.or{U V:Wl}(h:NM U V):(0<sd1 V U/\0<sd2 V U)\/(sd1 V U<0/\sd2 V U<0)\/(0<sd1 U V/\0<sd2 U V)\/(sd1 U V<0/\sd2 U V<0):=by unfold NM at h;rw[dr,dr]at h;omega
section
variable{N:Int}{U V:Wl}(n:NM U V)
include n
theorem iY(a:lN N U.1 U.2.1<lN N V.1 V.2.1)(b:lN N V.1 V.2.1<lN N U.2.2.1 U.2.2.2):sd1 U V≠0:=fun z=>by have id:=nI N U V;rw[z,Int.zero_mul]at id;exact x9 n.or _ _ () () z (.inl rfl) id.symm
theorem jC(a:lN N U.1 U.2.1<lN N V.2.2.1 V.2.2.2)(b:lN N V.2.2.1 V.2.2.2<lN N U.2.2.1 U.2.2.2):sd2 U V≠0:=fun z=>by have id:=nQ N U V;rw[z,Int.zero_mul]at id;exact x9 n.or _ _ () () z (.inr rfl) id.symm
theorem Hz(c:lN N V.1 V.2.1<lN N U.1 U.2.1)(a:lN N U.1 U.2.1<lN N V.2.2.1 V.2.2.2)(b:lN N V.2.2.1 V.2.2.2<lN N U.2.2.1 U.2.2.2)(d:sd1 V U≠0):0<sd1 V U↔sd2 U V<0:=iQ (nQ N U V) (nI N V U) c a b n.fr d (jC n a b)
theorem Hx(a:lN N U.1 U.2.1<lN N V.1 V.2.1)(b:lN N V.1 V.2.1<lN N U.2.2.1 U.2.2.2)(c:lN N U.1 U.2.1<lN N V.2.2.1 V.2.2.2)(d:lN N V.2.2.1 V.2.2.2<lN N U.2.2.1 U.2.2.2):0<sd1 U V↔0<sd2 U V:=within (nI N V U) (nQ N V U) a c b d n.swap.fr (iY n a b) (jC n c d)
theorem HK(a:lN N V.1 V.2.1<lN N U.1 U.2.1)(b:lN N U.1 U.2.1<lN N V.2.2.1 V.2.2.2)(c:lN N V.1 V.2.1<lN N U.2.2.1 U.2.2.2)(d:lN N U.2.2.1 U.2.2.2<lN N V.2.2.1 V.2.2.2)(e:sd1 V U≠0)(f:sd2 V U≠0):0<sd1 V U↔0<sd2 V U:=within (nI N U V) (nQ N U V) a c b d n.fr e f
theorem Hv(a:lN N U.1 U.2.1<lN N V.1 V.2.1)(b:lN N V.1 V.2.1<lN N U.2.2.1 U.2.2.2)(c:lN N U.2.2.1 U.2.2.2<lN N V.2.2.1 V.2.2.2)(d:sd2 V U≠0):0<sd1 U V↔sd2 V U<0:=iQ (nQ N V U) (nI N U V) a b c n.swap.fr (iY n a b) d
end
def Pl(N m p q a:Int):Prop:=∀x y:Int,(0<=y/\y<=20)->(100*x+y<=a↔lN N (m*x) (m*y)<=lN N p q)
section
variable{ws:List Wl}(hU:∀w∈ws,Un5 w)(hF:PF ws){d:Nat->Int}(fl:Flow ws d)
theorem eW(w:Wl)(m p q p' q':Int):sd1 (uby m w) (p,q,p',q')=m*sL w m p q:=by unfold sd1 sd uby sL crs;dsimp only;grind
theorem fM(w:Wl)(m p q p' q':Int):sd2 (uby m w) (p,q,p',q')=m*sL w m p' q':=by unfold sd2 sd uby sL crs;dsimp only;grind
theorem bz{m z:Int}(a:0<m):(0<m*z↔0<z)/\(m*z<0↔z<0)/\(m*z≠0↔z≠0):=by
 rcases Ig z 0 with h|h|h
 ·have:=Io a h;omega
 ·subst h;simp
 ·have:=Ip a h;omega
def qk(m p q p' q' a:Int)(w:Wl):Bool:=if l1 w<=a then decide (0<sL w m p q)else decide (sd1 (p,q,p',q') (uby m w)<0)
section
variable{N m p q p' q' τ τ':Int}(hm:0<m){w:Wl}(W:Un5 w)(nm:NM (p,q,p',q') (uby m w))(P:Pl N m p q τ)(P':Pl N m p' q' τ')(i1:lN N (m*w.1) (m*w.2.1)≠lN N p q)(i2:lN N (m*w.2.2.1) (m*w.2.2.2)≠lN N p q)(i3:lN N (m*w.1) (m*w.2.1)≠lN N p' q')(i4:lN N (m*w.2.2.1) (m*w.2.2.2)≠lN N p' q')(c1:l1 w<=τ->τ<l2 w->sL w m p q≠0)
include hm W nm P P' i1 i2 i3 i4 c1
theorem lp{t:Int}(g:τ<t)(l:t<=τ')(e:l1 w=t\/l2 w=t):qk m p q p' q' τ w=decide (sd (p,q,p',q') (m*(t/100)) (m*(t%100))<0):=by
 have a:l1 w<=τ↔_:=P w.1 w.2.1 W.b;have n:=W.lt;unfold qk;rcases e with e|e
 ·obtain⟨x1,y1⟩:=DX W e;rw[LF (by rw[e];exact L8.mpr g),<-x1,<-y1];rfl
 ·obtain⟨x1,y1⟩:=DP W e;have o:sd (p,q,p',q') (m*(t/100)) (m*(t%100))=sd2 (p,q,p',q') (uby m w):=by rw[<-x1,<-y1];rfl
  rw[o];have b:l2 w<=τ↔_:=P w.2.2.1 w.2.2.2 W.d;have r:l2 w<=τ'↔_:=P' w.2.2.1 w.2.2.2 W.d;have k1:τ<l2 w:=by rw[e];exact g
  have h:l2 w<=τ':=by rw[e];exact l
  have c:=L8.mp fun y=>L8.mpr k1 (b.mpr y);have f:=KQ.mpr ⟨r.mp h,i4⟩;by_cases z:l1 w<=τ
  ·rw[LG z];have s:=bz (z:=sL w m p q) hm;have i:=Hz (N:=N) nm (KQ.mpr ⟨a.mp z,i1⟩) c f (by rw[eW];exact s.2.2.mpr (c1 z k1));rw[eW]at i;rw[LK,<-s.1];exact i
  ·rw[LF z];have u:l1 w<=τ'↔_:=P' w.1 w.2.1 W.b;have j:=L8.mp fun y=>z (a.mpr y);have k:=KQ.mpr ⟨u.mp (Int.le_trans (J9 n) h),i3⟩;have i:=Hx (N:=N) nm j k c f;have v:=iY (N:=N) nm j k;have x:=jC (N:=N) nm c f;clear j k c f a u b r k1 h n g l z x1 y1 o e;rw[LK];omega
theorem rC(k:τ<=τ')(lt:lN N p q<lN N p' q')(s:sp w τ'=LC)(l:sL w m p' q'≠0):qk m p q p' q' τ w=decide (0<sL w m p' q'):=by
 have a:l1 w<=τ↔_:=P w.1 w.2.1 W.b;have n:l1 w<=τ'↔_:=P' w.1 w.2.1 W.b;have o:l2 w<=τ'↔_:=P' w.2.2.1 w.2.2.2 W.d;have e:=aM.mp s;have c:=bz (z:=sL w m p' q') hm;have i:sd2 (uby m w) (p,q,p',q')≠0:=by rw[fM];exact c.2.2.mpr l
 have f:=L8.mp fun z=>L8.mpr e.2 (o.mpr z);have g:=KQ.mpr ⟨n.mp e.1,i3⟩;unfold qk;by_cases z:l1 w<=τ
 ·rw[LG z];have r:=bz (z:=sL w m p q) hm;have h:=HK (N:=N) nm (KQ.mpr ⟨a.mp z,i1⟩) (Int.lt_trans lt f) g f (by rw[eW];exact r.2.2.mpr (c1 z (Int.lt_of_le_of_lt k e.2))) i;rw[eW,fM]at h;rw[LK,<-r.1,<-c.1];exact h
 ·rw[LF z];have j:=L8.mp fun y=>z (a.mpr y);have h:=Hv (N:=N) nm j g f i;have t:=iY (N:=N) nm j g;rw[fM]at h i;rw[LK,<-c.1];clear j g f a n o e z lt k s l c;omega
end
include hU hF fl in
theorem uD{N m p q p' q' f e:Int}(n:0<m)(lt:lN N p q<lN N p' q')(B:f<=e)(P:Pl N m p q f)(o:Pl N m p' q' e)(inj:∀k,k<ws.length->lN N (m*(wn ws k).1) (m*(wn ws k).2.1)≠lN N p q/\lN N (m*(wn ws k).2.2.1) (m*(wn ws k).2.2.2)≠lN N p q/\lN N (m*(wn ws k).1) (m*(wn ws k).2.1)≠lN N p' q'/\lN N (m*(wn ws k).2.2.1) (m*(wn ws k).2.2.2)≠lN N p' q')
 (A:At ws m p q f) (r:At ws m p' q' e) (off:∀k,k<ws.length->(spx (wn ws k) m p q->sL (wn ws k) m p q≠0)/\(spx (wn ws k) m p' q'->sL (wn ws k) m p' q'≠0)) (u:∀k,k<ws.length->NM (p,q,p',q') (uby m (wn ws k))):Vs ws d m p q=Vs ws d m p' q':=by
 have v:∀k,k<ws.length->l1 (wn ws k)<=f->f<l2 (wn ws k)->sL (wn ws k) m p q≠0:=fun k c a b=>(off k c).1 ((A k c).mpr (aM.mpr ⟨a,b⟩))
 have C:Vs ws d m p q=Phi ws d (fun k=>qk m p q p' q' f (wn ws k)) f:=by
  unfold Vs Phi
  refine aK fun k c=>?_
  show _=if(sp (wn ws k) f&&qk m p q p' q' f (wn ws k))=LC then d k else 0
  by_cases s:sp (wn ws k) f=LC
  ·unfold qk
   rw[s,Jl,LG (aM.mp s).1]
   by_cases z:0<sL (wn ws k) m p q
   ·rw[LG ⟨(A k c).mpr s,z⟩,LG (by simpa using z)]
   ·rw[LF fun y=>z y.2,LF (by simpa using z)]
  ·rw[LF fun z=>s ((A k c).mp z.1),LF fun z=>s (by rw[ID]at z;exact z.1)]
 have x:=dO hU fl (q:=fun k=>qk m p q p' q' f (wn ws k)) (e-f).toNat f fun s D E=>⟨_,fun k c t=>by
  obtain⟨h,i,j,l⟩:=inj k c
  exact lp n (aH hU c) (u k c) P o h i j l (v k c) D () t⟩
 rw[show f+((e-f).toNat:Int)=e by omega]at x
 rw[C,<-x]
 unfold Vs Phi
 refine aK fun k c=>?_
 show(if(sp (wn ws k) e&&qk m p q p' q' f (wn ws k))=LC then d k else 0)=_
 by_cases s:sp (wn ws k) e=LC
 ·obtain⟨h,i,j,l⟩:=inj k c
  have g:=(r k c).mpr s
  rw[s,Jl,rC n (aH hU c) (u k c) P o h i j l (v k c) B lt s ((off k c).2 g)]
  by_cases z:0<sL (wn ws k) m p' q'
  ·rw[LG (by simpa using z),LG ⟨g,z⟩]
  ·rw[LF (by simpa using z),LF fun y=>z y.2]
 ·rw[LF fun z=>s (by rw[ID]at z;exact z.1),LF fun z=>s ((r k c).mp z.1)]
end
theorem zA{N:Int}(a:100<=N){w:Wl}(h:Un5 w):0<lN N (w.2.2.1-w.1) (w.2.2.2-w.2.1):=by
 have lt:=h.lt;have b:=h.b;have d:=h.d
 unfold l1 l2 la at lt;unfold lN;by_cases z:w.2.2.1-w.1=0
 ·rw[z,JT];omega
 ·have:=Int.mul_le_mul a (():1<=w.2.2.1-w.1) ⋯ (():0<=N);omega
theorem uH{N:Int}(r:100<=N){v k:Wl}{m p q:Int}(A:0<m)(f:Un5 v)(g:Un5 k)(F:Fair v k)(i:max (l1 v) (l1 k)<min (l2 v) (l2 k))(a:abv v k=LC)(B:lN N (m*v.1) (m*v.2.1)<=lN N p q)(C:lN N p q<=lN N (m*v.2.2.1) (m*v.2.2.2))(D:lN N (m*k.1) (m*k.2.1)<=lN N p q)(E:lN N p q<=lN N (m*k.2.2.1) (m*k.2.2.2)):(0<sL v m p q->0<sL k m p q)/\(0<=sL v m p q->0<=sL k m p q):=by
 have o:=bC.mp i;have j:=zA r f;have l:=zA r g;have t:lN N (v.2.2.1-v.1) (v.2.2.2-v.2.1)*sL k m p q=lN N (k.2.2.1-k.1) (k.2.2.2-k.2.1)*sL v m p q+(lN N (k.2.2.1-k.1) (k.2.2.2-k.2.1)*(m * -sd1 v k)+(lN N p q-lN N (m*k.1) (m*k.2.1)) * -vc (dw v) (dw k)):=by unfold sL sd1 sd vc dw crs lN;grind
 have u:lN N (v.2.2.1-v.1) (v.2.2.2-v.2.1)*sL k m p q=lN N (k.2.2.1-k.1) (k.2.2.2-k.2.1)*sL v m p q+(lN N (v.2.2.1-v.1) (v.2.2.2-v.2.1)*(m*sd1 k v)+(lN N p q-lN N (m*v.1) (m*v.2.1)) * -vc (dw v) (dw k)):=by unfold sL sd1 sd vc dw crs lN;grind
 have w:lN N (v.2.2.1-v.1) (v.2.2.2-v.2.1)*sL k m p q=lN N (k.2.2.1-k.1) (k.2.2.2-k.2.1)*sL v m p q+(lN N (k.2.2.1-k.1) (k.2.2.2-k.2.1)*(m * -sd2 v k)+(lN N (m*k.2.2.1) (m*k.2.2.2)-lN N p q)*vc (dw v) (dw k)):=by unfold sL sd2 sd vc dw crs lN;grind
 have z:lN N (v.2.2.1-v.1) (v.2.2.2-v.2.1)*sL k m p q=lN N (k.2.2.1-k.1) (k.2.2.2-k.2.1)*sL v m p q+(lN N (v.2.2.1-v.1) (v.2.2.2-v.2.1)*(m*sd2 k v)+(lN N (m*v.2.2.1) (m*v.2.2.2)-lN N p q)*vc (dw v) (dw k)):=by unfold sL sd2 sd vc dw crs lN;grind
 have d:∀{x y:Int},0<=x->0<=y->0<=x*y:=fun a b=>Jw a b;by_cases c:vc (dw v) (dw k)<=0
 ·by_cases h:l1 k<l1 v
  ·have:=lO i h;rw[a]at this;have:=LJ this.symm;exact dn j l u (Kx (d () (d () ())) (d () ()))
  ·have s:sd1 v k<=0:=by
    by_cases e:l1 v=l1 k
    ·rw[ve f g e];omega
    ·have:=kd i ();rw[a]at this;have:=LJ this.symm;omega
   exact dn j l t (Kx (d () (d () ())) (d () ()))
 ·by_cases h:l2 v<l2 k
  ·have n:=du f g F i;rw[a,gM g f F.swap o.2.2.1 h]at n;have n:=of_decide_eq_false n;exact dn j l z (Kx (d () (d () ())) (d () ()))
  ·have s:sd2 v k<=0:=by
    by_cases e:l2 v=l2 k
    ·rw[mH f g e];omega
    ·have:=gM f g F o.2.1 ();rw[a]at this;have:=LJ this.symm;omega
   exact dn j l w (Kx (d () (d () ())) (d () ()))
section
variable{ws:List Wl}(hU:∀w∈ws,Un5 w)(hF:PF ws){d:Nat->Int}(fl:Flow ws d){j:Nat}(hj:j<ws.length){N m p q p' q' τ τ':Int}(hN:100<=N)(hm:0<m)(lt:lN N p q<lN N p' q')(tt:τ<=τ')(P:Pl N m p q τ)(P':Pl N m p' q' τ')
 (inj:∀k,k<ws.length->lN N (m*(wn ws k).1) (m*(wn ws k).2.1)≠lN N p q/\lN N (m*(wn ws k).2.2.1) (m*(wn ws k).2.2.2)≠lN N p q/\lN N (m*(wn ws k).1) (m*(wn ws k).2.1)≠lN N p' q'/\lN N (m*(wn ws k).2.2.1) (m*(wn ws k).2.2.2)≠lN N p' q')
 (A:At ws m p q τ) (A':At ws m p' q' τ') (nm:∀k,k<ws.length->k≠j->NM (p,q,p',q') (uby m (wn ws k)))
include hU hF hj hN hm in
theorem zB{p q τ:Int}(P:Pl N m p q τ)(z:sL (wn ws j) m p q=0)(h:sp (wn ws j) τ=LC){k:Nat}(c:k<ws.length)(ne:k≠j)(i:sp (wn ws k) τ=LC)(nz:sL (wn ws k) m p q≠0):abv (wn ws j) (wn ws k)=decide (0<sL (wn ws k) m p q):=by
 have J:=aH hU hj;have K:=aH hU c;have F:=aU hF hj c (fun y=>ne y.symm);have l:=aM.mp h;have o:=aM.mp i;have a:max (l1 (wn ws j)) (l1 (wn ws k))<min (l2 (wn ws j)) (l2 (wn ws k)):=bC.mpr ⟨(),(),(),()⟩;have e:=a;rw[Int.max_comm,Int.min_comm]at e;have f:=(P _ _ J.b).mp (show 100*(wn ws j).1+(wn ws j).2.1<=τ from l.1)
 have r:¬lN N (m*(wn ws j).2.2.1) (m*(wn ws j).2.2.2)<=lN N p q:=fun y=>by
  have:=(P _ _ J.d).mpr y
  have:l2 (wn ws j)<=τ:=this
  omega
 have g:=(P _ _ K.b).mp (show 100*(wn ws k).1+(wn ws k).2.1<=τ from o.1)
 have s:¬lN N (m*(wn ws k).2.2.1) (m*(wn ws k).2.2.2)<=lN N p q:=fun y=>by
  have:=(P _ _ K.d).mpr y
  have:l2 (wn ws k)<=τ:=this
  omega
 have n:=du J K F a;cases y:abv (wn ws j) (wn ws k)with
 |true=>
  have:=(uH hN hm J K F a y f () g ()).2 ()
  rw[LI ()]
 |false=>
  rw[y]at n
  have:=(uH hN hm K J F.swap e n g () f ()).1
  rw[LH (fun q=>by have:=this q;omega)]
include hU hF fl hj hN hm lt tt P P' inj A A' nm
theorem AY(off:∀k,k<ws.length->(spx (wn ws k) m p q->sL (wn ws k) m p q≠0)/\(k≠j->spx (wn ws k) m p' q'->sL (wn ws k) m p' q'≠0))(z:sL (wn ws j) m p' q'=0)(g:sp (wn ws j) τ'=LC):Vs ws d m p q=Bw ws d j+(if 0<sL (wn ws j) m p q then d j else 0):=by
 have J:=aH hU hj;have x:∀k,k<ws.length->l1 (wn ws k)<=τ->τ<l2 (wn ws k)->sL (wn ws k) m p q≠0:=fun k f a b=>(off k f).1 ((A k f).mpr (aM.mpr ⟨a,b⟩))
 have C:Vs ws d m p q=Phi ws d (fun k=>qk m p q p' q' τ (wn ws k)) τ:=by
  unfold Vs Phi;refine aK fun k f=>?_;show _=if(sp (wn ws k) τ&&qk m p q p' q' τ (wn ws k))=LC then d k else 0;by_cases s:sp (wn ws k) τ=LC
  ·unfold qk;rw[s,Jl,LG (aM.mp s).1];by_cases z:0<sL (wn ws k) m p q
   ·rw[LG ⟨(A k f).mpr s,z⟩,LG (by simpa using z)]
   ·rw[LF fun y=>z y.2,LF (by simpa using z)]
  ·rw[LF fun z=>s ((A k f).mp z.1),LF fun z=>s (by rw[ID]at z;exact z.1)]
 have u:=aM.mp g
 have B:=dO hU fl (q:=fun k=>qk m p q p' q' τ (wn ws k)) (τ'-τ).toNat τ fun s i v=>⟨decide (sd (p,q,p',q') (m*(s/100)) (m*(s%100))<0),fun k f t=>by
  obtain⟨l,n,o,r⟩:=inj k f
  by_cases e:k=j
  ·subst e;rcases t with t|t
   ·obtain⟨x1,y1⟩:=DX J t;show qk m p q p' q' τ (wn ws k)=_;unfold qk;rw[LF (),<-x1,<-y1];rfl
   ·omega
  ·exact lp hm (aH hU f) (nm k f e) P P' l n o r (x k f) i () t⟩
 rw[show τ+((τ'-τ).toNat:Int)=τ' by omega]at B
 have D:qk m p q p' q' τ (wn ws j)=decide (0<sL (wn ws j) m p q):=by
  unfold qk;by_cases y:l1 (wn ws j)<=τ
  ·rw[LG y]
  ·rw[LF y,LK];have id:=nI N (p,q,p',q') (uby m (wn ws j));rw[eW,fM,z,JT,Int.zero_mul]at id;have id:sd1 (p,q,p',q') (uby m (wn ws j))*(lN N (m*(wn ws j).2.2.1) (m*(wn ws j).2.2.2)-lN N (m*(wn ws j).1) (m*(wn ws j).2.1))=0-m*sL (wn ws j) m p q*(lN N p' q'-lN N (m*(wn ws j).1) (m*(wn ws j).2.1)):=id;obtain⟨l,n,o,r⟩:=inj j hj;have F:=(P' _ _ J.b).mp (show 100*(wn ws j).1+(wn ws j).2.1<=τ' from u.1)
   have G:¬lN N (m*(wn ws j).2.2.1) (m*(wn ws j).2.2.2)<=lN N p' q':=fun y=>by
    have:=(P' _ _ J.d).mpr y
    have:l2 (wn ws j)<=τ':=this
    omega
   have i:0<lN N p' q'-lN N (m*(wn ws j).1) (m*(wn ws j).2.1):=()
   have v:0<lN N (m*(wn ws j).2.2.1) (m*(wn ws j).2.2.2)-lN N (m*(wn ws j).1) (m*(wn ws j).2.1):=()
   generalize lN N (m*(wn ws j).2.2.1) (m*(wn ws j).2.2.2)-lN N (m*(wn ws j).1) (m*(wn ws j).2.1)=H at *;generalize lN N p' q'-lN N (m*(wn ws j).1) (m*(wn ws j).2.1)=I at *;generalize sd1 (p,q,p',q') (uby m (wn ws j))=a at *;have E:=bz (z:=sL (wn ws j) m p q) hm;rw[<-E.1];generalize m*sL (wn ws j) m p q=c at *;constructor
   ·intro h;have:=IE h v;exact dQ i ()
   ·intro h;have:=Ip h i;exact fD v ()
 have one:∀b:Prop,[Decidable b]->(if b then d j else 0)=sg ws.length (fun k=>if k=j/\b then d k else 0):=fun b _=>by
  by_cases h:b
  ·rw[LG h,aK (h:=fun k=>if k=j then d k else 0) fun k _=>by simp[h],ez,LG hj]
  ·rw[LF h,bU fun k _=>LF fun z=>h z.2]
 rw[C,<-B,one,<-fu hU hF fl hj g];unfold Phi;rw[<-cL];refine aK fun k f=>?_;show(if(sp (wn ws k) τ'&&qk m p q p' q' τ (wn ws k))=LC then d k else 0)=(if(sp (wn ws k) τ'&&abv (wn ws j) (wn ws k))=LC then d k else 0)+_;by_cases e:k=j
 ·subst e;rw[D,g,bQ J,LF (⋯:¬(LC&&LD)=LC),Jl,Int.zero_add];by_cases y:0<sL (wn ws k) m p q
  ·rw[LG (by simpa using y),LG ⟨rfl,y⟩]
  ·rw[LF (by simpa using y),LF fun w=>y w.2]
 ·rw[LF (show ¬(k=j/\_)from fun w=>e w.1),Int.add_zero];cases s:sp (wn ws k) τ' with
  |false=>rw[J7,J7]
  |true=>
   obtain⟨l,n,o,r⟩:=inj k f
   have nz:=(off k f).2 e ((A' k f).mpr s)
   rw[rC hm (aH hU f) (nm k f e) P P' l n o r (x k f) tt lt s nz,zB hU hF hj hN hm P' z g f e s nz]
theorem vA(off:∀k,k<ws.length->(k≠j->spx (wn ws k) m p q->sL (wn ws k) m p q≠0)/\(spx (wn ws k) m p' q'->sL (wn ws k) m p' q'≠0))(z:sL (wn ws j) m p q=0)(i:sp (wn ws j) τ=LC):Vs ws d m p' q'=Bw ws d j+(if 0<sL (wn ws j) m p' q' then d j else 0):=by
 have J:=aH hU hj;have n:=aM.mp i;have B:∀k,k<ws.length->k≠j->l1 (wn ws k)<=τ->τ<l2 (wn ws k)->sL (wn ws k) m p q≠0:=fun k f e a b=>(off k f).1 e ((A k f).mpr (aM.mpr ⟨a,b⟩))
 have one:∀b:Prop,[Decidable b]->(if b then d j else 0)=sg ws.length (fun k=>if k=j/\b then d k else 0):=fun b _=>by
  by_cases h:b
  ·rw[LG h,aK (h:=fun k=>if k=j then d k else 0) fun k _=>by simp[h],ez,LG hj]
  ·rw[LF h,bU fun k _=>LF fun z=>h z.2]
 have D:Bw ws d j+(if 0<sL (wn ws j) m p' q' then d j else 0)=Phi ws d (fun k=>if k=j then decide (0<sL (wn ws j) m p' q')else qk m p q p' q' τ (wn ws k)) τ:=by
  rw[one,<-fu hU hF fl hj i];unfold Phi;rw[<-cL];refine aK fun k f=>?_;show(if(sp (wn ws k) τ&&abv (wn ws j) (wn ws k))=LC then d k else 0)+_=if(sp (wn ws k) τ&&(if k=j then decide (0<sL (wn ws j) m p' q')else qk m p q p' q' τ (wn ws k)))=LC then d k else 0;by_cases e:k=j
  ·subst e;rw[i,bQ J,LF (⋯:¬(LC&&LD)=LC),LG rfl,Jl,Int.zero_add];by_cases y:0<sL (wn ws k) m p' q'
   ·rw[LG ⟨rfl,y⟩,LG (by simpa using y)]
   ·rw[LF fun w=>y w.2,LF (by simpa using y)]
  ·rw[LF (show ¬(k=j/\_)from fun w=>e w.1),Int.add_zero,LF e];cases s:sp (wn ws k) τ with
   |false=>rw[J7,J7]
   |true=>
    have nz:=(off k f).1 e ((A k f).mpr s)
    unfold qk
    rw[zB hU hF hj hN hm P z i f e s nz,LG (aM.mp s).1]
 have C:=dO hU fl (q:=fun k=>if k=j then decide (0<sL (wn ws j) m p' q')else qk m p q p' q' τ (wn ws k)) (τ'-τ).toNat τ fun s l o=>⟨decide (sd (p,q,p',q') (m*(s/100)) (m*(s%100))<0),fun k f t=>by
  show(if k=j then decide (0<sL (wn ws j) m p' q')else qk m p q p' q' τ (wn ws k))=_
  obtain⟨r,u,v,x⟩:=inj k f
  by_cases e:k=j
  ·subst e;have t:l2 (wn ws k)=s:=t.resolve_left ();obtain⟨x1,y1⟩:=DP J t;have E:sd (p,q,p',q') (m*(s/100)) (m*(s%100))=sd2 (p,q,p',q') (uby m (wn ws k)):=by rw[<-x1,<-y1];rfl
   rw[LG rfl,E,LK];have id:=nQ N (p,q,p',q') (uby m (wn ws k));rw[eW,fM,z,JT,Int.zero_mul]at id;have id:sd2 (p,q,p',q') (uby m (wn ws k))*(lN N (m*(wn ws k).2.2.1) (m*(wn ws k).2.2.2)-lN N (m*(wn ws k).1) (m*(wn ws k).2.1))=m*sL (wn ws k) m p' q'*(lN N p q-lN N (m*(wn ws k).2.2.1) (m*(wn ws k).2.2.2))-0:=id;have G:=(P _ _ J.b).mp (show 100*(wn ws k).1+(wn ws k).2.1<=τ from n.1)
   have H:¬lN N (m*(wn ws k).2.2.1) (m*(wn ws k).2.2.2)<=lN N p q:=fun y=>by
    have:=(P _ _ J.d).mpr y
    have:l2 (wn ws k)<=τ:=this
    omega
   have l:lN N p q-lN N (m*(wn ws k).2.2.1) (m*(wn ws k).2.2.2)<0:=()
   have o:0<lN N (m*(wn ws k).2.2.1) (m*(wn ws k).2.2.2)-lN N (m*(wn ws k).1) (m*(wn ws k).2.1):=()
   generalize lN N (m*(wn ws k).2.2.1) (m*(wn ws k).2.2.2)-lN N (m*(wn ws k).1) (m*(wn ws k).2.1)=I at *;generalize lN N p q-lN N (m*(wn ws k).2.2.1) (m*(wn ws k).2.2.2)=K at *;generalize sd2 (p,q,p',q') (uby m (wn ws k))=a at *;have F:=bz (z:=sL (wn ws k) m p' q') hm;rw[<-F.1];generalize m*sL (wn ws k) m p' q'=c at *;constructor
   ·intro h;have:=Io h l;exact fD o ()
   ·intro h;have:=IE h o;rcases Ig c 0 with y|y|y
    ·have:=IT y l;omega
    ·subst y;rw[Int.zero_mul]at id;omega
    ·exact y
  ·rw[LF e];exact lp hm (aH hU f) (nm k f e) P P' r u v x (B k f e) l () t⟩
 rw[show τ+((τ'-τ).toNat:Int)=τ' by omega]at C;rw[D,<-C];unfold Vs Phi;refine aK fun k f=>?_;show _=(if(sp (wn ws k) τ'&&(if k=j then decide (0<sL (wn ws j) m p' q')else qk m p q p' q' τ (wn ws k)))=LC then d k else 0);by_cases s:sp (wn ws k) τ'=LC
 ·obtain⟨r,u,v,x⟩:=inj k f;have g:=(A' k f).mpr s
  have key:(if k=j then decide (0<sL (wn ws j) m p' q')else qk m p q p' q' τ (wn ws k))=decide (0<sL (wn ws k) m p' q'):=by
   by_cases e:k=j
   ·subst e;rw[LG rfl]
   ·rw[LF e,rC hm (aH hU f) (nm k f e) P P' r u v x (B k f e) tt lt s ((off k f).2 g)]
  rw[s,Jl,key];by_cases y:0<sL (wn ws k) m p' q'
  ·rw[LG ⟨g,y⟩,LG (by simpa using y)]
  ·rw[LF fun w=>y w.2,LF (by simpa using y)]
 ·rw[LF fun y=>s ((A' k f).mp y.1),LF fun y=>s (by rw[ID]at y;exact y.1)]
end
def plM(M x y:Int):Int:=if x%M=0 then(if y/M<0 then 100*(x/M)-1 else 100*(x/M)+y/M)else 100*(x/M)+99
theorem El{M x y X Y:Int}(c:0<M)(g:-(80*M)<=y/\y<90*M)(i:0<=Y/\Y<=20):¬(x<M*X\/(x=M*X/\y<M*Y))↔100*X+Y<=plM M x y:=by
 have e:=Int.mul_ediv_add_emod x M;have j:=Int.emod_nonneg x (():M≠0);have k:=Int.emod_lt_of_pos x c;have y0:=(Int.le_ediv_iff_mul_le (a:=-80) (b:=y) c).mpr ();have y1:=(Int.ediv_lt_iff_lt_mul (a:=y) (b:=90) c).mpr ();have l:=Int.le_ediv_iff_mul_le (a:=Y) (b:=y) c;have d:=Int.le_ediv_iff_mul_le (a:=X) (b:=x) c;have m:Y*M=M*Y:=Int.mul_comm ..;have n:X*M=M*X:=Int.mul_comm ..;have eq:x=M*X->x%M=0/\x/M=X:=fun h=>by subst h;exact⟨Int.mul_emod_right _ _,Int.mul_ediv_cancel_left _ ()⟩
 unfold plM;generalize x/M=a at *;generalize x%M=r at *;generalize y/M=b at *;split
 ·rename_i z;have xe:X=a->x=M*X:=fun h=>by subst h;omega
  split <;>
  (rcases Ig X a with h|h|h
   ·have:M*X<x:=by
     have f:=IF (():X+1<=a) (():0<=M)
     rw[Int.mul_add]at f
     omega
    omega
   ·have:=xe h
    omega
   ·have:¬X*M<=x:=fun q=>by have:=d.mpr q;omega
    omega)
 ·rename_i z;have ne:x≠M*X:=fun h=>z (eq h).1;omega
theorem pL{M x y:Int}(b:0<M)(c:-(80*M)<=y/\y<90*M):Pl (1000*M) M x y (plM M x y):=fun X Y a=>by
 rw[<-El b c a];have b0:=Jw (():0<=M) a.1;have b1:=IF a.2 (():0<=M);unfold lN;have e:1000*M*x-1000*M*(M*X)=1000*(M*(x-M*X)):=by grind
 rcases Ig x (M*X)with h|h|h
 ·have:=IF (():x-M*X<=-1) (():0<=M);omega
 ·rw[h];omega
 ·have:=IF (():1<=x-M*X) (():0<=M);omega
theorem gx{ws:List Wl}(f:∀w∈ws,Un5 w){M x y:Int}(c:0<M)(e:-(80*M)<=y/\y<90*M):At ws M x y (plM M x y):=fun k g=>by have W:=aH f g;have a:=El (x:=x) (X:=(wn ws k).1) c e W.b;have b:=El (x:=x) (X:=(wn ws k).2.2.1) c e W.d;rw[aM];exact⟨fun h=>⟨a.mp h.1,L8.mp fun z=>b.mpr z h.2⟩,fun h=>⟨a.mpr h.1,K9 fun z=>absurd (b.mp z) (L8.mpr h.2)⟩⟩
theorem iO{M x y c d:Int}(f:0<M)(l:-(80*M)<=y/\y<90*M)(g:-(80*M)<=d/\d<90*M)(h:lN (1000*M) x y<=lN (1000*M) c d):plM M x y<=plM M c d:=by
 have i:x<c\/(x=c/\y<=d):=by
  unfold lN at h
  have e:1000*M*x-1000*M*c=1000*(M*(x-c)):=by grind
  rcases Ig x c with z|z|z
  ·exact .inl z
  ·subst z;exact .inr ⟨rfl,()⟩
  ·exfalso;have:=IF (():1<=x-c) (():0<=M);omega
 have y1:=(Int.ediv_lt_iff_lt_mul (a:=y) (b:=90) f).mpr ();rcases i with z|⟨z,j⟩
 ·have m:=Int.ediv_le_ediv f (J9 z);have e:=Int.mul_ediv_add_emod x M;have n:=Int.mul_ediv_add_emod c M;have o:=Int.emod_nonneg x (():M≠0);unfold plM;generalize y/M=b at *;generalize d/M=k at *;by_cases q:x/M=c/M
  ·rw[q]at e ⊢;have:c%M≠0:=()
   rw[LF this];split<;>(try split)<;>omega
  ·split<;>split<;>(try split)<;>(try split)<;>omega
 ·subst z;have m:=Int.ediv_le_ediv f j;unfold plM;generalize y/M=b at *;generalize d/M=k at *;split<;>(try split)<;>(try split)<;>omega
theorem pE(w:Wl)(g m p q:Int):sL w (m*g) (g*p) (g*q)=g*sL w m p q:=by unfold sL;grind
theorem ze(w:Wl)(m p q p' q' e f:Int):sL w (m*(e+f)) (f*p+e*p') (f*q+e*q')=f*sL w m p q+e*sL w m p' q':=by unfold sL;grind
theorem Ar{g:Int}(c:0<g)(w:Wl)(m p q:Int):spx w (m*g) (g*p) (g*q)↔spx w m p q:=by
 unfold spx;have lt:∀a b:Int,g*a<m*g*b↔a<m*b:=fun a b=>by rw[show m*g*b=g*(m*b) by grind];exact⟨fun h=>K8 h (),fun h=>Ky h c⟩
 have eq:∀a b:Int,g*a=m*g*b↔a=m*b:=fun a b=>by rw[show m*g*b=g*(m*b) by grind];exact⟨fun h=>Int.eq_of_mul_eq_mul_left () h,fun h=>by rw[h]⟩
 rw[lt,lt,eq,lt,lt,eq]
theorem CW{g:Int}(b:0<g)(ws:List Wl)(d:Nat->Int)(m p q:Int):Vs ws d (m*g) (g*p) (g*q)=Vs ws d m p q:=by
 unfold Vs;refine aK fun k c=>?_;have a:BL ws (m*g) (g*p) (g*q) k↔BL ws m p q k:=by unfold BL;rw[Ar b,pE,(bz b).1]
 by_cases h:BL ws m p q k
 ·rw[LG h,LG (a.mpr h)]
 ·rw[LF h,LF fun z=>h (a.mp z)]
theorem AE{w:Wl}{m p q p' q' e f:Int}(h:0<m)(k:0<e)(l:0<f)(n:NM (p,q,p',q') (uby m w)):NM ((e+f)*p,(e+f)*q,f*p+e*p',f*q+e*q') (uby (m*(e+f)) w)/\NM (f*p+e*p',f*q+e*q',(e+f)*p',(e+f)*q') (uby (m*(e+f)) w):=by
 have o:=n.or;rw[eW,fM]at o;have g:0<e+f:=()
 have mg:0<m*(e+f):=Ip h g;have r:sd1 ((e+f)*p,(e+f)*q,f*p+e*p',f*q+e*q') (uby (m*(e+f)) w)=(e*(e+f))*sd1 (p,q,p',q') (uby m w):=by unfold sd1 sd uby crs;dsimp only;grind
 have b1:sd2 ((e+f)*p,(e+f)*q,f*p+e*p',f*q+e*q') (uby (m*(e+f)) w)=(e*(e+f))*sd2 (p,q,p',q') (uby m w):=by unfold sd2 sd uby crs;dsimp only;grind
 have s:sd1 (f*p+e*p',f*q+e*q',(e+f)*p',(e+f)*q') (uby (m*(e+f)) w)=(f*(e+f))*sd1 (p,q,p',q') (uby m w):=by unfold sd1 sd uby crs;dsimp only;grind
 have t:sd2 (f*p+e*p',f*q+e*q',(e+f)*p',(e+f)*q') (uby (m*(e+f)) w)=(f*(e+f))*sd2 (p,q,p',q') (uby m w):=by unfold sd2 sd uby crs;dsimp only;grind
 have i:=Ip k g;have j:=Ip l g;unfold NM;rw[r,b1,s,t,eW,fM,eW,fM,pE,pE,ze,dr,dr,dr,dr,(bz i).1,(bz i).1,(bz i).2.1,(bz i).2.1,(bz j).1,(bz j).1,(bz j).2.1,(bz j).2.1,(bz mg).1,(bz mg).1,(bz mg).1,(bz mg).2.1,(bz mg).2.1,(bz mg).2.1,(bz g).1,(bz g).1,(bz g).2.1,(bz g).2.1];rw[(bz h).1,(bz h).1,(bz h).2.1,(bz h).2.1]at o;generalize sL w m p q=c at *;generalize sL w m p' q'=d at *;rcases o with⟨a,b⟩|⟨a,b⟩|⟨a,b⟩|⟨a,b⟩
 ·have x:=Ip l a;have y:=Ip k b;exact⟨.inl (.inl ⟨a,()⟩),.inl (.inl ⟨(),b⟩)⟩
 ·have x:=Io l a;have y:=Io k b;exact⟨.inl (.inr ⟨a,()⟩),.inl (.inr ⟨(),b⟩)⟩
 ·exact⟨.inr (.inl ⟨a,b⟩),.inr (.inl ⟨a,b⟩)⟩
 ·exact⟨.inr (.inr ⟨a,b⟩),.inr (.inr ⟨a,b⟩)⟩
theorem gL{M x y a b:Int}(d:0<M)(f:-(80*M)<=y/\y<90*M)(c:-(80*M)<=b/\b<90*M)(h:lN (1000*M) x y=lN (1000*M) a b):x=a/\y=b:=by
 unfold lN at h;have e:1000*M*x-1000*M*a=1000*(M*(x-a)):=by grind
 rcases Ig x a with z|z|z
 ·exfalso;have:=IF (():x-a<=-1) (():0<=M);omega
 ·subst z;exact⟨rfl,()⟩
 ·exfalso;have:=IF (():1<=x-a) (():0<=M);omega
theorem Br{g:Int}(e:0<g){w:Wl}{m p q:Int}(h:OnU w (m*g) (g*p) (g*q)):OnU w m p q:=by
 obtain⟨a,b,c⟩:=h;have lt:∀a b:Int,g*a<m*g*b↔a<m*b:=fun a b=>by rw[show m*g*b=g*(m*b) by grind];exact⟨fun h=>K8 h (),fun h=>Ky h e⟩
 have lt':∀a b:Int,m*g*b<g*a↔m*b<a:=fun a b=>by rw[show m*g*b=g*(m*b) by grind];exact⟨fun h=>K8 h (),fun h=>Ky h e⟩
 have eq:∀a b:Int,g*a=m*g*b↔a=m*b:=fun a b=>by rw[show m*g*b=g*(m*b) by grind];exact⟨fun h=>Int.eq_of_mul_eq_mul_left () h,fun h=>by rw[h]⟩
 have d:∀a b:Int,m*g*b=g*a↔m*b=a:=fun a b=>by rw[show m*g*b=g*(m*b) by grind];exact⟨fun h=>Int.eq_of_mul_eq_mul_left () h,fun h=>by rw[h]⟩
 refine⟨?_,?_,?_⟩
 ·have:g*((w.2.2.1-w.1)*(q-m*w.2.1)-(w.2.2.2-w.2.1)*(p-m*w.1))=0:=by grind
  rcases JR.mp this with z|z<;>omega
 ·rw[lt,eq,lt]at b;exact b
 ·rw[lt',d,lt']at c;exact c
theorem rZ{p q p' q':Int}{V:Wl}(h:NM (p,q,p',q') V):NM (p',q',p,q) V:=by
 have a:sd1 (p',q',p,q) V=-sd1 (p,q,p',q') V:=by unfold sd1 sd crs;dsimp only;grind
 have b:sd2 (p',q',p,q) V=-sd2 (p,q,p',q') V:=by unfold sd2 sd crs;dsimp only;grind
 have b1:sd1 V (p',q',p,q)=sd2 V (p,q,p',q'):=rfl;have c:sd2 V (p',q',p,q)=sd1 V (p,q,p',q'):=rfl;unfold NM at *;rw[a,b,b1,c,Int.sign_neg,Int.sign_neg,Int.neg_mul_neg,Int.mul_comm (Ij (sd2 V _))];exact h
section
variable{ws:List Wl}(hU:∀w∈ws,Un5 w)(hF:PF ws){d:Nat->Int}(fl:Flow ws d){j:Nat}(hj:j<ws.length)
include hU hF fl hj in
theorem uf{m g p q x y r:Int}(T:0<m)(v:0<g)(G:-(80*m)<=q/\q<90*m)(n:0<r/\r<m*g)(ex:x=ix (wn ws j) (m*g) r)(B:y=iy (wn ws j) (m*g) r)(off:∀k,k<ws.length->¬OnU (wn ws k) m p q)
 (z:sL (wn ws j) (m*g) x y=0) (H:∀k,k<ws.length->k≠j->NM (g*p,g*q,x,y) (uby (m*g) (wn ws k))/\NM (x,y,g*p,g*q) (uby (m*g) (wn ws k))):Vs ws d m p q=Bw ws d j+(if 0<sL (wn ws j) m p q then d j else 0):=by
 have J:=aH hU hj
 have i:=Ip T v
 have V:=J.a;have I:=J.b;have W:=J.c;have L:=J.d
 have D:OnU (wn ws j) (m*g) x y:=by rw[ex,B];exact A5 J n.1 n.2
 have C:∀k,k<ws.length->k≠j->¬OnU (wn ws k) (m*g) x y:=fun k f e=>by rw[ex,B];exact wa J (aH hU f) (aU hF hj f (fun z=>e z.symm)) n.1 n.2
 have ne:=xK J n.1 n.2
 rw[<-ex,<-B]at ne
 have by':-(80*(m*g))<=y/\y<90*(m*g):=by
  have a:=Jw I.1 (():0<=m*g-r)
  have b:=Jw L.1 (():0<=r)
  have c:=Int.mul_le_mul_of_nonneg_right I.2 (():0<=m*g-r)
  have e:=Int.mul_le_mul_of_nonneg_right L.2 (():0<=r)
  rw[B];unfold iy
  omega
 have t:-(80*(m*g))<=g*q/\g*q<90*(m*g):=by
  have a:=IF G.1 (():0<=g)
  have b:=Ky G.2 v
  have e1:g * -(80*m)=-(80*(m*g)):=by grind
  have e2:g*(90*m)=90*(m*g):=by grind
  omega
 have A:=gx hU (x:=g*p) i t
 have E:=gx hU (x:=x) i by'
 have P:=pL (x:=g*p) i t
 have M:=pL (x:=x) i by'
 have l:∀k,k<ws.length->¬OnU (wn ws k) (m*g) (g*p) (g*q):=fun k f h=>off k f (Br v h)
 have F:∀{w:Wl},Un5 w->(-(80*(m*g))<=m*g*w.2.1/\m*g*w.2.1<90*(m*g))/\(-(80*(m*g))<=m*g*w.2.2.2/\m*g*w.2.2.2<90*(m*g)):=fun{w} h=>by
  have b:=h.b;have N:=h.d
  have X:=Jw (():0<=m*g) b.1
  have Y:=Jw (():0<=m*g) N.1
  have Z:=IF b.2 (():0<=m*g)
  have a4:=IF N.2 (():0<=m*g)
  omega
 have inj:∀k,k<ws.length->lN (1000*(m*g)) (m*g*(wn ws k).1) (m*g*(wn ws k).2.1)≠lN (1000*(m*g)) (g*p) (g*q)/\lN (1000*(m*g)) (m*g*(wn ws k).2.2.1) (m*g*(wn ws k).2.2.2)≠lN (1000*(m*g)) (g*p) (g*q)/\lN (1000*(m*g)) (m*g*(wn ws k).1) (m*g*(wn ws k).2.1)≠lN (1000*(m*g)) x y/\lN (1000*(m*g)) (m*g*(wn ws k).2.2.1) (m*g*(wn ws k).2.2.2)≠lN (1000*(m*g)) x y:=fun k f=>by
  have K:=aH hU f
  obtain⟨O,Q⟩:=F K
  refine⟨fun e=>?_,fun e=>?_,fun e=>?_,fun e=>?_⟩
  ·obtain⟨a,b⟩:=gL i O t e
   exact l k f (fH K (.inl ⟨a.symm,b.symm⟩) i)
  ·obtain⟨a,b⟩:=gL i Q t e
   exact l k f (fH K (.inr ⟨a.symm,b.symm⟩) i)
  ·obtain⟨a,b⟩:=gL i O by' e
   by_cases q:k=j
   ·subst q;exact ne.1 ⟨a.symm,b.symm⟩
   ·exact C k f q (fH K (.inl ⟨a.symm,b.symm⟩) i)
  ·obtain⟨a,b⟩:=gL i Q by' e
   by_cases q:k=j
   ·subst q;exact ne.2 ⟨a.symm,b.symm⟩
   ·exact C k f q (fH K (.inr ⟨a.symm,b.symm⟩) i)
 have o:∀{w:Wl} {x y:Int},¬OnU w (m*g) x y->spx w (m*g) x y->sL w (m*g) x y≠0:=fun{w x y} h s e=>h ⟨by unfold sL at e;omega,s.1,by have:=s.2;omega⟩
 have R:sp (wn ws j) (plM (m*g) x y)=LC:=(E j hj).mp ⟨D.2.1,by
  have:=D.2.2
  have:=ne.2
  omega⟩
 have u:=(bz (z:=sL (wn ws j) m p q) v).1
 rw[<-pE]at u
 have U:(if 0<sL (wn ws j) m p q then d j else 0)=(if 0<sL (wn ws j) (m*g) (g*p) (g*q)then d j else 0):=by
  by_cases h:0<sL (wn ws j) m p q
  ·rw[LG h,LG (u.mpr h)]
  ·rw[LF h,LF fun y=>h (u.mp y)]
 have S:100<=1000*(m*g):=()
 rw[<-CW v,U]
 rcases Ig (lN (1000*(m*g)) (g*p) (g*q)) (lN (1000*(m*g)) x y)with h|h|h
 ·exact AY hU hF fl hj S i h (iO i t by' (J9 h)) P M inj A E (fun k f e=>(H k f e).1) (fun k f=>⟨o (l k f),fun e=>o (C k f e)⟩) z R
 ·exfalso
  obtain⟨a,b⟩:=gL i t by' h
  exact l j hj (by rw[a,b];exact D)
 ·exact vA hU hF fl hj S i h (iO i by' t (J9 h)) M P (fun k f=>by obtain⟨a,b,c,e⟩:=inj k f;exact⟨c,e,a,b⟩) E A (fun k f e=>(H k f e).2) (fun k f=>⟨fun e=>o (C k f e),o (l k f)⟩) z R
include hU hF fl hj in
theorem xF{m p q p' q':Int}(r:0<m)(C:-(80*m)<=q/\q<90*m)(u:-(80*m)<=q'/\q'<90*m)(off:∀k,k<ws.length->¬OnU (wn ws k) m p q/\¬OnU (wn ws k) m p' q')(D:∀k,k<ws.length->k≠j->NM (p,q,p',q') (uby m (wn ws k)))
 (c:(0<sL (wn ws j) m p q/\sL (wn ws j) m p' q'<0)\/(sL (wn ws j) m p q<0/\0<sL (wn ws j) m p' q')) (a:(0<sd1 (p,q,p',q') (uby m (wn ws j))/\sd2 (p,q,p',q') (uby m (wn ws j))<0)\/(sd1 (p,q,p',q') (uby m (wn ws j))<0/\0<sd2 (p,q,p',q') (uby m (wn ws j)))) :
 Vs ws d m p q=Bw ws d j+(if 0<sL (wn ws j) m p q then d j else 0)/\Vs ws d m p' q'=Bw ws d j+(if 0<sL (wn ws j) m p' q' then d j else 0):=by
 obtain⟨e,f,E,F,y⟩:∃e f:Int,0<e/\0<f/\((e=sL (wn ws j) m p q/\f=-sL (wn ws j) m p' q')\/(e=-sL (wn ws j) m p q/\f=sL (wn ws j) m p' q')):=by
  rcases c with⟨b,g⟩|⟨b,g⟩
  ·exact⟨_,_,b,show 0 < -sL (wn ws j) m p' q' by omega,.inl ⟨rfl,rfl⟩⟩
  ·exact⟨_,_,show 0 < -sL (wn ws j) m p q by omega,g,.inr ⟨rfl,rfl⟩⟩
 have v:0<e+f:=()
 have i:sd1 (p,q,p',q') (uby m (wn ws j))-sd2 (p,q,p',q') (uby m (wn ws j))=m*(sL (wn ws j) m p' q'-sL (wn ws j) m p q):=by unfold sd1 sd2 sd uby crs sL;dsimp only;grind
 obtain⟨l,n,A,B⟩:∃l:Int,(0<l/\l<m*(e+f))/\f*p+e*p'=ix (wn ws j) (m*(e+f)) l/\f*q+e*q'=iy (wn ws j) (m*(e+f)) l:=by
  have mg:=Ip r v
  have o:∀s:Int,(s=1\/s=-1)->e=s*sL (wn ws j) m p q->f=-(s*sL (wn ws j) m p' q')->f*p+e*p'=ix (wn ws j) (m*(e+f)) (-(s*sd1 (p,q,p',q') (uby m (wn ws j))))/\f*q+e*q'=iy (wn ws j) (m*(e+f)) (-(s*sd1 (p,q,p',q') (uby m (wn ws j)))):=fun s H b g=>by
   rw[b,g]
   unfold ix iy sd1 sd uby crs sL
   dsimp only
   constructor<;>grind
  rcases y with⟨b,g⟩|⟨b,g⟩
  ·have G:sd1 (p,q,p',q') (uby m (wn ws j))-sd2 (p,q,p',q') (uby m (wn ws j))=-(m*(e+f)):=by rw[i,b,g];grind
   obtain⟨x1,x⟩:=o 1 (.inl rfl) () ()
   exact⟨_,(),x1,x⟩
  ·have G:sd1 (p,q,p',q') (uby m (wn ws j))-sd2 (p,q,p',q') (uby m (wn ws j))=m*(e+f):=by rw[i,b,g];grind
   obtain⟨x1,x⟩:=o (-1) (.inr rfl) () ()
   exact⟨_,(),x1,x⟩
 have z:sL (wn ws j) (m*(e+f)) (f*p+e*p') (f*q+e*q')=0:=by
  rw[ze]
  rcases y with⟨b,g⟩|⟨b,g⟩
  ·rw[b,g];grind
  ·rw[b,g];grind
 have t:∀k,k<ws.length->k≠j->_:=fun k h ne=>AE r E F (D k h ne)
 exact⟨uf hU hF fl hj r v C n A B (fun k h=>(off k h).1) z fun k h ne=>⟨(t k h ne).1,rZ (t k h ne).1⟩,uf hU hF fl hj r v u n A B (fun k h=>(off k h).2) z fun k h ne=>⟨rZ (t k h ne).2,(t k h ne).2⟩⟩
include hU hF fl in
theorem qN{m p q p' q':Int}(g:0<m)(l:-(80*m)<=q/\q<90*m)(i:-(80*m)<=q'/\q'<90*m)(off:∀k,k<ws.length->¬OnU (wn ws k) m p q/\¬OnU (wn ws k) m p' q')(t:∀k,k<ws.length->NM (p,q,p',q') (uby m (wn ws k))):Vs ws d m p q=Vs ws d m p' q':=by
 have A:=gx hU (x:=p) g l;have u:=gx hU (x:=p') g i;have P:=pL (x:=p) g l;have v:=pL (x:=p') g i
 have r:∀{w:Wl},Un5 w->(-(80*m)<=m*w.2.1/\m*w.2.1<90*m)/\(-(80*m)<=m*w.2.2.2/\m*w.2.2.2<90*m):=fun{w} h=>by
  have b:=h.b;have z:=h.d
  have D:=Jw (():0<=m) b.1
  have E:=Jw (():0<=m) z.1
  have F:=IF b.2 (():0<=m)
  have G:=IF z.2 (():0<=m)
  omega
 have one:∀{p q:Int},(-(80*m)<=q/\q<90*m)->∀k,k<ws.length->¬OnU (wn ws k) m p q->lN (1000*m) (m*(wn ws k).1) (m*(wn ws k).2.1)≠lN (1000*m) p q/\lN (1000*m) (m*(wn ws k).2.2.1) (m*(wn ws k).2.2.2)≠lN (1000*m) p q:=fun{p q} l k f o=>by
  have K:=aH hU f
  obtain⟨B,C⟩:=r K
  refine⟨fun e=>?_,fun e=>?_⟩
  ·obtain⟨a,b⟩:=gL g B l e;exact o (fH K (.inl ⟨a.symm,b.symm⟩) g)
  ·obtain⟨a,b⟩:=gL g C l e;exact o (fH K (.inr ⟨a.symm,b.symm⟩) g)
 have inj:∀k,k<ws.length->_:=fun k f=>let a:=one l k f (off k f).1;let b:=one i k f (off k f).2;(⟨a.1,a.2,b.1,b.2⟩:lN (1000*m) (m*(wn ws k).1) (m*(wn ws k).2.1)≠lN (1000*m) p q/\lN (1000*m) (m*(wn ws k).2.2.1) (m*(wn ws k).2.2.2)≠lN (1000*m) p q/\lN (1000*m) (m*(wn ws k).1) (m*(wn ws k).2.1)≠lN (1000*m) p' q'/\lN (1000*m) (m*(wn ws k).2.2.1) (m*(wn ws k).2.2.2)≠lN (1000*m) p' q')
 have n:∀{w:Wl} {x y:Int},¬OnU w m x y->spx w m x y->sL w m x y≠0:=fun{w x y} h s e=>h ⟨by unfold sL at e;omega,s.1,by have:=s.2;omega⟩;rcases Ig (lN (1000*m) p q) (lN (1000*m) p' q')with h|h|h
 ·exact uD hU hF fl g h (iO g l i (J9 h)) P v inj A u (fun k f=>⟨n (off k f).1,n (off k f).2⟩) t
 ·obtain⟨a,b⟩:=gL g l i h;rw[a,b]
 ·exact(uD hU hF fl g h (iO g i l (J9 h)) v P (fun k f=>by obtain⟨a,b,c,e⟩:=inj k f;exact⟨c,e,a,b⟩) u A (fun k f=>⟨n (off k f).2,n (off k f).1⟩) fun k f=>rZ (t k f)).symm
end
section
variable{ws:List Wl}(hU:∀w∈ws,Un5 w)(hF:PF ws)
theorem jB:∀{i:Nat} {d:List (List Nat)},Rgs ws i d->∀g,g<i->∃r∈d,g∈r
 |0,d,_,g,hg=>absurd hg ()
 |i+1,d,⟨qs,h1,h2⟩,g,hg=>by
  by_cases e:g=i
  ·subst e
   rcases h2 with⟨m,rfl⟩|⟨_,r,⟨k,n,c,rfl⟩,rfl⟩
   ·obtain⟨r,a,b⟩:=List.mem_flatten.mp m
    exact⟨r,a,b⟩
   ·exact⟨rn ws g k,by simp,fJ.mpr ⟨0,(),rfl⟩⟩
  ·obtain⟨r,a,b⟩:=jB h1 g ()
   rcases h2 with⟨_,rfl⟩|⟨_,f,_,rfl⟩
   ·exact⟨r,a,b⟩
   ·exact⟨r,List.mem_append_left _ a,b⟩
theorem d3:∀{i:Nat} {c:List (List Nat)},Rgs ws i c->∀r∈c,∃f,f<i/\f9 ws f r
 |0,c,h,r,hr=>by rw[show c=[]from h]at hr;cases hr
 |i+1,c,⟨qs,h1,h2⟩,r,hr=>by
  rcases h2 with⟨_,rfl⟩|⟨_,d,R,rfl⟩
  ·obtain⟨f,a,b⟩:=d3 h1 r hr
   exact⟨f,(),b⟩
  ·rcases IL.mp hr with z|z
   ·obtain⟨f,a,b⟩:=d3 h1 r z
    exact⟨f,(),b⟩
   ·rw[Jj.mp z];exact⟨i,(),R⟩
theorem rS{f:Nat}{r:List Nat}(R:f9 ws f r){C:Nat->Prop}(a:∀g,C g->C (bh ws g)){g:Nat}(b:g∈r)(h:C g):C f:=by
 obtain⟨k,n,e,rfl⟩:=R;obtain⟨i,d,rfl⟩:=fJ.mp b
 have go:∀j,C (itb ws f (i+j)):=fun j=>by
  induction j with
  |zero=>exact h
  |succ j c=>exact a _ c
 rw[<-e];have:=go (k-i);rw[show i+(k-i)=k by omega]at this;exact a _ this
include hU hF in
theorem gy:∀{i:Nat} {a:List (List Nat)},i<=2*ws.length->Rgs ws i a->∀r∈a,∀b∈a,∀g,g∈r->g∈b->r=b
 |0,a,_,h,r,hr,_,_,_,_,_=>by rw[show a=[]from h]at hr;cases hr
 |i+1,a,hi,⟨qs,h1,h2⟩,r,hr,b,hr',g,hg,hg'=>by
  rcases h2 with⟨_,rfl⟩|⟨j,q,R,rfl⟩
  ·exact gy () h1 r hr b hr' g hg hg'
  ·have new:∀x∈qs,∀g,g∈q->g∈x->False:=fun x e g k d=>by
    obtain⟨f,n,l⟩:=d3 h1 x e
    exact j (List.mem_flatten.mpr ⟨x,e,rS R (C:=fun y=>y∈x) (fun y m=>oy hU hF () l y m) k d⟩)
   rcases IL.mp hr with z|z<;>rcases IL.mp hr' with c|c
   ·exact gy () h1 r z b c g hg hg'
   ·rw[Jj.mp c]at hg';exact(new r z g hg' hg).elim
   ·rw[Jj.mp z]at hg;exact(new b c g hg hg').elim
   ·rw[Jj.mp z,Jj.mp c]
theorem gW:∀{i:Nat} {d:List (List Nat)},Rgs ws i d->d.Nodup
 |0,d,h=>by rw[show d=[]from h];exact List.nodup_nil
 |i+1,d,⟨qs,h1,h2⟩=>by
  rcases h2 with⟨_,rfl⟩|⟨f,q,⟨k,n,c,rfl⟩,rfl⟩
  ·exact gW h1
  ·rw[List.nodup_append]
   refine⟨gW h1,by simp,fun a g b j e=>?_⟩
   rw[Jj.mp j]at e
   subst e
   exact f (List.mem_flatten.mpr ⟨_,g,fJ.mpr ⟨0,(),rfl⟩⟩)
end
theorem um(ws:List Wl):∀(l:List Nat) (a:Vc),(la (l.foldl (fun a g=>mn a (fa ws g)) a).1 (l.foldl (fun a g=>mn a (fa ws g)) a).2<=la a.1 a.2)/\(∀g∈l,la (l.foldl (fun a g=>mn a (fa ws g)) a).1 (l.foldl (fun a g=>mn a (fa ws g)) a).2<=tf ws g)/\(l.foldl (fun a g=>mn a (fa ws g)) a=a\/∃g∈l,l.foldl (fun a g=>mn a (fa ws g)) a=fa ws g)
 |[],a=>⟨Int.le_refl _,(fun g b=>by cases b),.inl rfl⟩
 |x::l,a=>by
  obtain⟨f,c,d⟩:=um ws l (mn a (fa ws x))
  rw[KG]
  generalize l.foldl (fun a g=>mn a (fa ws g)) (mn a (fa ws x))=z at *
  have m:(mn a (fa ws x)=a\/mn a (fa ws x)=fa ws x)/\la (mn a (fa ws x)).1 (mn a (fa ws x)).2<=la a.1 a.2/\la (mn a (fa ws x)).1 (mn a (fa ws x)).2<=tf ws x:=by
   unfold mn tf
   split
   ·exact⟨.inl rfl,Int.le_refl _,()⟩
   ·exact⟨.inr rfl,(),Int.le_refl _⟩
  refine⟨(),fun g b=>?_,?_⟩
  ·rcases J3.mp b with e|e
   ·subst e;omega
   ·exact c g e
  ·rcases d with e|⟨g,b,e⟩
   ·rcases m.1 with q|q
    ·exact .inl (e.trans q)
    ·exact .inr ⟨x,Js,e.trans q⟩
   ·exact .inr ⟨g,Jb _ b,e⟩
theorem pB(ws:List Wl){r:List Nat}(h:r≠[]):(∀g∈r,la (fc ws r).1 (fc ws r).2<=tf ws g)/\∃g∈r,fc ws r=fa ws g:=by
 unfold fc fcI;rw[List.take_length];obtain⟨_,a,b⟩:=um ws r (fa ws (r.headD 0));refine⟨a,?_⟩;rcases b with e|e
 ·cases r with
  |nil=>exact absurd rfl h
  |cons g r=>exact⟨g,Js,e⟩
 ·exact e
theorem qU(v:Int)(x:Nat):∀(r:List Nat) (L:List Int),x<L.length->(r.foldl (fun L g=>L.set g v) L)[x]?=if x∈r then LA v else L[x]?
 |[],L,_=>by simp
 |g::r,L,h=>by
  rw[KG,qU v x r (L.set g v) (by rw[List.length_set];exact h)]
  by_cases m:x∈r
  ·rw[LG m,LG (Jb _ m)]
  ·rw[LF m]
   by_cases e:x=g
   ·subst e;rw[LG Js,List.getElem?_set_self h]
   ·rw[LF (fun z=>(J3.mp z).elim e m),List.getElem?_set_ne (fun z=>e z.symm)]
theorem lL{L:List Int}{r:List Nat}{v:Int}{x:Nat}(h:x<L.length):(fill L r v)[x]?=if x∈r then LA v else L[x]?:=by unfold fill ie;rw[List.take_length];exact qU v x r L h
theorem xr{m:Nat}{outs:List (List Nat)}(c:∀(i j:Nat) (r q:List Nat) (g:Nat),outs[i]?=LA r->outs[j]?=LA q->g∈r->g∈q->i=j){j:Nat}{r:List Nat}(a:outs[j]?=LA r){x:Nat}(b:x∈r)(d:x<m):∀i,j<i->(fO m outs i)[x]?=LA ((j+1:Nat):Int)
 |0,h=>absurd h ()
 |i+1,h=>by
  rw[fO,lL (by rw[iA];exact d)]
  by_cases e:i=j
  ·subst e;rw[a];exact LG b
  ·have f:x∉(outs[i]?).getD []:=fun z=>by
    cases q:outs[i]? with
    |none=>rw[q]at z;cases z
    |some s=>rw[q]at z;exact e (c i j s r x q a z b)
   rw[LF f]
   exact xr c a b d i ()
theorem kr{ws:List Wl}{ins:List (List Nat)}{L:List Int}{ps:List Vc}{x:Nat}(a:x<L.length){i:Nat}:∀n:Nat,(∀j,i<=j->j<i+n->x∉(ins[(l4 ws ins ((ps[j]?).getD (0,0)) ins.length).getD 0]?).getD [])->(fS ws ins L ps (i+n))[x]?=(fS ws ins L ps i)[x]?
 |0,_=>rfl
 |n+1,h=>by
  show(fS ws ins L ps (i+n+1))[x]?=_
  rw[fS,lL (by rw[jQ];exact a),LF (h (i+n) () ())]
  exact kr a n fun j b c=>h j b ()
theorem Eh{c:Vc}(a:B20 c)(w:Wl):sdc w (la c.1 c.2)=sd w c.1 c.2:=by have b:=a.1;have d:=a.2;unfold sdc;rw[show la c.1 c.2/100=c.1 by unfold la;omega,show la c.1 c.2%100=c.2 by unfold la;omega]
section
variable{ws:List Wl}(hU:∀w∈ws,Un5 w)(hF:PF ws)
include hU in
theorem rR{c:Vc}(f:B20 c){j:Nat}:((j:Nat):Int)∈bK ws 1 c.1 c.2↔j<ws.length/\l1 (wn ws j)<la c.1 c.2/\la c.1 c.2<l2 (wn ws j)/\0<sdc (wn ws j) (la c.1 c.2):=by
 rw[Eh f];have k:uby 1 (wn ws j)=wn ws j:=by unfold uby;simp
 have key:((j:Nat):Int)∈bK ws 1 c.1 c.2↔j<ws.length/\bB ws 1 c.1 c.2 j=LC:=by
  unfold bK;rw[J1];constructor
  ·rintro⟨i,g,e⟩;have:i=j:=()
   subst this;rw[IJ,IZ]at g;exact g
  ·intro h;exact⟨j,IJ.mpr ⟨IZ.mpr h.1,h.2⟩,rfl⟩
 rw[key];unfold bB spB;rw[ID,ID,LL,LL,LL,Int.one_mul,Int.one_mul,sg1];show _/\(l1 (wn ws j)<=_/\_<l2 (wn ws j))/\0<sd (uby 1 (wn ws j)) c.1 c.2↔_;rw[k];constructor
 ·rintro⟨a,⟨b,d⟩,e⟩;refine⟨a,?_,d,e⟩;by_cases z:l1 (wn ws j)=la c.1 c.2
  ·exfalso;obtain⟨x,y⟩:=gE (aH hU a).b f.2 (show la (wn ws j).1 (wn ws j).2.1=la c.1 c.2 from z);unfold sd crs at e;rw[<-x,<-y,Int.sub_self,Int.sub_self,JT,JT]at e;omega
  ·omega
 ·rintro⟨a,b,d,e⟩;exact⟨a,⟨(),d⟩,e⟩
include hU in
theorem Dv{d:Nat->Int}{c:Vc}(a:B20 c)(h:bK ws 1 c.1 c.2=[]):Zc ws d (la c.1 c.2)=0:=by unfold Zc;refine bU fun j b=>LF fun q=>?_;have:=(rR hU a).mpr ⟨b,q⟩;rw[h]at this;cases this
include hU hF in
theorem tF{d:Nat->Int}(H:Flow ws d){c:Vc}(B:B20 c){k:Nat}(f:k<ws.length)(C:l1 (wn ws k)=la c.1 c.2)(h:bK ws 1 c.1 c.2≠[]) :
 ∃v,v<ws.length/\(vC ws (bK ws 1 c.1 c.2)).toNat=v/\l1 (wn ws v)<la c.1 c.2/\Zc ws d (la c.1 c.2)=Pf ws d (2*v):=by
 obtain⟨D,E,I,L⟩:=zd hU hF (show(0:Int)<1 by decide) (fun k f=>jy f) h (qZ ws 1 c.1 c.2)
 have s:=ju (jy E)
 obtain⟨v,rfl⟩:∃v:Nat,D=(v:Int):=⟨D.toNat,()⟩
 have M:vC ws (bK ws 1 c.1 c.2)=(v:Int):=by unfold vC;rw[L];rfl
 obtain⟨g,p,r,A⟩:=(rR hU B).mp E
 refine⟨v,g,by rw[M];omega,p,?_⟩
 generalize N:la c.1 c.2=t at *
 have V:=aH hU g
 have K:=aH hU f
 have R:=K.lt
 have u:sp (wn ws v) t=LC:=aM.mpr ⟨(),r⟩
 have G:sp (wn ws k) t=LC:=aM.mpr ⟨(),()⟩
 have l:v≠k:=fun z=>by subst z;omega
 have m:=(c9 V K (aU hF g f l) p r (.inl C)).2
 rw[LI A]at m
 have O:=(dY K V (aU hF f g (fun z=>l z.symm)) G u).mp m
 rw[eP,<-fu hU hF H g u]
 have one:d v=sg ws.length (fun j=>if j=v then d j else 0):=by rw[ez,LG g]
 rw[one]
 unfold Phi Zc
 rw[<-cL]
 refine aK fun j n=>?_
 show _=(if(sp (wn ws j) t&&abv (wn ws v) (wn ws j))=LC then d j else 0)+(if j=v then d j else 0)
 by_cases e:j=v
 ·subst e
  rw[LG ⟨p,r,A⟩,bQ V,L0,LF ⋯,LG rfl,Int.zero_add]
 ·rw[LF e,Int.add_zero]
  have J:=aH hU n
  have F:=aU hF g n (fun z=>e z.symm)
  by_cases q:l1 (wn ws j)<t/\t<l2 (wn ws j)/\0<sdc (wn ws j) t
  ·have P:((j:Nat):Int)∈bK ws 1 c.1 c.2:=(rR hU B).mpr ⟨n,by rw[N];exact q⟩
   have a:abv (wn ws v) (wn ws j)=LC:=by
    rcases I _ (J1.mpr ⟨_,P,rfl⟩)with z|z
    ·exfalso
     have z:wn ws j=wn ws v:=z
     exact F.ne ⟨by rw[z],by rw[z]⟩
    ·exact z.1
   rw[LG q,aM.mpr ⟨(),q.2.1⟩,a,LG (show(LC&&LC)=LC from rfl)]
  ·rw[LF q,LF]
   intro z
   rw[ID]at z
   obtain⟨i,a⟩:=z
   have Q:=(dY V J F u i).mp a
   rw[aM]at i
   by_cases y:l1 (wn ws j)=t
   ·have b:=(c9 V J F p r (.inl y)).2
    rw[LI A]at b
    have:=(dY J V F.swap (aM.mpr i) u).mp b
    grind
   ·have o:j≠k:=fun z=>by subst z;omega
    have b:=(c9 J K (aU hF n f o) (():l1 (wn ws j)<t) i.2 (.inl C)).2
    have x:=(dY K J (aU hF f n (fun z=>o z.symm)) G (aM.mpr i)).mpr (by grind)
    rw[x]at b
    exact q ⟨(),i.2,LJ b.symm⟩
include hU hF in
theorem yg{f:Nat}(g:f<2*ws.length){r:List Nat}(R:f9 ws f r){t:Int}{k:Nat}(L:Low ws r t k)(m:2*k+1∈r){d:Nat->Int}(i:Flow ws d):Pf ws d f=Zc ws d t:=by
 rw[<-cW hU hF g R i m,jK];unfold Bw Phi Zc;have K:=aH hU L.k1;have all:=pj hU hF g R L m;have h:=L.e;rw[h];refine aK fun j c=>?_;show(if(sp (wn ws j) t&&abv (wn ws k) (wn ws j))=LC then d j else 0)=_;have J:=aH hU c;by_cases s:sp (wn ws j) t=LC
 ·have a:=aM.mp s;rw[s,Jl];by_cases y:l1 (wn ws j)=t
  ·rw[all j c y,LF ⋯,LF ()]
  ·have ne:j≠k:=fun z=>by subst z;omega
   have b:=(c9 J K (aU hF c L.k1 ne) (():l1 (wn ws j)<t) a.2 (.inl h)).2;rw[b];by_cases q:0<sdc (wn ws j) t
   ·rw[LG (by simpa using q),LG ⟨(),a.2,q⟩]
   ·rw[LF (by simpa using q),LF fun z=>q z.2.2]
 ·have a:sp (wn ws j) t=LD:=by simpa using s
  rw[a,J7,LF ⋯,LF];intro q;exact s (aM.mpr ⟨(),q.2.1⟩)
include hU hF in
theorem jv{f:Nat}(d:f<2*ws.length){r:List Nat}(R:f9 ws f r):∃k,Low ws r (la (fc ws r).1 (fc ws r).2) k/\B20 (fc ws r)/\((aP ws r=LC/\Pf ws (dR r) f=1)\/(aP ws r=LD/\2*k+1∈r)):=by
 obtain⟨t,k,L,g,h,n,mn⟩:=jo hU hF d R;obtain⟨l,i,c,j⟩:=pB ws (JW h);have a:=l g h;have b:=mn i c;have e:la (fc ws r).1 (fc ws r).2=t:=by unfold tf at b;rw[<-j]at b;omega
 rw[e];refine⟨k,L,by rw[j];exact pg hU (dH hU hF d R i c),?_⟩;have o:=yR hU hF d R;rcases oC hU hF d R L with⟨m,z⟩|⟨_,_,z⟩
 ·right;refine⟨?_,m⟩;unfold aP;rw[o,z];rfl
 ·left;refine⟨?_,z⟩;unfold aP;rw[o,z];rfl
end
theorem nj{ws:List Wl}{ins:List (List Nat)}:∀{n i:Nat},i<n->fc ws ((ins[i]?).getD [])∈bY ws ins n
 |0,i,h=>absurd h ()
 |n+1,i,h=>by
  unfold bY
  dsimp only
  by_cases e:i=n
  ·subst e
   split
   ·assumption
   ·exact IA _ (Jj.mpr rfl)
  ·have:=nj (ws:=ws) (ins:=ins) (n:=n) (i:=i) ()
   split
   ·exact this
   ·exact List.mem_append_left _ this
section
variable{ws:List Wl}(hU:∀w∈ws,Un5 w)(hF:PF ws)
include hU hF in
theorem qH{i:List (List Nat)}(G:Rgs ws (2*ws.length) i){r c:List Nat}(p:r∈i)(g:c∈i)(o:aP ws r=LD)(o':aP ws c=LD)(e:fc ws r=fc ws c):r=c:=by
 obtain⟨f,s,R⟩:=d3 G r p;obtain⟨B,h,t⟩:=d3 G c g;obtain⟨k,L,_,q⟩:=jv hU hF s R;obtain⟨j,d,_,x⟩:=jv hU hF h t
 have m:2*k+1∈r:=by
  rcases q with⟨z,_⟩|⟨_,z⟩
  ·rw[o]at z;cases z
  ·exact z
 have u:2*j+1∈c:=by
  rcases x with⟨z,_⟩|⟨_,z⟩
  ·rw[o']at z;cases z
  ·exact z
 rw[<-e]at d;have y:=L.e;have l:=d.e;by_cases ne:k=j
 ·subst ne;exact gy hU hF (Ic _) G r p c g _ m u
 ·exfalso;have a:=pj hU hF s R L m j d.k1 l;have b:=pj hU hF h t d u k L.k1 y;have K:=aH hU L.k1;have v:=aH hU d.k1;have C:=K.lt;have A:=v.lt;have n:=du K v (aU hF L.k1 d.k1 ne) (bC.mpr ⟨(),(),(),()⟩);rw[a,b]at n;cases n
include hU hF in
theorem vI{L:List Int}(il:cU ws L):∃h,Rgs ws (2*ws.length) h/\(∀(i:Nat) (S:List Nat),(h.filter (aP ws))[i]?=LA S->∀g∈S,L[g]?=LA ((i+1:Nat):Int))/\∀r∈h,aP ws r=LD->∀g∈r,L[g]?=LA (laF ws L (fc ws r)):=by
 obtain⟨h,ps,G,pm,up,rfl⟩:=il;refine⟨h,G,?_⟩;have Q:∀S,S∈h.filter (aP ws)↔S∈h/\aP ws S=LC:=fun S=>IJ;have mI:∀S,S∈(h.filter fun r=>!aP ws r)↔S∈h/\aP ws S=LD:=fun S=>by rw[IJ];simp
 have T:(h.filter (aP ws)).Nodup:=KP _ (gW G);have U:=gy hU hF (Ic _) G;have lt:∀r∈h,∀g∈r,g<2*ws.length:=fun r t g s=>by obtain⟨f,J,R⟩:=d3 G r t;exact dH hU hF J R g s
 generalize eo:h.filter (aP ws)=outs at *;generalize ei:(h.filter fun r=>!aP ws r)=ins at *;have K:(fO (2*ws.length) outs outs.length).length=2*ws.length:=iA _ _ _
 have step:∀j,j<ps.length->∃q c,ps[j]?=LA c/\(ins[(l4 ws ins ((ps[j]?).getD (0,0)) ins.length).getD 0]?).getD []=q/\q∈h/\aP ws q=LD/\fc ws q=c:=fun j B=>by
  have C:ps[j]?=LA ps[j]:=Ia B
  have V:ps[j]∈bY ws ins ins.length:=pm.mem_iff.mp (Jn B)
  obtain⟨i,a,b,c⟩:=gZ V
  have em:ins[i]?=LA ins[i]:=Ia b
  have q:=(mI _).mp (Jn b)
  rw[em]at c
  refine⟨ins[i],ps[j],C,?_,q.1,q.2,c⟩
  rw[C]
  show(ins[(l4 ws ins ps[j] ins.length).getD 0]?).getD []=_
  rw[a]
  show(ins[i]?).getD []=_
  rw[em];rfl
 constructor
 ·intro i S W g s;have X:=(Q S).mp (Il W);have D:=lt S X.1 g s
  have k1:=xr (m:=2*ws.length) (outs:=outs) (fun i j r q g er eq t hq=>by
   have a:=(Q r).mp (Il er)
   have b:=(Q q).mp (Il eq)
   have:=U r a.1 q b.1 g t hq
   subst this
   obtain⟨M,e1⟩:=Iu.mp er
   obtain⟨E,e2⟩:=Iu.mp eq
   exact(List.getElem_inj T).mp (e1.trans e2.symm)) W s D outs.length (Iu.mp W).1
  have F:=kr (ws:=ws) (ins:=ins) (L:=fO (2*ws.length) outs outs.length) (ps:=ps) (x:=g) (by rw[K];exact D) (i:=0) ps.length fun j _ E z=>by
   obtain⟨q,c,_,eq,N,O,_⟩:=step j ()
   rw[eq]at z
   have:=U S X.1 q N g s z
   rw[<-this,X.2]at O;cases O
  rw[Nat.zero_add]at F;rw[F];exact k1
 ·intro r t o g s;have D:=lt r t g s;obtain⟨f,J,R⟩:=d3 G r t;obtain⟨k,Lw,hc,_⟩:=jv hU hF J R;obtain⟨i,hi,Y⟩:=List.mem_iff_getElem.mp ((mI r).mpr ⟨t,o⟩)
  have V:fc ws r∈ps:=by
   rw[pm.mem_iff]
   have:=nj (ws:=ws) (ins:=ins) hi
   rw[Ia hi,Y]at this
   exact this
  obtain⟨j,B,Z⟩:=List.mem_iff_getElem.mp V;obtain⟨q,c,C,eq,N,O,q3⟩:=step j B;have H:ps[j]?=LA (fc ws r):=by rw[Ia B,Z]
  rw[H]at C;cases C;have a0:=qH hU hF G N t O o q3;subst a0;have P:=Ka.mp up
  have n:∀d,j<=d->(hj':d<ps.length)->la (fc ws q).1 (fc ws q).2<=la ps[d].1 ps[d].2/\(ps[d]=fc ws q->d=j):=fun d M E=>by
   by_cases e:j=d
   ·subst e;rw[Z];exact⟨Int.le_refl _,fun _=>rfl⟩
   ·have:=P j d B E ();rw[Z]at this;unfold plt at this;unfold la;refine⟨(),fun z=>?_⟩;rw[z]at this;omega
  have k1:(fS ws ins (fO (2*ws.length) outs outs.length) ps (j+1))[g]?=LA (laF ws (fS ws ins (fO (2*ws.length) outs outs.length) ps j) (fc ws q)):=by rw[fS,lL (by rw[jQ,K];exact D),eq,LG s,H];rfl
  have F:=kr (ws:=ws) (ins:=ins) (L:=fO (2*ws.length) outs outs.length) (ps:=ps) (x:=g) (by rw[K];exact D) (i:=j+1) (ps.length-(j+1)) fun d M E z=>by
   obtain⟨q',c',u,y,I,b0,A⟩:=step d ()
   rw[y]at z
   have:=U q N q' I g s z
   subst this
   have p:ps[d]?=LA ps[d]:=Ia ()
   rw[u]at p
   have:=(n d () ()).2 (by rw[<-Option.some.inj p,A])
   omega
  rw[show j+1+(ps.length-(j+1))=ps.length by omega]at F;rw[F,k1]
  congr 1
  unfold laF;by_cases b:bK ws 1 (fc ws q).1 (fc ws q).2=[]
  ·rw[LG b,LG b]
  ·rw[LF b,LF b];obtain⟨v,v1,v2,v3,_⟩:=tF hU hF (aQ hU hF J R) hc Lw.k1 Lw.e b;rw[v2]
   have k3:=kr (ws:=ws) (ins:=ins) (L:=fO (2*ws.length) outs outs.length) (ps:=ps) (x:=2*v) (by rw[K];omega) (i:=j) (ps.length-j) fun d M E z=>by
    obtain⟨q',c',u,y,I,b0,A⟩:=step d ()
    rw[y]at z
    have:=(pB ws (JW z)).1 _ z
    unfold tf at this
    rw[cD,A]at this
    have p:ps[d]?=LA ps[d]:=Ia ()
    rw[u]at p
    have l:=(n d M ()).1
    rw[<-Option.some.inj p]at l
    omega
   rw[show j+(ps.length-j)=ps.length by omega]at k3;rw[k3]
end
section
variable{ws:List Wl}(hU:∀w∈ws,Un5 w)(hF:PF ws)
def Rt(ws:List Wl)(L:List Int)(outs:List (List Nat))(g:Nat):Prop:=
 (L[g]?=LA 0/\∀S∈outs,Pf ws (dR S) g=0)\/∃(i:Nat) (S:List Nat) (a:Nat),outs[i]?=LA S/\a∈S/\L[g]?=LA ((i+1:Nat):Int)/\∀T∈outs,Pf ws (dR T) g=Pf ws (dR T) a
include hU hF in
theorem mj{L:List Int}{j:List (List Nat)}(G:Rgs ws (2*ws.length) j)(D:∀(i:Nat) (S:List Nat),(j.filter (aP ws))[i]?=LA S->∀g∈S,L[g]?=LA ((i+1:Nat):Int))(E:∀r∈j,aP ws r=LD->∀g∈r,L[g]?=LA (laF ws L (fc ws r))) :
 ∀(N:Nat) (r:List Nat),r∈j->la (fc ws r).1 (fc ws r).2<(N:Int)->∀g∈r,Rt ws L (j.filter (aP ws)) g
 |0,r,hr,hN,g,hg=>by
  exfalso
  obtain⟨f,l,R⟩:=d3 G r hr
  obtain⟨k,_,n,_⟩:=jv hU hF l R
  have a:=n.1
  have b:=n.2
  unfold la at hN
  omega
 |N+1,r,hr,hN,g,hg=>by
  obtain⟨f,l,R⟩:=d3 G r hr
  obtain⟨k,p,n,q⟩:=jv hU hF l R
  have t:∀T∈j.filter (aP ws),Flow ws (dR T):=fun T h=>by
   obtain⟨M,u,I⟩:=d3 G T (IJ.mp h).1
   exact aQ hU hF u I
  rcases q with⟨o,_⟩|⟨o,m⟩
  ·right
   obtain⟨i,J,e⟩:=List.mem_iff_getElem.mp (IJ.mpr ⟨hr,o⟩)
   have e:(j.filter (aP ws))[i]?=LA r:=by rw[Ia J,e]
   exact⟨i,r,g,e,hg,D i r e g hg,fun _ _=>rfl⟩
  ·have x:=E r hr o g hg
   have P:∀T∈j.filter (aP ws),Pf ws (dR T) g=Zc ws (dR T) (la (fc ws r).1 (fc ws r).2):=fun T h=>by
    rw[cW hU hF l R (t T h) hg]
    exact yg hU hF l R p m (t T h)
   by_cases b:bK ws 1 (fc ws r).1 (fc ws r).2=[]
   ·left
    refine⟨by rw[x];unfold laF;rw[LG b],fun S s=>?_⟩
    rw[P S s,Dv hU n b]
   ·obtain⟨v,O,F,Q,_⟩:=tF hU hF (aQ hU hF l R) n p.k1 p.e b
    have Z:∀T∈j.filter (aP ws),Pf ws (dR T) g=Pf ws (dR T) (2*v):=fun T h=>by
     obtain⟨U,_,y,_,e⟩:=tF hU hF (t T h) n p.k1 p.e b
     rw[P T h,e,<-y,F]
    obtain⟨z,A,B⟩:=jB G (2*v) ()
    have C:la (fc ws z).1 (fc ws z).2<(N:Int):=by
     have:=(pB ws (JW B)).1 _ B
     unfold tf at this
     rw[cD]at this
     omega
    have H:laF ws L (fc ws r)=(L[2*v]?).getD 0:=by unfold laF;rw[LF b,F]
    rcases mj G D E N z A C (2*v) B with⟨a,c⟩|⟨i,S,K,a,c,d,e⟩
    ·left
     refine⟨by rw[x,H,a];rfl,fun S s=>?_⟩
     rw[Z S s,c S s]
    ·right
     refine⟨i,S,K,a,c,by rw[x,H,d];rfl,fun T h=>?_⟩
     rw[Z T h,e T h]
include hU hF in
theorem land_eq{L:List Int}(J:cU ws L):(∀g h,g<2*ws.length->h<2*ws.length->(∀f r,f<2*ws.length->f9 ws f r->Pf ws (dR r) g=Pf ws (dR r) h)->L[g]?=L[h]?)/\∀g,g<2*ws.length->(∀f r,f<2*ws.length->f9 ws f r->Pf ws (dR r) g=0)->L[g]?=LA 0:=by
 obtain⟨u,G,K,M⟩:=vI hU hF J;have l:∀g,g<2*ws.length->Rt ws L (u.filter (aP ws)) g:=fun g s=>by obtain⟨r,N,m⟩:=jB G g s;exact mj hU hF G K M ((la (fc ws r).1 (fc ws r).2).toNat+1) r N () g m
 have ring:∀S∈u.filter (aP ws),∃f,f<2*ws.length/\f9 ws f S/\Pf ws (dR S) f=1/\S∈u:=fun S C=>by
  obtain⟨a,o⟩:=IJ.mp C;obtain⟨f,j,R⟩:=d3 G S a;obtain⟨k,_,_,q⟩:=jv hU hF j R;rcases q with⟨_,z⟩|⟨z,_⟩
  ·exact⟨f,j,R,z,a⟩
  ·rw[o]at z;cases z
 have own:∀S∈u.filter (aP ws),∀g∈S,Pf ws (dR S) g=1:=fun S C g s=>by obtain⟨f,j,R,z,_⟩:=ring S C;rw[cW hU hF j R (aQ hU hF j R) s,z]
 constructor
 ·intro g h s O eq;have p:∀T∈u.filter (aP ws),Pf ws (dR T) g=Pf ws (dR T) h:=fun T P=>by obtain⟨f,j,R,_⟩:=ring T P;exact eq f T j R
  rcases l g s with⟨a,b⟩|⟨i,S,B,a,b,c,d⟩<;>rcases l h O with⟨v,y⟩|⟨X,n,I,v,y,Q,D⟩
  ·rw[a,v]
  ·exfalso;have m:=Il v;have:=own n m I y;rw[<-D n m,<-p n m,b n m]at this;omega
  ·exfalso;have m:=Il a;have:=own S m B b;rw[<-d S m,p S m,y S m]at this;omega
  ·have m:=Il a;have A:=Il v;by_cases e:S=n
   ·subst e;have nd:(u.filter (aP ws)).Nodup:=KP _ (gW G);obtain⟨Y,e1⟩:=Iu.mp a;obtain⟨Z,e2⟩:=Iu.mp v;have:=(List.getElem_inj nd).mp (e1.trans e2.symm);subst this;rw[c,Q]
   ·exfalso;obtain⟨f,j,R,z,U⟩:=ring S m;obtain⟨f',t,E,V,F⟩:=ring n A;refine wt hU hF j R t E (fun x W H=>e (gy hU hF (Ic _) G S U n F x W H)) z V ?_ ?_
    ·rw[<-cW hU hF j R (aQ hU hF t E) b,<-d n A,p n A,D n A];exact own n A I y
    ·rw[<-cW hU hF t E (aQ hU hF j R) y,<-D S m,<-p S m,d S m];exact own S m B b
 ·intro g s z;rcases l g s with⟨a,b⟩|⟨i,S,B,a,b,c,d⟩
  ·exact a
  ·exfalso;have m:=Il a;obtain⟨f,j,R,_⟩:=ring S m;have:=own S m B b;rw[<-d S m,z f S j R]at this;omega
end
def Bt(t b X Y:Int)(x y:Rat)(w:Wl):Bool:=(!decide (LY x y (LW t b X 1 w.1) (LW t b Y 1 w.2.1))&&decide (LY x y (LW t b X 1 w.2.2.1) (LW t b Y 1 w.2.2.2)))&&decide (Ld (Lc (LW t b X 1 w.1) (LW t b Y 1 w.2.1) (LW t b X 1 w.2.2.1) (LW t b Y 1 w.2.2.2) x y)=1)
def bT(t b X Y:Int)(ws:List Wl)(x y:Rat):List Int:=((Iv ws.length).filter fun j=>Bt t b X Y x y (wn ws j)).map fun j:Nat=>(j:Int)
theorem wZ(t b X Y:Int)(ws:List Wl)(x y:Rat):(Iv (ws.map (rwl t b X Y)).length).filterMap (fun j=>if Bt t b X Y x y (wn ws j)=LC then LA (rwl t b X Y (wn ws j))else LB)=((bT t b X Y ws x y).map (wAt ws)).map (rwl t b X Y):=by rw[Ii];unfold bT;rw[Ko,Ko];exact gO (fun j=>Bt t b X Y x y (wn ws j)) (fun j:Nat=>rwl t b X Y (wn ws j)) _
theorem dS{t b X Y:Int}{ws:List Wl}{x y:Rat}{k:Int}:k∈bT t b X Y ws x y↔∃j:Nat,k=(j:Int)/\j<ws.length/\Bt t b X Y x y (wn ws j)=LC:=by
 unfold bT;rw[J1];constructor
 ·rintro⟨j,h,e⟩;rw[IJ,IZ]at h;exact⟨j,e.symm,h⟩
 ·rintro⟨j,e,h⟩;exact⟨j,IJ.mpr ⟨IZ.mpr h.1,h.2⟩,e.symm⟩
theorem yj(t b X Y:Int)(ws:List Wl)(x y:Rat):(bT t b X Y ws x y).Nodup:=by unfold bT List.Nodup;rw[List.pairwise_map];have h:List.Pairwise (fun x y:Nat=>x≠y) ((Iv ws.length).filter fun j=>Bt t b X Y x y (wn ws j)):=KP _ List.nodup_range;refine List.Pairwise.imp (R:=fun x y:Nat=>x≠y) ?_ h;omega
theorem EY{t b X Y:Int}(c:0<t)(f:0<b){ws:List Wl}(i:∀w∈ws,Un5 w){p q:Int}(h:-10<=q/\q<=85):bT t b X Y ws (LW t b X 1 p) (LW t b Y 1 q)=bK ws 1 p q:=by
 unfold bT bK
 congr 1
 refine List.filter_congr fun a j=>?_;have W:=aH i (IZ.mp j);have g:(0:Int)<1/\(1:Int)<=4:=⋯
 unfold Bt bB spB;rw[uK c f g.1,decide_eq_decide.mpr (yU c f g h W.b),decide_eq_decide.mpr (yU c f g h W.d),<-decide_not];show(decide (¬la p q<1*l1 (wn ws a))&&decide (la p q<1*l2 (wn ws a))&&_)=(decide (1*l1 (wn ws a)<=la p q)&&decide (la p q<1*l2 (wn ws a))&&_);have e:decide (¬la p q<1*l1 (wn ws a))=decide (1*l1 (wn ws a)<=la p q):=by rw[LK];omega
 rw[e];rfl
theorem oJ{t b X Y m:Int}(c:0<t)(d:0<b)(a:0<m)(w:Wl)(p q:Int):Bt t b X Y (LW t b X m p) (LW t b Y m q) w=LC↔spx w m p q/\0<sL w m p q:=by
 unfold Bt spx;have e:sd (uby m w) p q=m*sL w m p q:=by unfold sd uby sL crs;dsimp only;grind
 rw[uK c d a,e,ID,ID,LL,LL,sg1,Bool.not_eq_true',decide_eq_false_iff_not,Le c d a ⋯,Le c d a ⋯,Lf,Lf,Int.one_mul,Int.one_mul];have:=Ma.ui (z:=sL w m p q) a;rw[this]
theorem FK{a b x y c d:Rat}(e:¬LY x y a b)(f:LY x y c d):LY a b c d:=by unfold LY at *;grind
theorem zD{t b X Y:Int}(A:0<t)(B:0<b){ws:List Wl}(h:∀w∈ws,Un5 w)(hF:PF ws){x y:Rat}(C:bT t b X Y ws x y≠[]):∃f∈bT t b X Y ws x y,∀w∈(bT t b X Y ws x y).map (wAt ws),w=wAt ws f\/(abv (wAt ws f) w=LC/\abv w (wAt ws f)=LD):=by
 obtain⟨f,l,D⟩:=AX h hF _ _ rfl C (yj t b X Y ws x y) fun k g=>by obtain⟨j,rfl,a,_⟩:=dS.mp g;omega
 refine⟨f,l,fun w E=>?_⟩;obtain⟨k,g,rfl⟩:=J1.mp E;by_cases e:k=f
 ·subst e;exact .inl rfl
 ·right;have n:=D k g;obtain⟨i,rfl,m,o⟩:=dS.mp l;obtain⟨j,rfl,p,r⟩:=dS.mp g;have I:=aH h m;have J:=aH h p;have s:∀{u v:Wl},Un5 u->Un5 v->Bt t b X Y x y u=LC->Bt t b X Y x y v=LC->l1 u<l2 v:=fun{u v} F G a c=>by unfold Bt at a c;rw[ID,ID,Bool.not_eq_true',decide_eq_false_iff_not,LL]at a c;exact(mF A B F.b G.d).mp (FK a.1.1 c.1.2)
  have H:max (l1 (wn ws j)) (l1 (wn ws i))<min (l2 (wn ws j)) (l2 (wn ws i)):=bC.mpr ⟨J.lt,s J I r o,s I J o r,I.lt⟩;have q:=du J I (aU hF p m (fun z=>e (by rw[z]))) H;have n:abv (wn ws j) (wn ws i)=LD:=n;rw[n]at q;exact⟨q,n⟩
def enB(w:Wl)(l s:Int):Bool:=decide (l=l1 w)||decide (l=l2 w)||decide (l<l1 w)||decide (l2 w<l)||decide (s≠0)
theorem oA{w:Wl}{l s:Int}(h:enB w l s=LC):bH w l s:=by
 unfold enB at h;simp only[Bool.or_eq_true,LL]at h;unfold bH;rcases h with(((h|h)|h)|h)|h
 ·exact .inl h
 ·exact .inr (.inl h)
 ·exact .inr (.inr (.inl h))
 ·exact .inr (.inr (.inr (.inl h)))
 ·exact .inr (.inr (.inr (.inr h)))
def frB(U V:Wl):Bool:=!(decide (l1 U=l1 V)&&decide (l2 U=l2 V))&&(enB U (l1 V) (sd1 U V)&&(enB U (l2 V) (sd2 U V)&&(enB V (l1 U) (sd1 V U)&&(enB V (l2 U) (sd2 V U)&&(decide (0<=Ij (sd1 U V)*Ij (sd2 U V))||decide (0<=Ij (sd1 V U)*Ij (sd2 V U)))))))
theorem Ex{U V:Wl}(h:frB U V=LC):Fair U V:=by unfold frB at h;simp only[ID,Bool.or_eq_true,Bool.not_eq_true',LL]at h;obtain⟨a,b,c,d,e,f⟩:=h;refine⟨fun z=>?_,oA b,oA c,oA d,oA e,f⟩;rw[LI z.1,LI z.2]at a;cases a
def alB:List Wl->Bool
 |[]=>LC
 |w::l=>l.all (frB w)&&alB l
theorem zo:∀{l:List Wl},alB l=LC->l.Pairwise Fair
 |[],_=>List.Pairwise.nil
 |w::l,h=>by
  rw[alB,ID]at h
  exact List.Pairwise.cons (fun v a=>Ex (Je.mp h.1 v a)) (zo h.2)
def unB(w:Wl):Bool:=decide ((0<=w.1/\w.1<=20)/\(0<=w.2.1/\w.2.1<=20)/\(0<=w.2.2.1/\w.2.2.1<=20)/\(0<=w.2.2.2/\w.2.2.2<=20)/\l1 w<l2 w)
theorem Dj{w:Wl}(h:unB w=LC):Un5 w:=by unfold unB at h;obtain⟨a,b,c,d,e⟩:=LJ h;exact⟨a,b,c,d,e⟩
theorem AB{ws:List Wl}(h:ws.Pairwise Fair):PF ws:=fun i j U V ne e f=>by
 obtain⟨a,b⟩:=Iu.mp e;obtain⟨c,d⟩:=Iu.mp f;have P:=Ka.mp h;rcases Nat.lt_or_gt_of_ne ne with z|z
 ·rw[<-b,<-d];exact P i j a c z
 ·rw[<-b,<-d];exact(P j i c a z).swap
def bxy(x y w:Int):List Wl:=[(x,y,x+w,y),(x+w,y,x+w,y+w),(x,y+w,x+w,y+w),(x,y,x,y+w)]
def oj:List (List Wl×Int):=[(bxy 0 0 12,1),(bxy 0 0 12,2),(bxy 0 0 12++bxy 1 1 10,2),(bxy 0 0 12++bxy 1 1 10,3),(bxy 0 0 12++bxy 2 2 8,3),(bxy 0 0 12++bxy 2 2 8,4)]
def mxl(us:List Wl)(a t1 b c:Int):List Wl:=us++(bxy (a+t1) (a+b) (1+c)++([(9,8,9,9)]++([(a,8,a+1,8),(a,9,a+1,9)]++bxy 12 12 2)))
theorem Bc:(oj.all fun g=>[0,1].all fun t1=>[0,1].all fun a=>[0,1].all fun b=>alB (mxl g.1 g.2 t1 a b)&&(mxl g.1 g.2 t1 a b).all unB)=LC:=by decide +kernel
theorem CB{us:List Wl}{a t1 b c:Int}(g:(us,a)∈oj)(d:0<=t1/\t1<2)(e:0<=b/\b<2)(f:0<=c/\c<2):(mxl us a t1 b c).Pairwise Fair/\∀w∈mxl us a t1 b c,Un5 w:=by
 have m:∀{t:Int},(0<=t/\t<2)->t∈([0,1]:List Int):=fun{t} h=>by rcases(():t=0\/t=1)with rfl|rfl<;>simp
 have:=Je.mp (Je.mp (Je.mp (Je.mp Bc _ g) _ (m d)) _ (m e)) _ (m f);rw[ID]at this;exact⟨zo this.1,fun w i=>Dj (Je.mp this.2 w i)⟩
theorem CD{us vs ws:List Wl}{a t1 b c:Int}(g:(us,a)∈oj)(d:0<=t1/\t1<2)(e:0<=b/\b<2)(f:0<=c/\c<2)(s:vs.Sublist (mxl us a t1 b c))(p:ws.Perm vs):PF ws/\(∀w∈ws,Un5 w)/\ws.length<=19:=by
 obtain⟨A,B⟩:=CB g d e f;refine⟨AB ((p.pairwise_iff (fun{x y} h=>Fair.swap h)).mpr (A.sublist s)),fun w i=>B w (s.subset (p.mem_iff.mp i)),?_⟩;rw[p.length_eq];refine Jp s.length_le ?_
 have j:us.length<=8:=by
  have:(oj.all fun g=>decide (g.1.length<=8))=LC:=by decide +kernel
  exact LJ (Je.mp this _ g)
 unfold mxl;simp only[JC];show us.length+(4+(1+(2+4)))<=19;omega
theorem pR:PyData.strOk (JQ "land")=LC:=by decide +kernel
theorem AG{t b X Y:Int}{M:MH}{z:Addr}{ps:List Vc}{x y:Rat}{Q:DK}(hz:M z=LA (.lst (ps.map (gsp t b X Y))))(c:∀u∈ps,¬(LW t b X 1 u.1=x/\LW t b Y 1 u.2=y))(k:Q (.bl LD) M):AZ (fun b=>b) (Lj x y) (.ref z) M Q:=by
 refine⟨.tuple [.tuple [.int x.num,.int (x.den:Int)],.tuple [.int y.num,.int (y.den:Int)]],ps.map (gP t b X Y),Pd.of rfl,.inl (.lst hz (ue t b X Y ps)),rfl,ua t b X Y ps,?_⟩
 have e:((ps.map (gP t b X Y)).any fun q=>J0 q (.tuple [.tuple [.int x.num,.int (x.den:Int)],.tuple [.int y.num,.int (y.den:Int)]]))=LD:=by
  rw[List.any_map,List.any_eq_false]
  intro u d a
  have a:J0 (.tuple [.tuple [.int (LW t b X 1 u.1).num,.int ((LW t b X 1 u.1).den:Int)],.tuple [.int (LW t b Y 1 u.2).num,.int ((LW t b Y 1 u.2).den:Int)]]) (.tuple [.tuple [.int x.num,.int (x.den:Int)],.tuple [.int y.num,.int (y.den:Int)]])=LC:=a
  rw[Li,LL]at a
  exact c u d a
 rw[e];exact k
def bsp(x y w:Int):List D:=[.tup [.int x,.int y],.tup [.int (x+w),.int y],.tup [.int (x+w),.int (y+w)],.tup [.int x,.int (y+w)]]
structure LS(ws:List Wl)(L:List Int)(m p q v:Int):Prop where
 off:∀k,k<ws.length->¬OnU (wn ws k) m p q
 z:(∀k,k<ws.length->¬BL ws m p q k)->v=0
 tp:∀u,u<ws.length->BL ws m p q u->(∀k,k<ws.length->k≠u->BL ws m p q k->abv (wn ws u) (wn ws k)=LC)->L[2*u]?=LA v
section
variable{ws:List Wl}(hU:∀w∈ws,Un5 w)(hF:PF ws)
include hU hF in
theorem oo{m p q:Int}(j:0<m){c:Nat}(l:c<ws.length)(h:BL ws m p q c):∃u,u<ws.length/\BL ws m p q u/\∀k,k<ws.length->k≠u->BL ws m p q k->abv (wn ws u) (wn ws k)=LC:=by
 have e:∀k,Bt 1 1 0 0 (LW 1 1 0 m p) (LW 1 1 0 m q) (wn ws k)=LC↔BL ws m p q k:=fun k=>oJ ⋯ ⋯ j _ p q;have n:((c:Nat):Int)∈bT 1 1 0 0 ws (LW 1 1 0 m p) (LW 1 1 0 m q):=dS.mpr ⟨c,rfl,l,(e c).mpr h⟩;obtain⟨r,f,d⟩:=zD (t:=1) (b:=1) (X:=0) (Y:=0) ⋯ ⋯ hU hF (JW n);obtain⟨u,rfl,g,o⟩:=dS.mp f;refine⟨u,g,(e u).mp o,fun k i ne b=>?_⟩;rcases d _ (J1.mpr ⟨((k:Nat):Int),dS.mpr ⟨k,rfl,i,(e k).mpr b⟩,rfl⟩)with a|a
 ·exfalso;have a:wn ws k=wn ws u:=a;exact(aU hF i g ne).ne ⟨by rw[a],by rw[a]⟩
 ·exact a.1
include hU in
theorem oQ{m p q:Int}(off:∀k,k<ws.length->¬OnU (wn ws k) m p q):∀k,k<ws.length->spx (wn ws k) m p q->(wn ws k).1<(wn ws k).2.2.1:=fun k a s=>by
 have W:=aH hU a;have c:=W.lt;have b:=W.b;have d:=W.d
 refine K9 fun n=>?_;have e:(wn ws k).1=(wn ws k).2.2.1:=by unfold l1 l2 la at c;omega
 obtain⟨f,g⟩:=s;refine off k a ⟨?_,f,?_⟩
 ·have:p-m*(wn ws k).1=0:=by rw[<-e]at g;omega
  rw[this,show(wn ws k).2.2.1-(wn ws k).1=0 by omega,Int.zero_mul,JT]
 ·omega
variable{L:List Int}(il:cU ws L)
include hU hF il in
theorem gT{m p q v:Int}(c:0<m)(h:-(80*m)<=q/\q<90*m)(off:∀k,k<ws.length->¬OnU (wn ws k) m p q){f:Nat}(d:f<2*ws.length)(V:∀g r,g<2*ws.length->f9 ws g r->Vs ws (dR r) m p q=Pf ws (dR r) f)(e:L[f]?=LA v):LS ws L m p q v:=by
 obtain⟨i,j⟩:=land_eq hU hF il;refine⟨off,fun z=>?_,fun u l b top=>?_⟩
 ·have:=j f d fun g r a R=>by rw[<-V g r a R];exact bU fun k n=>LF (z k n)
  rw[e]at this;exact Option.some.inj this
 ·rw[<-e];exact i _ _ () d fun g r a R=>by rw[<-V g r a R];exact(oH hU hF (aQ hU hF a R) c (gx hU c h) (oQ hU off) l b top).symm
include hU hF il in
theorem BR{m p q:Int}(a:0<m)(d:-(80*m)<=q/\q<90*m)(off:∀k,k<ws.length->¬OnU (wn ws k) m p q):∃v,LS ws L m p q v:=by
 by_cases n:∀k,k<ws.length->¬BL ws m p q k
 ·exact⟨0,off,fun _=>rfl,fun u c b _=>absurd b (n u c)⟩
 ·obtain⟨k,h⟩:=Classical.not_forall.mp n;obtain⟨e,h⟩:=Classical.not_imp.mp h;obtain⟨u,c,b,top⟩:=oo hU hF a e (Classical.not_not.mp h);have:=il.len;exact⟨_,gT hU hF il a d off (():2*u<2*ws.length) (fun g r f R=>oH hU hF (aQ hU hF f R) a (gx hU a d) (oQ hU off) c b top) (Ia ())⟩
include hU hF il in
theorem Aa{m p q p' q' v:Int}(c:0<m)(j:-(80*m)<=q/\q<90*m)(d:-(80*m)<=q'/\q'<90*m)(a:∀k,k<ws.length->¬OnU (wn ws k) m p' q')(V:∀g r,g<2*ws.length->f9 ws g r->Vs ws (dR r) m p q=Vs ws (dR r) m p' q')(h:LS ws L m p q v):LS ws L m p' q' v:=by
 by_cases n:∀k,k<ws.length->¬BL ws m p q k
 ·obtain⟨s,l⟩:=land_eq hU hF il;have o:=h.z n;subst o;refine⟨a,fun _=>rfl,fun u f b top=>l _ () fun g r e R=>?_⟩;rw[<-oH hU hF (aQ hU hF e R) c (gx hU c d) (oQ hU a) f b top,<-V g r e R];exact bU fun k i=>LF (n k i)
 ·obtain⟨k,z⟩:=Classical.not_forall.mp n;obtain⟨i,z⟩:=Classical.not_imp.mp z;obtain⟨u,f,b,top⟩:=oo hU hF c i (Classical.not_not.mp z)
  exact gT hU hF il c d a (():2*u<2*ws.length) (fun g r e R=>by
   rw[<-V g r e R]
   exact oH hU hF (aQ hU hF e R) c (gx hU c j) (oQ hU h.off) f b top) (h.tp u f b top)
def mtB(V U:Wl):Option Bool:=if Ij (sd1 V U)*Ij (sd2 V U)<0/\Ij (sd1 U V)*Ij (sd2 U V)<0 then LA LC else if Ij (sd1 V U)*Ij (sd2 V U)<=0/\Ij (sd1 U V)*Ij (sd2 U V)<=0 then LA LD else LB
theorem yo{V U:Wl}(h:mtB V U=LB):NM U V:=by
 unfold mtB at h;unfold NM;split at h
 ·cases h
 ·split at h
  ·cases h
  ·rename_i n;rcases Int.lt_or_le 0 (Ij (sd1 V U)*Ij (sd2 V U))with x|x
   ·exact .inl x
   ·exact .inr (L8.mp fun y=>n ⟨x,y⟩)
theorem Cw{V U:Wl}(h:mtB V U=LA LC):Ij (sd1 V U)*Ij (sd2 V U)<0/\Ij (sd1 U V)*Ij (sd2 U V)<0:=by
 unfold mtB at h;split at h
 ·assumption
 ·split at h<;>cases h
theorem uL{a b:Int}(h:Ij a*Ij b<0):(0<a/\b<0)\/(a<0/\0<b):=by rcases Ig a 0 with x|x|x<;>rcases Ig b 0 with y|y|y<;>simp[x,y,II,IX]at h ⊢<;>omega
include hU hF il in
theorem qc{m p q p' q' v:Int}(d:0<m)(e:-(80*m)<=q/\q<90*m)(b:-(80*m)<=q'/\q'<90*m)(a:∀k,k<ws.length->¬OnU (wn ws k) m p' q')(n:∀k,k<ws.length->mtB (uby m (wn ws k)) (p,q,p',q')=LB)(h:LS ws L m p q v):LS ws L m p' q' v:=Aa hU hF il d e b a (fun g r f R=>qN hU hF (aQ hU hF f R) d e b (fun k c=>⟨h.off k c,a k c⟩) fun k c=>yo (n k c)) h
include hU hF il in
theorem wH{m p q p' q':Int}(a:0<m)(u:-(80*m)<=q/\q<90*m)(h:-(80*m)<=q'/\q'<90*m)(off:∀k,k<ws.length->¬OnU (wn ws k) m p q)(e:∀k,k<ws.length->¬OnU (wn ws k) m p' q'){j:Nat}(D:j<ws.length)(c:mtB (uby m (wn ws j)) (p,q,p',q')=LA LC)(n:∀k,k<ws.length->k≠j->mtB (uby m (wn ws k)) (p,q,p',q')=LB) :
 ∃(b:Nat) (v y:Int),b<=1/\(b=1↔sd (uby m (wn ws j)) p q<0)/\L[2*j+b]?=LA v/\L[2*j+(1-b)]?=LA y/\LS ws L m p q v/\LS ws L m p' q' y:=by
 have F:=il.len
 obtain⟨i,x⟩:=Cw c
 have i:=uL i
 have x:=uL x
 rw[eW,fM,(bz a).1,(bz a).1,(bz a).2.1,(bz a).2.1]at i
 have E:sd (uby m (wn ws j)) p q=m*sL (wn ws j) m p q:=by unfold sd uby sL crs;dsimp only;grind
 have K:∀g r,g<2*ws.length->f9 ws g r->_:=fun g r f R=>xF hU hF (aQ hU hF f R) D a u h (fun k l=>⟨off k l,e k l⟩) (fun k l ne=>yo (n k l ne)) i x
 rw[E]
 have z:∀d:Nat->Int,Pf ws d (2*j+0)=Bw ws d j+d j:=fun d=>by rw[Nat.add_zero,eP]
 have get:∀b,b<=1->∃v,L[2*j+b]?=LA v:=fun b G=>⟨_,Ia (():2*j+b<L.length)⟩
 obtain⟨A,o⟩:=get 0 ⋯
 obtain⟨B,s⟩:=get 1 ⋯
 rcases i with⟨t,C⟩|⟨t,C⟩
 ·have:=Ip a t
  refine⟨0,A,B,⋯,(),o,s,gT hU hF il a u off () (fun g r f R=>?_) o,gT hU hF il a h e () (fun g r f R=>?_) s⟩
  ·rw[(K g r f R).1,LG t,z]
  ·rw[(K g r f R).2,LF (),jK,Int.add_zero]
 ·have:=Io a t
  refine⟨1,B,A,⋯,(),s,o,gT hU hF il a u off () (fun g r f R=>?_) s,gT hU hF il a h e () (fun g r f R=>?_) o⟩
  ·rw[(K g r f R).1,LF (),jK,Int.add_zero]
  ·rw[(K g r f R).2,LG C,z]
end
abbrev W8(w:Wl):Prop:=(0<=w.1/\w.1<=80)/\(0<=w.2.1/\w.2.1<=80)/\(0<=w.2.2.1/\w.2.2.1<=80)/\(0<=w.2.2.2/\w.2.2.2<=80)
theorem xc{a b c d:Int}(f:-10<=b/\b<=85)(hd:-10<=d/\d<=85):HT.lexLe [a,b] [c,d]=decide (la a b<=la c d):=by
 have e:Lo [c,d] [a,b]=decide (la c d<la a b):=by rw[K7,Lf,LL];unfold la;omega
 rw[Ma.vJ,e,<-decide_not,LK];omega
theorem BY{w:Wl}(W:Un5 w){p q:Int}(h:(decide (l1 (uby 4 w)<=la p q)&&decide (la p q<=l2 (uby 4 w))&&decide (sd (uby 4 w) p q=0))=LD):¬OnU w 4 p q:=fun o=>by
 have a:=o.la W
 have z:sd (uby 4 w) p q=0:=by
  have e:sd (uby 4 w) p q=4*sL w 4 p q:=by unfold sd uby sL crs;dsimp only;grind
  have:=o.1
  rw[e];unfold sL;omega
 rw[LI z,LI (show l1 (uby 4 w)<=la p q by unfold l1 la uby at *;dsimp only;omega),LI (show la p q<=l2 (uby 4 w) by unfold l2 la uby at *;dsimp only;omega)]at h;cases h
theorem Bu{V U:Wl}{A B:Int}(a:Ij (sd1 V U)*Ij (sd2 V U)=A)(b:Ij (sd1 U V)*Ij (sd2 U V)=B):mtB V U=if(decide (A<0)&&decide (B<0))=LC then LA LC else if(decide (A<=0)&&decide (B<=0))=LC then LA LD else LB:=by unfold mtB;rw[a,b];simp only[ID,LL]
theorem xo:¬(HT.sIx 3 0 LB=0/\HT.sIx 3 3 (LA 2)=3):=⋯
def onL(w:Wl)(x y:Int):Bool:=decide (l1 w<=la x y)&&decide (la x y<=l2 w)&&decide (sd w x y=0)
def onF(ws:List Wl)(p q p' q':Int)(j:Nat):Bool:=onL (uby 4 (wn ws j)) p q||onL (uby 4 (wn ws j)) p' q'
theorem wy(ws:List Wl)(p q p' q':Int):(Iv ws.length).filterMap (fun j=>if onF ws p q p' q' j=LC then LA (uw (uby 4 (wn ws j)))else LB)=(((Iv ws.length).filter (onF ws p q p' q')).map fun j=>uby 4 (wn ws j)).map uw:=by rw[Ko];exact gO (onF ws p q p' q') (fun j:Nat=>uw (uby 4 (wn ws j))) _
theorem Bb{ws:List Wl}(b:∀w∈ws,Un5 w){p q p' q':Int}(h:(((Iv ws.length).filter (onF ws p q p' q')).map fun j=>uby 4 (wn ws j)).isEmpty=LC):(∀k,k<ws.length->¬OnU (wn ws k) 4 p q)/\∀k,k<ws.length->¬OnU (wn ws k) 4 p' q':=by
 rw[List.isEmpty_iff,List.map_eq_nil_iff,List.filter_eq_nil_iff]at h
 have g:∀k,k<ws.length->onL (uby 4 (wn ws k)) p q=LD/\onL (uby 4 (wn ws k)) p' q'=LD:=fun k a=>by
  have:=h k (IZ.mpr a)
  unfold onF at this
  rw[Bool.or_eq_true]at this
  exact⟨eq_false_of_ne_true fun z=>this (.inl z),eq_false_of_ne_true fun z=>this (.inr z)⟩
 exact⟨fun k a=>BY (aH b a) (g k a).1,fun k a=>BY (aH b a) (g k a).2⟩
theorem yS{w:Wl}(h:Un5 w):W8 (uby 4 w):=by
 have a:=h.a;have b:=h.b;have c:=h.c;have d:=h.d
 unfold W8 uby;dsimp only;omega
def mtD(x:Nat×Bool):D:=.tup [.int (x.1:Int),.bl x.2]
def mtP(x:Nat×Bool):KU:=.tuple [.int (x.1:Int),.bool x.2]
def mtI(vs:List Wl)(U:Wl)(j:Nat):Option (Nat×Bool):=(mtB (wn vs j) U).map fun b=>(j,b)
def mts(vs:List Wl)(U:Wl):List (Nat×Bool):=(Iv vs.length).filterMap (mtI vs U)
theorem wM{M:MH}:∀l:List (Nat×Bool),Pds M (l.map mtD) (l.map mtP)
 |[]=>.nil
 |x::l=>.cons (Pd.of rfl) (wM l)
theorem yZ:∀l:List (Nat×Bool),JK (l.map mtP)=LC/\Kj (l.map mtP)<=10
 |[]=>⟨rfl,nbL rfl⟩
 |x::l=>by
  obtain⟨a,b⟩:=yZ l
  rw[Ih,JK,Kj,a]
  exact⟨rfl,Nat.max_le.mpr ⟨nbL rfl,b⟩⟩
theorem vq(l:List (Nat×Bool)):Jy (.list (l.map mtP))=LC:=by obtain⟨a,b⟩:=yZ l;unfold Jy;rw[KZ,PyData.depth,a,Jl];exact LI ()
theorem rE:∀l:List (Nat×Bool),J0 (.list (l.map mtP)) (.list [])=l.isEmpty
 |[]=>by simp[J0,Jo]
 |x::l=>by simp[J0,Jo]
theorem yi{b:Type}{f:Nat->Option b}{x:b}:∀{n:Nat},(Iv n).filterMap f=[x]->∃j,j<n/\f j=LA x/\∀k,k<n->k≠j->f k=LB
 |0,h=>by cases h
 |n+1,h=>by
  rw[JE,KC]at h
  cases e:f n with
  |none=>
   have e2:[n].filterMap f=[]:=by simp[e]
   rw[e2,Jv]at h
   obtain⟨j,m,d,g⟩:=yi h
   refine⟨j,(),d,fun k i ne=>?_⟩
   by_cases z:k=n
   ·subst z;exact e
   ·exact g k () ne
  |some y=>
   have e2:[n].filterMap f=[y]:=by simp[e]
   rw[e2]at h
   have c:(Iv n).filterMap f=[]:=by
    have:=congrArg List.length h
    simp at this
    exact List.filterMap_eq_nil_iff.mpr (fun a l=>this a (IZ.mp l))
   rw[c,List.nil_append]at h
   cases h
   refine⟨n,(),e,fun k i ne=>List.filterMap_eq_nil_iff.mp c k (IZ.mpr ())⟩
theorem qK{vs:List Wl}{U:Wl}{j:Nat}(h:mtI vs U j=LB):mtB (wn vs j) U=LB:=by unfold mtI at h;exact Option.map_eq_none_iff.mp h
theorem Ba{vs:List Wl}{U:Wl}(h:mts vs U=[]):∀k,k<vs.length->mtB (wn vs k) U=LB:=fun k a=>qK (List.filterMap_eq_nil_iff.mp h k (IZ.mpr a))
theorem Ab{vs:List Wl}{U:Wl}{s:Nat}{b:Bool}(h:mts vs U=[(s,b)]):s<vs.length/\mtB (wn vs s) U=LA b/\∀k,k<vs.length->k≠s->mtB (wn vs k) U=LB:=by obtain⟨j,d,a,e⟩:=yi h;unfold mtI at a;obtain⟨c,f,g⟩:=Option.map_eq_some_iff.mp a;cases g;exact⟨d,f,fun k i ne=>qK (e k i ne)⟩
theorem zf{ws:List Wl}{m:Int}{k:Nat}(a:k<ws.length):wn (ws.map (uby m)) k=uby m (wn ws k):=by unfold wn wAt;rw[Jh,Ie,Ia a];rfl
section
variable{ws:List Wl}(hU:∀w∈ws,Un5 w)(hF:PF ws){L:List Int}(il:cU ws L)
include hU hF in
theorem pO{m p q v a:Int}(d:0<m)(h:LS ws L m p q v)(h':LS ws L m p q a):v=a:=by
 by_cases n:∀k,k<ws.length->¬BL ws m p q k
 ·rw[h.z n,h'.z n]
 ·obtain⟨k,z⟩:=Classical.not_forall.mp n;obtain⟨e,z⟩:=Classical.not_imp.mp z;obtain⟨u,c,b,top⟩:=oo hU hF d e (Classical.not_not.mp z);exact Option.some.inj ((h.tp u c b top).symm.trans (h'.tp u c b top))
include hU hF il in
theorem r9{p q p' q':Int}(B:-10<=q/\q<=85)(t:-10<=q'/\q'<=85)(off:∀k,k<ws.length->¬OnU (wn ws k) 4 p q)(c:∀k,k<ws.length->¬OnU (wn ws k) 4 p' q') :
 ∃v g:Int,(∀h,cU ws h->LS ws h 4 p q v/\LS ws h 4 p' q' g)/\(mts (ws.map (uby 4)) (p,q,p',q')=[]->g=v)/\
  ∀s,mts (ws.map (uby 4)) (p,q,p',q')=[(s,LC)]->s<ws.length/\∃b:Nat,b<=1/\(b=1↔sd (uby 4 (wn ws s)) p q<0)/\L[2*s+b]?=LA v/\L[2*s+(1-b)]?=LA g:=by
 have d:(0:Int)<4:=⋯
 have j:-(80*(4:Int))<=q/\q<90*4:=()
 have l:-(80*(4:Int))<=q'/\q'<90*4:=()
 obtain⟨v,m⟩:=BR hU hF il d j off
 obtain⟨g,f⟩:=BR hU hF il d l c
 have u:(ws.map (uby 4)).length=ws.length:=Ii ..
 refine⟨v,g,fun h n=>by rw[rP n il];exact⟨m,f⟩,fun e=>?_,fun s e=>?_⟩
 ·refine pO hU hF d f (qc hU hF il d j l c (fun k o=>?_) m)
  have:=Ba e k ()
  rw[zf o]at this
  exact this
 ·obtain⟨i,r,x⟩:=Ab e
  rw[u]at i
  rw[zf i]at r
  obtain⟨b,w,C,b1,y,e1,e2,k1,z⟩:=wH hU hF il d j l off c i r fun k o ne=>by
   have:=x k () ne
   rw[zf o]at this
   exact this
  have a:=pO hU hF d m k1
  have A:=pO hU hF d f z
  subst a A
  exact⟨i,b,b1,y,e1,e2⟩
end
def ld(v:Int):D:=.tup [.str "land",.int v]
theorem Fv{M:MH}{v:Int}{Q:DK}(k:Q (.bl LD) M):yN (ld v) (ld v) M Q:=by
 have a:Jy (.tuple [.str "land",.int v])=LC:=by simp[Jy,KZ,JK,pR,PyData.depth,Kj]
 refine⟨.tuple [.str "land",.int v],.tuple [.str "land",.int v],Pd.of rfl,Pd.of rfl,a,a,?_⟩;have e:J0 (.tuple [.str "land",.int v]) (.tuple [.str "land",.int v])=LC:=by simp[J0,Jo]
 rw[e];exact k
theorem Er{M:MH}{p q:Addr}{v a:Int}{Q:DK}(d:M p=LA (.lst [ld v,ld a]))(f:M q=LA (.lst [ld v,ld a]))(k:Q (.bl LD) M):yN (.ref p) (.ref q) M Q:=by
 have b:Jy (.list [.tuple [.str "land",.int v],.tuple [.str "land",.int a]])=LC:=by simp[Jy,KZ,JK,pR,PyData.depth,Kj]
 have c:Pds M [ld v,ld a] [.tuple [.str "land",.int v],.tuple [.str "land",.int a]]:=.cons (Pd.of rfl) (.cons (Pd.of rfl) .nil);refine⟨_,_,.lst d c,.lst f c,b,b,?_⟩;have e:J0 (.list [.tuple [.str "land",.int v],.tuple [.str "land",.int a]]) (.list [.tuple [.str "land",.int v],.tuple [.str "land",.int a]])=LC:=by simp[J0,Jo]
 rw[e];exact k
theorem Fl{M:MH}{Q:DK}(k:Q (.bl LD) M):yN (.str "land") (.str "land") M Q:=by
 have a:Jy (.str "land")=LC:=by simp[Jy,KZ,pR,PyData.depth]
 refine⟨.str "land",.str "land",Pd.of rfl,Pd.of rfl,a,a,?_⟩;have e:J0 (.str "land") (.str "land")=LC:=by simp[J0]
 rw[e];exact k
theorem Df{z:Int}{b:Nat}(b1:b<=1)(h:b=1↔z<0):(if decide (Ij z<0)=LC then(1:Int)else 0)=(b:Int):=by
 rcases Ig z 0 with x|x|x
 ·rw[II x,LG ⋯];have:=h.mpr x;omega
 ·subst x;have:¬b=1:=fun y=>absurd (h.mp y) ⋯;rw[LF ⋯];omega
 ·rw[IX x,LF ⋯];have:¬b=1:=fun y=>by have:=h.mp y;omega
  omega
section
open PySem.AutoSeq1 (wpAny_loadPart')
variable{prog:IH}{w:J5}{A:Jd}{E:HY->HZ->Prop}{s:HZ}
theorem tW{it t:Addr}{i:Nat}{items}{x:HY}{Q:HY->HZ->Prop}(a:s.heap.IsTupleIter it t i)(e:s.heap.IsTuple t items)(f:items[i]?=LA x)
 (g:∀h',h'.IsTupleIter it t (i+1)->K0 it s.heap h'->Q x { s with heap:=h' }):Im (IC prog w) A (Builtin.SmallTypes.nextOf (.ref it)) Q E s:=by
 obtain⟨o,b,h,hd⟩:=id a
 obtain⟨j,c,_,k,d⟩:=e
 unfold Builtin.SmallTypes.nextOf
 refine cc (Kg (name:=JQ "__next__") a.typeIs Kz (Ku Kz a.typeIs F.entry_tuple_iterator_next ?_ (F.args_tuple_iterator_next_1 _)))
 show Im _ _ (field (.ref it) 0 >>= _) _ _ s
 refine cc (wpAny_field b hd (x:=.ref t) rfl ?_)
 show Im _ _ (if(Jx t==JZ)=LC then _ else _) _ _ s
 rw[LF (show ¬((Jx t==JZ)=LC)from Iq)]
 show Im _ _ (field (.ref it) 1 >>= _) _ _ s
 refine cc (wpAny_field b hd (x:=.int i 0) rfl ?_)
 show Im _ _ (seqItems? (.ref t) >>= _) _ _ s
 refine cc (KY c d ?_)
 simp only[Jh,f]
 refine cc (wpAny_setField b hd (by simp) (I0 ⟨x,rfl,I0 (g _ ?_ (K4 ..))⟩))
 exact⟨_,Kc _ b (Obj.isFreed_of_fields (Obj.data_mapFields hd _)),(Obj.cls_mapFields ..).trans h,by
  rw[Obj.data_mapFields hd];simp[rawInt]⟩
theorem v9{it t:Addr}{i:Nat}{items}{Q:HY->HZ->Prop}(g:A.handled=LB)(b:s.heap.IsTupleIter it t i)(h:s.heap.IsTuple t items)(j:items[i]?=LB)
 (hE:∀h' e,Heap.ExtBut it s.heap h'->(∃o,h'.get? e=LA o/\o.cls=.type "StopIteration")->E (.ref e) { s with heap:=h' }):Im (IC prog w) A (Builtin.SmallTypes.nextOf (.ref it)) Q E s:=by
 obtain⟨o,c,k,hd⟩:=id b
 obtain⟨l,d,_,n,f⟩:=h
 unfold Builtin.SmallTypes.nextOf
 refine cc (Kg (name:=JQ "__next__") b.typeIs Kz (Ku Kz b.typeIs F.entry_tuple_iterator_next ?_ (F.args_tuple_iterator_next_1 _)))
 show Im _ _ (field (.ref it) 0 >>= _) _ _ s
 refine cc (wpAny_field c hd (x:=.ref t) rfl ?_)
 show Im _ _ (if(Jx t==JZ)=LC then _ else _) _ _ s
 rw[LF (show ¬((Jx t==JZ)=LC)from Iq)]
 show Im _ _ (field (.ref it) 1 >>= _) _ _ s
 refine cc (wpAny_field c hd (x:=.int i 0) rfl ?_)
 show Im _ _ (seqItems? (.ref t) >>= _) _ _ s
 refine cc (KY d f ?_)
 simp only[Jh,j]
 refine cc (wpAny_rule (cc (wpAny_setField c hd (by simp) ?_)))
 show Im _ _ (newExc (.type "StopIteration") [] >>= _) _ _ _
 refine cc ?_
 simp only[newExc,newTuple]
 refine cc (Jc ?_ (by size_fits))
 refine cc (m:=firstArgMember _ _) (wpAny_of_eq (a:=JZ) (by first|rfl|(simp only[firstArgMember];rfl)) ?_)
 refine Jc ?_ (by size_fits)
 simp only[raiseNew]
 refine cc (wpAny_handled ?_)
 first|rw[show A.in1.handled=LB from g]|rw[g]
 refine cc (I0 (wpAny_throw ?_))
 exact hE _ _ (((K4 ..).extBut.push _).push _) ⟨_,Ik _ rfl,rfl⟩
theorem yl(k:A.handled=LB)(it t:Addr)(c:t≠it)(items:Array HY):Draws prog w A it [it,t] items.size (fun i v=>items[i]?=LA v) (fun i h=>h.IsTupleIter it t i/\h.IsTuple t items) where
 live:=fun _ _ st=>let⟨o,d,_⟩:=st.1;⟨o,d⟩
 frame:=fun _ _ _ st f=>by
  obtain⟨⟨o,d,r⟩,⟨g,e,l⟩⟩:=st
  exact⟨⟨o,f it (by simp) o d,r⟩,⟨g,f t (by simp) g e,l⟩⟩
 item:=fun i s Q E j st m=>by
  refine tW st.1 st.2 (x:=items[i]) (by simp[j]) fun n a b=>?_
  exact m _ n s.toks (by simp[j]) ⟨a,st.2.extBut b.extBut c⟩ b
 done:=fun s Q E st hE=>v9 k st.1 st.2 (by simp) hE
theorem wx(l:Addr)(items:Array HY)(n:Nat)(b:Option Addr)(i:Array (Option HY)) :
 Meets (Lb.«enumerate.__new__» ⟨[.type "enumerate",.ref l],[]⟩) (fun _ R s=>s.heap.get? l=LA { cls:=.type "tuple",dict:=b,data:=.seq items n,slots:=i }/\
  R (.ok (.ret (.ref (s.heap.push { cls:=.type "tuple_iterator",data:=.fields #[.ref l,.int 0 0] }).objs.size)))
    { s with heap:=(s.heap.push { cls:=.type "tuple_iterator",data:=.fields #[.ref l,.int 0 0] }).push { cls:=.type "enumerate",data:=.fields #[.none,.bool LD,.ref s.heap.objs.size,rawInt 0,.none,.none] } }):=
 .of_wp fun prog w A R s h=>by
  obtain⟨j,g,d,k,os⟩:=s;obtain⟨a,h⟩:=h
  have f:=sub_enumerate
  have e:Heap.IsTuple (Shared.heap ⟨j,g,d,k,os⟩) l items:=⟨_,a,rfl,n,rfl⟩
  wp_walk using Ji a
  refine wpAny_stack_any fun st=>I0 ?_
  split
  ·rename_i c _ _ _ _ _
   cases (c==L6 "enumerate")
   ·wp_walk using Ji a,wpAny_pyIter_tuple e
    exact⟨_,rfl,h⟩
   ·wp_walk using Ji a,wpAny_pyIter_tuple e
    exact⟨_,rfl,h⟩
  ·wp_walk using Ji a,wpAny_pyIter_tuple e
   exact⟨_,rfl,h⟩
theorem tD{l:Addr}{items:Array HY}{Q:HY->HZ->Prop}(g:s.heap.IsTuple l items)
 (h:∀h',IsEnum h' (s.heap.objs.size+1) s.heap.objs.size 0 .none->h'.IsTupleIter s.heap.objs.size l 0->(∀b o,s.heap.get? b=LA o->h'.get? b=LA o)->Q (.ref (s.heap.objs.size+1)) { s with heap:=h' }) :
 Im (IC prog w) A (call (.type "enumerate") [.ref l]) Q E s:=by
 obtain⟨⟨c,a,i,j⟩,k,d,n,hd⟩:=g
 replace d:c=.type "tuple":=d
 replace hd:i=.seq items n:=hd
 subst d hd
 refine callType_new F.called_enumerate ⋯ (F.typeCall_enumerate_1 _) (F.newCall_enumerate_1 _) (fun obj=>F.args_object_init_2 obj _) F.entry_enumerate_new (wx l items n a j) ⟨k,?_⟩
 have e:(s.heap.push { cls:=.type "tuple_iterator",data:=.fields #[.ref l,.int 0 0] }).objs.size=s.heap.objs.size+1:=K1 ..
 show _/\_
 rw[e]
 have f:IsEnum ((s.heap.push { cls:=.type "tuple_iterator",data:=.fields #[.ref l,.int 0 0] }).push { cls:=.type "enumerate",data:=.fields #[.none,.bool LD,.ref s.heap.objs.size,rawInt 0,.none,.none] }) (s.heap.objs.size+1) s.heap.objs.size 0 .none:=by
  have:=Ik (s.heap.push { cls:=.type "tuple_iterator",data:=.fields #[.ref l,.int 0 0] }) (o:={ cls:=.type "enumerate",data:=.fields #[.none,.bool LD,.ref s.heap.objs.size,rawInt 0,.none,.none] }) rfl
  rw[e]at this;exact this
 exact⟨⟨_,f,rfl⟩,h _ f ⟨_,Ib _ (Ik _ rfl),rfl,rfl⟩ fun b o x=>Ib _ (Ib _ x)⟩
end
def Ff(K:H0)(a:Addr):It:=
 ⟨fun i H=>∃xs x,SqT K H a xs/\xs[i]?=LA x,fun i H x b=>∃T y,x=.ref T/\H T=LB/\b=upd H T (.tup [.int (i:Int),y])/\∀xs,SqT K H a xs->xs[i]?=LA y,fun i H=>∃xs,SqT K H a xs/\xs.length=i⟩
theorem tM{P:IH}{w:J5}{K:H0}{G:List Expr}{kt}{pt:Pos}(a e it:Addr)(t:e≠it):Turn P w K (.Tuple G kt pt) (Ff K a) [e,it] e (fun i h=>(∃j,IsEnum h e it (i:Int) j)/\h.IsTupleIter it a i) where
 mem:=by simp
 obj:=fun i h st b J=>by
  rcases(show b=e\/b=it by simpa using J)with rfl|rfl
  ·obtain⟨⟨j,q⟩,_⟩:=st
   exact⟨_,q,fun v z=>by
    have z':Data.fields _=Data.cell v:=z
    cases z'⟩
  ·obtain⟨o,q,c,d⟩:=st.2
   exact⟨o,q,fun v z=>by rw[d]at z;cases z⟩
 keep:=fun i h h' st k=>by
  obtain⟨⟨j,q⟩,⟨o,R,r⟩⟩:=st
  exact⟨⟨j,k e (by simp) _ q⟩,⟨o,k it (by simp) o R,r⟩⟩
 item:=by
  intro X S T U V i pins s σ H E I O st W
  subst S T U
  obtain⟨xs,x,Q,Y⟩:=W
  obtain⟨g,Z,p,hz⟩:=I.tuple Q
  obtain⟨u,hu,ru⟩:=Z.get Y
  obtain⟨⟨j,y⟩,l⟩:=st
  have p:s.heap.IsTuple a g.toArray:=p
  have le:e<s.heap.objs.size:=Iy y
  have li:it<s.heap.objs.size:=by obtain⟨o,q,_⟩:=l;exact Iy q
  have B:a≠it:=fun z=>by
   subst z
   obtain⟨o1,L,M,_⟩:=l
   obtain⟨o2,y1,C,_⟩:=p
   rw[L]at y1;cases y1
   rw[M]at C;exact absurd (L6.inj C) ⋯
  have a0:e≠a:=fun z=>by
   subst z
   obtain⟨o2,y1,C,_⟩:=p
   rw[show s.heap.get? e=_ from y]at y1;cases y1
   exact absurd (L6.inj C) ⋯
  have D:X.A.in1.handled=LB:=I.ok.hd V
  have c0:i<g.length:=(Iu.mp hu).1
  refine wpAny_pyNext_enum_itemD (yl D it a B g.toArray) y ⟨l,p⟩ (by simp;omega) t (by simp[t,a0]) fun x0 h1 F m R N hT d0 hk=>?_
  obtain rfl:u=x0:=by
   have m:g[i]?=LA x0:=by simpa using m
   rw[hu]at m;cases m;rfl
  refine⟨_,rfl,wpAny_letOwnedTupleGo_enum (s:={ s with heap:=h1,toks:=F+1 }) R fun h2 b0 n=>?_⟩
  have n:K0 e h1 h2:=n
  have fr:=I.fresh
  have I1:Inv X pins σ (upd H s.heap.objs.size (.tup [.int (i:Int),x])) { s with heap:=s.heap.push { cls:=.type "tuple",data:=.seq #[.int (i:Int) F,u] },toks:=s.toks }:=
   I.laid (fun b v q=>Ib _ q) (Ic _) ⟨nbL rfl,[.int (i:Int) F,u],.cons ⟨_,rfl⟩ (.cons ru .nil),⟨_,Ik _ rfl,rfl,_,rfl⟩,⟨_,Ik _ rfl,rfl⟩⟩
  have fk:∀{b:Addr},b<s.heap.objs.size->cB X pins H b->cB X pins (upd H s.heap.objs.size (.tup [.int (i:Int),x])) b:=fun{b} lt f=>⟨by rw[aT (J6 lt)];exact f.1,f.2⟩
  have fe:=fk le (O e (by simp))
  have fi:=fk li (O it (by simp))
  have I2:Inv X pins σ (upd H s.heap.objs.size (.tup [.int (i:Int),x])) { s with heap:=h2,toks:=F+1 }:=by
   refine iL (s:={ s with heap:=s.heap.push { cls:=.type "tuple",data:=.seq #[.int (i:Int) F,u] },toks:=s.toks }) I1 (fun b o ne ni q=>?_) fe fi
   have q:(s.heap.push { cls:=.type "tuple",data:=.seq #[.int (i:Int) F,u] }).get? b=LA o:=q
   refine(n.2 b ne).trans ?_
   rcases Heap.get?_push_cases q with⟨rfl,rfl⟩|q
   ·exact hT
   ·exact hk b o ne ni q
  obtain⟨⟨oi,L,M⟩,_⟩:=N
  refine⟨.ref s.heap.objs.size,_,I2,rfl,⟨_,x,rfl,fr,rfl,fun ys hy=>by rw[I.oe hy Q];exact Y⟩,⟨⟨u,?_⟩,⟨oi,(n.2 it t.symm).trans L,M⟩⟩,fun b J=>?_⟩
  ·have:(((i+1:Nat):Int))=(i:Int)+1:=()
   rw[this];exact b0
  ·rcases(show b=e\/b=it by simpa using J)with rfl|rfl
   ·exact fe.1
   ·exact fi.1
 done:=by
  intro X S T U V i pins s σ H E I O st W
  subst S T U
  obtain⟨xs,Q,Y⟩:=W
  obtain⟨g,Z,p,hz⟩:=I.tuple Q
  have p:s.heap.IsTuple a g.toArray:=p
  obtain⟨⟨j,y⟩,l⟩:=st
  obtain⟨f0,f1,f2,f3,f4,f5⟩:=O it (by simp)
  have hl:=Z.length
  have B:a≠it:=fun z=>by
   subst z
   obtain⟨o1,L,M,_⟩:=l
   obtain⟨o2,y1,C,_⟩:=p
   rw[L]at y1;cases y1
   rw[M]at C;exact absurd (L6.inj C) ⋯
  have D:X.A.in1.handled=LB:=I.ok.hd V
  have ei:g.toArray.size=i:=by simp;omega
  exact wpAny_pyNext_enum_endD (yl D it a B g.toArray) y ⟨by rw[ei];exact l,p⟩ fun h' eb=>⟨rfl,I.turned (t':=s.toks) (fun b o J q=>eb b o J q) f0 f1 f3 f4 f5⟩
 self:=fun _ _ _ _ _ st h=>let⟨⟨_,y⟩,_⟩:=st;KO y h
section
variable{X:Cx}{elts:List Expr}{kt:Nat}{pt:Pos}
def Eo(K:H0)(b:TA):TI:=fun σ H R=>b σ H fun vs H1=>∃a xs,vs=[.ref a]/\SqT K H1 a xs/\R (Ff K a) H1
theorem zO{a:Expr}{j:TA}{p pos:Pos}(m:Gl X "enumerate")(n:X.mg "enumerate"=LB)(o:PA X [a] j)(r:Iz [a] X.env=[(LD,eval a X.env)]:=by rfl):PI X (.Tuple elts kt pt) (.Call (.Name "enumerate" p) [a] [] pos) (Eo X.K j):=by
 intro pins s σ H R I h;refine Call_ (iI I m n fE (JY (thn (o pos pins s σ H _ I h) fun us c d=>?_) r rfl));obtain⟨vs,H1,f,t,v⟩:=d;obtain⟨l,xs,w,x,q⟩:=v;subst w;obtain⟨u,rfl,y⟩:=t.one;cases y;obtain⟨g,B,pt,C⟩:=f.tuple x;refine tD (show c.heap.IsTuple l g.toArray from pt) fun D k i z=>KO k ?_
 have fp:∀b∈[c.heap.objs.size+1,c.heap.objs.size],cB X pins H1 b:=fun b A=>by
  have e:c.heap.objs.size<=b:=by
   rcases(show b=c.heap.objs.size+1\/b=c.heap.objs.size by simpa using A)with rfl|rfl
   ·exact Nat.le_succ _
   ·exact Ic _
  exact f.om e (f.hok.fresh e)
 exact⟨_,[c.heap.objs.size+1,c.heap.objs.size],_,_,H1,rfl,f.kept (t':=c.toks) z,tM l _ _ (Nat.succ_ne_self _),⟨⟨_,k⟩,i⟩,fp,q⟩
def D1(b:TAD):TID:=fun δ M R=>b δ M fun c e=>∃a,c=[.tup a]/\R ⟨a.length,fun i=>(a[i]?).map fun d=>.tup [.int (i:Int),d],fun _=>True⟩ e
theorem wQ{a:Expr}{o:TAD}{p pos:Pos}(z:Gl X "enumerate")(A:X.mg "enumerate"=LB)(B:DA X [a] o)(g:Iz [a] X.env=[(LD,eval a X.env)]:=by rfl):DI X (.Tuple elts kt pt) (.Call (.Name "enumerate" p) [a] [] pos) (D1 o):=
 lX (zO z A B g) fun σ H R C=>by
  obtain⟨δ,M,N,g,D,q,h⟩:=C
  exact⟨δ,M,_,g,D,q,fun O E vs H1 F G I J=>by
   obtain⟨d,e,K⟩:=J
   subst e
   obtain⟨v,rfl,r⟩:=cH G
   rw[Rep]at r
   obtain⟨l,xs,rfl,f,j⟩:=r
   refine⟨l,xs,rfl,f,h _ E H1 _ F I K ⟨fun s u b k w=>⟨xs,b.t _ _ f,j.length.symm⟩,fun i s u c b k w=>?_,?_⟩⟩
   ·have m:i<xs.length:=by rw[<-j.length];exact c
    exact⟨xs,xs[i],b.t _ _ f,by simp[m]⟩
   ·rintro i s u v P c b k w ⟨T,y,rfl,n,rfl,L⟩
    have c:i<d.length:=c
    obtain⟨x,e1,e2⟩:=(j.mono b).get (show d[i]?=LA d[i] by simp[c])
    have:=L xs (b.t _ _ f)
    rw[e1]at this;cases this
    exact⟨.new n,k.new n,.tup [.int (i:Int),d[i]],by simp[c],by rw[Rep];exact⟨T,_,rfl,SqT.of aZ,.cons (by rw[Rep]) (.cons (e2.mono (.new n)) .nil)⟩⟩⟩
end
section
variable{P:IH}{w:J5}{K:H0}{mg:Str->Option HY}{base:Heap}{x:Str}{st:Stmt}{N:List Str}{k:Nat}
def sD1(C:D->MH->DK->Prop):SpD:=fun b M Q=>match b with
 |[a]=>C a M Q
 |_=>False
theorem f7{p:Str}{C:D->MH->DK->Prop}(T:Txt K mg x st)(S:FnScope N [p] (au st))
 (body:∀(f:Addr) (cdv:HY) (A:Jd) (outer:List Env) (s:HZ) (H:Hp) (E:XK),Room k (A.deeper (envOfC x (au st) s.heap.objs.size f cdv))->
  ∃t,DSs (jN CX0 P w K mg base N x (au st) f cdv A outer s H E).nox (bg st) t/\∀a M Q,C a M Q->t { nx:=fun _ d=>Ret Q .non d,rt:=Ret Q } (gw N [a]) M)
 (e:∀(kV b c:HY) (an:Option Addr) (cdv ct a:HY),bindArgs (JN x x (cz st) (bg st) (au st) .none kV b c an cdv ct) ⟨[a],[]⟩=pure ([p].zip [a]):=by intros;rfl):Cal P w K mg base (k+1) x (sD1 C):=by
 refine zQ T S (fun kV b c an cdv ct us g=>?_) (fun i M Q h=>?_) fun f cdv A outer s H E j=>?_
 ·obtain⟨a,rfl⟩:=AK g
  exact e ..
 ·unfold sD1 at h
  split at h
  ·rfl
  ·exact h.elim
 ·obtain⟨t,h,l⟩:=body f cdv A outer s H E j
  refine⟨t,h,fun i M Q h=>?_⟩
  unfold sD1 at h
  split at h
  ·exact l _ _ _ h
  ·exact h.elim
def sD2(C:D->D->MH->DK->Prop):SpD:=fun c M Q=>match c with
 |[a,b]=>C a b M Q
 |_=>False
theorem bE{p q:Str}{C:D->D->MH->DK->Prop}(T:Txt K mg x st)(S:FnScope N [p,q] (au st))
 (body:∀(f:Addr) (cdv:HY) (A:Jd) (outer:List Env) (s:HZ) (H:Hp) (E:XK),Room k (A.deeper (envOfC x (au st) s.heap.objs.size f cdv))->
  ∃t,DSs (jN CX0 P w K mg base N x (au st) f cdv A outer s H E).nox (bg st) t/\∀a b M Q,C a b M Q->t { nx:=fun _ e=>Ret Q .non e,rt:=Ret Q } (gw N [a,b]) M)
 (g:∀(kV c d:HY) (an:Option Addr) (cdv ct a b:HY),bindArgs (JN x x (cz st) (bg st) (au st) .none kV c d an cdv ct) ⟨[a,b],[]⟩=pure ([p,q].zip [a,b]):=by intros;rfl):Cal P w K mg base (k+1) x (sD2 C):=by
 refine zQ T S (fun kV c d an cdv ct us i=>?_) (fun j M Q h=>?_) fun f cdv A outer s H E l=>?_
 ·obtain⟨a,b,rfl⟩:=vN i
  exact g ..
 ·unfold sD2 at h
  split at h
  ·rfl
  ·exact h.elim
 ·obtain⟨t,h,m⟩:=body f cdv A outer s H E l
  refine⟨t,h,fun j M Q h=>?_⟩
  unfold sD2 at h
  split at h
  ·exact m _ _ _ _ h
  ·exact h.elim
def sD3(C:D->D->D->MH->DK->Prop):SpD:=fun d M Q=>match d with
 |[a,b,c]=>C a b c M Q
 |_=>False
theorem jq{p q r:Str}{C:D->D->D->MH->DK->Prop}(T:Txt K mg x st)(S:FnScope N [p,q,r] (au st))
 (body:∀(f:Addr) (cdv:HY) (A:Jd) (outer:List Env) (s:HZ) (H:Hp) (E:XK),Room k (A.deeper (envOfC x (au st) s.heap.objs.size f cdv))->
  ∃t,DSs (jN CX0 P w K mg base N x (au st) f cdv A outer s H E).nox (bg st) t/\∀a b c M Q,C a b c M Q->t { nx:=fun _ g=>Ret Q .non g,rt:=Ret Q } (gw N [a,b,c]) M)
 (i:∀(kV d e:HY) (an:Option Addr) (cdv ct a b c:HY),bindArgs (JN x x (cz st) (bg st) (au st) .none kV d e an cdv ct) ⟨[a,b,c],[]⟩=pure ([p,q,r].zip [a,b,c]):=by intros;rfl):Cal P w K mg base (k+1) x (sD3 C):=by
 refine zQ T S (fun kV d e an cdv ct us j=>?_) (fun l M Q h=>?_) fun f cdv A outer s H E m=>?_
 ·obtain⟨a,b,c,rfl⟩:=Fb j
  exact i ..
 ·unfold sD3 at h
  split at h
  ·rfl
  ·exact h.elim
 ·obtain⟨t,h,n⟩:=body f cdv A outer s H E m
  refine⟨t,h,fun l M Q h=>?_⟩
  unfold sD3 at h
  split at h
  ·exact n _ _ _ _ _ h
  ·exact h.elim
def sD4(C:D->D->D->D->MH->DK->Prop):SpD:=fun e M Q=>match e with
 |[a,b,c,d]=>C a b c d M Q
 |_=>False
theorem G0{p q r t:Str}{C:D->D->D->D->MH->DK->Prop}(T:Txt K mg x st)(S:FnScope N [p,q,r,t] (au st))
 (body:∀(f:Addr) (cdv:HY) (A:Jd) (outer:List Env) (s:HZ) (H:Hp) (E:XK),Room k (A.deeper (envOfC x (au st) s.heap.objs.size f cdv))->
  ∃t,DSs (jN CX0 P w K mg base N x (au st) f cdv A outer s H E).nox (bg st) t/\∀a b c d M Q,C a b c d M Q->t { nx:=fun _ i=>Ret Q .non i,rt:=Ret Q } (gw N [a,b,c,d]) M)
 (j:∀(kV e g:HY) (an:Option Addr) (cdv ct a b c d:HY),bindArgs (JN x x (cz st) (bg st) (au st) .none kV e g an cdv ct) ⟨[a,b,c,d],[]⟩=pure ([p,q,r,t].zip [a,b,c,d]):=by intros;rfl):Cal P w K mg base (k+1) x (sD4 C):=by
 refine zQ T S (fun kV e g an cdv ct us l=>?_) (fun m M Q h=>?_) fun f cdv A outer s H E n=>?_
 ·obtain⟨a,b,c,d,rfl⟩:=HF l
  exact j ..
 ·unfold sD4 at h
  split at h
  ·rfl
  ·exact h.elim
 ·obtain⟨t,h,o⟩:=body f cdv A outer s H E n
  refine⟨t,h,fun m M Q h=>?_⟩
  unfold sD4 at h
  split at h
  ·exact o _ _ _ _ _ _ h
  ·exact h.elim
end
end SD
namespace QQ
open PySem PySem.Spec PyProof.Rows L2 SD
def top(i:Nat):Stmt:=IV.main.body.getD i (.Pass ⟨0,0,0,0⟩)
abbrev iq:Stmt:=top 46
abbrev mK:Stmt:=top 47
abbrev jX:Stmt:=top 49
abbrev k7:Stmt:=top 52
abbrev pW:Stmt:=top 53
abbrev lG:Stmt:=top 54
abbrev fy:Stmt:=top 55
abbrev nk:Stmt:=top 59
abbrev kf:Stmt:=top 60
abbrev nP:Stmt:=top 61
abbrev nC:Stmt:=top 48
abbrev lW:Stmt:=top 50
abbrev lq:Stmt:=top 51
abbrev j0:Stmt:=top 27
abbrev fm:Stmt:=top 28
abbrev B8:Stmt:=top 17
abbrev xp:Stmt:=top 18
abbrev nY:Stmt:=top 19
abbrev fX:Stmt:=top 29
abbrev ik:Stmt:=top 30
abbrev j5:Stmt:=top 31
abbrev mw:Stmt:=top 32
abbrev d7:Stmt:=top 4
abbrev fZ:Stmt:=top 7
abbrev lQ:Stmt:=top 8
abbrev jn:Stmt:=top 33
abbrev eG:Stmt:=top 35
abbrev nh:Stmt:=top 6
abbrev mJ:Stmt:=top 10
abbrev i9:Stmt:=top 12
abbrev gG:Stmt:=top 36
abbrev ic:Stmt:=top 13
abbrev ib:Stmt:=top 14
abbrev vd:Stmt:=top 22
abbrev lF:Stmt:=top 11
abbrev kZ:Stmt:=top 23
abbrev mh:Stmt:=top 5
abbrev kL:Stmt:=top 15
abbrev mv:Stmt:=top 16
abbrev lj:Stmt:=top 24
abbrev ir:Stmt:=top 25
abbrev jf:Stmt:=top 37
abbrev ff:Stmt:=top 38
abbrev qC:Stmt:=top 58
abbrev iP:Stmt:=top 56
abbrev mE:Stmt:=top 62
abbrev je:Stmt:=top 40
abbrev nK:Stmt:=top 20
abbrev jt:Stmt:=top 42
abbrev eK:Stmt:=top 44
abbrev gB:Stmt:=top 43
abbrev mC:Stmt:=top 57
abbrev nS:Stmt:=top 63
abbrev BJ:Stmt:=top 64
local macro_rules | `(tactic| walk_at "sc") => `(tactic| exact ⟨rfl, rfl, rfl, by decide, rfl, by decide, by decide⟩)
theorem _root_.SD.Cal.m{P:IH}{w:J5}{K:H0}{mg:Str->Option HY}{base:Heap}{j k:Nat}{x:Str}{sp:SpD}(h:Cal P w K mg base j x sp)(l:j<=k:=by decide):Cal P w K mg base k x sp:=h.mono l
structure Tx(K:H0)(mg:Str->Option HY):Prop where
 f_law_cell_at:Txt K mg "_law_cell_at" iq
 f_law_take:Txt K mg "_law_take" mK
 f_law_scale:Txt K mg "_law_scale" jX
 f_law_turn:Txt K mg "_law_turn" k7
 f_law_on:Txt K mg "_law_on" pW
 f_law_fair:Txt K mg "_law_fair" lG
 f_law_shuts_here:Txt K mg "_law_shuts_here" fy
 f_law_box:Txt K mg "_law_box" nk
 f_law_order:Txt K mg "_law_order" kf
 f_law_set:Txt K mg "_law_set" nP
 f_law_low:Txt K mg "_law_low" nC
 f_law_spot:Txt K mg "_law_spot" lW
 f_law_made:Txt K mg "_law_made" lq
 f_face_ends:Txt K mg "face_ends" j0
 f_faces_by_start:Txt K mg "faces_by_start" fm
 f_gap:Txt K mg "gap" B8
 f_lean:Txt K mg "lean" xp
 f_side_of:Txt K mg "side_of" nY
 f_is_met_sooner:Txt K mg "is_met_sooner" fX
 f_face_behind:Txt K mg "face_behind" ik
 f_ring_from:Txt K mg "ring_from" j5
 f_rings_of:Txt K mg "rings_of" mw
 f_greatest_divisor:Txt K mg "greatest_divisor" d7
 f_common_bottom:Txt K mg "common_bottom" fZ
 f_top_over:Txt K mg "top_over" lQ
 f_twice_area:Txt K mg "twice_area" jn
 f_outer_and_inner:Txt K mg "outer_and_inner" eG
 f_is_less:Txt K mg "is_less" nh
 f_is_ahead:Txt K mg "is_ahead" mJ
 f_earlier_of:Txt K mg "earlier_of" i9
 f_first_corner:Txt K mg "first_corner" gG
 f_place_among:Txt K mg "place_among" ic
 f_ahead_first:Txt K mg "ahead_first" ib
 f_spans:Txt K mg "spans" vd
 f_later_of:Txt K mg "later_of" lF
 f_is_above:Txt K mg "is_above" kZ
 f_fraction:Txt K mg "fraction" mh
 f_own_spot:Txt K mg "own_spot" kL
 f_own_wall:Txt K mg "own_wall" mv
 f_upper_of:Txt K mg "upper_of" lj
 f_upper_below:Txt K mg "upper_below" ir
 f_land_about:Txt K mg "land_about" jf
 f_lands_of_faces:Txt K mg "lands_of_faces" ff
 f_law_by:Txt K mg "_law_by" qC
 f_law_wanted:Txt K mg "_law_wanted" iP
 f_law_pair:Txt K mg "_law_pair" mE
 f_corners_of:Txt K mg "corners_of" je
 f_lies_on:Txt K mg "lies_on" nK
 f_wall_below:Txt K mg "wall_below" jt
 f_look_with_lands:Txt K mg "look_with_lands" eK
 f_look_plainly:Txt K mg "look_plainly" gB
 f_law_real:Txt K mg "_law_real" mC
 f_law_met:Txt K mg "_law_met" nS
 f_law:Txt K mg "law" BJ
 b_abs:mg "abs"=LB
 b_all:mg "all"=LB
 b_enumerate:mg "enumerate"=LB
 b_int:mg "int"=LB
 b_len:mg "len"=LB
 b_list:mg "list"=LB
 b_max:mg "max"=LB
 b_min:mg "min"=LB
 b_range:mg "range"=LB
 b_tuple:mg "tuple"=LB
 b_zip:mg "zip"=LB
theorem k9:FnScope ["_law_script","_law_k"] ["_law_script","_law_k"] (au iq):=by walk_at "sc"
inductive Cn_law_cell_at(x y:D)(M:MH)(Q:DK):Prop
 |mk (ns:_) (k:_) (_:x=.rol (JI D.int ns)) (_:y=.int k) (_:0<=k) (_:∀z,Q (.int z) M)
variable{P:IH}{w:J5}{K:H0}{mg:Str->Option HY}{base:Heap}
theorem m9(T:Tx K mg):Cal P w K mg base 1 "_law_cell_at" (sD2 Cn_law_cell_at):=by
 refine bE (k:=0) T.f_law_cell_at k9 fun f cdv A outer s H E a=>⟨_,(aj (bc (aI (dP a.units) (dv 1) (aS eU rfl T.b_len eV (ae (dv 0) ag))) (aq (aD (ax (dv 0) (dv 1)))) aN) (aq (aD af))),fun _ _ M Q h=>?_⟩;obtain⟨ns,k,rfl,rfl,e,q⟩:=h;(repeat (first|refine⟨_,rfl,?_⟩|refine⟨trivial,?_⟩|refine⟨_,_,rfl,?_⟩|refine⟨rfl,?_⟩|refine⟨nbL rfl,?_⟩))
 refine bL (fun b=>?_) (fun _=>?_)
 ·have c:k<(ns.length:Int):=by simpa using b
  obtain⟨j,rfl⟩:∃j:Nat,k=(j:Int):=⟨k.toNat,()⟩;have d:j<ns.length:=()
  refine⟨_,rfl,_,rfl,.int ns[j],bZ (by simp[d]),rtn (q _)⟩
 ·exact rtn (q 0)
theorem eO:FnScope ["_law_row","_law_base","_law_rest","_law_number"] ["_law_row","_law_base"] (au mK):=by walk_at "sc"
inductive Cn_law_take(y z:D)(M:MH)(Q:DK):Prop
 |mk (r:_) (b:_) (x:_) (c:_) (_:y=.ref r) (_:z=.int b) (_:M r=LA (.lst [.int x,.int c])) (_:0<=c) (_:c<1000000) (_:0<b) (_:Bd 8000 b) (_:∀x' v,0<=v->v<b->Q (.int v) (ay M r (.lst [.int x',.int (c+1)])))
theorem aB(T:Tx K mg):Cal P w K mg base 1 "_law_take" (sD2 Cn_law_take):=by
 refine bE (k:=0) T.f_law_take eO fun f cdv A outer s H E p=>⟨_,(aj (cv (aw aJ (ax (dv 0) af) af) (kX (dv 0) af)) (aj (bc (aI zG (ax (dv 0) af) (aw jI af af)) (aj (az 2 eO.nd (aw cx (ax (dv 0) af) (aw jI af af))) (aj (cv (aw aJ (aw jI af af) (aw eJ (dv 2) (dv 1))) (kX (dv 0) af)) (aq (aD (aw iH (dv 2) (dv 1)))))) aN) (aj (az 3 eO.nd (aw iH (aw aJ (aw aJ (aw aJ (aw aG (ax (dv 0) af) af) (aw aG (aw aG af (ax (dv 0) af)) (ax (dv 0) af))) (aw aG af (ax (dv 0) af))) af) af)) (aj (az 3 eO.nd (aw iH (aw aJ (aw aJ (aw aG (dv 3) (dv 3)) (aw aG af (dv 3))) (ax (dv 0) af)) af)) (aq (aD (aw iH (aw eJ (dv 3) af) (dv 1)))))))),fun _ _ M Q h=>?_⟩;obtain⟨r,b,x,c,rfl,rfl,i,l,m,j,g,q⟩:=h;have d:Bd 64 (c+1):=by show(c+1).natAbs<2^64;omega
 have a:b≠0:=()
 have e:∀n:Int,0<=n.fmod b/\n.fmod b<b:=fun n=>⟨Int.fmod_nonneg_of_pos _ j,Int.fmod_lt_of_pos _ j⟩;refine⟨_,rfl,_,_,i,rfl,?_⟩;refine⟨_,rfl,_,_,i,rfl,?_⟩;refine⟨_,rfl,_,_,ai,rfl,⟨⋯,⋯,⋯⟩,trivial,_,rfl,?_⟩;refine bL (fun h=>?_) (fun h=>?_)
 ·refine⟨_,rfl,_,_,ai,rfl,⟨⋯,⋯,⋯⟩,trivial,?_⟩;refine⟨⟨⋯,⋯,⋯⟩,_,rfl,_,rfl,⟨a,g⟩,_,rfl,_,_,ai,rfl,?_⟩;refine⟨_,rfl,_,rfl,a,?_⟩;rw[a9];exact rtn (q _ _ (e _).1 (e _).2)
 ·refine⟨_,rfl,_,_,ai,rfl,fU ⋯,?_⟩;refine⟨_,rfl,_,_,ai,rfl,aO ⋯,?_⟩;refine⟨_,rfl,_,_,ai,rfl,fU d,?_⟩;refine⟨_,rfl,_,_,ai,rfl,aO ⋯,(show(2147483399:Int)≠0 by decide),?_⟩
  have o:∀n:Int,Bd 64 (n.fmod 2147483399):=fun n=>by
   have t:=Int.fmod_nonneg_of_pos n (show(0:Int)<2147483399 by decide)
   have u:=Int.fmod_lt_of_pos n (show(0:Int)<2147483399 by decide)
   show(n.fmod 2147483399).natAbs<2^64
   omega
  refine⟨_,rfl,_,rfl,aO (o _),_,rfl,aO ⋯,_,rfl,_,_,ai,rfl,(show(2147483647:Int)≠0 by decide),?_⟩;refine⟨_,rfl,⟨⋯,bA ⋯⟩,_,rfl,a,?_⟩;exact rtn (q _ _ (e _).1 (e _).2)
theorem dM:FnScope ["_law_row","_law_top","_law_bottom","_law_far"] ["_law_row"] (au jX):=by walk_at "sc"
inductive Cn_law_scale(u:D)(M:MH)(Q:DK):Prop
 |mk (r:Addr) (x c:Int) (_:u=.ref r) (_:M r=LA (.lst [.int x,.int c])) (_:0<=c) (_:c<900000) (_:∀x' c' t b p q,Scl t b p q->0<=c'->c'<=c+10->Q (scl t b p q) (ay M r (.lst [.int x',.int c'])))
theorem qD(T:Tx K mg):Cal P w K mg base 2 "_law_scale" (sD1 Cn_law_scale):=by
 refine f7 (k:=1) T.f_law_scale dM fun f cdv A outer s H E d=>⟨_,(aj (fQ 1 2 rfl dM.nd (ae (aw aJ af (ao (aB T).m d (ae (dv 0) (ae af ag)))) (ae (aw aJ af (ao (aB T).m d (ae (dv 0) (ae af ag)))) ag))) (aj (bc (aI (b6 d.units) (ao (aB T).m d (ae (dv 0) (ae af ag))) af) (aq (fQ 1 2 rfl dM.nd (ae (aw aJ af (ao (aB T).m d (ae (dv 0) (ae (aw jI af af) ag)))) (ae (aw aJ af (ao (aB T).m d (ae (dv 0) (ae (aw jI af af) ag)))) ag)))) aN) (aj (az 3 dM.nd (ax (bI (ae af (ae (aw jI af af) ag))) (cS oP rfl T.b_int oZ (ae (c8 (b6 d.units) (ao (aB T).m d (ae (dv 0) (ae af ag))) af) ag)))) (aq (aD (aF (ae (dv 1) (ae (dv 2) (ae (aw aG (dv 3) (aw cx (ao (aB T).m d (ae (dv 0) (ae af ag))) af)) (ae (aw aG (dv 3) (aw cx (ao (aB T).m d (ae (dv 0) (ae af ag))) af)) ag)))))))))),fun _ M Q h=>?_⟩;obtain⟨r,x,c,rfl,S,l,U,k⟩:=h;refine⟨_,rfl,r,6,x,c,rfl,rfl,S,l,(),⋯,bA ⋯,fun x1 V W X=>?_⟩;refine⟨_,rfl,r,6,x1,c+1,rfl,rfl,ai,(),(),⋯,bA ⋯,fun Y Z a0 b0=>?_⟩;refine⟨_,_,rfl,?_⟩;(try dsimp only[SD.aX])
 refine bN (fun δ C=>∃x g t b F,0<=g/\g<=c+5/\(0<t/\t<=10^9/\0<b/\b<=10^9)/\C=ay M r (.lst [.int x,.int g])/\δ=[LA (.ref r),LA (.int t),LA (.int b),F]) ?_ (fun G=>?_);rotate_left
 ·refine⟨_,rfl,r,4,Y,c+1+1,rfl,rfl,ai,(),(),⋯,bA ⋯,fun I v3 c0 d0=>⟨_,rfl,?_⟩⟩;refine bL (fun _=>?_) (fun _=>?_)
  ·refine⟨_,rfl,⟨⋯,⋯,⋯⟩,r,10^9,I,c+1+1+1,rfl,rfl,ai,(),(),⋯,bA ⋯,fun x4 v4 e0 f0=>?_⟩;refine⟨_,rfl,⟨⋯,⋯,⋯⟩,r,10^9,x4,c+1+1+1+1,rfl,rfl,ai,(),(),⋯,bA ⋯,fun x5 v5 g0 h0=>?_⟩;refine⟨_,_,rfl,G _ _ ⟨x5,c+1+1+1+1+1,1+v4,1+v5,LB,(),(),(),?_,rfl⟩⟩;simp only[a9]
  ·refine G _ _ ⟨I,c+1+1+1,1+V,1+Z,LB,(),(),(),?_,rfl⟩;simp only[a9]
 rintro δ C ⟨x,g,t,b,F,J,L,N,rfl,rfl⟩;refine⟨⟨⋯,⋯,⋯⟩,nbL rfl,fun p n=>?_⟩;have i:r≠p:=av ai n;refine⟨_,rfl,r,6,x,g,rfl,rfl,(by rw[ak i,ai]),(),(),⋯,bA ⋯,fun x6 O i0 k0=>?_⟩
 have hf:∃f:Int,atI [D.int 1,D.int (10^15)] (if decide (O=0)=LC then 1 else 0)=LA (.int f)/\1<=f/\f<=10^15:=by
  by_cases z:O=0
  ·exact⟨10^15,by rw[LG (by simpa using z)];rfl,⋯,⋯⟩
  ·exact⟨1,by rw[LF (by simpa using z)];rfl,⋯,⋯⟩
 obtain⟨f,ef,l0,m0⟩:=hf;refine⟨_,_,(by rw[ak i.symm,ai];rfl),ef,?_⟩;have R:Bd 64 f:=by show f.natAbs<2^64;omega
 refine⟨_,rfl,_,rfl,_,rfl,_,rfl,r,41,x6,g+1,rfl,rfl,ai,(),(),⋯,bA ⋯,fun x7 v7 q u=>⟨trivial,aO R,?_⟩⟩;refine⟨_,rfl,_,rfl,r,41,x7,g+1+1,rfl,rfl,ai,(),(),⋯,bA ⋯,fun x8 v8 y B=>⟨trivial,aO R,nbL rfl,?_⟩⟩
 have j:∀v:Int,0<=v->v<41->-(10^17)<=f*(v-20)/\f*(v-20)<=10^17:=fun v a b=>by
  have h1:f*(v-20)<=f*20:=IF () ()
  have h2:f*(-20)<=f*(v-20):=IF () ()
  omega
 have q7:=j v7 q u;have q8:=j v8 y B;refine⟨ay M r (.lst [.int x8,.int (g+1+1+1)]),?_,k _ _ _ _ _ _ ⟨N.1,(),N.2.2.1,(),(),(),(),()⟩ () ()⟩;simp only[a9];refine .Gf ?_;intro a o ne e;have:a≠p:=fun z=>by subst z;rw[ak ne]at n;rw[n]at e;cases e
 rw[ak this,ak ne];exact e
theorem eD:FnScope ["_law_one","_law_two","_law_three","_law_far","_law_beside","_law_found"] ["_law_one","_law_two","_law_three"] (au k7):=by walk_at "sc"
inductive Cn_law_turn(u v w:D)(M:MH)(Q:DK):Prop
 |mk (a b c d e f:Int) (_:u=.tup [.int a,.int b]) (_:v=.tup [.int c,.int d]) (_:w=.tup [.int e,.int f]) (_:Bd 10 a) (_:Bd 10 b) (_:Bd 10 c) (_:Bd 10 d) (_:Q (.int (Ij (crs (c-a) (d-b) (e-a) (f-b)))) M)
theorem cu(T:Tx K mg):Cal P w K mg base 1 "_law_turn" (sD3 Cn_law_turn):=by
 refine jq (k:=0) T.f_law_turn eD fun f cdv A outer s H E g=>⟨_,(aj (az 3 eD.nd (aF (ae (aw cx (ax (dv 1) af) (ax (dv 0) af)) (ae (aw cx (ax (dv 1) af) (ax (dv 0) af)) ag)))) (aj (az 4 eD.nd (aF (ae (aw cx (ax (dv 2) af) (ax (dv 0) af)) (ae (aw cx (ax (dv 2) af) (ax (dv 0) af)) ag)))) (aj (az 5 eD.nd (aw cx (aw aG (ax (dv 3) af) (ax (dv 4) af)) (aw aG (ax (dv 3) af) (ax (dv 4) af)))) (aq (aD (aw cx (cS oP rfl T.b_int oZ (ae (c8 (oS g.units) (dv 5) af) ag)) (cS oP rfl T.b_int oZ (ae (c8 (dP g.units) (dv 5) af) ag)))))))),fun _ _ _ M Q h=>?_⟩;obtain⟨a,b,c,d,e,f,rfl,rfl,rfl,i,j,l,hd,k⟩:=h;refine⟨_,rfl,_,rfl,_,rfl,_,rfl,trivial,_,rfl,_,rfl,_,rfl,_,rfl,trivial,nbL rfl,?_⟩;refine⟨_,rfl,_,rfl,_,rfl,_,rfl,trivial,_,rfl,_,rfl,_,rfl,_,rfl,trivial,nbL rfl,?_⟩;refine⟨_,rfl,_,rfl,_,rfl,_,rfl,aO ((l.sub i).mono ⋯),_,rfl,_,rfl,_,rfl,_,rfl,aO ((hd.sub j).mono ⋯),trivial,?_⟩;refine⟨_,rfl,trivial,_,rfl,trivial,trivial,?_⟩
 have e1:(if decide (0<(c-a)*(f-b)-(d-b)*(e-a))=LC then(1:Int)else 0)-(if decide ((c-a)*(f-b)-(d-b)*(e-a)<0)=LC then(1:Int)else 0)=Ij (crs (c-a) (d-b) (e-a) (f-b)):=by
  unfold crs;generalize (c-a)*(f-b)-(d-b)*(e-a)=z;rcases Ig z 0 with h|h|h
  ·rw[II h,LF (by simp;omega),LG (by simpa using h)];rfl
  ·subst h;rfl
  ·rw[IX h,LG (by simpa using h),LF (by simp;omega)];rfl
 dsimp only;rw[e1];exact rtn k
theorem vt:FnScope ["_law_shut","_law_spot_here"] ["_law_shut","_law_spot_here"] (au pW):=by walk_at "sc"
inductive Cn_law_on(u v:D)(M:MH)(Q:DK):Prop
 |mk (w:Wl) (x y:Int) (_:u=uw w) (_:v=.tup [.int x,.int y]) (_:W8 w) (_:(-10<=x/\x<=85)) (_:(-10<=y/\y<=85)) (_:Q (.bl (decide (l1 w<=la x y)&&decide (la x y<=l2 w)&&decide (sd w x y=0))) M)
theorem l6(T:Tx K mg):Cal P w K mg base 2 "_law_on" (sD2 Cn_law_on):=by
 refine bE (k:=1) T.f_law_on vt fun f cdv A outer s H E b=>⟨_,(aq (aD (pK (yG (oR b.units) (oR b.units) (ax (dv 0) af) (dv 1) (ax (dv 0) af)) (oY (c8 (b6 b.units) (ao (cu T).m b (ae (ax (dv 0) af) (ae (ax (dv 0) af) (ae (dv 1) ag)))) af))))),fun _ _ M Q h=>?_⟩;obtain⟨w,x,y,rfl,rfl,W,i,g,k⟩:=h;have c:∀{z:Int},(0<=z/\z<=80)->Bd 10 z:=fun{z} h=>by show z.natAbs<2^10;omega
 (try dsimp only[SD.f6,SD.dC,SD.aX,SD.gN,SD.gn,SD.cY,SD.dU,SD.tBD,SD.gK])
 refine zX (decide (l1 w<=la x y)&&decide (la x y<=l2 w)) (decide (sd w x y=0)) (fun K a=>?_) (fun _ K a=>?_) (rtn k)
 ·refine⟨_,rfl,_,rfl,_,rfl,[w.1,w.2.1],[x,y],rfl,rfl,_,rfl,?_⟩;rw[xc () g];refine bL (fun h=>?_) (fun h=>?_)
  ·refine⟨_,rfl,_,rfl,[x,y],[w.2.2.1,w.2.2.2],rfl,rfl,?_⟩;rw[xc g ()];have d:decide (l1 w<=la x y)=LC:=h;rw[d,Jl]at a;exact a
  ·have d:decide (l1 w<=la x y)=LD:=eq_false_of_ne_true h;rw[d,J7]at a;exact a
 ·refine⟨_,rfl,_,rfl,_,rfl,_,rfl,_,rfl,w.1,w.2.1,w.2.2.1,w.2.2.2,x,y,rfl,rfl,rfl,c W.1,c W.2.1,c W.2.2.1,c W.2.2.2,?_⟩;have e:decide (Ij (crs (w.2.2.1-w.1) (w.2.2.2-w.2.1) (x-w.1) (y-w.2.1))=0)=decide (sd w x y=0):=by rw[LK];exact Int.sign_eq_zero_iff_zero
  try dsimp only
  show K (.bl (decide _)) _;rw[e];exact a
theorem cT:FnScope ["_law_one","_law_other","_law_shut","_law_beside","_law_spot_here","_law_sides","_law_others"] ["_law_one","_law_other"] (au lG):=by walk_at "sc"
inductive Cn_law_fair(u v:D)(M:MH)(Q:DK):Prop
 |mk (U V:Wl) (_:u=uw U) (_:v=uw V) (_:Un5 U) (_:Un5 V) (_:∀b:Bool,(b=LC->Fair U V)->Q (.bl b) M)
theorem tK(T:Tx K mg):Cal P w K mg base 3 "_law_fair" (sD2 Cn_law_fair):=by
 refine bE (k:=2) T.f_law_fair cT fun f cdv A outer s H E F=>⟨_,(aj (bc (aI (b6 F.units) (dv 0) (dv 1)) (aq (aD iz)) aN) (aj (bX IG rfl (aV (aF (ae (aF (ae (dv 0) (ae (dv 1) ag))) (ae (aF (ae (dv 1) (ae (dv 0) ag))) ag)))) (bJ rfl (aC (aA 2 cT.nd) (aC (aA 3 cT.nd) ba))) (aq (bX IG rfl (aV (dv 3)) (aA 4 cT.nd) (aq (bc (iU (eR (aI (zt (lZ F)) (dv 4) (dv 2) (by with_unfolding_all rfl)) (df (cZ (ao (l6 T).m F (ae (dv 2) (ae (dv 4) ag))))))) (aq (aD iz)) aN))))) (aj (eY 5 cT.nd (CScope.of (xs:=["_law_spot_here"]) (js:=[0]) rfl) rfl (aV (dv 1)) (fun _ _ _ _=>cX) (fun _ _ _ _=>(ao (cu T).m F (ae (ax (dv 1) af) (ae (ax (dv 1) af) (ae (dv 0) ag)))))) (aj (eY 6 cT.nd (CScope.of (xs:=["_law_spot_here"]) (js:=[1]) rfl) rfl (aV (dv 0)) (fun _ _ _ _=>cX) (fun _ _ _ _=>(ao (cu T).m F (ae (ax (dv 1) af) (ae (ax (dv 1) af) (ae (dv 0) ag)))))) (aq (aD (FE (c8 zG (aw aG (ax (dv 5) af) (ax (dv 5) af)) af) (oY (c8 zG (aw aG (ax (dv 6) af) (ax (dv 6) af)) af))))))))),fun _ _ M Q h=>?_⟩;obtain⟨U,V,rfl,rfl,l,n,k⟩:=h;refine⟨_,rfl,_,rfl,_,_,Pd.of rfl,Pd.of rfl,rfl,rfl,_,rfl,?_⟩;refine bL (fun h=>rtn (k LD (fun z=>absurd z Iq))) (fun h=>?_);have N:¬(l1 U=l1 V/\l2 U=l2 V):=fun⟨z1,z2⟩=>by apply h;obtain⟨a1,a2⟩:=gE l.b n.b z1;obtain⟨a3,a4⟩:=gE l.d n.d z2;simp only[J0,Jo,kJ,a1,a2,a3,a4];simp
 dsimp only[SD.cY];refine bN (fun δ q=>q=M/\(∃v C o,δ=[LA (uw U),LA (uw V),v,C,o,LB,LB])/\(bH U (l1 V) (sd1 U V)/\bH U (l2 V) (sd2 U V))/\(bH V (l1 U) (sd1 V U)/\bH V (l2 U) (sd2 V U))) ?_ (fun hu=>?_);rotate_left
 ·refine⟨_,rfl,_,rfl,nbL rfl,_,rfl,_,rfl,nbL rfl,nbL rfl,[.tup [uw U,uw V],.tup [uw V,uw U]],rfl,?_⟩;refine⟨fun i δ q=>q=M/\(∃v C o,δ=[LA (uw U),LA (uw V),v,C,o,LB,LB])/\(0<i->bH U (l1 V) (sd1 U V)/\bH U (l2 V) (sd2 U V))/\(1<i->bH V (l1 U) (sd1 V U)/\bH V (l2 U) (sd2 V U)),⟨rfl,⟨_,_,_,rfl⟩,fun z=>absurd z ⋯,fun z=>absurd z ⋯⟩,fun _ _ _ _ _=>rfl,?_,?_⟩
  ·rintro i d δ q hi hd ⟨rfl,⟨v,C,o,rfl⟩,O,G⟩;have hi:i<2:=hi;have hd:[D.tup [uw U,uw V],.tup [uw V,uw U]][i]?=LA d:=hd
   have pick:∃A B,d=.tup [uw A,uw B]/\Un5 A/\Un5 B/\((bH A (l1 B) (sd1 A B)/\bH A (l2 B) (sd2 A B))->(0<i+1->bH U (l1 V) (sd1 U V)/\bH U (l2 V) (sd2 U V))/\(1<i+1->bH V (l1 U) (sd1 V U)/\bH V (l2 U) (sd2 V U))):=by
    rcases(():i=0\/i=1)with rfl|rfl
    ·cases hd;exact⟨U,V,rfl,l,n,fun z=>⟨fun _=>z,fun y=>absurd y ⋯⟩⟩
    ·cases hd;exact⟨V,U,rfl,n,l,fun z=>⟨fun _=>O ⋯,fun _=>z⟩⟩
   obtain⟨A,B,rfl,I,L,R⟩:=pick;refine⟨_,rfl,rfl,_,_,rfl,_,_,rfl,rfl,?_⟩;refine⟨_,rfl,[.tup [.int B.1,.int B.2.1],.tup [.int B.2.2.1,.int B.2.2.2]],rfl,?_⟩;refine⟨fun j δ t=>t=q/\(∃o,δ=[LA (uw U),LA (uw V),LA (uw A),LA (uw B),o,LB,LB])/\(0<j->bH A (l1 B) (sd1 A B))/\(1<j->bH A (l2 B) (sd2 A B)),⟨rfl,⟨_,rfl⟩,fun z=>absurd z ⋯,fun z=>absurd z ⋯⟩,fun _ _ _ _ _=>rfl,?_,?_⟩
   ·rintro j d δ t r hd ⟨rfl,⟨o,rfl⟩,S,q2⟩;have r:j<2:=r;have hd:[D.tup [.int B.1,.int B.2.1],.tup [.int B.2.2.1,.int B.2.2.2]][j]?=LA d:=hd
    have pk:∃x y,d=.tup [.int x,.int y]/\(0<=x/\x<=20)/\(0<=y/\y<=20)/\(bH A (la x y) (sd A x y)->(0<j+1->bH A (l1 B) (sd1 A B))/\(1<j+1->bH A (l2 B) (sd2 A B))):=by
     rcases(():j=0\/j=1)with rfl|rfl
     ·cases hd;exact⟨_,_,rfl,L.a,L.b,fun z=>⟨fun _=>z,fun y=>absurd y ⋯⟩⟩
     ·cases hd;exact⟨_,_,rfl,L.c,L.d,fun z=>⟨fun _=>S ⋯,fun _=>z⟩⟩
    obtain⟨x,y,rfl,hx,hy,W⟩:=pk;have aa:=I.a;have ab:=I.b;have ac:=I.c;have ad:=I.d
    (try dsimp only[SD.f6,SD.dC,SD.aX,SD.gN,SD.gn,SD.cY,SD.dU,SD.tBD,SD.gK])
    refine rL (!(decide (A.1=x/\A.2.1=y)||decide (A.2.2.1=x/\A.2.2.2=y))) (decide (l1 A<=la x y)&&decide (la x y<=l2 A)&&decide (sd A x y=0)) (fun K u=>⟨_,rfl,_,rfl,CY _ A x y _ _ ⟨_,rfl,u⟩⟩) (fun _ K u=>⟨_,rfl,_,rfl,A,x,y,rfl,rfl,⟨(),(),(),()⟩,(),(),_,rfl,u⟩) ?_;refine bL (fun _=>rtn (k LD (fun z=>absurd z Iq))) (fun h=>?_);exact⟨rfl,⟨_,rfl⟩,W (yO I hy (eq_false_of_ne_true h))⟩
   ·rintro δ t ⟨rfl,⟨o,rfl⟩,S,q2⟩;exact⟨rfl,⟨_,_,_,rfl⟩,R ⟨S (⋯:0<2),q2 (⋯:1<2)⟩⟩
  ·rintro δ q ⟨rfl,⟨v,C,o,rfl⟩,O,G⟩;exact hu _ _ ⟨rfl,⟨_,_,_,rfl⟩,O (⋯:0<2),G (⋯:1<2)⟩
 rintro δ q ⟨rfl,⟨v,C,o,rfl⟩,⟨e1,e2⟩,⟨e3,e4⟩⟩;refine⟨_,rfl,[.tup [.int V.1,.int V.2.1],.tup [.int V.2.2.1,.int V.2.2.2]],rfl,comp_map (fun j=>if j=0 then .int (Ij (sd1 U V))else .int (Ij (sd2 U V))) (nbL rfl) (fun _ _ _=>rfl) ?_ (fun p hp=>?_)⟩
 ·intro j X M2 r e _;have r:j<2:=r;have e:[D.tup [.int V.1,.int V.2.1],.tup [.int V.2.2.1,.int V.2.2.2]][j]?=LA X:=e;rcases(():j=0\/j=1)with rfl|rfl
  ·cases e;exact⟨_,rfl,fun Y g=>⟨_,rfl,_,rfl,_,rfl,_,rfl,_,rfl,U.1,U.2.1,U.2.2.1,U.2.2.2,_,_,rfl,rfl,rfl,dD l.a,dD l.b,dD l.c,dD l.d,g _ .refl⟩⟩
  ·cases e;exact⟨_,rfl,fun Y g=>⟨_,rfl,_,rfl,_,rfl,_,rfl,_,rfl,U.1,U.2.1,U.2.2.1,U.2.2.2,_,_,rfl,rfl,rfl,dD l.a,dD l.b,dD l.c,dD l.d,g _ .refl⟩⟩
 refine⟨_,rfl,[.tup [.int U.1,.int U.2.1],.tup [.int U.2.2.1,.int U.2.2.2]],rfl,comp_map (fun j=>if j=0 then .int (Ij (sd1 V U))else .int (Ij (sd2 V U))) (nbL rfl) (fun _ _ _=>rfl) ?_ (fun G J=>?_)⟩
 ·intro j X M2 r e _;have r:j<2:=r;have e:[D.tup [.int U.1,.int U.2.1],.tup [.int U.2.2.1,.int U.2.2.2]][j]?=LA X:=e;rcases(():j=0\/j=1)with rfl|rfl
  ·cases e;exact⟨_,rfl,fun Y g=>⟨_,rfl,_,rfl,_,rfl,_,rfl,_,rfl,V.1,V.2.1,V.2.2.1,V.2.2.2,_,_,rfl,rfl,rfl,dD n.a,dD n.b,dD n.c,dD n.d,g _ .refl⟩⟩
  ·cases e;exact⟨_,rfl,fun Y g=>⟨_,rfl,_,rfl,_,rfl,_,rfl,_,rfl,V.1,V.2.1,V.2.2.1,V.2.2.2,_,_,rfl,rfl,rfl,dD n.a,dD n.b,dD n.c,dD n.d,g _ .refl⟩⟩
 have Z:p≠G:=av ai J;have c1:(ay (ay q p (.lst [.int (Ij (sd1 U V)),.int (Ij (sd2 U V))])) G (.lst [.int (Ij (sd1 V U)),.int (Ij (sd2 V U))])) p=LA (.lst [.int (Ij (sd1 U V)),.int (Ij (sd2 U V))]):=by rw[ak Z,ai]
 (try dsimp only[SD.f6,SD.dC,SD.aX,SD.gN,SD.gn,SD.cY,SD.dU,SD.tBD,SD.gK])
 refine orV (decide (0<=Ij (sd1 U V)*Ij (sd2 U V))) (decide (0<=Ij (sd1 V U)*Ij (sd2 V U))) (fun K u=>⟨_,rfl,_,_,c1,rfl,_,rfl,_,_,c1,rfl,aO (uj _),trivial,u⟩) (fun _ K u=>⟨_,rfl,_,_,ai,rfl,_,rfl,_,_,ai,rfl,aO (uj _),trivial,u⟩) ?_;refine⟨q,.new J (.new hp .refl),k _ fun z=>⟨N,e1,e2,e3,e4,?_⟩⟩;rw[Bool.or_eq_true,LL,LL]at z;exact z
theorem aY:FnScope ["_law_row","_law_most","_law_size","_law_shuts","_law_turn_here","_law_one","_law_other","_law_shut"] ["_law_row","_law_most","_law_size"] (au fy):=by walk_at "sc"
inductive Cn_law_shuts_here(u m n:D)(M:MH)(Q:DK):Prop
 |mk (r:Addr) (x c m':Int) (_:u=.ref r) (_:m=.int m') (_:(0<=m'/\m'<=12)) (_:n=.int 5) (_:M r=LA (.lst [.int x,.int c])) (_:0<=c) (_:c<1000) (_:∀(M'':MH) (x' c':Int) (l:Addr) (ws:List Wl),r≠l->M'' r=LA (.lst [.int x',.int c'])->M'' l=LA (.lst (ws.map uw))->0<=c'->c'<=c+140->(ws.length:Int)<=m'->(∀w∈ws,Un5 w)->PF ws->Q (.ref l) M'')
theorem jw(T:Tx K mg):Cal P w K mg base 4 "_law_shuts_here" (sD3 Cn_law_shuts_here):=by
 refine jq (k:=3) T.f_law_shuts_here aY fun f cdv A outer s H E B=>⟨_,(aj (az 3 aY.nd (bI ag)) (aj (dI IG rfl rfl T.b_range (ae (ao (aB T).m B (ae (dv 0) (ae (aw aJ (dv 1) af) ag))) ag) (aA 4 aY.nd) (aj (az 5 aY.nd (aF (ae (ao (aB T).m B (ae (dv 0) (ae (dv 2) ag))) (ae (ao (aB T).m B (ae (dv 0) (ae (dv 2) ag))) ag)))) (aj (az 6 aY.nd (aF (ae (ao (aB T).m B (ae (dv 0) (ae (dv 2) ag))) (ae (ao (aB T).m B (ae (dv 0) (ae (dv 2) ag))) ag)))) (aj (bc (iU (eR (aI (fY B.units) (dv 3) (bI ag)) (df (aI (oS B.units) (ao (aB T).m B (ae (dv 0) (ae af ag))) af)))) (aq (az 5 aY.nd (ax (ax (dv 3) (ao (aB T).m B (ae (dv 0) (ae (aS eU rfl T.b_len eV (ae (dv 3) ag)) ag)))) (ao (aB T).m B (ae (dv 0) (ae af ag)))))) aN) (aj (az 7 aY.nd (aF (ae (aS (pG rfl B.units) rfl T.b_min rH (ae (dv 5) (ae (dv 6) ag))) (ae (aS (pP rfl B.units) rfl T.b_max rJ (ae (dv 5) (ae (dv 6) ag))) ag)))) (aq (bc (iU (eR (aI (fY B.units) (dv 5) (dv 6)) (df (cZ (aS (Ds rfl) rfl T.b_all Eu (ae (iX (CScope.of (xs:=["_law_beside"]) (js:=[7]) rfl) rfl (aV (dv 3)) (fun _ _ _ _=>cX) (fun _ _ _ _=>(ao (tK T).m B (ae (dv 1) (ae (dv 0) ag))))) ag)))))) (aq (cC (bo (dv 3) (ae (dv 7) ag)))) aN))))))) (aq (aD (dv 3))))),fun _ _ _ M Q h=>?_⟩;obtain⟨r,x0,c0,m,rfl,rfl,hm,rfl,hM,e0,s0,k⟩:=h;refine⟨nbL rfl,fun l hl=>?_⟩;have g:r≠l:=av hM hl;refine⟨_,rfl,_,rfl,r,m+1,x0,c0,rfl,rfl,(by rw[ak g];exact hM),e0,(),(),bA (),fun x1 v h0 h1=>?_⟩;refine⟨v.toNat,?_,(),fun i δ u=>∃(x c:Int) (ws:List Wl) (o4 o5 o6 Z:Option D),δ=[LA (.ref r),LA (.int m),LA (.int 5),LA (.ref l),o4,o5,o6,Z]/\u r=LA (.lst [.int x,.int c])/\u l=LA (.lst (ws.map uw))/\0<=c/\c<=c0+1+10*i/\ws.length<=i/\(∀w∈ws,Un5 w)/\PF ws,?_,?_,?_⟩
 ·rw[Int.toNat_of_nonneg h0]
 ·refine⟨x1,c0+1,[],_,_,_,_,rfl,ai,(by rw[ak g.symm,ai];rfl),(),(),⋯,fun w hw=>absurd hw (by simp),C4⟩
 rotate_left
 ·rintro δ u ⟨x,c,ws,o4,o5,o6,Z,rfl,L,N,g0,g1,g2,O,g4⟩;exact⟨_,rfl,rtn (k u x c l ws g L N g0 () () O g4)⟩
 rintro i δ u hi ⟨x,c,ws,o4,o5,o6,Z,rfl,L,N,g0,g1,g2,O,g4⟩;have t0:i<=12:=()
 refine⟨_,rfl,_,rfl,r,5,x,c,rfl,rfl,L,g0,(),⋯,bA ⋯,fun x1 p u0 v0=>?_⟩;refine⟨_,rfl,_,rfl,r,5,x1,c+1,rfl,rfl,ai,(),(),⋯,bA ⋯,fun x2 q w0 y0=>⟨nbL rfl,?_⟩⟩;refine⟨_,rfl,_,rfl,r,5,x2,c+1+1,rfl,rfl,ai,(),(),⋯,bA ⋯,fun x3 e z0 a1=>?_⟩;refine⟨_,rfl,_,rfl,r,5,x3,c+1+1+1,rfl,rfl,ai,(),(),⋯,bA ⋯,fun R f b1 c1=>⟨nbL rfl,?_⟩⟩;have S:(ay (ay (ay (ay u r (.lst [.int x1,.int (c+1)])) r (.lst [.int x2,.int (c+1+1)])) r (.lst [.int x3,.int (c+1+1+1)])) r (.lst [.int R,.int (c+1+1+1+1)])) l=LA (.lst (ws.map uw)):=by rw[ak g.symm,ak g.symm,ak g.symm,ak g.symm];exact N
 have U:(ay (ay (ay (ay u r (.lst [.int x1,.int (c+1)])) r (.lst [.int x2,.int (c+1+1)])) r (.lst [.int x3,.int (c+1+1+1)])) r (.lst [.int R,.int (c+1+1+1+1)])) r=LA (.lst [.int R,.int (c+1+1+1+1)]):=ai;generalize ay (ay (ay (ay u r (.lst [.int x1,.int (c+1)])) r (.lst [.int x2,.int (c+1+1)])) r (.lst [.int x3,.int (c+1+1+1)])) r (.lst [.int R,.int (c+1+1+1+1)])=M4 at S U ⊢;(try dsimp only[SD.aX])
 refine bN (fun δ u=>∃(x c' p q:Int) (Z:Option D),δ=[LA (.ref r),LA (.int m),LA (.int 5),LA (.ref l),LA (.int (i:Int)),LA (.tup [.int p,.int q]),LA (.tup [.int e,.int f]),Z]/\u r=LA (.lst [.int x,.int c'])/\u l=LA (.lst (ws.map uw))/\0<=c'/\c'<=c+10/\(0<=p/\p<=20)/\(0<=q/\q<=20)) ?_ (fun hu=>?_);rotate_left
 ·refine⟨_,rfl,nbL rfl,fun z hz=>?_⟩;have V:r≠z:=av U hz;have G:l≠z:=av S hz;have n:(ay M4 z (.lst [])) l=LA (.lst (ws.map uw)):=by rw[ak G];exact S
  have F:(ay M4 z (.lst [])) r=LA (.lst [.int R,.int (c+1+1+1+1)]):=by rw[ak V];exact U
  refine⟨_,_,.lst n (tS ws),.lst ai .nil,nq ws,rfl,_,rfl,?_⟩;rw[lT];refine bL (fun W=>?_) (fun r0=>?_)
  ·have a0:0<ws.length:=by
    cases ws with
    |nil=>simp at W
    |cons w ws=>simp
   refine⟨_,rfl,r,3,R,c+1+1+1+1,rfl,rfl,F,(),(),⋯,bA ⋯,fun J v5 d1 f1=>⟨trivial,_,rfl,?_⟩⟩;have o:(ay (ay M4 z (.lst [])) r (.lst [.int J,.int (c+1+1+1+1+1)])) l=LA (.lst (ws.map uw)):=by rw[ak g.symm];exact n
   refine bL (fun _=>?_) (fun _=>?_)
   ·refine⟨_,rfl,_,rfl,_,rfl,_,o,r,((ws.map uw).length:Int),J,c+1+1+1+1+1,rfl,rfl,ai,(),(),by simpa using a0,bA (by simp;omega),fun x6 v6 f0 i0=>?_⟩;obtain⟨w,hw,ew⟩:=Ah (ws:=ws) f0 (by simpa using i0);have l0:=O w hw;refine⟨_,_,(by rw[ak g.symm];exact o),ew,?_⟩;refine⟨_,rfl,r,2,x6,c+1+1+1+1+1+1,rfl,rfl,ai,(),(),⋯,bA ⋯,fun x7 v7 m0 n0=>?_⟩;obtain⟨a,b,ea,ha,hb⟩:=wI l0 m0 n0;refine⟨_,ea,hu _ _ ⟨x7,_,a,b,_,rfl,ai,(by rw[ak g.symm,ak g.symm];exact o),(),(),ha,hb⟩⟩
   ·exact hu _ _ ⟨J,_,p,q,_,rfl,ai,o,(),(),(),()⟩
  ·refine fv rfl ?_;exact hu _ _ ⟨R,_,p,q,_,rfl,F,n,(),(),(),()⟩
 rintro δ M5 ⟨J,c5,p,q,Z,rfl,F,n,k0,k1,hp,hq⟩;have he:0<=e/\e<=20:=()
 have hf:0<=f/\f<=20:=()
 refine⟨_,rfl,_,rfl,[p,q],[e,f],rfl,rfl,?_⟩;refine⟨_,rfl,_,rfl,[p,q],[e,f],rfl,rfl,nbL rfl,?_⟩;refine⟨_,rfl,_,rfl,_,_,Pd.of rfl,Pd.of rfl,rfl,rfl,_,rfl,?_⟩;rw[pC];refine bL (fun W=>?_) (fun _=>?_);rotate_left
 ·refine fv rfl ?_;exact⟨J,c5,ws,_,_,_,_,rfl,F,n,k0,(),(),O,g4⟩
 obtain⟨w,e1,e2,hw⟩:=vT hp hq he hf (fun⟨a,b⟩=>by simp[a,b]at W);rw[e1,e2];refine⟨_,rfl,ws.map uw,n,?_⟩;refine⟨by simp;omega,fun z hz=>?_⟩;have V:r≠z:=av F hz;have G:l≠z:=av n hz;refine⟨fun j ys u=>∃bs:List Bool,ys=bs.map D.bl/\bs.length=j/\(∀(t:Nat) (v:Wl),bs[t]?=LA LC->ws[t]?=LA v->Fair w v)/\u=ay M5 z (.lst ys),⟨[],rfl,rfl,fun t v h=>by simp at h,rfl⟩,?_,?_,?_⟩
 ·rintro j ys u _ ⟨bs,_,_,_,rfl⟩;show(ay M5 z _) l=_;rw[ak G];exact n
 ·rintro j ys d u hj hd ⟨bs,rfl,C,hf,rfl⟩;have hd:(ws.map uw)[j]?=LA d:=hd;rw[Ie]at hd;cases ev:ws[j]? with
  |none=>rw[ev]at hd;cases hd
  |some v=>
   rw[ev]at hd
   cases hd
   refine⟨_,rfl,?_⟩
   dsimp only[SD.mB]
   refine DY ?_
   refine⟨_,rfl,_,rfl,w,v,rfl,rfl,hw,O v (Il ev),fun b hb=>?_⟩
   refine⟨_,.refl,ai,bs++[b],by simp,by simp[C],fun t v' I X=>?_,by rw[a9]⟩
   rcases Nat.lt_trichotomy t bs.length with y|y|y
   ·rw[Jk y]at I;exact hf t v' I X
   ·subst y;rw[Jf (Ic _)]at I;have o0:b=LC:=by simpa using I
    rw[C,ev]at X;cases X;exact hb o0
   ·rw[List.getElem?_eq_none (by simp;omega)]at I;cases I
 rintro ys u ⟨bs,rfl,C,hf,rfl⟩;have Y:bs.length=ws.length:=by rw[C];simp
 have o:(ay M5 z (.lst (bs.map D.bl))) l=LA (.lst (ws.map uw)):=by rw[ak G];exact n
 have b0:(ay M5 z (.lst (bs.map D.bl))) r=LA (.lst [.int J,.int c5]):=by rw[ak V];exact F
 refine⟨bs,ai,_,rfl,?_⟩;refine bL (fun d0=>?_) (fun _=>?_)
 ·refine⟨_,rfl,l,_,rfl,o,_,rfl,ws.map uw,_,rfl,o,by simp;omega,?_⟩;refine⟨J,c5,ws++[w],_,_,_,_,rfl,by rw[ak g];exact b0,by rw[ai,IK];rfl,k0,(),by simp;omega,fun v hv=>?_,wu g4 fun t v hv=>hf t v ?_ hv⟩
  ·rcases IL.mp hv with y|y
   ·exact O v y
   ·rw[Jj.mp y];exact hw
  ·have I:t<bs.length:=by rw[Y];exact(Iu.mp hv).1
   rw[Ia I];have:=Je.mp d0 _ (Jn I);exact congrArg LA this
 ·exact⟨J,c5,ws,_,_,_,_,rfl,b0,o,k0,(),(),O,g4⟩
theorem fI:FnScope ["_law_at","_law_wide","_law_x","_law_y","_law_spots"] ["_law_at","_law_wide"] (au nk):=by walk_at "sc"
inductive Cn_law_box(u v:D)(M:MH)(Q:DK):Prop
 |mk (x y w:Int) (_:u=.tup [.int x,.int y]) (_:v=.int w) (_:0<w) (_:∀(M'':MH) (l:Addr),SD.Sub M M''->M l=LB->M'' l=LA (.lst ((bxy x y w).map uw))->Q (.ref l) M'')
theorem jL(T:Tx K mg):Cal P w K mg base 1 "_law_box" (sD2 Cn_law_box):=by
 refine bE (k:=0) T.f_law_box fI fun f cdv A outer s H E D=>⟨_,(aj (cv (dv 0) (bJ rfl (aC (aA 2 fI.nd) (aC (aA 3 fI.nd) ba)))) (aj (az 4 fI.nd (bI (ae (aF (ae (dv 2) (ae (dv 3) ag))) (ae (aF (ae (aw aJ (dv 2) (dv 1)) (ae (dv 3) ag))) (ae (aF (ae (aw aJ (dv 2) (dv 1)) (ae (aw aJ (dv 3) (dv 1)) ag))) (ae (aF (ae (dv 2) (ae (aw aJ (dv 3) (dv 1)) ag))) ag)))))) (aq (aD (qX (CScope.of (xs:=["_law_one","_law_other"]) (js:=[]) rfl) rfl (Cu rfl T.b_zip (ae (dv 4) (ae (aw aJ (d8 (dv 4) (fL af) fK) (d8 (dv 4) fK (fL af))) ag))) (fun _ _ _ _=>cX) (fun _ _ _ _=>(aF (ae (aS (pG rfl D.units) rfl T.b_min rH (ae (dv 0) (ae (dv 1) ag))) (ae (aS (pP rfl D.units) rfl T.b_max rJ (ae (dv 0) (ae (dv 1) ag))) ag))))))))),fun _ _ M Q h=>?_⟩;obtain⟨x,y,w,rfl,rfl,W,k⟩:=h;refine⟨_,rfl,_,rfl,rfl,_,_,rfl,_,_,rfl,rfl,?_⟩;refine⟨_,rfl,_,rfl,nbL rfl,_,rfl,_,rfl,_,rfl,nbL rfl,_,rfl,_,rfl,_,rfl,_,rfl,nbL rfl,_,rfl,_,rfl,_,rfl,nbL rfl,nbL rfl,fun g B=>?_⟩;refine⟨_,rfl,_,rfl,1,rfl,_,ai,fun t m=>?_⟩;have u:g≠t:=av ai m;refine⟨_,rfl,1,rfl,_,(by rw[ak u,ai]),fun v j=>?_⟩;have S:t≠v:=av ai j;have F:g≠v:=av (by rw[ak u,ai]) j;refine⟨_,_,(by rw[ak S,ai]),ai,nbL rfl,fun n r=>?_⟩;have U:g≠n:=av (by rw[ak F,ak u,ai]) r;have I:=SD.Sub.new (o:=.lst (cutD (bsp x y w) (LA 1) LB++cutD (bsp x y w) LB (LA 1))) r (.new j (.new m (.new B .refl)));have C:=(show(ay (ay (ay (ay M g (.lst (bsp x y w))) t (.lst (cutD (bsp x y w) (LA 1) LB))) v (.lst (cutD (bsp x y w) LB (LA 1)))) n (.lst (cutD (bsp x y w) (LA 1) LB++cutD (bsp x y w) LB (LA 1)))) g=LA (.lst (bsp x y w)) by rw[ak U,ak F,ak u,ai]);refine⟨g,n,_,[.tup [.int (x+w),.int y],.tup [.int (x+w),.int (y+w)],.tup [.int x,.int (y+w)],.tup [.int x,.int y]],rfl,C,ai,?_⟩;have J:=(show(ay (ay (ay (ay M g (.lst (bsp x y w))) t (.lst (cutD (bsp x y w) (LA 1) LB))) v (.lst (cutD (bsp x y w) LB (LA 1)))) n (.lst (cutD (bsp x y w) (LA 1) LB++cutD (bsp x y w) LB (LA 1)))) n=LA (.lst [.tup [.int (x+w),.int y],.tup [.int (x+w),.int (y+w)],.tup [.int x,.int (y+w)],.tup [.int x,.int y]])from ai);refine comp_map (fun i=>(((bxy x y w).map uw)[i]?).getD .non) (nbL rfl) (fun q X N=>⟨by rw[ak (av C N)];exact C,by rw[ak (av J N)];exact J⟩) ?_ (fun p O=>?_)
 ·intro i d z R hd V;have R:i<4:=R;have L:∀a b c e:Int,Lo [a,b] [c,e]=decide (a<c\/(a=c/\b<e)):=fun a b c e=>by rw[K7,Lf,LL]
  have G:∀a b c e:Int,HT.bV [a,b] [c,e]=decide (c<a\/(c=a/\e<b)):=fun a b c e=>by rw[Ma.n8,L]
  rcases(():i=0\/i=1\/i=2\/i=3)with rfl|rfl|rfl|rfl
  ·cases hd;refine⟨_,⟨_,rfl,rfl,rfl⟩,fun K l=>?_⟩;refine⟨_,rfl,_,rfl,[x,y],[x+w,y],rfl,rfl,_,rfl,_,rfl,[x,y],[x+w,y],rfl,rfl,nbL rfl,?_⟩;rw[L,G,LF (by simp;omega),LG (by simp;omega)];exact l z .refl
  ·cases hd;refine⟨_,⟨_,rfl,rfl,rfl⟩,fun K l=>?_⟩;refine⟨_,rfl,_,rfl,[x+w,y],[x+w,y+w],rfl,rfl,_,rfl,_,rfl,[x+w,y],[x+w,y+w],rfl,rfl,nbL rfl,?_⟩;rw[L,G,LF (by simp;omega),LG (by simp;omega)];exact l z .refl
  ·cases hd;refine⟨_,⟨_,rfl,rfl,rfl⟩,fun K l=>?_⟩;refine⟨_,rfl,_,rfl,[x+w,y+w],[x,y+w],rfl,rfl,_,rfl,_,rfl,[x+w,y+w],[x,y+w],rfl,rfl,nbL rfl,?_⟩;rw[L,G,LG (by simp;omega),LF (by simp;omega)];exact l z .refl
  ·cases hd;refine⟨_,⟨_,rfl,rfl,rfl⟩,fun K l=>?_⟩;refine⟨_,rfl,_,rfl,[x,y+w],[x,y],rfl,rfl,_,rfl,_,rfl,[x,y+w],[x,y],rfl,rfl,nbL rfl,?_⟩;rw[L,G,LG (by simp;omega),LF (by simp;omega)];exact l z .refl
 ·refine rtn (k _ p (.new O I) ?_ ?_)
  ·cases e:M p with
   |none=>rfl
   |some o=>exact absurd ((I _ _ e).symm.trans O) (by simp)
  ·rw[ai];rfl
theorem fB:FnScope ["_law_row","_law_many","_law_found","_law_number"] ["_law_row","_law_many"] (au kf):=by walk_at "sc"
inductive Cn_law_order(u v:D)(M:MH)(Q:DK):Prop
 |mk (r:Addr) (x c:Int) (n:Nat) (_:u=.ref r) (_:v=.int (n:Int)) (_:n<=40) (_:M r=LA (.lst [.int x,.int c])) (_:0<=c) (_:c<2000) (_:∀(M'':MH) (x':Int) (l:Addr) (os:List Nat),r≠l->M'' r=LA (.lst [.int x',.int (c+n)])->(∀a o,a≠r->M a=LA o->M'' a=LA o)->M l=LB->M'' l=LA (.lst (os.map fun o:Nat=>D.int (o:Int)))->os.Perm (Iv n)->Q (.ref l) M'')
theorem pU(T:Tx K mg):Cal P w K mg base 2 "_law_order" (sD2 Cn_law_order):=by
 refine bE (k:=1) T.f_law_order fB fun f cdv A outer s H E C=>⟨_,(aj (az 2 fB.nd (bI ag)) (aj (dI IG rfl rfl T.b_range (ae (dv 1) ag) (aA 3 fB.nd) (aq (cC (j4 (dv 2) (ae (ao (aB T).m C (ae (dv 0) (ae (aw aJ (dv 3) af) ag))) (ae (dv 3) ag)))))) (aq (aD (dv 2))))),fun _ _ M Q h=>?_⟩;obtain⟨r,x,c,n,rfl,rfl,O,v,F,G,k⟩:=h;refine⟨nbL rfl,fun l p=>?_⟩;have q:r≠l:=av v p;refine⟨_,rfl,n,rfl,(),fun i δ e=>∃(g:Int) (os:List Nat) (u:Option D),δ=[LA (.ref r),LA (.int (n:Int)),LA (.ref l),u]/\e r=LA (.lst [.int g,.int (c+i)])/\(∀a o,a≠r->M a=LA o->e a=LA o)/\e l=LA (.lst (os.map fun o:Nat=>D.int (o:Int)))/\os.Perm (Iv i),⟨x,[],_,rfl,(by rw[ak q];simpa using v),(fun a o _ h=>by rw[ak (av h p)];exact h),ai,by simp⟩,?_,?_⟩
 ·rintro i δ R S ⟨g,os,u,rfl,d,kp,b,t⟩;have y:os.length=i:=by rw[t.length_eq,List.length_range]
  refine⟨_,rfl,l,_,rfl,b,?_⟩;refine⟨_,rfl,_,rfl,r,(i:Int)+1,g,c+i,rfl,rfl,d,(),(),(),bA (),fun I z J L=>?_⟩;obtain⟨j,rfl⟩:∃j:Nat,z=(j:Int):=⟨z.toNat,()⟩;refine⟨_,rfl,_,_,j,rfl,(by rw[ak q.symm];exact b),by simp;omega,by simp;omega,?_⟩;refine⟨I,hZ os j i,_,rfl,(by rw[ak q,ai,show c+((i+1:Nat):Int)=c+(i:Int)+1 by omega]),(fun a o B h=>?_),(by rw[ai,qM]),?_⟩
  ·have N:a≠l:=av h p;rw[ak N,ak B];exact kp a o B h
  ·rw[JE];exact(vV os j i).trans ((List.Perm.cons _ t).trans (by simpa using(List.perm_append_comm (l₁:=[i]) (l₂:=Iv i))))
 ·rintro δ e ⟨g,os,u,rfl,d,kp,b,t⟩;exact⟨_,rfl,rtn (k e g l os q d kp p b t)⟩
theorem bS:FnScope ["_law_row","_law_shuts","_law_at","_law_turn_here"] ["_law_row"] (au nP):=by walk_at "sc"
inductive Cn_law_set(u:D)(M:MH)(Q:DK):Prop
 |mk (r:Addr) (x c:Int) (_:u=.ref r) (_:M r=LA (.lst [.int x,.int c])) (_:0<=c) (_:c<1000) (_:∀(M'':MH) (x' c':Int) (l:Addr) (ws:List Wl),r≠l->M'' r=LA (.lst [.int x',.int c'])->M'' l=LA (.lst (ws.map uw))->0<=c'->c'<=c+100->ws.length<=19->(∀w∈ws,Un5 w)->PF ws->Q (.ref l) M'')
theorem vR(T:Tx K mg):Cal P w K mg base 3 "_law_set" (sD1 Cn_law_set):=by
 refine f7 (k:=2) T.f_law_set bS fun f cdv A outer s H E u=>⟨_,(aj (az 1 bS.nd (bI ag)) (aj (az 2 bS.nd af) (aj (dI IG rfl rfl T.b_range (ae (aw aJ af (ao (aB T).m u (ae (dv 0) (ae af ag)))) ag) (aA 3 bS.nd) (aj (az 1 bS.nd (aw aJ (dv 1) (ao (jL T).m u (ae (aF (ae (dv 2) (ae (dv 2) ag))) (ae (aw cx af (aw aG af (dv 2))) ag))))) (aq (az 2 bS.nd (aw aJ (aw aJ (dv 2) af) (ao (aB T).m u (ae (dv 0) (ae af ag)))))))) (aj (bc (aI (b6 u.units) (ao (aB T).m u (ae (dv 0) (ae af ag))) af) (aq (az 1 bS.nd (aw aJ (dv 1) (ao (jL T).m u (ae (aF (ae (aw aJ (dv 2) (ao (aB T).m u (ae (dv 0) (ae af ag)))) (ae (aw aJ (dv 2) (ao (aB T).m u (ae (dv 0) (ae af ag)))) ag))) (ae (aw aJ af (ao (aB T).m u (ae (dv 0) (ae af ag)))) ag)))))) aN) (aj (bc (aI (b6 u.units) (ao (aB T).m u (ae (dv 0) (ae af ag))) af) (aq (cC (bo (dv 1) (ae (aF (ae (aF (ae af (ae af ag))) (ae (aF (ae af (ae af ag))) ag))) ag)))) aN) (aj (dI IG rfl rfl T.b_range (ae (ao (aB T).m u (ae (dv 0) (ae af ag))) ag) (aA 3 bS.nd) (aq (cC (bo (dv 1) (ae (aF (ae (aF (ae (dv 2) (ae (aw aJ af (dv 3)) ag))) (ae (aF (ae (aw aJ (dv 2) af) (ae (aw aJ af (dv 3)) ag))) ag))) ag))))) (aj (bc (aI (b6 u.units) (ao (aB T).m u (ae (dv 0) (ae af ag))) af) (aq (az 1 bS.nd (aw aJ (dv 1) (ao (jL T).m u (ae (aF (ae af (ae af ag))) (ae af ag)))))) aN) (aq (aD (iX (CScope.of (xs:=["_law_number"]) (js:=[1]) rfl) rfl (aV (ao (pU T).m u (ae (dv 0) (ae (aS eU rfl T.b_len eV (ae (dv 1) ag)) ag)))) (fun _ _ _ _=>cX) (fun _ _ _ _=>(ax (dv 1) (dv 0))))))))))))),fun _ M Q h=>?_⟩;obtain⟨r,x,c,rfl,hM,x0,k1,k⟩:=h;have sz:1000000<=Ir:=nbL rfl;have b4:∀(x y w:Int) (us:List Wl),us.length<=100->(us.map uw).length+((bxy x y w).map uw).length<=Ir:=fun x y w us h=>by rw[Ii,Ii];show us.length+4<=Ir;omega
 refine⟨nbL rfl,fun l0 i0=>?_⟩;have Y:r≠l0:=av hM i0;have a0:(ay M l0 (.lst [])) r=LA (.lst [.int x,.int c]):=by rw[ak Y];exact hM
 have b0:(ay M l0 (.lst [])) l0=LA (.lst (([]:List Wl).map uw)):=ai;generalize ay M l0 (.lst [])=M1 at a0 b0 ⊢;(try dsimp only[SD.aX])
 refine bN (fun δ j=>δ=[LA (.ref r),LA (.ref l0),LA (.int 0),LB]/\j=M1) ?_ (fun L=>L _ _ ⟨rfl,rfl⟩);rintro δ j ⟨rfl,rfl⟩;refine bN (fun δ j=>∃(l:Addr) (us:List Wl) (a F t:Int) (z:Option D),δ=[LA (.ref r),LA (.ref l),LA (.int a),z]/\j r=LA (.lst [.int F,.int t])/\j l=LA (.lst (us.map uw))/\r≠l/\0<=t/\t<=c+3/\(us,a)∈oj) ?_ (fun L=>?_);rotate_left
 ·refine⟨_,rfl,r,2,x,c,rfl,rfl,a0,x0,(),⋯,bA ⋯,fun x1 v h0 h1=>?_⟩;obtain⟨n,rfl⟩:∃n:Nat,v=(n:Int):=⟨v.toNat,()⟩;refine⟨1+n,by simp,(),fun i δ j=>∃(l:Addr) (us:List Wl) (a F:Int) (z:Option D),δ=[LA (.ref r),LA (.ref l),LA (.int a),z]/\j r=LA (.lst [.int F,.int (c+1+i)])/\j l=LA (.lst (us.map uw))/\r≠l/\((i=0/\us=[]/\a=0)\/(i=1/\us=bxy 0 0 12/\(a=1\/a=2))\/(i=2/\(us,a)∈oj)),⟨l0,[],0,x1,_,rfl,(by rw[ai];simp),(by rw[ak Y.symm];exact b0),Y,.inl ⟨rfl,rfl,rfl⟩⟩,?_,?_⟩
  ·rintro i δ M2 hi ⟨l,us,a,F,z,rfl,G,N,b,st⟩
   have ha:0<=a/\a<=2/\us.length<=4/\i<=1:=by
    rcases st with⟨e1,e2,e3⟩|⟨e1,e2,e3⟩|⟨e1,_⟩
    ·subst e2;simp;omega
    ·subst e2;show _/\_/\4<=4/\_;omega
    ·omega
   have y0:Bd 64 a:=bA ();refine⟨_,rfl,_,rfl,_,rfl,nbL rfl,_,rfl,fU y0,trivial,a,a,12-2*a,rfl,rfl,(),fun M3 lb c0 k0 W=>?_⟩;refine⟨_,_,c0 _ _ N,W,b4 _ _ _ us (),fun l3 I=>?_⟩;have d0:r≠l3:=av (c0 _ _ G) I;refine⟨_,rfl,_,rfl,r,2,F,c+1+i,rfl,rfl,(by rw[ak d0];exact c0 _ _ G),(),(),⋯,bA ⋯,fun x2 v2 m1 n1=>?_⟩;refine⟨l3,us++bxy a a (12-2*a),a+1+v2,x2,_,rfl,(by rw[ai,show c+1+((i+1:Nat):Int)=c+1+(i:Int)+1 by omega]),(by rw[ak d0.symm,ai,IK]),d0,?_⟩;rcases st with⟨e1,rfl,rfl⟩|⟨e1,rfl,e3⟩|⟨e1,_⟩
   ·exact .inr (.inl ⟨(),rfl,()⟩)
   ·refine .inr (.inr ⟨(),?_⟩);rcases(():v2=0\/v2=1)with rfl|rfl<;>rcases e3 with rfl|rfl<;>simp[oj]
   ·omega
  ·rintro δ j ⟨l,us,a,F,z,rfl,G,N,b,st⟩;refine L _ _ ⟨l,us,a,F,_,_,rfl,G,N,b,(),(),?_⟩;rcases st with⟨e1,_⟩|⟨e1,rfl,e3⟩|⟨e1,g⟩
   ·omega
   ·rcases e3 with rfl|rfl<;>simp[oj]
   ·exact g
 clear a0 b0 i0 Y;rintro δ M2 ⟨l,us,a,x2,c2,z,rfl,G,N,b,z0,o1,gm⟩
 have ga:(1<=a/\a<=4)/\us.length<=8:=by
  have:(oj.all fun g=>decide ((1<=g.2/\g.2<=4)/\g.1.length<=8))=LC:=by decide +kernel
  exact LJ (Je.mp this _ gm)
 (try dsimp only[SD.aX])
 refine bN (fun δ j=>∃(l:Addr) (A:List Wl) (t1 Z t3 F t:Int) (z:Option D),δ=[LA (.ref r),LA (.ref l),LA (.int a),z]/\j r=LA (.lst [.int F,.int t])/\j l=LA (.lst ((us++A).map uw))/\r≠l/\0<=t/\t<=c+10/\(0<=t1/\t1<2)/\(0<=Z/\Z<2)/\(0<=t3/\t3<2)/\A.Sublist (bxy (a+t1) (a+Z) (1+t3))/\A.length<=4) ?_ (fun L=>?_);rotate_left
 ·refine⟨_,rfl,r,2,x2,c2,rfl,rfl,G,z0,(),⋯,bA ⋯,fun x3 v3 p1 r1=>⟨_,rfl,?_⟩⟩;have I:(ay M2 r (.lst [.int x3,.int (c2+1)])) l=LA (.lst (us.map uw)):=by rw[ak b.symm];exact N
  refine bL (fun _=>?_) (fun _=>?_)
  ·refine⟨_,rfl,_,rfl,_,rfl,r,2,x3,c2+1,rfl,rfl,ai,(),(),⋯,bA ⋯,fun x4 t1 m0 n0=>?_⟩;refine⟨_,rfl,_,rfl,r,2,x4,c2+1+1,rfl,rfl,ai,(),(),⋯,bA ⋯,fun x5 Z o0 r0=>⟨nbL rfl,?_⟩⟩;refine⟨_,rfl,r,2,x5,c2+1+1+1,rfl,rfl,ai,(),(),⋯,bA ⋯,fun x6 t3 s0 t0=>?_⟩;refine⟨a+t1,a+Z,1+t3,rfl,rfl,(),fun M7 lb O k0 W=>?_⟩;have e0:=O l (.lst (us.map uw)) (by rw[ak b.symm,ak b.symm,ak b.symm];exact I);have R:=O _ _ ai;refine⟨_,_,e0,W,b4 _ _ _ us (),fun l8 f0=>?_⟩;have X:r≠l8:=av R f0;exact L _ _ ⟨l8,bxy (a+t1) (a+Z) (1+t3),t1,Z,t3,x6,_,_,rfl,(by rw[ak X];exact R),(by rw[ai,IK]),X,(),(),⟨m0,n0⟩,⟨o0,r0⟩,⟨s0,t0⟩,List.Sublist.refl _,Ic _⟩
  ·exact L _ _ ⟨l,[],0,0,0,x3,c2+1,_,rfl,ai,(by rw[Jv];exact I),b,(),(),⋯,⋯,⋯,List.nil_sublist _,JA _⟩
 clear G N b;rintro δ M3 ⟨l,A,t1,Z,t3,x3,c3,z,rfl,u0,I,b,a1,s1,T1,T2,T3,sA,lA⟩;(try dsimp only[SD.aX])
 refine bN (fun δ j=>∃(B:List Wl) (F t:Int),δ=[LA (.ref r),LA (.ref l),LA (.int a),z]/\j r=LA (.lst [.int F,.int t])/\j l=LA (.lst (((us++A)++B).map uw))/\0<=t/\t<=c+11/\B.Sublist [(9,8,9,9)]/\B.length<=1) ?_ (fun L=>?_);rotate_left
 ·refine⟨_,rfl,r,2,x3,c3,rfl,rfl,u0,a1,(),⋯,bA ⋯,fun x4 v4 m0 n0=>⟨_,rfl,?_⟩⟩;have S:(ay M3 r (.lst [.int x4,.int (c3+1)])) l=LA (.lst ((us++A).map uw)):=by rw[ak b.symm];exact I
  refine bL (fun _=>?_) (fun _=>?_)
  ·refine⟨_,rfl,l,_,rfl,S,nbL rfl,nbL rfl,nbL rfl,_,_,rfl,S,by simp;omega,?_⟩;exact L _ _ ⟨[(9,8,9,9)],x4,c3+1,rfl,(by rw[ak b,ai]),(by rw[ai,IK (l₂:=[(9,8,9,9)])];rfl),(),(),List.Sublist.refl _,Ic _⟩
  ·exact L _ _ ⟨[],x4,c3+1,rfl,ai,(by rw[Jv];exact S),(),(),List.nil_sublist _,JA _⟩
 clear u0 I;rintro δ M4 ⟨B,x4,c4,rfl,v0,S,b1,u1,sB,lB⟩;(try dsimp only[SD.aX])
 refine bN (fun δ j=>∃(C:List Wl) (F t:Int) (z:Option D),δ=[LA (.ref r),LA (.ref l),LA (.int a),z]/\j r=LA (.lst [.int F,.int t])/\j l=LA (.lst ((((us++A)++B)++C).map uw))/\0<=t/\t<=c+12/\C.Sublist [(a,8,a+1,8),(a,9,a+1,9)]/\C.length<=2) ?_ (fun L=>?_);rotate_left
 ·refine⟨_,rfl,r,3,x4,c4,rfl,rfl,v0,b1,(),⋯,bA ⋯,fun x5 v5 o0 r0=>?_⟩;obtain⟨n,rfl⟩:∃n:Nat,v5=(n:Int):=⟨v5.toNat,()⟩;refine⟨n,by simp,(),fun i δ j=>∃(z:Option D),δ=[LA (.ref r),LA (.ref l),LA (.int a),z]/\j r=LA (.lst [.int x5,.int (c4+1)])/\j l=LA (.lst ((((us++A)++B)++([(a,8,a+1,8),(a,9,a+1,9)]:List Wl).take i).map uw)),⟨_,rfl,ai,(by rw[ak b.symm];simpa using S)⟩,?_,?_⟩
  ·rintro i δ M5 hi ⟨z,rfl,U,J⟩;refine⟨_,rfl,l,_,rfl,J,_,rfl,_,rfl,nbL rfl,_,rfl,_,rfl,nbL rfl,nbL rfl,_,_,rfl,J,by simp;omega,?_⟩;refine⟨_,rfl,(by rw[ak b];exact U),?_⟩;rw[ai];rcases(():i=0\/i=1)with rfl|rfl
   ·simp[uw]
   ·simp[uw]
  ·rintro δ M5 ⟨z,rfl,U,J⟩;exact L _ _ ⟨_,x5,c4+1,_,rfl,U,J,(),(),List.take_sublist _ _,by simp;omega⟩
 clear v0 S;rintro δ M5 ⟨C,x5,c5,c1,rfl,U,J,d1,v1,sC,lC⟩;(try dsimp only[SD.aX])
 refine bN (fun δ j=>∃(l':Addr) (E:List Wl) (F t:Int),δ=[LA (.ref r),LA (.ref l'),LA (.int a),c1]/\j r=LA (.lst [.int F,.int t])/\j l'=LA (.lst (((((us++A)++B)++C)++E).map uw))/\r≠l'/\0<=t/\t<=c+13/\E.Sublist (bxy 12 12 2)/\E.length<=4) ?_ (fun L=>?_);rotate_left
 ·refine⟨_,rfl,r,2,x5,c5,rfl,rfl,U,d1,(),⋯,bA ⋯,fun x6 v6 s0 t0=>⟨_,rfl,?_⟩⟩;have V:(ay M5 r (.lst [.int x6,.int (c5+1)])) l=LA (.lst ((((us++A)++B)++C).map uw)):=by rw[ak b.symm];exact J
  refine bL (fun _=>?_) (fun _=>?_)
  ·refine⟨_,rfl,nbL rfl,12,12,2,rfl,rfl,⋯,fun M7 lb O k0 W=>?_⟩;refine⟨_,_,O _ _ V,W,b4 _ _ _ _ (by simp;omega),fun l8 f0=>?_⟩;have X:r≠l8:=av (O _ _ ai) f0;exact L _ _ ⟨l8,bxy 12 12 2,x6,c5+1,rfl,(by rw[ak X];exact O _ _ ai),(by rw[ai];simp only[IK]),X,(),(),List.Sublist.refl _,Ic _⟩
  ·exact L _ _ ⟨l,[],x6,c5+1,rfl,ai,(by rw[Jv];exact V),b,(),(),List.nil_sublist _,JA _⟩
 clear U J b;rintro δ M6 ⟨l',E,x6,c6,rfl,f1,V,b,g1,w1,sE,lE⟩;have sub:(((((us++A)++B)++C)++E)).Sublist (mxl us a t1 Z t3):=by unfold mxl;rw[KN,KN,KN];exact(List.Sublist.refl us).append (sA.append (sB.append (sC.append sE)))
 have lv:(((((us++A)++B)++C)++E)).length<=30:=by simp;omega
 generalize ((((us++A)++B)++C)++E)=vs at V sub lv;refine⟨_,rfl,_,rfl,_,V,r,x6,c6,vs.length,rfl,by simp,(),f1,g1,(),fun M7 x7 lo os y1 R i1 z1 g0 pm=>?_⟩;have e0:=i1 _ _ b.symm V;have ol:os.length=vs.length:=by rw[pm.length_eq,List.length_range]
 refine⟨_,g0,comp_map (fun i=>(((os.map fun o=>(vs[o]?).getD (0,0,0,0)).map uw)[i]?).getD .non) (by show(os.map fun o:Nat=>D.int (o:Int)).length<=1000000;rw[Ii];omega) (fun q ys hq=>by show(ay M7 q _) lo=_;rw[ak (av g0 hq)];exact g0) ?_ (fun p hp=>?_)⟩
 ·intro i d M8 hi hd j1;have hd:(os.map fun o:Nat=>D.int (o:Int))[i]?=LA d:=hd;rw[Ie]at hd;cases eo:os[i]? with
  |none=>rw[eo]at hd;cases hd
  |some o=>
   rw[eo]at hd
   cases hd
   have ov:o<vs.length:=IZ.mp (pm.mem_iff.mp (Il eo))
   refine⟨_,rfl,fun K hK=>?_⟩
   have w0:=hK M8 .refl
   rw[Ko,getD_map eo]at w0
   refine⟨_,rfl,_,rfl,_,_,j1 _ _ e0,bZ (v:=uw vs[o]) (by rw[Ie,Ia ov];rfl),?_⟩
   have e:(vs[o]?).getD (0,0,0,0)=vs[o]:=by rw[Ia ov];rfl
   rw[<-e]
   exact w0
 have e:(Iv (os.map fun o:Nat=>D.int (o:Int)).length).map (fun i=>(((os.map fun o=>(vs[o]?).getD (0,0,0,0)).map uw)[i]?).getD .non)=(os.map fun o=>(vs[o]?).getD (0,0,0,0)).map uw:=by
  have:=SD.range_getD ((os.map fun o=>(vs[o]?).getD (0,0,0,0)).map uw)
  simpa using this
 dsimp only;rw[e]
 have pv:(os.map fun o=>(vs[o]?).getD (0,0,0,0)).Perm vs:=by
  refine(pm.map _).trans ?_
  have:(Iv vs.length).map (fun o=>(vs[o]?).getD (0,0,0,0))=vs:=by
   apply List.ext_getElem
   ·simp
   ·intro i h1 h2;simp[h2]
  rw[this]
 obtain⟨q1,q2,q3⟩:=CD gm T1 T2 T3 sub pv;exact rtn (k _ x7 _ p _ (av R hp) (by rw[ak (av R hp)];exact R) ai () () q3 q2 q1)
theorem d5:FnScope ["_law_top","_law_bottom","_law_one","_law_other"] ["_law_top","_law_bottom"] (au nC):=by walk_at "sc"
inductive Cn_law_low(x y:D)(M:MH)(Q:DK):Prop
 |mk (t:_) (b:_) (_:x=.int t) (_:y=.int b) (_:b≠0) (_:Bd 8000 t) (_:Bd 8000 b) (_:Q (Lk (Rat.divInt t b)) M)
theorem gS(T:Tx K mg):Cal P w K mg base 1 "_law_low" (sD2 Cn_law_low):=by
 refine bE (k:=0) T.f_law_low d5 fun f cdv A outer s H E l=>⟨_,(aj (az 2 d5.nd (aS pA rfl T.b_abs oD (ae (dv 0) ag))) (aj (az 3 d5.nd (aS pA rfl T.b_abs oD (ae (dv 1) ag))) (aj (iW IG (aI (fY l.units) (dv 3) af) (aq (fQ 2 3 rfl d5.nd (ae (dv 3) (ae (aw iH (dv 2) (dv 3)) ag))))) (aj (bc (aI (dP l.units) (dv 1) af) (aq (az 2 d5.nd (pZ jj (dv 2)))) aN) (aq (aD (aF (ae (aw eJ (dv 0) (dv 2)) (ae (aw eJ (dv 1) (dv 2)) ag))))))))),fun _ _ M Q h=>?_⟩;obtain⟨t,b,rfl,rfl,o,r,g,q⟩:=h;refine⟨_,rfl,_,rfl,?_⟩;have u:=Ma.e9 (t:=t) o;have a:Bd 8000 ((KA t.natAbs b.natAbs:Nat):Int):=g.of_le (by simpa using Nat.gcd_le_right t.natAbs (():0<b.natAbs));refine⟨fun m δ n=>n=M/\∃x y:Nat,δ=[LA (.int t),LA (.int b),LA (.int x),LA (.int y)]/\KA x y=KA t.natAbs b.natAbs/\m=y,⟨_,rfl,_,_,rfl,rfl,rfl⟩,?_⟩;rintro m δ n ⟨rfl,x,y,rfl,c,p⟩;refine⟨_,rfl,_,rfl,?_⟩;refine bL (fun h=>?_) (fun h=>?_)
 ·have i:(y:Int)≠0:=by simpa using h
  refine⟨_,rfl,_,rfl,_,rfl,i,_,_,rfl,?_⟩;have j:0<y:=()
  refine⟨x%y,by rw[p];exact Nat.mod_lt _ j,rfl,y,x%y,?_,?_,rfl⟩
  ·rw[<-Ma.u7];rfl
  ·rw[<-c,Nat.gcd_comm x y,Nat.gcd_rec y x,Nat.gcd_comm]
 ·have i:y=0:=by simpa using h
  subst i;rw[Nat.gcd_zero_right]at c;subst c;(repeat (first|refine⟨_,rfl,?_⟩|refine⟨trivial,?_⟩|refine⟨_,_,rfl,?_⟩|refine⟨rfl,?_⟩|refine⟨nbL rfl,?_⟩))
  refine bL (fun h=>?_) (fun h=>?_)
  ·have d:b<0:=by simpa using h
   obtain⟨e1,e2⟩:=Ma.uP (t:=t) d;refine⟨_,rfl,_,rfl,_,rfl,⟨(),a.neg⟩,_,rfl,_,rfl,⟨(),a.neg⟩,nbL rfl,?_⟩;dsimp only;rw[e1,e2];exact rtn q
  ·have e:0<b:=by
    have:¬b<0:=by simpa using h
    omega
   obtain⟨e1,e2⟩:=Ma.tX (t:=t) e;refine⟨_,rfl,_,rfl,⟨(),a⟩,_,rfl,_,rfl,⟨(),a⟩,nbL rfl,?_⟩;dsimp only;rw[e1,e2];exact rtn q
theorem dm:FnScope ["_law_scale_here","_law_unit","_law_top","_law_bottom","_law_x","_law_y"] ["_law_scale_here","_law_unit"] (au lW):=by walk_at "sc"
inductive Cn_law_spot(s v:D)(M:MH)(Q:DK):Prop
 |mk (t b x y p q:Int) (_:s=scl t b x y) (_:v=.tup [.int p,.int q]) (_:Scl t b x y) (_:(-(10^6)<=p/\p<=10^6)) (_:(-(10^6)<=q/\q<=10^6)) (_:Q (Lj (LW t b x 1 p) (LW t b y 1 q)) M)
theorem mm(T:Tx K mg):Cal P w K mg base 2 "_law_spot" (sD2 Cn_law_spot):=by
 refine bE (k:=1) T.f_law_spot dm fun f cdv A outer s H E d=>⟨_,(aj (cv (dv 0) (bJ rfl (aC (aA 2 dm.nd) (aC (aA 3 dm.nd) (aC (aA 4 dm.nd) (aC (aA 5 dm.nd) ba)))))) (aq (aD (aF (ae (ao (gS T).m d (ae (aw aJ (aw aG (ax (dv 1) af) (dv 2)) (dv 4)) (ae (dv 3) ag))) (ae (ao (gS T).m d (ae (aw aJ (aw aG (ax (dv 1) af) (dv 2)) (dv 5)) (ae (dv 3) ag))) ag)))))),fun _ _ M Q h=>?_⟩;obtain⟨t,b,x,y,p,q,rfl,rfl,S,e,g,k⟩:=h;have j:Bd 100 t:=by have:=S.t0;have:=S.t1;show t.natAbs<2^100;omega
 have c:∀{z:Int},(-(10^6)<=z/\z<=10^6)->Bd 64 z:=fun{z} h=>by show z.natAbs<2^64;omega
 have i:Bd 8000 b:=by have:=S.b0;have:=S.b1;exact Bd.mono (m:=100) (by show b.natAbs<2^100;omega) ⋯
 have big:∀{z w:Int},(-(10^6)<=z/\z<=10^6)->(-(10^30)<=w/\w<=10^30)->Bd 8000 (z*t+w):=fun{z w} l n=>by
  have e1:Bd 164 (z*t):=(c l).mul j
  have e2:Bd 164 w:=by show w.natAbs<2^164;omega
  exact(e1.add e2).mono ⋯
 have a:b≠0:=by have:=S.b0;omega
 refine⟨_,rfl,_,rfl,rfl,_,_,rfl,_,_,rfl,_,_,rfl,_,_,rfl,rfl,?_⟩;refine⟨_,rfl,_,rfl,_,rfl,aO (c e),_,rfl,_,rfl,p*t+x,b,rfl,rfl,a,big e ⟨S.x0,S.x1⟩,i,?_⟩;refine⟨_,rfl,_,rfl,_,rfl,aO (c g),_,rfl,_,rfl,q*t+y,b,rfl,rfl,a,big g ⟨S.y0,S.y1⟩,i,nbL rfl,?_⟩;rw[Ma.xP,Ma.xP];exact rtn k
theorem qI:FnScope ["_law_scale_here","_law_shuts"] ["_law_scale_here","_law_shuts"] (au lq):=by walk_at "sc"
inductive Cn_law_made(s v:D)(M:MH)(Q:DK):Prop
 |mk (t b x y:Int) (l:Addr) (ws:List (Int×Int×Int×Int)) (_:s=scl t b x y) (_:v=.ref l) (_:M l=LA (.lst (ws.map uw))) (_:Scl t b x y) (_:ws.length<=1000) (_:(∀w∈ws,Uok (10^6) w)) (_:Q (.tup (ws.map (rwl t b x y))) M)
theorem tm(T:Tx K mg):Cal P w K mg base 3 "_law_made" (sD2 Cn_law_made):=by
 refine bE (k:=2) T.f_law_made qI fun f cdv A outer s H E n=>⟨_,(aq (aD (cS q0 rfl T.b_tuple p7 (ae (qX (CScope.of (xs:=["_law_first","_law_second"]) (js:=[0]) rfl) rfl (aV (dv 1)) (fun _ _ _ _=>cX) (fun _ _ _ _=>(aF (ae (ao (mm T).m n (ae (dv 2) (ae (dv 0) ag))) (ae (ao (mm T).m n (ae (dv 2) (ae (dv 1) ag))) ag))))) ag)))),fun _ _ M Q h=>?_⟩;obtain⟨t,b,x,y,l,ws,rfl,rfl,g,S,C,o,k⟩:=h;refine⟨_,rfl,ws.map uw,g,comp_map (fun i=>((ws.map (rwl t b x y))[i]?).getD .non) (by simp;omega) (fun p D j=>?_) ?_ (fun p j=>⟨_,ai,?_⟩)⟩
 ·show(ay M p _) l=_;rw[ak (av g j)];exact g
 ·intro i e q F a _;have a:(ws.map uw)[i]?=LA e:=a;rw[Ie]at a;cases d:ws[i]? with
  |none=>rw[d]at a;cases a
  |some w=>
   rw[d]at a
   cases a
   obtain⟨r,u,v,z⟩:=o w (Il d)
   refine⟨_,⟨_,rfl,rfl,rfl⟩,fun K B=>?_⟩
   have c:=B q .refl
   rw[getD_map d]at c
   refine⟨_,rfl,_,rfl,t,b,x,y,w.1,w.2.1,rfl,rfl,S,r,u,?_⟩
   exact⟨_,rfl,_,rfl,t,b,x,y,w.2.2.1,w.2.2.2,rfl,rfl,S,v,z,nbL rfl,c⟩
 ·refine⟨_,.new j .refl,?_⟩
  have e:(Iv (ws.map uw).length).map (fun i=>((ws.map (rwl t b x y))[i]?).getD .non)=ws.map (rwl t b x y):=by
   have:=SD.range_getD (ws.map (rwl t b x y))
   rw[Ii]at this ⊢
   exact this
  dsimp only;rw[e];exact k
theorem fR:FnScope ["plot","face","first","second"] ["plot","face"] (au j0):=by walk_at "sc"
inductive Cn_face_ends(u v:D)(M:MH)(Q:DK):Prop
 |mk (t b X Y:Int) (ws:List Wl) (f:Nat) (_:u=.tup (ws.map (rwl t b X Y))) (_:v=.int (f:Int)) (_:f<2*ws.length) (_:ws.length<=1000) (_:Q (rwl t b X Y (fw ws f)) M)
theorem cw(T:Tx K mg):Cal P w K mg base 1 "face_ends" (sD2 Cn_face_ends):=by
 refine bE (k:=0) T.f_face_ends fR fun f cdv A outer s H E e=>⟨_,(aj (cv (ax (dv 0) (aw eJ (dv 1) af)) (bJ rfl (aC (aA 2 fR.nd) (aC (aA 3 fR.nd) ba)))) (aq (aD (gC (aI (b6 e.units) (aw iH (dv 1) af) af) (aF (ae (dv 2) (ae (dv 3) ag))) (aF (ae (dv 3) (ae (dv 2) ag))))))),fun _ _ M Q h=>?_⟩;obtain⟨t,b,X,Y,ws,f,rfl,rfl,j,c,k⟩:=h;obtain⟨d,l,m⟩:=aW (ws:=ws) (k:=((f/2:Nat):Int)) () ();have g:(f:Int).fdiv 2=((f/2:Nat):Int):=by rw[J8 _ ⋯];omega
 have i:(f:Int).fmod 2=((f%2:Nat):Int):=by rw[Int.fmod_eq_emod_of_nonneg _ ⋯];omega
 have a:atI (ws.map (rwl t b X Y)) ((f:Int).fdiv 2)=LA (rwl t b X Y (wAt ws ((f/2:Nat):Int))):=by rw[g];refine bZ ?_;rw[Jh]at d;rw[Ie,d];rfl
 refine⟨_,rfl,_,rfl,⟨⋯,bA ⋯⟩,_,a,?_⟩;refine⟨_,rfl,rfl,_,_,rfl,_,_,rfl,rfl,?_⟩;refine⟨_,rfl,(show(2:Int)≠0 by decide),_,rfl,?_⟩;dsimp only;rw[i];refine bL (fun h=>?_) (fun h=>?_)
 ·have h:f%2=0:=by have:((f%2:Nat):Int)=0:=by simpa using h
                   omega
  refine⟨_,rfl,_,rfl,nbL rfl,rtn ?_⟩;unfold fw at k;rw[LG h]at k;exact k
 ·have h:¬f%2=0:=fun z=>by rw[z]at h;simp at h
  refine⟨_,rfl,_,rfl,nbL rfl,rtn ?_⟩;unfold fw at k;rw[LF h]at k;exact k
theorem cV:FnScope ["plot","leaving","face"] ["plot"] (au fm):=by walk_at "sc"
def spk(t b X Y:Int)(p:Vc):SpK:=((LW t b X 1 p.1).num,((LW t b X 1 p.1).den:Int),(LW t b Y 1 p.2).num,((LW t b Y 1 p.2).den:Int))
theorem uR{t b X Y:Int}(a:0<t)(c:0<b){p q:Vc}(h:spk t b X Y p=spk t b X Y q):p=q:=by unfold spk at h;injection h with d h;injection h with e h;injection h with f g;have e1:LW t b X 1 p.1=LW t b X 1 q.1:=Rat.ext d (by exact_mod_cast e);have e2:LW t b Y 1 p.2=LW t b Y 1 q.2:=Rat.ext f (by exact_mod_cast g);have i:=(Lh a c ⋯ ⋯).mp e1;have j:=(Lh a c ⋯ ⋯).mp e2;exact Prod.ext () ()
def lvs(ws:List Wl)(i:Nat)(p:Vc):List Int:=((Iv i).filter fun g=>decide (fa ws g=p)).map fun g:Nat=>(g:Int)
theorem rb(ws:List Wl)(i:Nat)(p:Vc):lvs ws (i+1) p=lvs ws i p++(if fa ws i=p then[(i:Int)]else[]):=by
 unfold lvs;rw[JE,List.filter_append,IK];by_cases h:fa ws i=p
 ·simp[h]
 ·simp[h]
theorem Ag(ws:List Wl)(i:Nat)(p:Vc):(lvs ws i p).length<=i:=by unfold lvs;rw[Ii];have:=List.length_filter_le (fun g=>decide (fa ws g=p)) (Iv i);simpa using this
theorem wO{kvs:SpT}{k:SpK}(d:D)(h:dF kvs k=LB)(j:SpK):dF (putD kvs k d) j=if j=k then LA d else dF kvs j:=by
 have a:(kvs.any fun x=>decide (x.1=k))=LD:=by unfold dF at h;rw[Option.map_eq_none_iff,List.find?_eq_none]at h;rw[List.any_eq_false];exact h
 unfold putD;rw[LF (by rw[a];decide)];unfold dF at *;rw[List.find?_append];by_cases e:j=k
 ·subst e;rw[LG rfl];rw[Option.map_eq_none_iff]at h;rw[h];simp
 ·rw[LF e];have:¬k=j:=fun z=>e z.symm;cases kvs.find? fun x=>decide (x.1=j)<;>simp[this]
structure Lvn(t b X Y:Int)(ws:List Wl)(i:Nat)(M M':MH)(ld:Addr)(kvs:SpT)(L:Vc->Addr):Prop where
 d:M' ld=LA (dsM kvs)
 some:∀p,lvs ws i p≠[]->dF kvs (spk t b X Y p)=.some (.ref (L p))/\M' (L p)=.some (.lst ((lvs ws i p).map D.int))/\L p≠ld/\M (L p)=LB
 none:∀p,lvs ws i p=[]->dF kvs (spk t b X Y p)=.none
 inj:∀p q,lvs ws i p≠[]->lvs ws i q≠[]->L p=L q->p=q
inductive Cn_faces_by_start(u:D)(M:MH)(Q:DK):Prop
 |mk (t b X Y:Int) (ws:List Wl) (_:u=.tup (ws.map (rwl t b X Y))) (_:Scl t b X Y) (_:ws.length<=40) (_:∀(M':MH) (ld:Addr) (kvs:SpT) (L:Vc->Addr),SD.Sub M M'->Lvn t b X Y ws (2*ws.length) M M' ld kvs L->Q (.ref ld) M')
theorem jF(T:Tx K mg):Cal P w K mg base 2 "faces_by_start" (sD1 Cn_faces_by_start):=by
 refine f7 (k:=1) T.f_faces_by_start cV fun f cdv A outer s H E hr=>⟨_,(aj (az 1 cV.nd pV) (aj (dI IG rfl rfl T.b_range (ae (aw aG af (aS eU rfl T.b_len eV (ae (dv 0) ag))) ag) (aA 2 cV.nd) (aq (cC (bo (AJ (lZ hr) (dv 1) (ae (ax (ao (cw T).m hr (ae (dv 0) (ae (dv 2) ag))) af) (ae (bI ag) ag))) (ae (dv 2) ag))))) (aq (aD (dv 1))))),fun _ M Q h=>?_⟩;obtain⟨t,b,X,Y,ws,rfl,S,a0,k⟩:=h;have R:(ws.map (rwl t b X Y)).length=ws.length:=by simp
 refine fun ld J=>?_;refine⟨_,rfl,aO (bA ⋯),2*ws.length,(by rw[R];simp),(),?_⟩;refine⟨fun i δ l=>∃(kvs:SpT) (L:Vc->Addr) (U:Option D),δ=[LA (.tup (ws.map (rwl t b X Y))),LA (.ref ld),U]/\SD.Sub M l/\kvs.length<=i/\Lvn t b X Y ws i M l ld kvs L,?_,?_,?_⟩
 ·exact⟨[],fun _=>0,_,rfl,.new J .refl,Ic _,ai,fun p h=>absurd rfl h,fun p _=>rfl,fun p q h=>absurd rfl h⟩
 ·rintro i δ l hi ⟨kvs,L,U,rfl,N,hk,V⟩;have W:∀{q:Addr} {o},l q=LB->(ay l q o) ld=LA (dsM kvs):=fun u=>by rw[ak (av V.d u)];exact V.d
  have c:∀p,fa ws i≠p->lvs ws (i+1) p=lvs ws i p:=fun p h=>by rw[rb,LF h,Jv]
  have r:lvs ws (i+1) (fa ws i)=lvs ws i (fa ws i)++[(i:Int)]:=by rw[rb,LG rfl]
  have ll:=Ag ws i (fa ws i);refine⟨_,rfl,ld,kvs,rfl,V.d,_,rfl,_,rfl,t,b,X,Y,ws,i,rfl,rfl,hi,(),_,rfl,nbL rfl,fun q u=>?_⟩;refine⟨kvs,spk t b X Y (fa ws i),.ref q,rfl,W u,(),fun d' hd=>?_,fun hn=>?_⟩
  ·have ne:lvs ws i (fa ws i)≠[]:=fun z=>by rw[V.none _ z]at hd;cases hd
   obtain⟨v1,v2,v3,v4⟩:=V.some _ ne;rw[v1]at hd;cases hd;have Z:∀{a o},l a=LA o->(ay l q (.lst [])) a=LA o:=fun h=>by rw[ak (av h u)];exact h
   refine⟨L (fa ws i),_,rfl,Z v2,_,rfl,_,_,rfl,Z v2,(by rw[Ii];omega),?_⟩;have C:∀{a o G},l a=LA o->a≠L (fa ws i)->(ay (ay l q (.lst [])) (L (fa ws i)) G) a=LA o:=fun h n=>by rw[ak n];exact Z h
   refine⟨kvs,L,_,rfl,fun a o h=>C (N _ _ h) (fun z=>by subst z;rw[v4]at h;cases h),(),C V.d v3.symm,fun p h=>?_,fun p h=>?_,fun p v h F e=>?_⟩
   ·by_cases z:fa ws i=p
    ·subst z;refine⟨v1,?_,v3,v4⟩;rw[ai,r,IK];rfl
    ·rw[c p z]at h ⊢;obtain⟨u1,u2,O,u4⟩:=V.some p h;exact⟨u1,C u2 (fun y=>z (V.inj _ _ ne h y.symm)),O,u4⟩
   ·by_cases z:fa ws i=p
    ·subst z;rw[r]at h;simp at h
    ·rw[c p z]at h;exact V.none p h
   ·have g:∀p,lvs ws (i+1) p≠[]->lvs ws i p≠[]:=fun p h=>by
     by_cases z:fa ws i=p
     ·subst z;exact ne
     ·rw[c p z]at h;exact h
    exact V.inj p v (g p h) (g v F) e
  ·have em:lvs ws i (fa ws i)=[]:=by
    cases z:lvs ws i (fa ws i)with
    |nil=>rfl
    |cons x xs=>
     have:=(V.some _ (by rw[z];simp)).1
     rw[hn]at this;cases this
   have B:q≠ld:=(av V.d u).symm;have cq:(ay (ay l q (.lst [])) ld (dsM (putD kvs (spk t b X Y (fa ws i)) (.ref q)))) q=LA (.lst []):=by rw[ak B,ai]
   refine⟨q,[],rfl,cq,_,rfl,_,_,rfl,cq,⋯,?_⟩;have C:∀{a o D' G},l a=LA o->a≠ld->(ay (ay (ay l q (.lst [])) ld D') q G) a=LA o:=fun h n=>by rw[ak (av h u),ak n,ak (av h u)];exact h
   have mq:M q=LB:=by
    cases z:M q with
    |none=>rfl
    |some o=>rw[N _ _ z]at u;cases u
   have vn:=fun j=>wO (.ref q) hn j;refine⟨putD kvs (spk t b X Y (fa ws i)) (.ref q),fun p=>if fa ws i=p then q else L p,_,rfl,fun a o h=>C (N _ _ h) (fun z=>by subst z;rw[J]at h;cases h),?_,(by rw[ak B.symm,ai]),fun p h=>?_,fun p h=>?_,fun p v h F e=>?_⟩
   ·have:(putD kvs (spk t b X Y (fa ws i)) (.ref q)).length<=kvs.length+1:=by
     unfold putD;split
     ·rw[Ii];omega
     ·simp
    omega
   ·by_cases z:fa ws i=p
    ·subst z;refine⟨by rw[vn,LG rfl,LG rfl],?_,by rw[LG rfl];exact B,by rw[LG rfl];exact mq⟩;rw[LG rfl,ai,r,em];rfl
    ·rw[c p z]at h ⊢;obtain⟨u1,u2,O,u4⟩:=V.some p h;rw[LF z];exact⟨by rw[vn,LF (fun y=>z (uR S.t0 S.b0 y).symm)];exact u1,C u2 O,O,u4⟩
   ·by_cases z:fa ws i=p
    ·subst z;rw[r]at h;simp at h
    ·rw[c p z]at h;rw[vn,LF (fun y=>z (uR S.t0 S.b0 y).symm)];exact V.none p h
   ·by_cases z:fa ws i=p<;>by_cases I:fa ws i=v
    ·rw[<-z,<-I]
    ·rw[c v I]at F;rw[LG z,LF I]at e;have:=(V.some v F).2.1;rw[<-e,u]at this;cases this
    ·rw[c p z]at h;rw[LF z,LG I]at e;have:=(V.some p h).2.1;rw[e,u]at this;cases this
    ·rw[c p z]at h;rw[c v I]at F;rw[LF z,LF I]at e;exact V.inj p v h F e
 ·rintro δ l ⟨kvs,L,U,rfl,N,hk,V⟩;exact⟨_,rfl,⟨l,.refl,k l ld kvs L N V⟩⟩
theorem Cs:FnScope ["one","other"] ["one","other"] (au B8):=by walk_at "sc"
inductive Cn_gap(x y:D)(M:MH)(Q:DK):Prop
 |mk (t1 b1 t2 b2:Int) (_:x=.tup [.int t1,.int b1]) (_:y=.tup [.int t2,.int b2]) (_:Bd 1000000 t1) (_:Bd 1000000 b1) (_:Bd 1000000 t2) (_:Bd 1000000 b2) (_:Q (.tup [.int (t1*b2-t2*b1),.int (b1*b2)]) M)
theorem qF(T:Tx K mg):Cal P w K mg base 1 "gap" (sD2 Cn_gap):=by refine bE (k:=0) T.f_gap Cs fun f cdv A outer s H E e=>⟨_,(aq (aD (aF (ae (aw cx (aw aG (ax (dv 0) af) (ax (dv 1) af)) (aw aG (ax (dv 1) af) (ax (dv 0) af))) (ae (aw aG (ax (dv 0) af) (ax (dv 1) af)) ag))))),fun _ _ M Q h=>?_⟩;obtain⟨t1,b1,g,i,rfl,rfl,c,a,d,b,k⟩:=h;refine⟨_,rfl,_,rfl,_,rfl,_,rfl,eQ c b,_,rfl,_,rfl,_,rfl,_,rfl,eQ d a,trivial,?_⟩;exact⟨_,rfl,_,rfl,_,rfl,_,rfl,eQ a b,nbL rfl,rtn k⟩
theorem dG:FnScope ["wall","spot","a","b","c","d","x","y","across","up","along","high"] ["wall","spot"] (au xp):=by walk_at "sc"
inductive Cn_lean(u v:D)(M:MH)(Q:DK):Prop
 |mk (n:Nat) (a b c d x y:Rat) (_:u=LV a b c d) (_:v=Lj x y) (_:LX n a) (_:LX n b) (_:LX n c) (_:LX n d) (_:LX n x) (_:LX n y) (_:n<=20000) (_:∀t e:Int,0<e->Rat.divInt t e=Lc a b c d x y->Bd (8*n+3) t->Bd (8*n+3) e->Q (.tup [.int t,.int e]) M)
theorem EC(T:Tx K mg):Cal P w K mg base 2 "lean" (sD2 Cn_lean):=by
 refine bE (k:=1) T.f_lean dG fun f cdv A outer s H E o=>⟨_,(aj (cv (dv 0) (bJ rfl (aC (bJ rfl (aC (aA 2 dG.nd) (aC (aA 3 dG.nd) ba))) (aC (bJ rfl (aC (aA 4 dG.nd) (aC (aA 5 dG.nd) ba))) ba)))) (aj (cv (dv 1) (bJ rfl (aC (aA 6 dG.nd) (aC (aA 7 dG.nd) ba)))) (aj (fQ 8 9 rfl dG.nd (ae (ao (qF T).m o (ae (dv 4) (ae (dv 2) ag))) (ae (ao (qF T).m o (ae (dv 5) (ae (dv 3) ag))) ag))) (aj (fQ 10 11 rfl dG.nd (ae (ao (qF T).m o (ae (dv 6) (ae (dv 2) ag))) (ae (ao (qF T).m o (ae (dv 7) (ae (dv 3) ag))) ag))) (aq (aD (ao (qF T).m o (ae (aF (ae (aw aG (ax (dv 8) af) (ax (dv 11) af)) (ae (aw aG (ax (dv 8) af) (ax (dv 11) af)) ag))) (ae (aF (ae (aw aG (ax (dv 9) af) (ax (dv 10) af)) (ae (aw aG (ax (dv 9) af) (ax (dv 10) af)) ag))) ag))))))))),fun _ _ M Q h=>?_⟩;obtain⟨n,a,b,c,d,x,y,rfl,rfl,g,j,p,hd,t,u,G,k⟩:=h;have e:∀{m:Nat} {i:Int},Bd m i->m<=1000000->Bd 1000000 i:=fun z l=>z.mono l;have B:=p.uI g;have C:=hd.uI j;have D:=t.uI g;have F:=u.uI j;have e1:=p.2.mul g.2;have e2:=hd.2.mul j.2;have e3:=t.2.mul g.2;have e4:=u.2.mul j.2;refine⟨_,rfl,_,rfl,rfl,_,_,rfl,⟨_,rfl,rfl,_,_,rfl,_,_,rfl,rfl,?_⟩⟩;refine⟨_,_,rfl,⟨_,rfl,rfl,_,_,rfl,_,_,rfl,rfl,?_⟩⟩;refine⟨rfl,_,rfl,_,rfl,rfl,_,_,rfl,_,_,rfl,rfl,?_⟩;refine⟨_,rfl,_,rfl,_,_,_,_,rfl,rfl,e p.1 (),e p.2 (),e g.1 (),e g.2 (),?_⟩;refine⟨_,rfl,_,rfl,_,_,_,_,rfl,rfl,e hd.1 (),e hd.2 (),e j.1 (),e j.2 (),?_⟩;refine⟨_,_,rfl,?_⟩;refine⟨_,rfl,_,rfl,_,_,_,_,rfl,rfl,e t.1 (),e t.2 (),e g.1 (),e g.2 (),?_⟩;refine⟨_,rfl,_,rfl,_,_,_,_,rfl,rfl,e u.1 (),e u.2 (),e j.1 (),e j.2 (),?_⟩;refine⟨_,_,rfl,?_⟩;refine⟨_,rfl,_,rfl,_,rfl,_,rfl,eQ (e B ()) (e F ()),?_⟩;refine⟨_,rfl,_,rfl,_,rfl,_,rfl,eQ (e e1 ()) (e e4 ()),nbL rfl,?_⟩;refine⟨_,rfl,_,rfl,_,rfl,_,rfl,eQ (e C ()) (e D ()),?_⟩;refine⟨_,rfl,_,rfl,_,rfl,_,rfl,eQ (e e2 ()) (e e3 ()),nbL rfl,?_⟩;refine⟨_,_,_,_,rfl,rfl,e (B.mul F) (),e (e1.mul e4) (),e (C.mul D) (),e (e2.mul e3) (),?_⟩;have v:∀q r:Rat,0<(q.den:Int)*(r.den:Int):=fun q r=>Ip (Lm q) (Lm r);refine rtn (k _ _ (Ip (Ip (v c a) (v y b)) (Ip (v d b) (v x a))) (Ma.AS a b c d x y) ?_ ?_)
 ·exact((((B.mul F).mul (e2.mul e3)).mono (():_<=8*n+2)).sub (((C.mul D).mul (e1.mul e4)).mono (():_<=8*n+2)))
 ·exact((e1.mul e4).mul (e2.mul e3)).mono ()
theorem l9:FnScope ["wall","spot","top"] ["wall","spot"] (au nY):=by walk_at "sc"
inductive Cn_side_of(u v:D)(M:MH)(Q:DK):Prop
 |mk (n:Nat) (a b c d x y:Rat) (_:u=LV a b c d) (_:v=Lj x y) (_:LX n a) (_:LX n b) (_:LX n c) (_:LX n d) (_:LX n x) (_:LX n y) (_:n<=1900) (_:Q (.int (Ld (Lc a b c d x y))) M)
theorem de(T:Tx K mg):Cal P w K mg base 3 "side_of" (sD2 Cn_side_of):=by
 refine bE (k:=2) T.f_side_of l9 fun f cdv A outer s H E g=>⟨_,(aj (az 2 l9.nd (ax (ao (EC T).m g (ae (dv 0) (ae (dv 1) ag))) af)) (aj (bc (aI (oS g.units) (dv 2) af) (aq (aD af)) aN) (aj (bc (aI (dP g.units) (dv 2) af) (aq (aD (pZ jj af))) aN) (aq (aD af))))),fun _ _ M Q h=>?_⟩;obtain⟨n,a,b,c,d,x,y,rfl,rfl,j,l,o,hd,p,q,u,k⟩:=h;refine⟨_,rfl,_,rfl,n,a,b,c,d,x,y,rfl,rfl,j,l,o,hd,p,q,(),fun t e r i _ _=>⟨_,rfl,?_⟩⟩;rw[<-i,Ma.AN r]at k;refine⟨_,rfl,trivial,_,rfl,?_⟩;refine bL (fun h=>?_) (fun h=>?_)
 ·rw[LG (by simpa using h)]at k;exact rtn k
 rw[LF (by simpa using h)]at k;refine⟨_,rfl,trivial,_,rfl,?_⟩;refine bL (fun h=>?_) (fun h=>?_)
 ·rw[LG (by simpa using h)]at k;exact rtn k
 ·rw[LF (by simpa using h)]at k;exact rtn k
theorem c7:FnScope ["corner","came_from","one","other","turn","other_turn"] ["corner","came_from","one","other"] (au fX):=by walk_at "sc"
inductive Cn_is_met_sooner(u v x y:D)(M:MH)(Q:DK):Prop
 |mk (t b X Y:Int) (c p q r:Vc) (_:u=Lj (LW t b X 1 c.1) (LW t b Y 1 c.2)) (_:v=Lj (LW t b X 1 p.1) (LW t b Y 1 p.2)) (_:x=Lj (LW t b X 1 q.1) (LW t b Y 1 q.2)) (_:y=Lj (LW t b X 1 r.1) (LW t b Y 1 r.2)) (_:Scl t b X Y) (_:(0<=c.1/\c.1<=20)) (_:(0<=c.2/\c.2<=20)) (_:(0<=p.1/\p.1<=20)) (_:(0<=p.2/\p.2<=20)) (_:(0<=q.1/\q.1<=20)) (_:(0<=q.2/\q.2<=20)) (_:(0<=r.1/\r.1<=20)) (_:(0<=r.2/\r.2<=20)) (_:Q (.bl (snr (p.1-c.1,p.2-c.2) (q.1-c.1,q.2-c.2) (r.1-c.1,r.2-c.2))) M)
theorem kj(T:Tx K mg):Cal P w K mg base 4 "is_met_sooner" (sD4 Cn_is_met_sooner):=by
 refine G0 (k:=3) T.f_is_met_sooner c7 fun f cdv A outer s H E a=>⟨_,(aj (az 4 c7.nd (ao (de T).m a (ae (aF (ae (dv 0) (ae (dv 1) ag))) (ae (dv 2) ag)))) (aj (az 5 c7.nd (ao (de T).m a (ae (aF (ae (dv 0) (ae (dv 1) ag))) (ae (dv 3) ag)))) (aj (bc (aI (fY a.units) (dv 4) (dv 5)) (aq (aD (c8 (dP a.units) (dv 4) (dv 5)))) aN) (aq (aD (c8 (b6 a.units) (ao (de T).m a (ae (aF (ae (dv 0) (ae (dv 2) ag))) (ae (dv 3) ag))) (pZ jj af))))))),fun _ _ _ _ M Q h=>?_⟩;obtain⟨t,b,X,Y,c,p,q,r,rfl,rfl,rfl,rfl,S,d,g,i,j,l,n,o,u,k⟩:=h;have one:(0:Int)<1/\(1:Int)<=10^6:=⋯
 have v:∀{z:Int},(0<=z/\z<=20)->(-(10^6)<=z/\z<=10^6):=fun{z} h=>()
 have bx:∀{z:Int},(0<=z/\z<=20)->LX 200 (LW t b X 1 z):=fun{z} h=>S.bx one (v h);have by':∀{z:Int},(0<=z/\z<=20)->LX 200 (LW t b Y 1 z):=fun{z} h=>S.by' one (v h)
 have e1:=jD (X:=X) (Y:=Y) S.t0 S.b0 (c.1,c.2,p.1,p.2) q.1 q.2;have e2:=jD (X:=X) (Y:=Y) S.t0 S.b0 (c.1,c.2,p.1,p.2) r.1 r.2;have e3:=jD (X:=X) (Y:=Y) S.t0 S.b0 (c.1,c.2,q.1,q.2) r.1 r.2;have x:sd (c.1,c.2,p.1,p.2) q.1 q.2=vc (p.1-c.1,p.2-c.2) (q.1-c.1,q.2-c.2):=rfl;have y:sd (c.1,c.2,p.1,p.2) r.1 r.2=vc (p.1-c.1,p.2-c.2) (r.1-c.1,r.2-c.2):=rfl;have B:sd (c.1,c.2,q.1,q.2) r.1 r.2=vc (q.1-c.1,q.2-c.2) (r.1-c.1,r.2-c.2):=rfl;rw[x]at e1;rw[y]at e2;rw[B]at e3;dsimp only at e1 e2 e3;refine⟨_,rfl,_,rfl,nbL rfl,_,rfl,200,_,_,_,_,_,_,rfl,rfl,bx d,by' g,bx i,by' j,bx l,by' n,⋯,?_⟩;rw[e1];refine⟨_,rfl,_,rfl,nbL rfl,_,rfl,200,_,_,_,_,_,_,rfl,rfl,bx d,by' g,bx i,by' j,bx o,by' u,⋯,?_⟩;rw[e2];refine⟨_,rfl,_,rfl,_,rfl,?_⟩;unfold snr at k;refine bL (fun h=>?_) (fun h=>?_)
 ·have ne:¬Ij (vc (p.1-c.1,p.2-c.2) (q.1-c.1,q.2-c.2))=Ij (vc (p.1-c.1,p.2-c.2) (r.1-c.1,r.2-c.2)):=fun z=>by rw[z]at h;simp at h
  rw[LF ne]at k;exact⟨_,rfl,_,rfl,trivial,rtn k⟩
 ·have eq:Ij (vc (p.1-c.1,p.2-c.2) (q.1-c.1,q.2-c.2))=Ij (vc (p.1-c.1,p.2-c.2) (r.1-c.1,r.2-c.2)):=by simpa using h
  rw[LG eq]at k;refine⟨_,rfl,_,rfl,nbL rfl,_,rfl,200,_,_,_,_,_,_,rfl,rfl,bx d,by' g,bx l,by' n,bx o,by' u,⋯,?_⟩;rw[e3];have e:decide (vc (q.1-c.1,q.2-c.2) (r.1-c.1,r.2-c.2)<0)=decide (Ij (vc (q.1-c.1,q.2-c.2) (r.1-c.1,r.2-c.2))=-1):=by rw[LK];rcases gb (vc (q.1-c.1,q.2-c.2) (r.1-c.1,r.2-c.2))with z|z|z<;>omega
  rw[e]at k;exact rtn k
theorem bF:FnScope ["plot","leaving","face","came_from","corner","back","best","rival"] ["plot","leaving","face"] (au ik):=by walk_at "sc"
def d9(ws:List Wl)(f j:Nat):Option Nat:=((((Iv (2*ws.length)).filter fun g=>decide (fa ws g=fb ws f)).take j).filter fun g=>decide (g≠fx f)).foldl (dE (snF ws f)) LB
theorem nE(R:Nat->Nat->Bool):∀(l:List Nat) (o:Option Nat) {h:Nat},l.foldl (dE R) o=LA h->h∈l\/o=LA h
 |[],o,h,e=>.inr e
 |g::l,o,h,e=>by
  rw[KG]at e
  rcases nE R l _ e with z|z
  ·exact .inl (by simp[z])
  ·cases o with
   |none=>cases z;exact .inl (by simp)
   |some k=>
    unfold dE at z
    dsimp only at z
    by_cases r:R g k=LC
    ·rw[LG r]at z;cases z;exact .inl (by simp)
    ·rw[LF r]at z;exact .inr z
theorem tO(ws:List Wl)(f j:Nat)(h:((Iv (2*ws.length)).filter fun g=>decide (fa ws g=fb ws f)).length<=j):d9 ws f j=(iC ws f).foldl (dE (snF ws f)) LB:=by
 unfold d9 iC xC;rw[JH h,List.filter_filter]
 congr 1
 apply List.filter_congr;intro x _;rw[Bool.and_comm]
theorem tP{ws:List Wl}{f j h:Nat}(e:d9 ws f j=LA h):h∈iC ws f:=by
 unfold d9 at e;rcases nE _ _ _ e with z|z
 ·have a:=IJ.mp z;have b:=IJ.mp (List.mem_of_mem_take a.1);exact bM.mpr ⟨by simpa using b.1,by simpa using b.2,by simpa using a.2⟩
 ·cases z
inductive Cn_face_behind(u v w:D)(M:MH)(Q:DK):Prop
 |mk (t b X Y:Int) (ws:List Wl) (M0:MH) (ld:Addr) (kvs:SpT) (L:Vc->Addr) (f:Nat) (_:u=.tup (ws.map (rwl t b X Y))) (_:v=.ref ld) (_:w=.int (f:Int)) (_:Scl t b X Y) (_:ws.length<=40) (_:(∀w∈ws,Un5 w)) (_:f<2*ws.length) (_:Lvn t b X Y ws (2*ws.length) M0 M ld kvs L) (_:Q (.int (bh ws f:Int)) M)
theorem ia(T:Tx K mg):Cal P w K mg base 5 "face_behind" (sD3 Cn_face_behind):=by
 refine jq (k:=4) T.f_face_behind bF fun f cdv A outer s H E r=>⟨_,(aj (cv (ao (cw T).m r (ae (dv 0) (ae (dv 2) ag))) (bJ rfl (aC (aA 3 bF.nd) (aC (aA 4 bF.nd) ba)))) (aj (az 5 bF.nd (aw Ez (dv 2) af)) (aj (az 6 bF.nd (dv 5)) (aj (bX IG rfl (aV (rk (lZ r) (dv 1) (dv 4) (by intro _ _;with_unfolding_all rfl))) (aA 7 bF.nd) (aq (bc (iU (eR (aI (fY r.units) (dv 7) (dv 5)) (df (iU (uC (aI (b6 r.units) (dv 6) (dv 5)) (oK (cZ (ao (kj T).m r (ae (dv 4) (ae (dv 3) (ae (ax (ao (cw T).m r (ae (dv 0) (ae (dv 7) ag))) af) (ae (ax (ao (cw T).m r (ae (dv 0) (ae (dv 6) ag))) af) ag)))))))))))) (aq (az 6 bF.nd (dv 7))) aN))) (aq (aD (dv 6))))))),fun _ _ _ M Q h=>?_⟩;obtain⟨t,b,X,Y,ws,M0,ld,kvs,L,f,rfl,rfl,rfl,S,J,Z,u,V,k⟩:=h;have exf:Builtin.bitXor (f:Int) 1=((fx f:Nat):Int):=CU f ()
 have n:∀g:Nat,g<2*ws.length->((0<=(fa ws g).1/\(fa ws g).1<=20)/\(0<=(fa ws g).2/\(fa ws g).2<=20))/\((0<=(fb ws g).1/\(fb ws g).1<=20)/\(0<=(fb ws g).2/\(fb ws g).2<=20)):=fun g y=>by
  obtain⟨_,_,w3⟩:=aW (ws:=ws) (k:=((g/2:Nat):Int)) () ()
  have W:=Z _ w3
  unfold fa fb fw
  by_cases h:g%2=0
  ·rw[LG h];exact⟨⟨W.a,W.b⟩,W.c,W.d⟩
  ·rw[LF h];exact⟨⟨W.c,W.d⟩,W.a,W.b⟩
 have ne:lvs ws (2*ws.length) (fb ws f)≠[]:=by
  unfold lvs
  have:fx f∈(Iv (2*ws.length)).filter fun g=>decide (fa ws g=fb ws f):=IJ.mpr ⟨IZ.mpr (jZ u),by simpa using e7 ws f⟩
  intro z
  rw[List.map_eq_nil_iff]at z
  rw[z]at this
  cases this
 obtain⟨v1,N,v3,v4⟩:=V.some _ ne;refine⟨_,rfl,_,rfl,t,b,X,Y,ws,f,rfl,rfl,u,(),?_⟩;refine⟨_,rfl,rfl,_,_,rfl,_,_,rfl,rfl,?_⟩;refine⟨_,rfl,trivial,?_⟩;dsimp only;rw[exf];refine⟨_,rfl,?_⟩;refine⟨_,rfl,_,rfl,ld,kvs,spk t b X Y (fb ws f),_,rfl,rfl,V.d,v1,(lvs ws (2*ws.length) (fb ws f)).map D.int,N,?_⟩;refine⟨fun j δ B=>B=M/\∃F,δ=[LA (.tup (ws.map (rwl t b X Y))),LA (.ref ld),LA (.int (f:Int)),LA (Lj (LW t b X 1 (fw ws f).1) (LW t b Y 1 (fw ws f).2.1)),LA (Lj (LW t b X 1 (fw ws f).2.2.1) (LW t b Y 1 (fw ws f).2.2.2)),LA (.int ((fx f:Nat):Int)),LA (.int (((d9 ws f j).getD (fx f):Nat):Int)),F],⟨rfl,_,rfl⟩,fun j δ B _ z=>by obtain⟨rfl,_⟩:=z;exact N,?_,?_⟩
 ·rintro j d δ B hj hd ⟨rfl,F,rfl⟩;have hd:((((Iv (2*ws.length)).filter fun g=>decide (fa ws g=fb ws f)).map fun g:Nat=>(g:Int)).map D.int)[j]?=LA d:=hd;rw[Ie,Ie]at hd;cases C:((Iv (2*ws.length)).filter fun g=>decide (fa ws g=fb ws f))[j]? with
  |none=>rw[C]at hd;cases hd
  |some g=>
   rw[C]at hd
   cases hd
   have v:=IJ.mp (Il C)
   have y:g<2*ws.length:=by simpa using v.1
   have G:fa ws g=fb ws f:=by simpa using v.2
   have nx:d9 ws f (j+1)=if g=fx f then d9 ws f j else dE (snF ws f) (d9 ws f j) g:=by
    unfold d9;rw[Kf,C,Option.toList_some,List.filter_append,List.foldl_append];by_cases z:g=fx f
    ·simp[z]
    ·simp[z]
   have p:∀h,d9 ws f j=LA h->h∈iC ws f:=fun h e=>tP e
   generalize d9 ws f j=o at nx p ⊢
   by_cases z:g=fx f
   ·(try dsimp only[SD.f6,SD.dC,SD.aX,SD.gN,SD.gn,SD.cY,SD.dU,SD.tBD,SD.gK])
    refine rL LD LD (fun K l=>⟨_,rfl,_,rfl,_,rfl,?_⟩) (fun q=>absurd q ⋯) (fv rfl ⟨rfl,LA (.int (g:Int)),?_⟩)
    ·rw[show(!decide ((g:Int)=((fx f:Nat):Int)))=LD by rw[z];simp];exact l
    ·rw[nx,LG z];rfl
   ·rw[LF z]at nx
    have O:(!decide ((g:Int)=((fx f:Nat):Int)))=LC:=by
     have:¬((g:Int)=((fx f:Nat):Int)):=fun q=>z ()
     rw[LH this];rfl
    cases o with
    |none=>
     (try dsimp only[SD.f6,SD.dC,SD.aX,SD.gN,SD.gn,SD.cY,SD.dU,SD.tBD,SD.gK])
     refine rL LC LC (fun K l=>⟨_,rfl,_,rfl,_,rfl,by rw[O];exact l⟩) (fun _ K l=>orT LC LC (fun R i=>⟨_,rfl,_,rfl,_,rfl,?_⟩) (fun q=>absurd q ⋯) l) (oI rfl ⟨_,rfl,rfl,LA (.int (g:Int)),?_⟩)
     ·rw[show decide ((((LB:Option Nat).getD (fx f):Nat):Int)=((fx f:Nat):Int))=LC by simp];exact i
     ·rw[nx];rfl
    |some h=>
     have x:=bM.mp (p h rfl)
     have d1:fd ws (fx f)=((fa ws f).1-(fb ws f).1,(fa ws f).2-(fb ws f).2):=by unfold fd fa fb;rw[zI];rfl
     have U:∀g,fa ws g=fb ws f->fd ws g=((fb ws g).1-(fb ws f).1,(fb ws g).2-(fb ws f).2):=fun g e=>by rw[<-e];rfl
     have es:snF ws f g h=snr ((fa ws f).1-(fb ws f).1,(fa ws f).2-(fb ws f).2) ((fb ws g).1-(fb ws f).1,(fb ws g).2-(fb ws f).2) ((fb ws h).1-(fb ws f).1,(fb ws h).2-(fb ws f).2):=by unfold snF;rw[d1,U g G,U h x.2.1]
     have I:decide ((((LA h).getD (fx f):Nat):Int)=((fx f:Nat):Int))=LD:=LH (fun q=>x.2.2 (by have q':((h:Nat):Int)=((fx f:Nat):Int):=q;omega))
     (try dsimp only[SD.f6,SD.dC,SD.aX,SD.gN,SD.gn,SD.cY,SD.dU,SD.tBD,SD.gK])
     refine rL LC (LD||snF ws f g h) (fun K l=>⟨_,rfl,_,rfl,_,rfl,by rw[O];exact l⟩) (fun _ K l=>orT LD (snF ws f g h) (fun R i=>⟨_,rfl,_,rfl,_,rfl,by rw[I];exact i⟩) (fun _ R i=>?_) l) ?_
     ·refine⟨_,rfl,_,rfl,_,rfl,_,rfl,t,b,X,Y,ws,g,rfl,rfl,y,(),_,rfl,_,rfl,_,rfl,t,b,X,Y,ws,h,rfl,rfl,x.1,(),_,rfl,t,b,X,Y,fb ws f,fa ws f,fb ws g,fb ws h,rfl,rfl,rfl,rfl,S,(n f u).2.1,(n f u).2.2,(n f u).1.1,(n f u).1.2,(n g y).2.1,(n g y).2.2,(n h x.1).2.1,(n h x.1).2.2,_,rfl,?_⟩;rw[<-es];exact i
     ·refine bL (fun q=>?_) (fun q=>?_)
      ·refine⟨_,rfl,rfl,LA (.int (g:Int)),?_⟩;have q:snF ws f g h=LC:=by simpa using q
       have e:dE (snF ws f) (LA h) g=LA g:=by unfold dE;simp[q]
       rw[nx,e];rfl
      ·refine⟨rfl,LA (.int (g:Int)),?_⟩;have q:¬snF ws f g h=LC:=by simpa using q
       have e:dE (snF ws f) (LA h) g=LA h:=by unfold dE;simp[q]
       rw[nx,e];rfl
 ·rintro δ B ⟨rfl,F,rfl⟩;have e:=tO ws f ((lvs ws (2*ws.length) (fb ws f)).map D.int).length (by simp[lvs]);dsimp only;rw[e];exact⟨_,rfl,rtn k⟩
theorem dJ:FnScope ["plot","leaving","face","ring","at"] ["plot","leaving","face"] (au j5):=by walk_at "sc"
theorem uh{t b X Y:Int}{ws:List Wl}{i:Nat}{f M:MH}{ld:Addr}{kvs:SpT}{L:Vc->Addr}{p:Addr}{o:MO}(V:Lvn t b X Y ws i f M ld kvs L)(j:M p=LB):Lvn t b X Y ws i f (ay M p o) ld kvs L:=⟨by rw[ak (av V.d j)];exact V.d,fun q h=>let⟨a,c,e,g⟩:=V.some q h;⟨a,by rw[ak (av c j)];exact c,e,g⟩,V.none,V.inj⟩
inductive Cn_ring_from(u v w:D)(M:MH)(Q:DK):Prop
 |mk (t b X Y:Int) (ws:List Wl) (M0:MH) (ld:Addr) (kvs:SpT) (L:Vc->Addr) (f:Nat) (_:u=.tup (ws.map (rwl t b X Y))) (_:v=.ref ld) (_:w=.int (f:Int)) (_:Scl t b X Y) (_:ws.length<=40) (_:(∀w∈ws,Un5 w)) (_:PF ws) (_:f<2*ws.length) (_:Lvn t b X Y ws (2*ws.length) M0 M ld kvs L) (_:∀(p:Addr) (kk:Nat),M p=LB->NR ws f kk->bh ws (itb ws f kk)=f->Q (.ref p) (ay M p (.lst ((rn ws f kk).map fun g:Nat=>D.int (g:Int)))))
theorem rm(T:Tx K mg):Cal P w K mg base 6 "ring_from" (sD3 Cn_ring_from):=by
 refine jq (k:=5) T.f_ring_from dJ fun f cdv A outer s H E n=>⟨_,(aj (az 3 dJ.nd (bI (ae (dv 2) ag))) (aj (az 4 dJ.nd (ao (ia T).m n (ae (dv 0) (ae (dv 1) (ae (dv 2) ag))))) (aj (iW IG (aI (fY n.units) (dv 4) (dv 2)) (aj (cC (bo (dv 3) (ae (dv 4) ag))) (aq (az 4 dJ.nd (ao (ia T).m n (ae (dv 0) (ae (dv 1) (ae (dv 4) ag)))))))) (aq (aD (dv 3)))))),fun _ _ _ M Q h=>?_⟩;obtain⟨t,b,X,Y,ws,r,ld,kvs,L,f,rfl,rfl,rfl,S,c,d,hF,i,V,k⟩:=h;refine⟨_,rfl,nbL rfl,fun p o=>?_⟩;refine⟨_,rfl,_,rfl,_,rfl,t,b,X,Y,ws,r,ld,kvs,L,f,rfl,rfl,rfl,S,c,d,i,uh V o,?_⟩;refine⟨fun m δ j=>∃a,δ=[LA (.tup (ws.map (rwl t b X Y))),LA (.ref ld),LA (.int (f:Int)),LA (.ref p),LA (.int ((itb ws f (a+1):Nat):Int))]/\j=ay M p (.lst ((rn ws f a).map fun g:Nat=>D.int (g:Int)))/\NR ws f a/\m=2*ws.length-a,⟨_,0,rfl,rfl,A4 ws f,rfl⟩,?_⟩;rintro m δ j ⟨a,rfl,rfl,q,rfl⟩;have v:=ud d hF i q;refine⟨_,rfl,_,rfl,_,rfl,?_⟩;refine bL (fun h=>?_) (fun h=>?_)
 ·have ne:bh ws (itb ws f a)≠f:=fun z=>by
   have:itb ws f (a+1)=f:=z
   rw[this]at h;simp at h
  have l:=Ae d hF i q ne;have u:=ud d hF i l;refine⟨_,rfl,p,_,rfl,ai,_,rfl,_,_,rfl,ai,(by rw[Ii,jx];omega),?_⟩;have e:ay (ay M p (.lst ((rn ws f a).map fun g:Nat=>D.int (g:Int)))) p (.lst (((rn ws f a).map fun g:Nat=>D.int (g:Int))++[.int ((itb ws f (a+1):Nat):Int)]))=ay M p (.lst ((rn ws f (a+1)).map fun g:Nat=>D.int (g:Int))):=by rw[a9,pf,IK];rfl
  rw[e];refine⟨_,rfl,_,rfl,_,rfl,t,b,X,Y,ws,r,ld,kvs,L,itb ws f (a+1),rfl,rfl,rfl,S,c,d,dz d hF i (a+1),uh V o,?_⟩;exact⟨2*ws.length-(a+1),(),a+1,rfl,rfl,l,rfl⟩
 ·have eq:bh ws (itb ws f a)=f:=by
   have:((itb ws f (a+1):Nat):Int)=(f:Int):=by simpa using h
   have e:itb ws f (a+1)=bh ws (itb ws f a):=rfl
   omega
  exact⟨_,rfl,⟨_,.refl,k p a o q eq⟩⟩
theorem cy:FnScope ["plot","leaving","rings","gone_along","face","ring","part"] ["plot"] (au mw):=by walk_at "sc"
theorem Bk{t b X Y:Int}{ws:List Wl}{i:Nat}{f M j:MH}{ld:Addr}{kvs:SpT}{L:Vc->Addr}(V:Lvn t b X Y ws i f M ld kvs L)(s:SD.Sub M j):Lvn t b X Y ws i f j ld kvs L:=⟨s _ _ V.d,fun q h=>let⟨a,c,e,g⟩:=V.some q h;⟨a,s _ _ c,e,g⟩,V.none,V.inj⟩
theorem ml{M a:MH}(s:SD.Sub M a){p:Addr}(h:a p=LB):M p=LB:=by
 cases z:M p with
 |none=>rfl
 |some o=>rw[s _ _ z]at h;cases h
inductive Cn_rings_of(u:D)(M:MH)(Q:DK):Prop
 |mk (t b X Y:Int) (ws:List Wl) (_:u=.tup (ws.map (rwl t b X Y))) (_:Scl t b X Y) (_:ws.length<=40) (_:(∀w∈ws,Un5 w)) (_:PF ws) (_:∀(M':MH) (lr:Addr) (ps:List Addr) (rs:List (List Nat)),SD.Sub M M'->M lr=LB->M' lr=LA (.lst (ps.map D.ref))->Rgs ws (2*ws.length) rs->RL M' ps rs->(∀p∈ps,p≠lr/\M p=LB)->Q (.ref lr) M')
theorem sX(T:Tx K mg):Cal P w K mg base 7 "rings_of" (sD1 Cn_rings_of):=by
 refine f7 (k:=6) T.f_rings_of cy fun f cdv A outer s H E B=>⟨_,(aj (az 1 cy.nd (ao (jF T).m B (ae (dv 0) ag))) (aj (az 2 cy.nd (bI ag)) (aj (az 3 cy.nd zr) (aj (dI IG rfl rfl T.b_range (ae (aw aG af (aS eU rfl T.b_len eV (ae (dv 0) ag))) ag) (aA 4 cy.nd) (aq (bc (rX (lZ B) (dv 4) (dv 3)) (aj (az 5 cy.nd (ao (rm T).m B (ae (dv 0) (ae (dv 1) (ae (dv 4) ag))))) (aj (cC (bo (dv 2) (ae (dv 5) ag))) (aq (bX IG rfl (aV (dv 5)) (aA 6 cy.nd) (aq (wJ (lZ B) (dv 3) (dv 6) iz)))))) aN))) (aq (aD (dv 2))))))),fun _ M Q h=>?_⟩;obtain⟨t,b,X,Y,ws,rfl,S,U,hU,hF,k⟩:=h;have f0:(ws.map (rwl t b X Y)).length=ws.length:=by simp
 refine⟨_,rfl,t,b,X,Y,ws,rfl,S,U,fun M1 ld kvs L W V=>?_⟩;refine⟨nbL rfl,fun l Z=>fun y F=>?_⟩;have I:y≠l:=fun z=>by subst z;rw[ai]at F;cases F
 have b0:M1 y=LB:=by have h:=F;rw[ak I]at h;exact h
 refine⟨_,rfl,aO (bA ⋯),2*ws.length,(by rw[f0];simp),(),?_⟩;refine⟨fun i δ r=>∃(ps:List Addr) (x:List (List Nat)) (n:Nat) (Sg:Int->Bool) (o4 o5 o6:Option D),δ=[LA (.tup (ws.map (rwl t b X Y))),LA (.ref ld),LA (.ref l),LA (.ref y),o4,o5,o6]/\SD.Sub M1 r/\r l=LA (.lst (ps.map D.ref))/\r y=LA (diM n Sg)/\ps.length<=i/\n<=i*80/\(∀g:Nat,Sg (g:Int)=decide (g∈x.flatten))/\Rgs ws i x/\RL r ps x/\∀p∈ps,p≠l/\p≠y/\M1 p=LB,?_,?_,?_⟩
 ·exact⟨[],[],0,fun _=>LD,_,_,_,rfl,.new F (.new Z .refl),(by rw[ak I.symm,ai];rfl),ai,Ic _,JA _,fun g=>by simp,rfl,.nil,fun p J=>by cases J⟩
 ·rintro i δ r hi ⟨ps,x,n,Sg,o4,o5,o6,rfl,sb,B,hg,g0,h0,hS,R,N,u⟩;refine⟨_,rfl,_,rfl,(i:Int),y,n,Sg,rfl,rfl,hg,_,rfl,?_⟩;rw[hS];refine bL (fun h=>?_) (fun h=>⟨ps,x,n,Sg,_,_,_,rfl,sb,B,hg,(),(),hS,⟨x,R,.inl ⟨by simpa using h,rfl⟩⟩,N,u⟩);have i0:i∉x.flatten:=by simpa using h
  refine⟨_,rfl,_,rfl,_,rfl,t,b,X,Y,ws,M,ld,kvs,L,i,rfl,rfl,rfl,S,U,hU,hF,hi,Bk V sb,fun p j J nr eq=>?_⟩;have kb:=ud hU hF hi nr;have c1:∀{a o G},r a=LA o->(ay r p G) a=LA o:=fun h=>by rw[ak (av h J)];exact h
  have c0:p≠l:=(av B J).symm;have a0:p≠y:=(av hg J).symm;refine⟨_,rfl,l,_,rfl,c1 B,_,rfl,_,_,rfl,c1 B,(by simp;omega),?_⟩;have c2:∀{a o G D'},r a=LA o->a≠l->(ay (ay r p G) l D') a=LA o:=fun h n=>by rw[ak n];exact c1 h
  have d0:=c2 (G:=.lst ((rn ws i j).map fun g:Nat=>D.int (g:Int))) (D':=.lst (ps.map D.ref++[.ref p])) hg I;have O:(ay (ay r p (.lst ((rn ws i j).map fun g:Nat=>D.int (g:Int)))) l (.lst (ps.map D.ref++[.ref p]))) p=LA (.lst ((rn ws i j).map fun g:Nat=>D.int (g:Int))):=by rw[ak c0,ai]
  have e0:(ay (ay r p (.lst ((rn ws i j).map fun g:Nat=>D.int (g:Int)))) l (.lst (ps.map D.ref++[.ref p]))) l=LA (.lst (ps.map D.ref++[.ref p])):=ai;have c3:∀{a o},r a=LA o->a≠l->(ay (ay r p (.lst ((rn ws i j).map fun g:Nat=>D.int (g:Int)))) l (.lst (ps.map D.ref++[.ref p]))) a=LA o:=fun h n=>c2 h n;clear c2;generalize ay (ay r p (.lst ((rn ws i j).map fun g:Nat=>D.int (g:Int)))) l (.lst (ps.map D.ref++[.ref p]))=N2 at d0 O e0 c3 ⊢;refine⟨_,rfl,(rn ws i j).map fun g:Nat=>D.int (g:Int),O,?_⟩;refine⟨fun a δ v=>∃(C:Nat) (S':Int->Bool) (o6:Option D),δ=[LA (.tup (ws.map (rwl t b X Y))),LA (.ref ld),LA (.ref l),LA (.ref y),LA (.int (i:Int)),LA (.ref p),o6]/\v y=LA (diM C S')/\(∀c,c≠y->v c=N2 c)/\C<=n+a/\∀g:Nat,S' (g:Int)=(decide (g∈x.flatten)||decide (g∈(rn ws i j).take a)),⟨n,Sg,_,rfl,d0,fun _ _=>rfl,Ic _,fun g=>by rw[hS];simp⟩,fun a δ v _ z=>by obtain⟨_,_,_,_,_,z,_⟩:=z;show v p=_;rw[z p a0];exact O,?_,?_⟩
  ·rintro a d δ v ha hd ⟨C,S',o6,rfl,h1,h2,h3,h4⟩;have l0:a<j+1:=by have:a<((rn ws i j).map fun g:Nat=>D.int (g:Int)).length:=ha;simpa[jx]using this
   have hd:((rn ws i j).map fun g:Nat=>D.int (g:Int))[a]?=LA d:=hd;rw[Ie]at hd;cases eg:(rn ws i j)[a]? with
   |none=>rw[eg]at hd;cases hd
   |some g=>
    rw[eg]at hd
    cases hd
    refine⟨_,rfl,_,rfl,y,(g:Int),C,S',rfl,rfl,h1,(),?_⟩
    refine⟨C+1,_,_,rfl,ai,fun c hc=>by rw[ak hc];exact h2 c hc,(),fun g'=>?_⟩
    rw[h4,Kf,eg]
    have e:decide (((g':Nat):Int)=((g:Nat):Int))=decide (g'=g):=by rw[LK];omega
    rw[e]
    simp only[IL,Option.toList_some,Jj,Bool.decide_or]
    cases decide (g'=g)<;>cases decide (g'∈x.flatten)<;>simp
  ·rintro δ v ⟨C,S',o6,rfl,h1,h2,h3,h4⟩;have h3:C<=n+(j+1):=by simpa[jx]using h3
   have h4:∀g:Nat,S' (g:Int)=(decide (g∈x.flatten)||decide (g∈(rn ws i j).take ((rn ws i j).map fun g:Nat=>D.int (g:Int)).length)):=h4;have et:(rn ws i j).take ((rn ws i j).map fun g:Nat=>D.int (g:Int)).length=rn ws i j:=JH (by simp);rw[et]at h4;have c4:∀{a o},r a=LA o->a≠l->a≠y->v a=LA o:=fun h n C=>by rw[h2 _ C];exact c3 h n
   refine⟨ps++[p],x++[rn ws i j],C,S',_,_,_,rfl,fun a o h=>c4 (sb _ _ h) (fun z=>by subst z;rw[Z]at h;cases h) (fun z=>by subst z;rw[b0]at h;cases h),(by rw[h2 l I.symm,IK];exact e0),h1,by simp;omega,(),fun g=>?_,⟨x,R,.inr ⟨i0,_,⟨j,nr,eq,rfl⟩,rfl⟩⟩,?_,fun p' k0=>?_⟩
   ·rw[h4];simp only[List.flatten_append,IL,KL,List.flatten_nil,Jv,Bool.decide_or]
   ·exact(N.mono fun q hq o e=>c4 e (u q hq).1 (u q hq).2.1).snoc (by rw[h2 p a0];exact O)
   ·rcases IL.mp k0 with z|z
    ·exact u p' z
    ·have:p'=p:=by simpa using z
     subst this;exact⟨c0,a0,ml sb J⟩
 ·rintro δ r ⟨ps,x,n,Sg,o4,o5,o6,rfl,sb,B,hg,g0,h0,hS,R,N,u⟩;exact⟨_,rfl,⟨r,.refl,k r l ps x (SD.Sub.trans W sb) (ml W Z) B R N fun p J=>⟨(u p J).1,ml W (u p J).2.2⟩⟩⟩
theorem dA:FnScope ["one","other"] ["one","other"] (au d7):=by walk_at "sc"
inductive Cn_greatest_divisor(x y:D)(M:MH)(Q:DK):Prop
 |mk (a b:Nat) (_:x=.int (a:Int)) (_:y=.int (b:Int)) (_:Q (.int ((KA a b:Nat):Int)) M)
theorem dZ(T:Tx K mg):Cal P w K mg base 1 "greatest_divisor" (sD2 Cn_greatest_divisor):=by
 refine bE (k:=0) T.f_greatest_divisor dA fun f cdv A outer s H E i=>⟨_,(aj (iW IG (aI (fY i.units) (dv 1) af) (aq (fQ 0 1 rfl dA.nd (ae (dv 1) (ae (aw iH (dv 0) (dv 1)) ag))))) (aq (aD (dv 0)))),fun _ _ M Q h=>?_⟩;obtain⟨a,b,rfl,rfl,q⟩:=h;refine⟨fun m δ g=>g=M/\∃x y:Nat,δ=[LA (.int x),LA (.int y)]/\KA x y=KA a b/\m=y,⟨_,rfl,_,_,rfl,rfl,rfl⟩,?_⟩;rintro m δ g ⟨rfl,x,y,rfl,c,j⟩;refine⟨_,rfl,_,rfl,?_⟩;refine bL (fun h=>?_) (fun h=>?_)
 ·have d:(y:Int)≠0:=by simpa using h
  refine⟨_,rfl,_,rfl,_,rfl,d,_,_,rfl,?_⟩;have e:0<y:=()
  refine⟨x%y,by rw[j];exact Nat.mod_lt _ e,rfl,y,x%y,?_,?_,rfl⟩
  ·rw[<-Ma.u7];rfl
  ·rw[<-c,Nat.gcd_comm x y,Nat.gcd_rec y x,Nat.gcd_comm]
 ·have d:y=0:=by simpa using h
  subst d;rw[Nat.gcd_zero_right]at c;subst c;exact⟨_,rfl,rtn q⟩
theorem cA:FnScope ["parts","common","part"] ["parts"] (au fZ):=by walk_at "sc"
inductive Cn_common_bottom(u:D)(M:MH)(Q:DK):Prop
 |mk (p:Addr) (qs:List Rat) (b:Nat) (_:u=.ref p) (_:M p=LA (.lst (qs.map Lk))) (_:0<b) (_:b<=10^26) (_:(∀q∈qs,q.den ∣ b)) (_:∀c:Nat,0<c->c ∣ b->(∀q∈qs,q.den ∣ c)->Q (.int (c:Int)) M)
theorem fW(T:Tx K mg):Cal P w K mg base 2 "common_bottom" (sD1 Cn_common_bottom):=by
 refine f7 (k:=1) T.f_common_bottom cA fun f cdv A outer s H E I=>⟨_,(aj (az 1 cA.nd af) (aj (bX IG rfl (aV (dv 0)) (aA 2 cA.nd) (aq (az 1 cA.nd (aw aG (aw eJ (dv 1) (ao (dZ T).m I (ae (dv 1) (ae (ax (dv 2) af) ag)))) (ax (dv 2) af))))) (aq (aD (dv 1))))),fun _ M Q h=>?_⟩;obtain⟨p,qs,b,rfl,G,a,v,o,k⟩:=h;refine⟨_,rfl,qs.map Lk,G,?_⟩;refine⟨fun i δ r=>r=M/\∃(c:Nat) (x:Option D),δ=[LA (.ref p),LA (.int (c:Int)),x]/\0<c/\c ∣ b/\∀q∈qs.take i,q.den ∣ c,⟨rfl,1,_,rfl,⋯,Nat.one_dvd _,fun q o=>by simp at o⟩,fun i δ r _ z=>by obtain⟨rfl,_⟩:=z;exact G,?_,?_⟩
 ·rintro i d δ r O hd ⟨rfl,c,x,rfl,g,t,y⟩;have hd:(qs.map Lk)[i]?=LA d:=hd;rw[Ie]at hd;cases u:qs[i]? with
  |none=>rw[u]at hd;cases hd
  |some q=>
   rw[u]at hd
   cases hd
   have j:=Il u
   have R:0<KA c q.den:=Nat.gcd_pos_of_pos_left _ g
   have J:c<=b:=Nat.le_of_dvd a t
   have L:KA c q.den<=c:=Nat.gcd_le_left _ g
   have B:∀{n:Nat},n<=10^26->Bd 100 (n:Int):=fun{n} h=>by show(n:Int).natAbs<2^100;omega
   have C:Bd 100 ((c:Int).fdiv ((KA c q.den:Nat):Int)):=(B (n:=c) ()).of_le (by rw[J8 _ ()];exact Int.natAbs_ediv_le_natAbs _ _)
   have N:(c:Int).fdiv ((KA c q.den:Nat):Int)*(q.den:Int)=((Nat.lcm c q.den:Nat):Int):=by
    rw[J8 _ (),<-Int.natCast_ediv,<-Int.natCast_mul]
    congr 1
    rw[Nat.lcm,Nat.mul_comm c q.den,Nat.mul_div_assoc _ (Nat.gcd_dvd_left c q.den),Nat.mul_comm]
   refine⟨_,rfl,_,rfl,_,rfl,_,rfl,c,q.den,rfl,rfl,⟨(),(B ()).mono ⋯⟩,_,rfl,_,rfl,eQ (C.mono ⋯) ((B (Jp (Nat.le_of_dvd a (o q j)) v)).mono ⋯),?_⟩
   dsimp only
   rw[N]
   refine⟨rfl,Nat.lcm c q.den,_,rfl,Nat.lcm_pos g q.den_pos,Nat.lcm_dvd t (o q j),fun F l=>?_⟩
   rw[Kf,u]at l
   rcases IL.mp l with z|z
   ·exact Nat.dvd_trans (y F z) (Nat.dvd_lcm_left c q.den)
   ·have:F=q:=by simpa using z
    subst this;exact Nat.dvd_lcm_right c F.den
 ·rintro δ r ⟨rfl,c,x,rfl,g,t,y⟩;exact⟨_,rfl,rtn (k c g t (by have e:qs.take (qs.map Lk).length=qs:=JH (by simp);rw[<-e];exact y))⟩
theorem qO:FnScope ["part","bottom"] ["part","bottom"] (au lQ):=by walk_at "sc"
inductive Cn_top_over(u v:D)(M:MH)(Q:DK):Prop
 |mk (q:Rat) (B:Int) (_:u=Lk q) (_:v=.int B) (_:LX 200 q) (_:0<B) (_:B<=10^26) (_:Q (.int (q.num*B.fdiv (q.den:Int))) M)
theorem fP(T:Tx K mg):Cal P w K mg base 1 "top_over" (sD2 Cn_top_over):=by
 refine bE (k:=0) T.f_top_over qO fun f cdv A outer s H E c=>⟨_,(aq (aD (aw aG (ax (dv 0) af) (aw eJ (dv 1) (ax (dv 0) af))))),fun _ _ M Q h=>?_⟩;obtain⟨q,B,rfl,rfl,a,d,e,k⟩:=h;have bB:Bd 100 B:=by show B.natAbs<2^100;omega
 have b:(B.fdiv (q.den:Int)).natAbs<=B.natAbs:=by rw[J8 _ ()];exact Int.natAbs_ediv_le_natAbs _ _
 exact⟨_,rfl,_,rfl,_,rfl,_,rfl,_,rfl,⟨Ln q,a.2.mono ⋯⟩,eQ (a.1.mono ⋯) ((bB.of_le b).mono ⋯),rtn k⟩
theorem aR:FnScope ["plot","ring","ways","x_bottom","y_bottom","total","x","y","next_x","next_y"] ["plot","ring"] (au jn):=by walk_at "sc"
theorem nF{I:ItD}{js:List Nat}{q:TID}{te:TD}{δ:DS}{f:MH}{Q:DK}(a b g h:Nat->D)(t:I.n<=1000)(hC:∀p c,f p=LB->I.C (ay f p (.lst c)))(o:∀i d,i<I.n->I.item i=LA d->d=.tup [a i,b i]) (hw:∀i M R,i<I.n->R ⟨2,fun j=>[a i,b i][j]?,fun M=>DL M (.tup [a i,b i]) [a i,b i]⟩ M->q (cδ [LA (.tup [a i,b i]),LB] js δ) M R) (u:∀i M (K:DK),i<I.n->K (g i) M->te (cδ [LA (.tup [a i,b i]),LA (a i)] js δ) M K) (v:∀i M (K:DK),i<I.n->K (h i) M->te (cδ [LA (.tup [a i,b i]),LA (b i)] js δ) M K) (x:∀p,f p=LB->Q (.ref p) (ay f p (.lst ((Iv I.n).flatMap fun i=>[g i,h i])))):Gr I js q te δ f Q:=by
 refine⟨t,fun p r=>⟨fun i c M=>c=(Iv i).flatMap (fun i=>[g i,h i])/\M=ay f p (.lst c),⟨rfl,rfl⟩,?_,?_,?_⟩⟩
 ·rintro i c M _ ⟨_,rfl⟩;exact hC p c r
 ·rintro i c d M k hd ⟨rfl,rfl⟩;obtain rfl:=o i d k hd;refine hw i _ _ k ⟨nbL rfl,fun j l M=>l=(Iv i).flatMap (fun i=>[g i,h i])++[g i,h i].take j/\M=ay f p (.lst l),⟨by simp,rfl⟩,fun _ _ _ _ _=>rfl,?_,?_⟩
  ·rintro j l e M s m ⟨rfl,rfl⟩;have s:j<2:=s;have m:[a i,b i][j]?=LA e:=m;rcases(():j=0\/j=1)with rfl|rfl
   ·cases m;exact u i _ _ k ⟨_,.refl,ai,by simp,by rw[a9]⟩
   ·cases m;exact v i _ _ k ⟨_,.refl,ai,by simp,by rw[a9]⟩
  ·rintro l M ⟨rfl,rfl⟩;refine⟨?_,rfl⟩;rw[JE,List.flatMap_append];simp
 ·rintro c M ⟨rfl,rfl⟩;exact x p r
inductive Cn_twice_area(u v:D)(M:MH)(Q:DK):Prop
 |mk (t b X Y:Int) (ws:List Wl) (p:Addr) (r:List Nat) (_:u=.tup (ws.map (rwl t b X Y))) (_:v=.ref p) (_:M p=LA (.lst (r.map fun g:Nat=>D.int (g:Int)))) (_:Scl t b X Y) (_:(∀w∈ws,Un5 w)) (_:ws.length<=40) (_:r.length<=80) (_:(∀g∈r,g<2*ws.length)) (_:∀tot B:Int,0<B->B<=10^52->Bd 1000 tot->(tot:Rat)=(r.map (arT t b X Y ws)).sum*(B:Rat)->Q (.tup [.int tot,.int B]) M)
theorem pI(T:Tx K mg):Cal P w K mg base 3 "twice_area" (sD2 Cn_twice_area):=by
 refine bE (k:=2) T.f_twice_area aR fun f cdv A outer s H E V=>⟨_,(aj (eY 2 aR.nd (CScope.of (xs:=["face"]) (js:=[0]) rfl) rfl (aV (dv 1)) (fun _ _ _ _=>cX) (fun _ _ _ _=>(ao (cw T).m V (ae (dv 1) (ae (dv 0) ag))))) (aj (az 3 aR.nd (ao (fW T).m V (ae (zb (CScope.of (xs:=["way","corner"]) (js:=[]) rfl) rfl (aV (dv 2)) (fun _ _ _ _=>(aV (dv 0))) (fun _ _ _ _=>(ax (dv 1) af))) ag))) (aj (az 4 aR.nd (ao (fW T).m V (ae (zb (CScope.of (xs:=["way","corner"]) (js:=[]) rfl) rfl (aV (dv 2)) (fun _ _ _ _=>(aV (dv 0))) (fun _ _ _ _=>(ax (dv 1) af))) ag))) (aj (az 5 aR.nd af) (aj (bX IG rfl (aV (dv 2)) (bJ rfl (aC (bJ rfl (aC (aA 6 aR.nd) (aC (aA 7 aR.nd) ba))) (aC (bJ rfl (aC (aA 8 aR.nd) (aC (aA 9 aR.nd) ba))) ba))) (aj (ya 5 aR.nd D7 (aw aG (ao (fP T).m V (ae (dv 6) (ae (dv 3) ag))) (ao (fP T).m V (ae (dv 9) (ae (dv 4) ag))))) (aq (ya 5 aR.nd DM (aw aG (ao (fP T).m V (ae (dv 8) (ae (dv 3) ag))) (ao (fP T).m V (ae (dv 7) (ae (dv 4) ag)))))))) (aq (aD (aF (ae (dv 5) (ae (aw aG (dv 3) (dv 4)) ag)))))))))),fun _ _ M Q h=>?_⟩;obtain⟨t,b,X,Y,ws,p,r,rfl,rfl,hp,S,hU,f1,g1,V,k⟩:=h;refine⟨_,rfl,_,hp,comp_map (fun j=>rwl t b X Y (fw ws ((r[j]?).getD 0))) (by show(r.map fun g:Nat=>D.int (g:Int)).length<=1000000;simp;omega) (fun q ys hq=>by show(ay M q _) p=_;rw[ak (av hp hq)];exact hp) ?_ (fun O x0=>?_)⟩
 ·intro j d M6 hj hd sb;have hd:(r.map fun g:Nat=>D.int (g:Int))[j]?=LA d:=hd;rw[Ie]at hd;cases C:r[j]? with
  |none=>rw[C]at hd;cases hd
  |some g=>
   rw[C]at hd
   cases hd
   exact⟨_,rfl,fun K hK=>⟨_,rfl,_,rfl,t,b,X,Y,ws,g,rfl,rfl,V g (Il C),(),hK _ .refl⟩⟩
 have e1:(Iv (r.map fun g:Nat=>D.int (g:Int)).length).map (fun j=>rwl t b X Y (fw ws ((r[j]?).getD 0)))=r.map fun g=>rwl t b X Y (fw ws g):=by
  rw[Ii];apply List.ext_getElem
  ·simp
  ·intro i h1 h2;simp at h1;simp[h1]
 dsimp only;rw[e1];have I:(ay M O (.lst (r.map fun g=>rwl t b X Y (fw ws g)))) O=LA (.lst (r.map fun g=>rwl t b X Y (fw ws g))):=ai;have m0:SD.Sub M (ay M O (.lst (r.map fun g=>rwl t b X Y (fw ws g)))):=.new x0 .refl;generalize ay M O (.lst (r.map fun g=>rwl t b X Y (fw ws g)))=M1 at I m0 ⊢;have e0:(r.map fun g=>rwl t b X Y (fw ws g)).length=r.length:=by simp
 refine⟨_,rfl,_,I,nF (fun i=>Lj (LW t b X 1 (fa ws ((r[i]?).getD 0)).1) (LW t b Y 1 (fa ws ((r[i]?).getD 0)).2)) (fun i=>Lj (LW t b X 1 (fb ws ((r[i]?).getD 0)).1) (LW t b Y 1 (fb ws ((r[i]?).getD 0)).2)) (fun i=>Lk (LW t b X 1 (fa ws ((r[i]?).getD 0)).1)) (fun i=>Lk (LW t b X 1 (fb ws ((r[i]?).getD 0)).1)) (by show(r.map fun g=>rwl t b X Y (fw ws g)).length<=1000;omega) (fun q ys hq=>by show(ay M1 q _) O=_;rw[ak (av I hq)];exact I) (fun i d J hd=>?_) (fun i M R J h=>⟨_,rfl,_,rfl,h⟩) (fun i M K J h=>⟨_,rfl,_,rfl,h⟩) (fun i M K J h=>⟨_,rfl,_,rfl,h⟩) (fun px n0=>?_)⟩
 ·have hd:(r.map fun g=>rwl t b X Y (fw ws g))[i]?=LA d:=hd;rw[Ie]at hd;cases C:r[i]? with
  |none=>rw[C]at hd;cases hd
  |some g=>
   rw[C]at hd
   cases hd
   rfl
 obtain⟨l,rfl⟩:∃l:Nat,b=(l:Int):=⟨b.toNat,by have:=S.b0;omega⟩;have a0:0<l:=by have:=S.b0;omega
 have dv:∀(Z x:Int),(LW t (l:Int) Z 1 x).den ∣ l:=fun Z x=>by
  have h:=Al (n:=x*t+Z*1) (d:=(l:Int)*1) ()
  rw[Int.mul_one (l:Int)]at h
  unfold LW
  rw[Int.mul_one (l:Int)]
  exact Int.ofNat_dvd.mp h
 have eX:∀(Z:Int) (F:Vc->Int) (n:Nat),((Iv n).flatMap fun i=>[Lk (LW t (l:Int) Z 1 (F (fa ws ((r[i]?).getD 0)))),Lk (LW t (l:Int) Z 1 (F (fb ws ((r[i]?).getD 0))))])=((Iv n).flatMap fun i=>[LW t (l:Int) Z 1 (F (fa ws ((r[i]?).getD 0))),LW t (l:Int) Z 1 (F (fb ws ((r[i]?).getD 0)))]).map Lk:=fun Z F n=>by rw[List.map_flatMap];rfl
 have c0:∀(Z:Int) (F:Vc->Int) (n:Nat) (q:Rat),q∈((Iv n).flatMap fun i=>[LW t (l:Int) Z 1 (F (fa ws ((r[i]?).getD 0))),LW t (l:Int) Z 1 (F (fb ws ((r[i]?).getD 0)))])->q.den ∣ l:=fun Z F n q hq=>by
  obtain⟨i,_,J⟩:=List.mem_flatMap.mp hq;rcases J3.mp J with z|z
  ·rw[z];exact dv _ _
  ·rw[show q=_ from by simpa using z];exact dv _ _
 have d0:∀(Z:Int) (F:Vc->Int) (c:Nat),(∀q∈((Iv r.length).flatMap fun i=>[LW t (l:Int) Z 1 (F (fa ws ((r[i]?).getD 0))),LW t (l:Int) Z 1 (F (fb ws ((r[i]?).getD 0)))]),q.den ∣ c)->∀(i g:Nat),r[i]?=LA g->(LW t (l:Int) Z 1 (F (fa ws g))).den ∣ c/\(LW t (l:Int) Z 1 (F (fb ws g))).den ∣ c:=fun Z F c h i g C=>by
  have J:i<r.length:=(Iu.mp C).1
  refine⟨h _ (List.mem_flatMap.mpr ⟨i,IZ.mpr J,?_⟩),h _ (List.mem_flatMap.mpr ⟨i,IZ.mpr J,?_⟩)⟩
  ·rw[C];simp
  ·rw[C];simp
 have o0:l<=10^26:=by have:=S.b1;omega
 refine⟨px,_,l,rfl,(by rw[ai];dsimp only;rw[e0];exact congrArg (fun z=>LA (MO.lst z)) (eX X (fun v=>v.1) r.length)),a0,o0,c0 X (fun v=>v.1) _,fun L i1 y0 z0=>?_⟩;have U:∀{o},(ay M1 px o) O=LA (.lst (r.map fun g=>rwl t (l:Int) X Y (fw ws g))):=fun{o}=>by rw[ak (av I n0)];exact I
 have a1:∀{o},SD.Sub M (ay M1 px o):=fun{o}=>.new n0 m0;refine⟨_,rfl,_,U,nF (fun i=>Lj (LW t (l:Int) X 1 (fa ws ((r[i]?).getD 0)).1) (LW t (l:Int) Y 1 (fa ws ((r[i]?).getD 0)).2)) (fun i=>Lj (LW t (l:Int) X 1 (fb ws ((r[i]?).getD 0)).1) (LW t (l:Int) Y 1 (fb ws ((r[i]?).getD 0)).2)) (fun i=>Lk (LW t (l:Int) Y 1 (fa ws ((r[i]?).getD 0)).2)) (fun i=>Lk (LW t (l:Int) Y 1 (fb ws ((r[i]?).getD 0)).2)) (by show(r.map fun g=>rwl t (l:Int) X Y (fw ws g)).length<=1000;omega) (fun q ys hq=>by show(ay _ q _) O=_;rw[ak (av U hq)];exact U) (fun i d J hd=>?_) (fun i M R J h=>⟨_,rfl,_,rfl,h⟩) (fun i M K J h=>⟨_,rfl,_,rfl,h⟩) (fun i M K J h=>⟨_,rfl,_,rfl,h⟩) (fun py r0=>?_)⟩
 ·have hd:(r.map fun g=>rwl t (l:Int) X Y (fw ws g))[i]?=LA d:=hd;rw[Ie]at hd;cases C:r[i]? with
  |none=>rw[C]at hd;cases hd
  |some g=>
   rw[C]at hd
   cases hd
   rfl
 refine⟨py,_,l,rfl,(by rw[ai];dsimp only;rw[e0];exact congrArg (fun z=>LA (MO.lst z)) (eX Y (fun v=>v.2) r.length)),a0,o0,c0 Y (fun v=>v.2) _,fun N j1 c1 d1=>?_⟩;have ux:=d0 X (fun v=>v.1) L z0;have uy:=d0 Y (fun v=>v.2) N d1;have s0:∀{o o'},py≠O->(ay (ay M1 px o) py o') O=LA (.lst (r.map fun g=>rwl t (l:Int) X Y (fw ws g))):=fun ne=>by rw[ak ne.symm];exact U
 have t0:py≠O:=(av U r0).symm;refine⟨_,rfl,_,s0 t0,?_⟩;have f0:=SD.Sub.new (o:=MO.lst ((Iv (r.map fun g=>rwl t (l:Int) X Y (fw ws g)).length).flatMap fun i=>[Lk (LW t (l:Int) Y 1 (fa ws ((r[i]?).getD 0)).2),Lk (LW t (l:Int) Y 1 (fb ws ((r[i]?).getD 0)).2)])) r0 a1;dsimp only at f0 ⊢;have u0:=s0 (o:=MO.lst ((Iv (r.map fun g=>rwl t (l:Int) X Y (fw ws g)).length).flatMap fun i=>[Lk (LW t (l:Int) X 1 (fa ws ((r[i]?).getD 0)).1),Lk (LW t (l:Int) X 1 (fb ws ((r[i]?).getD 0)).1)])) (o':=MO.lst ((Iv (r.map fun g=>rwl t (l:Int) X Y (fw ws g)).length).flatMap fun i=>[Lk (LW t (l:Int) Y 1 (fa ws ((r[i]?).getD 0)).2),Lk (LW t (l:Int) Y 1 (fb ws ((r[i]?).getD 0)).2)])) t0;generalize ay (ay M1 px (MO.lst ((Iv (r.map fun g=>rwl t (l:Int) X Y (fw ws g)).length).flatMap fun i=>[Lk (LW t (l:Int) X 1 (fa ws ((r[i]?).getD 0)).1),Lk (LW t (l:Int) X 1 (fb ws ((r[i]?).getD 0)).1)]))) py (MO.lst ((Iv (r.map fun g=>rwl t (l:Int) X Y (fw ws g)).length).flatMap fun i=>[Lk (LW t (l:Int) Y 1 (fa ws ((r[i]?).getD 0)).2),Lk (LW t (l:Int) Y 1 (fb ws ((r[i]?).getD 0)).2)]))=M3 at f0 u0 ⊢;have y:(0:Int)<(L:Int)/\(L:Int)<=10^26:=by have:=Nat.le_of_dvd a0 y0;omega
 have u:(0:Int)<(N:Int)/\(N:Int)<=10^26:=by have:=Nat.le_of_dvd a0 c1;omega
 refine⟨fun i δ M'=>M'=M3/\∃(G:Int) (o6 o7 o8 o9:Option D),δ=[LA (.tup (ws.map (rwl t (l:Int) X Y))),LA (.ref p),LA (.ref O),LA (.int (L:Int)),LA (.int (N:Int)),LA (.int G),o6,o7,o8,o9]/\(G:Rat)=((r.take i).map (arT t (l:Int) X Y ws)).sum*(((L:Int)*(N:Int):Int):Rat)/\Bd (600+2*i) G,⟨rfl,0,_,_,_,_,rfl,(by simp),(by show(0:Int).natAbs<2^(600+2*0);decide)⟩,fun i δ M' _ z=>by obtain⟨rfl,_⟩:=z;exact u0,?_,?_⟩
 ·rintro i d δ M' J hd ⟨rfl,G,o6,o7,o8,o9,rfl,et,bt⟩;have hd:(r.map fun g=>rwl t (l:Int) X Y (fw ws g))[i]?=LA d:=hd;rw[Ie]at hd;cases C:r[i]? with
  |none=>rw[C]at hd;cases hd
  |some g=>
   rw[C]at hd
   cases hd
   have hg:=V g (Il C)
   obtain⟨_,_,w3⟩:=aW (ws:=ws) (k:=((g/2:Nat):Int)) () ()
   have W:=hU _ w3
   have W6:∀{z:Int},(0<=z/\z<=20)->(-(10^6)<=z/\z<=10^6):=fun{z} h=>()
   have one:(0:Int)<1/\(1:Int)<=10^6:=⋯
   have rg:((0<=(fa ws g).1/\(fa ws g).1<=20)/\(0<=(fa ws g).2/\(fa ws g).2<=20))/\((0<=(fb ws g).1/\(fb ws g).1<=20)/\(0<=(fb ws g).2/\(fb ws g).2<=20)):=by
    unfold fa fb fw;by_cases h:g%2=0
    ·rw[LG h];exact⟨⟨W.a,W.b⟩,W.c,W.d⟩
    ·rw[LF h];exact⟨⟨W.c,W.d⟩,W.a,W.b⟩
   have g0:LX 200 (LW t (l:Int) X 1 (fa ws g).1):=S.bx one (W6 rg.1.1)
   have i0:LX 200 (LW t (l:Int) Y 1 (fa ws g).2):=S.by' one (W6 rg.1.2)
   have k0:LX 200 (LW t (l:Int) X 1 (fb ws g).1):=S.bx one (W6 rg.2.1)
   have l0:LX 200 (LW t (l:Int) Y 1 (fb ws g).2):=S.by' one (W6 rg.2.2)
   have tb:∀{q:Rat} {B:Int},LX 200 q->0<B->B<=10^26->Bd 300 (q.num*B.fdiv (q.den:Int)):=fun{q B} h h0 h1=>by
    have bB:Bd 100 B:=by show B.natAbs<2^100;omega
    have dB:(B.fdiv (q.den:Int)).natAbs<=B.natAbs:=by rw[J8 _ ()];exact Int.natAbs_ediv_le_natAbs _ _
    exact h.1.mul (bB.of_le dB)
   have m6:∀{z:Int},Bd 300 z->Bd 1000000 z:=fun h=>h.mono ⋯
   refine⟨_,rfl,rfl,_,_,rfl,_,rfl,rfl,_,_,rfl,_,_,rfl,rfl,_,_,rfl,_,rfl,rfl,_,_,rfl,_,_,rfl,rfl,rfl,?_⟩
   refine⟨G,rfl,_,rfl,_,rfl,LW t (l:Int) X 1 (fa ws g).1,(L:Int),rfl,rfl,g0,y.1,y.2,_,rfl,_,rfl,LW t (l:Int) Y 1 (fb ws g).2,(N:Int),rfl,rfl,l0,u.1,u.2,eQ (m6 (tb g0 y.1 y.2)) (m6 (tb l0 u.1 u.2)),_,rfl,?_⟩
   refine⟨_,rfl,_,rfl,_,rfl,LW t (l:Int) X 1 (fb ws g).1,(L:Int),rfl,rfl,k0,y.1,y.2,_,rfl,_,rfl,LW t (l:Int) Y 1 (fa ws g).2,(N:Int),rfl,rfl,i0,u.1,u.2,eQ (m6 (tb k0 y.1 y.2)) (m6 (tb i0 u.1 u.2)),_,rfl,?_⟩
   refine⟨rfl,_,_,_,_,_,rfl,?_,?_⟩
   ·rw[Kf,C,Option.toList_some,IK,List.sum_append];have ex:=ux i g C;have ey:=uy i g C;have t1:=va (LW t (l:Int) X 1 (fa ws g).1) (L:Int) (Int.ofNat_dvd.mpr ex.1);have t2:=va (LW t (l:Int) Y 1 (fb ws g).2) (N:Int) (Int.ofNat_dvd.mpr ey.2);have t3:=va (LW t (l:Int) X 1 (fb ws g).1) (L:Int) (Int.ofNat_dvd.mpr ex.2);have t4:=va (LW t (l:Int) Y 1 (fa ws g).2) (N:Int) (Int.ofNat_dvd.mpr ey.1);dsimp only;rw[K6,Ki,et,J4,J4,t1,t2,J4,t3,t4];simp only[Ih,JF,Jm,List.sum_nil];unfold arT;grind
   ·have p1:=((tb g0 y.1 y.2).mul (tb l0 u.1 u.2)).mono (():300+300<=600+2*i);have p2:=((tb k0 y.1 y.2).mul (tb i0 u.1 u.2)).mono (():300+300<=600+2*i+1);exact((bt.add p1).sub p2).mono ()
 ·rintro δ M' ⟨rfl,G,o6,o7,o8,o9,rfl,et,bt⟩;have e:r.take (r.map fun g=>rwl t (l:Int) X Y (fw ws g)).length=r:=JH (by simp);rw[e]at et;have v0:Bd 100 (L:Int):=by show(L:Int).natAbs<2^100;omega
  have w0:Bd 100 (N:Int):=by show(N:Int).natAbs<2^100;omega
  have pp:=Ip y.1 u.1
  have pl:(L:Int)*(N:Int)<=10^52:=by
   have h1:=Int.mul_le_mul y.2 u.2 (J9 u.1) (show(0:Int)<=10^26 by decide)
   exact Int.le_trans h1 ⋯
  exact⟨_,rfl,_,rfl,_,rfl,eQ (v0.mono ⋯) (w0.mono ⋯),nbL rfl,⟨M,f0,k G _ pp pl (bt.mono (by rw[e0];first|omega|(dsimp only;omega)|(simp only[Ii]at *;omega))) et⟩⟩
theorem cM:FnScope ["plot","outers","inners","ring"] ["plot"] (au eG):=by walk_at "sc"
inductive Cn_outer_and_inner(u:D)(M:MH)(Q:DK):Prop
 |mk (t b X Y:Int) (ws:List Wl) (_:u=.tup (ws.map (rwl t b X Y))) (_:Scl t b X Y) (_:ws.length<=40) (_:(∀w∈ws,Un5 w)) (_:PF ws) (_:∀(M':MH) (lo li:Addr) (ps qs:List Addr) (rs:List (List Nat)),SD.Sub M M'->Rgs ws (2*ws.length) rs->M' lo=LA (.lst (ps.map D.ref))->M' li=LA (.lst (qs.map D.ref))->RL M' ps (rs.filter (aP ws))->RL M' qs (rs.filter fun r=>!aP ws r)->M lo=LB->M li=LB->(∀p∈ps++qs,M p=LB)->Q (.tup [.ref lo,.ref li]) M')
theorem jg(T:Tx K mg):Cal P w K mg base 8 "outer_and_inner" (sD1 Cn_outer_and_inner):=by
 refine f7 (k:=7) T.f_outer_and_inner cM fun f cdv A outer s H E hr=>⟨_,(aj (fQ 1 2 rfl cM.nd (ae (bI ag) (ae (bI ag) ag))) (aj (bX IG rfl (aV (ao (sX T).m hr (ae (dv 0) ag))) (aA 3 cM.nd) (aq (bc (aI (oS hr.units) (ax (ao (pI T).m hr (ae (dv 0) (ae (dv 3) ag))) af) af) (aq (cC (bo (dv 1) (ae (dv 3) ag)))) (aq (cC (bo (dv 2) (ae (dv 3) ag))))))) (aq (aD (aF (ae (dv 1) (ae (dv 2) ag))))))),fun _ M Q h=>?_⟩;obtain⟨t,b,X,Y,ws,rfl,S,I,hU,hF,k⟩:=h;refine⟨nbL rfl,fun x L=>⟨nbL rfl,fun n N=>?_⟩⟩;have q:x≠n:=av ai N;have J:M n=LB:=by have h:=N;rw[ak q.symm]at h;exact h
 refine⟨_,_,rfl,?_⟩;refine⟨_,rfl,t,b,X,Y,ws,rfl,S,I,hU,hF,fun y lr pr C O F a0 R c0 g0=>?_⟩;have d0:y x=LA (.lst []):=O _ _ (by rw[ak q,ai]);have e0:y n=LA (.lst []):=O _ _ ai;have h0:SD.Sub M y:=SD.Sub.trans (.new N (.new L .refl)) O;have i0:lr≠x:=fun z=>by subst z;rw[ak q,ai]at F;cases F
 have k0:lr≠n:=fun z=>by subst z;rw[ai]at F;cases F
 have pn:∀p∈pr,p≠x/\p≠n/\M p=LB:=fun p g=>by
  have h:=(g0 p g).2
  have a:p≠n:=fun z=>by subst z;rw[ai]at h;cases h
  rw[ak a]at h
  have c:p≠x:=fun z=>by subst z;rw[ai]at h;cases h
  rw[ak c]at h
  exact⟨c,a,h⟩
 have l0:=oT R;have m0:=c0.len;have f0:=ko hU hF (Ic _) R;refine⟨_,a0,?_⟩;refine⟨fun i δ G=>∃(ps qs:List Addr) (o3:Option D),δ=[LA (.tup (ws.map (rwl t b X Y))),LA (.ref x),LA (.ref n),o3]/\(∀c,c≠x->c≠n->G c=y c)/\G x=LA (.lst (ps.map D.ref))/\G n=LA (.lst (qs.map D.ref))/\RL y ps ((C.take i).filter (aP ws))/\RL y qs ((C.take i).filter fun r=>!aP ws r)/\ps.length<=i/\qs.length<=i/\∀p∈ps++qs,p∈pr,⟨[],[],_,rfl,fun _ _ _=>rfl,d0,e0,.nil,.nil,Ic _,Ic _,fun p g=>by cases g⟩,fun i δ G _ z=>by obtain⟨_,_,_,_,z,_⟩:=z;show G lr=_;rw[z lr i0 k0];exact a0,?_,?_⟩
 ·rintro i d δ G hi hd ⟨ps,qs,o3,rfl,l,u,v,U,R2,l1,l2,j⟩;have hi:i<pr.length:=by have:i<(pr.map D.ref).length:=hi;simpa using this
  have hd:(pr.map D.ref)[i]?=LA d:=hd;rw[Ie,Ia hi]at hd;cases hd;obtain⟨r,er,V⟩:=c0.get hi;have W:pr[i]∈pr:=Jn hi;obtain⟨p1,p2,p3⟩:=pn _ W;have A:=f0 r (Il er);refine⟨_,rfl,_,rfl,t,b,X,Y,ws,pr[i],r,rfl,rfl,(by rw[l _ p1 p2];exact V),S,hU,I,by have:=A.len;omega,A.lt,fun n0 B hB o0 bt et=>?_⟩;refine⟨_,rfl,trivial,_,rfl,?_⟩;have sg:=xG hU hF A.rng S.t0 S.b0 hB et;have Z:=j9 (aP ws) C er;have f2:=j9 (fun r=>!aP ws r) C er;refine bL (fun h=>?_) (fun h=>?_)
  ·have o:aP ws r=LC:=by rw[<-sg];exact h
   rw[o]at Z f2;rw[LG rfl]at Z;rw[LF ⋯,Jv]at f2;refine⟨_,rfl,x,_,rfl,u,_,rfl,_,_,rfl,u,(by rw[Ii];omega),?_⟩;refine⟨ps++[pr[i]],qs,_,rfl,fun c a c2=>by rw[ak a];exact l c a c2,by rw[ai,IK];rfl,by rw[ak q.symm];exact v,by rw[Z];exact U.snoc V,by rw[f2];exact R2,by simp;omega,(),fun p g=>?_⟩;rcases IL.mp g with z|z
   ·rcases IL.mp z with z|z
    ·exact j p (IL.mpr (.inl z))
    ·rw[show p=pr[i] by simpa using z];exact W
   ·exact j p (IL.mpr (.inr z))
  ·have o:aP ws r=LD:=by rw[<-sg];simpa using h
   rw[o]at Z f2;rw[LF ⋯,Jv]at Z;rw[LG (show(!LD)=LC from rfl)]at f2;refine⟨_,rfl,n,_,rfl,v,_,rfl,_,_,rfl,v,(by rw[Ii];omega),?_⟩;refine⟨ps,qs++[pr[i]],_,rfl,fun c a c2=>by rw[ak c2];exact l c a c2,by rw[ak q];exact u,by rw[ai,IK];rfl,by rw[Z];exact U,by rw[f2];exact R2.snoc V,(),by simp;omega,fun p g=>?_⟩;rcases IL.mp g with z|z
   ·exact j p (IL.mpr (.inl z))
   ·rcases IL.mp z with z|z
    ·exact j p (IL.mpr (.inr z))
    ·rw[show p=pr[i] by simpa using z];exact W
 ·rintro δ G ⟨ps,qs,o3,rfl,l,u,v,U,R2,l1,l2,j⟩;have et:C.take (pr.map D.ref).length=C:=JH (by rw[Ii];omega);have U:RL y ps ((C.take (pr.map D.ref).length).filter (aP ws)):=U;have R2:RL y qs ((C.take (pr.map D.ref).length).filter fun r=>!aP ws r):=R2;rw[et]at U R2;have kp:∀p∈ps++qs,G p=y p:=fun p g=>let z:=pn p (j p g);l p z.1 z.2.1
  refine⟨_,rfl,_,rfl,nbL rfl,rtn (k G x n ps qs C (fun a o h=>?_) R u v (U.mono fun p g o e=>by rw[kp p (IL.mpr (.inl g))];exact e) (R2.mono fun p g o e=>by rw[kp p (IL.mpr (.inr g))];exact e) L J fun p g=>(pn p (j p g)).2.2)⟩;rw[l a (fun z=>by subst z;rw[L]at h;cases h) (fun z=>by subst z;rw[J]at h;cases h)];exact h0 _ _ h
theorem sZ:FnScope ["one","other"] ["one","other"] (au nh):=by walk_at "sc"
inductive Cn_is_less(x y:D)(M:MH)(Q:DK):Prop
 |mk (q r:Rat) (_:x=Lk q) (_:y=Lk r) (_:LX 100000 q) (_:LX 100000 r) (_:Q (.bl (decide (q<r))) M)
theorem nR(T:Tx K mg):Cal P w K mg base 1 "is_less" (sD2 Cn_is_less):=by refine bE (k:=0) T.f_is_less sZ fun f cdv A outer s H E c=>⟨_,(aq (aD (c8 (dP c.units) (aw aG (ax (dv 0) af) (ax (dv 1) af)) (aw aG (ax (dv 1) af) (ax (dv 0) af))))),fun _ _ M Q h=>?_⟩;obtain⟨q,r,rfl,rfl,a,b,k⟩:=h;refine⟨_,rfl,_,rfl,_,rfl,_,rfl,eQ (a.1.mono ⋯) (b.2.mono ⋯),?_⟩;refine⟨_,rfl,_,rfl,_,rfl,_,rfl,eQ (b.1.mono ⋯) (a.2.mono ⋯),trivial,?_⟩;dsimp only;rw[Ma.EW];exact rtn k
theorem qq:FnScope ["one","other"] ["one","other"] (au mJ):=by walk_at "sc"
inductive Cn_is_ahead(x y:D)(M:MH)(Q:DK):Prop
 |mk (a b c d:Rat) (_:x=Lj a b) (_:y=Lj c d) (_:LX 100000 a) (_:LX 100000 b) (_:LX 100000 c) (_:LX 100000 d) (_:Q (.bl (decide (a<c\/a=c/\b<d))) M)
theorem cf(T:Tx K mg):Cal P w K mg base 2 "is_ahead" (sD2 Cn_is_ahead):=by
 refine bE (k:=1) T.f_is_ahead qq fun f cdv A outer s H E g=>⟨_,(aj (bc (aI (b6 g.units) (ax (dv 0) af) (ax (dv 1) af)) (aq (aD (ao (nR T).m g (ae (ax (dv 0) af) (ae (ax (dv 1) af) ag))))) aN) (aq (aD (ao (nR T).m g (ae (ax (dv 0) af) (ae (ax (dv 1) af) ag)))))),fun _ _ M Q h=>?_⟩;obtain⟨a,b,c,d,rfl,rfl,i,j,l,n,k⟩:=h;refine⟨_,rfl,_,rfl,_,rfl,_,rfl,_,_,Pd.of rfl,Pd.of rfl,rfl,rfl,?_⟩;rw[Ma.tR];refine⟨_,rfl,?_⟩;refine bL (fun h=>?_) (fun h=>?_)
 ·have e:a=c:=by simpa using h
  subst e;refine⟨_,rfl,_,rfl,_,rfl,_,rfl,b,d,rfl,rfl,j,n,?_⟩
  have z:(a<a\/a=a/\b<d)↔b<d:=by
   have:=Rat.lt_irrefl (a:=a)
   simp[this]
  rw[decide_eq_decide.mpr z]at k;exact rtn k
 ·have e:¬a=c:=by simpa using h
  refine⟨_,rfl,_,rfl,_,rfl,_,rfl,a,c,rfl,rfl,i,l,?_⟩;have z:(a<c\/a=c/\b<d)↔a<c:=by simp[e]
  rw[decide_eq_decide.mpr z]at k;exact rtn k
theorem mU:FnScope ["one","other"] ["one","other"] (au i9):=by walk_at "sc"
inductive Cn_earlier_of(x y:D)(M:MH)(Q:DK):Prop
 |mk (c d g h:Rat) (_:x=Lj c d) (_:y=Lj g h) (_:LX 100000 c) (_:LX 100000 d) (_:LX 100000 g) (_:LX 100000 h) (_:∀s:Rat×Rat,s=(if LY c d g h then(c,d)else(g,h))->Q (Lj s.1 s.2) M)
theorem iN(T:Tx K mg):Cal P w K mg base 3 "earlier_of" (sD2 Cn_earlier_of):=by
 refine bE (k:=2) T.f_earlier_of mU fun f cdv A outer s H E b=>⟨_,(aq (aD (gC (cZ (ao (cf T).m b (ae (dv 0) (ae (dv 1) ag)))) (dv 0) (dv 1)))),fun _ _ M Q h=>?_⟩;obtain⟨c,d,g,a,rfl,rfl,e,i,j,l,k⟩:=h;refine⟨_,rfl,_,rfl,c,d,g,a,rfl,rfl,e,i,j,l,_,rfl,?_⟩;refine bL (fun h=>?_) (fun h=>?_)
 ·have z:LY c d g a:=by simpa[LY]using h
  have:=k (c,d) (by rw[LG z]);exact⟨_,rfl,rtn this⟩
 ·have z:¬LY c d g a:=by simpa[LY]using h
  have:=k (g,a) (by rw[LF z]);exact⟨_,rfl,rtn this⟩
theorem cJ:FnScope ["plot","ring","first","face"] ["plot","ring"] (au gG):=by walk_at "sc"
inductive Cn_first_corner(u v:D)(M:MH)(Q:DK):Prop
 |mk (t b X Y:Int) (ws:List Wl) (p:Addr) (r:List Nat) (_:u=.tup (ws.map (rwl t b X Y))) (_:v=.ref p) (_:M p=LA (.lst (r.map fun g:Nat=>D.int (g:Int)))) (_:Scl t b X Y) (_:(∀w∈ws,Un5 w)) (_:ws.length<=40) (_:0<r.length) (_:(∀g∈r,g<2*ws.length)) (_:Q (gsp t b X Y (fc ws r)) M)
theorem lD(T:Tx K mg):Cal P w K mg base 4 "first_corner" (sD2 Cn_first_corner):=by
 refine bE (k:=3) T.f_first_corner cJ fun f cdv A outer s H E j=>⟨_,(aj (az 2 cJ.nd (ax (ao (cw T).m j (ae (dv 0) (ae (ax (dv 1) af) ag))) af)) (aj (bX IG rfl (aV (dv 1)) (aA 3 cJ.nd) (aq (az 2 cJ.nd (ao (iN T).m j (ae (dv 2) (ae (ax (ao (cw T).m j (ae (dv 0) (ae (dv 3) ag))) af) ag)))))) (aq (aD (dv 2))))),fun _ _ M Q h=>?_⟩;obtain⟨t,b,X,Y,ws,p,r,rfl,rfl,v,S,F,G,c,j,k⟩:=h
 obtain⟨n,I,x⟩:∃n I,r=n::I:=by
  cases r with
  |nil=>simp at c
  |cons a l=>exact⟨a,l,rfl⟩
 have q:∀{z:Vc},B20 z->LX 100000 (LW t b X 1 z.1)/\LX 100000 (LW t b Y 1 z.2):=fun{z} h=>by
  have one:(0:Int)<1/\(1:Int)<=10^6:=⋯
  exact⟨(S.bx one (by have:=h.1;omega)).mono ⋯,(S.by' one (by have:=h.2;omega)).mono ⋯⟩
 refine⟨_,rfl,_,rfl,_,_,v,(show atI _ ((0:Nat):Int)=LA (.int (n:Int))from bZ (by rw[x];rfl)),t,b,X,Y,ws,n,rfl,rfl,j n (by rw[x];simp),(),_,rfl,?_⟩;refine⟨_,rfl,_,v,?_⟩;refine⟨fun i δ u=>u=M/\∃y:Option D,δ=[LA (.tup (ws.map (rwl t b X Y))),LA (.ref p),LA (gsp t b X Y (fcI ws r i)),y],⟨rfl,_,by rw[x];rfl⟩,fun i δ u _ z=>by obtain⟨rfl,_⟩:=z;exact v,?_,?_⟩
 ·rintro i d δ u o hd ⟨rfl,y,rfl⟩;have o:i<r.length:=by have:i<(r.map fun g:Nat=>D.int (g:Int)).length:=o;simpa using this
  have hd:(r.map fun g:Nat=>D.int (g:Int))[i]?=LA d:=hd;rw[Ie,Ia o]at hd;cases hd;have J:=j r[i] (Jn o);have b1:=ot F j c i ();have B:=pg F J;refine⟨_,rfl,_,rfl,_,rfl,t,b,X,Y,ws,r[i],rfl,rfl,J,(),_,rfl,?_⟩;refine⟨_,_,_,_,rfl,rfl,(q b1).1,(q b1).2,(q B).1,(q B).2,fun s C=>?_⟩;have C:=C.trans (Gs (X:=X) (Y:=Y) S.t0 S.b0 b1 B);subst C;exact⟨rfl,_,by rw[qS (Ia o)];rfl⟩
 ·rintro δ u ⟨rfl,y,rfl⟩;have e:fcI ws r (r.map fun g:Nat=>D.int (g:Int)).length=fc ws r:=by rw[Ii];rfl
  refine⟨_,rfl,rtn ?_⟩;dsimp only;rw[e];exact k
theorem ck:FnScope ["row","spot","low","high","middle"] ["row","spot"] (au ic):=by walk_at "sc"
inductive Cn_place_among(x y:D)(M:MH)(Q:DK):Prop
 |mk (l:Addr) (t b X Y:Int) (ps:List Vc) (u:Vc) (_:x=.ref l) (_:y=gsp t b X Y u) (_:M l=LA (.lst (ps.map (gsp t b X Y)))) (_:Scl t b X Y) (_:ps.length<=200) (_:(∀p∈ps,B20 p)) (_:B20 u) (_:ps.Pairwise plt) (_:∀j:Nat,j<=ps.length->(∀i,i<j->plt (p0 ps i) u)->(∀i,j<=i->i<ps.length->¬plt (p0 ps i) u)->Q (.int (j:Int)) M)
theorem mT(T:Tx K mg):Cal P w K mg base 3 "place_among" (sD2 Cn_place_among):=by
 refine bE (k:=2) T.f_place_among ck fun f cdv A outer s H E v=>⟨_,(aj (fQ 2 3 rfl ck.nd (ae af (ae (aS eU rfl T.b_len eV (ae (dv 0) ag)) ag))) (aj (iW IG (aI (dP v.units) (dv 2) (dv 3)) (aj (az 4 ck.nd (aw eJ (aw aJ (dv 2) (dv 3)) af)) (aq (bc (cZ (ao (cf T).m v (ae (ax (dv 0) (dv 4)) (ae (dv 1) ag)))) (aq (az 2 ck.nd (aw aJ (dv 4) af))) (aq (az 3 ck.nd (dv 4))))))) (aq (aD (dv 2))))),fun _ _ M Q h=>?_⟩;obtain⟨l,t,b,X,Y,ps,u,rfl,rfl,x,S,O,F,o,y,k⟩:=h;have G:(ps.map (gsp t b X Y)).length=ps.length:=by simp
 refine⟨_,rfl,_,x,_,_,rfl,?_⟩;refine⟨fun m δ B=>B=M/\∃(g d:Nat) (C:Option D),δ=[LA (.ref l),LA (gsp t b X Y u),LA (.int (g:Int)),LA (.int (d:Int)),C]/\g<=d/\d<=ps.length/\(∀i,i<g->plt (p0 ps i) u)/\(∀i,d<=i->i<ps.length->¬plt (p0 ps i) u)/\m=d-g,⟨_,rfl,0,ps.length,_,by rw[G];rfl,JA _,Ic _,fun i d=>(),fun i I p=>(),rfl⟩,?_⟩;rintro m δ B ⟨rfl,g,d,C,rfl,I,p,a,c,R⟩;refine⟨_,rfl,_,rfl,trivial,_,rfl,?_⟩;refine bL (fun h=>?_) (fun h=>?_)
 ·have J:g<d:=by
   have:(g:Int)<(d:Int):=by simpa using h
   omega
  have n:Int.fdiv ((g:Int)+(d:Int)) 2=(((g+d)/2:Nat):Int):=by rw[J8 _ ⋯];omega
  have j:(g+d)/2<ps.length:=()
  refine⟨_,rfl,_,rfl,⟨⋯,bA ⋯⟩,?_⟩;dsimp only;rw[n];generalize U:(g+d)/2=q at j ⊢;have L:ps[q]?=LA (p0 ps q):=by unfold p0;simp[j]
  have r:=F _ (rD j);refine⟨_,rfl,_,rfl,_,_,x,bZ (by rw[Ie,L];rfl),_,rfl,_,_,_,_,rfl,rfl,(r.bx S).mono ⋯,(r.by' S).mono ⋯,(o.bx S).mono ⋯,(o.by' S).mono ⋯,_,rfl,?_⟩;have ah:=xI (X:=X) (Y:=Y) S.t0 S.b0 r o;refine bL (fun h=>?_) (fun h=>?_)
  ·have z:plt (p0 ps q) u:=ah.mp (by simpa[LY]using h);refine⟨_,rfl,d-(q+1),(),rfl,q+1,d,_,rfl,(),p,fun i N=>?_,c,rfl⟩;by_cases e:i=q
   ·subst e;exact z
   ·have:=Ka.mp y i q () j ();have e1:p0 ps i=ps[i]:=by unfold p0;simp[show i<ps.length by omega]
    have e2:p0 ps q=ps[q]:=by unfold p0;simp[j]
    rw[e2]at z;rw[e1];unfold plt at z this ⊢;omega
  ·have z:¬plt (p0 ps q) u:=fun w=>by
    have:=ah.mpr w
    simp[LY]at h this
    exact absurd this (by simpa using h)
   refine⟨_,rfl,q-g,(),rfl,g,q,_,rfl,(),(),a,fun i V W=>?_,rfl⟩;by_cases e:i=q
   ·subst e;exact z
   ·have:=Ka.mp y q i j () ();have e1:p0 ps i=ps[i]:=by unfold p0;simp[show i<ps.length by omega]
    have e2:p0 ps q=ps[q]:=by unfold p0;simp[j]
    rw[e2]at z;rw[e1];unfold plt at z this ⊢;omega
 ·have:g=d:=by
   have:¬(g:Int)<(d:Int):=by simpa using h
   omega
  subst this;(repeat (first|refine⟨_,rfl,?_⟩|refine⟨trivial,?_⟩|refine⟨_,_,rfl,?_⟩|refine⟨rfl,?_⟩|refine⟨nbL rfl,?_⟩))
  exact rtn (k g p a c)
theorem d6:FnScope ["spots","row","spot"] ["spots"] (au ib):=by walk_at "sc"
inductive Cn_ahead_first(x:D)(M:MH)(Q:DK):Prop
 |mk (l:Addr) (t b X Y:Int) (us:List Vc) (_:x=.ref l) (_:M l=LA (.lst (us.map (gsp t b X Y)))) (_:Scl t b X Y) (_:us.length<=200) (_:(∀p∈us,B20 p)) (_:us.Nodup) (_:∀(M':MH) (z:Addr) (ps:List Vc),SD.Sub M M'->M z=LB->M' z=LA (.lst (ps.map (gsp t b X Y)))->ps.Perm us->ps.Pairwise plt->Q (.ref z) M')
theorem ig(T:Tx K mg):Cal P w K mg base 4 "ahead_first" (sD1 Cn_ahead_first):=by
 refine f7 (k:=3) T.f_ahead_first d6 fun f cdv A outer s H E hr=>⟨_,(aj (az 1 d6.nd (bI ag)) (aj (bX IG rfl (aV (dv 0)) (aA 2 d6.nd) (aq (cC (j4 (dv 1) (ae (ao (mT T).m hr (ae (dv 1) (ae (dv 2) ag))) (ae (dv 2) ag)))))) (aq (aD (dv 1))))),fun _ M Q h=>?_⟩;obtain⟨l,t,b,X,Y,us,rfl,I,S,hn,V,nd,k⟩:=h;refine⟨nbL rfl,fun z C=>?_⟩;have J:l≠z:=av I C;refine⟨_,rfl,us.map (gsp t b X Y),(by show(ay M z _) l=_;rw[ak J];exact I),?_⟩;refine⟨fun i δ n=>∃(ps:List Vc) (L:Option D),δ=[LA (.ref l),LA (.ref z),L]/\SD.Sub M n/\n z=LA (.lst (ps.map (gsp t b X Y)))/\ps.Perm (us.take i)/\ps.Pairwise plt,⟨[],_,rfl,.new C .refl,ai,by simp,List.Pairwise.nil⟩,fun i δ n _ q=>let⟨_,_,_,x,_⟩:=q;x _ _ I,?_,?_⟩
 ·rintro i d δ n hi hd ⟨ps,L,rfl,x,g,r,F⟩;have hd:(us.map (gsp t b X Y))[i]?=LA d:=hd;rw[Ie]at hd;cases v:us[i]? with
  |none=>rw[v]at hd;cases hd
  |some u=>
   rw[v]at hd
   cases hd
   have iu:i<us.length:=(Iu.mp v).1
   have N:us[i]=u:=(Iu.mp v).2
   have W:=V u (Il v)
   have O:∀p∈ps,p∈us:=fun p y=>List.mem_of_mem_take (r.mem_iff.mp y)
   have B:∀p∈ps,B20 p:=fun p y=>V p (O p y)
   have a0:ps.length=i:=by rw[r.length_eq,Kt];omega
   have nu:u∉ps:=fun y=>by
    have:=r.mem_iff.mp y
    obtain⟨j,G,Z⟩:=List.getElem_of_mem this
    have R:j<i:=by rw[Kt]at G;omega
    rw[List.getElem_take]at Z
    have:=Ka.mp nd j i () iu R
    exact this (Z.trans N.symm)
   refine⟨_,rfl,z,_,rfl,g,_,rfl,_,rfl,z,t,b,X,Y,ps,u,rfl,rfl,g,S,(),B,W,F,fun j G a c=>?_⟩
   obtain⟨i1,i2⟩:=C6 F G a fun i h1 U=>Ai (B _ (rD U)) W (fun e=>nu (e▸rD U)) (c i h1 U)
   refine⟨_,rfl,_,_,j,rfl,g,by rw[Ii];exact G,by rw[Ii];omega,hZ ps j u,_,rfl,fun a o h=>?_,by rw[ai,qM],?_,i1⟩
   ·rw[ak (av h C)];exact x _ _ h
   ·rw[Kf,v];exact i2.trans ((List.Perm.cons u r).trans (List.perm_append_singleton u (us.take i)).symm)
 ·rintro δ n ⟨ps,L,rfl,x,g,r,F⟩;have e:us.take (us.map (gsp t b X Y)).length=us:=by rw[Ii,List.take_length]
  exact⟨_,rfl,n,.refl,k n z ps x C g (by rw[<-e];exact r) F⟩
theorem yu:FnScope ["wall","spot"] ["wall","spot"] (au vd):=by walk_at "sc"
inductive Cn_spans(u v:D)(M:MH)(Q:DK):Prop
 |mk (n:Nat) (a b c d x y:Rat) (_:u=LV a b c d) (_:v=Lj x y) (_:LX n a) (_:LX n b) (_:LX n c) (_:LX n d) (_:LX n x) (_:LX n y) (_:n<=100000) (_:Q (.bl (!decide (LY x y a b)&&decide (LY x y c d))) M)
theorem Aq(T:Tx K mg):Cal P w K mg base 3 "spans" (sD2 Cn_spans):=by
 refine bE (k:=2) T.f_spans yu fun f cdv A outer s H E i=>⟨_,(aq (aD (pK (rT (ao (cf T).m i (ae (dv 1) (ae (ax (dv 0) af) ag)))) (oY (ao (cf T).m i (ae (dv 1) (ae (ax (dv 0) af) ag))))))),fun _ _ M Q h=>?_⟩;obtain⟨n,a,b,c,d,x,y,rfl,rfl,o,p,r,hd,j,l,t,k⟩:=h;have e:∀{q:Rat},LX n q->LX 100000 q:=fun z=>z.mono t;(try dsimp only[SD.f6,SD.dC,SD.aX,SD.gN,SD.gn,SD.cY,SD.dU,SD.tBD,SD.gK])
 exact zX (!decide (LY x y a b)) (decide (LY x y c d)) (fun K g=>⟨_,rfl,_,rfl,_,rfl,x,y,a,b,rfl,rfl,e j,e l,e o,e p,_,rfl,g⟩) (fun _ K g=>⟨_,rfl,_,rfl,_,rfl,x,y,c,d,rfl,rfl,e j,e l,e r,e hd,g⟩) (rtn k)
theorem qG:FnScope ["one","other"] ["one","other"] (au lF):=by walk_at "sc"
inductive Cn_later_of(x y:D)(M:MH)(Q:DK):Prop
 |mk (a b e f:Rat) (_:x=Lj a b) (_:y=Lj e f) (_:LX 100000 a) (_:LX 100000 b) (_:LX 100000 e) (_:LX 100000 f) (_:∀s:Rat×Rat,s=(if LY e f a b then(a,b)else(e,f))->Q (Lj s.1 s.2) M)
theorem tJ(T:Tx K mg):Cal P w K mg base 3 "later_of" (sD2 Cn_later_of):=by
 refine bE (k:=2) T.f_later_of qG fun f cdv A outer s H E c=>⟨_,(aq (aD (gC (cZ (ao (cf T).m c (ae (dv 1) (ae (dv 0) ag)))) (dv 0) (dv 1)))),fun _ _ M Q h=>?_⟩;obtain⟨a,b,e,f,rfl,rfl,d,g,i,j,k⟩:=h;refine⟨_,rfl,_,rfl,e,f,a,b,rfl,rfl,i,j,d,g,_,rfl,?_⟩;refine bL (fun h=>?_) (fun h=>?_)
 ·have z:LY e f a b:=by simpa[LY]using h
  have:=k (a,b) (by rw[LG z]);exact⟨_,rfl,rtn this⟩
 ·have z:¬LY e f a b:=by simpa[LY]using h
  have:=k (e,f) (by rw[LF z]);exact⟨_,rfl,rtn this⟩
theorem eM:FnScope ["one","other","start","end","place","deciding"] ["one","other"] (au kZ):=by walk_at "sc"
inductive Cn_is_above(u v:D)(M:MH)(Q:DK):Prop
 |mk (t b X Y:Int) (U V:Wl) (_:u=rwl t b X Y U) (_:v=rwl t b X Y V) (_:Scl t b X Y) (_:Un5 U) (_:Un5 V) (_:Q (.bl (abv U V)) M)
theorem tq(T:Tx K mg):Cal P w K mg base 4 "is_above" (sD2 Cn_is_above):=by
 refine bE (k:=3) T.f_is_above eM fun f cdv A outer s H E x=>⟨_,(aj (fQ 2 3 rfl eM.nd (ae (ao (tJ T).m x (ae (ax (dv 0) af) (ae (ax (dv 1) af) ag))) (ae (ao (iN T).m x (ae (ax (dv 0) af) (ae (ax (dv 1) af) ag))) ag))) (aj (bc (Cp (cZ (ao (cf T).m x (ae (dv 2) (ae (dv 3) ag))))) (aq (aD iz)) aN) (aj (cv (gC (aI (b6 x.units) (ax (dv 0) af) (ax (dv 1) af)) (aF (ae af (ae (dv 3) ag))) (aF (ae af (ae (dv 2) ag)))) (bJ rfl (aC (aA 4 eM.nd) (aC (aA 5 eM.nd) ba)))) (aj (bc (aI (b6 x.units) (dv 5) (ax (dv 0) (dv 4))) (aq (aD (c8 (b6 x.units) (ao (de T).m x (ae (dv 1) (ae (dv 5) ag))) af))) aN) (aq (aD (c8 (b6 x.units) (ao (de T).m x (ae (dv 0) (ae (dv 5) ag))) (pZ jj af)))))))),fun _ _ M Q h=>?_⟩;obtain⟨t,b,X,Y,U,V,rfl,rfl,S,g,i,k⟩:=h;have C:=S.t0;have F:=S.b0;have one:(0:Int)<1/\(1:Int)<=10^6:=⋯
 have W6:∀{z:Int},(0<=z/\z<=20)->(-(10^6)<=z/\z<=10^6):=fun{z} h=>()
 have bx:∀{z:Int},(0<=z/\z<=20)->LX 200 (LW t b X 1 z):=fun{z} h=>S.bx one (W6 h);have by':∀{z:Int},(0<=z/\z<=20)->LX 200 (LW t b Y 1 z):=fun{z} h=>S.by' one (W6 h)
 have n:∀{q:Rat},LX 200 q->LX 100000 q:=fun z=>z.mono ⋯
 have W:∃r u:Int,(if LY (LW t b X 1 V.1) (LW t b Y 1 V.2.1) (LW t b X 1 U.1) (LW t b Y 1 U.2.1)then(LW t b X 1 U.1,LW t b Y 1 U.2.1)else(LW t b X 1 V.1,LW t b Y 1 V.2.1))=(LW t b X 1 r,LW t b Y 1 u)/\(0<=r/\r<=20)/\(0<=u/\u<=20)/\la r u=max (l1 U) (l1 V)/\((l1 V<l1 U/\r=U.1/\u=U.2.1)\/(¬l1 V<l1 U/\r=V.1/\u=V.2.1)):=by
  have z:=mF (X:=X) (Y:=Y) (p:=V.1) (q:=V.2.1) (e:=U.1) (f:=U.2.1) C F i.b g.b
  by_cases y:la V.1 V.2.1<la U.1 U.2.1
  ·exact⟨U.1,U.2.1,by rw[LG (z.mpr y)],g.a,g.b,by unfold l1;omega,.inl ⟨y,rfl,rfl⟩⟩
  ·exact⟨V.1,V.2.1,by rw[LF (fun q=>y (z.mp q))],i.a,i.b,by unfold l1;omega,.inr ⟨y,rfl,rfl⟩⟩
 have G:∃ex v:Int,(if LY (LW t b X 1 U.2.2.1) (LW t b Y 1 U.2.2.2) (LW t b X 1 V.2.2.1) (LW t b Y 1 V.2.2.2)then(LW t b X 1 U.2.2.1,LW t b Y 1 U.2.2.2)else(LW t b X 1 V.2.2.1,LW t b Y 1 V.2.2.2))=(LW t b X 1 ex,LW t b Y 1 v)/\(0<=ex/\ex<=20)/\(0<=v/\v<=20)/\la ex v=min (l2 U) (l2 V)/\((l2 U<l2 V/\ex=U.2.2.1/\v=U.2.2.2)\/(¬l2 U<l2 V/\ex=V.2.2.1/\v=V.2.2.2)):=by
  have z:=mF (X:=X) (Y:=Y) (p:=U.2.2.1) (q:=U.2.2.2) (e:=V.2.2.1) (f:=V.2.2.2) C F g.d i.d
  by_cases y:la U.2.2.1 U.2.2.2<la V.2.2.1 V.2.2.2
  ·exact⟨U.2.2.1,U.2.2.2,by rw[LG (z.mpr y)],g.c,g.d,by unfold l2;omega,.inl ⟨y,rfl,rfl⟩⟩
  ·exact⟨V.2.2.1,V.2.2.2,by rw[LF (fun q=>y (z.mp q))],i.c,i.d,by unfold l2;omega,.inr ⟨y,rfl,rfl⟩⟩
 obtain⟨r,u,es,Z,I,ls,cs⟩:=W;obtain⟨ex,v,ee,a0,J,le,ce⟩:=G;refine⟨_,rfl,_,rfl,_,rfl,_,rfl,_,_,_,_,rfl,rfl,n (bx g.a),n (by' g.b),n (bx i.a),n (by' i.b),fun s1 c0=>?_⟩;rw[es]at c0;subst c0;refine⟨_,rfl,_,rfl,_,rfl,_,rfl,_,_,_,_,rfl,rfl,n (bx g.c),n (by' g.d),n (bx i.c),n (by' i.d),fun s2 d0=>?_⟩;rw[ee]at d0;subst d0;refine⟨_,_,rfl,?_⟩;refine⟨_,rfl,_,rfl,LW t b X 1 r,LW t b Y 1 u,LW t b X 1 ex,LW t b Y 1 v,rfl,rfl,n (bx Z),n (by' I),n (bx a0),n (by' J),_,rfl,?_⟩;have L:=mF (X:=X) (Y:=Y) (p:=r) (q:=u) (e:=ex) (f:=v) C F I J;rw[ls,le]at L;refine bL (fun h=>?_) (fun h=>?_)
 ·have N:¬(max (l1 U) (l1 V)<min (l2 U) (l2 V)):=fun z=>by
   have z':=L.mpr z
   unfold LY at z'
   simp[z']at h
  have e:abv U V=LD:=by unfold abv;rw[LF N]
  rw[e]at k;exact rtn k
 have N:max (l1 U) (l1 V)<min (l2 U) (l2 V):=L.mp (Decidable.byContradiction fun z=>h ((Bool.not_eq_true' _).mpr (LH z)));dsimp only[SD.cY];refine bN (fun δ M'=>M'=M/\∃(pl j l O B:Int) (o2 o3:Option D),δ=[LA (rwl t b X Y U),LA (rwl t b X Y V),o2,o3,LA (.int pl),LA (Lj (LW t b X 1 j) (LW t b Y 1 l))]/\atI [Lj (LW t b X 1 U.1) (LW t b Y 1 U.2.1),Lj (LW t b X 1 U.2.2.1) (LW t b Y 1 U.2.2.2)] pl=LA (Lj (LW t b X 1 O) (LW t b Y 1 B))/\(0<=j/\j<=20)/\(0<=l/\l<=20)/\(0<=B/\B<=20)/\(la j l=la O B->decide (0<sd V j l)=abv U V)/\(la j l≠la O B->decide (sd U j l<0)=abv U V)) ?_ (fun hu=>?_);rotate_left
 ·refine⟨_,rfl,_,rfl,_,rfl,_,rfl,_,_,Pd.of rfl,Pd.of rfl,rfl,rfl,?_⟩;rw[Li];refine⟨_,rfl,?_⟩;have q1:=iR (X:=X) (Y:=Y) (p:=U.1) (q:=U.2.1) (e:=V.1) (f:=V.2.1) C F g.b i.b;refine bL (fun h=>?_) (fun h=>?_)
  ·have e1:l1 U=l1 V:=q1.mp (by simpa using h);refine⟨_,rfl,nbL rfl,?_⟩;refine⟨_,rfl,rfl,_,_,rfl,_,_,rfl,rfl,?_⟩;refine hu _ _ ⟨rfl,1,ex,v,U.2.2.1,U.2.2.2,_,_,rfl,rfl,a0,J,g.d,fun z=>?_,fun z=>?_⟩
   ·rcases ce with⟨o,rfl,rfl⟩|⟨o,rfl,rfl⟩
    ·unfold abv;rw[LG N,LG e1,LG o];rfl
    ·have y1:sd2 U V=0:=mH g i z.symm;have y2:sd V V.2.2.1 V.2.2.2=0:=mH i i rfl;unfold abv;rw[LG N,LG e1,LF o,y1,y2]
   ·rcases ce with⟨o,rfl,rfl⟩|⟨o,rfl,rfl⟩
    ·exact absurd rfl z
    ·unfold abv;rw[LG N,LG e1,LF o];rfl
  ·have e1:¬l1 U=l1 V:=fun z=>h (by simpa using q1.mpr z);refine⟨_,rfl,nbL rfl,?_⟩;refine⟨_,rfl,rfl,_,_,rfl,_,_,rfl,rfl,?_⟩;refine hu _ _ ⟨rfl,0,r,u,U.1,U.2.1,_,_,rfl,rfl,Z,I,g.b,fun z=>?_,fun z=>?_⟩
   ·rcases cs with⟨o,rfl,rfl⟩|⟨o,rfl,rfl⟩
    ·unfold abv;rw[LG N,LF e1,LG o];rfl
    ·exact absurd z.symm e1
   ·rcases cs with⟨o,rfl,rfl⟩|⟨o,rfl,rfl⟩
    ·exact absurd rfl z
    ·unfold abv;rw[LG N,LF e1,LF o];rfl
 rintro δ M' ⟨rfl,pl,j,l,O,B,o2,o3,rfl,f0,e0,R,g0,c1,c2⟩;refine⟨_,rfl,_,rfl,_,rfl,_,f0,_,_,Pd.of rfl,Pd.of rfl,rfl,rfl,?_⟩;rw[Li];have q2:=iR (X:=X) (Y:=Y) (p:=j) (q:=l) (e:=O) (f:=B) C F R g0;refine⟨_,rfl,?_⟩;refine bL (fun h=>?_) (fun h=>?_)
 ·have z:la j l=la O B:=q2.mp (by simpa using h);refine⟨_,rfl,_,rfl,200,_,_,_,_,_,_,rfl,rfl,bx i.a,by' i.b,bx i.c,by' i.d,bx e0,by' R,⋯,?_⟩;rw[jD C F];have e:decide (Ij (sd V j l)=1)=abv U V:=by rw[<-c1 z,LK];exact sg1 _
  show Ret Q (.bl (decide _)) _;rw[e];exact rtn k
 ·have z:la j l≠la O B:=fun q=>h (by simpa using q2.mpr q);refine⟨_,rfl,_,rfl,200,_,_,_,_,_,_,rfl,rfl,bx g.a,by' g.b,bx g.c,by' g.d,bx e0,by' R,⋯,?_⟩;rw[jD C F];have e:decide (Ij (sd U j l)=-1)=abv U V:=by rw[<-c2 z,LK];exact G5 _
  show Ret Q (.bl (decide _)) _;rw[e];exact rtn k
theorem gv:FnScope ["top","bottom","divisor"] ["top","bottom"] (au mh):=by walk_at "sc"
inductive Cn_fraction(x y:D)(M:MH)(Q:DK):Prop
 |mk (t:_) (b:_) (_:x=.int t) (_:y=.int b) (_:b≠0) (_:Bd 8000 t) (_:Bd 8000 b) (_:Q (Lk (Rat.divInt t b)) M)
theorem kO(T:Tx K mg):Cal P w K mg base 2 "fraction" (sD2 Cn_fraction):=by
 refine bE (k:=1) T.f_fraction gv fun f cdv A outer s H E e=>⟨_,(aj (bc (aI (b6 e.units) (dv 1) af) (aq lJ) aN) (aj (az 2 gv.nd (ao (dZ T).m e (ae (aS pA rfl T.b_abs oD (ae (dv 0) ag)) (ae (aS pA rfl T.b_abs oD (ae (dv 1) ag)) ag)))) (aj (bc (aI (dP e.units) (dv 1) af) (aq (az 2 gv.nd (pZ jj (dv 2)))) aN) (aq (aD (aF (ae (aw eJ (dv 0) (dv 2)) (ae (aw eJ (dv 1) (dv 2)) ag)))))))),fun _ _ M Q h=>?_⟩;obtain⟨t,b,rfl,rfl,i,j,g,q⟩:=h;have l:=Ma.e9 (t:=t) i;have a:Bd 8000 ((KA t.natAbs b.natAbs:Nat):Int):=g.of_le (by simpa using Nat.gcd_le_right t.natAbs (():0<b.natAbs));refine⟨_,rfl,_,rfl,fv (LH i) ?_⟩;refine⟨_,rfl,_,rfl,t.natAbs,b.natAbs,rfl,rfl,?_⟩;refine⟨_,rfl,trivial,_,rfl,?_⟩;refine bL (fun h=>?_) (fun h=>?_)
 ·have c:b<0:=by simpa using h
  obtain⟨e1,e2⟩:=Ma.uP (t:=t) c;refine⟨_,rfl,_,rfl,_,rfl,⟨(),a.neg⟩,_,rfl,_,rfl,⟨(),a.neg⟩,nbL rfl,?_⟩;dsimp only;rw[e1,e2];exact rtn q
 ·have d:0<b:=by
   have:¬b<0:=by simpa using h
   omega
  obtain⟨e1,e2⟩:=Ma.tX (t:=t) d;refine⟨_,rfl,_,rfl,⟨(),a⟩,_,rfl,_,rfl,⟨(),a⟩,nbL rfl,?_⟩;dsimp only;rw[e1,e2];exact rtn q
theorem gh:FnScope ["spot","x","y"] ["spot"] (au kL):=by walk_at "sc"
inductive Cn_own_spot(x:D)(M:MH)(Q:DK):Prop
 |mk (a b:Rat) (_:x=Lj a b) (_:LX 8000 a) (_:LX 8000 b) (_:Q (Lj a b) M)
theorem iJ(T:Tx K mg):Cal P w K mg base 3 "own_spot" (sD1 Cn_own_spot):=by refine f7 (k:=2) T.f_own_spot gh fun f cdv A outer s H E c=>⟨_,(aj (cv (dv 0) (bJ rfl (aC (aA 1 gh.nd) (aC (aA 2 gh.nd) ba)))) (aq (aD (aF (ae (ao (kO T).m c (ae (ax (dv 1) af) (ae (ax (dv 1) af) ag))) (ae (ao (kO T).m c (ae (ax (dv 2) af) (ae (ax (dv 2) af) ag))) ag)))))),fun _ M Q h=>?_⟩;obtain⟨a,b,rfl,d,e,k⟩:=h;refine⟨_,rfl,_,rfl,rfl,_,_,rfl,_,_,rfl,rfl,?_⟩;refine⟨_,rfl,_,rfl,_,rfl,_,rfl,a.num,(a.den:Int),rfl,rfl,Ln a,d.1,d.2,?_⟩;refine⟨_,rfl,_,rfl,_,rfl,_,rfl,b.num,(b.den:Int),rfl,rfl,Ln b,e.1,e.2,nbL rfl,?_⟩;rw[Rat.num_divInt_den,Rat.num_divInt_den];exact rtn k
theorem qp:FnScope ["wall"] ["wall"] (au mv):=by walk_at "sc"
inductive Cn_own_wall(x:D)(M:MH)(Q:DK):Prop
 |mk (a b c d:Rat) (_:x=LV a b c d) (_:LX 8000 a) (_:LX 8000 b) (_:LX 8000 c) (_:LX 8000 d) (_:Q (LV a b c d) M)
theorem rz(T:Tx K mg):Cal P w K mg base 4 "own_wall" (sD1 Cn_own_wall):=by refine f7 (k:=3) T.f_own_wall qp fun f cdv A outer s H E e=>⟨_,(aq (aD (aF (ae (ao (iJ T).m e (ae (ax (dv 0) af) ag)) (ae (ao (iJ T).m e (ae (ax (dv 0) af) ag)) ag))))),fun _ M Q h=>?_⟩;obtain⟨a,b,c,d,rfl,g,i,j,l,k⟩:=h;exact⟨_,rfl,_,rfl,a,b,rfl,g,i,_,rfl,_,rfl,c,d,rfl,j,l,nbL rfl,rtn k⟩
theorem eN:FnScope ["walls","upper","wall"] ["walls"] (au lj):=by walk_at "sc"
inductive Cn_upper_of(u:D)(M:MH)(Q:DK):Prop
 |mk (a:Addr) (t b X Y:Int) (us:List Wl) (top:Wl) (_:u=.ref a) (_:M a=LA (.lst (us.map (rwl t b X Y)))) (_:Scl t b X Y) (_:(∀w∈us,Un5 w)) (_:top∈us) (_:(∀w∈us,w=top\/(abv top w=LC/\abv w top=LD))) (_:Q (rwl t b X Y top) M)
theorem sV(T:Tx K mg):Cal P w K mg base 5 "upper_of" (sD1 Cn_upper_of):=by
 refine f7 (k:=4) T.f_upper_of eN fun f cdv A outer s H E C=>⟨_,(aj (az 1 eN.nd (ax (dv 0) af)) (aj (bX IG rfl (aV (dv 0)) (aA 2 eN.nd) (aq (bc (cZ (ao (tq T).m C (ae (dv 2) (ae (dv 1) ag)))) (aq (az 1 eN.nd (dv 2))) aN))) (aq (aD (ao (rz T).m C (ae (dv 1) ag)))))),fun _ M Q h=>?_⟩;obtain⟨a,t,b,X,Y,us,top,rfl,u,S,x,D,F,k⟩:=h;cases us with
 |nil=>cases D
 |cons g us=>
  refine⟨_,rfl,_,_,u,bZ (j:=0) (v:=rwl t b X Y g) rfl,?_⟩
  refine⟨_,rfl,(g::us).map (rwl t b X Y),u,?_⟩
  refine⟨fun i δ p=>p=M/\∃l y,δ=[LA (.ref a),LA (rwl t b X Y l),y]/\l∈g::us/\(top∈(g::us).take i->l=top),⟨rfl,g,_,rfl,by simp,fun z=>by simp at z⟩,fun i δ p _ z=>by obtain⟨rfl,_⟩:=z;exact u,?_,?_⟩
  ·rintro i d δ p L hd ⟨rfl,l,y,rfl,n,o⟩;have hd:((g::us).map (rwl t b X Y))[i]?=LA d:=hd;rw[Ie]at hd;cases r:(g::us)[i]? with
   |none=>rw[r]at hd;cases hd
   |some w=>
    rw[r]at hd
    cases hd
    have B:w∈g::us:=Il r
    have G:∀z,z∈(g::us).take (i+1)->z∈(g::us).take i\/z=w:=fun z I=>by rw[Kf,r]at I;simpa using I
    refine⟨_,rfl,_,rfl,t,b,X,Y,w,l,rfl,rfl,S,x w B,x l n,_,rfl,?_⟩
    refine bL (fun h=>?_) (fun h=>?_)
    ·refine⟨_,rfl,rfl,w,_,rfl,B,fun z=>?_⟩;rcases G _ z with z|z
     ·have:=o z;subst this;rcases F w B with q|q
      ·exact q
      ·rw[q.2]at h;cases h
     ·exact z.symm
    ·refine⟨rfl,l,_,rfl,n,fun z=>?_⟩;rcases G _ z with z|z
     ·exact o z
     ·subst z;rcases F l n with q|q
      ·exact q
      ·exact absurd q.1 h
  ·rintro δ p ⟨rfl,l,y,rfl,n,o⟩;have e:l=top:=o (by show top∈(g::us).take ((g::us).map (rwl t b X Y)).length;rw[JH (by simp)];exact D);subst e;have W:=x l n;have one:(0:Int)<1/\(1:Int)<=10^6:=⋯
   have J:∀{z:Int},(0<=z/\z<=20)->(-(10^6)<=z/\z<=10^6):=fun{z} h=>()
   have bx:∀{z:Int},(0<=z/\z<=20)->LX 8000 (LW t b X 1 z):=fun{z} h=>(S.bx one (J h)).mono ⋯;have by':∀{z:Int},(0<=z/\z<=20)->LX 8000 (LW t b Y 1 z):=fun{z} h=>(S.by' one (J h)).mono ⋯
   exact⟨_,rfl,_,_,_,_,rfl,bx W.a,by' W.b,bx W.c,by' W.d,rtn k⟩
theorem gf:FnScope ["walls","spot","below"] ["walls","spot"] (au ir):=by walk_at "sc"
inductive Cn_upper_below(u v:D)(M:MH)(Q:DK):Prop
 |mk (t b X Y:Int) (x y:Rat) (ws:List Wl) (_:u=.tup (ws.map (rwl t b X Y))) (_:v=Lj x y) (_:Scl t b X Y) (_:(∀w∈ws,Un5 w)) (_:PF ws) (_:ws.length<=40) (_:LX 200 x) (_:LX 200 y) (_:(bT t b X Y ws x y=[]->Q .non M)) (_:∀tt∈bT t b X Y ws x y,(∀w∈(bT t b X Y ws x y).map (wAt ws),w=wAt ws tt\/(abv (wAt ws tt) w=LC/\abv w (wAt ws tt)=LD))->Q (rwl t b X Y (wAt ws tt)) M)
theorem ij(T:Tx K mg):Cal P w K mg base 6 "upper_below" (sD2 Cn_upper_below):=by
 refine bE (k:=5) T.f_upper_below gf fun f cdv A outer s H E p=>⟨_,(aj (eY 2 gf.nd (CScope.of (xs:=["wall"]) (js:=[1]) rfl) rfl (aV (dv 0)) (fun _ _ _ _=>(uV (iU (eR (cZ (ao (Aq T).m p (ae (dv 0) (ae (dv 1) ag)))) (df (aI (b6 p.units) (ao (de T).m p (ae (dv 0) (ae (dv 1) ag))) af)))))) (fun _ _ _ _=>(dv 0))) (aq (aD (gC (EF (dv 2)) (ao (sV T).m p (ae (dv 2) ag)) iM)))),fun _ _ M Q h=>?_⟩;obtain⟨t,b,X,Y,x,y,ws,rfl,rfl,S,B,hF,G,I,J,U,k1⟩:=h;have C:(ws.map (rwl t b X Y)).length=ws.length:=by simp
 have one:(0:Int)<1/\(1:Int)<=10^6:=⋯
 have L:∀{z:Int},(0<=z/\z<=20)->(-(10^6)<=z/\z<=10^6):=fun{z} h=>()
 have bx:∀{z:Int},(0<=z/\z<=20)->LX 200 (LW t b X 1 z):=fun{z} h=>S.bx one (L h);have by':∀{z:Int},(0<=z/\z<=20)->LX 200 (LW t b Y 1 z):=fun{z} h=>S.by' one (L h)
 refine⟨_,rfl,ws.map (rwl t b X Y),rfl,uM (fun j=>if Bt t b X Y x y (wn ws j)=LC then LA (rwl t b X Y (wn ws j))else LB) (by show(ws.map (rwl t b X Y)).length<=1000000;rw[C];omega) (fun _ _ _=>rfl) ?_ (fun N i=>?_)⟩
 ·intro a d V O hd sb;have hd:(ws.map (rwl t b X Y))[a]?=LA d:=hd;have O:a<ws.length:=by have:a<(ws.map (rwl t b X Y)).length:=O;omega
  obtain⟨R,w2,Z⟩:=aW (ws:=ws) (k:=(a:Int)) () ();have D:ws[a]?=LA (wn ws a):=by rw[Jh]at R;exact R
  rw[Ie,D]at hd;cases hd;have W:=B _ Z;refine⟨_,rfl,fun K q=>?_,fun v r K q=>?_⟩
  ·have n:K (Bt t b X Y x y (wn ws a)) V:=by cases z:Bt t b X Y x y (wn ws a)<;>rw[z]at q<;>exact q
   unfold Bt at n;exact rL _ _ (fun K' g=>⟨_,rfl,_,rfl,200,_,_,_,_,_,_,rfl,rfl,bx W.a,by' W.b,bx W.c,by' W.d,I,J,⋯,_,rfl,g⟩) (fun _ K' g=>⟨_,rfl,_,rfl,200,_,_,_,_,_,_,rfl,rfl,bx W.a,by' W.b,bx W.c,by' W.d,I,J,⋯,_,rfl,g⟩) n
  ·cases z:Bt t b X Y x y (wn ws a)with
   |false=>rw[z]at r;cases r
   |true=>
    rw[z]at r
    cases r
    exact⟨_,rfl,q _ .refl⟩
 dsimp only;rw[wZ];refine⟨_,rfl,N,_,rfl,ai,?_⟩;by_cases u:bT t b X Y ws x y=[]
 ·rw[u];exact fv rfl ⟨_,.new i .refl,U u⟩
 ·obtain⟨F,o,e⟩:=zD S.t0 S.b0 B hF u
  refine oI (by
   cases z:bT t b X Y ws x y with
   |nil=>exact absurd z u
   |cons a l=>rfl) ?_
  refine⟨_,rfl,N,t,b,X,Y,(bT t b X Y ws x y).map (wAt ws),wAt ws F,rfl,ai,S,fun w hw=>?_,J1.mpr ⟨F,o,rfl⟩,e,⟨_,.new i .refl,k1 F o e⟩⟩;obtain⟨kk,hk,rfl⟩:=J1.mp hw;obtain⟨j,rfl,j1,_⟩:=dS.mp hk;exact aH B j1
theorem ip:FnScope ["plot","lands","corner","wall"] ["plot","lands","corner"] (au jf):=by walk_at "sc"
inductive Cn_land_about(u v x:D)(M:MH)(Q:DK):Prop
 |mk (t b X Y:Int) (ws:List Wl) (l:Addr) (L:List Int) (c:Vc) (_:u=.tup (ws.map (rwl t b X Y))) (_:v=.ref l) (_:x=gsp t b X Y c) (_:M l=LA (.lst (L.map D.int))) (_:L.length=2*ws.length) (_:Scl t b X Y) (_:(∀w∈ws,Un5 w)) (_:PF ws) (_:ws.length<=40) (_:B20 c) (_:Q (.int (laF ws L c)) M)
theorem pN(T:Tx K mg):Cal P w K mg base 7 "land_about" (sD3 Cn_land_about):=by
 refine jq (k:=6) T.f_land_about ip fun f cdv A outer s H E x=>⟨_,(aj (az 3 ip.nd (ao (ij T).m x (ae (dv 0) (ae (dv 2) ag)))) (aq (aD (gC (aI xD (dv 3) iM) af (ax (dv 1) (aw aG af (mf (lZ x) (dv 0) (ae (dv 3) ag)))))))),fun _ _ _ M Q h=>?_⟩;obtain⟨t,b,X,Y,ws,l,L,c,rfl,rfl,rfl,C,I,S,j,hF,n,u,k⟩:=h;have J:=u.1;have N:=u.2;have eb:=EY (X:=X) (Y:=Y) S.t0 S.b0 j (p:=c.1) (q:=c.2) ();refine⟨_,rfl,_,rfl,t,b,X,Y,_,_,ws,rfl,rfl,S,j,hF,n,u.bx S,u.by' S,(fun F=>?_),(fun a d o=>?_)⟩<;>rw[eb]at *
 ·have k:Q (.int 0) M:=by unfold laF at k;rw[LG F]at k;exact k
  exact⟨_,rfl,_,rfl,_,rfl,oI rfl (rtn k)⟩
 ·have sp:=ju (jy d);obtain⟨z,O,G⟩:=aW sp.1 sp.2.1;have tn:a.toNat<ws.length:=()
  have k:Q (.int ((L[2*a.toNat]?).getD 0)) M:=by unfold laF at k;rw[LF (JW d),BE j hF d o]at k;exact k
  have B:2*a.toNat<L.length:=()
  rw[Ia B]at k;refine⟨_,rfl,_,rfl,_,rfl,fv rfl ?_⟩;refine⟨_,rfl,_,rfl,_,rfl,_,rfl,_,rwP t b X Y (wAt ws a),a.toNat,rfl,(by simp;omega),Pd.of rfl,rfl,fun i y R r=>?_,?_⟩
  ·rw[Ie]at r;cases g:ws[i]? with
   |none=>rw[g]at r;cases r
   |some U=>
    rw[g]at r
    cases r
    refine⟨rwP t b X Y U,Pd.of rfl,rfl,?_⟩
    by_cases e:i=a.toNat
    ·subst e;rw[z]at g;cases g;rw[p6,LI rfl]
    ·rw[LH e];exact ye S.t0 S.b0 (j _ (Il g)) (j _ G) (hF i a.toNat _ _ e g z).ne
  ·refine⟨aO (bA ⋯),_,_,C,(by rw[show(2:Int)*((a.toNat:Nat):Int)=((2*a.toNat:Nat):Int) by omega];exact bZ (v:=D.int L[2*a.toNat]) (by rw[Ie,Ia B];rfl)),rtn k⟩
theorem aL:FnScope ["plot","outers","inners","lands","number","ring","face","ring_at","corner","land"] ["plot"] (au ff):=by walk_at "sc"
inductive Cn_lands_of_faces(u:D)(M:MH)(Q:DK):Prop
 |mk (t b X Y:Int) (ws:List Wl) (_:u=.tup (ws.map (rwl t b X Y))) (_:Scl t b X Y) (_:ws.length<=40) (_:(∀w∈ws,Un5 w)) (_:PF ws) (_:∀(M':MH) (z:Addr) (L:List Int),SD.Sub M M'->M z=LB->M' z=LA (.lst (L.map D.int))->cU ws L->Q (.ref z) M')
theorem fj(T:Tx K mg):Cal P w K mg base 9 "lands_of_faces" (sD1 Cn_lands_of_faces):=by
 refine f7 (k:=8) T.f_lands_of_faces aL fun f cdv A outer s H E N=>⟨_,(aj (cv (ao (jg T).m N (ae (dv 0) ag)) (bJ rfl (aC (aA 1 aL.nd) (aC (aA 2 aL.nd) ba)))) (aj (az 3 aL.nd (aw AH (bI (ae af ag)) (aw aG af (aS eU rfl T.b_len eV (ae (dv 0) ag))))) (aj (bX IG rfl (zq rfl T.b_enumerate (ae (dv 1) ag)) (bJ rfl (aC (aA 4 aL.nd) (aC (aA 5 aL.nd) ba))) (aq (bX IG rfl (aV (dv 5)) (aA 6 aL.nd) (aq (cv (dv 4) (kX (dv 3) (dv 6))))))) (aj (wz 7 aL.nd (lZ N) (CScope.of (xs:=["ring"]) (js:=[0]) rfl) rfl (aV (dv 2)) (fun _ _ _ _=>cX) (fun _ _ _ _=>(ao (lD T).m N (ae (dv 1) (ae (dv 0) ag)))) (fun _ _ _ _=>(dv 0))) (aj (bX IG rfl (aV (ao (ig T).m N (ae (cS (qQ rfl) rfl T.b_list tY (ae (dv 7) ag)) ag))) (aA 8 aL.nd) (aj (az 9 aL.nd (ao (pN T).m N (ae (dv 0) (ae (dv 3) (ae (dv 8) ag))))) (aq (bX IG rfl (aV (rk (lZ N) (dv 7) (dv 8) (by intro _ _;with_unfolding_all rfl))) (aA 6 aL.nd) (aq (cv (dv 9) (kX (dv 3) (dv 6)))))))) (aq (aD (dv 3)))))))),fun _ M Q h=>?_⟩;obtain⟨t,b,X,Y,ws,rfl,S,O,hU,hF,k⟩:=h;have e0:(ws.map (rwl t b X Y)).length=ws.length:=by simp
 refine⟨_,rfl,t,b,X,Y,ws,rfl,S,O,hU,hF,fun M1 lo li ps qs rs m0 R ho hi RO RI m1 n1 o1=>?_⟩;refine⟨_,rfl,rfl,_,_,rfl,_,_,rfl,rfl,?_⟩;have RO:=RO;generalize I:rs.filter (aP ws)=l at RO;generalize L:(rs.filter fun r=>!aP ws r)=ins at RI;have d0:=ko hU hF (Ic _) R;have p1:=oT R;have q1:l.length<=80:=by rw[<-I];have:=List.length_filter_le (aP ws) rs;omega
 have r1:ins.length<=80:=by rw[<-L];have:=List.length_filter_le (fun r=>!aP ws r) rs;omega
 have n0:∀r∈l,RgA ws r:=fun r N=>d0 r (by rw[<-I]at N;exact(IJ.mp N).1);have U:∀r∈ins,RgA ws r:=fun r N=>d0 r (by rw[<-L]at N;exact(IJ.mp N).1);have b1:=RO.len;have c1:=RI.len;refine⟨nbL rfl,fun z0 o0=>⟨_,rfl,aO (bA ⋯),.int 0,ai,by rw[e0];omega,by rw[e0];omega,fun z hz=>?_⟩⟩;have V:SD.Sub M1 (ay (ay M1 z0 (.lst [.int 0])) z (.lst (IQ ((2:Int)*((ws.map (rwl t b X Y)).length:Nat)).toNat (.int 0)))):=.new hz (.new o0 .refl);have r0:(ay (ay M1 z0 (.lst [.int 0])) z (.lst (IQ ((2:Int)*((ws.map (rwl t b X Y)).length:Nat)).toNat (.int 0)))) z=LA (.lst ((fO (2*ws.length) l 0).map D.int)):=by rw[ai,e0,show((2:Int)*(ws.length:Nat)).toNat=2*ws.length by omega,fO,List.map_replicate]
 have nz:∀{a o},M1 a=LA o->a≠z:=fun h e=>by
  subst e
  have h0:=SD.Sub.new (o:=.lst [.int 0]) o0 .refl _ _ h
  rw[hz]at h0;cases h0
 have fz:M z=LB:=by
  cases e:M z with
  |none=>rfl
  |some o=>exact absurd rfl (nz (m0 _ _ e))
 generalize ay (ay M1 z0 (.lst [.int 0])) z (.lst (IQ ((2:Int)*((ws.map (rwl t b X Y)).length:Nat)).toNat (.int 0)))=M2 at V r0 ⊢;(try dsimp only[SD.aX])
 refine bN (fun δ y=>∃o4 o5 G:Option D,δ=[LA (.tup (ws.map (rwl t b X Y))),LA (.ref lo),LA (.ref li),LA (.ref z),o4,o5,G,LB,LB,LB]/\(∀c,c≠z->y c=M2 c)/\y z=LA (.lst ((fO (2*ws.length) l l.length).map D.int))) ?_ (fun hu=>?_);rotate_left
 ·refine⟨_,rfl,lo,ps.map D.ref,rfl,V _ _ ho,fun i δ y=>∃o4 o5 G:Option D,δ=[LA (.tup (ws.map (rwl t b X Y))),LA (.ref lo),LA (.ref li),LA (.ref z),o4,o5,G,LB,LB,LB]/\(∀c,c≠z->y c=M2 c)/\y z=LA (.lst ((fO (2*ws.length) l i).map D.int)),⟨_,_,_,rfl,fun _ _=>rfl,r0⟩,fun i δ y _ q=>by obtain⟨_,_,_,_,q,_⟩:=q;show y lo=_;rw[q lo (nz ho)];exact V _ _ ho,?_,?_⟩
  ·rintro i d δ y hi hd ⟨o4,o5,G,rfl,Z,v⟩;have hi:i<ps.length:=by have:i<(ps.map D.ref).length:=hi;simpa using this
   have hd:((ps.map D.ref)[i]?).map (fun d=>D.tup [.int ((i+1:Nat):Int),d])=LA d:=hd;rw[Ie,Ia hi]at hd;cases hd;obtain⟨r,er,f0⟩:=RO.get hi;have A:=n0 r (Il er);have W:M2 ps[i]=LA (.lst (r.map fun g:Nat=>D.int (g:Int))):=V _ _ f0;refine⟨_,rfl,rfl,_,_,rfl,_,_,rfl,rfl,?_⟩;refine⟨_,rfl,r.map (fun g:Nat=>D.int (g:Int)),(by show y ps[i]=_;rw[Z _ (nz f0)];exact W),fun j δ u=>∃G:Option D,δ=[LA (.tup (ws.map (rwl t b X Y))),LA (.ref lo),LA (.ref li),LA (.ref z),LA (.int ((i+1:Nat):Int)),LA (.ref ps[i]),G,LB,LB,LB]/\(∀c,c≠z->u c=M2 c)/\u z=LA (.lst ((ie (fO (2*ws.length) l i) r ((i+1:Nat):Int) j).map D.int)),⟨_,rfl,Z,v⟩,fun j δ u _ q=>by obtain⟨_,_,q,_⟩:=q;show u ps[i]=_;rw[q _ (nz f0)];exact W,?_,?_⟩
   ·rintro j d δ u hj hd ⟨G,rfl,J,n⟩;have hj:j<r.length:=by have:j<(r.map fun g:Nat=>D.int (g:Int)).length:=hj;simpa using this
    have hd:(r.map fun g:Nat=>D.int (g:Int))[j]?=LA d:=hd;rw[Ie,Ia hj]at hd;cases hd;refine⟨_,rfl,_,rfl,_,rfl,_,r[j],n,uB (by rw[Ii,gR,iA];exact A.lt _ (Jn hj)),?_⟩;exact⟨_,rfl,fun c hc=>by rw[ak hc];exact J c hc,by rw[ai,l7 (Ia hj),List.map_set]⟩
   ·rintro δ u ⟨G,rfl,J,n⟩;have n:u z=LA (.lst ((ie (fO (2*ws.length) l i) r ((i+1:Nat):Int) (r.map fun g:Nat=>D.int (g:Int)).length).map D.int)):=n;rw[Ii]at n;exact⟨_,_,_,rfl,J,by rw[n,fO,er];rfl⟩
  ·rintro δ y ⟨o4,o5,G,rfl,Z,v⟩;have v:y z=LA (.lst ((fO (2*ws.length) l (ps.map D.ref).length).map D.int)):=v;rw[Ii,b1]at v;exact hu _ _ ⟨_,_,_,rfl,Z,v⟩
 rintro δ M3 ⟨o4,o5,G,rfl,d1,g0⟩;have F:∀{a o},M1 a=LA o->M3 a=LA o:=fun{a o} h=>by rw[d1 a (nz h)];exact V _ _ h
 refine⟨_,rfl,qs.map D.ref,F hi,by show(qs.map D.ref).length<=900000;rw[Ii];omega,fun p hp=>?_⟩;have np:∀{a o},M3 a=LA o->a≠p:=fun h=>av h hp;refine⟨fun i kvs y=>RDt t b X Y ws ins qs i kvs/\y=ay M3 p (dsM kvs),⟨RDt.nil ..,rfl⟩,fun i kvs y _ q=>by obtain⟨_,rfl⟩:=q;show(ay M3 p _) li=_;rw[ak (np (F hi))];exact F hi,?_,?_⟩
 ·rintro i kvs d y B hd ⟨RD,rfl⟩;have B:i<qs.length:=by have:i<(qs.map D.ref).length:=B;simpa using this
  have hd:(qs.map D.ref)[i]?=LA d:=hd;rw[Ie,Ia B]at hd;cases hd;obtain⟨r,er,s0⟩:=RI.get B;have A:=U r (Il er);refine⟨_,rfl,?_⟩;dsimp only[SD.mB];refine DY ?_;refine⟨_,rfl,_,rfl,t,b,X,Y,ws,qs[i],r,rfl,rfl,(by rw[ak (np (F s0))];exact F s0),S,hU,O,A.pos,A.lt,?_⟩;refine⟨_,rfl,gk t b X Y (fc ws r),tH ..,ai,?_,RD.put S.t0 S.b0 er (Ia B),by rw[a9]⟩;have:=congrArg List.length RD.ks;rw[Ii,Ii]at this;have:=jH ws ins i;omega
 rintro kvs M4 ⟨RD,rfl⟩;have RD:RDt t b X Y ws ins qs (qs.map D.ref).length kvs:=RD;rw[Ii,c1]at RD;have a0:(ay M3 p (dsM kvs)) z=LA (.lst ((fO (2*ws.length) l l.length).map D.int)):=by rw[ak (np g0)];exact g0
 have i0:∀{a o},M1 a=LA o->(ay M3 p (dsM kvs)) a=LA o:=fun{a o} h=>by rw[ak (np (F h))];exact F h
 have k0:(ay M3 p (dsM kvs)) p=LA (dsM kvs):=ai
 have fp:M1 p=LB:=by
  cases e:M1 p with
  |none=>rfl
  |some o=>rw[F e]at hp;cases hp
 generalize ay M3 p (dsM kvs)=M4 at a0 i0 k0 ⊢;refine⟨_,rfl,.inr ⟨p,kvs,rfl,k0,fun p2 W=>?_⟩⟩
 have ek:kvs.map (fun x=>spD x.1)=(bY ws ins ins.length).map (gsp t b X Y):=by
  have:=congrArg (JI spD) RD.ks
  rw[Ko,Ko]at this
  exact this
 have kb:∀c∈bY ws ins ins.length,B20 c:=fun c hc=>by
  obtain⟨j,_,hj,e⟩:=gZ hc
  rw[Ia hj]at e
  have A:=U _ (Jn hj)
  rw[<-e]
  exact ot hU A.lt A.pos _ (Ic _)
 have kl:=jH ws ins ins.length;refine⟨p2,t,b,X,Y,bY ws ins ins.length,rfl,(by rw[ai,ek]),S,(),kb,j8 ws ins _,fun M5 zc C e1 l0 u0 pm up=>?_⟩;have c0:∀{a o},M4 a=LA o->M5 a=LA o:=fun{a o} h=>e1 _ _ (by rw[ak (av h W)];exact h);have f1:=c0 a0;have g1:=c0 k0;have i1:zc≠z:=fun e=>by subst e;rw[ak (av a0 W)]at l0;rw[a0]at l0;cases l0
 have j1:p≠z:=fun e=>by subst e;rw[g0]at hp;cases hp
 refine⟨_,u0,?_⟩;refine⟨fun i δ y=>∃G o8 o9:Option D,δ=[LA (.tup (ws.map (rwl t b X Y))),LA (.ref lo),LA (.ref li),LA (.ref z),o4,o5,G,LA (.ref p),o8,o9]/\(∀c,c≠z->y c=M5 c)/\y z=LA (.lst ((fS ws ins (fO (2*ws.length) l l.length) C i).map D.int)),⟨_,_,_,rfl,fun _ _=>rfl,f1⟩,fun i δ y _ q=>by obtain⟨_,_,_,_,q,_⟩:=q;show y zc=_;rw[q zc i1];exact u0,?_,?_⟩
 ·rintro i d δ y B hd ⟨k1,o8,o9,rfl,Z,v⟩;have B:i<C.length:=by have:i<(C.map (gsp t b X Y)).length:=B;simpa using this
  have hd:(C.map (gsp t b X Y))[i]?=LA d:=hd;rw[Ie,Ia B]at hd;cases hd;have v0:=pm.mem_iff.mp (Jn B);obtain⟨j,ej,hj,_⟩:=gZ v0;have w0:j<qs.length:=()
  obtain⟨r,er,x0⟩:=RI.get w0;have A:=U r (Il er);have y0:M5 qs[j]=LA (.lst (r.map fun g:Nat=>D.int (g:Int))):=c0 (i0 x0);have a1:=nz x0;have eS:fS ws ins (fO (2*ws.length) l l.length) C (i+1)=fill (fS ws ins (fO (2*ws.length) l l.length) C i) r (laF ws (fS ws ins (fO (2*ws.length) l l.length) C i) C[i]):=by rw[fS,Ia B,Option.getD_some,ej,Option.getD_some,er,Option.getD_some]
  refine⟨_,rfl,_,rfl,_,rfl,t,b,X,Y,ws,z,fS ws ins (fO (2*ws.length) l l.length) C i,C[i],rfl,rfl,rfl,v,by rw[jQ,iA],S,hU,hF,O,kb _ v0,?_⟩;refine⟨_,rfl,_,rfl,p,kvs,gk t b X Y C[i],.ref qs[j],rfl,tH ..,(by rw[Z p j1];exact g1),(by rw[RD.vs,ej];show(qs[j]?).map D.ref=_;rw[Ia w0];rfl),r.map (fun g:Nat=>D.int (g:Int)),(by show y qs[j]=_;rw[Z _ a1];exact y0),?_⟩;refine⟨fun a δ u=>∃G:Option D,δ=[LA (.tup (ws.map (rwl t b X Y))),LA (.ref lo),LA (.ref li),LA (.ref z),o4,o5,G,LA (.ref p),LA (gsp t b X Y C[i]),LA (.int (laF ws (fS ws ins (fO (2*ws.length) l l.length) C i) C[i]))]/\(∀c,c≠z->u c=M5 c)/\u z=LA (.lst ((ie (fS ws ins (fO (2*ws.length) l l.length) C i) r (laF ws (fS ws ins (fO (2*ws.length) l l.length) C i) C[i]) a).map D.int)),⟨_,rfl,Z,v⟩,fun a δ u _ q=>by obtain⟨_,_,q,_⟩:=q;show u qs[j]=_;rw[q _ a1];exact y0,?_,?_⟩
  ·rintro a d δ u ha hd ⟨G,rfl,J,n⟩;have ha:a<r.length:=by have:a<(r.map fun g:Nat=>D.int (g:Int)).length:=ha;simpa using this
   have hd:(r.map fun g:Nat=>D.int (g:Int))[a]?=LA d:=hd;rw[Ie,Ia ha]at hd;cases hd;refine⟨_,rfl,_,rfl,_,rfl,_,r[a],n,uB (by rw[Ii,gR,jQ,iA];exact A.lt _ (Jn ha)),?_⟩;exact⟨_,rfl,fun c hc=>by rw[ak hc];exact J c hc,by rw[ai,l7 (Ia ha),List.map_set]⟩
  ·rintro δ u ⟨G,rfl,J,n⟩;have n:u z=LA (.lst ((ie (fS ws ins (fO (2*ws.length) l l.length) C i) r (laF ws (fS ws ins (fO (2*ws.length) l l.length) C i) C[i]) (r.map fun g:Nat=>D.int (g:Int)).length).map D.int)):=n;rw[Ii]at n;exact⟨_,_,_,rfl,J,by rw[n,eS];rfl⟩
 ·rintro δ y ⟨k1,o8,o9,rfl,Z,v⟩;have v:y z=LA (.lst ((fS ws ins (fO (2*ws.length) l l.length) C (C.map (gsp t b X Y)).length).map D.int)):=v;rw[Ii]at v;refine⟨_,rfl,rtn (k y z _ (fun a o h=>?_) fz v ⟨rs,C,R,by rw[L];exact pm,up,by rw[L,I]⟩)⟩;have h1:=m0 _ _ h;rw[Z a (nz h1)];exact c0 (i0 h1)
theorem vp:FnScope ["_law_shuts","_law_below"] ["_law_shuts","_law_below"] (au qC):=by walk_at "sc"
inductive Cn_law_by(s v:D)(M:MH)(Q:DK):Prop
 |mk (m:Int) (l:Addr) (ws:List (Int×Int×Int×Int)) (_:s=.ref l) (_:v=.int m) (_:M l=LA (.lst (ws.map uw))) (_:Bd 64 m) (_:ws.length<=1000) (_:∀p,M p=LB->Q (.ref p) (ay M p (.lst (ws.map fun w=>uw (uby m w)))))
theorem qw(T:Tx K mg):Cal P w K mg base 1 "_law_by" (sD2 Cn_law_by):=by
 refine bE (k:=0) T.f_law_by vp fun f cdv A outer s H E F=>⟨_,(aq (aD (iX (CScope.of (xs:=["_law_shut"]) (js:=[1]) rfl) rfl (aV (dv 0)) (fun _ _ _ _=>cX) (fun _ _ _ _=>(cS q0 rfl T.b_tuple p7 (ae (iX (CScope.of (xs:=["_law_spot_here"]) (js:=[1]) rfl) rfl (aV (dv 0)) (fun _ _ _ _=>cX) (fun _ _ _ _=>(aF (ae (aw aG (dv 1) (ax (dv 0) af)) (ae (aw aG (dv 1) (ax (dv 0) af)) ag))))) ag)))))),fun _ _ M Q h=>?_⟩;obtain⟨m,l,ws,rfl,rfl,n,g,G,k⟩:=h;refine⟨_,rfl,ws.map uw,n,comp_map (fun i=>((ws.map fun w=>uw (uby m w))[i]?).getD .non) (by simp;omega) (fun p I o=>?_) ?_ (fun p o=>?_)⟩
 ·show(ay M p _) l=_;rw[ak (av n o)];exact n
 ·intro i e v J c _;have c:(ws.map uw)[i]?=LA e:=c;rw[Ie]at c;cases r:ws[i]? with
  |none=>rw[r]at c;cases c
  |some w=>
   rw[r]at c
   cases c
   refine⟨_,rfl,fun K x=>?_⟩
   have t:∀a,SD.Sub v a->K (uw (uby m w)) a:=fun a z=>by
    have:=x a z
    rw[getD_map (f:=fun w=>uw (uby m w)) r]at this
    exact this
   refine⟨_,rfl,[.tup [.int w.1,.int w.2.1],.tup [.int w.2.2.1,.int w.2.2.2]],rfl,comp_map (fun j=>if j=0 then .tup [.int (m*w.1),.int (m*w.2.1)]else .tup [.int (m*w.2.2.1),.int (m*w.2.2.2)]) (nbL rfl) (fun _ _ _=>rfl) ?_ (fun q y=>⟨_,ai,t _ (.new y .refl)⟩)⟩
   intro j B L u b _
   have u:j<2:=u
   have b:[D.tup [.int w.1,.int w.2.1],.tup [.int w.2.2.1,.int w.2.2.2]][j]?=LA B:=b
   rcases(():j=0\/j=1)with rfl|rfl
   ·cases b;exact⟨_,rfl,fun C d=>⟨_,rfl,_,rfl,_,rfl,aO g,_,rfl,_,rfl,_,rfl,aO g,nbL rfl,d _ .refl⟩⟩
   ·cases b;exact⟨_,rfl,fun C d=>⟨_,rfl,_,rfl,_,rfl,aO g,_,rfl,_,rfl,_,rfl,aO g,nbL rfl,d _ .refl⟩⟩
 ·have e:(Iv (ws.map uw).length).map (fun i=>((ws.map fun w=>uw (uby m w))[i]?).getD .non)=ws.map fun w=>uw (uby m w):=by
   have:=SD.range_getD (ws.map fun w=>uw (uby m w))
   rw[Ii]at this ⊢
   exact this
  dsimp only;rw[e];exact rtn (k p o)
theorem bD:FnScope ["_law_row","_law_shuts","_law_size","_law_way","_law_first","_law_second","_law_below","_law_part","_law_x"] ["_law_row","_law_shuts","_law_size"] (au iP):=by walk_at "sc"
inductive Cn_law_wanted(u v s:D)(M:MH)(Q:DK):Prop
 |mk (r l:Addr) (x c S:Int) (_:u=.ref r) (_:v=.ref l) (_:s=.int S) (_:(0<=S/\S<=14)) (_:r≠l) (_:M r=LA (.lst [.int x,.int c])) (_:0<=c) (_:c<900000) (_:M l=LA (.lst [])) (_:∀x' c' p q m,0<=c'->c'<=c+6->(-m<=p/\p<=15*m)->(-m<=q/\q<=15*m)->(0<m/\m<=4)->Q (.tup [.int p,.int q,.int m]) (ay M r (.lst [.int x',.int c'])))
theorem oV(T:Tx K mg):Cal P w K mg base 2 "_law_wanted" (sD3 Cn_law_wanted):=by
 refine jq (k:=1) T.f_law_wanted bD fun f cdv A outer s H E a=>⟨_,(aj (az 3 bD.nd (ao (aB T).m a (ae (dv 0) (ae af ag)))) (aj (bc (iU (eR (aI (b6 a.units) (dv 3) af) (df (aI (fY a.units) (dv 1) (bI ag))))) (aj (cv (ax (dv 1) (ao (aB T).m a (ae (dv 0) (ae (aS eU rfl T.b_len eV (ae (dv 1) ag)) ag)))) (bJ rfl (aC (aA 4 bD.nd) (aC (aA 5 bD.nd) ba)))) (aj (az 6 bD.nd (aw aJ af (ao (aB T).m a (ae (dv 0) (ae af ag))))) (aj (az 7 bD.nd (ao (aB T).m a (ae (dv 0) (ae (aw aJ (dv 6) af) ag)))) (aj (az 8 bD.nd (aw aJ (aw aG (ax (dv 4) af) (aw cx (dv 6) (dv 7))) (aw aG (ax (dv 5) af) (dv 7)))) (aq lJ))))) aN) (aj (az 6 bD.nd (ax (bI (ae af (ae af (ae af (ae af ag))))) (dv 3))) (aq (aD (aF (ae (aw cx (ao (aB T).m a (ae (dv 0) (ae (aw aG (dv 6) (aw aJ (dv 2) af)) ag))) (aw eJ (dv 6) af)) (ae (aw cx (ao (aB T).m a (ae (dv 0) (ae (aw aG (dv 6) (aw aJ (dv 2) af)) ag))) (aw eJ (dv 6) af)) (ae (dv 6) ag))))))))),fun _ _ _ M Q h=>?_⟩;obtain⟨r,l,x,c,S,rfl,rfl,rfl,hS,g,J,i,L,j,k⟩:=h;refine⟨_,rfl,r,4,x,c,rfl,rfl,J,i,(),⋯,bA ⋯,fun x1 n o q=>?_⟩;have v:(ay M r (.lst [.int x1,.int (c+1)])) l=LA (.lst []):=by rw[ak g.symm];exact j
 (try dsimp only[SD.aX])
 refine bN (fun δ t=>∃(y z B C F:Option D),δ=[LA (.ref r),LA (.ref l),LA (.int S),LA (.int n),y,z,B,C,F]/\t r=LA (.lst [.int x1,.int (c+1)])/\mQ r M t) ?_ (fun G=>?_);rotate_left
 ·refine⟨_,rfl,_,rfl,?_⟩;refine bL (fun h=>?_) (fun h=>fv rfl (G _ _ ⟨_,_,_,_,_,rfl,ai,.same .refl⟩));refine⟨_,rfl,nbL rfl,fun p d=>?_⟩;have b:r≠p:=av ai d;have u:l≠p:=av v d;have N:(ay (ay M r (.lst [.int x1,.int (c+1)])) p (.lst [])) l=LA (.lst []):=by rw[ak u];exact v
  have O:(ay (ay M r (.lst [.int x1,.int (c+1)])) p (.lst [])) r=LA (.lst [.int x1,.int (c+1)]):=by rw[ak b,ai]
  refine⟨_,_,.lst N .nil,.lst ai .nil,rfl,rfl,_,rfl,fv rfl (G _ _ ⟨_,_,_,_,_,rfl,O,.new d (.same .refl)⟩)⟩
 rintro δ t ⟨y,z,B,C,F,rfl,e,R⟩;obtain⟨m,U,hm⟩:=Ma.pick (xs:=[1,1,2,4]) (P:=fun m=>1<=m/\m<=4) o (by simpa using q) ⋯;refine⟨nbL rfl,fun p d=>⟨_,rfl,_,_,ai,U,?_⟩⟩;have b:r≠p:=av e d;have I:Bd 64 m:=by show m.natAbs<2^64;omega
 have hd:0<=m.fdiv 2/\m.fdiv 2<=m:=by rw[J8 _ ⋯];omega
 have b0:=Ip (():0<m) (():0<S+1);have b1:=IF (():S+1<=15) (():0<=m);refine⟨_,rfl,_,rfl,_,rfl,aO I,r,m*(S+1),x1,c+1,rfl,rfl,(by rw[ak b];exact e),(),(),b0,bA (),fun V v2 W X=>?_⟩;refine⟨_,rfl,⟨⋯,bA ⋯⟩,trivial,_,rfl,_,rfl,_,rfl,aO I,r,m*(S+1),V,c+1+1,rfl,rfl,ai,(),(),b0,bA (),fun Y v3 Z a0=>?_⟩;refine⟨_,rfl,⟨⋯,bA ⋯⟩,trivial,_,rfl,nbL rfl,?_⟩;refine⟨ay M r (.lst [.int Y,.int (c+1+1+1)]),?_,k _ _ _ _ _ () () () () ()⟩;simp only[a9];exact .Gf (.new d R)
theorem cR:FnScope ["_law_row","_law_shuts","_law_size","_law_spots","_law_turn_here","_law_told","_law_great","_law_on_here"] ["_law_row","_law_shuts","_law_size"] (au mE):=by walk_at "sc"
inductive Cn_law_pair(u v s:D)(M:MH)(Q:DK):Prop
 |mk (r l:Addr) (x c S:Int) (ws:List Wl) (_:u=.ref r) (_:v=.ref l) (_:s=.int S) (_:(0<=S/\S<=14)) (_:r≠l) (_:M r=LA (.lst [.int x,.int c])) (_:0<=c) (_:c<10000) (_:M l=LA (.lst (ws.map uw))) (_:(∀w∈ws,Un5 w)) (_:ws.length<=40) (_:∀(M':MH) (x' c':Int),M' r=LA (.lst [.int x',.int c'])->0<=c'->c'<=c+30->(∀a o,a≠r->M a=LA o->M' a=LA o)->Q .non M'/\∀(z:Addr) (p q p' q':Int),r≠z->M' z=LA (.lst [.tup [.int p,.int q,.int 4],.tup [.int p',.int q',.int 4]])->(-10<=p/\p<=85)->(-10<=q/\q<=85)->(-10<=p'/\p'<=85)->(-10<=q'/\q'<=85)->(∀k,k<ws.length->¬OnU (wn ws k) 4 p q)->(∀k,k<ws.length->¬OnU (wn ws k) 4 p' q')->Q (.ref z) M')
theorem sN(T:Tx K mg):Cal P w K mg base 3 "_law_pair" (sD3 Cn_law_pair):=by
 refine jq (k:=2) T.f_law_pair cR fun f cdv A outer s H E L=>⟨_,(aj (az 3 cR.nd (bI ag)) (aj (dI IG rfl rfl T.b_range (ae af ag) (aA 4 cR.nd) (aj (az 5 cR.nd (ao (oV T).m L (ae (dv 0) (ae (bI ag) (ae (dv 2) ag))))) (aq (cC (bo (dv 3) (ae (aF (ae (aw eJ (aw aG (ax (dv 5) af) af) (ax (dv 5) af)) (ae (aw eJ (aw aG (ax (dv 5) af) af) (ax (dv 5) af)) (ae af ag)))) ag)))))) (aj (bc (aI (b6 L.units) (ao (aB T).m L (ae (dv 0) (ae af ag))) af) (aq (cv (aF (ae (aw cx (aw aJ (ax (ax (dv 3) af) af) (ao (aB T).m L (ae (dv 0) (ae af ag)))) af) (ae (aw cx (aw aJ (ax (ax (dv 3) af) af) (ao (aB T).m L (ae (dv 0) (ae af ag)))) af) (ae af ag)))) (kX (dv 3) af))) aN) (aj (az 6 cR.nd (ao (qw T).m L (ae (dv 1) (ae af ag)))) (aj (eY 7 cR.nd (CScope.of (xs:=["_law_shut"]) (js:=[3]) rfl) rfl (aV (dv 6)) (fun _ _ _ _=>(uV (iU (uC (cZ (ao (l6 T).m L (ae (dv 0) (ae (d8 (ax (dv 1) af) fK (fL af)) ag)))) (oK (cZ (ao (l6 T).m L (ae (dv 0) (ae (d8 (ax (dv 1) af) fK (fL af)) ag))))))))) (fun _ _ _ _=>(dv 0))) (aj (bc (iU (uC (aI (b6 L.units) (ax (dv 3) af) (ax (dv 3) af)) (oK (aI (fY L.units) (dv 7) (bI ag))))) (aq (aD iM)) aN) (aq (aD (dv 3))))))))),fun _ _ _ M Q h=>?_⟩;obtain⟨r,l,x,c,S,ws,rfl,rfl,rfl,hS,f0,hM,h0,o0,hl,hU,hn,k⟩:=h;refine⟨nbL rfl,fun z Z=>?_⟩;have G:r≠z:=av hM Z;have r0:l≠z:=av hl Z;(try dsimp only[SD.aX])
 refine bN (fun δ y=>∃(N B p q p' q':Int) (V X:Option D),δ=[LA (.ref r),LA (.ref l),LA (.int S),LA (.ref z),V,X,LB,LB]/\y r=LA (.lst [.int N,.int B])/\0<=B/\B<=c+12/\(∀a o,a≠r->M a=LA o->y a=LA o)/\y z=LA (.lst [.tup [.int p,.int q,.int 4],.tup [.int p',.int q',.int 4]])/\(-4<=p/\p<=60)/\(-4<=q/\q<=60)/\(-4<=p'/\p'<=60)/\(-4<=q'/\q'<=60)) ?_ (fun hu=>?_);rotate_left
 ·refine⟨2,rfl,⋯,fun i δ y=>∃(N B:Int) (ps:List (Int×Int)) (V X:Option D),δ=[LA (.ref r),LA (.ref l),LA (.int S),LA (.ref z),V,X,LB,LB]/\y r=LA (.lst [.int N,.int B])/\0<=B/\B<=c+6*(i:Int)/\(∀a o,a≠r->M a=LA o->y a=LA o)/\y z=LA (.lst (ps.map fun t=>.tup [.int t.1,.int t.2,.int 4]))/\ps.length=i/\∀t∈ps,(-4<=t.1/\t.1<=60)/\(-4<=t.2/\t.2<=60),⟨x,c,[],_,_,rfl,(by rw[ak G];exact hM),h0,(),(fun a o _ h=>by rw[ak (av h Z)];exact h),ai,rfl,fun t ht=>by cases ht⟩,?_,?_⟩
  ·rintro i δ M1 hi ⟨N,B,ps,V,X,rfl,C,g0,g1,kp,n,pl,Y⟩;refine⟨_,rfl,nbL rfl,fun e U=>?_⟩;have a0:r≠e:=av C U;refine⟨_,rfl,r,e,N,B,S,rfl,rfl,rfl,hS,a0,(by rw[ak a0];exact C),g0,(),ai,fun x2 c2 p q m a1 a2 a3 a4 a5=>?_⟩;have u:(ay (ay M1 e (.lst [])) r (.lst [.int x2,.int c2])) z=LA (.lst (ps.map fun t=>.tup [.int t.1,.int t.2,.int 4])):=by rw[ak G.symm,ak (av n U)];exact n
   have b0:∀{z:Int},-1000<=z->z<=1000->Bd 64 z:=fun{z} a b=>by show z.natAbs<2^64;omega
   have f4:∀{p:Int},(-m<=p/\p<=15*m)->-4<=(p*4).fdiv m/\(p*4).fdiv m<=60:=fun{p} h=>by
    rw[J8 _ ()]
    have q1:=(Int.le_ediv_iff_mul_le (a:=-4) (b:=p*4) a5.1).mpr ()
    have q2:=(Int.ediv_lt_iff_lt_mul (a:=p*4) (b:=61) a5.1).mpr ()
    omega
   refine⟨_,rfl,z,_,rfl,u,_,rfl,_,rfl,aO (b0 () ()),_,rfl,_,rfl,⟨(),bA ()⟩,_,rfl,_,rfl,aO (b0 () ()),_,rfl,_,rfl,⟨(),bA ()⟩,nbL rfl,_,_,rfl,u,by have:1000<=Ir:=nbL rfl;rw[Ii];omega,?_⟩;refine⟨x2,c2,ps++[((p*4).fdiv m,(q*4).fdiv m)],_,_,rfl,(by rw[ak G,ai]),a1,(),(fun a o F h=>?_),(by rw[ai,IK];rfl),(by rw[JC,pl];rfl),fun t ht=>?_⟩
   ·rw[ak (av h Z),ak F,ak (av (kp a o F h) U)];exact kp a o F h
   ·rcases IL.mp ht with h|h
    ·exact Y t h
    ·rw[Jj]at h;subst h;exact⟨f4 a3,f4 a4⟩
  ·rintro δ M1 ⟨N,B,ps,V,X,rfl,C,g0,g1,kp,n,pl,Y⟩
   revert n Y
   obtain⟨⟨p,q⟩,⟨p',q'⟩,rfl⟩:=vN pl;intro n Y;have t1:=Y (p,q) (by simp);have t2:=Y (p',q') (by simp);exact hu _ _ ⟨N,B,p,q,p',q',_,_,rfl,C,g0,(),kp,n,t1.1,t1.2,t2.1,t2.2⟩
 rintro δ M1 ⟨x1,c1,p,q,p',q',V,X,rfl,C,g0,g1,kp,n,bp,bq,s0,t0⟩;(try dsimp only[SD.aX])
 refine bN (fun δ y=>∃(N B p' q':Int),δ=[LA (.ref r),LA (.ref l),LA (.int S),LA (.ref z),V,X,LB,LB]/\y r=LA (.lst [.int N,.int B])/\0<=B/\B<=c+20/\(∀a o,a≠r->M a=LA o->y a=LA o)/\y z=LA (.lst [.tup [.int p,.int q,.int 4],.tup [.int p',.int q',.int 4]])/\(-10<=p'/\p'<=85)/\(-10<=q'/\q'<=85)) ?_ (fun hu=>?_);rotate_left
 ·refine⟨_,rfl,r,2,x1,c1,rfl,rfl,C,g0,(),⋯,bA ⋯,fun x3 v3 u0 v0=>⟨_,rfl,?_⟩⟩;have O:∀o,(ay M1 r o) z=LA (.lst [.tup [.int p,.int q,.int 4],.tup [.int p',.int q',.int 4]]):=fun o=>by rw[ak G.symm];exact n
  refine bL (fun _=>?_) (fun _=>?_)
  ·refine⟨_,rfl,_,_,O _,rfl,_,rfl,_,rfl,r,9,x3,c1+1,rfl,rfl,ai,(),(),⋯,bA ⋯,fun x4 v4 w0 x0=>?_⟩;rw[a9];refine⟨trivial,_,rfl,_,_,O _,rfl,_,rfl,_,rfl,r,9,x4,c1+1+1,rfl,rfl,ai,(),(),⋯,bA ⋯,fun x5 v5 y0 z0=>?_⟩;rw[a9];refine⟨trivial,nbL rfl,_,rfl,_,1,O _,rfl,?_⟩;refine hu _ _ ⟨x5,c1+1+1+1,p+v4-4,q+v5-4,rfl,(by rw[ak G,ai]),(),(),(fun a o F h=>by rw[ak (av h Z),ak F];exact kp a o F h),ai,(),()⟩
  ·exact hu _ _ ⟨x3,c1+1,p',q',rfl,ai,(),(),(fun a o F h=>by rw[ak F];exact kp a o F h),O _,(),()⟩
 clear C n kp;rintro δ M2 ⟨x2,c2,p',q',rfl,i0,g2,g3,kp,u,c0,d0⟩;have k0:=kp _ _ f0.symm hl;refine⟨_,rfl,4,l,ws,rfl,rfl,k0,bA ⋯,(),fun g hg=>?_⟩;have lg:(ws.map fun w=>uw (uby 4 w)).length=ws.length:=Ii ..;have l0:(ay M2 g (.lst (ws.map fun w=>uw (uby 4 w)))) z=LA (.lst [.tup [.int p,.int q,.int 4],.tup [.int p',.int q',.int 4]]):=by rw[ak (av u hg)];exact u
 refine⟨_,rfl,ws.map fun w=>uw (uby 4 w),ai,uM (fun j=>if onF ws p q p' q' j=LC then LA (uw (uby 4 (wn ws j)))else LB) (by show(ws.map fun w=>uw (uby 4 w)).length<=1000000;rw[lg];omega) (fun p ys hp=>by show(ay _ p _) g=_;rw[ak (av ai hp)];exact ai) ?_ (fun lb m0=>?_)⟩
 ·intro a d M6 F hd R;have hd:(ws.map fun w=>uw (uby 4 w))[a]?=LA d:=hd;have F:a<ws.length:=by have:a<(ws.map fun w=>uw (uby 4 w)).length:=F;omega
  obtain⟨w1,_,w3⟩:=aW (ws:=ws) (k:=(a:Int)) () ();have n0:ws[a]?=LA (wn ws a):=by rw[Jh]at w1;exact w1
  rw[Ie,n0]at hd;cases hd;have W:=yS (hU _ w3);have e0:=R _ _ l0;refine⟨_,rfl,fun K hK=>?_,fun v hv K hK=>?_⟩
  ·have I:K (onF ws p q p' q' a) M6:=by cases z:onF ws p q p' q' a<;>rw[z]at hK<;>exact hK
   unfold onF at I;refine⟨_,rfl,_,rfl,_,_,e0,rfl,_,rfl,⟨xo,?_⟩⟩;refine⟨uby 4 (wn ws a),p,q,rfl,rfl,W,(),(),_,rfl,?_⟩;refine bL (fun h=>?_) (fun h=>?_)
   ·have h':onL (uby 4 (wn ws a)) p q=LC:=h;rw[h',Bool.true_or]at I;exact I
   ·have h':onL (uby 4 (wn ws a)) p q=LD:=eq_false_of_ne_true h;rw[h',Bool.false_or]at I;exact⟨_,rfl,_,rfl,_,_,e0,rfl,_,rfl,xo,uby 4 (wn ws a),p',q',rfl,rfl,W,c0,d0,_,rfl,I⟩
  ·cases z:onF ws p q p' q' a with
   |false=>rw[z]at hv;cases hv
   |true=>
    rw[z]at hv
    cases hv
    exact⟨_,rfl,hK _ .refl⟩
 dsimp only;rw[lg,wy];have off:=Bb hU (p:=p) (q:=q) (p':=p') (q':=q');generalize ((Iv ws.length).filter (onF ws p q p' q')).map (fun j=>uby 4 (wn ws j))=xs at off ⊢;have R:SD.Sub M2 (ay (ay M2 g (.lst (ws.map fun w=>uw (uby 4 w)))) lb (.lst (xs.map uw))):=.new m0 (.new hg .refl);have J:(ay (ay M2 g (.lst (ws.map fun w=>uw (uby 4 w)))) lb (.lst (xs.map uw))) lb=LA (.lst (xs.map uw)):=ai;generalize ay (ay M2 g (.lst (ws.map fun w=>uw (uby 4 w)))) lb (.lst (xs.map uw))=M3 at R J ⊢;have kk:∀y,SD.Sub M3 y->_:=fun y s'=>k y x2 c2 (s' _ _ (R _ _ i0)) g2 () fun a o F h=>s' _ _ (R _ _ (kp a o F h));refine⟨_,rfl,_,_,R _ _ u,rfl,_,rfl,_,_,R _ _ u,rfl,_,_,Pd.of rfl,Pd.of rfl,rfl,rfl,_,rfl,?_⟩;refine bL (fun h=>oI rfl (rtn (kk _ .refl).1)) (fun h=>?_);refine⟨_,rfl,nbL rfl,fun e U=>⟨_,_,.lst (by rw[ak (av J U)];exact J) (tS xs),.lst ai .nil,nq xs,rfl,_,rfl,?_⟩⟩;rw[lT];refine bL (fun h=>rtn (kk _ (.new U .refl)).1) (fun h=>?_);have off:=off (by cases z:xs.isEmpty with|true=>rfl|false=>rw[z]at h;exact absurd rfl h);exact⟨_,rfl,rtn ((kk _ (.new U .refl)).2 z p q p' q' G (by rw[ak (av (R _ _ u) U)];exact R _ _ u) () () c0 d0 off.1 off.2)⟩
theorem dg:FnScope ["plot","corners","wall","end"] ["plot"] (au je):=by walk_at "sc"
inductive Cn_corners_of(x:D)(M:MH)(Q:DK):Prop
 |mk (t b X Y:Int) (ws:List Wl) (_:x=.tup (ws.map (rwl t b X Y))) (_:Scl t b X Y) (_:ws.length<=40) (_:(∀w∈ws,Un5 w)) (_:∀(M':MH) (z:Addr) (ps:List Vc),SD.Sub M M'->M z=LB->M' z=LA (.lst (ps.map (gsp t b X Y)))->ps.Perm (cnr ws ws.length)->ps.Pairwise plt->Q (.ref z) M')
theorem oU(T:Tx K mg):Cal P w K mg base 5 "corners_of" (sD1 Cn_corners_of):=by
 refine f7 (k:=4) T.f_corners_of dg fun f cdv A outer s H E I=>⟨_,(aj (az 1 dg.nd pV) (aj (bX IG rfl (aV (dv 0)) (aA 2 dg.nd) (aq (bX IG rfl (aV (dv 2)) (aA 3 dg.nd) (aq (y9 (lZ I) (dv 1) (ao (iJ T).m I (ae (dv 3) ag)) iz))))) (aq (aD (ao (ig T).m I (ae (cS (qQ rfl) rfl T.b_list tY (ae (dv 1) ag)) ag)))))),fun _ M Q h=>?_⟩;obtain⟨t,b,X,Y,ws,rfl,S,hn,N,k⟩:=h;intro c O;refine⟨_,rfl,ws.map (rwl t b X Y),rfl,?_⟩;refine⟨fun i δ r=>∃(J v:Option D),δ=[LA (.tup (ws.map (rwl t b X Y))),LA (.ref c),J,v]/\SD.Sub M r/\r c=LA (dsM (cdT t b X Y (cnr ws i))),⟨_,_,rfl,.new O .refl,ai⟩,fun i δ r _ q=>rfl,?_,?_⟩
 ·rintro i d δ r hi hd ⟨J,v,rfl,B,g⟩;have hd:(ws.map (rwl t b X Y))[i]?=LA d:=hd;rw[Ie]at hd;cases C:ws[i]? with
  |none=>rw[C]at hd;cases hd
  |some w=>
   rw[C]at hd
   cases hd
   have iw:i<ws.length:=(Iu.mp C).1
   have R:=N w (Il C)
   have lc:=pM ws i
   refine⟨_,rfl,[gsp t b X Y (ea w),gsp t b X Y (eb w)],rfl,?_⟩
   refine⟨fun j δ n=>∃(us:List Vc) (v:Option D),δ=[LA (.tup (ws.map (rwl t b X Y))),LA (.ref c),LA (rwl t b X Y w),v]/\SD.Sub M n/\n c=LA (dsM (cdT t b X Y us))/\us.length<=2*i+j/\(j=0->us=cnr ws i)/\(j=1->us=gI (cnr ws i) (ea w))/\(j=2->us=gI (gI (cnr ws i) (ea w)) (eb w)),⟨cnr ws i,_,rfl,B,g,(),fun _=>rfl,fun h=>(),fun h=>()⟩,fun i δ r _ q=>rfl,?_,?_⟩
   ·rintro j d δ n U hd ⟨us,v,rfl,l,y,lu,V,W,Z⟩;have U:j<2:=U
    obtain⟨u,rfl,bu,hu⟩:∃u,d=gsp t b X Y u/\B20 u/\(j=0->u=ea w)/\(j=1->u=eb w):=by
     have hd:([gsp t b X Y (ea w),gsp t b X Y (eb w)]:List D)[j]?=LA d:=hd;rcases(():j=0\/j=1)with rfl|rfl
     ·cases hd;exact⟨_,rfl,R.ea,fun _=>rfl,fun h=>()⟩
     ·cases hd;exact⟨_,rfl,R.eb,fun h=>(),fun _=>rfl⟩
    refine⟨_,rfl,_,rfl,_,_,rfl,(bu.bx S).mono ⋯,(bu.by' S).mono ⋯,c,_,gk t b X Y u,rfl,tH t b X Y u,y,?_,gI us u,_,rfl,?_,by rw[ai,Ax S.t0 S.b0],by have:=lR us u;omega,fun h=>(),fun h=>?_,fun h=>?_⟩
    ·show(cdT t b X Y us).length<_;unfold cdT;rw[Ii];omega
    ·intro a o h;rw[ak (av h O)];exact l _ _ h
    ·have:j=0:=()
     rw[V this,hu.1 this]
    ·have:j=1:=()
     rw[W this,hu.2 this]
   ·rintro δ n ⟨us,v,rfl,l,y,lu,V,W,Z⟩;refine⟨_,_,rfl,l,?_⟩;rw[y,Z rfl]
    congr 3
    show _=(match ws[i]? with|some w=>gI (gI (cnr ws i) (ea w)) (eb w)|none=>cnr ws i);rw[C]
 ·rintro δ r ⟨J,v,rfl,B,g⟩
  have g:r c=LA (dsM (cdT t b X Y (cnr ws ws.length))):=by
   have e:(ws.map (rwl t b X Y)).length=ws.length:=by simp
   rw[<-e];exact g
  refine⟨_,rfl,.inr ⟨c,_,rfl,g,fun p hp=>?_⟩⟩;have ek:(cdT t b X Y (cnr ws ws.length)).map (fun x=>spD x.1)=(cnr ws ws.length).map (gsp t b X Y):=by unfold cdT;rw[Ko];rfl
  rw[ek];have lc:=pM ws ws.length;refine⟨p,t,b,X,Y,cnr ws ws.length,rfl,ai,S,(),E5 N,sY ws _,fun M2 z ps l G L pm up=>?_⟩;have zp:z≠p:=fun e=>by subst e;rw[ai]at G;cases G
  have F:r z=LB:=by rw[ak zp]at G;exact G
  have zM:M z=LB:=by
   cases e:M z with
   |none=>rfl
   |some o=>rw[B _ _ e]at F;cases F
  exact⟨M2,.refl,k M2 z ps (fun a o h=>l _ _ (by rw[ak (av (B _ _ h) hp)];exact B _ _ h)) zM L pm up⟩
theorem iB:FnScope ["wall","spot","first","second"] ["wall","spot"] (au nK):=by walk_at "sc"
inductive Cn_lies_on(u v:D)(M:MH)(Q:DK):Prop
 |mk (n:Nat) (a b c d x y:Rat) (_:u=LV a b c d) (_:v=Lj x y) (_:LX n a) (_:LX n b) (_:LX n c) (_:LX n d) (_:LX n x) (_:LX n y) (_:n<=1900) (_:Q (.bl (decide (Lc a b c d x y=0/\¬LY x y a b/\¬LY c d x y))) M)
theorem vZ(T:Tx K mg):Cal P w K mg base 4 "lies_on" (sD2 Cn_lies_on):=by
 refine bE (k:=3) T.f_lies_on iB fun f cdv A outer s H E j=>⟨_,(aj (cv (dv 0) (bJ rfl (aC (aA 2 iB.nd) (aC (aA 3 iB.nd) ba)))) (aq (aD (pK (c8 (b6 j.units) (ao (de T).m j (ae (dv 0) (ae (dv 1) ag))) af) (pK (rT (ao (cf T).m j (ae (dv 1) (ae (dv 2) ag)))) (oY (rT (ao (cf T).m j (ae (dv 3) (ae (dv 1) ag)))))))))),fun _ _ M Q h=>?_⟩;obtain⟨n,a,b,c,d,x,y,rfl,rfl,p,r,t,hd,l,o,u,k⟩:=h;have g:∀{q:Rat},LX n q->LX 100000 q:=fun z=>z.mono ();refine⟨_,rfl,_,rfl,rfl,_,_,rfl,_,_,rfl,rfl,?_⟩;(try dsimp only[SD.f6,SD.dC,SD.aX,SD.gN,SD.gn,SD.cY,SD.dU,SD.tBD,SD.gK])
 refine zX (decide (Ld (Lc a b c d x y)=0)) (!decide (LY x y a b)&&!decide (LY c d x y)) (fun K i=>⟨_,rfl,_,rfl,n,a,b,c,d,x,y,rfl,rfl,p,r,t,hd,l,o,u,i⟩) (fun _ K i=>?_) ?_
 ·refine zX (!decide (LY x y a b)) (!decide (LY c d x y)) (fun K i=>⟨_,rfl,_,rfl,x,y,a,b,rfl,rfl,g l,g o,g p,g r,_,rfl,i⟩) (fun _ K i=>⟨_,rfl,_,rfl,c,d,x,y,rfl,rfl,g t,g hd,g l,g o,_,rfl,i⟩) i
 have e:(decide (Ld (Lc a b c d x y)=0)&&(!decide (LY x y a b)&&!decide (LY c d x y)))=decide (Lc a b c d x y=0/\¬LY x y a b/\¬LY c d x y):=by rw[KH,KH,decide_not,decide_not,decide_eq_decide.mpr (Ma.qW _)]
 rw[e];exact rtn k
theorem h8:FnScope ["plot","spot","wall"] ["plot","spot"] (au jt):=by walk_at "sc"
inductive Cn_wall_below(u v:D)(M:MH)(Q:DK):Prop
 |mk (t b X Y:Int) (x y:Rat) (ws:List Wl) (_:u=.tup (ws.map (rwl t b X Y))) (_:v=Lj x y) (_:Scl t b X Y) (_:(∀w∈ws,Un5 w)) (_:PF ws) (_:ws.length<=40) (_:LX 200 x) (_:LX 200 y) (_:(bT t b X Y ws x y=[]->Q .non M)) (_:∀tt∈bT t b X Y ws x y,(∀w∈(bT t b X Y ws x y).map (wAt ws),w=wAt ws tt\/(abv (wAt ws tt) w=LC/\abv w (wAt ws tt)=LD))->Q (.int tt) M)
theorem pS(T:Tx K mg):Cal P w K mg base 7 "wall_below" (sD2 Cn_wall_below):=by
 refine bE (k:=6) T.f_wall_below h8 fun f cdv A outer s H E o=>⟨_,(aj (az 2 h8.nd (ao (ij T).m o (ae (dv 0) (ae (dv 1) ag)))) (aq (aD (gC (aI xD (dv 2) iM) iM (mf (lZ o) (dv 0) (ae (dv 2) ag)))))),fun _ _ M Q h=>?_⟩;obtain⟨t,b,X,Y,x,y,ws,rfl,rfl,S,n,hF,d,q,r,u,k1⟩:=h;refine⟨_,rfl,_,rfl,t,b,X,Y,x,y,ws,rfl,rfl,S,n,hF,d,q,r,(fun v=>?_),(fun a g j=>?_)⟩
 ·exact⟨_,rfl,_,rfl,_,rfl,oI rfl (rtn (u v))⟩
 ·obtain⟨tn,B,t1,_⟩:=dS.mp g;obtain⟨p,C,z⟩:=aW (ws:=ws) (k:=a) () ();refine⟨_,rfl,_,rfl,_,rfl,fv rfl ?_⟩;refine⟨_,rfl,_,rfl,_,rfl,_,rwP t b X Y (wAt ws a),a.toNat,rfl,(by simp;omega),Pd.of rfl,rfl,fun i y D l=>?_,?_⟩
  ·rw[Ie]at l;cases c:ws[i]? with
   |none=>rw[c]at l;cases l
   |some U=>
    rw[c]at l
    cases l
    refine⟨rwP t b X Y U,Pd.of rfl,rfl,?_⟩
    by_cases e:i=a.toNat
    ·subst e;rw[p]at c;cases c;rw[p6,LI rfl]
    ·rw[LH e];exact ye S.t0 S.b0 (n _ (Il c)) (n _ z) (hF i a.toNat _ _ e c p).ne
  ·rw[Int.toNat_of_nonneg ()];exact rtn (k1 a g j)
theorem bG:FnScope ["plot","lands","spot","corners","number","wall","below"] ["plot","lands","spot"] (au eK):=by walk_at "sc"
inductive Cn_look_with_lands(x y s:D)(M:MH)(Q:DK):Prop
 |mk (t b X Y:Int) (ws:List Wl) (lv:Addr) (L:List Int) (p q v:Int) (_:x=.tup (ws.map (rwl t b X Y))) (_:y=.ref lv) (_:s=Lj (LW t b X 4 p) (LW t b Y 4 q)) (_:M lv=LA (.lst (L.map D.int))) (_:L.length=2*ws.length) (_:Scl t b X Y) (_:ws.length<=40) (_:(∀w∈ws,Un5 w)) (_:PF ws) (_:LS ws L 4 p q v) (_:(-10<=p/\p<=85)) (_:(-10<=q/\q<=85)) (_:∀M',SD.Sub M M'->Q (.tup [.str "land",.int v]) M')
theorem i8(T:Tx K mg):Cal P w K mg base 8 "look_with_lands" (sD3 Cn_look_with_lands):=by
 refine jq (k:=7) T.f_look_with_lands bG fun f cdv A outer s H E G=>⟨_,(aj (az 3 bG.nd (ao (oU T).m G (ae (dv 0) ag))) (aj (bc (aI (GC (lZ G)) (dv 2) (dv 3) (by with_unfolding_all rfl)) (aq lJ) aN) (aj (bX IG rfl (wQ rfl T.b_enumerate (ae (dv 0) ag)) (bJ rfl (aC (aA 4 bG.nd) (aC (aA 5 bG.nd) ba))) (aq (bc (cZ (ao (vZ T).m G (ae (dv 5) (ae (dv 2) ag)))) (aq (aD (aF (ae md (ae (dv 4) ag))))) aN))) (aj (az 6 bG.nd (ao (pS T).m G (ae (dv 0) (ae (dv 2) ag)))) (aq (aD (aF (ae md (ae (gC (aI xD (dv 6) iM) af (ax (dv 1) (aw aG af (dv 6)))) ag))))))))),fun _ _ _ M Q h=>?_⟩;obtain⟨t,b,X,Y,ws,lv,L,p,q,v,rfl,rfl,rfl,R,hL,S,hn,I,hF,⟨off,z0,tp⟩,bp,bq,k⟩:=h;refine⟨_,rfl,t,b,X,Y,ws,rfl,S,hn,I,fun M1 z ps sb nz hz pm up=>?_⟩;have l:(0:Int)<4:=⋯
 have bx:=S.bx (m:=4) (p:=p) () ();have by':=S.by' (m:=4) (p:=q) () ()
 refine⟨_,rfl,_,rfl,AG hz (fun u hu x=>?_) ⟨_,rfl,fv rfl ?_⟩⟩
 ·rw[Lh S.t0 S.b0 ⋯ l,Lh S.t0 S.b0 ⋯ l]at x;obtain⟨j,J,jl,n,o⟩:=(pH _).mp (pm.mem_iff.mp hu);have U:wn ws j=J:=by unfold wn wAt;rw[Jh,n];rfl
  refine off j jl ?_;rw[U];refine fH (I J (Il n)) ?_ l;rcases o with rfl|rfl
  ·exact .inl ⟨by have:=x.1;unfold ea at this;omega,by have:=x.2;unfold ea at this;omega⟩
  ·exact .inr ⟨by have:=x.1;unfold eb at this;omega,by have:=x.2;unfold eb at this;omega⟩
 refine⟨_,rfl,_,rfl,fun j δ B=>∃V W Z:Option D,δ=[LA (.tup (ws.map (rwl t b X Y))),LA (.ref lv),LA (Lj (LW t b X 4 p) (LW t b Y 4 q)),LA (.ref z),V,W,Z]/\SD.Sub M B,⟨_,_,_,rfl,sb⟩,fun _ _ _ _ _=>trivial,?_,?_⟩
 ·rintro j e δ B N hd ⟨V,W,Z,rfl,g⟩;have N:j<ws.length:=by have:j<(ws.map (rwl t b X Y)).length:=N;rw[Ii]at this;exact this
  have n:ws[j]?=LA (wn ws j):=by obtain⟨w1,_,_⟩:=aW (ws:=ws) (k:=(j:Int)) () ();rw[Jh]at w1;exact w1
  have o:=aH I N;have of:=off j N;generalize wn ws j=J at n o of;have hd:((ws.map (rwl t b X Y))[j]?).map (fun d=>D.tup [.int (j:Int),d])=LA e:=hd;rw[Ie,n]at hd;cases hd;refine⟨_,rfl,rfl,_,_,rfl,_,_,rfl,rfl,?_⟩;have i:∀z:Int,(0<=z/\z<=20)->(-(10^6)<=z/\z<=10^6):=fun z h=>()
  refine⟨_,rfl,_,rfl,200,_,_,_,_,_,_,rfl,rfl,S.bx ⋯ (i _ o.a),S.by' ⋯ (i _ o.b),S.bx ⋯ (i _ o.c),S.by' ⋯ (i _ o.d),bx,by',⋯,_,rfl,?_⟩;refine fv (LH fun y=>of ((wU J S.t0 S.b0 l).mp y)) ?_;exact⟨_,_,_,rfl,g⟩
 ·rintro δ B ⟨V,W,Z,rfl,g⟩;refine⟨_,rfl,_,rfl,t,b,X,Y,_,_,ws,rfl,rfl,S,I,hF,hn,bx,by',(fun he=>?_),(fun tt a0 C=>?_)⟩
  ·have n:=z0 fun k O y=>by
    have:((k:Nat):Int)∈bT t b X Y ws (LW t b X 4 p) (LW t b Y 4 q):=dS.mpr ⟨k,rfl,O,(oJ S.t0 S.b0 l _ p q).mpr y⟩
    rw[he]at this;cases this
   have kq:=k B g;rw[n]at kq;exact⟨_,rfl,_,rfl,_,rfl,oI rfl ⟨nbL rfl,rtn kq⟩⟩
  ·obtain⟨u,rfl,u1,u2⟩:=dS.mp a0
   have e:=tp u u1 ((oJ S.t0 S.b0 l _ p q).mp u2) fun k O ne y=>by
    rcases C _ (J1.mpr ⟨((k:Nat):Int),dS.mpr ⟨k,rfl,O,(oJ S.t0 S.b0 l _ p q).mpr y⟩,rfl⟩)with r|r
    ·exfalso;have F:=aU hF O u1 ne;have r:wn ws k=wn ws u:=r;exact F.ne ⟨by rw[r],by rw[r]⟩
    ·exact r.1
   refine⟨_,rfl,_,rfl,_,rfl,fv rfl ⟨_,rfl,_,rfl,aO (bA ⋯),_,_,g _ _ R,(by rw[show(2:Int)*((u:Nat):Int)=((2*u:Nat):Int) by omega];exact bZ (v:=D.int v) (by rw[Ie,e];rfl)),nbL rfl,rtn (k B g)⟩⟩
theorem km:FnScope ["plot","spot"] ["plot","spot"] (au gB):=by walk_at "sc"
inductive Cn_look_plainly(x s:D)(M:MH)(Q:DK):Prop
 |mk (t b X Y:Int) (ws:List Wl) (p q v:Int) (_:x=.tup (ws.map (rwl t b X Y))) (_:s=Lj (LW t b X 4 p) (LW t b Y 4 q)) (_:Scl t b X Y) (_:ws.length<=40) (_:(∀w∈ws,Un5 w)) (_:PF ws) (_:(∀L,cU ws L->LS ws L 4 p q v)) (_:(-10<=p/\p<=85)) (_:(-10<=q/\q<=85)) (_:∀M',SD.Sub M M'->Q (.tup [.str "land",.int v]) M')
theorem lH(T:Tx K mg):Cal P w K mg base 10 "look_plainly" (sD2 Cn_look_plainly):=by refine bE (k:=9) T.f_look_plainly km fun f cdv A outer s H E a=>⟨_,(aq (aD (ao (i8 T).m a (ae (dv 0) (ae (ao (fj T).m a (ae (dv 0) ag)) (ae (dv 1) ag)))))),fun _ _ M Q h=>?_⟩;obtain⟨t,b,X,Y,ws,p,q,v,rfl,rfl,S,c,d,hF,g,i,j,k⟩:=h;refine⟨_,rfl,_,rfl,t,b,X,Y,ws,rfl,S,c,d,hF,fun u z L l nz n e=>?_⟩;exact⟨_,rfl,t,b,X,Y,ws,z,L,p,q,v,rfl,rfl,rfl,n,e.len,S,c,d,hF,g L e,i,j,fun o r=>rtn (k o (SD.Sub.trans l r))⟩
theorem cQ:FnScope ["_law_scale_here","_law_told","_law_top","_law_bottom","_law_x","_law_y","_law_many"] ["_law_scale_here","_law_told"] (au mC):=by walk_at "sc"
inductive Cn_law_real(s v:D)(M:MH)(Q:DK):Prop
 |mk (t b x y p q m:Int) (_:s=scl t b x y) (_:v=.tup [.int p,.int q,.int m]) (_:Scl t b x y) (_:(-(10^9)<=p/\p<=10^9)) (_:(-(10^9)<=q/\q<=10^9)) (_:(0<m/\m<=10^9)) (_:Q (Lj (LW t b x m p) (LW t b y m q)) M)
theorem sO(T:Tx K mg):Cal P w K mg base 2 "_law_real" (sD2 Cn_law_real):=by
 refine bE (k:=1) T.f_law_real cQ fun f cdv A outer s H E g=>⟨_,(aj (cv (dv 0) (bJ rfl (aC (aA 2 cQ.nd) (aC (aA 3 cQ.nd) (aC (aA 4 cQ.nd) (aC (aA 5 cQ.nd) ba)))))) (aj (az 6 cQ.nd (ax (dv 1) af)) (aq (aD (aF (ae (ao (gS T).m g (ae (aw aJ (aw aG (ax (dv 1) af) (dv 2)) (aw aG (dv 4) (dv 6))) (ae (aw aG (dv 3) (dv 6)) ag))) (ae (ao (gS T).m g (ae (aw aJ (aw aG (ax (dv 1) af) (dv 2)) (aw aG (dv 5) (dv 6))) (ae (aw aG (dv 3) (dv 6)) ag))) ag))))))),fun _ _ M Q h=>?_⟩;obtain⟨t,b,x,y,p,q,m,rfl,rfl,S,i,j,l,k⟩:=h;have o:Bd 100 t:=by have:=S.t0;have:=S.t1;show t.natAbs<2^100;omega
 have a:Bd 64 m:=by show m.natAbs<2^64;omega
 have e:∀{z:Int},(-(10^9)<=z/\z<=10^9)->Bd 64 z:=fun{z} h=>by show z.natAbs<2^64;omega
 have r:Bd 100 b:=by have:=S.b0;have:=S.b1;show b.natAbs<2^100;omega
 have big:∀{z w:Int},(-(10^9)<=z/\z<=10^9)->(-(10^30)<=w/\w<=10^30)->Bd 8000 (z*t+w*m):=fun{z w} u v=>by
  have e1:Bd 200 (z*t):=((e u).mul o).mono ⋯
  have e2:Bd 200 (w*m):=(Bd.mul (m:=100) (n:=64) (by show w.natAbs<2^100;omega) a).mono ⋯
  exact(e1.add e2).mono ⋯
 have c:b*m≠0:=by have:=Ip S.b0 l.1;omega
 have d:Bd 8000 (b*m):=(r.mul a).mono ⋯;refine⟨_,rfl,_,rfl,rfl,_,_,rfl,_,_,rfl,_,_,rfl,_,_,rfl,rfl,?_⟩;refine⟨_,rfl,_,rfl,?_⟩;refine⟨_,rfl,_,rfl,_,rfl,aO (e i),_,rfl,_,rfl,fU a,_,rfl,_,rfl,fU a,p*t+x*m,b*m,rfl,rfl,c,big i ⟨S.x0,S.x1⟩,d,?_⟩;refine⟨_,rfl,_,rfl,_,rfl,aO (e j),_,rfl,_,rfl,fU a,_,rfl,_,rfl,fU a,q*t+y*m,b*m,rfl,rfl,c,big j ⟨S.y0,S.y1⟩,d,nbL rfl,?_⟩;exact rtn k
theorem cK:FnScope ["_law_great","_law_one","_law_other","_law_found","_law_at","_law_first","_law_second","_law_sides","_law_ends"] ["_law_great","_law_one","_law_other"] (au nS):=by walk_at "sc"
inductive Cn_law_met(u v w:D)(M:MH)(Q:DK):Prop
 |mk (l:Addr) (vs:List Wl) (p q p' q':Int) (_:u=.ref l) (_:v=.tup [.int p,.int q]) (_:w=.tup [.int p',.int q']) (_:M l=LA (.lst (vs.map uw))) (_:vs.length<=40) (_:(∀v∈vs,W8 v)) (_:(-10<=p/\p<=85)) (_:(-10<=q/\q<=85)) (_:(-10<=p'/\p'<=85)) (_:(-10<=q'/\q'<=85)) (_:∀(z:Addr),M z=LB->Q (.ref z) (ay M z (.lst ((mts vs (p,q,p',q')).map mtD))))
theorem vL(T:Tx K mg):Cal P w K mg base 2 "_law_met" (sD3 Cn_law_met):=by
 refine jq (k:=1) T.f_law_met cK fun f cdv A outer s H E r=>⟨_,(aj (az 3 cK.nd (bI ag)) (aj (bX IG rfl (Bh rfl T.b_enumerate (ae (dv 0) ag)) (bJ rfl (aC (aA 4 cK.nd) (aC (bJ rfl (aC (aA 5 cK.nd) (aC (aA 6 cK.nd) ba))) ba))) (aj (az 7 cK.nd (aw aG (ao (cu T).m r (ae (dv 5) (ae (dv 6) (ae (dv 1) ag)))) (ao (cu T).m r (ae (dv 5) (ae (dv 6) (ae (dv 2) ag)))))) (aj (az 8 cK.nd (aw aG (ao (cu T).m r (ae (dv 1) (ae (dv 2) (ae (dv 5) ag)))) (ao (cu T).m r (ae (dv 1) (ae (dv 2) (ae (dv 6) ag)))))) (aq (bc (iU (eR (aI (dP r.units) (dv 7) af) (df (aI (dP r.units) (dv 8) af)))) (aq (cC (bo (dv 3) (ae (aF (ae (dv 4) (ae iz ag))) ag)))) (aq (bc (iU (eR (aI (oR r.units) (dv 7) af) (df (aI (oR r.units) (dv 8) af)))) (aq (cC (bo (dv 3) (ae (aF (ae (dv 4) (ae iz ag))) ag)))) aN))))))) (aq (aD (dv 3))))),fun _ _ _ M Q h=>?_⟩;obtain⟨l,vs,p,q,g,i,rfl,rfl,rfl,S,hl,hW,W,X,y,C,k⟩:=h;have t:∀{z:Int},(0<=z/\z<=80)->Bd 10 z:=fun{z} h=>by show z.natAbs<2^10;omega
 have u:∀{z:Int},(-10<=z/\z<=85)->Bd 10 z:=fun{z} h=>by show z.natAbs<2^10;omega
 refine⟨nbL rfl,fun z Y=>?_⟩;have G:l≠z:=av S Y;have Z:∀o,(ay M z o) l=LA (.lst (vs.map uw)):=fun o=>by rw[ak G];exact S
 refine⟨_,rfl,l,vs.map uw,rfl,Z _,fun j δ F=>∃(I J L N O:Option D),δ=[LA (.ref l),LA (.tup [.int p,.int q]),LA (.tup [.int g,.int i]),LA (.ref z),I,J,L,N,O]/\F=ay M z (.lst (((Iv j).filterMap (mtI vs (p,q,g,i))).map mtD)),⟨_,_,_,_,_,rfl,rfl⟩,fun j δ F _ q=>by obtain⟨_,_,_,_,_,_,rfl⟩:=q;exact Z _,?_,?_⟩
 ·rintro j d δ F hj hd ⟨I,J,L,N,O,rfl,rfl⟩;have hj:j<vs.length:=by have:j<(vs.map uw).length:=hj;rw[Ii]at this;exact this
  have hd:((vs.map uw)[j]?).map (fun d=>D.tup [.int (j:Int),d])=LA d:=hd;obtain⟨w1,_,w3⟩:=aW (ws:=vs) (k:=(j:Int)) () ();have ev:vs[j]?=LA (wn vs j):=by rw[Jh]at w1;exact w1
  have V:=hW _ w3;have n:=fun A B ha hb=>Bu (V:=wn vs j) (U:=(p,q,g,i)) (A:=A) (B:=B) ha hb;have V:W8 (wn vs j):=V;have R:mtI vs (p,q,g,i) j=(mtB (wn vs j) (p,q,g,i)).map fun b=>(j,b):=rfl;generalize wn vs j=v at ev V n R;rw[Ie,ev]at hd;cases hd;refine⟨_,rfl,rfl,_,_,rfl,_,_,rfl,_,rfl,rfl,_,_,rfl,_,_,rfl,rfl,rfl,?_⟩;refine⟨_,rfl,_,rfl,_,rfl,v.1,v.2.1,v.2.2.1,v.2.2.2,p,q,rfl,rfl,rfl,t V.1,t V.2.1,t V.2.2.1,t V.2.2.2,_,rfl,_,rfl,_,rfl,v.1,v.2.1,v.2.2.1,v.2.2.2,g,i,rfl,rfl,rfl,t V.1,t V.2.1,t V.2.2.1,t V.2.2.2,aO (uj _),?_⟩;refine⟨_,rfl,_,rfl,_,rfl,p,q,g,i,v.1,v.2.1,rfl,rfl,rfl,u W,u X,u y,u C,_,rfl,_,rfl,_,rfl,p,q,g,i,v.2.2.1,v.2.2.2,rfl,rfl,rfl,u W,u X,u y,u C,aO (uj _),?_⟩;(try dsimp only[SD.f6,SD.dC,SD.aX,SD.gN,SD.gn,SD.cY,SD.dU,SD.tBD,SD.gK])
  generalize ea:Ij (crs (v.2.2.1-v.1) (v.2.2.2-v.2.1) (p-v.1) (q-v.2.1))*Ij (crs (v.2.2.1-v.1) (v.2.2.2-v.2.1) (g-v.1) (i-v.2.1))=a;generalize eb:Ij (crs (g-p) (i-q) (v.1-p) (v.2.1-q))*Ij (crs (g-p) (i-q) (v.2.2.1-p) (v.2.2.2-q))=b;have n:=n a b ea eb;have ap:∀(c:Bool),mtB v (p,q,g,i)=LA c->((Iv (j+1)).filterMap (mtI vs (p,q,g,i))).map mtD=((Iv j).filterMap (mtI vs (p,q,g,i))).map mtD++[.tup [.int (j:Int),.bl c]]:=fun c e=>by rw[JE,KC,IK,List.filterMap_cons_some (b:=(j,c)) (by rw[R,e];rfl)];rfl
  have ln:(((Iv j).filterMap (mtI vs (p,q,g,i))).map mtD).length<=40:=by
   rw[Ii]
   have:=List.length_filterMap_le (mtI vs (p,q,g,i)) (Iv j)
   rw[List.length_range]at this
   omega
  refine rL (decide (a<0)) (decide (b<0)) (fun K x=>⟨_,rfl,trivial,_,rfl,x⟩) (fun _ K x=>⟨_,rfl,trivial,_,rfl,x⟩) ?_;refine bL (fun h=>?_) (fun h=>?_)
  ·rw[LG h]at n;refine⟨_,rfl,z,_,rfl,ai,_,rfl,nbL rfl,_,_,rfl,ai,by have:1000<=Ir:=nbL rfl;omega,?_⟩;refine⟨_,_,_,_,_,rfl,?_⟩;rw[a9,ap _ n]
  ·rw[LF h]at n;(try dsimp only[SD.f6,SD.dC,SD.aX,SD.gN,SD.gn,SD.cY,SD.dU,SD.tBD,SD.gK])
   refine rL (decide (a<=0)) (decide (b<=0)) (fun K x=>⟨_,rfl,trivial,_,rfl,x⟩) (fun _ K x=>⟨_,rfl,trivial,_,rfl,x⟩) ?_;refine bL (fun h=>?_) (fun h=>?_)
   ·rw[LG h]at n;refine⟨_,rfl,z,_,rfl,ai,_,rfl,nbL rfl,_,_,rfl,ai,by have:1000<=Ir:=nbL rfl;omega,?_⟩;refine⟨_,_,_,_,_,rfl,?_⟩;rw[a9,ap _ n]
   ·rw[LF h]at n;refine⟨_,_,_,_,_,rfl,?_⟩;rw[JE,KC,List.filterMap_cons_none (by rw[R,n];rfl),List.filterMap_nil,Jv]
 ·rintro δ F ⟨I,J,L,N,O,rfl,rfl⟩;refine⟨_,rfl,rtn ?_⟩;have e:(vs.map uw).length=vs.length:=Ii ..;show Q _ (ay M z (.lst (((Iv (vs.map uw).length).filterMap _).map mtD)));rw[e];exact k z Y
theorem cn:FnScope ["_law_script","_law_k","_law_row","_law_scale_here","_law_shuts","_law_size","_law_plot","_law_faces","_law_great","_law_turn_here","_law_pair_here","_law_lands","_law_met_here","_law_shut","_law_left"] ["_law_script"] (au BJ):=by walk_at "sc"
inductive Cn_law(x:D)(M:MH)(Q:DK):Prop
 |mk (ns:_) (hh0:x=.rol (JI D.int ns)) (hh1:ns.length<=63) (hh2:∀M',Q (.bl LC) M'):Cn_law x M Q
def jT:SpD:=fun a M Q=>match a with
 |[x]=>Cn_law x M Q
 |_=>False
theorem EG:∀a M Q,jT a M Q->a.length=1:=fun a M Q h=>by
 unfold jT at h;split at h
 ·rfl
 ·exact h.elim
theorem GP{P:IH}{w:J5}{K:H0}{mg:Str->Option HY}{fa:Addr}(T:Tx K mg)(k1:mg "law"=LA (.ref fa)):∃fd,(∀(s:HZ) (u:HY),BindsTo s fd ⟨[u],[]⟩ [("_law_script",u)])/\∀base:Heap,FnOk P w K mg base CX0 11 fa fd ["_law_script"] (iE K jT):=by
 refine Hq (k:=10) (N:=["_law_script","_law_k","_law_row","_law_scale_here","_law_shuts","_law_size","_law_plot","_law_faces","_law_great","_law_turn_here","_law_pair_here","_law_lands","_law_met_here","_law_shut","_law_left"]) T.f_law k1 cn (fun _ _ _ _ _ _ us hl=>by obtain⟨_,rfl⟩:=SD.AK hl;rfl) EG fun base f cdv A outer s H E G=>⟨_,(aj (dI IG rfl rfl T.b_range (ae (aS (pP rfl G.units) rfl T.b_max rJ (ae af (ae (aS (pG rfl G.units) rfl T.b_min rH (ae af (ae (aS eU rfl T.b_len eV (ae (dv 0) ag)) ag))) ag))) ag) (aA 1 cn.nd) (aj (az 2 cn.nd (bI (ae (ao (m9 T).m G (ae (dv 0) (ae (dv 1) ag))) (ae af ag)))) (aj (az 3 cn.nd (ao (qD T).m G (ae (dv 2) ag))) (aj (az 4 cn.nd (ao (jw T).m G (ae (dv 2) (ae af (ae af ag))))) (aj (az 5 cn.nd af) (aj (bc (aI (b6 G.units) (ao (aB T).m G (ae (dv 2) (ae af ag))) af) (aj (az 4 cn.nd (ao (vR T).m G (ae (dv 2) ag))) (aq (az 5 cn.nd af))) aN) (aj (az 6 cn.nd (ao (tm T).m G (ae (dv 3) (ae (dv 4) ag)))) (aj (az 7 cn.nd (ao (fj T).m G (ae (dv 6) ag))) (aj (az 8 cn.nd (ao (qw T).m G (ae (dv 4) (ae af ag)))) (aq (dI IG rfl rfl T.b_range (ae af ag) (aA 9 cn.nd) (aj (az 10 cn.nd (ao (sN T).m G (ae (dv 2) (ae (dv 4) (ae (dv 5) ag))))) (aq (bc (aI yr (dv 10) iM) (aj (eY 11 cn.nd (CScope.of (xs:=["_law_told"]) (js:=[6,3]) rfl) rfl (aV (dv 10)) (fun _ _ _ _=>cX) (fun _ _ _ _=>(ao (lH T).m G (ae (dv 1) (ae (ao (sO T).m G (ae (dv 2) (ae (dv 0) ag))) ag))))) (aj (az 12 cn.nd (ao (vL T).m G (ae (dv 8) (ae (d8 (ax (dv 10) af) fK (fL af)) (ae (d8 (ax (dv 10) af) fK (fL af)) ag))))) (aj (bc (iU (eR (aI (b6 G.units) (dv 12) (bI ag)) (df (iU (uC (aI (fY G.units) (ax (dv 11) af) (ax (dv 11) af)) (oK (aI (fY G.units) (ax (ax (dv 11) af) af) md))))))) (aq (aD iz)) aN) (aq (bc (iU (eR (aI (b6 G.units) (aS eU rfl T.b_len eV (ae (dv 12) ag)) af) (df (cZ (ax (ax (dv 12) af) af))))) (aj (az 13 cn.nd (ax (ax (dv 12) af) af)) (aj (az 14 cn.nd (cS oP rfl T.b_int oZ (ae (c8 (dP G.units) (ao (cu T).m G (ae (ax (ax (dv 8) (dv 13)) af) (ae (ax (ax (dv 8) (dv 13)) af) (ae (d8 (ax (dv 10) af) fK (fL af)) ag)))) af) ag))) (aq (bc (aI (fY G.units) (dv 11) (bI (ae (aF (ae md (ae (ax (dv 7) (aw aJ (aw aG af (dv 13)) (dv 14))) ag))) (ae (aF (ae md (ae (ax (dv 7) (aw cx (aw aJ (aw aG af (dv 13)) af) (dv 14))) ag))) ag)))) (aq (aD iz)) aN)))) aN))))) aN)))))))))))))) (aq (aD iz))),fun ds M Q h=>?r⟩
 case r=>
  unfold jT at h
  split at h
  case h_2=>exact h.elim
  obtain⟨ns,rfl,hl,k⟩:=h
  refine⟨_,rfl,(max 1 (min 3 (((JI D.int ns).length:Nat):Int))).toNat,?_,(),fun i δ M=>∃o1 o2 o3 o4 o5 o6 o7 o8 o9 I J O B C,δ=[LA (.rol (JI D.int ns)),o1,o2,o3,o4,o5,o6,o7,o8,o9,I,J,O,B,C],⟨_,_,_,_,_,_,_,_,_,_,_,_,_,_,rfl⟩,?_,fun _ _ _=>rtn (k _)⟩
  ·rw[Int.toNat_of_nonneg ()]
  rintro i δ M hi ⟨o1,o2,o3,o4,o5,o6,o7,o8,o9,I,J,O,B,C,rfl⟩
  refine⟨_,rfl,_,rfl,ns,i,rfl,rfl,(),fun z=>⟨nbL rfl,fun n t2=>?_⟩⟩
  refine⟨_,rfl,n,z,0,rfl,ai,⋯,⋯,fun x1 c1 t b y R S h1 h2=>?_⟩
  refine⟨_,rfl,n,x1,c1,10,rfl,rfl,⋯,rfl,ai,h1,(),fun M2 x2 c2 l0 m1 a0 w0 x0 g0 g1 g2 g3 g4=>?_⟩
  (try dsimp only[SD.aX])
  refine bN (fun δ F=>δ=[LA (.rol (JI D.int ns)),LA (.int (i:Int)),LA (.ref n),LA (scl t b y R),LA (.ref l0),LA (.int 5),o6,o7,o8,o9,I,J,O,B,C]/\F=M2) ?_ (fun hu=>hu _ _ ⟨rfl,rfl⟩)
  rintro δ v2 ⟨rfl,rfl⟩
  refine bN (fun δ F=>∃(l:Addr) (ws:List Wl) (x' c' z:Int),δ=[LA (.rol (JI D.int ns)),LA (.int (i:Int)),LA (.ref n),LA (scl t b y R),LA (.ref l),LA (.int z),o6,o7,o8,o9,I,J,O,B,C]/\(0<=z/\z<=14)/\F n=LA (.lst [.int x',.int c'])/\F l=LA (.lst (ws.map uw))/\n≠l/\0<=c'/\c'<=400/\ws.length<=19/\(∀w∈ws,Un5 w)/\PF ws) ?_ (fun hu=>?_)
  rotate_left
  ·refine⟨_,rfl,n,3,x2,c2,rfl,rfl,w0,g0,(),⋯,bA ⋯,fun x3 v3 w2 y2=>⟨_,rfl,?_⟩⟩;refine bL (fun _=>?_) (fun _=>?_)
   ·exact⟨_,rfl,n,x3,c2+1,rfl,ai,(),(),fun M4 x4 c4 l ws d0 n1 p1 r1 z2 q1 q2 q3=>hu _ _ ⟨l,ws,x4,c4,14,rfl,⋯,n1,p1,d0,r1,(),q1,q2,q3⟩⟩
   ·exact hu _ _ ⟨l0,m1,x3,c2+1,5,rfl,⋯,ai,(by rw[ak a0.symm];exact x0),a0,(),(),(),g3,g4⟩
  clear w0 x0 g0 g1 g2 g3 g4 a0
  rintro δ M3 ⟨l,ws,x3,c3,zs,rfl,s1,e0,c0,d0,t1,a3,lw,hU,hF⟩
  have hW:∀w∈ws,Uok (10^6) w:=fun w hw=>by
   have h:=hU w hw
   have U:∀z:Int,(0<=z/\z<=20)->(-(10^6)<=z/\z<=10^6):=fun z h=>()
   exact⟨U _ h.a,U _ h.b,U _ h.c,U _ h.d⟩
  refine⟨_,rfl,_,rfl,t,b,y,R,l,ws,rfl,rfl,c0,S,(),hW,?_⟩
  refine⟨_,rfl,t,b,y,R,ws,rfl,S,(),hU,hF,fun M4 zL L V fz n0 il=>?_⟩
  have u1:n≠zL:=av e0 fz
  refine⟨_,rfl,4,l,ws,rfl,rfl,V _ _ c0,bA ⋯,(),fun g hg=>?_⟩
  have y0:n≠g:=av (V _ _ e0) hg
  rw[show(ws.map fun w=>uw (uby 4 w))=(ws.map (uby 4)).map uw by rw[Ko];rfl]
  have lv:(ws.map (uby 4)).length=ws.length:=Ii ..
  refine⟨4,rfl,⋯,fun j δ F=>∃(x c:Int) (o9 I J O B C:Option D),δ=[LA (.rol (JI D.int ns)),LA (.int (i:Int)),LA (.ref n),LA (scl t b y R),LA (.ref l),LA (.int zs),LA (.tup (ws.map (rwl t b y R))),LA (.ref zL),LA (.ref g),o9,I,J,O,B,C]/\F n=LA (.lst [.int x,.int c])/\0<=c/\c<=400+30*(j:Int)/\F l=LA (.lst (ws.map uw))/\F zL=LA (.lst (L.map D.int))/\F g=LA (.lst ((ws.map (uby 4)).map uw)),⟨x3,c3,_,_,_,_,_,_,rfl,(by rw[ak y0];exact V _ _ e0),t1,(),(by rw[ak (av (V _ _ c0) hg)];exact V _ _ c0),(by rw[ak (av n0 hg)];exact n0),ai⟩,?_,fun δ F q=>by obtain⟨_,_,_,_,_,_,_,_,rfl,_⟩:=q;exact⟨_,_,_,_,_,_,_,_,_,_,_,_,_,_,rfl⟩⟩
  clear n0 V e0 c0 hg
  rintro j δ M5 hj ⟨x5,c5,o9,I,J,O,B,C,rfl,v1,y1,b3,z0,z1,d2⟩
  refine⟨_,rfl,_,rfl,_,rfl,n,l,x5,c5,zs,ws,rfl,rfl,rfl,s1,d0,v1,y1,(),z0,hU,(),fun M6 x6 c6 f2 i2 e3 kp=>?_⟩
  have j2:=kp _ _ d0.symm z0
  have o0:=kp _ _ u1.symm z1
  have f0:=kp _ _ y0.symm d2
  have nx:∀F,SD.Sub M6 F->∀(o9 I J O B C:Option D),∃(x c:Int) (p9 k2 m2 n2 p2 r2:Option D),[LA (.rol (JI D.int ns)),LA (.int (i:Int)),LA (.ref n),LA (scl t b y R),LA (.ref l),LA (.int zs),LA (.tup (ws.map (rwl t b y R))),LA (.ref zL),LA (.ref g),o9,I,J,O,B,C]=[LA (.rol (JI D.int ns)),LA (.int (i:Int)),LA (.ref n),LA (scl t b y R),LA (.ref l),LA (.int zs),LA (.tup (ws.map (rwl t b y R))),LA (.ref zL),LA (.ref g),p9,k2,m2,n2,p2,r2]/\F n=LA (.lst [.int x,.int c])/\0<=c/\c<=400+30*((j+1:Nat):Int)/\F l=LA (.lst (ws.map uw))/\F zL=LA (.lst (L.map D.int))/\F g=LA (.lst ((ws.map (uby 4)).map uw)):=fun F s' o9 I J O B C=>⟨x6,c6,_,_,_,_,_,_,rfl,s' _ _ f2,i2,(),s' _ _ j2,s' _ _ o0,s' _ _ f0⟩
  refine⟨⟨_,rfl,_,rfl,_,rfl,fv rfl (nx _ .refl _ _ _ _ _ _)⟩,fun zp p q p' q' u2 X bp bq d1 r0 off f1=>⟨_,rfl,_,rfl,_,rfl,oI rfl ?_⟩⟩
  obtain⟨v,v',hL,k0,m0⟩:=r9 hU hF il bq r0 off f1
  refine⟨_,rfl,_,X,comp_map (fun i=>([ld v,ld v'][i]?).getD .non) (nbL rfl) (fun q ys hq=>by show(ay _ q _) zp=_;rw[ak (av X hq)];exact X) ?_ (fun pl s2=>?_)⟩
  ·intro i d M7 hi hd Y;have hi:i<2:=hi;rcases(():i=0\/i=1)with rfl|rfl
   ·cases hd;exact⟨_,rfl,fun K hK=>⟨_,rfl,_,rfl,_,rfl,t,b,y,R,p,q,4,rfl,rfl,S,(),(),⋯,t,b,y,R,ws,p,q,v,rfl,rfl,S,(),hU,hF,(fun L' s0=>(hL L' s0).1),bp,bq,fun F sb=>hK F sb⟩⟩
   ·cases hd;exact⟨_,rfl,fun K hK=>⟨_,rfl,_,rfl,_,rfl,t,b,y,R,p',q',4,rfl,rfl,S,(),(),⋯,t,b,y,R,ws,p',q',v',rfl,rfl,S,(),hU,hF,(fun L' s0=>(hL L' s0).2),d1,r0,fun F sb=>hK F sb⟩⟩
  show aX 11 (D.ref pl) _ (ay M6 pl (.lst [ld v,ld v'])) _
  have Y:=SD.Sub.new (o:=.lst [ld v,ld v']) s2 .refl
  have t0:(ay M6 pl (.lst [ld v,ld v'])) pl=LA (.lst [ld v,ld v']):=ai
  generalize ay M6 pl (.lst [ld v,ld v'])=M7 at Y t0 ⊢
  refine⟨_,rfl,_,rfl,_,_,Y _ _ X,rfl,_,rfl,xo,_,rfl,_,_,Y _ _ X,rfl,_,rfl,xo,g,ws.map (uby 4),p,q,p',q',rfl,rfl,rfl,Y _ _ f0,(),(fun v hv=>?_),bp,bq,d1,r0,fun zm i1=>?_⟩
  ·obtain⟨w,hw,rfl⟩:=J1.mp hv;exact yS (hU w hw)
  generalize mts (ws.map (uby 4)) (p,q,p',q')=ms at k0 m0
  have j1:=SD.Sub.trans Y (SD.Sub.new (o:=.lst (ms.map mtD)) i1 .refl)
  have h0:(ay M7 zm (.lst (ms.map mtD))) pl=LA (.lst [ld v,ld v']):=by rw[ak (av t0 i1)];exact t0
  have i0:(ay M7 zm (.lst (ms.map mtD))) zm=LA (.lst (ms.map mtD)):=ai
  generalize ay M7 zm (.lst (ms.map mtD))=M8 at j1 h0 i0 ⊢
  (try dsimp only[SD.aX])
  refine bN (fun δ F=>δ=[LA (.rol (JI D.int ns)),LA (.int (i:Int)),LA (.ref n),LA (scl t b y R),LA (.ref l),LA (.int zs),LA (.tup (ws.map (rwl t b y R))),LA (.ref zL),LA (.ref g),LA (.int (j:Int)),LA (.ref zp),LA (.ref pl),LA (.ref zm),B,C]/\SD.Sub M8 F) ?_ (fun hu=>?_)
  rotate_left
  ·refine⟨_,rfl,nbL rfl,fun e he=>⟨_,_,.lst (by rw[ak (av i0 he)];exact i0) (wM ms),.lst ai .nil,vq ms,rfl,_,rfl,?_⟩⟩;have Z:(ay M8 e (.lst [])) pl=LA (.lst [ld v,ld v']):=by rw[ak (av h0 he)];exact h0
   rw[rE];refine bL (fun h=>?_) (fun h=>fv rfl (hu _ _ ⟨rfl,.new he .refl⟩));have ev:=k0 (List.isEmpty_iff.mp h);subst ev;refine⟨_,rfl,_,_,Z,rfl,_,rfl,_,_,Z,rfl,Fv ⟨_,rfl,fv rfl ?_⟩⟩;exact⟨_,rfl,_,_,Z,rfl,_,rfl,Fl ⟨_,rfl,fv rfl (hu _ _ ⟨rfl,.new he .refl⟩)⟩⟩
  rintro δ M9 ⟨rfl,u0⟩
  have v0:=u0 _ _ i0
  have Z:=u0 _ _ h0
  have y:=SD.Sub.trans j1 u0
  refine⟨_,rfl,_,v0,_,rfl,?_⟩
  refine bL (fun h=>?_) (fun h=>fv rfl (nx _ y _ _ _ _ _ _))
  obtain⟨s,b0,rfl⟩:∃s b0,ms=[(s,b0)]:=by have h:((ms.map mtD).length:Int)=1:=LJ h;rw[Ii]at h;obtain⟨x,rfl⟩:=List.length_eq_one_iff.mp (():ms.length=1);exact⟨x.1,x.2,rfl⟩
  refine⟨_,rfl,_,_,v0,rfl,_,rfl,_,rfl,?_⟩
  cases b0 with
  |false=>exact fv rfl (nx _ y _ _ _ _ _ _)
  |true=>
   refine oI rfl ?_
   obtain⟨sl,b',b1,b2,e1,e2⟩:=m0 s rfl
   refine⟨_,rfl,_,_,v0,rfl,_,rfl,?_⟩
   obtain⟨w1,_,w3⟩:=aW (ws:=ws) (k:=(s:Int)) () ()
   have ew:ws[s]?=LA (wn ws s):=by rw[Jh]at w1;exact w1
   have W:=yS (hU _ w3)
   have W:W8 (uby 4 (wn ws s)):=W
   have ea:atI ((ws.map (uby 4)).map uw) (s:Int)=LA (uw (uby 4 (wn ws s))):=bZ (by rw[Ie,Ie,ew];rfl)
   have b8:∀{z:Int},(0<=z/\z<=80)->Bd 10 z:=fun{z} h=>by show z.natAbs<2^10;omega
   refine⟨_,rfl,_,rfl,_,_,y _ _ f0,ea,_,rfl,_,rfl,_,rfl,_,_,y _ _ f0,ea,_,rfl,_,rfl,_,_,y _ _ X,rfl,_,rfl,xo,_,_,_,_,p,q,rfl,rfl,rfl,b8 W.1,b8 W.2.1,b8 W.2.2.1,b8 W.2.2.2,trivial,?_⟩
   have el:=Df b1 b2
   have a1:atI (L.map D.int) (2*(s:Int)+(if decide (Ij (sd (uby 4 (wn ws s)) p q)<0)=LC then(1:Int)else 0))=LA (.int v):=by rw[el,show 2*(s:Int)+(b':Int)=((2*s+b':Nat):Int) by omega];exact bZ (by rw[Ie,e1];rfl)
   have a2:atI (L.map D.int) (2*(s:Int)+1-(if decide (Ij (sd (uby 4 (wn ws s)) p q)<0)=LC then(1:Int)else 0))=LA (.int v'):=by rw[el,show 2*(s:Int)+1-(b':Int)=((2*s+(1-b'):Nat):Int) by omega];exact bZ (by rw[Ie,e2];rfl)
   refine⟨_,rfl,_,rfl,_,rfl,aO (bA ⋯),_,rfl,_,_,y _ _ o0,a1,nbL rfl,?_⟩
   refine⟨_,rfl,_,rfl,aO (bA ⋯),_,rfl,trivial,_,_,y _ _ o0,a2,nbL rfl,nbL rfl,fun e he=>?_⟩
   exact Er (by rw[ak (av Z he)];exact Z) ai ⟨_,rfl,fv rfl (nx _ (SD.Sub.trans y (.new he .refl)) _ _ _ _ _ _)⟩
theorem C1(ns:List Int)(M:MH)(h:ns.length<=63):jT [.rol (ns.map D.int)] M (fun d _=>d=.bl LC):=⟨ns,rfl,h,fun _=>rfl⟩
def kE(P:IS)(n:String)(k:Nat)(v:HY):Jt:={ hash:=PyData.keyHash P (JQ n),key:=.str (JQ n) k,val:=v }
def kF(i:Nat)(n m:String)(k c:Nat):Obj:={ cls:=.type "function",data:=.func { name:=JQ n,qualname:=JQ n,params:=cz (top i),body:=.stmts (bg (top i)),scope:=au (top i),globals:=↑3,closure:=[],defaults:=.none,kwdefaults:=.none,pyModule:=.str (JQ m) k,code:=.ref c } }
def kD0(P:IS):List Jt:=[kE P "__name__" ↑165 (.str "law_spotlook_k26_whole_lands_are_joined" 570),kE P "__doc__" ↑166 (.none),kE P "__package__" ↑167 (.none),kE P "__loader__" ↑168 (.builtin "__main__.__loader__#opaque"),kE P "__spec__" ↑169 (.none),kE P "__annotations__" ↑170 (.ref ↑6),kE P "__builtins__" ↑171 (.ref ↑4),kE P "__file__" ↑173 (.str "/claim/cut.py" 172)]
def kD1(P:IS):List Jt:=[kE P "__cached__" ↑174 (.none),kE P "SpotError" ↑206 (.ref ↑24),kE P "NoFraction" ↑222 (.ref ↑37),kE P "greatest_divisor" ↑232 (.ref ↑46),kE P "fraction" ↑241 (.ref ↑53),kE P "is_less" ↑249 (.ref ↑60),kE P "common_bottom" ↑258 (.ref ↑67),kE P "top_over" ↑266 (.ref ↑74)]
def kD2(P:IS):List Jt:=[kE P "is_ahead" ↑276 (.ref ↑81),kE P "later_of" ↑284 (.ref ↑88),kE P "earlier_of" ↑292 (.ref ↑95),kE P "place_among" ↑303 (.ref ↑102),kE P "ahead_first" ↑312 (.ref ↑109),kE P "own_spot" ↑321 (.ref ↑116),kE P "own_wall" ↑328 (.ref ↑123),kE P "gap" ↑336 (.ref ↑130)]
def kD3(P:IS):List Jt:=[kE P "lean" ↑354 (.ref ↑137),kE P "side_of" ↑363 (.ref ↑144),kE P "lies_on" ↑373 (.ref ↑151),kE P "spans" ↑383 (.ref ↑158),kE P "is_above" ↑395 (.ref ↑165),kE P "upper_of" ↑404 (.ref ↑172),kE P "upper_below" ↑410 (.ref ↑177),kE P "face_ends" ↑422 (.ref ↑184)]
def kD4(P:IS):List Jt:=[kE P "faces_by_start" ↑431 (.ref ↑191),kE P "is_met_sooner" ↑443 (.ref ↑198),kE P "face_behind" ↑457 (.ref ↑205),kE P "ring_from" ↑468 (.ref ↑212),kE P "rings_of" ↑481 (.ref ↑219),kE P "twice_area" ↑487 (.ref ↑224),kE P "outer_and_inner" ↑499 (.ref ↑231),kE P "first_corner" ↑509 (.ref ↑238)]
def kD5(P:IS):List Jt:=[kE P "land_about" ↑519 (.ref ↑245),kE P "lands_of_faces" ↑525 (.ref ↑250),kE P "corners_of" ↑537 (.ref ↑257),kE P "wall_below" ↑548 (.ref ↑264),kE P "look_plainly" ↑556 (.ref ↑271),kE P "look_with_lands" ↑569 (.ref ↑278),kE P "_law_cell_at" ↑579 (.ref ↑285),kE P "_law_take" ↑589 (.ref ↑292)]
def kD6(P:IS):List Jt:=[kE P "_law_low" ↑599 (.ref ↑299),kE P "_law_scale" ↑609 (.ref ↑306),kE P "_law_spot" ↑621 (.ref ↑313),kE P "_law_made" ↑627 (.ref ↑318),kE P "_law_turn" ↑639 (.ref ↑325),kE P "_law_on" ↑647 (.ref ↑332),kE P "_law_fair" ↑653 (.ref ↑337),kE P "_law_shuts_here" ↑659 (.ref ↑342)]
def kD7(P:IS):List Jt:=[kE P "_law_wanted" ↑674 (.ref ↑349),kE P "_law_real" ↑687 (.ref ↑356),kE P "_law_by" ↑693 (.ref ↑361),kE P "_law_box" ↑699 (.ref ↑366),kE P "_law_order" ↑709 (.ref ↑373),kE P "_law_set" ↑715 (.ref ↑378),kE P "_law_pair" ↑721 (.ref ↑383),kE P "_law_met" ↑736 (.ref ↑390)]
def kD8(P:IS):List Jt:=[kE P "law" ↑742 (.ref ↑395)]
def kG(P:IS):Obj:={ cls:=.type "dict",data:=.dict (Jr (kD0 P++(kD1 P++(kD2 P++(kD3 P++(kD4 P++(kD5 P++(kD6 P++(kD7 P++(kD8 P)))))))))) 65 }
def kCo(n:String)(h:Nat)(i:Nat)(j:Nat)(k:Nat)(l:Nat)(m:Nat)(a:Nat)(b:Nat)(c:Nat)(d:Nat)(e:Nat)(f:Nat)(g:Nat):Obj:={ cls:=.type "code",data:=.fields #[.str (JQ n) h,.str (JQ n) i,.str "/claim/cut.py" j,.int (L3 k) 0,.int (L3 l) 0,.int 0 0,.int 0 0,.int 3 0,.ref m,.bool LC,.int 181 0,.ref a,.none,.ref b,.ref c,.ref d,.int (L3 e) 0,.int (L3 f) 0,.str "/claim/cut.py" g] }
def kN(l:List Obj)(i:Nat):Obj:=l.getD i { cls:=.none,data:=.dict #[] }
def zzD(n q:Str)(a b c l k f r:Nat)(t:Bool)(s:Nat)(x y z:HY)(d e:Nat):Obj:={ cls:=.type "code",data:=.fields #[.str n a,.str q b,.str "/claim/cut.py" c,.int l 0,.int k 0,.int 0 0,.int 0 0,.int f 0,.ref r,.bool t,.int 181 0,.ref s,.none,x,y,z,.int d 0,.int l 0,.str "/claim/cut.py" e] }
def zzK(n:Str)(s g a i j:Nat):Obj:={ cls:=.type "type",data:=.cls { name:=n,bases:=[.ref 24],mro:=[.ref s,.ref 24,.type "ValueError",.type "Exception",.type "BaseException",.type "object"],ns:=g,qualname:=n,hasDict:=LC,slotNames:=[],subclasses:=[],abstract:=LD,collection:=LB,hasDel:=LD },slots:=#[LA (.ref a),LB,LA (.str n i),LA (.str n j),LA (.builtin "ValueError.__new__"),LA (.bool LC)] }
def zzR(n:Str)(s g a i j:Nat):Obj:={ cls:=.type "type",data:=.cls { name:=n,bases:=[.ref ↑24],mro:=[.ref s,.ref ↑24,.type "ValueError",.type "Exception",.type "BaseException",.type "object"],ns:=g,qualname:=n,hasDict:=LC,slotNames:=[],subclasses:=[],abstract:=LD,collection:=LB,hasDel:=LD },slots:=#[LA (.ref a),LB,LA (.str n i),LA (.str n j),LA (.builtin "ValueError.__new__"),LA (.bool LC)] }
def zzN:HY:=.str "law_spotlook_k26_whole_lands_are_joined" 570
def zzF(i:Nat)(n:String)(c:Nat):Obj:=kF i n "law_spotlook_k26_whole_lands_are_joined" ↑570 c
def kL0:List Obj:=[kCo "greatest_divisor" ↑225 ↑226 ↑227 ↑7 ↑2 ↑40 ↑41 ↑42 ↑43 ↑44 ↑230 ↑7 ↑231,kF ↑4 "greatest_divisor" "spotlook.fractions" ↑223 ↑45,kCo "fraction" ↑233 ↑234 ↑235 ↑11 ↑2 ↑47 ↑48 ↑49 ↑50 ↑51 ↑239 ↑11 ↑240,kF ↑5 "fraction" "spotlook.fractions" ↑223 ↑52,kCo "is_less" ↑242 ↑243 ↑244 ↑18 ↑2 ↑54 ↑55 ↑56 ↑57 ↑58 ↑247 ↑18 ↑248,kF ↑6 "is_less" "spotlook.fractions" ↑223 ↑59,kCo "common_bottom" ↑250 ↑251 ↑252 ↑20 ↑1 ↑61 ↑62 ↑63 ↑64 ↑65 ↑256 ↑20 ↑257,kF ↑7 "common_bottom" "spotlook.fractions" ↑223 ↑66]
def kL1:List Obj:=[kCo "top_over" ↑259 ↑260 ↑261 ↑25 ↑2 ↑68 ↑69 ↑70 ↑71 ↑72 ↑264 ↑25 ↑265,kF ↑8 "top_over" "spotlook.fractions" ↑223 ↑73,kCo "is_ahead" ↑269 ↑270 ↑271 ↑28 ↑2 ↑75 ↑76 ↑77 ↑78 ↑79 ↑274 ↑28 ↑275,kF ↑10 "is_ahead" "spotlook.spots" ↑267 ↑80,kCo "later_of" ↑277 ↑278 ↑279 ↑32 ↑2 ↑82 ↑83 ↑84 ↑85 ↑86 ↑282 ↑32 ↑283,kF ↑11 "later_of" "spotlook.spots" ↑267 ↑87,kCo "earlier_of" ↑285 ↑286 ↑287 ↑34 ↑2 ↑89 ↑90 ↑91 ↑92 ↑93 ↑290 ↑34 ↑291,kF ↑12 "earlier_of" "spotlook.spots" ↑267 ↑94]
def kL2:List Obj:=[kCo "place_among" ↑293 ↑294 ↑295 ↑36 ↑2 ↑96 ↑97 ↑98 ↑99 ↑100 ↑301 ↑36 ↑302,kF ↑13 "place_among" "spotlook.spots" ↑267 ↑101,kCo "ahead_first" ↑304 ↑305 ↑306 ↑45 ↑1 ↑103 ↑104 ↑105 ↑106 ↑107 ↑310 ↑45 ↑311,kF ↑14 "ahead_first" "spotlook.spots" ↑267 ↑108,kCo "own_spot" ↑313 ↑314 ↑315 ↑50 ↑1 ↑110 ↑111 ↑112 ↑113 ↑114 ↑319 ↑50 ↑320,kF ↑15 "own_spot" "spotlook.spots" ↑267 ↑115,kCo "own_wall" ↑322 ↑323 ↑324 ↑53 ↑1 ↑117 ↑118 ↑119 ↑120 ↑121 ↑326 ↑53 ↑327,kF ↑16 "own_wall" "spotlook.spots" ↑267 ↑122]
def kL3:List Obj:=[kCo "gap" ↑329 ↑330 ↑331 ↑55 ↑2 ↑124 ↑125 ↑126 ↑127 ↑128 ↑334 ↑55 ↑335,kF ↑17 "gap" "spotlook.spots" ↑267 ↑129,kCo "lean" ↑337 ↑338 ↑339 ↑57 ↑2 ↑131 ↑132 ↑133 ↑134 ↑135 ↑352 ↑57 ↑353,kF ↑18 "lean" "spotlook.spots" ↑267 ↑136,kCo "side_of" ↑355 ↑356 ↑357 ↑63 ↑2 ↑138 ↑139 ↑140 ↑141 ↑142 ↑361 ↑63 ↑362,kF ↑19 "side_of" "spotlook.spots" ↑267 ↑143,kCo "lies_on" ↑364 ↑365 ↑366 ↑70 ↑2 ↑145 ↑146 ↑147 ↑148 ↑149 ↑371 ↑70 ↑372,kF ↑20 "lies_on" "spotlook.spots" ↑267 ↑150]
def kL4:List Obj:=[kCo "spans" ↑376 ↑377 ↑378 ↑74 ↑2 ↑152 ↑153 ↑154 ↑155 ↑156 ↑381 ↑74 ↑382,kF ↑22 "spans" "spotlook.above" ↑374 ↑157,kCo "is_above" ↑384 ↑385 ↑386 ↑76 ↑2 ↑159 ↑160 ↑161 ↑162 ↑163 ↑393 ↑76 ↑394,kF ↑23 "is_above" "spotlook.above" ↑374 ↑164,kCo "upper_of" ↑396 ↑397 ↑398 ↑84 ↑1 ↑166 ↑167 ↑168 ↑169 ↑170 ↑402 ↑84 ↑403,kF ↑24 "upper_of" "spotlook.above" ↑374 ↑171,(zzD "upper_below" "upper_below" 405 406 407 90 2 3 173 LC 174 .none .none (.ref 175) 408 409),kF ↑25 "upper_below" "spotlook.above" ↑374 ↑176]
def kL5:List Obj:=[kCo "face_ends" ↑413 ↑414 ↑415 ↑94 ↑2 ↑178 ↑179 ↑180 ↑181 ↑182 ↑420 ↑94 ↑421,kF ↑27 "face_ends" "spotlook.rings" ↑411 ↑183,kCo "faces_by_start" ↑423 ↑424 ↑425 ↑97 ↑1 ↑185 ↑186 ↑187 ↑188 ↑189 ↑429 ↑97 ↑430,kF ↑28 "faces_by_start" "spotlook.rings" ↑411 ↑190,kCo "is_met_sooner" ↑432 ↑433 ↑434 ↑102 ↑4 ↑192 ↑193 ↑194 ↑195 ↑196 ↑441 ↑102 ↑442,kF ↑29 "is_met_sooner" "spotlook.rings" ↑411 ↑197,kCo "face_behind" ↑444 ↑445 ↑446 ↑108 ↑3 ↑199 ↑200 ↑201 ↑202 ↑203 ↑455 ↑108 ↑456,kF ↑30 "face_behind" "spotlook.rings" ↑411 ↑204]
def kL6:List Obj:=[kCo "ring_from" ↑458 ↑459 ↑460 ↑116 ↑3 ↑206 ↑207 ↑208 ↑209 ↑210 ↑466 ↑116 ↑467,kF ↑31 "ring_from" "spotlook.rings" ↑411 ↑211,kCo "rings_of" ↑469 ↑470 ↑471 ↑123 ↑1 ↑213 ↑214 ↑215 ↑216 ↑217 ↑479 ↑123 ↑480,kF ↑32 "rings_of" "spotlook.rings" ↑411 ↑218,(zzD "twice_area" "twice_area" 482 483 484 134 2 3 220 LC 221 .none .none (.ref 222) 485 486),kF ↑33 "twice_area" "spotlook.rings" ↑411 ↑223,kCo "outer_and_inner" ↑490 ↑491 ↑492 ↑144 ↑1 ↑225 ↑226 ↑227 ↑228 ↑229 ↑497 ↑144 ↑498,kF ↑35 "outer_and_inner" "spotlook.lands" ↑488 ↑230]
def kL7:List Obj:=[kCo "first_corner" ↑500 ↑501 ↑502 ↑152 ↑2 ↑232 ↑233 ↑234 ↑235 ↑236 ↑507 ↑152 ↑508,kF ↑36 "first_corner" "spotlook.lands" ↑488 ↑237,kCo "land_about" ↑510 ↑511 ↑512 ↑157 ↑3 ↑239 ↑240 ↑241 ↑242 ↑243 ↑517 ↑157 ↑518,kF ↑37 "land_about" "spotlook.lands" ↑488 ↑244,(zzD "lands_of_faces" "lands_of_faces" 520 521 522 160 1 3 246 LC 247 .none .none (.ref 248) 523 524),kF ↑38 "lands_of_faces" "spotlook.lands" ↑488 ↑249,kCo "corners_of" ↑528 ↑529 ↑530 ↑173 ↑1 ↑251 ↑252 ↑253 ↑254 ↑255 ↑535 ↑173 ↑536,kF ↑40 "corners_of" "spotlook.plots" ↑526 ↑256]
def kL8:List Obj:=[kCo "wall_below" ↑540 ↑541 ↑542 ↑180 ↑2 ↑258 ↑259 ↑260 ↑261 ↑262 ↑546 ↑180 ↑547,kF ↑42 "wall_below" "spotlook.plain" ↑538 ↑263,kCo "look_plainly" ↑549 ↑550 ↑551 ↑183 ↑2 ↑265 ↑266 ↑267 ↑268 ↑269 ↑554 ↑183 ↑555,kF ↑43 "look_plainly" "spotlook.plain" ↑538 ↑270,kCo "look_with_lands" ↑557 ↑558 ↑559 ↑185 ↑3 ↑272 ↑273 ↑274 ↑275 ↑276 ↑567 ↑185 ↑568,kF ↑44 "look_with_lands" "spotlook.plain" ↑538 ↑277,kCo "_law_cell_at" ↑572 ↑573 ↑574 ↑195 ↑2 ↑279 ↑280 ↑281 ↑282 ↑283 ↑577 ↑195 ↑578,zzF ↑46 "_law_cell_at" ↑284]
def kL9:List Obj:=[kCo "_law_take" ↑580 ↑581 ↑582 ↑199 ↑2 ↑286 ↑287 ↑288 ↑289 ↑290 ↑587 ↑199 ↑588,zzF ↑47 "_law_take" ↑291,kCo "_law_low" ↑590 ↑591 ↑592 ↑208 ↑2 ↑293 ↑294 ↑295 ↑296 ↑297 ↑597 ↑208 ↑598,zzF ↑48 "_law_low" ↑298,kCo "_law_scale" ↑600 ↑601 ↑602 ↑216 ↑1 ↑300 ↑301 ↑302 ↑303 ↑304 ↑607 ↑216 ↑608,zzF ↑49 "_law_scale" ↑305,kCo "_law_spot" ↑610 ↑611 ↑612 ↑222 ↑2 ↑307 ↑308 ↑309 ↑310 ↑311 ↑619 ↑222 ↑620,zzF ↑50 "_law_spot" ↑312]
def kL10:List Obj:=[(zzD "_law_made" "_law_made" 622 623 624 225 2 3 314 LC 315 .none .none (.ref 316) 625 626),zzF ↑51 "_law_made" ↑317,kCo "_law_turn" ↑628 ↑629 ↑630 ↑227 ↑3 ↑319 ↑320 ↑321 ↑322 ↑323 ↑637 ↑227 ↑638,zzF ↑52 "_law_turn" ↑324,kCo "_law_on" ↑640 ↑641 ↑642 ↑232 ↑2 ↑326 ↑327 ↑328 ↑329 ↑330 ↑645 ↑232 ↑646,zzF ↑53 "_law_on" ↑331,(zzD "_law_fair" "_law_fair" 648 649 650 234 2 3 333 LC 334 .none .none (.ref 335) 651 652),zzF ↑54 "_law_fair" ↑336]
def kL11:List Obj:=[(zzD "_law_shuts_here" "_law_shuts_here" 654 655 656 244 3 3 338 LC 339 .none .none (.ref 340) 657 658),zzF ↑55 "_law_shuts_here" ↑341,kCo "_law_wanted" ↑660 ↑661 ↑662 ↑255 ↑3 ↑343 ↑344 ↑345 ↑346 ↑347 ↑672 ↑255 ↑673,zzF ↑56 "_law_wanted" ↑348,kCo "_law_real" ↑675 ↑676 ↑677 ↑265 ↑2 ↑350 ↑351 ↑352 ↑353 ↑354 ↑685 ↑265 ↑686,zzF ↑57 "_law_real" ↑355,(zzD "_law_by" "_law_by" 688 689 690 269 2 3 357 LC 358 .none .none (.ref 359) 691 692),zzF ↑58 "_law_by" ↑360]
def kL12:List Obj:=[(zzD "_law_box" "_law_box" 694 695 696 271 2 3 362 LC 363 .none .none (.ref 364) 697 698),zzF ↑59 "_law_box" ↑365,kCo "_law_order" ↑700 ↑701 ↑702 ↑275 ↑2 ↑367 ↑368 ↑369 ↑370 ↑371 ↑707 ↑275 ↑708,zzF ↑60 "_law_order" ↑372,(zzD "_law_set" "_law_set" 710 711 712 280 1 3 374 LC 375 .none .none (.ref 376) 713 714),zzF ↑61 "_law_set" ↑377,(zzD "_law_pair" "_law_pair" 716 717 718 295 3 3 379 LC 380 .none .none (.ref 381) 719 720),zzF ↑62 "_law_pair" ↑382]
def kL13:List Obj:=[kCo "_law_met" ↑722 ↑723 ↑724 ↑307 ↑3 ↑384 ↑385 ↑386 ↑387 ↑388 ↑734 ↑307 ↑735,zzF ↑63 "_law_met" ↑389,(zzD "law" "law" 737 738 739 317 1 3 391 LC 392 .none .none (.ref 393) 740 741),zzF ↑64 "law" ↑394]
def kK:IS->H0:=fun P=>(↑3,kG P)::(↑45,kN kL0 ↑0)::(↑46,kN kL0 ↑1)::(↑52,kN kL0 ↑2)::(↑53,kN kL0 ↑3)::(↑59,kN kL0 ↑4)::(↑60,kN kL0 ↑5)::(↑66,kN kL0 ↑6)::(↑67,kN kL0 ↑7)::(↑73,kN kL1 ↑0)::(↑74,kN kL1 ↑1)::(↑80,kN kL1 ↑2)::(↑81,kN kL1 ↑3)::(↑87,kN kL1 ↑4)::(↑88,kN kL1 ↑5)::(↑94,kN kL1 ↑6)::(↑95,kN kL1 ↑7)::(↑101,kN kL2 ↑0)::(↑102,kN kL2 ↑1)::(↑108,kN kL2 ↑2)::(↑109,kN kL2 ↑3)::(↑115,kN kL2 ↑4)::(↑116,kN kL2 ↑5)::(↑122,kN kL2 ↑6)::(↑123,kN kL2 ↑7)::(↑129,kN kL3 ↑0)::(↑130,kN kL3 ↑1)::(↑136,kN kL3 ↑2)::(↑137,kN kL3 ↑3)::(↑143,kN kL3 ↑4)::(↑144,kN kL3 ↑5)::(↑150,kN kL3 ↑6)::(↑151,kN kL3 ↑7)::(↑157,kN kL4 ↑0)::(↑158,kN kL4 ↑1)::(↑164,kN kL4 ↑2)::(↑165,kN kL4 ↑3)::(↑171,kN kL4 ↑4)::(↑172,kN kL4 ↑5)::(↑176,kN kL4 ↑6)::(↑177,kN kL4 ↑7)::(↑183,kN kL5 ↑0)::(↑184,kN kL5 ↑1)::(↑190,kN kL5 ↑2)::(↑191,kN kL5 ↑3)::(↑197,kN kL5 ↑4)::(↑198,kN kL5 ↑5)::(↑204,kN kL5 ↑6)::(↑205,kN kL5 ↑7)::(↑211,kN kL6 ↑0)::(↑212,kN kL6 ↑1)::(↑218,kN kL6 ↑2)::(↑219,kN kL6 ↑3)::(↑223,kN kL6 ↑4)::(↑224,kN kL6 ↑5)::(↑230,kN kL6 ↑6)::(↑231,kN kL6 ↑7)::(↑237,kN kL7 ↑0)::(↑238,kN kL7 ↑1)::(↑244,kN kL7 ↑2)::(↑245,kN kL7 ↑3)::(↑249,kN kL7 ↑4)::(↑250,kN kL7 ↑5)::(↑256,kN kL7 ↑6)::(↑257,kN kL7 ↑7)::(↑263,kN kL8 ↑0)::(↑264,kN kL8 ↑1)::(↑270,kN kL8 ↑2)::(↑271,kN kL8 ↑3)::(↑277,kN kL8 ↑4)::(↑278,kN kL8 ↑5)::(↑284,kN kL8 ↑6)::(↑285,kN kL8 ↑7)::(↑291,kN kL9 ↑0)::(↑292,kN kL9 ↑1)::(↑298,kN kL9 ↑2)::(↑299,kN kL9 ↑3)::(↑305,kN kL9 ↑4)::(↑306,kN kL9 ↑5)::(↑312,kN kL9 ↑6)::(↑313,kN kL9 ↑7)::(↑317,kN kL10 ↑0)::(↑318,kN kL10 ↑1)::(↑324,kN kL10 ↑2)::(↑325,kN kL10 ↑3)::(↑331,kN kL10 ↑4)::(↑332,kN kL10 ↑5)::(↑336,kN kL10 ↑6)::(↑337,kN kL10 ↑7)::(↑341,kN kL11 ↑0)::(↑342,kN kL11 ↑1)::(↑348,kN kL11 ↑2)::(↑349,kN kL11 ↑3)::(↑355,kN kL11 ↑4)::(↑356,kN kL11 ↑5)::(↑360,kN kL11 ↑6)::(↑361,kN kL11 ↑7)::(↑365,kN kL12 ↑0)::(↑366,kN kL12 ↑1)::(↑372,kN kL12 ↑2)::(↑373,kN kL12 ↑3)::(↑377,kN kL12 ↑4)::(↑378,kN kL12 ↑5)::(↑382,kN kL12 ↑6)::(↑383,kN kL12 ↑7)::(↑389,kN kL13 ↑0)::(↑390,kN kL13 ↑1)::(↑394,kN kL13 ↑2)::(↑395,kN kL13 ↑3)::[]
end QQ
noncomputable section
namespace QQ
open PySem L2
inductive Tg{A:Type}(a:A):Type where|mk:Tg a
noncomputable def pk{A:Type}{a:A}(_:Tg a):A:=a
noncomputable def hE(P:IS)(n:Str)(k:Nat)(v:HY):Jt:={ hash:=PyData.keyHash P n,key:=.str n k,val:=v }
noncomputable def zzM(k:Nat)(l:List Jt):Obj:={ cls:=.type "dict",data:=.dict (Jr l) k }
noncomputable def zzE:HY:=.str "spotlook.errors" 187
noncomputable def kU(s:Stmt)(n q:Str)(g:Nat)(m c:HY):L9:={ name:=n,qualname:=q,params:=cz s,body:=.stmts (bg s),scope:=au s,globals:=g,closure:=[],defaults:=.none,kwdefaults:=.none,pyModule:=m,code:=c }
noncomputable def kC(s:Stmt)(i:Nat):Stmt:=match s with
 |.ClassDef (body:=b) ..=>b.getD i (.Pass ⟨0,0,0,0⟩)
 |s=>s
noncomputable def kTu(l:List HY):Obj:={ cls:=.type "tuple",data:=.seq l.toArray 0 }
noncomputable def kFd(l:List HY):Obj:={ cls:=.none,data:=.fields l.toArray }
local macro_rules | `(tactic| walk_at "st") => `(tactic| (intro t; (conv at t => (arg 1; whnf)); exact pk (.mk : type_of% t)))
local macro_rules | `(⇑$n:num) => `((by refine' (?_ : Tg (top $n) → Stmt) .mk; walk_at "st" : Stmt))
noncomputable def st0:Stmt:=⇑0
noncomputable def st1:Stmt:=⇑1
noncomputable def st2:Stmt:=⇑2
noncomputable def st3:Stmt:=⇑3
noncomputable def st4:Stmt:=⇑4
noncomputable def st5:Stmt:=⇑5
noncomputable def st6:Stmt:=⇑6
noncomputable def st7:Stmt:=⇑7
noncomputable def st8:Stmt:=⇑8
noncomputable def st9:Stmt:=⇑9
noncomputable def st10:Stmt:=⇑10
noncomputable def st11:Stmt:=⇑11
noncomputable def st12:Stmt:=⇑12
noncomputable def st13:Stmt:=⇑13
noncomputable def st14:Stmt:=⇑14
noncomputable def st15:Stmt:=⇑15
noncomputable def st16:Stmt:=⇑16
noncomputable def st17:Stmt:=⇑17
noncomputable def st18:Stmt:=⇑18
noncomputable def st19:Stmt:=⇑19
noncomputable def st20:Stmt:=⇑20
noncomputable def st21:Stmt:=⇑21
noncomputable def st22:Stmt:=⇑22
noncomputable def st23:Stmt:=⇑23
noncomputable def st24:Stmt:=⇑24
noncomputable def st25:Stmt:=⇑25
noncomputable def st26:Stmt:=⇑26
noncomputable def st27:Stmt:=⇑27
noncomputable def st28:Stmt:=⇑28
noncomputable def st29:Stmt:=⇑29
noncomputable def st30:Stmt:=⇑30
noncomputable def st31:Stmt:=⇑31
noncomputable def st32:Stmt:=⇑32
noncomputable def st33:Stmt:=⇑33
noncomputable def st34:Stmt:=⇑34
noncomputable def st35:Stmt:=⇑35
noncomputable def st36:Stmt:=⇑36
noncomputable def st37:Stmt:=⇑37
noncomputable def st38:Stmt:=⇑38
noncomputable def st39:Stmt:=⇑39
noncomputable def st40:Stmt:=⇑40
noncomputable def st41:Stmt:=⇑41
noncomputable def st42:Stmt:=⇑42
noncomputable def st43:Stmt:=⇑43
noncomputable def st44:Stmt:=⇑44
noncomputable def st45:Stmt:=⇑45
noncomputable def st46:Stmt:=⇑46
noncomputable def st47:Stmt:=⇑47
noncomputable def st48:Stmt:=⇑48
noncomputable def st49:Stmt:=⇑49
noncomputable def st50:Stmt:=⇑50
noncomputable def st51:Stmt:=⇑51
noncomputable def st52:Stmt:=⇑52
noncomputable def st53:Stmt:=⇑53
noncomputable def st54:Stmt:=⇑54
noncomputable def st55:Stmt:=⇑55
noncomputable def st56:Stmt:=⇑56
noncomputable def st57:Stmt:=⇑57
noncomputable def st58:Stmt:=⇑58
noncomputable def st59:Stmt:=⇑59
noncomputable def st60:Stmt:=⇑60
noncomputable def st61:Stmt:=⇑61
noncomputable def st62:Stmt:=⇑62
noncomputable def st63:Stmt:=⇑63
noncomputable def st64:Stmt:=⇑64
noncomputable def scp:Kv:=by refine'(?_:Tg (IV.main.scope)->Kv) .mk;walk_at "st"
noncomputable def fil:Str:=by refine'(?_:Tg (IV.main.file)->Str) .mk;walk_at "st"
noncomputable def giv:Given:=by refine'(?_:Tg (IV.given)->Given) .mk;walk_at "st"
noncomputable def pq4:List Stmt:=st64::[]
noncomputable def pq3:List Stmt:=st48::st49::st50::st51::st52::st53::st54::st55::st56::st57::st58::st59::st60::st61::st62::st63::pq4
noncomputable def pq2:List Stmt:=st32::st33::st34::st35::st36::st37::st38::st39::st40::st41::st42::st43::st44::st45::st46::st47::pq3
noncomputable def pq1:List Stmt:=st16::st17::st18::st19::st20::st21::st22::st23::st24::st25::st26::st27::st28::st29::st30::st31::pq2
noncomputable def pw2:IH:={ main:={ body:=st0::st1::st2::st3::st4::st5::st6::st7::st8::st9::st10::st11::st12::st13::st14::st15::pq1,scope:=scp,futureAnnotations:=LD,file:=fil,more:=[] },modules:=[],parses:=[],absent:=[],harvested:=[],given:=giv }
noncomputable def vq3:List Stmt:=st57::st58::st59::st60::st61::st62::st63::st64::[]
noncomputable def vq2:List Stmt:=st38::st40::st42::st43::st44::st46::st47::st48::st49::st50::st51::st52::st53::st54::st55::st56::vq3
noncomputable def vq1:List Stmt:=st19::st20::st22::st23::st24::st25::st27::st28::st29::st30::st31::st32::st33::st35::st36::st37::vq2
noncomputable def vw:IH:={ pw2 with main:={ pw2.main with body:=st1::st2::st4::st5::st6::st7::st8::st10::st11::st12::st13::st14::st15::st16::st17::st18::vq1 } }
noncomputable def sx0:List Stmt:=[st0,st1]
noncomputable def sx1:List Stmt:=[st2,st3,st4,st5,st6,st7,st8,st9]
noncomputable def sx2:List Stmt:=[st10,st11,st12,st13,st14,st15,st16,st17,st18,st19,st20,st21,st22]
noncomputable def sx3:List Stmt:=[st23,st24,st25,st26,st27,st28,st29,st30,st31,st32,st33,st34,st35,st36]
noncomputable def sx4:List Stmt:=[st37,st38,st39,st40,st41,st42,st43,st44,st45,st46,st47,st48,st49,st50,st51]
noncomputable def sx5:List Stmt:=[st52,st53,st54,st55,st56,st57,st58,st59,st60,st61,st62,st63,st64]
noncomputable def en3_0(P:IS):List Jt:=[hE P "__doc__" 166 .none,hE P "__package__" 167 .none,hE P "__loader__" 168 (.builtin "__main__.__loader__#opaque"),hE P "__spec__" 169 .none,hE P "__annotations__" 170 (.ref 6),hE P "__builtins__" 171 (.ref 4),hE P "__file__" 173 (.str "/claim/cut.py" 172),hE P "__cached__" 174 .none]
noncomputable def en3_1(P:IS):List Jt:=[hE P "SpotError" 206 (.ref 24),hE P "NoFraction" 222 (.ref 37),hE P "greatest_divisor" 232 (.ref 46),hE P "fraction" 241 (.ref 53),hE P "is_less" 249 (.ref 60),hE P "common_bottom" 258 (.ref 67),hE P "top_over" 266 (.ref 74),hE P "is_ahead" 276 (.ref 81)]
noncomputable def en3_2(P:IS):List Jt:=[hE P "later_of" 284 (.ref 88),hE P "earlier_of" 292 (.ref 95),hE P "place_among" 303 (.ref 102),hE P "ahead_first" 312 (.ref 109),hE P "own_spot" 321 (.ref 116),hE P "own_wall" 328 (.ref 123),hE P "gap" 336 (.ref 130),hE P "lean" 354 (.ref 137)]
noncomputable def en3_3(P:IS):List Jt:=[hE P "side_of" 363 (.ref 144),hE P "lies_on" 373 (.ref 151),hE P "spans" 383 (.ref 158),hE P "is_above" 395 (.ref 165),hE P "upper_of" 404 (.ref 172),hE P "upper_below" 410 (.ref 177),hE P "face_ends" 422 (.ref 184),hE P "faces_by_start" 431 (.ref 191)]
noncomputable def en3_4(P:IS):List Jt:=[hE P "is_met_sooner" 443 (.ref 198),hE P "face_behind" 457 (.ref 205),hE P "ring_from" 468 (.ref 212),hE P "rings_of" 481 (.ref 219),hE P "twice_area" 487 (.ref 224),hE P "outer_and_inner" 499 (.ref 231),hE P "first_corner" 509 (.ref 238),hE P "land_about" 519 (.ref 245)]
noncomputable def en3_5(P:IS):List Jt:=[hE P "lands_of_faces" 525 (.ref 250),hE P "corners_of" 537 (.ref 257),hE P "wall_below" 548 (.ref 264),hE P "look_plainly" 556 (.ref 271),hE P "look_with_lands" 569 (.ref 278),hE P "_law_cell_at" 579 (.ref 285),hE P "_law_take" 589 (.ref 292),hE P "_law_low" 599 (.ref 299)]
noncomputable def en3_6(P:IS):List Jt:=[hE P "_law_scale" 609 (.ref 306),hE P "_law_spot" 621 (.ref 313),hE P "_law_made" 627 (.ref 318),hE P "_law_turn" 639 (.ref 325),hE P "_law_on" 647 (.ref 332),hE P "_law_fair" 653 (.ref 337),hE P "_law_shuts_here" 659 (.ref 342),hE P "_law_wanted" 674 (.ref 349)]
noncomputable def en3_7(P:IS):List Jt:=[hE P "_law_real" 687 (.ref 356),hE P "_law_by" 693 (.ref 361),hE P "_law_box" 699 (.ref 366),hE P "_law_order" 709 (.ref 373),hE P "_law_set" 715 (.ref 378),hE P "_law_pair" 721 (.ref 383),hE P "_law_met" 736 (.ref 390),hE P "law" 742 (.ref 395)]
noncomputable def en3(P:IS):List Jt:=en3_0 P++(en3_1 P++(en3_2 P++(en3_3 P++(en3_4 P++(en3_5 P++(en3_6 P++(en3_7 P)))))))
noncomputable def fl12:List HY:=[(.int 2 0),(.int 0 0),(.ref 20),(.int 4 0),(.int 0 0),(.ref 33),(.int 7 0),(.int 0 0),(.ref 45),(.int 11 0),(.int 0 0),(.ref 52),(.int 18 0),(.int 0 0),(.ref 59),(.int 20 0),(.int 0 0),(.ref 66),(.int 25 0),(.int 0 0),(.ref 73),(.int 28 0),(.int 0 0),(.ref 80),(.int 32 0),(.int 0 0),(.ref 87),(.int 34 0),(.int 0 0),(.ref 94),(.int 36 0),(.int 0 0),(.ref 101),(.int 45 0),(.int 0 0),(.ref 108),(.int 50 0),(.int 0 0),(.ref 115),(.int 53 0),(.int 0 0),(.ref 122),(.int 55 0),(.int 0 0),(.ref 129),(.int 57 0),(.int 0 0),(.ref 136),(.int 63 0),(.int 0 0),(.ref 143),(.int 70 0),(.int 0 0),(.ref 150),(.int 74 0),(.int 0 0),(.ref 157),(.int 76 0),(.int 0 0),(.ref 164),(.int 84 0),(.int 0 0),(.ref 171),(.int 90 0),(.int 0 0),(.ref 176),(.int 94 0),(.int 0 0),(.ref 183),(.int 97 0),(.int 0 0),(.ref 190),(.int 102 0),(.int 0 0),(.ref 197),(.int 108 0),(.int 0 0),(.ref 204),(.int 116 0),(.int 0 0),(.ref 211),(.int 123 0),(.int 0 0),(.ref 218),(.int 134 0),(.int 0 0),(.ref 223),(.int 144 0),(.int 0 0),(.ref 230),(.int 152 0),(.int 0 0),(.ref 237),(.int 157 0),(.int 0 0),(.ref 244),(.int 160 0),(.int 0 0),(.ref 249),(.int 173 0),(.int 0 0),(.ref 256),(.int 180 0),(.int 0 0),(.ref 263),(.int 183 0),(.int 0 0),(.ref 270),(.int 185 0),(.int 0 0),(.ref 277),(.int 195 0),(.int 0 0),(.ref 284),(.int 199 0),(.int 0 0),(.ref 291),(.int 208 0),(.int 0 0),(.ref 298),(.int 216 0),(.int 0 0),(.ref 305),(.int 222 0),(.int 0 0),(.ref 312),(.int 225 0),(.int 0 0),(.ref 317),(.int 227 0),(.int 0 0),(.ref 324),(.int 232 0),(.int 0 0),(.ref 331),(.int 234 0),(.int 0 0),(.ref 336),(.int 244 0),(.int 0 0),(.ref 341),(.int 255 0),(.int 0 0),(.ref 348),(.int 265 0),(.int 0 0),(.ref 355),(.int 269 0),(.int 0 0),(.ref 360),(.int 271 0),(.int 0 0),(.ref 365),(.int 275 0),(.int 0 0),(.ref 372),(.int 280 0),(.int 0 0),(.ref 377),(.int 295 0),(.int 0 0),(.ref 382),(.int 307 0),(.int 0 0),(.ref 389),(.int 317 0),(.int 0 0),(.ref 394)]
noncomputable def hC(n:Str)(i j k a l b c d e m o p q r f g h:Nat)(s:Bool):Obj:={ cls:=.type "code",data:=.fields #[.str n i,.str n j,.str "/claim/cut.py" k,.int (L3 m) 0,.int (L3 o) 0,.int (L3 p) 0,.int (L3 q) 0,.int (L3 r) 0,.ref l,.bool s,.int (L3 f) 0,.ref b,.none,.ref c,.ref d,.ref e,.int (L3 g) 0,.int (L3 h) 0,.str "/claim/cut.py" a] }
noncomputable def hF(t:HY)(s:Stmt)(n:Str)(g:Nat)(m c:HY):Obj:={ cls:=t,data:=.func (kU s n n g m c) }
noncomputable def zzH(s:Stmt)(n:Str)(m:HY)(r:Nat):Obj:=hF (.type "function") s n 3 m (.ref r)
def ob11:Obj:=kTu []
def ob12:Obj:={ cls:=.none,data:=.fields (Jr (fl12.take 0)) }
noncomputable def ob13:Obj:=zzD "<module>" "<module>" 182 183 184 1 0 0 11 LD 12 .none .none .none 185 186
noncomputable def ob14:Obj:={ cls:=(.type "frame"),slots:=#[(LA (.ref 13)),(LA (.ref 3)),(LA (.ref 3)),LB,(LA (.str "__main__" 164)),LB,(LA (.ref 0))] }
def ob15(P:IS):Obj:=zzM 10 (hE P "__name__" 165 zzE::(en3 P).take 9)
def ob16:Obj:={ cls:=.none,data:=.fields (Jr (fl12.take 3)) }
def ob17:Obj:=kTu [(.type "ValueError")]
noncomputable def ob18:Obj:={ cls:=(.type "builtin_function_or_method"),data:=(.fields #[(.builtin "type.__prepare__"),(.type "type")]) }
def ob19(P:IS):Obj:=zzM 4 [hE P "__module__" 196 zzE,hE P "__qualname__" 198 (.str "SpotError" 197),hE P "__firstlineno__" 200 (.int 2 199),hE P "__static_attributes__" 201 (.ref 22)]
noncomputable def ob20:Obj:=zzD "SpotError" "SpotError" 191 192 193 2 0 0 18 LD 19 .none .none .none 194 195
def ob21:Obj:={ cls:=(.type "frame"),slots:=#[(LA (.ref 20)),(LA (.ref 3)),(LA (.ref 17)),LB,(LA zzE),LB,(LA (.ref 0))] }
def ob22(P:IS):Obj:=zzM 3 [hE P "__module__" 196 zzE,hE P "__firstlineno__" 200 (.int 2 199),hE P "__static_attributes__" 201 (.ref 22),hE P "__weakref__" 203 (.ref 25),hE P "__doc__" 204 .none]
noncomputable def ob23:Obj:={ cls:=(.type "type"),data:=(.cls { name:="SpotError",bases:=[(.type "ValueError")],mro:=[(.ref 24),(.type "ValueError"),(.type "Exception"),(.type "BaseException"),(.type "object")],ns:=23,qualname:="SpotError",hasDict:=LC,slotNames:=[],subclasses:=[],abstract:=LD,collection:=LB,hasDel:=LD }),slots:=#[(LA (.ref 15)),LB,(LA (.str "SpotError" 189)),(LA (.str "SpotError" 197)),(LA (.builtin "ValueError.__new__")),(LA (.bool LC))] }
noncomputable def ob24:Obj:={ cls:=(.type "getset_descriptor"),data:=(.fields #[(.str "__weakref__" 202),(.ref 24),(.builtin "ExceptionGroup.__weakref__"),.none]) }
noncomputable def ob25:Obj:={ cls:=(.type "super"),data:=(.fields #[(.ref 24),(.ref 24),(.ref 24)]) }
noncomputable def ob26:Obj:={ cls:=(.type "builtin_function_or_method"),data:=(.fields #[(.builtin "object.__init_subclass__"),(.ref 24)]) }
def ob27(P:IS):Obj:=zzM 16 (hE P "__name__" 165 (.str "spotlook.spots" 267)::(en3 P).take 15)
def ob28:Obj:={ cls:=.none,data:=.fields (Jr (fl12.take 21)) }
noncomputable def ob29:Obj:={ cls:=(.type "type"),data:=(.cls { name:="SpotError",bases:=[(.type "ValueError")],mro:=[(.ref 24),(.type "ValueError"),(.type "Exception"),(.type "BaseException"),(.type "object")],ns:=23,qualname:="SpotError",hasDict:=LC,slotNames:=[],subclasses:=[(.ref 37)],abstract:=LD,collection:=LB,hasDel:=LD }),slots:=#[(LA (.ref 15)),LB,(LA (.str "SpotError" 189)),(LA (.str "SpotError" 197)),(LA (.builtin "ValueError.__new__")),(LA (.bool LC))] }
def ob30:Obj:=kTu [(.ref 24)]
def ob31(P:IS):Obj:=zzM 4 [hE P "__module__" 214 zzE,hE P "__qualname__" 216 (.str "NoFraction" 215),hE P "__firstlineno__" 218 (.int 4 217),hE P "__static_attributes__" 219 (.ref 35)]
noncomputable def ob32:Obj:=zzD "NoFraction" "NoFraction" 209 210 211 4 0 0 31 LD 32 .none .none .none 212 213
def ob33:Obj:={ cls:=(.type "frame"),slots:=#[(LA (.ref 33)),(LA (.ref 3)),(LA (.ref 30)),LB,(LA zzE),LB,(LA (.ref 0))] }
def ob34(P:IS):Obj:=zzM 2 [hE P "__module__" 214 zzE,hE P "__firstlineno__" 218 (.int 4 217),hE P "__static_attributes__" 219 (.ref 35),hE P "__doc__" 220 .none]
noncomputable def ob35:Obj:=zzK "NoFraction" 37 36 28 207 215
noncomputable def ob36:Obj:={ cls:=(.type "super"),data:=(.fields #[(.ref 37),(.ref 37),(.ref 37)]) }
noncomputable def ob37:Obj:={ cls:=(.type "builtin_function_or_method"),data:=(.fields #[(.builtin "object.__init_subclass__"),(.ref 37)]) }
def ob38:Obj:=kTu [(.str "one" 228),(.str "other" 229)]
def ob39:Obj:=hF .none st4 "greatest_divisor" 0 .none .none
def ob40:Obj:=hC "greatest_divisor" 225 226 227 231 40 41 42 43 44 7 2 0 0 3 181 230 7 LC
def ob41:Obj:=zzH st4 "greatest_divisor" (.str "spotlook.fractions" 223) 45
def ob42:Obj:=kTu [(.str "top" 236),(.str "bottom" 237),(.str "divisor" 238)]
def ob43:Obj:=hF .none st5 "fraction" 0 .none .none
def ob44:Obj:=hC "fraction" 233 234 235 240 47 48 49 50 51 11 2 0 0 3 181 239 11 LC
def ob45:Obj:=zzH st5 "fraction" (.str "spotlook.fractions" 223) 52
def ob46:Obj:=kTu [(.str "one" 245),(.str "other" 246)]
def ob47:Obj:=hF .none st6 "is_less" 0 .none .none
def ob48:Obj:=hC "is_less" 242 243 244 248 54 55 56 57 58 18 2 0 0 3 181 247 18 LC
def ob49:Obj:=zzH st6 "is_less" (.str "spotlook.fractions" 223) 59
def ob50:Obj:=kTu [(.str "parts" 253),(.str "common" 254),(.str "part" 255)]
def ob51:Obj:=hF .none st7 "common_bottom" 0 .none .none
def ob52:Obj:=hC "common_bottom" 250 251 252 257 61 62 63 64 65 20 1 0 0 3 181 256 20 LC
def ob53:Obj:=zzH st7 "common_bottom" (.str "spotlook.fractions" 223) 66
def ob54:Obj:=kTu [(.str "part" 262),(.str "bottom" 263)]
def ob55:Obj:=hF .none st8 "top_over" 0 .none .none
def ob56:Obj:=hC "top_over" 259 260 261 265 68 69 70 71 72 25 2 0 0 3 181 264 25 LC
def ob57:Obj:=zzH st8 "top_over" (.str "spotlook.fractions" 223) 73
def ob58(P:IS):Obj:=zzM 28 (hE P "__name__" 165 (.str "spotlook.above" 374)::(en3 P).take 27)
def ob59:Obj:={ cls:=.none,data:=.fields (Jr (fl12.take 57)) }
def ob60:Obj:=kTu [(.str "one" 272),(.str "other" 273)]
def ob61:Obj:=hF .none st10 "is_ahead" 0 .none .none
def ob62:Obj:=hC "is_ahead" 269 270 271 275 75 76 77 78 79 28 2 0 0 3 181 274 28 LC
def ob63:Obj:=zzH st10 "is_ahead" (.str "spotlook.spots" 267) 80
def ob64:Obj:=kTu [(.str "one" 280),(.str "other" 281)]
def ob65:Obj:=hF .none st11 "later_of" 0 .none .none
def ob66:Obj:=hC "later_of" 277 278 279 283 82 83 84 85 86 32 2 0 0 3 181 282 32 LC
def ob67:Obj:=zzH st11 "later_of" (.str "spotlook.spots" 267) 87
def ob68:Obj:=kTu [(.str "one" 288),(.str "other" 289)]
def ob69:Obj:=hF .none st12 "earlier_of" 0 .none .none
def ob70:Obj:=hC "earlier_of" 285 286 287 291 89 90 91 92 93 34 2 0 0 3 181 290 34 LC
def ob71:Obj:=zzH st12 "earlier_of" (.str "spotlook.spots" 267) 94
def ob72:Obj:=kTu [(.str "row" 296),(.str "spot" 297),(.str "low" 298),(.str "high" 299),(.str "middle" 300)]
def ob73:Obj:=hF .none st13 "place_among" 0 .none .none
def ob74:Obj:=hC "place_among" 293 294 295 302 96 97 98 99 100 36 2 0 0 3 181 301 36 LC
def ob75:Obj:=zzH st13 "place_among" (.str "spotlook.spots" 267) 101
def ob76:Obj:=kTu [(.str "spots" 307),(.str "row" 308),(.str "spot" 309)]
def ob77:Obj:=hF .none st14 "ahead_first" 0 .none .none
def ob78:Obj:=hC "ahead_first" 304 305 306 311 103 104 105 106 107 45 1 0 0 3 181 310 45 LC
def ob79:Obj:=zzH st14 "ahead_first" (.str "spotlook.spots" 267) 108
def ob80:Obj:=kTu [(.str "spot" 316),(.str "x" 317),(.str "y" 318)]
def ob81:Obj:=hF .none st15 "own_spot" 0 .none .none
def ob82:Obj:=hC "own_spot" 313 314 315 320 110 111 112 113 114 50 1 0 0 3 181 319 50 LC
def ob83:Obj:=zzH st15 "own_spot" (.str "spotlook.spots" 267) 115
def ob84:Obj:=kTu [(.str "wall" 325)]
def ob85:Obj:=hF .none st16 "own_wall" 0 .none .none
def ob86:Obj:=hC "own_wall" 322 323 324 327 117 118 119 120 121 53 1 0 0 3 181 326 53 LC
def ob87:Obj:=zzH st16 "own_wall" (.str "spotlook.spots" 267) 122
def ob88:Obj:=kTu [(.str "one" 332),(.str "other" 333)]
def ob89:Obj:=hF .none st17 "gap" 0 .none .none
def ob90:Obj:=hC "gap" 329 330 331 335 124 125 126 127 128 55 2 0 0 3 181 334 55 LC
def ob91:Obj:=zzH st17 "gap" (.str "spotlook.spots" 267) 129
def ob92:Obj:=kTu [(.str "wall" 340),(.str "spot" 341),(.str "a" 342),(.str "b" 343),(.str "c" 344),(.str "d" 345),(.str "x" 346),(.str "y" 347),(.str "across" 348),(.str "up" 349),(.str "along" 350),(.str "high" 351)]
def ob93:Obj:=hF .none st18 "lean" 0 .none .none
def ob94:Obj:=hC "lean" 337 338 339 353 131 132 133 134 135 57 2 0 0 3 181 352 57 LC
def ob95:Obj:=zzH st18 "lean" (.str "spotlook.spots" 267) 136
def ob96:Obj:=kTu [(.str "wall" 358),(.str "spot" 359),(.str "top" 360)]
def ob97:Obj:=hF .none st19 "side_of" 0 .none .none
def ob98:Obj:=hC "side_of" 355 356 357 362 138 139 140 141 142 63 2 0 0 3 181 361 63 LC
def ob99:Obj:=zzH st19 "side_of" (.str "spotlook.spots" 267) 143
def ob100:Obj:=kTu [(.str "wall" 367),(.str "spot" 368),(.str "first" 369),(.str "second" 370)]
def ob101:Obj:=hF .none st20 "lies_on" 0 .none .none
def ob102:Obj:=hC "lies_on" 364 365 366 372 145 146 147 148 149 70 2 0 0 3 181 371 70 LC
def ob103:Obj:=zzH st20 "lies_on" (.str "spotlook.spots" 267) 150
def ob104:Obj:=kTu [(.str "wall" 379),(.str "spot" 380)]
def ob105:Obj:=hF .none st22 "spans" 0 .none .none
def ob106:Obj:=hC "spans" 376 377 378 382 152 153 154 155 156 74 2 0 0 3 181 381 74 LC
def ob107:Obj:=zzH st22 "spans" (.str "spotlook.above" 374) 157
def ob108(P:IS):Obj:=zzM 40 (hE P "__name__" 165 (.str "spotlook.lands" 488)::(en3 P).take 39)
def ob109:Obj:={ cls:=.none,data:=.fields (Jr (fl12.take 93)) }
def ob110:Obj:=kTu [(.str "one" 387),(.str "other" 388),(.str "start" 389),(.str "end" 390),(.str "place" 391),(.str "deciding" 392)]
def ob111:Obj:=hF .none st23 "is_above" 0 .none .none
def ob112:Obj:=hC "is_above" 384 385 386 394 159 160 161 162 163 76 2 0 0 3 181 393 76 LC
def ob113:Obj:=zzH st23 "is_above" (.str "spotlook.above" 374) 164
def ob114:Obj:=kTu [(.str "walls" 399),(.str "upper" 400),(.str "wall" 401)]
def ob115:Obj:=hF .none st24 "upper_of" 0 .none .none
def ob116:Obj:=hC "upper_of" 396 397 398 403 166 167 168 169 170 84 1 0 0 3 181 402 84 LC
def ob117:Obj:=zzH st24 "upper_of" (.str "spotlook.above" 374) 171
def ob118:Obj:=hF .none st25 "upper_below" 0 .none .none
noncomputable def ob119:Obj:=zzD "upper_below" "upper_below" 405 406 407 90 2 3 173 LC 174 .none .none (.ref 175) 408 409
def ob120:Obj:=zzH st25 "upper_below" (.str "spotlook.above" 374) 176
def ob121:Obj:=kTu [(.str "plot" 416),(.str "face" 417),(.str "first" 418),(.str "second" 419)]
def ob122:Obj:=hF .none st27 "face_ends" 0 .none .none
def ob123:Obj:=hC "face_ends" 413 414 415 421 178 179 180 181 182 94 2 0 0 3 181 420 94 LC
def ob124:Obj:=zzH st27 "face_ends" (.str "spotlook.rings" 411) 183
def ob125:Obj:=kTu [(.str "plot" 426),(.str "leaving" 427),(.str "face" 428)]
def ob126:Obj:=hF .none st28 "faces_by_start" 0 .none .none
def ob127:Obj:=hC "faces_by_start" 423 424 425 430 185 186 187 188 189 97 1 0 0 3 181 429 97 LC
def ob128:Obj:=zzH st28 "faces_by_start" (.str "spotlook.rings" 411) 190
def ob129:Obj:=kTu [(.str "corner" 435),(.str "came_from" 436),(.str "one" 437),(.str "other" 438),(.str "turn" 439),(.str "other_turn" 440)]
def ob130:Obj:=hF .none st29 "is_met_sooner" 0 .none .none
def ob131:Obj:=hC "is_met_sooner" 432 433 434 442 192 193 194 195 196 102 4 0 0 3 181 441 102 LC
def ob132:Obj:=zzH st29 "is_met_sooner" (.str "spotlook.rings" 411) 197
def ob133:Obj:=kTu [(.str "plot" 447),(.str "leaving" 448),(.str "face" 449),(.str "came_from" 450),(.str "corner" 451),(.str "back" 452),(.str "best" 453),(.str "rival" 454)]
def ob134:Obj:=hF .none st30 "face_behind" 0 .none .none
def ob135:Obj:=hC "face_behind" 444 445 446 456 199 200 201 202 203 108 3 0 0 3 181 455 108 LC
def ob136:Obj:=zzH st30 "face_behind" (.str "spotlook.rings" 411) 204
def ob137:Obj:=kTu [(.str "plot" 461),(.str "leaving" 462),(.str "face" 463),(.str "ring" 464),(.str "at" 465)]
def ob138:Obj:=hF .none st31 "ring_from" 0 .none .none
def ob139:Obj:=hC "ring_from" 458 459 460 467 206 207 208 209 210 116 3 0 0 3 181 466 116 LC
def ob140:Obj:=zzH st31 "ring_from" (.str "spotlook.rings" 411) 211
def ob141:Obj:=kTu [(.str "plot" 472),(.str "leaving" 473),(.str "rings" 474),(.str "gone_along" 475),(.str "face" 476),(.str "ring" 477),(.str "part" 478)]
def ob142:Obj:=hF .none st32 "rings_of" 0 .none .none
def ob143:Obj:=hC "rings_of" 469 470 471 480 213 214 215 216 217 123 1 0 0 3 181 479 123 LC
def ob144:Obj:=zzH st32 "rings_of" (.str "spotlook.rings" 411) 218
def ob145:Obj:=hF .none st33 "twice_area" 0 .none .none
noncomputable def ob146:Obj:=zzD "twice_area" "twice_area" 482 483 484 134 2 3 220 LC 221 .none .none (.ref 222) 485 486
def ob147:Obj:=zzH st33 "twice_area" (.str "spotlook.rings" 411) 223
def ob148:Obj:=kTu [(.str "plot" 493),(.str "outers" 494),(.str "inners" 495),(.str "ring" 496)]
def ob149:Obj:=hF .none st35 "outer_and_inner" 0 .none .none
def ob150:Obj:=hC "outer_and_inner" 490 491 492 498 225 226 227 228 229 144 1 0 0 3 181 497 144 LC
def ob151:Obj:=zzH st35 "outer_and_inner" (.str "spotlook.lands" 488) 230
def ob152:Obj:=kTu [(.str "plot" 503),(.str "ring" 504),(.str "first" 505),(.str "face" 506)]
def ob153:Obj:=hF .none st36 "first_corner" 0 .none .none
def ob154:Obj:=hC "first_corner" 500 501 502 508 232 233 234 235 236 152 2 0 0 3 181 507 152 LC
def ob155:Obj:=zzH st36 "first_corner" (.str "spotlook.lands" 488) 237
def ob156(P:IS):Obj:=zzM 52 (hE P "__name__" 165 zzN::(en3 P).take 51)
def ob157:Obj:={ cls:=.none,data:=.fields (Jr (fl12.take 129)) }
def ob158:Obj:=kTu [(.str "plot" 513),(.str "lands" 514),(.str "corner" 515),(.str "wall" 516)]
def ob159:Obj:=hF .none st37 "land_about" 0 .none .none
def ob160:Obj:=hC "land_about" 510 511 512 518 239 240 241 242 243 157 3 0 0 3 181 517 157 LC
def ob161:Obj:=zzH st37 "land_about" (.str "spotlook.lands" 488) 244
def ob162:Obj:=hF .none st38 "lands_of_faces" 0 .none .none
noncomputable def ob163:Obj:=zzD "lands_of_faces" "lands_of_faces" 520 521 522 160 1 3 246 LC 247 .none .none (.ref 248) 523 524
def ob164:Obj:=zzH st38 "lands_of_faces" (.str "spotlook.lands" 488) 249
def ob165:Obj:=kTu [(.str "plot" 531),(.str "corners" 532),(.str "wall" 533),(.str "end" 534)]
def ob166:Obj:=hF .none st40 "corners_of" 0 .none .none
def ob167:Obj:=hC "corners_of" 528 529 530 536 251 252 253 254 255 173 1 0 0 3 181 535 173 LC
def ob168:Obj:=zzH st40 "corners_of" (.str "spotlook.plots" 526) 256
def ob169:Obj:=kTu [(.str "plot" 543),(.str "spot" 544),(.str "wall" 545)]
def ob170:Obj:=hF .none st42 "wall_below" 0 .none .none
def ob171:Obj:=hC "wall_below" 540 541 542 547 258 259 260 261 262 180 2 0 0 3 181 546 180 LC
def ob172:Obj:=zzH st42 "wall_below" (.str "spotlook.plain" 538) 263
def ob173:Obj:=kTu [(.str "plot" 552),(.str "spot" 553)]
def ob174:Obj:=hF .none st43 "look_plainly" 0 .none .none
def ob175:Obj:=hC "look_plainly" 549 550 551 555 265 266 267 268 269 183 2 0 0 3 181 554 183 LC
def ob176:Obj:=zzH st43 "look_plainly" (.str "spotlook.plain" 538) 270
def ob177:Obj:=kTu [(.str "plot" 560),(.str "lands" 561),(.str "spot" 562),(.str "corners" 563),(.str "number" 564),(.str "wall" 565),(.str "below" 566)]
def ob178:Obj:=hF .none st44 "look_with_lands" 0 .none .none
def ob179:Obj:=hC "look_with_lands" 557 558 559 568 272 273 274 275 276 185 3 0 0 3 181 567 185 LC
def ob180:Obj:=zzH st44 "look_with_lands" (.str "spotlook.plain" 538) 277
def ob181:Obj:=kTu [(.str "_law_script" 575),(.str "_law_k" 576)]
def ob182:Obj:=hF .none st46 "_law_cell_at" 0 .none .none
def ob183:Obj:=hC "_law_cell_at" 572 573 574 578 279 280 281 282 283 195 2 0 0 3 181 577 195 LC
def ob184:Obj:=zzH st46 "_law_cell_at" zzN 284
def ob185:Obj:=kTu [(.str "_law_row" 583),(.str "_law_base" 584),(.str "_law_rest" 585),(.str "_law_number" 586)]
def ob186:Obj:=hF .none st47 "_law_take" 0 .none .none
def ob187:Obj:=hC "_law_take" 580 581 582 588 286 287 288 289 290 199 2 0 0 3 181 587 199 LC
def ob188:Obj:=zzH st47 "_law_take" zzN 291
def ob189:Obj:=kTu [(.str "_law_top" 593),(.str "_law_bottom" 594),(.str "_law_one" 595),(.str "_law_other" 596)]
def ob190:Obj:=hF .none st48 "_law_low" 0 .none .none
def ob191:Obj:=hC "_law_low" 590 591 592 598 293 294 295 296 297 208 2 0 0 3 181 597 208 LC
def ob192:Obj:=zzH st48 "_law_low" zzN 298
def ob193:Obj:=kTu [(.str "_law_row" 603),(.str "_law_top" 604),(.str "_law_bottom" 605),(.str "_law_far" 606)]
def ob194:Obj:=hF .none st49 "_law_scale" 0 .none .none
def ob195:Obj:=hC "_law_scale" 600 601 602 608 300 301 302 303 304 216 1 0 0 3 181 607 216 LC
def ob196:Obj:=zzH st49 "_law_scale" zzN 305
def ob197:Obj:=kTu [(.str "_law_scale_here" 613),(.str "_law_unit" 614),(.str "_law_top" 615),(.str "_law_bottom" 616),(.str "_law_x" 617),(.str "_law_y" 618)]
def ob198:Obj:=hF .none st50 "_law_spot" 0 .none .none
def ob199:Obj:=hC "_law_spot" 610 611 612 620 307 308 309 310 311 222 2 0 0 3 181 619 222 LC
def ob200:Obj:=zzH st50 "_law_spot" zzN 312
def ob201:Obj:=hF .none st51 "_law_made" 0 .none .none
noncomputable def ob202:Obj:=zzD "_law_made" "_law_made" 622 623 624 225 2 3 314 LC 315 .none .none (.ref 316) 625 626
def ob203:Obj:=zzH st51 "_law_made" zzN 317
def ob204(P:IS):Obj:=zzM 65 (hE P "__name__" 165 zzN::(en3 P).take 64)
def ob205:Obj:={ cls:=.none,data:=.fields (Jr (fl12.take 168)) }
def ob206:Obj:=kTu [(.str "_law_one" 631),(.str "_law_two" 632),(.str "_law_three" 633),(.str "_law_far" 634),(.str "_law_beside" 635),(.str "_law_found" 636)]
def ob207:Obj:=hF .none st52 "_law_turn" 0 .none .none
def ob208:Obj:=hC "_law_turn" 628 629 630 638 319 320 321 322 323 227 3 0 0 3 181 637 227 LC
def ob209:Obj:=zzH st52 "_law_turn" zzN 324
def ob210:Obj:=kTu [(.str "_law_shut" 643),(.str "_law_spot_here" 644)]
def ob211:Obj:=hF .none st53 "_law_on" 0 .none .none
def ob212:Obj:=hC "_law_on" 640 641 642 646 326 327 328 329 330 232 2 0 0 3 181 645 232 LC
def ob213:Obj:=zzH st53 "_law_on" zzN 331
def ob214:Obj:=hF .none st54 "_law_fair" 0 .none .none
noncomputable def ob215:Obj:=zzD "_law_fair" "_law_fair" 648 649 650 234 2 3 333 LC 334 .none .none (.ref 335) 651 652
def ob216:Obj:=zzH st54 "_law_fair" zzN 336
def ob217:Obj:=hF .none st55 "_law_shuts_here" 0 .none .none
noncomputable def ob218:Obj:=zzD "_law_shuts_here" "_law_shuts_here" 654 655 656 244 3 3 338 LC 339 .none .none (.ref 340) 657 658
def ob219:Obj:=zzH st55 "_law_shuts_here" zzN 341
def ob220:Obj:=kTu [(.str "_law_row" 663),(.str "_law_shuts" 664),(.str "_law_size" 665),(.str "_law_way" 666),(.str "_law_first" 667),(.str "_law_second" 668),(.str "_law_below" 669),(.str "_law_part" 670),(.str "_law_x" 671)]
def ob221:Obj:=hF .none st56 "_law_wanted" 0 .none .none
def ob222:Obj:=hC "_law_wanted" 660 661 662 673 343 344 345 346 347 255 3 0 0 3 181 672 255 LC
def ob223:Obj:=zzH st56 "_law_wanted" zzN 348
def ob224:Obj:=kTu [(.str "_law_scale_here" 678),(.str "_law_told" 679),(.str "_law_top" 680),(.str "_law_bottom" 681),(.str "_law_x" 682),(.str "_law_y" 683),(.str "_law_many" 684)]
def ob225:Obj:=hF .none st57 "_law_real" 0 .none .none
def ob226:Obj:=hC "_law_real" 675 676 677 686 350 351 352 353 354 265 2 0 0 3 181 685 265 LC
def ob227:Obj:=zzH st57 "_law_real" zzN 355
def ob228:Obj:=hF .none st58 "_law_by" 0 .none .none
noncomputable def ob229:Obj:=zzD "_law_by" "_law_by" 688 689 690 269 2 3 357 LC 358 .none .none (.ref 359) 691 692
def ob230:Obj:=zzH st58 "_law_by" zzN 360
def ob231:Obj:=hF .none st59 "_law_box" 0 .none .none
noncomputable def ob232:Obj:=zzD "_law_box" "_law_box" 694 695 696 271 2 3 362 LC 363 .none .none (.ref 364) 697 698
def ob233:Obj:=zzH st59 "_law_box" zzN 365
def ob234:Obj:=kTu [(.str "_law_row" 703),(.str "_law_many" 704),(.str "_law_found" 705),(.str "_law_number" 706)]
def ob235:Obj:=hF .none st60 "_law_order" 0 .none .none
def ob236:Obj:=hC "_law_order" 700 701 702 708 367 368 369 370 371 275 2 0 0 3 181 707 275 LC
def ob237:Obj:=zzH st60 "_law_order" zzN 372
def ob238:Obj:=hF .none st61 "_law_set" 0 .none .none
noncomputable def ob239:Obj:=zzD "_law_set" "_law_set" 710 711 712 280 1 3 374 LC 375 .none .none (.ref 376) 713 714
def ob240:Obj:=zzH st61 "_law_set" zzN 377
def ob241:Obj:=hF .none st62 "_law_pair" 0 .none .none
noncomputable def ob242:Obj:=zzD "_law_pair" "_law_pair" 716 717 718 295 3 3 379 LC 380 .none .none (.ref 381) 719 720
def ob243:Obj:=zzH st62 "_law_pair" zzN 382
def ob244:Obj:=kTu [(.str "_law_great" 725),(.str "_law_one" 726),(.str "_law_other" 727),(.str "_law_found" 728),(.str "_law_at" 729),(.str "_law_first" 730),(.str "_law_second" 731),(.str "_law_sides" 732),(.str "_law_ends" 733)]
def ob245:Obj:=hF .none st63 "_law_met" 0 .none .none
def ob246:Obj:=hC "_law_met" 722 723 724 735 384 385 386 387 388 307 3 0 0 3 181 734 307 LC
def ob247:Obj:=zzH st63 "_law_met" zzN 389
def ob248:Obj:=hF .none st64 "law" 0 .none .none
noncomputable def ob249:Obj:=zzD "law" "law" 737 738 739 317 1 3 391 LC 392 .none .none (.ref 393) 740 741
def ob250:Obj:=zzH st64 "law" zzN 394
noncomputable def oL0(P:IS):List Obj:=[PySem.W.boot_o_0 P,PySem.W.boot_o_1 P,PySem.W.boot_o_2 P,PySem.W.boot_o_3 P,PySem.W.boot_o_4 P,PySem.W.boot_o_5 P,PySem.W.boot_o_6 P,PySem.W.boot_o_7 P,PySem.W.boot_o_8 P,PySem.W.boot_o_9 P,PySem.W.boot_o_10 P,ob11,ob12,ob13,ob14,ob15 P]
noncomputable def oL1(P:IS):List Obj:=[ob16,ob17,ob18,ob19 P,ob20,ob21,ob22 P,ob23,ob24,ob25,ob26,ob27 P,ob28,ob29,ob30,ob31 P]
noncomputable def oL2(P:IS):List Obj:=[ob32,ob33,ob34 P,ob35,ob36,ob37,ob38,ob39,ob40,ob41,ob42,ob43,ob44,ob45,ob46,ob47]
noncomputable def oL3(P:IS):List Obj:=[ob48,ob49,ob50,ob51,ob52,ob53,ob54,ob55,ob56,ob57,ob58 P,ob59,ob60,ob61,ob62,ob63]
noncomputable def oL4(P:IS):List Obj:=[ob64,ob65,ob66,ob67,ob68,ob69,ob70,ob71,ob72,ob73,ob74,ob75,ob76,ob77,ob78,ob79]
noncomputable def oL5(P:IS):List Obj:=[ob80,ob81,ob82,ob83,ob84,ob85,ob86,ob87,ob88,ob89,ob90,ob91,ob92,ob93,ob94,ob95]
noncomputable def oL6(P:IS):List Obj:=[ob96,ob97,ob98,ob99,ob100,ob101,ob102,ob103,ob104,ob105,ob106,ob107,ob108 P,ob109,ob110,ob111]
noncomputable def oL7(P:IS):List Obj:=[ob112,ob113,ob114,ob115,ob116,ob117,ob118,ob119,ob120,ob121,ob122,ob123,ob124,ob125,ob126,ob127]
noncomputable def oL8(P:IS):List Obj:=[ob128,ob129,ob130,ob131,ob132,ob133,ob134,ob135,ob136,ob137,ob138,ob139,ob140,ob141,ob142,ob143]
noncomputable def oL9(P:IS):List Obj:=[ob144,ob145,ob146,ob147,ob148,ob149,ob150,ob151,ob152,ob153,ob154,ob155,ob156 P,ob157,ob158,ob159]
noncomputable def oL10(P:IS):List Obj:=[ob160,ob161,ob162,ob163,ob164,ob165,ob166,ob167,ob168,ob169,ob170,ob171,ob172,ob173,ob174,ob175]
noncomputable def oL11(P:IS):List Obj:=[ob176,ob177,ob178,ob179,ob180,ob181,ob182,ob183,ob184,ob185,ob186,ob187,ob188,ob189,ob190,ob191]
noncomputable def oL12(P:IS):List Obj:=[ob192,ob193,ob194,ob195,ob196,ob197,ob198,ob199,ob200,ob201,ob202,ob203,ob204 P,ob205,ob206,ob207]
noncomputable def oL13(P:IS):List Obj:=[ob208,ob209,ob210,ob211,ob212,ob213,ob214,ob215,ob216,ob217,ob218,ob219,ob220,ob221,ob222,ob223]
noncomputable def oL14(P:IS):List Obj:=[ob224,ob225,ob226,ob227,ob228,ob229,ob230,ob231,ob232,ob233,ob234,ob235,ob236,ob237,ob238,ob239]
noncomputable def oL15(P:IS):List Obj:=[ob240,ob241,ob242,ob243,ob244,ob245,ob246,ob247,ob248,ob249,ob250]
noncomputable def fA(c i:Nat)(P:IS):Obj:=(([oL0 P,oL1 P,oL2 P,oL3 P,oL4 P,oL5 P,oL6 P,oL7 P,oL8 P,oL9 P,oL10 P,oL11 P,oL12 P,oL13 P,oL14 P,oL15 P]:List (List Obj)).getD c []).getD i { cls:=.none }
noncomputable def tW0(n:Nat->IP->IP->IP)(e:IP):IP:=(fun m:Nat->IP=>(n 0 (n 1 (n 3 (m 7) (m 11)) (n 5 (m 9) (m 13))) (n 2 (n 4 (m 8) (m 12)) (n 6 (m 10) (m 14))))) fun a=>n a e e
noncomputable def tX0(f:Nat->Nat->IS->Obj)(P:IS):IP:=tW0 (fun k=>.node (f (k/16) (k%16) P)) .nil
noncomputable def tW1(n:Nat->IP->IP->IP)(e:IP):IP:=(fun m:Nat->IP=>(n 0 (n 1 (n 15 (n 7 (m 17) (m 22)) (n 11 (m 12) (m 26))) (n 5 (n 9 (m 19) (m 24)) (n 13 (m 21) e))) (n 2 (n 4 (n 8 (m 18) (m 23)) (n 16 (m 20) e)) (n 6 (n 10 (m 11) (m 25)) (n 14 (m 11) e))))) fun a=>n a e e
noncomputable def tX1(f:Nat->Nat->IS->Obj)(P:IS):IP:=tW1 (fun k=>.node (f (k/16) (k%16) P)) .nil
noncomputable def tW2(n:Nat->IP->IP->IP)(e:IP):IP:=(fun m:Nat->IP=>(n 0 (n 1 (n 27 (n 7 (n 17 (n 11 (m 50) e) (m 11)) (n 22 (n 37 (m 11) e) (m 12))) (n 11 (n 12 (n 11 (m 53) e) (m 43)) (n 26 (m 11) (m 48)))) (n 5 (n 9 (n 19 (n 32 (m 51) e) (m 42)) (n 24 (n 12 (m 56) e) (m 11))) (n 13 (n 21 (n 35 (m 12) e) (m 45)) (n 18 (m 40) (m 11))))) (n 2 (n 4 (n 8 (n 18 (n 12 (m 11) e) (m 12)) (n 29 (n 11 (m 55) e) (m 46))) (n 28 (n 20 (n 34 (m 11) e) (m 44)) (n 30 (m 39) (m 49)))) (n 6 (n 10 (n 11 (n 33 (m 52) e) (m 11)) (n 25 (n 38 (m 57) e) (m 47))) (n 14 (n 11 (n 36 (m 54) e) (m 11)) (n 31 (m 41) (m 12))))))) fun a=>n a e e
noncomputable def tX2(f:Nat->Nat->IS->Obj)(P:IS):IP:=tW2 (fun k=>.node (f (k/16) (k%16) P)) .nil
noncomputable def tW3(n:Nat->IP->IP->IP)(e:IP):IP:=(fun m:Nat->IP=>(n 0 (n 1 (n 58 (n 7 (n 17 (n 11 (n 50 (m 11) e) (m 71)) (n 11 (n 61 (m 98) e) (m 12))) (n 22 (n 37 (n 11 (m 93) e) (m 11)) (n 12 (n 66 (m 103) e) (m 84)))) (n 11 (n 12 (n 11 (n 53 (m 11) e) (m 11)) (n 43 (n 12 (m 100) e) (m 82))) (n 26 (n 11 (n 11 (m 12) e) (m 77)) (n 48 (n 68 (m 11) e) (m 87))))) (n 5 (n 9 (n 19 (n 32 (n 51 (m 90) e) (m 12)) (n 42 (n 63 (m 11) e) (m 11))) (n 24 (n 12 (n 56 (m 95) e) (m 76)) (n 11 (n 11 (m 12) e) (m 85)))) (n 13 (n 21 (n 35 (n 12 (m 92) e) (m 74)) (n 45 (n 11 (m 101) e) (m 11))) (n 18 (n 40 (n 60 (m 11) e) (m 79)) (n 11 (n 69 (m 106) e) (m 12)))))) (n 2 (n 4 (n 8 (n 18 (n 12 (n 11 (m 89) e) (m 11)) (n 12 (n 62 (m 99) e) (m 80))) (n 29 (n 11 (n 55 (m 94) e) (m 12)) (n 46 (n 67 (m 11) e) (m 11)))) (n 59 (n 20 (n 34 (n 11 (m 12) e) (m 73)) (n 44 (n 64 (m 11) e) (m 83))) (n 30 (n 39 (n 12 (m 96) e) (m 78)) (n 49 (n 11 (m 105) e) (m 11))))) (n 6 (n 10 (n 11 (n 33 (n 52 (m 91) e) (m 72)) (n 11 (n 11 (m 12) e) (m 81))) (n 25 (n 38 (n 57 (m 11) e) (m 11)) (n 47 (n 12 (m 104) e) (m 86)))) (n 14 (n 11 (n 36 (n 54 (m 11) e) (m 75)) (n 11 (n 65 (m 102) e) (m 12))) (n 31 (n 41 (n 11 (m 97) e) (m 11)) (n 12 (n 70 (m 107) e) (m 88)))))))) fun a=>n a e e
noncomputable def tX3(f:Nat->Nat->IS->Obj)(P:IS):IP:=tW3 (fun k=>.node (f (k/16) (k%16) P)) .nil
noncomputable def tW4(n:Nat->IP->IP->IP)(e:IP):IP:=(fun m:Nat->IP=>(n 0 (n 1 (n 108 (n 7 (n 17 (n 11 (n 50 (m 11) (m 128)) (n 71 (m 11) (m 146))) (n 11 (n 61 (m 98) (m 12)) (n 12 (m 118) e))) (n 22 (n 37 (n 11 (m 93) (m 11)) (n 11 (m 12) (m 151))) (n 12 (n 66 (m 103) (m 141)) (n 84 (m 123) e)))) (n 11 (n 12 (n 11 (n 53 (m 11) (m 11)) (n 11 (m 111) (m 148))) (n 43 (n 12 (m 100) (m 139)) (n 82 (m 12) e))) (n 26 (n 11 (n 11 (m 12) (m 134)) (n 77 (m 116) (m 11))) (n 48 (n 68 (m 11) (m 144)) (n 87 (m 125) e))))) (n 5 (n 9 (n 19 (n 32 (n 51 (m 90) (m 12)) (n 12 (m 110) (m 11))) (n 42 (n 63 (m 11) (m 11)) (n 11 (m 120) e))) (n 24 (n 12 (n 56 (m 95) (m 133)) (n 76 (m 11) (m 12))) (n 11 (n 11 (m 12) (m 142)) (n 85 (m 11) e)))) (n 13 (n 21 (n 35 (n 12 (m 92) (m 131)) (n 74 (m 113) (m 149))) (n 45 (n 11 (m 101) (m 11)) (n 11 (m 11) e))) (n 18 (n 40 (n 60 (m 11) (m 136)) (n 79 (m 11) (m 154))) (n 11 (n 69 (m 106) (m 12)) (n 12 (m 126) e)))))) (n 2 (n 4 (n 8 (n 18 (n 12 (n 11 (m 89) (m 11)) (n 11 (m 12) (m 147))) (n 12 (n 62 (m 99) (m 137)) (n 80 (m 119) e))) (n 29 (n 11 (n 55 (m 94) (m 12)) (n 12 (m 114) (m 11))) (n 46 (n 67 (m 11) (m 11)) (n 11 (m 124) e)))) (n 109 (n 20 (n 34 (n 11 (m 12) (m 130)) (n 73 (m 112) (m 11))) (n 44 (n 64 (m 11) (m 140)) (n 83 (m 121) e))) (n 30 (n 39 (n 12 (m 96) (m 135)) (n 78 (m 117) (m 153))) (n 49 (n 11 (m 105) (m 11)) (n 11 (m 11) e))))) (n 6 (n 10 (n 11 (n 33 (n 52 (m 91) (m 129)) (n 72 (m 11) (m 12))) (n 11 (n 11 (m 12) (m 138)) (n 81 (m 11) e))) (n 25 (n 38 (n 57 (m 11) (m 11)) (n 11 (m 115) (m 152))) (n 47 (n 12 (m 104) (m 143)) (n 86 (m 12) e)))) (n 14 (n 11 (n 36 (n 54 (m 11) (m 132)) (n 75 (m 11) (m 150))) (n 11 (n 65 (m 102) (m 12)) (n 12 (m 122) e))) (n 31 (n 41 (n 11 (m 97) (m 11)) (n 11 (m 12) (m 155))) (n 12 (n 70 (m 107) (m 145)) (n 88 (m 127) e)))))))) fun a=>n a e e
noncomputable def tX4(f:Nat->Nat->IS->Obj)(P:IS):IP:=tW4 (fun k=>.node (f (k/16) (k%16) P)) .nil
noncomputable def tW5(n:Nat->IP->IP->IP)(e:IP):IP:=(fun m:Nat->IP=>(n 0 (n 1 (n 156 (n 7 (n 17 (n 11 (n 50 (n 11 (m 166) e) (m 128)) (n 71 (n 11 (m 12) e) (m 146))) (n 11 (n 61 (n 98 (m 176) e) (m 12)) (n 12 (n 118 (m 11) e) (m 11)))) (n 22 (n 37 (n 11 (n 93 (m 171) e) (m 11)) (n 11 (n 12 (m 189) e) (m 151))) (n 12 (n 66 (n 103 (m 11) e) (m 141)) (n 84 (n 123 (m 198) e) (m 12))))) (n 11 (n 12 (n 11 (n 53 (n 11 (m 12) e) (m 11)) (n 11 (n 111 (m 187) e) (m 148))) (n 43 (n 12 (n 100 (m 11) e) (m 139)) (n 82 (n 12 (m 11) e) (m 159)))) (n 26 (n 11 (n 11 (n 12 (m 173) e) (m 134)) (n 77 (n 116 (m 192) e) (m 11))) (n 48 (n 68 (n 11 (m 182) e) (m 144)) (n 87 (n 125 (m 12) e) (m 11)))))) (n 5 (n 9 (n 19 (n 32 (n 51 (n 90 (m 168) e) (m 12)) (n 12 (n 110 (m 11) e) (m 11))) (n 42 (n 63 (n 11 (m 12) e) (m 11)) (n 11 (n 120 (m 195) e) (m 158)))) (n 24 (n 12 (n 56 (n 95 (m 11) e) (m 133)) (n 76 (n 11 (m 190) e) (m 12))) (n 11 (n 11 (n 12 (m 181) e) (m 142)) (n 85 (n 11 (m 200) e) (m 163))))) (n 13 (n 21 (n 35 (n 12 (n 92 (m 11) e) (m 131)) (n 74 (n 113 (m 11) e) (m 149))) (n 45 (n 11 (n 101 (m 179) e) (m 11)) (n 11 (n 11 (m 197) e) (m 161)))) (n 18 (n 40 (n 60 (n 11 (m 174) e) (m 136)) (n 79 (n 11 (m 12) e) (m 154))) (n 11 (n 69 (n 106 (m 184) e) (m 12)) (n 12 (n 126 (m 202) e) (m 165))))))) (n 2 (n 4 (n 8 (n 18 (n 12 (n 11 (n 89 (m 167) e) (m 11)) (n 11 (n 12 (m 185) e) (m 147))) (n 12 (n 62 (n 99 (m 11) e) (m 137)) (n 80 (n 119 (m 194) e) (m 12)))) (n 29 (n 11 (n 55 (n 94 (m 172) e) (m 12)) (n 12 (n 114 (m 11) e) (m 11))) (n 46 (n 67 (n 11 (m 12) e) (m 11)) (n 11 (n 124 (m 199) e) (m 162))))) (n 157 (n 20 (n 34 (n 11 (n 12 (m 169) e) (m 130)) (n 73 (n 112 (m 188) e) (m 11))) (n 44 (n 64 (n 11 (m 178) e) (m 140)) (n 83 (n 121 (m 12) e) (m 160)))) (n 30 (n 39 (n 12 (n 96 (m 11) e) (m 135)) (n 78 (n 117 (m 11) e) (m 153))) (n 49 (n 11 (n 105 (m 183) e) (m 11)) (n 11 (n 11 (m 201) e) (m 12)))))) (n 6 (n 10 (n 11 (n 33 (n 52 (n 91 (m 11) e) (m 129)) (n 72 (n 11 (m 186) e) (m 12))) (n 11 (n 11 (n 12 (m 177) e) (m 138)) (n 81 (n 11 (m 196) e) (m 11)))) (n 25 (n 38 (n 57 (n 11 (m 12) e) (m 11)) (n 11 (n 115 (m 191) e) (m 152))) (n 47 (n 12 (n 104 (m 11) e) (m 143)) (n 86 (n 12 (m 11) e) (m 164))))) (n 14 (n 11 (n 36 (n 54 (n 11 (m 170) e) (m 132)) (n 75 (n 11 (m 12) e) (m 150))) (n 11 (n 65 (n 102 (m 180) e) (m 12)) (n 12 (n 122 (m 11) e) (m 11)))) (n 31 (n 41 (n 11 (n 97 (m 175) e) (m 11)) (n 11 (n 12 (m 193) e) (m 155))) (n 12 (n 70 (n 107 (m 11) e) (m 145)) (n 88 (n 127 (m 203) e) (m 11))))))))) fun a=>n a e e
noncomputable def tX5(f:Nat->Nat->IS->Obj)(P:IS):IP:=tW5 (fun k=>.node (f (k/16) (k%16) P)) .nil
noncomputable def tW6(n:Nat->IP->IP->IP)(e:IP):IP:=(fun m:Nat->IP=>(n 0 (n 1 (n 204 (n 7 (n 17 (n 11 (n 50 (n 11 (m 166) (m 243)) (n 128 (m 11) e)) (n 71 (n 11 (m 12) e) (n 146 (m 12) e))) (n 11 (n 61 (n 98 (m 176) e) (n 12 (m 214) e)) (n 12 (n 118 (m 11) e) (n 11 (m 11) e)))) (n 22 (n 37 (n 11 (n 93 (m 171) (m 11)) (n 11 (m 12) e)) (n 11 (n 12 (m 189) e) (n 151 (m 228) e))) (n 12 (n 66 (n 103 (m 11) e) (n 141 (m 11) e)) (n 84 (n 123 (m 198) e) (n 12 (m 12) e))))) (n 11 (n 12 (n 11 (n 53 (n 11 (m 12) (m 11)) (n 11 (m 207) e)) (n 11 (n 111 (m 187) e) (n 148 (m 226) e))) (n 43 (n 12 (n 100 (m 11) e) (n 139 (m 12) e)) (n 82 (n 12 (m 11) e) (n 159 (m 235) e)))) (n 26 (n 11 (n 11 (n 12 (m 173) (m 250)) (n 134 (m 212) e)) (n 77 (n 116 (m 192) e) (n 11 (m 12) e))) (n 48 (n 68 (n 11 (m 182) e) (n 144 (m 221) e)) (n 87 (n 125 (m 12) e) (n 11 (m 11) e)))))) (n 5 (n 9 (n 19 (n 32 (n 51 (n 90 (m 168) (m 12)) (n 12 (m 206) e)) (n 12 (n 110 (m 11) e) (n 11 (m 11) e))) (n 42 (n 63 (n 11 (m 12) e) (n 11 (m 216) e)) (n 11 (n 120 (m 195) e) (n 158 (m 234) e)))) (n 24 (n 12 (n 56 (n 95 (m 11) (m 248)) (n 133 (m 11) e)) (n 76 (n 11 (m 190) e) (n 12 (m 230) e))) (n 11 (n 11 (n 12 (m 181) e) (n 142 (m 220) e)) (n 85 (n 11 (m 200) e) (n 163 (m 239) e))))) (n 13 (n 21 (n 35 (n 12 (n 92 (m 11) (m 246)) (n 131 (m 209) e)) (n 74 (n 113 (m 11) e) (n 149 (m 11) e))) (n 45 (n 11 (n 101 (m 179) e) (n 11 (m 218) e)) (n 11 (n 11 (m 197) e) (n 161 (m 237) e)))) (n 18 (n 40 (n 60 (n 11 (m 174) e) (n 136 (m 11) e)) (n 79 (n 11 (m 12) e) (n 154 (m 232) e))) (n 11 (n 69 (n 106 (m 184) e) (n 12 (m 223) e)) (n 12 (n 126 (m 202) e) (n 165 (m 241) e))))))) (n 2 (n 4 (n 8 (n 18 (n 12 (n 11 (n 89 (m 167) (m 11)) (n 11 (m 12) e)) (n 11 (n 12 (m 185) e) (n 147 (m 224) e))) (n 12 (n 62 (n 99 (m 11) e) (n 137 (m 215) e)) (n 80 (n 119 (m 194) e) (n 12 (m 12) e)))) (n 29 (n 11 (n 55 (n 94 (m 172) (m 12)) (n 12 (m 210) e)) (n 12 (n 114 (m 11) e) (n 11 (m 229) e))) (n 46 (n 67 (n 11 (m 12) e) (n 11 (m 12) e)) (n 11 (n 124 (m 199) e) (n 162 (m 238) e))))) (n 205 (n 20 (n 34 (n 11 (n 12 (m 169) (m 245)) (n 130 (m 208) e)) (n 73 (n 112 (m 188) e) (n 11 (m 227) e))) (n 44 (n 64 (n 11 (m 178) e) (n 140 (m 217) e)) (n 83 (n 121 (m 12) e) (n 160 (m 236) e)))) (n 30 (n 39 (n 12 (n 96 (m 11) e) (n 135 (m 213) e)) (n 78 (n 117 (m 11) e) (n 153 (m 231) e))) (n 49 (n 11 (n 105 (m 183) e) (n 11 (m 222) e)) (n 11 (n 11 (m 201) e) (n 12 (m 12) e)))))) (n 6 (n 10 (n 11 (n 33 (n 52 (n 91 (m 11) (m 244)) (n 129 (m 11) e)) (n 72 (n 11 (m 186) e) (n 12 (m 225) e))) (n 11 (n 11 (n 12 (m 177) e) (n 138 (m 11) e)) (n 81 (n 11 (m 196) e) (n 11 (m 11) e)))) (n 25 (n 38 (n 57 (n 11 (m 12) (m 249)) (n 11 (m 211) e)) (n 11 (n 115 (m 191) e) (n 152 (m 11) e))) (n 47 (n 12 (n 104 (m 11) e) (n 143 (m 11) e)) (n 86 (n 12 (m 11) e) (n 164 (m 240) e))))) (n 14 (n 11 (n 36 (n 54 (n 11 (m 170) (m 247)) (n 132 (m 11) e)) (n 75 (n 11 (m 12) e) (n 150 (m 12) e))) (n 11 (n 65 (n 102 (m 180) e) (n 12 (m 219) e)) (n 12 (n 122 (m 11) e) (n 11 (m 11) e)))) (n 31 (n 41 (n 11 (n 97 (m 175) e) (n 11 (m 12) e)) (n 11 (n 12 (m 193) e) (n 155 (m 233) e))) (n 12 (n 70 (n 107 (m 11) e) (n 145 (m 11) e)) (n 88 (n 127 (m 203) e) (n 11 (m 242) e))))))))) fun a=>n a e e
noncomputable def tX6(f:Nat->Nat->IS->Obj)(P:IS):IP:=tW6 (fun k=>.node (f (k/16) (k%16) P)) .nil
noncomputable def hX0(f:Nat->Nat->IS->Obj)(P:IS):Heap:=(fun g:Nat->Obj=>(⟨⟨[g 0,g 1,g 2,g 3,g 4,g 5,g 6,g 7,g 8,g 9,g 10,g 11,g 12,g 13,g 14]⟩,{}⟩:Heap)) fun k=>f (k/16) (k%16) P
noncomputable def hX1(f:Nat->Nat->IS->Obj)(P:IS):Heap:=(fun g:Nat->Obj=>(⟨⟨[g 0,g 1,g 2,g 204,g 4,g 5,g 6,g 7,g 8,g 9,g 10,g 11,g 205,g 13,g 14,g 17,g 18,g 19,g 11,g 12,g 20,g 21,g 11,g 22,g 29,g 24,g 25,g 26,g 30,g 18,g 31,g 11,g 12,g 32,g 33,g 11,g 34,g 35,g 36,g 37,g 11,g 12,g 38,g 11,g 39,g 40,g 41,g 11,g 12,g 42,g 11,g 43,g 44,g 45,g 11,g 12,g 46,g 11,g 47,g 48,g 49,g 11,g 12,g 50,g 11,g 51,g 52,g 53,g 11,g 12,g 54,g 11,g 55,g 56,g 57,g 11,g 12,g 60,g 11,g 61,g 62,g 63,g 11,g 12,g 64,g 11,g 65,g 66,g 67,g 11,g 12,g 68,g 11,g 69,g 70,g 71,g 11,g 12,g 72,g 11,g 73,g 74,g 75,g 11,g 12,g 76,g 11,g 77,g 78,g 79,g 11,g 12,g 80,g 11,g 81,g 82,g 83,g 11,g 12,g 84,g 11,g 85,g 86,g 87,g 11,g 12,g 88,g 11,g 89,g 90,g 91,g 11,g 12,g 92,g 11,g 93,g 94,g 95,g 11,g 12,g 96,g 11,g 97,g 98,g 99,g 11,g 12,g 100,g 11,g 101,g 102,g 103,g 11,g 12,g 104,g 11,g 105,g 106,g 107,g 11,g 12,g 110,g 11,g 111,g 112,g 113,g 11,g 12,g 114,g 11,g 115,g 116,g 117,g 11,g 12,g 118,g 119,g 120,g 11,g 12,g 121,g 11,g 122,g 123,g 124,g 11,g 12,g 125,g 11,g 126,g 127,g 128,g 11,g 12,g 129,g 11,g 130,g 131,g 132,g 11,g 12,g 133,g 11,g 134,g 135,g 136,g 11,g 12,g 137,g 11,g 138,g 139,g 140,g 11,g 12,g 141,g 11,g 142,g 143,g 144,g 11,g 12,g 145,g 146,g 147,g 11,g 12,g 148,g 11,g 149,g 150,g 151,g 11,g 12,g 152,g 11,g 153,g 154,g 155,g 11,g 12,g 158,g 11,g 159,g 160,g 161,g 11,g 12,g 162,g 163,g 164,g 11,g 12,g 165,g 11,g 166,g 167,g 168,g 11,g 12,g 169,g 11,g 170,g 171,g 172,g 11,g 12,g 173,g 11,g 174,g 175,g 176,g 11,g 12,g 177,g 11,g 178,g 179,g 180,g 11,g 12,g 181,g 11,g 182,g 183,g 184,g 11,g 12,g 185,g 11,g 186,g 187,g 188,g 11,g 12,g 189,g 11,g 190,g 191,g 192,g 11,g 12,g 193,g 11,g 194,g 195,g 196,g 11,g 12,g 197,g 11,g 198,g 199,g 200,g 11,g 12,g 201,g 202,g 203,g 11,g 12,g 206,g 11,g 207,g 208,g 209,g 11,g 12,g 210,g 11,g 211,g 212,g 213,g 11,g 12,g 214,g 215,g 216,g 11,g 12,g 217,g 218,g 219,g 11,g 12,g 220,g 11,g 221,g 222,g 223,g 11,g 12,g 224,g 11,g 225,g 226,g 227,g 11,g 12,g 228,g 229,g 230,g 11,g 12,g 231,g 232,g 233,g 11,g 12,g 234,g 11,g 235,g 236,g 237,g 11,g 12,g 238,g 239,g 240,g 11,g 12,g 241,g 242,g 243,g 11,g 12,g 244,g 11,g 245,g 246,g 247,g 11,g 12,g 248,g 249,g 250]⟩,{}⟩:Heap)) fun k=>f (k/16) (k%16) P
theorem laid:(fun(_:IH) (_:IH) (_:Nat->Nat->IS->Obj) (_:List Stmt) (_:List Stmt) (_:List Stmt) (_:List Stmt) (_:List Stmt) (_:List Stmt)=>LC) pw2 vw fA sx0 sx1 sx2 sx3 sx4 sx5=LC:=by k_qdec
end QQ
namespace PySem.W.Fast
noncomputable def tw15881502364906578228:IH:=tw4061903402435717205
theorem te15881502364906578228:IV=tw15881502364906578228:=Eq.trans (by kernel_rfl:IV=QQ.pw2) te4061903402435717205
noncomputable def tw10537513929908095993:IH:=tw2543460329597916322
theorem te10537513929908095993:QQ.vw=tw10537513929908095993:=te2543460329597916322
noncomputable def tw14092973086889516277:List Stmt:=tw4220349153739756805
theorem te14092973086889516277:QQ.sx0=tw14092973086889516277:=te4220349153739756805
noncomputable def tw17516603143168127140:List Stmt:=tw11397161696757032129
theorem te17516603143168127140:QQ.sx1=tw17516603143168127140:=te11397161696757032129
noncomputable def tw9166901822468534799:List Stmt:=tw10303515436491237874
theorem te9166901822468534799:QQ.sx2=tw9166901822468534799:=te10303515436491237874
noncomputable def tw1958306057314448733:List Stmt:=tw12358083906500975388
theorem te1958306057314448733:QQ.sx3=tw1958306057314448733:=te12358083906500975388
noncomputable def tw226409375722776995:List Stmt:=tw2861187580803015100
theorem te226409375722776995:QQ.sx4=tw226409375722776995:=te2861187580803015100
noncomputable def tw18267823406339183884:List Stmt:=tw9932084693255007381
theorem te18267823406339183884:QQ.sx5=tw18267823406339183884:=te9932084693255007381
noncomputable def tw1125283804397403518:IS->BT:=QQ.tX0 tw16523235828492288951
theorem te1125283804397403518:QQ.tX0 QQ.fA=tw1125283804397403518:=congrArg QQ.tX0 te16523235828492288951
noncomputable def tw4830289315482260915:IS->BT:=QQ.tX1 tw16523235828492288951
theorem te4830289315482260915:QQ.tX1 QQ.fA=tw4830289315482260915:=congrArg QQ.tX1 te16523235828492288951
noncomputable def tw1461046744624127539:IS->BT:=QQ.tX2 tw16523235828492288951
theorem te1461046744624127539:QQ.tX2 QQ.fA=tw1461046744624127539:=congrArg QQ.tX2 te16523235828492288951
noncomputable def tw16810591907316550314:IS->BT:=QQ.tX3 tw16523235828492288951
theorem te16810591907316550314:QQ.tX3 QQ.fA=tw16810591907316550314:=congrArg QQ.tX3 te16523235828492288951
noncomputable def tw4468188911454410998:IS->BT:=QQ.tX4 tw16523235828492288951
theorem te4468188911454410998:QQ.tX4 QQ.fA=tw4468188911454410998:=congrArg QQ.tX4 te16523235828492288951
noncomputable def tw13429724376344331664:IS->BT:=QQ.tX5 tw16523235828492288951
theorem te13429724376344331664:QQ.tX5 QQ.fA=tw13429724376344331664:=congrArg QQ.tX5 te16523235828492288951
noncomputable def tw1931262702417539902:IS->BT:=QQ.tX6 tw16523235828492288951
theorem te1931262702417539902:QQ.tX6 QQ.fA=tw1931262702417539902:=congrArg QQ.tX6 te16523235828492288951
noncomputable def tw4122742474125373292:IS->PySem.Heap:=QQ.hX0 tw16523235828492288951
theorem te4122742474125373292:QQ.hX0 QQ.fA=tw4122742474125373292:=congrArg QQ.hX0 te16523235828492288951
noncomputable def tw15053810894846962569:IS->PySem.Heap:=QQ.hX1 tw16523235828492288951
theorem te15053810894846962569:QQ.hX1 QQ.fA=tw15053810894846962569:=congrArg QQ.hX1 te16523235828492288951
end PySem.W.Fast
end
open PySem PySem.W PyProof.Rows
set_option maxRecDepth 100000 in
set_option maxHeartbeats 0 in
theorem PySem.Challenge.cw_spotlook_k26_whole_lands_are_joined_holds : PySem.Challenge.rw_spotlook_k26_whole_lands_are_joined.Holds := by
 w_on;o_law;o_head (PySem.W.kHook QQ.kK [↑3,↑45,↑46,↑52,↑53,↑59,↑60,↑66,↑67,↑73,↑74,↑80,↑81,↑87,↑88,↑94,↑95,↑101,↑102,↑108,↑109,↑115,↑116,↑122,↑123,↑129,↑130,↑136,↑137,↑143,↑144,↑150,↑151,↑157,↑158,↑164,↑165,↑171,↑172,↑176,↑177,↑183,↑184,↑190,↑191,↑197,↑198,↑204,↑205,↑211,↑212,↑218,↑219,↑223,↑224,↑230,↑231,↑237,↑238,↑244,↑245,↑249,↑250,↑256,↑257,↑263,↑264,↑270,↑271,↑277,↑278,↑284,↑285,↑291,↑292,↑298,↑299,↑305,↑306,↑312,↑313,↑317,↑318,↑324,↑325,↑331,↑332,↑336,↑337,↑341,↑342,↑348,↑349,↑355,↑356,↑360,↑361,↑365,↑366,↑372,↑373,↑377,↑378,↑382,↑383,↑389,↑390,↑394,↑395] (fun _=>by kernel_rfl));(case hw=>w_witness2)
 k_fill
 refine SD.yc (k:=11) (x:="_law_script") (sp:=QQ.jT) (l:=PySem.Challenge.rw_spotlook_k26_whole_lands_are_joined) rfl rfl ⟨rfl,⋯,⋯,rfl⟩ (fun w h Y=>PySem.W.kIn_of Y) ?F QQ.C1
 case F=>
  intro w mg fa h KX G hmg
  have T:QQ.Tx (L2.KOf KX) mg:=by
   dsimp only[L2.KOf]
   constructor
   all_goals first
    |(refine' PySem.W.mg_none_of KX G ?a;(case a=>k_is))
    |(refine' SD.Txt.mk KX G ?a ?l ?c ?k;(case a=>k_is);(case l=>k_is);(case c=>k_is);(case k=>k_is))
  exact QQ.GP T hmg
