import PyProof.Rows.All
import Wide.All
import OpenK.AllK
import Wide.FinOn
import Lean
import PyProof.EqAt
import PyProof.EqKinds
import PyProof.TupleCall
import PySem.Challenge.RW_spotlook_k21_lands_of_faces
open Option renaming some->MA
open Option renaming none->MB
open Bool renaming true->MC
open Bool renaming false->MD
theorem ME{c:Prop}{d:Decidable c}(h:¬c){a:Sort _}{x y:a}:(if c then x else y)=y:=if_neg h
theorem MF{c:Prop}{d:Decidable c}(h:c){a:Sort _}{x y:a}:(if c then x else y)=x:=if_pos h
theorem MG{p:Prop}[Decidable p](h:¬p):decide p=false:=decide_eq_false h
theorem MI{p:Prop}[Decidable p](h:p):decide p=true:=decide_eq_true h
theorem MJ{p:Prop}[Decidable p](h:decide p=true):p:=of_decide_eq_true h
theorem MK{p q:Prop}{_:Decidable p}{_:Decidable q}:(decide p=decide q)=(p↔q):=propext decide_eq_decide
theorem ML{p:Prop}[Decidable p]:(decide p=true)=p:=decide_eq_true_eq
local macro_rules|`(())=>`(by omega)
local macro_rules|`(⋯)=>`(by decide)
local macro_rules | `(tactic| omega) => `(tactic| lia)
open Bool renaming false_ne_true->Jf,and_eq_true->Jn,false_and->JY,eq_iff_iff->K5,true_and->Kr,false_eq_true->KJ,and_true->L9,and_false->LA
open Classical renaming byContradiction->JB
open False renaming elim->Jq
open ForInStep renaming yield->Li
open Int renaming lt_trichotomy->J4,sign->Ji,mul_neg_of_neg_of_pos->Jp,sign_eq_neg_one_of_neg->Jr,mul_neg_of_pos_of_neg->Jv,mul_pos->Jy,sign_eq_one_of_pos->JK,mul_pos_of_neg_of_neg->JL,fdiv_eq_ediv_of_nonneg->JQ,le_of_lt->K7,toNat_natCast->Kx,le_refl->KN,fmod_eq_emod_of_nonneg->KR,one_mul->LJ,mul_nonneg->LR,ofNat->LS
open List renaming getElem?_eq_getElem->IS,length_map->IU,getElem?_map->IW,map_cons->IY,mem_of_getElem?->IZ,getElem?_eq_some_iff->J1,range->J5,mem_filter->J6,size_toArray->Ja,mem_append_right->Jb,map_append->Jg,mem_append->Jj,replicate->Jk,mem_cons->Jo,mem_range->Ju,mem_singleton->Jx,find?_cons->Jz,getElem?_append_left->JD,mem_cons_of_mem->JF,mem_map->JH,length_cons->JI,append_nil->JM,getElem_mem->JS,sum_cons->JU,all_eq_true->JW,getElem?_append_right->JZ,mem_cons_self->K0,take_of_length_le->K8,take_succ->K9,toArray->Ka,length_append->Kc,map_nil->Ki,lookup_cons->Kj,append_assoc->Kk,mem_append_left->Kn,ne_nil_of_mem->Kq,map_map->Ku,replicate_succ->Kv,length_nil->KC,range_succ->KD,flatten_cons->KQ,pairwise_iff_getElem->KY,map->L0,length_take->L3,take_length->L5,any_cons->L8,mem_iff_getElem->Ld,nodup_cons->Lf,foldl_cons->Lh,map_congr_left->Ln,zip_cons_cons->Lu,nodup_append->LL
open List.Pairwise renaming filter->KO
open Nat renaming le_refl->IX,lt_of_lt_of_le->Jm,ne_of_lt->JE,le_trans->K3,zero_le->K6,mod_two_eq_zero_or_one->Kg,gcd->LB
open PyProof.Rows renaming slot_tuple_getitem->Ke,IntsAre->Kw,callWith_type1->Lo
open PySem renaming wpAny_bind->cc,Value->IQ,Shared->IT,wpAny_pure->IV,wpAny->J3,sizeLine->J8,wpAny_mono->Jc,starEach->Jd,model->Jh,Program->Jl,Params->Jw,foldedSetIterable->JA,compareOp->JC,wpAny_newObj_type->JG,World->JO,mem_of_lookup->JR,Around->JV,bootBuiltins->JX,wpAny_loadPart'->K1,cLine->K4,wpAny_holding->Kb,DictEntry->Kf,wpAny_truthy_bool->Kh,backTo->Ks,wpAny_standAt->Kz,sysModules->KI,cellsFrom->KL,Spec->KP,letOwnedTupleGo->KU,codeAny_builtin->KW,binaryOp->KZ,attributeBase->L7,plainId_quiet->Lb,wpAny_typeNameOfWhole_keyiter->Lc,codeAny->Le,NameKind->Lm,keywordEach->Lp,Scope->Lr,wpAny_seqItems->Lx,wpAny_tryCatch->Ly,PyData->LC,wpAny_passesOwn->LD,mainGlobals->LH,wpAny_pyIter_list->LK,behindInMarks->LM,assignEach->LN,swapsWith->LP,assign->LQ,Keyword->LW,FuncData->LY,Paired->LZ,Builtin->Mb
open PySem.Around renaming under_plainId->Kp
open PySem.Builtin.Slice renaming sliceApplied->Lv
open PySem.Builtin.Tuple renaming tupleExact->Kd
open PySem.Challenge renaming pw_spotlook_k21_lands_of_faces->JJ
open PySem.F renaming slot_dict_keyiterator_next->KH,plain_min_loop->L4
open PySem.Heap renaming get?_push_of_some->J0,get?_push_size->J7,lt_size->J9,get?_update_other->JP,size_push->Ko,get?_update_self->Ky,SameBut->LI
open PySem.NameKind renaming free->Lq
open PySem.PassesOwn renaming never->Je
open PySem.PyData renaming eqv->Jt,eqvAll->JN,canLayAll0->Kl,int->Lk,canLay0->Lz,depthAll->LG
open PySem.SeqAt renaming shaped->Kt,canLay_of_shaped->KS
open PySem.Str renaming ofString->L6
open PySem.Value renaming ref->Km,none->LU,bool->LV
open PySem.W renaming Frag->I0,BT->Js,fnOf->KA,kia_one->LF
open Rat renaming intCast_mul->JT,intCast_sub->KG,intCast_add->Lj
open True renaming intro->LX
local macro_rules | `(↑$n:num) => `(nat_lit $n)
set_option Elab.async false
set_option linter.all false
set_option maxRecDepth 100000
set_option maxHeartbeats 4000000
theorem Mm{n m:Nat}(h:Nat.ble n m=MC):n<=m:=Nat.le_of_ble_eq_true h
namespace L2
open PySem PySem.Spec PyProof.Rows
abbrev Key:=Sum Int Str
def nB:Key->IQ->Bool
 |.inl k,v=>Value.isInt k v
 |.inr x,v=>Value.isStrOf x v
def HP(w:JO):Key->Int
 |.inl k=>hashInt k
 |.inr x=>hashStr w x
theorem bV:∀{k:Key} {v:IQ},nB k v=MC->(∃i t,k=Sum.inl i/\v=Value.int i t)\/(∃x t,k=Sum.inr x/\v=Value.str x t)
 |.inl i,v,h=>by
  obtain⟨t,e⟩:=Value.isInt_shape (k:=i) (v:=v) h
  exact .inl ⟨i,t,rfl,e⟩
 |.inr x,v,h=>by
  obtain⟨t,e⟩:=Value.isStrOf_shape (x:=x) (v:=v) h
  exact .inr ⟨x,t,rfl,e⟩
theorem wy(i:Int)(t:Tok):nB (.inl i) (.int i t)=MC:=by simp[nB,Value.isInt]
theorem wJ(x:Str)(t:Tok):nB (.inr x) (.str x t)=MC:=by simp[nB,Value.isStrOf]
theorem Dx(a b:Int):decide ((Sum.inl a:Key)=Sum.inl b)=(a==b):=by
 by_cases e:a=b
 ·subst e;simp
 ·have h:¬(Sum.inl a:Key)=Sum.inl b:=fun q=>e (Sum.inl.inj q);rw[MG h];exact(beq_eq_false_iff_ne.mpr e).symm
theorem C7(a b:Str):decide ((Sum.inr a:Key)=Sum.inr b)=decide (a=b):=by
 by_cases e:a=b
 ·subst e;simp
 ·have h:¬(Sum.inr a:Key)=Sum.inr b:=fun q=>e (Sum.inr.inj q);rw[MG h,MG e]
theorem CZ(a:Int)(b:Str):decide ((Sum.inl a:Key)=Sum.inr b)=MD:=MG (fun q=>nomatch q)
theorem E2(a:Str)(b:Int):decide ((Sum.inr a:Key)=Sum.inl b)=MD:=MG (fun q=>nomatch q)
def cB(prog:Jl)(w:JO):PySem.KeyKind prog w Key where
 is:=nB
 hash:=HP w
 inj:=fun v a b f d=>by
  rcases bV f with⟨i,t,rfl,rfl⟩|⟨x,t,rfl,rfl⟩
  ·rcases bV d with⟨j,u,rfl,e⟩|⟨y,u,rfl,e⟩
   ·injection e with e1 _;rw[e1]
   ·exact nomatch e
  ·rcases bV d with⟨j,u,rfl,e⟩|⟨y,u,rfl,e⟩
   ·exact nomatch e
   ·injection e with e1 _;rw[e1]
 byValue:=fun k v h=>by
  rcases bV h with⟨i,t,rfl,rfl⟩|⟨x,t,rfl,rfl⟩<;>rfl
 pyHash:=fun c h=>by
  rcases bV c with⟨i,t,rfl,rfl⟩|⟨x,t,rfl,rfl⟩
  ·exact wpAny_pyHash_int h
  ·exact wpAny_pyHash_str h
 eqBool:=fun g c h=>by
  rcases bV g with⟨i,t,rfl,rfl⟩|⟨x,t,rfl,rfl⟩
  ·rcases bV c with⟨j,u,rfl,rfl⟩|⟨y,u,rfl,rfl⟩
   ·rw[Dx]at h;exact wpAny_eqBool_int h
   ·rw[CZ]at h;exact SeqAt.EqAt.int_str i t y u _ _ _ _ h
  ·rcases bV c with⟨j,u,rfl,rfl⟩|⟨y,u,rfl,rfl⟩
   ·rw[E2]at h;exact SeqAt.EqAt.str_int x t j u _ _ _ _ h
   ·rw[C7]at h;exact wpAny_eqBool_str h
 «strs»:=fun k x t v h=>by
  rcases bV h with⟨i,u,rfl,e⟩|⟨y,u,rfl,e⟩
  ·exact nomatch e
  ·injection e with e1 _
   subst e1
   cases v<;>rfl
theorem pT(prog:Jl)(w:JO)(i:Int)(t:Tok):(cB prog w).is (.inl i) (.int i t)=MC:=wy i t
theorem qa(prog:Jl)(w:JO)(x:Str)(t:Tok):(cB prog w).is (.inr x) (.str x t)=MC:=wJ x t
inductive V where
 |non|bl (b:Bool)|int (i:Int)|str (x:Str)|byt (b:Array UInt8)|flt (b:UInt64)|ref (a:Addr)|ty (n:String)
 deriving DecidableEq
def RelV:V->IQ->Prop
 |.non,u=>u=LU
 |.bl b,u=>u=LV b
 |.int i,u=>∃t,u=Value.int i t
 |.str x,u=>∃t,u=Value.str x t
 |.byt b,u=>∃t,u=Value.bytes b t
 |.flt b,u=>∃t,u=Value.float b t
 |.ref a,u=>u=Km a
 |.ty n,u=>u=Value.type n
abbrev Vals:List V->List IQ->Prop:=LZ RelV
theorem Vals.length{xs:List V}{us:List IQ}(r:Vals xs us):xs.length=us.length:=Paired.length r
theorem Vals.get:∀{xs:List V} {us:List IQ} {i:Nat} {x:V},Vals xs us->xs[i]?=MA x->∃u,us[i]?=MA u/\RelV x u
 |_,_,_,_,.nil,e=>by simp at e
 |_,_,0,_,.cons r _,e=>by simp at e;subst e;exact⟨_,rfl,r⟩
 |_,_,i+1,x,.cons _ t,e=>by
  obtain⟨u,a,b⟩:=Vals.get (i:=i) (x:=x) t (by simpa using e)
  exact⟨u,by simpa using a,b⟩
theorem Vals.set{x:V}{u:IQ}(r:RelV x u):∀{xs:List V} {us:List IQ} (i:Nat),Vals xs us->Vals (xs.set i x) (us.set i u)
 |_,_,_,.nil=>.nil
 |_,_,0,.cons _ t=>.cons r t
 |_,_,i+1,.cons q t=>.cons q (Vals.set r i t)
theorem Vals.append:∀{xs a:List V} {us ws:List IQ},Vals xs us->Vals a ws->Vals (xs++a) (us++ws):=by
 intro xs a us ws h s
 induction h with
 |nil=>exact s
 |cons r t b=>exact .cons r b
theorem Vals.take:∀{xs:List V} {us:List IQ} (n:Nat),Vals xs us->Vals (xs.take n) (us.take n)
 |_,_,0,_=>.nil
 |_,_,_+1,.nil=>.nil
 |_,_,n+1,.cons r t=>.cons r (Vals.take n t)
theorem Vals.drop:∀{xs:List V} {us:List IQ} (n:Nat),Vals xs us->Vals (xs.drop n) (us.drop n)
 |_,_,0,r=>r
 |_,_,_+1,.nil=>.nil
 |_,_,n+1,.cons _ t=>Vals.drop n t
def wC:Option V->Option IQ->Prop
 |some v,MA u=>RelV v u
 |none,MB=>True
 |_,_=>False
def KV{a:Type}:List (a×V)->List (a×IQ)->Prop:=LZ fun(p:a×V) (q:a×IQ)=>p.1=q.1/\RelV p.2 q.2
def kV:Key->V
 |.inl i=>.int i
 |.inr x=>.str x
inductive HO where
 |lst (xs:List V)
 |tup (xs:List V)
 |dK (kvs:List (Key×V))|dT (kvs:List (List Key×V))
 |set (S:Int->Bool) (n:Nat)
 |ins (C dx:Addr) (fs:List (Str×V))
 |own (x:Addr)
 |xd (fs:List (Str×V))
 |met (f x:Addr)
 |rng (lo hi:Int)
 |frz (o:Obj) (u:HO)
 |tbl (ps:Array IQ)
 |ext (φ:Heap->Prop)
abbrev Hp:=Addr->Option HO
def upd(H:Hp)(a:Addr)(o:HO):Hp:=fun b=>if b=a then MA o else H b
theorem bC{H:Hp}{a:Addr}{o:HO}:upd H a o a=MA o:=by unfold upd;rw[MF rfl]
theorem bg{H:Hp}{a b:Addr}{o:HO}(h:b≠a):upd H a o b=H b:=by unfold upd;rw[ME h]
theorem G0{H:Hp}{a b:Addr}{o u:HO}(h:H a=MA o)(h':H b=MA u)(d:o≠u):a≠b:=by intro e;subst e;rw[h]at h';exact d (Option.some.inj h')
theorem eJ{H:Hp}{a b:Addr}{o:HO}(h:H a=MA o)(h':H b=MB):a≠b:=by intro e;subst e;rw[h]at h';cases h'
section
variable(P:Jl)(w:JO)
def Qy(h:Heap)(a:Addr):Prop:=∃o,h.get? a=MA o/\o.dict=MB
theorem Qy.new(h:Heap)(u:Array IQ):Qy (h.push { cls:=.type "tuple",data:=.seq u }) h.objs.size:=⟨_,J7 _ rfl,rfl⟩
def cQ(H:Hp)(h:Heap)(a:Addr):HO->Prop
 |.lst xs=>xs.length<=J8/\∃(b:List IQ) (n:Nat),Vals xs b/\h.get? a=MA { cls:=.type "list",data:=.seq b.toArray n }
 |.tup xs=>xs.length<=J8/\∃b:List IQ,Vals xs b/\IsTup h a b.toArray/\Qy h a
 |.dK kvs=>kvs.length<=J8/\(a==KI)=MD/\∃vs,KV kvs vs/\h.DictOf (cB P w) a vs
 |.dT kvs=>kvs.length<=J8/\(a==KI)=MD/\∃xs:List (List Key×Addr×IQ),
  LZ (fun(p:List Key×V) (q:List Key×Addr×IQ)=>p.1=q.1/\H q.2.1=MA (.tup (p.1.map kV))/\RelV p.2 q.2.2) kvs xs/\
  ∃o g k,h.get? a=MA o/\o.ExactDict/\o.data=.dict g k/\g.toList=xs.map (entryOfKey (tupleKind (cB P w)))/\(xs.map (·.1)).Nodup
 |.set S n=>h.SetOf (intKind P w) a S n
 |.ins C d fs=>H d=MA (.own a)/\fs.length<=1000/\d≠a/\h.get? a=MA (PySem.W.instObj C d)/\
  ∃c,h.Ns1 d c/\(∀f,wC (fs.lookup f) (c f))/\PySem.Within c (fs.map (·.1))
 |.own _=>∃o,h.get? a=MA o
 |.xd fs=>∃c,h.Ns1 a c/\∀f,wC (fs.lookup f) (c f)
 |.rng l m=>∃t u v,h.get? a=MA { cls:=.type "range",data:=.fields #[.int l t,.int m u,.int 1 v] }
 |.frz o u=>h.get? a=MA o/\cQ H h a u
 |.tbl ps=>h.get? a=MA { cls:=.none,data:=.fields ps }
 |.met f x=>h.get? a=MA (PySem.W.methodObj (.ref f) (.ref x))
 |.ext e=>e h/\(∃o,h.get? a=MA o)/\∀i j:Heap,e i->(∀o,i.get? a=MA o->j.get? a=MA o)->e j
def N1(H:Hp)(h:Heap):Prop:=∀a o,H a=MA o->cQ P w H h a o
end
section
variable{P:Jl}{w:JO}{H H':Hp}{h h':Heap}{a:Addr}{o:HO}
theorem cQ.lt(x:cQ P w H h a o):a<h.objs.size:=by
 cases o with
 |lst xs=>obtain⟨_,_,_,_,e⟩:=x;exact J9 e
 |tup xs=>obtain⟨_,_,_,p,_⟩:=x;exact p.lt
 |dK kvs=>obtain⟨_,_,_,_,o,_,_,e,_⟩:=x;exact J9 e
 |dT kvs=>obtain⟨_,_,_,_,o,_,_,e,_⟩:=x;exact J9 e
 |set S n=>obtain⟨o,_,_,_,e,_⟩:=x;exact J9 e
 |ins C b fs=>obtain⟨_,_,_,e,_⟩:=x;exact J9 e
 |own y=>obtain⟨_,e⟩:=x;exact J9 e
 |xd fs=>obtain⟨_,⟨_,_,_,e,_⟩,_⟩:=x;exact J9 e
 |rng c d=>obtain⟨_,_,_,e⟩:=x;exact J9 e
 |frz g u=>obtain⟨e,_⟩:=x;exact J9 e
 |tbl ps=>exact J9 (show h.get? a=MA _ from x)
 |met f y=>exact J9 (show h.get? a=MA _ from x)
 |ext i=>obtain⟨_,⟨_,e⟩,_⟩:=x;exact J9 e
theorem Paired.Ge{c d:Type}{F G:c->d->Prop}:∀{l₁:List c} {l₂:List d},LZ F l₁ l₂->(∀a b,F a b->G a b)->LZ G l₁ l₂:=by
 intro l₁ l₂ h f
 induction h with
 |nil=>exact .nil
 |cons r t e=>exact .cons (f _ _ r) e
theorem cQ.iJ(x:cQ P w H h a o)(k:∀b u,(b=a\/H b=MA (.own a))->h.get? b=MA u->h'.get? b=MA u) (s:∀b,H b=MA (.own a)->H' b=MA (.own a)) (A:∀b xs,H b=MA (.tup xs)->H' b=MA (.tup xs)):cQ P w H' h' a o:=by
 induction o with
 |lst xs=>obtain⟨z,l,n,r,e⟩:=x;exact⟨z,l,n,r,k _ _ (.inl rfl) e⟩
 |tup xs=>obtain⟨z,l,r,⟨g,e,c⟩,B,e2,D⟩:=x;exact⟨z,l,r,⟨g,k _ _ (.inl rfl) e,c⟩,B,k _ _ (.inl rfl) e2,D⟩
 |dK kvs=>obtain⟨z,y,vs,r,g,i,j,e,c⟩:=x;exact⟨z,y,vs,r,g,i,j,k _ _ (.inl rfl) e,c⟩
 |dT kvs=>
  obtain⟨z,y,xs,r,g,i,j,e,c⟩:=x
  exact⟨z,y,xs,Paired.Ge r fun p q z=>⟨z.1,A _ _ z.2.1,z.2.2⟩,g,i,j,k _ _ (.inl rfl) e,c⟩
 |set S n=>obtain⟨g,i,j,t,e,c⟩:=x;exact⟨g,i,j,t,k _ _ (.inl rfl) e,c⟩
 |ins C F fs=>
  obtain⟨d,z,ne,e,m,⟨od,i,j,e2,c⟩,r⟩:=x
  exact⟨s _ d,z,ne,k _ _ (.inl rfl) e,m,⟨od,i,j,k _ _ (.inr d) e2,c⟩,r⟩
 |own y=>obtain⟨g,e⟩:=x;exact⟨g,k _ _ (.inl rfl) e⟩
 |xd fs=>obtain⟨m,⟨od,i,j,e,c⟩,r⟩:=x;exact⟨m,⟨od,i,j,k _ _ (.inl rfl) e,c⟩,r⟩
 |rng G I=>obtain⟨t,u,v,e⟩:=x;exact⟨t,u,v,k _ _ (.inl rfl) e⟩
 |frz g u E=>obtain⟨e,q⟩:=x;exact⟨k _ _ (.inl rfl) e,E q⟩
 |tbl ps=>
  have e:h.get? a=MA { cls:=.none,data:=.fields ps }:=x
  show h'.get? a=MA { cls:=.none,data:=.fields ps }
  exact k a _ (.inl rfl) e
 |met f y=>
  have e:h.get? a=MA (PySem.W.methodObj (.ref f) (.ref y)):=x
  show h'.get? a=MA (PySem.W.methodObj (.ref f) (.ref y))
  exact k a _ (.inl rfl) e
 |ext J=>obtain⟨p,⟨o,e⟩,st⟩:=x;exact⟨st _ _ p fun o q=>k _ _ (.inl rfl) q,⟨o,k _ _ (.inl rfl) e⟩,st⟩
theorem N1.lt(x:N1 P w H h)(e:H a=MA o):a<h.objs.size:=(x a o e).lt
theorem N1.fresh(x:N1 P w H h)(e:h.objs.size<=a):H a=MB:=by
 cases q:H a with
 |none=>rfl
 |some u=>exact absurd (Jm (x.lt q) e) (Nat.lt_irrefl _)
theorem N1.kept(x:N1 P w H h)(k:∀b u,h.get? b=MA u->h'.get? b=MA u):N1 P w H h':=fun a o e=>(x a o e).iJ (fun b u _ q=>k b u q) (fun _ q=>q) fun _ _ q=>q
theorem N1.laid(x:N1 P w H h)(k:∀b u,h.get? b=MA u->h'.get? b=MA u)(g:h.objs.size<=a)(new:cQ P w (upd H a o) h' a o):N1 P w (upd H a o) h':=fun b u e=>by
 have d:=x.fresh g;by_cases f:b=a
 ·subst f;rw[bC]at e;cases e;exact new
 ·rw[bg f]at e;exact(x b u e).iJ (fun c v _ q=>k c v q) (fun c q=>by rw[bg (eJ q d)];exact q) fun c xs q=>by rw[bg (eJ q d)];exact q
end
def Rd(H:Hp)(a:Addr)(u:HO):Prop:=H a=MA u\/∃o,H a=MA (.frz o u)
theorem Rd.ok{P:Jl}{w:JO}{H:Hp}{h:Heap}{a:Addr}{u:HO}(r:Rd H a u)(x:N1 P w H h):cQ P w H h a u:=by
 rcases r with r|⟨o,r⟩
 ·exact x a u r
 ·obtain⟨_,q⟩:=x a _ r;exact q
def VA:Option HO->Prop
 |some (.lst _)=>True
 |some (.dK _)=>True
 |some (.dT _)=>True
 |some (.set _ _)=>True
 |some (.ins _ _ _)=>True
 |some (.ext _)=>True
 |_=>False
section
variable{P:Jl}{w:JO}{H:Hp}{h h':Heap}{x e:Addr}{o':HO}
theorem N1.write(ok:N1 P w H h)(g:VA (H x))(m:e=x\/H e=MA (.own x))(k:∀b u,b≠e->h.get? b=MA u->h'.get? b=MA u)(l:∃u,h'.get? e=MA u)
 (new:cQ P w (upd H x o') h' x o'):N1 P w (upd H x o') h':=fun b u q=>by
 have d:∀c y,H c=MA (.own y)->c≠x:=fun c y r z=>by subst z;rw[r]at g;exact g
 have f:∀c xs,H c=MA (.tup xs)->c≠x:=fun c xs r z=>by subst z;rw[r]at g;exact g
 by_cases i:b=x
 ·subst i;rw[bC]at q;cases q;exact new
 ·rw[bg i]at q
  by_cases a:b=e
  ·have n:H b=MA (.own x):=by
    rcases m with z|z
    ·exact absurd (a.trans z) i
    ·rw[a];exact z
   rw[q]at n;cases n
   obtain⟨v,o⟩:=l
   exact⟨v,by rw[a];exact o⟩
  ·refine(ok b u q).iJ (fun c v j r=>k c v ?_ r) (fun c r=>by rw[bg (d c b r)];exact r) fun c xs r=>by rw[bg (f c xs r)];exact r
   rcases j with rfl|j
   ·exact a
   ·rintro rfl
    rcases m with z|z
    ·exact d c b j z
    ·rw[j]at z;cases z;exact i rfl
end
structure Un(fs ex:List Addr)(H H':Hp)(h h':Heap):Prop where
 keep:∀b o,h.get? b=MA o->H b=MB->b∉fs->b∉ex->h'.get? b=MA o
 slot:∀b o,h.get? b=MA o->H b=MB->b∈fs->b∉ex->∃sl,h'.get? b=MA { o with slots:=sl }
 free:∀b o,h.get? b=MA o->H b=MB->b∉ex->H' b=MB
 there:∀b o,h.get? b=MA o->b∉ex->∃o',h'.get? b=MA o'
 tups:∀b xs,H b=MA (.tup xs)->H' b=MA (.tup xs)
 frzs:∀b o u,H b=MA (.frz o u)->H' b=MA (.frz o u)
 tbls:∀b ps,H b=MA (.tbl ps)->∃more,H' b=MA (.tbl (ps++more))
section
variable{fs MM ex MN:List Addr}{H H1 H2:Hp}{h h1 h2 h':Heap}{a x e:Addr}{o:HO}
theorem Un.any(u:Un fs ex H H1 h h1){b:Addr}{c:Obj}(q:h.get? b=MA c)(n:H b=MB)(d:b∉ex):∃g,h1.get? b=MA { c with slots:=g }:=by
 by_cases f:b∈fs
 ·exact u.slot b c q n f d
 ·exact⟨c.slots,u.keep b c q n f d⟩
theorem Un.kept(k:∀b u,h.get? b=MA u->h'.get? b=MA u):Un fs ex H H h h':=⟨fun b c q _ _ _=>k b c q,fun b c q _ _ _=>⟨c.slots,k b c q⟩,fun _ _ _ n _=>n,fun b c q _=>⟨c,k b c q⟩,fun _ _ q=>q,fun _ _ _ q=>q,fun _ ps q=>⟨#[],by rw[q];simp⟩⟩
theorem Un.refl:Un fs ex H H h h:=Un.kept fun _ _ q=>q
theorem Un.laid(k:∀b u,h.get? b=MA u->h'.get? b=MA u)(d:h.objs.size<=a)(c:H a=MB):Un fs ex H (upd H a o) h h' where
 keep:=fun b u q _ _ _=>k b u q
 slot:=fun b u q _ _ _=>⟨u.slots,k b u q⟩
 free:=fun b u q n _=>by rw[bg (JE (Jm (J9 q) d))];exact n
 there:=fun b u q _=>⟨u,k b u q⟩
 tups:=fun b xs q=>by rw[bg (eJ q c)];exact q
 frzs:=fun b u xs q=>by rw[bg (eJ q c)];exact q
 tbls:=fun b ps q=>⟨#[],by rw[bg (eJ q c),q];simp⟩
theorem Un.write(d:VA (H x))(l:e=x\/H e=MA (.own x))(k:∀b u,b≠e->h.get? b=MA u->h'.get? b=MA u)(f:∃u,h'.get? e=MA u):Un fs ex H (upd H x o) h h':=by
 have i:∀b,H b=MB->b≠x:=fun b n z=>by subst z;rw[n]at d;exact d
 have j:∀b,H b=MB->b≠e:=fun b n z=>by
  subst z;rcases l with r|r
  ·exact i b n r
  ·rw[n]at r;cases r
 have g:∀b u,H b=MA u->¬VA (MA u)->b≠x:=fun b u q m z=>by subst z;rw[q]at d;exact m d
 refine⟨fun b u q n _ _=>k b u (j b n) q,fun b u q n _ _=>⟨u.slots,k b u (j b n) q⟩,fun b u q n _=>by rw[bg (i b n)];exact n,fun b u q _=>?_,fun b xs q=>by rw[bg (g b _ q fun z=>z)];exact q,fun b u xs q=>by rw[bg (g b _ q fun z=>z)];exact q,fun b ps q=>⟨#[],by rw[bg (g b _ q fun z=>z),q];simp⟩⟩;by_cases c:b=e
 ·subst c;exact f
 ·exact⟨u,k b u c q⟩
end
def VG(h:Heap)(H:Hp):List Addr:=(J5 h.objs.size).filter fun a=>(H a).isSome
def oP(h:Heap)(H:Hp):Heap:=PySem.W.hideAll h (VG h H)
theorem vI(h:Heap)(H:Hp):(oP h H).objs.size=h.objs.size:=PySem.W.hideAll_size _ _
theorem yd{h:Heap}{H:Hp}{b:Addr}{o:Obj}(e:h.get? b=MA o)(n:H b=MB):(oP h H).get? b=MA o:=
 PySem.W.hideAll_get _ e fun a=>by
  have q:(H b).isSome=MC:=(J6.mp a).2
  rw[n]at q;simp at q
theorem A3{h:Heap}{H:Hp}{b:Addr}{o:Obj}(e:(oP h H).get? b=MA o):h.get? b=MA o/\H b=MB:=by
 have a:h.get? b=MA o:=PySem.W.of_hideAll (VG h H) e;refine⟨a,?_⟩;cases q:H b with
 |none=>rfl
 |some x=>
  have c:b∈VG h H:=J6.mpr ⟨Ju.mpr (J9 a),by simp[q]⟩
  have z:(oP h H).get? b=MB:=PySem.W.hideAll_none (VG h H) c
  rw[z]at e;cases e
structure Mod(K:I0)(mg:Str->Option IQ)(base:Heap):Prop where
 kin:K.In base
 glob:base.Ns LH mg
 blt:∃mb,base.Ns builtinsNs mb/\∀x:Str,x≠"__name__"->mb x=JX x
 nolimit:base.NoLimit
structure Cx where
 prog:Jl
 w:JO
 K:I0
 mg:Str->Option IQ
 base:Heap
 A:JV
 N:List Str
 s₀:IT
 H₀:Hp
 env:Env
 outer:List Env
 stack:List Env
 ex:List Addr
 fn:Str->Bool
 calm:Bool
 pn:List (Addr×Obj)
 xe:IQ->IT->Prop
def QX(l:List Env):List Addr:=l.filterMap (·.frame)
abbrev Cx.fs(X:Cx):List Addr:=QX X.outer
def Uy(sc:Lr)(x:Str):Prop:=sc.names.lookup x=MA .local\/sc.names.lookup x=MA .cell\/sc.names.lookup x=MA .free
def Loc(sc:Lr)(x:Str):Prop:=sc.names.lookup x=MA .local\/sc.names.lookup x=MA .cell
def Look(env:Env)(h:Heap)(m:Str->Option IQ)(x:Str)(u:IQ):Prop:=
 (env.kindOf x=MA .local/\m x=MA u)\/((env.kindOf x=MA .cell\/env.kindOf x=MA .free)/\∃c,env.cells.lookup x=MA c/\h.IsCell c (MA u))
structure Cx.Ok(X:Cx):Prop where
 mod:Mod X.K X.mg X.base
 kind:X.env.scope.kind=.function
 glob:X.env.globals=LH
 blt:X.env.builtins=builtinsNs
 above:X.s₀.heap.objs.size<=X.env.locals
 inj:∀x y c,X.env.cells.lookup x=MA c->X.env.cells.lookup y=MA c->x=y
 has:∀x,(X.env.kindOf x=MA .cell\/X.env.kindOf x=MA .free)->∃c,X.env.cells.lookup x=MA c
 cab:∀x c,X.fn x=MC->X.env.cells.lookup x=MA c->X.s₀.heap.objs.size<=c
 hd:X.calm=MC->X.A.handled=MB
 frames:X.A.frames=MA X.stack
 stk:X.stack=X.outer\/(X.stack=X.env::X.outer/\X.env.frame=MA X.env.locals)
 exf:∀b∈X.ex,b≠X.env.locals/\∀x c,X.env.cells.lookup x=MA c->c≠b
 bs:∀b o,X.base.get? b=MA o->X.s₀.heap.get? b=MA o/\X.H₀ b=MB
 bsz:X.base.objs.size<=X.s₀.heap.objs.size
 noex:∀b o,X.base.get? b=MA o->b∉X.ex
 exfs:∀b∈X.ex,b∉X.fs
 l6:X.s₀.heap.FunFrames X.base X.outer
 frf:∀b∈X.fs,X.H₀ b=MB
structure Inv(X:Cx)(MP:List (Addr×Obj))(σ:List (Option V))(H:Hp)(s:IT):Prop where
 ok:X.Ok
 os:s.os=X.s₀.os
 bare:AllBare s.gens
 base:Un X.fs X.ex X.H₀ H X.s₀.heap s.heap
 loc:∃m,s.heap.Ns X.env.locals m/\∀(i:Nat) (x:Str) (v:V),X.N[i]?=MA x->σ[i]?=MA (MA v)->Uy X.env.scope x->∃u,RelV v u/\Look X.env s.heap m x u
 cell:∀x c,X.env.cells.lookup x=MA c->∃v,s.heap.IsCell c v
 free:H X.env.locals=MB
 freeC:∀x c,X.env.cells.lookup x=MA c->H c=MB
 pin:∀p∈X.pn++MP,s.heap.get? p.1=MA p.2/\H p.1=MB/\p.1≠X.env.locals/\p.1∉X.fs/\∀v,p.2.data≠.cell v
 hok:N1 X.prog X.w H s.heap
 len:σ.length=X.N.length
section
variable{X:Cx}{MP:List (Addr×Obj)}{σ:List (Option V)}{H H':Hp}{s:IT}{h':Heap}
theorem Cx.Ok.HK(ok:X.Ok){b:Addr}{o:Obj}(e:X.base.get? b=MA o):b∉X.fs:=fun a=>by have:=(ok.l6.mem a).1;rw[e]at this;cases this
theorem Inv.bs(I:Inv X MP σ H s):∀b o,X.base.get? b=MA o->s.heap.get? b=MA o/\H b=MB:=fun b o e=>⟨I.base.keep b o (I.ok.bs b o e).1 (I.ok.bs b o e).2 (I.ok.HK e) (I.ok.noex b o e),I.base.free b o (I.ok.bs b o e).1 (I.ok.bs b o e).2 (I.ok.noex b o e)⟩
theorem Inv.bk(I:Inv X MP σ H s):∀b o,X.base.get? b=MA o->s.heap.get? b=MA o:=fun b o e=>(I.bs b o e).1
theorem Inv.mod(I:Inv X MP σ H s):Mod X.K X.mg X.base:=I.ok.mod
theorem Inv.kIn(I:Inv X MP σ H s):X.K.In s.heap:=I.ok.mod.kin.keeps I.bk
theorem Inv.lt(I:Inv X MP σ H s):X.env.locals<s.heap.objs.size:=let⟨_,a,_⟩:=I.loc;a.lt
theorem Inv.sz(I:Inv X MP σ H s):X.s₀.heap.objs.size<=s.heap.objs.size:=K3 I.ok.above (Nat.le_of_lt I.lt)
theorem Inv.Ic(I:Inv X MP σ H s){a:Addr}(h:s.heap.objs.size<=a):a∉X.fs:=fun b=>by obtain⟨_,o,c,_⟩:=I.ok.l6.mem b;exact absurd (Jm (J9 c) (K3 I.sz h)) (Nat.lt_irrefl _)
theorem Inv.cne(I:Inv X MP σ H s):∀x c,X.env.cells.lookup x=MA c->c≠X.env.locals:=fun x c e z=>by obtain⟨v,o,d,hd⟩:=I.cell x c e;obtain⟨m,⟨f,g,h,a,b,_⟩,_⟩:=I.loc;rw[z,a]at d;cases d;rw[b]at hd;cases hd
theorem Inv.l6(I:Inv X MP σ H s):s.heap.FunFrames X.base X.outer:=by
 have all:∀(l:List Env),(∀b∈QX l,b∈X.fs)->X.s₀.heap.FunFrames X.base l->s.heap.FunFrames X.base l:=by
  intro l
  induction l with
  |nil=>intro _ _;trivial
  |cons env r f=>
   intro d g
   obtain⟨h,⟨L,o,hf,i,j,hd⟩,k⟩:=g
   have a:L∈X.fs:=d L (by unfold QX;rw[List.filterMap_cons,hf];exact K0)
   obtain⟨m,e⟩:=I.base.slot L o j (I.ok.frf L a) a fun z=>I.ok.exfs L z a
   exact⟨h,⟨L,_,hf,i,e,hd⟩,f (fun b c=>d b (by unfold QX;rw[List.filterMap_cons,hf];exact JF _ c)) k⟩
 exact all X.outer (fun _ c=>c) I.ok.l6
theorem Inv.stack(I:Inv X MP σ H s):s.heap.FunFrames X.base X.stack:=by
 rcases I.ok.stk with e|⟨e,hf⟩
 ·rw[e];exact I.l6
 ·rw[e];obtain⟨m,a,_⟩:=I.loc;refine .cons (by rw[I.ok.kind];decide) hf a ?_ I.l6;exact Heap.get?_none_of_le (K3 I.ok.bsz I.ok.above)
theorem Inv.sV(I:Inv X MP σ H s):∀b∈QX X.stack,b∈X.env.locals::X.fs:=fun b a=>by
 rcases I.ok.stk with e|⟨e,hf⟩
 ·rw[e]at a;exact JF _ a
 ·rw[e]at a;unfold QX at a;rw[List.filterMap_cons,hf]at a;exact a
theorem Inv.tY(I:Inv X MP σ H s):∀b∈QX X.stack,H b=MB:=fun b a=>by
 rcases Jo.mp (I.sV b a)with e|a
 ·rw[e];exact I.free
 ·obtain⟨_,o,c,_⟩:=I.ok.l6.mem a;exact I.base.free b o c (I.ok.frf b a) fun z=>I.ok.exfs b z a
theorem Inv.step{g':Array GenState}{t':Nat}{d':Drawn}{ch:List Addr}(I:Inv X MP σ H s)
 (f:∀b∈ch,(b∈X.ex\/X.s₀.heap.objs.size<=b)/\b≠X.env.locals/\(∀x c,X.env.cells.lookup x=MA c->c≠b)/\∀p∈X.pn++MP,p.1≠b)
 (keep:∀b o,b≠X.env.locals->b∉X.fs->b∉ch->s.heap.get? b=MA o->H b=MB->h'.get? b=MA o)
 (slot:∀b o,b≠X.env.locals->b∈X.fs->b∉ch->s.heap.get? b=MA o->H b=MB->∃C,h'.get? b=MA { o with slots:=C }) (free:∀b o,b∉ch->s.heap.get? b=MA o->H b=MB->H' b=MB)
 (there:∀b o,b∉ch->s.heap.get? b=MA o->∃o',h'.get? b=MA o')
 (tups:∀b xs,H b=MA (.tup xs)->H' b=MA (.tup xs)) (frzs:∀b o u,H b=MA (.frz o u)->H' b=MA (.frz o u)) (tbls:∀b ps,H b=MA (.tbl ps)->∃more,H' b=MA (.tbl (ps++more)))
 (ns:∀m,s.heap.Ns X.env.locals m->h'.Ns X.env.locals m) (hok:N1 X.prog X.w H' h') (J:AllBare g') :
 Inv X MP σ H' { s with heap:=h',gens:=g',drawn:=d',toks:=t' }:=by
 have B:∀b o,X.s₀.heap.get? b=MA o->b≠X.env.locals:=fun b o e=>JE (Jm (J9 e) I.ok.above)
 have j:∀b o,X.s₀.heap.get? b=MA o->b∉X.ex->b∉ch:=fun b o e a t=>by
  rcases(f b t).1 with z|z
  ·exact a z
  ·exact absurd (Jm (J9 e) z) (Nat.lt_irrefl _)
 have g:∀x c,X.env.cells.lookup x=MA c->∀v,s.heap.IsCell c v->h'.IsCell c v:=fun x c e v y=>by
  obtain⟨o,A,hd⟩:=y
  have h:c∉ch:=fun z=>(f c z).2.2.1 x c e rfl
  by_cases E:c∈X.fs
  ·obtain⟨C,q⟩:=slot c o (I.cne x c e) E h A (I.freeC x c e)
   exact⟨_,q,hd⟩
  ·exact⟨o,keep c o (I.cne x c e) E h A (I.freeC x c e),hd⟩
 refine⟨I.ok,I.os,J,⟨fun b o e n t a=>?_,fun b o e n t a=>?_,fun b o e n a=>?_,fun b o e a=>?_,fun b xs e=>tups b xs (I.base.tups b xs e),fun b o xs e=>frzs b o xs (I.base.frzs b o xs e),fun b ps e=>?_⟩,?_,fun x c e=>?_,?_,fun x c e=>?_,fun p F=>?_,hok,I.len⟩
 ·exact keep b o (B b o e) t (j b o e a) (I.base.keep b o e n t a) (I.base.free b o e n a)
 ·obtain⟨C,e1⟩:=I.base.slot b o e n t a
  obtain⟨D,e2⟩:=slot b _ (B b o e) t (j b o e a) e1 (I.base.free b o e n a)
  exact⟨D,e2⟩
 ·obtain⟨o',e1⟩:=I.base.there b o e a
  exact free b o' (j b o e a) e1 (I.base.free b o e n a)
 ·obtain⟨o',e1⟩:=I.base.there b o e a
  exact there b o' (j b o e a) e1
 ·obtain⟨K,e1⟩:=I.base.tbls b ps e
  obtain⟨L,e2⟩:=tbls b _ e1
  exact⟨K++L,by rw[e2,Array.append_assoc]⟩
 ·obtain⟨m,M,N⟩:=I.loc
  refine⟨m,ns m M,fun i x v e1 e2 e3=>?_⟩
  obtain⟨u,r,l⟩:=N i x v e1 e2 e3
  refine⟨u,r,?_⟩
  rcases l with l|⟨k,c,e,z⟩
  ·exact .inl l
  ·exact .inr ⟨k,c,e,g x c e _ z⟩
 ·obtain⟨v,z⟩:=I.cell x c e
  exact⟨v,g x c e v z⟩
 ·obtain⟨m,⟨o,_,_,A,_⟩,_⟩:=I.loc
  exact free _ o (fun z=>(f _ z).2.1 rfl) A I.free
 ·obtain⟨v,o,A,hd⟩:=I.cell x c e
  exact free c o (fun z=>(f c z).2.2.1 x c e rfl) A (I.freeC x c e)
 ·obtain⟨e,n,ne,G,d⟩:=I.pin p F
  have h:p.1∉ch:=fun z=>(f p.1 z).2.2.2 p F rfl
  exact⟨keep p.1 p.2 ne G h e n,free p.1 p.2 h e n,ne,G,d⟩
theorem Inv.un{t':Nat}(I:Inv X MP σ H s)(u:Un X.fs [] H H' s.heap h')(hok:N1 X.prog X.w H' h'):Inv X MP σ H' { s with heap:=h',toks:=t' }:=by
 obtain⟨m,⟨o,k,l,g,r⟩,_⟩:=id I.loc;obtain⟨p,h⟩:=u.any g I.free (by simp)
 exact I.step (g':=s.gens) (d':=s.drawn) (ch:=[]) (fun _ z=>nomatch z) (fun b o _ c _ e n=>u.keep b o e n c (by simp)) (fun b o _ c _ e n=>u.slot b o e n c (by simp)) (fun b o _ e n=>u.free b o e n (by simp)) (fun b o _ e=>u.there b o e (by simp)) u.tups u.frzs u.tbls (fun q i=>by
  obtain⟨t,d,f,a,j⟩:=i
  rw[g]at a;cases a
  exact⟨_,d,f,h,j⟩) hok I.bare
theorem Inv.call{g':Array GenState}{t':Nat}{d':Drawn}{ch:List Addr}(I:Inv X MP σ H s)(u:Un (QX X.stack) ch H H' s.heap h')(hok:N1 X.prog X.w H' h')(k:AllBare g') (d:∀b∈ch,(b∈X.ex\/X.s₀.heap.objs.size<=b)/\b≠X.env.locals/\(∀x c,X.env.cells.lookup x=MA c->c≠b)/\∀p∈X.pn++MP,p.1≠b) : Inv X MP σ H' { s with heap:=h',gens:=g',drawn:=d',toks:=t' }:=by
 obtain⟨m,⟨o,v,y,j,r⟩,_⟩:=id I.loc;obtain⟨A,g⟩:=u.any j I.free fun z=>(d _ z).2.1 rfl
 exact I.step (ch:=ch) d (fun b o g l a e n=>u.keep b o e n (fun z=>(Jo.mp (I.sV b z)).elim g l) a) (fun b o _ _ a e n=>u.any e n a) (fun b o a e n=>u.free b o e n a) (fun b o a e=>u.there b o e a) u.tups u.frzs u.tbls (fun B q=>by
  obtain⟨C,h,i,f,t⟩:=q
  rw[j]at f;cases f
  exact⟨_,h,i,g,t⟩) hok k
theorem Inv.turned{t':Nat}{it:Addr}(I:Inv X MP σ H s)(k:∀b o,b≠it->s.heap.get? b=MA o->h'.get? b=MA o)(g:H it=MB)(f:it≠X.env.locals)
 (h:it∈X.ex\/X.s₀.heap.objs.size<=it) (i:∀x c,X.env.cells.lookup x=MA c->c≠it) (j:∀p∈X.pn++MP,p.1≠it):Inv X MP σ H { s with heap:=h',toks:=t' }:=by
 have d:∀b u,H b=MA u->b≠it:=fun b u e z=>by rw[z,g]at e;cases e
 refine I.step (g':=s.gens) (d':=s.drawn) (ch:=[it]) (fun b l=>?_) (fun b o _ _ a e _=>k b o (fun z=>a (by simp[z])) e) (fun b o _ _ a e _=>⟨o.slots,k b o (fun z=>a (by simp[z])) e⟩) (fun _ _ _ _ n=>n)
  (fun b o a e=>⟨o,k b o (fun z=>a (by simp[z])) e⟩) (fun _ _ e=>e) (fun _ _ _ e=>e) (fun b ps e=>⟨#[],by rw[e];simp⟩) (fun m t=>?_) (fun b u e=>?_) I.bare
 ·have e:b=it:=by simpa using l
  subst e
  exact⟨h,f,i,j⟩
 ·obtain⟨o,w,y,A,r⟩:=t
  exact⟨o,w,y,k _ o (Ne.symm f) A,r⟩
 ·refine(I.hok b u e).iJ (fun c v a q=>k c v ?_ q) (fun _ q=>q) fun _ _ q=>q
  rcases a with z|z
  ·rw[z];exact d b u e
  ·exact d c _ z
theorem Inv.tok(I:Inv X MP σ H s)(t:Nat):Inv X MP σ H { s with toks:=t }:=I.un (h':=s.heap) (t':=t) Un.refl I.hok
theorem Inv.kept{t':Nat}(I:Inv X MP σ H s)(k:∀b u,s.heap.get? b=MA u->h'.get? b=MA u):Inv X MP σ H { s with heap:=h',toks:=t' }:=I.un (Un.kept k) (I.hok.kept k)
theorem Inv.laid{a:Addr}{o:HO}{t':Nat}(I:Inv X MP σ H s)(k:∀b u,s.heap.get? b=MA u->h'.get? b=MA u)(c:s.heap.objs.size<=a)(new:cQ X.prog X.w (upd H a o) h' a o) : Inv X MP σ (upd H a o) { s with heap:=h',toks:=t' }:=I.un (Un.laid k c (I.hok.fresh c)) (I.hok.laid k c new)
theorem Inv.write{x e:Addr}{o:HO}{t':Nat}(I:Inv X MP σ H s)(c:VA (H x))(d:e=x\/H e=MA (.own x))(k:∀b u,b≠e->s.heap.get? b=MA u->h'.get? b=MA u)(a:∃u,h'.get? e=MA u) (new:cQ X.prog X.w (upd H x o) h' x o):Inv X MP σ (upd H x o) { s with heap:=h',toks:=t' }:=I.un (Un.write c d k a) (I.hok.write c d k a new)
theorem Inv.uE{pins':List (Addr×Obj)}(I:Inv X MP σ H s)(h:∀p∈pins',s.heap.get? p.1=MA p.2/\H p.1=MB/\p.1≠X.env.locals/\p.1∉X.fs/\∀v,p.2.data≠.cell v):Inv X pins' σ H s:=⟨I.ok,I.os,I.bare,I.base,I.loc,I.cell,I.free,I.freeC,fun p a=>(Jj.mp a).elim (fun z=>I.pin p (Kn _ z)) (h p),I.hok,I.len⟩
theorem pP{N:List Str}(c:N.Nodup){i j:Nat}{x:Str}(a:N[i]?=MA x)(b:N[j]?=MA x):i=j:=by obtain⟨d,e1⟩:=J1.mp a;obtain⟨e,e2⟩:=J1.mp b;exact(List.getElem_inj c).mp (e1.trans e2.symm)
theorem jJ{M:Model}{A:JV}{E:IQ->IT->Prop}{i:Nat}{x:Str}{v:V}{u:IQ}{Q:Unit->IT->Prop}(I:Inv X MP σ H s)(hN:X.N.Nodup)(K:X.N[i]?=MA x)(t:Loc X.env.scope x)(r:RelV v u)
 (h:∀W,Inv X MP (σ.set i (MA v)) H W->(∃a,LI a s.heap W.heap/\(a=X.env.locals\/X.env.cells.lookup x=MA a))->Q .unit W) (hf:X.fn x=MC\/X.env.scope.names.lookup x=MA .local:=by first|exact .inl rfl|exact .inr rfl|assumption):J3 M A (storeName X.env x u) Q E s:=by
 obtain⟨m,Y,hl⟩:=id I.loc
 have L:(X.env.scope.kind==.class||(X.env.scope.kind==.module&&X.env.locals != X.env.globals))=MD:=by rw[I.ok.kind];rfl
 have C:i<σ.length:=by rw[I.len];exact(J1.mp K).1
 have cne:=I.cne
 have g:∀{a:Addr} {h':Heap},(∃o,s.heap.get? a=MA o/\H a=MB)->LI a s.heap h'->N1 X.prog X.w H h':=fun{a h'} ha f b ob e=>by
  obtain⟨_,_,B⟩:=ha
  refine(I.hok b ob e).iJ (fun c T l q=>(f.2 c ?_).trans q) (fun _ q=>q) fun _ _ q=>q
  rintro rfl
  rcases l with rfl|l
  ·rw[B]at e;cases e
  ·rw[B]at l;cases l
 rcases t with D|D
 ·refine wpAny_storeName_local D Y (fun h' Z f=>?_) L
  obtain⟨oL,_,_,a0,_⟩:=id Y
  refine h _ ⟨I.ok,I.os,I.bare,⟨fun b o e n F t=>?_,fun b o e n F t=>?_,I.base.free,fun b o e t=>?_,I.base.tups,I.base.frzs,I.base.tbls⟩,⟨_,Z,fun j y v' e1 e2 e3=>?_⟩,fun y c e=>?_,I.free,I.freeC,fun p hp=>?_,g ⟨oL,a0,I.free⟩ f,by simpa using I.len⟩ ⟨_,f,.inl rfl⟩
  ·exact(f.2 b (JE (Jm (J9 e) I.ok.above))).trans (I.base.keep b o e n F t)
  ·obtain⟨sl,e1⟩:=I.base.slot b o e n F t
   exact⟨sl,(f.2 b (JE (Jm (J9 e) I.ok.above))).trans e1⟩
  ·obtain⟨o',e1⟩:=I.base.there b o e t
   exact⟨o',(f.2 b (JE (Jm (J9 e) I.ok.above))).trans e1⟩
  ·by_cases G:j=i
   ·subst G
    rw[K]at e1;cases e1
    rw[List.getElem?_set_self C]at e2
    cases e2
    exact⟨u,r,.inl ⟨D,by simp⟩⟩
   ·rw[List.getElem?_set_ne (Ne.symm G)]at e2
    obtain⟨u',r',q⟩:=hl j y v' e1 e2 e3
    refine⟨u',r',?_⟩
    rcases q with⟨k,e⟩|⟨k,c,e,z⟩
    ·refine .inl ⟨k,?_⟩
     have:y≠x:=fun e=>G (pP hN e1 (e▸K))
     simp[this,e]
    ·exact .inr ⟨k,c,e,z.sameBut f (cne y c e)⟩
  ·obtain⟨T,z⟩:=I.cell y c e
   exact⟨T,z.sameBut f (cne y c e)⟩
  ·obtain⟨e,n,ne,nf,d⟩:=I.pin p hp
   exact⟨(f.2 p.1 ne).trans e,n,ne,nf,d⟩
 ·have J:X.fn x=MC:=by
   rcases hf with z|z
   ·exact z
   ·rw[z]at D;cases D
  obtain⟨c,l⟩:=I.ok.has x (.inl D)
  obtain⟨T,z⟩:=I.cell x c l
  refine wpAny_storeName_cell I.ok.kind D l z (fun h' O f=>?_)
  obtain⟨oc,P,R⟩:=id z
  refine h { s with heap:=h' } ⟨I.ok,I.os,I.bare,⟨fun b o e n F t=>?_,fun b o e n F t=>?_,I.base.free,fun b o e t=>?_,I.base.tups,I.base.frzs,I.base.tbls⟩,⟨m,Y.sameBut f (Ne.symm (cne x c l)),fun j y v' e1 e2 e3=>?_⟩,fun y U e=>?_,I.free,I.freeC,fun p hp=>?_,g ⟨oc,P,I.freeC x c l⟩ f,by simpa using I.len⟩ ⟨c,f,.inr l⟩
  ·exact(f.2 b (JE (Jm (J9 e) (I.ok.cab x c J l)))).trans (I.base.keep b o e n F t)
  ·obtain⟨sl,e1⟩:=I.base.slot b o e n F t
   exact⟨sl,(f.2 b (JE (Jm (J9 e) (I.ok.cab x c J l)))).trans e1⟩
  ·obtain⟨o',e1⟩:=I.base.there b o e t
   exact⟨o',(f.2 b (JE (Jm (J9 e) (I.ok.cab x c J l)))).trans e1⟩
  ·by_cases G:j=i
   ·subst G
    rw[K]at e1;cases e1
    rw[List.getElem?_set_self C]at e2
    cases e2
    exact⟨u,r,.inr ⟨.inl D,c,l,O⟩⟩
   ·rw[List.getElem?_set_ne (Ne.symm G)]at e2
    obtain⟨u',r',q⟩:=hl j y v' e1 e2 e3
    refine⟨u',r',?_⟩
    rcases q with q|⟨k,U,e,z'⟩
    ·exact .inl q
    ·refine .inr ⟨k,U,e,z'.sameBut f ?_⟩
     rintro rfl
     exact G (pP hN e1 (I.ok.inj _ _ _ e l▸K))
  ·by_cases S:U=c
   ·subst S;exact⟨_,O⟩
   ·obtain⟨w2,z2⟩:=I.cell y U e
    exact⟨w2,z2.sameBut f S⟩
  ·obtain⟨e,n,ne,nf,d⟩:=I.pin p hp
   refine⟨(f.2 p.1 ?_).trans e,n,ne,nf,d⟩
   intro q
   rw[q,P]at e
   have q':oc=p.2:=Option.some.inj e
   exact d T (by rw[<-q'];exact R)
theorem gw{M:Model}{A:JV}{E:IQ->IT->Prop}{i:Nat}{x:Str}{v:V}{u:IQ}{Q:Unit->IT->Prop}(I:Inv X MP σ H s)(b:X.N.Nodup)(c:X.N[i]?=MA x)(d:Loc X.env.scope x)(r:RelV v u) (h:∀a,Inv X MP (σ.set i (MA v)) H a->Q .unit a) (hf:X.fn x=MC\/X.env.scope.names.lookup x=MA .local:=by first|exact .inl rfl|exact .inr rfl|assumption):J3 M A (storeName X.env x u) Q E s:=jJ I b c d r (fun a e _=>h a e) hf
theorem Inv.yW{a:IT}{ch:List Addr}(I:Inv X MP σ H s)(f:a.os=s.os)(u:Un (QX X.stack) ch H H' s.heap a.heap)(hok:N1 X.prog X.w H' a.heap)(g:AllBare a.gens)
 (d:∀b∈ch,(b∈X.ex\/X.s₀.heap.objs.size<=b)/\b≠X.env.locals/\(∀x c,X.env.cells.lookup x=MA c->c≠b)/\∀p∈X.pn++MP,p.1≠b):Inv X MP σ H' a:=by
 obtain⟨h',g',d',t',h⟩:=a
 have e:h=s.os:=f
 subst e
 exact I.call (g':=g') (t':=t') (d':=d') u hok g d
end
abbrev XK:=IQ->Option Addr->Hp->Prop
abbrev St:=List (Option V)
abbrev VK:=V->Hp->Prop
abbrev TE:=St->Hp->VK->Prop
abbrev TT:=St->Hp->(Bool->Hp->Prop)->Prop
abbrev TA:=St->Hp->(List V->Hp->Prop)->Prop
structure Ends where
 nx:St->Hp->Prop
 rt:VK
 bk:St->Hp->Prop:=fun _ _=>False
 ct:St->Hp->Prop:=fun _ _=>False
abbrev TS:=Ends->St->Hp->Prop
def EP(X:Cx)(MP:List (Addr×Obj))(σ:St)(Q:VK)(u:IQ)(b:IT):Prop:=∃v a,Inv X MP σ a b/\RelV v u/\Q v a
def TP(X:Cx)(MP:List (Addr×Obj))(σ:St)(Q:Bool->Hp->Prop)(b:Bool)(c:IT):Prop:=∃a,Inv X MP σ a c/\Q b a
def AP(X:Cx)(MP:List (Addr×Obj))(σ:St)(Q:List V->Hp->Prop)(us:List IQ)(b:IT):Prop:=∃vs a,Inv X MP σ a b/\Vals vs us/\Q vs a
def SP(X:Cx)(MP:List (Addr×Obj))(D:Ends)(f:Flow)(c:IT):Prop:=
 match f with
 |.next=>∃a b,Inv X MP a b c/\D.nx a b
 |.brk=>∃a b,Inv X MP a b c/\D.bk a b
 |.cont=>∃a b,Inv X MP a b c/\D.ct a b
 |.ret u=>∃v a b,Inv X MP a b c/\RelV v u/\D.rt v b
def PE(X:Cx)(e:Expr)(t:TE):Prop:=
 ∀(MP:List (Addr×Obj)) (s:IT) (σ:St) (H:Hp) (Q:VK),Inv X MP σ H s->t σ H Q->J3 (Jh X.prog X.w) X.A (eval e X.env) (EP X MP σ Q) X.xe s
def PT(X:Cx)(e:Expr)(t:TT):Prop:=
 ∀(MP:List (Addr×Obj)) (s:IT) (σ:St) (H:Hp) (Q:Bool->Hp->Prop),Inv X MP σ H s->t σ H Q->J3 (Jh X.prog X.w) X.A (isTrue e X.env (eval e X.env)) (TP X MP σ Q) X.xe s
def PW(X:Cx)(e:Expr)(t:TT):Prop:=
 ∀(a:Sem IQ) (MP:List (Addr×Obj)) (s:IT) (σ:St) (H:Hp) (Q:Bool->Hp->Prop),Inv X MP σ H s->t σ H Q->J3 (Jh X.prog X.w) X.A (isTrue e X.env a) (TP X MP σ Q) X.xe s
theorem PW.pt{X:Cx}{e:Expr}{t:TT}(h:PW X e t):PT X e t:=h _
def PA(X:Cx)(es:List Expr)(t:TA):Prop:=
 ∀(pos:Pos) (MP:List (Addr×Obj)) (s:IT) (σ:St) (H:Hp) (Q:List V->Hp->Prop),Inv X MP σ H s->t σ H Q->J3 (Jh X.prog X.w) X.A (spliced (Ks pos (Jd es X.env))) (AP X MP σ Q) X.xe s
def PS(X:Cx)(st:Stmt)(t:TS):Prop:=
 ∀(MP:List (Addr×Obj)) (s:IT) (σ:St) (H:Hp) (D:Ends),Inv X MP σ H s->t D σ H->J3 (Jh X.prog X.w) X.A (exec st X.env) (SP X MP D) X.xe s
def Om(X:Cx)(st:List Stmt)(t:TS):Prop:=
 ∀(MP:List (Addr×Obj)) (s:IT) (σ:St) (H:Hp) (D:Ends),Inv X MP σ H s->t D σ H->J3 (Jh X.prog X.w) X.A (execs st X.env) (SP X MP D) X.xe s
theorem Mp{b:Type}{t:Sem b}{Q c:b->IT->Prop}{M:Model}{A:JV}{E:IQ->IT->Prop}{s:IT}(h:J3 M A t Q E s)(d:∀a s,Q a s->c a s):J3 M A t c E s:=Jc h d fun _ _ x=>x
section
variable{X:Cx}
def H0(i:Nat):TE:=fun σ H Q=>∃v,σ[i]?=MA (MA v)/\Q v H
def tC(v:V):TE:=fun _ H Q=>Q v H
theorem Dh{i:Nat}{x:Str}{pos:Pos}(j:X.N[i]?=MA x)(k:Uy X.env.scope x)(hd:(x==("__debug__":Str))=MD:=by decide)(f:(x==("__classdict__":Str))=MD:=by decide):PE X (.Name x pos) (H0 i):=by
 intro MP s σ H Q I h;obtain⟨v,e,h⟩:=h;obtain⟨m,n,o⟩:=I.loc;obtain⟨u,r,l⟩:=o i x v j e k;have b:EP X MP σ Q u s:=⟨v,H,I,r,h⟩;rcases l with⟨d,p⟩|⟨d,c,g,a⟩
 ·exact wpAny_Name (wpAny_loadName_local I.ok.kind d n p b) hd
 ·rcases d with d|d
  ·exact wpAny_Name (wpAny_loadName_cell I.ok.kind d g a b) hd
  ·exact wpAny_Name (wpAny_loadName_free I.ok.kind d g a b f) hd
theorem yR{i j pos}:PE X (.Constant (.int i) j pos) (tC (.int i)):=fun _ _ _ H _ I h=>wpAny_Constant_int ⟨.int i,H,I.tok _,⟨_,rfl⟩,h⟩
theorem FX{b j pos}:PE X (.Constant (.bool b) j pos) (tC (.bl b)):=fun _ _ _ H _ I h=>Constant_bool ⟨.bl b,H,I,rfl,h⟩
theorem E5{j pos}:PE X (.Constant .none j pos) (tC .non):=fun _ _ _ H _ I h=>Constant_none ⟨.non,H,I,rfl,h⟩
def Gl(X:Cx)(x:Str):Prop:=X.env.kindOf x=MA .globalImplicit
theorem Am{E:IQ->IT->Prop}{MP:List (Addr×Obj)}{s:IT}{σ:St}{H:Hp}{x:Str}{u:IQ}{pos:Pos}{Q:IQ->IT->Prop}(I:Inv X MP σ H s)(a:Gl X x)(b:X.mg x=MA u)(h:Q u s) (hd:(x==("__debug__":Str))=MD:=by decide):J3 (Jh X.prog X.w) X.A (eval (.Name x pos) X.env) Q E s:=Calls.Name_function_global I.ok.kind a (Calls.loadGlobal_global (by rw[I.ok.glob];exact I.mod.glob.keeps I.bk) b h) hd
theorem iL{E:IQ->IT->Prop}{MP:List (Addr×Obj)}{s:IT}{σ:St}{H:Hp}{x:Str}{u:IQ}{pos:Pos}{Q:IQ->IT->Prop}(I:Inv X MP σ H s)(a:Gl X x)(b:X.mg x=MB)(c:JX x=MA u)(h:Q u s) (d:x≠"__name__":=by decide) (hd:(x==("__debug__":Str))=MD:=by decide):J3 (Jh X.prog X.w) X.A (eval (.Name x pos) X.env) Q E s:=by obtain⟨g,e,f⟩:=I.mod.blt;exact Calls.Name_function_global I.ok.kind a (Calls.loadGlobal_builtin (by rw[I.ok.glob];exact I.mod.glob.keeps I.bk) b (by rw[I.ok.blt];exact e.keeps I.bk) ((f x d).trans c) h) hd
theorem AR{x:Str}{v:V}{u:IQ}{pos:Pos}(a:Gl X x)(b:X.mg x=MB)(c:JX x=MA u)(r:RelV v u)(d:x≠"__name__":=by decide)(hd:(x==("__debug__":Str))=MD:=by decide):PE X (.Name x pos) (tC v):=fun _ _ _ H _ I h=>iL I a b c ⟨v,H,I,r,h⟩ d hd
variable{a b:Expr}{ta tb:TE}{pos:Pos}
def PC(X:Cx)(op:CmpOp)(a b:Expr)(t:TE):Prop:=
 ∀(MP:List (Addr×Obj)) (s:IT) (σ:St) (H:Hp) (Q:VK),Inv X MP σ H s->t σ H Q->
  J3 (Jh X.prog X.w) X.A (eval a X.env) (fun v c=>J3 (Jh X.prog X.w) X.A (eval b X.env) (fun u d=>J3 (Jh X.prog X.w) X.A (JC op v u) (EP X MP σ Q) X.xe d) X.xe c) X.xe s
def tB(t:TE):TT:=fun σ H Q=>t σ H fun x H1=>∃c,x=.bl c/\Q c H1
theorem Dk{op:CmpOp}{t:TE}(h:PC X op a b t)(f:LM op b=MD:=by first|exact nobehind _ ⋯ ⋯|rfl):PT X (.Compare a [op] [b] pos) (tB t):=by intro MP s σ H Q I g;refine wpAny_isTrue_Compare1 (Mp (h MP s σ H _ I g) fun v m f=>Mp f fun u n i=>Mp i fun c o e=>?_) f;obtain⟨x,H1,j,k,l⟩:=e;obtain⟨d,rfl,q⟩:=l;cases k;exact Kh ⟨H1,j,q⟩
theorem CW{e:Expr}{t:TE}(h:PE X e t)(g:∀c,isTrue e X.env c=(do let v <-c;standAt e.pos;holding [v] (truthy v)):=by intro _;rfl):PT X e (tB t):=by intro MP s σ H Q I i;refine isTrue_plain (Mp (h MP s σ H _ I i) fun v m f=>?_) (g _);obtain⟨x,H1,j,k,l⟩:=f;obtain⟨d,rfl,q⟩:=l;cases k;exact Kh ⟨H1,j,q⟩
variable{tA MQ:TT}{rest:List Expr}
def HG(t u:TT):TT:=fun σ H Q=>t σ H fun c H1=>if c=MC then u σ H1 Q else Q MD H1
def Xo(t u:TT):TT:=fun σ H Q=>t σ H fun c H1=>if c=MC then Q MC H1 else u σ H1 Q
def HF(t:TT):TT:=fun σ H Q=>t σ H fun c H1=>Q (!c) H1
theorem AJ(d:PT X a tA):PW X (.BoolOp .And [a] pos) tA:=by
 intro f MP s σ H Q I h;refine isTrue_and (Mp (d MP s σ H Q I h) fun c g e=>?_);cases c with
 |true=>exact isTrue_and_nil e
 |false=>exact e
theorem Ej(d:PT X a tA):PW X (.BoolOp .Or [a] pos) tA:=by
 intro f MP s σ H Q I h;refine isTrue_or (Mp (d MP s σ H Q I h) fun c g e=>?_);cases c with
 |false=>exact isTrue_or_nil e
 |true=>exact e
theorem EU(g:PT X a tA)(i:PW X (.BoolOp .And (b::rest) pos) MQ):PW X (.BoolOp .And (a::b::rest) pos) (HG tA MQ):=by
 intro j MP s σ H Q I h;refine isTrue_and (Mp (g MP s σ H _ I h) fun c k d=>?_);obtain⟨H1,e,f⟩:=d;cases c with
 |true=>exact i j MP k σ H1 Q e f
 |false=>exact⟨H1,e,f⟩
theorem GL(g:PT X a tA)(i:PW X (.BoolOp .Or (b::rest) pos) MQ):PW X (.BoolOp .Or (a::b::rest) pos) (Xo tA MQ):=by
 intro j MP s σ H Q I h;refine isTrue_or (Mp (g MP s σ H _ I h) fun c k d=>?_);obtain⟨H1,e,f⟩:=d;cases c with
 |true=>exact⟨H1,e,f⟩
 |false=>exact i j MP k σ H1 Q e f
theorem DM(d:PT X a tA):PT X (.UnaryOp .Not a pos) (HF tA):=by intro MP s σ H Q I h;exact isTrue_not (d MP s σ H (fun c H1=>Q (!c) H1) I h)
def Ff(ta tb:TE):TE:=fun σ H Q=>ta σ H fun x H1=>∃c,x=.bl c/\if c=MC then tb σ H1 Q else Q (.bl MD) H1
def Ii(ta tb:TE):TE:=fun σ H Q=>ta σ H fun x H1=>∃c,x=.bl c/\if c=MC then Q (.bl MC) H1 else tb σ H1 Q
def FZ(ta:TE):TE:=fun σ H Q=>ta σ H fun x H1=>∃c,x=.bl c/\Q (.bl (!c)) H1
theorem DY{op}{t:TE}(h:PE X a t):PE X (.BoolOp op [a] pos) t:=fun MP s σ H Q I c=>BoolOp_one (h MP s σ H Q I c)
theorem D3(g:PE X a ta)(i:PE X (.BoolOp .And (b::rest) pos) tb):PE X (.BoolOp .And (a::b::rest) pos) (Ff ta tb):=by
 intro MP s σ H Q I h;refine BoolOp_and (Mp (g MP s σ H _ I h) fun v j d=>?_);obtain⟨x,H1,f,k,e⟩:=d;obtain⟨c,rfl,e⟩:=e;cases k;refine Kh ?_;cases c with
 |true=>exact i MP j σ H1 Q f e
 |false=>exact⟨.bl MD,H1,f,rfl,e⟩
theorem G9(g:PE X a ta)(i:PE X (.BoolOp .Or (b::rest) pos) tb):PE X (.BoolOp .Or (a::b::rest) pos) (Ii ta tb):=by
 intro MP s σ H Q I h;refine BoolOp_or (Mp (g MP s σ H _ I h) fun v j d=>?_);obtain⟨x,H1,f,k,e⟩:=d;obtain⟨c,rfl,e⟩:=e;cases k;refine Kh ?_;cases c with
 |false=>exact i MP j σ H1 Q f e
 |true=>exact⟨.bl MC,H1,f,rfl,e⟩
theorem ET(f:PE X a ta):PE X (.UnaryOp .Not a pos) (FZ ta):=by intro MP s σ H Q I h;refine UnaryOp_ (Mp (f MP s σ H _ I h) fun v j d=>?_);obtain⟨x,H1,g,i,e⟩:=d;obtain⟨c,rfl,e⟩:=e;cases i;exact not_of (Kh ⟨.bl (!c),H1,g,rfl,e⟩)
def Xp(t:TT)(ta tb:TE):TE:=fun σ H Q=>t σ H fun c H1=>if c=MC then ta σ H1 Q else tb σ H1 Q
theorem xw{c:Expr}(j:PT X c tA)(k:PE X a ta)(l:PE X b tb):PE X (.IfExp c a b pos) (Xp tA ta tb):=by
 intro MP s σ H Q I h;refine wpAny_IfExp (Mp (j MP s σ H _ I h) fun d f e=>?_);obtain⟨H1,g,i⟩:=e;cases d with
 |true=>exact k MP f σ H1 Q g i
 |false=>exact l MP f σ H1 Q g i
end
def Mx(K:I0)(H:Hp)(a:Addr)(xs:List V):Prop:=
 Rd H a (.lst xs)\/
  ∃(o:Obj) (b:Array IQ) (n:Nat),K.lookup a=MA o/\o.cls=.type "list"/\o.dict=MB/\o.data=.seq b n/\b.size<=J8/\Vals xs b.toList
def Mz(K:I0)(H:Hp)(a:Addr)(xs:List V):Prop:=
 Rd H a (.tup xs)\/
  ∃(o:Obj) (b:Array IQ) (n:Nat),K.lookup a=MA o/\(o.cls=.type "tuple"/\o.dict=MB)/\o.data=.seq b n/\b.size<=J8/\Vals xs b.toList
def Hs:IQ->Option V
 |.none=>MA .non
 |.bool b=>MA (.bl b)
 |.int i _=>MA (.int i)
 |.str x _=>MA (.str x)
 |.bytes b _=>MA (.byt b)
 |.float b _=>MA (.flt b)
 |.ref a=>MA (.ref a)
 |.type n=>MA (.ty n)
 |_=>MB
theorem RelV.abs{x:V}{u:IQ}(r:RelV x u):Hs u=MA x:=by
 cases x with
 |non=>cases r;rfl
 |bl _=>cases r;rfl
 |int _=>obtain⟨t,rfl⟩:=r;rfl
 |str _=>obtain⟨t,rfl⟩:=r;rfl
 |byt _=>obtain⟨t,rfl⟩:=r;rfl
 |flt _=>obtain⟨t,rfl⟩:=r;rfl
 |ref _=>cases r;rfl
 |ty _=>cases r;rfl
theorem RelV.inj{x y:V}{u:IQ}(r:RelV x u)(q:RelV y u):x=y:=Option.some.inj (r.abs.symm.trans q.abs)
theorem Vals.inj:∀{xs a:List V} {us:List IQ},Vals xs us->Vals a us->xs=a:=by
 intro xs a us h
 induction h generalizing a with
 |nil=>intro k;cases k;rfl
 |cons r t b=>
  intro k
  cases k with
  |cons c d=>rw[r.inj c,b d]
section
variable{X:Cx}{MP:List (Addr×Obj)}{σ:St}{H:Hp}{s:IT}{a:Addr}{xs ys:List V}
theorem Mx.of{K:I0}(h:H a=MA (.lst xs)):Mx K H a xs:=.inl (.inl h)
theorem Mz.of{K:I0}(h:H a=MA (.tup xs)):Mz K H a xs:=.inl (.inl h)
theorem Inv.list(I:Inv X MP σ H s)(h:Mx X.K H a xs):∃b:List IQ,Vals xs b/\PlainL s.heap a b.toArray/\xs.length<=J8:=by
 rcases h with h|⟨o,b,n,c,d,hd,f,g,r⟩
 ·obtain⟨z,b,n,r,e⟩:=h.ok I.hok;exact⟨b,r,⟨_,n,e,rfl,rfl,rfl⟩,z⟩
 ·refine⟨b.toList,r,⟨o,n,I.kIn a o c,d,hd,by simpa using f⟩,?_⟩;have e:=r.length;simp only[Array.length_toList]at e;omega
theorem Inv.tuple(I:Inv X MP σ H s)(h:Mz X.K H a xs):∃b:List IQ,Vals xs b/\IsTup s.heap a b.toArray/\xs.length<=J8:=by
 rcases h with h|⟨o,b,n,c,d,f,g,r⟩
 ·obtain⟨z,b,r,p,_⟩:=h.ok I.hok;exact⟨b,r,p,z⟩
 ·refine⟨b.toList,r,⟨o,I.kIn a o c,d.1,n,by simpa using f⟩,?_⟩;have e:=r.length;simp only[Array.length_toList]at e;omega
theorem Inv.Ec(I:Inv X MP σ H s)(h:Mz X.K H a xs):Qy s.heap a:=by
 rcases h with h|⟨o,b,n,c,d,e,f,r⟩
 ·obtain⟨z,b,r,_,p⟩:=h.ok I.hok;exact p
 ·exact⟨o,I.kIn a o c,d.2⟩
theorem Inv.ji(I:Inv X MP σ H s)(h:Mx X.K H a xs)(h':Mx X.K H a ys):xs=ys:=by
 obtain⟨c,r,⟨o,n,e,_,_,d⟩,_⟩:=I.list h;obtain⟨b,i,⟨k,l,f,_,_,g⟩,_⟩:=I.list h';rw[e]at f;cases f;rw[d]at g;injection g with j _;have:c=b:=by simpa using congrArg Array.toList j
 subst this;exact r.inj i
theorem Inv.wo(I:Inv X MP σ H s)(h:Mz X.K H a xs)(h':Mz X.K H a ys):xs=ys:=by
 obtain⟨c,r,⟨o,e,_,n,d⟩,_⟩:=I.tuple h;obtain⟨b,i,⟨k,f,_,l,g⟩,_⟩:=I.tuple h';rw[e]at f;cases f;rw[d]at g;injection g with j _;have:c=b:=by simpa using congrArg Array.toList j
 subst this;exact r.inj i
end
abbrev Cx.mV(X:Cx)(E:IQ->IT->Prop):Cx:={ X with xe:=E }
abbrev Cx.nox(X:Cx):Cx:=X.mV fun _ _=>False
theorem Cx.Ok.mV{X:Cx}(ok:X.Ok)(E:IQ->IT->Prop):(X.mV E).Ok:=⟨ok.mod,ok.kind,ok.glob,ok.blt,ok.above,ok.inj,ok.has,ok.cab,ok.hd,ok.frames,ok.stk,ok.exf,ok.bs,ok.bsz,ok.noex,ok.exfs,ok.l6,ok.frf⟩
theorem Cx.Ok.gK{X:Cx}{E:IQ->IT->Prop}(ok:(X.mV E).Ok):X.Ok:=⟨ok.mod,ok.kind,ok.glob,ok.blt,ok.above,ok.inj,ok.has,ok.cab,ok.hd,ok.frames,ok.stk,ok.exf,ok.bs,ok.bsz,ok.noex,ok.exfs,ok.l6,ok.frf⟩
section
variable{X:Cx}{MP:List (Addr×Obj)}{σ:St}{H:Hp}{s:IT}{E:IQ->IT->Prop}
theorem Inv.mV(I:Inv X MP σ H s)(E:IQ->IT->Prop):Inv (X.mV E) MP σ H s:=⟨I.ok.mV E,I.os,I.bare,I.base,I.loc,I.cell,I.free,I.freeC,I.pin,I.hok,I.len⟩
theorem Inv.gK(I:Inv (X.mV E) MP σ H s):Inv X MP σ H s:=⟨I.ok.gK,I.os,I.bare,I.base,I.loc,I.cell,I.free,I.freeC,I.pin,I.hok,I.len⟩
theorem SP.gK{D:Ends}{f:Flow}{c:IT}(h:SP (X.mV E) MP D f c):SP X MP D f c:=by
 cases f with
 |next=>obtain⟨a,b,I,q⟩:=h;exact⟨a,b,I.gK,q⟩
 |brk=>obtain⟨a,b,I,q⟩:=h;exact⟨a,b,I.gK,q⟩
 |cont=>obtain⟨a,b,I,q⟩:=h;exact⟨a,b,I.gK,q⟩
 |ret u=>obtain⟨v,a,b,I,r,q⟩:=h;exact⟨v,a,b,I.gK,r,q⟩
theorem Om.nox{st:List Stmt}{t:TS}(h:Om X.nox st t):Om X st t:=fun MP s σ H D I a=>Jc (h MP s σ H D (I.mV _) a) (fun _ _ q=>q.gK) fun _ _ z=>Jq z
end
section
variable{X:Cx}{st:Stmt}{rest:List Stmt}{t u:TS}{e:Expr}{te:TE}{pos:Pos}
def GD:TS:=fun D σ H=>D.nx σ H
def Iq(t u:TS):TS:=fun D σ H=>t { D with nx:=u D } σ H
theorem Ao:Om X [] GD:=fun _ _ σ H _ I h=>wpAny_execs_nil ⟨σ,H,I,h⟩
theorem xD(b:PS X st t)(c:Om X rest u):Om X (st::rest) (Iq t u):=by
 intro MP s σ H D I h;refine wpAny_execs_cons (Mp (b MP s σ H { D with nx:=u D } I h) fun f d q=>?_);cases f with
 |next=>
  obtain⟨a,g,i,q⟩:=q
  exact c MP d a g D i q
 |ret v=>exact q
 |brk=>exact q
 |cont=>exact q
theorem Af(a:PS X st t):Om X [st] t:=by
 intro MP s σ H D I h;refine wpAny_execs_cons (Mp (a MP s σ H D I h) fun f b q=>?_);cases f with
 |next=>exact wpAny_execs_nil q
 |ret v=>exact q
 |brk=>exact q
 |cont=>exact q
theorem Inv.quiet{MP:List (Addr×Obj)}{σ:St}{H:Hp}{s:IT}(I:Inv X MP σ H s):interactive X.env=MD:=by simp[interactive,I.ok.kind]
def Fg(te:TE):TS:=fun D σ H=>te σ H fun _ H1=>D.nx σ H1
theorem Ah(b:PE X e te)(c:LP e MB pos.line X.env=pure MD:=by rfl):PS X (.Expr e pos) (Fg te):=by intro MP s σ H D I h;exact wpAny_Expr_any (Mp (b MP s σ H _ I h) fun v g a=>by obtain⟨x,H1,d,i,f⟩:=a;exact(⟨σ,H1,d,f⟩)) I.quiet c
def IC(te:TE):TS:=fun D σ H=>te σ H D.rt
theorem Et(b:PE X e te):PS X (.Return (MA e) pos) (IC te):=by intro MP s σ H D I h;exact wpAny_Return_some (Mp (b MP s σ H _ I h) fun v g a=>by obtain⟨x,H1,c,d,f⟩:=a;exact(⟨x,σ,H1,c,d,f⟩))
def IG(c:TT)(t u:TS):TS:=fun D σ H=>c σ H fun b H1=>if b=MC then t D σ H1 else u D σ H1
theorem Gb{c:Expr}{a b:List Stmt}{tc:TT}(k:PT X c tc)(l:Om X a t)(m:Om X b u):PS X (.If c a b pos) (IG tc t u):=by
 intro MP s σ H D I h;refine wpAny_If (Mp (k MP s σ H _ I h) fun d g f=>?_);obtain⟨H1,i,j⟩:=f;cases d with
 |true=>exact l MP g σ H1 D i j
 |false=>exact m MP g σ H1 D i j
def DR:TS:=fun _ _ _=>False
theorem yD:PS X st DR:=fun _ _ _ _ _ _ h=>h.elim
end
abbrev TG:=V->St->Hp->(St->Hp->Prop)->Prop
abbrev Qb:=List V->St->Hp->(St->Hp->Prop)->Prop
def PG(X:Cx)(a:Expr)(t:TG):Prop:=
 ∀(MP:List (Addr×Obj)) (s:IT) (σ:St) (H:Hp) (v:V) (u:IQ) (Q:St->Hp->Prop),Inv X MP σ H s->RelV v u->t v σ H Q->
  J3 (Jh X.prog X.w) X.A (LQ a X.env u) (fun _ d=>∃b c,Inv X MP b c d/\Q b c) X.xe s
def RH(X:Cx)(c:List Expr)(t:Qb):Prop:=
 ∀(MP:List (Addr×Obj)) (s:IT) (σ:St) (H:Hp) (vs:List V) (us:List IQ) (Q:St->Hp->Prop),Inv X MP σ H s->Vals vs us->t vs σ H Q->
  J3 (Jh X.prog X.w) X.A (assignInOrder ((LN c X.env).map (·.2)) us) (fun _ d=>∃a b,Inv X MP a b d/\Q a b) X.xe s
abbrev Ds:=V->V->V->Hp->(Hp->Prop)->Prop
def Gp(X:Cx)(t:Ds):Prop:=
 ∀(MP:List (Addr×Obj)) (s:IT) (σ:St) (H:Hp) (o i v:V) (a b u:IQ) (Q:Hp->Prop),Inv X MP σ H s->RelV o a->RelV i b->RelV v u->t o i v H Q->
  J3 (Jh X.prog X.w) X.A (setItem a b u) (fun _ d=>∃c,Inv X MP σ c d/\Q c) X.xe s
abbrev VP:=V->V->Hp->VK->Prop
def VQ(X:Cx)(op:Operator)(t:VP):Prop:=
 ∀(MP:List (Addr×Obj)) (s:IT) (σ:St) (H:Hp) (x y:V) (v u:IQ) (Q:VK),Inv X MP σ H s->RelV x v->RelV y u->t x y H Q->
  J3 (Jh X.prog X.w) X.A (inplaceOp op v u) (EP X MP σ Q) X.xe s
section
variable{X:Cx}{pos:Pos}
def gr(i:Nat):TG:=fun v σ H Q=>Q (σ.set i (MA v)) H
theorem uS{i:Nat}{x:Str}(a:X.N.Nodup)(b:X.N[i]?=MA x)(c:Loc X.env.scope x)(hf:X.fn x=MC\/X.env.scope.names.lookup x=MA .local:=by first|exact .inl rfl|exact .inr rfl|assumption):PG X (.Name x pos) (gr i):=by intro MP s σ H v u Q I r h;exact wpAny_assign_Name (gw I a b c r (fun e d=>⟨_,H,d,h⟩) hf)
def E1:Qb:=fun vs σ H Q=>vs=[]/\Q σ H
def p8(t:TG)(u:Qb):Qb:=fun vs σ H Q=>∃v r,vs=v::r/\t v σ H fun a b=>u r a b Q
theorem tV:RH X [] E1:=by intro MP s σ H vs us Q I r h;obtain⟨e,h⟩:=h;subst e;cases r;exact assignInOrder_nil ⟨σ,H,I,h⟩
theorem lh{e:Expr}{es:List Expr}{t:TG}{u:Qb}(c:PG X e t)(d:RH X es u) (f:(LN (e::es) X.env).map (·.2)=LQ e X.env::(LN es X.env).map (·.2):=by rfl):RH X (e::es) (p8 t u):=by
 intro MP s σ H vs us Q I r h;obtain⟨v,l,e1,h⟩:=h;subst e1;cases r with
 |cons r g=>
  rw[f]
  refine assignInOrder_cons (Mp (c MP s σ H _ _ _ I r h) fun _ i a=>?_)
  obtain⟨b,H1,j,k⟩:=a
  exact d MP i b H1 _ _ Q j g k
def CU(K:I0)(n:Nat)(t:Qb):TG:=fun v σ H Q=>∃a xs,v=.ref a/\Mz K H a xs/\xs.length=n/\t xs σ H Q
theorem zh{es:List Expr}{k:Nat}{t:Qb}{n:Nat}(g:X.calm=MC)(h:RH X es t)
 (i:(LN es X.env).length=n:=by rfl) (c:(LN es X.env).findIdx? (·.1)=MB:=by rfl):PG X (.Tuple es k pos) (CU X.K n t):=by
 intro MP s σ H v u Q I r d
 obtain⟨a,xs,e1,j,l,d⟩:=d
 subst e1
 cases r
 obtain⟨m,f,p,y⟩:=I.tuple j
 refine assign_Tuple_tuple (I.ok.hd g) p (by simp[i,<-l,f.length]) c fun q w=>?_
 have x:Inv X MP σ H { s with heap:=q }:=I.kept (t':=s.toks) fun b o e=>w b o (JE (J9 e)) e
 exact h MP _ σ H xs _ Q x (by simpa using f) d
def HJ(a b:TE)(t:Ds):TG:=fun v σ H Q=>a σ H fun o H1=>b σ H1 fun i c=>t o i v c fun d=>Q σ d
theorem EO{o i:Expr}{f g:TE}{t:Ds}(j:PE X o f)(k:PE X i g)(l:Gp X t)
 (m:∀v,LQ (.Subscript o i pos) X.env v=(do
  let d <-holding [v] (eval o X.env)
  let e <-holding [v,d] (eval i X.env)
  standAt pos
  holding [v,d,e] (setItem d e v)
  release [v,d,e] []):=by intro _;rfl):PG X (.Subscript o i pos) (HJ f g t):=by
 intro MP s σ H v u Q I r h
 rw[m]
 refine cc (Kb (Mp (j MP s σ H _ I h) fun d n a=>?_))
 obtain⟨x,H1,p,q,w⟩:=a
 refine cc (Kb (Mp (k MP n σ H1 _ p w) fun e z b=>?_))
 obtain⟨y,A,B,C,D⟩:=b
 refine cc (Kz (cc (Kb (Mp (l MP z σ A x y v d e u _ B q C r D) fun _ J c=>?_))))
 obtain⟨E,F,G⟩:=c
 exact wpAny_release ⟨σ,E,F,G⟩
def AK(te:TE)(g:TG):TS:=fun D σ H=>te σ H fun x H1=>g x σ H1 D.nx
theorem CL{tg e:Expr}{te:TE}{g:TG}(b:PE X e te)(c:PG X tg g)(d:swapsWithSole [tg] e pos.line X.env=pure MD:=by rfl)(hw:swappedStores [tg] e X.env=pure MB:=by rfl) (f:(LN [tg] X.env).map (·.2)=[LQ tg X.env]:=by rfl):PS X (.Assign [tg] e pos) (AK te g):=by intro MP s σ H D I h;refine wpAny_Assign_stores (Mp (b MP s σ H _ I h) fun v i a=>?_) d hw;obtain⟨x,H1,j,k,l⟩:=a;rw[f];exact Mp (c MP i σ H1 x v _ j k l) fun _ m q=>q
theorem CH{i:Nat}{x:Str}{e:Expr}{te:TE}{b:Pos}(c:X.N.Nodup)(d:X.N[i]?=MA x)(f:Loc X.env.scope x)(g:PE X e te)(j:LP e (MA (.Name x b)) pos.line X.env=pure MD:=by rfl)(hf:X.fn x=MC\/X.env.scope.names.lookup x=MA .local:=by first|exact .inl rfl|exact .inr rfl|assumption) : PS X (.Assign [.Name x b] e pos) (AK te (gr i)):=by intro MP s σ H D I h;refine wpAny_Assign_Name (Mp (g MP s σ H _ I h) fun v o a=>?_) j;obtain⟨y,H1,k,l,m⟩:=a;exact gw k c d f l (fun p n=>⟨_,H1,n,m⟩) hf
def Iz(i j:Nat)(a:TA):TS:=fun D σ H=>a σ H fun vs H1=>∃v w,vs=[v,w]/\D.nx ((σ.set i (MA v)).set j (MA w)) H1
theorem CC{i j:Nat}{x y:Str}{a b:Expr}{C:TA}{l m pt:Pos}{n r d}(K:X.calm=MC)(E:X.N.Nodup)(L:X.N[i]?=MA x)(M:X.N[j]?=MA y)(t:i≠j)
 (F:X.env.scope.names.lookup x=MA .local) (G:X.env.scope.names.lookup y=MA .local) (O:PA X [a,b] C)
 (hw:swappedStores [.Tuple [.Name x l,.Name y m] n pt] (.Tuple [a,b] r d) X.env=pure (MA [x,y]))
 (P:swapsWithSole [.Tuple [.Name x l,.Name y m] n pt] (.Tuple [a,b] r d) pos.line X.env=pure MD:=by rfl) :
 PS X (.Assign [.Tuple [.Name x l,.Name y m] n pt] (.Tuple [a,b] r d) pos) (Iz i j C):=by
 intro MP s σ H D I h
 rw[exec_Assign_arm]
 refine cc (Kz ?_)
 rw[P]
 refine cc (IV ?_)
 rw[ME ⋯]
 refine cc (Tuple_ (Mp (O _ MP s σ H _ I h) fun us f c=>?_))
 obtain⟨vs,H1,Q,R,u⟩:=c
 obtain⟨v,w,e1,u⟩:=u
 subst e1
 obtain⟨g,k,rfl,S,z⟩:∃g k,us=[g,k]/\RelV v g/\RelV w k:=by
  cases R with
  |cons p q=>
   cases q with
   |cons T U=>
    cases U
    exact⟨_,_,rfl,p,T⟩
 refine JG ?_ (by show 2<=J8;decide)
 have V:Inv X MP σ H1 { f with heap:=f.heap.push { cls:=.type "tuple",data:=.seq [g,k].toArray } }:=Q.kept (t':=f.toks) fun b o e=>J0 _ e
 rw[hw]
 refine cc (IV ?_)
 show J3 (Jh X.prog X.w) X.A (do rule "assign.swapped-stores";let items <-unpackItems (.ref f.heap.objs.size) 2 MB;assignInOrder [fun v=>bindName X.env y v,fun v=>bindName X.env x v] items.reverse;pure Flow.next) _ _ _
 refine cc (wpAny_rule (cc (unpackItems_tuple (items:=#[g,k]) (I.ok.hd K) (IsTup.new f.heap _) fun h' B=>?_)))
 have W:=V.kept (h':=h') (t':=f.toks) fun b o e=>B b o (JE (J9 e)) e
 show J3 _ _ (assignInOrder [fun v=>bindName X.env y v,fun v=>bindName X.env x v] [k,g] >>= fun _=>pure Flow.next) _ _ _
 refine cc (assignInOrder_cons (wpAny_bindName (gw W E M (.inl G) z (fun Z Y=>?_) (.inr G))))
 refine assignInOrder_cons (wpAny_bindName (gw Y E L (.inl F) S (fun s3 J=>assignInOrder_nil (IV ?_)) (.inr F)))
 rw[List.set_comm _ _ (Ne.symm t)]at J
 exact⟨_,H1,J,u⟩
def Ia(i:Nat)(te:TE)(a:VP):TS:=fun D σ H=>∃x,σ[i]?=MA (MA x)/\te σ H fun y H1=>a x y H1 fun z b=>D.nx (σ.set i (MA z)) b
theorem CA{i:Nat}{x:Str}{e:Expr}{te:TE}{op:Operator}{q:VP}{g:Pos}(B:X.N.Nodup)(t:X.N[i]?=MA x)(o:Loc X.env.scope x)(C:PE X e te)(E:VQ X op q)(hf:X.fn x=MC\/X.env.scope.names.lookup x=MA .local:=by first|exact .inl rfl|exact .inr rfl|assumption) :
 PS X (.AugAssign (.Name x g) op e pos) (Ia i te q):=by
 intro MP s σ H D I h
 obtain⟨v,e1,h⟩:=h
 obtain⟨m,F,G⟩:=I.loc
 have p:Uy X.env.scope x:=by rcases o with k|k;exact .inl k;exact .inr (.inl k)
 obtain⟨u,r,l⟩:=G i x v t e1 p
 refine wpAny_AugAssign_Name ?_
 have go:J3 (Jh X.prog X.w) X.A (eval e X.env) (fun w j=>J3 (Jh X.prog X.w) X.A (inplaceOp op u w) (fun r n=>J3 (Jh X.prog X.w) X.A (storeName X.env x r) (fun _=>SP X MP D .next) X.xe n) X.xe j) X.xe s:=by
  refine Mp (C MP s σ H _ I h) fun w J a=>?_
  obtain⟨y,H1,K,L,M⟩:=a
  refine Mp (E MP J σ H1 v y u w _ K r L M) fun z V b=>?_
  obtain⟨W,O,P,Q,R⟩:=b
  exact gw P B t o Q (fun Y S=>⟨_,O,S,R⟩) hf
 rcases l with⟨d,T⟩|⟨d,c,U,f⟩
 ·exact wpAny_loadName_local I.ok.kind d F T go
 ·rcases d with d|d
  ·exact wpAny_loadName_cell I.ok.kind d U f go
  ·rcases o with k|k
   ·have:X.env.scope.names.lookup x=MA .free:=d
    rw[k]at this;cases this
   ·have:X.env.scope.names.lookup x=MA .free:=d
    rw[k]at this;cases this
def XJ(f:Int->Int->Int):VP:=fun x y H Q=>∃i j,x=.int i/\y=.int j/\Q (.int (f i j)) H
theorem Eu:VQ X .Add (XJ fun i j=>i+j):=by intro MP s σ H x y v u Q I a b h;obtain⟨i,j,e1,e2,q⟩:=h;subst e1;subst e2;obtain⟨t,rfl⟩:=a;obtain⟨c,rfl⟩:=b;exact iadd_int ⟨.int _,H,I.tok _,⟨_,rfl⟩,q⟩
theorem ED:VQ X .Sub (XJ fun i j=>i-j):=by intro MP s σ H x y v u Q I a b h;obtain⟨i,j,e1,e2,q⟩:=h;subst e1;subst e2;obtain⟨t,rfl⟩:=a;obtain⟨c,rfl⟩:=b;exact isub_int ⟨.int _,H,I.tok _,⟨_,rfl⟩,q⟩
end
section
variable{X:Cx}{pos:Pos}
def Dl(c:TT)(f:TS):TS:=fun D σ H=>∃W:Nat->St->Hp->Prop,(∃m,W m σ H)/\∀m σ H,W m σ H->
 c σ H fun b H1=>if b=MC then ∃N:St->Hp->Prop,(∀a d,N a d->∃e,e<m/\W e a d)/\f { D with nx:=N,ct:=N,bk:=D.nx } σ H1 else D.nx σ H1
theorem zN{c:Expr}{body:List Stmt}{tc:TT}{t:TS}(u:PassesOwn (Jh X.prog X.w) X.A X.env X.xe)(C:PT X c tc)(E:Om X body t):PS X (.While c body [] pos) (Dl tc t):=by
 intro MP s σ H D I h;obtain⟨W,⟨F,G⟩,g⟩:=h;refine wpAny_While (codeAny_whileLoop (fun n J=>∃i x,Inv X MP i x J/\W n i x) ?_ F ⟨σ,H,I,G⟩);rintro n K ⟨d,H1,L,M⟩;refine LD u (Mp (C MP K d H1 _ L (g n d H1 M)) fun b O e=>?_);obtain⟨y,z,k⟩:=e;cases b with
 |true=>
  obtain⟨N,B,k⟩:=k
  rw[MF rfl]
  refine LD u (Mp (E MP O d y _ z k) fun f P l=>?_)
  cases f with
  |next=>
   obtain⟨a,j,m,o⟩:=l
   obtain⟨p,q,r⟩:=B a j o
   exact⟨p,q,a,j,m,r⟩
  |cont=>
   obtain⟨a,j,m,o⟩:=l
   obtain⟨p,q,r⟩:=B a j o
   exact⟨p,q,a,j,m,r⟩
  |brk=>exact l
  |ret v=>exact l
 |false=>
  rw[ME Jf]
  exact wpAny_execs_nil ⟨d,y,z,k⟩
end
structure It where
 go:Nat->Hp->Prop
 yld:Nat->Hp->V->Hp->Prop
 stop:Nat->Hp->Prop
def c9(X:Cx)(MP:List (Addr×Obj))(H:Hp)(b:Addr):Prop:=
 H b=MB/\b≠X.env.locals/\b∉X.fs/\(b∈X.ex\/X.s₀.heap.objs.size<=b)/\(∀x c,X.env.cells.lookup x=MA c->c≠b)/\∀p∈X.pn++MP,p.1≠b
theorem Inv.pY{X:Cx}{MP:List (Addr×Obj)}{σ:St}{H d:Hp}{s:IT}{b:Addr}(I:Inv X MP σ H s)(a:s.heap.objs.size<=b)(f:d b=MB):c9 X MP d b:=by
 refine⟨f,Nat.ne_of_gt (Jm I.lt a),I.Ic a,.inr (K3 I.sz a),fun x c e z=>?_,fun p g z=>?_⟩
 ·obtain⟨v,q⟩:=I.cell x c e;exact absurd (Jm q.lt (by rw[z];exact a)) (Nat.lt_irrefl _)
 ·exact absurd (Jm (J9 (I.pin p g).1) (by rw[z];exact a)) (Nat.lt_irrefl _)
structure Turn(P:Jl)(w:JO)(K:I0)(tg:Expr)(J:It)(fp:List Addr)(it:Addr)(tn:Nat->Heap->Prop):Prop where
 mem:it∈fp
 obj:∀i h,tn i h->∀b∈fp,∃o,h.get? b=MA o/\∀v,o.data≠.cell v
 keep:∀i h h',tn i h->(∀b∈fp,∀o,h.get? b=MA o->h'.get? b=MA o)->tn i h'
 item:∀(X:Cx),X.prog=P->X.w=w->X.K=K->X.calm=MC->∀(i:Nat) (MP:List (Addr×Obj)) (s:IT) (σ:St) (H:Hp) (E:IQ->IT->Prop),Inv X MP σ H s->(∀b∈fp,c9 X MP H b)->tn i s.heap->J.go i H->
  J3 (Jh P w) X.A (pyNext (.ref it)) (fun r s1=>∃u,r=MA u/\
   J3 (Jh P w) X.A (KU tg (.ref it) u) (fun _ s2=>∃x H',Inv X MP σ H' s2/\RelV x u/\J.yld i H x H'/\tn (i+1) s2.heap/\∀b∈fp,H' b=MB) E s1) E s
 done:∀(X:Cx),X.prog=P->X.w=w->X.K=K->X.calm=MC->∀(i:Nat) (MP:List (Addr×Obj)) (s:IT) (σ:St) (H:Hp) (E:IQ->IT->Prop),Inv X MP σ H s->(∀b∈fp,c9 X MP H b)->tn i s.heap->J.stop i H->
  J3 (Jh P w) X.A (pyNext (.ref it)) (fun r s1=>r=MB/\Inv X MP σ H s1) E s
 self:∀(A:JV) (i:Nat) (s:IT) (Q:IQ->IT->Prop) (E:IQ->IT->Prop),tn i s.heap->Q (.ref it) s->J3 (Jh P w) A (pyIter (.ref it)) Q E s
abbrev TI:=St->Hp->(It->Hp->Prop)->Prop
def X3(X:Cx)(MP:List (Addr×Obj))(σ:St)(tg:Expr)(R:It->Hp->Prop)(a:IQ)(d:IT):Prop:=
 ∃(it:Addr) (fp:List Addr) (tn:Nat->Heap->Prop) (J:It) (c:Hp),a=.ref it/\Inv X MP σ c d/\Turn X.prog X.w X.K tg J fp it tn/\tn 0 d.heap/\(∀b∈fp,c9 X MP c b)/\R J c
def PI(X:Cx)(tg a:Expr)(b:TI):Prop:=
 ∀(MP:List (Addr×Obj)) (s:IT) (σ:St) (H:Hp) (R:It->Hp->Prop),Inv X MP σ H s->b σ H R->
  J3 (Jh X.prog X.w) X.A (eval a X.env) (fun v c=>J3 (Jh X.prog X.w) X.A (pyIter v) (X3 X MP σ tg R) X.xe c) X.xe s
theorem xq{M:Model}{A:JV}{E:IQ->IT->Prop}{s:IT}{tg:Expr}{it:Addr}{u:IQ}{o:Obj}{n:String}{vs:Array IQ}{Q:Unit->IT->Prop}(b:s.heap.get? it=MA o)(c:o.cls=.type n)(hd:o.data=.fields vs) (d:["enumerate","zip","dict_itemiterator","dict_reverseitemiterator","odict_iterator","itertools.zip_longest","itertools.pairwise"].contains n=MD) (a:Q .unit s):J3 M A (KU tg (.ref it) u) Q E s:=by
 unfold KU
 cases tg<;>first
  |exact IV a
  |(cases u<;>first
   |exact IV a
   |(refine cc (wpAny_load b ?_)
     rw[c,hd]
     show J3 M A (if(["enumerate","zip","dict_itemiterator","dict_reverseitemiterator","odict_iterator","itertools.zip_longest","itertools.pairwise"].contains n&&vs[0]?==MA (rawInt _))=MC then _ else _) Q E s
     rw[ME (by intro h;rw[d,JY]at h;cases h)]
     exact IV a))
def X6(K:I0)(a:Addr):It:=
 ⟨fun i H=>∃xs x,Mx K H a xs/\xs[i]?=MA x,fun i H x b=>b=H/\∀xs,Mx K H a xs->xs[i]?=MA x,fun i H=>∃xs,Mx K H a xs/\xs.length<=i⟩
def X5(K:I0)(a:Addr):It:=
 ⟨fun i H=>∃xs x,Mz K H a xs/\xs[i]?=MA x,fun i H x b=>b=H/\∀xs,Mz K H a xs->xs[i]?=MA x,fun i H=>∃xs,Mz K H a xs/\xs.length<=i⟩
def R7(a:Int)(n:Nat):It:=⟨fun i _=>i<n,fun i H x b=>b=H/\x=.int (a+i),fun i _=>n<=i⟩
theorem wm{P:Jl}{w:JO}{K:I0}{tg:Expr}(a it:Addr):Turn P w K tg (X6 K a) [it] it (fun i h=>h.IsListIter it a i) where
 mem:=by simp
 obj:=fun i h st b f=>by
  have e:b=it:=by simpa using f
  subst e
  obtain⟨o,e,c,d⟩:=st
  exact⟨o,e,fun v z=>by rw[d]at z;cases z⟩
 keep:=fun i h j st k=>st.at fun o e=>k it (by simp) o e
 item:=by
  intro X m n q J i MP s σ H E I hf st r
  subst m n q
  obtain⟨xs,x,l,t⟩:=r
  obtain⟨y,A,p,L⟩:=I.list l
  obtain⟨u,M,N⟩:=A.get t
  obtain⟨B,C,O,D,F,G⟩:=hf it (by simp)
  refine wpAny_pyNext_list_item st p.isList (x:=u) (by simpa using M) fun j g Q=>?_
  have R:Inv X MP σ H { s with heap:=j }:=I.turned (t':=s.toks) (fun b o f e=>(Q.2 b f).trans e) B C D F G
  obtain⟨o,e,c,d⟩:=id g
  exact⟨u,rfl,xq (s:={ s with heap:=j }) e c d ⋯ ⟨x,H,R,N,⟨rfl,fun U S=>by rw[I.ji S l];exact t⟩,g,fun b f=>(hf b f).1⟩⟩
 done:=by
  intro X m n q J i MP s σ H E I hf st r
  subst m n q
  obtain⟨xs,l,t⟩:=r
  obtain⟨y,A,p,L⟩:=I.list l
  obtain⟨B,C,O,D,F,G⟩:=hf it (by simp)
  have V:=A.length
  exact wpAny_pyNext_list_end (I.ok.hd J) st p.isList (by simp;omega) fun j T=>⟨rfl,I.turned (t':=s.toks) (fun b o f e=>T b o f e) B C D F G⟩
 self:=fun _ _ _ _ _ st h=>wpAny_pyIter_listiter st h
theorem tE{P:Jl}{w:JO}{K:I0}{tg:Expr}(a it:Addr):Turn P w K tg (X5 K a) [it] it (fun i h=>h.IsTupleIter it a i) where
 mem:=by simp
 obj:=fun i h st b f=>by
  have e:b=it:=by simpa using f
  subst e
  obtain⟨o,e,c,d⟩:=st
  exact⟨o,e,fun v z=>by rw[d]at z;cases z⟩
 keep:=fun i h l st k=>st.at fun o e=>k it (by simp) o e
 item:=by
  intro X n q r J i MP s σ H E I hf st t
  subst n q r
  obtain⟨xs,x,m,y⟩:=t
  obtain⟨g,A,p,L⟩:=I.tuple m
  obtain⟨u,M,N⟩:=A.get y
  obtain⟨B,C,O,D,F,G⟩:=hf it (by simp)
  refine wpAny_pyNext_tuple_item st (show s.heap.IsTuple a g.toArray from p) (x:=u) (by simpa using M) fun l j Q=>?_
  have R:Inv X MP σ H { s with heap:=l }:=I.turned (t':=s.toks) (fun b o f e=>(Q.2 b f).trans e) B C D F G
  obtain⟨o,e,c,d⟩:=id j
  exact⟨u,rfl,xq (s:={ s with heap:=l }) e c d ⋯ ⟨x,H,R,N,⟨rfl,fun U S=>by rw[I.wo S m];exact y⟩,j,fun b f=>(hf b f).1⟩⟩
 done:=by
  intro X n q r J i MP s σ H E I hf st t
  subst n q r
  obtain⟨xs,m,y⟩:=t
  obtain⟨g,A,p,L⟩:=I.tuple m
  obtain⟨B,C,O,D,F,G⟩:=hf it (by simp)
  have V:=A.length
  exact wpAny_pyNext_tuple_end (I.ok.hd J) st (show s.heap.IsTuple a g.toArray from p) (by simp;omega) fun l T=>⟨rfl,I.turned (t':=s.toks) (fun b o f e=>T b o f e) B C D F G⟩
 self:=fun _ _ _ _ _ st h=>wpAny_pyIter_tupleiter st h
theorem r9{P:Jl}{w:JO}{K:I0}{tg:Expr}(it:Addr)(d:Int)(n:Nat):Turn P w K tg (R7 d n) [it] it (fun i h=>IsRangeIter h it (d+(i:Nat)*1) ((n:Int)-(i:Nat)) 1) where
 mem:=by simp
 obj:=fun i h st b a=>by
  have e:b=it:=by simpa using a
  subst e
  exact⟨_,st,fun v z=>by
   have B:Data.fields _=Data.cell v:=z
   cases B⟩
 keep:=fun i h f st k=>k it (by simp) _ st
 item:=by
  intro X g j l m i MP s σ H E I hf st p
  subst g j l
  obtain⟨q,r,C,u,x,y⟩:=hf it (by simp)
  have W:=Walks.range (prog:=X.prog) (w:=X.w) (I.ok.hd m) it d 1 n
  refine W.item i s _ _ p st fun v f A D c F=>?_
  obtain⟨t,rfl⟩:=D
  have G:Inv X MP σ H { s with heap:=f,toks:=A }:=I.turned (fun b o a e=>F b o (by simpa using a) e) q r u x y
  refine⟨_,rfl,xq (s:={ s with heap:=f,toks:=A }) (n:="range_iterator") c rfl rfl ⋯ ⟨.int (d+i),H,G,⟨t,?_⟩,⟨rfl,rfl⟩,c,fun b a=>(hf b a).1⟩⟩
  rw[Int.mul_one]
 done:=by
  intro X g j l m i MP s σ H E I hf st p
  subst g j l
  obtain⟨q,r,C,u,x,y⟩:=hf it (by simp)
  exact wpAny_pyNext_range_end (I.ok.hd m) st (by have:n<=i:=p;omega) fun f J=>⟨rfl,I.turned (t':=s.toks) (fun b o a e=>J b o a e) q r u x y⟩
 self:=fun _ _ _ _ _ st h=>wpAny_pyIter_rangeiter st h
section
variable{X:Cx}{tg:Expr}
theorem zT{MP:List (Addr×Obj)}{σ:St}{H:Hp}{s:IT}{R:It->Hp->Prop}{E:IQ->IT->Prop}{a c:Int}{t u v:Tok}{tk:Nat}(I:Inv X MP σ H s)(f:-(2^62)<=a)(g:a<2^62)(h:-(2^62)<=c)(i:c<2^62)
 (q:R (R7 a (c-a).toNat) H):J3 (Jh X.prog X.w) X.A (pyIter (.ref s.heap.objs.size)) (X3 X MP σ tg R) E { s with heap:=s.heap.push { cls:=.type "range",data:=.fields #[.int a t,.int c u,.int 1 v] },toks:=tk }:=by
 refine wpAny_pyIter_range (IsRange.new ..) (small_one f g h i) ?_
 have d:Inv X MP σ H { s with heap:=s.heap.push { cls:=.type "range",data:=.fields #[.int a t,.int c u,.int 1 v] },toks:=tk }:=I.kept fun b o e=>J0 _ e
 refine⟨(s.heap.push { cls:=.type "range",data:=.fields #[.int a t,.int c u,.int 1 v] }).objs.size,[(s.heap.push { cls:=.type "range",data:=.fields #[.int a t,.int c u,.int 1 v] }).objs.size],_,_,H,rfl,
  d.kept (t':=tk) fun b o e=>J0 _ e,r9 _ a (c-a).toNat,?_,fun b j=>?_,q⟩
 ·have e1:a+((0:Nat):Int)*1=a:=by simp
  have e2:(((c-a).toNat:Nat):Int)-((0:Nat):Int)=Builtin.Range.rangeSize a c 1:=by rw[rangeSize_one];split<;>omega
  show IsRangeIter _ _ (a+((0:Nat):Int)*1) ((((c-a).toNat:Nat):Int)-((0:Nat):Int)) 1
  rw[e1,e2]
  exact J7 _ rfl
 ·have e:b=(s.heap.push { cls:=.type "range",data:=.fields #[.int a t,.int c u,.int 1 v] }).objs.size:=by simpa using j
  subst e
  exact d.pY (IX _) (d.hok.fresh (IX _))
def Fc(a:TA):TI:=fun σ H R=>a σ H fun vs H1=>∃j:Int,vs=[.int j]/\-(2^62)<=j/\j<2^62/\R (R7 0 j.toNat) H1
theorem nE{a:Expr}{d:TA}{p pos:Pos}(f:Gl X "range")(g:X.mg "range"=MB)(i:PA X [a] d)(k:Jd [a] X.env=[(MD,eval a X.env)]:=by rfl):PI X tg (.Call (.Name "range" p) [a] [] pos) (Fc d):=by
 intro MP s σ H R I h;refine Call_ (iL I f g boot_range (Lo (Mp (i pos MP s σ H _ I h) fun us u b=>?_) k rfl));obtain⟨vs,H1,l,m,c⟩:=b;obtain⟨j,e,c,n,q⟩:=c;subst e;cases m with
 |cons r o=>
  cases o
  obtain⟨t,rfl⟩:=r
  exact call_range_1 (zT l () () c n (by simpa using q))
def IA(e:TI)(g:TG)(f:TS):TS:=fun D σ H=>e σ H fun J H1=>∃W:Nat->Nat->St->Hp->Prop,(∃m,W 0 m σ H1)/\∀i m σ H,W i m σ H->
 (J.stop i H/\D.nx σ H)\/(J.go i H/\∃N:St->Hp->Prop,(∀a b,N a b->∃d,d<m/\W (i+1) d a b)/\∀x b,J.yld i H x b->g x σ b fun c h=>f { D with nx:=N,ct:=N,bk:=D.nx } c h)
def gv(fp:List Addr)(h:Heap):List (Addr×Obj):=fp.filterMap fun b=>(h.get? b).map fun o=>(b,o)
theorem bX{fp:List Addr}{h:Heap}{b:Addr}{o:Obj}(a:b∈fp)(e:h.get? b=MA o):(b,o)∈gv fp h:=List.mem_filterMap.mpr ⟨b,a,by rw[e];rfl⟩
theorem vO{fp:List Addr}{h:Heap}{p:Addr×Obj}(a:p∈gv fp h):p.1∈fp/\h.get? p.1=MA p.2:=by
 obtain⟨b,c,e⟩:=List.mem_filterMap.mp a;cases q:h.get? b with
 |none=>rw[q]at e;cases e
 |some o=>
  rw[q]at e
  have d:(b,o)=p:=Option.some.inj e
  subst d
  exact⟨c,q⟩
theorem Inv.pinned{MP:List (Addr×Obj)}{σ:St}{H:Hp}{s:IT}{fp:List Addr}(I:Inv X MP σ H s)(hf:∀b∈fp,c9 X MP H b)(f:∀b∈fp,∃o,s.heap.get? b=MA o/\∀v,o.data≠.cell v):Inv X (MP++gv fp s.heap) σ H s:=
 I.uE fun p g=>(Jj.mp g).elim (fun z=>I.pin p (Jb _ z)) fun z=>by
  obtain⟨a,e⟩:=vO z
  obtain⟨h,i,j,_⟩:=hf p.1 a
  obtain⟨o,c,d⟩:=f p.1 a
  rw[e]at c;cases c
  exact⟨e,h,i,j,d⟩
theorem Inv.eE{MP a:List (Addr×Obj)}{σ:St}{H:Hp}{s:IT}(I:Inv X (MP++a) σ H s):Inv X MP σ H s:=I.uE fun p b=>I.pin p (Jb _ (Kn _ b))
theorem yL{c:Expr}{body:List Stmt}{Y:TI}{g:TG}{Z:TS}{pos:Pos}(K:PassesOwn (Jh X.prog X.w) X.A X.env X.xe)(hc:X.calm=MC)(hi:PI X tg c Y)(hg:PG X tg g)(j:Om X body Z)
 (hs:∀x,JA c X.env x=pure x:=by intro _;rfl):PS X (.For tg c body [] pos) (IA Y g Z):=by
 intro MP s σ H D I h
 refine wpAny_For (Mp (hi MP s σ H _ I h) fun v s1 h1=>Mp h1 fun a0 s2 h2=>?_) hs
 obtain⟨it,fp,tn,J,H2,e,I2,T,Rm,f2,W,⟨m0,w0⟩,L⟩:=h2
 subst e
 have k:∀{z:Hp},(∀b∈fp,z b=MB)->∀b∈fp,c9 X MP z b:=fun hn b j=>⟨hn b j,(f2 b j).2⟩
 refine codeAny_forLoop_any (fun n s'=>∃i l z,Inv X MP l z s'/\tn i s'.heap/\(∀b∈fp,z b=MB)/\W i n l z) ?_ m0 ⟨0,σ,H2,I2,Rm,fun b j=>(f2 b j).1,w0⟩
 rintro n s3 ⟨i,p,P,I3,Rj,M,w3⟩
 rcases L i n p P w3 with⟨stop,qn⟩|⟨go,N,hN,step⟩
 ·refine LD K (Mp (T.done X rfl rfl rfl hc i MP s3 p P X.xe I3 (k M) Rj stop) fun r s4 B=>?_)
  obtain⟨Q,I4⟩:=B
  subst Q
  exact wpAny_execs_nil ⟨p,P,I4,qn⟩
 ·refine LD K (Mp (T.item X rfl rfl rfl hc i MP s3 p P X.xe I3 (k M) Rj go) fun r s4 C=>?_)
  obtain⟨u,Q,h4⟩:=C
  subst Q
  refine LD K (Mp h4 fun _ s5 E=>?_)
  obtain⟨x,H5,I5,r5,y5,OU,R⟩:=E
  have S:=I5.pinned (k R) (T.obj _ _ OU)
  refine LD K (Mp (hg _ s5 p H5 x u _ S r5 (step x H5 y5)) fun _ s6 F=>?_)
  obtain⟨U,H6,I6,q6⟩:=F
  refine LD K (Mp (j _ s6 U H6 _ I6 q6) fun f V G=>?_)
  have q:∀{a:St} {t:Hp},Inv X (MP++gv fp s5.heap) a t V->N a t->∃m,m<n/\∃i l z,Inv X MP l z V/\tn i V.heap/\(∀b∈fp,z b=MB)/\W i m l z:=fun{a t} y O=>by
   obtain⟨m',hm,w7⟩:=hN a t O
   refine⟨m',hm,i+1,a,t,y.eE,T.keep _ _ _ OU fun b j o e=>(y.pin (b,o) (Jb _ (Jb _ (bX j e)))).1,fun b j=>?_,w7⟩
   obtain⟨o,e,d⟩:=T.obj _ _ OU b j
   exact(y.pin (b,o) (Jb _ (Jb _ (bX j e)))).2.1
  cases f with
  |next=>obtain⟨a,t,y,O⟩:=G;exact q y O
  |cont=>obtain⟨a,t,y,O⟩:=G;exact q y O
  |brk=>obtain⟨a,t,y,G⟩:=G;exact⟨a,t,y.eE,G⟩
  |ret v=>obtain⟨x7,a,t,y,r7,G⟩:=G;exact⟨x7,a,t,y.eE,r7,G⟩
end
theorem vD{h:Int}{n:Nat}{g:TG}{k:TS}{D:Ends}{σ:St}{H:Hp}(a:Nat->St->Hp->Prop)(o:a 0 σ H)
 (q:∀i σ H,i<n->a i σ H->g (.int (h+i)) σ H fun b j=>k { D with nx:=a (i+1),ct:=a (i+1),bk:=D.nx } b j) (hd:∀σ H,a n σ H->D.nx σ H) :
 ∃W:Nat->Nat->St->Hp->Prop,(∃m,W 0 m σ H)/\∀i m σ H,W i m σ H->
  ((R7 h n).stop i H/\D.nx σ H)\/((R7 h n).go i H/\∃N:St->Hp->Prop,(∀c d,N c d->∃l,l<m/\W (i+1) l c d)/\∀x d,(R7 h n).yld i H x d->g x σ d fun b j=>k { D with nx:=N,ct:=N,bk:=D.nx } b j):=by
 refine⟨fun i m σ H=>m=n-i/\i<=n/\a i σ H,⟨n,by simp,K6 _,o⟩,?_⟩
 rintro i m σ H ⟨rfl,s,p⟩
 by_cases f:i<n
 ·refine .inr ⟨f,a (i+1),fun c d r=>⟨n-(i+1),(),rfl,f,r⟩,fun x d y=>?_⟩
  obtain⟨e,y⟩:=y
  subst e y
  exact q i σ _ f p
 ·have e:i=n:=()
  subst e
  exact .inl ⟨IX _,hd σ H p⟩
abbrev R2:=V->V->Hp->VK->Prop
def NN(X:Cx)(f:IQ->IQ->Sem IQ)(r:R2):Prop:=
 ∀(MP:List (Addr×Obj)) (s:IT) (σ:St) (H:Hp) (x y:V) (v u:IQ) (Q:VK),Inv X MP σ H s->RelV x v->RelV y u->r x y H Q->
  J3 (Jh X.prog X.w) X.A (f v u) (EP X MP σ Q) X.xe s
def Uz(X:Cx)(f:IQ->Sem IQ)(r:V->Hp->VK->Prop):Prop:=
 ∀(MP:List (Addr×Obj)) (s:IT) (σ:St) (H:Hp) (x:V) (v:IQ) (Q:VK),Inv X MP σ H s->RelV x v->r x H Q->
  J3 (Jh X.prog X.w) X.A (f v) (EP X MP σ Q) X.xe s
def cw(X:Cx)(f:IQ)(r:List V->Hp->VK->Prop):Prop:=
 ∀(MP:List (Addr×Obj)) (s:IT) (σ:St) (H:Hp) (xs:List V) (us:List IQ) (Q:VK),Inv X MP σ H s->Vals xs us->r xs H Q->
  J3 (Jh X.prog X.w) X.A (call f us) (EP X MP σ Q) X.xe s
def Im(X:Cx)(r:V->Hp->(Bool->Hp->Prop)->Prop):Prop:=
 ∀(MP:List (Addr×Obj)) (s:IT) (σ:St) (H:Hp) (x:V) (v:IQ) (Q:Bool->Hp->Prop),Inv X MP σ H s->RelV x v->r x H Q->
  J3 (Jh X.prog X.w) X.A (truthy v) (TP X MP σ Q) X.xe s
def Ra(r:R2)(a b:TE):TE:=fun σ H Q=>a σ H fun x H1=>b σ H1 fun y c=>r x y c Q
def Xm(r:V->Hp->VK->Prop)(a:TE):TE:=fun σ H Q=>a σ H fun x H1=>r x H1 Q
def rI(C:Int->Int->Prop)(g:Int->Int->V):R2:=fun x y H Q=>∃i j,x=.int i/\y=.int j/\C i j/\Q (g i j) H
def Q5(g:Int->Int->V):R2:=fun x y H Q=>∃i j,x=.int i/\y=.int j/\Q (g i j) H
def rU(g:Int->V):V->Hp->VK->Prop:=fun x H Q=>∃i,x=.int i/\Q (g i) H
section
variable{X:Cx}{a b c:Expr}{ta tb tc:TE}{pos:Pos}
theorem Dw(l:PE X a ta)(m:PE X b tb){MP:List (Addr×Obj)}{s:IT}{σ:St}{H:Hp}{R:V->V->Hp->Prop}(I:Inv X MP σ H s) (h:ta σ H fun x H1=>tb σ H1 fun y g=>R x y g) {Q:IQ->IT->Prop} {f:IQ->IQ->Sem IQ} (hf:∀v u k x y g,Inv X MP σ g k->RelV x v->RelV y u->R x y g->J3 (Jh X.prog X.w) X.A (f v u) Q X.xe k) : J3 (Jh X.prog X.w) X.A (eval a X.env) (fun v i=>J3 (Jh X.prog X.w) X.A (eval b X.env) (fun u j=>J3 (Jh X.prog X.w) X.A (f v u) Q X.xe j) X.xe i) X.xe s:=by refine Mp (l MP s σ H _ I h) fun v n d=>?_;obtain⟨x,H1,o,p,q⟩:=d;refine Mp (m MP n σ H1 _ o q) fun u k e=>?_;obtain⟨y,g,r,t,z⟩:=e;exact hf v u k x y g r p t z
theorem Hq{op:Operator}{r:R2}(d:NN X (KZ op) r)(e:PE X a ta)(f:PE X b tb):PE X (.BinOp a op b pos) (Ra r ta tb):=by intro MP s σ H Q I h;exact wpAny_BinOp (Dw e f I h fun v u g x y i j k l q=>d MP g σ i x y v u Q j k l q)
theorem FQ{op:UnaryOp}{r:V->Hp->VK->Prop}(e:Uz X (unaryOp op) r)(f:PE X a ta):PE X (.UnaryOp op a pos) (Xm r ta):=by intro MP s σ H Q I h;exact UnaryOp_ (Mp (f MP s σ H _ I h) fun v g d=>by obtain⟨x,H1,i,j,k⟩:=d;exact(e MP g σ H1 x v Q i j k))
theorem VN{f:IQ->IQ->Sem IQ}{C:Int->Int->Prop}{g:Int->Int->Int} (d:∀(i j:Int) (t u:Tok) (s:IT) (Q:IQ->IT->Prop) (E:IQ->IT->Prop),C i j->Q (.int (g i j) s.toks) { s with toks:=s.toks+1 }->J3 (Jh X.prog X.w) X.A (f (.int i t) (.int j u)) Q E s) : NN X f (rI C fun i j=>.int (g i j)):=by intro MP s σ H x y v u Q I e k h;obtain⟨i,j,rfl,rfl,l,q⟩:=h;obtain⟨t,rfl⟩:=e;obtain⟨m,rfl⟩:=k;exact d i j t m s _ _ l ⟨.int (g i j),H,I.tok _,⟨_,rfl⟩,q⟩
theorem Dy{f:IQ->IQ->Sem IQ}{g:Int->Int->Int} (d:∀(i j:Int) (t u:Tok) (s:IT) (Q:IQ->IT->Prop) (E:IQ->IT->Prop),Q (.int (g i j) s.toks) { s with toks:=s.toks+1 }->J3 (Jh X.prog X.w) X.A (f (.int i t) (.int j u)) Q E s) : NN X f (Q5 fun i j=>.int (g i j)):=by intro MP s σ H x y v u Q I e k h;obtain⟨i,j,rfl,rfl,q⟩:=h;obtain⟨t,rfl⟩:=e;obtain⟨l,rfl⟩:=k;exact d i j t l s _ _ ⟨.int (g i j),H,I.tok _,⟨_,rfl⟩,q⟩
theorem AQ{f:IQ->IQ->Sem IQ}{g:Int->Int->Bool} (d:∀(i j:Int) (t u:Tok) (s:IT) (Q:IQ->IT->Prop) (E:IQ->IT->Prop),Q (.bool (g i j)) s->J3 (Jh X.prog X.w) X.A (f (.int i t) (.int j u)) Q E s) : NN X f (Q5 fun i j=>.bl (g i j)):=by intro MP s σ H x y v u Q I e k h;obtain⟨i,j,rfl,rfl,q⟩:=h;obtain⟨t,rfl⟩:=e;obtain⟨l,rfl⟩:=k;exact d i j t l s _ _ ⟨.bl (g i j),H,I,rfl,q⟩
def GH(i j:Int):Prop:=0<=j/\j<=1000000/\i.natAbs<2^64
theorem EI:NN X (KZ .Add) (Q5 fun i j=>.int (i+j)):=Dy fun _ _ _ _ _ _ _ q=>add_int q
theorem EX:NN X (KZ .Sub) (Q5 fun i j=>.int (i-j)):=Dy fun _ _ _ _ _ _ _ q=>sub_int q
theorem Ap:NN X (KZ .Mod) (rI (fun _ j=>j≠0) fun i j=>.int (i.fmod j)):=VN fun _ _ _ _ _ _ _ d q=>mod_int' d q
theorem D4:NN X (KZ .Pow) (rI GH fun i j=>.int (i^j.toNat)):=VN fun _ _ _ _ _ _ _ d q=>pow_int_small d.1 d.2.1 d.2.2 q
theorem Di:NN X (KZ .BitXor) (Q5 fun i j=>.int (Builtin.bitXor i j)):=Dy fun _ _ _ _ _ _ _ q=>xor_int q
theorem Xd{f:IQ->Sem IQ}{g:Int->Int} (d:∀(i:Int) (t:Tok) (s:IT) (Q:IQ->IT->Prop) (E:IQ->IT->Prop),Q (.int (g i) s.toks) { s with toks:=s.toks+1 }->J3 (Jh X.prog X.w) X.A (f (.int i t)) Q E s) : Uz X f (rU fun i=>.int (g i)):=by intro MP s σ H x v Q I e h;obtain⟨i,rfl,q⟩:=h;obtain⟨t,rfl⟩:=e;exact d i t s _ _ ⟨.int (g i),H,I.tok _,⟨_,rfl⟩,q⟩
theorem EG:Uz X (unaryOp .USub) (rU fun i=>.int (-i)):=Xd fun _ _ _ _ _ q=>neg_int q
end
section
variable{X:Cx}{a b c:Expr}{ta tb tc:TE}{pos:Pos}
theorem Hh:NN X (JC .Lt) (Q5 fun i j=>.bl (decide (i<j))):=AQ fun _ _ _ _ _ _ _ q=>lt_int q
theorem GA:NN X (JC .LtE) (Q5 fun i j=>.bl (decide (i<=j))):=AQ fun _ _ _ _ _ _ _ q=>le_int q
theorem GJ:NN X (JC .Gt) (Q5 fun i j=>.bl (decide (j<i))):=AQ fun _ _ _ _ _ _ _ q=>gt_int q
theorem GN:NN X (JC .GtE) (Q5 fun i j=>.bl (decide (j<=i))):=AQ fun _ _ _ _ _ _ _ q=>ge_int q
theorem NN.or{f:IQ->IQ->Sem IQ}{r d:R2}(h:NN X f r)(h':NN X f d):NN X f (fun x y H Q=>r x y H Q\/d x y H Q):=by
 intro MP s σ H x y v u Q I e g q;rcases q with q|q
 ·exact h MP s σ H x y v u Q I e g q
 ·exact h' MP s σ H x y v u Q I e g q
theorem wW(b:Expr){op:CmpOp}(h:op≠.In:=by decide)(d:op≠.NotIn:=by decide):LM op b=MD:=by
 have e1:(op==CmpOp.In)=MD:=by cases op<;>first|rfl|exact absurd rfl h
 have e2:(op==CmpOp.NotIn)=MD:=by cases op<;>first|rfl|exact absurd rfl d
 cases b<;>simp[LM,e1,e2]
theorem Aq{op:CmpOp}{r:R2}(d:NN X (JC op) r)(e:PE X a ta)(f:PE X b tb)(g:LM op b=MD):PE X (.Compare a [op] [b] pos) (Ra r ta tb):=by intro MP s σ H Q I h;exact wpAny_Compare1 (Dw e f I h fun v u i x y j k l m q=>d MP i σ j x y v u Q k l m q) g
def Ct(t:TE):TT:=fun σ H Q=>t σ H fun x d=>∃k,x=.bl k/\Q k d
theorem Aa{op:CmpOp}{r:R2}(d:NN X (JC op) r)(f:PE X a ta)(g:PE X b tb)(i:LM op b=MD):PT X (.Compare a [op] [b] pos) (Ct (Ra r ta tb)):=by intro MP s σ H Q I h;refine wpAny_isTrue_Compare1 (Mp (f MP s σ H _ I h) fun v j ⟨x,H1,l,m,n⟩=>Mp (g MP j σ H1 _ l n) fun u o ⟨y,p,q,t,w⟩=>Mp (d MP o σ p x y v u _ q m t w) fun c E ⟨z,A,B,C,k,e,D⟩=>?_) i;subst e;cases C;exact Kh ⟨A,B,D⟩
def C3(r e:R2)(ta tb tc:TE):TE:=fun σ H Q=>ta σ H fun x H1=>tb σ H1 fun y f=>r x y f fun z d=>∃k,z=.bl k/\
 (if k=MC then tc σ d fun g h=>e y g h Q else Q (.bl MD) d)
theorem zI{op g:CmpOp}{r j:R2}(p:NN X (JC op) r)(i:NN X (JC g) j)(q:PE X a ta)(t:PE X b tb)(w:PE X c tc) (A:lastMarks [op,g] [b,c]=MD:=by with_unfolding_all rfl):PE X (.Compare a [op,g] [b,c] pos) (C3 r j ta tb tc):=by
 intro MP s σ H Q I h;refine Compare_chain (Mp (q MP s σ H _ I h) fun v B ⟨x,H1,C,D,E⟩=>chain_link (Mp (t MP B σ H1 _ C E) fun u F ⟨y,G,J,l,K⟩=>Mp (p MP F σ G x y v u _ J D l K) fun d L ⟨z,m,n,M,k,e,o⟩=>?_)) A;subst e;cases M;refine Kh ?_;cases k with
 |false=>exact ite_ff ⟨.bl MD,m,n,rfl,o⟩
 |true=>exact ite_tt (chain_last (Mp (w MP L σ m _ n o) fun N O f=>by obtain⟨P,R,S,T,U⟩:=f;exact(i MP O σ R y P u N Q S l T U)))
def FE(K:I0)(x:V)(H:Hp)(k:Bool):Prop:=
 match x with
 |.non=>k=MD
 |.bl b=>k=b
 |.int i=>k=(i != 0)
 |.str y=>y.length<=J8/\k=((y.length:Int) != 0)
 |.byt y=>y.size<=J8/\k=((y.size:Int) != 0)
 |.ref p=>(∃xs,Mx K H p xs/\k=!xs.isEmpty)\/(∃xs,Mz K H p xs/\k=!xs.isEmpty)\/∃kvs,H p=MA (.dK kvs)/\k=!kvs.isEmpty
 |_=>False
theorem tK{d:Type}{kvs:List (d×V)}{vs:List (d×IQ)}(r:KV kvs vs):(!vs.isEmpty)=!kvs.isEmpty:=by cases r<;>rfl
theorem kY{xs:List V}{d:List IQ}(r:Vals xs d):(!d.toArray.isEmpty)=!xs.isEmpty:=by cases r<;>simp
theorem jU:(J8:Nat)<2^63:=by rw[sizeLine_eq];decide
theorem EC:Im X (fun x H Q=>∃k,FE X.K x H k/\Q k H):=by
 intro MP s σ H x v Q I g h;obtain⟨k,e,q⟩:=h;have A:=jU;have B:J8=16777216:=sizeLine_eq;cases x with
 |non=>
  cases g
  have d:k=MD:=e
  subst d
  exact truthy_none ⟨H,I,q⟩
 |bl b=>
  cases g
  have d:k=b:=e
  subst d
  exact Kh ⟨H,I,q⟩
 |int i=>
  obtain⟨t,rfl⟩:=g
  have d:k=(i != 0):=e
  subst d
  exact PySem.P.truthy_int ⟨H,I,q⟩
 |str y=>
  obtain⟨t,rfl⟩:=g
  obtain⟨u,d⟩:y.length<=J8/\k=((y.length:Int) != 0):=e
  subst d
  exact PySem.P.truthy_str () ⟨H,I.tok _,q⟩
 |byt y=>
  obtain⟨t,rfl⟩:=g
  obtain⟨u,d⟩:y.size<=J8/\k=((y.size:Int) != 0):=e
  subst d
  exact PySem.W.truthy_bytes () ⟨H,I.tok _,q⟩
 |ref p=>
  cases g
  have d:(∃xs,Mx X.K H p xs/\k=!xs.isEmpty)\/(∃xs,Mz X.K H p xs/\k=!xs.isEmpty)\/∃kvs,H p=MA (.dK kvs)/\k=!kvs.isEmpty:=e
  rcases d with⟨xs,j,d⟩|⟨xs,j,d⟩|⟨kvs,j,d⟩
  ·subst d;obtain⟨l,r,n,o⟩:=I.list j;have f:=r.length;exact wpAny_truthy_list n.isList (by simp only[Ja];omega) ⟨H,I.tok _,by rw[kY r];exact q⟩
  ·subst d;obtain⟨l,r,n,o⟩:=I.tuple j;have f:=r.length;exact truthy_tuple n (by simp only[Ja];omega) ⟨H,I.tok _,by rw[kY r];exact q⟩
  ·subst d;obtain⟨o,z,vs,r,m⟩:kvs.length<=J8/\(p==KI)=MD/\∃vs,KV kvs vs/\s.heap.DictOf (cB X.prog X.w) p vs:=I.hok p _ j;have f:kvs.length=vs.length:=Paired.length r;exact wpAny_truthy_dict z m () ⟨H,I.tok _,by rw[tK r];exact q⟩
 |_=>exact(show False from e).elim
theorem yo(g:PE X a ta)(i:∀d,isTrue a X.env d=(do let v <-d;standAt a.pos;holding [v] (truthy v))) :
 PT X a (fun σ H Q=>ta σ H fun x f=>∃k,FE X.K x f k/\Q k f):=by
 intro MP s σ H Q I h
 exact isTrue_plain (Mp (g MP s σ H _ I h) fun v j e=>by obtain⟨x,H1,l,m,n⟩:=e;exact(EC MP j σ H1 x v Q l m n)) (i _)
theorem vals1{x:V}{us:List IQ}(r:Vals [x] us):∃u,us=[u]/\RelV x u:=by
 cases r with
 |cons d e=>cases e;exact⟨_,rfl,d⟩
theorem vals2{x y:V}{us:List IQ}(r:Vals [x,y] us):∃u d,us=[u,d]/\RelV x u/\RelV y d:=by
 cases r with
 |cons e f=>
  cases f with
  |cons g h=>cases h;exact⟨_,_,rfl,e,g⟩
theorem zi:cw X (.builtin "abs") (fun xs H Q=>∃i,xs=[.int i]/\Q (.int (if i<0 then -i else i)) H):=by intro MP s σ H xs us Q I r h;obtain⟨i,rfl,q⟩:=h;obtain⟨u,rfl,t,rfl⟩:=vals1 r;exact call_abs_int fun u d=>⟨.int (if i<0 then -i else i),H,I.tok _,⟨_,rfl⟩,q⟩
theorem wk(e:X.calm=MC):cw X (.builtin "max") (fun xs H Q=>∃i j,xs=[.int i,.int j]/\Q (.int (if j>i then j else i)) H):=by
 intro MP s σ H xs us Q I r h;obtain⟨i,j,rfl,q⟩:=h;obtain⟨u,f,rfl,⟨t,rfl⟩,⟨g,rfl⟩⟩:=vals2 r;refine max_two_ints (I.ok.hd e) fun l m k=>⟨_,H,I.kept k,?_,q⟩;by_cases d:j>i
 ·rw[MF d,MF d];exact⟨_,rfl⟩
 ·rw[ME d,ME d];exact⟨_,rfl⟩
theorem wG(e:X.calm=MC):cw X (.builtin "min") (fun xs H Q=>∃i j,xs=[.int i,.int j]/\Q (.int (if j<i then j else i)) H):=by
 intro MP s σ H xs us Q I r h;obtain⟨i,j,rfl,q⟩:=h;obtain⟨u,f,rfl,⟨t,rfl⟩,⟨g,rfl⟩⟩:=vals2 r;refine min_two_ints (I.ok.hd e) fun l m k=>⟨_,H,I.kept k,?_,q⟩;by_cases d:j<i
 ·rw[MF d,MF d];exact⟨_,rfl⟩
 ·rw[ME d,ME d];exact⟨_,rfl⟩
theorem vV:cw X (.type "int") (fun xs H Q=>(∃i,xs=[.int i]/\Q (.int i) H)\/∃k,xs=[.bl k]/\Q (.int (if k then 1 else 0)) H):=by
 intro MP s σ H xs us Q I r h;rcases h with⟨i,rfl,q⟩|⟨k,rfl,q⟩
 ·obtain⟨u,rfl,t,rfl⟩:=vals1 r;exact call_int_int ⟨.int i,H,I,⟨_,rfl⟩,q⟩
 ·obtain⟨u,rfl,d⟩:=vals1 r;cases d;exact call_int_bool ⟨.int (if k then 1 else 0),H,I.tok _,⟨_,rfl⟩,q⟩
end
structure NB(k:Nat)(A:JV):Prop where
 hd:A.handled=MB
 dp:A.depth+3*k+5<recursionLimit
 un:A.units+16*k+200<K4
 gd:A.guards=MA []
theorem NB.mono{j k:Nat}{A:JV}(r:NB k A)(h:j<=k):NB j A:=⟨r.hd,by have:=r.dp;omega,by have:=r.un;omega,r.gd⟩
theorem NB.deeper{k:Nat}{A:JV}(r:NB (k+1) A)(env:Env):NB k (A.deeper env):=⟨r.hd,by have:=r.dp;show A.depth+1+3*k+5<_;omega,by have:=r.un;show A.units+3+16*k+200<_;omega,r.gd⟩
theorem NB.depth{k:Nat}{A:JV}(r:NB k A):A.depth<recursionLimit:=by have:=r.dp;omega
theorem NB.units{k:Nat}{A:JV}(r:NB k A):A.units+64<K4:=by have:=r.un;omega
def Iv:TA:=fun _ H Q=>Q [] H
def FH(a:TE)(b:TA):TA:=fun σ H Q=>a σ H fun x H1=>b σ H1 fun xs c=>Q (x::xs) c
section
variable{X:Cx}{e:Expr}{es:List Expr}{te:TE}{t:TA}{pos:Pos}
theorem Dq:PA X [] Iv:=fun _ _ _ _ H Q I h=>Calls.spliced_nil ⟨[],H,I,.nil,h⟩
theorem Br(c:PE X e te)(d:PA X es t)(f:Jd (e::es) X.env=(MD,eval e X.env)::Jd es X.env:=by rfl):PA X (e::es) (FH te t):=by intro pos MP s σ H Q I h;rw[f];show J3 _ _ (spliced ((MD,eval e X.env)::Ks pos (Jd es X.env))) _ _ s;refine Calls.spliced_cons (Mp (c MP s σ H _ I h) fun u g a=>?_);obtain⟨x,H1,i,j,k⟩:=a;exact Mp (d pos MP g σ H1 _ i k) fun us p b=>by obtain⟨xs,l,m,n,o⟩:=b;exact(⟨x::xs,l,m,.cons j n,o⟩)
def HQ(t:TA):TE:=fun σ H Q=>t σ H fun xs H1=>xs.length<=J8/\∀p,H1 p=MB->Q (.ref p) (upd H1 p (.tup xs))
def ID(t:TA):TE:=fun σ H Q=>t σ H fun xs H1=>xs.length<=J8/\∀p,H1 p=MB->Q (.ref p) (upd H1 p (.lst xs))
theorem Dz{x1}(h:PA X es t):PE X (.Tuple es x1 pos) (HQ t):=by intro MP s σ H Q I d;refine wpAny_Tuple_spliced (Mp (h pos MP s σ H _ I d) fun us a ⟨xs,H1,c,r,z,q⟩=>⟨by rw[<-r.length];exact z,?_⟩);have hf:H1 a.heap.objs.size=MB:=c.hok.fresh (IX _);refine⟨.ref a.heap.objs.size,upd H1 a.heap.objs.size (.tup xs),c.laid (t':=a.toks) (fun b u e=>J0 _ e) (IX _) ?_,rfl,q _ hf⟩;exact⟨z,us,r,⟨_,J7 _ rfl,rfl,_,rfl⟩,⟨_,J7 _ rfl,rfl⟩⟩
theorem CD(h:PA X es t):PE X (.List es pos) (ID t):=by intro MP s σ H Q I d;refine wpAny_List_spliced (Mp (h pos MP s σ H _ I d) fun us a ⟨xs,H1,c,r,z,q⟩=>⟨by rw[<-r.length];exact z,?_⟩);have hf:H1 a.heap.objs.size=MB:=c.hok.fresh (IX _);refine⟨.ref a.heap.objs.size,upd H1 a.heap.objs.size (.lst xs),c.laid (t':=a.toks) (fun b u e=>J0 _ e) (IX _) ?_,rfl,q _ hf⟩;exact⟨z,us,0,r,J7 _ rfl⟩
end
abbrev Sp:=List V->Hp->VK->XK->Prop
abbrev Q2:=List Env->Hp->IT->XK->IQ->IT->Prop
structure Qd(P:Jl)(w:JO)(K:I0)(mg:Str->Option IQ)(base:Heap)(A:JV)(outer:List Env)(s:IT)(H:Hp):Prop where
 frames:A.frames=MA outer
 mod:Mod K mg base
 bs:∀b o,base.get? b=MA o->s.heap.get? b=MA o/\H b=MB
 bsz:base.objs.size<=s.heap.objs.size
 l6:s.heap.FunFrames base outer
 frf:∀b∈QX outer,H b=MB
 hok:N1 P w H s.heap
 bare:AllBare s.gens
def CE(outer:List Env)(P:Jl)(w:JO)(H:Hp)(s:IT)(Q:VK)(u:IQ)(a:IT):Prop:=
 ∃v b,a.os=s.os/\AllBare a.gens/\Un (QX outer) [] H b s.heap a.heap/\N1 P w b a.heap/\RelV v u/\Q v b
def CR(CX:Q2)(outer:List Env)(P:Jl)(w:JO)(H:Hp)(s:IT)(Q:VK)(E:XK)(r:Result)(a:IT):Prop:=
 match r with
 |.ok (.ret u)=>CE outer P w H s Q u a
 |.ok _=>False
 |.error e=>CX outer H s E e a
structure N3(P:Jl)(w:JO)(K:I0)(mg:Str->Option IQ)(base:Heap)(CX:Q2)(k:Nat)(f:Addr)(fd:LY)(ps:List Str)(sp:Sp):Prop where
 len:∀vs H Q E,sp vs H Q E->vs.length=ps.length
 run:∀(A:JV) (outer:List Env) (s:IT) (H:Hp) (args:Args) (us:List IQ) (vs:List V) (Q:VK) (E:XK),NB k A->Qd P w K mg base A outer s H->BindsTo s fd args (ps.zip us)->Vals vs us->sp vs H Q E->
  Le (Jh P w) A (.call (.ref f) args) (CR CX outer P w H s Q E) s
theorem N3.mono{P:Jl}{w:JO}{K:I0}{mg:Str->Option IQ}{base:Heap}{CX:Q2}{j k:Nat}{f:Addr}{fd:LY}{ps:List Str}{sp:Sp}(F:N3 P w K mg base CX j f fd ps sp)(h:j<=k) : N3 P w K mg base CX k f fd ps sp:=⟨F.len,fun A outer s H args us vs Q E a=>F.run A outer s H args us vs Q E (a.mono h)⟩
section
variable{X:Cx}{MP:List (Addr×Obj)}{σ:St}{H:Hp}{s s':IT}
theorem Inv.Ig(I:Inv X MP σ H s):Qd X.prog X.w X.K X.mg X.base X.A X.stack s H:=⟨I.ok.frames,I.ok.mod,I.bs,K3 I.ok.bsz I.sz,I.stack,I.tY,I.hok,I.bare⟩
theorem Inv.after{Q:VK}{u:IQ}(I:Inv X MP σ H s)(h:CE X.stack X.prog X.w H s Q u s'):EP X MP σ Q u s':=by obtain⟨v,c,os,bare,un,hok,r,q⟩:=h;obtain⟨e,g,d,t,a⟩:=s';obtain rfl:a=s.os:=os;exact⟨v,c,I.call (h':=e) (g':=g) (d':=d) (t':=t) (ch:=[]) un hok bare (fun b z=>absurd z (by simp)),r,q⟩
end
def Gu(sp:Sp)(a:List V)(E:XK)(t:TA):TE:=fun σ H Q=>t σ H fun vs H1=>sp (vs++a) H1 Q E
def Binds(K:I0)(fd:LY)(ps:List Str)(a:List IQ):Prop:=
 ∀(s:IT) (us:List IQ),K.In s.heap->(us++a).length=ps.length->BindsTo s fd ⟨us,[]⟩ (ps.zip (us++a))
theorem Binds.all{K:I0}{fd:LY}{ps:List Str}(h:∀us:List IQ,us.length=ps.length->bindArgs fd ⟨us,[]⟩=pure (ps.zip us)):Binds K fd ps []:=fun s us _ a=>by rw[JM]at a ⊢;exact .of_eq (h us a)
def Passes(CX:Q2)(X:Cx)(E:XK):Prop:=∀(MP:List (Addr×Obj)) (σ:St) (H:Hp) (s:IT) (e:IQ) (a:IT),Inv X MP σ H s->CX X.stack H s E e a->X.xe e a
section
variable{X:Cx}{CX:Q2}{k:Nat}{f C:Addr}{fd:LY}{ps:List Str}{sp:Sp}{MR:List V}{ds:List IQ}{E:XK}{x m:Str}{p pos apos:Pos}{e o:Expr}{es:List Expr}{ta:TE}{t:TA}
theorem E4{MP:List (Addr×Obj)}{σ:St}{H:Hp}{s:IT}{Q:VK}{us:List IQ}{vs:List V}(F:N3 X.prog X.w X.K X.mg X.base CX k f fd ps sp)(c:NB k X.A)(d:Binds X.K fd ps ds)(hd:Vals MR ds)(g:Passes CX X E)
 (I:Inv X MP σ H s) (r:Vals vs us) (h:sp (vs++MR) H Q E):J3 (Jh X.prog X.w) X.A (call (.ref f) us) (EP X MP σ Q) X.xe s:=by
 have b:Vals (vs++MR) (us++ds):=r.append hd
 have i:(us++ds).length=ps.length:=by rw[<-b.length];exact F.len _ _ _ _ h
 refine wpAny_call (codeAny_mono (F.run X.A X.stack s H ⟨us,[]⟩ (us++ds) (vs++MR) Q E c I.Ig (d s us I.kIn i) b h) fun r j a=>?_)
 cases r with
 |error e=>exact g MP σ H s e j I a
 |ok l=>
  cases l with
  |ret u=>exact I.after a
  |next=>exact Jq a
  |brk=>exact Jq a
  |cont=>exact Jq a
theorem zX(F:N3 X.prog X.w X.K X.mg X.base CX k f fd ps sp)(d:NB k X.A)(g:Gl X x)(i:X.mg x=MA (.ref f))(j:PySem.W.keepIn X.K (.ref f)=MC)(l:Binds X.K fd ps ds)(hd:Vals MR ds)(n:Passes CX X E) (u:PA X (e::es) t) (a:(x==("__debug__":Str))=MD:=by decide) (v:Jd (e::es) X.env=(MD,eval e X.env)::Jd es X.env:=by rfl) (b:(Ks pos (Jd es X.env)).any (·.1)=MD:=by rfl) : PE X (.Call (.Name x p) (e::es) [] pos) (Gu sp MR E t):=by intro MP s σ H Q I h;refine wpAny_Call_Name_kw (Am I g i ?_ a);refine PySem.W.callWith_K (h₀:=X.base) I.ok.mod.kin j (Mp (u pos MP s σ H _ I h) fun us y ⟨vs,H1,c,r,q⟩=>⟨c.kIn,?_⟩) v b;exact E4 F d l hd n c r q
end
structure Mk(N P:List Str)(sc:Lr):Prop where
 kind:sc.kind=.function
 co:sc.isCoroutine=MD
 gen:sc.isGenerator=MD
 nd:N.Nodup
 pre:N.take P.length=P
 par:∀x∈P,sc.names.lookup x=MA .local\/sc.names.lookup x=MA .cell
 nofree:∀y∈sc.names,y.2≠.free
theorem nN{kindOf:Str->Option Lm}{x:Str}:∀{binds:List (Str×IQ)} {m:Str->Option IQ},(∀v,(x,v)∉binds)->bindL kindOf binds m x=m x
 |[],_,_=>rfl
 |(n,v)::r,m,h=>by
  unfold bindL
  rw[nN fun w a=>h w (JF _ a)]
  split
  ·have:x≠n:=by rintro rfl;exact h v K0
   simp[this]
  ·rfl
theorem nZ{kindOf:Str->Option Lm}{x:Str}:∀{binds:List (Str×IQ)} {m:Str->Option IQ},(∀v,(x,v)∉binds)->bindC kindOf binds m x=m x
 |[],_,_=>rfl
 |(n,v)::r,m,h=>by
  unfold bindC
  rw[nZ fun w a=>h w (JF _ a)]
  split
  ·rfl
  ·have:x≠n:=by rintro rfl;exact h v K0
   simp[this]
theorem nQ{kindOf:Str->Option Lm}{x:Str}{v:IQ}:∀{P:List Str} {vs:List IQ} {i:Nat} {m:Str->Option IQ},P.Nodup->P[i]?=MA x->vs[i]?=MA v->kindOf x=MA .local->
 bindL kindOf (P.zip vs) m x=MA v
 |[],_,_,_,_,h,_,_=>by simp at h
 |_::_,[],_,_,_,_,h,_=>by simp at h
 |p::P,w::vs,0,m,nd,h1,h2,hk=>by
  simp at h1 h2;subst h1;subst h2
  show bindL kindOf ((p,w)::P.zip vs) m p=_
  unfold bindL
  rw[nN fun v a=>(Lf.mp nd).1 (List.of_mem_zip a).1,MF hk]
  simp
 |p::P,w::vs,i+1,m,nd,h1,h2,hk=>by
  show bindL kindOf ((p,w)::P.zip vs) m x=_
  unfold bindL
  exact nQ (i:=i) (Lf.mp nd).2 (by simpa using h1) (by simpa using h2) hk
theorem nS{kindOf:Str->Option Lm}{x:Str}{v:IQ}:∀{P:List Str} {vs:List IQ} {i:Nat} {m:Str->Option IQ},P.Nodup->P[i]?=MA x->vs[i]?=MA v->kindOf x≠MA .local->
 bindC kindOf (P.zip vs) m x=MA v
 |[],_,_,_,_,h,_,_=>by simp at h
 |_::_,[],_,_,_,_,h,_=>by simp at h
 |p::P,w::vs,0,m,nd,h1,h2,hk=>by
  simp at h1 h2;subst h1;subst h2
  show bindC kindOf ((p,w)::P.zip vs) m p=_
  unfold bindC
  rw[nZ fun v a=>(Lf.mp nd).1 (List.of_mem_zip a).1,ME hk]
  simp
 |p::P,w::vs,i+1,m,nd,h1,h2,hk=>by
  show bindC kindOf ((p,w)::P.zip vs) m x=_
  unfold bindC
  exact nS (i:=i) (Lf.mp nd).2 (by simpa using h1) (by simpa using h2) hk
def start(N:List Str)(vs:List V):St:=vs.map MA++Jk (N.length-vs.length) MB
def jE(CX:Q2)(P:Jl)(w:JO)(K:I0)(mg:Str->Option IQ)(base:Heap)(N:List Str)(qual:Str)(scope:Lr)(f:Addr)(b:IQ)(A:JV)(outer:List Env)(s:IT)(H:Hp)(E:XK):Cx where
 prog:=P
 w:=w
 K:=K
 mg:=mg
 base:=base
 A:=A.deeper (envOfC qual scope s.heap.objs.size f b)
 N:=N
 s₀:=s
 H₀:=H
 env:=envOfC qual scope s.heap.objs.size f b
 outer:=outer
 stack:=envOfC qual scope s.heap.objs.size f b::outer
 ex:=[]
 calm:=MC
 fn:=fun _=>MC
 pn:=[]
 xe:=fun e c=>J3 (Jh P w) (A.deeper (envOfC qual scope s.heap.objs.size f b)) (leaving (envOfC qual scope s.heap.objs.size f b) e) (fun _ a=>CX outer H s E e a) (fun d a=>CX outer H s E d a) c
theorem mw{sc:Lr}{n:Nat}{x:Str}(h:sc.names.lookup x=MA .cell):∃c,(KL n sc.names []).lookup x=MA c:=by have q:=PySem.W.cellsFrom_some sc.names n [] (.inl h);exact Option.isSome_iff_exists.mp q
theorem wg{CX:Q2}{P:Jl}{w:JO}{K:I0}{mg:Str->Option IQ}{base:Heap}{N ps:List Str}{qual:Str}{scope:Lr}{f:Addr}{t:IQ}{A:JV}{outer:List Env}{s D:IT}{H:Hp}{E:XK}{us:List IQ}{vs:List V}
 (S:Mk N ps scope) (hd:A.handled=MB) (g:Qd P w K mg base A outer s H) (M:vs.length=ps.length) (r:Vals vs us)
 (x:InCallC s s.heap.objs.size (bindL (envOfC qual scope s.heap.objs.size f t).kindOf (ps.zip us) fun _=>MB) (KL (s.heap.objs.size+1) scope.names []) (bindC (envOfC qual scope s.heap.objs.size f t).kindOf (ps.zip us) fun _=>MB) D) :
 Inv (jE CX P w K mg base N qual scope f t A outer s H E) [] (start N vs) H D:=by
 have I:ps.length<=N.length:=by have:=congrArg List.length S.pre;rw[L3]at this;omega
 obtain⟨B,O,rfl,F⟩:=x.done
 have j:∀b:Addr,b∉(jE CX P w K mg base N qual scope f t A outer s H E).ex:=fun b z=>absurd (show b∈([]:List Addr)from z) (by simp)
 refine⟨⟨g.mod,S.kind,rfl,rfl,IX _,fun y z c B d=>?_,fun y l=>?_,fun y c _ h=>?_,fun _=>hd,Around.frames_deeper g.frames,.inr ⟨rfl,rfl⟩,fun b z=>absurd z (j b),g.bs,g.bsz,fun b _ _=>j b,fun b z=>absurd z (j b),g.l6,g.frf⟩,
  rfl,g.bare,Un.kept F,⟨_,x.toInCall.ns,fun i y v B d Q=>?_⟩,fun y c h=>⟨_,x.cell y c h⟩,g.hok.fresh (IX _),fun y c h=>?_,fun p m=>absurd (show p∈([]:List (Addr×Obj))from m) (by simp),g.hok.kept F,?_⟩
 ·exact name_of_addr x.apart (JR B) (JR d)
 ·have l:scope.names.lookup y=MA .cell\/scope.names.lookup y=MA .free:=l
  rcases l with l|l
  ·exact mw l
  ·exact absurd rfl (S.nofree _ (JR l))
 ·exact Nat.le_of_lt (x.above y c (JR h))
 ·have C:i<vs.length:=by
   unfold start at d
   by_cases C:i<vs.length
   ·exact C
   ·rw[JZ (by simpa using C)]at d
    rw[List.getElem?_replicate]at d
    split at d<;>cases d
  have J:vs[i]?=MA v:=by
   unfold start at d
   rw[JD (by simpa using C),IW]at d
   cases e:vs[i]? with
   |none=>rw[e]at d;cases d
   |some a=>rw[e]at d;cases d;rfl
  obtain⟨u,G,L⟩:=r.get J
  have m:ps[i]?=MA y:=by
   rw[<-S.pre,List.getElem?_take_of_lt ()];exact B
  have o:ps.Nodup:=by rw[<-S.pre];exact S.nd.sublist (List.take_sublist _ _)
  refine⟨u,L,?_⟩
  rcases S.par y (IZ m)with k|k
  ·exact .inl ⟨k,nQ o m G k⟩
  ·obtain⟨c,e⟩:=mw (n:=s.heap.objs.size+1) k
   refine .inr ⟨.inl k,c,e,?_⟩
   have q:=x.cell y c e
   rw[nS o m G (by show scope.names.lookup y≠_;rw[k];decide)]at q
   exact q
 ·exact g.hok.fresh (Nat.le_of_lt (x.above y c (JR h)))
 ·unfold start
  show _=N.length
  rw[Kc,IU,List.length_replicate]
  omega
theorem GB{CX:Q2}{P:Jl}{w:JO}{K:I0}{mg:Str->Option IQ}{base:Heap}{k:Nat}{f:Addr}{name qual:Str}{params:Arguments}{body:List Stmt}{scope:Lr}{G kV j L cdv ct oc:IQ}{an od:Option Addr}
 {osl:Array (Option IQ)} {N ps:List Str} {sp:Sp} (R:K.lookup f=MA ⟨oc,od,.func (KA name qual params body scope G kV j L an cdv ct),osl⟩) (z:PySem.W.codeIn K cdv qual=MC) (S:Mk N ps scope)
 (len:∀vs H Q E,sp vs H Q E->vs.length=ps.length)
 (g:∀(A:JV) (outer:List Env) (s:IT) (H:Hp) (vs:List V) (Q:VK) (E:XK),NB k (A.deeper (envOfC qual scope s.heap.objs.size f cdv))->sp vs H Q E->
  ∃t,Om (jE CX P w K mg base N qual scope f cdv A outer s H E) body t/\t { nx:=fun _ d=>Q .non d,rt:=Q } (start N vs) H) :
 N3 P w K mg base CX (k+1) f (KA name qual params body scope G kV j L an cdv ct) ps sp:=by
 refine⟨len,fun A outer s H args us vs Q E B l T r m=>?_⟩
 have U:=len _ _ _ _ m
 have M:K.In s.heap:=l.mod.kin.keeps fun b o e=>(l.bs b o e).1
 have C:s.heap.NoLimit:=l.mod.nolimit.keeps fun b o e=>(l.bs b o e).1
 have h:∀y∈ps.zip us,scope.names.lookup y.1=MA .local\/(scope.names.lookup y.1=MA .cell/\((KL (s.heap.objs.size+1) scope.names []).lookup y.1).isSome=MC):=fun a X=>by
  obtain⟨n,v⟩:=a
  rcases S.par n (List.of_mem_zip X).1 with q|q
  ·exact .inl q
  ·exact .inr ⟨q,PySem.W.cellsFrom_some _ _ _ (.inl q)⟩
 refine codeAny_call_function B.depth (M _ _ R) rfl S.co S.gen rfl (PySem.W.codeRec_of M z) (T _ _ _ _ ?_)
 refine wpAny_newFunctionEnv_cells S.kind h fun env Y O x=>?_
 subst Y
 refine⟨C.keeps x.toInCall.keep,codeAny_func ?_⟩
 obtain⟨t,Z,hq⟩:=g A outer s H vs Q E (B.deeper _) m
 have I:Inv (jE CX P w K mg base N qual scope f cdv A outer s H E) [] (start N vs) H O:=wg S B.hd l U r x
 refine Jc (Z [] O (start N vs) H _ I hq) (fun fl D i=>?_) fun e D i=>i
 have p:∀{c:St} {d:Hp} {v:V} {u:IQ},Inv (jE CX P w K mg base N qual scope f cdv A outer s H E) [] c d D->RelV v u->Q v d->CE outer P w H s Q u D:=
  fun{c d v u} J F q=>⟨v,d,J.os,J.bare,J.base,J.hok,F,q⟩
 cases fl with
 |ret u=>
  obtain⟨v,c,d,J,F,q⟩:=i
  exact p J F q
 |next=>
  obtain⟨c,d,J,q⟩:=i
  exact p (v:=V.non) (u:=LU) J rfl q
 |brk=>
  obtain⟨_,_,_,q⟩:=i
  exact Jq q
 |cont=>
  obtain⟨_,_,_,q⟩:=i
  exact Jq q
section
variable{X:Cx}{x:Str}{p pos:Pos}{e:Expr}{es:List Expr}{t:TA}{id T:String}{r:List V->Hp->VK->Prop}
def VX(r:List V->Hp->VK->Prop)(t:TA):TE:=fun σ H Q=>t σ H fun vs H1=>r vs H1 Q
theorem yG(d:cw X (.builtin id) r)(f:Gl X x)(g:X.mg x=MB)(i:JX x=MA (.builtin id))(j:PA X (e::es) t)(k:x≠"__name__":=by decide)(b:(x==("__debug__":Str))=MD:=by decide) (l:Jd (e::es) X.env=(MD,eval e X.env)::Jd es X.env:=by rfl) (c:(Ks pos (Jd es X.env)).any (·.1)=MD:=by rfl):PE X (.Call (.Name x p) (e::es) [] pos) (VX r t):=by intro MP s σ H Q I h;refine wpAny_Call_Name_kw (iL I f g i ?_ k b);exact PyProof.Rows.callWith_builtin1 (Mp (j pos MP s σ H _ I h) fun us m a=>by obtain⟨vs,H1,n,o,q⟩:=a;exact(d MP m σ H1 vs us Q n o q)) l c
theorem vG(d:cw X (.type T) r)(f:Gl X x)(g:X.mg x=MB)(i:JX x=MA (.type T))(j:PA X (e::es) t)(k:x≠"__name__":=by decide)(b:(x==("__debug__":Str))=MD:=by decide) (l:Jd (e::es) X.env=(MD,eval e X.env)::Jd es X.env:=by rfl) (c:(Ks pos (Jd es X.env)).any (·.1)=MD:=by rfl):PE X (.Call (.Name x p) (e::es) [] pos) (VX r t):=by intro MP s σ H Q I h;refine wpAny_Call_Name_kw (iL I f g i ?_ k b);exact Lo (Mp (j pos MP s σ H _ I h) fun us m a=>by obtain⟨vs,H1,n,o,q⟩:=a;exact(d MP m σ H1 vs us Q n o q)) l c
end
end L2
namespace HT
open PySem PyProof.Rows
def lexLt:List Int->List Int->Bool
 |[],[]=>MD
 |[],_::_=>MC
 |_::_,[]=>MD
 |x::xs,y::ys=>if x=y then lexLt xs ys else decide (x<y)
theorem tN(x y:Int)(xs a:List Int):lexLt (x::xs) (y::a)=if x=y then lexLt xs a else decide (x<y):=rfl
theorem m9:lexLt [] []=MD:=rfl
theorem k9(y:Int)(a:List Int):lexLt [] (y::a)=MC:=rfl
theorem lL(x:Int)(xs:List Int):lexLt (x::xs) []=MD:=rfl
theorem lz(A:JV)(s:IT)(a:Int)(t:Tok)(c:Int)(u:Tok):∃e,SeqAt.EqAt A s (.int a t) (.int c u) e/\(e=MC↔a=c):=⟨(a==c),SeqAt.EqAt.int_int a t c u,by simp⟩
theorem xH(A:JV)(s:IT)(a:Int)(t:Tok)(c:Int)(u:Tok)(prog:Jl)(w:JO)(E:IQ->IT->Prop)(Q:IQ->IT->Prop)(h:Q (.bool (decide (a<c))) s) : J3 (Jh prog w) A (richCompare .Lt (.int a t) (.int c u)) Q E s:=(PyProof.Rows.lt_int h:J3 (Jh prog w) A (JC .Lt (.int a t) (.int c u)) Q E s)
section
open PySem.SeqAt
open PySem.AutoSeq1 (wpAny_loadPart')
open PySem.MeetsSeq PySem.MeetsSeq2 PySem.MeetsSeq3
theorem nt(l b:Addr)(items f:Array IQ)(n Q:Nat)(S I:Option Addr)(T J:Array (Option IQ))(ns F:List Int)(N:Kw items.toList ns)(O:Kw f.toList F) :
 Meets (Mb.«tuple.__lt__» ⟨[.ref l,.ref b],[]⟩)
  (fun _ R s=>s.heap.get? l=MA { cls:=.type "tuple",dict:=S,data:=.seq items n,slots:=T }/\s.heap.get? b=MA { cls:=.type "tuple",dict:=I,data:=.seq f Q,slots:=J }/\
   R (.ok (.ret (.bool (lexLt ns F)))) s):=
 .of_wp fun prog w A R s h=>by
  obtain⟨G,g,d,H,os⟩:=s;obtain⟨U,V,h⟩:=h
  have f2:=AutoSeq1.sub_tuple_tuple
  have z1:items.size=ns.length:=by rw[<-N.length];simp
  have z2:f.size=F.length:=by rw[<-O.length];simp
  wp_walk using K1 U,K1 V,wpAny_forIn_list _ (fun p b K=>b.1=MB/\K=⟨G,g,d,H,os⟩/\∃(vs ws:List IQ) (j k:List Int),p=vs.zip ws/\
   Kw vs j/\Kw ws k/\j.length+f.size=k.length+items.size/\R (.ok (.ret (.bool (lexLt j k)))) ⟨G,g,d,H,os⟩) _
  case turn=>
   rintro⟨y,x⟩ p b K ⟨z,rfl,vs,ws,j,k,m,B,o,i,r⟩
   cases B with
   |nil=>rw[List.zip_nil_left]at m;cases m
   |cons a t D=>
    cases o with
    |nil=>rw[List.zip_nil_right]at m;cases m
    |cons c u E=>
     rw[Lu]at m
     injection m with L C
     injection L with W X
     subst W X
     rw[tN]at r
     simp only[JI]at i
     obtain⟨e,Y,v⟩:=lz A.in1 ⟨G,g,d,H,os⟩ a t c u
     refine cc (Y prog w _ _ ?_)
     cases e with
     |true=>
      rw[MF (v.mp rfl)]at r
      wp_walk
      exact⟨rfl,rfl,_,_,_,_,C,D,E,(),r⟩
     |false=>
      rw[ME (fun q=>absurd (v.mpr q) Jf)]at r
      have M:=xH A.in1 ⟨G,g,d,H,os⟩ a t c u prog w
      wp_walk using M
      exact⟨_,rfl,by simpa using r⟩
  case fin=>
   rintro⟨b1,b2⟩ K ⟨z,rfl,vs,ws,j,k,m,B,o,i,r⟩
   simp only at z
   subst z
   have P:lexLt j k=decide (items.size<f.size):=by
    cases B with
    |nil=>
     cases o with
     |nil=>
      simp only[KC]at i
      rw[m9]
      exact(MG ()).symm
     |cons c u Z=>
      simp only[KC,JI]at i
      rw[k9]
      exact(MI ()).symm
    |cons a t P=>
     cases o with
     |nil=>
      simp only[KC,JI]at i
      rw[lL]
      exact(MG ()).symm
     |cons c u Z=>
      rw[Lu]at m
      cases m
   rw[P]at r
   wp_walk
   exact⟨_,rfl,by simpa[Builtin.Tuple.tupleCompareSizes]using r⟩
  case h=>
   exact⟨rfl,rfl,items.toList,f.toList,ns,F,rfl,N,O,(),h⟩
end
section
variable{prog:Jl}{w:JO}{A:JV}{E:IQ->IT->Prop}{s:IT}
theorem iN{l b:Addr}{items a:Array IQ}{ns c:List Int}{Q:IQ->IT->Prop}(p:IsTup s.heap l items)(q:IsTup s.heap b a)(r:Kw items.toList ns)(t:Kw a.toList c) (u:A.units<K4) (h:Q (.bool (lexLt ns c)) s):J3 (Jh prog w) A (JC .Lt (.ref l) (.ref b)) Q E s:=by obtain⟨⟨cls,v,data,y⟩,k,m,n,hd⟩:=id p;obtain⟨⟨o,g,i,j⟩,d,e,z,f⟩:=id q;simp only at m hd e f;subst m hd e f;exact richCompare_meets_room (op:=.Lt) ⟨_,k,rfl⟩ ⟨_,d,rfl⟩ PySem.F.slot_tuple_lt PySem.F.entry_tuple_lt (PySem.F.args_tuple_lt_2 _ _) (nt l b items a n z v g y j ns c r t) ⟨k,d,show LV (lexLt ns c)≠Value.notImplemented/\Q (.bool (lexLt ns c)) s from⟨(fun x=>nomatch x),h⟩⟩ u
theorem BD{t b:Addr}{vs ws:List IQ}{Q:IQ->IT->Prop}(r:IsTup s.heap t vs.toArray)(u:IsTup s.heap b ws.toArray)(k:vs≠[])
 (v:ws=[]->Q (.ref t) s) (x:ws≠[]->Q (.ref s.heap.objs.size) { s with heap:=s.heap.push { cls:=.type "tuple",data:=.seq (vs++ws).toArray } })
 (hsz:vs.length+ws.length<=J8):J3 (Jh prog w) A (KZ .Add (.ref t) (.ref b)) Q E s:=by
 obtain⟨⟨cls,l,data,m⟩,h,o,n,hd⟩:=id r
 obtain⟨⟨p,c,j,d⟩,a,f,q,g⟩:=id u
 simp only at o hd f g
 subst o hd f g
 have e:vs.toArray++ws.toArray=(vs++ws).toArray:=by simp
 by_cases i:ws=[]
 ·exact concat_meets ⟨_,h,rfl⟩ ⟨_,a,rfl⟩ noFill_tuple_add seq_tuple_add PySem.F.slot_tuple_add PySem.F.entry_tuple_add (PySem.F.args_tuple_add_2 _ _)
   (tuple_addW1 t b vs.toArray ws.toArray n q l c m d (by simpa using k) (by simp[i])) ⟨h,a,v i⟩
 ·refine concat_meets ⟨_,h,rfl⟩ ⟨_,a,rfl⟩ noFill_tuple_add seq_tuple_add PySem.F.slot_tuple_add PySem.F.entry_tuple_add (PySem.F.args_tuple_add_2 _ _)
   (tuple_addW2 t b vs.toArray ws.toArray n q l c m d (by simpa using k) (by simpa using i) (by rw[Ja,Ja];exact hsz)) ⟨h,a,?_⟩
  rw[e]
  exact x i
def sIx(n d:Nat):Option Int->Nat
 |none=>d
 |some v=>if v<0 then(v+(n:Int)).toNat else min v.toNat n
theorem CI(n d:Nat)(hd:d<=n)(o:Option Int):sIx n d o<=n:=by
 cases o with
 |none=>exact hd
 |some v=>
  show(if v<0 then(v+(n:Int)).toNat else min v.toNat n)<=n
  by_cases a:v<0
  ·rw[MF a];omega
  ·rw[ME a];exact Nat.min_le_right _ _
theorem tX(v:Int)(n d:Nat):(if v<0 then max (v+(n:Int)) 0 else min v (n:Int))=((sIx n d (MA v):Nat):Int):=by
 show(if v<0 then max (v+(n:Int)) 0 else min v (n:Int))=(((if v<0 then(v+(n:Int)).toNat else min v.toNat n):Nat):Int);by_cases a:v<0
 ·simp only[MF a];omega
 ·simp only[ME a];omega
theorem rZ(a b:Option Int)(n:Nat):Builtin.Slice.sliceAdjust a b 1 (n:Int)=(((sIx n 0 a:Nat):Int),((sIx n n b:Nat):Int)):=by
 have c:¬((1:Int)<0):=()
 unfold Builtin.Slice.sliceAdjust;simp only[c,if_false];refine Prod.ext ?_ ?_
 ·cases a with
  |none=>rfl
  |some v=>exact tX v n 0
 ·cases b with
  |none=>rfl
  |some v=>exact tX v n n
theorem rQ(i j:Nat):Builtin.Slice.slicePlaces (i:Int) (j:Int) 1=j-i:=by
 unfold Builtin.Slice.slicePlaces;have a:(1:Int)>0:=()
 simp only[a,if_true,Int.ediv_one];split<;>omega
theorem eN{v:IQ}{o:Option Int}{Q:Option Int->IT->Prop}(p:IsPart v o)(h:Q o s):J3 (Jh prog w) A (Builtin.Slice.slicePartIndex v) Q E s:=by
 cases p with
 |none=>exact slicePart_none h
 |int i t=>exact slicePart_int h
theorem jS{f:Addr}{vl e:IQ}{a b:Option Int}{n:Nat}{Q:Int×Int×Nat->IT->Prop}(g:s.heap.IsSliceOf f vl e .none)(i:IsPart vl a)(j:IsPart e b)
 (h:Q (((sIx n 0 a:Nat):Int),1,sIx n n b-sIx n 0 a) s):J3 (Jh prog w) A (Lv (.ref f) (pure (n:Int))) Q E s:=by
 obtain⟨os,c,k,d⟩:=id g
 unfold Lv Builtin.Slice.sliceFields
 refine cc (cc (wpAny_field c d (x:=vl) rfl (cc (wpAny_field c d (x:=e) rfl (cc (wpAny_field c d (x:=.none) rfl (IV ?_)))))))
 refine cc (slicePart_none ?_)
 show J3 _ _ (if((1:Int)==0)=MC then _ else _) _ _ s
 rw[ME ⋯]
 refine cc (eN i (cc (eN j (cc (IV ?_)))))
 show J3 _ _ (match Builtin.Slice.sliceAdjust a b 1 (n:Int)with|(a,b)=>pure (a,(1:Int),Builtin.Slice.slicePlaces a b 1)) _ _ s
 rw[rZ a b n]
 show J3 _ _ (pure (((sIx n 0 a:Nat):Int),(1:Int),Builtin.Slice.slicePlaces ((sIx n 0 a:Nat):Int) ((sIx n n b:Nat):Int) 1)) _ _ s
 rw[rQ]
 exact IV h
theorem xp(xs:Array IQ)(i k:Nat):((J5 k).filterMap fun(m:Nat)=>xs[((i:Int)+(m:Int)*1).toNat]?).toArray=((xs.toList.drop i).take k).toArray:=by
 have e:(fun(m:Nat)=>xs[((i:Int)+(m:Int)*1).toNat]?)=fun m=>xs[i+m]?:=by
  funext m
  have:((i:Int)+(m:Int)*1).toNat=i+m:=()
  rw[this]
 rw[e];have:=pick_run xs i k;rw[List.filterMap_map]at this;have e2:((fun x=>xs[x]?)∘fun x=>i+x)=fun m=>xs[i+m]?:=rfl;rw[e2]at this;rw[this]
theorem jj{t e:Addr}{items:Array IQ}{vl k:IQ}{b c:Option Int}{Q:IQ->IT->Prop}(d:IsTup s.heap t items)(l:s.heap.IsSliceOf e vl k .none)(n:IsPart vl b)(o:IsPart k c)
 (hw:¬(sIx items.size 0 b=0/\sIx items.size items.size c=items.size))
 (h:Q (.ref s.heap.objs.size) { s with heap:=s.heap.push { cls:=.type "tuple",data:=.seq ((items.toList.drop (sIx items.size 0 b)).take (sIx items.size items.size c-sIx items.size 0 b)).toArray } })
 (hsz:items.size<=J8):J3 (Jh prog w) A (getItem (.ref t) (.ref e)) Q E s:=by
 have a:sizeOk (.seq ((items.toList.drop (sIx items.size 0 b)).take (sIx items.size items.size c-sIx items.size 0 b)).toArray):=by
  show((items.toList.drop (sIx items.size 0 b)).take (sIx items.size items.size c-sIx items.size 0 b)).toArray.size<=J8
  rw[Ja,L3,List.length_drop,Array.length_toList]
  omega
 have r:sIx items.size items.size c<=items.size:=CI _ _ (IX _) c
 obtain⟨os,f,g,p⟩:=id l
 have i:s.TypeIs (.ref e) "slice":=⟨os,f,g⟩
 unfold getItem
 try with_reducible refine Kb ?_
 first|refine cc (IV ?_)|skip
 refine cc (wpAny_sequenceKey d.typeIs ⋯ ?_)
 refine cc (wpAny_callSpecial?_slot (name:=L6 "__getitem__") d.typeIs Ke
  (wpAny_call_entry Ke d.typeIs entry_tuple_getitem ?_ (args_tuple_getitem _ _)))
 show J3 _ _ (Builtin.Tuple.tupleItemsOf (.ref t) >>= _) _ _ s
 refine cc (tupleItemsOf_ d ?_)
 refine cc (wpAny_typeOf i ?_)
 rw[MF ⋯]
 refine cc (jS l n o ?_)
 have j:¬((((sIx items.size 0 b:Nat):Int)==0&&(1:Int)==1&&(sIx items.size items.size c-sIx items.size 0 b)==items.size)=MC):=by
  intro q
  rw[Jn,Jn]at q
  have u:((sIx items.size 0 b:Nat):Int)=0:=eq_of_beq q.1.1
  have v:sIx items.size items.size c-sIx items.size 0 b=items.size:=eq_of_beq q.2
  exact hw ⟨(),()⟩
 show J3 _ _ (if(((sIx items.size 0 b:Nat):Int)==0&&(1:Int)==1&&(sIx items.size items.size c-sIx items.size 0 b)==items.size)=MC then _ else _) _ _ s
 rw[ME j,xp]
 first
  |exact cc (m:=Kd _) (JG (IV ⟨_,rfl,IV h⟩) a)
  |exact cc (m:=Kd _) (JG (cc (IV (IV ⟨_,rfl,IV h⟩))) a)
  |exact cc (cc (m:=Kd _) (JG (IV (IV ⟨_,rfl,IV h⟩)) a))
  |exact cc (cc (m:=Kd _) (JG (IV ⟨_,rfl,IV h⟩) a))
end
end HT
namespace L2
open PySem PySem.Spec PyProof.Rows
abbrev TO:=St->Hp->(Option Int->Hp->Prop)->Prop
def PO(X:Cx)(e:Option Expr)(t:TO):Prop:=
 ∀(MP:List (Addr×Obj)) (s:IT) (σ:St) (H:Hp) (Q:Option Int->Hp->Prop),Inv X MP σ H s->t σ H Q->
  J3 (Jh X.prog X.w) X.A (evalPart e X.env) (fun u b=>∃o a,Inv X MP σ a b/\IsPart u o/\Q o a) X.xe s
def AZ:TO:=fun _ H Q=>Q MB H
def GU(t:TE):TO:=fun σ H Q=>t σ H fun x H1=>∃i,x=.int i/\Q (MA i) H1
theorem intsAre_of{ns:List Int}:∀{us:List IQ},Vals (ns.map V.int) us->Kw us ns:=by
 induction ns with
 |nil=>intro us r;rw[Ki]at r;cases r;exact .nil
 |cons n ns a=>
  intro us r
  rw[IY]at r
  cases r with
  |cons b c=>
   obtain⟨t,e⟩:=b
   subst e
   exact .cons n t (a c)
section
variable{X:Cx}{e:Expr}{te:TE}{lo hi:Option Expr}{tl th:TO}{pos p2:Pos}
theorem AD:PO X MB AZ:=by intro MP s σ H Q I h;rw[evalPart_none];exact IV ⟨MB,H,I,.none,h⟩
theorem BB(h:PE X e te):PO X (MA e) (GU te):=by intro MP s σ H Q I b;rw[evalPart_some];refine Mp (h MP s σ H _ I b) fun u g a=>?_;obtain⟨x,H1,c,d,f⟩:=a;obtain⟨i,rfl,q⟩:=f;obtain⟨t,rfl⟩:=d;exact⟨MA i,H1,c,.int i t,q⟩
def RG(X:Cx)(r:V->Option Int->Option Int->Hp->VK->Prop):Prop:=
 ∀(MP:List (Addr×Obj)) (s:IT) (σ:St) (H:Hp) (x:V) (v vl a:IQ) (lo hi:Option Int) (b:Addr) (Q:VK),Inv X MP σ H s->RelV x v->s.heap.IsSliceOf b vl a .none->IsPart vl lo->IsPart a hi->r x lo hi H Q->
  ∃T id,typeLookup (.type T) "__getitem__"=pure (MA (.builtin id))/\s.TypeIs v T/\J3 (Jh X.prog X.w) X.A (getItem v (.ref b)) (EP X MP σ Q) X.xe s
theorem RG.or{r a:V->Option Int->Option Int->Hp->VK->Prop}(h:RG X r)(h':RG X a):RG X (fun x lo hi H Q=>r x lo hi H Q\/a x lo hi H Q):=by
 intro MP s σ H x v vl b lo hi c Q I d f g i q;rcases q with q|q
 ·exact h MP s σ H x v vl b lo hi c Q I d f g i q
 ·exact h' MP s σ H x v vl b lo hi c Q I d f g i q
def Xn(r:V->Option Int->Option Int->Hp->VK->Prop)(te:TE)(tl th:TO):TE:=fun σ H Q=>te σ H fun x H1=>tl σ H1 fun l a=>th σ a fun u b=>r x l u b Q
theorem xO{r:V->Option Int->Option Int->Hp->VK->Prop}(i:RG X r)(j:PE X e te)(k:PO X lo tl)(m:PO X hi th):PE X (.Subscript e (.Slice lo hi MB p2) pos) (Xn r te tl th):=by intro MP s σ H Q I h;refine Subscript_ (Mp (j MP s σ H _ I h) fun v n c=>?_);obtain⟨x,H1,o,p,t⟩:=c;refine wpAny_Slice (Mp (k MP n σ H1 _ o t) fun vl y ⟨l,z,B,C,D⟩=>Mp (m MP y σ z _ B D) fun f a d=>?_);obtain⟨u,g,E,F,G⟩:=d;rw[evalPart_none];refine IV ?_;have J:Inv X MP σ g { a with heap:=a.heap.push { cls:=.type "slice",data:=.fields #[vl,f,.none] } }:=E.kept (t':=a.toks) fun b N q=>J0 _ q;obtain⟨T,id,K,L,M⟩:=i MP { a with heap:=a.heap.push { cls:=.type "slice",data:=.fields #[vl,f,.none] } } σ g x v vl f l u a.heap.objs.size Q J p (Heap.IsSliceOf.new ..) C F G;show J3 (Jh X.prog X.w) X.A (subscriptTail e (.Slice lo hi MB p2) v (.ref a.heap.objs.size)) (EP X MP σ Q) X.xe { a with heap:=a.heap.push { cls:=.type "slice",data:=.fields #[vl,f,.none] } };exact tail_any (ops:=[.ref a.heap.objs.size,v]) L K M (by with_unfolding_all rfl)
def rB(xs:List V)(lo hi:Option Int):List V:=(xs.drop (HT.sIx xs.length 0 lo)).take (HT.sIx xs.length xs.length hi-HT.sIx xs.length 0 lo)
theorem jX(xs:List V)(lo hi:Option Int):(rB xs lo hi).length<=xs.length:=by unfold rB;rw[L3,List.length_drop];omega
def Ip(K:I0):V->Option Int->Option Int->Hp->VK->Prop:=fun x lo hi H Q=>∃a xs,x=.ref a/\Mz K H a xs/\
 ¬(HT.sIx xs.length 0 lo=0/\HT.sIx xs.length xs.length hi=xs.length)/\∀p,H p=MB->Q (.ref p) (upd H p (.tup (rB xs lo hi)))
theorem CN:RG X (Ip X.K):=by
 intro MP s σ H x v vl p lo hi t Q I i j k l h;obtain⟨a,xs,rfl,m,n,q⟩:=h;cases i;obtain⟨d,r,f,g⟩:=I.tuple m;have c:d.toArray.size=xs.length:=by rw[Ja];exact r.length.symm
 refine⟨"tuple",_,Ke.lookup,f.typeIs,?_⟩;refine HT.jj f j k l (by rw[c];exact n) ?_ (by rw[c];exact g);rw[c];refine⟨.ref s.heap.objs.size,_,I.laid (t':=s.toks) (o:=.tup (rB xs lo hi)) (fun b u q=>J0 _ q) (IX _) ?_,rfl,q _ (I.hok.fresh (IX _))⟩;exact⟨K3 (jX xs lo hi) g,_,(r.drop (HT.sIx xs.length 0 lo)).take (HT.sIx xs.length xs.length hi-HT.sIx xs.length 0 lo),IsTup.new _ _,Qy.new _ _⟩
def Hr(K:I0):R2:=fun x y H Q=>∃a b ns c,x=.ref a/\y=.ref b/\Mz K H a (ns.map V.int)/\Mz K H b (c.map V.int)/\Q (.bl (HT.lexLt ns c)) H
theorem DH(g:X.A.units<K4):NN X (JC .Lt) (Hr X.K):=by intro MP s σ H x y v u Q I i j h;obtain⟨a,b,ns,f,rfl,rfl,k,l,q⟩:=h;cases i;cases j;obtain⟨d,m,n,_⟩:=I.tuple k;obtain⟨c,o,p2,_⟩:=I.tuple l;have p:Kw d.toArray.toList ns:=intsAre_of m;have r:Kw c.toArray.toList f:=intsAre_of o;exact HT.iN n p2 p r g ⟨.bl (HT.lexLt ns f),H,I,rfl,q⟩
def Fj(K:I0):R2:=fun x y H Q=>∃a b xs c,x=.ref a/\y=.ref b/\Mz K H a xs/\Mz K H b c/\xs≠[]/\xs.length+c.length<=J8/\
 (c=[]->Q (.ref a) H)/\(c≠[]->∀p,H p=MB->Q (.ref p) (upd H p (.tup (xs++c))))
theorem Vals.oN{xs:List V}{us:List IQ}(r:Vals xs us):us=[]↔xs=[]:=by
 cases r with
 |nil=>simp
 |cons _ _=>simp
theorem Au:NN X (KZ .Add) (Fj X.K):=by intro MP s σ H x y v u Q I i j h;obtain⟨a,b,xs,k,rfl,rfl,l,m,n,f,p,r⟩:=h;cases i;cases j;obtain⟨t,d,A,_⟩:=I.tuple l;obtain⟨g,c,p2,_⟩:=I.tuple m;refine HT.BD A p2 (fun z=>n (d.oN.mp z)) (fun z=>⟨.ref a,H,I,rfl,p (c.oN.mp z)⟩) (fun z=>?_) (by rw[<-d.length,<-c.length];exact f);refine⟨.ref s.heap.objs.size,_,I.laid (t':=s.toks) (o:=.tup (xs++k)) (fun b B q=>J0 _ q) (IX _) ?_,rfl,r (fun w=>z (c.oN.mpr w)) _ (I.hok.fresh (IX _))⟩;exact⟨by rw[Kc];exact f,_,d.append c,IsTup.new _ _,Qy.new _ _⟩
end
def ixN(n:Nat)(i:Int):Option Nat:=if 0<=i then(if i<n then MA i.toNat else MB)else if -(n:Int)<=i then MA (i+n).toNat else MB
def atI{a:Type}(xs:List a)(i:Int):Option a:=(ixN xs.length i).bind fun j=>xs[j]?
theorem um{n:Nat}{i:Int}{j:Nat}(h:ixN n i=MA j):seqIndex? i n=MA j/\j<n/\-(n:Int)<=i/\i<n:=by
 unfold ixN at h;by_cases b:0<=i
 ·rw[MF b]at h;by_cases a:i<n
  ·rw[MF a]at h;have e:i.toNat=j:=Option.some.inj h;exact⟨by rw[seqIndex_of b a,e],(),(),a⟩
  ·rw[ME a]at h;cases h
 ·rw[ME b]at h;by_cases a:-(n:Int)<=i
  ·rw[MF a]at h;have e:(i+n).toNat=j:=Option.some.inj h;exact⟨by rw[seqIndex_neg () a,e],(),a,()⟩
  ·rw[ME a]at h;cases h
theorem oC{a:Type}{xs:List a}{i:Int}{v:a}(h:atI xs i=MA v):∃j,seqIndex? i xs.length=MA j/\xs[j]?=MA v/\j<xs.length/\-(xs.length:Int)<=i/\i<xs.length:=by
 unfold atI at h;cases e:ixN xs.length i with
 |none=>rw[e]at h;cases h
 |some j=>
  rw[e]at h
  obtain⟨b,c,d,f⟩:=um e
  exact⟨j,b,h,c,d,f⟩
theorem bY{a:Type}{xs:List a}{j:Nat}{v:a}(h:xs[j]?=MA v):atI xs (j:Int)=MA v:=by
 have b:j<xs.length:=(J1.mp h).1;have e:ixN xs.length (j:Int)=MA j:=by unfold ixN;rw[MF (),MF ()];simp
 unfold atI;rw[e];exact h
def oB(b:Expr):Prop:=∀o i,subscripted b MD o i=operate [o,i] (getItem o i)
def PY(X:Cx)(r:R2):Prop:=
 ∀(b a:Expr) (MP:List (Addr×Obj)) (s:IT) (σ:St) (H:Hp) (x y:V) (v u:IQ) (Q:VK),Inv X MP σ H s->RelV x v->RelV y u->r x y H Q->
  subscripted a MD v u=operate [v,u] (getItem v u)->J3 (Jh X.prog X.w) X.A (subscriptTail b a v u) (EP X MP σ Q) X.xe s
def VR(X:Cx)(id:String)(r:V->List V->Hp->VK->Prop):Prop:=
 ∀(MP:List (Addr×Obj)) (s:IT) (σ:St) (H:Hp) (x:V) (xs:List V) (v:IQ) (us:List IQ) (Q:VK),Inv X MP σ H s->RelV x v->Vals xs us->r x xs H Q->
  J3 (Jh X.prog X.w) X.A (call (.builtin id) (v::us)) (EP X MP σ Q) X.xe s
section
variable{X:Cx}{a b:Expr}{ta tb:TE}{pos:Pos}
theorem PY.or{r e:R2}(h:PY X r)(h':PY X e):PY X (fun x y H Q=>r x y H Q\/e x y H Q):=by
 intro c d MP s σ H x y v u Q I f g q i;rcases q with q|q
 ·exact h c d MP s σ H x y v u Q I f g q i
 ·exact h' c d MP s σ H x y v u Q I f g q i
theorem Fx{r:R2}(c:PY X r)(d:PE X a ta)(e:PE X b tb)(f:oB b):PE X (.Subscript a b pos) (Ra r ta tb):=by intro MP s σ H Q I h;exact Subscript_ (Dw d e I h fun v u g x y i j k l q=>c a b MP g σ i x y v u Q j k l q (f _ _))
def Fm(K:I0):R2:=fun x y H Q=>∃p xs i v,x=.ref p/\y=.int i/\Mx K H p xs/\atI xs i=MA v/\Q v H
def FU(K:I0):R2:=fun x y H Q=>∃p xs i v,x=.ref p/\y=.int i/\Mz K H p xs/\atI xs i=MA v/\Q v H
def E8:R2:=fun x y H Q=>∃z i c,x=.str z/\y=.int i/\z.length<=J8/\atI z.cps.toList i=MA c/\Q (.str ⟨#[c]⟩) H
theorem Bo:PY X (Fm X.K):=by
 intro e f MP s σ H x y v u Q I B C h n;obtain⟨p,xs,i,z,rfl,rfl,D,E,q⟩:=h;cases B;obtain⟨t,rfl⟩:=C;obtain⟨g,r,k,N⟩:=I.list D;obtain⟨j,d,F,O,G,J⟩:=oC E;obtain⟨w,o,l⟩:=r.get F;have L:=r.length;have P:=jU;have c:EP X MP σ Q w s:=⟨z,H,I,l,q⟩;by_cases A:0<=i
 ·have m:i.toNat=j:=by rw[seqIndex_of A J]at d;exact Option.some.inj d
  exact item_listR k.isList A () (by rw[m];simpa using o) c n
 ·have m:(i+(g.toArray.size:Int)).toNat=j:=by rw[seqIndex_neg () G]at d;rw[Ja,<-L];exact Option.some.inj d
  exact subscriptTail_builtinR (x:=w) k.isList.typeIs slot_list_getitem.lookup (wpAny_getItem_list_neg (Q:=fun r M=>r=w/\EP X MP σ Q r M) k.isList () (by rw[Ja]<;>omega) () (by rw[m];simpa using o) ⟨rfl,c⟩) n
theorem Er:PY X (FU X.K):=by intro c d MP s σ H x y v u Q I k l h m;obtain⟨p,xs,i,z,rfl,rfl,n,o,q⟩:=h;cases k;obtain⟨t,rfl⟩:=l;obtain⟨A,r,g,G⟩:=I.tuple n;obtain⟨j,B,C,J,L,M⟩:=oC o;obtain⟨w,D,e⟩:=r.get C;have E:=r.length;have N:=jU;have f:EP X MP σ Q w s:=⟨z,H,I,e,q⟩;exact subscriptTail_builtinR (x:=w) g.typeIs slot_tuple_getitem.lookup (getItem_tuple (j:=j) (Q:=fun r F=>r=w/\EP X MP σ Q r F) g () () (by rw[Ja,<-E];exact B) (by simpa using D) ⟨rfl,f⟩) m
theorem Dm:PY X E8:=by
 intro d e MP s σ H x y v u Q I g k h l;obtain⟨z,i,c,rfl,rfl,w,m,q⟩:=h;obtain⟨t,rfl⟩:=g;obtain⟨A,rfl⟩:=k;obtain⟨j,f,n,B,o,p⟩:=oC m;have r:z.cps.toList.length=z.length:=by simp[Str.length]
 rw[r]at f o p;have C:=jU
 exact tail_any (typeIs_str s z t) slot_str_getitem.lookup (getItem_str (c:=c) (by
  have e1:decide (i < -(2^63:Int))=MD:=MG ()
  have e2:decide (i≥2^63)=MD:=MG ()
  rw[e1,e2,Bool.or_false]) (by rw[f];simpa using n) ⟨.str ⟨#[c]⟩,H,I.tok _,⟨_,rfl⟩,q⟩) l
def XW(K:I0):R2:=fun x y H Q=>Fm K x y H Q\/FU K x y H Q\/E8 x y H Q
theorem CT:PY X (XW X.K):=Bo.or (Er.or Dm)
theorem sD(c:List IQ)(n j:Nat)(u:IQ):Obj.mapSeq (·.setIfInBounds j u) { cls:=.type "list",data:=.seq c.toArray n }={ cls:=.type "list",data:=.seq (c.set j u).toArray n }:=by simp[Obj.mapSeq]
theorem Inv.lst{MP:List (Addr×Obj)}{σ:St}{H:Hp}{s:IT}{p:Addr}{xs:List V}(I:Inv X MP σ H s)(h:H p=MA (.lst xs)) : ∃(c:List IQ) (n:Nat),Vals xs c/\s.heap.get? p=MA { cls:=.type "list",data:=.seq c.toArray n }/\xs.length<=J8:=by obtain⟨z,c,n,r,e⟩:=I.hok p _ h;exact⟨c,n,r,e,z⟩
theorem Inv.EY{MP:List (Addr×Obj)}{σ:St}{H:Hp}{s:IT}{p:Addr}{xs d:List V}{c its':List IQ}{n g:Nat}{f:Obj->Obj}(I:Inv X MP σ H s)(h:H p=MA (.lst xs))
 (i:s.heap.get? p=MA { cls:=.type "list",data:=.seq c.toArray n }) (hf:f { cls:=.type "list",data:=.seq c.toArray n }={ cls:=.type "list",data:=.seq its'.toArray g }) (r:Vals d its') (hz:d.length<=J8) (t:Nat) :
 Inv X MP σ (upd H p (.lst d)) { s with heap:=s.heap.update p f,toks:=t }:=by
 have e:(s.heap.update p f).get? p=MA { cls:=.type "list",data:=.seq its'.toArray g }:=by
  rw[Ky f i (by rw[hf]<;>rfl),hf]
 refine I.write (x:=p) (e:=p) (by rw[h];trivial) (.inl rfl) (fun b u j q=>(JP _ _ (Ne.symm j)).trans q) ⟨_,e⟩ ?_
 exact⟨hz,its',g,r,e⟩
def Fd:V->V->V->Hp->(Hp->Prop)->Prop:=fun o i v H Q=>∃p xs k j,o=.ref p/\i=.int k/\H p=MA (.lst xs)/\ixN xs.length k=MA j/\Q (upd H p (.lst (xs.set j v)))
theorem set_list:Gp X Fd:=by
 intro MP s σ H o i v E F u Q I z A B h;obtain⟨p,xs,k,j,rfl,rfl,l,C,q⟩:=h;cases z;obtain⟨t,rfl⟩:=A;obtain⟨c,n,r,e,D⟩:=I.lst l;obtain⟨d,G,m,w⟩:=um C;have f:=r.length;have J:=jU;have x:Inv X MP σ (upd H p (.lst (xs.set j v))) { s with heap:=s.heap.update p (Obj.mapSeq (·.setIfInBounds j u)) }:=I.EY l e (sD c n j u) (r.set B j) (by rw[List.length_set];exact D) s.toks;by_cases y:0<=k
 ·have g:k.toNat=j:=by rw[seqIndex_of y w]at d;exact Option.some.inj d
  exact PySem.W.ki_setAt e y () (by rw[Ja,<-f];exact w) (by rw[g];exact⟨_,x,q⟩)
 ·have g:(k+(c.toArray.size:Int)).toNat=j:=by rw[seqIndex_neg () m]at d;rw[Ja,<-f];exact Option.some.inj d
  exact PySem.W.ki_setBack e () (by rw[Ja,<-f];exact m) () (by rw[g];exact⟨_,x,q⟩)
theorem oS(c d:Option Int)(n:Nat):(sliceBounds c d MB n).1=((HT.sIx n 0 c:Nat):Int)/\(sliceBounds c d MB n).2.1=((HT.sIx n n d:Nat):Int)/\(sliceBounds c d MB n).2.2=1:=by
 refine⟨?_,?_,rfl⟩
 ·cases c with
  |none=>simp[sliceBounds,HT.sIx]
  |some i=>
   simp only[sliceBounds,HT.sIx,Option.getD_none,show(1:Int)>0 by decide,if_true]
   by_cases h:i<0
   ·simp only[h,if_true]<;>omega
   ·simp only[h,if_false]<;>omega
 ·cases d with
  |none=>simp[sliceBounds,HT.sIx]
  |some i=>
   simp only[sliceBounds,HT.sIx,Option.getD_none,show(1:Int)>0 by decide,if_true]
   by_cases h:i<0
   ·simp only[h,if_true]<;>omega
   ·simp only[h,if_false]<;>omega
theorem nv(c:List IQ)(d e:Option Int):slicePick c.toArray d e MB=((c.drop (HT.sIx c.length 0 d)).take (HT.sIx c.length c.length e-HT.sIx c.length 0 d)).toArray:=by obtain⟨f,g,h⟩:=oS d e c.toArray.size;unfold slicePick;rw[f,g,h];simp only[sliceRange_one,pick_run,Ja]<;>rfl
def IH(K:I0):V->Option Int->Option Int->Hp->VK->Prop:=fun x c d H Q=>∃a xs,x=.ref a/\Mx K H a xs/\∀p,H p=MB->Q (.ref p) (upd H p (.lst (rB xs c d)))
theorem AW:RG X (IH X.K):=by intro MP s σ H x v vl p d e t Q I g i j k h;obtain⟨a,xs,rfl,l,q⟩:=h;cases g;obtain⟨m,r,f,n⟩:=I.list l;have c:=r.length;refine⟨"list",_,slot_list_getitem.lookup,f.isList.typeIs,?_⟩;refine wpAny_getItem_list_slice f.isList i j k .none (by simp) ?_ (by rw[Ja]<;>omega);rw[nv,<-c];refine⟨.ref s.heap.objs.size,_,I.laid (t':=s.toks) (o:=.lst (rB xs d e)) (fun b u q=>J0 _ q) (IX _) ?_,rfl,q _ (I.hok.fresh (IX _))⟩;exact⟨K3 (jX xs d e) n,_,0,(r.drop (HT.sIx xs.length 0 d)).take (HT.sIx xs.length xs.length e-HT.sIx xs.length 0 d),J7 _ rfl⟩
theorem pB:cw X (.builtin "len") (fun xs H Q=>∃p d,xs=[.ref p]/\(Mx X.K H p d\/Mz X.K H p d)/\Q (.int d.length) H):=by
 intro MP s σ H xs us Q I r h;obtain⟨p,d,rfl,e,q⟩:=h;obtain⟨u,rfl,j⟩:=vals1 r;cases j;have l:=jU;rcases e with e|e
 ·obtain⟨f,g,i,k⟩:=I.list e;have c:=g.length;exact Calls.call_len_list i.isList (by simp only[Ja]<;>omega) ⟨.int d.length,H,I.tok _,⟨s.toks+1,by rw[Ja,c]⟩,q⟩
 ·obtain⟨f,g,i,k⟩:=I.tuple e;have c:=g.length;exact len_tuple i (by simp only[Ja]<;>omega) ⟨.int d.length,H,I.tok _,⟨s.toks+1,by rw[Ja,c]⟩,q⟩
theorem cw.or{f:IQ}{r c:List V->Hp->VK->Prop}(h:cw X f r)(h':cw X f c):cw X f (fun xs H Q=>r xs H Q\/c xs H Q):=by
 intro MP s σ H xs us Q I d q;rcases q with q|q
 ·exact h MP s σ H xs us Q I d q
 ·exact h' MP s σ H xs us Q I d q
theorem ph:cw X (.type "list") (fun xs H Q=>∃p f,xs=[.ref p]/\(Mx X.K H p f\/Mz X.K H p f)/\∀l,H l=MB->Q (.ref l) (upd H l (.lst f))):=by
 intro MP s σ H xs us Q I r h;obtain⟨p,f,rfl,j,q⟩:=h;obtain⟨u,rfl,A⟩:=vals1 r;cases A;have k:∀(c:List IQ),Vals f c->f.length<=J8->∀(d:Heap) (g:Nat),(∀b z,s.heap.get? b=MA z->d.get? b=MA z)->d.get? s.heap.objs.size=MA { cls:=.type "list",dict:=MB,data:=.seq c.toArray g,slots:=#[] }->EP X MP σ Q (.ref s.heap.objs.size) { s with heap:=d }:=fun c i m d g kp e=>⟨.ref s.heap.objs.size,_,I.laid (t':=s.toks) kp (IX _) (show cQ X.prog X.w _ d _ (.lst f)from⟨m,c,g,i,e⟩),rfl,q _ (I.hok.fresh (IX _))⟩;rcases j with j|j
 ·obtain⟨c,i,v,m⟩:=I.list j;have t:=i.length;obtain⟨o,x,y,n,hd⟩:=v.isList;exact call_list_seq p (.inl rfl) x y hd (fun d g kp e=>k c i m d g kp e) (by simp only[Ja]<;>omega)
 ·obtain⟨c,i,v,m⟩:=I.tuple j;have t:=i.length;obtain⟨o,x,y,n,hd⟩:=v;exact call_list_seq p (.inr rfl) x y hd (fun d g kp e=>k c i m d g kp e) (by simp only[Ja]<;>omega)
theorem mQ:cw X (.type "tuple") (fun xs H Q=>∃p d,xs=[.ref p]/\((Mx X.K H p d/\∀l,H l=MB->Q (.ref l) (upd H l (.tup d)))\/(Mz X.K H p d/\Q (.ref p) H))):=by
 intro MP s σ H xs us Q I r h;obtain⟨p,d,rfl,h⟩:=h;obtain⟨u,rfl,t⟩:=vals1 r;cases t;rcases h with⟨g,q⟩|⟨g,q⟩
 ·obtain⟨c,i,j,k⟩:=I.list g;have m:=i.length;refine call_tuple_list j.isList (fun f kp=>?_) (by simp only[Ja]<;>omega);have n:Inv X MP σ H { s with heap:=f }:=I.kept (t':=s.toks) kp;have v:Inv X MP σ (upd H f.objs.size (.tup d)) { s with heap:=f.push { cls:=.type "tuple",data:=.seq c.toArray } }:=n.laid (t':=s.toks) (fun b o e=>J0 _ e) (IX _) (show cQ X.prog X.w _ _ _ (.tup d)from⟨k,c,i,IsTup.new _ _,Qy.new _ _⟩);exact⟨.ref f.objs.size,_,v,rfl,q _ (n.hok.fresh (IX _))⟩
 ·obtain⟨c,i,j,k⟩:=I.tuple g;exact call_tuple_same j ⟨.ref p,H,I,rfl,q⟩
def VW(K:I0)(T:String)(x:V)(H:Hp):Prop:=match x with
 |.str _=>T="str"
 |.int _=>T="int"
 |.ref p=>(T="list"/\∃xs,Mx K H p xs)\/(T="tuple"/\∃o,K.lookup p=MA o/\o.cls=.type "tuple"/\o.dict=MB)\/
  (T="dict"/\((∃kvs,H p=MA (.dK kvs))\/∃kvs,H p=MA (.dT kvs)))\/(T="set"/\∃S n,H p=MA (.set S n))
 |_=>False
theorem zE{MP:List (Addr×Obj)}{σ:St}{H:Hp}{s:IT}{T:String}{x:V}{v:IQ}(I:Inv X MP σ H s)(r:RelV x v)(ty:VW X.K T x H) : s.TypeIs v T/\∀a,v=.ref a->∃f,s.heap.get? a=MA f/\f.dict=MB:=by
 cases x with
 |str z=>
  obtain⟨t,rfl⟩:=r
  cases (show T="str" from ty)
  exact⟨typeIs_str s z t,fun _ e=>nomatch e⟩
 |int i=>
  obtain⟨t,rfl⟩:=r
  cases (show T="int" from ty)
  exact⟨typeIs_int s i t,fun _ e=>nomatch e⟩
 |ref p=>
  cases r
  rcases ty with⟨rfl,xs,h⟩|⟨rfl,o,d,j,hd⟩|⟨rfl,d⟩|⟨rfl,S,n,d⟩
  ·obtain⟨k,_,g,_⟩:=I.list h;refine⟨g.isList.typeIs,fun a e=>?_⟩;cases e;obtain⟨o,n,e,c,hd,_⟩:=g;exact⟨o,e,hd⟩
  ·refine⟨⟨o,I.kIn p o d,j⟩,fun a e=>?_⟩;cases e;exact⟨o,I.kIn _ o d,hd⟩
  ·have z:∃o,s.heap.get? p=MA o/\o.ExactDict:=by
    rcases d with⟨kvs,d⟩|⟨kvs,d⟩
    ·obtain⟨_,_,_,_,o,_,_,e,ex,_⟩:=I.hok p _ d;exact⟨o,e,ex⟩
    ·obtain⟨_,_,_,_,o,_,_,e,ex,_⟩:=I.hok p _ d;exact⟨o,e,ex⟩
   obtain⟨o,e,ex⟩:=z;refine⟨⟨o,e,ex.1⟩,fun a e2=>?_⟩;cases e2;exact⟨o,e,ex.2.1⟩
  ·obtain⟨o,_,_,_,e,ex,_⟩:=I.hok p _ d;refine⟨⟨o,e,ex.1⟩,fun a e2=>?_⟩;cases e2;exact⟨o,e,ex.2.1⟩
 |_=>exact Jq ty
def Iu(K:I0)(T:String)(r:V->List V->Hp->VK->Prop)(c:TE):TE:=fun σ H Q=>c σ H fun x H1=>VW K T x H1/\r x [] H1 Q
def Xq(K:I0)(T:String)(r:V->List V->Hp->VK->Prop)(c:TE)(t:TA):TE:=fun σ H Q=>c σ H fun x H1=>VW K T x H1/\t σ H1 fun xs d=>r x xs d Q
variable{o e:Expr}{es:List Expr}{to:TE}{t:TA}{name:Str}{apos ba:Pos}{T id:String}{r:V->List V->Hp->VK->Prop}
theorem Dn(k:PlainAttrs T)(slot:Slot T name id)(g:typeOf (.builtin id)=pure (.type "method_descriptor"))(l:VR X id r)(m:PE X o to) (d:L7 o name X.env (eval o X.env)=eval o X.env:=by rfl) (f:(apos.endLine==ba.line)=MC:=by rfl):PE X (.Call (.Attribute o name apos) [] [] ba) (Iu X.K T r to):=by intro MP s σ H Q I h;refine wpAny_Call_method0_late d f (Mp (m MP s σ H _ I h) fun v n c=>?_);obtain⟨x,H1,i,j,ty,p⟩:=c;obtain⟨q,u⟩:=zE i j ty;exact⟨T,id,k,slot,g,q,u,Calls.callWith_builtin rfl (PySem.evalArgs_none (l MP n σ H1 x [] v [] Q i j .nil p))⟩
theorem yZ(p:PlainAttrs T)(slot:Slot T name id)(k:typeOf (.builtin id)=pure (.type "method_descriptor"))(q:VR X id r)(u:PE X o to)(w:PA X (e::es) t)
 (g:L7 o name X.env (eval o X.env)=eval o X.env:=by rfl)
 (j:((Ks ba (Jd (e::es) X.env)).all (fun x=>!x.1)&&(backToKw ba (Lp [] X.env)).all (fun x=>x.1.isSome)
  && decide ((e::es).length+([]:List LW).length+(if([]:List LW).isEmpty then 0 else 1)<30))=MC:=by rfl)
 (i:(apos.endLine==ba.line)=MC:=by rfl) (y:Jd (e::es) X.env=(MD,eval e X.env)::Jd es X.env:=by rfl) (c:(Ks ba (Jd es X.env)).any (·.1)=MD:=by rfl) :
 PE X (.Call (.Attribute o name apos) (e::es) [] ba) (Xq X.K T r to t):=by
 intro MP s σ H Q I h
 refine wpAny_Call_method_late g j i rfl (Mp (u MP s σ H _ I h) fun v z d=>?_)
 obtain⟨x,H1,l,m,ty,A⟩:=d
 obtain⟨B,C⟩:=zE l m ty
 refine⟨T,id,p,slot,k,B,C,?_⟩
 have n:=w ba MP z σ H1 _ l A
 rw[y]at n ⊢
 refine Calls.callWith_builtin (by show(MD||(Ks ba (Jd es X.env)).any (·.1))=MD;rw[c]<;>rfl) (Calls.evalArgs_plain ?_)
 exact Mp n fun us D f=>by obtain⟨vs,E,F,G,J⟩:=f;exact(q MP D σ E x vs v us Q F m G J)
/- xs.append(e),list.index on a module's tuple .. are VR facts of 06m -/
end
def VS(X:Cx)(id:String)(r:V->List V->Hp->VK->Prop):Prop:=
 ∀(MP:List (Addr×Obj)) (s:IT) (σ:St) (H:Hp) (x:V) (xs:List V) (v:IQ) (us:List IQ) (Q:VK),Inv X MP σ H s->RelV x v->Vals xs us->r x xs H Q->
  J3 (Jh X.prog X.w) X.A (call (.builtin id) (v::us)) (EP X MP σ Q) X.xe s
theorem Vals.one:∀{x:V} {us:List IQ},Vals [x] us->∃u,us=[u]/\RelV x u:=by
 intro x us h;cases h with
 |cons r t=>cases t;exact⟨_,rfl,r⟩
theorem Vals.two:∀{x y:V} {us:List IQ},Vals [x,y] us->∃u v,us=[u,v]/\RelV x u/\RelV y v:=by
 intro x y us h;cases h with
 |cons r t=>
  cases t with
  |cons q n=>cases n;exact⟨_,_,rfl,r,q⟩
theorem Vals.zero:∀{us:List IQ},Vals [] us->us=[]
 |_,.nil=>rfl
theorem Vals.reverse{xs:List V}{us:List IQ}(h:Vals xs us):Vals xs.reverse us.reverse:=by
 induction h with
 |nil=>exact .nil
 |cons r t a=>rw[List.reverse_cons,List.reverse_cons];exact Vals.append a (.cons r .nil)
theorem Vals.rep{xs:List V}{us:List IQ}(h:Vals xs us):∀k:Nat,Vals (Jk k xs).flatten (Jk k us).flatten
 |0=>.nil
 |k+1=>by
  rw[Kv,Kv,KQ,KQ]
  exact Vals.append h (Vals.rep h k)
theorem foldl_rep(a:List IQ):∀(k:Nat) (b:List IQ),
 List.foldl (fun x1 c=>x1++c) b.toArray (Jk k a.toArray)=(b++(Jk k a).flatten).toArray
 |0,b=>by simp
 |k+1,b=>by
  have e:b.toArray++a.toArray=(b++a).toArray:=by simp
  have e2:(b++a)++(Jk k a).flatten=b++(Jk (k+1) a).flatten:=by
   rw[Kv,KQ,Kk]
  rw[<-e2,<-foldl_rep a k (b++a),<-e,Kv,Lh]
section
variable{X:Cx}{MP:List (Addr×Obj)}{σ:St}{H:Hp}{s:IT}{l b:Addr}{xs ys zs:List V}
theorem Inv.C0{a its':List IQ}{n:Nat}{f:Array IQ->Array IQ}{t':Nat}(I:Inv X MP σ H s)(c:H l=MA (.lst xs))
 (e:s.heap.get? l=MA { cls:=.type "list",data:=.seq a.toArray n }) (hf:f a.toArray=its'.toArray) (d:Vals ys its') (hz:ys.length<=J8) :
 Inv X MP σ (upd H l (.lst ys)) { s with heap:=s.heap.update l (Obj.mapSeq f),toks:=t' }:=by
 have q:=PySem.IsL.update e f
 rw[hf]at q
 refine I.write (x:=l) (e:=l) (by rw[c];exact trivial) (.inl rfl) (fun i u g h=>(JP s.heap (Obj.mapSeq f) (Ne.symm g)).trans h) ⟨_,q⟩ ?_
 exact⟨hz,its',_,d,q⟩
theorem Inv.Fn{a:List IQ}{t':Nat}(I:Inv X MP σ H s)(c:Vals ys a)(hz:ys.length<=J8) : Inv X MP σ (upd H s.heap.objs.size (.lst ys)) { s with heap:=s.heap.push { cls:=.type "list",data:=.seq a.toArray },toks:=t' }:=I.laid (fun _ _ q=>J0 _ q) (IX _) ⟨hz,a,0,c,J7 _ rfl⟩
theorem Inv.fresh(I:Inv X MP σ H s):H s.heap.objs.size=MB:=I.hok.fresh (IX _)
theorem Inv.mR(I:Inv X MP σ H s)(c:H l=MA (.lst xs)):xs.length<=J8/\∃(a:List IQ) (n:Nat),Vals xs a/\xs.length=a.length/\s.heap.get? l=MA { cls:=.type "list",data:=.seq a.toArray n }:=by obtain⟨z,a,n,r,e⟩:=I.hok l _ c;exact⟨z,a,n,r,r.length,e⟩
theorem yf{n:Nat}(h:n<=J8):Builtin.List.listTooLong n=MD:=by unfold Builtin.List.listTooLong;exact MG ()
end
section
variable{X:Cx}
def AB:V->List V->Hp->VK->Prop:=fun x vs H Q=>∃l xs y,x=.ref l/\vs=[y]/\H l=MA (.lst xs)/\xs.length<J8/\Q .non (upd H l (.lst (xs++[y])))
theorem jI:VS X "list.append" AB:=by intro MP s σ H x vs v us Q I c d h;obtain⟨l,xs,y,rfl,rfl,b,g,q⟩:=h;cases c;obtain⟨u,rfl,f⟩:=d.one;obtain⟨z,a,n,r,i,e⟩:=I.mR b;refine call_meets F.slot_list_append ⟨_,e,rfl⟩ F.entry_list_append (F.args_list_append_2 _ _) (PySem.list_append l a.toArray n u (by rw[Ja];omega)) ⟨e,?_⟩;refine⟨.non,_,I.C0 (its':=a++[u]) b e (by simp) (r.append (.cons f .nil)) ?_,rfl,q⟩;rw[Kc,List.length_singleton];omega
def yw:V->List V->Hp->VK->Prop:=fun x vs H Q=>∃l xs,x=.ref l/\vs=[]/\H l=MA (.lst xs)/\Q .non (upd H l (.lst xs.reverse))
theorem rY:VS X "list.reverse" yw:=by intro MP s σ H x vs v us Q I d f h;obtain⟨l,xs,rfl,rfl,c,q⟩:=h;cases d;have b:=f.zero;subst b;obtain⟨z,a,n,r,g,e⟩:=I.mR c;refine call_meets F.slot_list_reverse ⟨_,e,rfl⟩ F.entry_list_reverse (F.args_list_reverse_1 _) (AutoSeq1.list_reverse_list_0 l a.toArray n (by rw[Ja];omega)) ⟨e,?_⟩;refine⟨.non,_,I.C0 (its':=a.reverse) c e (by simp) r.reverse ?_,rfl,q⟩;rw[List.length_reverse];omega
def Ht:R2:=fun x y H Q=>∃l b xs a,x=.ref l/\y=.ref b/\H l=MA (.lst xs)/\H b=MA (.lst a)/\xs.length+a.length<=J8/\∀p,H p=MB->Q (.ref p) (upd H p (.lst (xs++a)))
theorem D8:NN X (KZ .Add) Ht:=by
 intro MP s σ H x y v u Q I d f h;obtain⟨l,b,xs,o,rfl,rfl,g,i,p,q⟩:=h;cases d;cases f;obtain⟨z,c,n,r,t,e⟩:=I.mR g;obtain⟨w,a,A,j,k,e2⟩:=I.mR i;refine PySem.P.add_list e e2 ?_ (by rw[Ja,Ja];omega);have m:c.toArray++a.toArray=(c++a).toArray:=by simp
 rw[m];exact⟨.ref _,_,I.Fn (t':=s.toks) (r.append j) (by rw[Kc];omega),rfl,q _ I.fresh⟩
def Iw:R2:=fun x y H Q=>∃l k xs,x=.ref l/\y=.int k/\H l=MA (.lst xs)/\-(2^63)<=k/\k<2^63/\xs.length*k.toNat<=J8/\
 ∀p,H p=MB->Q (.ref p) (upd H p (.lst (Jk k.toNat xs).flatten))
theorem len_rep{a:Type}(xs:List a)(k:Nat):(Jk k xs).flatten.length=k*xs.length:=by
 induction k with
 |zero=>simp
 |succ k b=>rw[Kv,KQ,Kc,b,Nat.succ_mul,Nat.add_comm]
theorem Ed:NN X (KZ .Mult) Iw:=by
 intro MP s σ H x y v u Q I p w h;obtain⟨l,k,xs,rfl,rfl,A,B,C,o,q⟩:=h;cases p;obtain⟨t,rfl⟩:=w;obtain⟨z,b,n,r,D,e⟩:=I.mR A;have d:b.toArray.size*k.toNat<=J8:=by rw[Ja,<-D];exact o
 have f:¬b.toArray.size*k.toNat>(2^63-1)/8:=by
  have:(J8:Nat)<=(2^63-1)/8:=⋯
  omega
 have g:¬(!Builtin.List.listFitsIndex k)=MC:=by rw[fitsIndex_both B C];exact Jf
 have c:¬Builtin.List.listTooLong (b.toArray.size*k.toNat)=MC:=by rw[yf d];exact Jf
 have i:List.foldl (fun x1 j=>x1++j) #[] (Jk (if b.toArray.isEmpty=MC then 0 else k.toNat) b.toArray)=(Jk k.toNat b).flatten.toArray:=by
  have E:∀m:Nat,List.foldl (fun x1 j=>x1++j) #[] (Jk m b.toArray)=(Jk m b).flatten.toArray:=fun m=>by
   have:=foldl_rep b m []
   rw[List.nil_append]at this
   exact this
  rw[E]
  cases b with
  |nil=>simp
  |cons a J=>rw[ME (by simp)]
 refine wpAny_binaryOp_repeat_ref (T:="list") (U:="int") ⋯ ⟨_,e,rfl⟩ (fun G=>typeIs_int G k t) noFill_list_mul F.fills_int_mul F.slot_int_rmul repeat_list F.slot_int_index.lookup
  (call_meets F.slot_int_rmul (typeIs_int s k t) F.entry_int_rmul (F.args_int_rmul_2 _ _) (int___rmul___int_list k t l b.toArray n)
   ⟨e,rfl,⟨_,e,rfl⟩,call_meets F.slot_list_mul ⟨_,e,rfl⟩ F.entry_list_mul (F.args_list_mul_2 _ _) (AutoListH.list___mul___list_int_3 l b.toArray n k t g f c) ⟨e,?_⟩⟩)
 rw[i];exact⟨.ref _,_,I.Fn (t':=s.toks) (r.rep k.toNat) (by rw[len_rep,Nat.mul_comm];exact o),rfl,q _ I.fresh⟩
end
end L2
namespace Att
open PySem PySem.W PySem.Calls PyProof.Rows
theorem km{P:Jw}{h:Heap}:∀(ns:List Int) (vs:List IQ),WellAll P h vs (ns.map WData.int)->Kw vs ns:=by
 intro ns
 induction ns with
 |nil=>
  intro vs w
  rw[Ki]at w
  cases w
  exact .nil
 |cons n ns c=>
  intro vs w
  rw[IY]at w
  cases w with
  |cons a b=>
   cases a
   exact .cons _ _ (c _ b)
theorem vq{l:OpenLaw}{n:Nat}(o:l.most=MA n){P:Jw}{h:Heap}{args:List WData}{b:List IQ}
 (c:l.row.toRowW.claim.pre args=MC) (j:WellAll P h b args) :
 ∃a vs ns,b=[Km a]/\args=[WData.list (ns.map WData.int)]/\h.get? a=MA { cls:=.type "list",data:=.seq vs.toArray }/\Kw vs ns/\ns.length<=n:=by
 have k:WShape.hasAll [] args [.list .int]=MC:=(pre_splitW c).1
 have m:l.pre.holds [] { args:=args }=MC:=(pre_splitW c).2
 obtain⟨d,r,rfl,p,s⟩:=hasAllW_cons k
 obtain rfl:=hasAllW_nil s
 obtain⟨xs,rfl,t⟩:=hasW_list p
 obtain⟨ns,rfl⟩:=items_int t
 have e:ns.length<=n:=by
  unfold OpenLaw.pre at m
  have g:(WTm.not (.lt (.lit (.int (n:Int))) (.len (.arg 0)))).holds [] { args:=[.list (ns.map .int)] }=MC:=by
   have g:=(holds_andW m).1
   rw[o]at g
   exact g
  have i:=condW_of g (w_not (w_lt w_lit (w_len_list (w_arg rfl))))
  rw[IU]at i
  refine Nat.le_of_not_lt fun q=>?_
  have u:(n:Int)<((ns.length:Nat):Int):=()
  first
   |(rw[MI u]at i;exact absurd i ⋯)
   |(simp at i;omega)
 cases j with
 |cons v w=>
  cases w
  cases v with
  |list x f=>exact⟨_,_,ns,rfl,rfl,x,km ns _ f,e⟩
theorem wq(l:OpenLaw)(args:List WData):l.row.toRowW.claim.post args (.bool MC) args=MC:=
 postW_of (r:=l.row.toRowW) (X:=(MC==MC))
  (show WShape.has [] (.bool MC) .bool=MC by first|rfl|decide|simp[WShape.has,WShape.arms,WShape.armsAll])
  (show(WTm.eq .res (.lit (.bool MC))).value [] { args:=args,res:=MA (.bool MC),after:=args }=MA (.bool (MC==MC))from w_eq_bool (w_res rfl) w_lit) rfl
theorem qZ{l:OpenLaw}{n:Nat}{q:Jl}{c:List Str}{y:(Str->Option IQ)->Heap->Prop}{z:JO->Heap->Prop}{d:DefRec}
 (D:l.most=MA n) (p:d.params.defaults=[])
 (call:∀(w:JO) (s₀ b:IT) (mg s:Str->Option IQ) (fa:Addr) (o:Obj) (t k e:IQ) (a:Addr) (vs:List IQ) (ns:List Int),
  Ground q c [] y w s₀ mg s b.heap->z w b.heap->
  b.heap.get? fa=MA o->o.data=.func (docDef d.name d.params d.body d.scope t k e)->b.heap.CodeRec k d.name->mg d.name=MA (.ref fa)->
  b.heap.get? a=MA { cls:=.type "list",data:=.seq vs.toArray }->Kw vs ns->ns.length<=n->b.gens=#[]->
  Le (Jh l.prog w) callerA (.call (.ref fa) ⟨[.ref a],[]⟩) (fun r m=>r=.ok (.ret (.bool MC))/\OldK b.heap m.heap/\m.os=b.os/\AllBare m.gens) b) :
 WalkO q c y z l.row.toRowW d [] (fun f vs=>PySem.call f vs):=by
 intro w s₀ b mg s G Y fa o t k e E kV F hd u A v H args B P h C I x J
 obtain rfl:E=.none:=Dflts.none A p
 obtain rfl:kV=.none:=Dflts.noKw A
 obtain⟨a,vs,ns,rfl,rfl,i,g,j⟩:=vq D h x
 refine enter_call (codeAny_mono (call w s₀ b mg s fa o t k e a vs ns G Y F (fd_plain hd) u v i g j H) fun r m K=>?_)
 obtain⟨rfl,L,M,N⟩:=K
 exact⟨.inl ⟨.bool MC,.bool MC,[],rfl,fun _=>rfl,.bool MC,wq l _,fun _=>⟨List.Pairwise.nil,fun _ O=>(nomatch O)⟩⟩,L,M,N⟩
section
variable{prog:Jl}{w:JO}{A:JV}{E:IQ->IT->Prop}{s:IT}{K:Frag}
end
end Att
namespace L2
open PySem PySem.Spec PyProof.Rows
theorem oo:∀{vs:List IQ} {ns:List Int},Kw vs ns->Vals (ns.map V.int) vs
 |_,_,.nil=>.nil
 |_,_,.cons n t h=>.cons ⟨t,rfl⟩ (oo h)
def EZ(H:Hp):Prop:=∀b,H b=MB\/∃o xs,H b=MA (.frz o (.lst xs))
theorem yh{P:Jl}{w:JO}{K:I0}{mg L:Str->Option IQ}{CX:Q2}{k:Nat}{fa a:Addr}{fd:LY}{x:Str}{sp:Sp}{c:IT}{vs:List IQ}{ns:List Int}
 (T:K.In c.heap) (y:c.heap.Ns LH mg) (g:c.heap.Ns builtinsNs L) (M:∀x:Str,x≠"__name__"->L x=JX x) (A:c.heap.NoLimit) (hg:c.gens=#[])
 (J:c.heap.get? a=MA { cls:=.type "list",data:=.seq vs.toArray }) (U:Kw vs ns) (W:ns.length<=J8) (hr:NB k callerA)
 (F:∀base:Heap,K.In base->base.Ns LH mg->N3 P w K mg base CX k fa fd [x] sp) (t:∀(s:IT) (u:IQ),BindsTo s fd ⟨[u],[]⟩ [(x,u)])
 (N:∀H:Hp,EZ H->Mx K H a (ns.map V.int)->sp [.ref a] H (fun v _=>v=.bl MC) fun _ _ _=>False)
 (O:∀H e i,CX [] H c (fun _ _ _=>False) e i->False) :
 Le (Jh P w) callerA (.call (.ref fa) ⟨[.ref a],[]⟩) (fun r i=>r=.ok (.ret (.bool MC))/\OldK c.heap i.heap/\i.os=c.os/\AllBare i.gens) c:=by
 have X:=oo U
 have B:=U.length
 have p:∀H:Hp,EZ H->Mx K H a (ns.map V.int)->N1 P w H c.heap->(∀b,H b≠MB->b=a)->(H a≠MB->K.lookup a=MB)->
  Le (Jh P w) callerA (.call (.ref fa) ⟨[.ref a],[]⟩) (fun r i=>r=.ok (.ret (.bool MC))/\OldK c.heap i.heap/\i.os=c.os/\AllBare i.gens) c:=by
  intro H Y hS hok Z hK
  have f:∀{b:Addr} {o:Obj},c.heap.get? b=MA o->H b=MB->(oP c.heap H).get? b=MA o:=fun e n=>yd e n
  have Q:∀{b:Addr} {o:Obj} {C:Array Kf} {D:Nat},c.heap.get? b=MA o->o.data=.dict C D->H b=MB:=fun{b o C D} e d=>by
   cases q:H b with
   |none=>rfl
   |some u=>
    have R:b=a:=Z b (by rw[q];simp)
    subst R
    rw[J]at e;cases e
    have d':Data.seq vs.toArray _=Data.dict C D:=d
    cases d'
  have j:∀{b:Addr} {m:Str->Option IQ},c.heap.Ns b m->(oP c.heap H).Ns b m:=fun{b m} l=>by obtain⟨o,C,D,e,d,r⟩:=l;exact(⟨o,C,D,f e (Q e d),d,r⟩)
  have E:K.In (oP c.heap H):=fun b o e=>f (T b o e) (by
   cases q:H b with
   |none=>rfl
   |some u=>
    have R:b=a:=Z b (by rw[q];simp)
    subst R
    rw[hK (by rw[q];simp)]at e;cases e)
  have hM:Mod K mg (oP c.heap H):=⟨E,j y,⟨L,j g,M⟩,let⟨mc,h1,h2⟩:=A;⟨mc,j h1,h2⟩⟩
  have e0:Qd P w K mg (oP c.heap H) callerA [] c H:=⟨rfl,hM,fun b o e=>A3 e,Nat.le_of_eq (vI _ _),trivial,fun b g=>absurd (show b∈([]:List Addr)from g) (by simp),hok,.of_eq hg⟩
  refine codeAny_mono ((F _ E (j y)).run callerA [] c H ⟨[.ref a],[]⟩ [.ref a] [.ref a] _ _ hr e0 (t c (.ref a)) (.cons rfl .nil) (N H Y hS)) fun r i h=>?_
  cases r with
  |error e=>exact(O H e i h).elim
  |ok fl=>
   cases fl with
   |next=>exact Jq h
   |brk=>exact Jq h
   |cont=>exact Jq h
   |ret u=>
    obtain⟨v,H',os,bare,un,G,r',q⟩:=h
    have q':v=.bl MC:=q
    subst q'
    obtain rfl:u=LV MC:=r'
    refine⟨rfl,OldK.of_keep fun b o e=>?_,os,bare⟩
    cases q:H b with
    |none=>exact un.keep b o e q (by intro z;exact absurd (show b∈([]:List Addr)from z) (by simp)) (by simp)
    |some u=>
     rcases Y b with z|⟨ob,xs,z⟩
     ·rw[q]at z;cases z
     ·have z2:=un.frzs b ob _ z
      obtain⟨e1,_⟩:=hok b _ z
      obtain⟨e2,_⟩:=G b _ z2
      rw[e]at e1;cases e1
      exact e2
 cases S:K.lookup a with
 |some o=>
  have e:=T a o S
  rw[J]at e
  cases e
  refine p (fun _=>MB) (fun _=>.inl rfl) (.inr ⟨_,vs.toArray,_,S,rfl,rfl,rfl,by rw[Ja,B];exact W,by simpa using X⟩) (fun b u z=>by have I:(MB:Option HO)=MA u:=z;cases I) (fun b z=>absurd rfl z) fun z=>absurd rfl z
 |none=>
  refine p (fun b=>if b=a then MA (.frz { cls:=.type "list",data:=.seq vs.toArray } (.lst (ns.map V.int)))else MB) (fun b=>?_) (.inl (.inr ⟨{ cls:=.type "list",data:=.seq vs.toArray },MF rfl⟩)) (fun b u z=>?_) (fun b z=>?_) fun _=>S
  ·by_cases g:b=a
   ·exact .inr ⟨_,_,MF g⟩
   ·exact .inl (ME g)
  ·by_cases g:b=a
   ·have I:=(MF g).symm.trans z
    cases I
    subst g
    exact⟨J,by rw[IU];exact W,vs,_,X,J⟩
   ·have I:=(ME g).symm.trans z
    cases I
  ·by_cases g:b=a
   ·exact g
   ·exact absurd (ME g) z
abbrev KOf{K:I0}{h:Heap}(_:K.In h):I0:=K
theorem BI{l:PySem.W.OpenLaw}{n k:Nat}{q:Jl}{i:List Str}{E:(Str->Option IQ)->Heap->Prop}{C:JO->Heap->Prop}{d:DefRec}{K:Jw->I0}{CX:JO->Q2}{sp:JO->Sp}{x:Str}
 (I:l.most=MA n) (r:n<=J8) (t:d.params.defaults=[]) (J:NB k callerA)
 (L:∀(w:JO) (h:Heap),C w h->(K w.params).In h)
 (F:∀(w:JO) (mg:Str->Option IQ) (fa:Addr) (h:Heap),(K w.params).In h->h.Ns LH mg->mg d.name=MA (.ref fa)->
  ∃fd:LY,(∀(s:IT) (u:IQ),BindsTo s fd ⟨[u],[]⟩ [(x,u)])/\
   ∀base:Heap,(K w.params).In base->base.Ns LH mg->N3 l.prog w (K w.params) mg base (CX w) k fa fd [x] (sp w))
 (y:∀(w:JO) (H:Hp) (a:Addr) (ns:List Int),ns.length<=n->EZ H->Mx (K w.params) H a (ns.map V.int)->sp w [.ref a] H (fun v _=>v=.bl MC) fun _ _ _=>False)
 (z:∀(w:JO) (H:Hp) (s:IT) (e:IQ) (A:IT),CX w [] H s (fun _ _ _=>False) e A->False) :
 PySem.W.WalkO q i E C l.row.toRowW d [] (fun f vs=>PySem.call f vs):=by
 refine Att.qZ I t fun w s₀ m mg S fa o U X M a vs ns G Y Z hd N B p j c O=>?_
 have D:=L w _ Y
 obtain⟨fd,P,hF⟩:=F w mg fa _ D G.T.g B
 exact yh D G.T.g G.T.b G.T.builtins G.T.nolimit O p j (K3 c r) J hF P (fun H Q R=>y w H a ns c Q R) fun H e A=>z w H m e A
def cM(s:Stmt):Arguments:=match s with
 |.FunctionDef _ a _ _ _ _ _ _ _ _=>a
 |_=>{ posonlyargs:=[],args:=[],vararg:=MB,kwonlyargs:=[],kw_defaults:=[],kwarg:=MB,defaults:=[] }
def bE(s:Stmt):List Stmt:=match s with
 |.FunctionDef _ _ b _ _ _ _ _ _ _=>b
 |_=>[]
def ay(s:Stmt):Lr:=match s with
 |.FunctionDef _ _ _ _ _ _ sc _ _ _=>sc
 |_=>{ kind:=.function,names:=[],isGenerator:=MD,isCoroutine:=MD }
abbrev Oo:Q2:=fun _ _ _ _ _ _=>False
abbrev E0:XK:=fun _ _ _=>False
theorem Hl{X:Cx}:Passes Oo X E0:=fun _ _ _ _ _ _ _ h=>h.elim
structure RJ(K:I0)(x qual:Str)(st:Stmt)(f:Addr)(fd:LY):Prop where
 ex:∃(oc:IQ) (od:Option Addr) (kV doc pm:IQ) (an:Option Addr) (cdv ct:IQ) (osl:Array (Option IQ)),
  fd=KA x qual (cM st) (bE st) (ay st) .none kV doc pm an cdv ct/\K.lookup f=MA ⟨oc,od,.func fd,osl⟩/\PySem.W.codeIn K cdv qual=MC
 kp:PySem.W.keepIn K (.ref f)=MC
section
variable{P:Jl}{w:JO}{K:I0}{mg:Str->Option IQ}{base:Heap}
theorem RJ.ok{x qual:Str}{st:Stmt}{f:Addr}{fd:LY}{N ps:List Str}{k:Nat}{sp:Sp}(F:RJ K x qual st f fd)(S:Mk N ps (ay st))(len:∀vs H Q E,sp vs H Q E->vs.length=ps.length)
 (a:∀(cdv:IQ) (A:JV) (outer:List Env) (s:IT) (H:Hp) (vs:List V) (Q:VK) (E:XK),NB k (A.deeper (envOfC qual (ay st) s.heap.objs.size f cdv))->sp vs H Q E->
  ∃t,Om (jE Oo P w K mg base N qual (ay st) f cdv A outer s H E).nox (bE st) t/\t { nx:=fun _ d=>Q .non d,rt:=Q } (start N vs) H):N3 P w K mg base Oo (k+1) f fd ps sp:=by
 obtain⟨oc,od,kV,e,j,an,cdv,ct,osl,rfl,g,b⟩:=F.ex
 refine GB g b S len fun A outer s H vs Q E i c=>?_
 obtain⟨t,h,q⟩:=a cdv A outer s H vs Q E i c
 exact⟨t,h.nox,q⟩
theorem RJ.binds{x qual:Str}{st:Stmt}{f:Addr}{fd:LY}{ps:List Str}(F:RJ K x qual st f fd) (h:∀(kV a b:IQ) (an:Option Addr) (cdv ct:IQ) (us:List IQ),us.length=ps.length->bindArgs (KA x qual (cM st) (bE st) (ay st) .none kV a b an cdv ct) ⟨us,[]⟩=pure (ps.zip us)):Binds K fd ps []:=by obtain⟨oc,od,kV,a,b,an,cdv,ct,osl,rfl,d,c⟩:=F.ex;exact .all (h kV a b an cdv ct)
theorem D9{x qual:Str}{st:Stmt}{f:Addr}{oc:IQ}{od an:Option Addr}{osl:Array (Option IQ)}{kV a b cdv ct:IQ}(l:K.lookup f=MA ⟨oc,od,.func (KA x qual (cM st) (bE st) (ay st) .none kV a b an cdv ct),osl⟩) (c:PySem.W.codeIn K cdv qual=MC) (k:PySem.W.keepIn K (.ref f)=MC):RJ K x qual st f (KA x qual (cM st) (bE st) (ay st) .none kV a b an cdv ct):=⟨⟨oc,od,kV,a,b,an,cdv,ct,osl,rfl,l,c⟩,k⟩
end
theorem C4{A B:Prop}(h:A):if MC=MC then A else B:=by rw[MF rfl];exact h
theorem bO{c A B:Prop}[Decidable c](a:c->A)(b:¬c->B):if c then A else B:=by
 by_cases h:c
 ·rw[MF h];exact a h
 ·rw[ME h];exact b h
section
variable{κ:Type}[DecidableEq κ]
def fN(kvs:List (κ×V))(k:κ):Option V:=(kvs.find? fun a=>decide (a.1=k)).map (·.2)
def putK(kvs:List (κ×V))(k:κ)(v:V):List (κ×V):=
 if(kvs.any fun a=>decide (a.1=k))=MC then kvs.map (fun a=>if a.1=k then(a.1,v)else a)else kvs++[(k,v)]
theorem cD{p:κ×V}{r:List (κ×V)}{k:κ}(e:p.1=k):fN (p::r) k=MA p.2:=by simp[fN,Jz,e]
theorem cH{p:κ×V}{r:List (κ×V)}{k:κ}(e:¬p.1=k):fN (p::r) k=fN r k:=by simp[fN,Jz,e]
theorem eC(k:κ):∀kvs:List (κ×V),(kvs.any fun a=>decide (a.1=k))=(fN kvs k).isSome
 |[]=>rfl
 |p::r=>by
  rw[L8]
  by_cases e:p.1=k
  ·simp only[cD e,MI e,Bool.true_or,Option.isSome_some]
  ·rw[cH e,MG e,Bool.false_or];exact eC k r
theorem qI(k j:κ)(y:V):∀kvs:List (κ×V),fN (kvs.map fun a=>if a.1=k then(a.1,y)else a) j=(fN kvs j).map fun x=>if j=k then y else x
 |[]=>rfl
 |p::r=>by
  have b:=qI k j y r
  rw[IY]
  by_cases h:p.1=k
  ·rw[MF h]
   by_cases e:p.1=j
   ·rw[cD (p:=(p.1,y)) e,cD e,Option.map_some,MF (e.symm.trans h)]
   ·rw[cH (p:=(p.1,y)) e,cH e,b]
  ·rw[ME h]
   by_cases e:p.1=j
   ·rw[cD (p:=p) e,cD e,Option.map_some,ME (fun z=>h (e.trans z))]
   ·rw[cH (p:=p) e,cH e,b]
theorem ot(k j:κ)(y:V):∀kvs:List (κ×V),fN kvs k=MB->fN (kvs++[(k,y)]) j=if j=k then MA y else fN kvs j
 |[],_=>by
  by_cases e:k=j
  ·rw[MF e.symm];exact cD (p:=(k,y)) e
  ·rw[ME (fun z=>e z.symm)];exact cH (p:=(k,y)) e
 |p::r,hn=>by
  rw[List.cons_append]
  have a:¬p.1=k:=fun z=>by rw[cD z]at hn;cases hn
  rw[cH a]at hn
  have b:=ot k j y r hn
  by_cases e:p.1=j
  ·rw[cD e,cD e,ME (fun z=>a (e.trans z))]
  ·rw[cH e,cH e,b]
theorem xA(kvs:List (κ×V))(k j:κ)(y:V):fN (putK kvs k y) j=if j=k then MA y else fN kvs j:=by
 unfold putK;by_cases a:(kvs.any fun b=>decide (b.1=k))=MC
 ·rw[MF a,qI];rw[eC]at a;by_cases e:j=k
  ·obtain⟨x,c⟩:=Option.isSome_iff_exists.mp a;rw[MF e,e,c,Option.map_some,MF rfl]
  ·rw[ME e];cases fN kvs j with
   |none=>rfl
   |some x=>rw[Option.map_some,ME e]
 ·rw[ME a];refine ot k j y kvs ?_;rw[eC]at a;cases q:fN kvs k with
  |none=>rfl
  |some x=>rw[q]at a;exact(a rfl).elim
theorem gO(kvs:List (κ×V))(k:κ)(v:V):(putK kvs k v).length<=kvs.length+1:=by
 unfold putK;split
 ·rw[IU];omega
 ·rw[Kc,JI,KC];omega
theorem wC.jD{o:Option V}{u:Option IQ}(r:wC o u):o.isSome=u.isSome:=by
 cases o with
 |none=>cases u with
  |none=>rfl
  |some _=>exact(show False from r).elim
 |some _=>cases u with
  |none=>exact(show False from r).elim
  |some _=>rfl
theorem KV.val{kvs:List (κ×V)}{vs:List (κ×IQ)}(r:KV kvs vs)(k:κ):wC (fN kvs k) (valueAt vs k):=by
 unfold KV at r
 induction r with
 |nil=>exact LX
 |@cons p q ps qs h t ih=>
  obtain⟨c,d⟩:=h
  by_cases e:p.1=k
  ·have a:q.1=k:=c.symm.trans e;have b:valueAt (q::qs) k=MA q.2:=by simp[valueAt,Jz,a]
   rw[cD e,b];exact d
  ·have a:¬q.1=k:=fun z=>e (c.trans z);have b:valueAt (q::qs) k=valueAt qs k:=by simp[valueAt,Jz,a]
   rw[cH e,b];exact ih
theorem KV.any{kvs:List (κ×V)}{vs:List (κ×IQ)}(r:KV kvs vs)(k:κ):(kvs.any fun a=>decide (a.1=k))=vs.any fun a=>decide (a.1=k):=by
 unfold KV at r
 induction r with
 |nil=>rfl
 |cons h t b=>rw[L8,L8,b,h.1]
theorem KV.Cy{kvs:List (κ×V)}{vs:List (κ×IQ)}(r:KV kvs vs)(k:κ){y:V}{u:IQ}(c:RelV y u) :
 KV (kvs.map fun a=>if a.1=k then(a.1,y)else a) (vs.map fun a=>if a.1=k then(a.1,u)else a):=by
 unfold KV at r ⊢
 induction r with
 |nil=>exact .nil
 |@cons p q ps qs h t ih=>
  rw[IY,IY]
  refine .cons ?_ ih
  obtain⟨b,d⟩:=h
  by_cases e:p.1=k
  ·rw[MF e,MF (b.symm.trans e)];exact⟨b,c⟩
  ·rw[ME e,ME (fun z=>e (b.trans z))];exact⟨b,d⟩
theorem KV.put{kvs:List (κ×V)}{vs:List (κ×IQ)}(r:KV kvs vs)(k:κ){y:V}{u:IQ}(a:RelV y u):KV (putK kvs k y) (stored vs k u):=by
 unfold putK stored;rw[r.any k];by_cases e:(vs.any fun b=>decide (b.1=k))=MC
 ·rw[MF e,MF e];exact r.Cy k a
 ·rw[ME e,ME e];exact Paired.snoc r ⟨rfl,a⟩
theorem KV.length{kvs:List (κ×V)}{vs:List (κ×IQ)}(r:KV kvs vs):kvs.length=vs.length:=Paired.length r
end
theorem yH{P:Jl}{w:JO}{k:Key}{u:IQ}(r:RelV (kV k) u):(cB P w).is k u=MC:=by
 cases k with
 |inl i=>obtain⟨t,e⟩:=(show ∃t,u=Value.int i t from r);subst e;exact pT P w i t
 |inr x=>obtain⟨t,e⟩:=(show ∃t,u=Value.str x t from r);subst e;exact qa P w x t
theorem oi{P:Jl}{w:JO}:∀{ks:List Key} {us:List IQ},Vals (ks.map kV) us->ItemsAre (cB P w) ks us
 |[],_,r=>by rw[Ki]at r;cases r;exact .nil
 |k::ks,_,r=>by
  rw[IY]at r
  cases r with
  |cons h t=>exact .cons (yH h) (oi t)
abbrev KT(H:Hp):List (List Key×V)->List (List Key×Addr×IQ)->Prop:=LZ fun p q=>p.1=q.1/\H q.2.1=MA (.tup (p.1.map kV))/\RelV p.2 q.2.2
theorem KT.val{H:Hp}{kvs:List (List Key×V)}{xs:List (List Key×Addr×IQ)}(r:KT H kvs xs)(k:List Key):wC (fN kvs k) ((atKey xs k).map (·.2)):=by
 induction r with
 |nil=>exact LX
 |@cons p q ps qs h t ih=>
  obtain⟨c,_,d⟩:=h
  by_cases e:p.1=k
  ·have a:q.1=k:=c.symm.trans e;have b:atKey (q::qs) k=MA q.2:=by simp[atKey,Jz,a]
   rw[cD e,b];exact d
  ·have a:¬q.1=k:=fun z=>e (c.trans z);have b:atKey (q::qs) k=atKey qs k:=by simp[atKey,Jz,a]
   rw[cH e,b];exact ih
theorem KT.Cy{H:Hp}{kvs:List (List Key×V)}{xs:List (List Key×Addr×IQ)}(r:KT H kvs xs)(k:List Key){y:V}{u:IQ}(d:RelV y u) :
 KT H (kvs.map fun b=>if b.1=k then(b.1,y)else b) (xs.map (putAt k u)):=by
 induction r with
 |nil=>exact .nil
 |@cons p q ps qs h t ih=>
  rw[IY,IY]
  refine .cons ?_ ih
  obtain⟨a,c,f⟩:=h
  unfold putAt
  by_cases e:p.1=k
  ·rw[MF e,MF (a.symm.trans e)];exact⟨a,c,d⟩
  ·rw[ME e,ME (fun z=>e (a.trans z))];exact⟨a,c,f⟩
theorem KT.put{H:Hp}{kvs:List (List Key×V)}{xs:List (List Key×Addr×IQ)}(r:KT H kvs xs)(k:List Key){b:Addr}{y:V}{u:IQ}(c:H b=MA (.tup (k.map kV)))(a:RelV y u) :
 KT H (putK kvs k y) (storedH xs k b u):=by
 have e:(kvs.any fun d=>decide (d.1=k))=(atKey xs k).isSome:=by
  rw[eC,(r.val k).jD,Option.isSome_map]
 unfold putK storedH
 rw[e]
 by_cases q:(atKey xs k).isSome=MC
 ·rw[MF q,MF q];exact r.Cy k a
 ·rw[ME q,ME q];exact Paired.snoc r ⟨rfl,c,a⟩
theorem KT.keeps{H a:Hp}{kvs:List (List Key×V)}{xs:List (List Key×Addr×IQ)}(r:KT H kvs xs)(d:∀b c,H b=MA (.tup c)->a b=MA (.tup c)):KT a kvs xs:=Paired.Ge r fun _ _ z=>⟨z.1,d _ _ z.2.1,z.2.2⟩
section
variable{P:Jl}{w:JO}{H:Hp}{h:Heap}{a:Addr}
theorem Cg{u:HO}(ok:N1 P w H h)(e:Rd H a u):cQ P w H h a u:=e.ok ok
theorem BV{kvs:List (Key×V)}(ok:N1 P w H h)(e:Rd H a (.dK kvs)):kvs.length<=J8/\(a==KI)=MD/\∃vs,KV kvs vs/\h.DictOf (cB P w) a vs:=show cQ P w H h a (.dK kvs)from Cg ok e
theorem FN{kvs:List (Key×V)}(ok:N1 P w H h)(e:H a=MA (.dK kvs)):kvs.length<=J8/\(a==KI)=MD/\∃vs,KV kvs vs/\h.DictOf (cB P w) a vs:=BV ok (.inl e)
theorem sY{ks:List Key}(ok:N1 P w H h)(e:H a=MA (.tup (ks.map kV))):(tupleKind (cB P w)).is h ks a:=by obtain⟨_,b,r,⟨o,c,d,n,f⟩,_⟩:=(show cQ P w H h a (.tup (ks.map kV))from ok a _ e);exact⟨o,b.toArray,n,c,d,f,by simpa using oi r⟩
theorem Ce{kvs:List (List Key×V)}(ok:N1 P w H h)(e:Rd H a (.dT kvs)):kvs.length<=J8/\(a==KI)=MD/\
 ∃xs,KT H kvs xs/\h.DictOfH (tupleKind (cB P w)) a xs:=by
 obtain⟨z,y,xs,r,o,c,d,f,g,i,j,k⟩:=(show cQ P w H h a (.dT kvs)from Cg ok e)
 refine⟨z,y,xs,r,o,c,d,f,g,i,j,fun x b=>?_,k⟩
 have all:∀{l:List (List Key×V)} {m:List (List Key×Addr×IQ)},KT H l m->∀x∈m,(tupleKind (cB P w)).is h x.1 x.2.1:=by
  intro l m q
  induction q with
  |nil=>intro x b;exact nomatch b
  |@cons p q ps qs hq t ih=>
   intro x b
   rcases Jo.mp b with e|b
   ·subst e
    exact sY ok (by rw[<-hq.1];exact hq.2.1)
   ·exact ih x b
 exact all r x b
theorem Gy{kvs:List (List Key×V)}(ok:N1 P w H h)(e:H a=MA (.dT kvs)):kvs.length<=J8/\(a==KI)=MD/\∃xs,KT H kvs xs/\h.DictOfH (tupleKind (cB P w)) a xs:=Ce ok (.inl e)
end
def Eo(H:Hp)(a:Addr)(y:V)(r:Option V):Prop:=
 (∃kvs k,Rd H a (.dK kvs)/\y=kV k/\r=fN kvs k)\/∃kvs k b,Rd H a (.dT kvs)/\y=.ref b/\H b=MA (.tup (k.map kV))/\r=fN kvs k
def He(H:Hp)(a:Addr)(y v:V)(c:Hp):Prop:=
 (∃kvs k,H a=MA (.dK kvs)/\y=kV k/\kvs.length<J8/\c=upd H a (.dK (putK kvs k v)))\/
 ∃kvs k b,H a=MA (.dT kvs)/\y=.ref b/\H b=MA (.tup (k.map kV))/\kvs.length<J8/\c=upd H a (.dT (putK kvs k v))
section
variable{X:Cx}{MP:List (Addr×Obj)}{σ:St}{H:Hp}{s:IT}{a:Addr}{y v:V}{u r:IQ}{o:Option V}{A:JV}{E:IQ->IT->Prop}
theorem Inv.big(I:Inv X MP σ H s):KI<s.heap.objs.size:=by have h:LH<s.heap.objs.size:=(I.mod.glob.keeps I.bk).lt;exact Nat.lt_trans ⋯ h
theorem AV{Q:IQ->IT->Prop}(m:A.units+1<K4)(I:Inv X MP σ H s)(g:Eo H a y o)(i:RelV y u)(h:∀j,Inv X MP σ H j->Q (.bool (!o.isSome)) j) : J3 (Jh X.prog X.w) A (JC .NotIn u (.ref a)) Q E s:=by
 rcases g with⟨kvs,k,e,d,l⟩|⟨kvs,k,b,e,d,n,l⟩
 ·subst d;obtain⟨z,hd,vs,c,f⟩:=BV I.hok e;refine wpAny_notIn_of (yH i) hd f.mapOf ?_;rw[<-(c.val k).jD,<-l];exact h _ (I.tok _)
 ·subst d;cases (show u=Km b from i);obtain⟨z,hd,xs,c,f⟩:=Ce I.hok e;refine wpAny_notIn_heap (tupleKind_room_in1 m) (sY I.hok n) hd f ?_;have q:=(c.val k).jD;rw[Option.isSome_map]at q;rw[<-q,<-l];exact h _ (I.tok _)
theorem kP{h':Heap}{t':Nat}{c:HO}(I:Inv X MP σ H s)(d:VA (H a))(f:LI a s.heap h')(g:∃q,h'.get? a=MA q)(new:cQ X.prog X.w (upd H a c) h' a c) : Inv X MP σ (upd H a c) { s with heap:=h',toks:=t' }:=I.write (x:=a) (e:=a) d (.inl rfl) (fun b q h z=>(f.2 b h).trans z) g new
theorem D0{P:Jl}{w:JO}{c:Hp}{h':Heap}{kvs:List (Key×V)}{vs:List (Key×IQ)}(z:kvs.length<=J8)(hd:(a==KI)=MD)(b:KV kvs vs)(d:h'.DictOf (cB P w) a vs) : cQ P w c h' a (.dK kvs):=⟨z,hd,vs,b,d⟩
theorem vQ{B:Hp}{Q:Unit->IT->Prop}(L:A.units+1<K4)(I:Inv X MP σ H s)(g:He H a y v B)(C:RelV y u)(D:RelV v r)(h:∀F,Inv X MP σ B F->Q .unit F) : J3 (Jh X.prog X.w) A (setItem (.ref a) u r) Q E s:=by
 rcases g with⟨kvs,k,e,j,l,m⟩|⟨kvs,k,b,e,j,G,l,m⟩
 ·subst j m;obtain⟨z,hd,vs,d,n⟩:=FN I.hok e;have p:vs.length<=J8:=by rw[<-d.length];exact z
  have t:(putK kvs k v).length<=J8:=by have:=gO kvs k v;omega
  refine wpAny_setItem_pairs (hsz:=p) (yH C) n fun J f x=>h _ ?_;have M:∃q,J.get? a=MA q:=let⟨q,_,_,i,_⟩:=f;⟨q,i⟩
  exact kP I (by rw[e];exact LX) x M (D0 t hd (d.put k D) f)
 ·subst j m;cases (show u=Km b from C);obtain⟨z,hd,xs,d,n⟩:=Gy I.hok e;have p:xs.length<=J8:=by rw[<-Paired.length d];exact z
  have t:(putK kvs k v).length<=J8:=by have:=gO kvs k v;omega
  refine wpAny_setItem_heap (hsz:=p) (tupleKind_room_in1 L) (sY I.hok G) n fun J f x=>h _ ?_;obtain⟨q,N,O,i,P,R,S,_,T⟩:=f;refine kP I (by rw[e];exact LX) x ⟨q,i⟩ ⟨t,hd,_,(d.put k G D).keeps fun c U K=>?_,q,N,O,i,P,R,S,T⟩;rw[bg (G0 K e (fun z=>nomatch z))];exact K
end
def FI(i:Expr):Prop:=∀a b,subscripted i MD a b=operate [a,b] (getItem a b)
def Bm(ty c:TE):TE:=fun σ H Q=>ty σ H fun y H1=>c σ H1 fun x b=>∃a o,x=.ref a/\Eo b a y o/\Q (.bl (!o.isSome)) b
def F9(c ty d:TE):TS:=fun D σ H=>d σ H fun v H1=>c σ H1 fun x e=>ty σ e fun y f=>∃a b,x=.ref a/\He f a y v b/\D.nx σ b
section
variable{X:Cx}{o i e value:Expr}{pos pos' MS:Pos}{td ty tv:TE}
theorem wB(b:X.A.units+1<K4)(c:PE X i ty)(d:PE X o td):PC X .NotIn i o (Bm ty td):=by intro MP s σ H Q I h;refine Mp (c MP s σ H _ I h) fun v f ⟨y,H1,j,k,l⟩=>Mp (d MP f σ H1 _ j l) fun u w ⟨x,m,n,p,a,q,ex,g,r⟩=>?_;subst ex;obtain rfl:u=Km a:=p;exact AV b n g k fun z t=>⟨.bl (!q.isSome),m,t,rfl,r⟩
theorem Bl(b:X.A.units+1<K4)(c:PE X o td)(d:PE X i ty)(f:PE X value tv)(j:LP value (MA (.Subscript o i pos')) pos.line X.env=pure MD) : PS X (.Assign [.Subscript o i pos'] value pos) (F9 td ty tv):=by intro MP s σ H D I h;refine wpAny_Assign_Subscript (Mp (f MP s σ H _ I h) fun r k ⟨v,H1,l,m,n⟩=>Mp (c MP k σ H1 _ l n) fun u p ⟨x,q,t,w,z⟩=>Mp (d MP p σ q _ t z) fun J K ⟨y,L,B,C,a,E,ex,g,F⟩=>?_) j;subst ex;obtain rfl:u=Km a:=w;exact vQ b B g C m fun M G=>⟨σ,E,G,F⟩
end
theorem zr{P:Jl}{w:JO}{H:Hp}(h:Heap)(a:KI<h.objs.size):cQ P w H (h.push { cls:=.type "dict",data:=.dict #[] }) h.objs.size (.dK []):=⟨K6 _,beq_eq_false_iff_ne.mpr (Ne.symm (JE a)),[],.nil,Heap.DictOf.new h⟩
def D7:TE:=fun _ H Q=>∀p,H p=MB->Q (.ref p) (upd H p (.dK []))
section
variable{X:Cx}{pos:Pos}
theorem y8:PE X (.Dict [] [] pos) D7:=fun MP s σ H Q I h=>wpAny_Dict_empty ⟨.ref s.heap.objs.size,_,I.laid (a:=s.heap.objs.size) (o:=.dK []) (t':=s.toks) (fun _ _ q=>J0 _ q) (IX _) (zr s.heap I.big),rfl,h _ (I.hok.fresh (IX _))⟩
end
end L2
namespace SD
theorem Ae{c:Type}{l:List c}(h:l.length=1):∃a,l=[a]:=by
 cases l with
 |nil=>cases h
 |cons a l=>
  cases l with
  |nil=>exact⟨a,rfl⟩
  |cons b l=>cases h
theorem EJ{b:Type}{n:Nat}{l:List b}(h:l.length=n+1):∃a r,l=a::r/\r.length=n:=by
 cases l with
 |nil=>cases h
 |cons a l=>exact⟨a,l,rfl,Nat.succ.inj h⟩
theorem xN{c:Type}{l:List c}(h:l.length=2):∃a b,l=[a,b]:=by obtain⟨a,r,rfl,d⟩:=EJ h;obtain⟨b,rfl⟩:=Ae d;exact⟨a,b,rfl⟩
theorem Gr{d:Type}{l:List d}(h:l.length=3):∃a b c,l=[a,b,c]:=by obtain⟨a,r,rfl,e⟩:=EJ h;obtain⟨b,c,rfl⟩:=xN e;exact⟨a,b,c,rfl⟩
theorem IL{e:Type}{l:List e}(h:l.length=4):∃a b c d,l=[a,b,c,d]:=by obtain⟨a,r,rfl,f⟩:=EJ h;obtain⟨b,c,d,rfl⟩:=Gr f;exact⟨a,b,c,d,rfl⟩
open PySem PySem.Spec PyProof.Rows L2
inductive D where
 |non|bl (b:Bool)|int (i:Int)|str (x:Str)|ty (n:String)|ref (a:Addr)|rol (ds:List D)|tup (ds:List D)
def R4(K:I0)(H:Hp)(a:Addr)(xs:List V):Prop:=
 (∃o,H a=MA (.frz o (.lst xs)))\/
  ∃(o:Obj) (b:Array IQ) (n:Nat),K.lookup a=MA o/\o.cls=.type "list"/\o.dict=MB/\o.data=.seq b n/\b.size<=J8/\Vals xs b.toList
theorem R4.sql{K:I0}{H:Hp}{a:Addr}{xs:List V}(h:R4 K H a xs):Mx K H a xs:=by
 rcases h with h|h
 ·exact .inl (.inr h)
 ·exact .inr h
mutual
def Rep(K:I0)(H:Hp):D->V->Prop
 |.non,v=>v=.non
 |.bl b,v=>v=.bl b
 |.int i,v=>v=.int i
 |.str x,v=>v=.str x
 |.ty n,v=>v=.ty n
 |.ref a,v=>v=.ref a
 |.rol ds,v=>∃a xs,v=.ref a/\R4 K H a xs/\aI K H ds xs
 |.tup ds,v=>∃a xs,v=.ref a/\Mz K H a xs/\aI K H ds xs
def aI(K:I0)(H:Hp):List D->List V->Prop
 |[],xs=>xs=[]
 |d::ds,xs=>∃x r,xs=x::r/\Rep K H d x/\aI K H ds r
end
structure Mo(K:I0)(H H':Hp):Prop where
 t:∀a xs,Mz K H a xs->Mz K H' a xs
 f:∀a xs,R4 K H a xs->R4 K H' a xs
theorem Mo.refl{K:I0}{H:Hp}:Mo K H H:=⟨fun _ _ h=>h,fun _ _ h=>h⟩
theorem Mo.trans{K:I0}{H H1 c:Hp}(a:Mo K H H1)(b:Mo K H1 c):Mo K H c:=⟨fun x y h=>b.t x y (a.t x y h),fun x y h=>b.f x y (a.f x y h)⟩
theorem Mo.put{K:I0}{H:Hp}{p:Addr}{o:HO}(c:∀xs,H p≠MA (.tup xs))(b:∀u xs,H p≠MA (.frz u xs)):Mo K H (upd H p o):=by
 refine⟨fun a xs h=>?_,fun a xs h=>?_⟩
 ·rcases h with(h|⟨u,h⟩)|h
  ·exact .inl (.inl (by rw[bg (by intro e;subst e;exact c _ h)];exact h))
  ·exact .inl (.inr ⟨u,by rw[bg (by intro e;subst e;exact b _ _ h)];exact h⟩)
  ·exact .inr h
 ·rcases h with⟨u,h⟩|h
  ·exact .inl ⟨u,by rw[bg (by intro e;subst e;exact b _ _ h)];exact h⟩
  ·exact .inr h
theorem Mo.new{K:I0}{H:Hp}{p:Addr}{o:HO}(h:H p=MB):Mo K H (upd H p o):=.put (fun xs e=>by rw[h]at e;cases e) (fun u xs e=>by rw[h]at e;cases e)
theorem Mo.lst{K:I0}{H:Hp}{p:Addr}{o:HO}{xs:List V}(h:H p=MA (.lst xs)):Mo K H (upd H p o):=.put (fun a e=>by rw[h]at e;cases e) (fun u a e=>by rw[h]at e;cases e)
mutual
theorem Rep.mono{K:I0}{H i:Hp}(g:Mo K H i):∀{d:D} {v:V},Rep K H d v->Rep K i d v
 |.non,_,h=>h
 |.bl _,_,h=>h
 |.int _,_,h=>h
 |.str _,_,h=>h
 |.ty _,_,h=>h
 |.ref _,_,h=>h
 |.rol ds,_,h=>by
  rw[Rep]at h ⊢
  obtain⟨a,xs,e,b,c⟩:=h
  exact⟨a,xs,e,g.f _ _ b,aI.mono g c⟩
 |.tup ds,_,h=>by
  rw[Rep]at h ⊢
  obtain⟨a,xs,e,b,c⟩:=h
  exact⟨a,xs,e,g.t _ _ b,aI.mono g c⟩
theorem aI.mono{K:I0}{H b:Hp}(g:Mo K H b):∀{a:List D} {xs:List V},aI K H a xs->aI K b a xs
 |[],_,h=>h
 |d::a,_,h=>by
  rw[aI]at h ⊢
  obtain⟨x,r,e,c,f⟩:=h
  exact⟨x,r,e,Rep.mono g c,aI.mono g f⟩
end
section
variable{K:I0}{H H':Hp}
theorem aI.nil:aI K H [] []:=by rw[aI]
theorem aI.cons{d:D}{c:List D}{x:V}{r:List V}(a:Rep K H d x)(b:aI K H c r):aI K H (d::c) (x::r):=by rw[aI];exact⟨x,r,rfl,a,b⟩
theorem aI.length:∀{a:List D} {xs:List V},aI K H a xs->a.length=xs.length
 |[],xs,h=>by rw[aI]at h;subst h;rfl
 |d::a,xs,h=>by
  rw[aI]at h
  obtain⟨x,r,rfl,_,b⟩:=h
  simp[aI.length b]
theorem aI.get:∀{a:List D} {xs:List V} {i:Nat} {d:D},aI K H a xs->a[i]?=MA d->∃x,xs[i]?=MA x/\Rep K H d x
 |[],_,_,_,_,e=>by simp at e
 |_::_,xs,0,_,h,e=>by
  rw[aI]at h
  obtain⟨x,r,rfl,b,_⟩:=h
  simp at e;subst e
  exact⟨x,rfl,b⟩
 |_::a,xs,i+1,d,h,e=>by
  rw[aI]at h
  obtain⟨x,r,rfl,_,c⟩:=h
  simpa using aI.get (i:=i) (d:=d) c (by simpa using e)
theorem aI.set{d:D}{x:V}(a:Rep K H d x):∀{b:List D} {xs:List V} (i:Nat),aI K H b xs->aI K H (b.set i d) (xs.set i x)
 |[],_,_,h=>by rw[aI]at h;subst h;simp[aI.nil]
 |_::_,_,0,h=>by
  rw[aI]at h
  obtain⟨y,r,rfl,_,c⟩:=h
  exact .cons a c
 |_::b,_,i+1,h=>by
  rw[aI]at h
  obtain⟨y,r,rfl,e,c⟩:=h
  exact .cons e (aI.set a i c)
theorem aI.append:∀{a es:List D} {xs b:List V},aI K H a xs->aI K H es b->aI K H (a++es) (xs++b)
 |[],_,_,_,h,k=>by rw[aI]at h;subst h;exact k
 |_::a,_,_,_,h,k=>by
  rw[aI]at h
  obtain⟨y,r,rfl,c,d⟩:=h
  exact .cons c (aI.append d k)
theorem aI.of_get:∀{c:List D} {xs:List V},c.length=xs.length->(∀(i:Nat) d x,c[i]?=MA d->xs[i]?=MA x->Rep K H d x)->aI K H c xs
 |[],[],_,_=>.nil
 |[],_::_,h,_=>by simp at h
 |_::_,[],h,_=>by simp at h
 |d::c,x::xs,h,k=>.cons (k 0 d x rfl rfl) (aI.of_get (by simpa using h) fun i d x a b=>k (i+1) d x (by simpa using a) (by simpa using b))
theorem aI.take{c:List D}{xs:List V}(n:Nat)(h:aI K H c xs):aI K H (c.take n) (xs.take n):=by
 refine .of_get (by simp[h.length]) fun i d x a b=>?_
 have f:i<n:=by
  rw[List.getElem?_take]at a;split at a
  ·assumption
  ·cases a
 rw[List.getElem?_take_of_lt f]at a b;obtain⟨y,e,r⟩:=h.get a;rw[e]at b;cases b;exact r
theorem aI.drop{c:List D}{xs:List V}(n:Nat)(h:aI K H c xs):aI K H (c.drop n) (xs.drop n):=by refine .of_get (by simp[h.length]) fun i d x a b=>?_;rw[List.getElem?_drop]at a b;obtain⟨y,e,r⟩:=h.get a;rw[e]at b;cases b;exact r
theorem jx:∀(ns:List Int),aI K H (ns.map D.int) (ns.map V.int)
 |[]=>.nil
 |n::ns=>.cons (by rw[Rep]) (jx ns)
end
def Hz(a C:Addr):Heap->Prop:=fun h=>∃o,h.get? a=MA o/\o.cls=.ref C
inductive MO where
 |lst (ds:List D)|err (C:Addr)
 |dct (n:Nat) (P:List Int->Bool)
 |gen (A:I0->Hp->Addr->Prop)
abbrev MH:=Addr->Option MO
def qk(K:I0)(H:Hp)(a:Addr):MO->Prop
 |.lst c=>∃xs,H a=MA (.lst xs)/\aI K H c xs
 |.err C=>H a=MA (.ext (Hz a C))
 |.dct n P=>∃kvs:List (List Key×V),H a=MA (.dT kvs)/\kvs.length<=n/\∀k:List Int,(kvs.any fun d=>decide (d.1=k.map Sum.inl))=P k
 |.gen A=>A K H a/\H a≠MB/\∀b,Mo K H b->b a=H a->A K b a
def Mw(K:I0)(H:Hp)(M:MH):Prop:=∀a o,M a=MA o->qk K H a o
def aA(M:MH)(a:Addr)(o:MO):MH:=fun b=>if b=a then MA o else M b
theorem ag{M:MH}{a:Addr}{o:MO}:aA M a o a=MA o:=by unfold aA;rw[MF rfl]
theorem au{M:MH}{a b:Addr}{o:MO}(h:b≠a):aA M a o b=M b:=by unfold aA;rw[ME h]
theorem bR{M:MH}{a:Addr}{o u:MO}:aA (aA M a o) a u=aA M a u:=by funext b;unfold aA;split<;>rfl
section
variable{K:I0}{H H':Hp}{M:MH}
theorem qk.some{a:Addr}{o:MO}(h:qk K H a o):H a≠MB:=by
 cases o with
 |lst c=>
  obtain⟨xs,b,_⟩:=h
  rw[b];simp
 |err C=>rw[show H a=_ from h];simp
 |dct n P=>
  obtain⟨kvs,b,_⟩:=h
  rw[b];simp
 |gen A=>exact h.2.1
theorem Mw.fresh(h:Mw K H M){p:Addr}(a:H p=MB):M p=MB:=by
 cases e:M p with
 |none=>rfl
 |some o=>exact absurd a (h p o e).some
theorem qk.iJ{a:Addr}{o:MO}(g:Mo K H H')(e:H' a=H a)(h:qk K H a o):qk K H' a o:=by
 cases o with
 |lst i=>
  obtain⟨xs,b,c⟩:=h
  exact⟨xs,e.trans b,c.mono g⟩
 |err C=>exact e.trans h
 |dct n P=>
  obtain⟨kvs,b,c⟩:=h
  exact⟨kvs,e.trans b,c⟩
 |gen A=>exact⟨h.2.2 H' g e,fun z=>h.2.1 (by rw[<-e];exact z),fun d f e2=>h.2.2 d (g.trans f) (e2.trans e)⟩
theorem Mw.new{p:Addr}{o:HO}(h:Mw K H M)(b:H p=MB):Mw K (upd H p o) M:=fun a u e=>by
 have ne:a≠p:=fun z=>by subst z;rw[h.fresh b]at e;cases e
 exact(h a u e).iJ (.new b) (bg ne)
theorem Mw.nh{p:Addr}{xs:List V}{b:List D}(h:Mw K H M)(c:H p=MB)(r:aI K H b xs):Mw K (upd H p (.lst xs)) (aA M p (.lst b)):=fun a u e=>by
 by_cases ne:a=p
 ·subst ne;rw[ag]at e;cases e;exact⟨xs,bC,r.mono (.new c)⟩
 ·rw[au ne]at e;exact(h a u e).iJ (.new c) (bg ne)
theorem Mw.wD{p:Addr}{xs b:List V}{c:List D}(h:Mw K H M)(d:H p=MA (.lst xs))(r:aI K H c b):Mw K (upd H p (.lst b)) (aA M p (.lst c)):=fun a u e=>by
 by_cases ne:a=p
 ·subst ne;rw[ag]at e;cases e;exact⟨b,bC,r.mono (.lst d)⟩
 ·rw[au ne]at e;exact(h a u e).iJ (.lst d) (bg ne)
theorem Mw.sub{b:MH}(h:Mw K H M)(s:∀a o,b a=MA o->M a=MA o):Mw K H b:=fun a o e=>h a o (s a o e)
end
abbrev DS:=List (Option D)
structure Slots(K:I0)(H:Hp)(δ:DS)(σ:L2.St):Prop where
 len:δ.length=σ.length
 at':∀(i:Nat) d,δ[i]?=MA (MA d)->∃v,σ[i]?=MA (MA v)/\Rep K H d v
section
variable{K:I0}{H H':Hp}{δ:DS}{σ:L2.St}
theorem Slots.mono(g:Mo K H H')(h:Slots K H δ σ):Slots K H' δ σ:=⟨h.len,fun i d e=>let⟨v,a,b⟩:=h.at' i d e;⟨v,a,b.mono g⟩⟩
theorem Slots.set{d:D}{v:V}(r:Rep K H d v)(i:Nat)(h:Slots K H δ σ):Slots K H (δ.set i (MA d)) (σ.set i (MA v)):=by
 refine⟨by simp[h.len],fun j e q=>?_⟩;rw[List.getElem?_set]at q;by_cases a:i=j
 ·subst a;rw[MF rfl]at q;by_cases b:i<δ.length
  ·rw[MF b]at q;cases q;exact⟨v,by rw[List.getElem?_set,MF rfl,MF (by rw[<-h.len];exact b)],r⟩
  ·rw[ME b]at q;cases q
 ·rw[ME a]at q;obtain⟨c,e1,e2⟩:=h.at' j e q;exact⟨c,by rw[List.getElem?_set,ME a];exact e1,e2⟩
theorem qS{N:List Str}{a:List D}{vs:List V}(r:aI K H a vs):Slots K H (a.map MA++Jk (N.length-a.length) MB) (L2.start N vs):=by
 have c:=r.length;refine⟨by unfold L2.start;simp[c],fun i d e=>?_⟩;unfold L2.start;by_cases b:i<a.length
 ·rw[JD (by simpa using b),IW]at e;cases q:a[i]? with
  |none=>rw[q]at e;cases e
  |some f=>
   rw[q]at e;cases e
   obtain⟨x,e1,e2⟩:=r.get q
   refine⟨x,?_,e2⟩
   rw[JD (by simp;omega),IW,e1];rfl
 ·rw[JZ (by simpa using b),List.getElem?_replicate]at e;split at e<;>cases e
end
abbrev DK:=D->MH->Prop
abbrev TD:=DS->MH->DK->Prop
abbrev NP:=DS->MH->(Bool->MH->Prop)->Prop
abbrev NL:=DS->MH->(List D->MH->Prop)->Prop
structure EndsD where
 nx:DS->MH->Prop
 rt:DK
 bk:DS->MH->Prop:=fun _ _=>False
 ct:DS->MH->Prop:=fun _ _=>False
@[reducible] def EndsD.nxt(B:EndsD)(n:DS->MH->Prop):EndsD:={ B with nx:=n }
@[reducible] def EndsD.lp(B:EndsD)(w:DS->MH->Prop):EndsD:={ B with nx:=w,ct:=w,bk:=B.nx }
abbrev NX:=EndsD->DS->MH->Prop
section
variable(K:I0)
def Fin(H:Hp)(R:DK)(Q:VK):Prop:=∀d b v a,Mo K H a->Rep K a d v->Mw K a b->R d b->Q v a
def AE(H:Hp)(R:Bool->MH->Prop)(Q:Bool->Hp->Prop):Prop:=∀b c a,Mo K H a->Mw K a c->R b c->Q b a
def FinA(H:Hp)(R:List D->MH->Prop)(Q:List V->Hp->Prop):Prop:=∀b c vs a,Mo K H a->aI K a b vs->Mw K a c->R b c->Q vs a
def lift(t:TD):TE:=fun σ H Q=>∃δ M R,Slots K H δ σ/\Mw K H M/\t δ M R/\Fin K H R Q
def liftT(t:NP):TT:=fun σ H Q=>∃δ M R,Slots K H δ σ/\Mw K H M/\t δ M R/\AE K H R Q
def yl(t:NL):TA:=fun σ H Q=>∃δ M R,Slots K H δ σ/\Mw K H M/\t δ M R/\FinA K H R Q
structure OL(H:Hp)(B:EndsD)(E:Ends):Prop where
 nx:∀δ M σ H',Mo K H H'->Slots K H' δ σ->Mw K H' M->B.nx δ M->E.nx σ H'
 rt:∀d M v H',Mo K H H'->Rep K H' d v->Mw K H' M->B.rt d M->E.rt v H'
 bk:∀δ M σ H',Mo K H H'->Slots K H' δ σ->Mw K H' M->B.bk δ M->E.bk σ H'
 ct:∀δ M σ H',Mo K H H'->Slots K H' δ σ->Mw K H' M->B.ct δ M->E.ct σ H'
def BM(t:NX):TS:=fun E σ H=>∃δ M,Slots K H δ σ/\Mw K H M/\∃B,OL K H B E/\t B δ M
end
def DE(X:Cx)(e:Expr)(t:TD):Prop:=PE X e (lift X.K t)
def DT(X:Cx)(e:Expr)(t:NP):Prop:=PT X e (liftT X.K t)
def DW(X:Cx)(e:Expr)(t:NP):Prop:=PW X e (liftT X.K t)
def DA(X:Cx)(es:List Expr)(t:NL):Prop:=PA X es (yl X.K t)
def DSt(X:Cx)(st:Stmt)(t:NX):Prop:=PS X st (BM X.K t)
def DSs(X:Cx)(st:List Stmt)(t:NX):Prop:=Om X st (BM X.K t)
theorem bw{X:Cx}{e:Expr}{t t':TE}(h:PE X e t)(k:∀σ H Q,t' σ H Q->t σ H Q):PE X e t':=fun MP s σ H Q I q=>h MP s σ H Q I (k σ H Q q)
theorem l7{X:Cx}{e:Expr}{t t':TT}(h:PT X e t)(k:∀σ H Q,t' σ H Q->t σ H Q):PT X e t':=fun MP s σ H Q I q=>h MP s σ H Q I (k σ H Q q)
theorem xn{X:Cx}{e:Expr}{t t':TT}(h:PW X e t)(k:∀σ H Q,t' σ H Q->t σ H Q):PW X e t':=fun a MP s σ H Q I q=>h a MP s σ H Q I (k σ H Q q)
theorem yn{X:Cx}{e:List Expr}{t t':TA}(h:PA X e t)(k:∀σ H Q,t' σ H Q->t σ H Q):PA X e t':=fun pos MP s σ H Q I q=>h pos MP s σ H Q I (k σ H Q q)
theorem dq{X:Cx}{e:Stmt}{t t':TS}(h:PS X e t)(k:∀D σ H,t' D σ H->t D σ H):PS X e t':=fun MP s σ H D I q=>h MP s σ H D I (k D σ H q)
theorem va{X:Cx}{e:List Stmt}{t t':TS}(h:Om X e t)(k:∀D σ H,t' D σ H->t D σ H):Om X e t':=fun MP s σ H D I q=>h MP s σ H D I (k D σ H q)
section
variable{K:I0}{H H1 H':Hp}
theorem Fin.go{R:DK}{Q:VK}(g:Mo K H H1)(h:Fin K H R Q):Fin K H1 R Q:=fun d M v H' a=>h d M v H' (g.trans a)
theorem AE.go{R:Bool->MH->Prop}{Q:Bool->Hp->Prop}(g:Mo K H H1)(h:AE K H R Q):AE K H1 R Q:=fun b M H' a=>h b M H' (g.trans a)
theorem OL.go{B:EndsD}{E:Ends}(g:Mo K H H1)(h:OL K H B E):OL K H1 B E:=⟨fun d M v H' a=>h.nx d M v H' (g.trans a),fun d M v H' a=>h.rt d M v H' (g.trans a),fun d M v H' a=>h.bk d M v H' (g.trans a),fun d M v H' a=>h.ct d M v H' (g.trans a)⟩
end
section
variable{X:Cx}
inductive Qf(i:Nat)(δ:DS)(M:MH)(Q:DK):Prop
 |mk (d:D) (h:δ[i]?=MA (MA d)) (q:Q d M):Qf i δ M Q
def Rb(d:D):TD:=fun _ M Q=>Q d M
theorem dv(i:Nat){x:Str}{pos:Pos}(c:X.N[i]?=MA x:=by rfl)(f:Uy X.env.scope x:=by first|exact Or.inl rfl|exact Or.inr (Or.inl rfl)|exact Or.inr (Or.inr rfl))(hd:(x==("__debug__":Str))=MD:=by decide)
 (a:(x==("__classdict__":Str))=MD:=by decide):DE X (.Name x pos) (Qf i):=
 bw (Dh c f hd a) fun σ H Q g=>by
  obtain⟨δ,M,R,h,j,⟨d,e,r⟩,b⟩:=g
  obtain⟨v,e1,e2⟩:=h.at' i d e
  exact⟨v,e1,b d M v H .refl e2 j r⟩
theorem dc{e:Expr}{v:V}{d:D}(h:PE X e (tC v))(r:∀H,Rep X.K H d v):DE X e (Rb d):=bw h fun σ H Q a=>by obtain⟨δ,M,R,f,c,q,b⟩:=a;exact(b d M v H .refl (r H) c q)
theorem ao{i j pos}:DE X (.Constant (.int i) j pos) (Rb (.int i)):=dc yR fun _=>by rw[Rep]
theorem j9{i j pos}:DE X (.Constant (.bool i) j pos) (Rb (.bl i)):=dc FX fun _=>by rw[Rep]
theorem mK{j pos}:DE X (.Constant .none j pos) (Rb .non):=dc E5 fun _=>by rw[Rep]
theorem BU{x:Str}{n:String}{pos:Pos}(a:Gl X x)(b:X.mg x=MB)(c:JX x=MA (.type n))(d:x≠"__name__":=by decide)(hd:(x==("__debug__":Str))=MD:=by decide):DE X (.Name x pos) (Rb (.ty n)):=dc (AR (v:=.ty n) a b c rfl d hd) fun _=>by rw[Rep]
end
abbrev NY:=D->D->MH->DK->Prop
def pL(K:I0)(r:NY):R2:=fun v u H Q=>∃x y M R,Rep K H x v/\Rep K H y u/\Mw K H M/\r x y M R/\Fin K H R Q
def NZ(X:Cx)(f:IQ->IQ->Sem IQ)(r:NY):Prop:=NN X f (pL X.K r)
def vE(r:NY)(a b:TD):TD:=fun δ M Q=>a δ M fun x c=>b δ c fun y d=>r x y d Q
theorem iH{X:Cx}{f:IQ->IQ->Sem IQ}{r c:R2}(h:NN X f r)(k:∀x y H Q,c x y H Q->r x y H Q):NN X f c:=fun MP s σ H x y v u Q I a b q=>h MP s σ H x y v u Q I a b (k _ _ _ _ q)
theorem kO{K:I0}{r:NY}{b c:TD}{σ:L2.St}{H:Hp}{Q:VK}(h:lift K (vE r b c) σ H Q):Ra (pL K r) (lift K b) (lift K c) σ H Q:=by obtain⟨δ,M,R,d,g,q,a⟩:=h;refine⟨δ,M,_,d,g,q,fun x i v H1 e j k l=>?_⟩;exact⟨δ,i,_,d.mono e,k,l,fun y m u s f n o p=>⟨x,y,m,R,j.mono f,n,o,p,a.go (e.trans f)⟩⟩
section
variable{X:Cx}{a b:Expr}{ta tb:TD}{pos:Pos}
theorem aB{op:Operator}{r:NY}(c:NZ X (KZ op) r)(d:DE X a ta)(e:DE X b tb):DE X (.BinOp a op b pos) (vE r ta tb):=bw (Hq c d e) fun _ _ _ h=>kO h
theorem cg{op:CmpOp}{r:NY}(c:NZ X (JC op) r)(d:DE X a ta)(e:DE X b tb)(f:LM op b=MD:=by exact wW _):DE X (.Compare a [op] [b] pos) (vE r ta tb):=bw (Aq c d e f) fun _ _ _ h=>kO h
inductive QZ(x:D)(M:MH)(Q:Bool->MH->Prop):Prop
 |mk (c:Bool) (h:x=.bl c) (q:Q c M):QZ x M Q
def tBD(t:TD):NP:=fun δ M Q=>t δ M fun x c=>QZ x c Q
theorem og{K:I0}{t:TD}{t':TE}(i:∀σ H Q,lift K t σ H Q->t' σ H Q){σ:L2.St}{H:Hp}{Q:Bool->Hp->Prop}(h:liftT K (tBD t) σ H Q):Ct t' σ H Q:=by obtain⟨δ,M,R,j,k,q,f⟩:=h;refine i _ _ _ ⟨δ,M,_,j,k,q,fun x l v H1 m g n d=>?_⟩;obtain⟨c,e,o⟩:=d;subst e;rw[Rep]at g;exact⟨c,g,f c l H1 m n o⟩
theorem aM{op:CmpOp}{r:NY}(c:NZ X (JC op) r)(d:DE X a ta)(e:DE X b tb)(f:LM op b=MD:=by exact wW _):DT X (.Compare a [op] [b] pos) (tBD (vE r ta tb)):=l7 (Aa c d e f) fun _ _ _ h=>og (fun _ _ _ h=>kO h) h
theorem dM{e:Expr}{t:TD}(h:DE X e t)(d:∀c,isTrue e X.env c=(do let v <-c;standAt e.pos;holding [v] (truthy v)):=by intro _;rfl):DT X e (tBD t):=
 l7 (CW h d) fun _ _ _ h=>og (t':=lift X.K t) (fun _ _ _ h=>h) h
end
section
variable{X:Cx}{a b c:Expr}{ta tb:TD}{tA MQ:NP}{rest:List Expr}{pos:Pos}
def Ck(t u:NP):NP:=fun δ M Q=>t δ M fun c d=>if c=MC then u δ d Q else Q MD d
def GC(t u:NP):NP:=fun δ M Q=>t δ M fun c d=>if c=MC then Q MC d else u δ d Q
def g8(t:NP):NP:=fun δ M Q=>t δ M fun c d=>Q (!c) d
theorem fg(d:DT X a tA):DW X (.BoolOp .And [a] pos) tA:=AJ d
theorem tH(d:DT X a tA):DW X (.BoolOp .Or [a] pos) tA:=Ej d
theorem gH(j:DT X a tA)(k:DW X (.BoolOp .And (b::rest) pos) MQ):DW X (.BoolOp .And (a::b::rest) pos) (Ck tA MQ):=
 xn (EU j k) fun σ H Q d=>by obtain⟨δ,M,R,h,l,q,e⟩:=d;exact(⟨δ,M,_,h,l,q,fun c m H1 g i f=>by
  cases c with
  |true=>rw[MF rfl]at f ⊢;exact⟨δ,m,R,h.mono g,i,f,e.go g⟩
  |false=>rw[ME Jf]at f ⊢;exact e _ _ _ g i f⟩)
theorem tW(j:DT X a tA)(k:DW X (.BoolOp .Or (b::rest) pos) MQ):DW X (.BoolOp .Or (a::b::rest) pos) (GC tA MQ):=
 xn (GL j k) fun σ H Q d=>by obtain⟨δ,M,R,h,l,q,e⟩:=d;exact(⟨δ,M,_,h,l,q,fun c m H1 g i f=>by
  cases c with
  |true=>rw[MF rfl]at f ⊢;exact e _ _ _ g i f
  |false=>rw[ME Jf]at f ⊢;exact⟨δ,m,R,h.mono g,i,f,e.go g⟩⟩)
theorem lN{e:Expr}{t:NP}(h:DW X e t):DT X e t:=PW.pt h
theorem zy(f:DT X a tA):DT X (.UnaryOp .Not a pos) (g8 tA):=l7 (DM f) fun σ H Q d=>by obtain⟨δ,M,R,g,h,q,e⟩:=d;exact(⟨δ,M,_,g,h,q,fun c l H1 i j k=>e _ _ _ i j k⟩)
def xg(ta tb:TD):TD:=fun δ M Q=>ta δ M fun x d=>QZ x d fun c d=>if c=MC then tb δ d Q else Q (.bl MD) d
def BW(ta tb:TD):TD:=fun δ M Q=>ta δ M fun x d=>QZ x d fun c d=>if c=MC then Q (.bl MC) d else tb δ d Q
def Ex(ta:TD):TD:=fun δ M Q=>ta δ M fun x d=>QZ x d fun c d=>Q (.bl (!c)) d
theorem sr{op}{t:TD}(h:DE X a t):DE X (.BoolOp op [a] pos) t:=DY h
theorem xY(k:DE X a ta)(l:DE X (.BoolOp .And (b::rest) pos) tb):DE X (.BoolOp .And (a::b::rest) pos) (xg ta tb):=
 bw (D3 k l) fun σ H Q ⟨δ,M,R,h,m,q,d⟩=>⟨δ,M,_,h,m,q,fun x n v H1 g i j o=>by
  obtain⟨c,e,f⟩:=o
  subst e
  rw[Rep]at i
  refine⟨c,i,?_⟩
  cases c with
  |true=>rw[MF rfl]at f ⊢;exact⟨δ,n,R,h.mono g,j,f,d.go g⟩
  |false=>rw[ME Jf]at f ⊢;exact d _ _ _ _ g (by rw[Rep]) j f⟩
theorem Gq(k:DE X a ta)(l:DE X (.BoolOp .Or (b::rest) pos) tb):DE X (.BoolOp .Or (a::b::rest) pos) (BW ta tb):=
 bw (G9 k l) fun σ H Q ⟨δ,M,R,h,m,q,d⟩=>⟨δ,M,_,h,m,q,fun x n v H1 g i j o=>by
  obtain⟨c,e,f⟩:=o
  subst e
  rw[Rep]at i
  refine⟨c,i,?_⟩
  cases c with
  |true=>rw[MF rfl]at f ⊢;exact d _ _ _ _ g (by rw[Rep]) j f
  |false=>rw[ME Jf]at f ⊢;exact⟨δ,n,R,h.mono g,j,f,d.go g⟩⟩
theorem DL(h:DE X a ta):DE X (.UnaryOp .Not a pos) (Ex ta):=
 bw (ET h) fun σ H Q d=>by obtain⟨δ,M,R,i,j,q,f⟩:=d;exact(⟨δ,M,_,i,j,q,fun x o v H1 k g l m=>by
  obtain⟨c,e,n⟩:=m
  subst e
  rw[Rep]at g
  exact⟨c,g,f _ _ _ _ k (by rw[Rep]) l n⟩⟩)
def Ie(t:NP)(ta tb:TD):TD:=fun δ M Q=>t δ M fun c d=>if c=MC then ta δ d Q else tb δ d Q
theorem jv(k:DT X c tA)(l:DE X a ta)(m:DE X b tb):DE X (.IfExp c a b pos) (Ie tA ta tb):=
 bw (xw k l m) fun σ H Q d=>by obtain⟨δ,M,R,h,n,q,e⟩:=d;exact(⟨δ,M,_,h,n,q,fun c i H1 f j g=>by
  cases c with
  |true=>rw[MF rfl]at g ⊢;exact⟨δ,i,R,h.mono f,j,g,e.go f⟩
  |false=>rw[ME Jf]at g ⊢;exact⟨δ,i,R,h.mono f,j,g,e.go f⟩⟩)
end
def Ib(r:D->MH->DK->Prop)(a:TD):TD:=fun δ M Q=>a δ M fun x b=>r x b Q
def B8(K:I0)(r:D->MH->DK->Prop):V->Hp->VK->Prop:=fun v H Q=>∃x M R,Rep K H x v/\Mw K H M/\r x M R/\Fin K H R Q
theorem j0{X:Cx}{a:Expr}{d:TD}{pos:Pos}{op:UnaryOp}{r:D->MH->DK->Prop}(e:Uz X (unaryOp op) (B8 X.K r))(f:DE X a d):DE X (.UnaryOp op a pos) (Ib r d):=bw (FQ e f) fun σ H Q b=>by obtain⟨δ,M,R,g,h,q,c⟩:=b;exact(⟨δ,M,_,g,h,q,fun x i v H1 j k l m=>⟨x,i,R,k,l,m,c.go j⟩⟩)
def GS:NL:=fun _ M Q=>Q [] M
def Ef(a:TD)(b:NL):NL:=fun δ M Q=>a δ M fun x c=>b δ c fun xs d=>Q (x::xs) d
section
variable{X:Cx}{e:Expr}{es:List Expr}{te:TD}{t:NL}{pos:Pos}
theorem ak:DA X [] GS:=yn Dq fun σ H Q a=>by obtain⟨δ,M,R,d,c,q,b⟩:=a;exact(b _ _ _ _ .refl .nil c q)
theorem ae(g:DE X e te)(h:DA X es t)(b:Jd (e::es) X.env=(MD,eval e X.env)::Jd es X.env:=by rfl):DA X (e::es) (Ef te t):=
 yn (Br g h b) fun σ H Q a=>by obtain⟨δ,M,R,b,i,q,c⟩:=a;exact(⟨δ,M,_,b,i,q,fun x j v H1 d k l m=>
  ⟨δ,j,_,b.mono d,l,m,fun xs r vs s f n o p=>c _ _ _ _ (d.trans f) (.cons (k.mono f) n) o p⟩⟩)
def Gm(t:NL):TD:=fun δ M Q=>t δ M fun xs a=>xs.length<=J8/\Q (.tup xs) a
def Fq(t:NL):TD:=fun δ M Q=>t δ M fun xs a=>xs.length<=J8/\∀p,a p=MB->Q (.ref p) (aA a p (.lst xs))
theorem aJ{x1}(h:DA X es t):DE X (.Tuple es x1 pos) (Gm t):=bw (Dz h) fun σ H Q a=>by obtain⟨δ,M,R,g,i,q,c⟩:=a;exact(⟨δ,M,_,g,i,q,fun xs m vs H1 j f k b=>by obtain⟨z,l⟩:=b;exact(⟨by rw[<-f.length];exact z,fun p d=>c _ _ _ _ (j.trans (.new d)) (by rw[Rep];exact⟨p,vs,rfl,Mz.of bC,f.mono (.new d)⟩) (k.new d) l⟩)⟩)
theorem bz(h:DA X es t):DE X (.List es pos) (Fq t):=bw (CD h) fun σ H Q a=>by obtain⟨δ,M,R,i,j,q,c⟩:=a;exact(⟨δ,M,_,i,j,q,fun xs m vs H1 k f g b=>by obtain⟨z,l⟩:=b;exact(⟨by rw[<-f.length];exact z,fun p d=>c _ _ _ _ (k.trans (.new d)) (by rw[Rep]) (g.nh d f) (l p (g.fresh d))⟩)⟩)
end
def YT(X:Cx)(r:NY):Prop:=PY X (pL X.K r)
theorem Eb{X:Cx}{r c:R2}(h:PY X r)(k:∀x y H Q,c x y H Q->r x y H Q):PY X c:=fun e1 e2 MP s σ H x y v u Q I a b q=>h e1 e2 MP s σ H x y v u Q I a b (k _ _ _ _ q)
theorem EF{X:Cx}{a b:Expr}{c d:TD}{pos:Pos}{r:NY}(e:YT X r)(f:DE X a c)(g:DE X b d)(i:oB b):DE X (.Subscript a b pos) (vE r c d):=bw (Fx e f g i) fun _ _ _ h=>kO h
inductive XQ(ds:List D)(i:Int)(M:MH)(Q:DK):Prop
 |mk (d:D) (h:atI ds i=MA d) (q:Q d M):XQ ds i M Q
inductive X7(a:Addr)(i:Int)(M:MH)(Q:DK):Prop
 |mk (ds:List D) (d:D) (h:M a=MA (.lst ds)) (q:atI ds i=MA d/\Q d M):X7 a i M Q
def Em:NY:=fun x y M Q=>match x,y with
 |.tup ds,.int i=>XQ ds i M Q
 |.rol ds,.int i=>XQ ds i M Q
 |.ref a,.int i=>X7 a i M Q
 |_,_=>False
theorem aI.atI{K:I0}{H:Hp}{a:List D}{xs:List V}{i:Int}{d:D}(h:aI K H a xs)(e:L2.atI a i=MA d):∃x,L2.atI xs i=MA x/\Rep K H d x:=by
 unfold L2.atI at e ⊢;rw[<-h.length];cases q:ixN a.length i with
 |none=>rw[q]at e;cases e
 |some j=>
  rw[q]at e
  exact h.get e
theorem wu{K:I0}{v u:V}{H:Hp}{Q:VK}(h:pL K Em v u H Q):XW K v u H Q:=by
 obtain⟨x,y,M,R,c,g,a,q,b⟩:=h;unfold Em at q;split at q
 ·obtain⟨d,e,q⟩:=q;obtain rfl:u=.int _:=g;rw[Rep]at c;obtain⟨p,xs,rfl,i,f⟩:=c;obtain⟨x,e1,e2⟩:=f.atI e;exact .inr (.inl ⟨p,xs,_,x,rfl,rfl,i,e1,b _ _ _ _ .refl e2 a q⟩)
 ·obtain⟨d,e,q⟩:=q;obtain rfl:u=.int _:=g;rw[Rep]at c;obtain⟨p,xs,rfl,i,f⟩:=c;obtain⟨x,e1,e2⟩:=f.atI e;exact .inl ⟨p,xs,_,x,rfl,rfl,i.sql,e1,b _ _ _ _ .refl e2 a q⟩
 ·obtain⟨l,d,j,e,q⟩:=q;obtain rfl:u=.int _:=g;obtain rfl:v=.ref _:=c;obtain⟨xs,k,f⟩:=a _ _ j;obtain⟨x,e1,e2⟩:=f.atI e;exact .inl ⟨_,xs,_,x,rfl,rfl,Mx.of k,e1,b _ _ _ _ .refl e2 a q⟩
 ·exact q.elim
theorem aC{X:Cx}{a b:Expr}{c d:TD}{pos:Pos}(e:DE X a c)(f:DE X b d)(g:oB b:=by exact fun _ _=>rfl):DE X (.Subscript a b pos) (vE Em c d):=EF (Eb CT fun _ _ _ _ h=>wu h) e f g
def Bd(n:Nat)(i:Int):Prop:=i.natAbs<2^n
instance(n:Nat)(i:Int):Decidable (Bd n i):=inferInstanceAs (Decidable (i.natAbs<2^n))
theorem Bd.mono{m n:Nat}{i:Int}(h:Bd m i)(l:m<=n):Bd n i:=Jm h (Nat.pow_le_pow_right ⋯ l)
theorem Bd.bits{n:Nat}{i:Int}(h:Bd n i):Builtin.Int.intBits i<=n:=by
 unfold Builtin.Int.intBits;split
 ·exact K6 _
 ·rename_i hz;have a:i.natAbs≠0:=fun e=>hz (by simpa using Int.natAbs_eq_zero.mp e);exact(Nat.log2_lt a).mpr h
theorem Bd.log2{n:Nat}{i:Int}(h:Bd n i)(b:0<n):i.natAbs.log2<n:=by
 by_cases a:i.natAbs=0
 ·rw[a];simpa using b
 ·exact(Nat.log2_lt a).mpr h
theorem Bd.mul{m n:Nat}{i j:Int}(a:Bd m i)(b:Bd n j):Bd (m+n) (i*j):=by unfold Bd at *;rw[Int.natAbs_mul,Nat.pow_add];exact Nat.mul_lt_mul'' a b
theorem Bd.add{n:Nat}{i j:Int}(a:Bd n i)(b:Bd n j):Bd (n+1) (i+j):=by unfold Bd at *;rw[Nat.pow_succ];have:=Int.natAbs_add_le i j;omega
theorem Bd.sub{n:Nat}{i j:Int}(a:Bd n i)(b:Bd n j):Bd (n+1) (i-j):=by unfold Bd at *;rw[Nat.pow_succ];have:=Int.natAbs_sub_le i j;omega
theorem Bd.neg{n:Nat}{i:Int}(a:Bd n i):Bd n (-i):=by unfold Bd at *;rw[Int.natAbs_neg];exact a
theorem Bd.of_le{n:Nat}{i j:Int}(a:Bd n i)(b:j.natAbs<=i.natAbs):Bd n j:=Nat.lt_of_le_of_lt b a
theorem bP{n:Nat}{i:Int}(h:i.natAbs<2^64)(l:64<=n:=by decide):Bd n i:=Bd.mono (m:=64) h l
theorem ff{i j:Int}(a:Bd 1000000 i)(b:Bd 1000000 j):IntMulOk i j:=.of_bits (K3 a.bits ⋯) (K3 b.bits ⋯)
theorem bA{i j:Int}(a:Bd 64 i):IntMulOk i j:=.of_left a.bits
theorem pj{i j:Int}(a:Bd 64 j):IntMulOk i j:=.of_right a.bits
def PM(C:Int->Int->Prop)(g:Int->Int->D):NY:=fun x y M Q=>match x,y with
 |.int i,.int j=>C i j/\Q (g i j) M
 |_,_=>False
section
variable{X:Cx}
theorem dG{f:IQ->IQ->Sem IQ}{C:Int->Int->Prop}{g:Int->Int->V}{g':Int->Int->D}(h:NN X f (rI C g))(e:∀i j H,Rep X.K H (g' i j) (g i j)):NZ X f (PM C g'):=
 iH h fun v u H Q c=>by
  obtain⟨x,y,M,R,d,k,a,q,b⟩:=c
  unfold PM at q
  split at q
  ·obtain rfl:v=.int _:=d
   obtain rfl:u=.int _:=k
   exact⟨_,_,rfl,rfl,q.1,b _ _ _ _ .refl (e _ _ _) a q.2⟩
  ·exact q.elim
theorem RM{f:IQ->IQ->Sem IQ}{g:Int->Int->V}(h:NN X f (Q5 g)):NN X f (rI (fun _ _=>True) g):=iH h fun x y H Q c=>by obtain⟨i,j,a,b,_,q⟩:=c;exact(⟨i,j,a,b,q⟩)
def FO:NY:=PM (fun _ _=>True) fun i j=>.int (i-j)
def Hk:NY:=PM IntMulOk fun i j=>.int (i*j)
def YU(i j:Int):Prop:=j≠0/\Bd 8000 j
def Hv:NY:=PM YU fun i j=>.int (i.fdiv j)
def Hd:NY:=PM (fun _ j=>j≠0) fun i j=>.int (i.fmod j)
def Fe:NY:=PM GH fun i j=>.int (i^j.toNat)
def HW:NY:=PM (fun _ _=>True) fun i j=>.bl (decide (i<j))
def HD:NY:=PM (fun _ _=>True) fun i j=>.bl (decide (i<=j))
def Ih:NY:=PM (fun _ _=>True) fun i j=>.bl (decide (j<i))
def Hx:NY:=PM (fun _ _=>True) fun i j=>.bl (decide (j<=i))
theorem dC:NZ X (KZ .Sub) FO:=dG (RM EX) fun _ _ _=>by rw[Rep]
theorem aS:NZ X (KZ .Mult) Hk:=dG (VN fun _ _ _ _ _ _ _ a q=>mul_int q a) fun _ _ _=>by rw[Rep]
theorem eV:NZ X (KZ .FloorDiv) Hv:=dG (VN fun _ _ _ _ _ _ _ a q=>floordiv_int a.1 q (.inl (PyProof.noPylong_of_log2 (Nat.lt_trans (a.2.log2 ⋯) ⋯)))) fun _ _ _=>by rw[Rep]
theorem fm:NZ X (KZ .Mod) Hd:=dG Ap fun _ _ _=>by rw[Rep]
theorem iC:NZ X (KZ .Pow) Fe:=dG D4 fun _ _ _=>by rw[Rep]
theorem FY:NZ X (JC .Lt) HW:=dG (RM Hh) fun _ _ _=>by rw[Rep]
theorem Gk:NZ X (JC .LtE) HD:=dG (RM GA) fun _ _ _=>by rw[Rep]
theorem FR:NZ X (JC .Gt) Ih:=dG (RM GJ) fun _ _ _=>by rw[Rep]
theorem xZ:NZ X (JC .GtE) Hx:=dG (RM GN) fun _ _ _=>by rw[Rep]
def Cr:D->MH->DK->Prop:=fun x M Q=>match x with
 |.int i=>Q (.int (-i)) M
 |_=>False
theorem fh:Uz X (unaryOp .USub) (B8 X.K Cr):=fun MP s σ H x v Q I r b=>by obtain⟨d,M,R,e,a,q,c⟩:=b;exact(EG MP s σ H x v Q I r (by
 unfold Cr at q
 split at q
 ·obtain rfl:x=.int _:=e;exact⟨_,rfl,c _ _ _ _ .refl (by rw[Rep]) a q⟩
 ·exact q.elim))
def B5:NY:=fun x y M Q=>match x,y with
 |.int i,.int j=>Q (.int (i+j)) M
 |.tup a,.tup b=>a≠[]/\a.length+b.length<=J8/\Q (.tup (a++b)) M
 |.ref a,.ref b=>∃xs c,M a=MA (.lst xs)/\M b=MA (.lst c)/\xs.length+c.length<=J8/\∀p,M p=MB->Q (.ref p) (aA M p (.lst (xs++c)))
 |_,_=>False
theorem aO:NZ X (KZ .Add) B5:=iH (EI.or (Au.or D8)) fun v u H Q l=>by
 obtain⟨x,y,M,R,g,h,a,q,b⟩:=l;unfold B5 at q;split at q
 ·obtain rfl:v=.int _:=g;obtain rfl:u=.int _:=h;exact .inl ⟨_,_,rfl,rfl,b _ _ _ _ .refl (by rw[Rep]) a q⟩
 ·rename_i da db;obtain⟨m,n,q⟩:=q;rw[Rep]at g;obtain⟨p,xs,rfl,i,d⟩:=g;obtain⟨o,j,rfl,k,f⟩:∃a xs,u=V.ref a/\Mz X.K H a xs/\aI X.K H db xs:=by rw[Rep]at h;exact h
  have l1:=d.length;have l2:=f.length;refine .inr (.inl ⟨p,o,xs,j,rfl,rfl,i,k,?_,(),fun e=>?_,fun _ z c=>?_⟩)
  ·intro e;subst e;exact m (List.length_eq_zero_iff.mp (by simpa using l1))
  ·subst e;obtain rfl:db=[]:=List.length_eq_zero_iff.mp (by simpa using l2);exact b _ _ _ _ .refl (by rw[Rep,JM];exact⟨p,xs,rfl,i,d⟩) a q
  ·exact b _ _ _ _ (.new c) (by rw[Rep];exact⟨z,_,rfl,Mz.of bC,(d.append f).mono (.new c)⟩) (a.new c) q
 ·obtain⟨r,s,e1,e2,n,q⟩:=q;obtain rfl:v=.ref _:=g;obtain rfl:u=.ref _:=h;obtain⟨xs,i,d⟩:=a _ _ e1;obtain⟨j,k,f⟩:=a _ _ e2;have l1:=d.length;have l2:=f.length;exact .inr (.inr ⟨_,_,xs,j,rfl,rfl,i,k,(),fun z c=>b _ _ _ _ (.new c) (by rw[Rep]) (a.nh c (d.append f)) (q z (a.fresh c))⟩)
 ·exact q.elim
end
mutual
inductive Pd(M:MH):D->LC->Prop
 |non:Pd M .non .none
 |bl (b:Bool):Pd M (.bl b) (.bool b)
 |int (i:Int):Pd M (.int i) (.int i)
 |str (x:Str):Pd M (.str x) (.str x)
 |tup {ds:List D} {ps:List LC}:Oy M ds ps->Pd M (.tup ds) (.tuple ps)
 |rol {ds:List D} {ps:List LC}:Oy M ds ps->Pd M (.rol ds) (.list ps)
 |lst {a:Addr} {ds:List D} {ps:List LC}:M a=MA (.lst ds)->Oy M ds ps->Pd M (.ref a) (.list ps)
inductive Oy(M:MH):List D->List LC->Prop
 |nil:Oy M [] []
 |cons {d:D} {ds:List D} {p:LC} {ps:List LC}:Pd M d p->Oy M ds ps->Oy M (d::ds) (p::ps)
end
mutual
def QV:D->Option LC
 |.non=>MA .none
 |.bl b=>MA (.bool b)
 |.int i=>MA (.int i)
 |.str x=>MA (.str x)
 |.tup a=>match tj a with
  |some ps=>MA (.tuple ps)
  |none=>MB
 |_=>MB
def tj:List D->Option (List LC)
 |[]=>MA []
 |d::ds=>match QV d,tj ds with
  |some p,MA ps=>MA (p::ps)
  |_,_=>MB
end
mutual
theorem Pd.of{M:MH}:∀{d:D} {p:LC},QV d=MA p->Pd M d p
 |.non,p,h=>by rw[QV]at h;cases h;exact .non
 |.bl b,p,h=>by rw[QV]at h;cases h;exact .bl b
 |.int i,p,h=>by rw[QV]at h;cases h;exact .int i
 |.str x,p,h=>by rw[QV]at h;cases h;exact .str x
 |.ty _,p,h=>by simp[QV]at h
 |.ref _,p,h=>by simp[QV]at h
 |.rol _,p,h=>by simp[QV]at h
 |.tup ds,p,h=>by
  rw[QV]at h
  cases e:tj ds with
  |none=>rw[e]at h;cases h
  |some ps=>rw[e]at h;cases h;exact .tup (Oy.of e)
theorem Oy.of{M:MH}:∀{a:List D} {ps:List LC},tj a=MA ps->Oy M a ps
 |[],ps,h=>by rw[tj]at h;cases h;exact .nil
 |d::a,ps,h=>by
  rw[tj]at h
  cases e1:QV d with
  |none=>rw[e1]at h;cases h
  |some p=>
   cases e2:tj a with
   |none=>rw[e1,e2]at h;cases h
   |some qs=>rw[e1,e2]at h;cases h;exact .cons (Pd.of e1) (Oy.of e2)
end
section
variable{X:Cx}{MP:List (Addr×Obj)}{σ:L2.St}{H:Hp}{s:IT}{M:MH}
mutual
theorem bN(I:Inv X MP σ H s)(q:Mw X.K H M):∀{d:D} {p:LC} {v:V} {u:IQ},Pd M d p->Rep X.K H d v->L2.RelV v u->∃c,Reads s.heap u p c
 |_,_,_,_,.non,r,e=>by rw[Rep]at r;subst r;cases e;exact⟨_,.none⟩
 |_,_,_,_,.bl b,r,e=>by rw[Rep]at r;subst r;cases e;exact⟨_,.bool b⟩
 |_,_,_,_,.int i,r,e=>by rw[Rep]at r;subst r;obtain⟨t,rfl⟩:=e;exact⟨_,.int i t⟩
 |_,_,_,_,.str x,r,e=>by rw[Rep]at r;subst r;obtain⟨t,rfl⟩:=e;exact⟨_,.str x t⟩
 |_,_,_,_,.tup hp,r,e=>by
  rw[Rep]at r
  obtain⟨a,xs,rfl,w,f⟩:=r
  cases e
  obtain⟨g,h,⟨o,j,k,n,l⟩,_⟩:=I.tuple w
  obtain⟨c,m⟩:=gW I q hp f h
  exact⟨c,reads_tuple_at j k l (by simpa using m)⟩
 |_,_,_,_,.rol hp,r,e=>by
  rw[Rep]at r
  obtain⟨a,xs,rfl,w,f⟩:=r
  cases e
  obtain⟨g,h,⟨o,n,j,k,_,l⟩,_⟩:=I.list w.sql
  obtain⟨c,m⟩:=gW I q hp f h
  exact⟨_,reads_list_at j k l (by simpa using m)⟩
 |_,_,_,_,.lst ha hp,r,e=>by
  rw[Rep]at r
  subst r
  cases e
  obtain⟨xs,y,f⟩:=q _ _ ha
  obtain⟨g,h,⟨o,n,j,k,_,l⟩,_⟩:=I.list (Mx.of y)
  obtain⟨c,m⟩:=gW I q hp f h
  exact⟨_,reads_list_at j k l (by simpa using m)⟩
theorem gW(I:Inv X MP σ H s)(a:Mw X.K H M):∀{b:List D} {ps:List LC} {vs:List V} {us:List IQ},Oy M b ps->aI X.K H b vs->Vals vs us->∃c,ReadsAll s.heap us ps c
 |_,_,_,_,.nil,r,e=>by rw[aI]at r;subst r;cases e;exact⟨_,.nil⟩
 |_,_,_,_,.cons h1 h2,r,e=>by
  rw[aI]at r
  obtain⟨x,r,rfl,d,f⟩:=r
  cases e with
  |cons e1 e2=>
   obtain⟨c,g⟩:=bN I a h1 d e1
   obtain⟨bs,h⟩:=gW I a h2 f e2
   exact⟨_,.cons g h⟩
end
end
inductive QU(g:Bool->Bool)(x y:D)(M:MH)(Q:DK):Prop
 |mk (p q:LC) (h1:Pd M x p) (h2:Pd M y q) (h3:Kt p=MC) (h4:Kt q=MC) (hq:Q (.bl (g (Jt p q))) M):QU g x y M Q
def GO:NY:=fun x y M Q=>match x,y with
 |.int i,.int j=>Q (.bl (decide (i=j))) M
 |.bl i,.bl j=>Q (.bl (decide (i=j))) M
 |x,y=>QU (fun b=>b) x y M Q
def DX:NY:=fun x y M Q=>match x,y with
 |.int i,.int j=>Q (.bl (!decide (i=j))) M
 |.bl i,.bl j=>Q (.bl (!decide (i=j))) M
 |x,y=>QU (fun b=>!b) x y M Q
section
variable{X:Cx}
theorem CJ(d:X.A.units+64<K4):NZ X (JC .Eq) (QU fun b=>b):=by intro MP s σ H v u t w Q I e f h;obtain⟨x,y,M,R,g,i,a,⟨p,q,j,k,l,m,n⟩,c⟩:=h;obtain⟨z,o⟩:=bN I a j g e;obtain⟨bs,r⟩:=bN I a k i f;exact eq_dataH o r l m d ⟨.bl _,H,I,rfl,c _ _ _ _ .refl (by rw[Rep]) a n⟩
theorem Ei(d:X.A.units+64<K4):NZ X (JC .NotEq) (QU fun b=>!b):=by intro MP s σ H v u t w Q I e f h;obtain⟨x,y,M,R,g,i,a,⟨p,q,j,k,l,m,n⟩,c⟩:=h;obtain⟨z,o⟩:=bN I a j g e;obtain⟨bs,r⟩:=bN I a k i f;exact ne_dataH o r l m d ⟨.bl _,H,I,rfl,c _ _ _ _ .refl (by rw[Rep]) a n⟩
theorem fR{i j:Int}:(i==j)=decide (i=j):=by by_cases h:i=j<;>simp[h]
theorem qQ{i j:Bool}:(i==j)=decide (i=j):=by cases i<;>cases j<;>rfl
theorem cU(c:X.A.units+64<K4):NZ X (JC .Eq) GO:=iH (CJ c) fun v u H Q d=>by
 obtain⟨x,y,M,R,e,f,a,q,b⟩:=d;refine⟨x,y,M,R,e,f,a,?_,b⟩;unfold GO at q;split at q
 ·exact⟨_,_,.int _,.int _,rfl,rfl,by simpa[Jt,fR]using q⟩
 ·exact⟨_,_,.bl _,.bl _,rfl,rfl,by simpa[Jt,qQ]using q⟩
 ·exact q
theorem eP(c:X.A.units+64<K4):NZ X (JC .NotEq) DX:=iH (Ei c) fun v u H Q d=>by
 obtain⟨x,y,M,R,e,f,a,q,b⟩:=d;refine⟨x,y,M,R,e,f,a,?_,b⟩;unfold DX at q;split at q
 ·exact⟨_,_,.int _,.int _,rfl,rfl,by simpa[Jt,fR]using q⟩
 ·exact⟨_,_,.bl _,.bl _,rfl,rfl,by simpa[Jt,qQ]using q⟩
 ·exact q
def XY(x y:D):Option Bool:=match y with
 |.non=>MA (match x with
  |.non=>MC
  |_=>MD)
 |.bl b=>MA (match x with
  |.bl a=>decide (a=b)
  |_=>MD)
 |_=>MB
inductive Rp(g:Bool->Bool)(x y:D)(M:MH)(Q:DK):Prop
 |mk (b:Bool) (h:XY x y=MA b) (q:Q (.bl (g b)) M):Rp g x y M Q
def HI:NY:=Rp fun b=>b
theorem vA{K:I0}{H:Hp}{x y:D}{b:Bool}{v u:V}{k l:IQ}(h:XY x y=MA b)(g:Rep K H x v)(m:Rep K H y u)(i:L2.RelV v k)(j:L2.RelV u l):plainIs k l=MC/\(k==l)=b:=by
 have f:∀{c:IQ} {d:Bool},l=c->MA d=MA b->plainIs k c=MC->(k==c)=d->plainIs k l=MC/\(k==l)=b:=fun e h p q=>by cases h;subst e;exact⟨p,q⟩
 cases y with
 |non=>
  rw[Rep]at m;subst m
  cases x<;>rw[Rep]at g
  case non=>subst g;cases (show k=LU from i);exact f j h rfl rfl
  case bl=>subst g;cases (show k=LV _ from i);exact f j h rfl rfl
  case int=>subst g;obtain⟨t,rfl⟩:=i;exact f j h rfl rfl
  case str=>subst g;obtain⟨t,rfl⟩:=i;exact f j h rfl rfl
  case ty=>subst g;cases i;exact f j h rfl rfl
  case ref=>subst g;cases i;exact f j h rfl rfl
  all_goals (obtain⟨a,xs,rfl,_⟩:=g;cases i;exact f j h rfl rfl)
 |bl c=>
  rw[Rep]at m;subst m
  cases x<;>rw[Rep]at g
  case non=>subst g;cases (show k=LU from i);exact f j h rfl rfl
  case bl c'=>subst g;cases (show k=LV _ from i);exact f j h rfl (by cases c<;>cases c'<;>rfl)
  case int=>subst g;obtain⟨t,rfl⟩:=i;exact f j h rfl rfl
  case str=>subst g;obtain⟨t,rfl⟩:=i;exact f j h rfl rfl
  case ty=>subst g;cases i;exact f j h rfl rfl
  case ref=>subst g;cases i;exact f j h rfl rfl
  all_goals (obtain⟨a,xs,rfl,_⟩:=g;cases i;exact f j h rfl rfl)
 |_=>cases h
theorem BS:NZ X (JC .Is) HI:=by intro MP s σ H v u j k Q I d f h;obtain⟨x,y,M,R,g,i,a,⟨b,e,q⟩,c⟩:=h;obtain⟨e1,e2⟩:=vA e g i d f;exact wpAny_is_plain e1 ⟨.bl b,H,I,by rw[e2];rfl,c _ _ _ _ .refl (by rw[Rep]) a q⟩
end
abbrev RC:=List D->MH->DK->Prop
def Ca(K:I0)(r:RC):List V->Hp->VK->Prop:=fun vs H Q=>∃a M R,aI K H a vs/\Mw K H M/\r a M R/\Fin K H R Q
def dI(X:Cx)(f:IQ)(r:RC):Prop:=cw X f (Ca X.K r)
theorem cx{X:Cx}{f:IQ}{r b:List V->Hp->VK->Prop}(h:cw X f r)(k:∀xs H Q,b xs H Q->r xs H Q):cw X f b:=fun MP s σ H xs us Q I a q=>h MP s σ H xs us Q I a (k _ _ _ q)
def zV(r:RC)(t:NL):TD:=fun δ M Q=>t δ M fun a b=>r a b Q
theorem uY{K:I0}{r:RC}{t:NL}{σ:L2.St}{H:Hp}{Q:VK}(h:lift K (zV r t) σ H Q):VX (Ca K r) (yl K t) σ H Q:=by obtain⟨δ,M,R,b,c,q,a⟩:=h;exact⟨δ,M,_,b,c,q,fun d e vs H1 f g i j=>⟨d,e,R,g,i,j,a.go f⟩⟩
section
variable{X:Cx}{x:Str}{p pos:Pos}{e:Expr}{es:List Expr}{t:NL}{id T:String}{r:RC}
theorem aN(c:dI X (.builtin id) r)(d:Gl X x)(f:X.mg x=MB)(g:JX x=MA (.builtin id))(i:DA X (e::es) t)(j:x≠"__name__":=by decide)(a:(x==("__debug__":Str))=MD:=by decide) (k:Jd (e::es) X.env=(MD,eval e X.env)::Jd es X.env:=by rfl) (b:(Ks pos (Jd es X.env)).any (·.1)=MD:=by rfl):DE X (.Call (.Name x p) (e::es) [] pos) (zV r t):=bw (yG c d f g i j a k b) fun _ _ _ h=>uY h
theorem c8(c:dI X (.type T) r)(d:Gl X x)(f:X.mg x=MB)(g:JX x=MA (.type T))(i:DA X (e::es) t)(j:x≠"__name__":=by decide)(a:(x==("__debug__":Str))=MD:=by decide) (k:Jd (e::es) X.env=(MD,eval e X.env)::Jd es X.env:=by rfl) (b:(Ks pos (Jd es X.env)).any (·.1)=MD:=by rfl):DE X (.Call (.Name x p) (e::es) [] pos) (zV r t):=bw (vG c d f g i j a k b) fun _ _ _ h=>uY h
theorem cA{K:I0}{H:Hp}{d:D}{vs:List V}(h:aI K H [d] vs):∃v,vs=[v]/\Rep K H d v:=by rw[aI]at h;obtain⟨x,r,rfl,b,a⟩:=h;rw[aI]at a;subst a;exact⟨x,rfl,b⟩
theorem eZ{K:I0}{H:Hp}{d e:D}{vs:List V}(h:aI K H [d,e] vs):∃v u,vs=[v,u]/\Rep K H d v/\Rep K H e u:=by rw[aI]at h;obtain⟨x,r,rfl,a,b⟩:=h;obtain⟨u,rfl,c⟩:=cA b;exact⟨x,u,rfl,a,c⟩
def IJ:RC:=fun a M Q=>match a with
 |[.int i]=>Q (.int (i.natAbs:Int)) M
 |_=>False
theorem oV:dI X (.builtin "abs") IJ:=cx zi fun vs H Q f=>by
 obtain⟨b,M,R,g,a,q,c⟩:=f;rcases b with _|⟨d,b⟩
 ·exact Jq q
 cases d<;>rcases b with _|⟨e,b⟩<;>try exact Jq q
 ·rename_i i;obtain⟨v,rfl,r⟩:=cA g;rw[Rep]at r;subst r;have e:(if i<0 then -i else i)=(i.natAbs:Int):=by split<;>omega
  exact⟨_,rfl,c _ _ _ _ .refl (by rw[Rep,e]) a q⟩
def Il:RC:=fun a M Q=>match a with
 |[.int i,.int j]=>Q (.int (max i j)) M
 |_=>False
def HR:RC:=fun a M Q=>match a with
 |[.int i,.int j]=>Q (.int (min i j)) M
 |_=>False
theorem Cv(h:X.calm=MC):dI X (.builtin "max") Il:=cx (wk h) fun vs H Q k=>by
 obtain⟨b,M,R,l,a,q,c⟩:=k;rcases b with _|⟨d,b⟩
 ·exact Jq q
 cases d<;>rcases b with _|⟨e,b⟩<;>try exact Jq q
 all_goals (cases e<;>rcases b with _|⟨f,b⟩<;>try exact Jq q)
 ·rename_i i j;obtain⟨v,u,rfl,r,g⟩:=eZ l;rw[Rep]at r;subst r;have m:u=.int j:=by rw[Rep]at g;exact g
  subst m;have e:(if j>i then j else i)=max i j:=by split<;>omega
  exact⟨_,_,rfl,c _ _ _ _ .refl (by rw[Rep,e]) a q⟩
theorem C6(h:X.calm=MC):dI X (.builtin "min") HR:=cx (wG h) fun vs H Q k=>by
 obtain⟨b,M,R,l,a,q,c⟩:=k;rcases b with _|⟨d,b⟩
 ·exact Jq q
 cases d<;>rcases b with _|⟨e,b⟩<;>try exact Jq q
 all_goals (cases e<;>rcases b with _|⟨f,b⟩<;>try exact Jq q)
 ·rename_i i j;obtain⟨v,u,rfl,r,g⟩:=eZ l;rw[Rep]at r;subst r;have m:u=.int j:=by rw[Rep]at g;exact g
  subst m;have e:(if j<i then j else i)=min i j:=by split<;>omega
  exact⟨_,_,rfl,c _ _ _ _ .refl (by rw[Rep,e]) a q⟩
def IK:RC:=fun a M Q=>match a with
 |[.tup xs]=>Q (.int (xs.length:Int)) M
 |[.rol xs]=>Q (.int (xs.length:Int)) M
 |[.ref l]=>∃xs,M l=MA (.lst xs)/\Q (.int (xs.length:Int)) M
 |_=>False
theorem cR:dI X (.builtin "len") IK:=cx pB fun vs H Q i=>by
 obtain⟨g,M,R,h,a,q,b⟩:=i;rcases g with _|⟨d,g⟩
 ·exact Jq q
 cases d<;>rcases g with _|⟨e,g⟩<;>try exact Jq q
 ·obtain⟨v,rfl,r⟩:=cA h;rw[Rep]at r;subst r;obtain⟨xs,e,q⟩:=q;obtain⟨j,c,f⟩:=a _ _ e;exact⟨_,j,rfl,.inl (Mx.of c),b _ _ _ _ .refl (by rw[Rep,f.length]) a q⟩
 ·obtain⟨v,rfl,r⟩:=cA h;rw[Rep]at r;obtain⟨l,xs,rfl,c,f⟩:=r;exact⟨l,xs,rfl,.inl c.sql,b _ _ _ _ .refl (by rw[Rep,f.length]) a q⟩
 ·obtain⟨v,rfl,r⟩:=cA h;rw[Rep]at r;obtain⟨l,xs,rfl,c,f⟩:=r;exact⟨l,xs,rfl,.inr c,b _ _ _ _ .refl (by rw[Rep,f.length]) a q⟩
def DC:RC:=fun a M Q=>match a with
 |[.tup xs]=>Q (.tup xs) M
 |[.rol xs]=>Q (.tup xs) M
 |[.ref l]=>∃xs,M l=MA (.lst xs)/\Q (.tup xs) M
 |_=>False
theorem ye:dI X (.type "tuple") DC:=cx mQ fun vs H Q k=>by
 obtain⟨h,M,R,i,a,q,b⟩:=k;rcases h with _|⟨d,h⟩
 ·exact Jq q
 cases d<;>rcases h with _|⟨e,h⟩<;>try exact Jq q
 ·obtain⟨v,rfl,r⟩:=cA i;rw[Rep]at r;subst r;obtain⟨xs,e,q⟩:=q;obtain⟨j,f,g⟩:=a _ _ e;exact⟨_,j,rfl,.inl ⟨Mx.of f,fun p c=>b _ _ _ _ (.new c) (by rw[Rep];exact⟨p,j,rfl,Mz.of bC,g.mono (.new c)⟩) (a.new c) q⟩⟩
 ·obtain⟨v,rfl,r⟩:=cA i;rw[Rep]at r;obtain⟨l,xs,rfl,f,g⟩:=r;exact⟨l,xs,rfl,.inl ⟨f.sql,fun p c=>b _ _ _ _ (.new c) (by rw[Rep];exact⟨p,xs,rfl,Mz.of bC,g.mono (.new c)⟩) (a.new c) q⟩⟩
 ·obtain⟨v,rfl,r⟩:=cA i;rw[Rep]at r;obtain⟨l,xs,rfl,f,g⟩:=r;exact⟨l,xs,rfl,.inr ⟨f,b _ _ _ _ .refl (by rw[Rep];exact⟨l,xs,rfl,f,g⟩) a q⟩⟩
def GR:RC:=fun a M Q=>match a with
 |[.int i]=>Q (.int i) M
 |[.bl k]=>Q (.int (if k=MC then 1 else 0)) M
 |_=>False
theorem jC:dI X (.type "int") GR:=cx vV fun vs H Q g=>by
 obtain⟨c,M,R,f,a,q,b⟩:=g;rcases c with _|⟨d,c⟩
 ·exact Jq q
 cases d<;>rcases c with _|⟨e,c⟩<;>try exact Jq q
 ·obtain⟨v,rfl,r⟩:=cA f;rw[Rep]at r;subst r;exact .inr ⟨_,rfl,b _ _ _ _ .refl (by rw[Rep]) a q⟩
 ·obtain⟨v,rfl,r⟩:=cA f;rw[Rep]at r;subst r;exact .inl ⟨_,rfl,b _ _ _ _ .refl (by rw[Rep]) a q⟩
def Xe:D->Option String
 |.non=>MA "NoneType"
 |.bl _=>MA "bool"
 |.int _=>MA "int"
 |.str _=>MA "str"
 |.tup _=>MA "tuple"
 |.rol _=>MA "list"
 |_=>MB
def oz(K:I0):RC:=fun a M Q=>match a with
 |[x,.ty n]=>∃t b,Xe x=MA t/\PySem.W.kitOne K (.type t) (.type n)=MA b/\Q (.bl b) M
 |_=>False
theorem vX:dI X (.builtin "isinstance") (oz X.K):=by
 intro MP s σ H vs us Q I A B;obtain⟨F,M,R,C,a,q,g⟩:=B;unfold oz at q;split at q
 ·rename_i x n;obtain⟨v,u,rfl,r,w⟩:=eZ C;rw[Rep]at w;subst w;obtain⟨f,D,rfl,c,E⟩:=vals2 A;cases (show D=Value.type n from E);obtain⟨t,b,d,e,q⟩:=q;have h:∀i,EP X MP σ Q (.bool b) { s with toks:=i }:=fun i=>⟨.bl b,H,I.tok i,rfl,g _ _ _ _ .refl (by rw[Rep]) a q⟩;cases x with
  |non=>cases d;rw[Rep]at r;subst r;cases (show f=LU from c);exact LF PySem.W.kitx_none I.kIn LX e (fun z=>nomatch z) h
  |bl y=>cases d;rw[Rep]at r;subst r;cases (show f=LV y from c);exact LF PySem.W.kitx_bool I.kIn LX e (fun z=>nomatch z) h
  |int y=>cases d;rw[Rep]at r;subst r;obtain⟨t,q⟩:=(show ∃t,f=Value.int y t from c);cases q;exact LF PySem.W.kitx_int I.kIn LX e (fun z=>nomatch z) h
  |str y=>cases d;rw[Rep]at r;subst r;obtain⟨t,q⟩:=(show ∃t,f=Value.str y t from c);cases q;exact LF PySem.W.kitx_str I.kIn LX e (fun z=>nomatch z) h
  |tup y=>
   cases d;rw[Rep]at r
   obtain⟨p,xs,rfl,j,_⟩:=r
   cases (show f=Km p from c)
   obtain⟨k,_,⟨o,l,m,_⟩,_⟩:=I.tuple j
   exact LF PySem.W.kitx_tuple I.kIn ⟨o,l,m⟩ e (fun z=>nomatch z) h
  |rol y=>
   cases d;rw[Rep]at r
   obtain⟨p,xs,rfl,j,_⟩:=r
   cases (show f=Km p from c)
   obtain⟨k,_,⟨o,n,l,m,_⟩,_⟩:=I.list j.sql
   exact LF PySem.W.kitx_list I.kIn ⟨o,l,m⟩ e (fun z=>nomatch z) h
  |_=>cases d
 ·exact q.elim
end
abbrev Ow:=D->DS->MH->(DS->MH->Prop)->Prop
abbrev rD:=List D->DS->MH->(DS->MH->Prop)->Prop
section
variable(K:I0)
def x9(H:Hp)(R:DS->MH->Prop)(Q:L2.St->Hp->Prop):Prop:=∀a d b c,Mo K H c->Slots K c a b->Mw K c d->R a d->Q b c
def Ho(t:Ow):TG:=fun v σ H Q=>∃d δ M R,Rep K H d v/\Slots K H δ σ/\Mw K H M/\t d δ M R/\x9 K H R Q
def CS(t:rD):Qb:=fun vs σ H Q=>∃a δ M R,aI K H a vs/\Slots K H δ σ/\Mw K H M/\t a δ M R/\x9 K H R Q
end
theorem x9.go{K:I0}{H H1:Hp}{R:DS->MH->Prop}{Q:L2.St->Hp->Prop}(g:Mo K H H1)(h:x9 K H R Q):x9 K H1 R Q:=fun d M v a b=>h d M v a (g.trans b)
def DG(X:Cx)(e:Expr)(t:Ow):Prop:=PG X e (Ho X.K t)
def DGs(X:Cx)(es:List Expr)(t:rD):Prop:=RH X es (CS X.K t)
theorem so{X:Cx}{e:Expr}{t t':TG}(h:PG X e t)(k:∀v σ H Q,t' v σ H Q->t v σ H Q):PG X e t':=fun MP s σ H v u Q I r q=>h MP s σ H v u Q I r (k _ _ _ _ q)
theorem uO{X:Cx}{e:List Expr}{t t':Qb}(h:RH X e t)(k:∀v σ H Q,t' v σ H Q->t v σ H Q):RH X e t':=fun MP s σ H v u Q I r q=>h MP s σ H v u Q I r (k _ _ _ _ q)
section
variable{X:Cx}{pos:Pos}
def aU(i:Nat):Ow:=fun d δ M Q=>Q (δ.set i (MA d)) M
theorem aE(i:Nat){x:Str}(e:X.N.Nodup)(f:X.N[i]?=MA x:=by rfl)(g:Loc X.env.scope x:=by first|exact Or.inl rfl|exact Or.inr rfl)(hf:X.fn x=MC\/X.env.scope.names.lookup x=MA .local:=by first|exact .inl rfl|exact .inr rfl|assumption):DG X (.Name x pos) (aU i):=so (uS e f g hf) fun v σ H Q b=>by obtain⟨d,δ,M,R,r,h,a,q,c⟩:=b;exact(c _ _ _ _ .refl (h.set r i) a q)
def Gv:rD:=fun a δ M Q=>a=[]/\Q δ M
inductive QW(t:Ow)(u:rD)(ds:List D)(δ:DS)(M:MH)(Q:DS->MH->Prop):Prop
 |mk (d:D) (r:List D) (h:ds=d::r) (q:t d δ M fun δ' M'=>u r δ' M' Q):QW t u ds δ M Q
theorem bG:DGs X [] Gv:=uO tV fun vs σ H Q d=>by obtain⟨g,δ,M,R,c,f,a,⟨e,q⟩,b⟩:=d;subst e;rw[aI]at c;exact⟨c,b _ _ _ _ .refl f a q⟩
theorem aG{e:Expr}{es:List Expr}{t:Ow}{u:rD}(i:DG X e t)(j:DGs X es u) (b:(LN (e::es) X.env).map (·.2)=LQ e X.env::(LN es X.env).map (·.2):=by rfl):DGs X (e::es) (QW t u):=uO (lh i j b) fun vs σ H Q k=>by obtain⟨w,δ,M,R,g,b,a,⟨d,r,e,q⟩,c⟩:=k;subst e;rw[aI]at g;obtain⟨x,xs,rfl,l,m⟩:=g;exact⟨x,xs,rfl,d,δ,M,_,l,b,a,q,fun f n o y h p s v=>⟨r,f,n,R,m.mono h,p,s,v,c.go h⟩⟩
inductive Qu(n:Nat)(t:rD)(d:D)(δ:DS)(M:MH)(Q:DS->MH->Prop):Prop
 |mk (ds:List D) (h:d=.tup ds) (q:ds.length=n/\t ds δ M Q):Qu n t d δ M Q
theorem bZ{es:List Expr}{k:Nat}{t:rD}{n:Nat}(g:X.calm=MC)(h:DGs X es t) (i:(LN es X.env).length=n:=by rfl) (b:(LN es X.env).findIdx? (·.1)=MB:=by rfl):DG X (.Tuple es k pos) (Qu n t):=so (zh g h i b) fun v σ H Q j=>by obtain⟨d,δ,M,R,r,l,a,⟨m,e,o,q⟩,c⟩:=j;subst e;rw[Rep]at r;obtain⟨p,xs,rfl,s,f⟩:=r;exact⟨p,xs,rfl,s,by rw[<-f.length];exact o,m,δ,M,R,f,l,a,q,c⟩
def BN:D->D->D->MH->(MH->Prop)->Prop:=fun o i v M Q=>match o,i with
 |.ref p,.int k=>∃a j,M p=MA (.lst a)/\ixN a.length k=MA j/\Q (aA M p (.lst (a.set j v)))
 |_,_=>False
def F7(a b:TD):Ow:=fun v δ M Q=>a δ M fun o c=>b δ c fun i d=>BN o i v d fun e=>Q δ e
theorem mE{o i:Expr}{k l:TD}(t:DE X o k)(u:DE X i l)
 (w:∀v,LQ (.Subscript o i pos) X.env v=(do
  let ov <-holding [v] (eval o X.env)
  let iv <-holding [v,ov] (eval i X.env)
  standAt pos
  holding [v,ov,iv] (setItem ov iv v)
  release [v,ov,iv] []):=by intro _;rfl):DG X (.Subscript o i pos) (F7 k l):=
 so (EO t u set_list w) fun v σ H Q x=>by
  obtain⟨d,δ,M,R,r,e,a,q,f⟩:=x
  exact⟨δ,M,_,e,a,q,fun o y z H1 c A B C=>⟨δ,y,_,e.mono c,B,C,fun i F D m g E n b=>by
   unfold BN at b
   split at b
   ·obtain⟨G,j,e1,e2,b⟩:=b
    obtain rfl:z=.ref _:=A
    obtain rfl:D=.int _:=E
    obtain⟨xs,h,p⟩:=n _ _ e1
    refine⟨_,xs,_,j,rfl,rfl,h,by rw[<-p.length];exact e2,?_⟩
    have s:Mo X.K m (upd m _ (.lst (xs.set j v))):=.lst h
    exact f _ _ _ _ ((c.trans g).trans s) (e.mono ((c.trans g).trans s)) (n.wD h (p.set (r.mono (c.trans g)) j)) b
   ·exact b.elim⟩⟩
end
section
variable{X:Cx}{pos:Pos}{st:Stmt}{rest:List Stmt}{t u:NX}
def dN:NX:=fun B δ M=>B.nx δ M
def gN(t u:NX):NX:=fun B δ M=>t (B.nxt (u B)) δ M
theorem aR:DSs X [] dN:=va Ao fun E σ H b=>by obtain⟨δ,M,c,a,B,ok,q⟩:=b;exact(ok.nx _ _ _ _ .refl c a q)
theorem aq(d:DSt X st t)(e:DSs X rest u):DSs X (st::rest) (gN t u):=va (xD d e) fun E σ H b=>by obtain⟨δ,M,f,a,B,ok,q⟩:=b;exact(⟨δ,M,f,a,B.nxt (u B),⟨fun c h i m g j k l=>⟨c,h,j,k,B,ok.go g,l⟩,ok.rt,ok.bk,ok.ct⟩,q⟩)
theorem aw(a:DSt X st t):DSs X [st] t:=Af a
def Bi:NX:=fun _ _ _=>False
theorem yi:DSt X st Bi:=dq yD fun E σ H b=>by obtain⟨δ,M,c,a,B,ok,q⟩:=b;exact(q.elim)
def fq(te:TD):NX:=fun B δ M=>te δ M fun _ a=>B.nx δ a
theorem bS{e:Expr}{te:TD}(g:DE X e te)(c:LP e MB pos.line X.env=pure MD:=by rfl):DSt X (.Expr e pos) (fq te):=dq (Ah g c) fun E σ H b=>by obtain⟨δ,M,c,a,B,ok,q⟩:=b;exact(⟨δ,M,_,c,a,q,fun d j v H1 f k h i=>ok.nx _ _ _ _ f (c.mono f) h i⟩)
def ic(te:TD):NX:=fun B δ M=>te δ M B.rt
theorem aF{e:Expr}{te:TD}(c:DE X e te):DSt X (.Return (MA e) pos) (ic te):=dq (Et c) fun E σ H b=>by obtain⟨δ,M,f,a,B,ok,q⟩:=b;exact(⟨δ,M,_,f,a,q,fun d k v H1 g h i j=>ok.rt _ _ _ _ g h i j⟩)
def g9(c:NP)(t u:NX):NX:=fun B δ M=>c δ M fun b a=>if b=MC then t B δ a else u B δ a
theorem bF{c:Expr}{a b:List Stmt}{tc:NP}(j:DT X c tc)(k:DSs X a t)(l:DSs X b u):DSt X (.If c a b pos) (g9 tc t u):=
 dq (Gb j k l) fun E σ H d=>by obtain⟨δ,M,g,a,B,ok,q⟩:=d;exact(⟨δ,M,_,g,a,q,fun c h H1 e i f=>by
  cases c with
  |true=>rw[MF rfl]at f ⊢;exact⟨δ,h,g.mono e,i,B,ok.go e,f⟩
  |false=>rw[ME Jf]at f ⊢;exact⟨δ,h,g.mono e,i,B,ok.go e,f⟩⟩)
def ez(te:TD)(g:Ow):NX:=fun B δ M=>te δ M fun d a=>g d δ a B.nx
theorem cI{tg e:Expr}{te:TD}{g:Ow}(h:DE X e te)(i:DG X tg g)(c:swapsWithSole [tg] e pos.line X.env=pure MD:=by rfl)(hw:swappedStores [tg] e X.env=pure MB:=by rfl)
 (j:(LN [tg] X.env).map (·.2)=[LQ tg X.env]:=by rfl):DSt X (.Assign [tg] e pos) (ez te g):=
 dq (CL h i c hw j) fun E σ H b=>by obtain⟨δ,M,c,a,B,ok,q⟩:=b;exact(⟨δ,M,_,c,a,q,fun d k v H1 f l m n=>
  ⟨d,δ,k,B.nx,l,c.mono f,m,n,fun o y p z r s w x=>ok.nx _ _ _ _ (f.trans r) s w x⟩⟩)
theorem aD(i:Nat){x:Str}{e:Expr}{te:TD}{c:Pos}(h:X.N.Nodup)(j:DE X e te)(k:X.N[i]?=MA x:=by rfl)(l:Loc X.env.scope x:=by first|exact Or.inl rfl|exact Or.inr rfl)(f:LP e (MA (.Name x c)) pos.line X.env=pure MD:=by rfl) (hf:X.fn x=MC\/X.env.scope.names.lookup x=MA .local:=by first|exact .inl rfl|exact .inr rfl|assumption):DSt X (.Assign [.Name x c] e pos) (ez te (aU i)):=dq (CH h k l j f hf) fun E σ H b=>by obtain⟨δ,M,f,a,B,ok,q⟩:=b;exact(⟨δ,M,_,f,a,q,fun d p v H1 g m n o=>ok.nx _ _ _ _ g ((f.mono g).set m i) n o⟩)
def GV(i j:Nat)(a:NL):NX:=fun B δ M=>a δ M fun b c=>∃d e,b=[d,e]/\B.nx ((δ.set i (MA d)).set j (MA e)) c
theorem fP(i j:Nat){x y:Str}{a b:Expr}{o:NL}{h k pt:Pos}{l m f}(r:X.calm=MC)(s:X.N.Nodup)(w:DA X [a,b] o)(n:i≠j:=by decide)(A:X.N[i]?=MA x:=by rfl)(C:X.N[j]?=MA y:=by rfl)
 (D:X.env.scope.names.lookup x=MA .local:=by rfl) (F:X.env.scope.names.lookup y=MA .local:=by rfl)
 (hw:swappedStores [.Tuple [.Name x h,.Name y k] l pt] (.Tuple [a,b] m f) X.env=pure (MA [x,y]):=by rfl)
 (g:swapsWithSole [.Tuple [.Name x h,.Name y k] l pt] (.Tuple [a,b] m f) pos.line X.env=pure MD:=by rfl) :
 DSt X (.Assign [.Tuple [.Name x h,.Name y k] l pt] (.Tuple [a,b] m f) pos) (GV i j o):=
 dq (CC r s A C n D F w hw g) fun E σ H c=>by obtain⟨δ,M,g,a,B,ok,q⟩:=c;exact(⟨δ,M,_,g,a,q,fun P Q vs H1 p G I J=>by
  obtain⟨d,e,z,K⟩:=J
  subst z
  obtain⟨v,u,rfl,L,O⟩:=eZ G
  exact⟨v,u,rfl,ok.nx _ _ _ _ p (((g.mono p).set L i).set O j) I K⟩⟩)
def AF(c:NP)(f:NX):NX:=fun B δ M=>∃W:Nat->DS->MH->Prop,(∃m,W m δ M)/\∀m δ M,W m δ M->
 c δ M fun b d=>if b=MC then f (B.lp fun a g=>∃e,e<m/\W e a g) δ d else B.nx δ d
theorem fI{c:Expr}{body:List Stmt}{tc:NP}{I:NX}(L:PassesOwn (Jh X.prog X.w) X.A X.env X.xe)(N:DT X c tc)(O:DSs X body I):DSt X (.While c body [] pos) (AF tc I):=
 dq (zN L N O) fun E σ H P=>by
  obtain⟨δ,M,q,a,B,ok,W,⟨m,C⟩,r⟩:=P
  refine⟨fun m σ e=>Mo X.K H e/\∃δ M,Slots X.K e δ σ/\Mw X.K e M/\W m δ M,⟨m,.refl,δ,M,q,a,C⟩,?_⟩
  rintro m σ e ⟨g,δ,M,q,a,C⟩
  refine⟨δ,M,_,q,a,r m δ M C,fun b Q H1 k J y=>?_⟩
  cases b with
  |true=>
   rw[MF rfl]at y ⊢
   refine⟨fun D F=>∃p,p<m/\(Mo X.K H F/\∃δ M,Slots X.K F δ D/\Mw X.K F M/\W p δ M),fun n e h=>h,δ,Q,q.mono k,J,_,?_,y⟩
   refine⟨fun f z n e o s x i=>by obtain⟨p,l,G⟩:=i;exact(⟨p,l,(g.trans k).trans o,f,z,s,x,G⟩),fun d M v e o=>ok.rt d M v e ((g.trans k).trans o),fun f z n e o s x R=>ok.nx _ _ _ _ ((g.trans k).trans o) s x R,fun f z n e o s x j=>by obtain⟨p,l,G⟩:=j;exact(⟨p,l,(g.trans k).trans o,f,z,s,x,G⟩)⟩
  |false=>
   rw[ME Jf]at y ⊢
   exact ok.nx _ _ _ _ (g.trans k) (q.mono k) J y
inductive VC(g:Ow)(tb:NX)(B:EndsD)(n:Nat)(δ0:DS)(M0:MH):Prop
 |mk (W:Nat->DS->MH->Prop) (w0:W 0 δ0 M0) (turn:∀i δ M,i<n->W i δ M->g (.int (i:Int)) δ M fun δ2 M2=>tb (B.lp (W (i+1))) δ2 M2) (done:∀δ M,W n δ M->B.nx δ M):VC g tb B n δ0 M0
inductive VD(g:Ow)(tb:NX)(B:EndsD)(ds:List D)(δ0:DS)(M0:MH):Prop
 |mk (n:Nat) (e:ds=[.int (n:Int)]) (q:n<2^60/\VC g tb B n δ0 M0):VD g tb B ds δ0 M0
def DN(a:NL)(g:Ow)(b:NX):NX:=fun B δ M=>a δ M fun c d=>VD g b B c δ d
theorem de{tg e:Expr}{body:List Stmt}{I:NL}{g:Ow}{J:NX}{p L:Pos}(O:PassesOwn (Jh X.prog X.w) X.A X.env X.xe)(P:X.calm=MC)(Q:Gl X "range")(R:X.mg "range"=MB)(S:DA X [e] I)(T:DG X tg g)(U:DSs X body J)
 (o:Jd [e] X.env=[(MD,eval e X.env)]:=by rfl) (hf:∀x,JA (.Call (.Name "range" p) [e] [] L) X.env x=pure x:=by intro _;rfl):DSt X (.For tg (.Call (.Name "range" p) [e] [] L) body [] pos) (DN I g J):=
 dq (yL O P (nE Q R S o) T U hf) fun E σ H ⟨δ,M,o,a,B,ok,q⟩=>⟨δ,M,_,o,a,q,fun ds V vs H1 N Y Z z9=>by
  obtain⟨n,e,hn,W,w0,j,done⟩:=z9
  subst e
  obtain⟨v,rfl,r⟩:=cA Y
  rw[Rep]at r;subst r
  refine⟨(n:Int),rfl,(),(),?_⟩
  rw[show((n:Int)).toNat=n from by simp]
  refine vD (fun i σ c=>Mo X.K H c/\∃δ M,Slots X.K c δ σ/\Mw X.K c M/\W i δ M) ⟨N,δ,V,o.mono N,Z,w0⟩ ?_ ?_
  ·rintro i σ H2 hi ⟨h,δ,M,z,C,D⟩
   refine⟨.int (i:Int),δ,M,_,by rw[Rep];simp,z,C,j i δ M hi D,fun F M3 a0 H3 s s3 a3 q3=>?_⟩
   refine⟨F,M3,s3,a3,_,?_,q3⟩
   exact⟨fun b y k c f l m G=>⟨(h.trans s).trans f,b,y,l,m,G⟩,fun d M v c f=>ok.rt d M v c ((h.trans s).trans f),fun b y k c f l m q'=>ok.nx _ _ _ _ ((h.trans s).trans f) l m q',fun b y k c f l m G=>⟨(h.trans s).trans f,b,y,l,m,G⟩⟩
  ·rintro σ H2 ⟨h,δ,M,z,C,D⟩
   exact ok.nx _ _ _ _ h z C (done δ M D)⟩
end
theorem yk{b:Bool}{A B:Prop}(e:b=MC)(h:A):if b=MC then A else B:=by rw[MF e];exact h
theorem jK{b:Bool}{A B:Prop}(e:b=MD)(h:B):if b=MC then A else B:=by rw[ME (by rw[e];exact Jf)];exact h
theorem Xw{b c:TD}{δ:DS}{M:MH}{Q:DK}(a d:Bool)(f:∀K:DK,K (.bl a) M->b δ M K)(g:a=MD->∀K:DK,K (.bl d) M->c δ M K)(e:Q (.bl (a||d)) M):BW b c δ M Q:=
 f _ ⟨a,rfl,by
  cases a with
  |true=>rw[MF rfl];exact e
  |false=>rw[ME Jf];exact g rfl _ e⟩
theorem GW{b c:TD}{δ:DS}{M:MH}{Q:DK}(a d:Bool)(f:∀K:DK,K (.bl a) M->b δ M K)(g:a=MC->∀K:DK,K (.bl d) M->c δ M K)(e:Q (.bl (a&&d)) M):xg b c δ M Q:=
 f _ ⟨a,rfl,by
  cases a with
  |true=>rw[MF rfl];exact g rfl _ e
  |false=>rw[ME Jf];exact e⟩
theorem VM{b c:NP}{δ:DS}{M:MH}{Q:Bool->MH->Prop}(a d:Bool)(f:∀K:Bool->MH->Prop,K a M->b δ M K)(g:a=MD->∀K:Bool->MH->Prop,K d M->c δ M K)(e:Q (a||d) M):GC b c δ M Q:=
 f _ (by
  cases a with
  |true=>rw[MF rfl];exact e
  |false=>rw[ME Jf];exact g rfl _ e)
theorem vC{b c:NP}{δ:DS}{M:MH}{Q:Bool->MH->Prop}(a d:Bool)(f:∀K:Bool->MH->Prop,K a M->b δ M K)(g:a=MC->∀K:Bool->MH->Prop,K d M->c δ M K)(e:Q (a&&d) M):Ck b c δ M Q:=
 f _ (by
  cases a with
  |true=>rw[MF rfl];exact g rfl _ e
  |false=>rw[ME Jf];exact e)
def Bx(r b:NY)(c d tc:TD):TD:=fun δ M Q=>c δ M fun x e=>d δ e fun y f=>r x y f fun z a=>∃k,z=.bl k/\if k=MC then tc δ a fun u g=>b y u g Q else Q (.bl MD) a
theorem xS{X:Cx}{a b c:Expr}{o p tc:TD}{pos:Pos}{op f:CmpOp}{r s:NY}(D:NZ X (JC op) r)(m:NZ X (JC f) s)(E:DE X a o)(F:DE X b p)(G:DE X c tc)
 (I:lastMarks [op,f] [b,c]=MD:=by with_unfolding_all rfl):DE X (.Compare a [op,f] [b,c] pos) (Bx r s o p tc):=
 bw (zI D m E F G I) fun σ H Q J=>by
  obtain⟨δ,M,R,n,K,q,g⟩:=J
  refine⟨δ,M,_,n,K,q,fun x L v H1 h N O P=>?_⟩
  refine⟨δ,L,_,n.mono h,O,P,fun y S u H2 i t T U=>?_⟩
  refine⟨x,y,S,_,N.mono i,t,T,U,fun z V w H3 j A B d=>?_⟩
  obtain⟨k,e,l⟩:=d
  subst e
  rw[Rep]at A
  refine⟨k,A,?_⟩
  cases k with
  |true=>
   rw[MF rfl]at l ⊢
   exact⟨δ,V,_,n.mono ((h.trans i).trans j),B,l,fun W Y w' H4 C Z a4 q4=>⟨y,W,Y,R,t.mono (j.trans C),Z,a4,q4,g.go (((h.trans i).trans j).trans C)⟩⟩
  |false=>
   rw[ME Jf]at l ⊢
   exact g _ _ _ _ ((h.trans i).trans j) (by rw[Rep]) B l
theorem bU{t u:NX}{B:EndsD}{δ:DS}{M:MH}(W:DS->MH->Prop)(c:∀a b,W a b->u B a b)(d:(∀a b,W a b->u B a b)->t (B.nxt (u B)) δ M):gN t u B δ M:=d c
def Sub(b M:MH):Prop:=∀a o,b a=MA o->M a=MA o
def HS(r:Addr)(b M:MH):Prop:=∀a o,a≠r->b a=MA o->M a=MA o
theorem Sub.refl{M:MH}:Sub M M:=fun _ _ h=>h
theorem Sub.trans{M c d:MH}(a:Sub M c)(b:Sub c d):Sub M d:=fun x o h=>b x o (a x o h)
theorem Sub.new{M b:MH}{p:Addr}{o:MO}(c:M p=MB)(s:Sub b M):Sub b (aA M p o):=fun a u h=>by rw[au (fun e=>by subst e;rw[s _ _ h]at c;cases c)];exact s _ _ h
theorem Sub.Hy{M b:MH}{r:Addr}{o:MO}(s:HS r b M):Sub (aA b r o) (aA M r o):=fun a u h=>by
 by_cases e:a=r
 ·subst e;rw[ag]at h ⊢;exact h
 ·rw[au e]at h ⊢;exact s _ _ e h
inductive R5(Q:DK)(d:D)(M:MH):Prop
 |mk (M':MH) (s:Sub M' M) (q:Q d M'):R5 Q d M
@[reducible] def qB(Q:DK):EndsD:={ nx:=fun _ a=>R5 Q .non a,rt:=R5 Q }
theorem NA{Q:DK}{d:D}{M:MH}(q:Q d M):R5 Q d M:=⟨M,.refl,q⟩
abbrev Ox:=List D->MH->DK->Prop
def iG(K:I0)(sp:Ox):Sp:=fun vs H Q _=>∃a M R,aI K H a vs/\Mw K H M/\sp a M R/\Fin K H R Q
def Cal(P:Jl)(w:JO)(K:I0)(mg:Str->Option IQ)(base:Heap)(k:Nat)(x:Str)(sp:Ox):Prop:=
 ∃f fd ps,N3 P w K mg base Oo k f fd ps (iG K sp)/\mg x=MA (.ref f)/\PySem.W.keepIn K (.ref f)=MC/\Binds K fd ps []
theorem Cal.mono{P:Jl}{w:JO}{K:I0}{mg:Str->Option IQ}{base:Heap}{j k:Nat}{x:Str}{sp:Ox}(h:Cal P w K mg base j x sp)(l:j<=k):Cal P w K mg base k x sp:=let⟨f,fd,ps,F,r⟩:=h;⟨f,fd,ps,F.mono l,r⟩
section
variable{X:Cx}{k:Nat}{x:Str}{sp:Ox}{p pos:Pos}{e:Expr}{es:List Expr}{t:NL}
def EE(sp:Ox)(t:NL):TD:=fun δ M Q=>t δ M fun a b=>sp a b Q
theorem av(C:Cal X.prog X.w X.K X.mg X.base k x sp)(g:NB k X.A)(h:DA X (e::es) t)(i:Gl X x:=by rfl)(b:(x==("__debug__":Str))=MD:=by decide)
 (j:Jd (e::es) X.env=(MD,eval e X.env)::Jd es X.env:=by rfl) (c:(Ks pos (Jd es X.env)).any (·.1)=MD:=by rfl):DE X (.Call (.Name x p) (e::es) [] pos) (EE sp t):=by
 obtain⟨f,fd,ps,F,l,m,n⟩:=C
 refine bw (zX F g i l m n .nil Hl h b j c) fun σ H Q a=>?_
 obtain⟨δ,M,R,o,r,q,d⟩:=a
 refine⟨δ,M,_,o,r,q,fun s u vs H1 v y z B=>?_⟩
 show iG X.K sp (vs++[]) H1 Q E0
 rw[JM]
 exact⟨s,u,R,y,z,B,d.go v⟩
end
def gI(N:List Str)(a:List D):DS:=a.map MA++Jk (N.length-a.length) MB
section
variable{P:Jl}{w:JO}{K:I0}{mg:Str->Option IQ}{base:Heap}
theorem XZ{x qual:Str}{st:Stmt}{f:Addr}{fd:LY}{N ps:List Str}{k:Nat}{sp:Ox}(F:RJ K x qual st f fd)(S:Mk N ps (ay st))(len:∀b M Q,sp b M Q->b.length=ps.length)
 (m:∀X:Cx,X.prog=P->True) (body:∀(cdv:IQ) (A:JV) (outer:List Env) (s:IT) (H:Hp) (E:XK),NB k (A.deeper (envOfC qual (ay st) s.heap.objs.size f cdv))->
  ∃t,DSs (jE Oo P w K mg base N qual (ay st) f cdv A outer s H E).nox (bE st) t/\∀b M Q,sp b M Q->t (qB Q) (gI N b) M):N3 P w K mg base Oo (k+1) f fd ps (iG K sp):=by
 refine F.ok S (fun vs H Q E c=>by obtain⟨b,M,R,n,_,q,_⟩:=c;rw[<-n.length];exact len _ _ _ q) fun cdv A outer s H vs Q E B e=>?_
 obtain⟨b,M,R,n,a,q,j⟩:=e
 obtain⟨t,h,C⟩:=body cdv A outer s H E B
 refine⟨_,h,gI N b,M,qS n,a,(qB R),⟨fun D G I u g J o l=>?_,fun d G v u g r o i=>by obtain⟨y,p,l⟩:=i;exact(j _ _ _ _ g r (o.sub p) l),fun _ _ _ _ _ _ _ z=>z,fun _ _ _ _ _ _ _ z=>z⟩,C b M R q⟩
 obtain⟨y,p,l⟩:=l
 exact j .non y .non u g (by rw[Rep]) (o.sub p) l
def Txt(K:I0)(mg:Str->Option IQ)(x:Str)(st:Stmt):Prop:=∃f fd,RJ K x x st f fd/\mg x=MA (.ref f)
theorem Txt.mk{h:Heap}{x:Str}{st:Stmt}{f:Addr}{oc:IQ}{od an:Option Addr}{osl:Array (Option IQ)}{kV b d cdv ct:IQ}(X:K.In h)(G:h.Ns LH mg)(a:PySem.W.nsIn K LH x=MA (MA (.ref f))) (l:K.lookup f=MA ⟨oc,od,.func (KA x x (cM st) (bE st) (ay st) .none kV b d an cdv ct),osl⟩) (c:PySem.W.codeIn K cdv x=MC) (k:PySem.W.keepIn K (.ref f)=MC):Txt K mg x st:=⟨f,_,D9 l c k,PySem.W.mg_of X G a⟩
theorem zW{x:Str}{st:Stmt}{N ps:List Str}{k:Nat}{sp:Ox}(T:Txt K mg x st)(S:Mk N ps (ay st))
 (c:∀(kV b d:IQ) (an:Option Addr) (cdv ct:IQ) (us:List IQ),us.length=ps.length->bindArgs (KA x x (cM st) (bE st) (ay st) .none kV b d an cdv ct) ⟨us,[]⟩=pure (ps.zip us))
 (len:∀a M Q,sp a M Q->a.length=ps.length)
 (body:∀(f:Addr) (cdv:IQ) (A:JV) (outer:List Env) (s:IT) (H:Hp) (E:XK),NB k (A.deeper (envOfC x (ay st) s.heap.objs.size f cdv))->
  ∃t,DSs (jE Oo P w K mg base N x (ay st) f cdv A outer s H E).nox (bE st) t/\∀a M Q,sp a M Q->t (qB Q) (gI N a) M):Cal P w K mg base (k+1) x sp:=by
 obtain⟨f,fd,F,e⟩:=T
 exact⟨f,fd,ps,XZ F S len (fun _ _=>trivial) (body f),e,F.kp,F.binds c⟩
end
theorem oD:JX "abs"=MA (.builtin "abs"):=by decide +kernel
theorem sR:JX "max"=MA (.builtin "max"):=by decide +kernel
theorem k8:JX "min"=MA (.builtin "min"):=by decide +kernel
theorem cT:JX "len"=MA (.builtin "len"):=by decide +kernel
theorem DQ:JX "all"=MA (.builtin "all"):=by decide +kernel
theorem ip:JX "isinstance"=MA (.builtin "isinstance"):=by decide +kernel
theorem yP:JX "tuple"=MA (.type "tuple"):=by decide +kernel
theorem u7:JX "list"=MA (.type "list"):=by decide +kernel
theorem jP:JX "int"=MA (.type "int"):=by decide +kernel
theorem A8:JX "bool"=MA (.type "bool"):=by decide +kernel
section
variable{P:Jl}{w:JO}{K:I0}{mg:Str->Option IQ}
theorem Hw{x:Str}{st:Stmt}{N:List Str}{p:Str}{k:Nat}{sp:Ox}{fa:Addr}(T:Txt K mg x st)(c:mg x=MA (.ref fa))(S:Mk N [p] (ay st))
 (g:∀(kV a d:IQ) (an:Option Addr) (cdv ct:IQ) (us:List IQ),us.length=[p].length->bindArgs (KA x x (cM st) (bE st) (ay st) .none kV a d an cdv ct) ⟨us,[]⟩=pure ([p].zip us))
 (len:∀b M Q,sp b M Q->b.length=[p].length)
 (body:∀(base:Heap) (f:Addr) (cdv:IQ) (A:JV) (outer:List Env) (s:IT) (H:Hp) (E:XK),NB k (A.deeper (envOfC x (ay st) s.heap.objs.size f cdv))->
  ∃t,DSs (jE Oo P w K mg base N x (ay st) f cdv A outer s H E).nox (bE st) t/\∀b M Q,sp b M Q->t (qB Q) (gI N b) M) :
 ∃fd,(∀(s:IT) (u:IQ),BindsTo s fd ⟨[u],[]⟩ [(p,u)])/\∀base:Heap,N3 P w K mg base Oo (k+1) fa fd [p] (iG K sp):=by
 obtain⟨f,fd,F,h⟩:=T
 have e:=c.symm.trans h
 cases e
 refine⟨fd,fun s u=>?_,fun base=>XZ F S len (fun _ _=>trivial) (body base _)⟩
 obtain⟨oc,od,kV,a,d,an,cdv,ct,osl,rfl,j,i⟩:=F.ex
 exact .of_eq (g kV a d an cdv ct [u] rfl)
end
theorem yT{l:PySem.W.OpenLaw}{k:Nat}{q:Jl}{i:List Str}{t:(Str->Option IQ)->Heap->Prop}{p:JO->Heap->Prop}{d:DefRec}{K:Jw->I0}{sp:Ox}{x:Str}
 (A:l.most=MA 63) (j:d.params.defaults=[]) (B:NB k callerA)
 (C:∀(w:JO) (h:Heap),p w h->(K w.params).In h)
 (F:∀(w:JO) (mg:Str->Option IQ) (fa:Addr) (h:Heap),(K w.params).In h->h.Ns LH mg->mg d.name=MA (.ref fa)->
  ∃fd:LY,(∀(s:IT) (u:IQ),BindsTo s fd ⟨[u],[]⟩ [(x,u)])/\
   ∀base:Heap,N3 l.prog w (K w.params) mg base Oo k fa fd [x] (iG (K w.params) sp))
 (m:∀(ns:List Int) (M:MH),ns.length<=63->sp [.rol (ns.map D.int)] M (fun d _=>d=.bl MC)) :
 PySem.W.WalkO q i t p l.row.toRowW d [] (fun f vs=>PySem.call f vs):=by
 refine BI (x:=x) (n:=63) (CX:=fun _=>Oo) (sp:=fun w=>iG (K w.params) sp) A ⋯ j B C (fun w mg fa h a b c=>?_) (fun w H a ns E G I=>?_) fun _ _ _ _ _ z=>z
 ·obtain⟨fd,J,L⟩:=F w mg fa h a b c
  exact⟨fd,J,fun base _ _=>L base⟩
 ·have hF:R4 (K w.params) H a (ns.map V.int):=by
   rcases I with(z|z)|z
   ·rcases G a with y|⟨o,xs,y⟩
    ·rw[z]at y;cases y
    ·rw[z]at y;cases y
   ·exact .inl z
   ·exact .inr z
  refine⟨[.rol (ns.map D.int)],fun _=>MB,_,.cons (by rw[Rep];exact⟨a,_,rfl,hF,jx ns⟩) .nil,(fun _ _ e=>nomatch e:Mw (K w.params) H fun _=>MB),m ns _ E,fun d N v O g r P e=>?_⟩
  subst e
  rw[Rep]at r
  exact r
end SD
namespace Ma
open PySem PySem.Spec PyProof.Rows L2 SD
abbrev fr(q:Rat):D:=.tup [.int q.num,.int (q.den:Int)]
theorem den_pos(q:Rat):(0:Int)<(q.den:Int):=by have:=q.den_pos;omega
def Bq(n:Nat)(q:Rat):Prop:=Bd n q.num/\Bd n (q.den:Int)
theorem Bq.mono{m n:Nat}{q:Rat}(h:Bq m q)(l:m<=n):Bq n q:=⟨h.1.mono l,h.2.mono l⟩
theorem qC{t b:Int}(a:0<b):t.fdiv b=t/b:=JQ _ ()
theorem fdiv_neg{t b:Int}(hd:b ∣ t)(d:0<b):t.fdiv (-b)=-(t/b):=by
 obtain⟨c,rfl⟩:=hd;have a:b≠0:=()
 rw[Int.mul_ediv_cancel_left _ a];have:b*c=-b * -c:=by rw[Int.neg_mul_neg]
 rw[this];exact Int.mul_fdiv_cancel_left _ ()
theorem uV(t b:Int):((LB t.natAbs b.natAbs:Nat):Int) ∣ t:=Int.ofNat_dvd_left.mpr (Nat.gcd_dvd_left _ _)
theorem uh(t b:Int):((LB t.natAbs b.natAbs:Nat):Int) ∣ b:=Int.ofNat_dvd_left.mpr (Nat.gcd_dvd_right _ _)
theorem om(t b:Int):Int.gcd b t=LB t.natAbs b.natAbs:=by unfold Int.gcd;exact Nat.gcd_comm _ _
theorem fF{t b:Int}(a:b≠0):0<LB t.natAbs b.natAbs:=Nat.gcd_pos_of_pos_right _ ()
theorem uU{t b:Int}(a:0<b):t.fdiv (LB t.natAbs b.natAbs:Nat)=(Rat.divInt t b).num/\b.fdiv (LB t.natAbs b.natAbs:Nat)=((Rat.divInt t b).den:Int):=by
 have c:=fF (t:=t) (b:=b) ();rw[qC (),qC (),Rat.num_divInt,Rat.den_divInt,ME (),JK a,LJ,om];refine⟨rfl,?_⟩;rw[Int.natCast_ediv]
 congr 1
 omega
theorem uH{t b:Int}(a:b<0):t.fdiv (-((LB t.natAbs b.natAbs:Nat):Int))=(Rat.divInt t b).num/\b.fdiv (-((LB t.natAbs b.natAbs:Nat):Int))=((Rat.divInt t b).den:Int):=by
 have c:=fF (t:=t) (b:=b) ();rw[fdiv_neg (uV t b) (),fdiv_neg (uh t b) (),Rat.num_divInt,Rat.den_divInt,ME (),Jr a,om];constructor
 ·rw[show(-1:Int)*t=-t from by omega,Int.neg_ediv_of_dvd (uV t b)]
 ·rw[Int.natCast_ediv,show((b.natAbs:Nat):Int)=-b from by omega,Int.neg_ediv_of_dvd (uh t b)]
theorem tJ{t b:Int}(a:b≠0):(Rat.divInt t b).num.natAbs<=t.natAbs/\(Rat.divInt t b).den<=b.natAbs:=by
 constructor
 ·rw[Rat.num_divInt];refine K3 (Int.natAbs_ediv_le_natAbs _ _) ?_;rw[Int.natAbs_mul];rcases J4 b 0 with h|h|h
  ·rw[Jr h];simp
  ·exact absurd h a
  ·rw[JK h];simp
 ·rw[Rat.den_divInt,ME a];exact Nat.div_le_self _ _
theorem Bq.divInt{n:Nat}{t b:Int}(a:b≠0)(c:Bd n t)(d:Bd n b):Bq n (Rat.divInt t b):=by obtain⟨e,f⟩:=tJ (t:=t) a;exact⟨Nat.lt_of_le_of_lt e c,Nat.lt_of_le_of_lt (by simpa using f) d⟩
theorem t5(x y:Nat):Int.fmod (x:Int) (y:Int)=((x%y:Nat):Int):=by rw[KR _ ()];rfl
theorem sO(q r:Rat):Jt (.tuple [.int q.num,.int (q.den:Int)]) (.tuple [.int r.num,.int (r.den:Int)])=decide (q=r):=by
 simp only[Jt,JN,L9];by_cases h:q=r
 ·subst h;simp
 ·rw[MG h];rw[Bool.eq_false_iff];intro z;rw[Jn,beq_iff_eq,beq_iff_eq]at z;exact h (Rat.ext z.1 (by have:=z.2;omega))
theorem Hg(q r:Rat):decide (q.num*(r.den:Int)<r.num*(q.den:Int))=decide (q<r):=by rw[MK,Rat.lt_iff]
abbrev spt(a b:Rat):D:=.tup [fr a,fr b]
theorem ku(a b c d:Rat):Jt (.tuple [.tuple [.int a.num,.int (a.den:Int)],.tuple [.int b.num,.int (b.den:Int)]]) (.tuple [.tuple [.int c.num,.int (c.den:Int)],.tuple [.int d.num,.int (d.den:Int)]])=decide (a=c/\b=d):=by rw[Jt,JN,JN,JN,sO,sO,L9,Bool.decide_and]
theorem iK(q:Rat):(q.den:Int)≠0:=by have:=q.den_pos;omega
theorem sub_eq(q r:Rat):Rat.divInt (q.num*(r.den:Int)-r.num*(q.den:Int)) ((q.den:Int)*(r.den:Int))=q-r:=by rw[<-Rat.divInt_sub_divInt _ _ (iK q) (iK r),Rat.num_divInt_den,Rat.num_divInt_den]
theorem vh(q r:Rat):(q.den:Int)*(r.den:Int)≠0:=Int.mul_ne_zero (iK q) (iK r)
theorem Bq.uk{n:Nat}{q r:Rat}(a:Bq n q)(b:Bq n r):Bd (2*n+1) (q.num*(r.den:Int)-r.num*(q.den:Int)):=((a.1.mul b.2).sub (b.1.mul a.2)).mono ()
def sgn(z:Rat):Int:=if 0<z then 1 else if z<0 then -1 else 0
def cr(a b c d x y:Rat):Rat:=(c-a)*(y-b)-(d-b)*(x-a)
abbrev wll(a b c d:Rat):D:=.tup [spt a b,spt c d]
def ah(a b c d:Rat):Prop:=a<c\/a=c/\b<d
instance(a b c d:Rat):Decidable (ah a b c d):=inferInstanceAs (Decidable (_\/_))
theorem pos_int{i:Int}(h:0<i):(0:Rat)<(i:Rat):=by rw[Rat.lt_iff];simpa using h
end Ma
namespace SD
open PySem PySem.Spec PyProof.Rows L2
def fE(names:List (Str×Lm))(env:Env):List (Str×Addr):=(names.filter fun y=>y.2==.free).reverse.map fun y=>(y.1,(env.cells.lookup y.1).getD 0)
theorem rF{scope:Lr}{env:Env}(h:∀y∈scope.names,y.2=.free->∃c,env.cells.lookup y.1=MA c):closureFor scope env=pure (fE scope.names env):=by
 have key:∀(names:List (Str×Lm)) (b:List (Str×Addr)),(∀y∈names,y.2=.free->∃c,env.cells.lookup y.1=MA c)->
  (forIn names b (fun(x:Str×Lm) (r:List (Str×Addr))=>if(x.2==Lq)=MC then do let a <-cellOf env x.1;pure (Li ((x.1,a)::r))else pure (Li r)):Sem (List (Str×Addr)))=pure (fE names env++b):=by
  intro names
  induction names with
  |nil=>intro b _;rfl
  |cons y l g=>
   intro b e
   obtain⟨n,k⟩:=y
   rw[List.forIn_cons]
   by_cases d:(k==Lq)=MC
   ·obtain⟨c,i⟩:=e (n,k) (K0 ..) (by simpa using d)
    have e1:cellOf env n=pure c:=by unfold cellOf;rw[i]
    dsimp only
    rw[MF d,e1]
    simp only[pure_bind]
    rw[g _ fun y f=>e y (JF _ f)]
    unfold fE
    rw[List.filter_cons_of_pos (by simpa using d),List.reverse_cons,Jg,Kk]
    simp[i]
   ·dsimp only
    rw[ME d]
    simp only[pure_bind]
    rw[g _ fun y f=>e y (JF _ f)]
    unfold fE
    rw[List.filter_cons_of_neg (by simpa using d)]
 have:=key scope.names [] h;rw[JM]at this;unfold closureFor;exact Eq.trans (congrArg (fun t:Sem (List (Str×Addr))=>t >>= fun j=>pure j) this) rfl
theorem qH{env:Env}{y:Str}{c:Addr}:∀{names:List (Str×Lm)},(∀z∈names,z.2=.free->∃c,env.cells.lookup z.1=MA c)->(fE names env).lookup y=MA c->env.cells.lookup y=MA c:=by intro names h e;have b:=JR e;unfold fE at b;obtain⟨z,a,e2⟩:=JH.mp b;rw[List.mem_reverse,J6]at a;obtain⟨f,d⟩:=h z a.1 (by simpa using a.2);rw[d]at e2;cases e2;exact d
theorem qo{env:Env}{y:Str}{names:List (Str×Lm)}(a:(y,Lq)∈names):∃c,(fE names env).lookup y=MA c:=by
 cases e:(fE names env).lookup y with
 |some c=>exact⟨c,rfl⟩
 |none=>
  have:=List.lookup_eq_none_iff.mp e (y,(env.cells.lookup y).getD 0) (JH.mpr ⟨(y,.free),List.mem_reverse.mpr (J6.mpr ⟨a,rfl⟩),rfl⟩)
  simp at this
theorem gC{env:Env}(d:env.scope.kind=.function):∀{names:List (Str×Lm)} {y:Str} {k:Lm},
 (names.map fun(n,k)=>if(k==Lq&&env.scope.kind==.function&&env.kindOf n==MA .cell)then(n,NameKind.cell)else(n,k)).lookup y=MA k->
  names.lookup y=MA k\/(k=.cell/\names.lookup y=MA .free)
 |[],_,_,h=>by simp at h
 |(n,q)::r,y,k,h=>by
  have e:=@gC env d r y k
  rw[IY]at h
  dsimp only at h
  by_cases b:(y==n)=MC
  ·by_cases c:(q==Lq&&env.scope.kind==.function&&env.kindOf n==MA .cell)=MC
   ·rw[MF c,Kj,b]at h
    have hf:q=.free:=by
     rw[Jn,Jn]at c
     simpa using c.1.1
    cases h
    right
    exact⟨rfl,by rw[Kj,b,hf]⟩
   ·rw[ME c,Kj,b]at h
    left
    rw[Kj,b];exact h
  ·have a:(y==n)=MD:=by simpa using b
   have f:(r.map fun(n,k)=>if(k==Lq&&env.scope.kind==.function&&env.kindOf n==MA .cell)then(n,NameKind.cell)else(n,k)).lookup y=MA k:=by
    split at h
    ·rw[Kj,a]at h;exact h
    ·rw[Kj,a]at h;exact h
   rw[Kj,a]
   exact e f
theorem lU{X:Cx}{tg a:Expr}{c b:TI}(h:PI X tg a c)(k:∀σ H R,b σ H R->c σ H R):PI X tg a b:=fun MP s σ H R I q=>h MP s σ H R I (k _ _ _ q)
def IP(K:I0)(b:TE):TI:=fun σ H R=>b σ H fun x H1=>∃a,x=.ref a/\(((∃xs,Mx K H1 a xs)/\R (X6 K a) H1)\/((∃xs,Mz K H1 a xs)/\R (X5 K a) H1))
theorem CF{X:Cx}{tg l:Expr}{j:TE}(k:PE X l j):PI X tg l (IP X.K j):=by
 intro MP s σ H R I h;refine Mp (k MP s σ H _ I h) fun v c d=>?_;obtain⟨x,H1,f,m,n⟩:=d;obtain⟨a,e,z⟩:=n;subst e;cases m
 have fp:∀b∈[c.heap.objs.size],c9 X MP H1 b:=fun b r=>by
  obtain rfl:b=c.heap.objs.size:=by simpa using r
  exact f.pY (IX _) (f.hok.fresh (IX _))
 rcases z with⟨⟨xs,i⟩,q⟩|⟨⟨xs,i⟩,q⟩
 ·obtain⟨g,t,p,u⟩:=f.list i;exact LK p.isList ⟨_,[c.heap.objs.size],_,_,H1,rfl,f.kept (t':=c.toks) fun b o e=>J0 _ e,wm a _,⟨_,J7 _ rfl,rfl,rfl⟩,fp,q⟩
 ·obtain⟨g,t,p,u⟩:=f.tuple i;exact wpAny_pyIter_tuple (show c.heap.IsTuple a g.toArray from p) ⟨_,[c.heap.objs.size],_,_,H1,rfl,f.kept (t':=c.toks) fun b o e=>J0 _ e,tE a _,⟨_,J7 _ rfl,rfl,rfl⟩,fp,q⟩
structure QY where
 n:Nat
 item:Nat->Option D
 C:MH->Prop
abbrev Nw:=DS->MH->(QY->MH->Prop)->Prop
structure VB(K:I0)(H1:Hp)(I:QY)(J:It):Prop where
 stop:∀H2 M2,Mo K H1 H2->Mw K H2 M2->I.C M2->J.stop I.n H2
 go:∀i H2 M2,i<I.n->Mo K H1 H2->Mw K H2 M2->I.C M2->J.go i H2
 yld:∀i H2 M2 v H3,i<I.n->Mo K H1 H2->Mw K H2 M2->I.C M2->J.yld i H2 v H3->Mo K H2 H3/\Mw K H3 M2/\∃d,I.item i=MA d/\Rep K H3 d v
def mD(K:I0)(t:Nw):TI:=fun σ H R=>∃δ M b,Slots K H δ σ/\Mw K H M/\t δ M b/\∀I c a J,Mo K H a->Mw K a c->b I c->VB K a I J->R J a
def DI(X:Cx)(tg a:Expr)(t:Nw):Prop:=PI X tg a (mD X.K t)
def EL(M:MH):D->List D->Prop
 |.tup ds,es=>es=ds
 |.rol ds,es=>es=ds
 |.ref a,es=>M a=MA (.lst es)
 |_,_=>False
inductive X2(ds:List D)(M:MH)(R:QY->MH->Prop):Prop
 |mk (n:Nat) (h:ds=[.int (n:Int)]) (q:n<2^60/\R ⟨n,fun i=>MA (.int (i:Int)),fun _=>True⟩ M):X2 ds M R
inductive X1(d:D)(M:MH)(R:QY->MH->Prop):Prop
 |mk (ds:List D) (h:EL M d ds) (q:R ⟨ds.length,fun i=>ds[i]?,fun M=>EL M d ds⟩ M):X1 d M R
def F0(a:NL):Nw:=fun δ M R=>a δ M fun b c=>X2 b c R
def Ik(a:TD):Nw:=fun δ M R=>a δ M fun d b=>X1 d b R
section
variable{X:Cx}{tg:Expr}
theorem wA{a:Expr}{d:NL}{p pos:Pos}(g:Gl X "range")(h:X.mg "range"=MB)(j:DA X [a] d)(b:Jd [a] X.env=[(MD,eval a X.env)]:=by rfl):DI X tg (.Call (.Name "range" p) [a] [] pos) (F0 d):=
 lU (nE g h j b) fun σ H R k=>by
  obtain⟨δ,M,y,b,l,q,c⟩:=k
  exact⟨δ,M,_,b,l,q,fun z m vs H1 o s t u=>by
   obtain⟨n,e,A,w⟩:=u
   subst e
   obtain⟨v,rfl,r⟩:=cA s
   rw[Rep]at r;subst r
   refine⟨(n:Int),rfl,(),(),c _ m H1 _ o t w ⟨fun _ _ _ _ _=>by show((n:Int)).toNat<=n;simp,fun i _ _ f _ _ _=>by show i<((n:Int)).toNat;simpa using f,?_⟩⟩
   rintro i B C v D f E x _ ⟨rfl,rfl⟩
   exact⟨.refl,x,_,rfl,by rw[Rep];simp⟩⟩
theorem aV{l:Expr}{E:TD}(G:DE X l E):DI X tg l (Ik E):=
 lU (CF G) fun σ H R I=>by
  obtain⟨δ,M,O,J,K,q,o⟩:=I
  exact⟨δ,M,_,J,K,q,fun d y v H1 A s z L=>by
   obtain⟨e,sq,B⟩:=L
   cases d with
   |tup C=>
    obtain rfl:e=C:=sq
    rw[Rep]at s
    obtain⟨a,xs,rfl,j,m⟩:=s
    refine⟨a,rfl,.inr ⟨⟨xs,j⟩,o _ y H1 _ A z B ⟨fun n _ c _ _=>⟨xs,c.t _ _ j,by rw[m.length];exact IX _⟩,fun i n _ b c _ _=>?_,?_⟩⟩⟩
    ·have g:i<xs.length:=by rw[<-m.length];exact b
     exact⟨xs,xs[i],c.t _ _ j,by simp[g]⟩
    ·rintro i n p v F b c h _ ⟨rfl,k⟩
     have b:i<e.length:=b
     obtain⟨x,e1,e2⟩:=(m.mono c).get (show e[i]?=MA e[i] by simp[b])
     have:=k xs (c.t _ _ j)
     rw[e1]at this;cases this
     exact⟨.refl,h,_,by simp[b],e2⟩
   |rol C=>
    obtain rfl:e=C:=sq
    rw[Rep]at s
    obtain⟨a,xs,rfl,j,m⟩:=s
    refine⟨a,rfl,.inl ⟨⟨xs,j.sql⟩,o _ y H1 _ A z B ⟨fun n _ c _ _=>⟨xs,(c.f _ _ j).sql,by rw[m.length];exact IX _⟩,fun i n _ b c _ _=>?_,?_⟩⟩⟩
    ·have g:i<xs.length:=by rw[<-m.length];exact b
     exact⟨xs,xs[i],(c.f _ _ j).sql,by simp[g]⟩
    ·rintro i n p v F b c h _ ⟨rfl,k⟩
     have b:i<e.length:=b
     obtain⟨x,e1,e2⟩:=(m.mono c).get (show e[i]?=MA e[i] by simp[b])
     have:=k xs (c.f _ _ j).sql
     rw[e1]at this;cases this
     exact⟨.refl,h,_,by simp[b],e2⟩
   |ref a=>
    rw[Rep]at s;subst s
    obtain⟨xs,N,m⟩:=z _ _ (show y a=MA (.lst e)from sq)
    refine⟨a,rfl,.inl ⟨⟨xs,Mx.of N⟩,o _ y H1 _ A z B ⟨fun n p c h u=>?_,fun i n p b c h u=>?_,?_⟩⟩⟩
    ·obtain⟨r,k,w⟩:=h _ _ (show p a=MA (.lst e)from u)
     exact⟨r,Mx.of k,by rw[w.length];exact IX _⟩
    ·obtain⟨r,k,w⟩:=h _ _ (show p a=MA (.lst e)from u)
     have g:i<r.length:=by rw[<-w.length];exact b
     exact⟨r,r[i],Mx.of k,by simp[g]⟩
    ·rintro i n p v F b c h u ⟨rfl,k⟩
     have b:i<e.length:=b
     obtain⟨r,D,w⟩:=h _ _ (show p a=MA (.lst e)from u)
     obtain⟨x,e1,e2⟩:=w.get (show e[i]?=MA e[i] by simp[b])
     have:=k r (Mx.of D)
     rw[e1]at this;cases this
     exact⟨.refl,h,_,by simp[b],e2⟩
   |_=>exact sq.elim⟩
inductive VE(g:Ow)(tb:NX)(B:EndsD)(I:QY)(δ0:DS)(M0:MH):Prop
 |mk (W:Nat->DS->MH->Prop) (w0:W 0 δ0 M0) (hC:∀i δ M,i<=I.n->W i δ M->I.C M) (turn:∀i d δ M,i<I.n->I.item i=MA d->W i δ M->g d δ M fun δ2 M2=>tb (B.lp (W (i+1))) δ2 M2) (done:∀δ M,W I.n δ M->B.nx δ M):VE g tb B I δ0 M0
def Hf(a:Nw)(g:Ow)(b:NX):NX:=fun B δ M=>a δ M fun I c=>VE g b B I δ c
theorem b6{b:Expr}{body:List Stmt}{R:Nw}{g:Ow}{S:NX}{pos:Pos}(Y:PassesOwn (Jh X.prog X.w) X.A X.env X.xe)(Z:X.calm=MC)(p:DI X tg b R)(hG:DG X tg g)(hb:DSs X body S)
 (hf:∀x,JA b X.env x=pure x:=by intro _;rfl):DSt X (.For tg b body [] pos) (Hf R g S):=
 dq (yL Y Z p hG hb hf) fun E σ H ⟨δ,M,T,a,B,ok,q⟩=>⟨δ,M,_,T,a,q,fun I M1 H1 J D a1 z9 O=>by
  obtain⟨W,w0,hC,r,done⟩:=z9
  refine⟨fun i m σ h=>m=I.n-i/\i<=I.n/\Mo X.K H1 h/\∃δ M,Slots X.K h δ σ/\Mw X.K h M/\W i δ M,⟨I.n,by simp,K6 _,.refl,δ,M1,T.mono D,a1,w0⟩,?_⟩
  rintro i m σ h ⟨rfl,p,s,j,l,U,F,t⟩
  by_cases e:i<I.n
  ·refine .inr ⟨O.go i h l e s F (hC _ _ _ p t),fun c o=>Mo X.K H1 o/\∃δ M,Slots X.K o δ c/\Mw X.K o M/\W (i+1) δ M,fun c o z=>⟨I.n-(i+1),(),rfl,e,z⟩,fun x o y=>?_⟩
   obtain⟨V,a3,d,ed,rd⟩:=O.yld i h l x o e s F (hC _ _ _ p t) y
   refine⟨d,j,l,_,rd,U.mono V,a3,r i d j l e ed t,fun P M4 a0 H4 g4 s4 a4 q4=>⟨P,M4,s4,a4,_,?_,q4⟩⟩
   have G:Mo X.K H1 H4:=(s.trans V).trans g4
   exact⟨fun f L c N k u C Q=>⟨G.trans k,f,L,u,C,Q⟩,fun d M v N k=>ok.rt d M v N ((D.trans G).trans k),fun f L c N k u C q'=>ok.nx _ _ _ _ ((D.trans G).trans k) u C q',fun f L c N k u C Q=>⟨G.trans k,f,L,u,C,Q⟩⟩
  ·obtain rfl:i=I.n:=()
   exact .inl ⟨O.stop h l s F (hC _ _ _ p t),ok.nx _ _ _ _ (D.trans s) U F (done j l t)⟩⟩
def Fv(i:Nat)(te:TD)(f:Int->Int->Int):NX:=fun B δ M=>∃k,δ[i]?=MA (MA (.int k))/\te δ M fun y a=>∃j,y=.int j/\B.nx (δ.set i (MA (.int (f k j)))) a
theorem yp(i:Nat){x:Str}{e:Expr}{te:TD}{op:Operator}{f:Int->Int->Int}{pos c:Pos}(l:X.N.Nodup)(m:VQ X op (XJ f))(n:DE X e te)(o:X.N[i]?=MA x:=by rfl)(p:Loc X.env.scope x:=by first|exact Or.inl rfl|exact Or.inr rfl)
 (hf:X.fn x=MC\/X.env.scope.names.lookup x=MA .local:=by first|exact .inl rfl|exact .inr rfl|assumption):DSt X (.AugAssign (.Name x c) op e pos) (Fv i te f):=
 dq (CA l o p n m hf) fun E σ H s=>by
  obtain⟨δ,M,d,a,B,ok,k,e1,q⟩:=s
  obtain⟨v,e2,r⟩:=d.at' i _ e1
  rw[Rep]at r;subst r
  refine⟨_,e2,δ,M,_,d,a,q,fun y A u H1 g h t b=>?_⟩
  obtain⟨j,w,z⟩:=b
  subst w
  rw[Rep]at h;subst h
  exact⟨k,j,rfl,rfl,ok.nx _ _ _ _ g ((d.mono g).set (by rw[Rep]) i) t z⟩
end
end SD
namespace Ma
open SD
theorem mC{a b:Int}(h:0<b):0<Rat.divInt a b↔0<a:=by
 have c:=Rat.divInt_nonneg_iff_of_pos_right (a:=-a) h;rw[<-Rat.neg_divInt]at c;have:¬(0<=-Rat.divInt a b)↔0<Rat.divInt a b:=by constructor<;>intro z<;>grind
 rw[<-this,c];omega
theorem rJ{a b:Int}(h:0<b):Rat.divInt a b<0↔a<0:=by
 have c:=Rat.divInt_nonneg_iff_of_pos_right (a:=a) h;have:¬(0<=Rat.divInt a b)↔Rat.divInt a b<0:=by constructor<;>intro z<;>grind
 rw[<-this,c];omega
theorem zY{t b:Int}(h:0<b):sgn (Rat.divInt t b)=if 0<t then 1 else if t<0 then -1 else 0:=by unfold sgn;simp only[mC h,rJ h]
theorem Ay(a b c d x y:Rat) :
 Rat.divInt ((c.num*(a.den:Int)-a.num*(c.den:Int))*(y.num*(b.den:Int)-b.num*(y.den:Int))*((d.den:Int)*(b.den:Int)*((x.den:Int)*(a.den:Int))) -
  (d.num*(b.den:Int)-b.num*(d.den:Int))*(x.num*(a.den:Int)-a.num*(x.den:Int))*((c.den:Int)*(a.den:Int)*((y.den:Int)*(b.den:Int))))
  ((c.den:Int)*(a.den:Int)*((y.den:Int)*(b.den:Int))*((d.den:Int)*(b.den:Int)*((x.den:Int)*(a.den:Int))))=cr a b c d x y:=by
 rw[<-Rat.divInt_sub_divInt _ _ (Int.mul_ne_zero (vh c a) (vh y b)) (Int.mul_ne_zero (vh d b) (vh x a)),<-Rat.divInt_mul_divInt,<-Rat.divInt_mul_divInt,sub_eq,sub_eq,sub_eq,sub_eq]
 rfl
end Ma
namespace SD
open PySem PySem.Spec PyProof.Rows L2
abbrev NM:IQ->IT->Prop:=fun _ _=>False
def cN(X:Cx)(xs:List Str)(js:List Nat):List Str:=xs++js.map fun j=>(X.N[j]?).getD ("":Str)
def cσ(os:L2.St)(js:List Nat)(σ:L2.St):L2.St:=os++js.map fun j=>(σ[j]?).join
theorem c7:∀(names:List (Str×Lm)) (n:Nat) (a:List (Str×Addr)),KL n names a=KL n names []++a
 |[],_,_=>rfl
 |(x,k)::r,n,a=>by
  unfold KL
  split
  ·rw[c7 r (n+1) ((x,n)::a),c7 r (n+1) [(x,n)],Kk];rfl
  ·exact c7 r n a
theorem jN:∀(names:List (Str×Lm)) (n:Nat) {y:Str} {c:Addr},(y,c)∈KL n names []->(y,NameKind.cell)∈names
 |[],_,_,_,h=>by cases h
 |(x,k)::r,n,y,c,h=>by
  unfold KL at h
  split at h
  ·rename_i hk
   rw[c7]at h
   rcases Jj.mp h with h|h
   ·exact JF _ (jN r _ h)
   ·have e:(y,c)=(x,n):=by simpa using h
    cases e
    obtain rfl:k=.cell:=by simpa using hk
    exact K0
  ·exact JF _ (jN r _ h)
theorem qE{l r:List (Str×Addr)}{y:Str}{c:Addr}(h:(l++r).lookup y=MA c):l.lookup y=MA c\/(l.lookup y=MB/\r.lookup y=MA c):=by
 rw[List.lookup_append]at h;cases e:l.lookup y with
 |some a=>rw[e]at h;exact .inl h
 |none=>rw[e]at h;exact .inr ⟨rfl,h⟩
theorem wN{env:Env}{y:Str}{c:Addr}{names:List (Str×Lm)}(h:(fE names env).lookup y=MA c):(y,Lq)∈names:=by
 have b:=JR h;unfold fE at b;obtain⟨z,a,e⟩:=JH.mp b;rw[List.mem_reverse,J6]at a;obtain⟨n,k⟩:=z;obtain rfl:k=.free:=by simpa using a.2
 cases e;exact a.1
theorem fW{env:Env}{k:Lm}(c:k≠.free):∀{names:List (Str×Lm)} {x:Str},names.lookup x=MA k->
 (names.map fun(n,k)=>if(k==Lq&&env.scope.kind==.function&&env.kindOf n==MA .cell)then(n,NameKind.cell)else(n,k)).lookup x=MA k
 |[],_,h=>by simp at h
 |(n,q)::r,x,h=>by
  have d:=@fW env k c r x
  rw[IY]
  dsimp only
  by_cases b:(x==n)=MC
  ·rw[Kj,b]at h
   cases h
   rw[ME (by intro z;rw[Jn,Jn]at z;exact c (by simpa using z.1.1)),Kj,b]
  ·have a:(x==n)=MD:=by simpa using b
   rw[Kj,a]at h
   split<;>(rw[Kj,a];exact d h)
theorem pG{M:Model}{A:JV}{E:IQ->IT->Prop}{s:IT}{scope:Lr}{globals:Addr}{b:List (Str×Addr)}{qual:Str}{env:Env}{Q:Env->IT->Prop} (h:Q { scope:=scope,locals:=s.heap.objs.size,globals:=globals,cells:=KL (s.heap.objs.size+1) scope.names b,qual:=qual,func:=MB,code:=env.code,frame:=env.frame,builtins:=env.builtins } { s with heap:=pushCells (s.heap.push { cls:=.type "dict",data:=.dict #[] }) scope.names }) : J3 M A (newFunctionEnv scope globals b [] qual MB .none (MA env)) Q E s:=by simp only[newFunctionEnv,Option.isSome_some,if_true];refine cc (wpAny_alloc ?_);refine cc (wpAny_layCells _ (fun name kind cells=>by cases a:kind==NameKind.cell<;>simp[a]) _ _ _ _ ?_);rw[show({ s with heap:=s.heap.push { cls:=.type "dict",data:=.dict #[] } }:IT).heap.objs.size=s.heap.objs.size+1 from Ko ..];refine cc ?_;rw[List.forIn_nil];exact IV (IV h)
def ki(scope:Lr)(C:Addr)(env:Env):Env:=
 { scope:=relabel scope env,locals:=C,globals:=env.globals,cells:=KL (C+1) scope.names (fE scope.names env),qual:=env.qual,func:=MB,code:=env.code,frame:=env.frame,builtins:=env.builtins }
def Mv(X:Cx)(xs:List Str)(js:List Nat)(scope:Lr)(C:Addr)(s:IT)(H:Hp)(fp:List Addr):Cx where
 prog:=X.prog
 w:=X.w
 K:=X.K
 mg:=X.mg
 base:=X.base
 A:=X.A
 N:=cN X xs js
 s₀:=s
 H₀:=H
 env:=ki scope C X.env
 outer:=X.stack
 stack:=X.stack
 ex:=fp
 fn:=fun y=>xs.contains y
 calm:=X.calm
 pn:=[]
 xe:=fun _ _=>False
structure Ml(X:Cx)(xs:List Str)(js:List Nat)(scope:Lr):Prop where
 kind:scope.kind=.function
 cell:∀y∈scope.names,y.2=.cell->y.1∈xs
 free':∀y∈scope.names,y.2=.free->y.1∉xs
 names:∀y∈scope.names,y.2=.local->scope.names.lookup y.1=MA .local
 own:∀x∈xs,scope.names.lookup x=MA .local\/scope.names.lookup x=MA .cell
 out:∀y∈scope.names,y.2=.free->X.env.kindOf y.1=MA .cell\/X.env.kindOf y.1=MA .free
 nd:(cN X xs js).Nodup
 js:∀j∈js,scope.names.lookup ((X.N[j]?).getD ("":Str))≠MA .local
section
variable{X:Cx}{xs:List Str}{js:List Nat}{scope:Lr}{MP:List (Addr×Obj)}{σ:L2.St}{H:Hp}{s:IT}{fp:List Addr}
theorem Ml.cells(c:Ml X xs js scope)(ok:X.Ok):∀y∈scope.names,y.2=.free->∃a,X.env.cells.lookup y.1=MA a:=fun y b hf=>ok.has _ (c.out y b hf)
theorem Ml.A7(c:Ml X xs js scope)(ok:X.Ok):closureFor scope X.env=pure (fE scope.names X.env):=rF (c.cells ok)
theorem Ml.kindOf(c:Ml X xs js scope)(ok:X.Ok){C:Addr}{y:Str}{k:Lm}(e:(ki scope C X.env).kindOf y=MA k):scope.names.lookup y=MA k\/(k=.cell/\scope.names.lookup y=MA .free):=gC ok.kind e
theorem lG(c:Ml X xs js scope)(I:Inv X MP σ H s)(hf:∀b∈fp,c9 X MP H b)(A:∀b∈fp,b<s.heap.objs.size){h':Heap}(P:h'=pushCells (s.heap.push { cls:=.type "dict",data:=.dict #[] }) scope.names)(k:∀b o,s.heap.get? b=MA o->h'.get? b=MA o) :
 Inv (Mv X xs js scope s.heap.objs.size s H fp) [] (cσ (Jk xs.length MB) js σ) H { s with heap:=h' }:=by
 have ok:=I.ok
 have Y:h'.Ns s.heap.objs.size fun _=>MB:=by rw[P];exact(Heap.Ns.new s.heap (.type "dict")).keeps (pushCells_keeps _ _)
 have t:CellsOk h' (s.heap.objs.size+1) (KL (s.heap.objs.size+1) scope.names []):=by
  have:=cellsFrom_ok scope.names (s.heap.push { cls:=.type "dict",data:=.dict #[] }) (s.heap.objs.size+1) [] ⟨fun _ _ B=>(nomatch B),List.Pairwise.nil⟩ (by rw[Ko];exact IX _)
  rw[Ko]at this
  rw[P];exact this
 have Q:∀{y:Str} {a:Addr},(fE scope.names X.env).lookup y=MA a->X.env.cells.lookup y=MA a:=fun e=>qH (c.cells ok) e
 have D:∀{y:Str} {a:Addr},X.env.cells.lookup y=MA a->a<s.heap.objs.size:=fun e=>by obtain⟨v,z⟩:=I.cell _ _ e;exact z.lt
 have d:∀{y:Str} {a:Addr},(ki scope s.heap.objs.size X.env).cells.lookup y=MA a->((y,a)∈KL (s.heap.objs.size+1) scope.names []/\s.heap.objs.size<a)\/X.env.cells.lookup y=MA a:=fun{y a} e=>by
  have e:(KL (s.heap.objs.size+1) scope.names (fE scope.names X.env)).lookup y=MA a:=e
  rw[c7]at e
  rcases qE e with z|⟨_,z⟩
  ·exact .inl ⟨JR z,(t.empty _ _ (JR z)).2⟩
  ·exact .inr (Q z)
 have free:∀{y:Str},(ki scope s.heap.objs.size X.env).kindOf y=MA .cell\/(ki scope s.heap.objs.size X.env).kindOf y=MA .free->scope.names.lookup y=MA .cell\/scope.names.lookup y=MA .free:=fun{y} e=>by
  rcases e with e|e
  ·rcases c.kindOf ok e with z|⟨_,z⟩
   ·exact .inl z
   ·exact .inr z
  ·rcases c.kindOf ok e with z|⟨z,_⟩
   ·exact .inr z
   ·cases z
 refine⟨⟨ok.mod,c.kind,ok.glob,ok.blt,IX _,fun y z a f g=>?_,fun y J=>?_,fun y a h e=>?_,ok.hd,ok.frames,.inl rfl,fun b w=>⟨JE (A b w),fun y a e=>?_⟩,
  I.bs,K3 ok.bsz I.sz,fun b o e w=>?_,fun b w=>?_,I.stack,I.tY⟩,rfl,I.bare,Un.kept k,?_,fun y a e=>?_,I.hok.fresh (IX _),fun y a e=>?_,fun p Z=>absurd (show p∈([]:List (Addr×Obj))from Z) (by simp),I.hok.kept k,?_⟩
 ·rcases d f with⟨m1,l1⟩|R<;>rcases d g with⟨m2,l2⟩|S
  ·exact name_of_addr t.apart m1 m2
  ·exact absurd (D S) (Nat.not_lt.mpr (Nat.le_of_lt l1))
  ·exact absurd (D R) (Nat.not_lt.mpr (Nat.le_of_lt l2))
  ·exact ok.inj y z a R S
 ·show ∃c,(KL (s.heap.objs.size+1) scope.names (fE scope.names X.env)).lookup y=MA c
  rw[c7,List.lookup_append]
  rcases free J with z|z
  ·obtain⟨a,e⟩:=mw (n:=s.heap.objs.size+1) z
   exact⟨a,by rw[e];rfl⟩
  ·obtain⟨a,e⟩:=qo (env:=X.env) (JR z)
   cases q:(KL (s.heap.objs.size+1) scope.names []).lookup y with
   |none=>exact⟨a,by rw[e];rfl⟩
   |some G=>exact⟨G,rfl⟩
 ·have hx:y∈xs:=by simpa[Mv]using h
  have e:(KL (s.heap.objs.size+1) scope.names (fE scope.names X.env)).lookup y=MA a:=e
  rw[c7]at e
  rcases qE e with z|⟨_,z⟩
  ·exact Nat.le_of_lt (t.empty _ _ (JR z)).2
  ·exact absurd hx (c.free' _ (wN z) rfl)
 ·rcases d e with⟨_,l⟩|o
  ·exact Nat.ne_of_gt (Nat.lt_trans (A b w) l)
  ·exact(hf b w).2.2.2.2.1 y a o
 ·rcases(hf b w).2.2.2.1 with z|z
  ·exact ok.noex b o e z
  ·exact absurd (Jm (Jm (J9 e) ok.bsz) z) (Nat.lt_irrefl _)
 ·intro z
  rcases Jo.mp (I.sV b z)with y|y
  ·exact(hf b w).2.1 y
  ·exact(hf b w).2.2.1 y
 ·refine⟨_,Y,fun i y v f g h3=>?_⟩
  have f:(xs++js.map fun j=>(X.N[j]?).getD ("":Str))[i]?=MA y:=f
  have g:(Jk xs.length (MB:Option V)++js.map fun j=>(σ[j]?).join)[i]?=MA (MA v):=g
  by_cases T:i<xs.length
  ·rw[JD (by simpa using T),List.getElem?_replicate,MF T]at g
   cases g
  ·have x:y∉xs:=fun J=>by
    rw[JZ ()]at f
    have nd:=c.nd
    unfold cN at nd
    exact(LL.mp nd).2.2 y J y (IZ f) rfl
   rw[JZ ()]at f
   rw[JZ (by simp;omega)]at g
   rw[List.length_replicate]at g
   rw[IW]at f g
   cases K:js[i-xs.length]? with
   |none=>rw[K]at f;cases f
   |some j=>
    rw[K]at f g
    have e1:(X.N[j]?).getD ("":Str)=y:=Option.some.inj f
    have e2:(σ[j]?).join=MA v:=Option.some.inj g
    have e3:σ[j]?=MA (MA v):=by
     cases q:σ[j]? with
     |none=>rw[q]at e2;cases e2
     |some o=>rw[q]at e2;exact congrArg MA e2
    have hj:j<X.N.length:=by rw[<-I.len];exact(J1.mp e3).1
    have e4:X.N[j]?=MA y:=by
     rw[IS hj]at e1 ⊢
     exact congrArg MA e1
    have nl:scope.names.lookup y≠MA .local:=by
     have:=c.js j (IZ K)
     rw[e1]at this
     exact this
    have U:(ki scope s.heap.objs.size X.env).kindOf y=MA .cell\/(ki scope s.heap.objs.size X.env).kindOf y=MA .free:=by
     rcases h3 with z|z|z
     ·rcases c.kindOf (C:=s.heap.objs.size) ok z with q|⟨q,_⟩
      ·exact absurd q nl
      ·cases q
     ·exact .inl z
     ·exact .inr z
    have B:(y,Lq)∈scope.names:=by
     rcases free U with z|z
     ·exact absurd (c.cell _ (JR z) rfl) x
     ·exact JR z
    obtain⟨a,W⟩:=qo (env:=X.env) B
    have L:(ki scope s.heap.objs.size X.env).cells.lookup y=MA a:=by
     show(KL (s.heap.objs.size+1) scope.names (fE scope.names X.env)).lookup y=MA a
     rw[c7,List.lookup_append]
     cases q:(KL (s.heap.objs.size+1) scope.names []).lookup y with
     |none=>rw[W];rfl
     |some G=>exact absurd (c.cell _ (jN _ _ (JR q)) rfl) x
    have E:Uy X.env.scope y:=by
     rcases c.out _ B rfl with z|z
     ·exact .inr (.inl z)
     ·exact .inr (.inr z)
    obtain⟨m,_,hl⟩:=I.loc
    obtain⟨u,r,l⟩:=hl j y v e4 e3 E
    refine⟨u,r,?_⟩
    rcases l with⟨z,_⟩|⟨_,G,M,o,O,hd⟩
    ·rcases c.out _ B rfl with q|q
     ·have F:X.env.kindOf y=MA .local:=z
      rw[q]at F;cases F
     ·have F:X.env.kindOf y=MA .local:=z
      rw[q]at F;cases F
    ·refine .inr ⟨U,G,?_,o,k _ _ O,hd⟩
     have:=Q W
     rw[M]at this
     cases this
     exact L
 ·rcases d e with⟨m,_⟩|o
  ·exact⟨_,(t.empty _ _ m).1⟩
  ·obtain⟨v,o,O,hd⟩:=I.cell y a o
   exact⟨v,o,k _ _ O,hd⟩
 ·rcases d e with⟨_,l⟩|o
  ·exact I.hok.fresh (Nat.le_of_lt l)
  ·exact I.freeC y a o
 ·show(cσ (Jk xs.length MB) js σ).length=(cN X xs js).length
  unfold cσ cN
  simp
end
def Qx(X:Cx)(a:List Expr)(t:TT):Prop:=∀(MP:List (Addr×Obj)) (s:IT) (σ:L2.St) (H:Hp) (Q:Bool->Hp->Prop),Inv X MP σ H s->t σ H Q->
 J3 (Jh X.prog X.w) X.A (forIn a MC fun c r=>if r=MC then do let ok <-isTrue c X.env (eval c X.env);pure (Li ok)else pure (Li r)) (TP X MP σ Q) X.xe s
theorem Ba{X:Cx}:Qx X [] (fun _ H Q=>Q MC H):=fun MP s σ H Q I q=>wpAny_tests_nil ⟨H,I,q⟩
theorem A9{X:Cx}{c:Expr}{t:TT}(h:PT X c t):Qx X [c] t:=fun MP s σ H Q I q=>wpAny_tests_one (h MP s σ H Q I q)
theorem vS{prog:Jl}{w:JO}{A:JV}{R:Result->IT->Prop}{s:IT}{d a b:Expr}{f:List Expr}{scope:Lr}{pos:Pos}{it g:IQ}{env:Env}(J:Nat->IT->Prop)
 (step:∀n s,J n s->J3 (Jh prog w) A (pyNext it) (fun r j=>match r with
  |none=>R (.ok .next) j
  |some v=>J3 (Jh prog w) A (KU a it v) (fun _ l=>J3 (Jh prog w) A (LQ a env v) (fun _ o=>
   J3 (Jh prog w) A (forIn f MC fun c r=>if r=MC then do let ok <-isTrue c env (eval c env);pure (Li ok)else pure (Li r)) (fun ok k=>
    if ok=MC then J3 (Jh prog w) A (eval d env) (fun x p=>J3 (Jh prog w) A (call (.builtin "list.append") [g,x]) (fun _ q=>∃m,m<n/\J m q) NM p) NM k
    else ∃m,m<n/\J m k) NM o) NM l) NM j) NM s)
 (n:Nat) (h:J n s):Le (Jh prog w) A (.compLoop (.ListComp d [⟨a,b,f,0⟩] scope pos) 0 it g env) R s:=by
 have i:∀{E:IQ->IT->Prop} e t,NM e t->E e t:=fun _ _ z=>z.elim
 refine codeAny_loop rfl J (fun n s B=>?_) n h
 show J3 _ _ (Sem.onRaise (compTurn (.ListComp d [⟨a,b,f,0⟩] scope pos) 0 it g env) (fun x=>do noteFrame x env;theTreesLotGoes x)) _ _ s
 refine wpAny_noted ?_
 rw[compTurn_list]
 refine cc (Kz (cc (Jc (step n s B) (fun r j u=>?_) i)))
 cases r with
 |none=>exact IV u
 |some v=>
  refine cc (Jc u (fun _ l C=>cc (Jc C (fun _ o D=>cc (Jc D (fun ok k y=>?_) i)) i)) i)
  cases ok with
  |false=>exact IV ⟨rfl,y⟩
  |true=>exact cc (cc (Jc y (fun x p F=>cc (Jc F (fun _ q G=>IV (IV ⟨rfl,G⟩)) i)) i))
abbrev Own:=V->Hp->L2.St->Prop
structure Ny(n:Nat)(g:TG)(own:Own):Prop where
 len:∀y H os,own y H os->os.length=n
 run:∀y H os0 tail os (Q:L2.St->Hp->Prop),os0.length=n->own y H os->Q (os++tail) H->g y (os0++tail) H Q
def B3(js:List Nat)(own:Own)(tc:TT)(te:TE)(σ:L2.St)(J:It)(H1:Hp)(Q:VK):Prop:=∀D,H1 D=MB->∃W:Nat->Nat->Hp->Prop,(∃m,W 0 m (upd H1 D (.lst [])))/\∀i m H,W i m H->
 (J.stop i H/\Q (.ref D) H)\/(J.go i H/\∀y c,J.yld i H y c->∃os,own y c os/\tc (cσ os js σ) c fun b d=>if b=MC then
  te (cσ os js σ) d fun v e=>∃xs,e D=MA (.lst xs)/\xs.length<J8/\∃a,a<m/\W (i+1) a (upd e D (.lst (xs++[v])))else ∃a,a<m/\W (i+1) a d)
def rR(js:List Nat)(own:Own)(a:TI)(tc:TT)(te:TE):TE:=fun σ H Q=>a σ H fun J H1=>B3 js own tc te σ J H1 Q
section
variable{X:Cx}{xs:List Str}{tg:Expr}{pos:Pos}{js:List Nat}{scope:Lr}{elt iter:Expr}{ifs:List Expr}{te:TE}{tc:TT}{g:TG}{own:Own}{wi:TI}{MP:List (Addr×Obj)}{σ:L2.St}{H:Hp}{s:IT}{fp:List Addr}{it:Addr}{tn:Nat->Heap->Prop}{J:It}
theorem pX(c:Ml X xs js scope)(hc:X.calm=MC)(hG:Ny xs.length g own)(hg:∀C s H fp,PG (Mv X xs js scope C s H fp) tg g)(ht:∀C s H fp,Qx (Mv X xs js scope C s H fp) ifs tc)(he:∀C s H fp,PE (Mv X xs js scope C s H fp) elt te)
 {R:IQ->Addr->Result->IT->Prop} {E:IQ->IT->Prop} {Q:VK}
 (I:Inv X MP σ H s) (T:Turn X.prog X.w X.K tg J fp it tn) (st:tn 0 s.heap) (hf:∀b∈fp,c9 X MP H b) (wc:B3 js own tc te σ J H Q)
 (hR:∀D C f F,Inv X MP σ f F->c9 X MP f C->(∃m,F.heap.Ns C m)->Q (.ref D) f->R (.ref D) C (.ok .next) F) :
 J3 (Jh X.prog X.w) X.A (newList []) (fun d0 e0=>J3 (Jh X.prog X.w) X.A (newFunctionEnv scope X.env.globals (fE scope.names X.env) [] X.env.qual MB .none (MA X.env)) (fun N f0=>
  Le (Jh X.prog X.w) X.A (.compStart (.ListComp elt [⟨tg,iter,ifs,0⟩] scope pos) 0 (.ref it) d0 { N with scope:=relabel scope X.env }) (R d0 N.locals) f0) E e0) E s:=by
 have g0:∀b∈fp,b<s.heap.objs.size:=fun b a=>let⟨o,e,_⟩:=T.obj 0 _ st b a;J9 e
 have hD:H s.heap.objs.size=MB:=I.hok.fresh (IX _)
 refine JG (pG ?_)
 generalize hh:s.heap.push { cls:=.type "list",dict:=MB,data:=.seq ([]:List IQ).toArray }=h
 generalize h0:pushCells (({ s with heap:=h }:IT).heap.push { cls:=.type "dict",data:=.dict #[] }) scope.names=j
 have k3:∀b o,s.heap.get? b=MA o->h.get? b=MA o:=fun b o e=>by rw[<-hh];exact J0 _ e
 have I3:Inv X MP σ (upd H s.heap.objs.size (.lst [])) { s with heap:=h }:=by
  refine I.laid (t':=s.toks) k3 (IX _) ?_
  refine⟨K6 _,[],0,.nil,?_⟩
  rw[<-hh]
  exact J7 _ rfl
 have k:∀b∈fp,c9 X MP (upd H s.heap.objs.size (.lst [])) b:=fun b a=>⟨by rw[bg (JE (g0 b a))];exact(hf b a).1,(hf b a).2⟩
 have s0:h.objs.size=s.heap.objs.size+1:=by rw[<-hh,Ko]
 have i0:∀b∈fp,b<h.objs.size:=fun b a=>by rw[s0];exact Nat.lt_succ_of_lt (g0 b a)
 have k4:∀b o,h.get? b=MA o->j.get? b=MA o:=fun b o e=>by rw[<-h0];exact pushCells_keeps _ _ b o (J0 _ e)
 have I4:=lG c I3 k i0 (h':=j) h0.symm k4
 obtain⟨W,⟨m0,w0⟩,k0⟩:=wc _ hD
 have PK:tn 0 j:=T.keep 0 _ _ st fun b a o e=>k4 b o (k3 b o e)
 generalize hX:Mv X xs js scope h.objs.size { s with heap:=h } (upd H s.heap.objs.size (.lst [])) fp=X' at I4
 have S:∀{pins':List (Addr×Obj)} {f:Hp} {G:L2.St} {F:IT},Inv X' [] G f F->(∀b∈fp,f b=MB)->∀b∈fp,c9 X' [] f b:=fun{pins' f G F} J' hn b a=>by
  subst hX
  obtain⟨a1,a2⟩:=J'.ok.exf b a
  exact⟨hn b a,a1,J'.ok.exfs b a,.inl a,a2,fun p hp=>absurd (show p∈([]:List (Addr×Obj))from hp) (by simp)⟩
 have O:Le (Jh X.prog X.w) X.A (.compLoop (.ListComp elt [⟨tg,iter,ifs,0⟩] scope pos) 0 (.ref it) (.ref s.heap.objs.size) (ki scope h.objs.size X.env)) (R (.ref s.heap.objs.size) h.objs.size)
  { s with heap:=j }:=by
  refine vS (fun n F=>∃i os f,os.length=xs.length/\Inv X' [] (cσ os js σ) f F/\tn i F.heap/\(∀b∈fp,f b=MB)/\W i n f) ?_ m0 ⟨0,_,_,by simp,I4,PK,fun b a=>(k b a).1,w0⟩
  rintro n s5 ⟨i,os,H5,t0,I5,OU,l0,w5⟩
  rcases k0 i n H5 w5 with⟨stop,q⟩|⟨go,step⟩
  ·subst hX
   refine Jc (T.done (Mv X xs js scope h.objs.size { s with heap:=h } (upd H s.heap.objs.size (.lst [])) fp) rfl rfl rfl hc i [] s5 _ H5 NM I5 (S (pins':=[]) I5 l0) OU stop) (fun r s6 U=>?_) fun _ _ z=>z
   obtain⟨hr,I6⟩:=U
   subst hr
   refine hR _ _ H5 s6 (I3.yW I6.os I6.base I6.hok I6.bare fun b a=>⟨(k b a).2.2.2.1,(k b a).2.1,(k b a).2.2.2.2.1,(k b a).2.2.2.2.2⟩) (I3.pY (IX _) I6.free) (let⟨m,hm,_⟩:=I6.loc;⟨m,hm⟩) q
  ·subst hX
   refine Jc (T.item (Mv X xs js scope h.objs.size { s with heap:=h } (upd H s.heap.objs.size (.lst [])) fp) rfl rfl rfl hc i [] s5 _ H5 NM I5 (S (pins':=[]) I5 l0) OU go) (fun r s6 V=>?_) fun _ _ z=>z
   obtain⟨u,hr,h6⟩:=V
   subst hr
   refine Jc h6 (fun _ s7 Y=>?_) fun _ _ z=>z
   obtain⟨y,H7,I7,r7,y7,OX,u0⟩:=Y
   have v0:=I7.pinned (S (pins':=[]) I7 u0) (T.obj _ _ OX)
   obtain⟨L,n0,q8⟩:=step y H7 y7
   have l8:=hG.len _ _ _ n0
   refine Jc (hg _ _ _ _ _ s7 _ H7 y u (fun G f=>G=cσ L js σ/\f=H7) v0 r7 (hG.run y H7 os _ L _ t0 n0 ⟨rfl,rfl⟩)) (fun _ s8 Z=>?_) fun _ _ z=>z
   obtain⟨e1,H8,I8,e8,x0⟩:=Z
   subst e8 x0
   refine Jc (ht _ _ _ _ _ s8 _ _ _ I8 q8) (fun ok s9 a0=>?_) fun _ _ z=>z
   obtain⟨H9,I9,q9⟩:=a0
   have P:∀{M:Nat} {l:Hp} {t:IT},Inv (Mv X xs js scope h.objs.size { s with heap:=h } (upd H s.heap.objs.size (.lst [])) fp) ([]++gv fp s7.heap) (cσ L js σ) l t->M<n->W (i+1) M l->
    ∃m,m<n/\∃i os f,os.length=xs.length/\Inv (Mv X xs js scope h.objs.size { s with heap:=h } (upd H s.heap.objs.size (.lst [])) fp) [] (cσ os js σ) f t/\tn i t.heap/\(∀b∈fp,f b=MB)/\W i m f:=fun{M l t} x B y0=>by
    refine⟨M,B,i+1,L,l,l8,x.eE,T.keep _ _ _ OX fun b a o e=>(x.pin (b,o) (Jb _ (Jb _ (bX a e)))).1,fun b a=>?_,y0⟩
    obtain⟨o',e,d⟩:=T.obj _ _ OX b a
    exact(x.pin (b,o') (Jb _ (Jb _ (bX a e)))).2.1
   cases ok with
   |false=>
    rw[ME Jf]at q9 ⊢
    obtain⟨M,B,w9⟩:=q9
    exact P I9 B w9
   |true=>
    rw[MF rfl]at q9 ⊢
    refine Jc (he _ _ _ _ _ s9 _ _ _ I9 q9) (fun v t b0=>?_) fun _ _ z=>z
    obtain⟨vv,l,x,z0,ys,o0,r0,b1⟩:=b0
    refine Jc (jI (X:=(Mv X xs js scope h.objs.size { s with heap:=h } (upd H s.heap.objs.size (.lst [])) fp)) _ t _ l (.ref s.heap.objs.size) [vv] (.ref s.heap.objs.size) [v] (fun _ f=>∃M,M<n/\W (i+1) M f) x rfl (.cons z0 .nil) ⟨_,ys,vv,rfl,rfl,o0,r0,b1⟩) (fun _ f1 c0=>?_) fun _ _ z=>z
    obtain⟨_,g1,c1,_,M,B,d1⟩:=c0
    exact P c1 B d1
 exact codeAny_compStart_list O (T.self X.A 0 _ _ _ PK O)
theorem Be(c:Ml X xs js scope)(k:X.calm=MC)(l:PI X tg iter wi)(n:Ny xs.length g own)(p:∀C s H fp,PG (Mv X xs js scope C s H fp) tg g)(r:∀C s H fp,Qx (Mv X xs js scope C s H fp) ifs tc)(t:∀C s H fp,PE (Mv X xs js scope C s H fp) elt te)(u:∀x,JA iter X.env x=pure x:=by intro _;rfl) : PE X (.ListComp elt [⟨tg,iter,ifs,0⟩] scope pos) (rR js own wi tc te):=by intro MP s σ H Q I h;rw[eval_ListComp];refine wpAny_comprehension_free (use:=MB) rfl u (c.A7 I.ok) c.kind c.names (Mp (l MP s σ H _ I h) fun v M y=>Mp y fun z N a=>?_);obtain⟨it,fp,tn,J,O,e,B,T,st,E,w⟩:=a;subst e;refine pX (R:=fun i C=>compPost (Jh X.prog X.w) X.A X.xe MB (EP X MP σ Q) i C) c k n p r t B T st E w fun D C F G K f d q=>?_;obtain⟨m,L⟩:=d;exact⟨m,L,fun P j=>⟨.ref D,F,K.turned (t':=G.toks) (fun b o ne e=>j.extBut b o ne e) f.1 f.2.1 f.2.2.2.1 f.2.2.2.2.1 f.2.2.2.2.2,rfl,q⟩⟩
theorem A4{i:Nat}{y:Str}{l j:Pos}(c:Ml X xs js scope)(F:X.calm=MC)(G:X.N.Nodup)(K:PI X tg iter wi)(L:Ny xs.length g own)(M:∀C s H fp,PG (Mv X xs js scope C s H fp) tg g)(O:∀C s H fp,Qx (Mv X xs js scope C s H fp) ifs tc)(P:∀C s H fp,PE (Mv X xs js scope C s H fp) elt te)(S:X.N[i]?=MA y)(E:X.env.scope.names.lookup y=MA .local)
 (p:LP (.ListComp elt [⟨tg,iter,ifs,0⟩] scope pos) (MA (.Name y l)) j.line X.env=pure MC) (U:∀x,JA iter X.env x=pure x:=by intro _;rfl) :
 PS X (.Assign [.Name y l] (.ListComp elt [⟨tg,iter,ifs,0⟩] scope pos) j) (AK (rR js own wi tc te) (gr i)):=by
 intro MP s σ H B I h
 rw[exec_Assign_Name_used _ _ _ _ p]
 refine cc (Kz (cc ?_))
 show J3 _ X.A (do let _ <-comprehension (.ListComp elt [⟨tg,iter,ifs,0⟩] scope pos) scope X.env _ (newList []) MD (eval iter X.env) (MA (LQ (.Name y l) X.env))) _ _ s
 refine cc (Jc (wpAny_comprehension_free (use:=MA (LQ (.Name y l) X.env)) (Q:=fun _ n=>SP X MP B .next n) rfl U (c.A7 I.ok) c.kind c.names
  (Mp (K MP s σ H _ I h) fun v s1 V=>Mp V fun W s2 z=>?_)) (fun _ n Y=>IV (IV Y)) fun _ _ e=>e)
 obtain⟨it,fp,tn,J,H2,e,Z,T,st,f2,w⟩:=z
 subst e
 refine pX (R:=fun r C=>compPost (Jh X.prog X.w) X.A X.xe (MA (LQ (.Name y l) X.env)) (fun _ n=>SP X MP B .next n) r C) c F L M O P Z T st f2 w fun D C H' n I' k d q=>?_
 obtain⟨m,hm⟩:=d
 show J3 _ X.A (LQ (.Name y l) X.env (.ref D)) _ _ _
 refine wpAny_assign_Name (jJ I' G S (.inl E) (v:=.ref D) rfl (fun s9 I9 f=>?_) (.inr E))
 obtain⟨a,sb,ha⟩:=f
 have t:C≠a:=by
  rcases ha with z|z
  ·rw[z];exact k.2.1
  ·exact fun e=>k.2.2.2.2.1 y a z e.symm
 refine⟨m,hm.sameBut sb t,fun h' u=>?_⟩
 exact⟨_,H',I9.turned (t':=s9.toks) (fun b o ne e=>u.extBut b o ne e) k.1 k.2.1 k.2.2.2.1 k.2.2.2.2.1 k.2.2.2.2.2,q⟩
end
inductive PU where
 |one|many (n:Nat)
def qR(K:I0):PU->Own
 |.one=>fun y _ os=>os=[MA y]
 |.many n=>fun y H os=>∃a xs,y=.ref a/\Mz K H a xs/\xs.length=n/\os=xs.map MA
theorem rT{K:I0}:Ny 1 (gr 0) (qR K .one):=⟨fun _ _ os h=>by rw[h];rfl,fun y H b a os Q c d q=>by
 obtain⟨o,rfl⟩:=Ae c
 rw[show os=[MA y]from d]at q;exact q⟩
theorem Dc{K:I0}:Ny 2 (CU K 2 (p8 (gr 0) (p8 (gr 1) E1))) (qR K (.many 2)):=⟨fun _ _ os z=>by
 obtain⟨a,xs,_,_,b,e⟩:=z
 rw[e];simpa using b,fun y H f c os Q b z q=>by
 obtain⟨a,xs,e,g,d,h⟩:=z
 obtain⟨o,i,rfl⟩:=xN b
 obtain⟨u,v,rfl⟩:=xN d
 rw[h]at q;exact⟨a,_,e,g,d,u,_,rfl,v,_,rfl,rfl,q⟩⟩
def zp:PU->D->DS->Prop
 |.one,d,os=>os=[MA d]
 |.many n,d,os=>∃a,d=.tup a/\a.length=n/\os=a.map MA
def cδ(os:DS)(js:List Nat)(δ:DS):DS:=os++js.map fun j=>(δ[j]?).join
theorem kB{K:I0}{H:Hp}{δ os:DS}{σ us:L2.St}{js:List Nat}(c:Slots K H δ σ)(r:Slots K H os us):Slots K H (cδ os js δ) (cσ us js σ):=by
 refine⟨by simp[cδ,cσ,r.len],fun i e q=>?_⟩;unfold cδ at q;unfold cσ;by_cases a:i<os.length
 ·rw[JD a]at q;rw[JD (by rw[<-r.len];exact a)];exact r.at' i e q
 ·rw[JZ ()]at q;rw[JZ (by rw[<-r.len];omega),<-r.len];rw[IW]at q ⊢;cases b:js[i-os.length]? with
  |none=>rw[b]at q;cases q
  |some j=>
   rw[b]at q
   have e2:(δ[j]?).join=MA e:=Option.some.inj q
   have e3:δ[j]?=MA (MA e):=by
    cases z:δ[j]? with
    |none=>rw[z]at e2;cases e2
    |some o=>rw[z]at e2;exact congrArg MA e2
   obtain⟨d,e4,f⟩:=c.at' j e e3
   exact⟨d,by rw[show(MA j).map (fun j=>(σ[j]?).join)=MA ((σ[j]?).join)from rfl,e4];rfl,f⟩
theorem ju{K:I0}{H:Hp}{a:List D}{xs:List V}(r:aI K H a xs):Slots K H (a.map MA) (xs.map MA):=by
 refine⟨by simp[r.length],fun i d e=>?_⟩;rw[IW]at e ⊢;cases q:a[i]? with
 |none=>rw[q]at e;cases e
 |some b=>
  rw[q]at e;cases e
  obtain⟨x,e1,e2⟩:=r.get q
  exact⟨x,by rw[e1];rfl,e2⟩
theorem qy{K:I0}{H:Hp}{tk:PU}{d:D}{v:V}{os:DS}(r:Rep K H d v)(h:zp tk d os):∃us,qR K tk v H us/\Slots K H os us:=by
 cases tk with
 |one=>
  rw[show os=[MA d]from h]
  exact⟨[MA v],rfl,ju (.cons r .nil)⟩
 |many n=>
  obtain⟨f,rfl,c,rfl⟩:=h
  rw[Rep]at r
  obtain⟨a,xs,rfl,e,b⟩:=r
  exact⟨_,⟨a,xs,rfl,e,by rw[<-b.length];exact c,rfl⟩,ju b⟩
def ly:NP:=fun _ M Q=>Q MC M
def xh(I:QY)(tk:PU)(js:List Nat)(tc:NP)(te:TD)(δ:DS)(f:MH)(Q:DK):Prop:=I.n<=1000000/\∀p,f p=MB->∃W:Nat->List D->MH->Prop,W 0 [] (aA f p (.lst []))/\(∀i a M,i<=I.n->W i a M->I.C M)/\
 (∀i a d M,i<I.n->I.item i=MA d->W i a M->∃os,zp tk d os/\tc (cδ os js δ) M fun b g=>if b=MC then te (cδ os js δ) g fun e h=>∃c,Sub c h/\c p=MA (.lst a)/\W (i+1) (a++[e]) (aA c p (.lst (a++[e])))else ∃c,Sub c g/\W (i+1) a c)/\∀a M,W I.n a M->Q (.ref p) M
def jG(a:Nw)(tk:PU)(js:List Nat)(tc:NP)(te:TD):TD:=fun δ M Q=>a δ M fun I b=>xh I tk js tc te δ b Q
section
variable{X:Cx}{K:I0}
theorem n8{D:Nw}{tk:PU}{js:List Nat}{tc:NP}{te:TD}{σ:L2.St}{H:Hp}{Q:VK}(h:lift K (jG D tk js tc te) σ H Q):rR js (qR K tk) (mD K D) (liftT K tc) (lift K te) σ H Q:=by
 obtain⟨δ,M,R,E,T,q,t⟩:=h;refine⟨δ,M,_,E,T,q,fun I M1 H1 J F G w x p y=>?_⟩;obtain⟨U,w⟩:=w;obtain⟨W,V,hC,l,done⟩:=w p (G.fresh y);refine⟨fun i m j=>m=I.n-i/\i<=I.n/\Mo K H1 j/\∃c M,c.length<=i/\Mw K j M/\W i c M,⟨I.n,by simp,K6 _,.new y,[],_,IX _,G.nh y .nil,V⟩,?_⟩;rintro i m j ⟨rfl,z,f,c,k,Y,r,o⟩;by_cases a:i<I.n
 ·refine .inr ⟨x.go i j k a f r (hC _ _ _ z o),fun v Z hy=>?_⟩;obtain⟨A,a3,d,ed,rd⟩:=x.yld i j k v Z a f r (hC _ _ _ z o) hy;obtain⟨os,ow,q3⟩:=l i c d k a ed o;obtain⟨us,uv,su⟩:=qy rd ow;have L:=kB (js:=js) (E.mono ((F.trans f).trans A)) su;refine⟨us,uv,cδ os js δ,k,_,L,a3,q3,fun b M4 H4 B N s=>?_⟩;cases b with
  |false=>
   rw[ME Jf]at s ⊢
   obtain⟨M5,s5,w5⟩:=s
   exact⟨I.n-(i+1),(),rfl,a,(f.trans A).trans B,c,M5,(),N.sub s5,w5⟩
  |true=>
   rw[MF rfl]at s ⊢
   refine⟨cδ os js δ,M4,_,L.mono B,N,s,fun e M' u H5 g5 r5 O g=>?_⟩
   obtain⟨M6,P,e6,w6⟩:=g
   obtain⟨zs,C,S⟩:=(O.sub P) _ _ e6
   refine⟨zs,C,?_,I.n-(i+1),(),rfl,a,(((f.trans A).trans B).trans g5).trans (.lst C),c++[e],_,by simp;omega,(O.sub P).wD C (S.append (.cons r5 .nil)),w6⟩
   rw[<-S.length]
   exact Nat.lt_of_le_of_lt Y (Jm a (K3 U ⋯))
 ·obtain rfl:i=I.n:=()
  exact .inl ⟨x.stop j k f r (hC _ _ _ z o),t _ _ _ _ (F.trans f) (by rw[Rep]) r (done c k o)⟩
variable{xs:List Str}{tg:Expr}{pos:Pos}{js:List Nat}{scope:Lr}{elt iter:Expr}{ifs:List Expr}{te:TD}{tc:NP}{g:TG}{tk:PU}{wd:Nw}
def DTs(X:Cx)(ifs:List Expr)(t:NP):Prop:=Qx X ifs (liftT X.K t)
theorem cJ:DTs X [] ly:=fun MP s σ H Q I a=>by obtain⟨δ,M,R,d,c,q,b⟩:=a;exact(Ba MP s σ H Q I (b _ _ _ .refl c q))
theorem kL{c:Expr}{t:NP}(h:DT X c t):DTs X [c] t:=A9 h
theorem t8(c:Ml X xs js scope)(a:X.calm=MC)(b:DI X tg iter wd)(d:Ny xs.length g (qR X.K tk))(e:∀C s H fp,PG (Mv X xs js scope C s H fp) tg g)(f:∀C s H fp,DTs (Mv X xs js scope C s H fp) ifs tc)(i:∀C s H fp,DE (Mv X xs js scope C s H fp) elt te) (j:∀x,JA iter X.env x=pure x:=by intro _;rfl):DE X (.ListComp elt [⟨tg,iter,ifs,0⟩] scope pos) (jG wd tk js tc te):=bw (Be (te:=lift X.K te) (tc:=liftT X.K tc) c a b d e f i j) fun _ _ _ h=>n8 h
theorem Ac(i:Nat){y:Str}{j b:Pos}(l:X.N.Nodup)(c:Ml X xs js scope)(m:X.calm=MC)(n:DI X tg iter wd)(o:Ny xs.length g (qR X.K tk))(p:∀C s H fp,PG (Mv X xs js scope C s H fp) tg g)(r:∀C s H fp,DTs (Mv X xs js scope C s H fp) ifs tc)(t:∀C s H fp,DE (Mv X xs js scope C s H fp) elt te) (u:X.N[i]?=MA y:=by rfl) (w:X.env.scope.names.lookup y=MA .local:=by rfl) (h:LP (.ListComp elt [⟨tg,iter,ifs,0⟩] scope pos) (MA (.Name y j)) b.line X.env=pure MC:=by rfl) (f:∀x,JA iter X.env x=pure x:=by intro _;rfl) : DSt X (.Assign [.Name y j] (.ListComp elt [⟨tg,iter,ifs,0⟩] scope pos) b) (ez (jG wd tk js tc te) (aU i)):=dq (A4 (te:=lift X.K te) (tc:=liftT X.K tc) c m l n o p r t u w h f) fun E σ H e=>by obtain⟨δ,M,f,a,B,ok,q⟩:=e;exact(n8 ⟨δ,M,_,f,a,q,fun d F v H1 k z A D=>ok.nx _ _ _ _ k ((f.mono k).set z i) A D⟩)
theorem comp_map{I:QY}{tk:PU}{js:List Nat}{te:TD}{δ:DS}{b:MH}{Q:DK}(f:Nat->D)(j:I.n<=1000000)(hC:∀p a,b p=MB->I.C (aA b p (.lst a))) (h:∀i d M,i<I.n->I.item i=MA d->Sub b M->∃os,zp tk d os/\∀K:DK,(∀c,Sub M c->K (f i) c)->te (cδ os js δ) M K) (l:∀p,b p=MB->Q (.ref p) (aA b p (.lst ((J5 I.n).map f)))):xh I tk js ly te δ b Q:=by
 refine⟨j,fun p e=>⟨fun i a M=>a=(J5 i).map f/\M=aA b p (.lst a),⟨rfl,rfl⟩,?_,?_,?_⟩⟩
 ·rintro i a M _ ⟨_,rfl⟩;exact hC p a e
 ·rintro i a d M m hd ⟨rfl,rfl⟩;obtain⟨os,o,k⟩:=h i d _ m hd (.new e .refl);refine⟨os,o,?_⟩;unfold ly;refine C4 (k _ ?_);exact fun c q=>⟨_,q,ag,by rw[KD,Jg];rfl,by rw[bR]⟩
 ·rintro a M ⟨rfl,rfl⟩;exact l p e
end
def FD(X:Cx)(xs:List Str)(js:List Nat)(scope:Lr):Bool:=
 scope.kind==.function&&scope.names.all (fun y=>(y.2 != .cell||xs.contains y.1)&&(y.2 != .free||!xs.contains y.1))&&scope.names.all (fun y=>y.2 != .local||scope.names.lookup y.1==MA .local)&&xs.all (fun x=>scope.names.lookup x==MA .local||scope.names.lookup x==MA .cell) &&
  scope.names.all (fun y=>y.2 != .free||(X.env.kindOf y.1==MA .cell||X.env.kindOf y.1==MA .free))&&decide (cN X xs js).Nodup&&js.all (fun j=>scope.names.lookup ((X.N[j]?).getD ("":Str)) != MA .local)
theorem Ml.of{X:Cx}{xs:List Str}{js:List Nat}{scope:Lr}(h:FD X xs js scope=MC):Ml X xs js scope:=by
 unfold FD at h;simp only[Jn]at h;obtain⟨⟨⟨⟨⟨⟨c,b⟩,d⟩,e⟩,f⟩,g⟩,i⟩:=h;refine⟨by simpa using c,fun y a k=>?_,fun y a hf=>?_,fun y a l=>?_,fun x m=>?_,fun y a hf=>?_,MJ g,fun j n=>?_⟩
 ·have:=JW.mp b y a;rw[k]at this;simpa using this
 ·have:=JW.mp b y a;rw[hf]at this;simpa using this
 ·have:=JW.mp d y a;rw[l]at this;simpa using this
 ·have:=JW.mp e x m;simpa using this
 ·have:=JW.mp f y a;rw[hf]at this;simpa using this
 ·have:=JW.mp i j n;simpa using this
abbrev R3:=DS->MH->(Option Int->MH->Prop)->Prop
def uB(K:I0)(t:R3):TO:=fun σ H Q=>∃δ M R,Slots K H δ σ/\Mw K H M/\t δ M R/\∀o b a,Mo K H a->Mw K a b->R o b->Q o a
def zq:R3:=fun _ M Q=>Q MB M
def xt(t:TD):R3:=fun δ M Q=>t δ M fun x a=>∃i,x=.int i/\Q (MA i) a
def cutD(xs:List D)(a b:Option Int):List D:=(xs.drop (HT.sIx xs.length 0 a)).take (HT.sIx xs.length xs.length b-HT.sIx xs.length 0 a)
def GQ:D->Option Int->Option Int->MH->DK->Prop:=fun x c d M Q=>match x with
 |.ref a=>∃b,M a=MA (.lst b)/\∀p,M p=MB->Q (.ref p) (aA M p (.lst (cutD b c d)))
 |.rol b=>∀p,M p=MB->Q (.ref p) (aA M p (.lst (cutD b c d)))
 |.tup b=>¬(HT.sIx b.length 0 c=0/\HT.sIx b.length b.length d=b.length)/\Q (.tup (cutD b c d)) M
 |_=>False
def II(te:TD)(a b:R3):TD:=fun δ M Q=>te δ M fun x c=>a δ c fun l d=>b δ d fun u e=>GQ x l u e Q
theorem aI.cut{K:I0}{H:Hp}{a:List D}{xs:List V}(h:aI K H a xs)(b c:Option Int):aI K H (cutD a b c) (rB xs b c):=by unfold cutD rB;rw[h.length];exact(h.drop _).take _
section
variable{X:Cx}{e a:Expr}{te:TD}{tl th:R3}{lo hi:Option Expr}{pos p2:Pos}
theorem zG{e:Option Expr}{t t':TO}(h:PO X e t)(k:∀σ H Q,t' σ H Q->t σ H Q):PO X e t':=fun MP s σ H Q I q=>h MP s σ H Q I (k _ _ _ q)
theorem uM:PO X MB (uB X.K zq):=zG AD fun σ H Q b=>by obtain⟨δ,M,R,d,a,q,c⟩:=b;exact(c _ _ _ .refl a q)
theorem oM(h:DE X e te):PO X (MA e) (uB X.K (xt te)):=zG (BB h) fun σ H Q b=>by obtain⟨δ,M,R,g,a,q,c⟩:=b;exact(⟨δ,M,_,g,a,q,fun d o v H1 j f k l=>by
 obtain⟨i,m,n⟩:=l
 subst m
 rw[Rep]at f
 exact⟨i,f,c _ _ _ j k n⟩⟩)
theorem qJ(r:DE X a te)(s:PO X lo (uB X.K tl))(t:PO X hi (uB X.K th)):DE X (.Subscript a (.Slice lo hi MB p2) pos) (II te tl th):=
 bw (xO (AW.or CN) r s t) fun σ H Q f=>by obtain⟨δ,M,R,m,a,q,g⟩:=f;exact(⟨δ,M,_,m,a,q,fun x w v H1 n y A B=>⟨δ,w,_,m.mono n,A,B,fun l C I o D E=>⟨δ,C,_,m.mono (n.trans o),D,E,fun u J L p h d=>by
  have G:=(n.trans o).trans p
  have j:=y.mono (o.trans p)
  unfold GQ at d
  split at d
  ·obtain⟨N,e3,d⟩:=d
   obtain rfl:v=.ref _:=j
   obtain⟨xs,k,i⟩:=h _ _ e3
   exact .inl ⟨_,xs,rfl,Mx.of k,fun z c=>g _ _ _ _ (G.trans (.new c)) (by rw[Rep]) (h.nh c (i.cut _ _)) (d z (h.fresh c))⟩
  ·rw[Rep]at j
   obtain⟨b,xs,rfl,k,i⟩:=j
   exact .inl ⟨_,xs,rfl,k.sql,fun z c=>g _ _ _ _ (G.trans (.new c)) (by rw[Rep]) (h.nh c (i.cut _ _)) (d z (h.fresh c))⟩
  ·obtain⟨F,d⟩:=d
   rw[Rep]at j
   obtain⟨b,xs,rfl,k,i⟩:=j
   exact .inr ⟨_,xs,rfl,k,by rw[<-i.length];exact F,fun z c=>g _ _ _ _ (G.trans (.new c)) (by rw[Rep];exact⟨z,_,rfl,Mz.of bC,(i.cut _ _).mono (.new c)⟩) (h.new c) d⟩
  ·exact d.elim⟩⟩⟩)
end
section
variable{X:Cx}{x y z:Str}{px py pz pt pos:Pos}{kt:Nat}{js:List Nat}{scope:Lr}{elt iter:Expr}{ifs:List Expr}{te:TD}{tc:NP}{wd:Nw}{xs:List Str}
theorem iD(c:Ml X xs js scope)(i:Nat)(a:xs[i]?=MA x){C:Addr}{s:IT}{H:Hp}{fp:List Addr}:PG (Mv X xs js scope C s H fp) (.Name x px) (gr i):=by
 have d:i<xs.length:=(J1.mp a).1;have b:=IZ a
 have e:Loc (Mv X xs js scope C s H fp).env.scope x:=by
  rcases c.own x b with z|z
  ·exact .inl (fW ⋯ z)
  ·exact .inr (fW ⋯ z)
 refine uS (i:=i) c.nd ?_ e (.inl (by show xs.contains x=MC;simpa using b));show(xs++js.map fun j=>(X.N[j]?).getD ("":Str))[i]?=MA x;rw[JD d];exact a
theorem BH(c:Ml X [x,y] js scope)(a:X.calm=MC){C:Addr}{s:IT}{H:Hp}{fp:List Addr}:PG (Mv X [x,y] js scope C s H fp) (.Tuple [.Name x px,.Name y py] kt pt) (CU X.K 2 (p8 (gr 0) (p8 (gr 1) E1))):=zh (X:=Mv X [x,y] js scope C s H fp) a (lh (iD c 0 rfl) (lh (iD c 1 rfl) tV)) rfl rfl
theorem iO(c:Ml X [x] js scope)(a:X.calm=MC)(b:DI X (.Name x px) iter wd)(d:∀C s H fp,DTs (Mv X [x] js scope C s H fp) ifs tc)(e:∀C s H fp,DE (Mv X [x] js scope C s H fp) elt te) (f:∀x,JA iter X.env x=pure x:=by intro _;rfl):DE X (.ListComp elt [⟨.Name x px,iter,ifs,0⟩] scope pos) (jG wd .one js tc te):=t8 c a b rT (fun _ _ _ _=>iD c 0 rfl) d e f
theorem mv(c:Ml X [x,y] js scope)(a:X.calm=MC)(b:DI X (.Tuple [.Name x px,.Name y py] kt pt) iter wd)(d:∀C s H fp,DTs (Mv X [x,y] js scope C s H fp) ifs tc)(e:∀C s H fp,DE (Mv X [x,y] js scope C s H fp) elt te) (f:∀x,JA iter X.env x=pure x:=by intro _;rfl):DE X (.ListComp elt [⟨.Tuple [.Name x px,.Name y py] kt pt,iter,ifs,0⟩] scope pos) (jG wd (.many 2) js tc te):=t8 c a b Dc (fun _ _ _ _=>BH c a) d e f
theorem dm(i:Nat){v:Str}{d a:Pos}(e:X.N.Nodup)(c:Ml X [x] js scope)(f:X.calm=MC)(g:DI X (.Name x px) iter wd)(h:∀C s H fp,DTs (Mv X [x] js scope C s H fp) ifs tc)(j:∀C s H fp,DE (Mv X [x] js scope C s H fp) elt te) (k:X.N[i]?=MA v:=by rfl) (l:X.env.scope.names.lookup v=MA .local:=by rfl) (b:LP (.ListComp elt [⟨.Name x px,iter,ifs,0⟩] scope pos) (MA (.Name v d)) a.line X.env=pure MC:=by rfl) (m:∀x,JA iter X.env x=pure x:=by intro _;rfl) : DSt X (.Assign [.Name v d] (.ListComp elt [⟨.Name x px,iter,ifs,0⟩] scope pos) a) (ez (jG wd .one js tc te) (aU i)):=Ac i e c f g rT (fun _ _ _ _=>iD c 0 rfl) h j k l b m
end
section
variable{prog:Jl}{w:JO}{A:JV}{E:IQ->IT->Prop}{s:IT}
theorem zJ{N L:String}{op:CmpOp}{a b:IQ}{c:Bool}{Q:IQ->IT->Prop}(n:(N="max"/\L="max.loop"/\op=.Gt)\/(N="min"/\L="min.loop"/\op=.Lt))(hh:A.handled=MB)
 (R:∀(t:IT) (Q':IQ->IT->Prop) (E':IQ->IT->Prop),(∀x o,s.heap.get? x=MA o->t.heap.get? x=MA o)->Q' (.bool c) t->J3 (Jh prog w) A.in1 (richCompare op b a) Q' E' t)
 (h:∀h' tk,(∀x o,s.heap.get? x=MA o->h'.get? x=MA o)->Q (if c=MC then b else a) { s with heap:=h',toks:=tk }) :
 J3 (Jh prog w) A (call (.builtin N) [a,b]) Q E s:=by
 rcases n with⟨rfl,P,rfl⟩|⟨rfl,P,rfl⟩
 have D:(toString "max"++toString ".loop":String)=L:=by rw[P];decide
 have i:=F.plain_max_loop
 have G:=F.entry_max_loop
 refine call_function_tree F.kind_max F.plain_max F.entry_max (F.args_max2 _ _) ?_
 rotate_left
 have D:(toString "min"++toString ".loop":String)=L:=by rw[P];decide
 have i:=L4
 have G:=F.entry_min_loop
 refine call_function_tree F.kind_min F.plain_min F.entry_min (F.args_min2 _ _) ?_
 all_goals
  rw[<-P]at i G
  show J3 _ A.in1 (Builtin.Builtins.bindParams _ ["key","default"] 0 ⟨[],[]⟩ >>= fun _=>_) _ _ s
  refine cc (wpAny_of_eq (a:=[MB,MB]) rfl ?_)
  show J3 _ A.in1 (newTuple [a,b] >>= fun _=>_) _ _ s
  refine cc (JG ?_)
  generalize e1:s.heap.push { cls:=.type "tuple",dict:=MB,data:=.seq ([a,b]:List IQ).toArray }=k
  have k1:∀x o,s.heap.get? x=MA o->k.get? x=MA o:=fun x o q=>by rw[<-e1];exact J0 _ q
  have hT:k.IsTuple s.heap.objs.size #[a,b]:=by rw[<-e1];exact⟨_,J7 _ rfl,rfl,0,rfl⟩
  have z1:k.objs.size=s.heap.objs.size+1:=by rw[<-e1,Ko]
  refine cc (wpAny_pyIter_tuple (s:={ s with heap:=k }) hT ?_)
  refine cc (JG ?_)
  dsimp only
  generalize eI:k.objs.size=I
  generalize e2:k.push _=z
  have k2:∀x o,k.get? x=MA o->z.get? x=MA o:=fun x o q=>by rw[<-e2];exact J0 _ q
  have hI:z.IsTupleIter I s.heap.objs.size 0:=by rw[<-e2,<-eI];exact⟨_,J7 _ rfl,rfl,rfl⟩
  have z2:z.objs.size=I+1:=by rw[<-e2,Ko,eI]
  generalize eS:z.objs.size=S
  generalize e3:z.push _=l
  have T:∀x o,z.get? x=MA o->l.get? x=MA o:=fun x o q=>by rw[<-e3];exact J0 _ q
  have hS:l.get? S=MA { cls:=.type "list",dict:=MB,data:=.seq #[] 0,slots:=#[] }:=by rw[<-e3,<-eS];exact J7 _ rfl
  have H:S≠I:=()
  have g:∀x o,s.heap.get? x=MA o->x≠I/\x≠S:=fun x o q=>⟨JE (Jm (J9 q) ()),JE (Jm (J9 q) ())⟩
  have J:l.IsTuple s.heap.objs.size #[a,b]:=by
   obtain⟨o,q,r⟩:=hT
   exact⟨o,T _ _ (k2 _ _ q),r⟩
  have U:l.IsTupleIter I s.heap.objs.size 0:=hI.at fun o q=>T _ _ q
  have TI:s.heap.objs.size≠I:=()
  have TS:s.heap.objs.size≠S:=()
  have m:∀x o,s.heap.get? x=MA o->l.get? x=MA o:=fun x o q=>T _ _ (k2 _ _ (k1 _ _ q))
  rw[D]
  refine IV ⟨Lb i _,?_⟩
  have f:∀(t:IT) (v:IQ) (n:Nat),t.heap.IsTupleIter I s.heap.objs.size 2->t.heap.IsTuple s.heap.objs.size #[a,b]->t.heap.get? S=MA { cls:=.type "list",dict:=MB,data:=.seq #[v,v] n,slots:=#[] }->
   (∃h' tk,t={ s with heap:=h',toks:=tk }/\∀x o,s.heap.get? x=MA o->h'.get? x=MA o)->v=(if c=MC then b else a)->Le (Jh prog w) A (.builtin L ⟨[.ref I,.none,.ref S],[]⟩) (fun r s'=>match r with|.ok (.ret v)=>Q v s'|.ok _=>False|.error e=>E e s') t:=by
   rintro t v n i2 tT lS ⟨h',tk,rfl,kt⟩ ev
   refine KW G ?_
   rw[Kp i _]
   show J3 _ A.in1 (seqItems? (.ref S) >>= fun _=>_) _ _ _
   refine cc (Lx lS rfl ?_)
   show J3 _ A.in1 (tryCatch (pyNext (.ref I)) _ >>= fun _=>_) _ _ _
   refine cc (Ly (wpAny_pyNext_tuple_end (A:=A.in1) hh i2 tT (by simp) fun B C=>?_))
   have V:B.get? S=MA _:=C _ _ H lS
   show J3 _ A.in1 (updateSeq S (fun _=>#[]) >>= fun _=>_) _ _ _
   refine cc (wpAny_updateSeq V rfl (cc (wpAny_letGo (IV ?_))))
   show Q v _
   rw[ev]
   exact h _ _ fun x o q=>(JP _ _ (g x o q).2.symm).trans (C x o (g x o q).1 (kt x o q))
  refine KW G ?_
  rw[Kp i _]
  show J3 _ A.in1 (seqItems? (.ref S) >>= fun _=>_) _ _ _
  refine cc (Lx (s:={ s with heap:=l }) hS rfl ?_)
  show J3 _ A.in1 (tryCatch (pyNext (.ref I)) _ >>= fun _=>_) _ _ _
  refine cc (Ly (wpAny_pyNext_tuple_item (s:={ s with heap:=l }) U J (x:=a) (by simp) fun B i4 C=>?_))
  have K:B.get? S=MA _:=(C.2 _ H).trans hS
  have W:B.IsTuple s.heap.objs.size #[a,b]:=by
   obtain⟨o,q,r⟩:=J
   exact⟨o,(C.2 _ TI).trans q,r⟩
  show J3 _ A.in1 (updateSeq S (fun _=>#[a,a]) >>= fun _=>_) _ _ _
  refine cc (wpAny_updateSeq K rfl ?_)
  rw[D]
  refine IV ⟨Lb i _,?_⟩
  generalize e5:B.update S _=p
  have X:∀x,x≠S->p.get? x=B.get? x:=fun x q=>by rw[<-e5];exact JP _ _ q.symm
  have j:∃n,p.get? S=MA { cls:=.type "list",dict:=MB,data:=.seq #[a,a] n,slots:=#[] }:=⟨_,by rw[<-e5];exact Ky _ K rfl⟩
  obtain⟨n5,j⟩:=j
  have i5:p.IsTupleIter I s.heap.objs.size 1:=i4.at fun o q=>(X _ H.symm).trans q
  have M:p.IsTuple s.heap.objs.size #[a,b]:=by
   obtain⟨o,q,r⟩:=W
   exact⟨o,(X _ TS).trans q,r⟩
  have u:∀x o,s.heap.get? x=MA o->p.get? x=MA o:=fun x o q=>(X _ (g x o q).2).trans ((C.2 _ (g x o q).1).trans (m x o q))
  refine KW G ?_
  rw[Kp i _]
  show J3 _ A.in1 (seqItems? (.ref S) >>= fun _=>_) _ _ _
  refine cc (Lx (s:={ s with heap:=p }) j rfl ?_)
  show J3 _ A.in1 (tryCatch (pyNext (.ref I)) _ >>= fun _=>_) _ _ _
  refine cc (Ly (wpAny_pyNext_tuple_item (s:={ s with heap:=p }) i5 M (x:=b) (by simp) fun Y i6 Z=>?_))
  have y:Y.get? S=MA _:=(Z.2 _ H).trans j
  have O:Y.IsTuple s.heap.objs.size #[a,b]:=by
   obtain⟨o,q,r⟩:=M
   exact⟨o,(Z.2 _ TI).trans q,r⟩
  have d:∀x o,s.heap.get? x=MA o->Y.get? x=MA o:=fun x o q=>(Z.2 _ (g x o q).1).trans (u x o q)
  show J3 _ A.in1 (tryCatch (holding [b,b] (richCompare _ b a >>= fun _=>_)) _ >>= fun _=>_) _ _ _
  refine cc (Ly (Kb (cc (R _ _ _ d ?_))))
  refine cc (Kb (Kh ?_))
  refine cc (wpAny_letGo (IV ?_))
  cases c with
  |true=>
   simp only[if_true]at f ⊢
   refine cc (wpAny_updateSeq y rfl (cc (wpAny_letGo ?_)))
   rw[D]
   refine IV ⟨Lb i _,f _ b _ (i6.at fun o q=>(JP _ _ H).trans q) ?_ (Ky _ y rfl) ⟨_,_,rfl,fun x o q=>(JP _ _ (g x o q).2.symm).trans (d x o q)⟩ rfl⟩
   obtain⟨o,q,r⟩:=O
   exact⟨o,(JP _ _ TS.symm).trans q,r⟩
  |false=>
   simp only[KJ,if_false]at f ⊢
   refine cc (wpAny_letGo ?_)
   rw[D]
   exact IV ⟨Lb i _,f _ a _ i6 O y ⟨_,_,rfl,d⟩ rfl⟩
end
end SD
namespace HT
open PySem PyProof.Rows
def lexLe:List Int->List Int->Bool
 |[],[]=>MC
 |[],_::_=>MC
 |_::_,[]=>MD
 |x::xs,y::ys=>if x=y then lexLe xs ys else decide (x<=y)
theorem sH(x y:Int)(xs a:List Int):lexLe (x::xs) (y::a)=if x=y then lexLe xs a else decide (x<=y):=rfl
theorem m4:lexLe [] []=MC:=rfl
theorem mh(y:Int)(a:List Int):lexLe [] (y::a)=MC:=rfl
theorem lD(x:Int)(xs:List Int):lexLe (x::xs) []=MD:=rfl
theorem zo(A:JV)(s:IT)(a:Int)(t:Tok)(c:Int)(u:Tok)(prog:Jl)(w:JO)(E:IQ->IT->Prop)(Q:IQ->IT->Prop)(h:Q (.bool (decide (a<=c))) s) : J3 (Jh prog w) A (richCompare .LtE (.int a t) (.int c u)) Q E s:=(PyProof.Rows.le_int h:J3 (Jh prog w) A (JC .LtE (.int a t) (.int c u)) Q E s)
section
open PySem.SeqAt
open PySem.AutoSeq1 (wpAny_loadPart')
open PySem.MeetsSeq PySem.MeetsSeq2 PySem.MeetsSeq3
theorem mL(l b:Addr)(items f:Array IQ)(n Q:Nat)(S I:Option Addr)(T J:Array (Option IQ))(ns F:List Int)(N:Kw items.toList ns)(O:Kw f.toList F) :
 Meets (Mb.«tuple.__le__» ⟨[.ref l,.ref b],[]⟩)
  (fun _ R s=>s.heap.get? l=MA { cls:=.type "tuple",dict:=S,data:=.seq items n,slots:=T }/\s.heap.get? b=MA { cls:=.type "tuple",dict:=I,data:=.seq f Q,slots:=J }/\
   R (.ok (.ret (.bool (lexLe ns F)))) s):=
 .of_wp fun prog w A R s h=>by
  obtain⟨G,g,d,H,os⟩:=s;obtain⟨U,V,h⟩:=h
  have f2:=AutoSeq1.sub_tuple_tuple
  have z1:items.size=ns.length:=by rw[<-N.length];simp
  have z2:f.size=F.length:=by rw[<-O.length];simp
  wp_walk using K1 U,K1 V,wpAny_forIn_list _ (fun p b K=>b.1=MB/\K=⟨G,g,d,H,os⟩/\∃(vs ws:List IQ) (j k:List Int),p=vs.zip ws/\
   Kw vs j/\Kw ws k/\j.length+f.size=k.length+items.size/\R (.ok (.ret (.bool (lexLe j k)))) ⟨G,g,d,H,os⟩) _
  case turn=>
   rintro⟨y,x⟩ p b K ⟨z,rfl,vs,ws,j,k,m,B,o,i,r⟩
   cases B with
   |nil=>rw[List.zip_nil_left]at m;cases m
   |cons a t D=>
    cases o with
    |nil=>rw[List.zip_nil_right]at m;cases m
    |cons c u E=>
     rw[Lu]at m
     injection m with L C
     injection L with W X
     subst W X
     rw[sH]at r
     simp only[JI]at i
     obtain⟨e,Y,v⟩:=lz A.in1 ⟨G,g,d,H,os⟩ a t c u
     refine cc (Y prog w _ _ ?_)
     cases e with
     |true=>
      rw[MF (v.mp rfl)]at r
      wp_walk
      exact⟨rfl,rfl,_,_,_,_,C,D,E,(),r⟩
     |false=>
      rw[ME (fun q=>absurd (v.mpr q) Jf)]at r
      have M:=zo A.in1 ⟨G,g,d,H,os⟩ a t c u prog w
      wp_walk using M
      exact⟨_,rfl,by simpa using r⟩
  case fin=>
   rintro⟨b1,b2⟩ K ⟨z,rfl,vs,ws,j,k,m,B,o,i,r⟩
   simp only at z
   subst z
   have P:lexLe j k=decide (items.size<=f.size):=by
    cases B with
    |nil=>
     cases o with
     |nil=>
      simp only[KC]at i
      rw[m4]
      exact(MI ()).symm
     |cons c u Z=>
      simp only[KC,JI]at i
      rw[mh]
      exact(MI ()).symm
    |cons a t P=>
     cases o with
     |nil=>
      simp only[KC,JI]at i
      rw[lD]
      exact(MG ()).symm
     |cons c u Z=>
      rw[Lu]at m
      cases m
   rw[P]at r
   wp_walk
   exact⟨_,rfl,by simpa[Builtin.Tuple.tupleCompareSizes]using r⟩
  case h=>
   exact⟨rfl,rfl,items.toList,f.toList,ns,F,rfl,N,O,(),h⟩
end
section
variable{prog:Jl}{w:JO}{A:JV}{E:IQ->IT->Prop}{s:IT}
theorem sW{l b:Addr}{items a:Array IQ}{ns c:List Int}{Q:IQ->IT->Prop}(p:IsTup s.heap l items)(q:IsTup s.heap b a)(r:Kw items.toList ns)(t:Kw a.toList c) (u:A.units<K4) (h:Q (.bool (lexLe ns c)) s):J3 (Jh prog w) A (JC .LtE (.ref l) (.ref b)) Q E s:=by obtain⟨⟨cls,v,data,y⟩,k,m,n,hd⟩:=id p;obtain⟨⟨o,g,i,j⟩,d,e,z,f⟩:=id q;simp only at m hd e f;subst m hd e f;exact richCompare_meets_room (op:=.LtE) ⟨_,k,rfl⟩ ⟨_,d,rfl⟩ PySem.F.slot_tuple_le PySem.F.entry_tuple_le (PySem.F.args_tuple_le_2 _ _) (mL l b items a n z v g y j ns c r t) ⟨k,d,show LV (lexLe ns c)≠Value.notImplemented/\Q (.bool (lexLe ns c)) s from⟨(fun x=>nomatch x),h⟩⟩ u
end
def cu:List Int->List Int->Bool
 |[],[]=>MD
 |[],_::_=>MD
 |_::_,[]=>MC
 |x::xs,y::ys=>if x=y then cu xs ys else decide (y<x)
theorem sF(x y:Int)(xs a:List Int):cu (x::xs) (y::a)=if x=y then cu xs a else decide (y<x):=rfl
theorem mY:cu [] []=MD:=rfl
theorem ma(y:Int)(a:List Int):cu [] (y::a)=MD:=rfl
theorem kZ(x:Int)(xs:List Int):cu (x::xs) []=MC:=rfl
theorem wK(A:JV)(s:IT)(a:Int)(t:Tok)(c:Int)(u:Tok)(prog:Jl)(w:JO)(E:IQ->IT->Prop)(Q:IQ->IT->Prop)(h:Q (.bool (decide (c<a))) s) : J3 (Jh prog w) A (richCompare .Gt (.int a t) (.int c u)) Q E s:=(PyProof.Rows.gt_int h:J3 (Jh prog w) A (JC .Gt (.int a t) (.int c u)) Q E s)
section
open PySem.SeqAt
open PySem.AutoSeq1 (wpAny_loadPart')
open PySem.MeetsSeq PySem.MeetsSeq2 PySem.MeetsSeq3
theorem mU(l b:Addr)(items f:Array IQ)(n Q:Nat)(S I:Option Addr)(T J:Array (Option IQ))(ns F:List Int)(N:Kw items.toList ns)(O:Kw f.toList F) :
 Meets (Mb.«tuple.__gt__» ⟨[.ref l,.ref b],[]⟩)
  (fun _ R s=>s.heap.get? l=MA { cls:=.type "tuple",dict:=S,data:=.seq items n,slots:=T }/\s.heap.get? b=MA { cls:=.type "tuple",dict:=I,data:=.seq f Q,slots:=J }/\
   R (.ok (.ret (.bool (cu ns F)))) s):=
 .of_wp fun prog w A R s h=>by
  obtain⟨G,g,d,H,os⟩:=s;obtain⟨U,V,h⟩:=h
  have f2:=AutoSeq1.sub_tuple_tuple
  have z1:items.size=ns.length:=by rw[<-N.length];simp
  have z2:f.size=F.length:=by rw[<-O.length];simp
  wp_walk using K1 U,K1 V,wpAny_forIn_list _ (fun p b K=>b.1=MB/\K=⟨G,g,d,H,os⟩/\∃(vs ws:List IQ) (j k:List Int),p=vs.zip ws/\
   Kw vs j/\Kw ws k/\j.length+f.size=k.length+items.size/\R (.ok (.ret (.bool (cu j k)))) ⟨G,g,d,H,os⟩) _
  case turn=>
   rintro⟨y,x⟩ p b K ⟨z,rfl,vs,ws,j,k,m,B,o,i,r⟩
   cases B with
   |nil=>rw[List.zip_nil_left]at m;cases m
   |cons a t D=>
    cases o with
    |nil=>rw[List.zip_nil_right]at m;cases m
    |cons c u E=>
     rw[Lu]at m
     injection m with L C
     injection L with W X
     subst W X
     rw[sF]at r
     simp only[JI]at i
     obtain⟨e,Y,v⟩:=lz A.in1 ⟨G,g,d,H,os⟩ a t c u
     refine cc (Y prog w _ _ ?_)
     cases e with
     |true=>
      rw[MF (v.mp rfl)]at r
      wp_walk
      exact⟨rfl,rfl,_,_,_,_,C,D,E,(),r⟩
     |false=>
      rw[ME (fun q=>absurd (v.mpr q) Jf)]at r
      have M:=wK A.in1 ⟨G,g,d,H,os⟩ a t c u prog w
      wp_walk using M
      exact⟨_,rfl,by simpa using r⟩
  case fin=>
   rintro⟨b1,b2⟩ K ⟨z,rfl,vs,ws,j,k,m,B,o,i,r⟩
   simp only at z
   subst z
   have P:cu j k=decide (items.size>f.size):=by
    cases B with
    |nil=>
     cases o with
     |nil=>
      simp only[KC]at i
      rw[mY]
      exact(MG ()).symm
     |cons c u Z=>
      simp only[KC,JI]at i
      rw[ma]
      exact(MG ()).symm
    |cons a t P=>
     cases o with
     |nil=>
      simp only[KC,JI]at i
      rw[kZ]
      exact(MI ()).symm
     |cons c u Z=>
      rw[Lu]at m
      cases m
   rw[P]at r
   wp_walk
   exact⟨_,rfl,by simpa[Builtin.Tuple.tupleCompareSizes]using r⟩
  case h=>
   exact⟨rfl,rfl,items.toList,f.toList,ns,F,rfl,N,O,(),h⟩
end
section
variable{prog:Jl}{w:JO}{A:JV}{E:IQ->IT->Prop}{s:IT}
theorem l9{l b:Addr}{items a:Array IQ}{ns c:List Int}{Q:IQ->IT->Prop}(p:IsTup s.heap l items)(q:IsTup s.heap b a)(r:Kw items.toList ns)(t:Kw a.toList c) (u:A.units<K4) (h:Q (.bool (cu ns c)) s):J3 (Jh prog w) A (JC .Gt (.ref l) (.ref b)) Q E s:=by obtain⟨⟨cls,v,data,y⟩,k,m,n,hd⟩:=id p;obtain⟨⟨o,g,i,j⟩,d,e,z,f⟩:=id q;simp only at m hd e f;subst m hd e f;exact richCompare_meets_room (op:=.Gt) ⟨_,k,rfl⟩ ⟨_,d,rfl⟩ PySem.F.slot_tuple_gt PySem.F.entry_tuple_gt (PySem.F.args_tuple_gt_2 _ _) (mU l b items a n z v g y j ns c r t) ⟨k,d,show LV (cu ns c)≠Value.notImplemented/\Q (.bool (cu ns c)) s from⟨(fun x=>nomatch x),h⟩⟩ u
end
end HT
namespace SD
open PySem PySem.Spec PyProof.Rows L2
section
variable{X:Cx}
theorem dY{K:I0}{H:Hp}:∀{ns:List Int} {xs:List V},aI K H (ns.map D.int) xs->xs=ns.map V.int
 |[],xs,h=>by rw[Ki,aI]at h;exact h
 |n::ns,xs,h=>by
  rw[IY,aI]at h
  obtain⟨x,r,rfl,a,b⟩:=h
  rw[Rep]at a
  rw[a,dY b];rfl
theorem Eh(e:X.A.units<K4):NN X (JC .LtE) (fun x y H Q=>∃a b ns c,x=.ref a/\y=.ref b/\Mz X.K H a (ns.map V.int)/\Mz X.K H b (c.map V.int)/\Q (.bl (HT.lexLe ns c)) H):=by intro MP s σ H x y v u Q I f g h;obtain⟨a,b,ns,c,rfl,rfl,i,j,q⟩:=h;cases f;cases g;obtain⟨k,l,m,_⟩:=I.tuple i;obtain⟨d,n,o,_⟩:=I.tuple j;exact HT.sW m o (intsAre_of l) (intsAre_of n) e ⟨.bl (HT.lexLe ns c),H,I,rfl,q⟩
theorem Df(e:X.A.units<K4):NN X (JC .Gt) (fun x y H Q=>∃a b ns c,x=.ref a/\y=.ref b/\Mz X.K H a (ns.map V.int)/\Mz X.K H b (c.map V.int)/\Q (.bl (HT.cu ns c)) H):=by intro MP s σ H x y v u Q I f g h;obtain⟨a,b,ns,c,rfl,rfl,i,j,q⟩:=h;cases f;cases g;obtain⟨k,l,m,_⟩:=I.tuple i;obtain⟨d,n,o,_⟩:=I.tuple j;exact HT.l9 m o (intsAre_of l) (intsAre_of n) e ⟨.bl (HT.cu ns c),H,I,rfl,q⟩
def qY(f:Int->Int->Bool)(g:List Int->List Int->Bool):NY:=fun x y M Q=>match x,y with
 |.int i,.int j=>True/\Q (.bl (f i j)) M
 |.tup a,.tup b=>∃ns c,a=L0 D.int ns/\b=L0 D.int c/\Q (.bl (g ns c)) M
 |_,_=>False
theorem xv{op:CmpOp}{f:Int->Int->Bool}{g:List Int->List Int->Bool}(n:NZ X (JC op) (PM (fun _ _=>True) fun i j=>.bl (f i j))) (o:NN X (JC op) (fun x y H Q=>∃a b ns d,x=.ref a/\y=.ref b/\Mz X.K H a (ns.map V.int)/\Mz X.K H b (d.map V.int)/\Q (.bl (g ns d)) H)):NZ X (JC op) (qY f g):=by
 refine iH (n.or o) fun v u H Q c=>?_;obtain⟨x,y,M,R,h,k,a,q,e⟩:=c;unfold qY at q;split at q
 ·exact .inl ⟨_,_,M,R,h,k,a,q,e⟩
 ·obtain⟨ns,d,rfl,rfl,q⟩:=q;rw[Rep]at h;obtain⟨p,xs,rfl,l,r⟩:=h;obtain⟨s,w,rfl,m,t⟩:∃a xs,u=V.ref a/\Mz X.K H a xs/\aI X.K H (L0 D.int d) xs:=by rw[Rep]at k;exact k
  rw[dY r]at l;rw[dY t]at m;exact .inr ⟨p,s,ns,d,rfl,rfl,l,m,e _ _ _ _ .refl (by rw[Rep]) a q⟩
 ·exact q.elim
theorem dP(a:X.A.units+64<K4):NZ X (JC .Lt) (qY (fun i j=>decide (i<j)) HT.lexLt):=xv FY (DH ())
theorem zQ(a:X.A.units+64<K4):NZ X (JC .LtE) (qY (fun i j=>decide (i<=j)) HT.lexLe):=xv Gk (Eh ())
theorem fU(a:X.A.units+64<K4):NZ X (JC .Gt) (qY (fun i j=>decide (j<i)) HT.cu):=xv FR (Df ())
theorem wt(f:X.calm=MC)(F:X.A.units+64<K4):cw X (.builtin "max") (fun xs H Q=>∃p q ns a,xs=[.ref p,.ref q]/\Mz X.K H p (ns.map V.int)/\Mz X.K H q (a.map V.int)/\Q (if HT.cu a ns=MC then .ref q else .ref p) H):=by
 intro MP s σ H xs us Q I r g;obtain⟨p,q,ns,a,e,h,i,k⟩:=g;subst e;obtain⟨u,v,rfl,j,l⟩:=vals2 r;cases j;cases l;obtain⟨m,n,o,_⟩:=I.tuple h;obtain⟨d,w,x,_⟩:=I.tuple i;refine zJ (.inl ⟨rfl,rfl,rfl⟩) (c:=HT.cu a ns) (I.ok.hd f) (fun t G J b y=>?_) fun L M b=>⟨_,H,I.kept b,?_,k⟩
 ·obtain⟨z,B,b1⟩:=o;obtain⟨C,D,E⟩:=x;exact HT.l9 (A:=X.A.in1) (s:=t) ⟨C,b _ _ D,E⟩ ⟨z,b _ _ B,b1⟩ (intsAre_of w) (intsAre_of n) (by show X.A.units+1<K4;omega) y
 ·cases HT.cu a ns<;>rfl
theorem vW(f:X.calm=MC)(F:X.A.units+64<K4):cw X (.builtin "min") (fun xs H Q=>∃p q ns a,xs=[.ref p,.ref q]/\Mz X.K H p (ns.map V.int)/\Mz X.K H q (a.map V.int)/\Q (if HT.lexLt a ns=MC then .ref q else .ref p) H):=by
 intro MP s σ H xs us Q I r g;obtain⟨p,q,ns,a,e,h,i,k⟩:=g;subst e;obtain⟨u,v,rfl,j,l⟩:=vals2 r;cases j;cases l;obtain⟨m,n,o,_⟩:=I.tuple h;obtain⟨d,w,x,_⟩:=I.tuple i;refine zJ (.inr ⟨rfl,rfl,rfl⟩) (c:=HT.lexLt a ns) (I.ok.hd f) (fun t G J b y=>?_) fun L M b=>⟨_,H,I.kept b,?_,k⟩
 ·obtain⟨z,B,b1⟩:=o;obtain⟨C,D,E⟩:=x;exact HT.iN (A:=X.A.in1) (s:=t) ⟨C,b _ _ D,E⟩ ⟨z,b _ _ B,b1⟩ (intsAre_of w) (intsAre_of n) (by show X.A.units+1<K4;omega) y
 ·cases HT.lexLt a ns<;>rfl
def FC:RC:=fun d M Q=>match d with
 |[.int i,.int j]=>Q (.int (max i j)) M
 |[.tup a,.tup b]=>∃ns c,a=L0 D.int ns/\b=L0 D.int c/\Q (.tup (L0 D.int (if HT.cu c ns=MC then c else ns))) M
 |_=>False
def B6:RC:=fun d M Q=>match d with
 |[.int i,.int j]=>Q (.int (min i j)) M
 |[.tup a,.tup b]=>∃ns c,a=L0 D.int ns/\b=L0 D.int c/\Q (.tup (L0 D.int (if HT.lexLt c ns=MC then c else ns))) M
 |_=>False
theorem oZ(j:X.calm=MC)(t:X.A.units+64<K4):dI X (.builtin "max") FC:=cx (cw.or (Cv j) (wt j t)) fun vs H Q w=>by
 obtain⟨b,M,R,k,a,q,c⟩:=w;rcases b with _|⟨d,b⟩
 ·exact Jq q
 cases d<;>rcases b with _|⟨e,b⟩<;>try exact Jq q
 all_goals (cases e<;>rcases b with _|⟨f,b⟩<;>try exact Jq q)
 ·exact .inl ⟨_,M,R,k,a,q,c⟩
 ·obtain⟨ns,i,rfl,rfl,q⟩:=q;obtain⟨v,u,rfl,l,m⟩:=eZ k;rw[Rep]at l;obtain⟨p,xs,rfl,n,o⟩:=l;obtain⟨x,y,rfl,r,s⟩:∃a xs,u=V.ref a/\Mz X.K H a xs/\aI X.K H (L0 D.int i) xs:=by rw[Rep]at m;exact m
  have g:=n;have h:=r;rw[dY o]at g;rw[dY s]at h;refine .inr ⟨p,x,ns,i,rfl,g,h,c _ _ _ _ .refl ?_ a q⟩;by_cases z:HT.cu i ns=MC
  ·rw[MF z,MF z,Rep];exact⟨_,_,rfl,r,s⟩
  ·rw[ME z,ME z,Rep];exact⟨_,_,rfl,n,o⟩
theorem Az(j:X.calm=MC)(t:X.A.units+64<K4):dI X (.builtin "min") B6:=cx (cw.or (C6 j) (vW j t)) fun vs H Q w=>by
 obtain⟨b,M,R,k,a,q,c⟩:=w;rcases b with _|⟨d,b⟩
 ·exact Jq q
 cases d<;>rcases b with _|⟨e,b⟩<;>try exact Jq q
 all_goals (cases e<;>rcases b with _|⟨f,b⟩<;>try exact Jq q)
 ·exact .inl ⟨_,M,R,k,a,q,c⟩
 ·obtain⟨ns,i,rfl,rfl,q⟩:=q;obtain⟨v,u,rfl,l,m⟩:=eZ k;rw[Rep]at l;obtain⟨p,xs,rfl,n,o⟩:=l;obtain⟨x,y,rfl,r,s⟩:∃a xs,u=V.ref a/\Mz X.K H a xs/\aI X.K H (L0 D.int i) xs:=by rw[Rep]at m;exact m
  have g:=n;have h:=r;rw[dY o]at g;rw[dY s]at h;refine .inr ⟨p,x,ns,i,rfl,g,h,c _ _ _ _ .refl ?_ a q⟩;by_cases z:HT.lexLt i ns=MC
  ·rw[MF z,MF z,Rep];exact⟨_,_,rfl,r,s⟩
  ·rw[ME z,ME z,Rep];exact⟨_,_,rfl,n,o⟩
end
end SD
namespace Ma
open SD
theorem Bp{p z:Int}(h:0<p):0<p*z↔0<z:=by
 constructor
 ·intro q;by_cases a:0<z
  ·exact a
  ·have:p*z<=0:=Int.mul_nonpos_of_nonneg_of_nonpos () ();omega
 ·exact fun q=>Jy h q
theorem nM{a b c d:Int}(f:0<b)(hd:0<d):Rat.divInt a b<Rat.divInt c d↔a*d<c*b:=by
 have e:=Rat.divInt_sub_divInt c a (d₁:=d) (d₂:=b) () ();have g:Rat.divInt a b<Rat.divInt c d↔0<Rat.divInt c d-Rat.divInt a b:=by constructor<;>intro z<;>grind
 rw[g,e,mC (Jy hd f)];omega
def ut(t b X m x:Int):Rat:=Rat.divInt (x*t+X*m) (b*m)
theorem ve{t b X m n x y:Int}(c:0<t)(a:0<b)(d:0<m)(f:0<n):ut t b X m x<ut t b X n y↔n*x<m*y:=by
 unfold ut;rw[nM (Jy a d) (Jy a f)];have e:(y*t+X*n)*(b*m)-(x*t+X*m)*(b*n)=(b*t)*(m*y-n*x):=by grind
 have:=Bp (z:=m*y-n*x) (Jy a c);omega
theorem jW{t b X m n x y:Int}(d:0<t)(f:0<b)(g:0<m)(h:0<n):ut t b X m x=ut t b X n y↔n*x=m*y:=by
 have i:=ve (X:=X) (x:=x) (y:=y) d f g h;have j:=ve (X:=X) (x:=y) (y:=x) d f h g;constructor
 ·intro e;have a:¬ut t b X m x<ut t b X n y:=by rw[e];exact Rat.lt_irrefl
  have c:¬ut t b X n y<ut t b X m x:=by rw[e];exact Rat.lt_irrefl
  rw[i]at a;rw[j]at c;omega
 ·intro e;have a:¬ut t b X m x<ut t b X n y:=by rw[i];omega
  have c:¬ut t b X n y<ut t b X m x:=by rw[j];omega
  grind
theorem xE{t b X x:Int}:Rat.divInt (x*t+X) b=ut t b X 1 x:=by unfold ut;rw[Int.mul_one,Int.mul_one]
theorem Cj{t b X Y m n x y u v:Int}(a:0<t)(c:0<b)(d:0<m)(e:0<n) : ah (ut t b X m x) (ut t b Y m y) (ut t b X n u) (ut t b Y n v)↔HT.lexLt [n*x,n*y] [m*u,m*v]=MC:=by
 unfold ah;rw[ve a c d e,jW a c d e,ve a c d e];simp only[HT.lexLt];by_cases h:n*x=m*u
 ·rw[MF h];by_cases f:n*y=m*v
  ·rw[MF f];simp;omega
  ·rw[ME f];simp;omega
 ·rw[ME h];simp;omega
theorem vP(a b c d:Int):HT.lexLe [a,b] [c,d]=!HT.lexLt [c,d] [a,b]:=by
 simp only[HT.lexLe,HT.lexLt];by_cases h:a=c
 ·subst h;rw[MF rfl,MF rfl];by_cases f:b=d
  ·subst f;rw[MF rfl,MF rfl];rfl
  ·rw[ME f,ME (fun e=>f e.symm)];rw[<-decide_not,MK];omega
 ·rw[ME h,ME (fun e=>h e.symm),<-decide_not,MK];omega
theorem nU(a b c d:Int):HT.cu [a,b] [c,d]=HT.lexLt [c,d] [a,b]:=by
 simp only[HT.cu,HT.lexLt];by_cases h:a=c
 ·subst h;rw[MF rfl,MF rfl];by_cases f:b=d
  ·subst f;simp
  ·rw[ME f,ME (fun e=>f e.symm)]
 ·rw[ME h,ME (fun e=>h e.symm)]
theorem fv{a b c d:Int}:HT.lexLt [a,b] [c,d]=MC↔a<c\/(a=c/\b<d):=by
 simp only[HT.lexLt];by_cases h:a=c
 ·subst h;rw[MF rfl];by_cases e:b=d
  ·subst e;rw[MF rfl];simp
  ·rw[ME e];simp
 ·rw[ME h];simp;omega
end Ma
open Ma renaming wll->MU,ut->MV,Bq->MW,ah->MX,pos_int->MY,cr->MZ,sgn->Mc,fv->Md,jW->Me,ku->Mf,spt->Mg,fr->Mh,den_pos->Mi,iK->Mj
namespace SD
open PySem PySem.Spec PyProof.Rows L2
theorem az{M:MH}{a p:PySem.Addr}{o:MO}(h:M a=MA o)(b:M p=MB):a≠p:=fun e=>by subst e;rw[h]at b;cases b
def Ro(t b x y:Int):D:=.tup [.int t,.int b,.int x,.int y]
structure Nh(t b x y:Int):Prop where
 t0:0<t
 t1:t<=10^24
 b0:0<b
 b1:b<=10^26
 x0:-(10^30)<=x
 x1:x<=10^30
 y0:-(10^30)<=y
 y1:y<=10^30
def uw(w:Int×Int×Int×Int):D:=.tup [.tup [.int w.1,.int w.2.1],.tup [.int w.2.2.1,.int w.2.2.2]]
def Ms(t b x y:Int)(w:Int×Int×Int×Int):D:=MU (MV t b x 1 w.1) (MV t b y 1 w.2.1) (MV t b x 1 w.2.2.1) (MV t b y 1 w.2.2.2)
def X0(n:Int)(w:Int×Int×Int×Int):Prop:=(-n<=w.1/\w.1<=n)/\(-n<=w.2.1/\w.2.1<=n)/\(-n<=w.2.2.1/\w.2.2.1<=n)/\(-n<=w.2.2.2/\w.2.2.2<=n)
def Nf(m:Int)(w:Int×Int×Int×Int):Int×Int×Int×Int:=(m*w.1,m*w.2.1,m*w.2.2.1,m*w.2.2.2)
theorem range_getD(l:List D):(J5 l.length).map (fun i=>(l[i]?).getD .non)=l:=by refine List.ext_getElem (by simp) fun i b a=>?_;simp[a]
theorem getD_map{b:Type}{f:b->D}{l:List b}{i:Nat}{a:b}(h:l[i]?=MA a):((l.map f)[i]?).getD .non=f a:=by rw[IW,h];rfl
theorem B4{t b x m p:Int}(h:0<t/\t<=10^24)(c:0<b/\b<=10^26)(i:-(10^30)<=x/\x<=10^30)(d:0<m/\m<=10^6)(j:-(10^6)<=p/\p<=10^6):MW 200 (MV t b x m p):=by
 have e:Bd 80 t:=by show t.natAbs<2^80;omega
 have a:Bd 64 m:=by show m.natAbs<2^64;omega
 have f:Bd 64 p:=by show p.natAbs<2^64;omega
 have g:Bd 90 b:=by show b.natAbs<2^90;omega
 have bx:Bd 100 x:=by show x.natAbs<2^100;omega
 refine Ma.Bq.divInt (by have:=Jy c.1 d.1;omega) ?_ ((g.mul a).mono ⋯);exact(((f.mul e).mono (by decide:64+80<=164)).add (bx.mul a)).mono ⋯
theorem Nh.bx{t b x y m p:Int}(S:Nh t b x y)(a:0<m/\m<=10^6)(c:-(10^6)<=p/\p<=10^6):MW 200 (MV t b x m p):=B4 ⟨S.t0,S.t1⟩ ⟨S.b0,S.b1⟩ ⟨S.x0,S.x1⟩ a c
theorem Nh.by'{t b x y m p:Int}(S:Nh t b x y)(a:0<m/\m<=10^6)(c:-(10^6)<=p/\p<=10^6):MW 200 (MV t b y m p):=B4 ⟨S.t0,S.t1⟩ ⟨S.b0,S.b1⟩ ⟨S.y0,S.y1⟩ a c
theorem oy(a b c d:Int):Jt (.tuple [.int a,.int b]) (.tuple [.int c,.int d])=decide (a=c/\b=d):=by simp only[Jt,JN,fR,L9,Bool.decide_and]
open PySem PySem.Spec PyProof.Rows L2 Ma
instance(a b c d:Rat):Decidable (MX a b c d):=inferInstanceAs (Decidable (_\/_))
def NH(a b c d:Int):Int:=a*d-b*c
theorem DB{t b X m x:Int}(a:0<b)(c:0<m):MV t b X m x=((t:Rat)/b)*((x:Rat)/m)+(X:Rat)/b:=by
 unfold MV;rw[Rat.divInt_eq_div];have d:(b:Rat)≠0:=by have:=MY a;grind
 have e:(m:Rat)≠0:=by have:=MY c;grind
 rw[Lj,JT,JT,JT];grind
theorem dE{t b X x:Int}(a:0<b):MV t b X 1 x=((t:Rat)/b)*(x:Rat)+(X:Rat)/b:=by rw[DB a ⋯];have:((1:Int):Rat)=1:=rfl;rw[this];grind
theorem EW(k x y p q r s e f:Rat):MZ (k*p+x) (k*q+y) (k*r+x) (k*s+y) (k*e+x) (k*f+y)=k*k*((r-p)*(f-q)-(s-q)*(e-p)):=by unfold MZ;grind
theorem E9{t b X Y p q r s e f:Int}(a:0<b):MZ (MV t b X 1 p) (MV t b Y 1 q) (MV t b X 1 r) (MV t b Y 1 s) (MV t b X 1 e) (MV t b Y 1 f)=((t:Rat)/b)*((t:Rat)/b)*((NH (r-p) (s-q) (e-p) (f-q):Int):Rat):=by rw[dE a,dE a,dE a,dE a,dE a,dE a,EW];unfold NH;rw[KG,JT,JT,KG,KG,KG,KG]
theorem sgn_mul{k:Rat}(a:0<k)(z:Int):Mc (k*(z:Rat))=Ji z:=by
 unfold Mc;by_cases b:0<z
 ·rw[MF (Rat.mul_pos a (MY b)),JK b]
 ·by_cases c:z<0
  ·have d:0<k*((-z:Int):Rat):=Rat.mul_pos a (MY ());rw[Rat.intCast_neg]at d;rw[ME (by grind),MF (by grind),Jr c]
  ·obtain rfl:z=0:=()
   have:((0:Int):Rat)=0:=rfl;rw[this];simp
theorem Gx{t b X Y p q e f:Int}(a:0<t)(c:0<b):MX (MV t b X 1 p) (MV t b Y 1 q) (MV t b X 1 e) (MV t b Y 1 f)↔(p<e\/(p=e/\q<f)):=by rw[Ma.Cj a c ⋯ ⋯,Md];omega
end SD
namespace HT
open PySem PyProof.Rows
end HT
namespace SD
open PySem PySem.Spec PyProof.Rows L2
section
variable{X:Cx}
def yr(g:Bool->Bool):NY:=fun x y M Q=>∃p ps,Pd M x p/\(Pd M y (.list ps)\/Pd M y (.tuple ps))/\Kt p=MC/\Kl ps=MC/\Q (.bl (g (ps.any fun q=>Jt q p))) M
theorem kT{p:LC}{n:Nat}(h:Kt p=MC):min n p.depth<=63+1:=K3 (Nat.min_le_right _ _) (SeqAt.depth_of_shaped h)
theorem yU(r:X.A.units+66<K4):NZ X (JC .In) (yr fun b=>b):=by
 intro MP s σ H v u t w Q I m g h;obtain⟨x,y,M,R,o,i,a,⟨p,ps,q,c,e,j,k⟩,d⟩:=h;obtain⟨z,l⟩:=bN I a q o m;have B:=kT (n:=LG ps) e;rcases c with c|c
 ·obtain⟨bs,f⟩:=bN I a c i g;exact SeqAt.in_list_reads f l j (KS e) () ⟨.bl _,H,I,rfl,d _ _ _ _ .refl (by rw[Rep]) a k⟩
 ·obtain⟨bs,f⟩:=bN I a c i g;exact SeqAt.in_tuple_reads f l j (KS e) () ⟨.bl _,H,I,rfl,d _ _ _ _ .refl (by rw[Rep]) a k⟩
theorem iY(r:X.A.units+66<K4):NZ X (JC .NotIn) (yr fun b=>!b):=by
 intro MP s σ H v u t w Q I m g h;obtain⟨x,y,M,R,o,i,a,⟨p,ps,q,c,e,j,k⟩,d⟩:=h;obtain⟨z,l⟩:=bN I a q o m;have B:=kT (n:=LG ps) e;rcases c with c|c
 ·obtain⟨bs,f⟩:=bN I a c i g;exact SeqAt.notIn_list_reads f l j (KS e) () ⟨.bl _,H,I,rfl,d _ _ _ _ .refl (by rw[Rep]) a k⟩
 ·obtain⟨bs,f⟩:=bN I a c i g;exact SeqAt.notIn_tuple_reads f l j (KS e) () ⟨.bl _,H,I,rfl,d _ _ _ _ .refl (by rw[Rep]) a k⟩
theorem rm{K:I0}{H:Hp}:∀{bs:List Bool} {xs:List V},aI K H (bs.map D.bl) xs->xs=bs.map V.bl
 |[],xs,h=>by rw[Ki,aI]at h;exact h
 |n::ns,xs,h=>by
  rw[IY,aI]at h
  obtain⟨x,r,rfl,a,b⟩:=h
  rw[Rep]at a
  rw[a,rm b];rfl
theorem lR:∀{bs:List Bool} {us:List IQ},Vals (bs.map V.bl) us->us=bs.map LV
 |[],_,.nil=>rfl
 |b::bs,_,.cons r t=>by
  cases (show _=LV b from r)
  rw[lR t];rfl
def HC:RC:=fun a M Q=>match a with
 |[.ref l]=>∃bs:List Bool,M l=MA (.lst (L0 D.bl bs))/\Q (.bl (bs.all id)) M
 |_=>False
theorem wF(j:X.calm=MC):cw X (.builtin "all") (fun xs H Q=>∃(p:Addr) (bs:List Bool),xs=[.ref p]/\Mx X.K H p (bs.map V.bl)/\Q (.bl (bs.all id)) H):=by
 intro MP s σ H xs us Q I r m;obtain⟨l,bs,e,n,k⟩:=m;subst e;obtain⟨u,rfl,o⟩:=vals1 r;cases o;obtain⟨c,q,t,_⟩:=I.list n;have h:=lR q;have d:=t.isList;have lt:l≠s.heap.objs.size:=JE (let⟨_,e,_⟩:=d;J9 e);refine call_all_walk (x:=.ref l) (LK d ⟨s.heap.objs.size,[s.heap.objs.size,l],[s.heap.objs.size],c.toArray.size,_,_,fun i=>(bs[i]?).getD MC,rfl,Walks.list (A:=X.A.in1) (I.ok.hd j) _ l lt c.toArray,⟨⟨_,J7 _ rfl,rfl,rfl⟩,d.push _⟩,fun i v w y D z B=>?_,fun E F C=>?_⟩)
 ·have a:c[i]?=MA v:=by simpa using z
  rw[h,IW]at a;cases f:bs[i]? with
  |none=>rw[f]at a;cases a
  |some b=>
   rw[f]at a
   cases a
   have g:y b w:=by simpa[f]using B
   exact Kh g
 ·rw[show((J5 c.toArray.size).all fun i=>(bs[i]?).getD MC)=bs.all id by rw[Ja,h,IU];exact LSm.range_all bs];exact⟨.bl (bs.all id),H,I.kept (LSm.kept_iter C),rfl,k⟩
theorem E7(g:X.calm=MC):dI X (.builtin "all") HC:=cx (wF g) fun vs H Q h=>by
 obtain⟨b,M,R,i,a,q,c⟩:=h;rcases b with _|⟨d,b⟩
 ·exact Jq q
 cases d<;>rcases b with _|⟨e,b⟩<;>try exact Jq q
 ·obtain⟨bs,e,q⟩:=q;obtain⟨v,rfl,r⟩:=cA i;rw[Rep]at r;subst r;obtain⟨xs,f,j⟩:=a _ _ e;rw[rm j]at f;exact⟨_,bs,rfl,Mx.of f,c _ _ _ _ .refl (by rw[Rep]) a q⟩
def Gf(c:TD)(t:NL):TD:=fun δ M Q=>c δ M fun x a=>∃l e,x=.ref l/\a l=MA (.lst e)/\t δ a fun f b=>∃xs d,f=[d]/\b l=MA (.lst xs)/\xs.length<1000000/\Q .non (aA b l (.lst (xs++[d])))
variable{o e:Expr}{to:TD}{t:NL}{apos ba:Pos}
theorem bc(z:DE X o to)(A:DA X [e] t)
 (b:L7 o "append" X.env (eval o X.env)=eval o X.env:=by rfl)
 (i:((Ks ba (Jd [e] X.env)).all (fun x=>!x.1)&&(backToKw ba (Lp [] X.env)).all (fun x=>x.1.isSome)
  && decide ([e].length+([]:List LW).length+(if([]:List LW).isEmpty then 0 else 1)<30))=MC:=by rfl)
 (c:(apos.endLine==ba.line)=MC:=by rfl) (B:Jd [e] X.env=(MD,eval e X.env)::Jd [] X.env:=by rfl) (a:(Ks ba (Jd [] X.env)).any (·.1)=MD:=by rfl) :
 DE X (.Call (.Attribute o "append" apos) [e] [] ba) (Gf to t):=
 bw (yZ PySem.F.plainAttrs_list PySem.F.slot_list_append PySem.F.type_list_append jI z A b i c B a) fun σ H Q C=>by
  obtain⟨δ,M,R,j,D,q,m⟩:=C
  refine⟨δ,M,_,j,D,q,fun x E v H1 p r s f=>?_⟩
  obtain⟨l,S,ex,G,I⟩:=f
  subst ex
  rw[Rep]at r
  subst r
  obtain⟨vs,n,_⟩:=s _ _ G
  refine⟨.inl ⟨rfl,vs,Mx.of n⟩,δ,E,_,j.mono p,s,I,fun T U us V J K w g=>?_⟩
  obtain⟨xs,d,L,N,W,O⟩:=g
  subst L
  obtain⟨u,rfl,P⟩:=cA K
  obtain⟨ws,h,k⟩:=w _ _ N
  have y:=k.length
  refine⟨l,ws,u,rfl,rfl,h,Jm () (show 1000000<=J8 from Mm rfl),?_⟩
  exact m _ _ _ _ (p.trans (J.trans (.lst h))) (by rw[Rep]) (w.wD h (k.append (.cons P .nil))) O
end
theorem iB{k:Nat}{A:JV}(r:NB k A):A.units+66<K4:=by have:=r.un;omega
abbrev Wl:=Int×Int×Int×Int
def la(x y:Int):Int:=100*x+y
def l1(w:Wl):Int:=la w.1 w.2.1
def l2(w:Wl):Int:=la w.2.2.1 w.2.2.2
def sd(w:Wl)(x y:Int):Int:=NH (w.2.2.1-w.1) (w.2.2.2-w.2.1) (x-w.1) (y-w.2.1)
def Mq(w v:Wl):Int:=sd w v.1 v.2.1
def Mt(w v:Wl):Int:=sd w v.2.2.1 v.2.2.2
structure Mn(w:Wl):Prop where
 a:0<=w.1/\w.1<=20
 b:0<=w.2.1/\w.2.1<=20
 c:0<=w.2.2.1/\w.2.2.1<=20
 d:0<=w.2.2.2/\w.2.2.2<=20
 lt:l1 w<l2 w
def aY(w:Wl)(l s:Int):Prop:=l=l1 w\/l=l2 w\/l<l1 w\/l2 w<l\/s≠0
structure My(U V:Wl):Prop where
 ne:¬(l1 U=l1 V/\l2 U=l2 V)
 e1:aY U (l1 V) (Mq U V)
 e2:aY U (l2 V) (Mt U V)
 e3:aY V (l1 U) (Mq V U)
 e4:aY V (l2 U) (Mt V U)
 pr:0<=Ji (Mq U V)*Ji (Mt U V)\/0<=Ji (Mq V U)*Ji (Mt V U)
theorem My.swap{U V:Wl}(h:My U V):My V U:=⟨fun z=>h.ne ⟨z.1.symm,z.2.symm⟩,h.e3,h.e4,h.e1,h.e2,h.pr.symm⟩
def Mr(U V:Wl):Bool:=
 if max (l1 U) (l1 V)<min (l2 U) (l2 V)then
  if l1 U=l1 V then(if l2 U<l2 V then decide (0<Mt V U)else decide (Mt U V<0))
  else if l1 V<l1 U then decide (0<Mq V U)else decide (Mq U V<0)
 else MD
theorem XT(z:Int):Ji z=1↔0<z:=Int.sign_eq_one_iff_pos
theorem Xr(z:Int):-Ji z=1↔z<0:=by
 rcases J4 z 0 with h|h|h
 ·rw[Jr h];omega
 ·subst h;simp
 ·rw[JK h];omega
theorem VL{x y:Int}(h:0<=Ji x*Ji y):¬(0<x/\y<0)/\¬(x<0/\0<y):=by
 constructor
 ·rintro⟨a,b⟩;rw[JK a,Jr b]at h;omega
 ·rintro⟨a,b⟩;rw[Jr a,JK b]at h;omega
theorem jT{z k:Int}(a:0<k)(h:0<z*k):0<z:=by
 rcases J4 z 0 with q|q|q
 ·have:=Jp q a;omega
 ·subst q;simp at h
 ·exact q
theorem oK{z k:Int}(a:0<k)(h:z*k<0):z<0:=by
 rcases J4 z 0 with q|q|q
 ·exact q
 ·subst q;simp at h
 ·have:=Jy q a;omega
theorem within{a b c d g h e f:Int}(p:a*(f-e)=d*(g-e)-c*(h-e))(q:b*(f-e)=d*(g-f)-c*(h-f))
 (r:e<g) (s:e<h) (t:g<f) (u:h<f) (F:(¬(0<c/\d<0)/\¬(c<0/\0<d))\/(¬(0<a/\b<0)/\¬(a<0/\0<b))) (v:c≠0) (w:d≠0):0<c↔0<d:=by
 have k:0<f-e:=()
 have A:¬(0<c/\d<0):=fun i=>by
  obtain⟨x,y⟩:=i
  have j:=Jp y (():0<g-e)
  have l:=Jy x (():0<h-e)
  have m:=JL y (():g-f<0)
  have n:=Jv x (():h-f<0)
  have o:=oK (z:=a) k ()
  have b1:=jT (z:=b) k ()
  omega
 have B:¬(c<0/\0<d):=fun i=>by
  obtain⟨x,y⟩:=i
  have j:=Jy y (():0<g-e)
  have l:=Jp x (():0<h-e)
  have m:=Jv y (():g-f<0)
  have n:=JL x (():h-f<0)
  have o:=jT (z:=a) k ()
  have b1:=oK (z:=b) k ()
  omega
 omega
theorem oA{a b c d f h i g:Int}(q:b*(g-i)=d*(f-g)-c*(h-g))(r:c*(h-f)=b*(i-f)-a*(g-f))
 (s:i<f) (t:f<g) (u:g<h) (F:(¬(0<c/\d<0)/\¬(c<0/\0<d))\/(¬(0<a/\b<0)/\¬(a<0/\0<b))) (v:c≠0) (b0:b≠0):0<c↔b<0:=by
 have e:d*(f-g)=-(d*(g-f)):=by rw[<-Int.mul_neg];congr 1;omega
 have w:¬(0<c/\0<b):=fun j=>by
  obtain⟨x,y⟩:=j
  have k:=Jy y (():0<g-i)
  have l:=Jy x (():0<h-g)
  have m:=Jy x (():0<h-f)
  have n:=Jv y (():i-f<0)
  have o:=oK (z:=a) (():0<g-f) ()
  have p:=oK (z:=d) (():0<g-f) ()
  omega
 have A:¬(c<0/\b<0):=fun j=>by
  obtain⟨x,y⟩:=j
  have k:=Jp y (():0<g-i)
  have l:=Jp x (():0<h-g)
  have m:=Jp x (():0<h-f)
  have n:=JL y (():i-f<0)
  have o:=jT (z:=a) (():0<g-f) ()
  have p:=jT (z:=d) (():0<g-f) ()
  omega
 omega
theorem wj(U V:Wl):Mq U V*(l2 V-l1 V)=Mt V U*(l1 U-l1 V)-Mq V U*(l2 U-l1 V):=by unfold Mq Mt sd l1 l2 la NH;grind
theorem vy(U V:Wl):Mt U V*(l2 V-l1 V)=Mt V U*(l1 U-l2 V)-Mq V U*(l2 U-l2 V):=by unfold Mq Mt sd l1 l2 la NH;grind
theorem gB{x y u v:Int}(a:0<=y/\y<=20)(b:0<=v/\v<=20)(h:la x y=la u v):x=u/\y=v:=by unfold la at h;omega
theorem BZ{U V:Wl}(a:Mn U)(c:Mn V)(h:l1 U=l1 V):Mq U V=0:=by obtain⟨e1,e2⟩:=gB a.b c.b h;unfold Mq sd NH;rw[e1,e2];simp
theorem p9{U V:Wl}(a:Mn U)(b:Mn V)(h:l2 U=l2 V):Mt U V=0:=by obtain⟨e1,e2⟩:=gB a.d b.d h;unfold Mt sd NH;rw[e1,e2];grind
theorem aY.nz{w:Wl}{l s:Int}(h:aY w l s)(a:l1 w<l)(b:l<l2 w):s≠0:=by
 unfold aY at h;rcases h with h|h|h|h|h
 ·omega
 ·omega
 ·omega
 ·omega
 ·exact h
theorem cz{a b c d:Int}:max a c<min b d↔a<b/\a<d/\c<b/\c<d:=by rw[Int.max_lt,Int.lt_min,Int.lt_min,and_assoc]
section
variable{U V:Wl}(ap:max (l1 U) (l1 V)<min (l2 U) (l2 V))
include ap
theorem nC(z:l1 U<l1 V):Mr U V=decide (Mq U V<0):=by unfold Mr;rw[MF ap,ME (Int.ne_of_lt z),ME (Int.not_lt.mpr (K7 z))]
theorem pV(z:l1 V<l1 U):Mr U V=decide (0<Mq V U):=by unfold Mr;rw[MF ap,ME (fun e=>Int.ne_of_lt z e.symm),MF z]
theorem tU(z:l1 U=l1 V)(y:l2 U<l2 V):Mr U V=decide (0<Mt V U):=by unfold Mr;rw[MF ap,MF z,MF y]
theorem qT(z:l1 U=l1 V)(y:¬l2 U<l2 V):Mr U V=decide (Mt U V<0):=by unfold Mr;rw[MF ap,MF z,ME y]
end
theorem yV{a:Int}(h:a≠0):decide (0<a)=!decide (a<0):=by rw[<-decide_not,MK];omega
theorem sS{a:Int}(h:a≠0):decide (a<0)=!decide (0<a):=by rw[<-decide_not,MK];omega
theorem gg{U V:Wl}(d:Mn U)(e:Mn V)(F:My U V)(b:max (l1 U) (l1 V)<min (l2 U) (l2 V)):Mr V U=!Mr U V:=by
 have c:=b;rw[Int.max_comm,Int.min_comm]at c;have o:=cz.mp b;rcases J4 (l1 U) (l1 V)with h|h|h
 ·rw[pV c h,nC b h,yV (F.e1.nz h o.2.2.1)]
 ·rcases J4 (l2 U) (l2 V)with a|a|a
  ·rw[qT c h.symm (Int.not_lt.mpr (K7 a)),tU b h a,sS (F.e4.nz o.2.2.1 a)]
  ·exact absurd ⟨h,a⟩ F.ne
  ·rw[tU c h.symm a,qT b h (Int.not_lt.mpr (K7 a)),yV (F.e2.nz o.2.1 a)]
 ·rw[nC c h,pV b h,sS (F.e3.nz h o.2.1)]
theorem Ci{a b c d:Int}(e:0<=b/\b<=20)(hd:0<=d/\d<=20):HT.lexLt [a,b] [c,d]=decide (la a b<la c d):=by have h:=Md (a:=a) (b:=b) (c:=c) (d:=d);rw[K5,h,ML];unfold la;omega
theorem Fy{a b c d:Int}(e:0<=b/\b<=20)(hd:0<=d/\d<=20):HT.cu [a,b] [c,d]=decide (la c d<la a b):=by rw[Ma.nU,Ci hd e]
theorem qf{z:Int}(h:0<=z/\z<=20):Bd 6 z:=by show z.natAbs<2^6;omega
theorem xu{x y u v:Int}(a:0<=y/\y<=20)(b:0<=v/\v<=20):(x=u/\y=v)↔la x y=la u v:=by unfold la;omega
theorem kI{I:QY}{tk:PU}{js:List Nat}{tc:NP}{te:TD}{δ:DS}{b:MH}{Q:DK}(f:Nat->Option D)(j:I.n<=1000000)(hC:∀p a,b p=MB->I.C (aA b p (.lst a))) (h:∀i d M,i<I.n->I.item i=MA d->Sub b M->∃os,zp tk d os/\(∀K:Bool->MH->Prop,K (f i).isSome M->tc (cδ os js δ) M K)/\∀e,f i=MA e->∀K:DK,(∀c,Sub M c->K e c)->te (cδ os js δ) M K) (k:∀p,b p=MB->Q (.ref p) (aA b p (.lst ((J5 I.n).filterMap f)))):xh I tk js tc te δ b Q:=by
 refine⟨j,fun p g=>⟨fun i a M=>a=(J5 i).filterMap f/\M=aA b p (.lst a),⟨rfl,rfl⟩,?_,?_,?_⟩⟩
 ·rintro i a M _ ⟨_,rfl⟩;exact hC p a g
 ·rintro i a d M l hd ⟨rfl,rfl⟩;obtain⟨os,m,o,q⟩:=h i d _ l hd (.new g .refl);refine⟨os,m,o _ ?_⟩;cases e:f i with
  |none=>
   refine jK rfl ⟨_,.refl,?_,?_⟩
   ·rw[KD,List.filterMap_append];simp[e]
   ·rfl
  |some v=>
   refine yk rfl (q v e _ fun c r=>⟨_,r,ag,?_,by rw[bR]⟩)
   rw[KD,List.filterMap_append];simp[e]
 ·rintro a M ⟨rfl,rfl⟩;exact k p g
theorem xQ{A:Wl}{x y:Int}(c:Mn A)(e:0<=y/\y<=20)(h:(!(decide (A.1=x/\A.2.1=y)||decide (A.2.2.1=x/\A.2.2.2=y))&&(decide (l1 A<=la x y)&&decide (la x y<=l2 A)&&decide (sd A x y=0)))=MD):aY A (la x y) (sd A x y):=by
 unfold aY;by_cases f:A.1=x/\A.2.1=y
 ·exact .inl ((xu c.b e).mp f).symm
 ·by_cases g:A.2.2.1=x/\A.2.2.2=y
  ·exact .inr (.inl ((xu c.d e).mp g).symm)
  ·rw[MG f,MG g,Bool.or_false,Bool.not_false,Kr,<-Bool.decide_and,<-Bool.decide_and,decide_eq_false_iff_not]at h;by_cases i:sd A x y=0
   ·rcases Int.lt_or_le (la x y) (l1 A)with z|z
    ·exact .inr (.inr (.inl z))
    ·rcases Int.lt_or_le (l2 A) (la x y)with a|a
     ·exact .inr (.inr (.inr (.inl a)))
     ·exact absurd ⟨⟨z,a⟩,i⟩ h
   ·exact .inr (.inr (.inr (.inr i)))
theorem En(M:MH)(A:Wl)(x y:Int)(g:Bool->Bool)(Q:DK)(q:Q (.bl (g (decide (A.1=x/\A.2.1=y)||decide (A.2.2.1=x/\A.2.2.2=y)))) M):yr g (.tup [.int x,.int y]) (uw A) M Q:=by refine⟨_,_,Pd.of rfl,.inr (Pd.of rfl),rfl,rfl,?_⟩;rw[L8,L8,List.any_nil,oy,oy,Bool.or_false];exact q
theorem B1(z:Int):Bd 64 (Ji z):=by
 rcases J4 z 0 with h|h|h
 ·rw[Jr h];decide
 ·subst h;decide
 ·rw[JK h];decide
def R9(w:Wl):LC:=.tuple [.tuple [.int w.1,.int w.2.1],.tuple [.int w.2.2.1,.int w.2.2.2]]
theorem wR{M:MH}:∀ws:List Wl,Oy M (ws.map uw) (ws.map R9)
 |[]=>.nil
 |w::ws=>.cons (Pd.of rfl) (wR ws)
theorem xJ:∀ws:List Wl,Kl (ws.map R9)=MC
 |[]=>rfl
 |w::ws=>by rw[IY,Kl,xJ ws];rfl
theorem zO:∀ws:List Wl,LG (ws.map R9)<=10
 |[]=>Mm rfl
 |w::ws=>by
  rw[IY,LG]
  exact Nat.max_le.mpr ⟨Mm rfl,zO ws⟩
theorem vT(ws:List Wl):Kt (.list (ws.map R9))=MC:=by unfold Kt;have a:=xJ ws;have b:=zO ws;rw[Jn];refine⟨by rw[Lz];exact a,MI ?_⟩;rw[PyData.depth];omega
theorem tm:∀ws:List Wl,Jt (.list (ws.map R9)) (.list [])=ws.isEmpty
 |[]=>by simp[Jt,JN]
 |w::ws=>by simp[Jt,JN]
def PF(ws:List Wl):Prop:=∀(i j:Nat) (U V:Wl),i≠j->ws[i]?=MA U->ws[j]?=MA V->My U V
theorem Cz:PF []:=fun i j U V _ h=>by simp at h
theorem vK{ws:List Wl}{U:Wl}(h:PF ws)(d:∀(j:Nat) (w:Wl),ws[j]?=MA w->My U w):PF (ws++[U]):=by
 intro i j A B c f g
 have get:∀{k:Nat} {C:Wl},(ws++[U])[k]?=MA C->ws[k]?=MA C\/(k=ws.length/\C=U):=fun{k C} e=>by
  rcases Nat.lt_trichotomy k ws.length with z|z|z
  ·rw[JD z]at e;exact .inl e
  ·subst z;rw[JZ (IX _)]at e;simp at e;exact .inr ⟨rfl,e.symm⟩
  ·rw[List.getElem?_eq_none (by simp;omega)]at e;cases e
 rcases get f with a|⟨a,rfl⟩<;>rcases get g with b|⟨b,rfl⟩
 ·exact h i j A B c a b
 ·exact(d _ _ a).swap
 ·exact d _ _ b
 ·omega
theorem xB{w:Wl}(h:Mn w){v:Int}(e:0<=v)(f:v<2):∃x y,atI [D.tup [.int w.1,.int w.2.1],.tup [.int w.2.2.1,.int w.2.2.2]] v=MA (.tup [.int x,.int y])/\(0<=x/\x<=20)/\(0<=y/\y<=20):=by
 rcases(():v=0\/v=1)with rfl|rfl
 ·exact⟨_,_,rfl,h.a,h.b⟩
 ·exact⟨_,_,rfl,h.c,h.d⟩
theorem Bk{ws:List Wl}{v:Int}(b:0<=v)(c:v<ws.length):∃w,w∈ws/\atI (ws.map uw) v=MA (uw w):=by
 obtain⟨j,rfl⟩:∃j:Nat,v=(j:Int):=⟨v.toNat,()⟩;have a:j<ws.length:=()
 exact⟨ws[j],JS a,bY (by simp[a])⟩
theorem vt{p q e f:Int}(b:0<=p/\p<=20)(a:0<=q/\q<=20)(c:0<=e/\e<=20)(hf:0<=f/\f<=20)(ne:¬(p=e/\q=f)) :
 ∃w:Wl,(if HT.lexLt [e,f] [p,q]=MC then[e,f]else[p,q])=[w.1,w.2.1]/\(if HT.cu [e,f] [p,q]=MC then[e,f]else[p,q])=[w.2.2.1,w.2.2.2]/\Mn w:=by
 rw[Ci hf a,Fy hf a]
 have g:la p q≠la e f:=fun z=>ne ((xu a hf).mpr z)
 by_cases h:la e f<la p q
 ·exact⟨(e,f,p,q),by rw[MF (MI h)],by rw[ME (by simp;omega)],⟨c,hf,b,a,h⟩⟩
 ·have d:la p q<la e f:=()
  exact⟨(p,q,e,f),by rw[ME (by simpa using h)],by rw[MF (MI d)],⟨b,a,c,hf,d⟩⟩
theorem k7{t b X Y p q e f:Int}(a:0<t)(c:0<b)(d:0<=q/\q<=20)(hf:0<=f/\f<=20):MX (MV t b X 1 p) (MV t b Y 1 q) (MV t b X 1 e) (MV t b Y 1 f)↔la p q<la e f:=by rw[Gx a c];unfold la;omega
theorem jf{t b X Y p q e f:Int}(a:0<t)(c:0<b)(d:0<=q/\q<=20)(hf:0<=f/\f<=20):(MV t b X 1 p=MV t b X 1 e/\MV t b Y 1 q=MV t b Y 1 f)↔la p q=la e f:=by rw[Me a c ⋯ ⋯,Me a c ⋯ ⋯];unfold la;omega
theorem jQ{t b X Y:Int}(c:0<t)(a:0<b)(w:Wl)(x y:Int):Mc (MZ (MV t b X 1 w.1) (MV t b Y 1 w.2.1) (MV t b X 1 w.2.2.1) (MV t b Y 1 w.2.2.2) (MV t b X 1 x) (MV t b Y 1 y))=Ji (sd w x y):=by
 have k:(0:Rat)<(t:Rat)/b:=by rw[Rat.div_def];exact Rat.mul_pos (MY c) (Rat.inv_pos.mpr (MY a))
 rw[E9 a,sgn_mul (Rat.mul_pos k k)];rfl
theorem HE(z:Int):Ji z=-1↔z<0:=by rw[<-Xr];omega
theorem dJ{M:MH}:∀ns:List Int,Oy M (ns.map D.int) (ns.map Lk)
 |[]=>.nil
 |n::ns=>.cons (.int n) (dJ ns)
theorem lay_ints:∀ns:List Int,Kl (ns.map Lk)=MC
 |[]=>rfl
 |n::ns=>by rw[IY,Kl,lay_ints ns];rfl
theorem any_ints(k:Int)(ns:List Int):(ns.map Lk).any (fun q=>Jt q (.int k))=ns.any (fun z=>z==k):=by
 rw[List.any_map]
 congr 1
theorem pg{M:MH}{l:Addr}{ns:List Int}(k:Int)(g:Bool->Bool)(Q:DK)(h:M l=MA (.lst (ns.map D.int)))(q:Q (.bl (g (ns.any (fun z=>z==k)))) M):yr g (.int k) (.ref l) M Q:=by refine⟨_,_,.int k,.inl (.lst h (dJ ns)),rfl,lay_ints ns,?_⟩;rw[any_ints];exact q
section
variable{X:Cx}
def gA{a:Type}(xs:List a)(j:Nat)(y:a):List a:=xs.take j++y::xs.drop j
def AA:V->List V->Hp->VK->Prop:=fun x vs H Q=>∃l xs y,∃(k:Int) (j:Nat),x=.ref l/\vs=[.int k,y]/\k=(j:Int)/\H l=MA (.lst xs)/\j<=xs.length/\xs.length<1000000/\Q .non (upd H l (.lst (gA xs j y)))
theorem Ai(a:List IQ)(k:Int)(j:Nat)(u:IQ)(b:k=(j:Int))(c:j<=a.length) :
 (a.toArray.extract 0 (if k<0 then(k+((a.toArray.size:Nat):Int)).toNat else min k.toNat a.toArray.size)).push u++a.toArray.extract (if k<0 then(k+((a.toArray.size:Nat):Int)).toNat else min k.toNat a.toArray.size)=(gA a j u).toArray:=by
 have e:(if k<0 then(k+((a.toArray.size:Nat):Int)).toNat else min k.toNat a.toArray.size)=j:=by
  rw[ME (),Ja];omega
 rw[e]
 apply Array.toList_inj.mp
 simp[gA]
 exact K8 (by simp)
theorem vL:VS X "list.insert" AA:=by
 intro MP s σ H x vs v us Q I g h i;obtain⟨l,xs,y,k,j,ex,m,o,f,A,B,q⟩:=i;subst ex m;cases g;obtain⟨C,c,rfl,p,u⟩:=h.two;obtain⟨t,rfl⟩:=p;obtain⟨z,a,n,r,w,e⟩:=I.mR f;have b:Builtin.List.listFitsIndex k=MC:=by unfold Builtin.List.listFitsIndex;simp;omega
 have d:a.toArray.size<=J8:=by rw[Ja,<-w];exact z
 refine call_meets PySem.F.slot_list_insert ⟨_,e,rfl⟩ PySem.F.entry_list_insert (PySem.F.args_list_insert_3 _ _ _) (PySem.AutoSeq1.list_insert_list_int_val_1 l a.toArray n k t c (by rw[b];decide) d) ⟨e,?_⟩;refine⟨.non,_,I.C0 (its':=gA a j c) f e (Ai a k j c o ()) ((Vals.take j r).append (.cons u (Vals.drop j r))) ?_,rfl,q⟩;show(xs.take j++y::xs.drop j).length<=J8;simp only[Kc,L3,JI,List.length_drop];have:1000000<=J8:=Mm rfl;omega
def G7(c:TD)(t:NL):TD:=fun δ M Q=>c δ M fun x a=>∃l e,x=.ref l/\a l=MA (.lst e)/\t δ a fun f b=>∃xs d,∃j:Nat,f=[.int (j:Int),d]/\b l=MA (.lst xs)/\j<=xs.length/\xs.length<1000000/\Q .non (aA b l (.lst (gA xs j d)))
variable{o e1 e2:Expr}{to:TD}{t:NL}{apos ba:Pos}
theorem gy(A:DE X o to)(B:DA X [e1,e2] t)
 (b:L7 o "insert" X.env (eval o X.env)=eval o X.env:=by rfl)
 (i:((Ks ba (Jd [e1,e2] X.env)).all (fun x=>!x.1)&&(backToKw ba (Lp [] X.env)).all (fun x=>x.1.isSome)
  && decide ([e1,e2].length+([]:List LW).length+(if([]:List LW).isEmpty then 0 else 1)<30))=MC:=by rfl)
 (c:(apos.endLine==ba.line)=MC:=by rfl) (C:Jd [e1,e2] X.env=(MD,eval e1 X.env)::Jd [e2] X.env:=by rfl) (a:(Ks ba (Jd [e2] X.env)).any (·.1)=MD:=by rfl) :
 DE X (.Call (.Attribute o "insert" apos) [e1,e2] [] ba) (G7 to t):=
 bw (yZ PySem.F.plainAttrs_list PySem.F.slot_list_insert PySem.F.type_list_insert vL A B b i c C a) fun σ H Q D=>by
  obtain⟨δ,M,R,k,E,q,n⟩:=D
  refine⟨δ,M,_,k,E,q,fun x G v H1 s u w e=>?_⟩
  obtain⟨l,T,ex,I,J⟩:=e
  subst ex
  rw[Rep]at u
  subst u
  obtain⟨vs,p,_⟩:=w _ _ I
  refine⟨.inl ⟨rfl,vs,Mx.of p⟩,δ,G,_,k.mono s,w,J,fun U V us W K L y f=>?_⟩
  obtain⟨xs,d,j,N,O,Y,Z,P⟩:=f
  subst N
  obtain⟨u1,S,rfl,m,r⟩:=eZ L
  rw[Rep]at m
  subst m
  obtain⟨ws,g,h⟩:=y _ _ O
  have z:=h.length
  exact⟨l,ws,S,_,j,rfl,rfl,rfl,g,(),(),n _ _ _ _ (s.trans (K.trans (.lst g))) (by rw[Rep]) (y.wD g ((h.take j).append (.cons r (h.drop j)))) P⟩
def zP:RC:=fun a M Q=>match a with
 |[.ref l]=>∃xs,M l=MA (.lst xs)/\∀p,M p=MB->Q (.ref p) (aA M p (.lst xs))
 |[.tup xs]=>∀p,M p=MB->Q (.ref p) (aA M p (.lst xs))
 |_=>False
theorem Bz:dI X (.type "list") zP:=cx ph fun vs H Q h=>by
 obtain⟨i,M,R,g,a,q,c⟩:=h;unfold zP at q;split at q
 ·obtain⟨j,e,q⟩:=q;obtain⟨v,rfl,r⟩:=cA g;rw[Rep]at r;subst r;obtain⟨xs,d,f⟩:=a _ _ e;exact⟨_,xs,rfl,.inl (Mx.of d),fun z b=>c _ _ _ _ (.new b) (by rw[Rep]) (a.nh b f) (q z (a.fresh b))⟩
 ·obtain⟨v,rfl,r⟩:=cA g;rw[Rep]at r;obtain⟨p,xs,rfl,d,f⟩:=r;exact⟨_,xs,rfl,.inr d,fun z b=>c _ _ _ _ (.new b) (by rw[Rep]) (a.nh b f) (q z (a.fresh b))⟩
 ·exact q.elim
end
def lam(w:Wl):Int:=l2 w-l1 w
def Nm(w:Wl)(t:Int):Int:=2*w.1*lam w+(t-2*l1 w)*(w.2.2.1-w.1)
def Gh(U V:Wl)(t:Int):Int:=Nm V t*lam U-Nm U t*lam V
theorem Hb(U V:Wl):Gh U V (2*l1 U)=2*(lam U*Mq V U):=by unfold Gh Nm lam Mq sd l1 l2 la NH;grind
theorem Fw(U V:Wl):Gh U V (2*l2 U)=2*(lam U*Mt V U):=by unfold Gh Nm lam Mt sd l1 l2 la NH;grind
theorem ui(U V:Wl)(t:Int):Gh V U t=-Gh U V t:=by unfold Gh;grind
theorem IF(U V:Wl):Gh U V (2*l1 V)=-(2*(lam V*Mq U V)):=by rw[<-Hb,ui]
theorem Io(U V:Wl):Gh U V (2*l2 V)=-(2*(lam V*Mt U V)):=by rw[<-Fw,ui]
theorem Hc(U V:Wl)(p q t:Int):Gh U V t*(q-p)=Gh U V p*(q-t)+Gh U V q*(t-p):=by unfold Gh Nm;grind
theorem fF{U V:Wl}{p q t:Int}(c:p<t)(d:t<q)(a:0<=Gh U V p)(b:0<=Gh U V q)(g:0<Gh U V p\/0<Gh U V q):0<Gh U V t:=by
 refine jT (k:=q-p) () ?_;rw[Hc U V p q t];have e:=LR a (():0<=q-t);have f:=LR b (():0<=t-p);rcases g with g|g
 ·have:=Jy g (():0<q-t);omega
 ·have:=Jy g (():0<t-p);omega
theorem RP{a b t:Int}:2*max a b<t↔2*a<t/\2*b<t:=by rw[Int.max_def];split<;>omega
theorem RU{a b t:Int}:t<2*min a b↔t<2*a/\t<2*b:=by rw[Int.min_def];split<;>omega
theorem xX{a c d b1 e f:Int}(h:a<b1/\a<e/\a<f)(h':c<b1/\c<e/\c<f)(g:d<b1/\d<e/\d<f):∃t,(2*a<t/\2*c<t/\2*d<t)/\t<2*b1/\t<2*e/\t<2*f:=by have k:∀{b},a<b->c<b->d<b->max (max a c) d<b:=fun x y z=>Int.max_lt.mpr ⟨Int.max_lt.mpr ⟨x,y⟩,z⟩;have l:max (max a c) d<min (min b1 e) f:=Int.lt_min.mpr ⟨Int.lt_min.mpr ⟨k h.1 h'.1 g.1,k h.2.1 h'.2.1 g.2.1⟩,k h.2.2 h'.2.2 g.2.2⟩;have i:a<=max (max a c) d:=Int.le_trans (Int.le_max_left ..) (Int.le_max_left ..);have j:c<=max (max a c) d:=Int.le_trans (Int.le_max_right ..) (Int.le_max_left ..);have o:d<=max (max a c) d:=Int.le_max_right ..;have p:min (min b1 e) f<=b1:=Int.le_trans (Int.min_le_left ..) (Int.min_le_left ..);have q:min (min b1 e) f<=e:=Int.le_trans (Int.min_le_left ..) (Int.min_le_right ..);have r:min (min b1 e) f<=f:=Int.min_le_right ..;generalize max (max a c) d=m at *;generalize min (min b1 e) f=n at *;clear h h' g k;refine⟨m+n,⟨?_,?_,?_⟩,?_,?_,?_⟩<;>omega
theorem p5{U V:Wl}{t:Int}(k:Mn U)(l:Mn V)(F:My U V)(j:max (l1 U) (l1 V)<min (l2 U) (l2 V))(t1:2*max (l1 U) (l1 V)<t)(B:t<2*min (l2 U) (l2 V))(h:Mr U V=MC):0<Gh U V t:=by
 have r:l1 U<l1 V->Mq U V<0:=fun z=>MJ ((nC j z).symm.trans h);have hC:l1 V<l1 U->0<Mq V U:=fun z=>MJ ((pV j z).symm.trans h);have P:l1 U=l1 V->l2 U<l2 V->0<Mt V U:=fun z y=>MJ ((tU j z y).symm.trans h);have Q:l1 U=l1 V->¬l2 U<l2 V->Mt U V<0:=fun z y=>MJ ((qT j z y).symm.trans h);clear h;obtain⟨o1,m,n,o4⟩:=cz.mp j;clear j;obtain⟨R,S⟩:=RP.mp t1;obtain⟨T,W⟩:=RU.mp B;clear t1 B;have C:=F.e1.nz;have D:=F.e2.nz;have E:=F.e3.nz;have G:=F.e4.nz;have pr:(¬(0<Mq V U/\Mt V U<0)/\¬(Mq V U<0/\0<Mt V U))\/(¬(0<Mq U V/\Mt U V<0)/\¬(Mq U V<0/\0<Mt U V)):=F.pr.elim (fun z=>.inr (VL z)) (fun z=>.inl (VL z));have z1:=BZ k l;have z2:=p9 k l;have H:=BZ l k;have I:=p9 l k;have X:=fun e f g s d i=>within (wj U V) (vy U V) e f g s pr d i;have Y:=fun e f g s d i=>within (wj V U) (vy V U) e f g s pr.symm d i;have Z:=fun e f g d i=>oA (vy U V) (wj V U) e f g pr d i;have s2:=fun e f g d i=>oA (vy V U) (wj U V) e f g pr.symm d i;clear pr;have ne:=F.ne;have J:0<lam U:=by have:=k.lt;unfold lam;omega
 have K:0<lam V:=by have:=l.lt;unfold lam;omega
 have L:=Hb U V;have M:=Fw U V;have G3:=IF U V;have G4:=Io U V;have u:0<Mq V U->0<Gh U V (2*l1 U):=fun z=>by rw[L];have:=Jy J z;omega
 have v:0<Mt V U->0<Gh U V (2*l2 U):=fun z=>by rw[M];have:=Jy J z;omega
 have w:Mq U V<0->0<Gh U V (2*l1 V):=fun z=>by rw[G3];have:=Jv K z;omega
 have x:Mt U V<0->0<Gh U V (2*l2 V):=fun z=>by rw[G4];have:=Jv K z;omega
 have N:Mq V U=0->Gh U V (2*l1 U)=0:=fun z=>by rw[L,z];simp
 have O:Mt V U=0->Gh U V (2*l2 U)=0:=fun z=>by rw[M,z];simp
 rcases J4 (l1 U) (l1 V)with y|y|y<;>rcases J4 (l2 U) (l2 V)with c|c|c
 ·have A:=C y n;have nd:=G n c;have q:=s2 y n c A nd;have o:Mq U V<0:=r y;have b:=w o;have a:=v ();exact fF (p:=2*l1 V) (q:=2*l2 U) (by assumption) (by assumption) (K7 b) (by first|exact K7 a|exact Int.le_of_eq a.symm) (.inl b)
 ·have o:Mq U V<0:=r y;have b:=w o;have a:=O (I c.symm);exact fF (p:=2*l1 V) (q:=2*l2 U) (by assumption) (by assumption) (K7 b) (by first|exact K7 a|exact Int.le_of_eq a.symm) (.inl b)
 ·have A:=C y n;have nb:=D () c;have q:=Y y () n c A nb;have o:Mq U V<0:=r y;have b:=w o;have a:=x ();exact fF (p:=2*l1 V) (q:=2*l2 V) (by assumption) (by assumption) (K7 b) (by first|exact K7 a|exact Int.le_of_eq a.symm) (.inl b)
 ·have b:=N (H y.symm);have a:=v (P y c);exact fF (p:=2*l1 U) (q:=2*l2 U) (by assumption) (by assumption) (Int.le_of_eq b.symm) (K7 a) (.inr a)
 ·exact absurd ⟨y,c⟩ ne
 ·have b:=N (H y.symm);have a:=x (Q y ());exact fF (p:=2*l1 U) (q:=2*l2 V) (by assumption) (by assumption) (Int.le_of_eq b.symm) (K7 a) (.inr a)
 ·have q:=X y () m c (E y m) (G () c);have d:0<Mq V U:=hC y;have b:=u d;have a:=v ();exact fF (p:=2*l1 U) (q:=2*l2 U) (by assumption) (by assumption) (K7 b) (by first|exact K7 a|exact Int.le_of_eq a.symm) (.inl b)
 ·have d:0<Mq V U:=hC y;have b:=u d;have a:=O (I c.symm);exact fF (p:=2*l1 U) (q:=2*l2 U) (by assumption) (by assumption) (K7 b) (by first|exact K7 a|exact Int.le_of_eq a.symm) (.inl b)
 ·have q:=Z y m c (E y m) (D m c);have d:0<Mq V U:=hC y;have b:=u d;have a:=x ();exact fF (p:=2*l1 U) (q:=2*l2 V) (by assumption) (by assumption) (K7 b) (by first|exact K7 a|exact Int.le_of_eq a.symm) (.inl b)
theorem nO{U V W:Wl}(a:Mn U)(d:Mn V)(b:Mn W)(r:My U V)(s:My V W)(h:My U W)(i:max (l1 U) (l1 V)<min (l2 U) (l2 V))(j:max (l1 V) (l1 W)<min (l2 V) (l2 W))(f:max (l1 U) (l1 W)<min (l2 U) (l2 W))
 (u:Mr U V=MC) (v:Mr V W=MC):Mr U W=MC:=by
 have c:=cz.mp i
 have g:=cz.mp j
 have l:=cz.mp f
 obtain⟨t,⟨x1,m,o⟩,y1,p,q⟩:=xX ⟨c.1,c.2.1,l.2.1⟩ ⟨c.2.2.1,c.2.2.2,g.2.1⟩ ⟨l.2.2.1,g.2.2.1,g.2.2.2⟩
 have w:=p5 (t:=t) a d r i (RP.mpr ⟨x1,m⟩) (RU.mpr ⟨y1,p⟩) u
 have x:=p5 (t:=t) d b s j (RP.mpr ⟨m,o⟩) (RU.mpr ⟨p,q⟩) v
 have y:0<lam U:=by have:=a.lt;unfold lam;omega
 have A:0<lam V:=by have:=d.lt;unfold lam;omega
 have lw:0<lam W:=by have:=b.lt;unfold lam;omega
 have C:0<Gh U W t:=by
  refine jT (k:=lam V) A ?_
  have e:Gh U W t*lam V=lam U*Gh V W t+lam W*Gh U V t:=by unfold Gh;grind
  rw[e]
  exact Int.add_pos (Jy y x) (Jy lw w)
 cases z:Mr U W with
 |true=>rfl
 |false=>
  have n:=gg a b h f
  rw[z]at n
  have B:=p5 (t:=t) b a h.swap (by rw[Int.max_comm,Int.min_comm];exact f) (RP.mpr ⟨o,x1⟩) (RU.mpr ⟨q,y1⟩) n
  rw[ui]at B
  omega
theorem cv{U:Wl}(a:Mn U):Mr U U=MD:=by
 unfold Mr;split
 ·rw[MF rfl,ME (),p9 a a rfl];rfl
 ·rfl
theorem lP{a b:Type}(f:a->b)(xs:List a)(j:Nat)(y:a):gA (xs.map f) j (f y)=(gA xs j y).map f:=by unfold gA;simp[List.map_take,List.map_drop]
theorem nY{a:Type}(xs:List a)(j:Nat)(y:a):(gA xs j y).Perm (y::xs):=by
 unfold gA;have h:(xs.take j++y::xs.drop j).Perm (y::(xs.take j++xs.drop j)):=List.perm_middle
 rwa [List.take_append_drop]at h
theorem qu:∀ns:List Int,LG (ns.map Lk)<=10
 |[]=>Mm rfl
 |n::ns=>by
  rw[IY,LG]
  exact Nat.max_le.mpr ⟨Mm rfl,qu ns⟩
theorem qF{ps:List LC}(a:Kl ps=MC)(b:LG ps<=10):Kt (.list ps)=MC:=by unfold Kt;rw[Jn];refine⟨by rw[Lz];exact a,MI ?_⟩;rw[PyData.depth];omega
theorem shaped_ints(ns:List Int):Kt (.list (ns.map Lk))=MC:=qF (lay_ints ns) (qu ns)
theorem gS{b:Type}(p:b->Bool)(f:b->D):∀l:List b,l.filterMap (fun k=>if p k=MC then MA (f k)else MB)=(l.filter p).map f
 |[]=>rfl
 |a::l=>by
  rw[List.filterMap_cons,List.filter_cons]
  cases h:p a
  ·simp[gS p f l]
  ·simp[gS p f l]
def Mu(ws:List Wl)(k:Int):Wl:=(ws[k.toNat]?).getD (0,0,0,0)
theorem br{ws:List Wl}{k:Int}(b:0<=k)(c:k<ws.length):ws[k.toNat]?=MA (Mu ws k)/\atI (ws.map uw) k=MA (uw (Mu ws k))/\Mu ws k∈ws:=by
 obtain⟨j,rfl⟩:∃j:Nat,k=(j:Int):=⟨k.toNat,()⟩;have a:j<ws.length:=()
 have e:Mu ws (j:Int)=ws[j]:=by unfold Mu;simp[a]
 refine⟨by rw[e];simp[a],?_,by rw[e];exact JS a⟩;rw[e];exact bY (by simp[a])
theorem yq{R:Int->Int->Bool}:∀fs:List Int,fs≠[]->(∀k∈fs,∀j∈fs,k≠j->R j k=!R k j)->(∀k∈fs,∀j∈fs,∀i∈fs,k≠j->j≠i->k≠i->R k j=MC->R j i=MC->R k i=MC)->∃t∈fs,∀k∈fs,k=t\/R t k=MC
 |[],h,_,_=>absurd rfl h
 |[a],_,_,_=>⟨a,by simp,fun k c=>.inl (by simpa using c)⟩
 |a::b::l,_,tot,tr=>by
  obtain⟨t,d,top⟩:=yq (R:=R) (b::l) (by simp) (fun k c j f=>tot k (.tail _ c) j (.tail _ f)) (fun k c j f i p=>tr k (.tail _ c) j (.tail _ f) i (.tail _ p))
  by_cases e:a=t
  ·subst e
   refine⟨a,by simp,fun k c=>?_⟩
   rcases Jo.mp c with rfl|c
   ·exact .inl rfl
   ·exact top k c
  ·have m:=tot a (by simp) t (.tail _ d) e
   cases q:R a t with
   |false=>
    rw[q]at m
    refine⟨t,.tail _ d,fun k c=>?_⟩
    rcases Jo.mp c with rfl|c
    ·exact .inr m
    ·exact top k c
   |true=>
    refine⟨a,by simp,fun k c=>?_⟩
    rcases Jo.mp c with rfl|g
    ·exact .inl rfl
    ·by_cases n:k=a
     ·exact .inl n
     ·rcases top k g with rfl|z
      ·exact .inr q
      ·by_cases o:k=t
       ·subst o;exact .inr q
       ·exact .inr (tr a (by simp) t (.tail _ d) k c e (fun y=>o y.symm) (fun y=>n y.symm) q z)
theorem tu{fs:List Int}{t:Int}{p:Int->Bool}(nd:fs.Nodup)(f:t∈fs)(b:∀k∈fs,p k=MC↔k=t):fs.filter p=[t]:=by
 induction fs with
 |nil=>cases f
 |cons a l g=>
  rw[Lf]at nd
  rw[List.filter_cons]
  by_cases e:a=t
  ·subst e;rw[MF ((b a (by simp)).mpr rfl)];have:l.filter p=[]:=List.filter_eq_nil_iff.mpr fun k c d=>nd.1 ((b k (.tail _ c)).mp d▸c);rw[this]
  ·rw[ME (fun z=>e ((b a (by simp)).mp z))];exact g nd.2 ((Jo.mp f).resolve_left (fun z=>e z.symm)) fun k c=>b k (.tail _ c)
def RV(q:Rat):LC:=.tuple [.int q.num,.int (q.den:Int)]
def Qh(t b x y:Int)(w:Wl):LC:=.tuple [.tuple [RV (MV t b x 1 w.1),RV (MV t b y 1 w.2.1)],.tuple [RV (MV t b x 1 w.2.2.1),RV (MV t b y 1 w.2.2.2)]]
theorem zM(t b x y:Int)(w:Wl):Jt (Qh t b x y w) (Qh t b x y w)=MC:=by simp[Qh,RV,Jt,JN]
theorem zZ{a b x y:Int}(e:-10<=b/\b<=85)(f:-10<=y/\y<=85):HT.lexLt [a,b] [x,y]=decide (la a b<la x y):=by have h:=Md (a:=a) (b:=b) (c:=x) (d:=y);rw[K5,h,ML];unfold la;omega
def Rn(ws:List Wl)(m s:Int)(j:Nat):Bool:=decide (m*l1 (Mu ws (j:Int))<=s)&&decide (s<m*l2 (Mu ws (j:Int)))
def VI(ws:List Wl)(m s:Int):List Int:=((J5 ws.length).filter (Rn ws m s)).map fun j:Nat=>(j:Int)
theorem i8{ws:List Wl}{m s k:Int}(h:k∈VI ws m s):0<=k/\k<ws.length/\m*l1 (Mu ws k)<=s/\s<m*l2 (Mu ws k):=by unfold VI at h;obtain⟨j,a,rfl⟩:=JH.mp h;rw[J6,Ju]at a;have:=a.2;unfold Rn at this;rw[Jn,ML,ML]at this;exact⟨(),(),this.1,this.2⟩
theorem DF(m a b:Int):la (m*a) (m*b)=m*la a b:=by unfold la;grind
theorem over_of{m s a b c d:Int}(j:0<m)(f:m*a<=s)(g:s<m*b)(h:m*c<=s)(i:s<m*d):max a c<min b d:=by have e:∀{x y:Int},m*x<=s->s<m*y->x<y:=fun{x y} p q=>Int.lt_of_mul_lt_mul_left (Int.lt_of_le_of_lt p q) ();have:=e f g;have:=e f i;have:=e h g;have:=e h i;omega
theorem zx{ws:List Wl}{fs:List Int}{m s:Int}(r:∀w∈ws,Mn w)(hF:PF ws)(u:0<m)(v:∀k∈fs,k∈VI ws m s)(x:fs≠[])(nd:fs.Nodup) :
 ∃t∈fs,(∀w∈fs.map (Mu ws),w=Mu ws t\/(Mr (Mu ws t) w=MC/\Mr w (Mu ws t)=MD))/\(fs.filter fun k=>fs.all fun j=>!Mr (Mu ws j) (Mu ws k))=[t]:=by
 have sp:=fun k d=>i8 (v k d)
 have un:∀k∈fs,Mn (Mu ws k):=fun k d=>r _ (br (sp k d).1 (sp k d).2.1).2.2
 have fr:∀k∈fs,∀j∈fs,k≠j->My (Mu ws k) (Mu ws j):=fun k d j f ne=>by
  have a:=sp k d
  have b:=sp j f
  exact hF k.toNat j.toNat _ _ () (br a.1 a.2.1).1 (br b.1 b.2.1).1
 have n:∀k∈fs,∀j∈fs,max (l1 (Mu ws k)) (l1 (Mu ws j))<min (l2 (Mu ws k)) (l2 (Mu ws j)):=fun k d j f=>
  over_of u (sp k d).2.2.1 (sp k d).2.2.2 (sp j f).2.2.1 (sp j f).2.2.2
 have g:∀k∈fs,∀j∈fs,k≠j->Mr (Mu ws j) (Mu ws k)=!Mr (Mu ws k) (Mu ws j):=fun k d j f ne=>gg (un k d) (un j f) (fr k d j f ne) (n k d j f)
 obtain⟨t,o,top⟩:=yq (R:=fun k j=>Mr (Mu ws k) (Mu ws j)) fs x g (fun k d j f i l a b c p q=>nO (un k d) (un j f) (un i l) (fr k d j f a) (fr j f i l b) (fr k d i l c) (n k d j f) (n j f i l) (n k d i l) p q)
 refine⟨t,o,fun w y=>?_,tu nd o fun k d=>?_⟩
 ·obtain⟨k,d,rfl⟩:=JH.mp y
  by_cases e:k=t
  ·exact .inl (by rw[e])
  ·have a:=(top k d).resolve_left e
   have b:=g t o k d (fun z=>e z.symm)
   rw[a]at b
   exact .inr ⟨a,b⟩
 ·rw[JW]
  constructor
  ·intro h
   by_cases e:k=t
   ·exact e
   ·have a:=(top k d).resolve_left e
    have:=h t o
    rw[a]at this
    cases this
  ·rintro rfl j f
   by_cases e:j=k
   ·rw[e,cv (un k d)];rfl
   ·have a:=(top j f).resolve_left e
    have b:=g k d j f (fun z=>e z.symm)
    rw[b,a];rfl
section
variable{X:Cx}{MP:List (Addr×Obj)}{σ:L2.St}{H:Hp}{s:IT}
theorem rW{h':Heap}{t':Nat}{e it:Addr}(I:Inv X MP σ H s)(k:∀b o,b≠e->b≠it->s.heap.get? b=MA o->h'.get? b=MA o)(g:c9 X MP H e)(h:c9 X MP H it):Inv X MP σ H { s with heap:=h',toks:=t' }:=by
 obtain⟨i,e1,_,e3,e4,j⟩:=g;obtain⟨l,f,_,p,t,w⟩:=h;have ne:∀b u,H b=MA u->b≠e/\b≠it:=fun b u q=>⟨fun z=>(by rw[z,i]at q;cases q),fun z=>(by rw[z,l]at q;cases q)⟩;have d:∀{b:Addr},b∉[e,it]->b≠e/\b≠it:=fun{b} a=>⟨fun z=>a (by simp[z]),fun z=>a (by simp[z])⟩;refine I.step (g':=s.gens) (d':=s.drawn) (ch:=[e,it]) (fun b x=>?_) (fun b o _ _ a q _=>k b o (d a).1 (d a).2 q) (fun b o _ _ a q _=>⟨o.slots,k b o (d a).1 (d a).2 q⟩) (fun _ _ _ _ n=>n) (fun b o a q=>⟨o,k b o (d a).1 (d a).2 q⟩) (fun _ _ q=>q) (fun _ _ _ q=>q) (fun b ps q=>⟨#[],by rw[q];simp⟩) (fun m A=>?_) (fun b u q=>?_) I.bare
 ·rcases(show b=e\/b=it by simpa using x)with rfl|rfl
  ·exact⟨e3,e1,e4,j⟩
  ·exact⟨p,f,t,w⟩
 ·obtain⟨o,B,C,D,r⟩:=A;exact⟨o,B,C,k _ o (Ne.symm e1) (Ne.symm f) D,r⟩
 ·refine(I.hok b u q).iJ (fun c v a z=>?_) (fun _ z=>z) fun _ _ z=>z;rcases a with y|y
  ·subst y;exact k _ v (ne _ u q).1 (ne _ u q).2 z
  ·exact k c v (ne c _ y).1 (ne c _ y).2 z
end
theorem rq(c:Nat){prog:Jl}{w:JO}{A:JV}{it:Addr}{fp:List Addr}{n:Nat}{P:Nat->IQ->Prop}{St:Nat->Heap->Prop}(D:Draws prog w A it fp n P St):Draws prog w A it fp (n+c) (fun j x=>∃i,j=i+c/\P i x) (fun j h=>∃i,j=i+c/\St i h) where
 live:=fun j h a=>by
  obtain⟨i,_,st⟩:=a
  exact D.live i h st
 frame:=fun j h b a k=>by
  obtain⟨i,e,st⟩:=a
  exact⟨i,e,D.frame i h b st k⟩
 item:=fun j s Q E m a f=>by
  obtain⟨i,e,st⟩:=a
  exact D.item i s Q E () st fun x b g p d l=>f x b g ⟨i,e,p⟩ ⟨i+1,(),d⟩ l
 done:=fun s Q E a hE=>by
  obtain⟨i,e,st⟩:=a
  obtain rfl:i=n:=()
  exact D.done s Q E st hE
theorem rO{prog:Jl}{w:JO}{A:JV}(b:A.handled=MB)(it l:Addr)(c:l≠it)(items:Array IQ){i:Nat}(d:items[i]?=MB):Draws prog w A it [it,l] i (fun _ _=>False) (fun j h=>j=i/\h.IsListIter it l i/\h.IsList l items) where
 live:=fun _ _ st=>by
  obtain⟨o,f,_⟩:=st.2.1
  exact⟨o,f⟩
 frame:=fun _ _ _ st a=>⟨st.1,st.2.1.at fun o e=>a it (by simp) o e,st.2.2.at fun o e=>a l (by simp) o e⟩
 item:=fun j s Q E g st _=>absurd st.1 ()
 done:=fun s Q E st hE=>wpAny_nextOf_list_end b st.2.1 st.2.2 d hE
def VT(K:I0)(c:Nat)(a:Addr):It:=
 ⟨fun i H=>∃xs x,Mx K H a xs/\xs[i]?=MA x,fun i H x b=>∃T y,x=.ref T/\H T=MB/\b=upd H T (.tup [.int ((i+c:Nat):Int),y])/\∀xs,Mx K H a xs->xs[i]?=MA y,fun i H=>∃xs,Mx K H a xs/\xs.length<=i⟩
theorem nG(c:Nat){P:Jl}{w:JO}{K:I0}{F:List Expr}{kt}{pt:Pos}(a e it:Addr)(r:e≠it):Turn P w K (.Tuple F kt pt) (VT K c a) [e,it] e (fun i h=>(∃g,IsEnum h e it ((i+c:Nat):Int) g)/\h.IsListIter it a i) where
 mem:=by simp
 obj:=fun i h st b G=>by
  rcases(show b=e\/b=it by simpa using G)with rfl|rfl
  ·obtain⟨⟨g,q⟩,_⟩:=st
   exact⟨_,q,fun v z=>by
    have z':Data.fields _=Data.cell v:=z
    cases z'⟩
  ·obtain⟨o,q,_,d⟩:=st.2
   exact⟨o,q,fun v z=>by rw[d]at z;cases z⟩
 keep:=fun i h h' st k=>by
  obtain⟨⟨g,q⟩,st⟩:=st
  exact⟨⟨g,k e (by simp) _ q⟩,st.at fun o z=>k it (by simp) o z⟩
 item:=by
  intro X N O Q R i MP s σ H E I hf st S
  subst N O Q
  obtain⟨xs,x,M,T⟩:=S
  obtain⟨m,U,p,hz⟩:=I.list M
  obtain⟨u,hu,ru⟩:=U.get T
  obtain⟨⟨g,t⟩,j⟩:=st
  have le:e<s.heap.objs.size:=J9 t
  have li:it<s.heap.objs.size:=by obtain⟨o,q,_⟩:=j;exact J9 q
  have y:a≠it:=fun z=>by
   subst z
   obtain⟨o1,V,W,_⟩:=j
   obtain⟨o2,y1,B,_⟩:=p.isList
   rw[V]at y1;cases y1
   rw[W]at B;exact absurd (Value.type.inj B) ⋯
  have Y:e≠a:=fun z=>by
   subst z
   obtain⟨o2,y1,B,_⟩:=p.isList
   rw[show s.heap.get? e=_ from t]at y1;cases y1
   exact absurd (Value.type.inj B) ⋯
  have C:X.A.in1.handled=MB:=I.ok.hd R
  have a0:i<m.length:=(J1.mp hu).1
  refine wpAny_pyNext_enum_itemD (i:=i+c) (rq c (Draws.list C it a y m.toArray)) t ⟨i,rfl,j,p.isList⟩ (by simp;omega) r (by simp[r,Y]) fun x0 h1 D l ho J hT b0 hk=>?_
  obtain⟨i0,c0,l⟩:=l
  obtain rfl:i=i0:=()
  obtain⟨i1,d0,L⟩:=J
  obtain rfl:i1=i+1:=()
  obtain rfl:u=x0:=by
   have l:m[i]?=MA x0:=by simpa using l
   rw[hu]at l;cases l;rfl
  refine⟨_,rfl,wpAny_letOwnedTupleGo_enum (s:={ s with heap:=h1,toks:=D+1 }) ho fun h2 Z n=>?_⟩
  have n:LI e h1 h2:=n
  have fr:=I.fresh
  have I1:Inv X MP σ (upd H s.heap.objs.size (.tup [.int ((i+c:Nat):Int),x])) { s with heap:=s.heap.push { cls:=.type "tuple",data:=.seq #[.int ((i+c:Nat):Int) D,u] },toks:=s.toks }:=
   I.laid (fun b v q=>J0 _ q) (IX _) ⟨Mm rfl,[.int ((i+c:Nat):Int) D,u],.cons ⟨_,rfl⟩ (.cons ru .nil),⟨_,J7 _ rfl,rfl,_,rfl⟩,⟨_,J7 _ rfl,rfl⟩⟩
  have fk:∀{b:Addr},b<s.heap.objs.size->c9 X MP H b->c9 X MP (upd H s.heap.objs.size (.tup [.int ((i+c:Nat):Int),x])) b:=fun{b} lt f=>⟨by rw[bg (JE lt)];exact f.1,f.2⟩
  have fe:=fk le (hf e (by simp))
  have fi:=fk li (hf it (by simp))
  have I2:Inv X MP σ (upd H s.heap.objs.size (.tup [.int ((i+c:Nat):Int),x])) { s with heap:=h2,toks:=D+1 }:=by
   refine rW (s:={ s with heap:=s.heap.push { cls:=.type "tuple",data:=.seq #[.int ((i+c:Nat):Int) D,u] },toks:=s.toks }) I1 (fun b o ne ni q=>?_) fe fi
   have q:(s.heap.push { cls:=.type "tuple",data:=.seq #[.int ((i+c:Nat):Int) D,u] }).get? b=MA o:=q
   refine(n.2 b ne).trans ?_
   rcases Heap.get?_push_cases q with⟨rfl,rfl⟩|q
   ·exact hT
   ·exact hk b o ne ni q
  refine⟨.ref s.heap.objs.size,_,I2,rfl,⟨_,x,rfl,fr,rfl,fun ys hy=>by rw[I.ji hy M];exact T⟩,⟨⟨u,?_⟩,L.1.at fun o z=>(n.2 it r.symm).trans z⟩,fun b G=>?_⟩
  ·rw[show((i+1+c:Nat):Int)=((i+c:Nat):Int)+1 by omega];exact Z
  ·rcases(show b=e\/b=it by simpa using G)with rfl|rfl
   ·exact fe.1
   ·exact fi.1
 done:=by
  intro X N O Q R i MP s σ H E I hf st S
  subst N O Q
  obtain⟨xs,M,T⟩:=S
  obtain⟨m,U,p,hz⟩:=I.list M
  obtain⟨⟨g,t⟩,j⟩:=st
  obtain⟨f0,f1,f2,f3,f4,f5⟩:=hf it (by simp)
  have hl:=U.length
  have y:a≠it:=fun z=>by
   subst z
   obtain⟨o1,V,W,_⟩:=j
   obtain⟨o2,y1,B,_⟩:=p.isList
   rw[V]at y1;cases y1
   rw[W]at B;exact absurd (Value.type.inj B) ⋯
  have C:X.A.in1.handled=MB:=I.ok.hd R
  exact wpAny_pyNext_enum_endD (rO C it a y m.toArray (i:=i) (by simp;omega)) t ⟨rfl,j,p.isList⟩ fun h' eb=>⟨rfl,I.turned (t':=s.toks) (fun b o G q=>eb b o G q) f0 f1 f3 f4 f5⟩
 self:=fun _ _ _ _ _ st h=>let⟨⟨_,t⟩,_⟩:=st;wpAny_pyIter_enum t h
theorem iT:JX "enumerate"=MA (.type "enumerate"):=by decide +kernel
section
variable{X:Cx}{elts:List Expr}{kt:Nat}{pt:Pos}
def FK(K:I0)(b:TA):TI:=fun σ H R=>b σ H fun vs H1=>∃a xs,vs=[.ref a]/\H1 a=MA (.lst xs)/\R (VT K 0 a) H1
theorem z5{a:Expr}{j:TA}{p pos:Pos}(m:Gl X "enumerate")(o:X.mg "enumerate"=MB)(t:PA X [a] j)(v:Jd [a] X.env=[(MD,eval a X.env)]:=by rfl):PI X (.Tuple elts kt pt) (.Call (.Name "enumerate" p) [a] [] pos) (FK X.K j):=by
 intro MP s σ H R I h;refine Call_ (iL I m o iT (Lo (Mp (t pos MP s σ H _ I h) fun us c d=>?_) v rfl));obtain⟨vs,H1,g,w,x⟩:=d;obtain⟨l,xs,y,A,q⟩:=x;subst y;obtain⟨u,rfl,B⟩:=w.one;cases B;obtain⟨z,C,n,r,G,e⟩:=g.mR A;refine call_enumerate_1 e fun J k i D E=>wpAny_pyIter_enum k ?_
 have fp:∀b∈[c.heap.objs.size+1,c.heap.objs.size],c9 X MP H1 b:=fun b F=>by
  have f:c.heap.objs.size<=b:=by
   rcases(show b=c.heap.objs.size+1\/b=c.heap.objs.size by simpa using F)with rfl|rfl
   ·exact Nat.le_succ _
   ·exact IX _
  exact g.pY f (g.hok.fresh f)
 exact⟨_,[c.heap.objs.size+1,c.heap.objs.size],_,_,H1,rfl,g.kept (t':=c.toks) E,nG 0 l _ _ (Nat.succ_ne_self _),⟨⟨_,k⟩,i⟩,fp,q⟩
theorem uZ(c:Nat){K:I0}{H1:Hp}{l:Addr}{es:List D}:VB K H1 ⟨es.length,fun i=>(es[i]?).map fun d=>.tup [.int ((i+c:Nat):Int),d],fun M=>M l=MA (.lst es)⟩ (VT K c l):=by
 refine⟨fun o f p b g=>?_,fun i o f e p b g=>?_,?_⟩
 ·obtain⟨a,h,j⟩:=b _ _ (show f l=MA (.lst es)from g);exact⟨a,Mx.of h,by rw[<-j.length];exact IX _⟩
 ·obtain⟨a,h,j⟩:=b _ _ (show f l=MA (.lst es)from g);have k:i<a.length:=by rw[<-j.length];exact e
  exact⟨a,a[i],Mx.of h,by simp[k]⟩
 ·rintro i o f v q e p b g ⟨T,y,rfl,m,rfl,h⟩;have e:i<es.length:=e;obtain⟨a,n,j⟩:=b _ _ (show f l=MA (.lst es)from g);obtain⟨x,e1,e2⟩:=j.get (show es[i]?=MA es[i] by simp[e]);have:=h a (Mx.of n);rw[e1]at this;cases this;exact⟨.new m,b.new m,.tup [.int ((i+c:Nat):Int),es[i]],by simp[e],by rw[Rep];exact⟨T,_,rfl,Mz.of bC,.cons (by rw[Rep]) (.cons (e2.mono (.new m)) .nil)⟩⟩
def Fo(c:NL):Nw:=fun δ M R=>c δ M fun e b=>∃l a,e=[.ref l]/\b l=MA (.lst a)/\R ⟨a.length,fun i=>(a[i]?).map fun d=>.tup [.int (i:Int),d],fun M=>M l=MA (.lst a)⟩ b
theorem Ab{a:Expr}{d:NL}{p pos:Pos}(g:Gl X "enumerate")(h:X.mg "enumerate"=MB)(i:DA X [a] d)(b:Jd [a] X.env=[(MD,eval a X.env)]:=by rfl):DI X (.Tuple elts kt pt) (.Call (.Name "enumerate" p) [a] [] pos) (Fo d):=
 lU (z5 g h i b) fun σ H R j=>by
  obtain⟨δ,M,x,b,k,q,c⟩:=j
  exact⟨δ,M,_,b,k,q,fun y m vs H1 n o f s=>by
   obtain⟨l,z,e,t,u⟩:=s
   subst e
   obtain⟨v,rfl,r⟩:=cA o
   rw[Rep]at r;subst r
   obtain⟨xs,w,A⟩:=f _ _ t
   exact⟨l,xs,rfl,w,c _ m H1 _ n f u (uZ 0)⟩⟩
end
section
variable{X:Cx}
def FL(b:TD):TD:=fun δ M Q=>b δ M fun x a=>∃l xs,x=.ref l/\a l=MA (.lst xs)/\Q .non (aA a l (.lst xs.reverse))
theorem aI.rev{K:I0}{H:Hp}:∀{a:List D} {xs:List V},aI K H a xs->aI K H a.reverse xs.reverse
 |[],_,h=>by rw[aI]at h;subst h;exact .nil
 |d::a,_,h=>by
  rw[aI]at h
  obtain⟨x,r,rfl,b,c⟩:=h
  rw[List.reverse_cons,List.reverse_cons]
  exact(aI.rev c).append (.cons b .nil)
variable{o:Expr}{to:TD}{apos ba:Pos}
theorem mX(j:DE X o to)(b:L7 o "reverse" X.env (eval o X.env)=eval o X.env:=by rfl)(c:(apos.endLine==ba.line)=MC:=by rfl):DE X (.Call (.Attribute o "reverse" apos) [] [] ba) (FL to):=
 bw (Dn PySem.F.plainAttrs_list PySem.F.slot_list_reverse PySem.F.type_list_reverse rY j b c) fun σ H Q k=>by
  obtain⟨δ,M,R,e,m,q,f⟩:=k
  refine⟨δ,M,_,e,m,q,fun x s v H1 n h i d=>?_⟩
  obtain⟨l,t,ex,p,r⟩:=d
  subst ex
  rw[Rep]at h
  subst h
  obtain⟨vs,a,g⟩:=i _ _ p
  exact⟨.inl ⟨rfl,vs,Mx.of a⟩,l,vs,rfl,rfl,a,f _ _ _ _ (n.trans (.lst a)) (by rw[Rep]) (i.wD a g.rev) r⟩
end
theorem qU{U V:Wl}(h:Mr U V=MC):max (l1 U) (l1 V)<min (l2 U) (l2 V):=by
 unfold Mr at h;split at h
 ·assumption
 ·cases h
theorem nF(f:Int->Int):∀fs:List Int,fs≠[]->∃w∈fs,∀k∈fs,f w<=f k
 |[],h=>absurd rfl h
 |[a],_=>⟨a,by simp,fun k c=>by rw[Jx.mp c];exact KN _⟩
 |a::b::l,_=>by
  obtain⟨w,d,h⟩:=nF f (b::l) (by simp)
  by_cases e:f a<=f w
  ·refine⟨a,by simp,fun k c=>?_⟩
   rcases Jo.mp c with rfl|c
   ·exact KN _
   ·have:=h k c;omega
  ·refine⟨w,.tail _ d,fun k c=>?_⟩
   rcases Jo.mp c with rfl|c
   ·omega
   ·exact h k c
theorem Bu{ws:List Wl}(v:∀w∈ws,Mn w)(hF:PF ws):∀(n:Nat) (fs:List Int),fs.length=n->fs≠[]->fs.Nodup->(∀k∈fs,0<=k/\k<ws.length)->∃t∈fs,∀k∈fs,Mr (Mu ws k) (Mu ws t)=MD:=by
 intro n
 induction n with
 |zero=>intro fs h l;exact absurd (List.eq_nil_of_length_eq_zero h) l
 |succ n x=>
  intro fs A l nd i
  have un:∀k∈fs,Mn (Mu ws k):=fun k c=>v _ (br (i k c).1 (i k c).2).2.2
  have fr:∀k∈fs,∀j∈fs,k≠j->My (Mu ws k) (Mu ws j):=fun k c j B ne=>by
   have a:=i k c
   have b:=i j B
   exact hF k.toNat j.toNat _ _ () (br a.1 a.2).1 (br b.1 b.2).1
  obtain⟨w,f,g⟩:=nF (fun k=>l2 (Mu ws k)) fs l
  by_cases p:fs.erase w=[]
  ·refine⟨w,f,fun k c=>?_⟩
   have:k=w:=by
    by_cases e:k=w
    ·exact e
    ·have:=(List.Nodup.mem_erase_iff nd).mpr ⟨e,c⟩;rw[p]at this;cases this
   subst this;exact cv (un k c)
  ·obtain⟨t,r,top⟩:=x (fs.erase w) (by rw[List.length_erase_of_mem f,A];rfl) p (nd.erase w) (fun k c=>i k (List.mem_of_mem_erase c));have d:t∈fs:=List.mem_of_mem_erase r;have C:t≠w:=((List.Nodup.mem_erase_iff nd).mp r).1;cases q:Mr (Mu ws w) (Mu ws t)with
   |false=>
    refine⟨t,d,fun k c=>?_⟩
    by_cases e:k=w
    ·subst e;exact q
    ·exact top k ((List.Nodup.mem_erase_iff nd).mpr ⟨e,c⟩)
   |true=>
    refine⟨w,f,fun k c=>?_⟩
    cases z:Mr (Mu ws k) (Mu ws w)with
    |false=>rfl
    |true=>
     exfalso
     by_cases e:k=w
     ·subst e;rw[cv (un k c)]at z;cases z
     ·have m:=qU z;have s:=qU q;have D:l2 (Mu ws w)<=l2 (Mu ws k):=g k c;have E:l2 (Mu ws w)<=l2 (Mu ws t):=g t d;have F:=(un k c).lt;have G:=(un t d).lt;have H:max (l1 (Mu ws k)) (l1 (Mu ws t))<min (l2 (Mu ws k)) (l2 (Mu ws t)):=cz.mpr ⟨F,Int.lt_of_lt_of_le (cz.mp m).2.1 E,Int.lt_of_lt_of_le (cz.mp s).2.2.1 D,G⟩;have o:k∈fs.erase w:=(List.Nodup.mem_erase_iff nd).mpr ⟨e,c⟩;by_cases u:k=t
      ·subst u;have:=gg (un k c) (un w f) (fr k c w f e) m;rw[z,q]at this;cases this
      ·have:=nO (un k c) (un w f) (un t d) (fr k c w f e) (fr w f t d (fun y=>C y.symm)) (fr k c t d u) m s H z q;rw[top k o]at this;cases this
end SD
namespace HT
open PySem PyProof.Rows
section
open PySem.SeqAt
open PySem.AutoSeq1 (wpAny_loadPart')
open PySem.MeetsSeq PySem.MeetsSeq2 PySem.MeetsSeq3
theorem m8(l:Addr)(items:Array IQ)(n:Nat)(r:Option Addr)(t:Array (Option IQ))(x:IQ)(j:Nat)(C:j<items.size) :
 Meets (Mb.«tuple.index» ⟨[.ref l,x],[]⟩) fun A R s=>s.heap.get? l=MA { cls:=.type "tuple",dict:=r,data:=.seq items n,slots:=t }/\(∀(i:Nat) (D:i<items.size),i<=j->EqAt A.in1 s items[i] x (decide (i=j)))/\R (.ok (.ret (.int (j:Int) s.toks))) { s with toks:=s.toks+1 }:=
 .of_wp fun prog w A R s h=>by
  obtain⟨u,g,d,v,os⟩:=s;obtain⟨y,k,h⟩:=h
  unfold Mb.«tuple.index»
  simp only[Std.Legacy.Range.forIn_eq_forIn_range']
  wp_walk using K1 y,wpAny_forIn_list _ (fun c b o=>b=(MB,.unit)/\o=⟨u,g,d,v,os⟩/\∃m,m<=j/\c=List.range' m (items.size-m) 1) _
  case turn=>
   rintro a c b o ⟨rfl,rfl,m,q,e⟩
   have p:items.size-m=(items.size-m-1)+1:=()
   rw[p,List.range'_succ]at e
   injection e with z B
   subst z B
   have f:a<items.size:=()
   rw[Array.getElem?_eq_getElem f]
   refine cc (k a f q prog w _ _ ?_)
   by_cases e1:a=j
   ·subst e1
    rw[MI rfl]
    wp_walk
    exact⟨_,rfl,h⟩
   ·rw[MG e1]
    wp_walk
    exact⟨rfl,rfl,a+1,(),by rw[show items.size-a-1=items.size-(a+1) by omega]⟩
  case fin=>
   rintro b o ⟨rfl,rfl,m,q,e⟩
   have p:items.size-m=(items.size-m-1)+1:=()
   rw[p,List.range'_succ]at e
   cases e
  exact⟨rfl,rfl,0,(),by simp[Std.Legacy.Range.size]⟩
end
end HT
namespace SD
open PySem PySem.Spec PyProof.Rows L2
section
variable{X:Cx}
def G8(c:TD)(t:NL):TD:=fun δ M Q=>c δ M fun x e=>∃a,x=.tup a/\t δ e fun f b=>∃d p,∃j:Nat,f=[d]/\j<a.length/\Pd b d p/\Kt p=MC/\
 (∀(i:Nat) (y:D),i<=j->a[i]?=MA y->∃q,Pd b y q/\Lz q=MC/\Jt q p=decide (i=j))/\Q (.int (j:Int)) b
def GX(K:I0):V->List V->Hp->VK->Prop:=fun x vs H Q=>∃a b M v d p,∃j:Nat,x=.ref a/\vs=[v]/\Mw K H M/\Rep K H (.tup b) x/\Rep K H d v/\j<b.length/\Pd M d p/\Kt p=MC/\
 (∀(i:Nat) (y:D),i<=j->b[i]?=MA y->∃q,Pd M y q/\Lz q=MC/\Jt q p=decide (i=j))/\Q (.int (j:Int)) H
theorem CO(hu:X.A.units+66<K4):VS X "tuple.index" (GX X.K):=by
 intro MP s σ H x vs v us Q I B C D;obtain⟨a,l,M,v1,d,p,j,ex,E,u,w,hd,G,J,f,g,q⟩:=D;subst ex E;cases B;obtain⟨L,rfl,N⟩:=C.one;rw[Rep]at w;obtain⟨a',xs,O,P,y⟩:=w;cases O;obtain⟨c,h,⟨o,z,R,n,S⟩,hz⟩:=I.tuple P;obtain⟨as,T⟩:=bN I u J hd N;have b:c.length=l.length:=by rw[<-h.length,y.length]
 obtain⟨oc,od,U,osl⟩:=o;cases R;cases S;refine call_meets PySem.F.slot_tuple_index ⟨_,z,rfl⟩ PySem.F.entry_tuple_index (PySem.F.args_tuple_index_2 _ _) (HT.m8 a c.toArray n od osl L j (by simpa[b]using G)) ⟨z,fun i V m=>?_,?_⟩
 ·have k:i<l.length:=by simpa[b]using V
  obtain⟨W,Y,Z,g3⟩:=g i l[i] m (IS k);obtain⟨x1,e1,r⟩:=y.get (IS k);obtain⟨u2,e2,t⟩:=h.get e1;obtain⟨bs,q2⟩:=bN I u Y r t
  have e3:c.toArray[i]=u2:=by
   have:=J1.mp e2
   obtain⟨_,e⟩:=this
   simpa using e
  rw[e3,<-g3];have hm:min W.depth p.depth<=63+1:=K3 (Nat.min_le_right _ _) (SeqAt.depth_of_shaped f);exact PySem.SeqAt.eqAt_reads _ _ _ _ _ _ _ _ q2 T Z (KS f) (by show X.A.units+1+_<K4;omega)
 ·exact⟨.int _,H,I.tok _,⟨_,rfl⟩,q⟩
theorem DP{o e1:Expr}{m:TE}{t:TA}{c ba:Pos}(r:X.A.units+66<K4)(u:PE X o m)(w:PA X [e1] t)
 (d:L7 o "index" X.env (eval o X.env)=eval o X.env)
 (j:((Ks ba (Jd [e1] X.env)).all (fun x=>!x.1)&&(backToKw ba (Lp [] X.env)).all (fun x=>x.1.isSome)
  && decide ([e1].length+([]:List LW).length+(if([]:List LW).isEmpty then 0 else 1)<30))=MC)
 (f:(c.endLine==ba.line)=MC) (y:Jd [e1] X.env=(MD,eval e1 X.env)::Jd [] X.env) (b:(Ks ba (Jd [] X.env)).any (·.1)=MD) :
 PE X (.Call (.Attribute o "index" c) [e1] [] ba) (fun σ H Q=>m σ H fun x H1=>(∃p xs,x=.ref p/\Mz X.K H1 p xs)/\t σ H1 fun vs k=>GX X.K x vs k Q):=by
 intro MP s σ H Q I h
 refine wpAny_Call_method_late d j f rfl (Mp (u MP s σ H _ I h) fun v z g=>?_)
 obtain⟨x,H1,l,B,⟨p,xs,ex,n⟩,C⟩:=g
 subst ex
 cases B
 obtain⟨D,_,⟨E,G,J,_⟩,_⟩:=l.tuple n
 obtain⟨L,M,N⟩:=l.Ec n
 refine⟨"tuple","tuple.index",PySem.F.plainAttrs_tuple,PySem.F.slot_tuple_index,PySem.F.type_tuple_index,⟨E,G,J⟩,fun a e=>by cases e;exact⟨L,M,N⟩,?_⟩
 have q:=w ba MP z σ H1 _ l C
 rw[y]at q ⊢
 refine Calls.callWith_builtin (by show(MD||(Ks ba (Jd [] X.env)).any (·.1))=MD;rw[b]<;>rfl) (Calls.evalArgs_plain ?_)
 exact Mp q fun us O i=>by obtain⟨vs,k,P,R,S⟩:=i;exact(CO r MP O σ k (.ref p) vs (.ref p) us Q P rfl R S)
variable{o e1:Expr}{to:TD}{t:NL}{apos ba:Pos}
theorem tO(z:X.A.units+66<K4)(B:DE X o to)(C:DA X [e1] t)
 (c:L7 o "index" X.env (eval o X.env)=eval o X.env:=by rfl)
 (h:((Ks ba (Jd [e1] X.env)).all (fun x=>!x.1)&&(backToKw ba (Lp [] X.env)).all (fun x=>x.1.isSome)
  && decide ([e1].length+([]:List LW).length+(if([]:List LW).isEmpty then 0 else 1)<30))=MC:=by rfl)
 (e:(apos.endLine==ba.line)=MC:=by rfl) (D:Jd [e1] X.env=(MD,eval e1 X.env)::Jd [] X.env:=by rfl) (b:(Ks ba (Jd [] X.env)).any (·.1)=MD:=by rfl) :
 DE X (.Call (.Attribute o "index" apos) [e1] [] ba) (G8 to t):=
 bw (DP z B C c h e D b) fun σ H Q ⟨δ,M,R,i,E,q,l⟩=>by
  refine⟨δ,M,_,i,E,q,fun x F v H1 u m G f=>?_⟩
  obtain⟨I,ex,J⟩:=f
  subst ex
  have n:=m
  rw[Rep]at m
  obtain⟨a,xs,rfl,K,V⟩:=m
  refine⟨⟨a,xs,rfl,K⟩,δ,F,_,i.mono u,G,J,fun W L us Y w N y g=>?_⟩
  obtain⟨d,p,j,O,P,S,r,k,T⟩:=g
  subst O
  obtain⟨U,rfl,s⟩:=cA N
  exact⟨a,I,L,U,d,p,j,rfl,rfl,y,n.mono w,s,P,S,r,k,l _ _ _ _ (u.trans w) (by rw[Rep]) y T⟩
def Ft(te:TD):NP:=fun δ M Q=>te δ M fun x a=>∃l xs,x=.ref l/\a l=MA (.lst xs)/\Q (!xs.isEmpty) a
theorem Ek{e:Expr}{te:TD}(g:DE X e te)(hw:∀a,isTrue e X.env a=(do let v <-a;standAt e.pos;holding [v] (truthy v)):=by intro _;rfl):DT X e (Ft te):=
 l7 (yo g hw) fun σ H Q ⟨δ,M,R,h,i,q,b⟩=>⟨δ,M,_,h,i,q,fun x r v H1 j d f ⟨l,xs,ex,k,m⟩=>by
  subst ex
  rw[Rep]at d;subst d
  obtain⟨c,n,p⟩:=f _ _ k
  refine⟨_,.inl ⟨c,Mx.of n,rfl⟩,?_⟩
  have e:c.isEmpty=xs.isEmpty:=by
   have:=p.length
   cases xs<;>cases c<;>simp at this ⊢
  rw[e]
  exact b _ _ _ j f m⟩
end
open PySem PySem.W PySem.Spec PySem.Calls PyProof.Rows Builtin Builtin.ObjectAttr Builtin.Getset_descriptor
section
variable{P:Jl}{w:JO}{K:I0}{mg:Str->Option IQ}{base:Heap}{N:List Str}{qual:Str}{scope:Lr}{f:Addr}{cd:IQ}{A:JV}{outer:List Env}{s:IT}{H:Hp}{E:XK}
end
def two(a t1 b c d:Expr)(scope:Lr)(pos:Pos):Expr:=.ListComp a [⟨t1,b,[],0⟩,⟨c,d,[],0⟩] scope pos
theorem GP(a t1 d e c:Expr)(scope:Lr)(pos:Pos)(it b:IQ)(env:Env):compTurn (two a t1 d e c scope pos) 0 it b env=(do
 standAt d.pos
 match <-pyNext it with
 |none=>pure (.done .next)
 |some v=>
  KU t1 it v
  LQ t1 env v
  let x <-eval c env
  standAt c.pos
  let x <-JA c env x
  let _ <-runOwn (.compStart (two a t1 d e c scope pos) 1 (<-holding [x] (pyIter x)) b env) env
  again (.compLoop (two a t1 d e c scope pos) 0 it b env)):=by rfl
theorem FG(a t1 e c d:Expr)(scope:Lr)(pos:Pos)(it b:IQ)(env:Env):compTurn (two a t1 e c d scope pos) 1 it b env=(do
 standAt d.pos
 match <-pyNext it with
 |none=>pure (.done .next)
 |some v=>
  KU c it v
  LQ c env v
  (do let _ <-call (.builtin "list.append") [b,<-eval a env])
  again (.compLoop (two a t1 e c d scope pos) 1 it b env)):=by rfl
section
variable{prog:Jl}{w:JO}{A:JV}{R:Result->IT->Prop}{s:IT}{elt t1 i1 t2 i2:Expr}{scope:Lr}{pos:Pos}{it acc:IQ}{env:Env}
theorem EH(c:Le (Jh prog w) A (.compLoop (two elt t1 i1 t2 i2 scope pos) 1 it acc env) R s)
 (h:J3 (Jh prog w) A (pyIter it) (fun a b=>Le (Jh prog w) A (.compLoop (two elt t1 i1 t2 i2 scope pos) 1 a acc env) R b) (notedBy (Jh prog w) A env fun x b=>R (.error x) b) s) :
 Le (Jh prog w) A (.compStart (two elt t1 i1 t2 i2 scope pos) 1 it acc env) R s:=by
 refine codeAny_of_tree ?_
 show J3 _ _ ((compStart (two elt t1 i1 t2 i2 scope pos) 1 it acc env).onRaise (fun x=>do noteFrame x env;standAt theWindowsPlace)) _ _ s
 refine wpAny_notedAt ?_
 unfold compStart
 show J3 _ _ (ask >>= _) _ _ s
 refine cc (wpAny_askSetting (wpAny_ite ?_))
 split
 ·first
   |exact cc (IV (IV (And.intro rfl c)))
   |exact IV (And.intro rfl c)
 ·refine cc (wpAny_rule ?_)
  show J3 _ _ (standAt i2.pos >>= _) _ _ s
  exact cc (Kz (cc (Jc h (fun a b d=>IV (And.intro rfl d)) fun _ _ x=>x)))
theorem GZ(J:Nat->IT->Prop)
 (step:∀n s,J n s->J3 (Jh prog w) A (pyNext it) (fun r b=>match r with
  |none=>R (.ok .next) b
  |some v=>J3 (Jh prog w) A (KU t2 it v) (fun _ c=>J3 (Jh prog w) A (LQ t2 env v) (fun _ d=>
   J3 (Jh prog w) A (eval elt env) (fun x f=>J3 (Jh prog w) A (call (.builtin "list.append") [acc,x]) (fun _ g=>∃m,m<n/\J m g) NM f) NM d) NM c) NM b) NM s)
 (n:Nat) (h:J n s):Le (Jh prog w) A (.compLoop (two elt t1 i1 t2 i2 scope pos) 1 it acc env) R s:=by
 have a:∀{E:IQ->IT->Prop} e i,NM e i->E e i:=fun _ _ z=>z.elim
 refine codeAny_loop rfl J (fun n s k=>?_) n h
 show J3 _ _ (Sem.onRaise (compTurn (two elt t1 i1 t2 i2 scope pos) 1 it acc env) (fun x=>do noteFrame x env;theTreesLotGoes x)) _ _ s
 refine wpAny_noted ?_
 rw[FG]
 refine cc (Kz (cc (Jc (step n s k) (fun r b j=>?_) a)))
 cases r with
 |none=>exact IV j
 |some v=>
  refine cc (Jc j (fun _ c l=>cc (Jc l (fun _ d o=>?_) a)) a)
  exact cc (cc (Jc o (fun x f p=>cc (Jc p (fun _ g q=>IV (IV ⟨rfl,q⟩)) a)) a))
theorem F5(J:Nat->IT->Prop)(c:∀x,JA i2 env x=pure x)
 (step:∀n s,J n s->J3 (Jh prog w) A (pyNext it) (fun r d=>match r with
  |none=>R (.ok .next) d
  |some v=>J3 (Jh prog w) A (KU t1 it v) (fun _ g=>J3 (Jh prog w) A (LQ t1 env v) (fun _ i=>
   J3 (Jh prog w) A (eval i2 env) (fun x j=>J3 (Jh prog w) A (pyIter x) (fun a k=>Le (Jh prog w) A (.compStart (two elt t1 i1 t2 i2 scope pos) 1 a acc env) (fun r l=>match r with
    |.ok _=>∃m,m<n/\J m l
    |.error e=>False) k) NM j) NM i) NM g) NM d) NM s)
 (n:Nat) (h:J n s):Le (Jh prog w) A (.compLoop (two elt t1 i1 t2 i2 scope pos) 0 it acc env) R s:=by
 have b:∀{E:IQ->IT->Prop} e o,NM e o->E e o:=fun _ _ z=>z.elim
 refine codeAny_loop rfl J (fun n s t=>?_) n h
 show J3 _ _ (Sem.onRaise (compTurn (two elt t1 i1 t2 i2 scope pos) 0 it acc env) (fun x=>do noteFrame x env;theTreesLotGoes x)) _ _ s
 refine wpAny_noted ?_
 rw[GP]
 refine cc (Kz (cc (Jc (step n s t) (fun r d p=>?_) b)))
 cases r with
 |none=>exact IV p
 |some v=>
  refine cc (Jc p (fun _ g u=>cc (Jc u (fun _ i y=>cc (Jc y (fun x j B=>?_) b)) b)) b)
  refine cc (Kz ?_)
  rw[c]
  refine cc (IV ?_)
  refine cc (Kb (Jc B (fun a k C=>?_) b))
  refine cc (wpAny_runOwn (codeAny_mono C (fun r l q=>?_)))
  cases r with
  |ok f=>exact IV ⟨rfl,q⟩
  |error e=>exact q.elim
end
def GY(js:List Nat)(wi2:TI)(te:TE)(σ:L2.St)(J:It)(H1:Hp)(Q:VK):Prop:=∀D,H1 D=MB->∃W:Nat->Nat->Hp->Prop,(∃m,W 0 m (upd H1 D (.lst [])))/\∀i m H,W i m H->
 (J.stop i H/\Q (.ref D) H)\/(J.go i H/\∀y c,J.yld i H y c->∀o,wi2 (cσ [MA y,o] js σ) c fun b h=>∃U:Nat->Nat->Hp->Prop,(∃n,U 0 n h)/\∀j n a,U j n a->
  (b.stop j a/\∃d,d<m/\W (i+1) d a)\/(b.go j a/\∀z e,b.yld j a z e->te (cσ [MA y,MA z] js σ) e fun v f=>∃xs,f D=MA (.lst xs)/\xs.length<J8/\∃g,g<n/\U (j+1) g (upd f D (.lst (xs++[v])))))
def BY(js:List Nat)(a wi2:TI)(te:TE):TE:=fun σ H Q=>a σ H fun J H1=>GY js wi2 te σ J H1 Q
section
variable{X:Cx}{x y:Str}{px py pos:Pos}{js:List Nat}{scope:Lr}{elt i1 i2:Expr}{te:TE}{wi wi2:TI}{MP:List (Addr×Obj)}{σ:L2.St}{H:Hp}{s:IT}{fp:List Addr}{it:Addr}{tn:Nat->Heap->Prop}{J:It}
theorem Bs(c:Ml X [x,y] js scope)(hc:X.calm=MC)(p1:∀C s H fp,PI (Mv X [x,y] js scope C s H fp) (.Name y py) i2 wi2)(q1:∀(env:Env) x,JA i2 env x=pure x)(he:∀C s H fp,PE (Mv X [x,y] js scope C s H fp) elt te)
 {R:IQ->Addr->Result->IT->Prop} {E:IQ->IT->Prop} {Q:VK}
 (I:Inv X MP σ H s) (T:Turn X.prog X.w X.K (.Name x px) J fp it tn) (st:tn 0 s.heap) (hf:∀b∈fp,c9 X MP H b) (wc:GY js wi2 te σ J H Q)
 (hR:∀D C f F,Inv X MP σ f F->c9 X MP f C->(∃m,F.heap.Ns C m)->Q (.ref D) f->R (.ref D) C (.ok .next) F) :
 J3 (Jh X.prog X.w) X.A (newList []) (fun s0 t0=>J3 (Jh X.prog X.w) X.A (newFunctionEnv scope X.env.globals (fE scope.names X.env) [] X.env.qual MB .none (MA X.env)) (fun N v0=>
  Le (Jh X.prog X.w) X.A (.compStart (two elt (.Name x px) i1 (.Name y py) i2 scope pos) 0 (.ref it) s0 { N with scope:=relabel scope X.env }) (R s0 N.locals) v0) E t0) E s:=by
 have r1:∀C s H fp,PG (Mv X [x,y] js scope C s H fp) (.Name x px) (gr 0):=fun _ _ _ _=>iD c 0 rfl
 have s1:∀C s H fp,PG (Mv X [x,y] js scope C s H fp) (.Name y py) (gr 1):=fun _ _ _ _=>iD c 1 rfl
 have x0:∀b∈fp,b<s.heap.objs.size:=fun b a=>let⟨o,e,_⟩:=T.obj 0 _ st b a;J9 e
 have hD:H s.heap.objs.size=MB:=I.hok.fresh (IX _)
 refine JG (pG ?_)
 generalize hh:s.heap.push { cls:=.type "list",dict:=MB,data:=.seq ([]:List IQ).toArray }=g
 generalize y0:pushCells (({ s with heap:=g }:IT).heap.push { cls:=.type "dict",data:=.dict #[] }) scope.names=h
 have k3:∀b o,s.heap.get? b=MA o->g.get? b=MA o:=fun b o e=>by rw[<-hh];exact J0 _ e
 have I3:Inv X MP σ (upd H s.heap.objs.size (.lst [])) { s with heap:=g }:=by
  refine I.laid (t':=s.toks) k3 (IX _) ?_
  refine⟨K6 _,[],0,.nil,?_⟩
  rw[<-hh]
  exact J7 _ rfl
 have k:∀b∈fp,c9 X MP (upd H s.heap.objs.size (.lst [])) b:=fun b a=>⟨by rw[bg (JE (x0 b a))];exact(hf b a).1,(hf b a).2⟩
 have t1:g.objs.size=s.heap.objs.size+1:=by rw[<-hh,Ko]
 have z0:∀b∈fp,b<g.objs.size:=fun b a=>by rw[t1];exact Nat.lt_succ_of_lt (x0 b a)
 have k4:∀b o,g.get? b=MA o->h.get? b=MA o:=fun b o e=>by rw[<-y0];exact pushCells_keeps _ _ b o (J0 _ e)
 have I4:=lG c I3 k z0 (h':=h) y0.symm k4
 obtain⟨W,⟨m0,w0⟩,b1⟩:=wc _ hD
 have PK:tn 0 h:=T.keep 0 _ _ st fun b a o e=>k4 b o (k3 b o e)
 generalize hX:Mv X [x,y] js scope g.objs.size { s with heap:=g } (upd H s.heap.objs.size (.lst [])) fp=X' at I4
 have S:∀{pins':List (Addr×Obj)} {f:Hp} {l:L2.St} {F:IT},Inv X' [] l f F->(∀b∈fp,f b=MB)->∀b∈fp,c9 X' [] f b:=fun{pins' f l F} J' hn b a=>by
  subst hX
  obtain⟨a1,a2⟩:=J'.ok.exf b a
  exact⟨hn b a,a1,J'.ok.exfs b a,.inl a,a2,fun p hp=>absurd (show p∈([]:List (Addr×Obj))from hp) (by simp)⟩
 have O:Le (Jh X.prog X.w) X.A (.compLoop (two elt (.Name x px) i1 (.Name y py) i2 scope pos) 0 (.ref it) (.ref s.heap.objs.size) (ki scope g.objs.size X.env)) (R (.ref s.heap.objs.size) g.objs.size)
  { s with heap:=h }:=by
  refine F5 (fun n F=>∃i os f,os.length=2/\Inv X' [] (cσ os js σ) f F/\tn i F.heap/\(∀b∈fp,f b=MB)/\W i n f) (fun x=>q1 _ x) ?_ m0 ⟨0,_,_,by simp,I4,PK,fun b a=>(k b a).1,w0⟩
  rintro n s5 ⟨i,os,H5,u1,I5,OU,c1,w5⟩
  rcases b1 i n H5 w5 with⟨stop,q⟩|⟨go,step⟩
  ·subst hX
   refine Jc (T.done (Mv X [x,y] js scope g.objs.size { s with heap:=g } (upd H s.heap.objs.size (.lst [])) fp) rfl rfl rfl hc i [] s5 _ H5 NM I5 (S (pins':=[]) I5 c1) OU stop) (fun r s6 z6=>?_) fun _ _ z=>z
   obtain⟨Y,I6⟩:=z6
   subst Y
   refine hR _ _ H5 s6 (I3.yW I6.os I6.base I6.hok I6.bare fun b a=>⟨(k b a).2.2.2.1,(k b a).2.1,(k b a).2.2.2.2.1,(k b a).2.2.2.2.2⟩) (I3.pY (IX _) I6.free) (let⟨m,hm,_⟩:=I6.loc;⟨m,hm⟩) q
  ·subst hX
   refine Jc (T.item (Mv X [x,y] js scope g.objs.size { s with heap:=g } (upd H s.heap.objs.size (.lst [])) fp) rfl rfl rfl hc i [] s5 _ H5 NM I5 (S (pins':=[]) I5 c1) OU go) (fun r s6 z6=>?_) fun _ _ z=>z
   obtain⟨u,Y,h6⟩:=z6
   subst Y
   refine Jc h6 (fun _ s7 z7=>?_) fun _ _ z=>z
   obtain⟨yv,H7,I7,r7,y7,OX,v1⟩:=z7
   have w1:=I7.pinned (S (pins':=[]) I7 v1) (T.obj _ _ OX)
   obtain⟨o0,o1,rfl⟩:∃o0 o1,os=[o0,o1]:=by
    exact xN u1
   refine Jc (r1 _ _ _ _ _ s7 _ H7 yv u (fun l f=>l=cσ [MA yv,o1] js σ/\f=H7) w1 r7 ⟨rfl,rfl⟩) (fun _ s8 Z=>?_) fun _ _ z=>z
   obtain⟨l3,H8,I8,e8,x1⟩:=Z
   subst e8 x1
   have d1:∀{m':Nat} {o2:Option V} {t:Hp} {B:IT},Inv (Mv X [x,y] js scope g.objs.size { s with heap:=g } (upd H s.heap.objs.size (.lst [])) fp) ([]++gv fp s7.heap) (cσ [MA yv,o2] js σ) t B->m'<n->W (i+1) m' t->
    ∃m,m<n/\∃i os f,os.length=2/\Inv (Mv X [x,y] js scope g.objs.size { s with heap:=g } (upd H s.heap.objs.size (.lst [])) fp) [] (cσ os js σ) f B/\tn i B.heap/\(∀b∈fp,f b=MB)/\W i m f:=fun{m' o2 t B} G a0 y1=>by
    refine⟨m',a0,i+1,_,t,rfl,G.eE,T.keep _ _ _ OX fun b a o e=>(G.pin (b,o) (Jb _ (Jb _ (bX a e)))).1,fun b a=>?_,y1⟩
    obtain⟨o',e,d⟩:=T.obj _ _ OX b a
    exact(G.pin (b,o') (Jb _ (Jb _ (bX a e)))).2.1
   refine Jc (p1 _ _ _ _ _ s8 _ _ _ I8 (step yv H8 y7 o1)) (fun v2 s9 h9=>Jc h9 (fun m3 B z1=>?_) fun _ _ z=>z) fun _ _ z=>z
   obtain⟨b2,c2,d2,J2,t,e2,G,T2,OZ,M,U,⟨n0,u0⟩,b0⟩:=z1
   subst e2
   have L:Le (Jh X.prog X.w) X.A (.compLoop (two elt (.Name x px) i1 (.Name y py) i2 scope pos) 1 (.ref b2) (.ref s.heap.objs.size) (ki scope g.objs.size X.env)) (fun r s6=>match r with
    |.ok _=>∃m,m<n/\∃i os f,os.length=2/\Inv (Mv X [x,y] js scope g.objs.size { s with heap:=g } (upd H s.heap.objs.size (.lst [])) fp) [] (cσ os js σ) f s6/\tn i s6.heap/\(∀b∈fp,f b=MB)/\W i m f
    |.error e=>False) B:=by
    refine GZ (fun n2 F=>∃j o2 f,Inv (Mv X [x,y] js scope g.objs.size { s with heap:=g } (upd H s.heap.objs.size (.lst [])) fp) ([]++gv fp s7.heap) (cσ [MA yv,o2] js σ) f F/\d2 j F.heap/\(∀b∈c2,f b=MB)/\U j n2 f) ?_ n0 ⟨0,o1,t,G,OZ,fun b a=>(M b a).1,u0⟩
    rintro n2 e1 ⟨j,o2,c0,f1,OY,P,f2⟩
    rcases b0 j n2 c0 f2 with⟨d0,m',a0,w'⟩|⟨g2,e0⟩
    ·refine Jc (T2.done (Mv X [x,y] js scope g.objs.size { s with heap:=g } (upd H s.heap.objs.size (.lst [])) fp) rfl rfl rfl hc j _ e1 _ c0 NM f1 (fun b a=>⟨P b a,(M b a).2⟩) OY d0) (fun r h2 f0=>?_) fun _ _ z=>z
     obtain⟨Y,j2⟩:=f0
     subst Y
     exact d1 j2 a0 w'
    ·refine Jc (T2.item (Mv X [x,y] js scope g.objs.size { s with heap:=g } (upd H s.heap.objs.size (.lst [])) fp) rfl rfl rfl hc j _ e1 _ c0 NM f1 (fun b a=>⟨P b a,(M b a).2⟩) OY g2) (fun r h2 g0=>?_) fun _ _ z=>z
     obtain⟨u2,Y,k2⟩:=g0
     subst Y
     refine Jc k2 (fun _ m2 h0=>?_) fun _ _ z=>z
     obtain⟨zv,g1,p2,q2,r2,OH,h1⟩:=h0
     have j1:=p2.pinned (fun b a=>⟨h1 b a,(M b a).2⟩) (T2.obj _ _ OH)
     refine Jc (s1 _ _ _ _ _ m2 _ g1 zv u2 (fun l f=>l=cσ [MA yv,MA zv] js σ/\f=g1) j1 q2 ⟨rfl,rfl⟩) (fun _ s2 i0=>?_) fun _ _ z=>z
     obtain⟨i3,t2,w2,x2,k1⟩:=i0
     subst x2 k1
     refine Jc (he _ _ _ _ _ s2 _ _ _ w2 (e0 zv t2 r2)) (fun v y2 k0=>?_) fun _ _ z=>z
     obtain⟨vv,z2,a3,b3,ys,m1,n1,c3⟩:=k0
     refine Jc (jI (X:=(Mv X [x,y] js scope g.objs.size { s with heap:=g } (upd H s.heap.objs.size (.lst [])) fp)) _ y2 _ z2 (.ref s.heap.objs.size) [vv] (.ref s.heap.objs.size) [v] (fun _ f=>∃n',n'<n2/\U (j+1) n' f) a3 rfl (.cons b3 .nil) ⟨_,ys,vv,rfl,rfl,m1,n1,c3⟩) (fun _ n3 l0=>?_) fun _ _ z=>z
     obtain⟨_,e3,r0,_,n',f3,g3⟩:=l0
     refine⟨n',f3,j+1,_,e3,r0.eE,T2.keep _ _ _ OH fun b a o e=>(r0.pin (b,o) (Jb _ (Jb _ (bX a e)))).1,fun b a=>?_,g3⟩
     obtain⟨o',e,d⟩:=T2.obj _ _ OH b a
     exact(r0.pin (b,o') (Jb _ (Jb _ (bX a e)))).2.1
   exact EH L (T2.self X.A 0 _ _ _ OZ L)
 exact codeAny_compStart_list O (T.self X.A 0 _ _ _ PK O)
theorem Dt(c:Ml X [x,y] js scope)(l:X.calm=MC)(n:PI X (.Name x px) i1 wi)(g:∀C s H fp,PI (Mv X [x,y] js scope C s H fp) (.Name y py) i2 wi2)(p:∀C s H fp,PE (Mv X [x,y] js scope C s H fp) elt te) (r:∀x,JA i1 X.env x=pure x:=by intro _;rfl) (i:∀(env:Env) x,JA i2 env x=pure x:=by intro _ _;rfl) : PE X (two elt (.Name x px) i1 (.Name y py) i2 scope pos) (BY js wi wi2 te):=by intro MP s σ H Q I h;unfold two;rw[eval_ListComp];refine wpAny_comprehension_free (use:=MB) rfl r (c.A7 I.ok) c.kind c.names (Mp (n MP s σ H _ I h) fun v L t=>Mp t fun u M a=>?_);obtain⟨it,fp,tn,J,N,e,z,T,st,B,w⟩:=a;subst e;refine Bs (R:=fun j C=>compPost (Jh X.prog X.w) X.A X.xe MB (EP X MP σ Q) j C) c l g i p z T st B w fun D C E F G f d q=>?_;obtain⟨m,K⟩:=d;exact⟨m,K,fun O k=>⟨.ref D,E,G.turned (t':=F.toks) (fun b o ne e=>k.extBut b o ne e) f.1 f.2.1 f.2.2.2.1 f.2.2.2.2.1 f.2.2.2.2.2,rfl,q⟩⟩
end
def Gz(I:QY)(js:List Nat)(h:Nw)(te:TD)(δ:DS)(g:MH)(Q:DK):Prop:=I.n<=1000/\∀p,g p=MB->∃W:Nat->List D->MH->Prop,W 0 [] (aA g p (.lst []))/\(∀i b M,i<=I.n->W i b M->I.C M)/\
 (∀i b d M,i<I.n->I.item i=MA d->W i b M->h (cδ [MA d,MB] js δ) M fun c k=>c.n<=1000/\∃U:Nat->List D->MH->Prop,U 0 b k/\(∀j a M,j<=c.n->U j a M->c.C M)/\
  (∀j a e M,j<c.n->c.item j=MA e->U j a M->te (cδ [MA d,MA e] js δ) M fun v l=>∃f,Sub f l/\f p=MA (.lst a)/\U (j+1) (a++[v]) (aA f p (.lst (a++[v]))))/\∀a M,U c.n a M->W (i+1) a M)/\∀b M,W I.n b M->Q (.ref p) M
def Cb(a:Nw)(js:List Nat)(b:Nw)(te:TD):TD:=fun δ M Q=>a δ M fun I c=>Gz I js b te δ c Q
theorem tG{K:I0}{H:Hp}{d:D}{v:V}(o:Option V)(r:Rep K H d v):Slots K H [MA d,MB] [MA v,o]:=by
 refine⟨rfl,fun i e h=>?_⟩
 match i,h with
 |0,h=>cases h;exact⟨v,rfl,r⟩
 |1,h=>cases h
theorem rC{K:I0}{H:Hp}{d e:D}{v u:V}(r:Rep K H d v)(q:Rep K H e u):Slots K H [MA d,MA e] [MA v,MA u]:=ju (.cons r (.cons q .nil))
theorem wX{K:I0}{wd MT:Nw}{js:List Nat}{te:TD}{σ:L2.St}{H:Hp}{Q:VK}(h:lift K (Cb wd js MT te) σ H Q):BY js (mD K wd) (mD K MT) (lift K te) σ H Q:=by
 obtain⟨δ,M,R,L,hM,q,N⟩:=h;refine⟨δ,M,_,L,hM,q,fun I M1 H1 J O a1 P S p T=>?_⟩;obtain⟨hn,P⟩:=P;obtain⟨W,w0,hC,C,done⟩:=P p (a1.fresh T);refine⟨fun i m t=>m=I.n-i/\i<=I.n/\Mo K H1 t/\∃w M,w.length<=i*1000/\Mw K t M/\W i w M,⟨I.n,by simp,K6 _,.new T,[],_,K6 _,a1.nh T .nil,w0⟩,?_⟩;rintro i m t ⟨rfl,V,f,w,x,hl,F,D⟩;by_cases a:i<I.n
 ·refine .inr ⟨S.go i t x a f F (hC _ _ _ V D),fun v H3 hy o=>?_⟩;obtain⟨X,a3,d,ed,rd⟩:=S.yld i t x v H3 a f F (hC _ _ _ V D) hy;have q3:=C i w d x a ed D;refine⟨cδ [MA d,MB] js δ,x,_,kB (js:=js) (L.mono ((O.trans f).trans X)) (tG o rd),a3,q3,fun y M4 H4 J2 Y a4 Z g=>?_⟩;obtain⟨b0,U,u0,k,l,r⟩:=Z;refine⟨fun j n z=>n=y.n-j/\j<=y.n/\Mo K H4 z/\∃A M,A.length<=i*1000+j/\Mw K z M/\U j A M,⟨y.n,by simp,K6 _,.refl,w,M4,(),a4,u0⟩,?_⟩;rintro j n z ⟨rfl,hj,s,A,B,c0,G,E⟩;by_cases b:j<y.n
  ·refine .inr ⟨g.go j z B b s G (k _ _ _ hj E),fun u H6 a0=>?_⟩;obtain⟨g6,a6,e,ee,re⟩:=g.yld j z B u H6 b s G (k _ _ _ hj E) a0;have s6:=kB (js:=js) (L.mono (((((O.trans f).trans X).trans Y).trans s).trans g6)) (rC (rd.mono ((Y.trans s).trans g6)) re);refine⟨cδ [MA d,MA e] js δ,B,_,s6,a6,l j A e B b ee E,fun vv M' uu H7 g7 r7 a7 c=>?_⟩;obtain⟨M8,s8,e8,w8⟩:=c;obtain⟨ts,hx,rs⟩:=(a7.sub s8) _ _ e8;refine⟨ts,hx,?_,y.n-(j+1),(),rfl,b,((s.trans g6).trans g7).trans (.lst hx),A++[vv],_,by simp;omega,(a7.sub s8).wD hx (rs.append (.cons r7 .nil)),w8⟩;rw[<-rs.length];have sz:1000000<=J8:=Mm rfl;omega
  ·obtain rfl:j=y.n:=()
   exact .inl ⟨g.stop z B s G (k _ _ _ hj E),I.n-(i+1),(),rfl,a,((f.trans X).trans Y).trans s,A,B,(),G,r _ _ E⟩
 ·obtain rfl:i=I.n:=()
  exact .inl ⟨S.stop t x f F (hC _ _ _ V D),N _ _ _ _ (O.trans f) (by rw[Rep]) F (done w x D)⟩
section
variable{X:Cx}{x y:Str}{px py pos:Pos}{js:List Nat}{scope:Lr}{elt i1 i2:Expr}{te:TD}{wd MT:Nw}
theorem ze(c:Ml X [x,y] js scope)(d:X.calm=MC)(e:DI X (.Name x px) i1 wd)(a:∀C s H fp,DI (Mv X [x,y] js scope C s H fp) (.Name y py) i2 MT)(f:∀C s H fp,DE (Mv X [x,y] js scope C s H fp) elt te) (g:∀x,JA i1 X.env x=pure x:=by intro _;rfl) (b:∀(env:Env) x,JA i2 env x=pure x:=by intro _ _;rfl) : DE X (.ListComp elt [⟨.Name x px,i1,[],0⟩,⟨.Name y py,i2,[],0⟩] scope pos) (Cb wd js MT te):=bw (Dt (te:=lift X.K te) (wi2:=mD X.K MT) c d e a f g b) fun _ _ _ h=>wX h
end
section
variable{prog:Jl}{w:JO}{A:JV}{E:IQ->IT->Prop}{s:IT}
theorem pN{c:Addr}{t:Tok}{Q:Int×Int×Nat->IT->Prop}(d:s.heap.IsSliceOf c .none .none (.int (-1) t))(h:Q (1,-1,2) s):J3 (Jh prog w) A (Lv (.ref c) (pure ((2:Nat):Int))) Q E s:=by obtain⟨os,a,e,b⟩:=id d;unfold Lv Builtin.Slice.sliceFields;refine cc (cc (wpAny_field a b (x:=.none) rfl (cc (wpAny_field a b (x:=.none) rfl (cc (wpAny_field a b (x:=.int (-1) t) rfl (IV ?_)))))));refine cc (HT.eN (IsPart.int _ _) ?_);show J3 _ _ (if((-1:Int)==0)=MC then _ else _) _ _ s;rw[ME ⋯];refine cc (HT.eN IsPart.none (cc (HT.eN IsPart.none (cc (IV ?_)))));exact IV h
theorem qK{t c:Addr}{x y:IQ}{tk:Tok}{Q:IQ->IT->Prop}(b:IsTup s.heap t #[x,y])(g:s.heap.IsSliceOf c .none .none (.int (-1) tk))
 (h:Q (.ref s.heap.objs.size) { s with heap:=s.heap.push { cls:=.type "tuple",data:=.seq #[y,x] } }):J3 (Jh prog w) A (getItem (.ref t) (.ref c)) Q E s:=by
 obtain⟨os,d,e,i⟩:=id g
 have f:s.TypeIs (.ref c) "slice":=⟨os,d,e⟩
 unfold getItem
 try with_reducible refine Kb ?_
 first|refine cc (IV ?_)|skip
 refine cc (wpAny_sequenceKey b.typeIs ⋯ ?_)
 refine cc (wpAny_callSpecial?_slot (name:=L6 "__getitem__") b.typeIs Ke
  (wpAny_call_entry Ke b.typeIs entry_tuple_getitem ?_ (args_tuple_getitem _ _)))
 show J3 _ _ (Builtin.Tuple.tupleItemsOf (.ref t) >>= _) _ _ s
 refine cc (tupleItemsOf_ b ?_)
 refine cc (wpAny_typeOf f ?_)
 rw[MF ⋯]
 refine cc (pN g ?_)
 have a:sizeOk (.seq #[y,x]):=Mm rfl
 first
  |exact cc (m:=Kd _) (JG (IV ⟨_,rfl,IV h⟩) a)
  |exact cc (m:=Kd _) (JG (cc (IV (IV ⟨_,rfl,IV h⟩))) a)
  |exact cc (cc (m:=Kd _) (JG (IV (IV ⟨_,rfl,IV h⟩)) a))
  |exact cc (cc (m:=Kd _) (JG (IV ⟨_,rfl,IV h⟩) a))
end
section
variable{X:Cx}{e st:Expr}{pos p2:Pos}
def HM(K:I0)(te:TE)(c:TO):TE:=fun σ H Q=>te σ H fun x H1=>c σ H1 fun o b=>o=MA (-1)/\∃a u v,x=.ref a/\Mz K b a [u,v]/\∀p,b p=MB->Q (.ref p) (upd b p (.tup [v,u]))
theorem Eg{te:TE}{p:TO}(z:PE X e te)(B:PO X (MA st) p):PE X (.Subscript e (.Slice MB MB (MA st) p2) pos) (HM X.K te p):=by
 intro MP s σ H Q I h;refine Subscript_ (Mp (z MP s σ H _ I h) fun v C d=>?_);obtain⟨x,H1,D,E,F⟩:=d;refine wpAny_Slice ?_;rw[evalPart_none];refine IV (IV (Mp (B MP C σ H1 _ D F) fun vs c f=>?_));obtain⟨o,G,J,ps,L,a,u,t,ex,M,N⟩:=f;subst L ex;cases E;obtain⟨g,rfl⟩:∃g,vs=Value.int (-1) g:=by cases ps;exact⟨_,rfl⟩
 have k:Inv X MP σ G { c with heap:=c.heap.push { cls:=.type "slice",data:=.fields #[.none,.none,.int (-1) g] } }:=J.kept (t':=c.toks) fun b O q=>J0 _ q;obtain⟨l,r,y,T⟩:=k.tuple M
 obtain⟨i,j,rfl,m,n⟩:∃i j,l=[i,j]/\RelV u i/\RelV t j:=by
  cases r with
  |cons P r=>cases r with
   |cons R r=>cases r;exact⟨_,_,rfl,P,R⟩
 have S:J3 (Jh X.prog X.w) X.A (getItem (.ref a) (.ref c.heap.objs.size)) (EP X MP σ Q) X.xe { c with heap:=c.heap.push { cls:=.type "slice",data:=.fields #[.none,.none,.int (-1) g] } }:=by refine qK y (Heap.IsSliceOf.new ..) ?_;refine⟨.ref _,_,k.laid (t':=c.toks) (o:=.tup [t,u]) (fun b O q=>J0 _ q) (IX _) ⟨Mm rfl,[j,i],.cons n (.cons m .nil),IsTup.new _ _,Qy.new _ _⟩,rfl,N _ (k.hok.fresh (IX _))⟩
 show J3 (Jh X.prog X.w) X.A (subscriptTail e (.Slice MB MB (MA st) p2) (.ref a) (.ref c.heap.objs.size)) (EP X MP σ Q) X.xe { c with heap:=c.heap.push { cls:=.type "slice",data:=.fields #[.none,.none,.int (-1) g] } };exact tail_any (ops:=[.ref a,.ref c.heap.objs.size]) y.typeIs Ke.lookup S (by with_unfolding_all rfl)
def Hu(te:TD)(a:R3):TD:=fun δ M Q=>te δ M fun x b=>a δ b fun o c=>o=MA (-1)/\∃d e,x=.tup [d,e]/\Q (.tup [e,d]) c
theorem D1{te l:TD}(r:DE X e te)(f:DE X st l):DE X (.Subscript e (.Slice MB MB (MA st) p2) pos) (Hu te (xt l)):=
 bw (Eg r (oM f)) fun σ H Q c=>by obtain⟨δ,M,R,f,a,q,g⟩:=c;exact(⟨δ,M,_,f,a,q,fun x s v H1 m t u w=>⟨δ,s,_,f.mono m,u,w,fun o D E n y h=>by
  obtain⟨A,d,e,ex,h⟩:=h
  subst A ex
  have p:=t.mono n
  rw[Rep]at p
  obtain⟨b,xs,rfl,B,C⟩:=p
  obtain⟨F,G,rfl,i,j⟩:=eZ C
  exact⟨rfl,_,_,_,rfl,B,fun z k=>g _ _ _ _ ((m.trans n).trans (.new k)) (by rw[Rep];exact⟨z,_,rfl,Mz.of bC,aI.mono (.new k) (by
   rw[aI];exact⟨_,_,rfl,j,by rw[aI];exact⟨_,_,rfl,i,by rw[aI]⟩⟩)⟩) (y.new k) h⟩⟩⟩)
end
section
variable{X:Cx}
def Iy:RC:=fun a M Q=>match a with
 |[.ref l]=>∃ns:List Int,M l=MA (.lst (ns.map D.int))/\Q (.int ns.sum) M
 |_=>False
theorem kd(ns:List Int):∀j,j<=ns.length->preSum (fun i=>(ns[i]?).getD 0) j=(ns.take j).sum
 |0,_=>by simp[preSum]
 |j+1,h=>by
  rw[preSum,kd ns j (),K9,List.sum_append]
  have:j<ns.length:=()
  simp[this]
theorem vZ(m:X.calm=MC):cw X (.builtin "sum") (fun xs H Q=>∃(p:Addr) (ns:List Int),xs=[.ref p]/\Mx X.K H p (ns.map V.int)/\Q (.int ns.sum) H):=by
 intro MP s σ H xs us Q I r o;obtain⟨l,ns,e,w,k⟩:=o;subst e;obtain⟨u,rfl,y⟩:=vals1 r;cases y;obtain⟨a,g,z,_⟩:=I.list w;have d:=z.isList;have c:a.length=ns.length:=by rw[<-g.length,IU]
 have lt:l≠s.heap.objs.size:=JE (let⟨_,e,_⟩:=d;J9 e);refine call_sum_walkG (x:=.ref l) (LK d ⟨s.heap.objs.size,[s.heap.objs.size,l],[s.heap.objs.size],a.toArray.size,_,_,fun i=>(ns[i]?).getD 0,rfl,Walks.list (A:=X.A.in1) (I.ok.hd m) _ l lt a.toArray,⟨⟨_,J7 _ rfl,rfl,rfl⟩,d.push _⟩,?_,fun i v B=>?_,fun G J L C=>?_⟩)
 ·intro b j;simp at j;rcases j with rfl|rfl
  ·show _<(s.heap.push _).objs.size;rw[Ko];omega
  ·show _<(s.heap.push _).objs.size;rw[Ko];exact Nat.lt_succ_of_lt (let⟨_,e,_⟩:=d;J9 e)
 ·have f:a[i]?=MA v:=by simpa using B
  have D:=intsAre_of g
  obtain⟨n,E,q⟩:∃n,ns[i]?=MA n/\∃t,v=Value.int n t:=by
   have key:∀{us:List IQ} {ns:List Int},Kw us ns->∀(i:Nat) (v:IQ),us[i]?=MA v->∃n,ns[i]?=MA n/\∃t,v=Value.int n t:=by
    intro us ns h
    induction h with
    |nil=>intro i v e;simp at e
    |cons n t h F=>
     intro i v e
     cases i with
     |zero=>simp at e;exact⟨n,rfl,t,e.symm⟩
     |succ i=>exact F i v (by simpa using e)
   exact key D i v f
  obtain⟨t,rfl⟩:=q;exact⟨t,by simp[E]⟩
 ·rw[show preSum (fun i=>(ns[i]?).getD 0) a.toArray.size=ns.sum by rw[Ja,c,kd ns _ (IX _),L5]];exact⟨.int ns.sum,H,I.kept (LSm.kept_iter C),⟨_,rfl⟩,k⟩
theorem Dg(g:X.calm=MC):dI X (.builtin "sum") Iy:=cx (vZ g) fun vs H Q ⟨b,M,R,h,a,q,c⟩=>by
 rcases b with _|⟨d,b⟩
 ·exact Jq q
 cases d<;>rcases b with _|⟨e,b⟩<;>try exact Jq q
 ·obtain⟨ns,e,q⟩:=q;obtain⟨v,rfl,r⟩:=cA h;rw[Rep]at r;subst r;obtain⟨xs,f,i⟩:=a _ _ e;rw[dY i]at f;exact⟨_,ns,rfl,Mx.of f,c _ _ _ _ .refl (by rw[Rep]) a q⟩
theorem EA:JX "sum"=MA (.builtin "sum"):=boot_sum
end
abbrev ND:=Int×Int×Int×Int
section
variable{P:Jl}{w:JO}
def sZ(P:Jl)(w:JO)(h:Heap)(n d:Int)(a:Addr):Prop:=IsTupleKey (intKind P w) h [n,d] a
def gx(P:Jl)(w:JO)(h:Heap)(k:ND)(a:Addr):Prop:=∃o b c m,h.get? a=MA o/\o.cls=.type "tuple"/\o.data=.seq #[.ref b,.ref c] m/\sZ P w h k.1 k.2.1 b/\sZ P w h k.2.2.1 k.2.2.2 c
theorem gx.inj{h:Heap}{a:Addr}{x y:ND}(p:gx P w h x a)(q:gx P w h y a):x=y:=by
 obtain⟨o,b,c,m,j,v,k,l,n⟩:=p;obtain⟨z,r,s,A,d,B,f,t,u⟩:=q;rw[j]at d;cases d;rw[k]at f;injection f with e _;have e1:b=r/\c=s:=by simpa using e
 obtain⟨rfl,rfl⟩:=e1;have g:=IsTupleKey.inj l t;have i:=IsTupleKey.inj n u;obtain⟨x1,C,D,E⟩:=x;obtain⟨y1,F,G,H⟩:=y;simp at g i;obtain⟨rfl,rfl⟩:=g;obtain⟨rfl,rfl⟩:=i;rfl
theorem gx.keeps{h h':Heap}{k:ND}{a d:Addr}{o:Obj}{es:Array Kf}{ep:Nat}(p:gx P w h k a)(hd:h.get? d=MA o)(e:o.data=.dict es ep)(f:LI d h h'):gx P w h' k a:=by
 obtain⟨j,b,c,m,g,l,i,n,q⟩:=p;have ne:a≠d:=fun z=>by rw[z,hd]at g;cases g;rw[e]at i;cases i
 exact⟨j,b,c,m,(f.2 a ne).trans g,l,i,IsTupleKey.keeps n hd e f,IsTupleKey.keeps q hd e f⟩
def yY(P:Jl)(w:JO)(k:ND):Int:=reduceHash (Builtin.Tuple.tupleHashOf [tupleKeyHash (intKind P w) [k.1,k.2.1],tupleKeyHash (intKind P w) [k.2.2.1,k.2.2.2]])
theorem gx.hash{A:JV}{E:IQ->IT->Prop}{s:IT}{k:ND}{a:Addr}{Q:Int->IT->Prop}(l:A.units+4<K4)(p:gx P w s.heap k a)(q:Q (yY P w k) { s with toks:=s.toks+7 }):J3 (Jh P w) A (pyHash (.ref a)) Q E s:=by
 obtain⟨o,b,c,m,e,f,h,i,j⟩:=p;obtain⟨n,g,d,r,os⟩:=s;show J3 _ _ (pyHashByItsType (.ref a)) _ _ _;refine PySem.W.pyHash_slot (T:="tuple") ⟨o,e,f⟩ F.slot_tuple_hash F.entry_tuple_hash (F.args_tuple_hash_1 _) rfl (.inr ()) ?_;unfold Mb.«tuple.__hash__»;simp only[<-Array.forIn_toList]
 iterate 4 wp_step
 refine IV ?_;refine cc (wpAny_tupleItemsOf e h ?_);refine cc ?_;simp only[List.forIn_cons,List.forIn_nil,pure_bind,bind_assoc];refine cc (wpAny_pyHash_tuple (knd:=intKind P w) (by show A.units+1<K4;omega) i ?_);refine cc (wpAny_pyHash_tuple (knd:=intKind P w) (by show A.units+1<K4;omega) j ?_);refine IV ?_;unfold retInt
 wp_walk
 exact⟨_,_,rfl,q⟩
theorem jn{n:Int}{v:IQ}(h:(intKind P w).is n v=MC):∃t,v=.int n t:=by
 have h:Value.isInt n v=MC:=h;cases v with
 |int i t=>
  have:(i==n)=MC:=h
  exact⟨t,by rw[eq_of_beq this]⟩
 |_=>cases h
def Bv(n d:Int):LC:=.tuple [.int n,.int d]
def pQ(k:ND):LC:=.tuple [Bv k.1 k.2.1,Bv k.2.2.1 k.2.2.2]
theorem sZ.reads{h:Heap}{n d:Int}{a:Addr}(p:sZ P w h n d a):∃e,Reads h (.ref a) (Bv n d) e:=by
 obtain⟨o,b,m,f,g,i,c⟩:=p;generalize j:b.toList=l at c;cases c with
 |cons k r=>
  cases r with
  |cons q r=>
   cases r
   obtain⟨t1,rfl⟩:=jn k
   obtain⟨s,rfl⟩:=jn q
   exact⟨_,.tuple f g i (by rw[j];exact .cons (.int _ _) (.cons (.int _ _) .nil))⟩
theorem gx.reads{h:Heap}{k:ND}{a:Addr}(p:gx P w h k a):∃d,Reads h (.ref a) (pQ k) d:=by obtain⟨o,b,c,m,e,f,g,i,j⟩:=p;obtain⟨d,l⟩:=i.reads;obtain⟨bs,n⟩:=j.reads;exact⟨_,.tuple e f g (.cons l (.cons n .nil))⟩
theorem xo(x y:ND):(pQ x).eqv (pQ y)=decide (x=y):=by obtain⟨x1,a,b,c⟩:=x;obtain⟨y1,d,e,f⟩:=y;simp only[pQ,Bv,Jt,JN,L9];rw[K5];simp[and_assoc]
theorem gx.eq{A:JV}{E:IQ->IT->Prop}{s:IT}{x y:ND}{a b:Addr}{Q:Bool->IT->Prop}(g:A.units+4<K4)(p:gx P w s.heap x a)(c:gx P w s.heap y b)(q:Q (decide (x=y)) s):J3 (Jh P w) A (eqBool (.ref a) (.ref b)) Q E s:=by obtain⟨d,e⟩:=p.reads;obtain⟨bs,f⟩:=c.reads;have hd:min (pQ x).depth (pQ y).depth<=3:=K3 (Nat.min_le_left _ _) (Mm rfl);have:=SeqAt.eqAt_reads (pQ x) (pQ y) A s (.ref a) (.ref b) d bs e f rfl rfl ();rw[xo]at this;exact this P w E Q q
theorem sZ.quiet{A:JV}{E:IQ->IT->Prop}{s:IT}{n d:Int}{a:Addr}{Q:Bool->IT->Prop}(i:Nat)(p:sZ P w s.heap n d a)(q:Q MC s):J3 (Jh P w) A (eqIsQuiet (i+1) (.ref a)) Q E s:=by
 obtain⟨o,b,m,c,e,g,f⟩:=p;rw[eqIsQuiet.eq_2];refine cc (wpAny_specialOf ⟨o,c,e⟩ F.slot_tuple_eq.lookup ?_);refine cc (wpAny_isInstance ⟨o,c,e⟩ isSubtype_tuple_tuple ?_);simp only[Bool.not_true,KJ,if_false];refine cc (Lx c g ?_);simp only[Option.getD_some,<-Array.forIn_toList];generalize t:b.toList=l at f;cases f with
 |cons h r=>
  cases r with
  |cons j r=>
   cases r
   obtain⟨t1,rfl⟩:=jn h
   obtain⟨k,rfl⟩:=jn j
   refine cc ?_
   simp only[List.forIn_cons,List.forIn_nil,pure_bind,bind_assoc,eqIsQuiet_byValue i (show carriedByValue (.int n t1)=MC from rfl),eqIsQuiet_byValue i (show carriedByValue (.int d k)=MC from rfl),Bool.not_true,KJ,if_false]
   refine IV ?_
   exact IV q
theorem gx.quiet{A:JV}{E:IQ->IT->Prop}{s:IT}{k:ND}{a:Addr}{Q:Bool->IT->Prop}(p:gx P w s.heap k a)(q:Q MC s):J3 (Jh P w) A (eqIsQuiet 8 (.ref a)) Q E s:=by obtain⟨o,b,c,m,d,e,f,g,h⟩:=p;rw[eqIsQuiet.eq_2];refine cc (wpAny_specialOf ⟨o,d,e⟩ F.slot_tuple_eq.lookup ?_);refine cc (wpAny_isInstance ⟨o,d,e⟩ isSubtype_tuple_tuple ?_);simp only[Bool.not_true,KJ,if_false];refine cc (Lx d f ?_);simp only[Option.getD_some,<-Array.forIn_toList];refine cc ?_;simp only[List.forIn_cons,List.forIn_nil,pure_bind,bind_assoc];refine cc (g.quiet 6 ?_);simp only[Bool.not_true,KJ,if_false,pure_bind];refine cc (h.quiet 6 ?_);simp only[Bool.not_true,KJ,if_false,pure_bind];refine IV ?_;exact IV q
def fJ(P:Jl)(w:JO):HeapKind P w ND where
 is:=gx P w
 hash:=yY P w
 draws:=fun _=>7
 room:=fun A=>A.units+4<K4
 inj:=fun p q=>p.inj q
 keeps:=fun p hd b c=>p.keeps hd b c
 pyHash:=fun a p q=>p.hash a q
 eqBool:=fun a p d q=>p.eq a d q
 quiet:=fun p q=>p.quiet q
end
section
variable{X:Cx}{MP:List (Addr×Obj)}{σ:L2.St}{H:Hp}{s:IT}{a b:Addr}{k:ND}
def dW(K:I0)(H:Hp)(b:Addr)(k:ND):Prop:=∃f g,Mz K H b [.ref f,.ref g]/\Mz K H f [.int k.1,.int k.2.1]/\Mz K H g [.int k.2.2.1,.int k.2.2.2]
theorem BX{n d:Int}{f:Addr}(I:L2.Inv X MP σ H s)(h:Mz X.K H f [.int n,.int d]):sZ X.prog X.w s.heap n d f:=by
 obtain⟨c,r,e,_⟩:=I.tuple h;cases r with
 |cons g r=>cases r with
  |cons i r=>
   cases r
   obtain⟨t1,rfl⟩:=g
   obtain⟨q,rfl⟩:=i
   obtain⟨o,j,l,m,p⟩:=e
   exact⟨o,_,m,j,l,p,.cons (by show((n==n)=MC);simp) (.cons (by show((d==d)=MC);simp) .nil)⟩
theorem u9(I:L2.Inv X MP σ H s)(h:dW X.K H b k):gx X.prog X.w s.heap k b:=by
 obtain⟨f,g,c,d,e⟩:=h;obtain⟨i,r,j,_⟩:=I.tuple c;cases r with
 |cons l r=>cases r with
  |cons n r=>
   cases r
   cases l
   cases n
   obtain⟨o,p,q,m,t⟩:=j
   exact⟨o,f,g,m,p,q,t,BX I d,BX I e⟩
abbrev N0:=ND×Addr×V
def cS(P:Jl)(w:JO)(a:Addr)(xs:List N0):Heap->Prop:=fun h=>(a==KI)=MD/\xs.length<=J8/\(xs.map (·.1)).Nodup/\∃c:List (ND×Addr×IQ),
 LZ (fun(p:N0) (q:ND×Addr×IQ)=>p.1=q.1/\p.2.1=q.2.1/\RelV p.2.2 q.2.2) xs c/\∃o d e,h.get? a=MA o/\o.ExactDict/\o.data=.dict d e/\d.toList=c.map (entryOfKey (fJ P w))
def gY(xs:List N0)(k:ND)(b:Addr)(v:V):List N0:=if(xs.any fun x=>decide (x.1=k))=MC then xs.map (fun x=>if x.1=k then(x.1,x.2.1,v)else x)else xs++[(k,b,v)]
abbrev Q8:=fun(p:N0) (q:ND×Addr×IQ)=>p.1=q.1/\p.2.1=q.2.1/\RelV p.2.2 q.2.2
theorem kS{xs:List N0}{c:List (ND×Addr×IQ)}(r:LZ Q8 xs c):c.map (·.1)=xs.map (·.1):=by
 induction r with
 |nil=>rfl
 |cons h t d=>rw[IY,IY,d,h.1]
theorem AG{xs:List N0}{d:List (ND×Addr×IQ)}(r:LZ Q8 xs d)(k:ND):(xs.any fun x=>decide (x.1=k))=(atKey d k).isSome:=by
 induction r with
 |nil=>rfl
 |@cons p q ps qs h t ih=>
  rw[L8]
  by_cases e:p.1=k
  ·have c:q.1=k:=h.1.symm.trans e;simp[atKey,Jz,e,c]
  ·have c:¬q.1=k:=fun z=>e (h.1.trans z);rw[MG e,Bool.false_or,ih];simp[atKey,Jz,c]
theorem kA{xs:List N0}{c:List (ND×Addr×IQ)}(r:LZ Q8 xs c)(k:ND)(b:Addr){v:V}{u:IQ}(d:RelV v u):LZ Q8 (gY xs k b v) (storedH c k b u):=by
 unfold gY storedH;rw[AG r k];by_cases e:(atKey c k).isSome=MC
 ·rw[MF e,MF e];clear e
  induction r with
  |nil=>exact .nil
  |@cons p q ps qs h t ih=>
   rw[IY,IY]
   refine .cons ?_ ih
   unfold putAt
   by_cases e:p.1=k
   ·rw[MF e,MF (h.1.symm.trans e)];exact⟨h.1,h.2.1,d⟩
   ·rw[ME e,ME (fun z=>e (h.1.trans z))];exact h
 ·rw[ME e,ME e];exact Paired.snoc r ⟨rfl,rfl,d⟩
theorem oU{xs:List N0}{c:List (ND×Addr×IQ)}(r:LZ Q8 xs c):xs.length=c.length:=by
 induction r with
 |nil=>rfl
 |cons h t d=>rw[JI,JI,d]
theorem Ag{xs:List N0}{c:List (ND×Addr×IQ)}(r:LZ Q8 xs c){q:ND×Addr×IQ}(h:q∈c):∃p∈xs,p.1=q.1/\p.2.1=q.2.1:=by
 induction r with
 |nil=>cases h
 |cons d t f=>
  rcases Jo.mp h with z|z
  ·subst z;exact⟨_,by simp,d.1,d.2.1⟩
  ·obtain⟨p,g,e⟩:=f z;exact⟨p,by simp[g],e⟩
theorem rj(xs:List N0)(k:ND)(b:Addr)(v:V):(gY xs k b v).length<=xs.length+1:=by
 unfold gY;split
 ·rw[IU];omega
 ·simp
theorem rS{xs:List N0}(I:L2.Inv X MP σ H s)(e:H a=MA (.ext (cS X.prog X.w a xs)))(d:∀x∈xs,dW X.K H x.2.1 x.1):(a==KI)=MD/\xs.length<=J8/\∃c,LZ Q8 xs c/\s.heap.DictOfH (fJ X.prog X.w) a c:=by obtain⟨⟨f,g,h,c,r,o,i,j,l,m,n,q⟩,_⟩:=I.hok a _ e;refine⟨f,g,c,r,o,i,j,l,m,n,q,fun x t=>?_,by rw[kS r];exact h⟩;obtain⟨p,u,e1,e2⟩:=Ag r t;rw[<-e1,<-e2];exact u9 I (d p u)
theorem pf{P:Jl}{w:JO}{xs:List N0}(c d:Heap)(h:cS P w a xs c)(k:∀o,c.get? a=MA o->d.get? a=MA o):cS P w a xs d:=by obtain⟨e,f,g,i,r,o,j,l,m,q⟩:=h;exact⟨e,f,g,i,r,o,j,l,k o m,q⟩
theorem uD(I:L2.Inv X MP σ H s):L2.Inv X MP σ (upd H s.heap.objs.size (.ext (cS X.prog X.w s.heap.objs.size []))) { s with heap:=s.heap.push { cls:=.type "dict",data:=.dict #[] } }:=
 I.laid (a:=s.heap.objs.size) (t':=s.toks) (fun _ _ q=>J0 _ q) (IX _)
  ⟨⟨beq_eq_false_iff_ne.mpr (Ne.symm (JE I.big)),K6 _,List.nodup_nil,[],.nil,_,#[],0,J7 _ rfl,⟨rfl,rfl,rfl⟩,rfl,rfl⟩,⟨_,J7 _ rfl⟩,fun c d x y=>pf c d x y⟩
def eO(xs:List N0)(k:ND):Option V:=(xs.find? fun x=>decide (x.1=k)).map (·.2.2)
theorem oX{xs:List N0}{d:List (ND×Addr×IQ)}(r:LZ Q8 xs d){v:V}(h:eO xs k=MA v):∃p:Addr×IQ,atKey d k=MA p/\RelV v p.2:=by
 induction r with
 |nil=>cases h
 |@cons p q ps qs h' t ih=>
  by_cases e:p.1=k
  ·have c:q.1=k:=h'.1.symm.trans e;simp[eO,Jz,e]at h;subst h;exact⟨q.2,by simp[atKey,Jz,c],h'.2.2⟩
  ·have c:¬q.1=k:=fun z=>e (h'.1.trans z);have f:eO ps k=MA v:=by simpa[eO,Jz,e]using h
   obtain⟨g,i,j⟩:=ih f;exact⟨g,by simpa[atKey,Jz,c]using i,j⟩
theorem Bc{A:JV}{E:IQ->IT->Prop}{Q:IQ->IT->Prop}{xs:List N0}{v:V}(m:A.units+8<K4)(I:L2.Inv X MP σ H s)(e:H a=MA (.ext (cS X.prog X.w a xs)))(d:∀x∈xs,dW X.K H x.2.1 x.1)(f:dW X.K H b k)(g:eO xs k=MA v) (h:∀u c,L2.Inv X MP σ H c->RelV v u->Q u c):J3 (Jh X.prog X.w) A (getItem (.ref a) (.ref b)) Q E s:=by obtain⟨hd,n,o,r,i⟩:=rS I e d;obtain⟨p,j,l⟩:=oX r g;exact wpAny_getItem_heap (knd:=fJ X.prog X.w) (show A.in1.units+4<K4 by show A.units+1+4<K4;omega) (u9 I f) i j (h _ _ (I.tok _) l)
end
section
variable{prog:Jl}{w:JO}{K:Type}[DecidableEq K]{knd:HeapKind prog w K}{A:JV}{E:IQ->IT->Prop}{s:IT}
theorem qz{d a:Addr}{xs:List (K×Addr×IQ)}{k:K}{v:IQ}{Q:IQ->IT->Prop}(q:knd.room A)(b:knd.is s.heap k a)(t:s.heap.DictOfH knd d xs) (u:∀p,atKey xs k=MA p->Q p.2 { s with toks:=s.toks+knd.draws k }) (z:atKey xs k=MB->∀h',h'.DictOfH knd d (storedH xs k a v)->LI d s.heap h'->Q v { s with heap:=h',toks:=s.toks+knd.draws k }) (hsz:xs.length<=J8) : J3 (Jh prog w) A (dictSetDefault d (.ref a) v) Q E s:=by
 obtain⟨o,F,B,f,C,hd,m,h,n⟩:=t;unfold dictSetDefault
 try with_reducible refine Kb ?_
 refine cc (knd.pyHash q b ?_);refine cc (wpAny_dictFind_heap (s:={ s with toks:=s.toks+knd.draws k }) q b f hd m h n ?_ ?_)
 ·intro i;have l:k∉xs.map (·.1):=not_mem_keys_of_get i;have g:=atKey_none_of_get i
  refine cc (wpAny_rule (cc (wpAny_updateDictKeys (hz:=by have e:=size_of_entries m;omega) (s:={ s with toks:=s.toks+knd.draws k }) f hd (IV (z g _ ⟨_,_,B+1,Ky _ f (Obj.isFreed_of_dict (Obj.data_mapDictKeys hd _)),
   C.mapDictKeys _,Obj.data_mapDictKeys hd _,?_,?_,?_⟩ (Heap.SameBut.update ..))))))
  ·rw[storedH_new g];simp[m,entryOfKey]
  ·rw[storedH_new g];intro x c;rcases Jj.mp c with c|c
   ·exact knd.keeps (h x c) f hd (Heap.SameBut.update ..)
   ·have:x=(k,a,v):=by simpa using c
    subst this;exact knd.keeps b f hd (Heap.SameBut.update ..)
  ·rw[storedH_new g,Jg,LL];refine⟨n,by simp,?_⟩;intro x c y D;have:y=k:=by simpa using D
   subst this;exact fun e=>l (e▸c)
 ·intro j p r;have g:=atKey_of_get n r;refine cc (wpAny_dictEntries (s:={ s with toks:=s.toks+knd.draws k }) f hd ?_);rw[entry_at m j,r];exact cc (wpAny_rule (IV (u p g)))
theorem pU{d a:Addr}{xs:List (K×Addr×IQ)}{k:K}{v:IQ}{Q:IQ->IT->Prop}(g:knd.room A.in1)(b:knd.is s.heap k a)(c:s.heap.DictOfH knd d xs)(hd:(d==KI)=MD)
 (h:∀p,atKey xs k=MA p->Q p.2 { s with toks:=s.toks+knd.draws k })
 (i:atKey xs k=MB->∀h',h'.DictOfH knd d (storedH xs k a v)->LI d s.heap h'->Q v { s with heap:=h',toks:=s.toks+knd.draws k }) (hsz:xs.length<=J8) :
 J3 (Jh prog w) A (call (.builtin "dict.setdefault") [.ref d,.ref a,v]) Q E s:=by
 refine wpAny_call_entry PySem.F.slot_dict_setdefault c.typeIs PySem.F.entry_dict_setdefault ?_ (PySem.F.args_dict_setdefault_3 _ _ _)
 unfold Mb.«dict.setdefault»
 refine cc ?_
 unfold Builtin.Dict.keyAndDefault
 refine cc (wpAny_notOrdered_dict c.typeIs ?_)
 show J3 _ _ (pure (d,Km a,MA v)) _ _ s
 refine IV ?_
 show J3 _ _ (if(d==KI)=MC then _ else(dictSetDefault d (.ref a) v >>= _)) _ _ s
 rw[ME (by rw[hd];exact Jf)]
 exact cc (qz g b c (fun p j=>IV ⟨p.2,rfl,h p j⟩) (fun l h' e f=>IV ⟨v,rfl,i l h' e f⟩) hsz)
end
section
variable{X:Cx}{MP:List (Addr×Obj)}{σ:L2.St}{H:Hp}{s:IT}{a b:Addr}{k:ND}
theorem yO{xs:List N0}{c:List (ND×Addr×IQ)}(r:LZ Q8 xs c)(h:eO xs k=MB):atKey c k=MB:=by
 induction r with
 |nil=>rfl
 |@cons p q ps qs h' t ih=>
  by_cases e:p.1=k
  ·simp[eO,Jz,e]at h
  ·have d:¬q.1=k:=fun z=>e (h'.1.trans z);have f:eO ps k=MB:=by simpa[eO,Jz,e]using h
   have:=ih f;simpa[atKey,Jz,d]using this
theorem sG{A:JV}{E:IQ->IT->Prop}{Q:IQ->IT->Prop}{xs:List N0}{v:V}{u:IQ}(S:A.units+8<K4)(I:L2.Inv X MP σ H s)(e:H a=MA (.ext (cS X.prog X.w a xs)))(t:∀x∈xs,dW X.K H x.2.1 x.1)(z:dW X.K H b k)(n:RelV v u)(T:xs.length<J8)
 (h:∀d o f,eO xs k=MA d->L2.Inv X MP σ H f->RelV d o->Q o f)
 (i:eO xs k=MB->∀f,L2.Inv X MP σ (upd H a (.ext (cS X.prog X.w a (gY xs k b v)))) f->Q u f):J3 (Jh X.prog X.w) A (call (.builtin "dict.setdefault") [.ref a,.ref b,u]) Q E s:=by
 obtain⟨hd,B,U,r,C⟩:=rS I e t
 refine pU (knd:=fJ X.prog X.w) (show A.in1.units+4<K4 by show A.units+1+4<K4;omega) (u9 I z) C hd (fun p j=>?_) (fun D W l F=>?_) (by rw[<-oU r];exact B)
 ·cases c:eO xs k with
  |none=>rw[yO r c]at j;cases j
  |some d=>
   obtain⟨G,g,J⟩:=oX r c
   rw[j]at g
   cases g
   exact h d _ _ c (I.tok _) J
 ·have c:eO xs k=MB:=by
   cases c:eO xs k with
   |none=>rfl
   |some d=>
    obtain⟨G,g,_⟩:=oX r c
    rw[D]at g;cases g
  refine i c _ ?_
  obtain⟨q,L,M,m,N,O,P,_,R⟩:=l
  refine kP I (by rw[e];exact LX) F ⟨q,m⟩ ⟨⟨hd,?_,?_,_,kA r k b n,q,L,M,m,N,O,P⟩,⟨q,m⟩,fun h i x y=>pf h i x y⟩
  ·have:=rj xs k b v;omega
  ·rw[<-kS (kA r k b n)];exact R
end
section
variable{X:Cx}
def ES(X:Cx):TE:=fun _ H Q=>∀p,H p=MB->Q (.ref p) (upd H p (.ext (cS X.prog X.w p [])))
theorem yN{pos:Pos}:PE X (.Dict [] [] pos) (ES X):=fun MP s σ H Q I h=>wpAny_Dict_empty ⟨.ref s.heap.objs.size,_,uD I,rfl,h _ (I.hok.fresh (IX _))⟩
structure VF(X:Cx)(H:Hp)(a b:Addr)(xs:List N0)(k:ND):Prop where
 d:H a=MA (.ext (cS X.prog X.w a xs))
 ks:∀x∈xs,dW X.K H x.2.1 x.1
 key:dW X.K H b k
def Dj(X:Cx)(d ty:TE):TE:=fun σ H Q=>d σ H fun x H1=>ty σ H1 fun y c=>∃a b xs k v,x=.ref a/\y=.ref b/\VF X c a b xs k/\eO xs k=MA v/\Q v c
theorem yJ{MP:List (Addr×Obj)}{σ:L2.St}{H:Hp}{s:IT}{a:Addr}{xs:List N0}(I:L2.Inv X MP σ H s)(e:H a=MA (.ext (cS X.prog X.w a xs))):s.TypeIs (.ref a) "dict"/\∀b,Km a=.ref b->∃o,s.heap.get? b=MA o/\o.dict=MB:=by obtain⟨⟨_,_,_,_,_,o,_,_,c,d,_⟩,_⟩:=I.hok a _ e;exact⟨⟨o,c,d.1⟩,fun b z=>by cases z;exact⟨o,c,d.2.1⟩⟩
theorem zB{o i:Expr}{e ty:TE}{pos:Pos}(g:X.A.units+8<K4)(j:PE X o e)(l:PE X i ty)(m:FI i):PE X (.Subscript o i pos) (Dj X e ty):=by intro MP s σ H Q I h;refine Subscript_ (Mp (j MP s σ H _ I h) fun v n ⟨x,H1,p,r,t⟩=>Mp (l MP n σ H1 _ p t) fun u K c=>?_);obtain⟨y,w,f,z,a,b,xs,k,B,ex,C,D,E,q⟩:=c;subst ex C;cases r;cases z;exact tail_any (yJ f D.d).1 PySem.F.slot_dict_getitem.lookup (Bc g f D.d D.ks D.key E fun L M G J=>⟨B,w,G,J,q⟩) (m _ _)
def Hi(X:Cx)(f:TE)(t:TA):TE:=fun σ H Q=>f σ H fun x H1=>∃a c,x=.ref a/\H1 a=MA (.ext (cS X.prog X.w a c))/\t σ H1 fun vs d=>∃b v xs k,vs=[.ref b,v]/\VF X d a b xs k/\xs.length<J8/\
 (∀e,eO xs k=MA e->Q e d)/\(eO xs k=MB->Q v (upd d a (.ext (cS X.prog X.w a (gY xs k b v)))))
theorem AL{o e1 e2:Expr}{r:TE}{t:TA}{e ba:Pos}(z:X.A.units+8<K4)(B:PE X o r)(C:PA X [e1,e2] t)
 (f:L7 o "setdefault" X.env (eval o X.env)=eval o X.env:=by rfl)
 (l:((Ks ba (Jd [e1,e2] X.env)).all (fun x=>!x.1)&&(backToKw ba (Lp [] X.env)).all (fun x=>x.1.isSome)
  && decide ([e1,e2].length+([]:List LW).length+(if([]:List LW).isEmpty then 0 else 1)<30))=MC:=by rfl)
 (g:(e.endLine==ba.line)=MC:=by rfl) (E:Jd [e1,e2] X.env=(MD,eval e1 X.env)::Jd [e2] X.env:=by rfl) (c:(Ks ba (Jd [e2] X.env)).any (·.1)=MD:=by rfl) :
 PE X (.Call (.Attribute o "setdefault" e) [e1,e2] [] ba) (Hi X r t):=by
 intro MP s σ H Q I h
 refine wpAny_Call_method_late f l g rfl (Mp (B MP s σ H _ I h) fun v G i=>?_)
 obtain⟨x,H1,u,J,a,K,ex,L,M⟩:=i
 subst ex
 cases J
 obtain⟨N,O⟩:=yJ u L
 refine⟨"dict","dict.setdefault",PySem.F.plainAttrs_dict,PySem.F.slot_dict_setdefault,PySem.F.type_dict_setdefault,N,O,?_⟩
 have w:=C ba MP G σ H1 _ u M
 rw[E]at w ⊢
 refine Calls.callWith_builtin (by show(MD||(Ks ba (Jd [e2] X.env)).any (·.1))=MD;rw[c]<;>rfl) (Calls.evalArgs_plain ?_)
 refine Mp w fun us s2 j=>?_
 obtain⟨vs,P,R,S,b,T,xs,k,n,D,U,k1,V⟩:=j
 subst n
 obtain⟨u1,u2,rfl,p,m⟩:=S.two
 cases p
 exact sG z R D.d D.ks D.key m U (fun y u' W n q Y=>⟨y,P,q,Y,k1 y n⟩) (fun Z W q=>⟨T,_,q,m,V Z⟩)
end
def PX(k:ND):D:=.tup [.tup [.int k.1,.int k.2.1],.tup [.int k.2.2.1,.int k.2.2.2]]
section
variable{K:I0}{H H':Hp}{M:MH}{a b:Addr}{k:ND}
theorem uW{v:V}(r:Rep K H (PX k) v):∃b,v=.ref b/\dW K H b k:=by unfold PX at r;rw[Rep]at r;obtain⟨b,xs,rfl,l,m⟩:=r;obtain⟨q,s,rfl,c,d⟩:=eZ m;rw[Rep]at c d;obtain⟨f,fs,rfl,hf,n⟩:=c;obtain⟨g,t,rfl,o,p⟩:=d;obtain⟨u,w,rfl,e,h⟩:=eZ n;obtain⟨x,y,rfl,i,j⟩:=eZ p;rw[Rep]at e h i j;subst e h i j;exact⟨b,rfl,f,g,l,hf,o⟩
theorem yS(h:dW K H b k):Rep K H (PX k) (.ref b):=by
 obtain⟨f,g,d,hf,e⟩:=h;unfold PX;rw[Rep];refine⟨b,_,rfl,d,?_⟩;have c:∀(m n:Int),aI K H [D.int m,D.int n] [V.int m,V.int n]:=fun m n=>jx [m,n];rw[aI];refine⟨_,_,rfl,?_,?_⟩
 ·rw[Rep];exact⟨f,_,rfl,hf,c _ _⟩
 ·rw[aI];refine⟨_,_,rfl,?_,?_⟩
  ·rw[Rep];exact⟨g,_,rfl,e,c _ _⟩
  ·rw[aI]
theorem dW.mono(g:Mo K H H')(h:dW K H b k):dW K H' b k:=by obtain⟨c,e,r⟩:=uW ((yS h).mono g);cases e;exact r
abbrev N7:=List (ND×D)
def Qv(kvs:N7):I0->Hp->Addr->Prop:=fun K H a=>∃xs:List N0,(∀P w,H a=MA (.ext (cS P w a xs)))/\xs.map (·.1)=kvs.map (·.1)/\(∀x∈xs,dW K H x.2.1 x.1)/\aI K H (kvs.map (·.2)) (xs.map (·.2.2))
theorem xf{kvs:N7}(h:Qv kvs K H a)(g:Mo K H H')(e:H' a=H a):Qv kvs K H' a:=by obtain⟨xs,c,d,f,i⟩:=h;exact⟨xs,fun P w=>e.trans (c P w),d,fun x j=>(f x j).mono g,i.mono g⟩
def Nv(kvs:N7):MO:=.gen (Qv kvs)
theorem Mw.dsp{kvs:N7}(h:Mw K H M)(e:M a=MA (Nv kvs)):Qv kvs K H a:=(h a _ e).1
theorem Qv.xx{kvs:N7}(h:Qv kvs K H a)(ne:H a≠MB):qk K H a (Nv kvs):=⟨h,ne,fun H' g e=>xf h g e⟩
theorem Mw.BQ{p:Addr}(P:Jl)(w:JO)(h:Mw K H M)(c:H p=MB):Mw K (upd H p (.ext (cS P w p []))) (aA M p (Nv [])):=fun a u e=>by
 by_cases ne:a=p
 ·subst ne;rw[ag]at e;cases e;exact Qv.xx ⟨[],(fun P w=>bC),rfl,(fun x d=>by simp at d),(by simp[aI])⟩ (by rw[bC];simp)
 ·rw[au ne]at e;exact(h a u e).iJ (.new c) (bg ne)
def dX(kvs:N7)(k:ND):Option D:=(kvs.find? fun x=>decide (x.1=k)).map (·.2)
def putD(kvs:N7)(k:ND)(d:D):N7:=if(kvs.any fun x=>decide (x.1=k))=MC then kvs.map (fun x=>if x.1=k then(x.1,d)else x)else kvs++[(k,d)]
theorem oH(k:ND):∀{kvs:N7} {xs:List N0},xs.map (·.1)=kvs.map (·.1)->aI K H (kvs.map (·.2)) (xs.map (·.2.2))->(∀d,dX kvs k=MA d->∃v,eO xs k=MA v/\Rep K H d v)/\(dX kvs k=MB->eO xs k=MB)/\((xs.any fun x=>decide (x.1=k))=kvs.any fun x=>decide (x.1=k))
 |[],[],_,_=>⟨(fun d h=>by simp[dX]at h),(fun _=>rfl),rfl⟩
 |[],x::xs,h,_=>by cases h
 |y::kvs,[],h,_=>by cases h
 |y::kvs,x::xs,h,r=>by
  rw[IY,IY]at h
  injection h with g i
  rw[IY,IY,aI]at r
  obtain⟨v,vs,e,j,l⟩:=r
  injection e with e1 e2
  subst e1 e2
  obtain⟨m,n,o⟩:=oH k i l
  by_cases e:y.1=k
  ·have c:x.1=k:=g.trans e
   refine⟨fun d hd=>?_,fun f=>?_,?_⟩
   ·simp[dX,Jz,e]at hd
    subst hd
    exact⟨x.2.2,by simp[eO,Jz,c],j⟩
   ·simp[dX,Jz,e]at f
   ·simp[e,c]
  ·have c:¬x.1=k:=fun z=>e (g.symm.trans z)
   refine⟨fun d hd=>?_,fun f=>?_,?_⟩
   ·obtain⟨v,p,q⟩:=m d (by simpa[dX,Jz,e]using hd)
    exact⟨v,by simpa[eO,Jz,c]using p,q⟩
   ·have:=n (by simpa[dX,Jz,e]using f)
    simpa[eO,Jz,c]using this
   ·rw[L8,L8,o,MG e,MG c]
theorem uK(k:ND){d:D}{v:V}(r:Rep K H d v):∀{kvs:N7} {xs:List N0},xs.map (·.1)=kvs.map (·.1)->aI K H (kvs.map (·.2)) (xs.map (·.2.2))->
 (xs.map fun x=>if x.1=k then(x.1,x.2.1,v)else x).map (·.1)=(kvs.map fun x=>if x.1=k then(x.1,d)else x).map (·.1)/\aI K H ((kvs.map fun x=>if x.1=k then(x.1,d)else x).map (·.2)) ((xs.map fun x=>if x.1=k then(x.1,x.2.1,v)else x).map (·.2.2))
 |[],[],_,h=>⟨rfl,h⟩
 |[],x::xs,h,_=>by cases h
 |y::kvs,[],h,_=>by cases h
 |y::kvs,x::xs,h,q=>by
  rw[IY,IY]at h
  injection h with c j
  rw[IY,IY,aI]at q
  obtain⟨n,vs,e,l,m⟩:=q
  injection e with e1 e2
  subst e1 e2
  obtain⟨g,i⟩:=uK k r j m
  by_cases e:y.1=k
  ·have f:x.1=k:=c.trans e
   simp only[IY,MF e,MF f]
   exact⟨by rw[g];exact congrArg (·::_) c,by rw[aI];exact⟨_,_,rfl,r,i⟩⟩
  ·have f:¬x.1=k:=fun z=>e (c.symm.trans z)
   simp only[IY,ME e,ME f]
   exact⟨by rw[g];exact congrArg (·::_) c,by rw[aI];exact⟨_,_,rfl,l,i⟩⟩
theorem DD{kvs:N7}{xs:List N0}{d:D}{v:V}(c:xs.map (·.1)=kvs.map (·.1))(f:aI K H (kvs.map (·.2)) (xs.map (·.2.2)))(h:∀x∈xs,dW K H x.2.1 x.1)(i:dW K H b k)(r:Rep K H d v) : (gY xs k b v).map (·.1)=(putD kvs k d).map (·.1)/\aI K H ((putD kvs k d).map (·.2)) ((gY xs k b v).map (·.2.2))/\∀x∈gY xs k b v,dW K H x.2.1 x.1:=by
 unfold gY putD;rw[(oH k c f).2.2];by_cases e:(kvs.any fun x=>decide (x.1=k))=MC
 ·rw[MF e,MF e];obtain⟨j,l⟩:=uK k r c f;refine⟨j,l,fun x g=>?_⟩;obtain⟨y,m,rfl⟩:=JH.mp g;have:=h y m;by_cases e:y.1=k
  ·rw[MF e];exact this
  ·rw[ME e];exact this
 ·rw[ME e,ME e];refine⟨by rw[Jg,Jg,c];rfl,?_,fun x g=>?_⟩
  ·rw[Jg,Jg];exact f.append (by rw[IY,IY,Ki,Ki,aI];exact⟨_,_,rfl,r,by rw[aI]⟩)
  ·rcases Jj.mp g with z|z
   ·exact h x z
   ·have:x=(k,b,v):=by simpa using z
    subst this;exact i
theorem Mo.ext{c:Heap->Prop}{o:HO}(h:H a=MA (.ext c)):Mo K H (upd H a o):=.put (fun xs e=>by rw[h]at e;cases e) (fun u xs e=>by rw[h]at e;cases e)
theorem Mw.Cu{kvs:N7}{xs:List N0}{d:D}{v:V}(P:Jl)(w:JO)(h:Mw K H M)(f:∀P w,H a=MA (.ext (cS P w a xs)))(i:xs.map (·.1)=kvs.map (·.1))(j:aI K H (kvs.map (·.2)) (xs.map (·.2.2)))(l:∀x∈xs,dW K H x.2.1 x.1)(m:dW K H b k)(r:Rep K H d v) :
 Mw K (upd H a (.ext (cS P w a (gY xs k b v)))) (aA M a (Nv (putD kvs k d))):=fun c u e=>by
 have g:Mo K H (upd H a (.ext (cS P w a (gY xs k b v)))):=.ext (f P w)
 by_cases ne:c=a
 ·subst ne
  rw[ag]at e;cases e
  obtain⟨n,o,p⟩:=DD i j l m r
  exact Qv.xx ⟨_,fun P w=>bC,n,fun x f=>(p x f).mono g,o.mono g⟩ (by rw[bC];simp)
 ·rw[au ne]at e
  exact(h c u e).iJ g (bg ne)
end
section
variable{X:Cx}
def Av:TD:=fun _ M Q=>∀p,M p=MB->Q (.ref p) (aA M p (Nv []))
theorem xG{pos:Pos}:DE X (.Dict [] [] pos) Av:=bw yN fun σ H Q a=>by obtain⟨δ,M,R,e,d,q,b⟩:=a;exact(fun p c=>b _ _ _ _ (.new c) (by rw[Rep]) (d.BQ _ _ c) (q p (d.fresh c)))
def AN(b ty:TD):TD:=fun δ M Q=>b δ M fun x c=>ty δ c fun y a=>∃l kvs k d,x=.ref l/\y=PX k/\a l=MA (Nv kvs)/\dX kvs k=MA d/\Q d a
theorem qc{o i:Expr}{g ty:TD}{pos:Pos}(P:X.A.units+66<K4)(n:DE X o g)(p:DE X i ty)(e:FI i):DE X (.Subscript o i pos) (AN g ty):=
 bw (zB () n p e) fun σ H Q a=>by obtain⟨δ,M,R,e,r,q,f⟩:=a;exact(⟨δ,M,_,e,r,q,fun x s v H1 h j t w=>⟨δ,s,_,e.mono h,t,w,fun y S u T z B m c=>by
  obtain⟨l,kvs,k,d,ex,C,D,E,F⟩:=c
  subst ex C
  rw[Rep]at j;subst j
  obtain⟨b,rfl,sp⟩:=uW B
  obtain⟨xs,G,I,J,K⟩:=m.dsp D
  obtain⟨L,N,O⟩:=(oH k I K).1 d E
  exact⟨l,b,xs,k,L,rfl,rfl,⟨G _ _,J,sp⟩,N,f _ _ _ _ (h.trans z) O m F⟩⟩⟩)
def CM(f:TD)(t:NL):TD:=fun δ M Q=>f δ M fun x c=>∃l a,x=.ref l/\c l=MA (Nv a)/\t δ c fun g b=>∃kvs k d,g=[PX k,d]/\b l=MA (Nv kvs)/\kvs.length<1000000/\(∀e,dX kvs k=MA e->Q e b)/\(dX kvs k=MB->Q d (aA b l (Nv (putD kvs k d))))
theorem Ax{o e1 e2:Expr}{G:TD}{t:NL}{f ba:Pos}(hu:X.A.units+66<K4)(W:DE X o G)(Y:DA X [e1,e2] t)
 (g:L7 o "setdefault" X.env (eval o X.env)=eval o X.env:=by rfl)
 (j:((Ks ba (Jd [e1,e2] X.env)).all (fun x=>!x.1)&&(backToKw ba (Lp [] X.env)).all (fun x=>x.1.isSome)
  && decide ([e1,e2].length+([]:List LW).length+(if([]:List LW).isEmpty then 0 else 1)<30))=MC:=by rfl)
 (h:(f.endLine==ba.line)=MC:=by rfl) (r:Jd [e1,e2] X.env=(MD,eval e1 X.env)::Jd [e2] X.env:=by rfl) (c:(Ks ba (Jd [e2] X.env)).any (·.1)=MD:=by rfl) :
 DE X (.Call (.Attribute o "setdefault" f) [e1,e2] [] ba) (CM G t):=
 bw (AL () W Y g j h r c) fun σ H Q ⟨δ,M,R,r,Z,q,m⟩=>⟨δ,M,_,r,Z,q,fun x M1 v H1 u I J ⟨l,L,ex,y,q1⟩=>by
  subst ex
  rw[Rep]at I;subst I
  obtain⟨z,h0,_⟩:=J.dsp y
  refine⟨l,z,rfl,h0 _ _,δ,M1,_,r.mono u,J,q1,fun ds M2 vs N O r2 B i=>?_⟩
  obtain⟨kvs,k,d,e,hl,hn,k1,k2⟩:=i
  subst e
  obtain⟨v1,P,rfl,C,n⟩:=eZ r2
  obtain⟨b,rfl,sp⟩:=uW C
  obtain⟨xs,D,E,S,T⟩:=B.dsp hl
  have U:xs.length=kvs.length:=by have:=congrArg List.length E;simpa using this
  have sz:1000000<=J8:=Mm rfl
  have dv:=oH k E T
  refine⟨b,P,xs,k,rfl,⟨D _ _,S,sp⟩,(),fun v' a=>?_,fun a=>?_⟩
  ·cases e:dX kvs k with
   |none=>rw[dv.2.1 e]at a;cases a
   |some s=>
    obtain⟨F,p,q4⟩:=dv.1 s e
    rw[a]at p;cases p
    exact m _ _ _ _ (u.trans O) q4 B (k1 s e)
  ·have e:dX kvs k=MB:=by
    cases e:dX kvs k with
    |none=>rfl
    |some s=>
     obtain⟨F,p,_⟩:=dv.1 s e
     rw[a]at p;cases p
   have V:Mo X.K N (upd N l (.ext (cS X.prog X.w l (gY xs k b P)))):=.ext (D X.prog X.w)
   exact m _ _ _ _ ((u.trans O).trans V) (n.mono V) (B.Cu _ _ D E T S sp n) (k2 e)⟩
end
theorem dQ{z:Int}(h:0<=z/\z<=20):Bd 10 z:=by show z.natAbs<2^10;omega
theorem Cw(t b X m x:Int):MV t b X m x=MV t (b*m) (X*m) 1 x:=by unfold MV;rw[Int.mul_one,Int.mul_one]
theorem uJ{t b X m:Int}(c:0<t)(d:0<b)(e:0<m)(a:Int):MV t b X 1 a=MV t (b*m) (X*m) 1 (m*a):=by rw[<-Cw,Me c d ⋯ e];omega
theorem BF{t b X Y m:Int}(a:0<t)(c:0<b)(d:0<m)(w:Wl)(p q:Int):Mc (MZ (MV t b X 1 w.1) (MV t b Y 1 w.2.1) (MV t b X 1 w.2.2.1) (MV t b Y 1 w.2.2.2) (MV t b X m p) (MV t b Y m q))=Ji (sd (Nf m w) p q):=by rw[uJ a c d,uJ a c d,uJ a c d,uJ a c d,Cw t b X m p,Cw t b Y m q];exact jQ a (Jy c d) (Nf m w) p q
theorem xr{t b X Y m p q a c:Int}(f:0<t)(g:0<b)(e:0<m/\m<=4)(h:-10<=q/\q<=85)(d:0<=c/\c<=20):MX (MV t b X m p) (MV t b Y m q) (MV t b X 1 a) (MV t b Y 1 c)↔la p q<m*la a c:=by have e1:=LR (():0<=m) d.1;have e2:=Int.mul_le_mul e.2 d.2 d.1 (show(0:Int)<=4 by decide);rw[Ma.Cj f g e.1 ⋯,LJ,LJ,zZ h ⟨(),()⟩,ML,DF]
def NW(k:Int):Wl:=(k,0,k,1)
def NK(k y:Int):Wl:=(k,y,k+1,y)
def Nu(m:Int):Nat->List Wl
 |0=>[NW m]
 |i+1=>Nu m i++[NK (i:Int) 0,NK (i:Int) 1,NW (i:Int)]
theorem kn(m:Int):∀i:Nat,(Nu m i).length=1+3*i
 |0=>rfl
 |i+1=>by rw[Nu,Kc,kn m i];simp;omega
theorem oI{m:Int}{w:Wl}:∀{i:Nat},w∈Nu m i->w=NW m\/∃k:Nat,k<i/\(w=NK (k:Int) 0\/w=NK (k:Int) 1\/w=NW (k:Int))
 |0,h=>.inl (Jx.mp h)
 |i+1,h=>by
  rw[Nu,Jj]at h
  rcases h with h|h
  ·rcases oI h with h|⟨k,a,h⟩
   ·exact .inl h
   ·exact .inr ⟨k,(),h⟩
  ·simp only[Jo,List.not_mem_nil,or_false]at h
   exact .inr ⟨i,(),h⟩
def zb(w:Wl):Prop:=∃k:Int,0<=k/\k<=13/\(w=NW k\/w=NK k 0\/w=NK k 1)
theorem CG{m:Nat}{w:Wl}(a:m<=13)(h:w∈Nu (m:Int) m):zb w:=by
 rcases oI h with h|⟨k,b,h|h|h⟩
 ·exact⟨m,(),(),.inl h⟩
 ·exact⟨k,(),(),.inr (.inl h)⟩
 ·exact⟨k,(),(),.inr (.inr h)⟩
 ·exact⟨k,(),(),.inl h⟩
theorem Gd{w:Wl}(h:zb w):Mn w:=by
 obtain⟨k,a,b,rfl|rfl|rfl⟩:=h
 ·exact⟨by simp only[NW];omega,by simp only[NW];omega,by simp only[NW];omega,by simp only[NW];omega,by simp only[NW,l1,l2,la];omega⟩
 ·exact⟨by simp only[NK];omega,by simp only[NK];omega,by simp only[NK];omega,by simp only[NK];omega,by simp only[NK,l1,l2,la];omega⟩
 ·exact⟨by simp only[NK];omega,by simp only[NK];omega,by simp only[NK];omega,by simp only[NK];omega,by simp only[NK,l1,l2,la];omega⟩
theorem nk(k x y:Int):sd (NW k) x y=k-x:=by unfold sd NH NW;simp;omega
theorem oJ(k c x y:Int):sd (NK k c) x y=y-c:=by unfold sd NH NK;simp only;rw[show k+1-k=1 by omega,Int.sub_self,LJ,Int.zero_mul,Int.sub_zero]
theorem rp(z:Int):0<=Ji z*Ji z:=by
 rcases J4 z 0 with h|h|h
 ·rw[Jr h];decide
 ·subst h;decide
 ·rw[JK h];decide
theorem yX(z:Int):0<=Ji z*Ji (z-1):=by
 rcases J4 z 0 with h|h|h
 ·rw[Jr h,Jr ()];decide
 ·subst h;decide
 ·rcases J4 (z-1) 0 with g|g|g
  ·omega
  ·rw[g];simp
  ·rw[JK h,JK g];decide
theorem AO{U V:Wl}(f:zb U)(g:zb V)(ne:U≠V):My U V:=by
 have h:∀k j:Int,k≠j->My (NW k) (NW j):=fun k j e=>by
  refine⟨?_,?_,?_,?_,?_,.inl ?_⟩
  ·simp only[l1,l2,la,NW];omega
  ·simp only[aY,Mq,Mt,nk];simp only[l1,l2,la,NW];omega
  ·simp only[aY,Mq,Mt,nk];simp only[l1,l2,la,NW];omega
  ·simp only[aY,Mq,Mt,nk];simp only[l1,l2,la,NW];omega
  ·simp only[aY,Mq,Mt,nk];simp only[l1,l2,la,NW];omega
  ·simp only[Mq,Mt,nk];exact rp _
 have c:∀k j y:Int,(y=0\/y=1)->My (NW k) (NK j y):=fun k j y i=>by
  refine⟨?_,?_,?_,?_,?_,.inl ?_⟩
  ·simp only[l1,l2,la,NW,NK];omega
  ·simp only[aY,Mq,Mt,nk,oJ];simp only[l1,l2,la,NW,NK];omega
  ·simp only[aY,Mq,Mt,nk,oJ];simp only[l1,l2,la,NW,NK];omega
  ·simp only[aY,Mq,Mt,nk,oJ];simp only[l1,l2,la,NW,NK];omega
  ·simp only[aY,Mq,Mt,nk,oJ];simp only[l1,l2,la,NW,NK];omega
  ·simp only[Mq,Mt,nk];have:=yX (k-j);rw[show k-j-1=k-(j+1) by omega]at this;exact this
 have d:∀k y j x:Int,(y=0\/y=1)->(x=0\/x=1)->¬(k=j/\y=x)->My (NK k y) (NK j x):=fun k y j x i l e=>by
  refine⟨?_,?_,?_,?_,?_,.inl ?_⟩
  ·simp only[l1,l2,la,NK];omega
  ·simp only[aY,Mq,Mt,oJ];simp only[l1,l2,la,NK];omega
  ·simp only[aY,Mq,Mt,oJ];simp only[l1,l2,la,NK];omega
  ·simp only[aY,Mq,Mt,oJ];simp only[l1,l2,la,NK];omega
  ·simp only[aY,Mq,Mt,oJ];simp only[l1,l2,la,NK];omega
  ·simp only[Mq,Mt,oJ];exact rp _
 have a:(0:Int)=0\/(0:Int)=1:=.inl rfl;have b:(1:Int)=0\/(1:Int)=1:=.inr rfl;obtain⟨k,m,n,rfl|rfl|rfl⟩:=f<;>obtain⟨j,o,p,rfl|rfl|rfl⟩:=g
 ·exact h k j fun z=>ne (by rw[z])
 ·exact c k j 0 a
 ·exact c k j 1 b
 ·exact(c j k 0 a).swap
 ·exact d k 0 j 0 a a fun z=>ne (by rw[z.1])
 ·exact d k 0 j 1 a b fun z=>()
 ·exact(c j k 1 b).swap
 ·exact d k 1 j 0 b a fun z=>()
 ·exact d k 1 j 1 b b fun z=>ne (by rw[z.1])
theorem oq(m:Nat):∀i:Nat,i<=m->(Nu (m:Int) i).Nodup
 |0,_=>Lf.mpr ⟨by simp,List.nodup_nil⟩
 |i+1,h=>by
  rw[Nu,LL]
  refine⟨oq m i (),by simp[NK,NW],fun a c b f e=>?_⟩
  subst e
  have d:a=NK (i:Int) 0\/a=NK (i:Int) 1\/a=NW (i:Int):=by simpa using f
  rcases oI c with c|⟨k,g,c⟩
  ·subst c
   rcases d with z|z|z<;>simp only[NW,NK,Prod.mk.injEq]at z<;>omega
  ·rcases c with rfl|rfl|rfl<;>rcases d with z|z|z<;>simp only[NW,NK,Prod.mk.injEq]at z<;>omega
theorem FJ{m:Nat}{ws:List Wl}(f:m<=13)(h:ws.Perm (Nu (m:Int) m)):PF ws/\(∀w∈ws,Mn w)/\ws.length<=40:=by have is:∀w∈ws,zb w:=fun w a=>CG f (h.mem_iff.mp a);have nd:ws.Nodup:=h.nodup_iff.mpr (oq m m (IX _));refine⟨fun i j U V b c d=>?_,fun w a=>Gd (is w a),by rw[h.length_eq,kn];omega⟩;refine AO (is U (IZ c)) (is V (IZ d)) fun e=>?_;subst e;obtain⟨g,e1⟩:=J1.mp c;obtain⟨k,e2⟩:=J1.mp d;exact b ((List.getElem_inj nd).mp (e1.trans e2.symm))
def bB(ws:List Wl)(m p q:Int)(j:Nat):Bool:=Rn ws m (la p q) j&&decide (Ji (sd (Nf m (Mu ws (j:Int))) p q)=1)
def bK(ws:List Wl)(m p q:Int):List Int:=((J5 ws.length).filter (bB ws m p q)).map fun j:Nat=>(j:Int)
theorem jH{ws:List Wl}{m p q k:Int}(h:k∈bK ws m p q):k∈VI ws m (la p q):=by unfold bK at h;obtain⟨j,a,rfl⟩:=JH.mp h;rw[J6]at a;have:=a.2;unfold bB at this;rw[Jn]at this;exact JH.mpr ⟨j,J6.mpr ⟨a.1,this.1⟩,rfl⟩
theorem qL(ws:List Wl)(m p q:Int):(bK ws m p q).Nodup:=by unfold bK List.Nodup;rw[List.pairwise_map];have h:List.Pairwise (fun x y:Nat=>x≠y) ((J5 ws.length).filter (bB ws m p q)):=KO _ List.nodup_range;refine List.Pairwise.imp (R:=fun x y:Nat=>x≠y) ?_ h;intro a b c e;exact c ()
theorem CK{t b X Y:Int}(a:0<t)(c:0<b){U V:Wl}(g:Mn U)(h:Mn V)(ne:¬(l1 U=l1 V/\l2 U=l2 V)):Jt (Qh t b X Y U) (Qh t b X Y V)=MD:=by have i:=jf (X:=X) (Y:=Y) (p:=U.1) (q:=U.2.1) (e:=V.1) (f:=V.2.1) a c g.b h.b;have j:=jf (X:=X) (Y:=Y) (p:=U.2.2.1) (q:=U.2.2.2) (e:=V.2.2.1) (f:=V.2.2.2) a c g.d h.d;unfold Qh RV;rw[Jt,JN,JN,JN,Mf,Mf,L9,<-Bool.decide_and,decide_eq_false_iff_not,i,j];exact ne
abbrev Vc:=Int×Int
def vc(a b:Vc):Int:=NH a.1 a.2 b.1 b.2
def vl(a:Vc):Int:=la a.1 a.2
theorem eM(a b:Vc):vc b a=-vc a b:=by unfold vc NH;grind
theorem GF(b x y z:Vc):vc b y*vc x z=vc b x*vc y z+vc b z*vc x y:=by unfold vc NH;grind
theorem CP(a b c:Vc)(h:vc a b=0):vc b c*vl a=vc a c*vl b:=by unfold vc NH at *;unfold vl la;grind
def O4(a b:Vc):Prop:=vc a b=0->vl a*vl b<0
theorem gb(z:Int):(z<0/\Ji z=-1)\/(z=0/\Ji z=0)\/(0<z/\Ji z=1):=by
 rcases J4 z 0 with h|h|h
 ·exact .inl ⟨h,Jr h⟩
 ·exact .inr (.inl ⟨h,by subst h;rfl⟩)
 ·exact .inr (.inr ⟨h,JK h⟩)
theorem fG{p q:Int}(h:p*q<0):(p<0/\0<q)\/(0<p/\q<0):=by
 rcases J4 p 0 with a|a|a
 ·rcases J4 q 0 with b|b|b
  ·have:=JL a b;omega
  ·subst b;simp at h
  ·exact .inl ⟨a,b⟩
 ·subst a;simp at h
 ·rcases J4 q 0 with b|b|b
  ·exact .inr ⟨a,b⟩
  ·subst b;simp at h
  ·have:=Jy a b;omega
theorem V0{a b:Vc}(c:Vc)(z:vc a b=0)(h:vl a*vl b<0):Ji (vc b c)=-Ji (vc a c):=by
 have e:=CP a b c z;generalize vc b c=p at *;generalize vc a c=q at *;have k:∀{x y:Int},0<x->0<y->0<x*y:=fun d f=>Jy d f
 rcases fG h with⟨d,f⟩|⟨d,f⟩<;>rcases gb p with⟨g,e1⟩|⟨g,e1⟩|⟨g,e1⟩<;>rcases gb q with⟨i,e2⟩|⟨i,e2⟩|⟨i,e2⟩<;>rw[e1,e2]<;>first|rfl|(exfalso;subst_vars;first
  |(have k1:=JL g d;have j:=Jp i f;omega)
  |(have k1:=Jp g d;have j:=JL i f;omega)
  |(have k1:=Jv g d;have j:=Jy i f;omega)
  |(have k1:=Jy g d;have j:=Jv i f;omega)
  |(have k1:=JL g d;omega)
  |(have k1:=Jp g d;omega)
  |(have k1:=Jv g d;omega)
  |(have k1:=Jy g d;omega)
  |(have j:=JL i f;omega)
  |(have j:=Jp i f;omega)
  |(have j:=Jv i f;omega)
  |(have j:=Jy i f;omega))
def OI(b x y:Vc):Bool:=if Ji (vc b x)=Ji (vc b y)then decide (vc x y<0)else decide (Ji (vc b x)<Ji (vc b y))
theorem gU(b x y:Vc):OI b x y=MC↔Ji (vc b x)<Ji (vc b y)\/(Ji (vc b x)=Ji (vc b y)/\vc x y<0):=by
 unfold OI;split
 ·rename_i h;simp;omega
 ·rename_i h;simp;omega
theorem oj{b x y:Vc}(a:O4 b x)(c:O4 b y)(d:O4 x y):OI b x y=MC\/OI b y x=MC:=by
 rw[gU,gU];rcases J4 (vc x y) 0 with h|h|h
 ·omega
 ·have o:=d h;have e:=V0 b h o;have e1:vc x b=-vc b x:=eM b x;have e2:vc y b=-vc b y:=eM b y;rw[e1,e2,Int.sign_neg,Int.sign_neg]at e;by_cases ne:Ji (vc b x)=Ji (vc b y)
  ·have f:Ji (vc b x)=0:=()
   have g:Ji (vc b y)=0:=()
   have i:=fG (a (Int.sign_eq_zero_iff_zero.mp f));have j:=fG (c (Int.sign_eq_zero_iff_zero.mp g));have k:=fG o;omega
  ·omega
 ·have:=eM x y;omega
theorem n6{b x y z:Vc}(h:O4 b x)(n:O4 b y)(o:O4 b z)(d:OI b x y=MC)(a:OI b y z=MC):OI b x z=MC:=by
 rw[gU]at *;rcases d with d|⟨d,b1⟩
 ·left;rcases a with a|⟨a,f⟩<;>omega
 ·rcases a with a|⟨a,f⟩
  ·left;omega
  ·right;refine⟨(),?_⟩;have i:=GF b x y z;rcases gb (vc b y)with⟨k,e⟩|⟨k,e⟩|⟨k,e⟩
   ·have c:vc b x<0:=by rcases gb (vc b x)with q|q|q<;>omega
    have g:vc b z<0:=by rcases gb (vc b z)with q|q|q<;>omega
    have j:=JL c f;have l:=JL g b1;rcases J4 (vc x z) 0 with q|q|q
    ·exact q
    ·rw[q]at i;simp at i;omega
    ·have:=Jp k q;omega
   ·exfalso;have c:vc b x=0:=by rcases gb (vc b x)with q|q|q<;>omega
    have m:=h c;have e:=V0 y c m;have:Ji (vc x y)=-1:=Jr b1;rw[k]at e;simp at e;omega
   ·have c:0<vc b x:=by rcases gb (vc b x)with q|q|q<;>omega
    have g:0<vc b z:=by rcases gb (vc b z)with q|q|q<;>omega
    have j:=Jv c f;have l:=Jv g b1;rcases J4 (vc x z) 0 with q|q|q
    ·exact q
    ·rw[q]at i;simp at i;omega
    ·have:=Jy k q;omega
theorem t6{a b c:Vc}(h:O4 a b)(e:OI a c b=MC)(d:OI b c a=MC):False:=by
 rw[gU]at e d;have e1:vc b a=-vc a b:=eM a b;have e2:vc c b=-vc b c:=eM b c;have e3:vc c a=-vc a c:=eM a c;rw[e1,Int.sign_neg]at d;rw[e2]at e;rw[e3]at d;by_cases z:vc a b=0
 ·have o:=V0 c z (h z);rw[z]at e d;simp at e d;rcases gb (vc a c)with q|q|q<;>rcases gb (vc b c)with r|r|r<;>omega
 ·rcases gb (vc a b)with p|p|p<;>rcases gb (vc a c)with q|q|q<;>rcases gb (vc b c)with r|r|r<;>omega
def rev(w:Wl):Wl:=(w.2.2.1,w.2.2.2,w.1,w.2.1)
def fw(ws:List Wl)(f:Nat):Wl:=if f%2=0 then Mu ws ((f/2:Nat):Int)else rev (Mu ws ((f/2:Nat):Int))
def fa(ws:List Wl)(f:Nat):Vc:=((fw ws f).1,(fw ws f).2.1)
def fb(ws:List Wl)(f:Nat):Vc:=((fw ws f).2.2.1,(fw ws f).2.2.2)
def fd(ws:List Wl)(f:Nat):Vc:=((fw ws f).2.2.1-(fw ws f).1,(fw ws f).2.2.2-(fw ws f).2.1)
def fx(f:Nat):Nat:=if f%2=0 then f+1 else f-1
theorem fZ(f:Nat):fx f/2=f/2/\(fx f)%2=1-f%2:=by unfold fx;split<;>omega
theorem tZ(f:Nat):fx (fx f)=f:=by unfold fx;split<;>split<;>omega
theorem ie{f n:Nat}(h:f<2*n):fx f<2*n:=by unfold fx;split<;>omega
theorem ur(ws:List Wl)(f:Nat):fw ws (fx f)=rev (fw ws f):=by
 unfold fw;rw[(fZ f).1,(fZ f).2];by_cases h:f%2=0
 ·rw[ME (),MF h]
 ·rw[MF (),ME h];rfl
theorem d8(ws:List Wl)(f:Nat):fa ws (fx f)=fb ws f:=by unfold fa fb;rw[ur];rfl
theorem qV(ws:List Wl)(f:Nat):fb ws (fx f)=fa ws f:=by unfold fa fb;rw[ur];rfl
theorem d5{ws:List Wl}(d:∀w∈ws,Mn w)(hF:PF ws){g h:Nat}(y:g<2*ws.length)(A:h<2*ws.length)(ne:g≠h)(e:fa ws g=fa ws h):O4 (fd ws g) (fd ws h):=by
 obtain⟨f,_,j⟩:=br (ws:=ws) (k:=((g/2:Nat):Int)) () ();obtain⟨i,_,l⟩:=br (ws:=ws) (k:=((h/2:Nat):Int)) () ();have U:=d _ j;have V:=d _ l;rw[Kx]at f i;unfold fa at e;have e1:=congrArg Prod.fst e;have e2:=congrArg Prod.snd e;unfold fd;unfold fw at *;by_cases a:g/2=h/2
 ·exfalso;rw[<-a]at e1 e2;have lt:=U.lt;unfold l1 l2 la at lt;by_cases p:g%2=0
  ·rw[MF p,ME (():¬h%2=0)]at e1 e2;unfold rev at e1 e2;dsimp only at e1 e2;omega
  ·rw[ME p,MF (():h%2=0)]at e1 e2;unfold rev at e1 e2;dsimp only at e1 e2;omega
 ·have F:=hF _ _ _ _ a f i;generalize Mu ws ((g/2:Nat):Int)=u at *;generalize Mu ws ((h/2:Nat):Int)=v at *;intro z;have B:=U.lt;have C:=V.lt;unfold vc NH at z;have m:=F.e2;have n:=F.e4;have o:=F.e1;have r:=F.e3;have D:=F.ne;unfold aY at o m r n;unfold vl;by_cases p:g%2=0<;>by_cases q:h%2=0
  ·rw[MF p,MF q]at z e1 e2 ⊢;exfalso;simp only[]at z e1 e2;have s:Mt u v=0:=by unfold Mt sd NH;grind
   have t:Mt v u=0:=by unfold Mt sd NH;grind
   have x:l1 u=l1 v:=by unfold l1;rw[e1,e2]
   omega
  ·rw[MF p,ME q]at z e1 e2 ⊢;unfold rev at *;simp only[]at z e1 e2 ⊢;have b:la (u.2.2.1-u.1) (u.2.2.2-u.2.1)=l2 u-l1 u:=by unfold l1 l2 la;omega
   have c:la (v.1-v.2.2.1) (v.2.1-v.2.2.2)=-(l2 v-l1 v):=by unfold l1 l2 la;omega
   rw[b,c];exact Jv () ()
  ·rw[ME p,MF q]at z e1 e2 ⊢;unfold rev at *;simp only[]at z e1 e2 ⊢;have b:la (u.1-u.2.2.1) (u.2.1-u.2.2.2)=-(l2 u-l1 u):=by unfold l1 l2 la;omega
   have c:la (v.2.2.1-v.1) (v.2.2.2-v.2.1)=l2 v-l1 v:=by unfold l1 l2 la;omega
   rw[b,c];exact Jp () ()
  ·rw[ME p,ME q]at z e1 e2 ⊢;unfold rev at *;exfalso;simp only[]at z e1 e2;have s:Mq u v=0:=by unfold Mq sd NH;grind
   have t:Mq v u=0:=by unfold Mq sd NH;grind
   have x:l2 u=l2 v:=by unfold l2;rw[e1,e2]
   omega
def bW(R:Nat->Nat->Bool)(o:Option Nat)(g:Nat):Option Nat:=match o with
 |none=>MA g
 |some h=>if R g h=MC then MA g else MA h
theorem fold_min{R:Nat->Nat->Bool}{S:Nat->Prop}(b:∀x y,S x->S y->x≠y->R x y=MC\/R y x=MC)(f:∀x y z,S x->S y->S z->R x y=MC->R y z=MC->R x z=MC) :
 ∀(l:List Nat) (h:Nat),S h->(∀x∈l,S x)->∃m,l.foldl (bW R) (MA h)=MA m/\S m/\(m=h\/m∈l)/\(h=m\/R m h=MC)/\∀x∈l,x=m\/R m x=MC
 |[],h,sh,_=>⟨h,rfl,sh,.inl rfl,.inl rfl,fun x a=>by cases a⟩
 |g::l,h,sh,hl=>by
  have sg:=hl g (by simp)
  rw[Lh]
  by_cases r:R g h=MC
  ·obtain⟨m,e,d,mem,c,i⟩:=fold_min b f l g sg (fun x a=>hl x (by simp[a]))
   have j:bW R (MA h) g=MA g:=by unfold bW;simp[r]
   rw[j]
   refine⟨m,e,d,?_,?_,?_⟩
   ·rcases mem with z|z
    ·right;simp[z]
    ·right;simp[z]
   ·right
    rcases c with z|z
    ·rw[<-z];exact r
    ·exact f _ _ _ d sg sh z r
   ·intro x a
    rcases Jo.mp a with z|z
    ·subst z;exact c
    ·exact i x z
  ·obtain⟨m,e,d,mem,c,i⟩:=fold_min b f l h sh (fun x a=>hl x (by simp[a]))
   have j:bW R (MA h) g=MA h:=by unfold bW;simp[r]
   rw[j]
   refine⟨m,e,d,?_,c,?_⟩
   ·rcases mem with z|z
    ·exact .inl z
    ·right;simp[z]
   ·intro x a
    rcases Jo.mp a with z|z
    ·subst z
     by_cases ne:x=h
     ·subst ne;exact c
     ·rcases b x h sg sh ne with q|q
      ·exact absurd q r
      ·rcases c with z|z
       ·right;rw[<-z];exact q
       ·right;exact f _ _ _ d sh sg z q
    ·exact i x z
def jd(ws:List Wl)(f g:Nat):Bool:=decide (fa ws g=fb ws f)&&decide (g≠fx f)
def cV(ws:List Wl)(f:Nat):List Nat:=(J5 (2*ws.length)).filter (jd ws f)
def NT(ws:List Wl)(f g h:Nat):Bool:=OI (fd ws (fx f)) (fd ws g) (fd ws h)
def bh(ws:List Wl)(f:Nat):Nat:=((cV ws f).foldl (bW (NT ws f)) MB).getD (fx f)
theorem bD{ws:List Wl}{f g:Nat}:g∈cV ws f↔g<2*ws.length/\fa ws g=fb ws f/\g≠fx f:=by unfold cV jd;simp[J6]
theorem f6{ws:List Wl}(j:∀w∈ws,Mn w)(hF:PF ws){f:Nat}(hf:f<2*ws.length):(cV ws f=[]/\bh ws f=fx f)\/(bh ws f∈cV ws f/\∀x∈cV ws f,x=bh ws f\/NT ws f (bh ws f) x=MC):=by
 unfold bh;cases c:cV ws f with
 |nil=>exact .inl ⟨rfl,rfl⟩
 |cons g l=>
  right
  have sub:∀x∈g::l,x<2*ws.length/\fa ws x=fb ws f/\x≠fx f:=fun x d=>bD.mp (by rw[c];exact d)
  have h:∀x,(x<2*ws.length/\fa ws x=fb ws f/\x≠fx f)->O4 (fd ws (fx f)) (fd ws x):=fun x d=>d5 j hF (ie hf) d.1 (fun z=>d.2.2 z.symm) (by rw[d8,d.2.1])
  obtain⟨m,e,q,mem,k,n⟩:=fold_min (R:=NT ws f) (S:=fun x=>x<2*ws.length/\fa ws x=fb ws f/\x≠fx f) (fun x y d i ne=>oj (h x d) (h y i) (d5 j hF d.1 i.1 ne (by rw[d.2.1,i.2.1]))) (fun x y z d i o a b=>n6 (h x d) (h y i) (h z o) a b) l g (sub g (by simp)) (fun x d=>sub x (by simp[d]))
  rw[Lh]
  have p:bW (NT ws f) MB g=MA g:=rfl
  rw[p,e]
  simp only[Option.getD_some]
  refine⟨by rcases mem with z|z<;>simp[z],fun x d=>?_⟩
  rcases Jo.mp d with z|z
  ·subst z;exact k
  ·exact n x z
theorem Cs{ws:List Wl}(a:∀w∈ws,Mn w)(hF:PF ws){f:Nat}(hf:f<2*ws.length):bh ws f<2*ws.length:=by
 rcases f6 a hF hf with⟨_,e⟩|⟨h,_⟩
 ·rw[e];exact ie hf
 ·exact(bD.mp h).1
theorem ib{ws:List Wl}(a:∀w∈ws,Mn w)(hF:PF ws){f:Nat}(hf:f<2*ws.length):fa ws (bh ws f)=fb ws f:=by
 rcases f6 a hF hf with⟨_,e⟩|⟨h,_⟩
 ·rw[e,d8]
 ·exact(bD.mp h).2.1
theorem E3{ws:List Wl}(a:∀w∈ws,Mn w)(hF:PF ws){f g:Nat}(hf:f<2*ws.length)(b:g<2*ws.length)(e:bh ws f=bh ws g):f=g:=by
 by_cases ne:fx f=fx g
 ·rw[<-tZ f,ne,tZ]
 ·exfalso;have c:fb ws f=fb ws g:=by rw[<-ib a hF hf,<-ib a hF b,e]
  have d:fx g∈cV ws f:=bD.mpr ⟨ie b,by rw[d8,c],fun z=>ne z.symm⟩;have h:fx f∈cV ws g:=bD.mpr ⟨ie hf,by rw[d8,c],ne⟩;rcases f6 a hF hf with⟨z,_⟩|⟨k1,j⟩
  ·rw[z]at d;cases d
  ·rcases f6 a hF b with⟨z,_⟩|⟨k,l⟩
   ·rw[z]at h;cases h
   ·have m:=(bD.mp k1).2.2;have n:=(bD.mp k).2.2;have o:=(j _ d).resolve_left (fun z=>n (by rw[<-e,<-z]));have i:=(l _ h).resolve_left (fun z=>m (by rw[e,<-z]));rw[<-e]at i;exact t6 (d5 a hF (ie hf) (ie b) ne (by rw[d8,d8,c])) o i
def NJ(ws:List Wl)(f:Nat):Nat->Nat
 |0=>f
 |k+1=>bh ws (NJ ws f k)
def rn(ws:List Wl)(f k:Nat):List Nat:=(J5 (k+1)).map (NJ ws f)
def NR(ws:List Wl)(f k:Nat):Prop:=∀i j,i<j->j<=k->NJ ws f i≠NJ ws f j
theorem fo(ws:List Wl)(f k:Nat):(rn ws f k).length=k+1:=by simp[rn]
theorem kH(ws:List Wl)(f k:Nat):rn ws f (k+1)=rn ws f k++[NJ ws f (k+1)]:=by unfold rn;rw[KD,Jg];rfl
theorem uL(ws:List Wl)(f:Nat):rn ws f 0=[f]:=rfl
theorem oE:∀(m:Nat) (l:List Nat),l.Nodup->(∀x∈l,x<m)->l.length<=m
 |0,l,_,h=>by
  cases l with
  |nil=>simp
  |cons a l=>exact absurd (h a (by simp)) ()
 |m+1,l,nd,h=>by
  have d:=oE m (l.erase m) (nd.erase m) (fun x b=>by
   have:=h x (List.mem_of_mem_erase b)
   have ne:x≠m:=fun z=>by
    subst z
    exact absurd b (nd.not_mem_erase)
   omega)
  have:=List.length_erase_le (a:=m) (l:=l)
  by_cases c:m∈l
  ·have:=List.length_erase_of_mem c;omega
  ·rw[List.erase_of_not_mem c]at d;omega
section
variable{ws:List Wl}(hU:∀w∈ws,Mn w)(hF:PF ws){f:Nat}(hf:f<2*ws.length)
include hU hF hf
theorem cy:∀k,NJ ws f k<2*ws.length
 |0=>hf
 |k+1=>Cs hU hF (cy k)
theorem uj{k:Nat}(h:NR ws f k)(ne:bh ws (NJ ws f k)≠f):NR ws f (k+1):=fun i j a b e=>by
 by_cases q:j<=k
 ·exact h i j a q e
 ·have:j=k+1:=()
  subst this;cases i with
  |zero=>exact ne e.symm
  |succ i=>exact h i k () (IX _) (E3 hU hF (cy hU hF hf i) (cy hU hF hf k) e)
theorem nD{k:Nat}(h:NR ws f k):k+1<=2*ws.length:=by
 rw[<-fo ws f k];refine oE _ _ ?_ (fun x d=>?_)
 ·unfold rn;rw[List.nodup_iff_pairwise_ne,List.pairwise_map];refine List.Pairwise.imp_of_mem ?_ (List.pairwise_lt_range (n:=k+1));intro a b g e c;exact h a b c (by have:=Ju.mp e;omega)
 ·unfold rn at d;obtain⟨i,_,rfl⟩:=JH.mp d;exact cy hU hF hf i
end
structure XN(ws:List Wl)(r:List Nat):Prop where
 ex:∃f k,f<2*ws.length/\k+1<=2*ws.length/\r=rn ws f k/\bh ws (NJ ws f k)=f
theorem ue(ws:List Wl)(f:Nat):NR ws f 0:=fun i j a b=>()
theorem round0{ws:List Wl}(b:∀w∈ws,Mn w)(hF:PF ws){f k:Nat}(hf:f<2*ws.length)(c:bh ws (NJ ws f k)=f)(a:Vc->Rat):((rn ws f k).map fun g=>a (fb ws g)-a (fa ws g)).sum=0:=by
 have key:∀k,((rn ws f k).map fun g=>a (fb ws g)-a (fa ws g)).sum=a (fb ws (NJ ws f k))-a (fa ws f):=fun k=>by
  induction k with
  |zero=>rw[uL];simp only[IY,Ki,JU,List.sum_nil,Rat.add_zero];rfl
  |succ k d=>
   rw[kH,Jg,List.sum_append,d]
   simp only[IY,Ki,JU,List.sum_nil]
   have:fa ws (NJ ws f (k+1))=fb ws (NJ ws f k):=ib b hF (cy b hF hf k)
   rw[this]
   grind
 rw[key,<-ib b hF (cy b hF hf k),c];grind
def NO(ws:List Wl)(g:Nat):Int:=(fa ws g).1*(fb ws g).2-(fb ws g).1*(fa ws g).2
def RF(t b X Y:Int)(ws:List Wl)(g:Nat):Rat:=MV t b X 1 (fa ws g).1*MV t b Y 1 (fb ws g).2-MV t b X 1 (fb ws g).1*MV t b Y 1 (fa ws g).2
theorem uC(a c d:Rat)(u v w:Nat->Rat):∀l:List Nat,(l.map fun g=>a*u g+(c*v g+d*w g)).sum=a*(l.map u).sum+(c*(l.map v).sum+d*(l.map w).sum)
 |[]=>by simp;grind
 |g::l=>by
  rw[IY,JU,uC a c d u v w l,IY,JU,IY,JU,IY,JU]
  grind
theorem qq(u:Nat->Int):∀l:List Nat,(l.map fun g=>((u g:Int):Rat)).sum=(((l.map u).sum:Int):Rat)
 |[]=>by simp
 |g::l=>by
  rw[IY,JU,qq u l,IY,JU,Lj]
theorem Gi{ws:List Wl}(d:∀w∈ws,Mn w)(hF:PF ws){r:List Nat}(h:XN ws r){t b X Y:Int}(a:0<b):(r.map (RF t b X Y ws)).sum=((t:Rat)/b)*((t:Rat)/b)*(((r.map (NO ws)).sum:Int):Rat):=by
 obtain⟨f,k,hf,_,rfl,c⟩:=h.ex;have i:=round0 d hF hf c (fun p=>((p.1:Int):Rat));have j:=round0 d hF hf c (fun p=>((p.2:Int):Rat))
 have e:(RF t b X Y ws)=fun g=>(((t:Rat)/b)*((t:Rat)/b))*((NO ws g:Int):Rat)+((-(((t:Rat)/b)*((Y:Rat)/b)))*((((fb ws g).1:Int):Rat)-(((fa ws g).1:Int):Rat))+(((t:Rat)/b)*((X:Rat)/b))*((((fb ws g).2:Int):Rat)-(((fa ws g).2:Int):Rat))):=by
  funext g
  unfold RF NO;rw[dE a,dE a,dE a,dE a,KG,JT,JT];grind
 rw[e,uC,qq];rw[i,j];grind
theorem vd(q:Rat)(B:Int)(h:(q.den:Int) ∣ B):((q.num*B.fdiv (q.den:Int):Int):Rat)=q*(B:Rat):=by
 obtain⟨k,rfl⟩:=h;have hd:(q.den:Int)≠0:=by have:=q.den_nz;omega
 have e:((q.den:Int)*k).fdiv (q.den:Int)=k:=by rw[JQ _ ()];exact Int.mul_ediv_cancel_left k hd
 rw[e,JT,JT];have a:((q.den:Int):Rat)≠0:=fun z=>hd (by exact_mod_cast z)
 have m:q*((q.den:Int):Rat)=(q.num:Rat):=by
  have e:=Rat.num_divInt_den q
  rw[Rat.divInt_eq_div]at e
  rw[<-e]
  have e3:((q.num:Rat)/((q.den:Int):Rat))*((q.den:Int):Rat)=(q.num:Rat):=by grind
  rw[e]at e3 ⊢
  exact e3
 rw[<-m];grind
theorem Bn{n d:Int}(hd:0<d):((Rat.divInt n d).den:Int) ∣ d:=by rw[Rat.den_divInt,ME ()];have a:d.natAbs/d.gcd n ∣ d.natAbs:=Nat.div_dvd_of_dvd (Int.ofNat_dvd_left.mp (Int.gcd_dvd_left d n));exact Int.ofNat_dvd_left.mpr a
section
variable{X:Cx}
def Fs:NY:=PM (fun _ _=>True) fun i j=>.int (Builtin.bitXor i j)
theorem CY:NZ X (KZ .BitXor) Fs:=dG (RM Di) fun _ _ _=>by rw[Rep]
variable{o:Expr}{to:TD}{apos ba:Pos}
end
theorem C8:∀f:Nat,f<80->Builtin.bitXor (f:Int) 1=((fx f:Nat):Int):=⋯
def RZ(n:Nat)(S:Int->Bool):I0->Hp->Addr->Prop:=fun K H a=>∃kvs:List (Key×V),H a=MA (.dK kvs)/\kvs.length<=n/\∀i:Int,(kvs.any fun b=>decide (b.1=Sum.inl i))=S i
def Q7(n:Nat)(S:Int->Bool):MO:=.gen (RZ n S)
section
variable{K:I0}{H H':Hp}{M:MH}{a:Addr}
theorem RZ.xx{n:Nat}{S:Int->Bool}(h:RZ n S K H a):qk K H a (Q7 n S):=⟨h,(by obtain⟨kvs,b,_⟩:=h;rw[b];simp),fun H' g e=>let⟨kvs,b,c⟩:=h;⟨kvs,e.trans b,c⟩⟩
theorem Mw.di{n:Nat}{S:Int->Bool}(h:Mw K H M)(e:M a=MA (Q7 n S)):RZ n S K H a:=(h a _ e).1
theorem Mw.Gw{p:Addr}(h:Mw K H M)(b:H p=MB):Mw K (upd H p (.dK [])) (aA M p (Q7 0 fun _=>MD)):=fun a u e=>by
 by_cases ne:a=p
 ·subst ne;rw[ag]at e;cases e;exact RZ.xx ⟨[],bC,IX _,fun _=>rfl⟩
 ·rw[au ne]at e;exact(h a u e).iJ (.new b) (bg ne)
theorem Mo.dK{kvs:List (Key×V)}{o:HO}(h:H a=MA (.dK kvs)):Mo K H (upd H a o):=.put (fun xs e=>by rw[h]at e;cases e) (fun u xs e=>by rw[h]at e;cases e)
theorem Mw.FV{n:Nat}{S:Int->Bool}{kvs:List (Key×V)}{i:Int}{v:V}(h:Mw K H M)(b:H a=MA (.dK kvs))(g:kvs.length<=n)(d:∀i:Int,(kvs.any fun f=>decide (f.1=Sum.inl i))=S i) : Mw K (upd H a (.dK (putK kvs (.inl i) v))) (aA M a (Q7 (n+1) fun j=>decide (j=i)||S j)):=fun c u e=>by
 by_cases ne:c=a
 ·subst ne;rw[ag]at e;cases e;refine RZ.xx ⟨_,bC,by have:=gO kvs (.inl i) v;omega,fun j=>?_⟩;rw[eC,xA];by_cases z:j=i
  ·subst z;rw[MF rfl];simp
  ·rw[ME (fun q=>z (by injection q)),<-eC,d];simp[z]
 ·rw[au ne]at e;exact(h c u e).iJ (.dK b) (bg ne)
end
section
variable{X:Cx}{pos:Pos}
def Ee:TD:=fun _ M Q=>∀p,M p=MB->Q (.ref p) (aA M p (Q7 0 fun _=>MD))
theorem yt:DE X (.Dict [] [] pos) Ee:=bw y8 fun σ H Q a=>by obtain⟨δ,M,R,e,d,q,b⟩:=a;exact(fun p c=>b _ _ _ _ (.new c) (by rw[Rep]) (d.Gw c) (q p (d.fresh c)))
def Cc(g:Bool->Bool)(ty b:TD):TD:=fun δ M Q=>ty δ M fun y c=>b δ c fun x a=>∃i l n S,y=.int i/\x=.ref l/\a l=MA (Q7 n S)/\Q (.bl (g (S i))) a
theorem AI{K:I0}{g:Bool->Bool}{ty e:TD}{σ:L2.St}{H:Hp}{Q:VK}(h:lift K (Cc g ty e) σ H Q) : (lift K ty) σ H fun y H1=>(lift K e) σ H1 fun x c=>∃a o,x=.ref a/\Eo c a y o/\Q (.bl (g o.isSome)) c:=by obtain⟨δ,M,R,f,r,q,d⟩:=h;refine⟨δ,M,_,f,r,q,fun y s v H1 j k t w=>⟨δ,s,_,f.mono j,t,w,fun x F u c z m p b=>?_⟩⟩;obtain⟨i,l,n,S,A,ex,B,C⟩:=b;subst A ex;rw[Rep]at k;rw[Rep]at m;subst k m;obtain⟨kvs,D,G,E⟩:=p.di B;refine⟨l,fN kvs (.inl i),rfl,.inl ⟨kvs,.inl i,.inl D,rfl,rfl⟩,?_⟩;rw[<-eC,E];exact d _ _ _ _ (j.trans z) (by rw[Rep]) p C
variable{e1 e2:Expr}{ty td:TD}
theorem tR(p:X.A.units+66<K4)(j:DE X e1 ty)(k:DE X e2 td)(l:LM .NotIn e2=MD:=by rfl):DT X (.Compare e1 [.NotIn] [e2] pos) (tBD (Cc (fun b=>!b) ty td)):=
 l7 (Dk (wB () j k) l) fun σ H Q e=>by obtain⟨δ,M,R,m,n,q,h⟩:=e;exact(AI (g:=fun b=>!b) (Q:=fun x i=>∃c,x=.bl c/\Q c i) ⟨δ,M,_,m,n,q,fun d s v i g r a f=>by
  obtain⟨c,o,z⟩:=f
  subst o
  rw[Rep]at r;subst r
  exact⟨c,rfl,h _ _ _ g a z⟩⟩)
def DO(td ty b:TD):NX:=fun B δ M=>b δ M fun d c=>td δ c fun x e=>ty δ e fun y a=>∃l i n S,x=.ref l/\y=.int i/\a l=MA (Q7 n S)/\n<1000000/\B.nx δ (aA a l (Q7 (n+1) fun j=>decide (j=i)||S j))
theorem zS{o i a:Expr}{k:TD}{b:Pos}(V:X.A.units+66<K4)(z:DE X o td)(C:DE X i ty)(E:DE X a k)(f:LP a (MA (.Subscript o i b)) pos.line X.env=pure MD:=by rfl):DSt X (.Assign [.Subscript o i b] a pos) (DO td ty k):=
 dq (Bl () z C E f) fun D σ H c=>by obtain⟨δ,M,f,F,B,ok,q⟩:=c;exact(⟨δ,M,_,f,F,q,fun d G v H1 g W I J=>⟨δ,G,_,f.mono g,I,J,fun x L u Y h m N O=>⟨δ,L,_,(f.mono g).mono h,N,O,fun y Z u3 p r s t e=>by
  obtain⟨l,i,n,S,ex,P,Q,hn,R⟩:=e
  subst ex P
  rw[Rep]at m;rw[Rep]at s;subst m s
  obtain⟨kvs,j,T,U⟩:=t.di Q
  have sz:1000000<=J8:=Mm rfl
  have w:Mo X.K p (upd p l (.dK (putK kvs (.inl i) v))):=.dK j
  exact⟨l,_,rfl,.inl ⟨kvs,.inl i,j,rfl,(),rfl⟩,ok.nx _ _ _ _ (((g.trans h).trans r).trans w) (f.mono (((g.trans h).trans r).trans w)) (t.FV j T U) R⟩⟩⟩⟩)
end
def ym(K:I0):RC:=fun c M Q=>oz K c M Q\/∃a xs n b,c=[.ref a,.ty n]/\M a=MA (.lst xs)/\PySem.W.kitOne K (.type "list") (.type n)=MA b/\Q (.bl b) M
section
variable{X:Cx}
theorem lq{K:I0}(j:X.K=K):dI X (.builtin "isinstance") (ym K):=by
 subst j;intro MP s σ H vs us Q I f k;obtain⟨l,M,R,g,a,q,c⟩:=k;rcases q with q|⟨x,xs,n,b,p,t,w,q⟩
 ·exact vX MP s σ H vs us Q I f ⟨l,M,R,g,a,q,c⟩
 ·subst p;obtain⟨v,u,rfl,r,i⟩:=eZ g;rw[Rep]at r;subst r;rw[Rep]at i;subst i;obtain⟨y,A,rfl,d,B⟩:=vals2 f;cases (show y=Km x from d);cases (show A=Value.type n from B);obtain⟨G,C,_⟩:=a _ _ t;obtain⟨D,_,⟨o,m,E,F,_⟩,_⟩:=I.list (Mx.of C);have h:∀e,EP X MP σ Q (.bool b) { s with toks:=e }:=fun e=>⟨.bl b,H,I.tok e,rfl,c _ _ _ _ .refl (by rw[Rep]) a q⟩;exact LF PySem.W.kitx_list I.kIn ⟨o,E,F⟩ w (fun z=>nomatch z) h
end
def gu(ws:List Wl)(f:Nat)(r:List Nat):Prop:=∃a,NR ws f a/\bh ws (NJ ws f a)=f/\r=rn ws f a
theorem BC{ws:List Wl}{f:Nat}{r c:List Nat}(h:gu ws f r)(h':gu ws f c):r=c:=by
 obtain⟨k,n,e,rfl⟩:=h;obtain⟨g,i,j,rfl⟩:=h';have d:∀{a b:Nat},NR ws f b->bh ws (NJ ws f a)=f->¬a<b:=fun{a b} n e l=>n 0 (a+1) () () e.symm;have m:=d i e;have o:=d n j;have:k=g:=()
 rw[this]
def OG(ws:List Wl):Nat->List (List Nat)->Prop
 |0,rs=>rs=[]
 |i+1,rs=>∃qs,OG ws i qs/\((i∈qs.flatten/\rs=qs)\/(i∉qs.flatten/\∃r,gu ws i r/\rs=qs++[r]))
theorem xy{ws:List Wl}:∀{i:Nat} {c b:List (List Nat)},OG ws i c->OG ws i b->c=b
 |0,c,b,h,h'=>by rw[show c=[]from h,show b=[]from h']
 |i+1,c,b,⟨qs,h1,h2⟩,⟨qs',h1',h2'⟩=>by
  have:=xy h1 h1'
  subst this
  rcases h2 with⟨a,rfl⟩|⟨a,r,f,rfl⟩
  ·rcases h2' with⟨d,rfl⟩|⟨d,_⟩
   ·rfl
   ·exact absurd a d
  ·rcases h2' with⟨d,_⟩|⟨d,g,e,rfl⟩
   ·exact absurd d a
   ·rw[BC f e]
def RL(M:MH)(ps:List Addr)(a:List (List Nat)):Prop:=LZ (fun(p:Addr) (r:List Nat)=>M p=MA (.lst (r.map fun g:Nat=>D.int (g:Int)))) ps a
theorem RL.len{M:MH}{ps:List Addr}{a:List (List Nat)}(h:RL M ps a):ps.length=a.length:=by
 unfold RL at h
 induction h with
 |nil=>rfl
 |cons _ _ b=>rw[JI,JI,b]
theorem RL.mono{M b:MH}{ps:List Addr}{c:List (List Nat)}(h:RL M ps c)(s:∀p∈ps,∀o,M p=MA o->b p=MA o):RL b ps c:=by
 unfold RL at *
 induction h with
 |nil=>exact .nil
 |cons a _ d=>exact .cons (s _ (by simp) _ a) (d fun p f o e=>s p (by simp[f]) o e)
theorem RL.snoc{M:MH}{ps:List Addr}{a:List (List Nat)}{p:Addr}{r:List Nat}(h:RL M ps a)(e:M p=MA (.lst (r.map fun g:Nat=>D.int (g:Int)))):RL M (ps++[p]) (a++[r]):=Paired.snoc h e
def RN(a:List (List Nat)):List LC:=a.map fun r=>.list (r.map fun g:Nat=>Lk (g:Int))
theorem RL.pds{M:MH}{ps:List Addr}{b:List (List Nat)}(h:RL M ps b):Oy M (ps.map D.ref) (RN b):=by
 unfold RL at h
 induction h with
 |nil=>exact .nil
 |@cons p r _ _ a _ ih=>
  refine .cons (.lst a ?_) ih
  have:=dJ (M:=M) (r.map fun g:Nat=>(g:Int))
  rw[Ku,Ku]at this
  exact this
section
variable{X:Cx}
def p0(us:List (Int×Int))(i:Nat):Int×Int:=us.getD i (0,0)
theorem tp{us:List (Int×Int)}{i:Nat}(h:i<us.length):p0 us i∈us:=by unfold p0;rw[List.getD_eq_getElem?_getD,IS h];exact JS h
variable{prog:Jl}{w:JO}{A:JV}{E:IQ->IT->Prop}{s:IT}
end
section
variable{X:Cx}
def Nc(u v:Int×Int):Prop:=100*u.1+u.2<100*v.1+v.2
end
def kh(h:Heap)(d:Addr)(es:Array Kf)(ep:Nat):Prop:=∃o,h.get? d=MA o/\o.ExactDict/\o.data=.dict es ep
section
variable{prog:Jl}{w:JO}{A:JV}{E:IQ->IT->Prop}{s:IT}{d it:Addr}{es:Array Kf}{ep i:Nat}
theorem kh.ty(h:kh s.heap d es ep):s.TypeIs (.ref d) "dict":=let⟨o,a,b,_⟩:=h;⟨o,a,b.1⟩
theorem kh.kept{h h':Heap}(q:kh h d es ep)(k:∀o,h.get? d=MA o->h'.get? d=MA o):kh h' d es ep:=let⟨o,a,b⟩:=q;⟨o,k o a,b⟩
theorem kh.lt{h:Heap}(q:kh h d es ep):d<h.objs.size:=let⟨_,a,_⟩:=q;J9 a
theorem yB{Q:IQ->IT->Prop}(f:(d==KI)=MD)(b:kh s.heap d es ep)
 (q:Q (.ref s.heap.objs.size) { s with heap:=s.heap.push { cls:=.type "dict_keyiterator",data:=.fields #[.ref d,.int 0 0,.int es.size 0,.int ep 0] } }):J3 (Jh prog w) A (pyIter (.ref d)) Q E s:=by
 have a:=b.ty
 obtain⟨o,c,g,e⟩:=b
 refine wpAny_pyIter_slot a F.slot_dict_iter (wpAny_call_entry F.slot_dict_iter a F.entry_dict_iter ?_ (F.args_dict_iter_1 _))
 unfold Mb.«dict.__iter__»
 refine cc ?_
 unfold Builtin.Dict.dictSlotNone
 refine cc (wpAny_notOrdered_dict a ?_)
 show J3 _ _ (pure (Km d)) _ _ s
 refine IV ?_
 show J3 _ _ (Builtin.Dict.showsAll d >>= _) _ _ s
 unfold Builtin.Dict.showsAll
 rw[ME (by rw[f];exact Jf)]
 refine cc (IV (cc (wpAny_dictEntries c e (cc (wpAny_dictEpoch c e ?_)))))
 refine cc (JG (IV ⟨_,rfl,"dict_keyiterator",_,⟨_,J7 _ rfl,rfl⟩,KH.lookup,?_⟩))
 simpa[rawInt]using q
theorem yQ{Q:Option IQ->IT->Prop}(b:s.heap.IsKeyIter it d i es.size ep)(h:kh s.heap d es ep)(j:i<es.size)
 (k:∀h':Heap,h'.IsKeyIter it d (i+1) es.size ep->LI it s.heap h'->Q (MA es[i].key) { s with heap:=h' }):J3 (Jh prog w) A (pyNext (.ref it)) Q E s:=by
 obtain⟨o,c,l,hd⟩:=id b
 obtain⟨od,e,m,f⟩:=h
 have a:=b.typeIs
 unfold pyNext
 refine cc (wpAny_attempt (wpAny_callSpecial?_slot (name:=L6 "__next__") a KH (wpAny_call_entry KH a F.entry_dict_keyiterator_next ?_ (F.args_dict_keyiterator_next_1 _))))
 refine cc (IV (cc (cc ?_)))
 first|refine cc (Lc a (IV ?_))|refine cc (wpAny_typeNameOf_keyiter a (IV ?_))
 refine cc (wpAny_fieldsOf c hd ?_)
 simp only[show Builtin.Dict_items.ownsTuple "dict_keyiterator"=MD by decide,KJ,if_false]
 show J3 _ _ (if(Km d==LU)=MC then _ else _) _ _ s
 rw[ME (show ¬((Km d==LU)=MC)from Jf)]
 refine cc (IV (cc (wpAny_dictEntries e f ?_)))
 rw[ME (by simp)]
 refine cc (IV (cc (wpAny_dictEpoch e f ?_)))
 rw[ME (by simp)]
 refine IV ?_
 simp only[show ¬((i:Int)<0)from by omega,if_false,Kx,Array.getElem?_eq_getElem j]
 refine cc ?_
 first|refine cc (Lc a (IV ?_))|refine cc (wpAny_typeNameOf_keyiter a (IV ?_))
 refine cc (wpAny_isOneOf_keyiter a ?_)
 show J3 _ _ (setField (.ref it) 1 (rawInt ((i:Int)+1)) >>= _) _ _ s
 refine cc (wpAny_setField c hd (by simp) ?_)
 have g:(s.heap.update it (Obj.mapFields (·.setIfInBounds 1 (rawInt ((i:Int)+1))))).IsKeyIter it d (i+1) es.size ep:=
  ⟨_,Ky _ c (Obj.isFreed_of_fields (Obj.data_mapFields hd _)),(Obj.cls_mapFields ..).trans l,by rw[Obj.data_mapFields hd];simp[rawInt]⟩
 refine cc (Kb (cc (wpAny_isOneOf_keyiter (s:={ s with heap:=s.heap.update it (Obj.mapFields (·.setIfInBounds 1 (rawInt ((i:Int)+1)))) }) g.typeIs ?_)))
 show J3 _ _ (pure es[i].key) _ _ _
 exact IV (IV ⟨_,rfl,IV (k _ g (Heap.SameBut.update ..))⟩)
theorem Aj{Q:Option IQ->IT->Prop}(j:A.handled=MB)(e:s.heap.IsKeyIter it d es.size es.size ep)(k:kh s.heap d es ep)
 (l:∀h',Heap.ExtBut it s.heap h'->Q MB { s with heap:=h' }):J3 (Jh prog w) A (pyNext (.ref it)) Q E s:=by
 obtain⟨o,f,n,hd⟩:=id e
 obtain⟨od,g,p,h⟩:=k
 have c:=e.typeIs
 unfold pyNext
 refine cc (wpAny_attempt (wpAny_callSpecial?_slot (name:=L6 "__next__") c KH (wpAny_call_entry KH c F.entry_dict_keyiterator_next ?_ (F.args_dict_keyiterator_next_1 _))))
 refine cc (IV (cc (cc ?_)))
 first|refine cc (Lc c (IV ?_))|refine cc (wpAny_typeNameOf_keyiter c (IV ?_))
 refine cc (wpAny_fieldsOf f hd ?_)
 simp only[show Builtin.Dict_items.ownsTuple "dict_keyiterator"=MD by decide,KJ,if_false]
 show J3 _ _ (if(Km d==LU)=MC then _ else _) _ _ s
 rw[ME (show ¬((Km d==LU)=MC)from Jf)]
 refine cc (IV (cc (wpAny_dictEntries g h ?_)))
 rw[ME (by simp)]
 refine cc (IV (cc (wpAny_dictEpoch g h ?_)))
 rw[ME (by simp)]
 refine IV ?_
 simp only[show ¬((es.size:Int)<0)from by omega,if_false,Kx,Array.getElem?_eq_none (IX es.size)]
 refine cc ?_
 first|refine cc (Lc c (IV ?_))|refine cc (wpAny_typeNameOf_keyiter c (IV ?_))
 show J3 _ _ (setField (.ref it) 0 .none >>= _) _ _ s
 refine cc (wpAny_setField f hd (by simp) ?_)
 show J3 _ _ (newExc (.type "StopIteration") [] >>= _) _ _ _
 refine cc ?_
 simp only[newExc,newTuple]
 refine cc (JG ?_ (by size_fits))
 refine cc (m:=firstArgMember _ _) (wpAny_of_eq (a:=LU) (by first|rfl|(simp only[firstArgMember];rfl)) ?_)
 refine JG ?_ (by size_fits)
 simp only[raiseNew]
 refine cc (wpAny_handled ?_)
 rw[show A.in1.handled=MB from j]
 refine cc (IV (wpAny_throw ?_))
 refine cc (wpAny_isInstance (T:="StopIteration") (b:=MC) ⟨_,J7 _ rfl,rfl⟩ isSubtype_stop ?_)
 exact IV (l _ (((Heap.SameBut.update ..).extBut.push _).push _))
theorem vM(m:A.handled=MB)(I d:Addr)(f:d≠I)(es:Array Kf)(ep:Nat):Walks prog w A I [I,d] [I] es.size (fun i v=>∃e,es[i]?=MA e/\v=e.key) (fun i h=>h.IsKeyIter I d i es.size ep/\kh h d es ep) where
 sub:=fun b a=>by simp at a;simp[a]
 frame:=fun _ _ _ st j=>⟨st.1.at fun o e=>j I (by simp) o e,st.2.kept fun o e=>j d (by simp) o e⟩
 item:=fun i s Q E k st c=>yQ st.1 st.2 k fun g n l=>c _ g s.toks ⟨es[i],by simp[k],rfl⟩ ⟨n,st.2.kept fun o e=>(l.2 d f).trans e⟩ fun b o a e=>l.extBut b o (fun h=>a (by simp[h])) e
 done:=fun s Q E st c=>Aj m st.1 st.2 fun g p=>c g s.toks fun b o a e=>p b o (fun h=>a (by simp[h])) e
 self:=fun _ _ _ _ st c=>wpAny_pyIter_keyiter st.1 c
theorem BJ(c:(d==KI)=MD):PySem.W.KdlSrc prog w "dict" d d es.size (fun i v=>∃e,es[i]?=MA e/\v=e.key) (fun h=>kh h d es ep) where
 type:=fun _ a=>a.ty
 there:=fun _ a=>⟨a.lt,a.lt⟩
 keep:=fun _ _ a f=>a.kept fun o e=>f d (.inl rfl) o e
 notList:=⋯
 notTuple:=⋯
 hint:=fun _ _ _ _ a b=>PySem.W.kdl_hint_dict a.ty b
 iter:=fun _ _ g a=>⟨_,_,(fun _ _ b=>yB c a b),vM g _ d (JE a.lt) es ep,⟨⟨_,J7 _ rfl,rfl,rfl⟩,a.kept fun o e=>J0 _ e⟩⟩
end
section
variable{X:Cx}
theorem zC{P:Jl}{w:JO}{xs:List N0}{a:List (ND×Addr×IQ)}(r:LZ Q8 xs a):(a.map (entryOfKey (fJ P w))).map (·.key)=xs.map fun x=>Km x.2.1:=by
 induction r with
 |nil=>rfl
 |cons h t b=>simp only[IY,b,h.2.1];rfl
theorem nW:∀xs:List N0,Vals (xs.map fun x=>V.ref x.2.1) (xs.map fun x=>Km x.2.1)
 |[]=>.nil
 |x::xs=>.cons rfl (nW xs)
theorem ql(j:X.calm=MC):cw X (.type "list") (fun vs H Q=>∃p xs,vs=[.ref p]/\H p=MA (.ext (cS X.prog X.w p xs))/\∀l,H l=MB->Q (.ref l) (upd H l (.lst (xs.map fun x=>V.ref x.2.1)))):=by
 intro MP s σ H vs us Q I r k;obtain⟨p,xs,m,n,q⟩:=k;subst m;obtain⟨u,rfl,t⟩:=vals1 r;cases t;obtain⟨⟨v,f,G,J,g,o,es,ep,y,z,A,h⟩,_⟩:=I.hok p _ n;have B:es.size=xs.length:=by rw[<-Array.length_toList,h,IU,oU g]
 refine PySem.W.kdl_call (BJ (es:=es) (ep:=ep) v) (I.ok.hd j) ⟨o,y,z,A⟩ (by rw[B];exact f) fun C D a c kp E it=>?_
 have F:a.toList=xs.map fun x=>Km x.2.1:=by
  rw[<-zC (P:=X.prog) (w:=X.w) g,<-h];apply List.ext_getElem?;intro i;by_cases d:i<es.size
  ·have b:i<a.size:=by rw[it.1];exact d
   obtain⟨e,e1,e2⟩:=it.2 i a[i] (by simp[b]);simp[b,d]at e1 ⊢;rw[e2,<-e1]
  ·have b:¬i<a.size:=by rw[it.1];exact d
   simp[d,b]
 refine⟨.ref s.heap.objs.size,_,I.laid (t':=D) kp (IX _) (show cQ X.prog X.w _ C _ (.lst _)from⟨by rw[IU];exact f,_,c,nW xs,?_⟩),rfl,q _ (I.hok.fresh (IX _))⟩;rw[<-F,Array.toArray_toList];exact E
def CV:RC:=fun a M Q=>zP a M Q\/∃l kvs,a=[.ref l]/\M l=MA (Nv kvs)/\∀p,M p=MB->Q (.ref p) (aA M p (.lst (kvs.map fun x=>PX x.1)))
theorem nA{K:I0}{H:Hp}:∀{kvs:N7} {xs:List N0},xs.map (·.1)=kvs.map (·.1)->(∀x∈xs,dW K H x.2.1 x.1)->aI K H (kvs.map fun x=>PX x.1) (xs.map fun x=>V.ref x.2.1)
 |[],[],_,_=>by rw[Ki,Ki];exact aI.nil
 |y::kvs,x::xs,h,k=>by
  rw[IY,IY]at h
  injection h with e1 e2
  rw[IY,IY]
  exact aI.cons (by rw[<-e1];exact yS (k x (by simp))) (nA e2 fun z a=>k z (by simp[a]))
 |[],_::_,h,_=>by cases h
 |_::_,[],h,_=>by cases h
theorem yj(f:X.calm=MC):dI X (.type "list") CV:=by
 intro MP s σ H vs us Q I d g;obtain⟨h,M,R,e,a,q,b⟩:=g;rcases q with q|⟨l,kvs,i,j,q⟩
 ·exact Bz MP s σ H vs us Q I d ⟨h,M,R,e,a,q,b⟩
 ·subst i;obtain⟨v,rfl,r⟩:=cA e;rw[Rep]at r;subst r;obtain⟨xs,k,m,n,o⟩:=a.dsp j;exact ql f MP s σ H _ us Q I d ⟨_,xs,rfl,k _ _,fun z c=>b (.ref z) _ _ _ (.new c) (by rw[Rep]) (a.nh c (nA m n)) (q z (a.fresh c))⟩
end
def OJ(t b X Y:Int)(u:Vc):D:=Mg (MV t b X 1 u.1) (MV t b Y 1 u.2)
def gk(t b X Y:Int)(u:Vc):ND:=((MV t b X 1 u.1).num,((MV t b X 1 u.1).den:Int),(MV t b Y 1 u.2).num,((MV t b Y 1 u.2).den:Int))
theorem wZ(t b X Y:Int)(u:Vc):OJ t b X Y u=PX (gk t b X Y u):=rfl
theorem yc{t b X Y:Int}(a:0<t)(c:0<b){p q:Vc}(h:gk t b X Y p=gk t b X Y q):p=q:=by unfold gk at h;injection h with d h;injection h with e h;injection h with f g;have e1:MV t b X 1 p.1=MV t b X 1 q.1:=Rat.ext d (by exact_mod_cast e);have e2:MV t b Y 1 p.2=MV t b Y 1 q.2:=Rat.ext f (by exact_mod_cast g);have i:=(Me a c ⋯ ⋯).mp e1;have j:=(Me a c ⋯ ⋯).mp e2;exact Prod.ext () ()
def N8(u:Vc):Prop:=(0<=u.1/\u.1<=20)/\(0<=u.2/\u.2<=20)
theorem Ea{ps:List Vc}{u:Vc}{j:Nat}(h:ps.Pairwise Nc)(m:j<=ps.length)(f:∀i,i<j->Nc (p0 ps i) u)(g:∀i,j<=i->i<ps.length->Nc u (p0 ps i)):(gA ps j u).Pairwise Nc/\(gA ps j u).Perm (u::ps):=by
 constructor
 ·unfold gA;rw[List.pairwise_append]
  have lt:∀x∈ps.take j,Nc x u:=fun x b=>by
   obtain⟨i,c,rfl⟩:=List.getElem_of_mem b
   have a:i<j/\i<ps.length:=by rw[L3]at c;omega
   have:=f i a.1
   unfold p0 at this
   simpa[a.2]using this
  have e:∀x∈ps.drop j,Nc u x:=fun x b=>by
   obtain⟨i,c,rfl⟩:=List.getElem_of_mem b
   have a:j+i<ps.length:=by rw[List.length_drop]at c;omega
   have:=g (j+i) () a
   unfold p0 at this
   simpa[a]using this
  refine⟨h.sublist (List.take_sublist _ _),List.pairwise_cons.mpr ⟨e,h.sublist (List.drop_sublist _ _)⟩,fun x b y d=>?_⟩;rcases Jo.mp d with rfl|d
  ·exact lt x b
  ·have k:=lt x b;have l:=e y d;unfold Nc at k l ⊢;omega
 ·unfold gA;have:(ps.take j++u::ps.drop j).Perm (u::(ps.take j++ps.drop j)):=List.perm_middle
  rwa [List.take_append_drop]at this
theorem zR{t b X Y:Int}(a:0<t)(c:0<b){u v:Vc}(d:N8 u)(e:N8 v):MX (MV t b X 1 u.1) (MV t b Y 1 u.2) (MV t b X 1 v.1) (MV t b Y 1 v.2)↔Nc u v:=k7 a c d.2 e.2
theorem N8.bx{t b X Y:Int}(S:Nh t b X Y){u:Vc}(h:N8 u):MW 200 (MV t b X 1 u.1):=S.bx ⋯ (by have:=h.1;omega)
theorem N8.by'{t b X Y:Int}(S:Nh t b X Y){u:Vc}(h:N8 u):MW 200 (MV t b Y 1 u.2):=S.by' ⋯ (by have:=h.2;omega)
theorem AY{u v:Vc}(a:N8 u)(b:N8 v)(ne:u≠v)(h:¬Nc u v):Nc v u:=by
 have c:=a.2;have d:=b.2;unfold Nc at h ⊢;by_cases e:100*u.1+u.2=100*v.1+v.2
 ·exact absurd (Prod.ext () ()) ne
 ·omega
section
variable{X:Cx}{MP:List (Addr×Obj)}{σ:L2.St}{H:Hp}{s:IT}{a b:Addr}{k:ND}
theorem zA{A:JV}{E:IQ->IT->Prop}{Q:Unit->IT->Prop}{xs:List N0}{v:V}{u:IQ}(G:A.units+8<K4)(I:L2.Inv X MP σ H s)(e:H a=MA (.ext (cS X.prog X.w a xs)))(i:∀x∈xs,dW X.K H x.2.1 x.1)(j:dW X.K H b k)(f:RelV v u)(J:xs.length<J8)
 (h:∀g,L2.Inv X MP σ (upd H a (.ext (cS X.prog X.w a (gY xs k b v)))) g->Q .unit g):J3 (Jh X.prog X.w) A (dictSet a (.ref b) u) Q E s:=by
 obtain⟨hd,l,L,r,m⟩:=rS I e i
 refine wpAny_dictSet_heap (knd:=fJ X.prog X.w) (hsz:=by rw[<-oU r];exact l) (():A.units+4<K4) (u9 I j) m fun M c n=>h _ ?_
 obtain⟨q,o,p,d,t,z,B,_,C⟩:=c
 refine kP I (by rw[e];exact LX) n ⟨q,d⟩ ⟨⟨hd,?_,?_,_,kA r k b f,q,o,p,d,t,z,B⟩,⟨q,d⟩,fun D F x y=>pf D F x y⟩
 ·have:=rj xs k b v;omega
 ·rw[<-kS (kA r k b f)];exact C
end
theorem sI{prog:Jl}{w:JO}{A:JV}{R:Result->IT->Prop}{s:IT}{g i a b:Expr}{d:List Expr}{scope:Lr}{pos:Pos}{it:IQ}{D:Addr}{env:Env}(J:Nat->IT->Prop)
 (step:∀n s,J n s->J3 (Jh prog w) A (pyNext it) (fun r j=>match r with
  |none=>R (.ok .next) j
  |some v=>J3 (Jh prog w) A (KU a it v) (fun _ l=>J3 (Jh prog w) A (LQ a env v) (fun _ o=>
   J3 (Jh prog w) A (forIn d MC fun c r=>if r=MC then do let ok <-isTrue c env (eval c env);pure (Li ok)else pure (Li r)) (fun ok k=>
    if ok=MC then J3 (Jh prog w) A (eval g env) (fun p q=>J3 (Jh prog w) A (eval i env) (fun t u=>J3 (Jh prog w) A (dictSet D p t) (fun _ y=>∃m,m<n/\J m y) NM u) NM q) NM k
    else ∃m,m<n/\J m k) NM o) NM l) NM j) NM s)
 (n:Nat) (h:J n s):Le (Jh prog w) A (.compLoop (.DictComp g i [⟨a,b,d,0⟩] scope pos) 0 it (.ref D) env) R s:=by
 have f:∀{E:IQ->IT->Prop} e B,NM e B->E e B:=fun _ _ z=>z.elim
 refine codeAny_loop rfl J (fun n s G=>?_) n h
 show J3 _ _ (Sem.onRaise (compTurn (.DictComp g i [⟨a,b,d,0⟩] scope pos) 0 it (.ref D) env) (fun x=>do noteFrame x env;theTreesLotGoes x)) _ _ s
 refine wpAny_noted ?_
 rw[compTurn_dict]
 refine cc (Kz (cc (Jc (step n s G) (fun r j C=>?_) f)))
 cases r with
 |none=>exact IV C
 |some v=>
  refine cc (Jc C (fun _ l H=>cc (Jc H (fun _ o I=>cc (Jc I (fun ok k F=>?_) f)) f)) f)
  cases ok with
  |false=>exact IV ⟨rfl,F⟩
  |true=>exact cc (cc (Jc F (fun p q K=>cc (Kb (Jc K (fun t u L=>cc (Kz (Kb (Jc L (fun _ y M=>IV ⟨rfl,M⟩) f)))) f))) f))
def yx(X:Cx)(js:List Nat)(own:Own)(tc:TT)(tk te:TE)(σ:L2.St)(J:It)(H1:Hp)(Q:VK):Prop:=∀D,H1 D=MB->∃W:Nat->Nat->Hp->Prop,(∃m,W 0 m (upd H1 D (.ext (cS X.prog X.w D []))))/\∀i m H,W i m H->
 (J.stop i H/\Q (.ref D) H)\/(J.go i H/\∀y d,J.yld i H y d->∃os,own y d os/\tc (cσ os js σ) d fun b e=>if b=MC then
  tk (cσ os js σ) e fun f g=>te (cσ os js σ) g fun v c=>∃b k xs,f=.ref b/\c D=MA (.ext (cS X.prog X.w D xs))/\(∀x∈xs,dW X.K c x.2.1 x.1)/\dW X.K c b k/\xs.length<J8/\∃a,a<m/\W (i+1) a (upd c D (.ext (cS X.prog X.w D (gY xs k b v))))else ∃a,a<m/\W (i+1) a e)
def uT(X:Cx)(js:List Nat)(own:Own)(a:TI)(tc:TT)(tk te:TE):TE:=fun σ H Q=>a σ H fun J H1=>yx X js own tc tk te σ J H1 Q
section
variable{X:Cx}{xs:List Str}{tg:Expr}{pos:Pos}{js:List Nat}{scope:Lr}{kx vx iter:Expr}{ifs:List Expr}{tk te:TE}{tc:TT}{g:TG}{own:Own}{wi:TI}{MP:List (Addr×Obj)}{σ:L2.St}{H:Hp}{s:IT}{fp:List Addr}{it:Addr}{tn:Nat->Heap->Prop}{J:It}
theorem vJ(c:Ml X xs js scope)(hc:X.calm=MC)(hG:Ny xs.length g own)(hg:∀C s H fp,PG (Mv X xs js scope C s H fp) tg g)(ht:∀C s H fp,Qx (Mv X xs js scope C s H fp) ifs tc)(hk:∀C s H fp,PE (Mv X xs js scope C s H fp) kx tk)(he:∀C s H fp,PE (Mv X xs js scope C s H fp) vx te)(hu:X.A.units+8<K4)
 {R:IQ->Addr->Result->IT->Prop} {E:IQ->IT->Prop} {Q:VK}
 (I:Inv X MP σ H s) (T:Turn X.prog X.w X.K tg J fp it tn) (st:tn 0 s.heap) (hf:∀b∈fp,c9 X MP H b) (wc:yx X js own tc tk te σ J H Q)
 (hR:∀D C h G,Inv X MP σ h G->c9 X MP h C->(∃m,G.heap.Ns C m)->Q (.ref D) h->R (.ref D) C (.ok .next) G) :
 J3 (Jh X.prog X.w) X.A newDict (fun d0 e0=>J3 (Jh X.prog X.w) X.A (newFunctionEnv scope X.env.globals (fE scope.names X.env) [] X.env.qual MB .none (MA X.env)) (fun N f0=>
  Le (Jh X.prog X.w) X.A (.compStart (.DictComp kx vx [⟨tg,iter,ifs,0⟩] scope pos) 0 (.ref it) d0 { N with scope:=relabel scope X.env }) (R d0 N.locals) f0) E e0) E s:=by
 have g0:∀b∈fp,b<s.heap.objs.size:=fun b a=>let⟨o,e,_⟩:=T.obj 0 _ st b a;J9 e
 have hD:H s.heap.objs.size=MB:=I.hok.fresh (IX _)
 refine JG (pG ?_)
 generalize hh:s.heap.push { cls:=.type "dict",data:=.dict #[] }=f
 generalize h0:pushCells (({ s with heap:=f }:IT).heap.push { cls:=.type "dict",data:=.dict #[] }) scope.names=j
 have k3:∀b o,s.heap.get? b=MA o->f.get? b=MA o:=fun b o e=>by rw[<-hh];exact J0 _ e
 have I3:Inv X MP σ (upd H s.heap.objs.size (.ext (cS X.prog X.w s.heap.objs.size []))) { s with heap:=f }:=by
  rw[<-hh];exact uD I
 have l:∀b∈fp,c9 X MP (upd H s.heap.objs.size (.ext (cS X.prog X.w s.heap.objs.size []))) b:=fun b a=>⟨by rw[bg (JE (g0 b a))];exact(hf b a).1,(hf b a).2⟩
 have s0:f.objs.size=s.heap.objs.size+1:=by rw[<-hh,Ko]
 have i0:∀b∈fp,b<f.objs.size:=fun b a=>by rw[s0];exact Nat.lt_succ_of_lt (g0 b a)
 have k4:∀b o,f.get? b=MA o->j.get? b=MA o:=fun b o e=>by rw[<-h0];exact pushCells_keeps _ _ b o (J0 _ e)
 have I4:=lG c I3 l i0 (h':=j) h0.symm k4
 obtain⟨W,⟨m0,w0⟩,k0⟩:=wc _ hD
 have PK:tn 0 j:=T.keep 0 _ _ st fun b a o e=>k4 b o (k3 b o e)
 generalize hX:Mv X xs js scope f.objs.size { s with heap:=f } (upd H s.heap.objs.size (.ext (cS X.prog X.w s.heap.objs.size []))) fp=X' at I4
 have S:∀{pins':List (Addr×Obj)} {h:Hp} {L:L2.St} {G:IT},Inv X' [] L h G->(∀b∈fp,h b=MB)->∀b∈fp,c9 X' [] h b:=fun{pins' h L G} J' hn b a=>by
  subst hX
  obtain⟨a1,a2⟩:=J'.ok.exf b a
  exact⟨hn b a,a1,J'.ok.exfs b a,.inl a,a2,fun p hp=>absurd (show p∈([]:List (Addr×Obj))from hp) (by simp)⟩
 have O:Le (Jh X.prog X.w) X.A (.compLoop (.DictComp kx vx [⟨tg,iter,ifs,0⟩] scope pos) 0 (.ref it) (.ref s.heap.objs.size) (ki scope f.objs.size X.env)) (R (.ref s.heap.objs.size) f.objs.size)
  { s with heap:=j }:=by
  refine sI (fun n G=>∃i os h,os.length=xs.length/\Inv X' [] (cσ os js σ) h G/\tn i G.heap/\(∀b∈fp,h b=MB)/\W i n h) ?_ m0 ⟨0,_,_,by simp,I4,PK,fun b a=>(l b a).1,w0⟩
  rintro n s5 ⟨i,os,H5,t0,I5,OU,l0,w5⟩
  rcases k0 i n H5 w5 with⟨stop,q⟩|⟨go,step⟩
  ·subst hX
   refine Jc (T.done (Mv X xs js scope f.objs.size { s with heap:=f } (upd H s.heap.objs.size (.ext (cS X.prog X.w s.heap.objs.size []))) fp) rfl rfl rfl hc i [] s5 _ H5 NM I5 (S (pins':=[]) I5 l0) OU stop) (fun r s6 U=>?_) fun _ _ z=>z
   obtain⟨hr,I6⟩:=U
   subst hr
   refine hR _ _ H5 s6 (I3.yW I6.os I6.base I6.hok I6.bare fun b a=>⟨(l b a).2.2.2.1,(l b a).2.1,(l b a).2.2.2.2.1,(l b a).2.2.2.2.2⟩) (I3.pY (IX _) I6.free) (let⟨m,hm,_⟩:=I6.loc;⟨m,hm⟩) q
  ·subst hX
   refine Jc (T.item (Mv X xs js scope f.objs.size { s with heap:=f } (upd H s.heap.objs.size (.ext (cS X.prog X.w s.heap.objs.size []))) fp) rfl rfl rfl hc i [] s5 _ H5 NM I5 (S (pins':=[]) I5 l0) OU go) (fun r s6 V=>?_) fun _ _ z=>z
   obtain⟨u,hr,h6⟩:=V
   subst hr
   refine Jc h6 (fun _ s7 Y=>?_) fun _ _ z=>z
   obtain⟨y,H7,I7,r7,y7,OX,u0⟩:=Y
   have v0:=I7.pinned (S (pins':=[]) I7 u0) (T.obj _ _ OX)
   obtain⟨M,n0,q8⟩:=step y H7 y7
   have l8:=hG.len _ _ _ n0
   refine Jc (hg _ _ _ _ _ s7 _ H7 y u (fun L h=>L=cσ M js σ/\h=H7) v0 r7 (hG.run y H7 os _ M _ t0 n0 ⟨rfl,rfl⟩)) (fun _ s8 Z=>?_) fun _ _ z=>z
   obtain⟨i1,H8,I8,e8,x0⟩:=Z
   subst e8 x0
   refine Jc (ht _ _ _ _ _ s8 _ _ _ I8 q8) (fun ok s9 a0=>?_) fun _ _ z=>z
   obtain⟨H9,I9,q9⟩:=a0
   have P:∀{m':Nat} {x:Hp} {t:IT},Inv (Mv X xs js scope f.objs.size { s with heap:=f } (upd H s.heap.objs.size (.ext (cS X.prog X.w s.heap.objs.size []))) fp) ([]++gv fp s7.heap) (cσ M js σ) x t->m'<n->W (i+1) m' x->
    ∃m,m<n/\∃i os h,os.length=xs.length/\Inv (Mv X xs js scope f.objs.size { s with heap:=f } (upd H s.heap.objs.size (.ext (cS X.prog X.w s.heap.objs.size []))) fp) [] (cσ os js σ) h t/\tn i t.heap/\(∀b∈fp,h b=MB)/\W i m h:=fun{m' x t} B F y0=>by
    refine⟨m',F,i+1,M,x,l8,B.eE,T.keep _ _ _ OX fun b a o e=>(B.pin (b,o) (Jb _ (Jb _ (bX a e)))).1,fun b a=>?_,y0⟩
    obtain⟨o',e,d⟩:=T.obj _ _ OX b a
    exact(B.pin (b,o') (Jb _ (Jb _ (bX a e)))).2.1
   cases ok with
   |false=>
    rw[ME Jf]at q9 ⊢
    obtain⟨m',F,w9⟩:=q9
    exact P I9 F w9
   |true=>
    rw[MF rfl]at q9 ⊢
    refine Jc (hk _ _ _ _ _ s9 _ _ _ I9 q9) (fun kv t b0=>?_) fun _ _ z=>z
    obtain⟨kk,x,B,z0,b1⟩:=b0
    refine Jc (he _ _ _ _ _ t _ _ _ B b1) (fun v j1 c0=>?_) fun _ _ z=>z
    obtain⟨vv,k1,c1,d1,b,k,ys,ek,o0,e1,f1,r0,m',F,g1⟩:=c0
    subst ek
    cases z0
    exact zA (X:=Mv X xs js scope f.objs.size { s with heap:=f } (upd H s.heap.objs.size (.ext (cS X.prog X.w s.heap.objs.size []))) fp) hu c1 o0 e1 f1 d1 r0 fun m1 h1=>P h1 F g1
 exact codeAny_compStart_dict O (T.self X.A 0 _ _ _ PK O)
theorem zU{i:Nat}{y:Str}{l j:Pos}(c:Ml X xs js scope)(F:X.calm=MC)(G:X.N.Nodup)(K:PI X tg iter wi)(L:Ny xs.length g own)(M:∀C s H fp,PG (Mv X xs js scope C s H fp) tg g)(O:∀C s H fp,Qx (Mv X xs js scope C s H fp) ifs tc)(P:∀C s H fp,PE (Mv X xs js scope C s H fp) kx tk)(S:∀C s H fp,PE (Mv X xs js scope C s H fp) vx te)(U:X.A.units+8<K4)(V:X.N[i]?=MA y)(E:X.env.scope.names.lookup y=MA .local)
 (p:LP (.DictComp kx vx [⟨tg,iter,ifs,0⟩] scope pos) (MA (.Name y l)) j.line X.env=pure MC) (W:∀x,JA iter X.env x=pure x:=by intro _;rfl) :
 PS X (.Assign [.Name y l] (.DictComp kx vx [⟨tg,iter,ifs,0⟩] scope pos) j) (AK (uT X js own wi tc tk te) (gr i)):=by
 intro MP s σ H B I h
 rw[exec_Assign_Name_used _ _ _ _ p]
 refine cc (Kz (cc ?_))
 show J3 _ X.A (do let _ <-comprehension (.DictComp kx vx [⟨tg,iter,ifs,0⟩] scope pos) scope X.env _ newDict MD (eval iter X.env) (MA (LQ (.Name y l) X.env))) _ _ s
 refine cc (Jc (wpAny_comprehension_free (use:=MA (LQ (.Name y l) X.env)) (Q:=fun _ n=>SP X MP B .next n) rfl W (c.A7 I.ok) c.kind c.names
  (Mp (K MP s σ H _ I h) fun v s1 Y=>Mp Y fun Z s2 z9=>?_)) (fun _ n hq=>IV (IV hq)) fun _ _ e=>e)
 obtain⟨it,fp,tn,J,H2,e,I2,T,st,f2,w⟩:=z9
 subst e
 refine vJ (R:=fun r C=>compPost (Jh X.prog X.w) X.A X.xe (MA (LQ (.Name y l) X.env)) (fun _ n=>SP X MP B .next n) r C) c F L M O P S U I2 T st f2 w fun D C H' n I' k d q=>?_
 obtain⟨m,hm⟩:=d
 show J3 _ X.A (LQ (.Name y l) X.env (.ref D)) _ _ _
 refine wpAny_assign_Name (jJ I' G V (.inl E) (v:=.ref D) rfl (fun s9 I9 f=>?_) (.inr E))
 obtain⟨a,sb,ha⟩:=f
 have t:C≠a:=by
  rcases ha with z|z
  ·rw[z];exact k.2.1
  ·exact fun e=>k.2.2.2.2.1 y a z e.symm
 refine⟨m,hm.sameBut sb t,fun h' u=>?_⟩
 exact⟨_,H',I9.turned (t':=s9.toks) (fun b o ne e=>u.extBut b o ne e) k.1 k.2.1 k.2.2.2.1 k.2.2.2.2.1 k.2.2.2.2.2,q⟩
end
def De(I:QY)(tk:PU)(js:List Nat)(tc:NP)(g te:TD)(δ:DS)(a:MH)(Q:DK):Prop:=I.n<=900000/\∀p,a p=MB->∃W:Nat->N7->MH->Prop,W 0 [] (aA a p (Nv []))/\(∀i kvs M,i<=I.n->W i kvs M->I.C M)/\
 (∀i kvs d M,i<I.n->I.item i=MA d->W i kvs M->∃os,zp tk d os/\tc (cδ os js δ) M fun b c=>if b=MC then g (cδ os js δ) c fun y h=>te (cδ os js δ) h fun e f=>∃k,y=PX k/\f p=MA (Nv kvs)/\kvs.length<=i/\W (i+1) (putD kvs k e) (aA f p (Nv (putD kvs k e)))else W (i+1) kvs c)/\∀kvs M,W I.n kvs M->Q (.ref p) M
def pH(a:Nw)(tk:PU)(js:List Nat)(tc:NP)(b te:TD):TD:=fun δ M Q=>a δ M fun I c=>De I tk js tc b te δ c Q
section
variable{X:Cx}
theorem rK{G:Nw}{tk:PU}{js:List Nat}{tc:NP}{L te:TD}{σ:L2.St}{H:Hp}{Q:VK}(h:lift X.K (pH G tk js tc L te) σ H Q):uT X js (qR X.K tk) (mD X.K G) (liftT X.K tc) (lift X.K L) (lift X.K te) σ H Q:=by
 obtain⟨δ,M,R,N,hM,q,x⟩:=h;refine⟨δ,M,_,N,hM,q,fun I M1 H1 J O P z A p B=>?_⟩;obtain⟨hn,z⟩:=z;obtain⟨W,w0,hC,l,done⟩:=z p (P.fresh B);refine⟨fun i m g=>m=I.n-i/\i<=I.n/\Mo X.K H1 g/\∃kvs M,Mw X.K g M/\W i kvs M,⟨I.n,by simp,K6 _,.new B,[],_,P.BQ _ _ B,w0⟩,?_⟩;rintro i m g ⟨rfl,C,f,kvs,j,r,o⟩;by_cases a:i<I.n
 ·refine .inr ⟨A.go i g j a f r (hC _ _ _ C o),fun v H3 hy=>?_⟩;obtain⟨D,a3,d,ed,rd⟩:=A.yld i g j v H3 a f r (hC _ _ _ C o) hy;obtain⟨os,ow,q3⟩:=l i kvs d j a ed o;obtain⟨us,uv,su⟩:=qy rd ow;have E:=kB (js:=js) (N.mono ((O.trans f).trans D)) su;refine⟨us,uv,cδ os js δ,j,_,E,a3,q3,fun b S H4 s T t=>?_⟩;cases b with
  |false=>
   rw[ME Jf]at t ⊢
   exact⟨I.n-(i+1),(),rfl,a,(f.trans D).trans s,kvs,S,T,t⟩
  |true=>
   rw[MF rfl]at t ⊢
   refine⟨cδ os js δ,S,_,E.mono s,T,t,fun y M5 u H5 U r5 a5 q5=>⟨cδ os js δ,M5,_,(E.mono s).mono U,a5,q5,fun e M6 u6 V Y r6 Z c=>?_⟩⟩
   obtain⟨k,ey,e6,b0,w6⟩:=c
   subst ey
   obtain⟨b,rfl,sp⟩:=uW (r5.mono Y)
   obtain⟨xs,F,h2,h3,h4⟩:=Z.dsp e6
   have a0:xs.length=kvs.length:=by have:=congrArg List.length h2;simpa using this
   have sz:1000000<=J8:=Mm rfl
   have g7:Mo X.K V (upd V p (.ext (cS X.prog X.w p (gY xs k b u6)))):=.ext (F X.prog X.w)
   exact⟨b,k,xs,rfl,F _ _,h3,sp,(),I.n-(i+1),(),rfl,a,((((f.trans D).trans s).trans U).trans Y).trans g7,putD kvs k e,_,Z.Cu _ _ F h2 h4 h3 sp r6,w6⟩
 ·obtain rfl:i=I.n:=()
  exact .inl ⟨A.stop g j f r (hC _ _ _ C o),x _ _ _ _ (O.trans f) (by rw[Rep]) r (done kvs j o)⟩
variable{xs:List Str}{tg:Expr}{pos:Pos}{js:List Nat}{scope:Lr}{kx vx iter:Expr}{ifs:List Expr}{tx te:TD}{tc:NP}{g:TG}{tk:PU}{wd:Nw}
theorem xF(i:Nat){y:Str}{j e:Pos}(l:X.N.Nodup)(I:X.A.units+66<K4)(c:Ml X xs js scope)(m:X.calm=MC)(n:DI X tg iter wd)(o:Ny xs.length g (qR X.K tk))(p:∀C s H fp,PG (Mv X xs js scope C s H fp) tg g)(r:∀C s H fp,DTs (Mv X xs js scope C s H fp) ifs tc)(t:∀C s H fp,DE (Mv X xs js scope C s H fp) kx tx)(u:∀C s H fp,DE (Mv X xs js scope C s H fp) vx te) (w:X.N[i]?=MA y:=by rfl) (z:X.env.scope.names.lookup y=MA .local:=by rfl) (h:LP (.DictComp kx vx [⟨tg,iter,ifs,0⟩] scope pos) (MA (.Name y j)) e.line X.env=pure MC:=by rfl) (f:∀x,JA iter X.env x=pure x:=by intro _;rfl) : DSt X (.Assign [.Name y j] (.DictComp kx vx [⟨tg,iter,ifs,0⟩] scope pos) e) (ez (pH wd tk js tc tx te) (aU i)):=dq (zU (tk:=lift X.K tx) (te:=lift X.K te) (tc:=liftT X.K tc) c m l n o p r t u () w z h f) fun E σ H b=>by obtain⟨δ,M,f,a,B,ok,q⟩:=b;exact(rK ⟨δ,M,_,f,a,q,fun d J v H1 k D F G=>ok.nx _ _ _ _ k ((f.mono k).set D i) F G⟩)
theorem wI(i:Nat){x v:Str}{b e a:Pos}(f:X.N.Nodup)(h:X.A.units+66<K4)(c:Ml X [x] js scope)(j:X.calm=MC)(k:DI X (.Name x b) iter wd)(l:∀C s H fp,DTs (Mv X [x] js scope C s H fp) ifs tc)(m:∀C s H fp,DE (Mv X [x] js scope C s H fp) kx tx)(n:∀C s H fp,DE (Mv X [x] js scope C s H fp) vx te) (o:X.N[i]?=MA v:=by rfl) (p:X.env.scope.names.lookup v=MA .local:=by rfl) (d:LP (.DictComp kx vx [⟨.Name x b,iter,ifs,0⟩] scope pos) (MA (.Name v e)) a.line X.env=pure MC:=by rfl) (q:∀x,JA iter X.env x=pure x:=by intro _;rfl) : DSt X (.Assign [.Name v e] (.DictComp kx vx [⟨.Name x b,iter,ifs,0⟩] scope pos) a) (ez (pH wd .one js tc tx te) (aU i)):=xF i f h c j k rT (fun _ _ _ _=>iD c 0 rfl) l m n o p d q
end
section
variable{X:Cx}
def Co:NY:=fun x y M Q=>match x,y with
 |.ref a,.int k=>∃d,M a=MA (.lst [d])/\0<=k/\k<=1000/\∀z,M z=MB->Q (.ref z) (aA M z (.lst (Jk k.toNat d)))
 |_,_=>False
theorem qe{K:I0}{H:Hp}{d:D}{v:V}(r:Rep K H d v):∀n,aI K H (Jk n d) (Jk n v)
 |0=>by rw[List.replicate_zero,List.replicate_zero];exact .nil
 |n+1=>by rw[Kv,Kv];exact .cons r (qe r n)
theorem pW{a:Type}(v:a):∀n,(Jk n [v]).flatten=Jk n v
 |0=>rfl
 |n+1=>by rw[Kv,KQ,pW v n];rfl
theorem uR:NZ X (KZ .Mult) Co:=iH Ed fun v u H Q f=>by
 obtain⟨x,y,M,R,g,h,a,q,b⟩:=f;unfold Co at q;split at q
 ·obtain⟨d,hd,k,l,q⟩:=q;obtain rfl:v=.ref _:=g;obtain rfl:u=.int _:=h;obtain⟨xs,i,j⟩:=a _ _ hd;obtain⟨w,rfl,c⟩:=cA j;have sz:1000000<=J8:=Mm rfl;refine⟨_,_,_,rfl,rfl,i,(),(),by simp;omega,fun z e=>?_⟩;rw[pW];exact b _ _ _ _ (.new e) (by rw[Rep]) (a.nh e (qe c _)) (q z (a.fresh e))
 ·exact q.elim
end
section
theorem my(a u:IQ):checkTypeCall "enumerate" ⟨[a],[("start",u)]⟩=pure .unit:=by kernel_rfl
theorem m5(a u:IQ):checkBuiltinCall "enumerate.__new__" ⟨[.type "enumerate",a],[("start",u)]⟩=pure .unit:=by kernel_rfl
theorem tF(a b u:IQ):argsOk "object.__init__" ⟨[a,b],[("start",u)]⟩:=by unfold argsOk;rw[PySem.signature?_of (id:="object.__init__") (n:=['_','_','t','i','n','i','_','_']) (o:=['t','c','e','j','b','o']) (by kernel_rfl) F.owner_object];kernel_rfl
def lX(l it:Addr):Obj×Obj:=({ cls:=.type "list_iterator",data:=.fields #[.ref l,.int 0 0] },{ cls:=.type "enumerate",data:=.fields #[.none,.bool MD,.ref it,rawInt 1,.none,.none] })
variable{prog:Jl}{w:JO}{A:JV}{E:IQ->IT->Prop}{s:IT}{l:Addr}{items:Array IQ}{n:Nat}{t:Tok}{Q:IQ->IT->Prop}
theorem we(a:s.heap.get? l=MA { cls:=.type "list",dict:=MB,data:=.seq items n,slots:=#[] })
 (h:Q (.ref (s.heap.push (lX l 0).1).objs.size) { s with heap:=(s.heap.push (lX l 0).1).push (lX l s.heap.objs.size).2 }) :
 J3 (Jh prog w) A (Mb.«enumerate.__new__» ⟨[.type "enumerate",.ref l],[("start",.int 1 t)]⟩) (fun fin b=>∃v,fin=.done (.ret v)/\Q v b) E s:=by
 obtain⟨e,g,d,f,os⟩:=s
 have e1:=sub_enumerate
 have e2:Heap.IsList (Shared.heap ⟨e,g,d,f,os⟩) l items:=⟨_,a,rfl,n,rfl⟩
 wp_walk using AutoSeq1.wpAny_loadPart' a
 refine wpAny_stack_any fun st=>IV ?_
 split
 case h_1 c _ _ _ _ _=>cases (c==Value.type "enumerate")<;>(wp_walk using AutoSeq1.wpAny_loadPart' a,LK e2;exact⟨_,rfl,h⟩)
 all_goals (wp_walk using AutoSeq1.wpAny_loadPart' a,LK e2;exact⟨_,rfl,h⟩)
theorem si:Meets (Mb.«enumerate.__new__» ⟨[.type "enumerate",.ref l],[("start",.int 1 t)]⟩) (fun _ R s=>s.heap.get? l=MA { cls:=.type "list",dict:=MB,data:=.seq items n,slots:=#[] }/\R (.ok (.ret (.ref (s.heap.push (lX l 0).1).objs.size))) { s with heap:=(s.heap.push (lX l 0).1).push (lX l s.heap.objs.size).2 }):=.of_wp fun prog w A R s z=>we (Q:=fun v a=>R (.ok (.ret v)) a) z.1 z.2
theorem qj{e:IQ}{u:IQ}:Meets (Mb.«object.__init__» ⟨[e,.ref l],[("start",u)]⟩) (fun _ R s=>s.TypeIs e "enumerate"/\R (.ok (.ret .none)) s):=
 .of_wp fun prog w A R s a=>by
  obtain⟨ty,r⟩:=a
  have e1:=F.called_enumerate.init.lookup
  have e2:=F.called_enumerate.made
  repeat (any_goals (first|assumption|wp_step))
  exact⟨_,rfl,r⟩
theorem rE(p:s.heap.get? l=MA { cls:=.type "list",dict:=MB,data:=.seq items n,slots:=#[] })
 (h:∀h',IsEnum h' (s.heap.objs.size+1) s.heap.objs.size 1 .none->h'.IsListIter s.heap.objs.size l 0->(∀b o,s.heap.get? b=MA o->h'.get? b=MA o)->Q (.ref (s.heap.objs.size+1)) { s with heap:=h' }) :
 J3 (Jh prog w) A (call (.type "enumerate") [.ref l] [("start",.int 1 t)]) Q E s:=by
 have C:=F.called_enumerate
 obtain⟨c,u,x⟩:=C.mro
 have y:=C.made
 have B:=C.sub
 have D:=C.notType
 have G:=C.canCreate
 have H:=my (.ref l) (.int 1 t)
 refine wpAny_call (codeAny_of_tree (IV ⟨Code.quiet_builtin _ (by decide +kernel),KW F.entry_type_call ?_⟩))
 rw[Around.under_plain rfl rfl]
 repeat (any_goals (first|assumption|wp_step))
 have j:(s.heap.push (lX l 0).1).objs.size=s.heap.objs.size+1:=Ko ..
 have k:IsEnum ((s.heap.push (lX l 0).1).push (lX l s.heap.objs.size).2) (s.heap.objs.size+1) s.heap.objs.size 1 .none:=by
  have:=J7 (s.heap.push (lX l 0).1) (o:=(lX l s.heap.objs.size).2) rfl
  rw[j]at this;exact this
 have q:=h _ k ⟨_,J0 _ (J7 _ rfl),rfl,rfl⟩ fun b o z=>J0 _ (J0 _ z)
 refine codeAny_mono (codeAny_call_builtin C.plain F.entry_enumerate_new (wpAny_of_eq (m5 _ _) (si prog w A.in1 (wants (fun v m=>v=.ref (s.heap.objs.size+1)/\m.TypeIs v "enumerate"/\Q v m) E) s ⟨p,by rw[j];exact⟨rfl,⟨_,k,rfl⟩,q⟩⟩))) fun r f i=>?_
 match r,i with
 |.error e,i=>exact i
 |.ok (.ret v),⟨ev,ty,qv⟩=>
  have I:=C.init.lookup
  have J:=C.init.bind v
  repeat (any_goals (first|assumption|wp_step))
  refine codeAny_mono (codeAny_call_builtin C.init.plain F.entry_object_init (C.init.check _ _ _ _ _ _ _ _ ty (tF _ _ _) (qj prog w A.in1 (wants (fun r d=>r=.none/\Q v d) E) f ⟨ty,rfl,qv⟩))) fun g d a=>?_
  match g,a with
  |.error e,a=>exact a
  |.ok (.ret r),⟨er,q2⟩=>
   subst er
   repeat (any_goals (first|assumption|wp_step))
end
section
variable{X:Cx}{elts:List Expr}{kt:Nat}{pt:Pos}
theorem lH{pos kp:Pos}{T:String}{e k:Expr}{name:Str}{env:Env}{M:Model}{A:JV}{E:IQ->IT->Prop}{s:IT}{Q:IQ->IT->Prop}
 (h:J3 M A (spliced (Ks pos (Jd [e] env))) (fun vs b=>J3 M A (eval k env) (fun u c=>J3 M A (call (.type T) vs [(name,u)]) Q E c) E b) E s)
 (i:Ks pos (Jd [e] env)=(MD,eval e env)::Ks pos (Jd [] env):=by rfl) (g:(Ks pos (Jd [e] env)).any (·.1)=MD:=by rfl) :
 J3 M A (callWith pos (.type T) [] (Ks pos (Jd [e] env)) (backToKw pos (Lp [⟨MA name,k,kp⟩] env))) Q E s:=by
 have j:J3 M A (evalArgs (.type T) MC (Ks pos (Jd [e] env)) (backToKw pos (Lp [⟨MA name,k,kp⟩] env))) (fun a b=>J3 M A (call (.type T) a.pos a.kw) Q E b) E s:=by
  rw[i]at h ⊢
  refine evalArgs_kwB rfl (Jc h (fun vs b d=>?_) fun _ _ z=>z)
  exact kws_cons (Jc d (fun u c f=>kws_nil f) fun _ _ z=>z)
 unfold callWith
 refine cc (Kb (Jc j (fun a b d=>cc (Kz ?_)) fun _ _ z=>z))
 have l:(backToKw pos (Lp [⟨MA name,k,kp⟩] env)).any (·.1.isNone)=MD:=rfl
 simp only[g,l,Bool.or_false]
 exact cc (IV (cc (Jc d (fun r c m=>cc (Kb (wpAny_point (IV m)))) fun _ _ z=>z)))
def Dr(K:I0)(b:TA):TI:=fun σ H R=>b σ H fun vs H1=>∃a xs,vs=[.ref a]/\H1 a=MA (.lst xs)/\R (VT K 1 a) H1
theorem yF{a k:Expr}{j:TA}{p pos kp:Pos}(y:Gl X "enumerate")(B:X.mg "enumerate"=MB)(C:PA X [a] j)(g:∀MP s σ H (Q:VK),Inv X MP σ H s->Q (.int 1) H->J3 (Jh X.prog X.w) X.A (eval k X.env) (EP X MP σ Q) X.xe s)
 (m:Jd [a] X.env=[(MD,eval a X.env)]:=by rfl):PI X (.Tuple elts kt pt) (.Call (.Name "enumerate" p) [a] [⟨MA "start",k,kp⟩] pos) (Dr X.K j):=by
 intro MP s σ H R I h
 refine wpAny_Call_Name_kw (iL I y B iT (lH (Mp (C pos MP s σ H _ I h) fun us D ⟨vs,H1,E,F,G⟩=>?_) (by rw[m];rfl) (by rw[m];rfl)))
 obtain⟨l,xs,J,L,q⟩:=G
 subst J
 obtain⟨u,rfl,M⟩:=F.one
 cases M
 refine Mp (g MP D σ H1 (fun v N=>v=.int 1/\N=H1) E ⟨rfl,rfl⟩) fun u c ⟨v,o,f,O,e1,e2⟩=>?_
 subst e1 e2
 obtain⟨t,rfl⟩:=O
 obtain⟨z,P,n,r,T,e⟩:=f.mR L
 refine rE e fun U x i g=>wpAny_pyIter_enum x ?_
 have fp:∀b∈[c.heap.objs.size+1,c.heap.objs.size],c9 X MP o b:=fun b S=>by
  have d:c.heap.objs.size<=b:=by
   rcases(show b=c.heap.objs.size+1\/b=c.heap.objs.size by simpa using S)with rfl|rfl
   ·exact Nat.le_succ _
   ·exact IX _
  exact f.pY d (f.hok.fresh d)
 exact⟨_,[c.heap.objs.size+1,c.heap.objs.size],_,_,o,rfl,f.kept (t':=c.toks) g,nG 1 l _ _ (Nat.succ_ne_self _),⟨⟨_,x⟩,i⟩,fp,q⟩
def E6(c:NL):Nw:=fun δ M R=>c δ M fun e b=>∃l a,e=[.ref l]/\b l=MA (.lst a)/\R ⟨a.length,fun i=>(a[i]?).map fun d=>.tup [.int ((i+1:Nat):Int),d],fun M=>M l=MA (.lst a)⟩ b
theorem yz{a:Expr}{d:NL}{p pos kp g:Pos}{h}(i:Gl X "enumerate")(j:X.mg "enumerate"=MB)(k:DA X [a] d)(b:Jd [a] X.env=[(MD,eval a X.env)]:=by rfl):DI X (.Tuple elts kt pt) (.Call (.Name "enumerate" p) [a] [⟨MA "start",.Constant (.int 1) h g,kp⟩] pos) (E6 d):=
 lU (yF i j k (fun MP s σ H Q I q=>yR MP s σ H Q I q) b) fun σ H R m=>by
  obtain⟨δ,M,z,b,n,q,c⟩:=m
  exact⟨δ,M,_,b,n,q,fun A o vs H1 t u f ⟨l,B,e,w,x⟩=>by
   subst e
   obtain⟨v,rfl,r⟩:=cA u
   rw[Rep]at r;subst r
   obtain⟨xs,y,C⟩:=f _ _ w
   exact⟨l,xs,rfl,y,c _ o H1 _ t f x (uZ 1)⟩⟩
end
section
variable{X:Cx}{MP:List (Addr×Obj)}{σ:L2.St}{H:Hp}{s:IT}
theorem jY{h':Heap}{t':Nat}{ch:List Addr}(I:Inv X MP σ H s)(k:∀b o,b∉ch->s.heap.get? b=MA o->h'.get? b=MA o)(f:∀b∈ch,c9 X MP H b):Inv X MP σ H { s with heap:=h',toks:=t' }:=by
 have ne:∀b u,H b=MA u->b∉ch:=fun b u q d=>by rw[(f b d).1]at q;cases q
 refine I.step (g':=s.gens) (d':=s.drawn) (ch:=ch) (fun b d=>?_) (fun b o _ _ a q _=>k b o a q) (fun b o _ _ a q _=>⟨o.slots,k b o a q⟩) (fun _ _ _ _ n=>n) (fun b o a q=>⟨o,k b o a q⟩) (fun _ _ q=>q) (fun _ _ _ q=>q) (fun b ps q=>⟨#[],by rw[q];simp⟩) (fun m e=>?_) (fun b u q=>?_) I.bare
 ·obtain⟨l,e1,_,e3,e4,g⟩:=f b d;exact⟨e3,e1,e4,g⟩
 ·obtain⟨o,h,i,j,r⟩:=e;exact⟨o,h,i,k _ o (fun d=>(f _ d).2.1 rfl) j,r⟩
 ·refine(I.hok b u q).iJ (fun c v a z=>?_) (fun _ z=>z) fun _ _ z=>z;rcases a with y|y
  ·subst y;exact k _ v (ne _ u q) z
  ·exact k c v (ne c _ y) z
end
def X4(K:I0)(a b:Addr):It:=
 ⟨fun i H=>∃xs c x y,Mx K H a xs/\Mx K H b c/\xs[i]?=MA x/\c[i]?=MA y,fun i H x d=>∃T y z,x=.ref T/\H T=MB/\d=upd H T (.tup [y,z])/\(∀xs,Mx K H a xs->xs[i]?=MA y)/\∀c,Mx K H b c->c[i]?=MA z,fun i H=>∃xs c,Mx K H a xs/\Mx K H b c/\(xs.length<=i\/c.length<=i)⟩
theorem zu{P:Jl}{w:JO}{K:I0}{N:List Expr}{kt}{pt:Pos}(a b z TI TO j l:Addr)(D:ZipApart z TI TO j l a b):Turn P w K (.Tuple N kt pt) (X4 K a b) [z,TI,TO,j,l] z (fun i h=>IsZip h z TI TO .none/\IsPair h TI (.ref j) (.ref l)/\(∃p q,IsPair h TO p q)/\h.IsListIter j a i/\h.IsListIter l b i) where
 mem:=by simp
 obj:=fun i h st c f=>by
  obtain⟨u,m,⟨p,q,A⟩,B,C⟩:=st
  rcases(show c=z\/c=TI\/c=TO\/c=j\/c=l by simpa using f)with rfl|rfl|rfl|rfl|rfl
  ·exact⟨_,u,fun v y=>by cases (show Data.fields _=Data.cell v from y)⟩
  ·exact⟨_,m,fun v y=>by cases (show Data.seq _ _=Data.cell v from y)⟩
  ·exact⟨_,A,fun v y=>by cases (show Data.seq _ _=Data.cell v from y)⟩
  ·obtain⟨o,F,_,d⟩:=B
   exact⟨o,F,fun v y=>by rw[d]at y;cases y⟩
  ·obtain⟨o,F,_,d⟩:=C
   exact⟨o,F,fun v y=>by rw[d]at y;cases y⟩
 keep:=fun i h O st k=>by
  obtain⟨u,m,⟨p,q,A⟩,B,C⟩:=st
  exact⟨k z (by simp) _ u,k TI (by simp) _ m,⟨p,q,k TO (by simp) _ A⟩,B.at fun o y=>k j (by simp) o y,C.at fun o y=>k l (by simp) o y⟩
 item:=by
  intro X W Y Z f i MP s σ H E I hf st hg
  subst W Y Z
  obtain⟨xs,ys,x,y,r,t,hx,hy⟩:=hg
  obtain⟨u,m,⟨p,q,A⟩,B,C⟩:=st
  obtain⟨Q,G,p1,a0⟩:=I.list r
  obtain⟨R,J,p2,b0⟩:=I.list t
  obtain⟨S,c0,d0⟩:=G.get hx
  obtain⟨T,e0,f0⟩:=J.get hy
  refine wpAny_pyNext_zip_item D u m A B C p1.isList p2.isList (x:=S) (y:=T) (by simpa using c0) (by simpa using e0) fun O a1 a2 a3 a4 a5 a6 a7=>⟨_,rfl,wpAny_letOwnedTupleGo_zip (s:={ s with heap:=O }) a1 fun L b1 U=>?_⟩
  have U:LI z O L:=U
  have fr:=I.fresh
  have lt:∀c∈[z,TI,TO,j,l],c<s.heap.objs.size:=fun c f=>by
   rcases(show c=z\/c=TI\/c=TO\/c=j\/c=l by simpa using f)with rfl|rfl|rfl|rfl|rfl
   ·exact J9 u
   ·exact J9 m
   ·exact J9 A
   ·obtain⟨o,F,_⟩:=B;exact J9 F
   ·obtain⟨o,F,_⟩:=C;exact J9 F
  have I1:Inv X MP σ (upd H s.heap.objs.size (.tup [x,y])) { s with heap:=s.heap.push { cls:=.type "tuple",data:=.seq #[S,T] },toks:=s.toks }:=
   I.laid (fun b v q=>J0 _ q) (IX _) ⟨Mm rfl,[S,T],.cons d0 (.cons f0 .nil),⟨_,J7 _ rfl,rfl,_,rfl⟩,⟨_,J7 _ rfl,rfl⟩⟩
  have fk:∀c∈[z,TI,TO,j,l],c9 X MP (upd H s.heap.objs.size (.tup [x,y])) c:=fun c f=>⟨by rw[bg (JE (lt c f))];exact(hf c f).1,(hf c f).2⟩
  have I2:Inv X MP σ (upd H s.heap.objs.size (.tup [x,y])) { s with heap:=L,toks:=s.toks }:=by
   refine jY (ch:=[z,TO,j,l]) (s:={ s with heap:=s.heap.push { cls:=.type "tuple",data:=.seq #[S,T] },toks:=s.toks }) I1 (fun c o g q=>?_) fun c f=>fk c (by simp at f ⊢;rcases f with rfl|rfl|rfl|rfl<;>simp)
   have q:(s.heap.push { cls:=.type "tuple",data:=.seq #[S,T] }).get? c=MA o:=q
   simp at g
   refine(U.2 c g.1).trans ?_
   rcases Heap.get?_push_cases q with⟨rfl,rfl⟩|q
   ·exact a5
   ·exact a7 c o g.1 g.2.1 g.2.2.1 g.2.2.2 q
  have V:∀c o,c≠z->O.get? c=MA o->L.get? c=MA o:=fun c o n e=>(U.2 c n).trans e
  refine⟨.ref s.heap.objs.size,_,I2,rfl,⟨_,x,y,rfl,fr,rfl,fun zs M=>by rw[I.ji M r];exact hx,fun zs M=>by rw[I.ji M t];exact hy⟩,⟨b1,V _ _ D.TIz (a7 _ _ D.TIz D.TITO D.TIi1 D.TIi2 m),⟨_,_,V _ _ D.TOz a2⟩,a3.at fun o e=>V _ o D.i1z e,a4.at fun o e=>V _ o D.i2z e⟩,fun c f=>(fk c f).1⟩
 done:=by
  intro X W Y Z f i MP s σ H E I hf st hg
  subst W Y Z
  obtain⟨xs,ys,r,t,he⟩:=hg
  obtain⟨u,m,⟨p,q,A⟩,B,C⟩:=st
  obtain⟨Q,G,p1,a0⟩:=I.list r
  obtain⟨R,J,p2,b0⟩:=I.list t
  have l1:=G.length
  have l2:=J.length
  refine wpAny_pyNext_zip_end (I.ok.hd f) D u m A B C p1.isList p2.isList (he.imp (fun e=>by simp;omega) fun e=>by simp;omega) fun O k=>⟨rfl,?_⟩
  exact jY (t':=s.toks) (ch:=[z,TO,j,l]) I (fun c o g q=>by simp at g;exact k c o g.1 g.2.1 g.2.2.1 g.2.2.2 q) fun c f=>hf c (by simp at f ⊢;rcases f with rfl|rfl|rfl|rfl<;>simp)
 self:=fun _ _ _ _ _ st h=>wpAny_pyIter_zip st.1 h
theorem Dd{n l1 l2:Nat}(a:l1<n)(b:l2<n):ZipApart (n+4) (n+2) (n+3) n (n+1) l1 l2:=by constructor<;>exact fun e=>absurd (id e:@Eq Nat _ _) ()
theorem Dp:JX "zip"=MA (.type "zip"):=by decide +kernel
section
variable{X:Cx}{elts:List Expr}{kt:Nat}{pt:Pos}
def Fh(K:I0)(c:TA):TI:=fun σ H R=>c σ H fun vs H1=>∃a b xs d,vs=[.ref a,.ref b]/\H1 a=MA (.lst xs)/\H1 b=MA (.lst d)/\R (X4 K a b) H1
theorem DZ{a b:Expr}{x:TA}{p pos:Pos}(A:Gl X "zip")(B:X.mg "zip"=MB)(C:PA X [a,b] x)(E:Jd [a,b] X.env=(MD,eval a X.env)::Jd [b] X.env:=by rfl)(j:(Ks pos (Jd [b] X.env)).any (·.1)=MD:=by rfl):PI X (.Tuple elts kt pt) (.Call (.Name "zip" p) [a,b] [] pos) (Fh X.K x):=by
 intro MP s σ H R I h;refine Call_ (iL I A B Dp (Lo (Mp (C pos MP s σ H _ I h) fun us c d=>?_) E j));obtain⟨vs,H1,e,F,G⟩:=d;obtain⟨l1,l2,xs,V,J,k,l,q⟩:=G;subst J;obtain⟨W,Y,rfl,m,n⟩:=vals2 F;cases m;cases n;obtain⟨Z,f,L,M,N,e1⟩:=e.mR k;obtain⟨z2,g,O,P,Q,e2⟩:=e.mR l;have S:c.heap.IsList l1 f.toArray:=⟨_,e1,rfl,L,rfl⟩;have L2:c.heap.IsList l2 g.toArray:=⟨_,e2,rfl,O,rfl⟩;have o:=J9 e1;have r:=J9 e2;refine call_zip_2 S L2 fun h' y t u v w T U=>wpAny_pyIter_zip y ?_
 have fp:∀b∈[c.heap.objs.size+4,c.heap.objs.size+2,c.heap.objs.size+3,c.heap.objs.size,c.heap.objs.size+1],c9 X MP H1 b:=fun b z=>by
  have i:c.heap.objs.size<=b:=by simp at z;rcases z with rfl|rfl|rfl|rfl|rfl<;>first|exact Nat.le_add_right _ _|exact IX _
  exact e.pY i (e.hok.fresh i)
 have D:ZipApart (c.heap.objs.size+4) (c.heap.objs.size+2) (c.heap.objs.size+3) c.heap.objs.size (c.heap.objs.size+1) l1 l2:=by exact Dd o r
 exact⟨_,_,_,_,H1,rfl,e.kept (t':=c.toks) U,zu l1 l2 _ _ _ _ _ D,⟨y,t,⟨_,_,u⟩,v,w⟩,fp,q⟩
def Gg(g:NL):Nw:=fun δ M R=>g δ M fun h f=>∃a b c fs,h=[.ref a,.ref b]/\f a=MA (.lst c)/\f b=MA (.lst fs)/\R ⟨min c.length fs.length,fun i=>(c[i]?).bind fun d=>(fs[i]?).map fun e=>.tup [d,e],fun M=>M a=MA (.lst c)/\M b=MA (.lst fs)⟩ f
theorem xU{K:I0}{D:NL}:∀(σ:L2.St) (H:Hp) R,mD K (Gg D) σ H R->Fh K (yl K D) σ H R:=
 fun σ H R L=>by
  obtain⟨δ,M,RD,N,O,q,s⟩:=L
  exact⟨δ,M,_,N,O,q,fun ds P vs H1 Q S t U=>by
   obtain⟨l1,l2,c,fs,e,u,w,V⟩:=U
   subst e
   obtain⟨v1,v2,rfl,r,E⟩:=eZ S
   rw[Rep]at r E;subst r E
   obtain⟨xs,W,rs⟩:=t _ _ u
   obtain⟨Y,A,rt⟩:=t _ _ w
   refine⟨l1,l2,xs,Y,rfl,W,A,s _ P H1 _ Q t V ⟨fun F k G j l=>?_,fun i F k m G j l=>?_,?_⟩⟩
   ·obtain⟨n,o⟩:=(show k l1=MA (.lst c)/\k l2=MA (.lst fs)from l)
    obtain⟨a,d,f⟩:=j _ _ n
    obtain⟨b,g,h⟩:=j _ _ o
    refine⟨a,b,Mx.of d,Mx.of g,?_⟩
    show a.length<=min c.length fs.length\/b.length<=min c.length fs.length
    rw[<-f.length,<-h.length];omega
   ·obtain⟨n,o⟩:=(show k l1=MA (.lst c)/\k l2=MA (.lst fs)from l)
    obtain⟨a,d,f⟩:=j _ _ n
    obtain⟨b,g,h⟩:=j _ _ o
    have m:i<min c.length fs.length:=m
    have Z:i<a.length:=by rw[<-f.length];omega
    have h2:i<b.length:=by rw[<-h.length];omega
    exact⟨a,b,a[i],b[i],Mx.of d,Mx.of g,by simp[Z],by simp[h2]⟩
   ·rintro i F k v H3 m G j l ⟨T,y,z,rfl,p,rfl,A,hz⟩
    obtain⟨n,o⟩:=(show k l1=MA (.lst c)/\k l2=MA (.lst fs)from l)
    have m:i<min c.length fs.length:=m
    have I:i<c.length:=()
    have hf:i<fs.length:=()
    obtain⟨a,d,f⟩:=j _ _ n
    obtain⟨b,g,h⟩:=j _ _ o
    obtain⟨x,e1,e2⟩:=f.get (show c[i]?=MA c[i] by simp[I])
    obtain⟨x',B,C⟩:=h.get (show fs[i]?=MA fs[i] by simp[hf])
    have t1:=A a (Mx.of d)
    have J:=hz b (Mx.of g)
    rw[e1]at t1;cases t1
    rw[B]at J;cases J
    exact⟨.new p,j.new p,.tup [c[i],fs[i]],by simp[I,hf],by rw[Rep];exact⟨T,_,rfl,Mz.of bC,.cons (e2.mono (.new p)) (.cons (C.mono (.new p)) .nil)⟩⟩⟩
theorem D2{a b:Expr}{d:NL}{p pos:Pos}(e:Gl X "zip")(f:X.mg "zip"=MB)(g:DA X [a,b] d)(h:Jd [a,b] X.env=(MD,eval a X.env)::Jd [b] X.env:=by rfl)(c:(Ks pos (Jd [b] X.env)).any (·.1)=MD:=by rfl):DI X (.Tuple elts kt pt) (.Call (.Name "zip" p) [a,b] [] pos) (Gg d):=lU (DZ e f g h c) xU
end
theorem kD{ws:List Wl}:∀{i:Nat} {a:List (List Nat)},OG ws i a->a.length<=i
 |0,a,h=>by rw[show a=[]from h];simp
 |i+1,a,⟨qs,h1,h2⟩=>by
  have:=kD h1
  rcases h2 with⟨_,rfl⟩|⟨_,r,_,rfl⟩
  ·omega
  ·simp;omega
structure XO(ws:List Wl)(r:List Nat):Prop where
 rng:XN ws r
 len:r.length<=2*ws.length
 lt:∀g∈r,g<2*ws.length
 pos:0<r.length
theorem i9{ws:List Wl}(b:∀w∈ws,Mn w)(hF:PF ws):∀{i:Nat} {a:List (List Nat)},i<=2*ws.length->OG ws i a->∀r∈a,XO ws r
 |0,a,_,h,r,hr=>by rw[show a=[]from h]at hr;cases hr
 |i+1,a,hi,⟨qs,h1,h2⟩,r,hr=>by
  rcases h2 with⟨_,rfl⟩|⟨_,k,⟨c,n,e,rfl⟩,rfl⟩
  ·exact i9 b hF () h1 r hr
  ·rcases Jj.mp hr with z|z
   ·exact i9 b hF () h1 r z
   ·have:r=rn ws i c:=by simpa using z
    subst this
    have f:=nD b hF (():i<2*ws.length) n
    refine⟨⟨i,c,(),f,rfl,e⟩,by rw[fo];omega,fun g d=>?_,by rw[fo];omega⟩
    unfold rn at d
    obtain⟨j,_,rfl⟩:=JH.mp d
    exact cy b hF () j
def aK(ws:List Wl)(r:List Nat):Bool:=decide (0<(r.map (NO ws)).sum)
theorem xj{ws:List Wl}(i:∀w∈ws,Mn w)(hF:PF ws){r:List Nat}(R:XN ws r){t b X Y a B:Int}(j:0<t)(f:0<b)(k:0<B)(e:(a:Rat)=(r.map (RF t b X Y ws)).sum*(B:Rat)):decide (0<a)=aK ws r:=by
 have l:∀{z:Int},0<z->(0:Rat)<(z:Rat):=fun{z} h=>by exact_mod_cast h
 have c:(0:Rat)<(t:Rat)/b:=by rw[Rat.div_def];exact Rat.mul_pos (MY j) (Rat.inv_pos.mpr (MY f))
 have m:(0:Rat)<((t:Rat)/b)*((t:Rat)/b)*(B:Rat):=Rat.mul_pos (Rat.mul_pos c c) (l k);rw[Gi i hF R f]at e;have e1:(a:Rat)=((t:Rat)/b)*((t:Rat)/b)*(B:Rat)*(((r.map (NO ws)).sum:Int):Rat):=by rw[e];grind
 have d:=sgn_mul m (r.map (NO ws)).sum;rw[<-e1]at d;have g:=sgn_mul (show(0:Rat)<1 by decide) a;rw[Rat.one_mul]at g;rw[g]at d;unfold aK;rw[MK,<-Int.sign_eq_one_iff_pos,d,Int.sign_eq_one_iff_pos]
theorem RL.get{M:MH}{ps:List Addr}{b:List (List Nat)}(h:RL M ps b){i:Nat}(c:i<ps.length):∃r,b[i]?=MA r/\M ps[i]=MA (.lst (r.map fun g:Nat=>D.int (g:Int))):=by
 unfold RL at h
 induction h generalizing i with
 |nil=>simp at c
 |@cons p r ps b a _ ih=>
  cases i with
  |zero=>exact⟨r,rfl,a⟩
  |succ i=>simpa using ih (by simpa using c)
theorem gE{a:Type}(f:a->Bool)(l:List a){i:Nat}{r:a}(e:l[i]?=MA r):(l.take (i+1)).filter f=(l.take i).filter f++(if f r=MC then[r]else[]):=by
 rw[K9,e,List.filter_append]
 congr 1
 simp[List.filter_cons]
def mn(a c:Vc):Vc:=if la a.1 a.2<la c.1 c.2 then a else c
theorem GK{t b X Y:Int}(a:0<t)(c:0<b){u v:Vc}(d:N8 u)(e:N8 v):(if MX (MV t b X 1 u.1) (MV t b Y 1 u.2) (MV t b X 1 v.1) (MV t b Y 1 v.2)then(MV t b X 1 u.1,MV t b Y 1 u.2)else(MV t b X 1 v.1,MV t b Y 1 v.2))=(MV t b X 1 (mn u v).1,MV t b Y 1 (mn u v).2):=by
 have h:=zR (X:=X) (Y:=Y) a c d e;unfold Nc at h;unfold mn;by_cases z:la u.1 u.2<la v.1 v.2
 ·rw[MF (h.mpr z),MF z]
 ·rw[ME (fun q=>z (h.mp q)),ME z]
theorem Ep{u v:Vc}(a:N8 u)(b:N8 v):N8 (mn u v):=by
 unfold mn;split
 ·exact a
 ·exact b
theorem pE{ws:List Wl}(e:∀w∈ws,Mn w){g:Nat}(i:g<2*ws.length):N8 (fa ws g):=by
 obtain⟨_,_,f⟩:=br (ws:=ws) (k:=((g/2:Nat):Int)) () ();have W:=e _ f;unfold fa fw;by_cases h:g%2=0
 ·rw[MF h];exact⟨W.a,W.b⟩
 ·rw[ME h];exact⟨W.c,W.d⟩
def Q9(ws:List Wl)(r:List Nat)(i:Nat):Vc:=(r.take i).foldl (fun a g=>mn a (fa ws g)) (fa ws (r.headD 0))
def fc(ws:List Wl)(r:List Nat):Vc:=Q9 ws r r.length
theorem qO{ws:List Wl}{r:List Nat}{i g:Nat}(e:r[i]?=MA g):Q9 ws r (i+1)=mn (Q9 ws r i) (fa ws g):=by unfold Q9;rw[K9,e,List.foldl_append];rfl
theorem oW{ws:List Wl}(a:∀w∈ws,Mn w){r:List Nat}(b:∀g∈r,g<2*ws.length)(c:0<r.length):∀i,i<=r.length->N8 (Q9 ws r i)
 |0,_=>by
  unfold Q9
  cases r with
  |nil=>simp at c
  |cons g r=>exact pE a (b g (by simp))
 |i+1,h=>by
  rw[qO (IS (():i<r.length))]
  exact Ep (oW a b c i ()) (pE a (b _ (JS _)))
def vB(ws:List Wl)(fs:List Int):Int:=(fs.filter fun k=>fs.all fun j=>!Mr (Mu ws j) (Mu ws k)).headD 0
theorem Bh{ws:List Wl}(g:∀w∈ws,Mn w)(hF:PF ws){p q b:Int}(d:b∈bK ws 1 p q)(h:∀w∈(bK ws 1 p q).map (Mu ws),w=Mu ws b\/(Mr (Mu ws b) w=MC/\Mr w (Mu ws b)=MD)):vB ws (bK ws 1 p q)=b:=by
 obtain⟨t,f,i,j⟩:=zx g hF (show(0:Int)<1 by decide) (fun k l=>jH l) (Kq d) (qL ws 1 p q);unfold vB;rw[j];show t=b
 have e:Mu ws t=Mu ws b:=by
  rcases h _ (JH.mpr ⟨t,f,rfl⟩)with z|z
  ·exact z
  ·rcases i _ (JH.mpr ⟨b,d,rfl⟩)with y|y
   ·exact y.symm
   ·rw[y.1]at z;exact absurd z.2 ⋯
 have a:=i8 (jH f);have c:=i8 (jH d);by_cases ne:t.toNat=b.toNat
 ·omega
 ·exact absurd ⟨by rw[e],by rw[e]⟩ (hF t.toNat b.toNat _ _ ne (br a.1 a.2.1).1 (br c.1 c.2.1).1).ne
def O0(ws:List Wl)(L:List Int)(u:Vc):Int:=if bK ws 1 u.1 u.2=[]then 0 else(L[2*(vB ws (bK ws 1 u.1 u.2)).toNat]?).getD 0
def iw(L:List Int)(r:List Nat)(v:Int)(i:Nat):List Int:=(r.take i).foldl (fun L g=>L.set g v) L
def fill(L:List Int)(r:List Nat)(v:Int):List Int:=iw L r v r.length
theorem lK{L:List Int}{r:List Nat}{v:Int}{i g:Nat}(e:r[i]?=MA g):iw L r v (i+1)=(iw L r v i).set g v:=by unfold iw;rw[K9,e,List.foldl_append];rfl
theorem iU(v:Int):∀(r:List Nat) (L:List Int),(r.foldl (fun L g=>L.set g v) L).length=L.length
 |[],L=>rfl
 |g::r,L=>by rw[Lh,iU v r,List.length_set]
theorem gV(L:List Int)(r:List Nat)(v:Int)(i:Nat):(iw L r v i).length=L.length:=iU v _ L
theorem ug{n j:Nat}(h:j<n):L2.ixN n (j:Int)=MA j:=by unfold L2.ixN;rw[MF (),MF ()];rfl
def fO(m:Nat)(outs:List (List Nat)):Nat->List Int
 |0=>Jk m 0
 |i+1=>fill (fO m outs i) ((outs[i]?).getD []) ((i+1:Nat):Int)
theorem iE(m:Nat)(outs:List (List Nat)):∀i,(fO m outs i).length=m
 |0=>by simp[fO]
 |i+1=>by rw[fO,fill,gV,iE m outs i]
def cC(ws:List Wl)(ins:List (List Nat)):Nat->List Vc
 |0=>[]
 |i+1=>let c:=fc ws ((ins[i]?).getD []);if c∈cC ws ins i then cC ws ins i else cC ws ins i++[c]
def lZ(ws:List Wl)(ins:List (List Nat))(c:Vc):Nat->Option Nat
 |0=>MB
 |i+1=>if fc ws ((ins[i]?).getD [])=c then MA i else lZ ws ins c i
theorem jZ(ws:List Wl)(ins:List (List Nat)):∀i,(cC ws ins i).Nodup
 |0=>List.nodup_nil
 |i+1=>by
  have c:=jZ ws ins i
  unfold cC
  dsimp only
  split
  ·exact c
  ·rename_i h
   rw[LL]
   refine⟨c,by simp,fun a d b e=>?_⟩
   have:b=fc ws ((ins[i]?).getD []):=by simpa using e
   subst this
   exact fun z=>h (z▸d)
theorem jo(ws:List Wl)(ins:List (List Nat)):∀i,(cC ws ins i).length<=i
 |0=>IX _
 |i+1=>by
  have a:=jo ws ins i
  unfold cC
  dsimp only
  split
  ·omega
  ·simp;omega
theorem gX{ws:List Wl}{ins:List (List Nat)}{c:Vc}:∀{i},c∈cC ws ins i->∃j,lZ ws ins c i=MA j/\j<i/\fc ws ((ins[j]?).getD [])=c
 |0,h=>by cases h
 |i+1,h=>by
  unfold lZ
  by_cases e:fc ws ((ins[i]?).getD [])=c
  ·exact⟨i,by rw[MF e],(),e⟩
  ·rw[ME e]
   have f:c∈cC ws ins i:=by
    unfold cC at h
    dsimp only at h
    split at h
    ·exact h
    ·rcases Jj.mp h with z|z
     ·exact z
     ·exact absurd (by simpa using z:c=_).symm e
   obtain⟨j,a,b,d⟩:=gX f
   exact⟨j,a,(),d⟩
def fS(ws:List Wl)(ins:List (List Nat))(L:List Int)(ps:List Vc):Nat->List Int
 |0=>L
 |i+1=>let c:=(ps[i]?).getD (0,0);fill (fS ws ins L ps i) ((ins[(lZ ws ins c ins.length).getD 0]?).getD []) (O0 ws (fS ws ins L ps i) c)
theorem jR(ws:List Wl)(ins:List (List Nat))(L:List Int)(ps:List Vc):∀i,(fS ws ins L ps i).length=L.length
 |0=>rfl
 |i+1=>by rw[fS,fill,gV,jR ws ins L ps i]
def dF(ws:List Wl)(L:List Int):Prop:=∃(a:List (List Nat)) (ps:List Vc),OG ws (2*ws.length) a/\ps.Perm (cC ws (a.filter fun r=>!aK ws r) (a.filter fun r=>!aK ws r).length)/\ps.Pairwise Nc/\
 L=fS ws (a.filter fun r=>!aK ws r) (fO (2*ws.length) (a.filter (aK ws)) (a.filter (aK ws)).length) ps ps.length
theorem dF.len{ws:List Wl}{L:List Int}(h:dF ws L):L.length=2*ws.length:=by obtain⟨a,ps,R,b,c,rfl⟩:=h;rw[jR,iE]
theorem je(k:ND)(d:D)(c:ND):∀kvs:N7,((kvs.map fun x=>if x.1=k then(x.1,d)else x).find? fun x=>decide (x.1=c)).map (·.2)=if c=k/\(kvs.any fun x=>decide (x.1=k))=MC then MA d else(kvs.find? fun x=>decide (x.1=c)).map (·.2)
 |[]=>by simp
 |x::kvs=>by
  have f:=je k d c kvs
  rw[IY,Jz,Jz,L8]
  by_cases a:x.1=k
  ·rw[MF a]
   by_cases b:x.1=c
   ·have e:c=k:=b.symm.trans a
    simp[a,e]
   ·have ne:¬c=k:=fun z=>b (a.trans z.symm)
    rw[ME (fun z=>ne z.1)]
    rw[ME (fun z=>ne z.1)]at f
    simp only[MG b]
    exact f
  ·rw[ME a]
   by_cases b:x.1=c
   ·have ne:¬c=k:=fun z=>a (b.trans z)
    rw[ME (fun z=>ne z.1)]
    simp[b]
   ·simp only[MG b,MG a,Bool.false_or]
    exact f
theorem xM(kvs:N7)(k:ND)(d:D)(a:ND):dX (putD kvs k d) a=if a=k then MA d else dX kvs a:=by
 unfold putD dX;by_cases h:(kvs.any fun x=>decide (x.1=k))=MC
 ·rw[MF h,je];by_cases e:a=k
  ·rw[MF ⟨e,h⟩,MF e]
  ·rw[ME (fun z=>e z.1),ME e]
 ·rw[ME h,List.find?_append];by_cases e:a=k
  ·subst e;have:(kvs.find? fun x=>decide (x.1=a))=MB:=by rw[List.find?_eq_none];intro x b c;exact h (List.any_eq_true.mpr ⟨x,b,c⟩)
   rw[this,MF rfl];simp
  ·rw[ME e];have:([(k,d)]:N7).find? (fun x=>decide (x.1=a))=MB:=by simp;exact fun z=>e z.symm
   rw[this];simp
theorem yg(kvs:N7)(k:ND)(d:D):(putD kvs k d).map (·.1)=if k∈kvs.map (·.1)then kvs.map (·.1)else kvs.map (·.1)++[k]:=by
 unfold putD;have e:((kvs.any fun x=>decide (x.1=k))=MC)↔k∈kvs.map (·.1):=by rw[List.any_eq_true,JH];exact⟨fun c=>by obtain⟨x,a,b⟩:=c;exact(⟨x,a,by simpa using b⟩),fun f=>by obtain⟨x,a,b⟩:=f;exact(⟨x,a,by simpa using b⟩)⟩
 by_cases h:k∈kvs.map (·.1)
 ·rw[MF (e.mpr h),MF h,Ku];apply Ln;intro x _;show(if x.1=k then(x.1,d)else x).1=x.1;split<;>rfl
 ·rw[ME (fun z=>h (e.mp z)),ME h,Jg];rfl
structure Qw(t b X Y:Int)(ws:List Wl)(ins:List (List Nat))(qs:List Addr)(i:Nat)(kvs:N7):Prop where
 ks:kvs.map (·.1)=(cC ws ins i).map (gk t b X Y)
 vs:∀c,dX kvs (gk t b X Y c)=(lZ ws ins c i).bind fun j=>(qs[j]?).map D.ref
theorem Qw.nil(t b X Y:Int)(ws:List Wl)(ins:List (List Nat))(qs:List Addr):Qw t b X Y ws ins qs 0 []:=⟨rfl,fun c=>rfl⟩
theorem Qw.put{t b X Y:Int}{ws:List Wl}{ins:List (List Nat)}{qs:List Addr}{i:Nat}{kvs:N7}{r:List Nat}{q:Addr}(d:0<t)(e:0<b)(h:Qw t b X Y ws ins qs i kvs)(f:ins[i]?=MA r)(eq:qs[i]?=MA q):Qw t b X Y ws ins qs (i+1) (putD kvs (gk t b X Y (fc ws r)) (.ref q)):=by
 have a:(ins[i]?).getD []=r:=by rw[f];rfl
 refine⟨?_,fun c=>?_⟩
 ·rw[yg,h.ks]
  have g:cC ws ins (i+1)=if fc ws r∈cC ws ins i then cC ws ins i else cC ws ins i++[fc ws r]:=by
   conv=>lhs;unfold cC
   rw[a]
  rw[g];by_cases z:fc ws r∈cC ws ins i
  ·rw[MF z,MF (JH.mpr ⟨_,z,rfl⟩)]
  ·rw[ME z,ME (fun y=>by
    obtain⟨c,j,k⟩:=JH.mp y
    exact z ((yc d e k)▸j)),Jg]
   rfl
 ·rw[xM]
  have l:lZ ws ins c (i+1)=if fc ws r=c then MA i else lZ ws ins c i:=by
   conv=>lhs;unfold lZ
   rw[a]
  rw[l];by_cases z:fc ws r=c
  ·rw[MF (by rw[z]),MF z];show _=(qs[i]?).map D.ref;rw[eq];rfl
  ·rw[ME (fun y=>z (yc d e y).symm),ME z];exact h.vs c
def sg:Nat->(Nat->Int)->Int
 |0,_=>0
 |n+1,g=>sg n g+g n
theorem aW{g h:Nat->Int}:∀{n:Nat},(∀k,k<n->g k=h k)->sg n g=sg n h
 |0,_=>rfl
 |n+1,e=>by rw[sg,sg,aW fun k a=>e k (),e n ()]
theorem du(g h:Nat->Int):∀n,sg n (fun k=>g k+h k)=sg n g+sg n h
 |0=>rfl
 |n+1=>by rw[sg,sg,sg,du g h n];omega
theorem dO(g h:Nat->Int):∀n,sg n (fun k=>g k-h k)=sg n g-sg n h
 |0=>rfl
 |n+1=>by rw[sg,sg,sg,dO g h n];omega
theorem vg:∀n,sg n (fun _=>0)=0
 |0=>rfl
 |n+1=>by rw[sg,vg n];rfl
theorem cL{g:Nat->Int}{n:Nat}(h:∀k,k<n->g k=0):sg n g=0:=by rw[aW h,vg]
theorem fY(d:Nat->Int)(j:Nat):∀n,sg n (fun k=>if k=j then d k else 0)=if j<n then d j else 0
 |0=>rfl
 |n+1=>by
  rw[sg,fY d j n]
  by_cases e:n=j
  ·subst e;rw[ME (Nat.lt_irrefl _),MF rfl,MF ()];omega
  ·rw[ME e]
   by_cases l:j<n
   ·rw[MF l,MF ()];omega
   ·rw[ME l,ME ()];rfl
def wn(ws:List Wl)(k:Nat):Wl:=Mu ws (k:Int)
section
variable{ws:List Wl}(hU:∀w∈ws,Mn w)(hF:PF ws)
include hU in
theorem aL{k:Nat}(h:k<ws.length):Mn (wn ws k):=hU _ (br (ws:=ws) (k:=(k:Int)) () ()).2.2
include hF in
theorem a9{i j:Nat}(c:i<ws.length)(d:j<ws.length)(ne:i≠j):My (wn ws i) (wn ws j):=by have a:=(br (ws:=ws) (k:=(i:Int)) () ()).1;have b:=(br (ws:=ws) (k:=(j:Int)) () ()).1;rw[Kx]at a b;exact hF i j _ _ ne a b
def sp(w:Wl)(t:Int):Bool:=decide (l1 w<=t)&&decide (t<l2 w)
theorem aX{w:Wl}{t:Int}:sp w t=MC↔l1 w<=t/\t<l2 w:=by unfold sp;simp
def OK(ws:List Wl)(d:Nat->Int)(q:Nat->Bool)(t:Int):Int:=sg ws.length fun k=>if(sp (wn ws k) t&&q k)=MC then d k else 0
def Flow(ws:List Wl)(d:Nat->Int):Prop:=∀t:Int,sg ws.length (fun k=>if l2 (wn ws k)=t then d k else 0)=sg ws.length (fun k=>if l1 (wn ws k)=t then d k else 0)
include hU in
theorem zH{d:Nat->Int}(i:Flow ws d){q:Nat->Bool}{t:Int}(c:Bool)(j:∀k,k<ws.length->l1 (wn ws k)=t\/l2 (wn ws k)=t->q k=c):OK ws d q t=OK ws d q (t-1):=by
 unfold OK
 have e:∀k,k<ws.length->(if(sp (wn ws k) t&&q k)=MC then d k else 0)=(if(sp (wn ws k) (t-1)&&q k)=MC then d k else 0)+(if c=MC then((if l1 (wn ws k)=t then d k else 0)-(if l2 (wn ws k)=t then d k else 0))else 0):=fun k g=>by
  have lt:=(aL hU g).lt
  have h:=j k g
  unfold sp
  generalize l1 (wn ws k)=a at *
  generalize l2 (wn ws k)=b at *
  by_cases x:a=t
  ·have f:=h (.inl x);rw[f,MI (():a<=t),MI (():t<b),MG (():¬a<=t-1),MF x,ME (():¬b=t)];cases c<;>simp
  ·by_cases y:b=t
   ·have f:=h (.inr y);rw[f,MG (():¬t<b),MI (():a<=t-1),MI (():t-1<b),ME x,MF y];cases c
    ·simp
    ·simp;omega
   ·rw[ME x,ME y];have e1:decide (a<=t)=decide (a<=t-1):=by rw[MK];omega
    have e2:decide (t<b)=decide (t-1<b):=by rw[MK];omega
    rw[e1,e2];simp
 rw[aW e,du];cases c with
 |false=>rw[show sg ws.length (fun k=>if MD=MC then((if l1 (wn ws k)=t then d k else 0)-(if l2 (wn ws k)=t then d k else 0))else 0)=0 from cL fun _ _=>rfl];omega
 |true=>
  have z:sg ws.length (fun k=>if MC=MC then((if l1 (wn ws k)=t then d k else 0)-(if l2 (wn ws k)=t then d k else 0))else 0)=0:=by rw[aW (h:=fun k=>(if l1 (wn ws k)=t then d k else 0)-(if l2 (wn ws k)=t then d k else 0)) fun k _=>MF rfl,dO,i t];omega
  rw[z];omega
include hU in
theorem jF{d:Nat->Int}(c:Flow ws d){q:Nat->Bool}:∀(n:Nat) (t:Int),(∀s,t<s->s<=t+n->∃a,∀k,k<ws.length->l1 (wn ws k)=s\/l2 (wn ws k)=s->q k=a)->OK ws d q (t+n)=OK ws d q t
 |0,t,_=>by rw[show t+((0:Nat):Int)=t by omega]
 |n+1,t,h=>by
  obtain⟨a,b⟩:=h (t+(n+1:Nat)) () ()
  rw[zH hU c a b,show t+((n+1:Nat):Int)-1=t+(n:Int) by omega]
  exact jF c n t fun s e f=>h s e ()
include hU in
theorem pJ{d:Nat->Int}(c:Flow ws d)(t:Int):OK ws d (fun _=>MC) t=0:=by
 have z:∀s:Int,s<0->OK ws d (fun _=>MC) s=0:=fun s f=>cL fun k e=>by
  have U:=aL hU e
  have:=U.a;have:=U.b
  rw[ME]
  intro q
  rw[L9,aX]at q
  unfold l1 la at q
  omega
 by_cases h:t<0
 ·exact z t h
 ·have:=jF hU c (q:=fun _=>MC) (t+1).toNat (-1) fun s _ _=>⟨MC,fun _ _ _=>rfl⟩;rw[show(-1:Int)+((t+1).toNat:Int)=t by omega,z (-1) ()]at this;exact this
end
theorem Ij{w:Wl}(h:Mn w){t:Int}(e:l1 w=t):w.1=t/100/\w.2.1=t%100:=by
 have:=h.a;have:=h.b
 unfold l1 la at e;omega
theorem HL{w:Wl}(h:Mn w){t:Int}(e:l2 w=t):w.2.2.1=t/100/\w.2.2.2=t%100:=by
 have:=h.c;have:=h.d
 unfold l2 la at e;omega
def Nj(w:Wl)(t:Int):Int:=sd w (t/100) (t%100)
theorem Fp{w v:Wl}(h:Mn v){t:Int}(e:l1 v=t):Nj w t=Mq w v:=by obtain⟨a,b⟩:=Ij h e;unfold Nj Mq;rw[a,b]
theorem HZ{w v:Wl}(h:Mn v){t:Int}(e:l2 v=t):Nj w t=Mt w v:=by obtain⟨a,b⟩:=HL h e;unfold Nj Mt;rw[a,b]
theorem xV{U V:Wl}(d:Mn U)(e:Mn V)(F:My U V)(c:l1 U<l2 V)(a:l2 V<l2 U):Mr U V=decide (Mt U V<0):=by
 have f:=d.lt;have g:=e.lt;have nz:=F.e2.nz c a;have b:max (l1 U) (l1 V)<min (l2 U) (l2 V):=cz.mpr ⟨f,c,(),g⟩;have pr:(¬(0<Mq V U/\Mt V U<0)/\¬(Mq V U<0/\0<Mt V U))\/(¬(0<Mq U V/\Mt U V<0)/\¬(Mq U V<0/\0<Mt U V)):=F.pr.elim (fun z=>.inr (VL z)) (fun z=>.inl (VL z));rcases J4 (l1 U) (l1 V)with h|h|h
 ·have i:=F.e1.nz h ();have q:=within (wj V U) (vy V U) h () () a pr.symm i nz;rw[nC b h,MK];omega
 ·rw[qT b h ()]
 ·have j:=F.e3.nz h ();have q:=oA (vy U V) (wj V U) h () a pr j nz;rw[pV b h,MK];exact q
theorem dt{U V:Wl}(c:Mn U)(a:Mn V)(F:My U V){t:Int}(g:l1 U<t)(h:t<l2 U)(e:l1 V=t\/l2 V=t):Mr U V=decide (Nj U t<0)/\Mr V U=decide (0<Nj U t):=by
 have d:=c.lt;have f:=a.lt
 have nz:Nj U t≠0/\Mr U V=decide (Nj U t<0)/\max (l1 U) (l1 V)<min (l2 U) (l2 V):=by
  rcases e with e|e
  ·have b:max (l1 U) (l1 V)<min (l2 U) (l2 V):=cz.mpr ⟨d,(),(),f⟩;rw[Fp a e];exact⟨F.e1.nz () (),nC b (),b⟩
  ·have b:max (l1 U) (l1 V)<min (l2 U) (l2 V):=cz.mpr ⟨d,(),(),f⟩;rw[HZ a e];exact⟨F.e2.nz () (),xV c a F () (),b⟩
 refine⟨nz.2.1,?_⟩;rw[gg c a F nz.2.2,nz.2.1,sS nz.1,Bool.not_not]
section
variable{ws:List Wl}(hU:∀w∈ws,Mn w)(hF:PF ws)
def Bw(ws:List Wl)(d:Nat->Int)(j:Nat):Int:=OK ws d (fun k=>Mr (wn ws j) (wn ws k)) (l1 (wn ws j))
include hU hF in
theorem gJ{d:Nat->Int}(c:Flow ws d){j:Nat}(a:j<ws.length){t:Int}(h:sp (wn ws j) t=MC):OK ws d (fun k=>Mr (wn ws j) (wn ws k)) t=Bw ws d j:=by
 rw[aX]at h;have:=jF hU c (q:=fun k=>Mr (wn ws j) (wn ws k)) (t-l1 (wn ws j)).toNat (l1 (wn ws j)) fun s f g=>⟨decide (Nj (wn ws j) s<0),fun k b e=>?_⟩
 ·rw[show l1 (wn ws j)+((t-l1 (wn ws j)).toNat:Int)=t by omega]at this;exact this
 ·have ne:j≠k:=fun z=>by subst z;omega
  exact(dt (aL hU a) (aL hU b) (a9 hF a b ne) f () e).1
end
theorem f9(ws:List Wl)(k:Nat):fw ws (2*k)=wn ws k:=by unfold fw wn;rw[MF (),show 2*k/2=k by omega]
theorem oG(ws:List Wl)(k:Nat):fw ws (2*k+1)=rev (wn ws k):=by unfold fw wn;rw[ME (),show(2*k+1)/2=k by omega]
def NF(a b:Vc):Bool:=decide ((vl a<0/\0<vl b)\/(((vl a<0/\vl b<0)\/(0<vl a/\0<vl b))/\vc a b<0))
theorem eW{a b:Vc}:NF a b=MC↔(vl a<0/\0<vl b)\/(((vl a<0/\vl b<0)\/(0<vl a/\0<vl b))/\vc a b<0):=by unfold NF;rw[ML]
theorem Hn(a b x:Vc):vl a*vc b x-vl b*vc a x+vl x*vc a b=0:=by unfold vl la vc NH;grind
def sc(z:Int):_root_.Fin 3:=if z<0 then 0 else if z=0 then 1 else 2
theorem QT{z:Int}:sc z=0↔z<0:=by
 unfold sc;split
 ·simp[*]
 ·split<;>simp[*]
theorem PL{z:Int}:sc z=1↔z=0:=by
 unfold sc;split
 ·simp;omega
 ·split<;>simp[*]
theorem QS{z:Int}:sc z=2↔0<z:=by
 unfold sc;split
 ·simp;omega
 ·split
  ·simp;omega
  ·simp;omega
def BE(a r:_root_.Fin 3):_root_.Fin 3:=if a=0 then 2-r else if a=1 then 1 else r
theorem xa(z:Int):sc (-z)=2-sc z:=by
 rcases J4 z 0 with h|h|h
 ·rw[QT.mpr h,QS.mpr ()];rfl
 ·rw[PL.mpr h,PL.mpr ()];rfl
 ·rw[QS.mpr h,QT.mpr ()];rfl
theorem rL(a r:Int):sc (a*r)=BE (sc a) (sc r):=by
 rcases J4 a 0 with h|h|h
 ·rw[QT.mpr h];rcases J4 r 0 with k|k|k
  ·rw[QT.mpr k,QS.mpr (JL h k)];rfl
  ·rw[PL.mpr k,PL.mpr (by rw[k,Int.mul_zero])];rfl
  ·rw[QS.mpr k,QT.mpr (Jp h k)];rfl
 ·rw[PL.mpr h,PL.mpr (by rw[h,Int.zero_mul])];rfl
 ·rw[QS.mpr h];rcases J4 r 0 with k|k|k
  ·rw[QT.mpr k,QT.mpr (Jv h k)];rfl
  ·rw[PL.mpr k,PL.mpr (by rw[k,Int.mul_zero])];rfl
  ·rw[QS.mpr k,QS.mpr (Jy h k)];rfl
def XX(a b c:_root_.Fin 3):Bool:=!(a != 0&&b != 0&&c != 0&&(a==2||b==2||c==2))&&!(a != 2&&b != 2&&c != 2&&(a==0||b==0||c==0))
theorem jw(z:Int):(z<0/\sc z=0)\/(z=0/\sc z=1)\/(0<z/\sc z=2):=by
 rcases J4 z 0 with h|h|h
 ·exact .inl ⟨h,QT.mpr h⟩
 ·exact .inr (.inl ⟨h,PL.mpr h⟩)
 ·exact .inr (.inr ⟨h,QS.mpr h⟩)
theorem DJ{u v w:Int}(h:u+v+w=0):XX (sc u) (sc v) (sc w)=MC:=by rcases jw u with x|x|x<;>rcases jw v with y|y|y<;>rcases jw w with z|z|z<;>rw[x.2,y.2,z.2]<;>first|rfl|(exfalso;omega)
def GG(a b p:_root_.Fin 3):Bool:=(a==0&&b==2)||(((a==0&&b==0)||(a==2&&b==2))&&p==0)
theorem oQ(a b:Vc):NF a b=GG (sc (vl a)) (sc (vl b)) (sc (vc a b)):=by rw[K5,eW];unfold GG;simp[QT,QS]
theorem Xc(a b:Vc):sc (vc b a)=2-sc (vc a b):=by rw[eM a b,xa]
theorem BK(a b x:Vc):XX (BE (sc (vl a)) (sc (vc b x))) (2-BE (sc (vl b)) (sc (vc a x))) (BE (sc (vl x)) (sc (vc a b)))=MC:=by rw[<-rL,<-rL,<-rL,<-xa];exact DJ (by have:=Hn a b x;omega)
theorem jL{a b c:Vc}(d:NF a b=MC)(e:NF b c=MC):NF a c=MC:=by
 rw[oQ]at *;have id:=BK a b c
 revert d e id
 generalize sc (vl a)=A;generalize sc (vl b)=B;generalize sc (vl c)=C;generalize sc (vc a b)=p;generalize sc (vc a c)=q;generalize sc (vc b c)=r
 revert A B C p q r
 decide +kernel
theorem bH{a b:Vc}(c:NF a b=MC)(d:NF b a=MC):False:=by rw[eW]at *;have:=eM a b;omega
theorem vH{a b:Vc}(c:vl a≠0)(d:vl b≠0)(h:O4 a b):NF a b=MC\/NF b a=MC:=by
 rw[eW,eW];have:=eM a b;by_cases z:vc a b=0
 ·have:=fG (h z);omega
 ·omega
def Hj(a b p:_root_.Fin 3):Bool:=p != 1||(a==0&&b==2)||(a==2&&b==0)
theorem sN{a b:Vc}(h:O4 a b):Hj (sc (vl a)) (sc (vl b)) (sc (vc a b))=MC:=by
 unfold Hj;by_cases z:vc a b=0
 ·rcases fG (h z)with q|q
  ·rw[QT.mpr q.1,QS.mpr q.2];simp
  ·rw[QS.mpr q.1,QT.mpr q.2];simp
 ·have:sc (vc a b)≠1:=fun e=>z (PL.mp e);simp[this]
def Ga(p q r:_root_.Fin 3):Bool:=decide (p<q)||(p==q&&r==0)
theorem C2{b x y:Vc}(h:OI b x y=MC):Ga (sc (vc b x)) (sc (vc b y)) (sc (vc x y))=MC:=by rw[gU]at h;unfold Ga;rcases gb (vc b x)with t|t|t<;>rcases gb (vc b y)with u|u|u<;>rw[t.2,u.2]at h<;>rcases jw (vc b x)with p|p|p<;>rcases jw (vc b y)with q|q|q<;>rcases jw (vc x y)with r|r|r<;>rw[p.2,q.2,r.2]<;>first|rfl|(exfalso;omega)
theorem AS{a b x:Vc}(c:vl a≠0)(d:vl b≠0)(f:vl x≠0)(g:O4 a b)(i:O4 a x)(j:O4 b x)(h:OI a b x=MC):(NF a b=MC/\NF b x=MC)\/(NF b x=MC/\NF x a=MC)\/(NF x a=MC/\NF a b=MC):=by
 have h:=C2 h;have id:=BK a b x;have g:=sN g;have i:=sN i;have j:=sN j;have c:sc (vl a)≠1:=fun e=>c (PL.mp e);have d:sc (vl b)≠1:=fun e=>d (PL.mp e);have f:sc (vl x)≠1:=fun e=>f (PL.mp e);rw[oQ,oQ,oQ,Xc a x]
 revert h id g i j c d f
 generalize sc (vl a)=A;generalize sc (vl b)=B;generalize sc (vl x)=X;generalize sc (vc a b)=p;generalize sc (vc a x)=q;generalize sc (vc b x)=r
 revert A B X p q r
 decide +kernel
def dw(w:Wl):Vc:=(w.2.2.1-w.1,w.2.2.2-w.2.1)
def ng(v:Vc):Vc:=(-v.1,-v.2)
theorem gR(ws:List Wl)(k:Nat):fd ws (2*k)=dw (wn ws k):=by unfold fd dw;rw[f9]
theorem tQ(ws:List Wl)(k:Nat):fd ws (2*k+1)=ng (dw (wn ws k)):=by unfold fd dw ng;rw[oG];unfold rev;exact Prod.ext (by dsimp only;omega) (by dsimp only;omega)
theorem mG(w:Wl):vl (dw w)=l2 w-l1 w:=by unfold vl dw l1 l2 la;dsimp only;omega
theorem ud(v:Vc):vl (ng v)=-vl v:=by unfold vl ng la;dsimp only;omega
theorem Fu(a b:Vc):vc (ng a) (ng b)=vc a b:=by unfold vc ng NH;dsimp only;rw[Int.neg_mul_neg,Int.neg_mul_neg]
theorem cf(ws:List Wl)(k:Nat):la (fa ws (2*k)).1 (fa ws (2*k)).2=l1 (wn ws k):=by unfold fa;rw[f9];rfl
theorem mm(ws:List Wl)(k:Nat):la (fa ws (2*k+1)).1 (fa ws (2*k+1)).2=l2 (wn ws k):=by unfold fa;rw[oG];rfl
theorem jy{U V:Wl}(a:Mn U)(c:Mn V)(F:My U V)(e:l1 U=l1 V):Mr U V=decide (vc (dw U) (dw V)<0)/\vc (dw U) (dw V)≠0:=by
 have i:=a.lt;have j:=c.lt;have d:max (l1 U) (l1 V)<min (l2 U) (l2 V):=cz.mpr ⟨i,(),(),j⟩;obtain⟨f,g⟩:=gB a.b c.b (show la U.1 U.2.1=la V.1 V.2.1 from e);have k:Mt U V=vc (dw U) (dw V):=by unfold Mt sd vc dw NH;rw[f,g]
 have l:Mt V U=-vc (dw U) (dw V):=by unfold Mt sd vc dw NH;rw[f,g];grind
 rcases J4 (l2 U) (l2 V)with h|h|h
 ·have nz:=F.e4.nz () h;rw[tU d e h,l];refine⟨by rw[MK];omega,()⟩
 ·exact absurd ⟨e,h⟩ F.ne
 ·have nz:=F.e2.nz () h;rw[qT d e (),k];exact⟨rfl,()⟩
theorem wY{U V:Wl}(a:Mn U)(b:Mn V)(F:My U V)(e:l2 U=l2 V):Mr U V=decide (0<vc (dw U) (dw V))/\vc (dw U) (dw V)≠0:=by
 have i:=a.lt;have j:=b.lt;have c:max (l1 U) (l1 V)<min (l2 U) (l2 V):=cz.mpr ⟨i,(),(),j⟩;obtain⟨f,g⟩:=gB a.d b.d (show la U.2.2.1 U.2.2.2=la V.2.2.1 V.2.2.2 from e);have k:Mq U V=-vc (dw U) (dw V):=by unfold Mq sd vc dw NH;rw[f,g];grind
 have l:Mq V U=vc (dw U) (dw V):=by unfold Mq sd vc dw NH;rw[f,g];grind
 rcases J4 (l1 U) (l1 V)with h|h|h
 ·have nz:=F.e1.nz h ();rw[nC c h,k];refine⟨by rw[MK];omega,()⟩
 ·exact absurd ⟨h,e⟩ F.ne
 ·have nz:=F.e3.nz h ();rw[pV c h,l];exact⟨rfl,()⟩
def Pf(ws:List Wl)(d:Nat->Int)(f:Nat):Int:=if f%2=0 then Bw ws d (f/2)+d (f/2)else Bw ws d (f/2)
theorem f7(ws:List Wl)(d:Nat->Int)(k:Nat):Pf ws d (2*k)=Bw ws d k+d k:=by unfold Pf;rw[MF (),show 2*k/2=k by omega]
theorem iA(ws:List Wl)(d:Nat->Int)(k:Nat):Pf ws d (2*k+1)=Bw ws d k:=by unfold Pf;rw[ME (),show(2*k+1)/2=k by omega]
def Zc(ws:List Wl)(d:Nat->Int)(t:Int):Int:=sg ws.length fun k=>if l1 (wn ws k)<t/\t<l2 (wn ws k)/\0<Nj (wn ws k) t then d k else 0
def Es(ws:List Wl)(d:Nat->Int)(t:Int)(v:Vc):Int:=sg ws.length fun k=>(if l2 (wn ws k)=t/\NF (ng (dw (wn ws k))) v=MC then d k else 0)-(if l1 (wn ws k)=t/\NF (dw (wn ws k)) v=MC then d k else 0)
section
variable{ws:List Wl}(hU:∀w∈ws,Mn w)(hF:PF ws){d:Nat->Int}(fl:Flow ws d)
include hU hF fl
theorem AM{j:Nat}(a:j<ws.length):Pf ws d (2*j)=Zc ws d (l1 (wn ws j))+Es ws d (l1 (wn ws j)) (dw (wn ws j)):=by
 rw[f7];have one:d j=sg ws.length (fun k=>if k=j then d k else 0):=by rw[fY,MF a]
 have f:=fl (l1 (wn ws j));have J:=aL hU a;have g:=J.lt;have i:=mG (wn ws j);generalize b:l1 (wn ws j)=t at *;rw[one];unfold Bw OK Zc Es;rw[b,<-du,<-du];have z:sg ws.length (fun k=>(if l1 (wn ws k)=t then d k else 0)-(if l2 (wn ws k)=t then d k else 0))=0:=by rw[dO];omega
 refine Eq.trans (aW (h:=fun k=>((if l1 (wn ws k)<t/\t<l2 (wn ws k)/\0<Nj (wn ws k) t then d k else 0)+((if l2 (wn ws k)=t/\NF (ng (dw (wn ws k))) (dw (wn ws j))=MC then d k else 0)-(if l1 (wn ws k)=t/\NF (dw (wn ws k)) (dw (wn ws j))=MC then d k else 0)))+((if l1 (wn ws k)=t then d k else 0)-(if l2 (wn ws k)=t then d k else 0))) fun k e=>?_) (by rw[du (fun k=>(if l1 (wn ws k)<t/\t<l2 (wn ws k)/\0<Nj (wn ws k) t then d k else 0)+_),z];omega);dsimp only;show(if(sp (wn ws k) t&&Mr (wn ws j) (wn ws k))=MC then d k else 0)+(if k=j then d k else 0)=_;have K:=aL hU e;have l:=K.lt;by_cases c:k=j
 ·subst c;rw[MF rfl,cv J,LA,ME ⋯,ME (),ME (fun q=>()),b,MF rfl,ME (():¬l2 (wn ws k)=t)];have:¬(t=t/\NF (dw (wn ws k)) (dw (wn ws k))=MC):=fun q=>bH q.2 q.2;rw[ME this];omega
 ·rw[ME c];have F:=a9 hF a e (fun q=>c q.symm);have m:=mG (wn ws k);rcases J4 (l1 (wn ws k)) t with x|x|x
  ·rcases J4 (l2 (wn ws k)) t with y|y|y
   ·have s:sp (wn ws k) t=MD:=by unfold sp;rw[MG (():¬t<l2 (wn ws k)),LA]
    rw[s,JY,ME ⋯,ME (),ME (),ME (),ME (),ME ()];rfl
   ·have s:sp (wn ws k) t=MD:=by unfold sp;rw[MG (():¬t<l2 (wn ws k)),LA]
    have p:NF (ng (dw (wn ws k))) (dw (wn ws j))=MC:=eW.mpr (.inl ⟨by rw[ud];omega,()⟩);rw[s,JY,ME ⋯,ME (),MF ⟨y,p⟩,ME (),ME (),MF y];omega
   ·have s:sp (wn ws k) t=MC:=aX.mpr ⟨(),y⟩;have T:=(dt K J F.swap x y (.inl b)).2;rw[s,Kr,T,ME (():¬(l2 (wn ws k)=t/\_)),ME (():¬(l1 (wn ws k)=t/\_)),ME (():¬l1 (wn ws k)=t),ME (():¬l2 (wn ws k)=t)];by_cases q:0<Nj (wn ws k) t
    ·rw[MF (by simpa using q),MF ⟨x,y,q⟩];omega
    ·rw[ME (by simpa using q),ME (fun z=>q z.2.2)];omega
  ·have s:sp (wn ws k) t=MC:=aX.mpr ⟨(),()⟩;obtain⟨A,nz⟩:=jy J K F ()
   have P:NF (dw (wn ws k)) (dw (wn ws j))=decide (0<vc (dw (wn ws j)) (dw (wn ws k))):=by
    rw[K5,eW,ML]
    have:=eM (dw (wn ws j)) (dw (wn ws k))
    omega
   rw[s,Kr,A,P,ME (():¬(l1 (wn ws k)<t/\_)),ME (():¬(l2 (wn ws k)=t/\_)),MF x,ME (():¬l2 (wn ws k)=t)];by_cases q:vc (dw (wn ws j)) (dw (wn ws k))<0
   ·rw[MF (by simpa using q),ME (fun z=>by have:=MJ z.2;omega)];omega
   ·rw[ME (by simpa using q),MF ⟨x,MI ()⟩];omega
  ·have s:sp (wn ws k) t=MD:=by unfold sp;rw[MG (():¬l1 (wn ws k)<=t),JY]
   rw[s,JY,ME ⋯,ME (),ME (),ME (),ME (),ME ()];rfl
theorem EB{j:Nat}(a:j<ws.length):Pf ws d (2*j+1)=Zc ws d (l2 (wn ws j))+Es ws d (l2 (wn ws j)) (ng (dw (wn ws j))):=by
 rw[iA];have J:=aL hU a;have h:=J.lt;have i:=mG (wn ws j);have e:=ud (dw (wn ws j));rw[<-gJ hU hF fl a (t:=l2 (wn ws j)-1) (aX.mpr ⟨(),()⟩)];generalize f:l2 (wn ws j)=t at *;unfold OK Zc Es;rw[<-du];refine aW fun k b=>?_;dsimp only;show(if(sp (wn ws k) (t-1)&&Mr (wn ws j) (wn ws k))=MC then d k else 0)=_;have K:=aL hU b;have l:=K.lt;by_cases c:k=j
 ·subst c;rw[cv J,LA,ME ⋯,ME (),ME (fun q=>bH q.2 q.2),ME ()];rfl
 ·have F:=a9 hF a b (fun q=>c q.symm);have m:=mG (wn ws k);have g:=ud (dw (wn ws k));rcases J4 (l1 (wn ws k)) t with x|x|x
  ·rcases J4 (l2 (wn ws k)) t with y|y|y
   ·have s:sp (wn ws k) (t-1)=MD:=by unfold sp;rw[MG (():¬t-1<l2 (wn ws k)),LA]
    rw[s,JY,ME ⋯,ME (),ME (),ME ()];rfl
   ·have s:sp (wn ws k) (t-1)=MC:=aX.mpr ⟨(),()⟩;obtain⟨A,nz⟩:=wY J K F ()
    have P:NF (ng (dw (wn ws k))) (ng (dw (wn ws j)))=decide (0<vc (dw (wn ws j)) (dw (wn ws k))):=by
     rw[K5,eW,ML,Fu]
     have:=eM (dw (wn ws j)) (dw (wn ws k))
     omega
    rw[s,Kr,A,P,ME (():¬(l1 (wn ws k)<t/\_)),ME (():¬(l1 (wn ws k)=t/\_))];by_cases q:0<vc (dw (wn ws j)) (dw (wn ws k))
    ·rw[MF (by simpa using q),MF ⟨y,MI q⟩];omega
    ·rw[ME (by simpa using q),ME (fun z=>q (MJ z.2))];rfl
   ·have s:sp (wn ws k) (t-1)=MC:=aX.mpr ⟨(),()⟩;have T:=(dt K J F.swap x y (.inr f)).2;rw[s,Kr,T,ME (():¬(l2 (wn ws k)=t/\_)),ME (():¬(l1 (wn ws k)=t/\_))];by_cases q:0<Nj (wn ws k) t
    ·rw[MF (by simpa using q),MF ⟨x,y,q⟩];omega
    ·rw[ME (by simpa using q),ME (fun z=>q z.2.2)];omega
  ·have s:sp (wn ws k) (t-1)=MD:=by unfold sp;rw[MG (():¬l1 (wn ws k)<=t-1),JY]
   have p:¬(l1 (wn ws k)=t/\NF (dw (wn ws k)) (ng (dw (wn ws j)))=MC):=fun q=>by
    have:=eW.mp q.2
    omega
   rw[s,JY,ME ⋯,ME (),ME (),ME p];rfl
  ·have s:sp (wn ws k) (t-1)=MD:=by unfold sp;rw[MG (():¬l1 (wn ws k)<=t-1),JY]
   rw[s,JY,ME ⋯,ME (),ME (),ME ()];rfl
theorem uF{g:Nat}(a:g<2*ws.length):Pf ws d g=Zc ws d (la (fa ws g).1 (fa ws g).2)+Es ws d (la (fa ws g).1 (fa ws g).2) (fd ws g):=by
 rcases Kg g with h|h
 ·obtain⟨k,rfl⟩:∃k,g=2*k:=⟨g/2,()⟩;rw[cf,gR];exact AM hU hF fl ()
 ·obtain⟨k,rfl⟩:∃k,g=2*k+1:=⟨g/2,()⟩;rw[mm,tQ];exact EB hU hF fl ()
end
def eF(d:Nat->Int)(g:Nat):Int:=if g%2=0 then -d (g/2)else d (g/2)
theorem EV(d:Nat->Int){n g:Nat}(a:g<2*n):eF d g=sg n fun k=>(if 2*k+1=g then d k else 0)-(if 2*k=g then d k else 0):=by
 rw[dO];unfold eF;by_cases h:g%2=0
 ·rw[MF h,show sg n (fun k=>if 2*k+1=g then d k else 0)=0 from cL fun k _=>ME (),aW (h:=fun k=>if k=g/2 then d k else 0) fun k _=>?_,fY,MF ()]
  ·omega
  ·by_cases e:k=g/2
   ·rw[MF e,MF ()]
   ·rw[ME e,ME ()]
 ·rw[ME h,show sg n (fun k=>if 2*k=g then d k else 0)=0 from cL fun k _=>ME (),aW (h:=fun k=>if k=g/2 then d k else 0) fun k _=>?_,fY,MF ()]
  ·omega
  ·by_cases e:k=g/2
   ·rw[MF e,MF ()]
   ·rw[ME e,ME ()]
theorem Cq(ws:List Wl)(d:Nat->Int)(f:Nat):Pf ws d f=Pf ws d (fx f)+eF d (fx f):=by
 unfold Pf eF;rw[(fZ f).1,(fZ f).2];by_cases h:f%2=0
 ·rw[MF h,ME (),ME ()]
 ·rw[ME h,MF (),MF ()];omega
theorem jr{A B C:Prop}[Decidable A][Decidable B][Decidable C]{x:Int}(h:A↔B\/C)(n:¬(B/\C)):(if A then x else 0)=(if B then x else 0)+(if C then x else 0):=by
 by_cases b:B
 ·rw[MF (h.mpr (.inl b)),MF b,ME fun c=>n ⟨b,c⟩];omega
 ·by_cases c:C
  ·rw[MF (h.mpr (.inr c)),ME b,MF c];omega
  ·rw[ME fun a=>(h.mp a).elim b c,ME b,ME c];rfl
section
variable{ws:List Wl}(hU:∀w∈ws,Mn w)(hF:PF ws)
include hU in
theorem pR{g:Nat}(a:g<2*ws.length):vl (fd ws g)≠0:=by
 rcases Kg g with h|h
 ·obtain⟨k,rfl⟩:∃k,g=2*k:=⟨g/2,()⟩;have:=(aL hU (():k<ws.length)).lt;rw[gR,mG];omega
 ·obtain⟨k,rfl⟩:∃k,g=2*k+1:=⟨g/2,()⟩;have:=(aL hU (():k<ws.length)).lt;rw[tQ,ud,mG];omega
include hU in
theorem An{g:Nat}(a:g<2*ws.length):0<=(fa ws g).2/\(fa ws g).2<=20:=by
 rcases Kg g with h|h
 ·obtain⟨k,rfl⟩:∃k,g=2*k:=⟨g/2,()⟩;unfold fa;rw[f9];exact(aL hU (():k<ws.length)).b
 ·obtain⟨k,rfl⟩:∃k,g=2*k+1:=⟨g/2,()⟩;unfold fa;rw[oG];exact(aL hU (():k<ws.length)).d
include hU in
theorem uc{g h:Nat}(c:g<2*ws.length)(d:h<2*ws.length)(e:la (fa ws g).1 (fa ws g).2=la (fa ws h).1 (fa ws h).2):fa ws g=fa ws h:=by obtain⟨a,b⟩:=gB (An hU c) (An hU d) e;exact Prod.ext a b
def tf(ws:List Wl)(g:Nat):Int:=la (fa ws g).1 (fa ws g).2
variable{d:Nat->Int}(fl:Flow ws d)
include hU hF fl in
theorem BR{f:Nat}(hf:f<2*ws.length):Pf ws d (bh ws f)=Pf ws d f:=by
 have v:=ie hf;have J:=Cs hU hF hf;have e1:fa ws (bh ws f)=fa ws (fx f):=by rw[ib hU hF hf,d8]
 rw[Cq ws d f,uF hU hF fl J,uF hU hF fl v,e1];have K:=fl (la (fa ws (fx f)).1 (fa ws (fx f)).2);have L:∀g,g<2*ws.length->la (fa ws g).1 (fa ws g).2=la (fa ws (fx f)).1 (fa ws (fx f)).2->fa ws g=fb ws f:=fun g M e=>by rw[uc hU M v e,d8]
 have N:∀k,la (fa ws (2*k)).1 (fa ws (2*k)).2=l1 (wn ws k):=cf ws;have O:∀k,la (fa ws (2*k+1)).1 (fa ws (2*k+1)).2=l2 (wn ws k):=mm ws;have i:∀k,fd ws (2*k)=dw (wn ws k):=gR ws;have j:∀k,fd ws (2*k+1)=ng (dw (wn ws k)):=tQ ws;have V:=EV d v;generalize W:la (fa ws (fx f)).1 (fa ws (fx f)).2=t at *;have P:∀k,k<ws.length->l1 (wn ws k)=t->fa ws (2*k)=fb ws f:=fun k l e=>L _ () (by rw[N];exact e);have Q:∀k,k<ws.length->l2 (wn ws k)=t->fa ws (2*k+1)=fb ws f:=fun k l e=>L _ () (by rw[O];exact e);have o:∀k,2*k=fx f->l1 (wn ws k)=t:=fun k e=>by rw[<-N,e,W]
 have s:∀k,2*k+1=fx f->l2 (wn ws k)=t:=fun k e=>by rw[<-O,e,W]
 rcases f6 hU hF hf with⟨c,e⟩|⟨m,all⟩
 ·-- the only one
  have only:∀g,g<2*ws.length->fa ws g=fb ws f->g=fx f:=fun g M e=>JB fun ne=>by
   have:g∈cV ws f:=bD.mpr ⟨M,e,ne⟩
   rw[c]at this;cases this
  rw[e]
  have z:eF d (fx f)=0:=by
   rw[V]
   have:=aW (n:=ws.length) (g:=fun k=>(if 2*k+1=fx f then d k else 0)-(if 2*k=fx f then d k else 0)) (h:=fun k=>(if l2 (wn ws k)=t then d k else 0)-(if l1 (wn ws k)=t then d k else 0)) fun k l=>by
    have Y:(2*k+1=fx f)↔l2 (wn ws k)=t:=⟨s k,fun e=>only _ () (Q k l e)⟩
    have Z:(2*k=fx f)↔l1 (wn ws k)=t:=⟨o k,fun e=>only _ () (P k l e)⟩
    simp only[Y,Z]
   rw[this,dO,K];omega
  rw[z];omega
 ·obtain⟨m1,T,X⟩:=bD.mp m;have S:∀g h,g<2*ws.length->h<2*ws.length->fa ws g=fb ws f->fa ws h=fb ws f->g≠h->O4 (fd ws g) (fd ws h):=fun g h M hh a b ne=>d5 hU hF M hh ne (by rw[a,b]);have U:fa ws (fx f)=fb ws f:=d8 ws f;have R:∀x,x<2*ws.length->fa ws x=fb ws f->x≠fx f->x≠bh ws f->(NF (fd ws (fx f)) (fd ws (bh ws f))=MC/\NF (fd ws (bh ws f)) (fd ws x)=MC)\/(NF (fd ws (bh ws f)) (fd ws x)=MC/\NF (fd ws x) (fd ws (fx f))=MC)\/(NF (fd ws x) (fd ws (fx f))=MC/\NF (fd ws (fx f)) (fd ws (bh ws f))=MC):=fun x y ex u E=>AS (pR hU v) (pR hU J) (pR hU y) (S _ _ v J U T (fun z=>X z.symm)) (S _ _ v y U ex (fun z=>u z.symm)) (S _ _ J y T ex (fun z=>E z.symm)) ((all x (bD.mpr ⟨y,ex,u⟩)).resolve_left E);rw[Int.add_assoc]
  congr 1
  rw[V];unfold Es;rcases vH (pR hU v) (pR hU J) (S _ _ v J U T (fun z=>X z.symm))with p|p
  ·have key:∀x,x<2*ws.length->fa ws x=fb ws f->(NF (fd ws x) (fd ws (bh ws f))=MC↔NF (fd ws x) (fd ws (fx f))=MC\/x=fx f):=fun x y ex=>by
    by_cases u:x=fx f
    ·subst u;exact⟨fun _=>.inr rfl,fun _=>p⟩
    ·by_cases E:x=bh ws f
     ·subst E;exact⟨fun q=>(bH q q).elim,fun q=>q.elim (fun q=>(bH p q).elim) (fun q=>absurd q u)⟩
     ·rcases R x y ex u E with⟨_,q⟩|⟨q,r⟩|⟨q,_⟩
      ·exact⟨fun z=>(bH q z).elim,fun z=>z.elim (fun z=>(bH q (jL z p)).elim) fun z=>absurd z u⟩
      ·exact(bH p (jL q r)).elim
      ·exact⟨fun _=>.inl q,fun _=>jL q p⟩
   rw[<-du];refine aW fun k l=>?_
   have A:(l2 (wn ws k)=t/\NF (ng (dw (wn ws k))) (fd ws (bh ws f))=MC)↔(l2 (wn ws k)=t/\NF (ng (dw (wn ws k))) (fd ws (fx f))=MC)\/2*k+1=fx f:=by
    constructor
    ·rintro⟨a,b⟩;rw[<-j]at b;rcases(key _ () (Q k l a)).mp b with q|q
     ·rw[j]at q;exact .inl ⟨a,q⟩
     ·exact .inr q
    ·intro z;have a:l2 (wn ws k)=t:=z.elim (fun q=>q.1) (s k);refine⟨a,?_⟩;rw[<-j];exact(key _ () (Q k l a)).mpr (z.imp (fun q=>by rw[j];exact q.2) id)
   have B:(l1 (wn ws k)=t/\NF (dw (wn ws k)) (fd ws (bh ws f))=MC)↔(l1 (wn ws k)=t/\NF (dw (wn ws k)) (fd ws (fx f))=MC)\/2*k=fx f:=by
    constructor
    ·rintro⟨a,b⟩;rw[<-i]at b;rcases(key _ () (P k l a)).mp b with q|q
     ·rw[i]at q;exact .inl ⟨a,q⟩
     ·exact .inr q
    ·intro z;have a:l1 (wn ws k)=t:=z.elim (fun q=>q.1) (o k);refine⟨a,?_⟩;rw[<-i];exact(key _ () (P k l a)).mpr (z.imp (fun q=>by rw[i];exact q.2) id)
   have C:¬((l2 (wn ws k)=t/\NF (ng (dw (wn ws k))) (fd ws (fx f))=MC)/\2*k+1=fx f):=fun F=>by obtain⟨⟨_,q⟩,e⟩:=F;rw[<-j,e]at q;exact bH q q
   have D:¬((l1 (wn ws k)=t/\NF (dw (wn ws k)) (fd ws (fx f))=MC)/\2*k=fx f):=fun G=>by obtain⟨⟨_,q⟩,e⟩:=G;rw[<-i,e]at q;exact bH q q
   rw[jr A C,jr B D];omega
  ·have key:∀x,x<2*ws.length->fa ws x=fb ws f->NF (fd ws x) (fd ws (bh ws f))≠MC/\(NF (fd ws x) (fd ws (fx f))=MC\/x=fx f):=fun x y ex=>by
    by_cases u:x=fx f
    ·subst u;exact⟨fun q=>bH p q,.inr rfl⟩
    ·by_cases E:x=bh ws f
     ·subst E;exact⟨fun q=>bH q q,.inl p⟩
     ·rcases R x y ex u E with⟨q,_⟩|⟨q,r⟩|⟨_,q⟩
      ·exact(bH p q).elim
      ·exact⟨fun z=>bH q z,.inl r⟩
      ·exact(bH p q).elim
   rw[cL fun k l=>by
    rw[ME fun z=>(key _ () (Q k l z.1)).1 (by rw[j];exact z.2),ME fun z=>(key _ () (P k l z.1)).1 (by rw[i];exact z.2)];rfl]
   rw[<-du,aW (h:=fun k=>(if l2 (wn ws k)=t then d k else 0)-(if l1 (wn ws k)=t then d k else 0)) fun k l=>?_,dO,K]
   ·omega
   have A:(l2 (wn ws k)=t)↔(l2 (wn ws k)=t/\NF (ng (dw (wn ws k))) (fd ws (fx f))=MC)\/2*k+1=fx f:=by
    constructor
    ·intro a;rcases(key _ () (Q k l a)).2 with q|q
     ·rw[j]at q;exact .inl ⟨a,q⟩
     ·exact .inr q
    ·exact fun z=>z.elim (fun q=>q.1) (s k)
   have B:(l1 (wn ws k)=t)↔(l1 (wn ws k)=t/\NF (dw (wn ws k)) (fd ws (fx f))=MC)\/2*k=fx f:=by
    constructor
    ·intro a;rcases(key _ () (P k l a)).2 with q|q
     ·rw[i]at q;exact .inl ⟨a,q⟩
     ·exact .inr q
    ·exact fun z=>z.elim (fun q=>q.1) (o k)
   have C:¬((l2 (wn ws k)=t/\NF (ng (dw (wn ws k))) (fd ws (fx f))=MC)/\2*k+1=fx f):=fun H=>by obtain⟨⟨_,q⟩,e⟩:=H;rw[<-j,e]at q;exact bH q q
   have D:¬((l1 (wn ws k)=t/\NF (dw (wn ws k)) (fd ws (fx f))=MC)/\2*k=fx f):=fun I=>by obtain⟨⟨_,q⟩,e⟩:=I;rw[<-i,e]at q;exact bH q q
   rw[jr A C,jr B D];omega
end
theorem yK{ws:List Wl}{f k:Nat}(h:NR ws f k):(rn ws f k).Nodup:=by unfold rn;rw[List.nodup_iff_pairwise_ne,List.pairwise_map];refine List.Pairwise.imp_of_mem ?_ (List.pairwise_lt_range (n:=k+1));intro a b e d c;exact h a b c (by have:=Ju.mp d;omega)
theorem d7{ws:List Wl}{f k g:Nat}:g∈rn ws f k↔∃i,i<=k/\NJ ws f i=g:=by unfold rn;rw[JH];exact⟨fun a=>by obtain⟨i,h,e⟩:=a;exact(⟨i,by have:=Ju.mp h;omega,e⟩),fun b=>by obtain⟨i,h,e⟩:=b;exact(⟨i,Ju.mpr (),e⟩)⟩
theorem iQ(c:Nat->Int){n:Nat}:∀r:List Nat,r.Nodup->(∀g∈r,g<2*n)->(r.map c).sum=sg n fun k=>(if 2*k∈r then c (2*k)else 0)+(if 2*k+1∈r then c (2*k+1)else 0)
 |[],_,_=>by rw[cL fun k _=>by simp];rfl
 |g::r,nd,h=>by
  rw[Lf]at nd
  rw[IY,JU,iQ c r nd.2 fun x i=>h x (JF _ i)]
  have j:=h g K0
  have e:c g=sg n fun k=>(if 2*k=g then c (2*k)else 0)+(if 2*k+1=g then c (2*k+1)else 0):=by
   rw[du]
   by_cases p:g%2=0
   ·rw[show sg n (fun k=>if 2*k+1=g then c (2*k+1)else 0)=0 from cL fun k _=>ME (),aW (h:=fun k=>if k=g/2 then c (2*k)else 0) fun k _=>?_,fY (fun k=>c (2*k)),MF (),show 2*(g/2)=g by omega]
    ·omega
    ·by_cases e:k=g/2
     ·rw[MF e,MF ()]
     ·rw[ME e,ME ()]
   ·rw[show sg n (fun k=>if 2*k=g then c (2*k)else 0)=0 from cL fun k _=>ME (),aW (h:=fun k=>if k=g/2 then c (2*k+1)else 0) fun k _=>?_,fY (fun k=>c (2*k+1)),MF (),show 2*(g/2)+1=g by omega]
    ·omega
    ·by_cases e:k=g/2
     ·rw[MF e,MF ()]
     ·rw[ME e,ME ()]
  rw[e,<-du]
  refine aW fun k _=>?_
  have m:∀x:Nat,(x∈g::r)↔(x=g)\/x∈r:=fun x=>Jo
  have f:∀x:Nat,¬(x=g/\x∈r):=fun x d=>by obtain⟨a,b⟩:=d;exact(nd.1 (a▸b))
  rw[jr (m (2*k)) (f (2*k)),jr (m (2*k+1)) (f (2*k+1))]
  omega
def dR(r:List Nat)(k:Nat):Int:=(if 2*k∈r then 1 else 0)-(if 2*k+1∈r then 1 else 0)
theorem zt(r:List Nat)(k:Nat)(x:Int):(if 2*k∈r then x else 0)+(if 2*k+1∈r then -x else 0)=dR r k*x:=by unfold dR;split<;>split<;>first|(simp;done)|(simp;omega)
section
variable{ws:List Wl}(hU:∀w∈ws,Mn w)(hF:PF ws){f:Nat}(hf:f<2*ws.length){r:List Nat}(R:gu ws f r)
include hU hF hf R
theorem cW:∀g∈r,g<2*ws.length:=fun g a=>by obtain⟨k,n,e,rfl⟩:=R;obtain⟨i,_,rfl⟩:=d7.mp a;exact cy hU hF hf i
theorem oY:r.Nodup:=by obtain⟨k,n,e,rfl⟩:=R;exact yK n
theorem ky:∀g∈r,bh ws g∈r:=fun g a=>by
 obtain⟨k,n,e,rfl⟩:=R;obtain⟨i,b,rfl⟩:=d7.mp a;by_cases h:i=k
 ·subst h;rw[e];exact d7.mpr ⟨0,(),rfl⟩
 ·exact d7.mpr ⟨i+1,(),rfl⟩
theorem gT:f∈r:=by obtain⟨k,n,e,rfl⟩:=R;exact d7.mpr ⟨0,(),rfl⟩
theorem jq(a:Vc->Int):sg ws.length (fun k=>dR r k*(a (fb ws (2*k))-a (fa ws (2*k))))=0:=by
 have nd:=oY hU hF hf R;have lt:=cW hU hF hf R;have key:=iQ (fun g=>a (fb ws g)-a (fa ws g)) r nd lt
 have z:(r.map fun g=>a (fb ws g)-a (fa ws g)).sum=0:=by
  obtain⟨k,n,e,rfl⟩:=R
  have key:∀k,((rn ws f k).map fun g=>a (fb ws g)-a (fa ws g)).sum=a (fb ws (NJ ws f k))-a (fa ws f):=fun k=>by
   induction k with
   |zero=>rw[uL];simp only[IY,Ki,JU,List.sum_nil,Int.add_zero];rfl
   |succ k b=>
    rw[kH,Jg,List.sum_append,b]
    simp only[IY,Ki,JU,List.sum_nil]
    have:fa ws (NJ ws f (k+1))=fb ws (NJ ws f k):=ib hU hF (cy hU hF hf k)
    rw[this]
    omega
  rw[key,<-ib hU hF (cy hU hF hf k),e]
  omega
 rw[z]at key;rw[key];refine aW fun k _=>?_;have e2:fx (2*k)=2*k+1:=by unfold fx;rw[MF ()]
 rw[<-e2,d8,qV,e2,<-zt,Int.neg_sub]
theorem rM(k:Nat):la (fb ws (2*k)).1 (fb ws (2*k)).2=l2 (wn ws k):=by unfold fb;rw[f9];rfl
theorem aQ:Flow ws (dR r):=fun t=>by
 have h:=jq hU hF hf R fun c=>if la c.1 c.2=t then 1 else 0;have e:=aW (n:=ws.length) (g:=fun k=>dR r k*((if la (fb ws (2*k)).1 (fb ws (2*k)).2=t then 1 else 0)-(if la (fa ws (2*k)).1 (fa ws (2*k)).2=t then 1 else 0))) (h:=fun k=>(if l2 (wn ws k)=t then dR r k else 0)-(if l1 (wn ws k)=t then dR r k else 0)) fun k a=>by rw[cf,rM hU hF hf R];split<;>split<;>simp
 rw[e,dO]at h;omega
theorem bI{d:Nat->Int}(b:Flow ws d){g:Nat}(a:g∈r):Pf ws d g=Pf ws d f:=by
 obtain⟨k,n,e,rfl⟩:=R;obtain⟨i,c,rfl⟩:=d7.mp a;clear c a
 induction i with
 |zero=>rfl
 |succ i h=>rw[<-h];exact BR hU hF b (cy hU hF hf i)
end
def xi(w:Wl)(t:Int):Rat:=(Nm w (2*t+1):Rat)/(lam w:Rat)
theorem ba{z:Int}(h:0<z):(0:Rat)<(z:Rat):=by exact_mod_cast h
theorem FA{U V:Wl}(a:Mn U)(b:Mn V){t:Int}:xi U t<xi V t↔0<Gh U V (2*t+1):=by
 have c:0<lam U:=by have:=a.lt;unfold lam;omega
 have d:0<lam V:=by have:=b.lt;unfold lam;omega
 unfold xi Gh;have e1:(Nm U (2*t+1):Rat)/(lam U:Rat)=Rat.divInt (Nm U (2*t+1)) (lam U):=(Rat.divInt_eq_div ..).symm;have e2:(Nm V (2*t+1):Rat)/(lam V:Rat)=Rat.divInt (Nm V (2*t+1)) (lam V):=(Rat.divInt_eq_div ..).symm;rw[e1,e2,Ma.nM c d];omega
theorem dh{U V:Wl}(a:Mn U)(b:Mn V)(F:My U V){t:Int}(e:sp U t=MC)(f:sp V t=MC):Mr U V=MC↔xi U t<xi V t:=by
 rw[aX]at e f;have c:max (l1 U) (l1 V)<min (l2 U) (l2 V):=cz.mpr ⟨(),(),(),()⟩;have d:=c;rw[Int.max_comm,Int.min_comm]at d;rw[FA a b];constructor
 ·exact p5 a b F c (RP.mpr ⟨(),()⟩) (RU.mpr ⟨(),()⟩)
 ·intro g;cases z:Mr U V with
  |true=>rfl
  |false=>
   have n:=gg a b F c
   rw[z]at n
   have h:=p5 (t:=2*t+1) b a F.swap d (RP.mpr ⟨(),()⟩) (RU.mpr ⟨(),()⟩) n
   rw[ui]at h
   omega
theorem uo{U V:Wl}(b:Mn U)(d:Mn V)(F:My U V){t:Int}(f:sp U t=MC)(g:sp V t=MC):xi U t≠xi V t:=fun e=>by
 have a:¬Mr U V=MC:=fun z=>by have:=(dh b d F f g).mp z;rw[e]at this;exact Rat.lt_irrefl this
 have c:¬Mr V U=MC:=fun z=>by have:=(dh d b F.swap g f).mp z;rw[e]at this;exact Rat.lt_irrefl this
 rw[aX]at f g;rw[gg b d F (cz.mpr ⟨(),(),(),()⟩)]at c;cases z:Mr U V<;>simp_all
theorem pA(q:Nat->Rat):∀l:List Nat,l≠[]->∃m∈l,∀x∈l,q x<=q m
 |[],h=>absurd rfl h
 |[a],_=>⟨a,by simp,fun x c=>by rw[Jx.mp c];exact Rat.le_refl⟩
 |a::b::l,_=>by
  obtain⟨m,d,h⟩:=pA q (b::l) (by simp)
  rcases Rat.le_total (a:=q a) (b:=q m)with z|z
  ·exact⟨m,JF _ d,fun x c=>(Jo.mp c).elim (fun e=>e▸z) (h x)⟩
  ·exact⟨a,K0,fun x c=>(Jo.mp c).elim (fun e=>e▸Rat.le_refl) fun c=>Rat.le_trans (h x c) z⟩
theorem zm(q:Nat->Int):∀l:List Nat,l≠[]->∃m∈l,∀x∈l,q m<=q x
 |[],h=>absurd rfl h
 |[a],_=>⟨a,by simp,fun x c=>by rw[Jx.mp c];exact KN _⟩
 |a::b::l,_=>by
  obtain⟨m,d,h⟩:=zm q (b::l) (by simp)
  by_cases z:q m<=q a
  ·exact⟨m,JF _ d,fun x c=>(Jo.mp c).elim (fun e=>e▸z) (h x)⟩
  ·exact⟨a,K0,fun x c=>(Jo.mp c).elim (fun e=>e▸KN _) fun c=>by have:=h x c;omega⟩
structure RA(ws:List Wl)(r:List Nat)(t:Int)(k:Nat):Prop where
 k1:k<ws.length
 e:l1 (wn ws k)=t
 m:2*k∈r\/2*k+1∈r
 ge:∀j,2*j∈r\/2*j+1∈r->t<=l1 (wn ws j)
 low:∀j,2*j∈r\/2*j+1∈r->l1 (wn ws j)=t->Mr (wn ws k) (wn ws j)=MD
section
variable{ws:List Wl}(hU:∀w∈ws,Mn w)(hF:PF ws){f:Nat}(hf:f<2*ws.length){r:List Nat}(R:gu ws f r)
include hU hF hf R
theorem d6:∃t k,RA ws r t k/\∃g∈r,tf ws g=t/\∀h∈r,t<=tf ws h:=by
 have ne:r≠[]:=Kq (gT hU hF hf R);obtain⟨g,c,mn⟩:=zm (tf ws) r ne
 have ge:∀j,2*j∈r\/2*j+1∈r->tf ws g<=l1 (wn ws j):=fun j h=>by
  rcases h with h|h
  ·have:=mn _ h;unfold tf at this;rw[cf]at this;exact this
  ·have:=mn _ (ky hU hF hf R _ h);unfold tf at this;rw[ib hU hF (cW hU hF hf R _ h)]at this;have e2:fx (2*j)=2*j+1:=by unfold fx;rw[MF ()]
   rw[<-e2,qV,cf]at this;exact this
 have m:((J5 ws.length).filter fun j=>decide ((2*j∈r\/2*j+1∈r)/\l1 (wn ws j)=tf ws g))≠[]:=by
  have lt:=cW hU hF hf R g c
  refine Kq (a:=g/2) ?_
  rw[J6,Ju,ML]
  refine⟨(),?_⟩
  rcases Kg g with h|h
  ·have e:2*(g/2)=g:=()
   refine⟨.inl (by rw[e];exact c),?_⟩;unfold tf;rw[<-cf,e]
  ·exfalso;have e:2*(g/2)+1=g:=()
   have q:=ge (g/2) (.inr (by rw[e];exact c));have l:=(aL hU (():g/2<ws.length)).lt;have w:tf ws g=l2 (wn ws (g/2)):=by unfold tf;rw[<-mm,e]
   omega
 obtain⟨k,b,n⟩:=pA (fun j=>xi (wn ws j) (tf ws g)) _ m;rw[J6,Ju,ML]at b;refine⟨tf ws g,k,⟨b.1,b.2.2,b.2.1,ge,fun j i o=>?_⟩,g,c,rfl,mn⟩;have d:j<ws.length:=by rcases i with h|h<;>(have:=cW hU hF hf R _ h;omega)
 by_cases ne:k=j
 ·subst ne;exact cv (aL hU d)
 ·have K:=aL hU b.1;have J:=aL hU d;have p:=K.lt;have s:=J.lt;have q:=n j (by rw[J6,Ju,ML];exact⟨d,i,o⟩);cases z:Mr (wn ws k) (wn ws j)with
  |false=>rfl
  |true=>
   have:=(dh K J (a9 hF b.1 d ne) (t:=tf ws g) (aX.mpr ⟨(),()⟩) (aX.mpr ⟨(),()⟩)).mp z
   exact absurd this (Rat.not_lt.mpr q)
theorem wV{t:Int}{k:Nat}(L:RA ws r t k):Bw ws (dR r) k=0:=by
 unfold Bw OK;refine cL fun j b=>?_;by_cases m:2*j∈r\/2*j+1∈r
 ·have ge:=L.ge j m;rw[L.e];refine ME fun q=>?_;rw[Jn,aX]at q;have:=L.low j m ();have a:Mr (wn ws k) (wn ws j)=MC:=q.2;rw[this]at a;cases a
 ·have:dR r j=0:=by unfold dR;rw[ME fun z=>m (.inl z),ME fun z=>m (.inr z)];rfl
  rw[this];split<;>rfl
theorem gF{t:Int}{k:Nat}(L:RA ws r t k):(2*k+1∈r/\Pf ws (dR r) f=0)\/(2*k+1∉r/\2*k∈r/\Pf ws (dR r) f=1):=by
 have a:=aQ hU hF hf R;have z:=wV hU hF hf R L;by_cases h:2*k+1∈r
 ·left;refine⟨h,?_⟩;rw[<-bI hU hF hf R a h,iA,z]
 ·right;have m:=L.m.resolve_right h;refine⟨h,m,?_⟩;rw[<-bI hU hF hf R a m,f7,z];unfold dR;rw[MF m,ME h];rfl
end
def sq:Nat->(Nat->Rat)->Rat
 |0,_=>0
 |n+1,g=>sq n g+g n
theorem dg{g h:Nat->Rat}:∀{n:Nat},(∀k,k<n->g k=h k)->sq n g=sq n h
 |0,_=>rfl
 |n+1,e=>by rw[sq,sq,dg fun k a=>e k (),e n ()]
theorem wU(g h:Nat->Rat):∀n,sq n (fun k=>g k+h k)=sq n g+sq n h
 |0=>by rw[sq,sq,sq,Rat.add_zero]
 |n+1=>by rw[sq,sq,sq,wU g h n];grind
theorem xk(c:Rat)(g:Nat->Rat):∀n,sq n (fun k=>c*g k)=c*sq n g
 |0=>by rw[sq,sq,Rat.mul_zero]
 |n+1=>by rw[sq,sq,xk c g n];grind
theorem uq:∀n,sq n (fun _=>0)=0
 |0=>rfl
 |n+1=>by rw[sq,uq n,Rat.add_zero]
theorem uG(g:Nat->Nat->Rat)(m:Nat):∀n,sq n (fun k=>sq m (g k))=sq m fun t=>sq n fun k=>g k t
 |0=>by rw[sq];exact(uq m).symm
 |n+1=>by
  rw[sq,uG g m n,<-wU]
  rfl
theorem gP(g:Nat->Int):∀n,((sg n g:Int):Rat)=sq n fun k=>((g k:Int):Rat)
 |0=>rfl
 |n+1=>by rw[sg,sq,Lj,gP g n]
theorem sq_nonneg{g:Nat->Rat}:∀{n:Nat},(∀k,k<n->0<=g k)->0<=sq n g
 |0,_=>Rat.le_refl
 |n+1,h=>by
  have a:=sq_nonneg (g:=g) (n:=n) fun k c=>h k ()
  have b:=h n ()
  rw[sq]
  exact Rat.add_nonneg a b
theorem sq_pos{g:Nat->Rat}{j:Nat}(p:0<g j):∀{n:Nat},j<n->(∀k,k<n->0<=g k)->0<sq n g
 |0,hj,_=>absurd hj ()
 |n+1,hj,h=>by
  rw[sq]
  by_cases e:j=n
  ·subst e
   have a:=sq_nonneg (g:=g) (n:=j) fun k c=>h k ()
   grind
  ·have a:=sq_pos p (n:=n) () fun k c=>h k ()
   have b:=h n ()
   grind
theorem gQ(p:Nat->Bool)(g:Nat->Rat):∀n,(((J5 n).filter p).map g).sum=sq n fun k=>if p k=MC then g k else 0
 |0=>rfl
 |n+1=>by
  rw[KD,List.filter_append,Jg,List.sum_append,gQ p g n,sq]
  congr 1
  by_cases h:p n=MC
  ·rw[MF h];simp[h,Rat.add_zero]
  ·rw[ME h];simp[h]
theorem wM{l c:List Nat}(h:l.Perm c)(g:Nat->Rat):(l.map g).sum=(c.map g).sum:=by
 induction h with
 |nil=>rfl
 |cons x _ d=>rw[IY,IY,JU,JU,d]
 |swap x y l=>simp only[IY,JU];grind
 |trans _ _ a b=>rw[a,b]
theorem fy(d q:Nat->Rat)(c a:Rat):∀l:List Nat,(l.map fun x=>d x*(q x-c)).sum=(l.map fun x=>d x*(q x-a)).sum+(l.map d).sum*(a-c)
 |[]=>by simp;grind
 |x::l=>by
  simp only[IY,JU]
  rw[fy d q c a l]
  grind
theorem BA(d q:Nat->Rat):∀(m:Nat) (l:List Nat),l.length=m->l.Nodup->(∀x∈l,∀y∈l,q x=q y->x=y)->(∀x∈l,0<=(l.map fun y=>if q x<=q y then d y else 0).sum)->∀c,(∀x∈l,c<q x)->
 0<=(l.map fun x=>d x*(q x-c)).sum/\∀x∈l,0<(l.map fun y=>if q x<=q y then d y else 0).sum->0<(l.map fun x=>d x*(q x-c)).sum
 |0,l,e,_,_,_,c,_=>by
  rw[List.length_eq_zero_iff.mp e]
  exact⟨Rat.le_refl,fun x b=>by cases b⟩
 |m+1,l,e,nd,inj,A,c,hc=>by
  obtain⟨a,j,p⟩:=pA (fun x=>-q x) l (fun z=>by rw[z]at e;cases e)
  have mn:∀x∈l,q a<=q x:=fun x b=>by have:=p x b;grind
  have P:=List.perm_cons_erase j
  have k:∀g:Nat->Rat,(l.map g).sum=g a+((l.erase a).map g).sum:=fun g=>by rw[wM P g,IY,JU]
  have sub:∀x∈l.erase a,x∈l/\q a<q x:=fun x b=>by
   have f:=List.mem_of_mem_erase b
   have ne:x≠a:=fun z=>by subst z;exact nd.not_mem_erase b
   have r:q a≠q x:=fun z=>ne (inj x f a j z.symm)
   have:=mn x f
   exact⟨f,by grind⟩
  have i:∀x∈l.erase a,(l.map fun y=>if q x<=q y then d y else 0).sum=((l.erase a).map fun y=>if q x<=q y then d y else 0).sum:=fun x b=>by
   rw[k,ME (Rat.not_le.mpr (sub x b).2),Rat.zero_add]
  have all:(l.map fun y=>if q a<=q y then d y else 0).sum=(l.map d).sum:=by
   congr 1
   exact Ln fun y n=>MF (mn y n)
  have D:=A a j
  rw[all]at D
  obtain⟨s,t⟩:=BA d q m (l.erase a) (by rw[List.length_erase_of_mem j];omega) (nd.erase a) (fun x b y n=>inj x (sub x b).1 y (sub y n).1) (fun x b=>by rw[<-i x b];exact A x (sub x b).1) (q a) fun x b=>(sub x b).2
  have e1:(l.map fun x=>d x*(q x-c)).sum=((l.erase a).map fun x=>d x*(q x-q a)).sum+(l.map d).sum*(q a-c):=by
   rw[fy d q c (q a),k fun x=>d x*(q x-q a)]
   grind
  have o:0<q a-c:=by have:=hc a j;grind
  rw[e1]
  refine⟨Rat.add_nonneg s (Rat.mul_nonneg D (Rat.le_of_lt o)),fun x b h=>?_⟩
  by_cases ex:x=a
  ·subst ex
   rw[all]at h
   have:=Rat.mul_pos h o
   grind
  ·have f:x∈l.erase a:=(List.mem_erase_of_ne ex).mpr b
   rw[i x f]at h
   have:=t x f h
   have:=Rat.mul_nonneg D (Rat.le_of_lt o)
   grind
theorem jc(q:Nat->Rat):∀l:List Nat,∃c,∀x∈l,c<q x
 |[]=>⟨0,fun x b=>by cases b⟩
 |a::l=>by
  obtain⟨c,h⟩:=jc q l
  refine⟨min c (q a)-1,fun x b=>?_⟩
  have d:min c (q a)<=c:=by rw[Rat.min_def];split<;>grind
  have f:min c (q a)<=q a:=by rw[Rat.min_def];split<;>grind
  rcases Jo.mp b with e|e
  ·subst e;grind
  ·have:=h x e;grind
def gj(w:Wl)(j:Int):Rat:=2*(w.1:Rat)*(j:Rat)+(j:Rat)*(j:Rat)*(((w.2.2.1-w.1:Int):Rat)/(lam w:Rat))
theorem AH{w:Wl}(h:0<lam w){t:Int}{j:Int}(e:t=l1 w+j):gj w (j+1)=gj w j+xi w t:=by
 have d:(lam w:Rat)≠0:=by have:=ba h;grind
 have ex:xi w t=2*(w.1:Rat)+(2*(j:Rat)+1)*(((w.2.2.1-w.1:Int):Rat)/(lam w:Rat)):=by
  unfold xi Nm
  rw[e,show 2*(l1 w+j)+1-2*l1 w=2*j+1 by omega,Lj,JT,JT,JT,Lj,JT]
  have a:((2:Int):Rat)=2:=rfl
  have b:((1:Int):Rat)=1:=rfl
  rw[a,b,Rat.div_def,Rat.div_def]
  have c:(lam w:Rat)*(lam w:Rat)⁻¹=1:=Rat.mul_inv_cancel _ d
  grind
 rw[ex];unfold gj;rw[Lj];have b:((1:Int):Rat)=1:=rfl;rw[b];grind
theorem Gj{w:Wl}(hw:Mn w):∀m:Nat,sq m (fun t=>if sp w (t:Int)=MC then xi w (t:Int)else 0)=gj w (if(m:Int)<=l1 w then 0 else if(m:Int)<=l2 w then(m:Int)-l1 w else lam w)
 |0=>by
  have:(((0:Nat):Int)<=l1 w):=by have:=hw.a;have:=hw.b;unfold l1 la;omega
  rw[MF this,sq]
  unfold gj
  have a:((0:Int):Rat)=0:=rfl
  rw[a];grind
 |m+1=>by
  have g:=hw.lt
  have f:0<lam w:=by unfold lam;omega
  rw[sq,Gj hw m]
  by_cases d:((m+1:Nat):Int)<=l1 w
  ·rw[MF (show((m:Nat):Int)<=l1 w by omega),MF d,ME (by rw[aX];omega),Rat.add_zero]
  ·by_cases e:((m+1:Nat):Int)<=l2 w
   ·have s:sp w ((m:Nat):Int)=MC:=aX.mpr ⟨(),()⟩
    rw[MF s,ME d,MF e]
    have st:=AH f (t:=(m:Int)) (j:=(m:Int)-l1 w) ()
    rw[show((m+1:Nat):Int)-l1 w=(m:Int)-l1 w+1 by omega,st]
    congr 2
    by_cases c:((m:Nat):Int)<=l1 w
    ·rw[MF c];omega
    ·rw[ME c,MF ()]
   ·rw[ME (():¬((m:Nat):Int)<=l1 w),ME d,ME e,ME (show ¬sp w ((m:Nat):Int)=MC by rw[aX];omega),Rat.add_zero]
    congr 1
    by_cases c:((m:Nat):Int)<=l2 w
    ·rw[MF c];unfold lam;omega
    ·rw[ME c]
theorem yu{w:Wl}(hw:Mn w){N:Nat}(h:l2 w<=N):sq N (fun t=>if sp w (t:Int)=MC then xi w (t:Int)else 0)=(((w.1+w.2.2.1)*lam w:Int):Rat):=by
 have d:=hw.lt;have a:0<lam w:=by unfold lam;omega
 have b:(lam w:Rat)≠0:=by have:=ba a;grind
 rw[Gj hw N,ME ()]
 have e:(if(N:Int)<=l2 w then(N:Int)-l1 w else lam w)=lam w:=by
  split
  ·unfold lam;omega
  ·rfl
 rw[e];unfold gj;rw[JT,Lj,KG,Rat.div_def];have c:(lam w:Rat)*(lam w:Rat)⁻¹=1:=Rat.mul_inv_cancel _ b;grind
section
variable{ws:List Wl}(hU:∀w∈ws,Mn w)(hF:PF ws){f:Nat}(hf:f<2*ws.length){r:List Nat}(R:gu ws f r)
def lt'(ws:List Wl)(r:List Nat)(t:Int):List Nat:=(J5 ws.length).filter fun k=>sp (wn ws k) t&&decide (dR r k≠0)
theorem iM{t:Int}{k:Nat}:k∈lt' ws r t↔k<ws.length/\sp (wn ws k) t=MC/\dR r k≠0:=by unfold lt';rw[J6,Ju,Jn,ML]
include hU hF in
theorem yy{t:Int}:∀x∈lt' ws r t,∀y∈lt' ws r t,xi (wn ws x) t=xi (wn ws y) t->x=y:=fun x a y b e=>JB fun ne=>by obtain⟨x1,c,_⟩:=iM.mp a;obtain⟨y1,d,_⟩:=iM.mp b;exact uo (aL hU x1) (aL hU y1) (a9 hF x1 y1 ne) c d e
include hU hF hf R in
theorem pK{t:Int}{x:Nat}(g:x∈lt' ws r t):((lt' ws r t).map fun y=>if xi (wn ws x) t<=xi (wn ws y) t then(dR r y:Rat)else 0).sum=((Bw ws (dR r) x+dR r x:Int):Rat):=by
 obtain⟨x1,c,h⟩:=iM.mp g;have one:dR r x=sg ws.length (fun k=>if k=x then dR r k else 0):=by rw[fY,MF x1]
 rw[<-gJ hU hF (aQ hU hF hf R) x1 c,one];unfold OK lt';rw[<-du,gP,gQ];refine dg fun k d=>?_;show _=(((if(sp (wn ws k) t&&Mr (wn ws x) (wn ws k))=MC then dR r k else 0)+(if k=x then dR r k else 0):Int):Rat);by_cases e:k=x
 ·subst e;rw[c,MI h,cv (aL hU d),MF (show(MC&&MC)=MC from rfl),MF Rat.le_refl,MF rfl,ME (⋯:¬(MC&&MD)=MC),Int.zero_add]
 ·rw[ME e,Int.add_zero];by_cases s:sp (wn ws k) t=MC
  ·rw[s,Kr,Kr];by_cases z:dR r k=0
   ·rw[MG (fun q=>q z),ME ⋯,z];split<;>rfl
   ·rw[MI z,MF rfl];have F:=a9 hF x1 d (fun q=>e q.symm);have a:=dh (aL hU x1) (aL hU d) F c s;have b:=uo (aL hU x1) (aL hU d) F c s;by_cases q:xi (wn ws x) t<=xi (wn ws k) t
    ·rw[MF q,MF (a.mpr (by grind))]
    ·rw[ME q,ME fun y=>q (Rat.le_of_lt (a.mp y))];rfl
  ·have i:sp (wn ws k) t=MD:=by simpa using s
   rw[i,JY,JY,ME ⋯,ME ⋯];rfl
include hU hF hf R in
theorem zw(t:Int):((lt' ws r t).map fun y=>(dR r y:Rat)).sum=0:=by
 have h:=pJ hU (aQ hU hF hf R) t;unfold OK at h
 have a:((sg ws.length (fun k=>if(sp (wn ws k) t&&MC)=MC then dR r k else 0):Int):Rat)=0:=by
  have h:sg ws.length (fun k=>if(sp (wn ws k) t&&MC)=MC then dR r k else 0)=0:=h
  rw[h];rfl
 rw[gP]at a;unfold lt';rw[gQ];refine Eq.trans (dg fun k c=>?_) a;rw[L9];by_cases s:sp (wn ws k) t=MC
 ·rw[s,Kr,MF rfl];by_cases z:dR r k=0
  ·rw[MG (fun q=>q z),ME ⋯,z];rfl
  ·rw[MI z,MF rfl]
 ·have b:sp (wn ws k) t=MD:=by simpa using s
  rw[b,JY,ME ⋯];rfl
include hU hF hf R in
theorem iI:(((r.map (NO ws)).sum:Int):Rat)=sq 3000 fun t=>((lt' ws r (t:Int)).map fun k=>(dR r k:Rat)*xi (wn ws k) (t:Int)).sum:=by
 have nd:=oY hU hF hf R;have lt:=cW hU hF hf R
 have a:∀k,NO ws (2*k+1)=-NO ws (2*k):=fun k=>by
  have e2:fx (2*k)=2*k+1:=by unfold fx;rw[MF ()]
  unfold NO
  rw[<-e2,d8,qV]
  omega
 have z:=jq hU hF hf R fun c=>c.1*la c.1 c.2;rw[iQ (NO ws) r nd lt,aW (h:=fun k=>dR r k*((wn ws k).1+(wn ws k).2.2.1)*lam (wn ws k)-dR r k*((fb ws (2*k)).1*la (fb ws (2*k)).1 (fb ws (2*k)).2-(fa ws (2*k)).1*la (fa ws (2*k)).1 (fa ws (2*k)).2)) fun k e=>?_,dO,z,Int.sub_zero,gP]
 ·rw[dg (h:=fun k=>sq 3000 fun t=>(dR r k:Rat)*(if sp (wn ws k) (t:Int)=MC then xi (wn ws k) (t:Int)else 0)) fun k e=>?_,uG]
  ·refine dg fun t _=>?_;unfold lt';rw[gQ];refine dg fun k _=>?_;by_cases s:sp (wn ws k) (t:Int)=MC
   ·rw[s,Kr,MF rfl];by_cases z:dR r k=0
    ·rw[MG (fun q=>q z),ME ⋯,z];exact Rat.zero_mul _
    ·rw[MI z,MF rfl]
   ·have g:sp (wn ws k) (t:Int)=MD:=by simpa using s
    rw[g,JY,ME ⋯,ME ⋯,Rat.mul_zero]
  ·have W:=aL hU e;have b:l2 (wn ws k)<=((3000:Nat):Int):=by have:=W.c;have:=W.d;unfold l2 la;omega
   rw[xk,yu W b,Int.mul_assoc,JT]
 ·rw[a,zt];unfold NO fa fb;rw[f9];unfold lam l1 l2 la;grind
include hU hF hf R in
theorem xI{t:Int}{x:Nat}(d:x∈lt' ws r t):(dR r x=1/\Bw ws (dR r) x+dR r x=Pf ws (dR r) f)\/(dR r x=-1/\Bw ws (dR r) x+dR r x=Pf ws (dR r) f-1):=by
 obtain⟨x1,g,b⟩:=iM.mp d;have c:=aQ hU hF hf R;by_cases m:2*x∈r
 ·have a:2*x+1∉r:=fun z=>b (by unfold dR;rw[MF m,MF z];rfl);left;refine⟨by unfold dR;rw[MF m,ME a];rfl,?_⟩;rw[<-bI hU hF hf R c m,f7]
 ·have a:2*x+1∈r:=JB fun z=>b (by unfold dR;rw[ME m,ME z];rfl);have e:dR r x=-1:=by unfold dR;rw[ME m,MF a];rfl
  right;refine⟨e,?_⟩;rw[<-bI hU hF hf R c a,iA,e];rfl
theorem B7{t:Int}:(lt' ws r t).Nodup:=by unfold lt';exact KO _ List.nodup_range
include hU hF hf R in
theorem uX{t:Int}(a:Pf ws (dR r) f=1):0<=((lt' ws r t).map fun k=>(dR r k:Rat)*xi (wn ws k) t).sum/\∀x∈lt' ws r t,dR r x=1->0<((lt' ws r t).map fun k=>(dR r k:Rat)*xi (wn ws k) t).sum:=by
 obtain⟨c,d⟩:=jc (fun k=>xi (wn ws k) t) (lt' ws r t)
 have A:∀x∈lt' ws r t,0<=((lt' ws r t).map fun y=>if xi (wn ws x) t<=xi (wn ws y) t then(dR r y:Rat)else 0).sum:=fun x b=>by
  rw[pK hU hF hf R b]
  have:=xI hU hF hf R b
  have p:0<=Bw ws (dR r) x+dR r x:=()
  exact_mod_cast p
 have key:=BA (fun k=>(dR r k:Rat)) (fun k=>xi (wn ws k) t) _ (lt' ws r t) rfl B7 (yy hU hF) A c d;have e:=fy (fun k=>(dR r k:Rat)) (fun k=>xi (wn ws k) t) c 0 (lt' ws r t);rw[zw hU hF hf R t,Rat.zero_mul,Rat.add_zero]at e
 have g:((lt' ws r t).map fun k=>(dR r k:Rat)*xi (wn ws k) t).sum=((lt' ws r t).map fun k=>(dR r k:Rat)*(xi (wn ws k) t-c)).sum:=by
  rw[e]
  congr 1
  exact Ln fun k _=>by grind
 rw[g];refine⟨key.1,fun x b h=>key.2 x b ?_⟩;rw[pK hU hF hf R b];have:=xI hU hF hf R b;have p:0<Bw ws (dR r) x+dR r x:=()
 exact_mod_cast p
include hU hF hf R in
theorem vR{t:Int}(a:Pf ws (dR r) f=0):((lt' ws r t).map fun k=>(dR r k:Rat)*xi (wn ws k) t).sum<=0:=by
 obtain⟨c,d⟩:=jc (fun k=>xi (wn ws k) t) (lt' ws r t)
 have neg:∀(g:Nat->Rat) (l:List Nat),(l.map fun x=>-g x).sum=-(l.map g).sum:=fun g l=>by
  induction l with
  |nil=>rfl
  |cons x l h=>simp only[IY,JU];rw[h];grind
 have A:∀x∈lt' ws r t,0<=((lt' ws r t).map fun y=>if xi (wn ws x) t<=xi (wn ws y) t then -(dR r y:Rat)else 0).sum:=fun x b=>by
  have e:((lt' ws r t).map fun y=>if xi (wn ws x) t<=xi (wn ws y) t then -(dR r y:Rat)else 0).sum=-((lt' ws r t).map fun y=>if xi (wn ws x) t<=xi (wn ws y) t then(dR r y:Rat)else 0).sum:=by
   rw[<-neg]
   congr 1
   exact Ln fun y _=>by split<;>grind
  rw[e,pK hU hF hf R b]
  have:=xI hU hF hf R b
  have p:Bw ws (dR r) x+dR r x<=0:=()
  have p:((Bw ws (dR r) x+dR r x:Int):Rat)<=0:=by exact_mod_cast p
  grind
 have key:=(BA (fun k=>-(dR r k:Rat)) (fun k=>xi (wn ws k) t) _ (lt' ws r t) rfl B7 (yy hU hF) A c d).1;have e:=fy (fun k=>-(dR r k:Rat)) (fun k=>xi (wn ws k) t) c 0 (lt' ws r t);rw[neg,zw hU hF hf R t]at e
 have i:-((lt' ws r t).map fun k=>(dR r k:Rat)*xi (wn ws k) t).sum=((lt' ws r t).map fun k=>-(dR r k:Rat)*(xi (wn ws k) t-0)).sum:=by
  rw[<-neg]
  congr 1
  exact Ln fun k _=>by grind
 rw[e,<-i]at key;grind
include hU hF hf R in
theorem wO:decide (0<(r.map (NO ws)).sum)=decide (Pf ws (dR r) f=1):=by
 obtain⟨t,k,L,_⟩:=d6 hU hF hf R;have c:=iI hU hF hf R;rw[MK];rcases gF hU hF hf R L with⟨_,a⟩|⟨d,m,a⟩
 ·rw[a];constructor
  ·intro h;exfalso;have h:(0:Rat)<(((r.map (NO ws)).sum:Int):Rat):=ba h;rw[c]at h
   have n:∀n:Nat,sq n (fun t=>((lt' ws r (t:Int)).map fun k=>(dR r k:Rat)*xi (wn ws k) (t:Int)).sum)<=0:=fun n=>by
    induction n with
    |zero=>exact Rat.le_refl
    |succ n l=>
     rw[sq]
     have:=vR hU hF hf R (t:=(n:Int)) a
     grind
   exact absurd h (Rat.not_lt.mpr (n 3000))
  ·intro h;cases h
 ·rw[a];refine⟨fun _=>rfl,fun _=>?_⟩;have W:=aL hU L.k1
  have t0:0<=t/\t<3000:=by
   have:=W.a;have:=W.b;have e:=L.e
   unfold l1 la at e
   omega
  have g:k∈lt' ws r t:=iM.mpr ⟨L.k1,aX.mpr ⟨by have:=L.e;omega,by have:=L.e;have:=W.lt;omega⟩,by unfold dR;rw[MF m,ME d];decide⟩;have i:dR r k=1:=by unfold dR;rw[MF m,ME d];rfl
  have p:(0:Rat)<(((r.map (NO ws)).sum:Int):Rat):=by rw[c];refine sq_pos (j:=t.toNat) ?_ () fun n _=>(uX hU hF hf R a).1;rw[show((t.toNat:Nat):Int)=t by omega];exact(uX hU hF hf R a).2 k g i
  exact_mod_cast p
end
theorem oh{ws:List Wl}(i:∀w∈ws,Mn w)(hF:PF ws){r c:List Nat}{t t':Int}{k g:Nat}(f:∀j,2*j∈c\/2*j+1∈c->j<ws.length)(L:RA ws r t k)(d:RA ws c t' g)(D:t<=t')(bl:t=t'->k≠g/\Mr (wn ws g) (wn ws k)=MC):Bw ws (dR c) k=0/\dR c k=0:=by
 have y:∀j,2*j∈c\/2*j+1∈c->sp (wn ws j) t=MC->Mr (wn ws k) (wn ws j)=MC->False:=fun j m s a=>by
  rw[aX]at s
  have ge:=d.ge j m
  have l:t=t':=()
  obtain⟨ne,b⟩:=bl l
  have K:=aL i L.k1
  have n:=aL i d.k1
  have J:=aL i (f j m)
  have E:=K.lt
  have A:=n.lt
  have B:=L.e
  have C:=d.e
  have p:sp (wn ws k) t=MC:=aX.mpr ⟨(),()⟩
  have u:sp (wn ws g) t=MC:=aX.mpr ⟨(),()⟩
  have v:sp (wn ws j) t=MC:=aX.mpr s
  have o:k≠j:=fun z=>by subst z;rw[cv K]at a;cases a
  have x1:=(dh K J (a9 hF L.k1 (f j m) o) p v).mp a
  have F:=(dh n K (a9 hF d.k1 L.k1 (fun z=>ne z.symm)) u p).mp b
  have h:g≠j:=fun z=>by subst z;grind
  have x:=(dh n J (a9 hF d.k1 (f j m) h) u v).mpr (by grind)
  have:=d.low j m ()
  rw[this]at x;cases x
 constructor
 ·unfold Bw OK;refine cL fun j G=>?_;by_cases m:2*j∈c\/2*j+1∈c
  ·refine ME fun q=>?_;rw[Jn,L.e]at q;exact y j m q.1 q.2
  ·have:dR c j=0:=by unfold dR;rw[ME fun z=>m (.inl z),ME fun z=>m (.inr z)];rfl
   rw[this];split<;>rfl
 ·have m:¬(2*k∈c\/2*k+1∈c):=fun m=>by
   have ge:=d.ge k m
   have B:=L.e
   have l:t=t':=()
   have:=d.low k m ()
   rw[(bl l).2]at this;cases this
  unfold dR;rw[ME fun z=>m (.inl z),ME fun z=>m (.inr z)];rfl
section
variable{ws:List Wl}(hU:∀w∈ws,Mn w)(hF:PF ws){f:Nat}(hf:f<2*ws.length){r:List Nat}(R:gu ws f r)
include hU hF hf R
theorem kr:∀j,2*j∈r\/2*j+1∈r->j<ws.length:=fun j m=>by rcases m with m|m<;>(have:=cW hU hF hf R _ m;omega)
theorem vY{o:Nat}(c:o<2*ws.length){i:List Nat}(j:gu ws o i)(x:∀g∈r,g∉i)(a:Pf ws (dR r) f=1)(E:Pf ws (dR i) o=1)(b:Pf ws (dR i) f=1)(y:Pf ws (dR r) o=1):False:=by
 obtain⟨t,k,L,_⟩:=d6 hU hF hf R;obtain⟨l,d,h,_⟩:=d6 hU hF c j
 have m:2*k∈r:=by
  rcases gF hU hF hf R L with⟨_,z⟩|⟨_,z,_⟩
  ·omega
  ·exact z
 have u:2*d∈i:=by
  rcases gF hU hF c j h with⟨_,z⟩|⟨_,z,_⟩
  ·omega
  ·exact z
 rw[<-bI hU hF hf R (aQ hU hF c j) m,f7]at b;rw[<-bI hU hF c j (aQ hU hF hf R) u,f7]at y;have w:=kr hU hF hf R;have A:=kr hU hF c j;have ne:k≠d:=fun z=>by subst z;exact x _ m u
 have K:=aL hU L.k1;have v:=aL hU h.k1;have G:=K.lt;have B:=v.lt;have H:=L.e;have C:=h.e;have F:=a9 hF L.k1 h.k1 ne
 have go:(t<=l/\(t=l->Mr (wn ws d) (wn ws k)=MC))\/(l<=t/\(l=t->Mr (wn ws k) (wn ws d)=MC)):=by
  rcases J4 t l with z|z|z
  ·exact .inl ⟨(),fun e=>()⟩
  ·have D:max (l1 (wn ws k)) (l1 (wn ws d))<min (l2 (wn ws k)) (l2 (wn ws d)):=cz.mpr ⟨(),(),(),()⟩;have n:=gg K v F D;cases q:Mr (wn ws k) (wn ws d)with
   |true=>exact .inr ⟨(),fun _=>rfl⟩
   |false=>rw[q]at n;exact .inl ⟨(),fun _=>n⟩
  ·exact .inr ⟨(),fun e=>()⟩
 rcases go with⟨p,s⟩|⟨p,s⟩
 ·have:=oh hU hF A L h p fun e=>⟨ne,s e⟩;omega
 ·have:=oh hU hF w h L p fun e=>⟨fun z=>ne z.symm,s e⟩;omega
theorem pC{t:Int}{k:Nat}(L:RA ws r t k)(m:2*k+1∈r):∀j,j<ws.length->l1 (wn ws j)=t->Mr (wn ws k) (wn ws j)=MD:=fun j g y=>by
 by_cases ne:k=j
 ·subst ne;exact cv (aL hU g)
 ·cases z:Mr (wn ws k) (wn ws j)with
  |false=>rfl
  |true=>
   exfalso
   have K:=aL hU L.k1
   have J:=aL hU g
   have B:=L.e
   have F:=a9 hF L.k1 g ne
   have C:=cW hU hF hf R _ m
   have H:=mG (wn ws k)
   have M:=K.lt
   have e2:fx (2*k+1)=2*k:=by unfold fx;rw[ME ()];omega
   have l:fb ws (2*k+1)=fa ws (2*k):=by have:=d8 ws (2*k+1);rw[e2]at this;exact this.symm
   have D:fa ws (2*j)=fb ws (2*k+1):=by rw[l];exact uc hU () () (by rw[cf,cf,B,y])
   have c:2*j∈cV ws (2*k+1):=bD.mpr ⟨(),D,()⟩
   have A:=jy K J F ()
   rw[A.1,ML]at z
   have b:=ky hU hF hf R _ m
   rcases f6 hU hF C with⟨q,_⟩|⟨b1,v⟩
   ·rw[q]at c;cases c
   ·obtain⟨N,a,n⟩:=bD.mp b1;rw[e2]at n
    have O:bh ws (2*k+1)%2=0:=by
     rcases Kg (bh ws (2*k+1))with h|h
     ·exact h
     ·exfalso;obtain⟨i,o⟩:∃i,bh ws (2*k+1)=2*i+1:=⟨bh ws (2*k+1)/2,()⟩;rw[o]at b a;have ge:=L.ge i (.inr b);have P:=(aL hU (kr hU hF hf R i (.inr b))).lt;have:la (fa ws (2*i+1)).1 (fa ws (2*i+1)).2=la (fa ws (2*k)).1 (fa ws (2*k)).2:=by rw[a,l]
      rw[mm,cf]at this;omega
    obtain⟨i,o⟩:∃i,bh ws (2*k+1)=2*i:=⟨bh ws (2*k+1)/2,()⟩;rw[o]at b v a n;have x:=kr hU hF hf R i (.inl b);have I:=aL hU x
    have E:l1 (wn ws i)=t:=by
     have:la (fa ws (2*i)).1 (fa ws (2*i)).2=la (fa ws (2*k)).1 (fa ws (2*k)).2:=by rw[a,l]
     rw[cf,cf]at this
     omega
    have u:k≠i:=fun e=>n (by rw[e]);have G:=jy K I (a9 hF L.k1 x u) ();have d:=L.low i (.inl b) E;rw[G.1]at d;have d:=of_decide_eq_false d;rcases v _ c with q|q
    ·have:i=j:=()
     subst this;exact d z
    ·unfold NT at q;rw[e2,gR,gR,gR,gU]at q;rcases gb (vc (dw (wn ws k)) (dw (wn ws i)))with p|p|p<;>rcases gb (vc (dw (wn ws k)) (dw (wn ws j)))with s|s|s<;>omega
end
theorem nL{dx dy e f:Int}(h:0<100*dx+dy)(c:-20<=dy/\dy<=20)(z:dx*f=dy*e)(n:¬(e<0\/(e=0/\f<0))):0<=100*e+f:=by
 by_cases a:dx=0
 ·subst a;have:dy*e=0:=()
  rcases Int.mul_eq_zero.mp this with h|h<;>omega
 ·have dp:0<dx:=()
  have b:0<=e:=()
  have k:=LR (():0<=100*dx+dy) b;have id:(100*e+f)*dx=(100*dx+dy)*e:=by grind
  by_cases g:100*e+f<0
  ·have:=Jp g dp;omega
  ·omega
def R6(v:Wl)(m x y:Int):Prop:=(v.2.2.1-v.1)*(y-m*v.2.1)=(v.2.2.2-v.2.1)*(x-m*v.1)/\¬(x<m*v.1\/(x=m*v.1/\y<m*v.2.1))/\¬(m*v.2.2.1<x\/(m*v.2.2.1=x/\m*v.2.2.2<y))
theorem R6.la{v:Wl}{m x y:Int}(a:Mn v)(h:R6 v m x y):m*l1 v<=100*x+y/\100*x+y<=m*l2 v:=by obtain⟨z,c,g⟩:=h;have i:=a.lt;have j:=a.b;have hd:=a.d;unfold l1 l2 SD.la at *;have k:=nL (dx:=v.2.2.1-v.1) (dy:=v.2.2.2-v.2.1) (e:=x-m*v.1) (f:=y-m*v.2.1) () () z ();have l:=nL (dx:=v.2.2.1-v.1) (dy:=v.2.2.2-v.2.1) (e:=m*v.2.2.1-x) (f:=m*v.2.2.2-y) () () (by grind) ();constructor<;>grind
def sL(w:Wl)(m p q:Int):Int:=(w.2.2.1-w.1)*(q-m*w.2.1)-(w.2.2.2-w.2.1)*(p-m*w.1)
def RE(w:Wl)(m p q:Int):Prop:=¬(p<m*w.1\/(p=m*w.1/\q<m*w.2.1))/\(p<m*w.2.2.1\/(p=m*w.2.2.1/\q<m*w.2.2.2))
instance(w:Wl)(m p q:Int):Decidable (RE w m p q):=by unfold RE;infer_instance
section
variable{ws:List Wl}(hU:∀w∈ws,Mn w)(hF:PF ws)
abbrev BL(ws:List Wl)(m p q:Int)(k:Nat):Prop:=RE (wn ws k) m p q/\0<sL (wn ws k) m p q
def Vs(ws:List Wl)(d:Nat->Int)(m p q:Int):Int:=sg ws.length fun k=>if BL ws m p q k then d k else 0
include hU hF in
end
section
variable{ws:List Wl}(hU:∀w∈ws,Mn w)(hF:PF ws){d:Nat->Int}(fl:Flow ws d)
theorem Cp{m z:Int}(a:0<m):(0<m*z↔0<z)/\(m*z<0↔z<0)/\(m*z≠0↔z≠0):=by
 rcases J4 z 0 with h|h|h
 ·have:=Jv a h;omega
 ·subst h;simp
 ·have:=Jy a h;omega
include hU hF fl in
end
section
variable{ws:List Wl}(hU:∀w∈ws,Mn w)(hF:PF ws)
theorem jB:∀{i:Nat} {d:List (List Nat)},OG ws i d->∀g,g<i->∃r∈d,g∈r
 |0,d,_,g,hg=>absurd hg ()
 |i+1,d,⟨qs,h1,h2⟩,g,hg=>by
  by_cases e:g=i
  ·subst e
   rcases h2 with⟨m,rfl⟩|⟨_,r,⟨k,n,c,rfl⟩,rfl⟩
   ·obtain⟨r,a,b⟩:=List.mem_flatten.mp m
    exact⟨r,a,b⟩
   ·exact⟨rn ws g k,by simp,d7.mpr ⟨0,(),rfl⟩⟩
  ·obtain⟨r,a,b⟩:=jB h1 g ()
   rcases h2 with⟨_,rfl⟩|⟨_,f,_,rfl⟩
   ·exact⟨r,a,b⟩
   ·exact⟨r,Kn _ a,b⟩
theorem dn:∀{i:Nat} {c:List (List Nat)},OG ws i c->∀r∈c,∃f,f<i/\gu ws f r
 |0,c,h,r,hr=>by rw[show c=[]from h]at hr;cases hr
 |i+1,c,⟨qs,h1,h2⟩,r,hr=>by
  rcases h2 with⟨_,rfl⟩|⟨_,d,R,rfl⟩
  ·obtain⟨f,a,b⟩:=dn h1 r hr
   exact⟨f,(),b⟩
  ·rcases Jj.mp hr with z|z
   ·obtain⟨f,a,b⟩:=dn h1 r z
    exact⟨f,(),b⟩
   ·rw[Jx.mp z];exact⟨i,(),R⟩
theorem rH{f:Nat}{r:List Nat}(R:gu ws f r){C:Nat->Prop}(a:∀g,C g->C (bh ws g)){g:Nat}(b:g∈r)(h:C g):C f:=by
 obtain⟨k,n,e,rfl⟩:=R;obtain⟨i,d,rfl⟩:=d7.mp b
 have go:∀j,C (NJ ws f (i+j)):=fun j=>by
  induction j with
  |zero=>exact h
  |succ j c=>exact a _ c
 rw[<-e];have:=go (k-i);rw[show i+(k-i)=k by omega]at this;exact a _ this
include hU hF in
theorem fM:∀{i:Nat} {a:List (List Nat)},i<=2*ws.length->OG ws i a->∀r∈a,∀b∈a,∀g,g∈r->g∈b->r=b
 |0,a,_,h,r,hr,_,_,_,_,_=>by rw[show a=[]from h]at hr;cases hr
 |i+1,a,hi,⟨qs,h1,h2⟩,r,hr,b,hr',g,hg,hg'=>by
  rcases h2 with⟨_,rfl⟩|⟨j,q,R,rfl⟩
  ·exact fM () h1 r hr b hr' g hg hg'
  ·have new:∀x∈qs,∀g,g∈q->g∈x->False:=fun x e g k d=>by
    obtain⟨f,n,l⟩:=dn h1 x e
    exact j (List.mem_flatten.mpr ⟨x,e,rH R (C:=fun y=>y∈x) (fun y m=>ky hU hF () l y m) k d⟩)
   rcases Jj.mp hr with z|z<;>rcases Jj.mp hr' with c|c
   ·exact fM () h1 r z b c g hg hg'
   ·rw[Jx.mp c]at hg';exact(new r z g hg' hg).elim
   ·rw[Jx.mp z]at hg;exact(new b c g hg hg').elim
   ·rw[Jx.mp z,Jx.mp c]
theorem fB:∀{i:Nat} {d:List (List Nat)},OG ws i d->d.Nodup
 |0,d,h=>by rw[show d=[]from h];exact List.nodup_nil
 |i+1,d,⟨qs,h1,h2⟩=>by
  rcases h2 with⟨_,rfl⟩|⟨f,q,⟨k,n,c,rfl⟩,rfl⟩
  ·exact fB h1
  ·rw[LL]
   refine⟨fB h1,by simp,fun a g b j e=>?_⟩
   rw[Jx.mp j]at e
   subst e
   exact f (List.mem_flatten.mpr ⟨_,g,d7.mpr ⟨0,(),rfl⟩⟩)
end
theorem t9(ws:List Wl):∀(l:List Nat) (a:Vc),(la (l.foldl (fun a g=>mn a (fa ws g)) a).1 (l.foldl (fun a g=>mn a (fa ws g)) a).2<=la a.1 a.2)/\(∀g∈l,la (l.foldl (fun a g=>mn a (fa ws g)) a).1 (l.foldl (fun a g=>mn a (fa ws g)) a).2<=tf ws g)/\(l.foldl (fun a g=>mn a (fa ws g)) a=a\/∃g∈l,l.foldl (fun a g=>mn a (fa ws g)) a=fa ws g)
 |[],a=>⟨KN _,(fun g b=>by cases b),.inl rfl⟩
 |x::l,a=>by
  obtain⟨f,c,d⟩:=t9 ws l (mn a (fa ws x))
  rw[Lh]
  generalize l.foldl (fun a g=>mn a (fa ws g)) (mn a (fa ws x))=z at *
  have m:(mn a (fa ws x)=a\/mn a (fa ws x)=fa ws x)/\la (mn a (fa ws x)).1 (mn a (fa ws x)).2<=la a.1 a.2/\la (mn a (fa ws x)).1 (mn a (fa ws x)).2<=tf ws x:=by
   unfold mn tf
   split
   ·exact⟨.inl rfl,KN _,()⟩
   ·exact⟨.inr rfl,(),KN _⟩
  refine⟨(),fun g b=>?_,?_⟩
  ·rcases Jo.mp b with e|e
   ·subst e;omega
   ·exact c g e
  ·rcases d with e|⟨g,b,e⟩
   ·rcases m.1 with q|q
    ·exact .inl (e.trans q)
    ·exact .inr ⟨x,K0,e.trans q⟩
   ·exact .inr ⟨g,JF _ b,e⟩
theorem ko(ws:List Wl){r:List Nat}(h:r≠[]):(∀g∈r,la (fc ws r).1 (fc ws r).2<=tf ws g)/\∃g∈r,fc ws r=fa ws g:=by
 unfold fc Q9;rw[L5];obtain⟨_,a,b⟩:=t9 ws r (fa ws (r.headD 0));refine⟨a,?_⟩;rcases b with e|e
 ·cases r with
  |nil=>exact absurd rfl h
  |cons g r=>exact⟨g,K0,e⟩
 ·exact e
theorem qh(v:Int)(x:Nat):∀(r:List Nat) (L:List Int),x<L.length->(r.foldl (fun L g=>L.set g v) L)[x]?=if x∈r then MA v else L[x]?
 |[],L,_=>by simp
 |g::r,L,h=>by
  rw[Lh,qh v x r (L.set g v) (by rw[List.length_set];exact h)]
  by_cases m:x∈r
  ·rw[MF m,MF (JF _ m)]
  ·rw[ME m]
   by_cases e:x=g
   ·subst e;rw[MF K0,List.getElem?_set_self h]
   ·rw[ME (fun z=>(Jo.mp z).elim e m),List.getElem?_set_ne (fun z=>e z.symm)]
theorem kQ{L:List Int}{r:List Nat}{v:Int}{x:Nat}(h:x<L.length):(fill L r v)[x]?=if x∈r then MA v else L[x]?:=by unfold fill iw;rw[L5];exact qh v x r L h
theorem xW{m:Nat}{outs:List (List Nat)}(c:∀(i j:Nat) (r q:List Nat) (g:Nat),outs[i]?=MA r->outs[j]?=MA q->g∈r->g∈q->i=j){j:Nat}{r:List Nat}(a:outs[j]?=MA r){x:Nat}(b:x∈r)(d:x<m):∀i,j<i->(fO m outs i)[x]?=MA ((j+1:Nat):Int)
 |0,h=>absurd h ()
 |i+1,h=>by
  rw[fO,kQ (by rw[iE];exact d)]
  by_cases e:i=j
  ·subst e;rw[a];exact MF b
  ·have f:x∉(outs[i]?).getD []:=fun z=>by
    cases q:outs[i]? with
    |none=>rw[q]at z;cases z
    |some s=>rw[q]at z;exact e (c i j s r x q a z b)
   rw[ME f]
   exact xW c a b d i ()
theorem kJ{ws:List Wl}{ins:List (List Nat)}{L:List Int}{ps:List Vc}{x:Nat}(a:x<L.length){i:Nat}:∀n:Nat,(∀j,i<=j->j<i+n->x∉(ins[(lZ ws ins ((ps[j]?).getD (0,0)) ins.length).getD 0]?).getD [])->(fS ws ins L ps (i+n))[x]?=(fS ws ins L ps i)[x]?
 |0,_=>rfl
 |n+1,h=>by
  show(fS ws ins L ps (i+n+1))[x]?=_
  rw[fS,kQ (by rw[jR];exact a),ME (h (i+n) () ())]
  exact kJ a n fun j b c=>h j b ()
theorem Dv{c:Vc}(a:N8 c)(w:Wl):Nj w (la c.1 c.2)=sd w c.1 c.2:=by have b:=a.1;have d:=a.2;unfold Nj;rw[show la c.1 c.2/100=c.1 by unfold la;omega,show la c.1 c.2%100=c.2 by unfold la;omega]
section
variable{ws:List Wl}(hU:∀w∈ws,Mn w)(hF:PF ws)
include hU in
theorem tD{c:Vc}(f:N8 c){j:Nat}:((j:Nat):Int)∈bK ws 1 c.1 c.2↔j<ws.length/\l1 (wn ws j)<la c.1 c.2/\la c.1 c.2<l2 (wn ws j)/\0<Nj (wn ws j) (la c.1 c.2):=by
 rw[Dv f];have k:Nf 1 (wn ws j)=wn ws j:=by unfold Nf;simp
 have key:((j:Nat):Int)∈bK ws 1 c.1 c.2↔j<ws.length/\bB ws 1 c.1 c.2 j=MC:=by
  unfold bK;rw[JH];constructor
  ·rintro⟨i,g,e⟩;have:i=j:=()
   subst this;rw[J6,Ju]at g;exact g
  ·intro h;exact⟨j,J6.mpr ⟨Ju.mpr h.1,h.2⟩,rfl⟩
 rw[key];unfold bB Rn;rw[Jn,Jn,ML,ML,ML,LJ,LJ,XT];show _/\(l1 (wn ws j)<=_/\_<l2 (wn ws j))/\0<sd (Nf 1 (wn ws j)) c.1 c.2↔_;rw[k];constructor
 ·rintro⟨a,⟨b,d⟩,e⟩;refine⟨a,?_,d,e⟩;by_cases z:l1 (wn ws j)=la c.1 c.2
  ·exfalso;obtain⟨x,y⟩:=gB (aL hU a).b f.2 (show la (wn ws j).1 (wn ws j).2.1=la c.1 c.2 from z);unfold sd NH at e;rw[<-x,<-y,Int.sub_self,Int.sub_self,Int.mul_zero,Int.mul_zero]at e;omega
  ·omega
 ·rintro⟨a,b,d,e⟩;exact⟨a,⟨(),d⟩,e⟩
include hU in
theorem DU{d:Nat->Int}{c:Vc}(a:N8 c)(h:bK ws 1 c.1 c.2=[]):Zc ws d (la c.1 c.2)=0:=by unfold Zc;refine cL fun j b=>ME fun q=>?_;have:=(tD hU a).mpr ⟨b,q⟩;rw[h]at this;cases this
include hU hF in
theorem tq{d:Nat->Int}(H:Flow ws d){c:Vc}(B:N8 c){k:Nat}(f:k<ws.length)(C:l1 (wn ws k)=la c.1 c.2)(h:bK ws 1 c.1 c.2≠[]) :
 ∃v,v<ws.length/\(vB ws (bK ws 1 c.1 c.2)).toNat=v/\l1 (wn ws v)<la c.1 c.2/\Zc ws d (la c.1 c.2)=Pf ws d (2*v):=by
 obtain⟨D,E,I,L⟩:=zx hU hF (show(0:Int)<1 by decide) (fun k f=>jH f) h (qL ws 1 c.1 c.2)
 have s:=i8 (jH E)
 obtain⟨v,rfl⟩:∃v:Nat,D=(v:Int):=⟨D.toNat,()⟩
 have M:vB ws (bK ws 1 c.1 c.2)=(v:Int):=by unfold vB;rw[L];rfl
 obtain⟨g,p,r,A⟩:=(tD hU B).mp E
 refine⟨v,g,by rw[M];omega,p,?_⟩
 generalize N:la c.1 c.2=t at *
 have V:=aL hU g
 have K:=aL hU f
 have R:=K.lt
 have u:sp (wn ws v) t=MC:=aX.mpr ⟨(),r⟩
 have G:sp (wn ws k) t=MC:=aX.mpr ⟨(),()⟩
 have l:v≠k:=fun z=>by subst z;omega
 have m:=(dt V K (a9 hF g f l) p r (.inl C)).2
 rw[MI A]at m
 have O:=(dh K V (a9 hF f g (fun z=>l z.symm)) G u).mp m
 rw[f7,<-gJ hU hF H g u]
 have one:d v=sg ws.length (fun j=>if j=v then d j else 0):=by rw[fY,MF g]
 rw[one]
 unfold OK Zc
 rw[<-du]
 refine aW fun j n=>?_
 show _=(if(sp (wn ws j) t&&Mr (wn ws v) (wn ws j))=MC then d j else 0)+(if j=v then d j else 0)
 by_cases e:j=v
 ·subst e
  rw[MF ⟨p,r,A⟩,cv V,LA,ME ⋯,MF rfl,Int.zero_add]
 ·rw[ME e,Int.add_zero]
  have J:=aL hU n
  have F:=a9 hF g n (fun z=>e z.symm)
  by_cases q:l1 (wn ws j)<t/\t<l2 (wn ws j)/\0<Nj (wn ws j) t
  ·have P:((j:Nat):Int)∈bK ws 1 c.1 c.2:=(tD hU B).mpr ⟨n,by rw[N];exact q⟩
   have a:Mr (wn ws v) (wn ws j)=MC:=by
    rcases I _ (JH.mpr ⟨_,P,rfl⟩)with z|z
    ·exfalso
     have z:wn ws j=wn ws v:=z
     exact F.ne ⟨by rw[z],by rw[z]⟩
    ·exact z.1
   rw[MF q,aX.mpr ⟨(),q.2.1⟩,a,MF (show(MC&&MC)=MC from rfl)]
  ·rw[ME q,ME]
   intro z
   rw[Jn]at z
   obtain⟨i,a⟩:=z
   have Q:=(dh V J F u i).mp a
   rw[aX]at i
   by_cases y:l1 (wn ws j)=t
   ·have b:=(dt V J F p r (.inl y)).2
    rw[MI A]at b
    have:=(dh J V F.swap (aX.mpr i) u).mp b
    grind
   ·have o:j≠k:=fun z=>by subst z;omega
    have b:=(dt J K (a9 hF n f o) (():l1 (wn ws j)<t) i.2 (.inl C)).2
    have x:=(dh K J (a9 hF f n (fun z=>o z.symm)) G (aX.mpr i)).mpr (by grind)
    rw[x]at b
    exact q ⟨(),i.2,MJ b.symm⟩
include hU hF in
theorem qG{f:Nat}(hf:f<2*ws.length){r:List Nat}(R:gu ws f r){t:Int}{k:Nat}(L:RA ws r t k)(m:2*k+1∈r){d:Nat->Int}(h:Flow ws d):Pf ws d f=Zc ws d t:=by
 rw[<-bI hU hF hf R h m,iA];unfold Bw OK Zc;have K:=aL hU L.k1;have all:=pC hU hF hf R L m;have g:=L.e;rw[g];refine aW fun j c=>?_;show(if(sp (wn ws j) t&&Mr (wn ws k) (wn ws j))=MC then d j else 0)=_;have J:=aL hU c;by_cases s:sp (wn ws j) t=MC
 ·have a:=aX.mp s;rw[s,Kr];by_cases y:l1 (wn ws j)=t
  ·rw[all j c y,ME ⋯,ME ()]
  ·have ne:j≠k:=fun z=>by subst z;omega
   have b:=(dt J K (a9 hF c L.k1 ne) (():l1 (wn ws j)<t) a.2 (.inl g)).2;rw[b];by_cases q:0<Nj (wn ws j) t
   ·rw[MF (by simpa using q),MF ⟨(),a.2,q⟩]
   ·rw[ME (by simpa using q),ME fun z=>q z.2.2]
 ·have a:sp (wn ws j) t=MD:=by simpa using s
  rw[a,JY,ME ⋯,ME];intro q;exact s (aX.mpr ⟨(),q.2.1⟩)
include hU hF in
theorem iF{f:Nat}(hf:f<2*ws.length){r:List Nat}(R:gu ws f r):∃k,RA ws r (la (fc ws r).1 (fc ws r).2) k/\N8 (fc ws r)/\((aK ws r=MC/\Pf ws (dR r) f=1)\/(aK ws r=MD/\2*k+1∈r)):=by
 obtain⟨t,k,L,g,d,l,mn⟩:=d6 hU hF hf R;obtain⟨j,h,c,i⟩:=ko ws (Kq d);have a:=j g d;have b:=mn h c;have e:la (fc ws r).1 (fc ws r).2=t:=by unfold tf at b;rw[<-i]at b;omega
 rw[e];refine⟨k,L,by rw[i];exact pE hU (cW hU hF hf R h c),?_⟩;have o:=wO hU hF hf R;rcases gF hU hF hf R L with⟨m,z⟩|⟨_,_,z⟩
 ·right;refine⟨?_,m⟩;unfold aK;rw[o,z];rfl
 ·left;refine⟨?_,z⟩;unfold aK;rw[o,z];rfl
end
theorem nH{ws:List Wl}{ins:List (List Nat)}:∀{n i:Nat},i<n->fc ws ((ins[i]?).getD [])∈cC ws ins n
 |0,i,h=>absurd h ()
 |n+1,i,h=>by
  unfold cC
  dsimp only
  by_cases e:i=n
  ·subst e
   split
   ·assumption
   ·exact Jb _ (Jx.mpr rfl)
  ·have:=nH (ws:=ws) (ins:=ins) (n:=n) (i:=i) ()
   split
   ·exact this
   ·exact Kn _ this
section
variable{ws:List Wl}(hU:∀w∈ws,Mn w)(hF:PF ws)
include hU hF in
theorem p6{i:List (List Nat)}(G:OG ws (2*ws.length) i){r c:List Nat}(p:r∈i)(g:c∈i)(o:aK ws r=MD)(o':aK ws c=MD)(e:fc ws r=fc ws c):r=c:=by
 obtain⟨f,s,R⟩:=dn G r p;obtain⟨B,h,t⟩:=dn G c g;obtain⟨k,L,_,q⟩:=iF hU hF s R;obtain⟨j,d,_,x⟩:=iF hU hF h t
 have m:2*k+1∈r:=by
  rcases q with⟨z,_⟩|⟨_,z⟩
  ·rw[o]at z;cases z
  ·exact z
 have u:2*j+1∈c:=by
  rcases x with⟨z,_⟩|⟨_,z⟩
  ·rw[o']at z;cases z
  ·exact z
 rw[<-e]at d;have y:=L.e;have l:=d.e;by_cases ne:k=j
 ·subst ne;exact fM hU hF (IX _) G r p c g _ m u
 ·exfalso;have a:=pC hU hF s R L m j d.k1 l;have b:=pC hU hF h t d u k L.k1 y;have K:=aL hU L.k1;have v:=aL hU d.k1;have C:=K.lt;have A:=v.lt;have n:=gg K v (a9 hF L.k1 d.k1 ne) (cz.mpr ⟨(),(),(),()⟩);rw[a,b]at n;cases n
include hU hF in
theorem wH{L:List Int}(il:dF ws L):∃h,OG ws (2*ws.length) h/\(∀(i:Nat) (S:List Nat),(h.filter (aK ws))[i]?=MA S->∀g∈S,L[g]?=MA ((i+1:Nat):Int))/\∀r∈h,aK ws r=MD->∀g∈r,L[g]?=MA (O0 ws L (fc ws r)):=by
 obtain⟨h,ps,G,pm,up,rfl⟩:=il;refine⟨h,G,?_⟩;have Q:∀S,S∈h.filter (aK ws)↔S∈h/\aK ws S=MC:=fun S=>J6;have mI:∀S,S∈(h.filter fun r=>!aK ws r)↔S∈h/\aK ws S=MD:=fun S=>by rw[J6];simp
 have T:(h.filter (aK ws)).Nodup:=KO _ (fB G);have U:=fM hU hF (IX _) G;have lt:∀r∈h,∀g∈r,g<2*ws.length:=fun r t g s=>by obtain⟨f,J,R⟩:=dn G r t;exact cW hU hF J R g s
 generalize eo:h.filter (aK ws)=outs at *;generalize ei:(h.filter fun r=>!aK ws r)=ins at *;have K:(fO (2*ws.length) outs outs.length).length=2*ws.length:=iE _ _ _
 have step:∀j,j<ps.length->∃q c,ps[j]?=MA c/\(ins[(lZ ws ins ((ps[j]?).getD (0,0)) ins.length).getD 0]?).getD []=q/\q∈h/\aK ws q=MD/\fc ws q=c:=fun j B=>by
  have C:ps[j]?=MA ps[j]:=IS B
  have V:ps[j]∈cC ws ins ins.length:=pm.mem_iff.mp (JS B)
  obtain⟨i,a,b,c⟩:=gX V
  have em:ins[i]?=MA ins[i]:=IS b
  have q:=(mI _).mp (JS b)
  rw[em]at c
  refine⟨ins[i],ps[j],C,?_,q.1,q.2,c⟩
  rw[C]
  show(ins[(lZ ws ins ps[j] ins.length).getD 0]?).getD []=_
  rw[a]
  show(ins[i]?).getD []=_
  rw[em];rfl
 constructor
 ·intro i S W g s;have X:=(Q S).mp (IZ W);have D:=lt S X.1 g s
  have k1:=xW (m:=2*ws.length) (outs:=outs) (fun i j r q g er eq t hq=>by
   have a:=(Q r).mp (IZ er)
   have b:=(Q q).mp (IZ eq)
   have:=U r a.1 q b.1 g t hq
   subst this
   obtain⟨M,e1⟩:=J1.mp er
   obtain⟨E,e2⟩:=J1.mp eq
   exact(List.getElem_inj T).mp (e1.trans e2.symm)) W s D outs.length (J1.mp W).1
  have F:=kJ (ws:=ws) (ins:=ins) (L:=fO (2*ws.length) outs outs.length) (ps:=ps) (x:=g) (by rw[K];exact D) (i:=0) ps.length fun j _ E z=>by
   obtain⟨q,c,_,eq,N,O,_⟩:=step j ()
   rw[eq]at z
   have:=U S X.1 q N g s z
   rw[<-this,X.2]at O;cases O
  rw[Nat.zero_add]at F;rw[F];exact k1
 ·intro r t o g s;have D:=lt r t g s;obtain⟨f,J,R⟩:=dn G r t;obtain⟨k,Lw,hc,_⟩:=iF hU hF J R;obtain⟨i,hi,Y⟩:=Ld.mp ((mI r).mpr ⟨t,o⟩)
  have V:fc ws r∈ps:=by
   rw[pm.mem_iff]
   have:=nH (ws:=ws) (ins:=ins) hi
   rw[IS hi,Y]at this
   exact this
  obtain⟨j,B,Z⟩:=Ld.mp V;obtain⟨q,c,C,eq,N,O,q3⟩:=step j B;have H:ps[j]?=MA (fc ws r):=by rw[IS B,Z]
  rw[H]at C;cases C;have a0:=p6 hU hF G N t O o q3;subst a0;have P:=KY.mp up
  have n:∀d,j<=d->(hj':d<ps.length)->la (fc ws q).1 (fc ws q).2<=la ps[d].1 ps[d].2/\(ps[d]=fc ws q->d=j):=fun d M E=>by
   by_cases e:j=d
   ·subst e;rw[Z];exact⟨KN _,fun _=>rfl⟩
   ·have:=P j d B E ();rw[Z]at this;unfold Nc at this;unfold la;refine⟨(),fun z=>?_⟩;rw[z]at this;omega
  have k1:(fS ws ins (fO (2*ws.length) outs outs.length) ps (j+1))[g]?=MA (O0 ws (fS ws ins (fO (2*ws.length) outs outs.length) ps j) (fc ws q)):=by rw[fS,kQ (by rw[jR,K];exact D),eq,MF s,H];rfl
  have F:=kJ (ws:=ws) (ins:=ins) (L:=fO (2*ws.length) outs outs.length) (ps:=ps) (x:=g) (by rw[K];exact D) (i:=j+1) (ps.length-(j+1)) fun d M E z=>by
   obtain⟨q',c',u,y,I,b0,A⟩:=step d ()
   rw[y]at z
   have:=U q N q' I g s z
   subst this
   have p:ps[d]?=MA ps[d]:=IS ()
   rw[u]at p
   have:=(n d () ()).2 (by rw[<-Option.some.inj p,A])
   omega
  rw[show j+1+(ps.length-(j+1))=ps.length by omega]at F;rw[F,k1]
  congr 1
  unfold O0;by_cases b:bK ws 1 (fc ws q).1 (fc ws q).2=[]
  ·rw[MF b,MF b]
  ·rw[ME b,ME b];obtain⟨v,v1,v2,v3,_⟩:=tq hU hF (aQ hU hF J R) hc Lw.k1 Lw.e b;rw[v2]
   have k3:=kJ (ws:=ws) (ins:=ins) (L:=fO (2*ws.length) outs outs.length) (ps:=ps) (x:=2*v) (by rw[K];omega) (i:=j) (ps.length-j) fun d M E z=>by
    obtain⟨q',c',u,y,I,b0,A⟩:=step d ()
    rw[y]at z
    have:=(ko ws (Kq z)).1 _ z
    unfold tf at this
    rw[cf,A]at this
    have p:ps[d]?=MA ps[d]:=IS ()
    rw[u]at p
    have l:=(n d M ()).1
    rw[<-Option.some.inj p]at l
    omega
   rw[show j+(ps.length-j)=ps.length by omega]at k3;rw[k3]
end
section
variable{ws:List Wl}(hU:∀w∈ws,Mn w)(hF:PF ws)
def Rt(ws:List Wl)(L:List Int)(outs:List (List Nat))(g:Nat):Prop:=
 (L[g]?=MA 0/\∀S∈outs,Pf ws (dR S) g=0)\/∃(i:Nat) (S:List Nat) (a:Nat),outs[i]?=MA S/\a∈S/\L[g]?=MA ((i+1:Nat):Int)/\∀T∈outs,Pf ws (dR T) g=Pf ws (dR T) a
include hU hF in
theorem lI{L:List Int}{j:List (List Nat)}(G:OG ws (2*ws.length) j)(D:∀(i:Nat) (S:List Nat),(j.filter (aK ws))[i]?=MA S->∀g∈S,L[g]?=MA ((i+1:Nat):Int))(E:∀r∈j,aK ws r=MD->∀g∈r,L[g]?=MA (O0 ws L (fc ws r))) :
 ∀(N:Nat) (r:List Nat),r∈j->la (fc ws r).1 (fc ws r).2<(N:Int)->∀g∈r,Rt ws L (j.filter (aK ws)) g
 |0,r,hr,hN,g,hg=>by
  exfalso
  obtain⟨f,l,R⟩:=dn G r hr
  obtain⟨k,_,n,_⟩:=iF hU hF l R
  have a:=n.1
  have b:=n.2
  unfold la at hN
  omega
 |N+1,r,hr,hN,g,hg=>by
  obtain⟨f,l,R⟩:=dn G r hr
  obtain⟨k,p,n,q⟩:=iF hU hF l R
  have t:∀T∈j.filter (aK ws),Flow ws (dR T):=fun T h=>by
   obtain⟨M,u,I⟩:=dn G T (J6.mp h).1
   exact aQ hU hF u I
  rcases q with⟨o,_⟩|⟨o,m⟩
  ·right
   obtain⟨i,J,e⟩:=Ld.mp (J6.mpr ⟨hr,o⟩)
   have e:(j.filter (aK ws))[i]?=MA r:=by rw[IS J,e]
   exact⟨i,r,g,e,hg,D i r e g hg,fun _ _=>rfl⟩
  ·have x:=E r hr o g hg
   have P:∀T∈j.filter (aK ws),Pf ws (dR T) g=Zc ws (dR T) (la (fc ws r).1 (fc ws r).2):=fun T h=>by
    rw[bI hU hF l R (t T h) hg]
    exact qG hU hF l R p m (t T h)
   by_cases b:bK ws 1 (fc ws r).1 (fc ws r).2=[]
   ·left
    refine⟨by rw[x];unfold O0;rw[MF b],fun S s=>?_⟩
    rw[P S s,DU hU n b]
   ·obtain⟨v,O,F,Q,_⟩:=tq hU hF (aQ hU hF l R) n p.k1 p.e b
    have Z:∀T∈j.filter (aK ws),Pf ws (dR T) g=Pf ws (dR T) (2*v):=fun T h=>by
     obtain⟨U,_,y,_,e⟩:=tq hU hF (t T h) n p.k1 p.e b
     rw[P T h,e,<-y,F]
    obtain⟨z,A,B⟩:=jB G (2*v) ()
    have C:la (fc ws z).1 (fc ws z).2<(N:Int):=by
     have:=(ko ws (Kq B)).1 _ B
     unfold tf at this
     rw[cf]at this
     omega
    have H:O0 ws L (fc ws r)=(L[2*v]?).getD 0:=by unfold O0;rw[ME b,F]
    rcases lI G D E N z A C (2*v) B with⟨a,c⟩|⟨i,S,K,a,c,d,e⟩
    ·left
     refine⟨by rw[x,H,a];rfl,fun S s=>?_⟩
     rw[Z S s,c S s]
    ·right
     refine⟨i,S,K,a,c,by rw[x,H,d];rfl,fun T h=>?_⟩
     rw[Z T h,e T h]
include hU hF in
end
def Bt(t b X Y:Int)(x y:Rat)(w:Wl):Bool:=(!decide (MX x y (MV t b X 1 w.1) (MV t b Y 1 w.2.1))&&decide (MX x y (MV t b X 1 w.2.2.1) (MV t b Y 1 w.2.2.2)))&&decide (Mc (MZ (MV t b X 1 w.1) (MV t b Y 1 w.2.1) (MV t b X 1 w.2.2.1) (MV t b Y 1 w.2.2.2) x y)=1)
def bT(t b X Y:Int)(ws:List Wl)(x y:Rat):List Int:=((J5 ws.length).filter fun j=>Bt t b X Y x y (wn ws j)).map fun j:Nat=>(j:Int)
theorem xK(t b X Y:Int)(ws:List Wl)(x y:Rat):(J5 (ws.map (Ms t b X Y)).length).filterMap (fun j=>if Bt t b X Y x y (wn ws j)=MC then MA (Ms t b X Y (wn ws j))else MB)=((bT t b X Y ws x y).map (Mu ws)).map (Ms t b X Y):=by rw[IU];unfold bT;rw[Ku,Ku];exact gS (fun j=>Bt t b X Y x y (wn ws j)) (fun j:Nat=>Ms t b X Y (wn ws j)) _
theorem oO{t b X Y:Int}{ws:List Wl}{x y:Rat}{k:Int}:k∈bT t b X Y ws x y↔∃j:Nat,k=(j:Int)/\j<ws.length/\Bt t b X Y x y (wn ws j)=MC:=by
 unfold bT;rw[JH];constructor
 ·rintro⟨j,h,e⟩;rw[J6,Ju]at h;exact⟨j,e.symm,h⟩
 ·rintro⟨j,e,h⟩;exact⟨j,J6.mpr ⟨Ju.mpr h.1,h.2⟩,e.symm⟩
theorem ya(t b X Y:Int)(ws:List Wl)(x y:Rat):(bT t b X Y ws x y).Nodup:=by unfold bT List.Nodup;rw[List.pairwise_map];have h:List.Pairwise (fun x y:Nat=>x≠y) ((J5 ws.length).filter fun j=>Bt t b X Y x y (wn ws j)):=KO _ List.nodup_range;refine List.Pairwise.imp (R:=fun x y:Nat=>x≠y) ?_ h;omega
theorem FP{t b X Y:Int}(c:0<t)(f:0<b){ws:List Wl}(i:∀w∈ws,Mn w){p q:Int}(h:-10<=q/\q<=85):bT t b X Y ws (MV t b X 1 p) (MV t b Y 1 q)=bK ws 1 p q:=by
 unfold bT bK
 congr 1
 refine List.filter_congr fun a j=>?_;have W:=aL i (Ju.mp j);have g:(0:Int)<1/\(1:Int)<=4:=⋯
 unfold Bt bB Rn;rw[BF c f g.1,decide_eq_decide.mpr (xr c f g h W.b),decide_eq_decide.mpr (xr c f g h W.d),<-decide_not];show(decide (¬la p q<1*l1 (wn ws a))&&decide (la p q<1*l2 (wn ws a))&&_)=(decide (1*l1 (wn ws a)<=la p q)&&decide (la p q<1*l2 (wn ws a))&&_);have e:decide (¬la p q<1*l1 (wn ws a))=decide (1*l1 (wn ws a)<=la p q):=by rw[MK];omega
 rw[e];rfl
theorem G5{a b x y c d:Rat}(e:¬MX x y a b)(f:MX x y c d):MX a b c d:=by unfold MX at *;grind
theorem CQ{t b X Y:Int}(A:0<t)(B:0<b){ws:List Wl}(h:∀w∈ws,Mn w)(hF:PF ws){x y:Rat}(C:bT t b X Y ws x y≠[]):∃f∈bT t b X Y ws x y,∀w∈(bT t b X Y ws x y).map (Mu ws),w=Mu ws f\/(Mr (Mu ws f) w=MC/\Mr w (Mu ws f)=MD):=by
 obtain⟨f,l,D⟩:=Bu h hF _ _ rfl C (ya t b X Y ws x y) fun k g=>by obtain⟨j,rfl,a,_⟩:=oO.mp g;omega
 refine⟨f,l,fun w E=>?_⟩;obtain⟨k,g,rfl⟩:=JH.mp E;by_cases e:k=f
 ·subst e;exact .inl rfl
 ·right;have n:=D k g;obtain⟨i,rfl,m,o⟩:=oO.mp l;obtain⟨j,rfl,p,r⟩:=oO.mp g;have I:=aL h m;have J:=aL h p;have s:∀{u v:Wl},Mn u->Mn v->Bt t b X Y x y u=MC->Bt t b X Y x y v=MC->l1 u<l2 v:=fun{u v} F G a c=>by unfold Bt at a c;rw[Jn,Jn,Bool.not_eq_true',decide_eq_false_iff_not,ML]at a c;exact(k7 A B F.b G.d).mp (G5 a.1.1 c.1.2)
  have H:max (l1 (wn ws j)) (l1 (wn ws i))<min (l2 (wn ws j)) (l2 (wn ws i)):=cz.mpr ⟨J.lt,s J I r o,s I J o r,I.lt⟩;have q:=gg J I (a9 hF p m (fun z=>e (by rw[z]))) H;have n:Mr (wn ws j) (wn ws i)=MD:=n;rw[n]at q;exact⟨q,n⟩
def RW(w:Wl)(l s:Int):Bool:=decide (l=l1 w)||decide (l=l2 w)||decide (l<l1 w)||decide (l2 w<l)||decide (s≠0)
theorem pb{w:Wl}{l s:Int}(h:RW w l s=MC):aY w l s:=by
 unfold RW at h;simp only[Bool.or_eq_true,ML]at h;unfold aY;rcases h with(((h|h)|h)|h)|h
 ·exact .inl h
 ·exact .inr (.inl h)
 ·exact .inr (.inr (.inl h))
 ·exact .inr (.inr (.inr (.inl h)))
 ·exact .inr (.inr (.inr (.inr h)))
def XM(U V:Wl):Bool:=!(decide (l1 U=l1 V)&&decide (l2 U=l2 V))&&(RW U (l1 V) (Mq U V)&&(RW U (l2 V) (Mt U V)&&(RW V (l1 U) (Mq V U)&&(RW V (l2 U) (Mt V U)&&(decide (0<=Ji (Mq U V)*Ji (Mt U V))||decide (0<=Ji (Mq V U)*Ji (Mt V U)))))))
theorem Ez{U V:Wl}(h:XM U V=MC):My U V:=by unfold XM at h;simp only[Jn,Bool.or_eq_true,Bool.not_eq_true',ML]at h;obtain⟨a,b,c,d,e,f⟩:=h;refine⟨fun z=>?_,pb b,pb c,pb d,pb e,f⟩;rw[MI z.1,MI z.2]at a;cases a
def VO:List Wl->Bool
 |[]=>MC
 |w::l=>l.all (XM w)&&VO l
theorem zF:∀{l:List Wl},VO l=MC->l.Pairwise My
 |[],_=>List.Pairwise.nil
 |w::l,h=>by
  rw[VO,Jn]at h
  exact List.Pairwise.cons (fun v a=>Ez (JW.mp h.1 v a)) (zF h.2)
def VU(w:Wl):Bool:=decide ((0<=w.1/\w.1<=20)/\(0<=w.2.1/\w.2.1<=20)/\(0<=w.2.2.1/\w.2.2.1<=20)/\(0<=w.2.2.2/\w.2.2.2<=20)/\l1 w<l2 w)
theorem Du{w:Wl}(h:VU w=MC):Mn w:=by unfold VU at h;obtain⟨a,b,c,d,e⟩:=MJ h;exact⟨a,b,c,d,e⟩
theorem By{ws:List Wl}(h:ws.Pairwise My):PF ws:=fun i j U V ne e f=>by
 obtain⟨a,b⟩:=J1.mp e;obtain⟨c,d⟩:=J1.mp f;have P:=KY.mp h;rcases Nat.lt_or_gt_of_ne ne with z|z
 ·rw[<-b,<-d];exact P i j a c z
 ·rw[<-b,<-d];exact(P j i c a z).swap
def Nx(x y w:Int):List Wl:=[(x,y,x+w,y),(x+w,y,x+w,y+w),(x,y+w,x+w,y+w),(x,y,x,y+w)]
def oF:List (List Wl×Int):=[(Nx 0 0 12,1),(Nx 0 0 12,2),(Nx 0 0 12++Nx 1 1 10,2),(Nx 0 0 12++Nx 1 1 10,3),(Nx 0 0 12++Nx 2 2 8,3),(Nx 0 0 12++Nx 2 2 8,4)]
def Qj(us:List Wl)(a t1 b c:Int):List Wl:=us++(Nx (a+t1) (a+b) (1+c)++([(9,8,9,9)]++([(a,8,a+1,8),(a,9,a+1,9)]++Nx 12 12 2)))
theorem Bj:(oF.all fun g=>[0,1].all fun t1=>[0,1].all fun a=>[0,1].all fun b=>VO (Qj g.1 g.2 t1 a b)&&(Qj g.1 g.2 t1 a b).all VU)=MC:=by decide +kernel
theorem EM{us:List Wl}{a t1 b c:Int}(g:(us,a)∈oF)(d:0<=t1/\t1<2)(e:0<=b/\b<2)(f:0<=c/\c<2):(Qj us a t1 b c).Pairwise My/\∀w∈Qj us a t1 b c,Mn w:=by
 have m:∀{t:Int},(0<=t/\t<2)->t∈([0,1]:List Int):=fun{t} h=>by rcases(():t=0\/t=1)with rfl|rfl<;>simp
 have:=JW.mp (JW.mp (JW.mp (JW.mp Bj _ g) _ (m d)) _ (m e)) _ (m f);rw[Jn]at this;exact⟨zF this.1,fun w i=>Du (JW.mp this.2 w i)⟩
theorem DV{us vs ws:List Wl}{a t1 b c:Int}(g:(us,a)∈oF)(d:0<=t1/\t1<2)(e:0<=b/\b<2)(f:0<=c/\c<2)(s:vs.Sublist (Qj us a t1 b c))(p:ws.Perm vs):PF ws/\(∀w∈ws,Mn w)/\ws.length<=19:=by
 obtain⟨A,B⟩:=EM g d e f;refine⟨By ((p.pairwise_iff (fun{x y} h=>My.swap h)).mpr (A.sublist s)),fun w i=>B w (s.subset (p.mem_iff.mp i)),?_⟩;rw[p.length_eq];refine K3 s.length_le ?_
 have j:us.length<=8:=by
  have:(oF.all fun g=>decide (g.1.length<=8))=MC:=by decide +kernel
  exact MJ (JW.mp this _ g)
 unfold Qj;simp only[Kc];show us.length+(4+(1+(2+4)))<=19;omega
def PQ(x y w:Int):List D:=[.tup [.int x,.int y],.tup [.int (x+w),.int y],.tup [.int (x+w),.int (y+w)],.tup [.int x,.int (y+w)]]
abbrev W8(w:Wl):Prop:=(0<=w.1/\w.1<=80)/\(0<=w.2.1/\w.2.1<=80)/\(0<=w.2.2.1/\w.2.2.1<=80)/\(0<=w.2.2.2/\w.2.2.2<=80)
theorem xT{a b c d:Int}(f:-10<=b/\b<=85)(hd:-10<=d/\d<=85):HT.lexLe [a,b] [c,d]=decide (la a b<=la c d):=by
 have e:HT.lexLt [c,d] [a,b]=decide (la c d<la a b):=by rw[K5,Md,ML];unfold la;omega
 rw[Ma.vP,e,<-decide_not,MK];omega
theorem Hm{ws:List Wl}{m:Int}{k:Nat}(a:k<ws.length):wn (ws.map (Nf m)) k=Nf m (wn ws k):=by unfold wn Mu;rw[Kx,IW,IS a];rfl
theorem HX{x1 y1 a b p q c:Int}(f:0<c↔0<(x1-p)*(b-q)-(y1-q)*(a-p))(i:c<0↔(x1-p)*(b-q)-(y1-q)*(a-p)<0)(n:x1<a\/(x1=a/\y1<b))(g:¬(p<x1\/(p=x1/\q<y1))->(p<a\/(p=a/\q<b))->c≠0) :
 (if(p<a\/(p=a/\q<b))/\b<=q then(1:Int)else 0)-(if(p<x1\/(p=x1/\q<y1))/\y1<=q then 1 else 0)=(if(¬(p<x1\/(p=x1/\q<y1))/\(p<a\/(p=a/\q<b)))/\0<c then 1 else 0)-(if y1<=q/\¬b<=q then(if 0<c then 1 else 0)else if b<=q/\¬y1<=q then(if c<0 then -1 else 0)else 0):=by
 by_cases j:p<x1\/(p=x1/\q<y1)<;>by_cases k:p<a\/(p=a/\q<b)<;>by_cases l:y1<=q<;>by_cases m:b<=q<;>simp only[j,k,l,m,true_and,and_true,false_and,and_false,not_true,not_false_iff,if_true,if_false]
 all_goals try omega
 ·have d:=Jy (():0<x1-p) (():0<b-q)
  have e:=Int.mul_nonpos_of_nonpos_of_nonneg (():y1-q<=0) (():0<=a-p)
  rw[MF (f.mpr ())]
 ·have d:=Int.mul_nonpos_of_nonneg_of_nonpos (():0<=x1-p) (():b-q<=0)
  have e:=Jy (():0<y1-q) (():0<a-p)
  rw[MF (i.mpr ())];rfl
 ·have h:=g j k
  have d:=Int.mul_nonneg_of_nonpos_of_nonpos (():x1-p<=0) (():b-q<=0)
  have e:=Int.mul_nonpos_of_nonpos_of_nonneg (():y1-q<=0) (():0<=a-p)
  rw[MF ()]
 ·have d:=Jp (():x1-p<0) (():0<b-q)
  have e:=LR (():0<=y1-q) (():0<=a-p)
  rw[ME (fun z=>by have:=f.mp z;omega)]
 ·have d:=Int.mul_nonpos_of_nonpos_of_nonneg (():x1-p<=0) (():0<=b-q)
  have e:=Int.mul_nonneg_of_nonpos_of_nonpos (():y1-q<=0) (():a-p<=0)
  rw[ME (fun z=>by have:=f.mp z;omega)]
 ·have d:=Int.mul_nonneg_of_nonpos_of_nonpos (():x1-p<=0) (():b-q<=0)
  have e:=Int.mul_nonpos_of_nonneg_of_nonpos (():0<=y1-q) (():a-p<=0)
  rw[ME (fun z=>by have:=i.mp z;omega)]
def Ov(w:Wl)(m p q:Int):Int:=if m*w.2.1<=q/\¬m*w.2.2.2<=q then(if 0<sL w m p q then 1 else 0)else if m*w.2.2.2<=q/\¬m*w.2.1<=q then(if sL w m p q<0 then -1 else 0)else 0
def VZ(m p q:Int)(c:Vc):Int:=if(p<m*c.1\/(p=m*c.1/\q<m*c.2))/\m*c.2<=q then 1 else 0
theorem Ar{w:Wl}(hw:Mn w){m p q:Int}(a:0<m)(c:¬R6 w m p q):VZ m p q (w.2.2.1,w.2.2.2)-VZ m p q (w.1,w.2.1)=(if RE w m p q/\0<sL w m p q then 1 else 0)-Ov w m p q:=by
 have e:m*sL w m p q=(m*w.1-p)*(m*w.2.2.2-q)-(m*w.2.1-q)*(m*w.2.2.1-p):=by unfold sL;grind
 obtain⟨f,g,_⟩:=Cp (z:=sL w m p q) a;rw[e]at f g;refine HX f.symm g.symm ?_ fun i j z=>c ⟨?_,i,by dsimp only at j;omega⟩
 ·have l:=hw.lt;have n:=hw.b;have hd:=hw.d
  have:w.1<w.2.2.1\/(w.1=w.2.2.1/\w.2.1<w.2.2.2):=by unfold l1 l2 la at l;omega
  rcases this with h|⟨h,k⟩
  ·exact .inl (Int.mul_lt_mul_of_pos_left h a)
  ·exact .inr ⟨by rw[h],Int.mul_lt_mul_of_pos_left k a⟩
 ·unfold sL at z;omega
theorem u5{g:Nat->Int}:∀{n:Nat},(∀k,k<n->∃e,g k=2*e)->∃e,sg n g=2*e
 |0,_=>⟨0,rfl⟩
 |n+1,h=>by
  obtain⟨a,c⟩:=u5 fun k d=>h k (Nat.lt_succ_of_lt d)
  obtain⟨b,f⟩:=h n (Nat.lt_succ_self n)
  exact⟨a+b,by rw[sg,c,f];omega⟩
def Nk(w:Wl)(m p q:Int):Int:=if Ov w m p q=0 then 0 else 1
section
variable{ws:List Wl}(hU:∀w∈ws,Mn w)(hF:PF ws){f:Nat}(hf:f<2*ws.length){r:List Nat}(R:gu ws f r)
include hU hF hf R
theorem Fi{m p q:Int}(c:0<m)(a:∀k,k<ws.length->dR r k≠0->¬R6 (wn ws k) m p q):Vs ws (dR r) m p q=sg ws.length fun k=>dR r k*Ov (wn ws k) m p q:=by
 have z:=jq hU hF hf R (VZ m p q);rw[aW (h:=fun k=>(if BL ws m p q k then dR r k else 0)-dR r k*Ov (wn ws k) m p q) fun k b=>?_,dO]at z
 ·unfold Vs;omega
 ·by_cases z:dR r k=0
  ·rw[z,Int.zero_mul,Int.zero_mul];split<;>rfl
  have h:=Ar (aL hU b) c (a k b z);unfold fa fb;rw[f9,h,Int.mul_sub];split
  ·omega
  ·omega
theorem A5{m p q:Int}(i:0<m)(c:∀k,k<ws.length->dR r k≠0->¬R6 (wn ws k) m p q):∃e,(r.map fun g=>Nk (wn ws (g/2)) m p q).sum=Vs ws (dR r) m p q+2*e:=by
 rw[iQ (fun g=>Nk (wn ws (g/2)) m p q) r (oY hU hF hf R) (cW hU hF hf R),Fi hU hF hf R i c]
 obtain⟨e,j⟩:=u5 (n:=ws.length) (g:=fun k=>((if 2*k∈r then Nk (wn ws (2*k/2)) m p q else 0)+(if 2*k+1∈r then Nk (wn ws ((2*k+1)/2)) m p q else 0))-dR r k*Ov (wn ws k) m p q) fun k _=>by
  rw[show 2*k/2=k by omega,show(2*k+1)/2=k by omega]
  have l:(Ov (wn ws k) m p q=0/\Nk (wn ws k) m p q=0)\/(Ov (wn ws k) m p q=1/\Nk (wn ws k) m p q=1)\/(Ov (wn ws k) m p q=-1/\Nk (wn ws k) m p q=1):=by
   have:Ov (wn ws k) m p q=0\/Ov (wn ws k) m p q=1\/Ov (wn ws k) m p q=-1:=by
    unfold Ov
    repeat' split
    all_goals omega
   unfold Nk
   rcases this with h|h|h<;>rw[h]<;>simp
  unfold dR;rcases l with⟨h,d⟩|⟨h,d⟩|⟨h,d⟩<;>rw[h,d]<;>by_cases a:2*k∈r<;>by_cases b:2*k+1∈r<;>simp only[a,b,if_true,if_false]
  all_goals first|exact⟨0,rfl⟩|exact⟨1,rfl⟩
 rw[dO]at j;exact⟨e,()⟩
end
section
variable{ws:List Wl}(hU:∀w∈ws,Mn w)(hF:PF ws)
def Fa(ws:List Wl)(d:Nat->Int)(x:Nat)(t:Int):Int:=sg ws.length fun k=>if sp (wn ws k) t=MC/\xi (wn ws x) t<=xi (wn ws k) t then d k else 0
include hU hF in
theorem ir{d:Nat->Int}(g:Flow ws d){x:Nat}{t:Int}(x1:x<ws.length)(c:sp (wn ws x) t=MC):Fa ws d x t=Bw ws d x+d x:=by
 have one:d x=sg ws.length (fun k=>if k=x then d k else 0):=by rw[fY,MF x1]
 rw[<-gJ hU hF g x1 c,one];unfold OK Fa;rw[<-du];refine aW fun k f=>?_;show _=(if(sp (wn ws k) t&&Mr (wn ws x) (wn ws k))=MC then d k else 0)+(if k=x then d k else 0);by_cases e:k=x
 ·subst e;rw[MF ⟨c,Rat.le_refl⟩,cv (aL hU f),LA,ME ⋯,MF rfl,Int.zero_add]
 ·rw[ME e,Int.add_zero];by_cases s:sp (wn ws k) t=MC
  ·have F:=a9 hF x1 f (fun q=>e q.symm);have a:=dh (aL hU x1) (aL hU f) F c s;have b:=uo (aL hU x1) (aL hU f) F c s;rw[s,Kr];by_cases q:xi (wn ws x) t<=xi (wn ws k) t
   ·rw[MF ⟨rfl,q⟩,MF (a.mpr (by grind))]
   ·rw[ME fun y=>q y.2,ME fun y=>q (Rat.le_of_lt (a.mp y))]
  ·have h:sp (wn ws k) t=MD:=by simpa using s
   rw[h,JY,ME (fun y=>by cases y.1),ME ⋯]
theorem sQ(d:Nat->Int){x:Nat}{t:Int}:(∀e:Nat->Int,(∀k,d k=0->e k=0)->Fa ws e x t=0)\/∃y,y<ws.length/\sp (wn ws y) t=MC/\d y≠0/\xi (wn ws x) t<=xi (wn ws y) t/\∀e:Nat->Int,(∀k,d k=0->e k=0)->Fa ws e x t=Fa ws e y t:=by
 by_cases n:((J5 ws.length).filter fun k=>decide (sp (wn ws k) t=MC/\d k≠0/\xi (wn ws x) t<=xi (wn ws k) t))=[]
 ·left;refine fun e z=>cL fun k b=>?_;by_cases h:sp (wn ws k) t=MC/\xi (wn ws x) t<=xi (wn ws k) t
  ·rw[MF h];refine z k (JB fun z=>?_);have:=List.filter_eq_nil_iff.mp n k (Ju.mpr b);exact this (MI ⟨h.1,z,h.2⟩)
  ·rw[ME h]
 ·right;obtain⟨y,a,f⟩:=pA (fun k=>-xi (wn ws k) t) _ n;rw[J6,Ju,ML]at a;refine⟨y,a.1,a.2.1,a.2.2.1,a.2.2.2,fun e z=>?_⟩;unfold Fa;refine aW fun k b=>?_;by_cases c:d k=0
  ·rw[z k c];split<;>split<;>rfl
  ·have:(sp (wn ws k) t=MC/\xi (wn ws x) t<=xi (wn ws k) t)↔(sp (wn ws k) t=MC/\xi (wn ws y) t<=xi (wn ws k) t):=by
    constructor
    ·intro h;have:=f k (by rw[J6,Ju,ML];exact⟨b,h.1,c,h.2⟩);exact⟨h.1,by grind⟩
    ·exact fun h=>⟨h.1,Rat.le_trans a.2.2.2 h.2⟩
   by_cases h:sp (wn ws k) t=MC/\xi (wn ws x) t<=xi (wn ws k) t
   ·rw[MF h,MF (this.mp h)]
   ·rw[ME h,ME fun q=>h (this.mpr q)]
structure Qc(ws:List Wl)(f:Nat)(r:List Nat):Prop where
 hf:f<2*ws.length
 R:gu ws f r
 a:Pf ws (dR r) f=1
include hU hF in
theorem rV{f:Nat}{r:List Nat}(O:Qc ws f r){y:Nat}{t:Int}(y1:y<ws.length)(b:sp (wn ws y) t=MC)(c:dR r y≠0):(2*y∈r/\Fa ws (dR r) y t=1)\/(2*y+1∈r/\Fa ws (dR r) y t=0):=by
 have d:=iM.mpr ⟨y1,b,c⟩;rw[ir hU hF (aQ hU hF O.hf O.R) y1 b];have h:=xI hU hF O.hf O.R d;have a:=O.a;rcases h with⟨h,k⟩|⟨h,k⟩
 ·refine .inl ⟨JB fun z=>?_,()⟩;unfold dR at h;rw[ME z]at h;split at h<;>omega
 ·refine .inr ⟨JB fun z=>?_,()⟩;unfold dR at h;rw[ME z]at h;split at h<;>omega
include hU hF in
theorem jt{f:Nat}{r:List Nat}(O:Qc ws f r)(x:Nat)(t:Int):Fa ws (dR r) x t=0\/Fa ws (dR r) x t=1:=by
 rcases sQ (ws:=ws) (dR r) (x:=x) (t:=t)with h|⟨y,y1,a,b,_,e⟩
 ·exact .inl (h _ fun _ h=>h)
 ·rw[e (dR r) fun _ h=>h];rcases rV hU hF O y1 a b with h|h
  ·exact .inr h.2
  ·exact .inl h.2
theorem n9{d:Nat->Int}(h:∀{x:Nat} {t:Int},x<ws.length->sp (wn ws x) t=MC->Fa ws d x t=Bw ws d x+d x){x:Nat}{t:Int}(x1:x<ws.length)(a:sp (wn ws x) t=MC):Pf ws d (2*x)=Fa ws d x t:=by rw[f7,h x1 a]
variable{f f':Nat}{r r':List Nat}(O:Qc ws f r)(O':Qc ws f' r')(dj:∀g∈r,g∉r')(b:Pf ws (dR r') f=1)
include hU hF O O' dj b
theorem qA:Pf ws (dR r) f'=0:=by
 obtain⟨t,k,L,_⟩:=d6 hU hF O'.hf O'.R;have c:=aQ hU hF O.hf O.R
 have m:2*k∈r':=by
  rcases gF hU hF O'.hf O'.R L with⟨_,z⟩|⟨_,m,_⟩
  ·rw[O'.a]at z;cases z
  ·exact m
 have d:sp (wn ws k) t=MC:=aX.mpr ⟨by have:=L.e;omega,by have:=L.e;have:=(aL hU L.k1).lt;omega⟩;rw[<-bI hU hF O'.hf O'.R c m,n9 (fun a b=>ir hU hF c a b) L.k1 d];rcases jt hU hF O k t with h|h
 ·exact h
 ·exfalso;refine vY hU hF O.hf O.R O'.hf O'.R dj O.a O'.a b ?_;rw[<-bI hU hF O'.hf O'.R c m,n9 (fun a b=>ir hU hF c a b) L.k1 d,h]
theorem As(x:Nat)(t:Int):Fa ws (dR r) x t<=Fa ws (dR r') x t:=by
 have l:=aQ hU hF O.hf O.R;have c:=aQ hU hF O'.hf O'.R;have o:=qA hU hF O O' dj b;have u:=jt hU hF O x t;have v:=jt hU hF O' x t;have d:∀k,(if dR r k=0/\dR r' k=0 then(0:Int)else 1)=0->dR r k=0/\dR r' k=0:=fun k h=>by refine JB fun n=>?_;rw[ME n]at h;cases h
 rcases sQ (ws:=ws) (fun k=>if dR r k=0/\dR r' k=0 then 0 else 1) (x:=x) (t:=t)with h|⟨y,y1,i,p,_,e⟩
 ·rw[h _ fun k h=>(d k h).1,h _ fun k h=>(d k h).2];exact KN _
 ·rw[e _ fun k h=>(d k h).1,e _ fun k h=>(d k h).2];by_cases j:dR r y=0
  ·have s:dR r' y≠0:=fun z=>p (MF ⟨j,z⟩);rcases rV hU hF O' y1 i s with⟨_,h⟩|⟨m,h⟩
   ·have:=jt hU hF O y t;omega
   ·have q:Pf ws (dR r) (2*y+1)=0:=by rw[bI hU hF O'.hf O'.R l m];exact o
    rw[iA]at q;rw[ir hU hF l y1 i,q,j,h];omega
  ·rcases rV hU hF O y1 i j with⟨m,h⟩|⟨_,h⟩
   ·have q:Pf ws (dR r') (2*y)=1:=by rw[bI hU hF O.hf O.R c m];exact b
    rw[n9 (fun a b=>ir hU hF c a b) y1 i]at q;omega
   ·have:=jt hU hF O' y t;omega
end
section
variable{ws:List Wl}(hU:∀w∈ws,Mn w)(hF:PF ws)
def lw(ws:List Wl)(t:Int):List Nat:=(J5 ws.length).filter fun k=>sp (wn ws k) t
theorem tL{t:Int}{k:Nat}:k∈lw ws t↔k<ws.length/\sp (wn ws k) t=MC:=by unfold lw;rw[J6,Ju]
theorem sT(g:Nat->Rat)(t:Int):((lw ws t).map g).sum=sq ws.length fun k=>if sp (wn ws k) t=MC then g k else 0:=by unfold lw;rw[gQ]
theorem Gs(r:List Nat)(t:Int):((lt' ws r t).map fun k=>(dR r k:Rat)*xi (wn ws k) t).sum=((lw ws t).map fun k=>(dR r k:Rat)*xi (wn ws k) t).sum:=by
 rw[sT];unfold lt';rw[gQ];refine dg fun k _=>?_;by_cases s:sp (wn ws k) t=MC
 ·rw[s,Kr,MF rfl];by_cases z:dR r k=0
  ·rw[MG (fun q=>q z),ME ⋯,z];exact(Rat.zero_mul _).symm
  ·rw[MI z,MF rfl]
 ·have a:sp (wn ws k) t=MD:=by simpa using s
  rw[a,JY]
theorem ua(g h:Nat->Rat):∀l:List Nat,(l.map fun k=>g k-h k).sum=(l.map g).sum-(l.map h).sum
 |[]=>by simp only[Ki,List.sum_nil];grind
 |k::l=>by simp only[IY,JU];rw[ua g h l];grind
variable{f f':Nat}{r r':List Nat}(O:Qc ws f r)(O':Qc ws f' r')(dj:∀g∈r,g∉r')(b:Pf ws (dR r') f=1)
include hU hF O O' dj b
theorem nX(t:Int):((lw ws t).map fun k=>(dR r k:Rat)*xi (wn ws k) t).sum<=((lw ws t).map fun k=>(dR r' k:Rat)*xi (wn ws k) t).sum/\∀x∈lw ws t,Fa ws (dR r) x t<Fa ws (dR r') x t->((lw ws t).map fun k=>(dR r k:Rat)*xi (wn ws k) t).sum<((lw ws t).map fun k=>(dR r' k:Rat)*xi (wn ws k) t).sum:=by
 obtain⟨c,l⟩:=jc (fun k=>xi (wn ws k) t) (lw ws t)
 have a:∀x,((lw ws t).map fun y=>if xi (wn ws x) t<=xi (wn ws y) t then((dR r' y:Rat)-(dR r y:Rat))else 0).sum=((Fa ws (dR r') x t-Fa ws (dR r) x t:Int):Rat):=fun x=>by
  unfold Fa;rw[<-dO,gP,sT];refine dg fun k _=>?_;by_cases s:sp (wn ws k) t=MC
  ·by_cases q:xi (wn ws x) t<=xi (wn ws k) t
   ·rw[MF s,MF q,MF ⟨s,q⟩,MF ⟨s,q⟩,KG]
   ·rw[MF s,ME q,ME (fun z=>q z.2),ME (fun z=>q z.2)];rfl
  ·rw[ME s,ME (fun z=>s z.1),ME (fun z=>s z.1)];rfl
 have all:((lw ws t).map fun y=>(dR r' y:Rat)-(dR r y:Rat)).sum=0:=by
  have d:=pJ hU (aQ hU hF O.hf O.R) t
  have i:=pJ hU (aQ hU hF O'.hf O'.R) t
  unfold OK at d i
  have h:((sg ws.length (fun k=>if sp (wn ws k) t=MC then dR r' k else 0)-sg ws.length (fun k=>if sp (wn ws k) t=MC then dR r k else 0):Int):Rat)=0:=by simp only[L9]at d i;rw[d,i];rfl
  rw[<-h,<-dO,gP,sT]
  refine dg fun k _=>?_
  by_cases s:sp (wn ws k) t=MC
  ·rw[MF s,MF s,MF s,KG]
  ·rw[ME s,ME s,ME s];rfl
 have A:∀x∈lw ws t,0<=((lw ws t).map fun y=>if xi (wn ws x) t<=xi (wn ws y) t then((dR r' y:Rat)-(dR r y:Rat))else 0).sum:=fun x _=>by
  rw[a x]
  have:=As hU hF O O' dj b x t
  have p:0<=Fa ws (dR r') x t-Fa ws (dR r) x t:=()
  exact_mod_cast p
 have nd:(lw ws t).Nodup:=by unfold lw;exact KO _ List.nodup_range
 have inj:∀x∈lw ws t,∀y∈lw ws t,xi (wn ws x) t=xi (wn ws y) t->x=y:=fun x j y m e=>JB fun ne=>by obtain⟨x1,n⟩:=tL.mp j;obtain⟨y1,o⟩:=tL.mp m;exact uo (aL hU x1) (aL hU y1) (a9 hF x1 y1 ne) n o e
 have key:=BA (fun k=>(dR r' k:Rat)-(dR r k:Rat)) (fun k=>xi (wn ws k) t) _ (lw ws t) rfl nd inj A c l;have e:=fy (fun k=>(dR r' k:Rat)-(dR r k:Rat)) (fun k=>xi (wn ws k) t) c 0 (lw ws t);rw[all,Rat.zero_mul,Rat.add_zero]at e
 have u:((lw ws t).map fun k=>((dR r' k:Rat)-(dR r k:Rat))*(xi (wn ws k) t-c)).sum=((lw ws t).map fun k=>(dR r' k:Rat)*xi (wn ws k) t).sum-((lw ws t).map fun k=>(dR r k:Rat)*xi (wn ws k) t).sum:=by
  rw[e,<-ua]
  congr 1
  exact Ln fun k _=>by grind
 rw[u]at key;refine⟨by have:=key.1;grind,fun x j h=>?_⟩
 have:=key.2 x j (by
  rw[a x]
  have p:0<Fa ws (dR r') x t-Fa ws (dR r) x t:=()
  exact_mod_cast p)
 grind
theorem wz:(r.map (NO ws)).sum<(r'.map (NO ws)).sum:=by
 have e:=iI hU hF O.hf O.R;have i:=iI hU hF O'.hf O'.R;obtain⟨t,k,L,_⟩:=d6 hU hF O'.hf O'.R;have l:=aQ hU hF O.hf O.R;have c:=aQ hU hF O'.hf O'.R
 have m:2*k∈r':=by
  rcases gF hU hF O'.hf O'.R L with⟨_,z⟩|⟨_,m,_⟩
  ·rw[O'.a]at z;cases z
  ·exact m
 have W:=aL hU L.k1
 have t0:0<=t/\t<3000:=by
  have:=W.a;have:=W.b;have e:=L.e
  unfold l1 la at e
  omega
 have d:sp (wn ws k) t=MC:=aX.mpr ⟨by have:=L.e;omega,by have:=L.e;have:=W.lt;omega⟩;have q:Fa ws (dR r) k t=0:=by rw[<-n9 (fun a b=>ir hU hF l a b) L.k1 d,bI hU hF O'.hf O'.R l m];exact qA hU hF O O' dj b
 have u:Fa ws (dR r') k t=1:=by rw[<-n9 (fun a b=>ir hU hF c a b) L.k1 d,bI hU hF O'.hf O'.R c m];exact O'.a
 have p:(0:Rat)<sq 3000 fun t=>((lw ws (t:Int)).map fun k=>(dR r' k:Rat)*xi (wn ws k) (t:Int)).sum-((lw ws (t:Int)).map fun k=>(dR r k:Rat)*xi (wn ws k) (t:Int)).sum:=by
  refine sq_pos (j:=t.toNat) ?_ () fun n _=>by have:=(nX hU hF O O' dj b (n:Int)).1;grind
  rw[show((t.toNat:Nat):Int)=t by omega]
  have:=(nX hU hF O O' dj b t).2 k (tL.mpr ⟨L.k1,d⟩) ()
  grind
 have s:∀(g h:Nat->Rat) n,sq n (fun k=>g k-h k)=sq n g-sq n h:=fun g h n=>by
  induction n with
  |zero=>rw[sq,sq,sq];grind
  |succ n o=>rw[sq,sq,sq,o];grind
 rw[s]at p;simp only[Gs]at e i;rw[<-e,<-i]at p;have p:(((r.map (NO ws)).sum:Int):Rat)<(((r'.map (NO ws)).sum:Int):Rat):=by grind
 exact_mod_cast p
end
section
variable{prog:Jl}{w:JO}{A:JV}{E:IQ->IT->Prop}{s:IT}
theorem GI{l:Addr}{b:Array IQ}{bt:Nat->Nat->Bool}{Q:IQ->IT->Prop}(hh:A.handled=MB)(O:s.heap.IsList l b)(W:0<b.size)
 (P:∀(i j:Nat) (v u:IQ),b[i]?=MA v->b[j]?=MA u->∀(t:IT) (X:IQ->IT->Prop) (E':IQ->IT->Prop),(∀x o,s.heap.get? x=MA o->t.heap.get? x=MA o)->X (.bool (bt i j)) t->J3 (Jh prog w) A.in1 (richCompare .Lt v u) X E' t)
 (h:∀v h' tk,b[argBest bt (b.size-1)]?=MA v->(∀x o,s.heap.get? x=MA o->h'.get? x=MA o)->Q v { s with heap:=h',toks:=tk }) :
 J3 (Jh prog w) A (call (.builtin "min") [.ref l]) Q E s:=by
 have L:(toString "min"++toString ".loop":String)="min.loop":=⋯
 refine call_function_tree F.kind_min F.plain_min F.entry_min (F.args_min1 _) ?_
 show J3 _ A.in1 (Builtin.Builtins.bindParams "min" ["key","default"] 0 ⟨[],[]⟩ >>= fun _=>_) _ _ s
 refine cc (wpAny_of_eq (a:=[MB,MB]) rfl ?_)
 refine cc (IV ?_)
 have R:l<s.heap.objs.size:=by
  obtain⟨o,q,_⟩:=O
  exact J9 q
 refine cc (LK (s:=s) O ?_)
 refine cc (JG ?_)
 dsimp only
 generalize T:s.heap.objs.size=I
 generalize e2:s.heap.push _=p
 have k2:∀x o,s.heap.get? x=MA o->p.get? x=MA o:=fun x o q=>by rw[<-e2];exact J0 _ q
 have hI:p.IsListIter I l 0:=by rw[<-e2,<-T];exact⟨_,J7 _ rfl,rfl,rfl⟩
 have z2:p.objs.size=I+1:=by rw[<-e2,Ko,T]
 generalize eS:p.objs.size=S
 generalize e3:p.push _=z
 have Y:∀x o,p.get? x=MA o->z.get? x=MA o:=fun x o q=>by rw[<-e3];exact J0 _ q
 have Z:z.get? S=MA { cls:=.type "list",dict:=MB,data:=.seq #[] 0,slots:=#[] }:=by rw[<-e3,<-eS];exact J7 _ rfl
 have B:S≠I:=()
 have f:∀x o,s.heap.get? x=MA o->x≠I/\x≠S:=fun x o q=>⟨JE (Jm (J9 q) ()),JE (Jm (J9 q) ())⟩
 have C:l<I:=T▸R
 have TI:l≠I:=JE C
 have TS:l≠S:=JE (Nat.lt_trans C (():I<S))
 have g:∀x o,s.heap.get? x=MA o->z.get? x=MA o:=fun x o q=>Y _ _ (k2 _ _ q)
 have lst:∀{h':Heap},(∀x o,s.heap.get? x=MA o->h'.get? x=MA o)->h'.IsList l b:=fun{h'} k=>by
  obtain⟨o,q,r⟩:=O
  exact⟨o,k _ _ q,r⟩
 rw[L]
 refine IV ⟨Lb L4 _,?_⟩
 have D:∀(k j:Nat) (h':Heap) (tk:Nat) (m:IQ) (c:Nat),b.size-(j+1)=k->j+1<=b.size->h'.IsListIter I l (j+1)->b[argBest bt j]?=MA m->h'.get? S=MA { cls:=.type "list",dict:=MB,data:=.seq #[m,m] c,slots:=#[] }->
  (∀x o,s.heap.get? x=MA o->h'.get? x=MA o)->Le (Jh prog w) A (.builtin "min.loop" ⟨[.ref I,.none,.ref S],[]⟩) (fun r s'=>match r with|.ok (.ret v)=>Q v s'|.ok _=>False|.error e=>E e s') { s with heap:=h',toks:=tk }:=by
  intro k
  induction k with
  |zero=>
   intro j h' tk m c ek hj U M G H
   have ej:j=b.size-1:=()
   refine KW F.entry_min_loop ?_
   rw[Kp L4 _]
   show J3 _ A.in1 (seqItems? (.ref S) >>= fun _=>_) _ _ _
   refine cc (Lx (s:={ s with heap:=h',toks:=tk }) G rfl ?_)
   show J3 _ A.in1 (tryCatch (pyNext (.ref I)) _ >>= fun _=>_) _ _ _
   refine cc (Ly (wpAny_pyNext_list_end (A:=A.in1) (s:={ s with heap:=h',toks:=tk }) hh U (lst H) (by simp;omega) fun N J=>?_))
   have V:N.get? S=MA _:=J _ _ B G
   show J3 _ A.in1 (updateSeq S (fun _=>#[]) >>= fun _=>_) _ _ _
   refine cc (wpAny_updateSeq (s:={ s with heap:=N,toks:=tk }) V rfl (cc (wpAny_letGo (IV ?_))))
   show Q m _
   exact h _ _ _ (by rw[<-ej];exact M) fun x o q=>(JP _ _ (f x o q).2.symm).trans (J x o (f x o q).1 (H x o q))
  |succ k ih=>
   intro j h' tk m c ek hj U M G H
   have y:b[j+1]?=MA b[j+1]:=Array.getElem?_eq_getElem ()
   refine KW F.entry_min_loop ?_
   rw[Kp L4 _]
   show J3 _ A.in1 (seqItems? (.ref S) >>= fun _=>_) _ _ _
   refine cc (Lx (s:={ s with heap:=h',toks:=tk }) G rfl ?_)
   show J3 _ A.in1 (tryCatch (pyNext (.ref I)) _ >>= fun _=>_) _ _ _
   refine cc (Ly (wpAny_pyNext_list_item (s:={ s with heap:=h',toks:=tk }) U (lst H) (x:=b[j+1]) y fun h6 i6 q6=>?_))
   have n:h6.get? S=MA _:=(q6.2 _ B).trans G
   have d:∀x o,s.heap.get? x=MA o->h6.get? x=MA o:=fun x o q=>(q6.2 _ (f x o q).1).trans (H x o q)
   show J3 _ A.in1 (tryCatch (holding [b[j+1],b[j+1]] (richCompare .Lt b[j+1] m >>= fun _=>_)) _ >>= fun _=>_) _ _ _
   refine cc (Ly (Kb (cc (P (j+1) (argBest bt j) _ _ y M _ _ _ d ?_))))
   refine cc (Kb (Kh ?_))
   refine cc (wpAny_letGo (IV ?_))
   cases c':bt (j+1) (argBest bt j)with
   |true=>
    refine cc (wpAny_updateSeq n rfl (cc (wpAny_letGo ?_)))
    rw[L]
    exact IV ⟨Lb L4 _,ih (j+1) _ _ b[j+1] _ () () (i6.at fun o q=>(JP _ _ B).trans q) (by rw[argBest,MF c'];exact y) (Ky _ n rfl) fun x o q=>(JP _ _ (f x o q).2.symm).trans (d x o q)⟩
   |false=>
    refine cc (wpAny_letGo ?_)
    rw[L]
    exact IV ⟨Lb L4 _,ih (j+1) _ _ m _ () () i6 (by rw[argBest,ME (by rw[c'];decide)];exact M) n d⟩
 have y:b[0]?=MA b[0]:=Array.getElem?_eq_getElem W
 refine KW F.entry_min_loop ?_
 rw[Kp L4 _]
 show J3 _ A.in1 (seqItems? (.ref S) >>= fun _=>_) _ _ _
 refine cc (Lx (s:={ s with heap:=z }) Z rfl ?_)
 show J3 _ A.in1 (tryCatch (pyNext (.ref I)) _ >>= fun _=>_) _ _ _
 refine cc (Ly (wpAny_pyNext_list_item (s:={ s with heap:=z }) (hI.at fun o q=>Y _ _ q) (lst g) (x:=b[0]) y fun N i4 J=>?_))
 have K:N.get? S=MA _:=(J.2 _ B).trans Z
 show J3 _ A.in1 (updateSeq S (fun _=>#[b[0],b[0]]) >>= fun _=>_) _ _ _
 refine cc (wpAny_updateSeq K rfl ?_)
 rw[L]
 exact IV ⟨Lb L4 _,D (b.size-1) 0 _ _ b[0] _ () W (i4.at fun o q=>(JP _ _ B).trans q) (by rw[argBest];exact y) (Ky _ K rfl) fun x o q=>(JP _ _ (f x o q).2.symm).trans ((J.2 _ (f x o q).1).trans (g x o q))⟩
end
section
variable{X:Cx}
theorem qw:∀{b:List (Addr×Int×Int)} {a:List IQ},Vals (b.map fun t=>V.ref t.1) a->a=b.map fun t=>Km t.1
 |[],a,h=>by cases h;rfl
 |t::b,a,h=>by
  rw[IY]at h
  cases h with
  |cons r q=>cases r;rw[qw q];rfl
def PN(b c:Int×Int):Prop:=b.1<c.1\/(b.1=c.1/\b.2<=c.2)
theorem xP{b c:Int×Int}:HT.lexLt [b.1,b.2] [c.1,c.2]=MD↔PN c b:=by
 unfold PN;simp only[HT.lexLt];by_cases h:b.1=c.1
 ·rw[MF h];by_cases k:b.2=c.2
  ·rw[MF k];constructor
   ·intro _;omega
   ·intro _;rfl
  ·rw[ME k,decide_eq_false_iff_not];omega
 ·rw[ME h,decide_eq_false_iff_not];omega
theorem qr(f:Nat->Int×Int):∀k,(argBest (fun i j=>HT.lexLt [(f i).1,(f i).2] [(f j).1,(f j).2]) k<=k)/\∀i,i<=k->PN (f (argBest (fun i j=>HT.lexLt [(f i).1,(f i).2] [(f j).1,(f j).2]) k)) (f i)
 |0=>⟨IX _,fun i c=>by rw[show i=0 by omega];exact .inr ⟨rfl,KN _⟩⟩
 |k+1=>by
  obtain⟨a,b⟩:=qr f k
  rw[argBest]
  cases e:HT.lexLt [(f (k+1)).1,(f (k+1)).2] [(f (argBest (fun i j=>HT.lexLt [(f i).1,(f i).2] [(f j).1,(f j).2]) k)).1,(f (argBest (fun i j=>HT.lexLt [(f i).1,(f i).2] [(f j).1,(f j).2]) k)).2]with
  |true=>
   rw[MF rfl]
   refine⟨IX _,fun i c=>?_⟩
   by_cases z:i=k+1
   ·rw[z];exact .inr ⟨rfl,KN _⟩
   ·have q:=b i ()
    have n:¬PN (f (argBest (fun i j=>HT.lexLt [(f i).1,(f i).2] [(f j).1,(f j).2]) k)) (f (k+1)):=fun y=>by rw[xP.mpr y]at e;cases e
    unfold PN at *
    omega
  |false=>
   rw[ME ⋯]
   refine⟨(),fun i c=>?_⟩
   by_cases z:i=k+1
   ·rw[z];exact xP.mp e
   ·exact b i ()
theorem wx(y:X.calm=MC)(Y:X.A.units+64<K4):cw X (.builtin "min") (fun xs H Q=>∃(l:Addr) (d:List (Addr×Int×Int)),xs=[.ref l]/\d≠[]/\Mx X.K H l (d.map fun t=>.ref t.1)/\(∀t∈d,Mz X.K H t.1 ([t.2.1,t.2.2].map V.int))/\∀b∈d,(∀c∈d,PN b.2 c.2)->Q (.ref b.1) H):=by
 intro MP s σ H xs us Q I r z;obtain⟨l,d,e,B,C,w,k⟩:=z;subst e;obtain⟨u,rfl,D⟩:=vals1 r;cases D;obtain⟨E,F,p0,_⟩:=I.list C;have G:=qw F;subst G;have J:0<d.length:=List.length_pos_iff.mpr B;have get:∀i,i<d.length->∃t,d[i]?=MA t/\t∈d/\((d[i]?).map (·.2)).getD (0,0)=t.2:=fun i f=>⟨d[i],IS f,JS f,by rw[IS f];rfl⟩
 have item:∀{i:Nat} {v:IQ},(d.map fun t=>Km t.1).toArray[i]?=MA v->∃t,d[i]?=MA t/\t∈d/\v=.ref t.1/\((d[i]?).map (·.2)).getD (0,0)=t.2:=fun{i v} h=>by
  rw[List.getElem?_toArray,IW]at h;cases e:d[i]? with
  |none=>rw[e]at h;cases h
  |some t=>rw[e]at h;exact⟨t,rfl,IZ e,(Option.some.inj h).symm,rfl⟩
 obtain⟨b1,L⟩:=qr (fun i=>((d[i]?).map (·.2)).getD (0,0)) (d.length-1);refine GI (bt:=fun i j=>HT.lexLt [(((d[i]?).map (·.2)).getD (0,0)).1,(((d[i]?).map (·.2)).getD (0,0)).2] [(((d[j]?).map (·.2)).getD (0,0)).1,(((d[j]?).map (·.2)).getD (0,0)).2]) (I.ok.hd y) p0.isList (by simpa using J) (fun i j v u g n t Z E' m x=>?_) fun v h' tk g m=>?_
 ·obtain⟨a,_,o,rfl,p⟩:=item g;obtain⟨c,_,q,rfl,M⟩:=item n;obtain⟨i1,N,⟨O,P,R⟩,_⟩:=I.tuple (w a o);obtain⟨i2,S,⟨T,U,W⟩,_⟩:=I.tuple (w c q);rw[p,M]at x;exact HT.iN (A:=X.A.in1) (s:=t) ⟨O,m _ _ P,R⟩ ⟨T,m _ _ U,W⟩ (intsAre_of N) (intsAre_of S) (by show X.A.units+1<K4;omega) x
 ·rw[Ja,IU]at g;obtain⟨a,ai,o,rfl,p⟩:=item g;refine⟨.ref a.1,H,I.kept m,rfl,k a o fun c q=>?_⟩;obtain⟨i,f,e⟩:=Ld.mp q;have:=L i ();rw[p,IS f,e]at this;exact this
def Ot(p:Int×Int):D:=.tup [.int p.1,.int p.2]
theorem t7{K:I0}{H:Hp}:∀{ps:List (Int×Int)} {xs:List V},aI K H (ps.map Ot) xs->∃b:List (Addr×Int×Int),xs=(b.map fun t=>V.ref t.1)/\b.map (·.2)=ps/\∀t∈b,Mz K H t.1 ([t.2.1,t.2.2].map V.int)/\aI K H ([t.2.1,t.2.2].map D.int) ([t.2.1,t.2.2].map V.int)
 |[],xs,h=>by
  rw[Ki,aI]at h
  exact⟨[],h,rfl,fun t c=>by cases c⟩
 |p::ps,xs,h=>by
  rw[IY,aI]at h
  obtain⟨v,vs,rfl,d,g⟩:=h
  obtain⟨b,rfl,e,k⟩:=t7 g
  unfold Ot at d
  rw[Rep]at d
  obtain⟨a,l,rfl,i,f⟩:=d
  have j:=dY (ns:=[p.1,p.2]) f
  subst j
  exact⟨(a,p.1,p.2)::b,rfl,by rw[IY,e],fun t c=>by
   rcases Jo.mp c with rfl|c
   ·exact⟨i,f⟩
   ·exact k t c⟩
def BP:RC:=fun a M Q=>match a with
 |[.ref l]=>∃ps,M l=MA (.lst (ps.map Ot))/\ps≠[]/\∀b∈ps,(∀c∈ps,PN b c)->Q (Ot b) M
 |a=>B6 a M Q
theorem iX(d:X.calm=MC)(j:X.A.units+64<K4):dI X (.builtin "min") BP:=cx (cw.or (Az d j) (wx d j)) fun vs H Q m=>by
 obtain⟨y,M,R,l,a,q,f⟩:=m;unfold BP at q;split at q
 ·obtain⟨ps,e,n,q⟩:=q;obtain⟨v,rfl,r⟩:=cA l;rw[Rep]at r;subst r;obtain⟨xs,o,p⟩:=a _ _ e;obtain⟨s,rfl,g,k⟩:=t7 p;refine .inr ⟨_,s,rfl,fun z=>n (by rw[<-g,z];rfl),Mx.of o,fun t u=>(k t u).1,fun b h w=>f _ _ _ _ .refl ?_ a (q b.2 (by rw[<-g];exact List.mem_map_of_mem h) fun c d=>?_)⟩
  ·unfold Ot;rw[Rep];exact⟨_,_,rfl,(k b h).1,(k b h).2⟩
  ·rw[<-g]at d;obtain⟨x,i,rfl⟩:=JH.mp d;exact w x i
 ·exact .inl ⟨_,M,R,l,a,q,f⟩
end
theorem vf{z:Int}:0<Ji z↔0<z:=by
 rcases J4 z 0 with h|h|h
 ·rw[Jr h];omega
 ·subst h;simp
 ·rw[JK h];omega
theorem BO{w:Wl}{m p q:Int}(h:m*w.2.1<=q)(k:¬m*w.2.2.2<=q):Nk w m p q=if 0<sL w m p q then 1 else 0:=by
 unfold Nk Ov;rw[MF (c:=m*w.2.1<=q/\¬m*w.2.2.2<=q) ⟨h,k⟩];by_cases z:0<sL w m p q
 ·rw[MF z];rfl
 ·rw[ME z];rfl
theorem B9{w:Wl}{m p q:Int}(h:m*w.2.2.2<=q)(k:¬m*w.2.1<=q):Nk w m p q=if sL w m p q<0 then 1 else 0:=by
 unfold Nk Ov;rw[ME (c:=m*w.2.1<=q/\¬m*w.2.2.2<=q) (fun z=>k z.1),MF (c:=m*w.2.2.2<=q/\¬m*w.2.1<=q) ⟨h,k⟩];by_cases z:sL w m p q<0
 ·rw[MF z,MF z];rfl
 ·rw[ME z,ME z];rfl
theorem Cd{w:Wl}{m p q:Int}(h:m*w.2.1<=q↔m*w.2.2.2<=q):Nk w m p q=0:=by unfold Nk Ov;rw[ME (c:=m*w.2.1<=q/\¬m*w.2.2.2<=q) (fun z=>z.2 (h.mp z.1)),ME (c:=m*w.2.2.2<=q/\¬m*w.2.1<=q) (fun z=>z.2 (h.mpr z.1))];rfl
theorem Ak{w:Wl}{m p q:Int}(n:0<m){a b c d:Int}(o:(a,b,c,d)=Nf m w\/(a,b,c,d)=rev (Nf m w)) :
 (decide (q<b)=decide (q<d)->Nk w m p q=0)/\(decide (q<b)≠decide (q<d)->(d<b->Nk w m p q=if 0<Ji (NH (a-c) (b-d) (p-c) (q-d))then 1 else 0)/\(¬d<b->Nk w m p q=if 0<Ji (NH (c-a) (d-b) (p-a) (q-b))then 1 else 0)):=by
 obtain⟨e1,e2,_⟩:=Cp (z:=sL w m p q) n
 have E:(0<Ji (NH (m*w.2.2.1-m*w.1) (m*w.2.2.2-m*w.2.1) (p-m*w.1) (q-m*w.2.1)))=(0<sL w m p q):=by
  rw[vf,<-e1];congr 1;unfold NH sL;grind
 have l:(0<Ji (NH (m*w.1-m*w.2.2.1) (m*w.2.1-m*w.2.2.2) (p-m*w.2.2.1) (q-m*w.2.2.2)))=(sL w m p q<0):=by
  have:NH (m*w.1-m*w.2.2.1) (m*w.2.1-m*w.2.2.2) (p-m*w.2.2.1) (q-m*w.2.2.2)=-(m*sL w m p q):=by unfold NH sL;grind
  rw[vf,this,<-e2]
  exact propext ⟨fun h=>(),fun h=>()⟩
 rcases o with h|h
 ·have e:a=m*w.1:=congrArg (·.1) h
  have f:b=m*w.2.1:=congrArg (·.2.1) h
  have i:c=m*w.2.2.1:=congrArg (·.2.2.1) h
  have j:d=m*w.2.2.2:=congrArg (·.2.2.2) h
  clear h
  subst e f i j
  simp only[E,l]
  refine⟨fun k=>?_,fun k=>?_⟩
  ·rw[MK]at k
   exact Cd ()
  ·have k:¬(q<m*w.2.1↔q<m*w.2.2.2):=fun z=>k (decide_eq_decide.mpr z)
   exact⟨fun g=>B9 () (),fun g=>BO () ()⟩
 ·have e:a=m*w.2.2.1:=congrArg (·.1) h
  have f:b=m*w.2.2.2:=congrArg (·.2.1) h
  have i:c=m*w.1:=congrArg (·.2.2.1) h
  have j:d=m*w.2.1:=congrArg (·.2.2.2) h
  clear h
  subst e f i j
  simp only[E,l]
  refine⟨fun k=>?_,fun k=>?_⟩
  ·rw[MK]at k
   exact Cd ()
  ·have k:¬(q<m*w.2.2.2↔q<m*w.2.1):=fun z=>k (decide_eq_decide.mpr z)
   exact⟨fun g=>BO () (),fun g=>B9 () ()⟩
theorem uP{c:Prop}[Decidable c]:(if c then(1:Int)else 0)=if decide c=MC then 1 else 0:=by
 by_cases h:c
 ·rw[MF h,MF (MI h)]
 ·rw[ME h,ME (fun z=>h (MJ z))]
theorem F4{ws:List Wl}{m:Int}{g:Nat}(a:g<2*ws.length):fw (ws.map (Nf m)) g=Nf m (wn ws (g/2))\/fw (ws.map (Nf m)) g=rev (Nf m (wn ws (g/2))):=by
 have e:Mu (ws.map (Nf m)) ((g/2:Nat):Int)=Nf m (wn ws (g/2)):=Hm (():g/2<ws.length);unfold fw;rw[e];by_cases h:g%2=0
 ·rw[MF h];exact .inl rfl
 ·rw[ME h];exact .inr rfl
theorem Cf{ws:List Wl}(e:∀w∈ws,Mn w):∀{r:List Nat},(∀g∈r,g<2*ws.length)->(r.map (NO ws)).sum<=400*(r.length:Int)
 |[],_=>by simp
 |g::r,h=>by
  rw[IY,JU,JI]
  have i:=Cf e fun x j=>h x (JF _ j)
  have W:=aL e (show g/2<ws.length by have:=h g K0;omega)
  have pr:∀{a b c d:Int},(0<=a/\a<=20)->(0<=b/\b<=20)->(0<=c/\c<=20)->(0<=d/\d<=20)->a*b-c*d<=400:=fun{a b c d} k f l hd=>by
   have e1:=Int.mul_le_mul k.2 f.2 f.1 ⋯
   have e2:=LR l.1 hd.1
   omega
  have t:NO ws g<=400:=by
   unfold NO fa fb fw
   by_cases h:g%2=0
   ·rw[MF h];exact pr W.a W.d W.c W.b
   ·rw[ME h];exact pr W.c W.b W.a W.d
  omega
def OW(ws:List Wl)(m p q:Int)(r:List Nat):Int:=(r.map fun g=>Nk (wn ws (g/2)) m p q).sum
theorem tM(ws:List Wl)(m p q:Int):∀r:List Nat,0<=OW ws m p q r/\OW ws m p q r<=(r.length:Int)
 |[]=>⟨KN _,KN _⟩
 |g::r=>by
  have i:=tM ws m p q r
  have c:0<=Nk (wn ws (g/2)) m p q/\Nk (wn ws (g/2)) m p q<=1:=by unfold Nk;split<;>omega
  unfold OW at *
  rw[IY,JU,JI]
  omega
theorem zD{b c:Int×Int}(h:PN b c)(k:PN c b):b.2=c.2:=by unfold PN at *;omega
theorem HN{w:Wl}(h:Mn w){m:Int}(e:0<m/\m<=4):W8 (Nf m w):=by have p:∀{z:Int},(0<=z/\z<=20)->0<=m*z/\m*z<=80:=fun{z} h=>⟨LR () h.1,Int.mul_le_mul e.2 h.2 h.1 ⋯⟩;exact⟨p h.a,p h.b,p h.c,p h.d⟩
theorem uz{ws:List Wl}{M:MH}{ps:List Addr}{a:List (List Nat)}(h:RL M ps a):∀k,k<=ps.length->∃qs:List Addr,((J5 k).filterMap fun i=>if aK ws ((a[i]?).getD [])=MC then MA (D.ref ((ps[i]?).getD 0))else MB)=qs.map D.ref/\RL M qs ((a.take k).filter (aK ws))/\∀q∈qs,q∈ps
 |0,_=>⟨[],rfl,.nil,fun q c=>by cases c⟩
 |k+1,hk=>by
  obtain⟨qs,e,r,sub⟩:=uz h k ()
  obtain⟨S,d,f⟩:=h.get (():k<ps.length)
  rw[KD,List.filterMap_append,e,gE (aK ws) a d]
  by_cases o:aK ws S=MC
  ·rw[MF o]
   refine⟨qs++[ps[k]],?_,r.snoc f,fun q c=>(Jj.mp c).elim (sub q) fun z=>by rw[Jx.mp z];exact JS _⟩
   rw[Jg,List.filterMap_cons_some (b:=D.ref ps[k]) (by rw[d,IS ()];exact MF o)]
   rfl
  ·rw[ME o,JM]
   refine⟨qs,?_,r,sub⟩
   rw[List.filterMap_cons_none (by rw[d];exact ME o),List.filterMap_nil,JM]
theorem uf{R:Nat->Nat->Bool}:∀l:List Nat,l≠[]->(∀x∈l,∀y∈l,x≠y->R x y=MC\/R y x=MC)->(∀x∈l,∀y∈l,∀z∈l,R x y=MC->R y z=MC->R x z=MC)->∃m∈l,∀x∈l,x=m\/R x m=MC
 |[],h,_,_=>absurd rfl h
 |a::l,_,tot,tr=>by
  by_cases n:l=[]
  ·subst n;exact⟨a,K0,fun x b=>.inl (Jx.mp b)⟩
  ·obtain⟨m,c,d⟩:=uf l n (fun x b y f=>tot x (.tail _ b) y (.tail _ f)) (fun x b y f z g=>tr x (.tail _ b) y (.tail _ f) z (.tail _ g))
   by_cases e:a=m
   ·subst e;exact⟨a,.head _,fun x b=>(Jo.mp b).elim .inl (d x)⟩
   ·rcases tot a (.head _) m (.tail _ c) e with h|h
    ·exact⟨m,.tail _ c,fun x b=>(Jo.mp b).elim (fun z=>.inr (z▸h)) (d x)⟩
    ·refine⟨a,.head _,fun x b=>(Jo.mp b).elim .inl fun b=>.inr ?_⟩
     rcases d x b with z|z
     ·rw[z];exact h
     ·exact tr x (.tail _ b) m (.tail _ c) a (.head _) z h
section
variable{ws:List Wl}(hU:∀w∈ws,Mn w)(hF:PF ws)
include hU hF in
theorem A6{S:Nat->Prop}{v:Vc}(s:∀g,g<2*ws.length->fa ws g=v->S g->S (bh ws (fx g))){k:Nat}(t:k<2*ws.length)(u:fa ws k=v)(A:S k):∀x,x<2*ws.length->fa ws x=v->S x:=fun x p ex=>JB fun nx=>by
 have mem:∀{g},g∈(J5 (2*ws.length)).filter (fun g=>@decide (fa ws g=v/\S g) (Classical.propDecidable _))↔g<2*ws.length/\fa ws g=v/\S g:=fun{g}=>by rw[J6,Ju,@ML _ (Classical.propDecidable _)]
 have e:∀{g},g<2*ws.length/\fa ws g=v/\S g->g≠x:=fun h z=>nx (z▸h.2.2);have l:∀{g h},g<2*ws.length/\fa ws g=v/\S g->h<2*ws.length/\fa ws h=v/\S h->g≠h->O4 (fd ws g) (fd ws h):=fun a b n=>d5 hU hF a.1 b.1 n (a.2.1.trans b.2.1.symm);have d:∀{g},g<2*ws.length/\fa ws g=v/\S g->O4 (fd ws x) (fd ws g):=fun a=>d5 hU hF p a.1 (e a).symm (ex.trans a.2.1.symm);obtain⟨g,B,f⟩:=uf (R:=fun a b=>OI (fd ws x) (fd ws a) (fd ws b)) _ (Kq (mem.mpr ⟨t,u,A⟩)) (fun a i b j n=>oj (d (mem.mp i)) (d (mem.mp j)) (l (mem.mp i) (mem.mp j) n)) (fun a i b j c C D E=>n6 (d (mem.mp i)) (d (mem.mp j)) (d (mem.mp C)) D E);have G:=mem.mp B;have o:x∈cV ws (fx g):=bD.mpr ⟨p,by rw[qV,ex,G.2.1],by rw[tZ];exact(e G).symm⟩;have F:=s g G.1 G.2.1 G.2.2;rcases f6 hU hF (ie G.1)with⟨z,_⟩|⟨m,first⟩
 ·rw[z]at o;cases o
 ·obtain⟨H,q,r⟩:=bD.mp m;rw[qV]at q;have N:bh ws (fx g)<2*ws.length/\fa ws (bh ws (fx g))=v/\S (bh ws (fx g)):=⟨H,q.trans G.2.1,F⟩;rcases first x o with z|z
  ·exact e N z.symm
  ·unfold NT at z;rw[tZ]at z r;rcases f _ (mem.mpr N)with y|y
   ·exact r y
   ·exact t6 (d G) y z
variable{f:Nat}(hf:f<2*ws.length){r:List Nat}(R:gu ws f r)
include hU hF hf R in
def Wt(ws:List Wl)(r:List Nat)(g:Nat):Prop:=g∈r\/Pf ws (dR r) g=-1
variable(a:Pf ws (dR r) f=0)
include hU hF hf R a in
theorem qP{g:Nat}(h:Wt ws r g):Wt ws r (fx g):=by
 by_cases m:fx g∈r
 ·exact .inl m
 ·refine .inr ?_;have e:=Cq ws (dR r) g
  have d:eF (dR r) (fx g)=if g∈r then 1 else 0:=by
   unfold eF dR;obtain⟨b,c⟩:=fZ g;by_cases p:g%2=0
   ·have e1:fx g=2*(g/2)+1:=by unfold fx;rw[MF p];omega
    rw[ME (),b,<-e1,ME m,show 2*(g/2)=g by omega];split<;>rfl
   ·have e1:fx g=2*(g/2):=by unfold fx;rw[ME p];omega
    rw[MF (),b,<-e1,ME m,show fx g+1=g by omega];split<;>rfl
  rw[d]at e;by_cases n:g∈r
  ·rw[MF n,bI hU hF hf R (aQ hU hF hf R) n,a]at e;omega
  ·rw[ME n]at e;have:=h.resolve_left n;omega
include hU hF hf R a in
theorem FT{g:Nat}(b:g<2*ws.length)(h:Wt ws r g):Wt ws r (bh ws g):=by
 rcases h with h|h
 ·exact .inl (ky hU hF hf R g h)
 ·exact .inr (by rw[BR hU hF (aQ hU hF hf R) b];exact h)
include hU hF hf R a in
theorem v9{g x:Nat}(b:g<2*ws.length)(c:x<2*ws.length)(e:fa ws g=fa ws x)(h:Wt ws r g):Wt ws r x:=A6 hU hF (S:=Wt ws r) (v:=fa ws x) (fun y d _ s=>FT hU hF hf R a (ie d) (qP hU hF hf R a s)) b e h x c rfl
def R0(ws:List Wl)(i j:Nat):Prop:=(∃g h,g/2=i/\h/2=j/\fa ws g=fa ws h)
include hU hF hf R a in
theorem Ey{i j:Nat}(d:i<ws.length)(k:j<ws.length)(t:R0 ws i j)(h:Wt ws r (2*i)):Wt ws r (2*j):=by
 obtain⟨g,x,rfl,rfl,e⟩:=t
 have b:∀{y:Nat},Wt ws r (2*(y/2))->Wt ws r y:=fun{y} h=>by
  by_cases p:y%2=0
  ·rw[show y=2*(y/2) by omega];exact h
  ·have:fx (2*(y/2))=y:=by unfold fx;rw[MF ()];omega
   rw[<-this];exact qP hU hF hf R a h
 have c:∀{y:Nat},Wt ws r y->Wt ws r (2*(y/2)):=fun{y} h=>by
  by_cases p:y%2=0
  ·rw[show 2*(y/2)=y by omega];exact h
  ·have:fx y=2*(y/2):=by unfold fx;rw[ME p];omega
   rw[<-this];exact qP hU hF hf R a h
 exact c (v9 hU hF hf R a () () e (b h))
include hU hF hf R a in
theorem zK{D:Nat}{c:List Nat}(O:Qc ws D c)(E:∀g∈c,g∉r)(w:∀g∈c,Wt ws r g):Pf ws (dR c) f=0:=by
 have v:=aQ hU hF hf R;have d:=aQ hU hF O.hf O.R;obtain⟨t,k,L,_⟩:=d6 hU hF O.hf O.R
 have m:2*k∈c:=by
  rcases gF hU hF O.hf O.R L with⟨_,z⟩|⟨_,m,_⟩
  ·rw[O.a]at z;cases z
  ·exact m
 have A:sp (wn ws k) t=MC:=aX.mpr ⟨by have:=L.e;omega,by have:=L.e;have:=(aL hU L.k1).lt;omega⟩;have B:Fa ws (dR r) k t=-1:=by rw[<-n9 (fun a b=>ir hU hF v a b) L.k1 A];exact(w _ m).resolve_left (E _ m)
 rcases sQ (ws:=ws) (dR r) (x:=k) (t:=t)with h|⟨y,y1,l,F,G,e⟩
 ·rw[h _ fun _ h=>h]at B;omega
 ·rw[e (dR r) fun _ h=>h,ir hU hF v y1 l]at B
  have H:2*y+1∈r:=by
   rcases xI hU hF hf R (iM.mpr ⟨y1,l,F⟩)with⟨_,z⟩|⟨z,_⟩
   ·rw[a]at z;omega
   ·refine JB fun n=>?_;unfold dR at z;rw[ME n]at z;split at z<;>omega
  rw[<-bI hU hF hf R d H,iA,<-gJ hU hF d y1 l];refine cL fun i j=>?_;by_cases o:2*i∈c\/2*i+1∈c
  ·refine ME fun q=>?_;rw[Jn]at q;have J:=aX.mp q.1;have I:=L.low i o (by have:=L.ge i o;omega);have p:Mr (wn ws y) (wn ws i)=MC:=q.2;have s:y≠i:=fun z=>by subst z;rw[cv (aL hU j)]at p;cases p
   have x1:=(dh (aL hU y1) (aL hU j) (a9 hF y1 j s) l q.1).mp p;have u:k≠i:=fun z=>by subst z;exact absurd x1 (Rat.not_lt.mpr G)
   have C:=(dh (aL hU L.k1) (aL hU j) (a9 hF L.k1 j u) A q.1).mpr (by grind);rw[I]at C;cases C
  ·have:dR c i=0:=by unfold dR;rw[ME fun z=>o (.inl z),ME fun z=>o (.inr z)];rfl
   rw[this];split<;>rfl
end
inductive Cn(ws:List Wl)(i:Nat):Nat->Prop
 |refl:Cn ws i i
 |step {j k:Nat} (h:Cn ws i j) (hk:k<ws.length) (t:R0 ws j k):Cn ws i k
theorem Cn.lt{ws:List Wl}{i j:Nat}(a:i<ws.length)(h:Cn ws i j):j<ws.length:=by
 induction h with
 |refl=>exact a
 |step _ b _ _=>exact b
section
variable{ws:List Wl}(hU:∀w∈ws,Mn w)(hF:PF ws){f:Nat}(hf:f<2*ws.length){r:List Nat}(R:gu ws f r)
include hU hF hf R
theorem uQ{i g:Nat}(h:Cn ws i (f/2))(a:g∈r):Cn ws i (g/2):=by
 obtain⟨k,n,e,rfl⟩:=R;obtain⟨j,b,rfl⟩:=d7.mp a;clear a b
 induction j with
 |zero=>exact h
 |succ j c=>
  have l:=cy hU hF hf j
  have d:=cy hU hF hf (j+1)
  refine .step c () ⟨fx (NJ ws f j),NJ ws f (j+1),(fZ _).1,rfl,?_⟩
  rw[d8]
  exact(ib hU hF l).symm
theorem BG{i g:Nat}(d:i<ws.length)(a:g∈r)(h:Cn ws i (g/2)):Cn ws i (f/2):=by
 obtain⟨k,n,e,rfl⟩:=R;obtain⟨j,b,rfl⟩:=d7.mp a;clear a b
 induction j with
 |zero=>exact h
 |succ j c=>
  refine c (.step h (by have:=cy hU hF hf j;omega) ⟨NJ ws f (j+1),fx (NJ ws f j),rfl,(fZ _).1,?_⟩)
  rw[d8]
  exact ib hU hF (cy hU hF hf j)
theorem Ha(a:Pf ws (dR r) f=0){j:Nat}(h:Cn ws (f/2) j):Wt ws r (2*j):=by
 have base:Wt ws r f:=.inl (gT hU hF hf R)
 have b0:Wt ws r (2*(f/2)):=by
  by_cases p:f%2=0
  ·rw[show 2*(f/2)=f by omega];exact base
  ·have:fx f=2*(f/2):=by unfold fx;rw[ME p];omega
   rw[<-this];exact qP hU hF hf R a base
 induction h with
 |refl=>exact b0
 |step h b t c=>exact Ey hU hF hf R a (h.lt ()) b t c
theorem yA(a:Pf ws (dR r) f=0){d:Nat}{b:List Nat}(O:Qc ws d b)(e:∀g∈b,g∉r)(c:Cn ws (f/2) (d/2)):Pf ws (dR b) f=0:=by
 refine zK hU hF hf R a O e fun g i=>?_;have h:=Ha hU hF hf R a (uQ hU hF O.hf O.R c i);by_cases p:g%2=0
 ·rw[show g=2*(g/2) by omega];exact h
 ·have:fx (2*(g/2))=g:=by unfold fx;rw[MF ()];omega
  rw[<-this];exact qP hU hF hf R a h
end
section
variable{ws:List Wl}(hU:∀w∈ws,Mn w)(hF:PF ws)
include hU hF in
theorem mH{c:Vc}(f:N8 c){j k:Nat}(g:j<ws.length)(h:k<ws.length)(e:l1 (wn ws j)=la c.1 c.2)(m:l1 (wn ws k)≠la c.1 c.2)(p:l2 (wn ws k)≠la c.1 c.2):¬R6 (wn ws k) 1 c.1 c.2/\(BL ws 1 c.1 c.2 k↔l1 (wn ws k)<la c.1 c.2/\la c.1 c.2<l2 (wn ws k)/\0<Nj (wn ws k) (la c.1 c.2)):=by
 have W:=aL hU h;have ne:k≠j:=fun z=>m (z▸e);have q:=f.1;have hd:=f.2;have r:=W.a;have s:=W.b;have t:=W.c;have u:=W.d
 have i:Nj (wn ws k) (la c.1 c.2)=sL (wn ws k) 1 c.1 c.2:=by
  have e1:la c.1 c.2/100=c.1:=by unfold la;omega
  have e2:la c.1 c.2%100=c.2:=by unfold la;omega
  unfold Nj sd sL NH
  rw[e1,e2];grind
 have e1:Mq (wn ws k) (wn ws j)=Nj (wn ws k) (la c.1 c.2):=(Fp (aL hU g) e).symm;have n:RE (wn ws k) 1 c.1 c.2↔l1 (wn ws k)<=la c.1 c.2/\la c.1 c.2<l2 (wn ws k):=by unfold RE l1 l2 la;omega
 constructor
 ·intro o;have z:sL (wn ws k) 1 c.1 c.2=0:=by have:=o.1;unfold sL;omega
  have a:=o.la W;have l:l1 (wn ws k)<la c.1 c.2/\la c.1 c.2<l2 (wn ws k):=by unfold la at *;omega
  have:=(a9 hF h g ne).e1.nz (by rw[e];exact l.1) (by rw[e];exact l.2);rw[e1,i]at this;exact this z
 ·show(RE _ _ _ _/\0<sL _ _ _ _)↔_;rw[n,i];omega
variable{L:List Int}{rs:List (List Nat)}(G:OG ws (2*ws.length) rs)
def Gn(ws:List Wl)(outs:List (List Nat))(ok:List Nat->Prop)(v:Int):Prop:=
 (v=0/\∀S∈outs,¬ok S)\/∃(i:Nat) (S:List Nat),outs[i]?=MA S/\v=((i+1:Nat):Int)/\ok S/\(∀g∈S,g<2*ws.length)/\∀(j:Nat) (T:List Nat),outs[j]?=MA T->j≠i->ok T->(S.map (NO ws)).sum<(T.map (NO ws)).sum
include hU hF G in
theorem rN(X:∀(i:Nat) (S:List Nat),(rs.filter (aK ws))[i]?=MA S->∀g∈S,L[g]?=MA ((i+1:Nat):Int))(Y:∀r∈rs,aK ws r=MD->∀g∈r,L[g]?=MA (O0 ws L (fc ws r)))
 {r:List Nat} (P:r∈rs) (o:aK ws r=MD) {f:Nat} (hf:f<2*ws.length) (R:gu ws f r) {v:Int} (Q:L[f]?=MA v) :
 Gn ws (rs.filter (aK ws)) (fun T=>¬Cn ws (f/2) (T.headD 0/2)/\OW ws 1 (fc ws r).1 (fc ws r).2 T%2=1) v:=by
 obtain⟨k,l,U,q⟩:=iF hU hF hf R
 have mk:2*k+1∈r:=by
  rcases q with⟨z,_⟩|⟨_,z⟩
  ·rw[o]at z;cases z
  ·exact z
 have a:Pf ws (dR r) f=0:=by
  rcases gF hU hF hf R l with⟨_,z⟩|⟨z,_⟩
  ·exact z
  ·exact absurd mk z
 have ring:∀S∈rs.filter (aK ws),∃f,Qc ws f S/\S.headD 0=f:=fun S B=>by
  obtain⟨a,o⟩:=J6.mp B
  obtain⟨f,F,R⟩:=dn G S a
  obtain⟨k,_,_,q⟩:=iF hU hF F R
  rcases q with⟨_,z⟩|⟨z,_⟩
  ·refine⟨f,⟨F,R,z⟩,?_⟩
   obtain⟨kk,_,_,rfl⟩:=R
   unfold rn
   rw[List.range_succ_eq_map];rfl
  ·rw[o]at z;cases z
 have key:∀T∈rs.filter (aK ws),(¬Cn ws (f/2) (T.headD 0/2)/\OW ws 1 (fc ws r).1 (fc ws r).2 T%2=1)↔Pf ws (dR T) f=1:=fun T u=>by
  obtain⟨Z,O,e0⟩:=ring T u
  rw[e0]
  have nT:∀g∈T,g∉r:=fun g C H=>by
   have:=fM hU hF (IX _) G T (J6.mp u).1 r P g C H
   rw[<-this,(J6.mp u).2]at o;cases o
  by_cases c:Cn ws (f/2) (Z/2)
  ·have z:=yA hU hF hf R a O nT c
   rw[z]
   exact⟨fun h=>absurd c h.1,fun h=>by cases h⟩
  ·have t:=aQ hU hF O.hf O.R
   have n:∀i,i<ws.length->dR T i≠0->l1 (wn ws i)≠la (fc ws r).1 (fc ws r).2/\l2 (wn ws i)≠la (fc ws r).1 (fc ws r).2:=fun i s di=>by
    have mi:∃g∈T,g/2=i:=by
     by_cases m:2*i∈T
     ·exact⟨_,m,()⟩
     ·by_cases V:2*i+1∈T
      ·exact⟨_,V,()⟩
      ·exfalso;apply di;unfold dR;rw[ME m,ME V];rfl
    obtain⟨g,C,rfl⟩:=mi
    have ck:Cn ws (f/2) k:=by
     have:=uQ hU hF hf R .refl mk
     rwa [show(2*k+1)/2=k by omega]at this
    have W:∀x,x<2*ws.length->x/2=g/2->la (fa ws x).1 (fa ws x).2=la (fc ws r).1 (fc ws r).2->False:=fun x I ex e=>by
     refine c (BG hU hF O.hf O.R () C (.step ck (by have:=cW hU hF O.hf O.R g C;omega) ⟨2*k,x,(),ex,?_⟩))
     refine uc hU (show 2*k<2*ws.length by have:=l.k1;omega) I ?_
     rw[cf,l.e,e]
    exact⟨fun z=>W (2*(g/2)) () () (by rw[cf];exact z),fun z=>W (2*(g/2)+1) () () (by rw[mm];exact z)⟩
   obtain⟨e,he⟩:=A5 hU hF O.hf O.R (m:=1) (p:=(fc ws r).1) (q:=(fc ws r).2) ⋯ fun i s di=>(mH hU hF U l.k1 s l.e (n i s di).1 (n i s di).2).1
   have vz:Vs ws (dR T) 1 (fc ws r).1 (fc ws r).2=Pf ws (dR T) f:=by
    rw[qG hU hF hf R l mk t]
    unfold Vs Zc
    refine aW fun i s=>?_
    by_cases di:dR T i=0
    ·rw[di];split<;>split<;>rfl
    ·have co:=(mH hU hF U l.k1 s l.e (n i s di).1 (n i s di).2).2
     by_cases b:BL ws 1 (fc ws r).1 (fc ws r).2 i
     ·rw[MF b,MF (co.mp b)]
     ·rw[ME b,ME fun y=>b (co.mpr y)]
   have a0:Pf ws (dR T) f=0\/Pf ws (dR T) f=1:=by
    have A:=l.k1
    have sk:sp (wn ws k) (la (fc ws r).1 (fc ws r).2)=MC:=aX.mpr ⟨by have:=l.e;omega,by have:=l.e;have:=(aL hU l.k1).lt;omega⟩
    have e2:=ir hU hF t A sk
    have e3:Pf ws (dR T) f=Bw ws (dR T) k:=by rw[<-bI hU hF hf R t mk,iA]
    have d1:Bw ws (dR T) k+dR T k=0\/Bw ws (dR T) k+dR T k=1:=by rw[<-e2];exact jt hU hF O k _
    have dk:dR T k=0:=JB fun z=>(n k A z).1 l.e
    rw[e3];omega
   unfold OW
   rw[he,vz]
   exact⟨fun h=>(),fun h=>⟨c,()⟩⟩
 have mf:=gT hU hF hf R
 rcases lI hU hF G X Y ((la (fc ws r).1 (fc ws r).2).toNat+1) r P () f mf with⟨z,c⟩|⟨i,S,g',J,mg,d,e⟩
 ·rw[Q]at z
  refine .inl ⟨Option.some.inj z,fun S B ok=>?_⟩
  have:=(key S B).mp ok
  rw[c S B]at this;cases this
 ·rw[Q]at d
  have D:=IZ J
  obtain⟨F,O,_⟩:=ring S D
  have own:Pf ws (dR S) g'=1:=by rw[bI hU hF O.hf O.R (aQ hU hF O.hf O.R) mg,O.a]
  refine .inr ⟨i,S,J,Option.some.inj d,(key S D).mpr (by rw[e S D];exact own),cW hU hF O.hf O.R,fun j T u ne ok=>?_⟩
  have E:=IZ u
  obtain⟨f2,K,_⟩:=ring T E
  have M:S≠T:=fun z=>by
   subst z
   have nd:(rs.filter (aK ws)).Nodup:=KO _ (fB G)
   obtain⟨p1,e1⟩:=J1.mp J
   obtain⟨p2,e2⟩:=J1.mp u
   exact ne ((List.getElem_inj nd).mp (e2.trans e1.symm))
  refine wz hU hF O K (fun x I N=>M (fM hU hF (IX _) G S (J6.mp D).1 T (J6.mp E).1 x I N)) ?_
  rw[<-bI hU hF O.hf O.R (aQ hU hF K.hf K.R) mg,<-e T E]
  exact(key T E).mp ok
end
theorem Ad(a b c d x y:Int):([PyData.tuple [.int a,.int b],.tuple [.int c,.int d]].any fun q=>Jt q (.tuple [.int x,.int y]))=decide ((a=x/\b=y)\/(c=x/\d=y)):=by simp only[L8,List.any_nil,Jt,JN,fR,Bool.or_false,L9];rw[K5];simp
def OV(V:Wl)(x y:Int):Bool:=decide ((V.1=x/\V.2.1=y)\/(V.2.2.1=x/\V.2.2.2=y))
def OF(U V:Wl)(j:Nat):Option D:=if j=0 then(if OV V U.1 U.2.1=MC then MA (.tup [.int U.1,.int U.2.1])else MB)else(if OV V U.2.2.1 U.2.2.2=MC then MA (.tup [.int U.2.2.1,.int U.2.2.2])else MB)
def VJ(U V:Wl):Bool:=OV V U.1 U.2.1||OV V U.2.2.1 U.2.2.2
theorem F6{M:MH}{p q:Addr}{U V:Wl}{Q:DK}(c:M p=MA (.lst ((J5 2).filterMap (OF U V))))(d:M q=MA (.lst []))(k:Q (.bl (VJ U V)) M):DX (.ref p) (.ref q) M Q:=by
 have e:(J5 2).filterMap (OF U V)=(OF U V 0).toList++(OF U V 1).toList:=by show[0,1].filterMap (OF U V)=_;simp only[List.filterMap_cons,List.filterMap_nil];cases OF U V 0<;>cases OF U V 1<;>rfl
 rw[e]at c;have f:OF U V 0=if OV V U.1 U.2.1=MC then MA (.tup [.int U.1,.int U.2.1])else MB:=rfl;have g:OF U V 1=if OV V U.2.2.1 U.2.2.2=MC then MA (.tup [.int U.2.2.1,.int U.2.2.2])else MB:=rfl;rw[f,g]at c;unfold VJ at k;cases a:OV V U.1 U.2.1<;>cases b:OV V U.2.2.1 U.2.2.2<;>rw[a,b]at c k
 ·exact .mk _ _ (.lst c .nil) (.lst d .nil) rfl rfl k
 ·exact .mk _ _ (.lst c (.cons (Pd.of rfl) .nil)) (.lst d .nil) rfl rfl k
 ·exact .mk _ _ (.lst c (.cons (Pd.of rfl) .nil)) (.lst d .nil) rfl rfl k
 ·exact .mk _ _ (.lst c (.cons (Pd.of rfl) (.cons (Pd.of rfl) .nil))) (.lst d .nil) rfl rfl k
theorem C9{ws:List Wl}{i j:Nat}:VJ (wn ws j) (wn ws i)=MC↔R0 ws i j:=by
 have a:∀k,fa ws (2*k)=((wn ws k).1,(wn ws k).2.1):=fun k=>by unfold fa;rw[f9]
 have b:∀k,fa ws (2*k+1)=((wn ws k).2.2.1,(wn ws k).2.2.2):=fun k=>by unfold fa;rw[oG];rfl
 unfold VJ OV;rw[Bool.or_eq_true,ML,ML];constructor
 ·rintro((h|h)|(h|h))
  ·exact⟨2*i,2*j,(),(),by rw[a,a,h.1,h.2]⟩
  ·exact⟨2*i+1,2*j,(),(),by rw[a,b,h.1,h.2]⟩
  ·exact⟨2*i,2*j+1,(),(),by rw[a,b,h.1,h.2]⟩
  ·exact⟨2*i+1,2*j+1,(),(),by rw[b,b,h.1,h.2]⟩
 ·rintro⟨g,h,rfl,rfl,e⟩;rcases Kg g with p|p<;>rcases Kg h with q|q
  ·rw[show g=2*(g/2) by omega,show h=2*(h/2) by omega,a,a]at e;exact .inl (.inl ⟨congrArg (·.1) e,congrArg (·.2) e⟩)
  ·rw[show g=2*(g/2) by omega,show h=2*(h/2)+1 by omega,a,b]at e;exact .inr (.inl ⟨congrArg (·.1) e,congrArg (·.2) e⟩)
  ·rw[show g=2*(g/2)+1 by omega,show h=2*(h/2) by omega,a,b]at e;exact .inl (.inr ⟨congrArg (·.1) e,congrArg (·.2) e⟩)
  ·rw[show g=2*(g/2)+1 by omega,show h=2*(h/2)+1 by omega,b,b]at e;exact .inr (.inr ⟨congrArg (·.1) e,congrArg (·.2) e⟩)
theorem A0(U V:Wl):(OF U V 0).isSome=OV V U.1 U.2.1/\(OF U V 1).isSome=OV V U.2.2.1 U.2.2.2:=by
 have a:OF U V 0=if OV V U.1 U.2.1=MC then MA (.tup [.int U.1,.int U.2.1])else MB:=rfl;have b:OF U V 1=if OV V U.2.2.1 U.2.2.2=MC then MA (.tup [.int U.2.2.1,.int U.2.2.2])else MB:=rfl;rw[a,b];constructor
 ·cases OV V U.1 U.2.1<;>rfl
 ·cases OV V U.2.2.1 U.2.2.2<;>rfl
theorem vp(a:List Nat)(i:Nat):((a.map fun g:Nat=>(g:Int)).any fun z=>z==(i:Int))=decide (i∈a):=by
 rw[List.any_map,K5,List.any_eq_true,ML];constructor
 ·rintro⟨x,b,e⟩;have:(x:Int)=(i:Int):=by simpa using e
  have:x=i:=()
  subst this;exact b
 ·intro h;exact⟨i,h,by simp⟩
def Ol(r:List Nat):LC:=.list (r.map fun g:Nat=>Lk (g:Int))
theorem pF{M:MH}{p:Addr}{r:List Nat}(h:M p=MA (.lst (r.map fun g:Nat=>D.int (g:Int)))):Pd M (.ref p) (Ol r):=by refine .lst h ?_;have:=dJ (M:=M) (r.map fun g:Nat=>(g:Int));rw[Ku,Ku]at this;exact this
theorem yC(r:List Nat):(r.map fun g:Nat=>Lk (g:Int))=(r.map fun g:Nat=>(g:Int)).map Lk:=by rw[Ku];rfl
theorem nK(r:List Nat):Kt (Ol r)=MC:=by unfold Ol;rw[yC];exact shaped_ints _
theorem yM(r:List Nat):Lz (Ol r)=MC:=by unfold Ol;rw[yC,Lz];exact lay_ints _
theorem zf:∀a:List (List Nat),Kl (RN a)=MC
 |[]=>rfl
 |r::a=>by
  have e:RN (r::a)=Ol r::RN a:=rfl
  rw[e,Kl,yM,zf a];rfl
theorem uA:∀a b:List Nat,JN (a.map fun g:Nat=>Lk (g:Int)) (b.map fun g:Nat=>Lk (g:Int))=decide (a=b)
 |[],[]=>by simp[JN]
 |[],y::b=>by simp[JN]
 |x::a,[]=>by simp[JN]
 |x::a,y::b=>by
  rw[IY,IY,JN,uA a b,Jt,fR,K5]
  simp only[Jn,ML,List.cons.injEq]
  constructor<;>rintro⟨d,c⟩<;>exact⟨(),c⟩
theorem rG(a b:List Nat):Jt (Ol a) (Ol b)=decide (a=b):=by unfold Ol;rw[Jt,uA]
theorem CB(a:List (List Nat))(r:List Nat):((RN a).any fun q=>Jt q (Ol r))=decide (r∈a):=by
 rw[K5,List.any_eq_true,ML];constructor
 ·rintro⟨q,b,e⟩;obtain⟨s,c,rfl⟩:=JH.mp b;have e:Jt (Ol s) (Ol r)=MC:=e;rw[rG,ML]at e;exact e▸c
 ·intro h;exact⟨Ol r,JH.mpr ⟨r,h,rfl⟩,by rw[rG];exact MI rfl⟩
def Qa(ws:List Wl)(outs:List (List Nat))(ok:List Nat->Bool)(i:Nat):Option (Int×Int):=if ok ((outs[i]?).getD [])=MC then MA ((((outs[i]?).getD []).map (NO ws)).sum,((i:Nat):Int)+1)else MB
def PR(ws:List Wl)(outs:List (List Nat))(ok:List Nat->Bool)(k:Nat):List (Int×Int):=(10^60,0)::(J5 k).filterMap (Qa ws outs ok)
theorem AX(ws:List Wl)(outs:List (List Nat))(ok:List Nat->Bool)(k:Nat):(PR ws outs ok k).length<=k+1:=by unfold PR;have:=List.length_filterMap_le (Qa ws outs ok) (J5 k);rw[List.length_range]at this;rw[JI];omega
theorem xC(ws:List Wl)(outs:List (List Nat))(ok:List Nat->Bool)(k:Nat):PR ws outs ok (k+1)=PR ws outs ok k++(Qa ws outs ok k).toList:=by
 unfold PR;rw[KD,List.filterMap_append,List.cons_append]
 congr 2
theorem Aw{ws:List Wl}(m:∀w∈ws,Mn w){outs:List (List Nat)}(n:∀S∈outs,S.length<=80){ok:List Nat->Bool}{P:List Nat->Prop}(op:∀S∈outs,ok S=MC↔P S){v:Int}(L:Gn ws outs P v){b:Int×Int}(k:b∈PR ws outs ok outs.length)(mn:∀c∈PR ws outs ok outs.length,PN b c):b.2=v:=by
 have get:∀{c:Int×Int},c∈(J5 outs.length).filterMap (Qa ws outs ok)->∃j T,outs[j]?=MA T/\P T/\c=((T.map (NO ws)).sum,((j:Nat):Int)+1):=fun{c} p=>by
  obtain⟨j,d,e⟩:=List.mem_filterMap.mp p
  have d:=Ju.mp d
  unfold Qa at e
  rw[IS d]at e
  split at e
  ·rename_i o;exact⟨j,outs[j],IS d,(op _ (JS d)).mp o,(Option.some.inj e).symm⟩
  ·cases e
 rcases L with⟨rfl,z⟩|⟨i,S,g,rfl,o,lt,a⟩
 ·rcases Jo.mp k with h|h
  ·rw[h]
  ·obtain⟨j,T,f,o,_⟩:=get h;exact absurd o (z T (IZ f))
 ·have l:=IZ g;have q:((S.map (NO ws)).sum,((i:Nat):Int)+1)∈PR ws outs ok outs.length:=by refine JF _ (List.mem_filterMap.mpr ⟨i,Ju.mpr (J1.mp g).1,?_⟩);unfold Qa;rw[g];exact MF ((op S l).mpr o)
  have r:((i+1:Nat):Int)=((i:Nat):Int)+1:=()
  rw[r];refine zD (mn _ q) ?_;rcases Jo.mp k with h|h
  ·rw[h];refine .inl ?_;have:=Cf m lt;have:=n S l;show(S.map (NO ws)).sum<10^60;omega
  ·obtain⟨j,T,f,s,rfl⟩:=get h;by_cases e:j=i
   ·subst e;rw[g]at f;cases f;exact .inr ⟨rfl,KN _⟩
   ·exact .inl (a j T f e s)
theorem ints_list:∀F:List D,(∀g,g<F.length->∃a,F[g]?=MA (.int a))->∃L:List Int,F=L.map D.int
 |[],_=>⟨[],rfl⟩
 |d::F,h=>by
  obtain⟨a,c⟩:=h 0 (by simp)
  obtain⟨L,e⟩:=ints_list F fun g f=>by
   obtain⟨b,i⟩:=h (g+1) (by simpa using f)
   exact⟨b,by simpa using i⟩
  refine⟨a::L,?_⟩
  have:d=.int a:=by simpa using c
  rw[this,e];rfl
theorem vN{ws:List Wl}{F:List D}(i:F.length=2*ws.length)(h:∀g,g<2*ws.length->∃a,F[g]?=MA (.int a)/\∀L,dF ws L->L[g]?=MA a):∃L:List Int,F=L.map D.int/\∀c,dF ws c->c=L:=by
 obtain⟨L,rfl⟩:=ints_list F fun g d=>by obtain⟨a,e,_⟩:=h g ();exact⟨a,e⟩
 refine⟨L,rfl,fun c f=>List.ext_getElem? fun g=>?_⟩;have l1:=f.len;rw[IU]at i;by_cases d:g<2*ws.length
 ·obtain⟨a,e,k⟩:=h g d;rw[k c f];rw[IW]at e;cases z:L[g]? with
  |none=>rw[z]at e;cases e
  |some b=>rw[z]at e;cases e;rfl
 ·rw[List.getElem?_eq_none (),List.getElem?_eq_none ()]
theorem C1{a:List Nat}{n:Nat}(nd:a.Nodup)(lt:∀j∈a,j<n)(h:¬a.length<n):∀j,j<n->j∈a:=fun j b=>JB fun m=>by have:=oE n (j::a) (Lf.mpr ⟨m,nd⟩) fun x c=>(Jo.mp c).elim (fun e=>e▸b) (lt x);rw[JI]at this;omega
theorem EN(ws:List Wl):ws.map (Nf 1)=ws:=by
 have:Nf 1=fun w:Wl=>w:=by funext w;unfold Nf;rw[LJ,LJ,LJ,LJ]
 rw[this];exact List.map_id' ws
theorem yI(g:Nat):Int.fdiv (g:Int) 2=((g/2:Nat):Int):=by rw[JQ _ ⋯];omega
theorem ER{ws:List Wl}(f:∀w∈ws,Mn w){r:List Nat}(lt:∀g∈r,g<2*ws.length){b:Int×Int}(j:b∈r.map (fa ws))(mn:∀c∈r.map (fa ws),PN b c):b=fc ws r:=by obtain⟨h,d,rfl⟩:=JH.mp j;obtain⟨k,g,i,e⟩:=ko ws (Kq d);have a:=mn _ (JH.mpr ⟨g,i,rfl⟩);have b:=k h d;rw[e]at b ⊢;have y1:=An f (lt g i);have y0:=An f (lt h d);refine uc f (lt h d) (lt g i) ?_;unfold tf at b;unfold PN at a;unfold la at *;omega
theorem zk{ws:List Wl}{f:Nat}{r:List Nat}(R:gu ws f r):r[0]?=MA f/\r.headD 0=f:=by obtain⟨a,_,_,rfl⟩:=R;unfold rn;rw[List.range_succ_eq_map];exact⟨rfl,rfl⟩
theorem zj:∀L:List Int,Jt (.list (L.map Lk)) (.list (L.map Lk))=MC:=fun L=>by
 rw[Jt]
 induction L with
 |nil=>simp[JN]
 |cons a L b=>rw[IY,JN,b,Jt,fR,MI rfl];rfl
theorem y9{M:MH}:∀l:List Nat,Oy M (l.map fun _=>D.bl MD) (l.map fun _=>PyData.bool MD)
 |[]=>.nil
 |_::l=>.cons (.bl MD) (y9 l)
theorem xR:∀l:List Nat,Kl (l.map fun _=>PyData.bool MD)=MC
 |[]=>rfl
 |_::l=>by rw[IY,Kl,xR l];rfl
theorem D6(l:List Nat):((l.map fun _=>PyData.bool MD).any fun q=>Jt q (.bool MC))=MD:=by rw[List.any_map,List.any_eq_false];intro x _;simp[Jt]
end SD
namespace HT
open PySem PyProof.Rows
section
open PySem.SeqAt
open PySem.AutoSeq1 (wpAny_loadPart')
open PySem.MeetsSeq PySem.MeetsSeq2 PySem.MeetsSeq3 PySem.SeqRoads2
theorem qg(l:Addr)(items:Array IQ)(n:Nat)(t:Option Addr)(u:Array (Option IQ))(x:IQ)(a:Int)(j:Nat)(r:j<items.size)(b:(j:Int)<a)(k:Nat) :
 ∀i:Nat,j-i=k->i<=j->Meets (Mb.«list.index.loop» ⟨[.ref l,x,rawInt i,rawInt a],[]⟩)
  (fun A R s=>s.heap.get? l=MA { cls:=.type "list",dict:=t,data:=.seq items n,slots:=u }/\(∀(i:Nat) (m:i<items.size),i<=j->EqAt A.in1 s items[i] x (decide (i=j)))/\R (.ok (.ret (.int j s.toks))) { s with toks:=s.toks+1 }):=by
 induction k with
 |zero=>
  intro i v c prog w A R s h
  obtain⟨y,g,d,z,os⟩:=s;obtain⟨o,p,h⟩:=h
  have e:i=j:=()
  subst e
  wp_walk using K1 o
  have m:(if(i:Int)<a then items[((i:Nat):Int).toNat]? else MB)=MA items[i]:=by simp[b,r]
  rw[m]
  refine cc (p i r (IX _) prog w _ _ ?_)
  rw[MI rfl]
  wp_walk
  exact h
 |succ k B=>
  intro i v c prog w A R s h
  obtain⟨y,g,d,z,os⟩:=s;obtain⟨o,p,h⟩:=h
  have f:i<items.size:=()
  have q:(i:Int)<a:=()
  wp_walk using K1 o
  have m:(if(i:Int)<a then items[((i:Nat):Int).toNat]? else MB)=MA items[i]:=by simp[q,f]
  have C:((i:Int)+1)=((i+1:Nat):Int):=by push_cast;rfl
  rw[m]
  refine cc (p i f c prog w _ _ ?_)
  rw[MG (():¬i=j)]
  wp_walk
  rw[C]
  exact⟨Lb plain_index_loop _,KW entry_index_loop (by
   rw[Kp plain_index_loop _]
   exact B (i+1) () () prog w A R _ ⟨o,p,h⟩)⟩
theorem qt(l:Addr)(items:Array IQ)(n:Nat)(b:Option Addr)(c:Array (Option IQ))(x:IQ)(j:Nat)(f:j<items.size)(a:(j:Int)<2^63-1) :
 Meets (Mb.«list.index» ⟨[.ref l,x],[]⟩)
  (fun A R s=>s.heap.get? l=MA { cls:=.type "list",dict:=b,data:=.seq items n,slots:=c }/\(∀(i:Nat) (p:i<items.size),i<=j->EqAt A.in1 s items[i] x (decide (i=j)))/\R (.ok (.ret (.int j s.toks))) { s with toks:=s.toks+1 }):=by
 intro prog w A R s h
 obtain⟨q,g,d,r,os⟩:=s;obtain⟨e,k,h⟩:=h
 wp_walk using K1 e
 have m:((fun i:Int=>if i<0 then max 0 (i+(items.size:Int))else i) ((MB:Option Int).getD 0))=((0:Nat):Int):=by simp
 have o:((fun i:Int=>if i<0 then max 0 (i+(items.size:Int))else i) ((MB:Option Int).getD (2^63-1)))=2^63-1:=by simp
 rw[m,o]
 exact⟨Lb plain_index_loop _,KW entry_index_loop (by
  rw[Kp plain_index_loop _]
  exact qg l items n b c x (2^63-1) j f a _ 0 rfl (K6 _) prog w A R _ ⟨e,k,h⟩)⟩
end
end HT
namespace SD
open PySem PySem.Spec PyProof.Rows L2
section
variable{X:Cx}
def Fb(f:TD)(t:NL):TD:=fun δ M Q=>f δ M fun x e=>∃l b,x=.ref l/\e l=MA (.lst b)/\t δ e fun g a=>∃c d p,∃j:Nat,g=[d]/\a l=MA (.lst c)/\j<c.length/\Pd a d p/\Kt p=MC/\
 (∀(i:Nat) (y:D),i<=j->c[i]?=MA y->∃q,Pd a y q/\Lz q=MC/\Jt q p=decide (i=j))/\Q (.int (j:Int)) a
def Ir(K:I0):V->List V->Hp->VK->Prop:=fun x vs H Q=>∃a b M v d p,∃j:Nat,x=.ref a/\vs=[v]/\Mw K H M/\M a=MA (.lst b)/\Rep K H d v/\j<b.length/\Pd M d p/\Kt p=MC/\
 (∀(i:Nat) (y:D),i<=j->b[i]?=MA y->∃q,Pd M y q/\Lz q=MC/\Jt q p=decide (i=j))/\Q (.int (j:Int)) H
theorem EK(hu:X.A.units+66<K4):VR X "list.index" (Ir X.K):=by
 intro MP s σ H x vs v us Q I z B C;obtain⟨a,l,M,v1,d,p,j,ex,D,m,E,hd,G,J,f,g,q⟩:=C;subst ex D;cases z;obtain⟨L,rfl,N⟩:=B.one;obtain⟨xs,O,r⟩:=m _ _ E;obtain⟨c,h,P,R⟩:=I.list (Mx.of O);obtain⟨o,y,S,n,T⟩:=P.isList;obtain⟨as,U⟩:=bN I m J hd N;have b:c.length=l.length:=by rw[<-h.length,r.length]
 obtain⟨oc,od,V,osl⟩:=o;cases S;cases T
 have W:(j:Int)<2^63-1:=by
  rw[sizeLine_eq]at R
  have:=r.length
  omega
 refine call_meets PySem.F.slot_list_index ⟨_,y,rfl⟩ PySem.F.entry_list_index (PySem.F.args_list_index_2 _ _) (HT.qt a c.toArray n od osl L j (by simpa[b]using G) W) ⟨y,fun i Y t=>?_,?_⟩
 ·have k:i<l.length:=by simpa[b]using Y
  obtain⟨Z,g1,g2,g3⟩:=g i l[i] t (IS k);obtain⟨x1,e1,u⟩:=r.get (IS k);obtain⟨u2,e2,w⟩:=h.get e1;obtain⟨bs,q2⟩:=bN I m g1 u w
  have e3:c.toArray[i]=u2:=by
   have:=J1.mp e2
   obtain⟨_,e⟩:=this
   simpa using e
  rw[e3,<-g3];have hm:min Z.depth p.depth<=63+1:=K3 (Nat.min_le_right _ _) (SeqAt.depth_of_shaped f);exact PySem.SeqAt.eqAt_reads _ _ _ _ _ _ _ _ q2 U g2 (KS f) (by show X.A.units+1+_<K4;omega)
 ·exact⟨.int _,H,I.tok _,⟨_,rfl⟩,q⟩
variable{o e1:Expr}{to:TD}{t:NL}{apos ba:Pos}
theorem sJ(z:X.A.units+66<K4)(B:DE X o to)(C:DA X [e1] t)
 (b:L7 o "index" X.env (eval o X.env)=eval o X.env:=by rfl)
 (g:((Ks ba (Jd [e1] X.env)).all (fun x=>!x.1)&&(backToKw ba (Lp [] X.env)).all (fun x=>x.1.isSome)
  && decide ([e1].length+([]:List LW).length+(if([]:List LW).isEmpty then 0 else 1)<30))=MC:=by rfl)
 (c:(apos.endLine==ba.line)=MC:=by rfl) (D:Jd [e1] X.env=(MD,eval e1 X.env)::Jd [] X.env:=by rfl) (a:(Ks ba (Jd [] X.env)).any (·.1)=MD:=by rfl) :
 DE X (.Call (.Attribute o "index" apos) [e1] [] ba) (Fb to t):=
 bw (yZ PySem.F.plainAttrs_list PySem.F.slot_list_index PySem.F.type_list_index (EK z) B C b g c D a) fun σ H Q E=>by
  obtain⟨δ,M,R,h,G,q,k⟩:=E
  refine⟨δ,M,_,h,G,q,fun x I v H1 r s w e=>?_⟩
  obtain⟨l,J,ex,K,L⟩:=e
  subst ex
  rw[Rep]at s
  subst s
  obtain⟨vs,m,_⟩:=w _ _ K
  refine⟨.inl ⟨rfl,vs,Mx.of m⟩,δ,I,_,h.mono r,w,L,fun ds N us H2 O P y f=>?_⟩
  obtain⟨S,d,p,j,T,U,V,W,n,i,Y⟩:=f
  subst T
  obtain⟨u,rfl,Z⟩:=cA P
  exact⟨l,S,N,u,d,p,j,rfl,rfl,y,U,Z,V,W,n,i,k _ _ _ _ (r.trans O) (by rw[Rep]) y Y⟩
end
section
variable{P:Jl}{w:JO}{K:I0}{mg:Str->Option IQ}{base:Heap}{x:Str}{st:Stmt}{N:List Str}{k:Nat}
def Oq(C:D->MH->DK->Prop):Ox:=fun b M Q=>match b with
 |[a]=>C a M Q
 |_=>False
theorem fj{p:Str}{C:D->MH->DK->Prop}(T:Txt K mg x st)(S:Mk N [p] (ay st))
 (body:∀(f:Addr) (cdv:IQ) (A:JV) (outer:List Env) (s:IT) (H:Hp) (E:XK),NB k (A.deeper (envOfC x (ay st) s.heap.objs.size f cdv))->
  ∃t,DSs (jE Oo P w K mg base N x (ay st) f cdv A outer s H E).nox (bE st) t/\∀a M Q,C a M Q->t (qB Q) (gI N [a]) M)
 (e:∀(kV b d:IQ) (an:Option Addr) (cdv ct a:IQ),bindArgs (KA x x (cM st) (bE st) (ay st) .none kV b d an cdv ct) ⟨[a],[]⟩=pure ([p].zip [a]):=by intros;rfl):Cal P w K mg base (k+1) x (Oq C):=by
 refine zW T S (fun kV b d an cdv ct us g=>?_) (fun c M Q h=>?_) fun f cdv A outer s H E i=>?_
 ·obtain⟨a,rfl⟩:=Ae g
  exact e ..
 ·rcases c with _|⟨a,_|⟨w,c⟩⟩
  all_goals first|exact Jq h|rfl
 ·obtain⟨t,h,j⟩:=body f cdv A outer s H E i
  refine⟨t,h,fun c M Q h=>?_⟩
  rcases c with _|⟨a,_|⟨w,c⟩⟩
  all_goals first|exact Jq h|exact j _ _ _ h
def NU(C:D->D->MH->DK->Prop):Ox:=fun c M Q=>match c with
 |[a,b]=>C a b M Q
 |_=>False
theorem bQ{p q:Str}{C:D->D->MH->DK->Prop}(T:Txt K mg x st)(S:Mk N [p,q] (ay st))
 (body:∀(f:Addr) (cdv:IQ) (A:JV) (outer:List Env) (s:IT) (H:Hp) (E:XK),NB k (A.deeper (envOfC x (ay st) s.heap.objs.size f cdv))->
  ∃t,DSs (jE Oo P w K mg base N x (ay st) f cdv A outer s H E).nox (bE st) t/\∀a b M Q,C a b M Q->t (qB Q) (gI N [a,b]) M)
 (g:∀(kV c e:IQ) (an:Option Addr) (cdv ct a b:IQ),bindArgs (KA x x (cM st) (bE st) (ay st) .none kV c e an cdv ct) ⟨[a,b],[]⟩=pure ([p,q].zip [a,b]):=by intros;rfl):Cal P w K mg base (k+1) x (NU C):=by
 refine zW T S (fun kV c e an cdv ct us i=>?_) (fun d M Q h=>?_) fun f cdv A outer s H E j=>?_
 ·obtain⟨a,b,rfl⟩:=xN i
  exact g ..
 ·rcases d with _|⟨a,_|⟨b,_|⟨w,d⟩⟩⟩
  all_goals first|exact Jq h|rfl
 ·obtain⟨t,h,l⟩:=body f cdv A outer s H E j
  refine⟨t,h,fun d M Q h=>?_⟩
  rcases d with _|⟨a,_|⟨b,_|⟨w,d⟩⟩⟩
  all_goals first|exact Jq h|exact l _ _ _ _ h
def Qg(C:D->D->D->MH->DK->Prop):Ox:=fun d M Q=>match d with
 |[a,b,c]=>C a b c M Q
 |_=>False
theorem md{p q r:Str}{C:D->D->D->MH->DK->Prop}(T:Txt K mg x st)(S:Mk N [p,q,r] (ay st))
 (body:∀(f:Addr) (cdv:IQ) (A:JV) (outer:List Env) (s:IT) (H:Hp) (E:XK),NB k (A.deeper (envOfC x (ay st) s.heap.objs.size f cdv))->
  ∃t,DSs (jE Oo P w K mg base N x (ay st) f cdv A outer s H E).nox (bE st) t/\∀a b c M Q,C a b c M Q->t (qB Q) (gI N [a,b,c]) M)
 (i:∀(kV d g:IQ) (an:Option Addr) (cdv ct a b c:IQ),bindArgs (KA x x (cM st) (bE st) (ay st) .none kV d g an cdv ct) ⟨[a,b,c],[]⟩=pure ([p,q,r].zip [a,b,c]):=by intros;rfl):Cal P w K mg base (k+1) x (Qg C):=by
 refine zW T S (fun kV d g an cdv ct us j=>?_) (fun e M Q h=>?_) fun f cdv A outer s H E l=>?_
 ·obtain⟨a,b,c,rfl⟩:=Gr j
  exact i ..
 ·rcases e with _|⟨a,_|⟨b,_|⟨c,_|⟨w,e⟩⟩⟩⟩
  all_goals first|exact Jq h|rfl
 ·obtain⟨t,h,m⟩:=body f cdv A outer s H E l
  refine⟨t,h,fun e M Q h=>?_⟩
  rcases e with _|⟨a,_|⟨b,_|⟨c,_|⟨w,e⟩⟩⟩⟩
  all_goals first|exact Jq h|exact m _ _ _ _ _ h
def XU(C:D->D->D->D->MH->DK->Prop):Ox:=fun e M Q=>match e with
 |[a,b,c,d]=>C a b c d M Q
 |_=>False
theorem G6{p q r t:Str}{C:D->D->D->D->MH->DK->Prop}(T:Txt K mg x st)(S:Mk N [p,q,r,t] (ay st))
 (body:∀(f:Addr) (cdv:IQ) (A:JV) (outer:List Env) (s:IT) (H:Hp) (E:XK),NB k (A.deeper (envOfC x (ay st) s.heap.objs.size f cdv))->
  ∃t,DSs (jE Oo P w K mg base N x (ay st) f cdv A outer s H E).nox (bE st) t/\∀a b c d M Q,C a b c d M Q->t (qB Q) (gI N [a,b,c,d]) M)
 (j:∀(kV e i:IQ) (an:Option Addr) (cdv ct a b c d:IQ),bindArgs (KA x x (cM st) (bE st) (ay st) .none kV e i an cdv ct) ⟨[a,b,c,d],[]⟩=pure ([p,q,r,t].zip [a,b,c,d]):=by intros;rfl):Cal P w K mg base (k+1) x (XU C):=by
 refine zW T S (fun kV e i an cdv ct us l=>?_) (fun g M Q h=>?_) fun f cdv A outer s H E m=>?_
 ·obtain⟨a,b,c,d,rfl⟩:=IL l
  exact j ..
 ·rcases g with _|⟨a,_|⟨b,_|⟨c,_|⟨d,_|⟨w,g⟩⟩⟩⟩⟩
  all_goals first|exact Jq h|rfl
 ·obtain⟨t,h,n⟩:=body f cdv A outer s H E m
  refine⟨t,h,fun g M Q h=>?_⟩
  rcases g with _|⟨a,_|⟨b,_|⟨c,_|⟨d,_|⟨w,g⟩⟩⟩⟩⟩
  all_goals first|exact Jq h|exact n _ _ _ _ _ _ h
end
theorem Qi{t:NX}{B:EndsD}{δ:DS}{M:MH}(h:∀a:EndsD,(∀δ M,B.nx δ M->a.nx δ M)->t a δ M):t B δ M:=h B fun _ _ h=>h
theorem Q6{P:List (Option D)->Prop}{n:Nat}{T:List (Option D)}(b:T.length=n+1)(h:∀a U,U.length=n->P (a::U)):P T:=by
 cases T with
 |nil=>cases b
 |cons a U=>exact h a U (Nat.succ.inj b)
theorem YH{P:List (Option D)->Prop}{T:List (Option D)}(b:T.length=0)(h:P []):P T:=by
 cases T with
 |nil=>exact h
 |cons a U=>cases b
@[elab_as_elim] theorem IB{P:List (Option D)->Prop}{T:List (Option D)}(d:T.length=3)(h:∀a b c,P [a,b,c]):P T:=Q6 (P:=P) d fun a U d=>Q6 (P:=fun T=>P (a::T)) d fun b U d=>Q6 (P:=fun T=>P (a::b::T)) d fun c U d=>YH (P:=fun T=>P (a::b::c::T)) d (h a b c)
@[elab_as_elim] theorem F8{P:List (Option D)->Prop}{T:List (Option D)}(g:T.length=6)(h:∀a b c d e f,P [a,b,c,d,e,f]):P T:=Q6 (P:=P) g fun a U g=>Q6 (P:=fun T=>P (a::T)) g fun b U g=>Q6 (P:=fun T=>P (a::b::T)) g fun c U g=>IB (P:=fun T=>P (a::b::c::T)) g (h a b c)
@[elab_as_elim] theorem IE{P:List (Option D)->Prop}{T:List (Option D)}(i:T.length=7)(h:∀a b c d e f g,P [a,b,c,d,e,f,g]):P T:=Q6 (P:=P) i fun a U i=>F8 (P:=fun T=>P (a::T)) i (h a)
@[elab_as_elim] theorem IM{P:List (Option D)->Prop}{T:List (Option D)}(k:T.length=9)(h:∀a b c d e f g i j,P [a,b,c,d,e,f,g,i,j]):P T:=Q6 (P:=P) k fun a U k=>Q6 (P:=fun T=>P (a::T)) k fun b U k=>Q6 (P:=fun T=>P (a::b::T)) k fun c U k=>F8 (P:=fun T=>P (a::b::c::T)) k (h a b c)
end SD
namespace QQ
open PySem PySem.Spec PyProof.Rows L2 SD
def top(i:Nat):Stmt:=JJ.main.body.getD i (.Pass ⟨0,0,0,0⟩)
abbrev iq:Stmt:=top 39
abbrev kX:Stmt:=top 40
abbrev j7:Stmt:=top 42
abbrev me:Stmt:=top 45
abbrev p7:Stmt:=top 46
abbrev lj:Stmt:=top 47
abbrev fK:Stmt:=top 48
abbrev nV:Stmt:=top 57
abbrev kg:Stmt:=top 58
abbrev nI:Stmt:=top 59
abbrev hZ:Stmt:=top 60
abbrev nJ:Stmt:=top 41
abbrev lY:Stmt:=top 43
abbrev mj:Stmt:=top 44
abbrev ml:Stmt:=top 49
abbrev ja:Stmt:=top 50
abbrev iP:Stmt:=top 51
abbrev kf:Stmt:=top 52
abbrev j5:Stmt:=top 53
abbrev j6:Stmt:=top 55
abbrev iV:Stmt:=top 54
abbrev jV:Stmt:=top 56
abbrev j4:Stmt:=top 26
abbrev fH:Stmt:=top 27
abbrev B2:Stmt:=top 17
abbrev y6:Stmt:=top 18
abbrev nP:Stmt:=top 19
abbrev gn:Stmt:=top 28
abbrev ix:Stmt:=top 29
abbrev j8:Stmt:=top 30
abbrev lQ:Stmt:=top 31
abbrev eB:Stmt:=top 4
abbrev gi:Stmt:=top 7
abbrev lV:Stmt:=top 8
abbrev iR:Stmt:=top 32
abbrev eR:Stmt:=top 34
abbrev ny:Stmt:=top 6
abbrev lW:Stmt:=top 10
abbrev jg:Stmt:=top 12
abbrev gL:Stmt:=top 35
abbrev iz:Stmt:=top 13
abbrev ig:Stmt:=top 14
abbrev uI:Stmt:=top 21
abbrev lM:Stmt:=top 11
abbrev k5:Stmt:=top 22
abbrev kW:Stmt:=top 5
abbrev lJ:Stmt:=top 15
abbrev mF:Stmt:=top 16
abbrev mB:Stmt:=top 23
abbrev gZ:Stmt:=top 24
abbrev iW:Stmt:=top 36
abbrev fD:Stmt:=top 37
abbrev Cm:Stmt:=top 61
local macro_rules | `(tactic| walk_at "sc") => `(tactic| exact ⟨rfl, rfl, rfl, by decide, rfl, by decide, by decide⟩)
theorem _root_.SD.Cal.m{P:Jl}{w:JO}{K:I0}{mg:Str->Option IQ}{base:Heap}{j k:Nat}{x:Str}{sp:Ox}(h:Cal P w K mg base j x sp)(l:j<=k:=by decide):Cal P w K mg base k x sp:=h.mono l
structure Tx(K:I0)(mg:Str->Option IQ):Prop where
 f_law_cell_at:Txt K mg "_law_cell_at" iq
 f_law_take:Txt K mg "_law_take" kX
 f_law_scale:Txt K mg "_law_scale" j7
 f_law_turn:Txt K mg "_law_turn" me
 f_law_on:Txt K mg "_law_on" p7
 f_law_fair:Txt K mg "_law_fair" lj
 f_law_shuts_here:Txt K mg "_law_shuts_here" fK
 f_law_box:Txt K mg "_law_box" nV
 f_law_order:Txt K mg "_law_order" kg
 f_law_set:Txt K mg "_law_set" nI
 f_law_squares:Txt K mg "_law_squares" hZ
 f_law_low:Txt K mg "_law_low" nJ
 f_law_spot:Txt K mg "_law_spot" lY
 f_law_made:Txt K mg "_law_made" mj
 f_law_ends:Txt K mg "_law_ends" ml
 f_law_sooner:Txt K mg "_law_sooner" ja
 f_law_behind:Txt K mg "_law_behind" iP
 f_law_rings:Txt K mg "_law_rings" kf
 f_law_twice:Txt K mg "_law_twice" j5
 f_law_group:Txt K mg "_law_group" j6
 f_law_inside:Txt K mg "_law_inside" iV
 f_law_lands:Txt K mg "_law_lands" jV
 f_face_ends:Txt K mg "face_ends" j4
 f_faces_by_start:Txt K mg "faces_by_start" fH
 f_gap:Txt K mg "gap" B2
 f_lean:Txt K mg "lean" y6
 f_side_of:Txt K mg "side_of" nP
 f_is_met_sooner:Txt K mg "is_met_sooner" gn
 f_face_behind:Txt K mg "face_behind" ix
 f_ring_from:Txt K mg "ring_from" j8
 f_rings_of:Txt K mg "rings_of" lQ
 f_greatest_divisor:Txt K mg "greatest_divisor" eB
 f_common_bottom:Txt K mg "common_bottom" gi
 f_top_over:Txt K mg "top_over" lV
 f_twice_area:Txt K mg "twice_area" iR
 f_outer_and_inner:Txt K mg "outer_and_inner" eR
 f_is_less:Txt K mg "is_less" ny
 f_is_ahead:Txt K mg "is_ahead" lW
 f_earlier_of:Txt K mg "earlier_of" jg
 f_first_corner:Txt K mg "first_corner" gL
 f_place_among:Txt K mg "place_among" iz
 f_ahead_first:Txt K mg "ahead_first" ig
 f_spans:Txt K mg "spans" uI
 f_later_of:Txt K mg "later_of" lM
 f_is_above:Txt K mg "is_above" k5
 f_fraction:Txt K mg "fraction" kW
 f_own_spot:Txt K mg "own_spot" lJ
 f_own_wall:Txt K mg "own_wall" mF
 f_upper_of:Txt K mg "upper_of" mB
 f_upper_below:Txt K mg "upper_below" gZ
 f_land_about:Txt K mg "land_about" iW
 f_lands_of_faces:Txt K mg "lands_of_faces" fD
 f_law:Txt K mg "law" Cm
 b_abs:mg "abs"=MB
 b_all:mg "all"=MB
 b_bool:mg "bool"=MB
 b_enumerate:mg "enumerate"=MB
 b_int:mg "int"=MB
 b_isinstance:mg "isinstance"=MB
 b_len:mg "len"=MB
 b_list:mg "list"=MB
 b_max:mg "max"=MB
 b_min:mg "min"=MB
 b_range:mg "range"=MB
 b_sum:mg "sum"=MB
 b_tuple:mg "tuple"=MB
 b_zip:mg "zip"=MB
theorem mz:Mk ["_law_script","_law_k"] ["_law_script","_law_k"] (ay iq):=by walk_at "sc"
inductive Nq(x y:D)(M:MH)(Q:DK):Prop
 |mk (ns:_) (k:_) (_:x=.rol (L0 D.int ns)) (_:y=.int k) (_:0<=k) (_:∀z,Q (.int z) M)
variable{P:Jl}{w:JO}{K:I0}{mg:Str->Option IQ}{base:Heap}
theorem mW(T:Tx K mg):Cal P w K mg base 1 "_law_cell_at" (NU Nq):=by
 refine bQ (k:=0) T.f_law_cell_at mz fun f cdv A outer s H E a=>⟨_,(aq (bF (aM (dP a.units) (dv 1) (aN cR rfl T.b_len cT (ae (dv 0) ak))) (aw (aF (aC (dv 0) (dv 1)))) aR) (aw (aF ao))),fun _ _ M Q h=>?_⟩;obtain⟨ns,k,rfl,rfl,e,q⟩:=h;(repeat (first|refine⟨_,rfl,?_⟩|refine⟨trivial,?_⟩|refine⟨_,_,rfl,?_⟩|refine⟨rfl,?_⟩|refine⟨Mm rfl,?_⟩))
 refine bO (fun b=>?_) (fun _=>?_)
 ·have c:k<(ns.length:Int):=by simpa using b
  obtain⟨j,rfl⟩:∃j:Nat,k=(j:Int):=⟨k.toNat,()⟩;have d:j<ns.length:=()
  refine⟨_,rfl,_,rfl,.int ns[j],bY (by simp[d]),NA (q _)⟩
 ·exact NA (q 0)
theorem eQ:Mk ["_law_row","_law_base","_law_rest","_law_number"] ["_law_row","_law_base"] (ay kX):=by walk_at "sc"
inductive Ob(y z:D)(M:MH)(Q:DK):Prop
 |mk (r:_) (b:_) (x:_) (c:_) (_:y=.ref r) (_:z=.int b) (_:M r=MA (.lst [.int x,.int c])) (_:0<=c) (_:c<1000000) (_:0<b) (_:Bd 8000 b) (_:∀x' v,0<=v->v<b->Q (.int v) (aA M r (.lst [.int x',.int (c+1)])))
theorem aH(T:Tx K mg):Cal P w K mg base 1 "_law_take" (NU Ob):=by
 refine bQ (k:=0) T.f_law_take eQ fun f cdv A outer s H E p=>⟨_,(aq (cI (aB aO (aC (dv 0) ao) ao) (mE (dv 0) ao)) (aq (bF (aM xZ (aC (dv 0) ao) (aB iC ao ao)) (aq (aD 2 eQ.nd (aB dC (aC (dv 0) ao) (aB iC ao ao))) (aq (cI (aB aO (aB iC ao ao) (aB eV (dv 2) (dv 1))) (mE (dv 0) ao)) (aw (aF (aB fm (dv 2) (dv 1)))))) aR) (aq (aD 3 eQ.nd (aB fm (aB aO (aB aO (aB aO (aB aS (aC (dv 0) ao) ao) (aB aS (aB aS ao (aC (dv 0) ao)) (aC (dv 0) ao))) (aB aS ao (aC (dv 0) ao))) ao) ao)) (aq (aD 3 eQ.nd (aB fm (aB aO (aB aO (aB aS (dv 3) (dv 3)) (aB aS ao (dv 3))) (aC (dv 0) ao)) ao)) (aw (aF (aB fm (aB eV (dv 3) ao) (dv 1)))))))),fun _ _ M Q h=>?_⟩;obtain⟨r,b,x,c,rfl,rfl,i,l,m,j,g,q⟩:=h;have d:Bd 64 (c+1):=by show(c+1).natAbs<2^64;omega
 have a:b≠0:=()
 have e:∀n:Int,0<=n.fmod b/\n.fmod b<b:=fun n=>⟨Int.fmod_nonneg_of_pos _ j,Int.fmod_lt_of_pos _ j⟩;refine⟨_,rfl,_,_,i,rfl,?_⟩;refine⟨_,rfl,_,_,i,rfl,?_⟩;refine⟨_,rfl,_,_,ag,rfl,⟨⋯,⋯,⋯⟩,trivial,_,rfl,?_⟩;refine bO (fun h=>?_) (fun h=>?_)
 ·refine⟨_,rfl,_,_,ag,rfl,⟨⋯,⋯,⋯⟩,trivial,?_⟩;refine⟨⟨⋯,⋯,⋯⟩,_,rfl,_,rfl,⟨a,g⟩,_,rfl,_,_,ag,rfl,?_⟩;refine⟨_,rfl,_,rfl,a,?_⟩;rw[bR];exact NA (q _ _ (e _).1 (e _).2)
 ·refine⟨_,rfl,_,_,ag,rfl,pj ⋯,?_⟩;refine⟨_,rfl,_,_,ag,rfl,bA ⋯,?_⟩;refine⟨_,rfl,_,_,ag,rfl,pj d,?_⟩;refine⟨_,rfl,_,_,ag,rfl,bA ⋯,(show(2147483399:Int)≠0 by decide),?_⟩
  have o:∀n:Int,Bd 64 (n.fmod 2147483399):=fun n=>by
   have t:=Int.fmod_nonneg_of_pos n (show(0:Int)<2147483399 by decide)
   have u:=Int.fmod_lt_of_pos n (show(0:Int)<2147483399 by decide)
   show(n.fmod 2147483399).natAbs<2^64
   omega
  refine⟨_,rfl,_,rfl,bA (o _),_,rfl,bA ⋯,_,rfl,_,_,ag,rfl,(show(2147483647:Int)≠0 by decide),?_⟩;refine⟨_,rfl,⟨⋯,bP ⋯⟩,_,rfl,a,?_⟩;exact NA (q _ _ (e _).1 (e _).2)
theorem d3:Mk ["_law_row","_law_top","_law_bottom","_law_far"] ["_law_row"] (ay j7):=by walk_at "sc"
inductive OO(u:D)(M:MH)(Q:DK):Prop
 |mk (r:Addr) (x c:Int) (_:u=.ref r) (_:M r=MA (.lst [.int x,.int c])) (_:0<=c) (_:c<900000) (_:∀x' c' t b p q,Nh t b p q->0<=c'->c'<=c+10->Q (Ro t b p q) (aA M r (.lst [.int x',.int c'])))
theorem qW(T:Tx K mg):Cal P w K mg base 2 "_law_scale" (Oq OO):=by
 refine fj (k:=1) T.f_law_scale d3 fun f cdv A outer s H E d=>⟨_,(aq (fP 1 2 rfl d3.nd (ae (aB aO ao (av (aH T).m d (ae (dv 0) (ae ao ak)))) (ae (aB aO ao (av (aH T).m d (ae (dv 0) (ae ao ak)))) ak))) (aq (bF (aM (cU d.units) (av (aH T).m d (ae (dv 0) (ae ao ak))) ao) (aw (fP 1 2 rfl d3.nd (ae (aB aO ao (av (aH T).m d (ae (dv 0) (ae (aB iC ao ao) ak)))) (ae (aB aO ao (av (aH T).m d (ae (dv 0) (ae (aB iC ao ao) ak)))) ak)))) aR) (aq (aD 3 d3.nd (aC (bz (ae ao (ae (aB iC ao ao) ak))) (c8 jC rfl T.b_int jP (ae (cg (cU d.units) (av (aH T).m d (ae (dv 0) (ae ao ak))) ao) ak)))) (aw (aF (aJ (ae (dv 1) (ae (dv 2) (ae (aB aS (dv 3) (aB dC (av (aH T).m d (ae (dv 0) (ae ao ak))) ao)) (ae (aB aS (dv 3) (aB dC (av (aH T).m d (ae (dv 0) (ae ao ak))) ao)) ak)))))))))),fun _ M Q h=>?_⟩;obtain⟨r,x,c,rfl,S,l,U,k⟩:=h;refine⟨_,rfl,r,6,x,c,rfl,rfl,S,l,(),⋯,bP ⋯,fun x1 V W X=>?_⟩;refine⟨_,rfl,r,6,x1,c+1,rfl,rfl,ag,(),(),⋯,bP ⋯,fun Y Z a0 b0=>?_⟩;refine⟨_,_,rfl,?_⟩;(try dsimp only[SD.aU])
 refine bU (fun δ C=>∃x g t b F,0<=g/\g<=c+5/\(0<t/\t<=10^9/\0<b/\b<=10^9)/\C=aA M r (.lst [.int x,.int g])/\δ=[MA (.ref r),MA (.int t),MA (.int b),F]) ?_ (fun G=>?_);rotate_left
 ·refine⟨_,rfl,r,4,Y,c+1+1,rfl,rfl,ag,(),(),⋯,bP ⋯,fun I v3 c0 d0=>⟨_,rfl,?_⟩⟩;refine bO (fun _=>?_) (fun _=>?_)
  ·refine⟨_,rfl,⟨⋯,⋯,⋯⟩,r,10^9,I,c+1+1+1,rfl,rfl,ag,(),(),⋯,bP ⋯,fun x4 v4 e0 f0=>?_⟩;refine⟨_,rfl,⟨⋯,⋯,⋯⟩,r,10^9,x4,c+1+1+1+1,rfl,rfl,ag,(),(),⋯,bP ⋯,fun x5 v5 g0 h0=>?_⟩;refine⟨_,_,rfl,G _ _ ⟨x5,c+1+1+1+1+1,1+v4,1+v5,MB,(),(),(),?_,rfl⟩⟩;simp only[bR]
  ·refine G _ _ ⟨I,c+1+1+1,1+V,1+Z,MB,(),(),(),?_,rfl⟩;simp only[bR]
 rintro δ C ⟨x,g,t,b,F,J,L,N,rfl,rfl⟩;refine⟨⟨⋯,⋯,⋯⟩,Mm rfl,fun p n=>?_⟩;have i:r≠p:=az ag n;refine⟨_,rfl,r,6,x,g,rfl,rfl,(by rw[au i,ag]),(),(),⋯,bP ⋯,fun x6 O i0 k0=>?_⟩
 have hf:∃f:Int,atI [D.int 1,D.int (10^15)] (if decide (O=0)=MC then 1 else 0)=MA (.int f)/\1<=f/\f<=10^15:=by
  by_cases z:O=0
  ·exact⟨10^15,by rw[MF (by simpa using z)];rfl,⋯,⋯⟩
  ·exact⟨1,by rw[ME (by simpa using z)];rfl,⋯,⋯⟩
 obtain⟨f,ef,l0,m0⟩:=hf;refine⟨_,_,(by rw[au i.symm,ag];rfl),ef,?_⟩;have R:Bd 64 f:=by show f.natAbs<2^64;omega
 refine⟨_,rfl,_,rfl,_,rfl,_,rfl,r,41,x6,g+1,rfl,rfl,ag,(),(),⋯,bP ⋯,fun x7 v7 q u=>⟨trivial,bA R,?_⟩⟩;refine⟨_,rfl,_,rfl,r,41,x7,g+1+1,rfl,rfl,ag,(),(),⋯,bP ⋯,fun x8 v8 y B=>⟨trivial,bA R,Mm rfl,?_⟩⟩
 have j:∀v:Int,0<=v->v<41->-(10^17)<=f*(v-20)/\f*(v-20)<=10^17:=fun v a b=>by
  have h1:f*(v-20)<=f*20:=Int.mul_le_mul_of_nonneg_left () ()
  have h2:f*(-20)<=f*(v-20):=Int.mul_le_mul_of_nonneg_left () ()
  omega
 have q7:=j v7 q u;have q8:=j v8 y B;refine⟨aA M r (.lst [.int x8,.int (g+1+1+1)]),?_,k _ _ _ _ _ _ ⟨N.1,(),N.2.2.1,(),(),(),(),()⟩ () ()⟩;simp only[bR];refine .Hy ?_;intro a o ne e;have:a≠p:=fun z=>by subst z;rw[au ne]at n;rw[n]at e;cases e
 rw[au this,au ne];exact e
theorem e7:Mk ["_law_one","_law_two","_law_three","_law_far","_law_beside","_law_found"] ["_law_one","_law_two","_law_three"] (ay me):=by walk_at "sc"
inductive Oa(u v w:D)(M:MH)(Q:DK):Prop
 |mk (a b c d e f:Int) (_:u=.tup [.int a,.int b]) (_:v=.tup [.int c,.int d]) (_:w=.tup [.int e,.int f]) (_:Bd 10 a) (_:Bd 10 b) (_:Bd 10 c) (_:Bd 10 d) (_:Q (.int (Ji (NH (c-a) (d-b) (e-a) (f-b)))) M)
theorem dr(T:Tx K mg):Cal P w K mg base 1 "_law_turn" (Qg Oa):=by
 refine md (k:=0) T.f_law_turn e7 fun f cdv A outer s H E g=>⟨_,(aq (aD 3 e7.nd (aJ (ae (aB dC (aC (dv 1) ao) (aC (dv 0) ao)) (ae (aB dC (aC (dv 1) ao) (aC (dv 0) ao)) ak)))) (aq (aD 4 e7.nd (aJ (ae (aB dC (aC (dv 2) ao) (aC (dv 0) ao)) (ae (aB dC (aC (dv 2) ao) (aC (dv 0) ao)) ak)))) (aq (aD 5 e7.nd (aB dC (aB aS (aC (dv 3) ao) (aC (dv 4) ao)) (aB aS (aC (dv 3) ao) (aC (dv 4) ao)))) (aw (aF (aB dC (c8 jC rfl T.b_int jP (ae (cg (fU g.units) (dv 5) ao) ak)) (c8 jC rfl T.b_int jP (ae (cg (dP g.units) (dv 5) ao) ak)))))))),fun _ _ _ M Q h=>?_⟩;obtain⟨a,b,c,d,e,f,rfl,rfl,rfl,i,j,l,hd,k⟩:=h;refine⟨_,rfl,_,rfl,_,rfl,_,rfl,trivial,_,rfl,_,rfl,_,rfl,_,rfl,trivial,Mm rfl,?_⟩;refine⟨_,rfl,_,rfl,_,rfl,_,rfl,trivial,_,rfl,_,rfl,_,rfl,_,rfl,trivial,Mm rfl,?_⟩;refine⟨_,rfl,_,rfl,_,rfl,_,rfl,bA ((l.sub i).mono ⋯),_,rfl,_,rfl,_,rfl,_,rfl,bA ((hd.sub j).mono ⋯),trivial,?_⟩;refine⟨_,rfl,trivial,_,rfl,trivial,trivial,?_⟩
 have e1:(if decide (0<(c-a)*(f-b)-(d-b)*(e-a))=MC then(1:Int)else 0)-(if decide ((c-a)*(f-b)-(d-b)*(e-a)<0)=MC then(1:Int)else 0)=Ji (NH (c-a) (d-b) (e-a) (f-b)):=by
  unfold NH;generalize (c-a)*(f-b)-(d-b)*(e-a)=z;rcases J4 z 0 with h|h|h
  ·rw[Jr h,ME (by simp;omega),MF (by simpa using h)];rfl
  ·subst h;rfl
  ·rw[JK h,MF (by simpa using h),ME (by simp;omega)];rfl
 dsimp only;rw[e1];exact NA k
theorem vU:Mk ["_law_shut","_law_spot_here"] ["_law_shut","_law_spot_here"] (ay p7):=by walk_at "sc"
inductive PV(u v:D)(M:MH)(Q:DK):Prop
 |mk (w:Wl) (x y:Int) (_:u=uw w) (_:v=.tup [.int x,.int y]) (_:W8 w) (_:(-10<=x/\x<=85)) (_:(-10<=y/\y<=85)) (_:Q (.bl (decide (l1 w<=la x y)&&decide (la x y<=l2 w)&&decide (sd w x y=0))) M)
theorem wQ(T:Tx K mg):Cal P w K mg base 2 "_law_on" (NU PV):=by
 refine bQ (k:=1) T.f_law_on vU fun f cdv A outer s H E b=>⟨_,(aw (aF (xY (xS (zQ b.units) (zQ b.units) (aC (dv 0) ao) (dv 1) (aC (dv 0) ao)) (sr (cg (cU b.units) (av (dr T).m b (ae (aC (dv 0) ao) (ae (aC (dv 0) ao) (ae (dv 1) ak)))) ao))))),fun _ _ M Q h=>?_⟩;obtain⟨w,x,y,rfl,rfl,W,i,g,k⟩:=h;have c:∀{z:Int},(0<=z/\z<=80)->Bd 10 z:=fun{z} h=>by show z.natAbs<2^10;omega
 (try dsimp only[SD.gN,SD.ez,SD.aU,SD.g9,SD.ic,SD.dN,SD.fq,SD.tBD,SD.g8,SD.EndsD.nxt,SD.EndsD.lp])
 refine GW (decide (l1 w<=la x y)&&decide (la x y<=l2 w)) (decide (sd w x y=0)) (fun K a=>?_) (fun _ K a=>?_) (NA k)
 ·refine⟨_,rfl,_,rfl,_,rfl,[w.1,w.2.1],[x,y],rfl,rfl,_,rfl,?_⟩;rw[xT () g];refine bO (fun h=>?_) (fun h=>?_)
  ·refine⟨_,rfl,_,rfl,[x,y],[w.2.2.1,w.2.2.2],rfl,rfl,?_⟩;rw[xT g ()];have d:decide (l1 w<=la x y)=MC:=h;rw[d,Kr]at a;exact a
  ·have d:decide (l1 w<=la x y)=MD:=eq_false_of_ne_true h;rw[d,JY]at a;exact a
 ·refine⟨_,rfl,_,rfl,_,rfl,_,rfl,_,rfl,w.1,w.2.1,w.2.2.1,w.2.2.2,x,y,rfl,rfl,rfl,c W.1,c W.2.1,c W.2.2.1,c W.2.2.2,?_⟩;have e:decide (Ji (NH (w.2.2.1-w.1) (w.2.2.2-w.2.1) (x-w.1) (y-w.2.1))=0)=decide (sd w x y=0):=by rw[MK];exact Int.sign_eq_zero_iff_zero
  try dsimp only
  show K (.bl (decide _)) _;rw[e];exact a
theorem cZ:Mk ["_law_one","_law_other","_law_shut","_law_beside","_law_spot_here","_law_sides","_law_others"] ["_law_one","_law_other"] (ay lj):=by walk_at "sc"
inductive Oe(u v:D)(M:MH)(Q:DK):Prop
 |mk (U V:Wl) (_:u=uw U) (_:v=uw V) (_:Mn U) (_:Mn V) (_:∀b:Bool,(b=MC->My U V)->Q (.bl b) M)
theorem sX(T:Tx K mg):Cal P w K mg base 3 "_law_fair" (NU Oe):=by
 refine bQ (k:=2) T.f_law_fair cZ fun f cdv A outer s H E F=>⟨_,(aq (bF (aM (cU F.units) (dv 0) (dv 1)) (aw (aF j9)) aR) (aq (b6 Je rfl (aV (aJ (ae (aJ (ae (dv 0) (ae (dv 1) ak))) (ae (aJ (ae (dv 1) (ae (dv 0) ak))) ak)))) (bZ rfl (aG (aE 2 cZ.nd) (aG (aE 3 cZ.nd) bG))) (aw (b6 Je rfl (aV (dv 3)) (aE 4 cZ.nd) (aw (bF (lN (gH (aM (iY (iB F)) (dv 4) (dv 2) (by with_unfolding_all rfl)) (fg (dM (av (wQ T).m F (ae (dv 2) (ae (dv 4) ak))))))) (aw (aF j9)) aR))))) (aq (dm 5 cZ.nd (Ml.of (xs:=["_law_spot_here"]) (js:=[0]) rfl) rfl (aV (dv 1)) (fun _ _ _ _=>cJ) (fun _ _ _ _=>(av (dr T).m F (ae (aC (dv 1) ao) (ae (aC (dv 1) ao) (ae (dv 0) ak)))))) (aq (dm 6 cZ.nd (Ml.of (xs:=["_law_spot_here"]) (js:=[1]) rfl) rfl (aV (dv 0)) (fun _ _ _ _=>cJ) (fun _ _ _ _=>(av (dr T).m F (ae (aC (dv 1) ao) (ae (aC (dv 1) ao) (ae (dv 0) ak)))))) (aw (aF (Gq (cg xZ (aB aS (aC (dv 5) ao) (aC (dv 5) ao)) ao) (sr (cg xZ (aB aS (aC (dv 6) ao) (aC (dv 6) ao)) ao))))))))),fun _ _ M Q h=>?_⟩;obtain⟨U,V,rfl,rfl,l,n,k⟩:=h;refine⟨_,rfl,_,rfl,_,_,Pd.of rfl,Pd.of rfl,rfl,rfl,_,rfl,?_⟩;refine bO (fun h=>NA (k MD (fun z=>absurd z Jf))) (fun h=>?_);have O:¬(l1 U=l1 V/\l2 U=l2 V):=fun⟨z1,z2⟩=>by apply h;obtain⟨a1,a2⟩:=gB l.b n.b z1;obtain⟨a3,a4⟩:=gB l.d n.d z2;simp only[Jt,JN,fR,a1,a2,a3,a4];simp
 dsimp only[SD.dN];refine bU (fun δ q=>q=M/\(∃v C o,δ=[MA (uw U),MA (uw V),v,C,o,MB,MB])/\(aY U (l1 V) (Mq U V)/\aY U (l2 V) (Mt U V))/\(aY V (l1 U) (Mq V U)/\aY V (l2 U) (Mt V U))) ?_ (fun hu=>?_);rotate_left
 ·refine⟨_,rfl,_,rfl,Mm rfl,_,rfl,_,rfl,Mm rfl,Mm rfl,[.tup [uw U,uw V],.tup [uw V,uw U]],rfl,?_⟩;refine⟨fun i δ q=>q=M/\(∃v C o,δ=[MA (uw U),MA (uw V),v,C,o,MB,MB])/\(0<i->aY U (l1 V) (Mq U V)/\aY U (l2 V) (Mt U V))/\(1<i->aY V (l1 U) (Mq V U)/\aY V (l2 U) (Mt V U)),⟨rfl,⟨_,_,_,rfl⟩,fun z=>absurd z ⋯,fun z=>absurd z ⋯⟩,fun _ _ _ _ _=>rfl,?_,?_⟩
  ·rintro i d δ q hi hd ⟨rfl,⟨v,C,o,rfl⟩,R,G⟩;have hi:i<2:=hi;have hd:[D.tup [uw U,uw V],.tup [uw V,uw U]][i]?=MA d:=hd
   have I:∃A B,d=.tup [uw A,uw B]/\Mn A/\Mn B/\((aY A (l1 B) (Mq A B)/\aY A (l2 B) (Mt A B))->(0<i+1->aY U (l1 V) (Mq U V)/\aY U (l2 V) (Mt U V))/\(1<i+1->aY V (l1 U) (Mq V U)/\aY V (l2 U) (Mt V U))):=by
    rcases(():i=0\/i=1)with rfl|rfl
    ·cases hd;exact⟨U,V,rfl,l,n,fun z=>⟨fun _=>z,fun y=>absurd y ⋯⟩⟩
    ·cases hd;exact⟨V,U,rfl,n,l,fun z=>⟨fun _=>R ⋯,fun _=>z⟩⟩
   obtain⟨A,B,rfl,J,N,nxt⟩:=I;refine⟨_,rfl,rfl,_,_,rfl,_,_,rfl,rfl,?_⟩;refine⟨_,rfl,[.tup [.int B.1,.int B.2.1],.tup [.int B.2.2.1,.int B.2.2.2]],rfl,?_⟩;refine⟨fun j δ t=>t=q/\(∃o,δ=[MA (uw U),MA (uw V),MA (uw A),MA (uw B),o,MB,MB])/\(0<j->aY A (l1 B) (Mq A B))/\(1<j->aY A (l2 B) (Mt A B)),⟨rfl,⟨_,rfl⟩,fun z=>absurd z ⋯,fun z=>absurd z ⋯⟩,fun _ _ _ _ _=>rfl,?_,?_⟩
   ·rintro j d δ t r hd ⟨rfl,⟨o,rfl⟩,S,q2⟩;have r:j<2:=r;have hd:[D.tup [.int B.1,.int B.2.1],.tup [.int B.2.2.1,.int B.2.2.2]][j]?=MA d:=hd
    have pk:∃x y,d=.tup [.int x,.int y]/\(0<=x/\x<=20)/\(0<=y/\y<=20)/\(aY A (la x y) (sd A x y)->(0<j+1->aY A (l1 B) (Mq A B))/\(1<j+1->aY A (l2 B) (Mt A B))):=by
     rcases(():j=0\/j=1)with rfl|rfl
     ·cases hd;exact⟨_,_,rfl,N.a,N.b,fun z=>⟨fun _=>z,fun y=>absurd y ⋯⟩⟩
     ·cases hd;exact⟨_,_,rfl,N.c,N.d,fun z=>⟨fun _=>S ⋯,fun _=>z⟩⟩
    obtain⟨x,y,rfl,hx,hy,W⟩:=pk;have aa:=J.a;have ab:=J.b;have ac:=J.c;have ad:=J.d
    (try dsimp only[SD.gN,SD.ez,SD.aU,SD.g9,SD.ic,SD.dN,SD.fq,SD.tBD,SD.g8,SD.EndsD.nxt,SD.EndsD.lp])
    refine vC (!(decide (A.1=x/\A.2.1=y)||decide (A.2.2.1=x/\A.2.2.2=y))) (decide (l1 A<=la x y)&&decide (la x y<=l2 A)&&decide (sd A x y=0)) (fun K u=>⟨_,rfl,_,rfl,En _ A x y _ _ ⟨_,rfl,u⟩⟩) (fun _ K u=>⟨_,rfl,_,rfl,A,x,y,rfl,rfl,⟨(),(),(),()⟩,(),(),_,rfl,u⟩) ?_;refine bO (fun _=>NA (k MD (fun z=>absurd z Jf))) (fun h=>?_);exact⟨rfl,⟨_,rfl⟩,W (xQ J hy (eq_false_of_ne_true h))⟩
   ·rintro δ t ⟨rfl,⟨o,rfl⟩,S,q2⟩;exact⟨rfl,⟨_,_,_,rfl⟩,nxt ⟨S (⋯:0<2),q2 (⋯:1<2)⟩⟩
  ·rintro δ q ⟨rfl,⟨v,C,o,rfl⟩,R,G⟩;exact hu _ _ ⟨rfl,⟨_,_,_,rfl⟩,R (⋯:0<2),G (⋯:1<2)⟩
 rintro δ q ⟨rfl,⟨v,C,o,rfl⟩,⟨e1,e2⟩,⟨e3,e4⟩⟩;refine⟨_,rfl,[.tup [.int V.1,.int V.2.1],.tup [.int V.2.2.1,.int V.2.2.2]],rfl,comp_map (fun j=>if j=0 then .int (Ji (Mq U V))else .int (Ji (Mt U V))) (Mm rfl) (fun _ _ _=>rfl) ?_ (fun p hp=>?_)⟩
 ·intro j X M2 r e _;have r:j<2:=r;have e:[D.tup [.int V.1,.int V.2.1],.tup [.int V.2.2.1,.int V.2.2.2]][j]?=MA X:=e;rcases(():j=0\/j=1)with rfl|rfl
  ·cases e;exact⟨_,rfl,fun Y g=>⟨_,rfl,_,rfl,_,rfl,_,rfl,_,rfl,U.1,U.2.1,U.2.2.1,U.2.2.2,_,_,rfl,rfl,rfl,dQ l.a,dQ l.b,dQ l.c,dQ l.d,g _ .refl⟩⟩
  ·cases e;exact⟨_,rfl,fun Y g=>⟨_,rfl,_,rfl,_,rfl,_,rfl,_,rfl,U.1,U.2.1,U.2.2.1,U.2.2.2,_,_,rfl,rfl,rfl,dQ l.a,dQ l.b,dQ l.c,dQ l.d,g _ .refl⟩⟩
 refine⟨_,rfl,[.tup [.int U.1,.int U.2.1],.tup [.int U.2.2.1,.int U.2.2.2]],rfl,comp_map (fun j=>if j=0 then .int (Ji (Mq V U))else .int (Ji (Mt V U))) (Mm rfl) (fun _ _ _=>rfl) ?_ (fun G L=>?_)⟩
 ·intro j X M2 r e _;have r:j<2:=r;have e:[D.tup [.int U.1,.int U.2.1],.tup [.int U.2.2.1,.int U.2.2.2]][j]?=MA X:=e;rcases(():j=0\/j=1)with rfl|rfl
  ·cases e;exact⟨_,rfl,fun Y g=>⟨_,rfl,_,rfl,_,rfl,_,rfl,_,rfl,V.1,V.2.1,V.2.2.1,V.2.2.2,_,_,rfl,rfl,rfl,dQ n.a,dQ n.b,dQ n.c,dQ n.d,g _ .refl⟩⟩
  ·cases e;exact⟨_,rfl,fun Y g=>⟨_,rfl,_,rfl,_,rfl,_,rfl,_,rfl,V.1,V.2.1,V.2.2.1,V.2.2.2,_,_,rfl,rfl,rfl,dQ n.a,dQ n.b,dQ n.c,dQ n.d,g _ .refl⟩⟩
 have Z:p≠G:=az ag L;have c1:(aA (aA q p (.lst [.int (Ji (Mq U V)),.int (Ji (Mt U V))])) G (.lst [.int (Ji (Mq V U)),.int (Ji (Mt V U))])) p=MA (.lst [.int (Ji (Mq U V)),.int (Ji (Mt U V))]):=by rw[au Z,ag]
 (try dsimp only[SD.gN,SD.ez,SD.aU,SD.g9,SD.ic,SD.dN,SD.fq,SD.tBD,SD.g8,SD.EndsD.nxt,SD.EndsD.lp])
 refine Xw (decide (0<=Ji (Mq U V)*Ji (Mt U V))) (decide (0<=Ji (Mq V U)*Ji (Mt V U))) (fun K u=>⟨_,rfl,_,_,c1,rfl,_,rfl,_,_,c1,rfl,bA (B1 _),trivial,u⟩) (fun _ K u=>⟨_,rfl,_,_,ag,rfl,_,rfl,_,_,ag,rfl,bA (B1 _),trivial,u⟩) ?_;refine⟨q,.new L (.new hp .refl),k _ fun z=>⟨O,e1,e2,e3,e4,?_⟩⟩;rw[Bool.or_eq_true,ML,ML]at z;exact z
theorem bo:Mk ["_law_row","_law_most","_law_size","_law_shuts","_law_turn_here","_law_one","_law_other","_law_shut"] ["_law_row","_law_most","_law_size"] (ay fK):=by walk_at "sc"
inductive N4(u m n:D)(M:MH)(Q:DK):Prop
 |mk (r:Addr) (x c m':Int) (_:u=.ref r) (_:m=.int m') (_:(0<=m'/\m'<=12)) (_:n=.int 5) (_:M r=MA (.lst [.int x,.int c])) (_:0<=c) (_:c<1000) (_:∀(M'':MH) (x' c':Int) (l:Addr) (ws:List Wl),r≠l->M'' r=MA (.lst [.int x',.int c'])->M'' l=MA (.lst (ws.map uw))->0<=c'->c'<=c+140->(ws.length:Int)<=m'->(∀w∈ws,Mn w)->PF ws->Q (.ref l) M'')
theorem jM(T:Tx K mg):Cal P w K mg base 4 "_law_shuts_here" (Qg N4):=by
 refine md (k:=3) T.f_law_shuts_here bo fun f cdv A outer s H E C=>⟨_,(aq (aD 3 bo.nd (bz ak)) (aq (de Je rfl rfl T.b_range (ae (av (aH T).m C (ae (dv 0) (ae (aB aO (dv 1) ao) ak))) ak) (aE 4 bo.nd) (aq (aD 5 bo.nd (aJ (ae (av (aH T).m C (ae (dv 0) (ae (dv 2) ak))) (ae (av (aH T).m C (ae (dv 0) (ae (dv 2) ak))) ak)))) (aq (aD 6 bo.nd (aJ (ae (av (aH T).m C (ae (dv 0) (ae (dv 2) ak))) (ae (av (aH T).m C (ae (dv 0) (ae (dv 2) ak))) ak)))) (aq (bF (lN (gH (aM (eP C.units) (dv 3) (bz ak)) (fg (aM (fU C.units) (av (aH T).m C (ae (dv 0) (ae ao ak))) ao)))) (aw (aD 5 bo.nd (aC (aC (dv 3) (av (aH T).m C (ae (dv 0) (ae (aN cR rfl T.b_len cT (ae (dv 3) ak)) ak)))) (av (aH T).m C (ae (dv 0) (ae ao ak)))))) aR) (aq (aD 7 bo.nd (aJ (ae (aN (iX rfl C.units) rfl T.b_min k8 (ae (dv 5) (ae (dv 6) ak))) (ae (aN (oZ rfl C.units) rfl T.b_max sR (ae (dv 5) (ae (dv 6) ak))) ak)))) (aw (bF (lN (gH (aM (eP C.units) (dv 5) (dv 6)) (fg (dM (aN (E7 rfl) rfl T.b_all DQ (ae (iO (Ml.of (xs:=["_law_beside"]) (js:=[7]) rfl) rfl (aV (dv 3)) (fun _ _ _ _=>cJ) (fun _ _ _ _=>(av (sX T).m C (ae (dv 1) (ae (dv 0) ak))))) ak)))))) (aw (bS (bc (dv 3) (ae (dv 7) ak)))) aR))))))) (aw (aF (dv 3))))),fun _ _ _ M Q h=>?_⟩;obtain⟨r,x0,c0,m,rfl,rfl,hm,rfl,hM,e0,s0,k⟩:=h;refine⟨Mm rfl,fun l hl=>?_⟩;have g:r≠l:=az hM hl;refine⟨_,rfl,_,rfl,r,m+1,x0,c0,rfl,rfl,(by rw[au g];exact hM),e0,(),(),bP (),fun x1 v h0 h1=>?_⟩;refine⟨v.toNat,?_,(),fun i δ u=>∃(x c:Int) (ws:List Wl) (o4 o5 o6 o7:Option D),δ=[MA (.ref r),MA (.int m),MA (.int 5),MA (.ref l),o4,o5,o6,o7]/\u r=MA (.lst [.int x,.int c])/\u l=MA (.lst (ws.map uw))/\0<=c/\c<=c0+1+10*i/\ws.length<=i/\(∀w∈ws,Mn w)/\PF ws,?_,?_,?_⟩
 ·rw[Int.toNat_of_nonneg h0]
 ·refine⟨x1,c0+1,[],_,_,_,_,rfl,ag,(by rw[au g.symm,ag];rfl),(),(),⋯,fun w hw=>absurd hw (by simp),Cz⟩
 rotate_left
 ·rintro δ u ⟨x,c,ws,o4,o5,o6,o7,rfl,N,O,g0,g1,g2,R,g4⟩;exact⟨_,rfl,NA (k u x c l ws g N O g0 () () R g4)⟩
 rintro i δ u hi ⟨x,c,ws,o4,o5,o6,o7,rfl,N,O,g0,g1,g2,R,g4⟩;have t0:i<=12:=()
 (try dsimp only[SD.aU])
 refine Qi fun B hB=>?_;refine⟨_,rfl,_,rfl,r,5,x,c,rfl,rfl,N,g0,(),⋯,bP ⋯,fun x1 p u0 v0=>?_⟩;refine⟨_,rfl,_,rfl,r,5,x1,c+1,rfl,rfl,ag,(),(),⋯,bP ⋯,fun x2 q w0 y0=>⟨Mm rfl,?_⟩⟩;refine⟨_,rfl,_,rfl,r,5,x2,c+1+1,rfl,rfl,ag,(),(),⋯,bP ⋯,fun x3 e z0 a1=>?_⟩;refine⟨_,rfl,_,rfl,r,5,x3,c+1+1+1,rfl,rfl,ag,(),(),⋯,bP ⋯,fun S f b1 c1=>⟨Mm rfl,?_⟩⟩;have U:(aA (aA (aA (aA u r (.lst [.int x1,.int (c+1)])) r (.lst [.int x2,.int (c+1+1)])) r (.lst [.int x3,.int (c+1+1+1)])) r (.lst [.int S,.int (c+1+1+1+1)])) l=MA (.lst (ws.map uw)):=by rw[au g.symm,au g.symm,au g.symm,au g.symm];exact O
 have V:(aA (aA (aA (aA u r (.lst [.int x1,.int (c+1)])) r (.lst [.int x2,.int (c+1+1)])) r (.lst [.int x3,.int (c+1+1+1)])) r (.lst [.int S,.int (c+1+1+1+1)])) r=MA (.lst [.int S,.int (c+1+1+1+1)]):=ag;generalize aA (aA (aA (aA u r (.lst [.int x1,.int (c+1)])) r (.lst [.int x2,.int (c+1+1)])) r (.lst [.int x3,.int (c+1+1+1)])) r (.lst [.int S,.int (c+1+1+1+1)])=M4 at U V ⊢;(try dsimp only[SD.aU])
 refine bU (fun δ u=>∃(x c' p q:Int) (o7:Option D),δ=[MA (.ref r),MA (.int m),MA (.int 5),MA (.ref l),MA (.int (i:Int)),MA (.tup [.int p,.int q]),MA (.tup [.int e,.int f]),o7]/\u r=MA (.lst [.int x,.int c'])/\u l=MA (.lst (ws.map uw))/\0<=c'/\c'<=c+10/\(0<=p/\p<=20)/\(0<=q/\q<=20)) ?_ (fun hu=>?_);rotate_left
 ·refine⟨_,rfl,Mm rfl,fun z hz=>?_⟩;have W:r≠z:=az V hz;have I:l≠z:=az U hz;have n:(aA M4 z (.lst [])) l=MA (.lst (ws.map uw)):=by rw[au I];exact U
  have G:(aA M4 z (.lst [])) r=MA (.lst [.int S,.int (c+1+1+1+1)]):=by rw[au W];exact V
  refine⟨_,_,.lst n (wR ws),.lst ag .nil,vT ws,rfl,_,rfl,?_⟩;rw[tm];refine bO (fun X=>?_) (fun r0=>?_)
  ·have a0:0<ws.length:=by
    cases ws with
    |nil=>simp at X
    |cons w ws=>simp
   refine⟨_,rfl,r,3,S,c+1+1+1+1,rfl,rfl,G,(),(),⋯,bP ⋯,fun L v5 d1 f1=>⟨trivial,_,rfl,?_⟩⟩;have o:(aA (aA M4 z (.lst [])) r (.lst [.int L,.int (c+1+1+1+1+1)])) l=MA (.lst (ws.map uw)):=by rw[au g.symm];exact n
   refine bO (fun _=>?_) (fun _=>?_)
   ·refine⟨_,rfl,_,rfl,_,rfl,_,o,r,((ws.map uw).length:Int),L,c+1+1+1+1+1,rfl,rfl,ag,(),(),by simpa using a0,bP (by simp;omega),fun x6 v6 f0 i0=>?_⟩;obtain⟨w,hw,ew⟩:=Bk (ws:=ws) f0 (by simpa using i0);have l0:=R w hw;refine⟨_,_,(by rw[au g.symm];exact o),ew,?_⟩;refine⟨_,rfl,r,2,x6,c+1+1+1+1+1+1,rfl,rfl,ag,(),(),⋯,bP ⋯,fun x7 v7 m0 n0=>?_⟩;obtain⟨a,b,ea,ha,hb⟩:=xB l0 m0 n0;refine⟨_,ea,hu _ _ ⟨x7,_,a,b,_,rfl,ag,(by rw[au g.symm,au g.symm];exact o),(),(),ha,hb⟩⟩
   ·exact hu _ _ ⟨L,_,p,q,_,rfl,ag,o,(),(),(),()⟩
  ·refine jK rfl ?_;exact hu _ _ ⟨S,_,p,q,_,rfl,G,n,(),(),(),()⟩
 rintro δ M5 ⟨L,c5,p,q,o7,rfl,G,n,k0,k1,hp,hq⟩;have he:0<=e/\e<=20:=()
 have hf:0<=f/\f<=20:=()
 refine⟨_,rfl,_,rfl,[p,q],[e,f],rfl,rfl,?_⟩;refine⟨_,rfl,_,rfl,[p,q],[e,f],rfl,rfl,Mm rfl,?_⟩;refine⟨_,rfl,_,rfl,_,_,Pd.of rfl,Pd.of rfl,rfl,rfl,_,rfl,?_⟩;rw[oy];refine bO (fun X=>?_) (fun _=>?_);rotate_left
 ·refine jK rfl ?_;exact hB _ _ ⟨L,c5,ws,_,_,_,_,rfl,G,n,k0,(),(),R,g4⟩
 obtain⟨w,e1,e2,hw⟩:=vt hp hq he hf (fun⟨a,b⟩=>by simp[a,b]at X);rw[e1,e2];refine⟨_,rfl,ws.map uw,n,?_⟩;refine⟨by simp;omega,fun z hz=>?_⟩;have W:r≠z:=az G hz;have I:l≠z:=az n hz;refine⟨fun j ys u=>∃bs:List Bool,ys=bs.map D.bl/\bs.length=j/\(∀(t:Nat) (v:Wl),bs[t]?=MA MC->ws[t]?=MA v->My w v)/\u=aA M5 z (.lst ys),⟨[],rfl,rfl,fun t v h=>by simp at h,rfl⟩,?_,?_,?_⟩
 ·rintro j ys u _ ⟨bs,_,_,_,rfl⟩;show(aA M5 z _) l=_;rw[au I];exact n
 ·rintro j ys d u hj hd ⟨bs,rfl,F,hf,rfl⟩;have hd:(ws.map uw)[j]?=MA d:=hd;rw[IW]at hd;cases ev:ws[j]? with
  |none=>rw[ev]at hd;cases hd
  |some v=>
   rw[ev]at hd
   cases hd
   refine⟨_,rfl,?_⟩
   dsimp only[SD.ly]
   refine C4 ?_
   refine⟨_,rfl,_,rfl,w,v,rfl,rfl,hw,R v (IZ ev),fun b hb=>?_⟩
   refine⟨_,.refl,ag,bs++[b],by simp,by simp[F],fun t v' J Y=>?_,by rw[bR]⟩
   rcases Nat.lt_trichotomy t bs.length with y|y|y
   ·rw[JD y]at J;exact hf t v' J Y
   ·subst y;rw[JZ (IX _)]at J;have o0:b=MC:=by simpa using J
    rw[F,ev]at Y;cases Y;exact hb o0
   ·rw[List.getElem?_eq_none (by simp;omega)]at J;cases J
 rintro ys u ⟨bs,rfl,F,hf,rfl⟩;have Z:bs.length=ws.length:=by rw[F];simp
 have o:(aA M5 z (.lst (bs.map D.bl))) l=MA (.lst (ws.map uw)):=by rw[au I];exact n
 have b0:(aA M5 z (.lst (bs.map D.bl))) r=MA (.lst [.int L,.int c5]):=by rw[au W];exact G
 refine⟨bs,ag,_,rfl,?_⟩;refine bO (fun d0=>?_) (fun _=>?_)
 ·refine⟨_,rfl,l,_,rfl,o,_,rfl,ws.map uw,_,rfl,o,by simp;omega,?_⟩;refine hB _ _ ⟨L,c5,ws++[w],_,_,_,_,rfl,by rw[au g];exact b0,by rw[ag,Jg];rfl,k0,(),by simp;omega,fun v hv=>?_,vK g4 fun t v hv=>hf t v ?_ hv⟩
  ·rcases Jj.mp hv with y|y
   ·exact R v y
   ·rw[Jx.mp y];exact hw
  ·have J:t<bs.length:=by rw[Z];exact(J1.mp hv).1
   rw[IS J];have:=JW.mp d0 _ (JS J);exact congrArg MA this
 ·exact hB _ _ ⟨L,c5,ws,_,_,_,_,rfl,b0,o,k0,(),(),R,g4⟩
theorem fV:Mk ["_law_at","_law_wide","_law_x","_law_y","_law_spots"] ["_law_at","_law_wide"] (ay nV):=by walk_at "sc"
inductive PH(u v:D)(M:MH)(Q:DK):Prop
 |mk (x y w:Int) (_:u=.tup [.int x,.int y]) (_:v=.int w) (_:0<w) (_:∀(M'':MH) (l:Addr),SD.Sub M M''->M l=MB->M'' l=MA (.lst ((Nx x y w).map uw))->Q (.ref l) M'')
theorem jz(T:Tx K mg):Cal P w K mg base 1 "_law_box" (NU PH):=by
 refine bQ (k:=0) T.f_law_box fV fun f cdv A outer s H E D=>⟨_,(aq (cI (dv 0) (bZ rfl (aG (aE 2 fV.nd) (aG (aE 3 fV.nd) bG)))) (aq (aD 4 fV.nd (bz (ae (aJ (ae (dv 2) (ae (dv 3) ak))) (ae (aJ (ae (aB aO (dv 2) (dv 1)) (ae (dv 3) ak))) (ae (aJ (ae (aB aO (dv 2) (dv 1)) (ae (aB aO (dv 3) (dv 1)) ak))) (ae (aJ (ae (dv 2) (ae (aB aO (dv 3) (dv 1)) ak))) ak)))))) (aw (aF (mv (Ml.of (xs:=["_law_one","_law_other"]) (js:=[]) rfl) rfl (D2 rfl T.b_zip (ae (dv 4) (ae (aB aO (qJ (dv 4) (oM ao) uM) (qJ (dv 4) uM (oM ao))) ak))) (fun _ _ _ _=>cJ) (fun _ _ _ _=>(aJ (ae (aN (iX rfl D.units) rfl T.b_min k8 (ae (dv 0) (ae (dv 1) ak))) (ae (aN (oZ rfl D.units) rfl T.b_max sR (ae (dv 0) (ae (dv 1) ak))) ak))))))))),fun _ _ M Q h=>?_⟩;obtain⟨x,y,w,rfl,rfl,W,k⟩:=h;refine⟨_,rfl,_,rfl,rfl,_,_,rfl,_,_,rfl,rfl,?_⟩;refine⟨_,rfl,_,rfl,Mm rfl,_,rfl,_,rfl,_,rfl,Mm rfl,_,rfl,_,rfl,_,rfl,_,rfl,Mm rfl,_,rfl,_,rfl,_,rfl,Mm rfl,Mm rfl,fun g B=>?_⟩;refine⟨_,rfl,_,rfl,1,rfl,_,ag,fun t m=>?_⟩;have u:g≠t:=az ag m;refine⟨_,rfl,1,rfl,_,(by rw[au u,ag]),fun v j=>?_⟩;have S:t≠v:=az ag j;have F:g≠v:=az (by rw[au u,ag]) j;refine⟨_,_,(by rw[au S,ag]),ag,Mm rfl,fun n r=>?_⟩;have U:g≠n:=az (by rw[au F,au u,ag]) r;have I:=SD.Sub.new (o:=.lst (cutD (PQ x y w) (MA 1) MB++cutD (PQ x y w) MB (MA 1))) r (.new j (.new m (.new B .refl)));have C:=(show(aA (aA (aA (aA M g (.lst (PQ x y w))) t (.lst (cutD (PQ x y w) (MA 1) MB))) v (.lst (cutD (PQ x y w) MB (MA 1)))) n (.lst (cutD (PQ x y w) (MA 1) MB++cutD (PQ x y w) MB (MA 1)))) g=MA (.lst (PQ x y w)) by rw[au U,au F,au u,ag]);refine⟨g,n,_,[.tup [.int (x+w),.int y],.tup [.int (x+w),.int (y+w)],.tup [.int x,.int (y+w)],.tup [.int x,.int y]],rfl,C,ag,?_⟩;have J:=(show(aA (aA (aA (aA M g (.lst (PQ x y w))) t (.lst (cutD (PQ x y w) (MA 1) MB))) v (.lst (cutD (PQ x y w) MB (MA 1)))) n (.lst (cutD (PQ x y w) (MA 1) MB++cutD (PQ x y w) MB (MA 1)))) n=MA (.lst [.tup [.int (x+w),.int y],.tup [.int (x+w),.int (y+w)],.tup [.int x,.int (y+w)],.tup [.int x,.int y]])from ag);refine comp_map (fun i=>(((Nx x y w).map uw)[i]?).getD .non) (Mm rfl) (fun q X N=>⟨by rw[au (az C N)];exact C,by rw[au (az J N)];exact J⟩) ?_ (fun p O=>?_)
 ·intro i d z R hd V;have R:i<4:=R;have L:∀a b c e:Int,HT.lexLt [a,b] [c,e]=decide (a<c\/(a=c/\b<e)):=fun a b c e=>by rw[K5,Md,ML]
  have G:∀a b c e:Int,HT.cu [a,b] [c,e]=decide (c<a\/(c=a/\e<b)):=fun a b c e=>by rw[Ma.nU,L]
  rcases(():i=0\/i=1\/i=2\/i=3)with rfl|rfl|rfl|rfl
  ·cases hd;refine⟨_,⟨_,rfl,rfl,rfl⟩,fun K l=>?_⟩;refine⟨_,rfl,_,rfl,[x,y],[x+w,y],rfl,rfl,_,rfl,_,rfl,[x,y],[x+w,y],rfl,rfl,Mm rfl,?_⟩;rw[L,G,ME (by simp;omega),MF (by simp;omega)];exact l z .refl
  ·cases hd;refine⟨_,⟨_,rfl,rfl,rfl⟩,fun K l=>?_⟩;refine⟨_,rfl,_,rfl,[x+w,y],[x+w,y+w],rfl,rfl,_,rfl,_,rfl,[x+w,y],[x+w,y+w],rfl,rfl,Mm rfl,?_⟩;rw[L,G,ME (by simp;omega),MF (by simp;omega)];exact l z .refl
  ·cases hd;refine⟨_,⟨_,rfl,rfl,rfl⟩,fun K l=>?_⟩;refine⟨_,rfl,_,rfl,[x+w,y+w],[x,y+w],rfl,rfl,_,rfl,_,rfl,[x+w,y+w],[x,y+w],rfl,rfl,Mm rfl,?_⟩;rw[L,G,MF (by simp;omega),ME (by simp;omega)];exact l z .refl
  ·cases hd;refine⟨_,⟨_,rfl,rfl,rfl⟩,fun K l=>?_⟩;refine⟨_,rfl,_,rfl,[x,y+w],[x,y],rfl,rfl,_,rfl,_,rfl,[x,y+w],[x,y],rfl,rfl,Mm rfl,?_⟩;rw[L,G,MF (by simp;omega),ME (by simp;omega)];exact l z .refl
 ·refine NA (k _ p (.new O I) ?_ ?_)
  ·cases e:M p with
   |none=>rfl
   |some o=>exact absurd ((I _ _ e).symm.trans O) (by simp)
  ·rw[ag];rfl
theorem fQ:Mk ["_law_row","_law_many","_law_found","_law_number"] ["_law_row","_law_many"] (ay kg):=by walk_at "sc"
inductive OQ(u v:D)(M:MH)(Q:DK):Prop
 |mk (r:Addr) (x c:Int) (n:Nat) (_:u=.ref r) (_:v=.int (n:Int)) (_:n<=40) (_:M r=MA (.lst [.int x,.int c])) (_:0<=c) (_:c<2000) (_:∀(M'':MH) (x':Int) (l:Addr) (os:List Nat),r≠l->M'' r=MA (.lst [.int x',.int (c+n)])->(∀a o,a≠r->M a=MA o->M'' a=MA o)->M l=MB->M'' l=MA (.lst (os.map fun o:Nat=>D.int (o:Int)))->os.Perm (J5 n)->Q (.ref l) M'')
theorem qd(T:Tx K mg):Cal P w K mg base 2 "_law_order" (NU OQ):=by
 refine bQ (k:=1) T.f_law_order fQ fun f cdv A outer s H E C=>⟨_,(aq (aD 2 fQ.nd (bz ak)) (aq (de Je rfl rfl T.b_range (ae (dv 1) ak) (aE 3 fQ.nd) (aw (bS (gy (dv 2) (ae (av (aH T).m C (ae (dv 0) (ae (aB aO (dv 3) ao) ak))) (ae (dv 3) ak)))))) (aw (aF (dv 2))))),fun _ _ M Q h=>?_⟩;obtain⟨r,x,c,n,rfl,rfl,O,v,F,G,k⟩:=h;refine⟨Mm rfl,fun l p=>?_⟩;have q:r≠l:=az v p;refine⟨_,rfl,n,rfl,(),fun i δ e=>∃(g:Int) (os:List Nat) (u:Option D),δ=[MA (.ref r),MA (.int (n:Int)),MA (.ref l),u]/\e r=MA (.lst [.int g,.int (c+i)])/\(∀a o,a≠r->M a=MA o->e a=MA o)/\e l=MA (.lst (os.map fun o:Nat=>D.int (o:Int)))/\os.Perm (J5 i),⟨x,[],_,rfl,(by rw[au q];simpa using v),(fun a o _ h=>by rw[au (az h p)];exact h),ag,by simp⟩,?_,?_⟩
 ·rintro i δ R S ⟨g,os,u,rfl,d,kp,b,t⟩;have y:os.length=i:=by rw[t.length_eq,List.length_range]
  refine⟨_,rfl,l,_,rfl,b,?_⟩;refine⟨_,rfl,_,rfl,r,(i:Int)+1,g,c+i,rfl,rfl,d,(),(),(),bP (),fun I z J L=>?_⟩;obtain⟨j,rfl⟩:∃j:Nat,z=(j:Int):=⟨z.toNat,()⟩;refine⟨_,rfl,_,_,j,rfl,(by rw[au q.symm];exact b),by simp;omega,by simp;omega,?_⟩;refine⟨I,gA os j i,_,rfl,(by rw[au q,ag,show c+((i+1:Nat):Int)=c+(i:Int)+1 by omega]),(fun a o B h=>?_),(by rw[ag,lP]),?_⟩
  ·have N:a≠l:=az h p;rw[au N,au B];exact kp a o B h
  ·rw[KD];exact(nY os j i).trans ((List.Perm.cons _ t).trans (by simpa using(List.perm_append_comm (l₁:=[i]) (l₂:=J5 i))))
 ·rintro δ e ⟨g,os,u,rfl,d,kp,b,t⟩;exact⟨_,rfl,NA (k e g l os q d kp p b t)⟩
theorem b7:Mk ["_law_row","_law_shuts","_law_at","_law_turn_here"] ["_law_row"] (ay nI):=by walk_at "sc"
inductive PB(u:D)(M:MH)(Q:DK):Prop
 |mk (r:Addr) (x c:Int) (_:u=.ref r) (_:M r=MA (.lst [.int x,.int c])) (_:0<=c) (_:c<1000) (_:∀(M'':MH) (x' c':Int) (l:Addr) (ws:List Wl),r≠l->M'' r=MA (.lst [.int x',.int c'])->M'' l=MA (.lst (ws.map uw))->0<=c'->c'<=c+100->ws.length<=19->(∀w∈ws,Mn w)->PF ws->Q (.ref l) M'')
theorem vF(T:Tx K mg):Cal P w K mg base 3 "_law_set" (Oq PB):=by
 refine fj (k:=2) T.f_law_set b7 fun f cdv A outer s H E u=>⟨_,(aq (aD 1 b7.nd (bz ak)) (aq (aD 2 b7.nd ao) (aq (de Je rfl rfl T.b_range (ae (aB aO ao (av (aH T).m u (ae (dv 0) (ae ao ak)))) ak) (aE 3 b7.nd) (aq (aD 1 b7.nd (aB aO (dv 1) (av (jz T).m u (ae (aJ (ae (dv 2) (ae (dv 2) ak))) (ae (aB dC ao (aB aS ao (dv 2))) ak))))) (aw (aD 2 b7.nd (aB aO (aB aO (dv 2) ao) (av (aH T).m u (ae (dv 0) (ae ao ak)))))))) (aq (bF (aM (cU u.units) (av (aH T).m u (ae (dv 0) (ae ao ak))) ao) (aw (aD 1 b7.nd (aB aO (dv 1) (av (jz T).m u (ae (aJ (ae (aB aO (dv 2) (av (aH T).m u (ae (dv 0) (ae ao ak)))) (ae (aB aO (dv 2) (av (aH T).m u (ae (dv 0) (ae ao ak)))) ak))) (ae (aB aO ao (av (aH T).m u (ae (dv 0) (ae ao ak)))) ak)))))) aR) (aq (bF (aM (cU u.units) (av (aH T).m u (ae (dv 0) (ae ao ak))) ao) (aw (bS (bc (dv 1) (ae (aJ (ae (aJ (ae ao (ae ao ak))) (ae (aJ (ae ao (ae ao ak))) ak))) ak)))) aR) (aq (de Je rfl rfl T.b_range (ae (av (aH T).m u (ae (dv 0) (ae ao ak))) ak) (aE 3 b7.nd) (aw (bS (bc (dv 1) (ae (aJ (ae (aJ (ae (dv 2) (ae (aB aO ao (dv 3)) ak))) (ae (aJ (ae (aB aO (dv 2) ao) (ae (aB aO ao (dv 3)) ak))) ak))) ak))))) (aq (bF (aM (cU u.units) (av (aH T).m u (ae (dv 0) (ae ao ak))) ao) (aw (aD 1 b7.nd (aB aO (dv 1) (av (jz T).m u (ae (aJ (ae ao (ae ao ak))) (ae ao ak)))))) aR) (aw (aF (iO (Ml.of (xs:=["_law_number"]) (js:=[1]) rfl) rfl (aV (av (qd T).m u (ae (dv 0) (ae (aN cR rfl T.b_len cT (ae (dv 1) ak)) ak)))) (fun _ _ _ _=>cJ) (fun _ _ _ _=>(aC (dv 1) (dv 0))))))))))))),fun _ M Q h=>?_⟩;obtain⟨r,x,c,rfl,hM,x0,k1,k⟩:=h;have sz:1000000<=J8:=Mm rfl;have b4:∀(x y w:Int) (us:List Wl),us.length<=100->(us.map uw).length+((Nx x y w).map uw).length<=J8:=fun x y w us h=>by rw[IU,IU];show us.length+4<=J8;omega
 refine⟨Mm rfl,fun l0 i0=>?_⟩;have Y:r≠l0:=az hM i0;have a0:(aA M l0 (.lst [])) r=MA (.lst [.int x,.int c]):=by rw[au Y];exact hM
 have b0:(aA M l0 (.lst [])) l0=MA (.lst (([]:List Wl).map uw)):=ag;generalize aA M l0 (.lst [])=M1 at a0 b0 ⊢;(try dsimp only[SD.aU])
 refine bU (fun δ j=>δ=[MA (.ref r),MA (.ref l0),MA (.int 0),MB]/\j=M1) ?_ (fun L=>L _ _ ⟨rfl,rfl⟩);rintro δ j ⟨rfl,rfl⟩;refine bU (fun δ j=>∃(l:Addr) (us:List Wl) (a F t:Int) (z:Option D),δ=[MA (.ref r),MA (.ref l),MA (.int a),z]/\j r=MA (.lst [.int F,.int t])/\j l=MA (.lst (us.map uw))/\r≠l/\0<=t/\t<=c+3/\(us,a)∈oF) ?_ (fun L=>?_);rotate_left
 ·refine⟨_,rfl,r,2,x,c,rfl,rfl,a0,x0,(),⋯,bP ⋯,fun x1 v h0 h1=>?_⟩;obtain⟨n,rfl⟩:∃n:Nat,v=(n:Int):=⟨v.toNat,()⟩;refine⟨1+n,by simp,(),fun i δ j=>∃(l:Addr) (us:List Wl) (a F:Int) (z:Option D),δ=[MA (.ref r),MA (.ref l),MA (.int a),z]/\j r=MA (.lst [.int F,.int (c+1+i)])/\j l=MA (.lst (us.map uw))/\r≠l/\((i=0/\us=[]/\a=0)\/(i=1/\us=Nx 0 0 12/\(a=1\/a=2))\/(i=2/\(us,a)∈oF)),⟨l0,[],0,x1,_,rfl,(by rw[ag];simp),(by rw[au Y.symm];exact b0),Y,.inl ⟨rfl,rfl,rfl⟩⟩,?_,?_⟩
  ·rintro i δ M2 hi ⟨l,us,a,F,z,rfl,G,N,b,st⟩
   have ha:0<=a/\a<=2/\us.length<=4/\i<=1:=by
    rcases st with⟨e1,e2,e3⟩|⟨e1,e2,e3⟩|⟨e1,_⟩
    ·subst e2;simp;omega
    ·subst e2;show _/\_/\4<=4/\_;omega
    ·omega
   have y0:Bd 64 a:=bP ();refine⟨_,rfl,_,rfl,_,rfl,Mm rfl,_,rfl,pj y0,trivial,a,a,12-2*a,rfl,rfl,(),fun M3 lb c0 k0 W=>?_⟩;refine⟨_,_,c0 _ _ N,W,b4 _ _ _ us (),fun l3 I=>?_⟩;have d0:r≠l3:=az (c0 _ _ G) I;refine⟨_,rfl,_,rfl,r,2,F,c+1+i,rfl,rfl,(by rw[au d0];exact c0 _ _ G),(),(),⋯,bP ⋯,fun x2 v2 m1 n1=>?_⟩;refine⟨l3,us++Nx a a (12-2*a),a+1+v2,x2,_,rfl,(by rw[ag,show c+1+((i+1:Nat):Int)=c+1+(i:Int)+1 by omega]),(by rw[au d0.symm,ag,Jg]),d0,?_⟩;rcases st with⟨e1,rfl,rfl⟩|⟨e1,rfl,e3⟩|⟨e1,_⟩
   ·exact .inr (.inl ⟨(),rfl,()⟩)
   ·refine .inr (.inr ⟨(),?_⟩);rcases(():v2=0\/v2=1)with rfl|rfl<;>rcases e3 with rfl|rfl<;>simp[oF]
   ·omega
  ·rintro δ j ⟨l,us,a,F,z,rfl,G,N,b,st⟩;refine L _ _ ⟨l,us,a,F,_,_,rfl,G,N,b,(),(),?_⟩;rcases st with⟨e1,_⟩|⟨e1,rfl,e3⟩|⟨e1,g⟩
   ·omega
   ·rcases e3 with rfl|rfl<;>simp[oF]
   ·exact g
 clear a0 b0 i0 Y;rintro δ M2 ⟨l,us,a,x2,c2,z,rfl,G,N,b,z0,o1,gm⟩
 have ga:(1<=a/\a<=4)/\us.length<=8:=by
  have:(oF.all fun g=>decide ((1<=g.2/\g.2<=4)/\g.1.length<=8))=MC:=by decide +kernel
  exact MJ (JW.mp this _ gm)
 (try dsimp only[SD.aU])
 refine bU (fun δ j=>∃(l:Addr) (A:List Wl) (t1 Z t3 F t:Int) (z:Option D),δ=[MA (.ref r),MA (.ref l),MA (.int a),z]/\j r=MA (.lst [.int F,.int t])/\j l=MA (.lst ((us++A).map uw))/\r≠l/\0<=t/\t<=c+10/\(0<=t1/\t1<2)/\(0<=Z/\Z<2)/\(0<=t3/\t3<2)/\A.Sublist (Nx (a+t1) (a+Z) (1+t3))/\A.length<=4) ?_ (fun L=>?_);rotate_left
 ·refine⟨_,rfl,r,2,x2,c2,rfl,rfl,G,z0,(),⋯,bP ⋯,fun x3 v3 p1 r1=>⟨_,rfl,?_⟩⟩;have I:(aA M2 r (.lst [.int x3,.int (c2+1)])) l=MA (.lst (us.map uw)):=by rw[au b.symm];exact N
  refine bO (fun _=>?_) (fun _=>?_)
  ·refine⟨_,rfl,_,rfl,_,rfl,r,2,x3,c2+1,rfl,rfl,ag,(),(),⋯,bP ⋯,fun x4 t1 m0 n0=>?_⟩;refine⟨_,rfl,_,rfl,r,2,x4,c2+1+1,rfl,rfl,ag,(),(),⋯,bP ⋯,fun x5 Z o0 r0=>⟨Mm rfl,?_⟩⟩;refine⟨_,rfl,r,2,x5,c2+1+1+1,rfl,rfl,ag,(),(),⋯,bP ⋯,fun x6 t3 s0 t0=>?_⟩;refine⟨a+t1,a+Z,1+t3,rfl,rfl,(),fun M7 lb O k0 W=>?_⟩;have e0:=O l (.lst (us.map uw)) (by rw[au b.symm,au b.symm,au b.symm];exact I);have R:=O _ _ ag;refine⟨_,_,e0,W,b4 _ _ _ us (),fun l8 f0=>?_⟩;have X:r≠l8:=az R f0;exact L _ _ ⟨l8,Nx (a+t1) (a+Z) (1+t3),t1,Z,t3,x6,_,_,rfl,(by rw[au X];exact R),(by rw[ag,Jg]),X,(),(),⟨m0,n0⟩,⟨o0,r0⟩,⟨s0,t0⟩,List.Sublist.refl _,IX _⟩
  ·exact L _ _ ⟨l,[],0,0,0,x3,c2+1,_,rfl,ag,(by rw[JM];exact I),b,(),(),⋯,⋯,⋯,List.nil_sublist _,K6 _⟩
 clear G N b;rintro δ M3 ⟨l,A,t1,Z,t3,x3,c3,z,rfl,u0,I,b,a1,s1,T1,T2,T3,sA,lA⟩;(try dsimp only[SD.aU])
 refine bU (fun δ j=>∃(B:List Wl) (F t:Int),δ=[MA (.ref r),MA (.ref l),MA (.int a),z]/\j r=MA (.lst [.int F,.int t])/\j l=MA (.lst (((us++A)++B).map uw))/\0<=t/\t<=c+11/\B.Sublist [(9,8,9,9)]/\B.length<=1) ?_ (fun L=>?_);rotate_left
 ·refine⟨_,rfl,r,2,x3,c3,rfl,rfl,u0,a1,(),⋯,bP ⋯,fun x4 v4 m0 n0=>⟨_,rfl,?_⟩⟩;have S:(aA M3 r (.lst [.int x4,.int (c3+1)])) l=MA (.lst ((us++A).map uw)):=by rw[au b.symm];exact I
  refine bO (fun _=>?_) (fun _=>?_)
  ·refine⟨_,rfl,l,_,rfl,S,Mm rfl,Mm rfl,Mm rfl,_,_,rfl,S,by simp;omega,?_⟩;exact L _ _ ⟨[(9,8,9,9)],x4,c3+1,rfl,(by rw[au b,ag]),(by rw[ag,Jg (l₂:=[(9,8,9,9)])];rfl),(),(),List.Sublist.refl _,IX _⟩
  ·exact L _ _ ⟨[],x4,c3+1,rfl,ag,(by rw[JM];exact S),(),(),List.nil_sublist _,K6 _⟩
 clear u0 I;rintro δ M4 ⟨B,x4,c4,rfl,v0,S,b1,u1,sB,lB⟩;(try dsimp only[SD.aU])
 refine bU (fun δ j=>∃(C:List Wl) (F t:Int) (z:Option D),δ=[MA (.ref r),MA (.ref l),MA (.int a),z]/\j r=MA (.lst [.int F,.int t])/\j l=MA (.lst ((((us++A)++B)++C).map uw))/\0<=t/\t<=c+12/\C.Sublist [(a,8,a+1,8),(a,9,a+1,9)]/\C.length<=2) ?_ (fun L=>?_);rotate_left
 ·refine⟨_,rfl,r,3,x4,c4,rfl,rfl,v0,b1,(),⋯,bP ⋯,fun x5 v5 o0 r0=>?_⟩;obtain⟨n,rfl⟩:∃n:Nat,v5=(n:Int):=⟨v5.toNat,()⟩;refine⟨n,by simp,(),fun i δ j=>∃(z:Option D),δ=[MA (.ref r),MA (.ref l),MA (.int a),z]/\j r=MA (.lst [.int x5,.int (c4+1)])/\j l=MA (.lst ((((us++A)++B)++([(a,8,a+1,8),(a,9,a+1,9)]:List Wl).take i).map uw)),⟨_,rfl,ag,(by rw[au b.symm];simpa using S)⟩,?_,?_⟩
  ·rintro i δ M5 hi ⟨z,rfl,U,J⟩;refine⟨_,rfl,l,_,rfl,J,_,rfl,_,rfl,Mm rfl,_,rfl,_,rfl,Mm rfl,Mm rfl,_,_,rfl,J,by simp;omega,?_⟩;refine⟨_,rfl,(by rw[au b];exact U),?_⟩;rw[ag];rcases(():i=0\/i=1)with rfl|rfl
   ·simp[uw]
   ·simp[uw]
  ·rintro δ M5 ⟨z,rfl,U,J⟩;exact L _ _ ⟨_,x5,c4+1,_,rfl,U,J,(),(),List.take_sublist _ _,by simp;omega⟩
 clear v0 S;rintro δ M5 ⟨C,x5,c5,c1,rfl,U,J,d1,v1,sC,lC⟩;(try dsimp only[SD.aU])
 refine bU (fun δ j=>∃(l':Addr) (E:List Wl) (F t:Int),δ=[MA (.ref r),MA (.ref l'),MA (.int a),c1]/\j r=MA (.lst [.int F,.int t])/\j l'=MA (.lst (((((us++A)++B)++C)++E).map uw))/\r≠l'/\0<=t/\t<=c+13/\E.Sublist (Nx 12 12 2)/\E.length<=4) ?_ (fun L=>?_);rotate_left
 ·refine⟨_,rfl,r,2,x5,c5,rfl,rfl,U,d1,(),⋯,bP ⋯,fun x6 v6 s0 t0=>⟨_,rfl,?_⟩⟩;have V:(aA M5 r (.lst [.int x6,.int (c5+1)])) l=MA (.lst ((((us++A)++B)++C).map uw)):=by rw[au b.symm];exact J
  refine bO (fun _=>?_) (fun _=>?_)
  ·refine⟨_,rfl,Mm rfl,12,12,2,rfl,rfl,⋯,fun M7 lb O k0 W=>?_⟩;refine⟨_,_,O _ _ V,W,b4 _ _ _ _ (by simp;omega),fun l8 f0=>?_⟩;have X:r≠l8:=az (O _ _ ag) f0;exact L _ _ ⟨l8,Nx 12 12 2,x6,c5+1,rfl,(by rw[au X];exact O _ _ ag),(by rw[ag];simp only[Jg]),X,(),(),List.Sublist.refl _,IX _⟩
  ·exact L _ _ ⟨l,[],x6,c5+1,rfl,ag,(by rw[JM];exact V),b,(),(),List.nil_sublist _,K6 _⟩
 clear U J b;rintro δ M6 ⟨l',E,x6,c6,rfl,f1,V,b,g1,w1,sE,lE⟩;have sub:(((((us++A)++B)++C)++E)).Sublist (Qj us a t1 Z t3):=by unfold Qj;rw[Kk,Kk,Kk];exact(List.Sublist.refl us).append (sA.append (sB.append (sC.append sE)))
 have lv:(((((us++A)++B)++C)++E)).length<=30:=by simp;omega
 generalize ((((us++A)++B)++C)++E)=vs at V sub lv;refine⟨_,rfl,_,rfl,_,V,r,x6,c6,vs.length,rfl,by simp,(),f1,g1,(),fun M7 x7 lo os y1 R i1 z1 g0 pm=>?_⟩;have e0:=i1 _ _ b.symm V;have ol:os.length=vs.length:=by rw[pm.length_eq,List.length_range]
 refine⟨_,g0,comp_map (fun i=>(((os.map fun o=>(vs[o]?).getD (0,0,0,0)).map uw)[i]?).getD .non) (by show(os.map fun o:Nat=>D.int (o:Int)).length<=1000000;rw[IU];omega) (fun q ys hq=>by show(aA M7 q _) lo=_;rw[au (az g0 hq)];exact g0) ?_ (fun p hp=>?_)⟩
 ·intro i d M8 hi hd j1;have hd:(os.map fun o:Nat=>D.int (o:Int))[i]?=MA d:=hd;rw[IW]at hd;cases eo:os[i]? with
  |none=>rw[eo]at hd;cases hd
  |some o=>
   rw[eo]at hd
   cases hd
   have ov:o<vs.length:=Ju.mp (pm.mem_iff.mp (IZ eo))
   refine⟨_,rfl,fun K hK=>?_⟩
   have w0:=hK M8 .refl
   rw[Ku,getD_map eo]at w0
   refine⟨_,rfl,_,rfl,_,_,j1 _ _ e0,bY (v:=uw vs[o]) (by rw[IW,IS ov];rfl),?_⟩
   have e:(vs[o]?).getD (0,0,0,0)=vs[o]:=by rw[IS ov];rfl
   rw[<-e]
   exact w0
 have e:(J5 (os.map fun o:Nat=>D.int (o:Int)).length).map (fun i=>(((os.map fun o=>(vs[o]?).getD (0,0,0,0)).map uw)[i]?).getD .non)=(os.map fun o=>(vs[o]?).getD (0,0,0,0)).map uw:=by
  have:=SD.range_getD ((os.map fun o=>(vs[o]?).getD (0,0,0,0)).map uw)
  simpa using this
 dsimp only;rw[e]
 have pv:(os.map fun o=>(vs[o]?).getD (0,0,0,0)).Perm vs:=by
  refine(pm.map _).trans ?_
  have:(J5 vs.length).map (fun o=>(vs[o]?).getD (0,0,0,0))=vs:=by
   apply List.ext_getElem
   ·simp
   ·intro i h1 h2;simp[h2]
  rw[this]
 obtain⟨q1,q2,q3⟩:=DV gm T1 T2 T3 sub pv;exact NA (k _ x7 _ p _ (az R hp) (by rw[au (az R hp)];exact R) ag () () q3 q2 q1)
theorem bM:Mk ["_law_row","_law_many","_law_shuts","_law_k","_law_found","_law_number"] ["_law_row"] (ay hZ):=by walk_at "sc"
inductive Np(u:D)(M:MH)(Q:DK):Prop
 |mk (r:Addr) (x c:Int) (_:u=.ref r) (_:M r=MA (.lst [.int x,.int c])) (_:0<=c) (_:c<1000) (_:∀(M'':MH) (x' c':Int) (l:Addr) (ws:List Wl),r≠l->M'' r=MA (.lst [.int x',.int c'])->M'' l=MA (.lst (ws.map uw))->0<=c'->c'<=c+41->PF ws->(∀w∈ws,Mn w)->ws.length<=40->Q (.ref l) M'')
theorem mN(T:Tx K mg):Cal P w K mg base 2 "_law_squares" (Oq Np):=by
 refine fj (k:=1) T.f_law_squares bM fun f cdv A outer s H E hr=>⟨_,(aq (aD 1 bM.nd (aB aO ao (av (aH T).m hr (ae (dv 0) (ae ao ak))))) (aq (aD 2 bM.nd (bz (ae (aJ (ae (aJ (ae (dv 1) (ae ao ak))) (ae (aJ (ae (dv 1) (ae ao ak))) ak))) ak))) (aq (de Je rfl rfl T.b_range (ae (dv 1) ak) (aE 3 bM.nd) (aw (aD 2 bM.nd (aB aO (dv 2) (bz (ae (aJ (ae (aJ (ae (dv 3) (ae ao ak))) (ae (aJ (ae (aB aO (dv 3) ao) (ae ao ak))) ak))) (ae (aJ (ae (aJ (ae (dv 3) (ae ao ak))) (ae (aJ (ae (aB aO (dv 3) ao) (ae ao ak))) ak))) (ae (aJ (ae (aJ (ae (dv 3) (ae ao ak))) (ae (aJ (ae (dv 3) (ae ao ak))) ak))) ak)))))))) (aq (aD 4 bM.nd (bz ak)) (aq (de Je rfl rfl T.b_range (ae (aN cR rfl T.b_len cT (ae (dv 2) ak)) ak) (aE 5 bM.nd) (aw (bS (gy (dv 4) (ae (av (aH T).m hr (ae (dv 0) (ae (aB aO (dv 5) ao) ak))) (ae (aC (dv 2) (dv 5)) ak)))))) (aw (aF (dv 4)))))))),fun _ M Q h=>?_⟩;obtain⟨r,x,c,rfl,hM,W,c0,k⟩:=h;refine⟨_,rfl,r,8,x,c,rfl,rfl,hM,W,(),⋯,bP ⋯,fun x1 v h0 h1=>?_⟩;obtain⟨n,rfl⟩:∃n:Nat,v=(n:Int):=⟨v.toNat,()⟩;refine⟨_,rfl,Mm rfl,_,rfl,Mm rfl,Mm rfl,Mm rfl,fun C X=>?_⟩;have I:r≠C:=az ag X;have J:(aA (aA M r (.lst [.int x1,.int (c+1)])) C (.lst [.tup [.tup [.int (6+(n:Int)),.int 0],.tup [.int (6+(n:Int)),.int 1]]])) r=MA (.lst [.int x1,.int (c+1)]):=by rw[au I,ag]
 have L:(aA (aA M r (.lst [.int x1,.int (c+1)])) C (.lst [.tup [.tup [.int (6+(n:Int)),.int 0],.tup [.int (6+(n:Int)),.int 1]]])) C=MA (.lst ((Nu ((6+n:Nat):Int) 0).map uw)):=by rw[ag];simp[Nu,NW,uw]
 generalize aA (aA M r (.lst [.int x1,.int (c+1)])) C _=M1 at J L ⊢;(try dsimp only[SD.aU])
 refine bU (fun δ g=>∃(l2:Addr) (F N q:Option D),δ=[MA (.ref r),MA (.int ((6+n:Nat):Int)),MA (.ref l2),F,N,q]/\g r=MA (.lst [.int x1,.int (c+1)])/\g l2=MA (.lst ((Nu ((6+n:Nat):Int) (6+n)).map uw))/\r≠l2) ?_ (fun hu=>?_);rotate_left
 ·refine⟨_,rfl,6+n,by simp,(),fun i δ g=>∃(l2:Addr) (F N q:Option D),δ=[MA (.ref r),MA (.int ((6+n:Nat):Int)),MA (.ref l2),F,N,q]/\g r=MA (.lst [.int x1,.int (c+1)])/\g l2=MA (.lst ((Nu ((6+n:Nat):Int) i).map uw))/\r≠l2,⟨C,_,_,_,by simp;rfl,J,L,I⟩,?_,fun δ g h=>hu _ _ h⟩;rintro i δ G hi ⟨l2,F,N,q,rfl,l,o,y⟩;have sz:1000000<=J8:=Mm rfl;have b:=kn ((6+n:Nat):Int) i;refine⟨_,rfl,?_⟩;refine⟨_,rfl,Mm rfl,_,rfl,Mm rfl,Mm rfl,?_⟩;refine⟨_,rfl,Mm rfl,_,rfl,Mm rfl,Mm rfl,?_⟩;refine⟨_,rfl,Mm rfl,_,rfl,Mm rfl,Mm rfl,Mm rfl,fun Y e=>?_⟩;have Z:l2≠Y:=az o e;have a0:r≠Y:=az l e;refine⟨_,_,(by rw[au Z];exact o),ag,(by rw[IU,b];show 1+3*i+3<=J8;omega),fun d t=>?_⟩;have p:(aA G Y (.lst [.tup [.tup [.int (i:Int),.int 0],.tup [.int ((i:Int)+1),.int 0]],.tup [.tup [.int (i:Int),.int 1],.tup [.int ((i:Int)+1),.int 1]],.tup [.tup [.int (i:Int),.int 0],.tup [.int (i:Int),.int 1]]])) r=MA (.lst [.int x1,.int (c+1)]):=by rw[au a0];exact l
  have a:r≠d:=az p t;exact⟨d,_,_,_,rfl,by rw[au a];exact p,by rw[ag,Nu,Jg];rfl,a⟩
 rintro δ G ⟨l2,F,N,q,rfl,l,o,y⟩;have b:=kn ((6+n:Nat):Int) (6+n);refine⟨Mm rfl,fun d t=>?_⟩;have a:r≠d:=az l t;have O:l2≠d:=az o t;have p:(aA G d (.lst [])) r=MA (.lst [.int x1,.int (c+1)]):=by rw[au a];exact l
 have e:(aA G d (.lst [])) l2=MA (.lst ((Nu ((6+n:Nat):Int) (6+n)).map uw)):=by rw[au O];exact o
 have R:(aA G d (.lst [])) d=MA (.lst (([]:List Wl).map uw)):=ag;generalize aA G d (.lst [])=M3 at p e R ⊢;refine⟨_,rfl,_,e,1+3*(6+n),by rw[IU,b],(),fun i δ g=>∃(S:Int) (ws:List Wl) (q:Option D),δ=[MA (.ref r),MA (.int ((6+n:Nat):Int)),MA (.ref l2),F,MA (.ref d),q]/\g r=MA (.lst [.int S,.int (c+1+i)])/\g l2=MA (.lst ((Nu ((6+n:Nat):Int) (6+n)).map uw))/\g d=MA (.lst (ws.map uw))/\ws.Perm ((Nu ((6+n:Nat):Int) (6+n)).take i),⟨x1,[],_,rfl,by simpa using p,e,R,by simp⟩,?_,?_⟩;rotate_left
 ·rintro δ g ⟨S,ws,q,rfl,z,B,u,U⟩;rw[K8 ()]at U;obtain⟨q1,q2,q3⟩:=FJ (m:=6+n) () U;exact⟨_,rfl,NA (k g S _ d ws a z u () () q1 q2 q3)⟩
 rintro i δ M4 hi ⟨S,ws,q,rfl,z,B,u,U⟩;have b0:ws.length=i:=by rw[U.length_eq,L3,b];omega
 have V:i<(Nu ((6+n:Nat):Int) (6+n)).length:=()
 refine⟨_,rfl,d,_,rfl,u,?_⟩;refine⟨_,rfl,_,rfl,r,(i:Int)+1,S,c+1+i,rfl,rfl,z,(),(),(),bP (),fun x2 v2 d0 e0=>?_⟩;obtain⟨j,rfl⟩:∃j:Nat,v2=(j:Int):=⟨v2.toNat,()⟩;refine⟨_,rfl,_,rfl,_,_,(by rw[au y.symm];exact B),bY (v:=uw (Nu ((6+n:Nat):Int) (6+n))[i]) (by rw[IW,IS V];rfl),?_⟩;refine⟨_,_,j,rfl,(by rw[au a.symm];exact u),by simp;omega,by simp;omega,?_⟩;refine⟨x2,gA ws j (Nu ((6+n:Nat):Int) (6+n))[i],_,rfl,(by rw[au a,ag,show c+1+((i+1:Nat):Int)=c+1+(i:Int)+1 by omega]),(by rw[au O,au y.symm];exact B),(by rw[ag,lP]),?_⟩;rw[K9,IS V];exact(nY ws j _).trans ((List.Perm.cons _ U).trans (by simpa using(List.perm_append_comm (l₁:=[(Nu ((6+n:Nat):Int) (6+n))[i]]) (l₂:=(Nu ((6+n:Nat):Int) (6+n)).take i))))
theorem d9:Mk ["_law_top","_law_bottom","_law_one","_law_other"] ["_law_top","_law_bottom"] (ay nJ):=by walk_at "sc"
inductive PD(x y:D)(M:MH)(Q:DK):Prop
 |mk (t:_) (b:_) (_:x=.int t) (_:y=.int b) (_:b≠0) (_:Bd 8000 t) (_:Bd 8000 b) (_:Q (Mh (Rat.divInt t b)) M)
theorem ox(T:Tx K mg):Cal P w K mg base 1 "_law_low" (NU PD):=by
 refine bQ (k:=0) T.f_law_low d9 fun f cdv A outer s H E l=>⟨_,(aq (aD 2 d9.nd (aN oV rfl T.b_abs oD (ae (dv 0) ak))) (aq (aD 3 d9.nd (aN oV rfl T.b_abs oD (ae (dv 1) ak))) (aq (fI Je (aM (eP l.units) (dv 3) ao) (aw (fP 2 3 rfl d9.nd (ae (dv 3) (ae (aB fm (dv 2) (dv 3)) ak))))) (aq (bF (aM (dP l.units) (dv 1) ao) (aw (aD 2 d9.nd (j0 fh (dv 2)))) aR) (aw (aF (aJ (ae (aB eV (dv 0) (dv 2)) (ae (aB eV (dv 1) (dv 2)) ak))))))))),fun _ _ M Q h=>?_⟩;obtain⟨t,b,rfl,rfl,o,r,g,q⟩:=h;refine⟨_,rfl,_,rfl,?_⟩;have u:=Ma.fF (t:=t) o;have a:Bd 8000 ((LB t.natAbs b.natAbs:Nat):Int):=g.of_le (by simpa using Nat.gcd_le_right t.natAbs (():0<b.natAbs));refine⟨fun m δ n=>n=M/\∃x y:Nat,δ=[MA (.int t),MA (.int b),MA (.int x),MA (.int y)]/\LB x y=LB t.natAbs b.natAbs/\m=y,⟨_,rfl,_,_,rfl,rfl,rfl⟩,?_⟩;rintro m δ n ⟨rfl,x,y,rfl,c,p⟩;refine⟨_,rfl,_,rfl,?_⟩;refine bO (fun h=>?_) (fun h=>?_)
 ·have i:(y:Int)≠0:=by simpa using h
  refine⟨_,rfl,_,rfl,_,rfl,i,_,_,rfl,?_⟩;have j:0<y:=()
  refine⟨x%y,by rw[p];exact Nat.mod_lt _ j,rfl,y,x%y,?_,?_,rfl⟩
  ·rw[<-Ma.t5];rfl
  ·rw[<-c,Nat.gcd_comm x y,Nat.gcd_rec y x,Nat.gcd_comm]
 ·have i:y=0:=by simpa using h
  subst i;rw[Nat.gcd_zero_right]at c;subst c;(repeat (first|refine⟨_,rfl,?_⟩|refine⟨trivial,?_⟩|refine⟨_,_,rfl,?_⟩|refine⟨rfl,?_⟩|refine⟨Mm rfl,?_⟩))
  refine bO (fun h=>?_) (fun h=>?_)
  ·have d:b<0:=by simpa using h
   obtain⟨e1,e2⟩:=Ma.uH (t:=t) d;refine⟨_,rfl,_,rfl,_,rfl,⟨(),a.neg⟩,_,rfl,_,rfl,⟨(),a.neg⟩,Mm rfl,?_⟩;dsimp only;rw[e1,e2];exact NA q
  ·have e:0<b:=by
    have:¬b<0:=by simpa using h
    omega
   obtain⟨e1,e2⟩:=Ma.uU (t:=t) e;refine⟨_,rfl,_,rfl,⟨(),a⟩,_,rfl,_,rfl,⟨(),a⟩,Mm rfl,?_⟩;dsimp only;rw[e1,e2];exact NA q
theorem dH:Mk ["_law_scale_here","_law_unit","_law_top","_law_bottom","_law_x","_law_y"] ["_law_scale_here","_law_unit"] (ay lY):=by walk_at "sc"
inductive Oc(s v:D)(M:MH)(Q:DK):Prop
 |mk (t b x y p q:Int) (_:s=Ro t b x y) (_:v=.tup [.int p,.int q]) (_:Nh t b x y) (_:(-(10^6)<=p/\p<=10^6)) (_:(-(10^6)<=q/\q<=10^6)) (_:Q (Mg (MV t b x 1 p) (MV t b y 1 q)) M)
theorem lT(T:Tx K mg):Cal P w K mg base 2 "_law_spot" (NU Oc):=by
 refine bQ (k:=1) T.f_law_spot dH fun f cdv A outer s H E d=>⟨_,(aq (cI (dv 0) (bZ rfl (aG (aE 2 dH.nd) (aG (aE 3 dH.nd) (aG (aE 4 dH.nd) (aG (aE 5 dH.nd) bG)))))) (aw (aF (aJ (ae (av (ox T).m d (ae (aB aO (aB aS (aC (dv 1) ao) (dv 2)) (dv 4)) (ae (dv 3) ak))) (ae (av (ox T).m d (ae (aB aO (aB aS (aC (dv 1) ao) (dv 2)) (dv 5)) (ae (dv 3) ak))) ak)))))),fun _ _ M Q h=>?_⟩;obtain⟨t,b,x,y,p,q,rfl,rfl,S,e,g,k⟩:=h;have j:Bd 100 t:=by have:=S.t0;have:=S.t1;show t.natAbs<2^100;omega
 have c:∀{z:Int},(-(10^6)<=z/\z<=10^6)->Bd 64 z:=fun{z} h=>by show z.natAbs<2^64;omega
 have i:Bd 8000 b:=by have:=S.b0;have:=S.b1;exact Bd.mono (m:=100) (by show b.natAbs<2^100;omega) ⋯
 have big:∀{z w:Int},(-(10^6)<=z/\z<=10^6)->(-(10^30)<=w/\w<=10^30)->Bd 8000 (z*t+w):=fun{z w} l n=>by
  have e1:Bd 164 (z*t):=(c l).mul j
  have e2:Bd 164 w:=by show w.natAbs<2^164;omega
  exact(e1.add e2).mono ⋯
 have a:b≠0:=by have:=S.b0;omega
 refine⟨_,rfl,_,rfl,rfl,_,_,rfl,_,_,rfl,_,_,rfl,_,_,rfl,rfl,?_⟩;refine⟨_,rfl,_,rfl,_,rfl,bA (c e),_,rfl,_,rfl,p*t+x,b,rfl,rfl,a,big e ⟨S.x0,S.x1⟩,i,?_⟩;refine⟨_,rfl,_,rfl,_,rfl,bA (c g),_,rfl,_,rfl,q*t+y,b,rfl,rfl,a,big g ⟨S.y0,S.y1⟩,i,Mm rfl,?_⟩;rw[Ma.xE,Ma.xE];exact NA k
theorem qD:Mk ["_law_scale_here","_law_shuts"] ["_law_scale_here","_law_shuts"] (ay mj):=by walk_at "sc"
inductive Od(s v:D)(M:MH)(Q:DK):Prop
 |mk (t b x y:Int) (l:Addr) (ws:List (Int×Int×Int×Int)) (_:s=Ro t b x y) (_:v=.ref l) (_:M l=MA (.lst (ws.map uw))) (_:Nh t b x y) (_:ws.length<=1000) (_:(∀w∈ws,X0 (10^6) w)) (_:Q (.tup (ws.map (Ms t b x y))) M)
theorem tS(T:Tx K mg):Cal P w K mg base 3 "_law_made" (NU Od):=by
 refine bQ (k:=2) T.f_law_made qD fun f cdv A outer s H E n=>⟨_,(aw (aF (c8 ye rfl T.b_tuple yP (ae (mv (Ml.of (xs:=["_law_first","_law_second"]) (js:=[0]) rfl) rfl (aV (dv 1)) (fun _ _ _ _=>cJ) (fun _ _ _ _=>(aJ (ae (av (lT T).m n (ae (dv 2) (ae (dv 0) ak))) (ae (av (lT T).m n (ae (dv 2) (ae (dv 1) ak))) ak))))) ak)))),fun _ _ M Q h=>?_⟩;obtain⟨t,b,x,y,l,ws,rfl,rfl,g,S,C,o,k⟩:=h;refine⟨_,rfl,ws.map uw,g,comp_map (fun i=>((ws.map (Ms t b x y))[i]?).getD .non) (by simp;omega) (fun p D j=>?_) ?_ (fun p j=>⟨_,ag,?_⟩)⟩
 ·show(aA M p _) l=_;rw[au (az g j)];exact g
 ·intro i e q F a _;have a:(ws.map uw)[i]?=MA e:=a;rw[IW]at a;cases d:ws[i]? with
  |none=>rw[d]at a;cases a
  |some w=>
   rw[d]at a
   cases a
   obtain⟨r,u,v,z⟩:=o w (IZ d)
   refine⟨_,⟨_,rfl,rfl,rfl⟩,fun K B=>?_⟩
   have c:=B q .refl
   rw[getD_map d]at c
   refine⟨_,rfl,_,rfl,t,b,x,y,w.1,w.2.1,rfl,rfl,S,r,u,?_⟩
   exact⟨_,rfl,_,rfl,t,b,x,y,w.2.2.1,w.2.2.2,rfl,rfl,S,v,z,Mm rfl,c⟩
 ·refine⟨_,.new j .refl,?_⟩
  have e:(J5 (ws.map uw).length).map (fun i=>((ws.map (Ms t b x y))[i]?).getD .non)=ws.map (Ms t b x y):=by
   have:=SD.range_getD (ws.map (Ms t b x y))
   rw[IU]at this ⊢
   exact this
  dsimp only;rw[e];exact k
theorem pO:Mk ["_law_shuts","_law_face"] ["_law_shuts","_law_face"] (ay ml):=by walk_at "sc"
inductive Of(u v:D)(M:MH)(Q:DK):Prop
 |mk (l:Addr) (ws:List Wl) (f:Nat) (_:u=.ref l) (_:v=.int (f:Int)) (_:M l=MA (.lst (ws.map uw))) (_:f<2*ws.length) (_:ws.length<=1000) (_:Q (uw (fw ws f)) M)
theorem dA(T:Tx K mg):Cal P w K mg base 1 "_law_ends" (NU Of):=by
 refine bQ (k:=0) T.f_law_ends pO fun f cdv A outer s H E j=>⟨_,(aw (aF (aC (bz (ae (aC (dv 0) (aB eV (dv 1) ao)) (ae (D1 (aC (dv 0) (aB eV (dv 1) ao)) (j0 fh ao)) ak))) (aB fm (dv 1) ao)))),fun _ _ M Q h=>?_⟩;obtain⟨l,ws,f,rfl,rfl,a,hf,b,k⟩:=h;obtain⟨m,c,n⟩:=br (ws:=ws) (k:=((f/2:Nat):Int)) () ();have d:(f:Int).fdiv 2=((f/2:Nat):Int):=by rw[JQ _ ⋯];omega
 have e:(f:Int).fmod 2=((f%2:Nat):Int):=by rw[KR _ ⋯];omega
 refine⟨_,rfl,_,rfl,⟨⋯,bP ⋯⟩,_,_,a,(by rw[d];exact c),?_⟩;refine⟨_,rfl,_,rfl,⟨⋯,bP ⋯⟩,_,_,a,(by rw[d];exact c),?_⟩;refine⟨_,rfl,rfl,_,_,rfl,?_⟩;refine⟨Mm rfl,fun p g=>?_⟩;refine⟨_,rfl,(show(2:Int)≠0 by decide),_,_,ag,?_,⟨M,.new g .refl,k⟩⟩;rw[e];refine bY ?_;unfold fw;by_cases h:f%2=0
 ·rw[h,MF rfl];rfl
 ·have i:f%2=1:=()
  rw[i,ME ⋯];rfl
theorem fu:Mk ["_law_back","_law_one","_law_other","_law_spot_here","_law_quarters"] ["_law_back","_law_one","_law_other"] (ay ja):=by walk_at "sc"
inductive OA(u v s:D)(M:MH)(Q:DK):Prop
 |mk (c b x y:Vc) (_:u=.tup [.tup [.int c.1,.int c.2],.tup [.int b.1,.int b.2]]) (_:v=.tup [.int x.1,.int x.2]) (_:s=.tup [.int y.1,.int y.2]) (_:Bd 6 c.1) (_:Bd 6 c.2) (_:Bd 6 b.1) (_:Bd 6 b.2) (_:Bd 6 x.1) (_:Bd 6 x.2) (_:Bd 6 y.1) (_:Bd 6 y.2) (_:Q (.bl (OI (b.1-c.1,b.2-c.2) (x.1-c.1,x.2-c.2) (y.1-c.1,y.2-c.2))) M)
theorem oR(T:Tx K mg):Cal P w K mg base 2 "_law_sooner" (Qg OA):=by
 refine md (k:=1) T.f_law_sooner fu fun f cdv A outer s H E i=>⟨_,(aq (aD 3 fu.nd (aC (dv 0) ao)) (aq (dm 4 fu.nd (Ml.of (xs:=["_law_way"]) (js:=[3,0]) rfl) rfl (aV (aJ (ae (dv 1) (ae (dv 2) ak)))) (fun _ _ _ _=>cJ) (fun _ _ _ _=>(aB aO ao (av (dr T).m i (ae (dv 1) (ae (aC (dv 2) ao) (ae (dv 0) ak))))))) (aq (bF (aM (eP i.units) (aC (dv 4) ao) (aC (dv 4) ao)) (aw (aF (cg (dP i.units) (aC (dv 4) ao) (aC (dv 4) ao)))) aR) (aw (aF (cg (dP i.units) (av (dr T).m i (ae (dv 3) (ae (dv 1) (ae (dv 2) ak)))) ao)))))),fun _ _ _ M Q h=>?_⟩;obtain⟨c,b,x,y,rfl,rfl,rfl,o,r,b1,t,x1,B,y1,G,k⟩:=h;have a:∀{z:Int},Bd 6 z->Bd 10 z:=fun h=>h.mono ⋯;unfold OI at k;refine⟨_,rfl,_,rfl,?_⟩;refine⟨_,rfl,_,rfl,Mm rfl,[.tup [.int x.1,.int x.2],.tup [.int y.1,.int y.2]],rfl,comp_map (fun j=>if j=0 then .int (1+Ji (vc (b.1-c.1,b.2-c.2) (x.1-c.1,x.2-c.2)))else .int (1+Ji (vc (b.1-c.1,b.2-c.2) (y.1-c.1,y.2-c.2)))) (Mm rfl) (fun _ _ _=>rfl) ?_ (fun p u=>?_)⟩
 ·intro j C I v d _;have v:j<2:=v;have d:[D.tup [.int x.1,.int x.2],.tup [.int y.1,.int y.2]][j]?=MA C:=d;rcases(():j=0\/j=1)with rfl|rfl
  ·cases d;exact⟨_,rfl,fun F g=>⟨_,rfl,_,rfl,_,rfl,_,rfl,c.1,c.2,b.1,b.2,_,_,rfl,rfl,rfl,a o,a r,a b1,a t,g _ .refl⟩⟩
  ·cases d;exact⟨_,rfl,fun F g=>⟨_,rfl,_,rfl,_,rfl,_,rfl,c.1,c.2,b.1,b.2,_,_,rfl,rfl,rfl,a o,a r,a b1,a t,g _ .refl⟩⟩
 generalize vc (b.1-c.1,b.2-c.2) (x.1-c.1,x.2-c.2)=l at k ⊢;generalize vc (b.1-c.1,b.2-c.2) (y.1-c.1,y.2-c.2)=n at k ⊢;refine⟨_,rfl,_,_,ag,rfl,_,rfl,_,_,ag,rfl,?_⟩;refine⟨_,rfl,?_⟩;refine bO (fun h=>?_) (fun h=>?_)
 ·have ne:¬l.sign=n.sign:=fun z=>by rw[z]at h;simp at h
  rw[ME ne]at k;have e:decide (l.sign<n.sign)=decide (1+l.sign<1+n.sign):=by rw[MK];omega
  rw[e]at k;exact⟨_,rfl,_,_,ag,rfl,_,rfl,_,_,ag,rfl,trivial,⟨M,.new u .refl,k⟩⟩
 ·have eq:l.sign=n.sign:=by simp at h;omega
  rw[MF eq]at k;have e:decide (vc (x.1-c.1,x.2-c.2) (y.1-c.1,y.2-c.2)<0)=decide (Ji (NH (x.1-c.1) (x.2-c.2) (y.1-c.1) (y.2-c.2))<0):=by unfold vc;rw[MK];rcases gb (NH (x.1-c.1) (x.2-c.2) (y.1-c.1) (y.2-c.2))with q|q|q<;>dsimp only<;>omega
  rw[e]at k;exact⟨_,rfl,_,rfl,_,rfl,c.1,c.2,x.1,x.2,y.1,y.2,rfl,rfl,rfl,a o,a r,a x1,a B,trivial,⟨M,.new u .refl,k⟩⟩
theorem bj:Mk ["_law_shuts","_law_face","_law_start","_law_spot_here","_law_found","_law_some","_law_best","_law_one","_law_way"] ["_law_shuts","_law_face"] (ay iP):=by walk_at "sc"
def HY(ws:List Wl)(o:Option Nat):D:=match o with
 |none=>.non
 |some h=>.tup [.int (fb ws h).1,.int (fb ws h).2]
theorem Bf(ws:List Wl)(f:Nat):(J5 (2*ws.length)).filterMap (fun j=>if jd ws f j=MC then MA (D.int (j:Int))else MB)=(cV ws f).map fun j:Nat=>D.int (j:Int):=gS _ _ _
theorem qp(R:Nat->Nat->Bool):∀(l:List Nat) (o:Option Nat) {h:Nat},l.foldl (bW R) o=MA h->h∈l\/o=MA h
 |[],o,h,e=>.inr e
 |g::l,o,h,e=>by
  rw[Lh]at e
  rcases qp R l _ e with z|z
  ·exact .inl (by simp[z])
  ·cases o with
   |none=>cases z;exact .inl (by simp)
   |some k=>
    unfold bW at z
    dsimp only at z
    by_cases r:R g k=MC
    ·rw[MF r]at z;cases z;exact .inl (by simp)
    ·rw[ME r]at z;exact .inr z
inductive OC(u v:D)(M:MH)(Q:DK):Prop
 |mk (l:Addr) (ws:List Wl) (f:Nat) (_:u=.ref l) (_:v=.int (f:Int)) (_:M l=MA (.lst (ws.map uw))) (_:f<2*ws.length) (_:ws.length<=40) (_:(∀w∈ws,Mn w)) (_:Q (.int (bh ws f:Int)) M)
theorem iZ(T:Tx K mg):Cal P w K mg base 3 "_law_behind" (NU OC):=by
 refine bQ (k:=2) T.f_law_behind bj fun f cdv A outer s H E u=>⟨_,(aq (cI (av (dA T).m u (ae (dv 0) (ae (dv 1) ak))) (bZ rfl (aG (aE 2 bj.nd) (aG (aE 3 bj.nd) bG)))) (aq (aD 4 bj.nd (aB dC (aB aO (dv 1) ao) (aB aS ao (aB fm (dv 1) ao)))) (aq (dm 5 bj.nd (Ml.of (xs:=["_law_one"]) (js:=[0,3,4]) rfl) rfl (wA rfl T.b_range (ae (aB aS ao (aN cR rfl T.b_len cT (ae (dv 0) ak))) ak)) (fun _ _ _ _=>(kL (lN (gH (aM (cU u.units) (aC (av (dA T).m u (ae (dv 1) (ae (dv 0) ak))) ao) (dv 2)) (fg (aM (eP u.units) (dv 0) (dv 3))))))) (fun _ _ _ _=>(dv 0))) (aq (aD 6 bj.nd mK) (aq (b6 Je rfl (aV (dv 5)) (aE 7 bj.nd) (aq (aD 8 bj.nd (aC (av (dA T).m u (ae (dv 0) (ae (dv 7) ak))) ao)) (aw (bF (lN (tW (aM BS (dv 6) mK) (tH (dM (av (oR T).m u (ae (aJ (ae (dv 3) (ae (dv 2) ak))) (ae (dv 8) (ae (dv 6) ak)))))))) (aq (aD 6 bj.nd (dv 8)) (aw (aD 4 bj.nd (dv 7)))) aR)))) (aw (aF (dv 4)))))))),fun _ _ M Q h=>?_⟩;obtain⟨l,ws,f,rfl,rfl,x,hf,Y,hU,k⟩:=h;have em:(f:Int).fmod 2=((f%2:Nat):Int):=by rw[KR _ ⋯];omega
 have L:(f:Int)+1-2*(f:Int).fmod 2=((fx f:Nat):Int):=by rw[em];unfold fx;split<;>omega
 have hn:(ws.map uw).length=ws.length:=by simp
 refine⟨_,rfl,_,rfl,l,ws,f,rfl,rfl,x,hf,(),?_⟩;refine⟨_,rfl,rfl,_,_,rfl,_,_,rfl,rfl,?_⟩;refine⟨_,rfl,_,rfl,(show(2:Int)≠0 by decide),bA (bP ⋯),trivial,?_⟩;dsimp only;rw[L];refine⟨_,rfl,_,x,bA (bP ⋯),2*ws.length,(by rw[hn];simp),(),?_⟩;have a0:∀j:Nat,fa ws j=((fw ws j).1,(fw ws j).2.1):=fun _=>rfl;refine kI (fun j=>if jd ws f j=MC then MA (D.int (j:Int))else MB) (by show 2*ws.length<=1000000;omega) (fun _ _ _=>trivial) ?_ (fun F y=>?_)
 ·intro a d Z N hd sb;have N:a<2*ws.length:=N;cases hd;have O:Z l=MA (.lst (ws.map uw)):=sb _ _ x;refine⟨_,rfl,fun K p=>?_,fun v G K p=>?_⟩
  ·have B:K (jd ws f a) Z:=by cases z:jd ws f a<;>rw[z]at p<;>exact p
   unfold jd at B;refine vC (decide (fa ws a=fb ws f)) (decide (a≠fx f)) (fun K' r=>⟨_,rfl,_,rfl,l,ws,a,rfl,rfl,O,N,(),?_⟩) (fun _ K' r=>?_) B
   ·have e:Jt (.tuple [.int (fw ws a).1,.int (fw ws a).2.1]) (.tuple [.int (fw ws f).2.2.1,.int (fw ws f).2.2.2])=decide (fa ws a=fb ws f):=by unfold fa fb;simp only[Jt,JN,L9];rw[K5];simp[Prod.mk.injEq]
    refine⟨_,rfl,_,rfl,_,_,Pd.of rfl,Pd.of rfl,rfl,rfl,_,rfl,?_⟩;rw[e];exact r
   ·have e:(!decide ((a:Int)=((fx f:Nat):Int)))=decide (a≠fx f):=by rw[<-decide_not,MK];omega
    rw[<-e]at r;exact⟨_,rfl,_,rfl,_,rfl,r⟩
  ·cases z:jd ws f a with
   |false=>rw[z]at G;cases G
   |true=>
    rw[z]at G
    cases G
    exact⟨_,rfl,p _ .refl⟩
 dsimp only;rw[Bf];have R:l≠F:=az x y;have S:(aA M F (.lst ((cV ws f).map fun j:Nat=>D.int (j:Int)))) l=MA (.lst (ws.map uw)):=by rw[au R];exact x
 have n:∀g:Nat,g<2*ws.length->(Bd 6 (fa ws g).1/\Bd 6 (fa ws g).2)/\(Bd 6 (fb ws g).1/\Bd 6 (fb ws g).2):=fun g C=>by
  obtain⟨_,_,w3⟩:=br (ws:=ws) (k:=((g/2:Nat):Int)) () ()
  have W:=hU _ w3
  unfold fa fb fw
  by_cases h:g%2=0
  ·rw[MF h];exact⟨⟨qf W.a,qf W.b⟩,qf W.c,qf W.d⟩
  ·rw[ME h];exact⟨⟨qf W.c,qf W.d⟩,qf W.a,qf W.b⟩
 refine⟨_,rfl,(cV ws f).map fun j:Nat=>D.int (j:Int),ag,?_⟩;refine⟨fun i δ I=>I=aA M F (.lst ((cV ws f).map fun j:Nat=>D.int (j:Int)))/\∃U V,δ=[MA (.ref l),MA (.int (f:Int)),MA (.tup [.int (fw ws f).1,.int (fw ws f).2.1]),MA (.tup [.int (fw ws f).2.2.1,.int (fw ws f).2.2.2]),MA (.int (((((cV ws f).take i).foldl (bW (NT ws f)) MB).getD (fx f):Nat):Int)),MA (.ref F),MA (HY ws (((cV ws f).take i).foldl (bW (NT ws f)) MB)),U,V],⟨rfl,_,_,rfl⟩,fun i δ I _ z=>by obtain⟨rfl,_⟩:=z;exact ag,?_,?_⟩
 ·rintro i d δ I hi hd ⟨rfl,U,V,rfl⟩;have hd:((cV ws f).map fun j:Nat=>D.int (j:Int))[i]?=MA d:=hd;rw[IW]at hd;cases J:(cV ws f)[i]? with
  |none=>rw[J]at hd;cases hd
  |some g=>
   rw[J]at hd
   cases hd
   have C:=bD.mp (IZ J)
   have nx:((cV ws f).take (i+1)).foldl (bW (NT ws f)) MB=bW (NT ws f) (((cV ws f).take i).foldl (bW (NT ws f)) MB) g:=by rw[K9,J,List.foldl_append];rfl
   have t:∀h,((cV ws f).take i).foldl (bW (NT ws f)) MB=MA h->h∈cV ws f:=fun h e=>by
    rcases qp _ _ _ e with z|z
    ·exact List.mem_of_mem_take z
    ·cases z
   generalize ((cV ws f).take i).foldl (bW (NT ws f)) MB=o at t nx ⊢
   refine⟨_,rfl,_,rfl,l,ws,g,rfl,rfl,S,C.1,(),_,rfl,?_⟩
   cases o with
   |none=>
    (try dsimp only[SD.gN,SD.ez,SD.aU,SD.g9,SD.ic,SD.dN,SD.fq,SD.tBD,SD.g8,SD.EndsD.nxt,SD.EndsD.lp])
    refine VM MC MC (fun K p=>⟨_,rfl,MC,rfl,_,rfl,p⟩) (fun z=>absurd z ⋯) ?_
    refine yk rfl ⟨_,rfl,_,rfl,rfl,MA (.int (g:Int)),MA (.tup [.int (fw ws g).2.2.1,.int (fw ws g).2.2.2]),?_⟩
    rw[nx]
    rfl
   |some h=>
    have X:=bD.mp (t h rfl)
    have d1:fd ws (fx f)=((fa ws f).1-(fb ws f).1,(fa ws f).2-(fb ws f).2):=by unfold fd fa fb;rw[ur];rfl
    have d2:∀g,fa ws g=fb ws f->fd ws g=((fb ws g).1-(fb ws f).1,(fb ws g).2-(fb ws f).2):=fun g e=>by rw[<-e];rfl
    have es:NT ws f g h=OI ((fa ws f).1-(fb ws f).1,(fa ws f).2-(fb ws f).2) ((fb ws g).1-(fb ws f).1,(fb ws g).2-(fb ws f).2) ((fb ws h).1-(fb ws f).1,(fb ws h).2-(fb ws f).2):=by unfold NT;rw[d1,d2 g C.2.1,d2 h X.2.1]
    (try dsimp only[SD.gN,SD.ez,SD.aU,SD.g9,SD.ic,SD.dN,SD.fq,SD.tBD,SD.g8,SD.EndsD.nxt,SD.EndsD.lp])
    refine VM MD (NT ws f g h) (fun K p=>⟨_,rfl,MD,rfl,_,rfl,p⟩) (fun _ K p=>?_) ?_
    ·refine⟨_,rfl,_,rfl,Mm rfl,_,rfl,_,rfl,fb ws f,fa ws f,fb ws g,fb ws h,rfl,rfl,rfl,(n f hf).2.1,(n f hf).2.2,(n f hf).1.1,(n f hf).1.2,(n g C.1).2.1,(n g C.1).2.2,(n h X.1).2.1,(n h X.1).2.2,_,rfl,?_⟩;rw[<-es];exact p
    ·refine bO (fun q=>?_) (fun q=>?_)
     ·refine⟨_,rfl,_,rfl,rfl,MA (.int (g:Int)),MA (.tup [.int (fw ws g).2.2.1,.int (fw ws g).2.2.2]),?_⟩;rw[nx];have q:NT ws f g h=MC:=by simpa using q
      have e:bW (NT ws f) (MA h) g=MA g:=by unfold bW;simp[q]
      rw[e];rfl
     ·refine⟨rfl,MA (.int (g:Int)),MA (.tup [.int (fw ws g).2.2.1,.int (fw ws g).2.2.2]),?_⟩;rw[nx];have q:¬NT ws f g h=MC:=by simpa using q
      have e:bW (NT ws f) (MA h) g=MA h:=by unfold bW;simp[q]
      rw[e];rfl
 ·rintro δ I ⟨rfl,U,V,rfl⟩;have e:(cV ws f).take ((cV ws f).map fun j:Nat=>D.int (j:Int)).length=cV ws f:=K8 (by simp);dsimp only;rw[e];exact⟨_,rfl,⟨M,.new y .refl,k⟩⟩
theorem cO:Mk ["_law_shuts","_law_rings_here","_law_gone","_law_face","_law_ring"] ["_law_shuts"] (ay kf):=by walk_at "sc"
theorem qN(ws:List Wl)(f k:Nat):atI ((rn ws f k).map fun g:Nat=>D.int (g:Int)) (-1)=MA (.int ((NJ ws f k:Nat):Int)):=by
 unfold atI ixN;rw[ME ⋯,IU,fo,MF ()];have e:((-1:Int)+((k+1:Nat):Int)).toNat=k:=()
 rw[e];show((rn ws f k).map fun g:Nat=>D.int (g:Int))[k]?=_;rw[IW];unfold rn;rw[IW,List.getElem?_range ()];rfl
theorem yE(a:List (List Nat))(i:Nat):((a.flatten.map fun g:Nat=>(g:Int)).any fun z=>z==(i:Int))=decide (i∈a.flatten):=by
 rw[List.any_map,K5,List.any_eq_true,ML];constructor
 ·rintro⟨x,b,e⟩;have:(x:Int)=(i:Int):=by simpa using e
  have:x=i:=()
  subst this;exact b
 ·intro h;exact⟨i,h,by simp⟩
inductive OP(u:D)(M:MH)(Q:DK):Prop
 |mk (l:Addr) (ws:List Wl) (_:u=.ref l) (_:M l=MA (.lst (ws.map uw))) (_:ws.length<=40) (_:(∀w∈ws,Mn w)) (_:PF ws) (_:∀(M':MH) (lr:Addr) (ps:List Addr) (rs:List (List Nat)),SD.Sub M M'->M' lr=MA (.lst (ps.map D.ref))->OG ws (2*ws.length) rs->RL M' ps rs->(∀p∈ps,M p=MB)->Q (.ref lr) M')
theorem qm(T:Tx K mg):Cal P w K mg base 4 "_law_rings" (Oq OP):=by
 refine fj (k:=3) T.f_law_rings cO fun f cdv A outer s H E j=>⟨_,(aq (aD 1 cO.nd (bz ak)) (aq (aD 2 cO.nd (bz ak)) (aq (de Je rfl rfl T.b_range (ae (aB aS ao (aN cR rfl T.b_len cT (ae (dv 0) ak))) ak) (aE 3 cO.nd) (aw (bF (aM (iY (iB j)) (dv 3) (dv 2) (by with_unfolding_all rfl)) (aq (aD 4 cO.nd (bz (ae (dv 3) ak))) (aq (fI Je (aM (eP j.units) (av (iZ T).m j (ae (dv 0) (ae (aC (dv 4) (j0 fh ao)) ak))) (dv 3)) (aw (bS (bc (dv 4) (ae (av (iZ T).m j (ae (dv 0) (ae (aC (dv 4) (j0 fh ao)) ak))) ak))))) (aq (bS (bc (dv 1) (ae (dv 4) ak))) (aw (aD 2 cO.nd (aB aO (dv 2) (dv 4))))))) aR))) (aw (aF (dv 1)))))),fun _ M Q h=>?_⟩;obtain⟨l,ws,rfl,U,y,C,hF,k⟩:=h;have hn:(ws.map uw).length=ws.length:=by simp
 refine⟨Mm rfl,fun c t=>⟨Mm rfl,fun r u=>?_⟩⟩;have V:r≠c:=fun z=>by subst z;rw[ag]at u;cases u
 refine⟨_,rfl,_,(by rw[au (az (by rw[au (az U t)];exact U) u),au (az U t)];exact U),bA (bP ⋯),2*ws.length,(by rw[hn];simp),(),?_⟩;refine⟨fun i δ b=>∃(r:Addr) (ps:List Addr) (d:List (List Nat)) (o3 o4:Option D),δ=[MA (.ref l),MA (.ref c),MA (.ref r),o3,o4]/\r≠c/\SD.Sub M b/\b c=MA (.lst (ps.map D.ref))/\b r=MA (.lst ((d.flatten.map fun g:Nat=>(g:Int)).map D.int))/\ps.length<=i/\d.flatten.length<=i*80/\OG ws i d/\RL b ps d/\(∀p∈ps,p≠c/\M p=MB),?_,?_,?_⟩
 ·exact⟨r,[],[],_,_,rfl,V,.new u (.new t .refl),(by rw[au V.symm,ag];rfl),ag,IX _,K6 _,rfl,.nil,fun p F=>by cases F⟩
 ·rintro i δ b W ⟨r,ps,d,o3,o4,rfl,I,S,j,hg,b0,c0,R,v,n⟩;(try dsimp only[SD.aU])
  refine Qi fun B hB=>?_;refine⟨_,rfl,_,rfl,pg (i:Int) _ _ hg ⟨_,rfl,?_⟩⟩;rw[yE];refine bO (fun J=>?_) (fun J=>hB _ _ ⟨r,ps,d,_,_,rfl,I,S,j,hg,(),(),⟨d,R,.inl ⟨by simpa using J,rfl⟩⟩,v,n⟩);have d0:i∉d.flatten:=by simpa using J
  refine⟨_,rfl,Mm rfl,fun p F=>?_⟩;have X:∀{a o},b a=MA o->a≠p:=fun h=>az h F;have at':∀{a o ys},b a=MA o->(aA b p (.lst ys)) a=MA o:=fun h=>by rw[au (X h)];exact h
  have Y:=S _ _ U;refine⟨fun m δ Z=>∃k,δ=[MA (.ref l),MA (.ref c),MA (.ref r),MA (.int (i:Int)),MA (.ref p)]/\Z=aA b p (.lst ((rn ws i k).map fun g:Nat=>D.int (g:Int)))/\NR ws i k/\m=2*ws.length-k,⟨_,0,rfl,rfl,ue ws i,rfl⟩,?_⟩;rintro m δ Z ⟨k,rfl,rfl,nr,rfl⟩;have kb:=nD C hF W nr;refine⟨_,rfl,_,rfl,_,_,ag,qN ws i k,l,ws,NJ ws i k,rfl,rfl,at' Y,cy C hF W k,y,C,_,rfl,_,rfl,?_⟩;refine bO (fun h=>?_) (fun h=>?_)
  ·have ne:bh ws (NJ ws i k)≠i:=fun z=>by rw[z]at h;simp at h
   have a0:=uj C hF W nr ne;have e0:=nD C hF W a0;refine⟨_,rfl,p,_,rfl,ag,_,rfl,_,rfl,_,_,ag,qN ws i k,l,ws,NJ ws i k,rfl,rfl,at' Y,cy C hF W k,y,C,_,_,rfl,ag,(by rw[IU,fo];omega),?_⟩;exact⟨2*ws.length-(k+1),(),k+1,rfl,(by rw[bR,kH,Jg];rfl),a0,rfl⟩
  ·have eq:bh ws (NJ ws i k)=i:=by
    have:((bh ws (NJ ws i k):Nat):Int)=(i:Int):=by simpa using h
    omega
   have L:p≠c:=(X j).symm;refine⟨_,rfl,c,_,rfl,at' j,_,rfl,_,_,rfl,at' j,(by simp;omega),?_⟩;have sz:1000000<=J8:=Mm rfl;have N:∀{a o},b a=MA o->a≠c->(aA (aA b p (.lst ((rn ws i k).map fun g:Nat=>D.int (g:Int)))) c (.lst (ps.map D.ref++[.ref p]))) a=MA o:=fun h ne=>by rw[au ne];exact at' h
   refine⟨_,rfl,_,rfl,(d.flatten.map fun g:Nat=>(g:Int)).map D.int,(rn ws i k).map fun g:Nat=>D.int (g:Int),N hg I,(by rw[au L,ag]),(by rw[IU,IU,IU,fo];omega),fun q hq=>?_⟩;have nq:∀{a o},(aA (aA b p (.lst ((rn ws i k).map fun g:Nat=>D.int (g:Int)))) c (.lst (ps.map D.ref++[.ref p]))) a=MA o->a≠q:=fun h=>az h hq;have x:∀{a o G},(aA (aA b p (.lst ((rn ws i k).map fun g:Nat=>D.int (g:Int)))) c (.lst (ps.map D.ref++[.ref p]))) a=MA o->(aA (aA (aA b p (.lst ((rn ws i k).map fun g:Nat=>D.int (g:Int)))) c (.lst (ps.map D.ref++[.ref p]))) q G) a=MA o:=fun h=>by rw[au (nq h)];exact h
   refine hB _ _ ⟨q,ps++[p],d++[rn ws i k],_,_,rfl,(nq ag).symm,fun a o h=>x (N (S _ _ h) (fun z=>by subst z;rw[t]at h;cases h)),?_,?_,by simp;omega,?_,⟨d,R,.inr ⟨d0,_,⟨k,nr,eq,rfl⟩,rfl⟩⟩,?_,fun p' O=>?_⟩
   ·rw[Jg];exact x ag
   ·rw[ag,List.flatten_append,Jg,Jg];simp only[KQ,List.flatten_nil,JM,Ku];rfl
   ·rw[List.flatten_append,Kc];simp only[KQ,List.flatten_nil,JM,fo];omega
   ·exact(v.mono fun p' O o e=>x (N e (n p' O).1)).snoc (x (by rw[au L,ag]))
   ·rcases Jj.mp O with z|z
    ·exact n p' z
    ·have:p'=p:=by simpa using z
     subst this;refine⟨L,?_⟩;cases e:M p' with
     |none=>rfl
     |some o=>rw[S _ _ e]at F;cases F
 ·rintro δ b ⟨r,ps,d,o3,o4,rfl,I,S,j,hg,b0,c0,R,v,n⟩;exact⟨_,rfl,⟨b,.refl,k b c ps d S j R v fun p F=>(n p F).2⟩⟩
theorem jb:Mk ["_law_shuts","_law_ring","_law_ends_here"] ["_law_shuts","_law_ring"] (ay j5):=by walk_at "sc"
inductive ON(u v:D)(M:MH)(Q:DK):Prop
 |mk (l p:Addr) (ws:List Wl) (r:List Nat) (_:u=.ref l) (_:v=.ref p) (_:M l=MA (.lst (ws.map uw))) (_:M p=MA (.lst (r.map fun g:Nat=>D.int (g:Int)))) (_:(∀g∈r,g<2*ws.length)) (_:ws.length<=40) (_:r.length<=80) (_:(∀w∈ws,W8 w)) (_:Q (.int (r.map (NO ws)).sum) M)
theorem j3(T:Tx K mg):Cal P w K mg base 2 "_law_twice" (NU ON):=by
 refine bQ (k:=1) T.f_law_twice jb fun f cdv A outer s H E c=>⟨_,(aq (dm 2 jb.nd (Ml.of (xs:=["_law_face"]) (js:=[0]) rfl) rfl (aV (dv 1)) (fun _ _ _ _=>cJ) (fun _ _ _ _=>(av (dA T).m c (ae (dv 1) (ae (dv 0) ak))))) (aw (aF (aN (Dg rfl) rfl T.b_sum EA (ae (mv (Ml.of (xs:=["_law_one","_law_other"]) (js:=[]) rfl) rfl (aV (dv 2)) (fun _ _ _ _=>cJ) (fun _ _ _ _=>(aB dC (aB aS (aC (dv 0) ao) (aC (dv 1) ao)) (aB aS (aC (dv 1) ao) (aC (dv 0) ao))))) ak))))),fun _ _ M Q h=>?_⟩;obtain⟨l,p,ws,r,rfl,rfl,B,n,c,x,C,F,k⟩:=h;refine⟨_,rfl,_,n,comp_map (fun j=>uw (fw ws ((r[j]?).getD 0))) (by show(r.map fun g:Nat=>D.int (g:Int)).length<=1000000;simp;omega) (fun q G o=>by show(aA M q _) p=_;rw[au (az n o)];exact n) ?_ (fun I t=>?_)⟩
 ·intro j d J L hd y;have hd:(r.map fun g:Nat=>D.int (g:Int))[j]?=MA d:=hd;rw[IW]at hd;cases a:r[j]? with
  |none=>rw[a]at hd;cases hd
  |some g=>
   rw[a]at hd
   cases hd
   exact⟨_,rfl,fun K u=>⟨_,rfl,_,rfl,l,ws,g,rfl,rfl,y _ _ B,c g (IZ a),(),u _ .refl⟩⟩
 have e1:(J5 (r.map fun g:Nat=>D.int (g:Int)).length).map (fun j=>uw (fw ws ((r[j]?).getD 0)))=r.map fun g=>uw (fw ws g):=by
  rw[IU];apply List.ext_getElem
  ·simp
  ·intro i b N;simp at b;simp[b]
 dsimp only;rw[e1];refine⟨_,rfl,_,ag,comp_map (fun j=>D.int (NO ws ((r[j]?).getD 0))) (by show(r.map fun g=>uw (fw ws g)).length<=1000000;simp;omega) (fun q G o=>by show(aA _ q _) I=_;rw[au (az ag o)];exact ag) ?_ (fun pn v=>?_)⟩
 ·intro j d J L hd y;have hd:(r.map fun g=>uw (fw ws g))[j]?=MA d:=hd;rw[IW]at hd;cases a:r[j]? with
  |none=>rw[a]at hd;cases hd
  |some g=>
   rw[a]at hd
   cases hd
   have R:=c g (IZ a)
   obtain⟨_,_,O⟩:=br (ws:=ws) (k:=((g/2:Nat):Int)) () ()
   have W:=F _ O
   have e:∀{z:Int},(0<=z/\z<=80)->Bd 64 z:=fun{z} h=>by show z.natAbs<2^64;omega
   have b1:Bd 64 (fw ws g).1/\Bd 64 (fw ws g).2.2.1:=by
    unfold fw;by_cases h:g%2=0
    ·rw[MF h];exact⟨e W.1,e W.2.2.1⟩
    ·rw[ME h];exact⟨e W.2.2.1,e W.1⟩
   exact⟨_,⟨_,rfl,rfl,rfl⟩,fun K u=>⟨_,rfl,_,rfl,_,rfl,_,rfl,bA b1.1,_,rfl,_,rfl,_,rfl,_,rfl,bA b1.2,trivial,u _ .refl⟩⟩
 have e2:(J5 (r.map fun g=>uw (fw ws g)).length).map (fun j=>D.int (NO ws ((r[j]?).getD 0)))=(r.map (NO ws)).map D.int:=by
  rw[IU];apply List.ext_getElem
  ·simp
  ·intro i b N;simp at b;simp[b]
 dsimp only;rw[e2];exact⟨_,ag,⟨M,.new v (.new t .refl),k⟩⟩
theorem cP:Mk ["_law_shuts","_law_shut","_law_found","_law_at","_law_other","_law_common"] ["_law_shuts","_law_shut"] (ay j6):=by walk_at "sc"
inductive OS(u v:D)(M:MH)(Q:DK):Prop
 |mk (l:Addr) (ws:List Wl) (i:Nat) (_:u=.ref l) (_:v=.int (i:Int)) (_:M l=MA (.lst (ws.map uw))) (_:i<ws.length) (_:ws.length<=40) (_:∀(M':MH) (z:Addr) (gs:List Nat),SD.Sub M M'->M z=MB->M' z=MA (.lst (gs.map fun g:Nat=>D.int (g:Int)))->gs.Nodup->gs.length<=ws.length->(∀j,j∈gs↔Cn ws i j)->Q (.ref z) M')
theorem qx(T:Tx K mg):Cal P w K mg base 1 "_law_group" (NU OS):=by
 refine bQ (k:=0) T.f_law_group cP fun f cdv A outer s H E hr=>⟨_,(aq (aD 2 cP.nd (bz (ae (dv 1) ak))) (aq (aD 3 cP.nd ao) (aq (fI Je (aM (dP hr.units) (dv 3) (aN cR rfl T.b_len cT (ae (dv 2) ak))) (aq (de Je rfl rfl T.b_range (ae (aN cR rfl T.b_len cT (ae (dv 0) ak)) ak) (aE 4 cP.nd) (aq (dm 5 cP.nd (Ml.of (xs:=["_law_spot_here"]) (js:=[0,2,3]) rfl) rfl (aV (aC (dv 0) (dv 4))) (fun _ _ _ _=>(kL (aM (yU (iB hr)) (dv 0) (aC (dv 1) (aC (dv 2) (dv 3))) (by with_unfolding_all rfl)))) (fun _ _ _ _=>(dv 0))) (aw (bF (lN (gH (aM (iY (iB hr)) (dv 4) (dv 2) (by with_unfolding_all rfl)) (fg (aM (eP hr.units) (dv 5) (bz ak))))) (aw (bS (bc (dv 2) (ae (dv 4) ak)))) aR)))) (aw (aD 3 cP.nd (aB aO (dv 3) ao))))) (aw (aF (dv 2)))))),fun _ _ M Q h=>?_⟩;obtain⟨l,ws,i,rfl,rfl,hl,hi,hn,k⟩:=h;refine⟨_,rfl,Mm rfl,fun z hz=>?_⟩;have nz:∀a o,M a=MA o->a≠z:=fun a o h=>az h hz;have c0:∀fs:List Nat,fs.Nodup->(∀j∈fs,Cn ws i j)->fs.length<=ws.length:=fun fs nd h=>oE _ fs nd fun j hj=>(h j hj).lt hi;refine⟨fun m δ M'=>∃(fs:List Nat) (at':Nat) (I J:Option D),δ=[MA (.ref l),MA (.int (i:Int)),MA (.ref z),MA (.int (at':Int)),I,J]/\SD.Sub M M'/\M' z=MA (.lst (fs.map fun g:Nat=>D.int (g:Int)))/\fs.Nodup/\(∀j∈fs,Cn ws i j)/\i∈fs/\at'<=fs.length/\(∀a x,a<at'->fs[a]?=MA x->∀k,k<ws.length->R0 ws x k->k∈fs)/\m=ws.length-at',⟨_,[i],0,_,_,rfl,.new hz .refl,ag,(by simp),(fun j hj=>by rw[Jx.mp hj];exact .refl),Jx.mpr rfl,K6 _,(fun a x h=>absurd h (Nat.not_lt_zero _)),rfl⟩,?_⟩;rintro m δ M' ⟨fs,at',I,J,rfl,sb,V,nd,cn,im,al,done,rfl⟩;have fl:=c0 fs nd cn;refine⟨_,rfl,_,rfl,_,V,trivial,_,rfl,?_⟩;refine bO (fun h=>?_) (fun h=>?_)
 ·have lt:at'<fs.length:=by
   have:(at':Int)<(((fs.map fun g:Nat=>D.int (g:Int)).length:Nat):Int):=MJ h
   rw[IU]at this;omega
  obtain⟨x,ex⟩:∃x,fs[at']?=MA x:=⟨_,IS lt⟩;have xm:=IZ ex;have xl:=(cn x xm).lt hi;have lm:(ws.map uw).length=ws.length:=IU ..;refine⟨_,rfl,_,sb _ _ hl,ws.length,(by rw[lm]),(),fun j δ d0=>∃(p:List Nat) (I J:Option D),δ=[MA (.ref l),MA (.int (i:Int)),MA (.ref z),MA (.int (at':Int)),I,J]/\SD.Sub M d0/\d0 z=MA (.lst ((fs++p).map fun g:Nat=>D.int (g:Int)))/\(fs++p).Nodup/\(∀j∈fs++p,Cn ws i j)/\∀k,k<j->R0 ws x k->k∈fs++p,⟨[],_,_,rfl,sb,(by rw[JM];exact V),(by rw[JM];exact nd),(by rw[JM];exact cn),fun k h=>absurd h (Nat.not_lt_zero _)⟩,?_,?_⟩
  ·rintro j δ M1 hj ⟨p,I,J,rfl,L,r,u,C,N⟩;(try dsimp only[SD.aU])
   refine Qi fun B hB=>?_;have ew:∀{k:Nat},k<ws.length->ws[k]?=MA (wn ws k):=fun{k} O=>by obtain⟨w1,_,_⟩:=br (ws:=ws) (k:=(k:Int)) () ();rw[Kx]at w1;exact w1
   have W:=L _ _ hl;have cs:=A0 (wn ws j) (wn ws x);have af:atI ((fs++p).map fun g:Nat=>D.int (g:Int)) (at':Int)=MA (.int (x:Int)):=bY (by rw[IW,JD lt,ex];rfl);have ax:atI (ws.map uw) (x:Int)=MA (uw (wn ws x)):=bY (by rw[IW,ew xl];rfl);have aj:atI (ws.map uw) (j:Int)=MA (.tup [.tup [.int (wn ws j).1,.int (wn ws j).2.1],.tup [.int (wn ws j).2.2.1,.int (wn ws j).2.2.2]]):=bY (by rw[IW,ew hj];rfl);refine⟨_,rfl,_,rfl,_,_,W,aj,_,rfl,kI (OF (wn ws j) (wn ws x)) (Mm rfl) (fun _ _ _=>rfl) ?_ (fun Z e0=>?_)⟩
   ·intro a d U ha hd R;have ha:a<2:=ha;have T:∀(X Y:Int) (K:Bool->MH->Prop),K (OV (wn ws x) X Y) U->K ([PyData.tuple [.int (wn ws x).1,.int (wn ws x).2.1],.tuple [.int (wn ws x).2.2.1,.int (wn ws x).2.2.2]].any fun q=>Jt q (.tuple [.int X,.int Y])) U:=fun X Y K h=>by rw[Ad];exact h
    rcases(():a=0\/a=1)with rfl|rfl
    ·cases hd;refine⟨_,rfl,fun K S=>?_,fun v F K S=>?_⟩
     ·rw[cs.1]at S;exact⟨_,rfl,_,rfl,_,rfl,_,rfl,_,_,R _ _ r,af,_,_,R _ _ W,ax,_,_,Pd.of rfl,.inr (Pd.of rfl),rfl,rfl,_,rfl,T _ _ K S⟩
     ·have F:(if OV (wn ws x) (wn ws j).1 (wn ws j).2.1=MC then MA (D.tup [.int (wn ws j).1,.int (wn ws j).2.1])else MB)=MA v:=F;split at F
      ·cases F;exact⟨_,rfl,S _ .refl⟩
      ·cases F
    ·cases hd;refine⟨_,rfl,fun K S=>?_,fun v F K S=>?_⟩
     ·rw[cs.2]at S;exact⟨_,rfl,_,rfl,_,rfl,_,rfl,_,_,R _ _ r,af,_,_,R _ _ W,ax,_,_,Pd.of rfl,.inr (Pd.of rfl),rfl,rfl,_,rfl,T _ _ K S⟩
     ·have F:(if OV (wn ws x) (wn ws j).2.2.1 (wn ws j).2.2.2=MC then MA (D.tup [.int (wn ws j).2.2.1,.int (wn ws j).2.2.2])else MB)=MA v:=F;split at F
      ·cases F;exact⟨_,rfl,S _ .refl⟩
      ·cases F
   have G:(aA M1 Z (.lst ((J5 2).filterMap (OF (wn ws j) (wn ws x))))) z=MA (.lst ((fs++p).map fun g:Nat=>D.int (g:Int))):=by rw[au (az r e0)];exact r
   have a0:(aA M1 Z (.lst ((J5 2).filterMap (OF (wn ws j) (wn ws x))))) Z=MA (.lst ((J5 2).filterMap (OF (wn ws j) (wn ws x)))):=ag;have s2:SD.Sub M (aA M1 Z (.lst ((J5 2).filterMap (OF (wn ws j) (wn ws x))))):=SD.Sub.trans L (.new e0 .refl);show SD.aU 5 (D.ref Z) _ (aA M1 Z (.lst ((J5 2).filterMap (OF (wn ws j) (wn ws x))))) _;generalize aA M1 Z (.lst ((J5 2).filterMap (OF (wn ws j) (wn ws x))))=U at G a0 s2 ⊢;have sh:=C9 (ws:=ws) (i:=x) (j:=j);refine⟨_,rfl,_,rfl,pg (ns:=(fs++p).map fun g:Nat=>(g:Int)) (j:Int) _ _ (by rw[Ku];exact G) ⟨_,rfl,?_⟩⟩;rw[vp]
   have keep:∀M3,SD.Sub U M3->(R0 ws x j->j∈fs++p)->∀(I J:Option D),B.nx [MA (.ref l),MA (.int (i:Int)),MA (.ref z),MA (.int (at':Int)),I,J] M3:=fun M3 s3 h I J=>hB _ _ ⟨p,_,_,rfl,SD.Sub.trans s2 s3,s3 _ _ G,u,C,fun k O t=>by
    by_cases e:k=j
    ·subst e;exact h t
    ·exact N k () t⟩
   refine bO (fun h=>?_) (fun h=>jK rfl (keep _ .refl (fun _=>JB fun n=>h (by rw[MG n];rfl)) _ _));have nj:j∉fs++p:=by simpa using h
   refine⟨_,rfl,Mm rfl,fun e he=>F6 (by rw[au (az a0 he)];exact a0) ag ⟨_,rfl,?_⟩⟩;have b0:(aA U e (.lst [])) z=MA (.lst ((fs++p).map fun g:Nat=>D.int (g:Int))):=by rw[au (az G he)];exact G
   have s3:SD.Sub U (aA U e (.lst [])):=.new he .refl;generalize aA U e (.lst [])=M3 at b0 s3 ⊢;refine bO (fun y=>?_) (fun y=>keep _ s3 (fun t=>absurd (sh.mpr t) (by simpa using y)) _ _);have t:=sh.mp y;have cj:=Cn.step (cn x xm) hj t;have f0:(fs++p++[j]).Nodup:=by rw[LL];exact⟨u,by simp,fun a ha b hb e=>nj (by rw[Jx]at hb;rw[<-hb,<-e];exact ha)⟩
   have l1:=c0 _ u C;refine⟨_,rfl,z,_,rfl,b0,_,rfl,_,_,rfl,b0,by have:1000<=J8:=Mm rfl;rw[IU];omega,?_⟩;refine hB _ _ ⟨p++[j],_,_,rfl,(fun a o h=>by rw[au (nz a o h)];exact s3 _ _ (s2 _ _ h)),(by rw[ag,<-Kk,Jg (l₁:=fs++p)];rfl),(by rw[<-Kk];exact f0),(fun k O=>?_),fun k O t=>?_⟩
   ·rw[<-Kk]at O;rcases Jj.mp O with h|h
    ·exact C k h
    ·rw[Jx.mp h];exact cj
   ·rw[<-Kk];by_cases e:k=j
    ·rw[e];exact Jb _ (Jx.mpr rfl)
    ·exact Kn _ (N k () t)
  ·rintro δ M1 ⟨p,I,J,rfl,L,r,u,C,N⟩;refine⟨_,rfl,ws.length-(at'+1),(),fs++p,at'+1,_,_,rfl,L,r,u,C,Kn _ im,(by rw[Kc];omega),fun a y ha hy=>?_,rfl⟩;by_cases e:a=at'
   ·subst e;rw[JD lt,ex]at hy;cases hy;exact N
   ·rw[JD ()]at hy;exact fun k O t=>Kn _ (done a y () hy k O t)
 ·have e:at'=fs.length:=by
   have:¬(at':Int)<(((fs.map fun g:Nat=>D.int (g:Int)).length:Nat):Int):=fun y=>h (MI y)
   rw[IU]at this;omega
  refine⟨_,rfl,NA (k M' z fs sb hz V nd fl fun j=>⟨cn j,fun c=>?_⟩)⟩
  induction c with
  |refl=>exact im
  |step c O t ih=>
   obtain⟨a,ha,ea⟩:=Ld.mp ih
   exact done a _ () (by rw[IS ha,ea]) _ O t
theorem bJ:Mk ["_law_shuts","_law_ring","_law_spot_here","_law_many","_law_face","_law_one","_law_other","_law_low_here","_law_high"] ["_law_shuts","_law_ring","_law_spot_here"] (ay iV):=by walk_at "sc"
inductive OB(u v s:D)(M:MH)(Q:DK):Prop
 |mk (l p:Addr) (ws:List Wl) (r:List Nat) (m x y:Int) (_:u=.ref l) (_:v=.ref p) (_:s=.tup [.int x,.int y]) (_:M l=MA (.lst ((ws.map (Nf m)).map uw))) (_:M p=MA (.lst (r.map fun g:Nat=>D.int (g:Int)))) (_:(∀g∈r,g<2*ws.length)) (_:ws.length<=40) (_:r.length<=80) (_:(∀w∈ws,Mn w)) (_:(0<m/\m<=4)) (_:∀M',SD.Sub M M'->Q (.bl (decide (OW ws m x y r%2=1))) M')
theorem pI(T:Tx K mg):Cal P w K mg base 2 "_law_inside" (Qg OB):=by
 refine md (k:=1) T.f_law_inside bJ fun f cdv A outer s H E i=>⟨_,(aq (aD 3 bJ.nd ao) (aq (b6 Je rfl (aV (dv 1)) (aE 4 bJ.nd) (aq (cI (av (dA T).m i (ae (dv 0) (ae (dv 4) ak))) (bZ rfl (aG (aE 5 bJ.nd) (aG (aE 6 bJ.nd) bG)))) (aw (bF (aM (eP i.units) (cg (fU i.units) (aC (dv 5) ao) (aC (dv 2) ao)) (cg (fU i.units) (aC (dv 6) ao) (aC (dv 2) ao))) (aq (cI (aC (bz (ae (aJ (ae (dv 5) (ae (dv 6) ak))) (ae (aJ (ae (dv 6) (ae (dv 5) ak))) ak))) (c8 jC rfl T.b_int jP (ae (cg (fU i.units) (aC (dv 5) ao) (aC (dv 6) ao)) ak))) (bZ rfl (aG (aE 7 bJ.nd) (aG (aE 8 bJ.nd) bG)))) (aw (aD 3 bJ.nd (aB aO (dv 3) (c8 jC rfl T.b_int jP (ae (cg (fU i.units) (av (dr T).m i (ae (dv 7) (ae (dv 8) (ae (dv 2) ak)))) ao) ak)))))) aR)))) (aw (aF (cg (cU i.units) (aB fm (dv 3) ao) ao))))),fun _ _ _ M Q h=>?_⟩;obtain⟨l,p,ws,r,m,x,y,rfl,rfl,rfl,hl,S,i,hn,a0,hU,U,k⟩:=h;refine⟨_,rfl,_,S,fun j δ v=>SD.Sub M v/\∃(G I J L N:Option D),δ=[MA (.ref l),MA (.ref p),MA (.tup [.int x,.int y]),MA (.int (OW ws m x y (r.take j))),G,I,J,L,N],⟨.refl,_,_,_,_,_,rfl⟩,fun j δ v _ z=>z.1 _ _ S,?_,?_⟩
 ·rintro j d δ v hj hd ⟨B,G,I,J,L,N,rfl⟩;have hd:(r.map fun g:Nat=>D.int (g:Int))[j]?=MA d:=hd;rw[IW]at hd;cases F:r[j]? with
  |none=>rw[F]at hd;cases hd
  |some g=>
   rw[F]at hd
   cases hd
   have V:=i g (IZ F)
   have O:=F4 (m:=m) V
   have W:=HN (aL hU (():g/2<ws.length)) U
   have t:W8 (fw (ws.map (Nf m)) g):=by
    rcases O with e|e<;>rw[e]
    ·exact W
    ·exact⟨W.2.2.1,W.2.2.2,W.1,W.2.1⟩
   clear W
   have ct:OW ws m x y (r.take (j+1))=OW ws m x y (r.take j)+Nk (wn ws (g/2)) m x y:=by unfold OW;rw[K9,F,Jg,List.sum_append];simp
   refine⟨_,rfl,_,rfl,l,ws.map (Nf m),g,rfl,rfl,B _ _ hl,(by rw[IU];exact V),(by rw[IU];omega),?_⟩
   have R:=tM ws m x y (r.take j)
   rw[ct]
   generalize fw (ws.map (Nf m)) g=W at O t ⊢
   obtain⟨a,b,c,d⟩:=W
   obtain⟨X,Y⟩:=Ak (p:=x) (q:=y) U.1 O
   generalize Nk (wn ws (g/2)) m x y=n at X Y ⊢
   generalize OW ws m x y (r.take j)=cj at R ⊢
   refine⟨_,rfl,rfl,_,_,rfl,_,_,rfl,rfl,?_⟩
   refine⟨_,rfl,_,rfl,_,rfl,_,rfl,trivial,_,rfl,_,rfl,_,rfl,_,rfl,trivial,_,rfl,?_⟩
   refine bO (fun h=>?_) (fun h=>?_)
   ·have h:decide (y<b)≠decide (y<d):=by simpa using h
    obtain⟨f3,f4⟩:=Y h;have u:∀{z:Int},(0<=z/\z<=80)->Bd 10 z:=fun{z} h=>by show z.natAbs<2^10;omega
    refine⟨_,rfl,_,rfl,Mm rfl,_,rfl,_,rfl,Mm rfl,Mm rfl,fun z hz=>?_⟩;have C:=SD.Sub.trans B (.new (o:=.lst [.tup [.tup [.int a,.int b],.tup [.int c,.int d]],.tup [.tup [.int c,.int d],.tup [.int a,.int b]]]) hz .refl);refine⟨_,rfl,_,rfl,_,rfl,_,rfl,trivial,?_⟩;by_cases g:d<b
    ·rw[f3 g,uP];refine⟨_,.tup [.tup [.int c,.int d],.tup [.int a,.int b]],ag,(by rw[MF (show decide (d<b)=MC from MI g)];rfl),?_⟩;refine⟨_,rfl,rfl,_,_,rfl,_,_,rfl,rfl,?_⟩;refine⟨_,rfl,_,rfl,_,rfl,_,rfl,c,d,a,b,x,y,rfl,rfl,rfl,u t.2.2.1,u t.2.2.2,u t.1,u t.2.1,trivial,?_⟩;exact⟨C,_,_,_,_,_,rfl⟩
    ·rw[f4 g,uP];refine⟨_,.tup [.tup [.int a,.int b],.tup [.int c,.int d]],ag,(by rw[ME (show ¬decide (d<b)=MC from fun z=>g (MJ z))];rfl),?_⟩;refine⟨_,rfl,rfl,_,_,rfl,_,_,rfl,rfl,?_⟩;refine⟨_,rfl,_,rfl,_,rfl,_,rfl,a,b,c,d,x,y,rfl,rfl,rfl,u t.1,u t.2.1,u t.2.2.1,u t.2.2.2,trivial,?_⟩;exact⟨C,_,_,_,_,_,rfl⟩
   ·have h:decide (y<b)=decide (y<d):=by simpa using h
    have n0:=X h;subst n0;rw[Int.add_zero];exact⟨B,_,_,_,_,_,rfl⟩
 ·rintro δ v ⟨B,G,I,J,L,N,rfl⟩;have e:OW ws m x y (r.take (r.map fun g:Nat=>D.int (g:Int)).length)=OW ws m x y r:=by rw[IU,L5]
  have R:=tM ws m x y r;have Z:=k v B;dsimp only;rw[e];generalize OW ws m x y r=n at R Z;refine⟨_,rfl,(by show(2:Int)≠0;decide),NA ?_⟩;rw[KR _ ⋯];exact Z
theorem aT:Mk ["_law_shuts","_law_rings_here","_law_outers","_law_found","_law_ring","_law_land","_law_group_here","_law_some","_law_spot_here","_law_areas","_law_number","_law_outer","_law_face"] ["_law_shuts"] (ay jV):=by walk_at "sc"
inductive OR(u:D)(M:MH)(Q:DK):Prop
 |mk (l:Addr) (ws:List Wl) (_:u=.ref l) (_:M l=MA (.lst (ws.map uw))) (_:ws.length<=40) (_:(∀w∈ws,Mn w)) (_:PF ws) (_:∀(M':MH) (z lo:Addr) (qs:List Addr) (rs:List (List Nat)) (L:List Int),SD.Sub M M'->M z=MB->M' z=MA (.lst (L.map D.int))->L.length=2*ws.length->(∀L',dF ws L'->L'=L)->M' lo=MA (.lst (qs.map D.ref))->OG ws (2*ws.length) rs->RL M' qs (rs.filter (aK ws))->Q (.tup [.ref z,.ref lo]) M')
theorem qM(T:Tx K mg):Cal P w K mg base 5 "_law_lands" (Oq OR):=by
 refine fj (k:=4) T.f_law_lands aT fun f cdv A outer s H E n=>⟨_,(aq (aD 1 aT.nd (av (qm T).m n (ae (dv 0) ak))) (aq (dm 2 aT.nd (Ml.of (xs:=["_law_ring"]) (js:=[0]) rfl) rfl (aV (dv 1)) (fun _ _ _ _=>(kL (aM (fU n.units) (av (j3 T).m n (ae (dv 1) (ae (dv 0) ak))) ao))) (fun _ _ _ _=>(dv 0))) (aq (aD 3 aT.nd (aB uR (bz (ae mK ak)) (aB aS ao (aN cR rfl T.b_len cT (ae (dv 0) ak))))) (aq (b6 Je rfl (aV (dv 1)) (aE 4 aT.nd) (aq (aD 5 aT.nd ao) (aq (bF (aM (yU (iB n)) (dv 4) (dv 2) (by with_unfolding_all rfl)) (aw (aD 5 aT.nd (aB aO (sJ (iB n) (dv 2) (ae (dv 4) ak)) ao))) (aq (aD 6 aT.nd (av (qx T).m n (ae (dv 0) (ae (aB eV (aC (dv 4) ao) ao) ak)))) (aq (aD 7 aT.nd (aC (bz (ae (bz ak) (ae (dv 2) ak))) (c8 jC rfl T.b_int jP (ae (cg (dP n.units) (aN cR rfl T.b_len cT (ae (dv 6) ak)) (aN cR rfl T.b_len cT (ae (dv 0) ak))) ak)))) (aq (aD 8 aT.nd (aN (iX rfl n.units) rfl T.b_min k8 (ae (iO (Ml.of (xs:=["_law_face"]) (js:=[0]) rfl) rfl (aV (dv 4)) (fun _ _ _ _=>cJ) (fun _ _ _ _=>(aC (av (dA T).m n (ae (dv 1) (ae (dv 0) ak))) ao))) ak))) (aq (aD 9 aT.nd (bz (ae (aJ (ae (aB iC ao ao) (ae ao ak))) ak))) (aq (b6 Je rfl (Ab rfl T.b_enumerate (ae (dv 7) ak)) (bZ rfl (aG (aE 10 aT.nd) (aG (aE 11 aT.nd) bG))) (aw (bF (lN (gH (aM (iY (iB n)) (aB eV (aC (dv 11) ao) ao) (dv 6) (by with_unfolding_all rfl)) (fg (dM (av (pI T).m n (ae (dv 0) (ae (dv 11) (ae (dv 8) ak)))))))) (aw (bS (bc (dv 9) (ae (aJ (ae (av (j3 T).m n (ae (dv 0) (ae (dv 11) ak))) (ae (aB aO (dv 10) ao) ak))) ak)))) aR))) (aw (aD 5 aT.nd (aC (aN (iX rfl n.units) rfl T.b_min k8 (ae (dv 9) ak)) ao))))))))) (aw (b6 Je rfl (aV (dv 4)) (aE 12 aT.nd) (aw (cI (dv 5) (mE (dv 3) (dv 12))))))))) (aw (aF (aJ (ae (dv 3) (ae (dv 2) ak))))))))),fun _ M Q h=>?_⟩;obtain⟨l,ws,rfl,hl,hn,hU,hF,k⟩:=h
 have h8:∀w∈ws,W8 w:=fun w hw=>by
  have h:=hU w hw
  have U:∀z:Int,(0<=z/\z<=20)->(0<=z/\z<=80):=fun z h=>()
  exact⟨U _ h.a,U _ h.b,U _ h.c,U _ h.d⟩
 refine⟨_,rfl,l,ws,rfl,hl,hn,hU,hF,fun M4 lr ps u i1 e0 G RR fr=>?_⟩;have t0:=i1 _ _ hl;have Y:=i9 hU hF (IX _) G;have pl:=RR.len;have rl:=kD G;refine⟨_,rfl,_,e0,kI (fun j=>if aK ws ((u[j]?).getD [])=MC then MA (D.ref ((ps[j]?).getD 0))else MB) (by show(ps.map D.ref).length<=1000000;rw[IU];omega) (fun p ys hp=>by show(aA _ p _) lr=_;rw[au (az e0 hp)];exact e0) ?_ (fun x j1=>?_)⟩
 ·intro j d M6 R hd O;have hd:(ps.map D.ref)[j]?=MA d:=hd;have R:j<ps.length:=by have:j<(ps.map D.ref).length:=R;rw[IU]at this;exact this
  obtain⟨r,er,mr⟩:=RR.get R;rw[IW,IS R]at hd;cases hd;have A:=Y r (IZ er);refine⟨_,rfl,fun K hK=>?_,fun v hv K hK=>?_⟩
  ·refine⟨_,rfl,_,rfl,l,ps[j],ws,r,rfl,rfl,O _ _ t0,O _ _ mr,A.lt,hn,by have:=A.len;omega,h8,trivial,_,rfl,?_⟩;have e:(if aK ws ((u[j]?).getD [])=MC then MA (D.ref ((ps[j]?).getD 0))else MB).isSome=aK ws r:=by rw[er];show(if aK ws r=MC then _ else MB:Option D).isSome=_;cases aK ws r<;>rfl
   rw[e]at hK;exact hK
  ·rw[er,IS R]at hv;dsimp only[Option.getD]at hv;split at hv
   ·cases hv;exact⟨_,rfl,hK _ .refl⟩
   ·cases hv
 obtain⟨qs,eq,RQ,sub⟩:=uz (ws:=ws) RR ps.length (IX _);rw[show u.take ps.length=u by rw[pl,L5]]at RQ;have e9:(J5 (ps.map D.ref).length).filterMap (fun j=>if aK ws ((u[j]?).getD [])=MC then MA (D.ref ((ps[j]?).getD 0))else MB)=qs.map D.ref:=by rw[IU];exact eq
 dsimp only;rw[e9];clear e9 eq
 have hO:∀S∈u.filter (aK ws),(∀g∈S,g<2*ws.length)/\S.length<=80:=fun S hS=>by
  have A:=Y S (J6.mp hS).1
  exact⟨A.lt,by have:=A.len;omega⟩
 have lO:(u.filter (aK ws)).length<=80:=by have:=List.length_filter_le (aK ws) u;omega
 have s5:SD.Sub M4 (aA M4 x (.lst (qs.map D.ref))):=.new j1 .refl;have a0:(aA M4 x (.lst (qs.map D.ref))) x=MA (.lst (qs.map D.ref)):=ag;generalize aA M4 x (.lst (qs.map D.ref))=Z at s5 a0 ⊢;have k1:=SD.Sub.trans i1 s5;have y1:RL Z ps u:=RR.mono fun p _ o h=>s5 _ _ h;have g0:RL Z qs (u.filter (aK ws)):=RQ.mono fun p _ o h=>s5 _ _ h;have W:=s5 _ _ t0;have o0:=s5 _ _ e0;clear RR RQ t0 e0 j1 s5;have lm:(ws.map uw).length=ws.length:=IU ..;refine⟨Mm rfl,fun z0 k0=>⟨_,rfl,_,(by rw[au (az W k0)];exact W),bA (bP ⋯),.non,ag,by rw[lm];omega,by rw[lm];omega,fun z hz=>?_⟩⟩
 have z1:Z z=MB:=by
  cases e:Z z with
  |none=>rfl
  |some o=>rw[au (az e k0)]at hz;rw[e]at hz;cases hz
 have nz:∀a o,Z a=MA o->a≠z:=fun a o h=>az h z1
 have a2:M z=MB:=by
  cases e:M z with
  |none=>rfl
  |some o=>exact absurd rfl (nz _ _ (k1 _ _ e))
 have s6:SD.Sub Z (aA (aA Z z0 (.lst [.non])) z (.lst (Jk ((2:Int)*((ws.map uw).length:Nat)).toNat .non))):=.new hz (.new k0 .refl);have m1:(aA (aA Z z0 (.lst [.non])) z (.lst (Jk ((2:Int)*((ws.map uw).length:Nat)).toNat .non))) z=MA (.lst (Jk (2*ws.length) .non)):=by rw[ag,lm,show((2:Int)*(ws.length:Nat)).toNat=2*ws.length by omega]
 show SD.aU 3 (D.ref z) _ (aA (aA Z z0 (.lst [.non])) z (.lst (Jk ((2:Int)*((ws.map uw).length:Nat)).toNat .non))) _;generalize aA (aA Z z0 (.lst [.non])) z (.lst (Jk ((2:Int)*((ws.map uw).length:Nat)).toNat .non))=M6 at s6 m1 ⊢;clear hz k0
 have n1:∀L,dF ws L->(∀(i:Nat) (S:List Nat),(u.filter (aK ws))[i]?=MA S->∀g∈S,L[g]?=MA ((i+1:Nat):Int))/\∀r∈u,aK ws r=MD->∀g∈r,L[g]?=MA (O0 ws L (fc ws r)):=fun L il=>by
  obtain⟨r2,G',h1,h2⟩:=wH hU hF il
  have e:=xy G' G
  subst e
  exact⟨h1,h2⟩
 refine⟨_,rfl,_,s6 _ _ o0,fun j δ M'=>∃(F:List D) (T:List (Option D)),δ=MA (.ref l)::MA (.ref lr)::MA (.ref x)::MA (.ref z)::T/\T.length=9/\SD.Sub Z M'/\M' z=MA (.lst F)/\F.length=2*ws.length/\∀g,(∃r∈u.take j,g∈r)->∃a,F[g]?=MA (.int a)/\∀L,dF ws L->L[g]?=MA a,⟨_,_,rfl,rfl,s6,m1,(by simp),fun g h=>by obtain⟨r,n,_⟩:=h;cases n⟩,(fun j δ M' _ q=>by obtain⟨_,_,_,_,q,_⟩:=q;exact q _ _ o0),?_,?_⟩
 ·rintro j d δ M' R hd ⟨F,T,rfl,hT,O,l0,Fl,FF⟩;refine IM hT fun o4 o5 o6 o7 o8 o9 C I h0=>?_;have R:j<ps.length:=by have:j<(ps.map D.ref).length:=R;rw[IU]at this;exact this
  have hd:(ps.map D.ref)[j]?=MA d:=hd;obtain⟨r,er,mr⟩:=y1.get R;rw[IW,IS R]at hd;cases hd;have n:=IZ er;have A:=Y r n;have Al:r.length<=80:=by have:=A.len;omega
  generalize ps[j]=p at mr;(try dsimp only[SD.aU])
  refine Qi fun B hB=>?_;refine bU (fun δ b0=>δ=[MA (.ref l),MA (.ref lr),MA (.ref x),MA (.ref z),MA (.ref p),MA (.int 0),o6,o7,o8,o9,C,I,h0]/\b0=M') ?_ (fun hu=>hu _ _ ⟨rfl,rfl⟩);rintro δ b0 ⟨rfl,rfl⟩;refine bU (fun δ b0=>∃(a:Int) (T:List (Option D)),δ=MA (.ref l)::MA (.ref lr)::MA (.ref x)::MA (.ref z)::MA (.ref p)::MA (.int a)::T/\T.length=7/\SD.Sub Z b0/\b0 z=MA (.lst F)/\∀g∈r,∀L,dF ws L->L[g]?=MA a) ?_ (fun hu=>?_);rotate_left
  ·refine⟨_,rfl,_,rfl,Ol r,RN (u.filter (aK ws)),pF (O _ _ mr),.inl (.lst (O _ _ a0) (g0.mono fun p _ o h=>O _ _ h).pds),nK r,zf _,_,rfl,?_⟩;rw[CB];refine bO (fun h=>?_) (fun h=>?_)
   ·have mo:r∈u.filter (aK ws):=MJ h;obtain⟨i,hi,ei⟩:=Ld.mp mo;have qi:i<qs.length:=by rw[g0.len];exact hi
    have nd:(u.filter (aK ws)).Nodup:=KO _ (fB G);refine⟨_,rfl,x,_,rfl,O _ _ a0,_,rfl,qs.map D.ref,.ref p,Ol r,i,rfl,O _ _ a0,(by rw[IU];exact qi),pF (O _ _ mr),nK r,(fun i' y t2 hy=>?_),?_⟩
    ·have o1:i'<qs.length:=()
     obtain⟨S,eS,mS⟩:=g0.get o1;rw[IW,IS o1]at hy;cases hy;refine⟨Ol S,pF (O _ _ mS),yM S,?_⟩;rw[rG,MK];obtain⟨p2,e2⟩:=J1.mp eS;constructor
     ·intro z;exact(List.getElem_inj nd).mp (e2.trans (z.trans ei.symm))
     ·intro z;subst z;rw[<-e2,ei]
    ·exact hu _ _ ⟨(i:Int)+1,_,rfl,rfl,O,l0,fun g X L il=>by rw[(n1 L il).1 i r (by rw[IS hi,ei]) g X];simp⟩
   ·have o:aK ws r=MD:=by
     cases z:aK ws r with
     |false=>rfl
     |true=>exact absurd (MI (J6.mpr ⟨n,z⟩)) h
    obtain⟨f0,f1,Rf⟩:=dn G r n;obtain⟨r0,rh⟩:=zk Rf;have p1:=O _ _ W;refine⟨_,rfl,_,rfl,_,_,O _ _ mr,bY (v:=D.int (f0:Int)) (by rw[IW,r0];rfl),⟨⋯,bP ⋯⟩,l,ws,f0/2,rfl,congrArg D.int (yI f0),p1,(),hn,fun M7 zg gs u0 b2 m0 c2 o2 gc=>?_⟩;have s7:=SD.Sub.trans O u0;have v0:=u0 _ _ l0;clear u0 b2 p1;generalize w0:(fun T:List Nat=>!decide (T.headD 0/2∈gs)&&decide (OW ws 1 (fc ws r).1 (fc ws r).2 T%2=1))=ok;have x0:∀T,ok T=MC↔¬Cn ws (f0/2) (T.headD 0/2)/\OW ws 1 (fc ws r).1 (fc ws r).2 T%2=1:=fun T=>by rw[<-w0,Jn,Bool.not_eq_true',decide_eq_false_iff_not,ML,gc]
    (try dsimp only[SD.aU])
    refine bU (fun δ M8=>∃(ls:Addr) (J:List Addr) (os:List (List Nat)),δ=[MA (.ref l),MA (.ref lr),MA (.ref x),MA (.ref z),MA (.ref p),MA (.int 0),MA (.ref zg),MA (.ref ls),o8,o9,C,I,h0]/\SD.Sub Z M8/\M8 z=MA (.lst F)/\M8 zg=MA (.lst (gs.map fun g:Nat=>D.int (g:Int)))/\M8 ls=MA (.lst (J.map D.ref))/\RL M8 J os/\os.length<=80/\(∀S∈os,S∈u.filter (aK ws))/\PR ws os ok os.length=PR ws (u.filter (aK ws)) ok (u.filter (aK ws)).length) ?_ (fun r1=>?_);rotate_left
    ·refine⟨Mm rfl,fun e1 d2=>⟨_,rfl,Mm rfl,fun e2 s1=>?_⟩⟩;have s8:SD.Sub M7 (aA (aA M7 e1 (.lst [])) e2 (.lst [.ref e1,.ref x])):=.new s1 (.new d2 .refl);have t1:(aA (aA M7 e1 (.lst [])) e2 (.lst [.ref e1,.ref x])) e1=MA (.lst []):=by rw[au (az ag s1)];exact ag
     have y0:(aA (aA M7 e1 (.lst [])) e2 (.lst [.ref e1,.ref x])) e2=MA (.lst [.ref e1,.ref x]):=ag;show SD.zV _ _ _ (aA (aA M7 e1 (.lst [])) e2 (.lst [.ref e1,.ref x])) _;generalize aA (aA M7 e1 (.lst [])) e2 (.lst [.ref e1,.ref x])=M8 at s8 t1 y0 ⊢;have i0:=SD.Sub.trans s7 s8;refine⟨_,rfl,_,s8 _ _ m0,_,rfl,_,i0 _ _ W,trivial,?_⟩;have lg:(gs.map fun g:Nat=>D.int (g:Int)).length=gs.length:=IU ..;by_cases g:gs.length<ws.length
     ·refine⟨_,.ref x,y0,(by rw[MF (show decide ((((gs.map fun g:Nat=>D.int (g:Int)).length:Nat):Int)<(((ws.map uw).length:Nat):Int))=MC from MI ())];rfl),?_⟩;exact r1 _ _ ⟨x,qs,_,rfl,i0,s8 _ _ v0,s8 _ _ m0,i0 _ _ a0,g0.mono fun p _ o h=>i0 _ _ h,lO,fun S h=>h,rfl⟩
     ·refine⟨_,.ref e1,y0,(by rw[ME (show ¬decide ((((gs.map fun g:Nat=>D.int (g:Int)).length:Nat):Int)<(((ws.map uw).length:Nat):Int))=MC from fun y=>g (by have:=MJ y;omega))];rfl),?_⟩;refine r1 _ _ ⟨e1,[],[],rfl,i0,s8 _ _ v0,s8 _ _ m0,t1,.nil,⋯,(fun S h=>by cases h),?_⟩;have al:=C1 c2 (fun j R=>((gc j).mp R).lt ()) g;unfold PR
      congr 1
      refine(List.filterMap_eq_nil_iff.mpr fun j R=>?_).symm;have R:=Ju.mp R;unfold Qa;rw[IS R];refine ME fun y=>?_;obtain⟨fT,u2,RT⟩:=dn G _ (J6.mp (JS R)).1;have y:=((x0 _).mp y).1;refine y ((gc _).mp (al _ ?_));show((u.filter (aK ws))[j]).headD 0/2<ws.length;rw[(zk RT).2];omega
    clear v0 m0 s7;rintro δ M8 ⟨ls,J,os,rfl,s8,f2,g2,i2,R8,ol,u1,eA⟩;have rc:∀{M9:MH},SD.Sub M8 M9->M9 p=MA (.lst (r.map fun g:Nat=>D.int (g:Int))):=fun s=>s _ _ (s8 _ _ mr);refine⟨_,rfl,_,rc .refl,comp_map (fun i=>Ot (fa ws ((r[i]?).getD 0))) (by show(r.map fun g:Nat=>D.int (g:Int)).length<=1000000;rw[IU];omega) (fun q ys hq=>by show(aA _ q _) p=_;rw[au (az (rc .refl) hq)];exact rc .refl) ?_ (fun lc j2=>?_)⟩
    ·intro i d M9 hi hd s9;have hd:(r.map fun g:Nat=>D.int (g:Int))[i]?=MA d:=hd;rw[IW]at hd;cases eg:r[i]? with
     |none=>rw[eg]at hd;cases hd
     |some g=>
      rw[eg]at hd
      cases hd
      exact⟨_,rfl,fun K hK=>⟨_,rfl,_,rfl,l,ws,g,rfl,rfl,s9 _ _ (s8 _ _ W),A.lt g (IZ eg),(),_,rfl,hK _ .refl⟩⟩
    have e1:(J5 (r.map fun g:Nat=>D.int (g:Int)).length).map (fun i=>Ot (fa ws ((r[i]?).getD 0)))=(r.map (fa ws)).map Ot:=by
     rw[IU];apply List.ext_getElem
     ·simp
     ·intro i h1 h2;simp at h1;simp[h1]
    have s9:SD.Sub M8 (aA M8 lc (.lst ((r.map (fa ws)).map Ot))):=.new j2 .refl;have h9:(aA M8 lc (.lst ((r.map (fa ws)).map Ot))) lc=MA (.lst ((r.map (fa ws)).map Ot)):=ag;dsimp only;rw[e1];generalize aA M8 lc (.lst ((r.map (fa ws)).map Ot))=M9 at s9 h9 ⊢;refine⟨_,h9,(by intro z;rw[List.map_eq_nil_iff]at z;rw[z]at r0;cases r0),fun c hc mc=>?_⟩;have ec:=ER hU A.lt hc mc;rw[ec];generalize k2:fc ws r=c0 at ec w0 x0 ⊢;refine⟨⟨⋯,⋯,⋯⟩,Mm rfl,Mm rfl,fun za v1=>?_⟩;have na:∀a o,M9 a=MA o->a≠za:=fun a o h=>az h v1;have a1:=s9 _ _ i2;refine⟨_,rfl,ls,J.map D.ref,rfl,(by rw[au (na _ _ a1)];exact a1),fun i δ M'=>∃(C I:Option D),δ=[MA (.ref l),MA (.ref lr),MA (.ref x),MA (.ref z),MA (.ref p),MA (.int 0),MA (.ref zg),MA (.ref ls),MA (Ot c0),MA (.ref za),C,I,h0]/\SD.Sub M9 M'/\M' za=MA (.lst ((PR ws os ok i).map Ot)),⟨_,_,rfl,.new v1 .refl,ag⟩,fun i δ M' _ q=>by obtain⟨_,_,_,q,_⟩:=q;exact q _ _ a1,?_,?_⟩
    ·rintro i d δ M' hi hd ⟨C,I,rfl,sa,N⟩;have hi:i<J.length:=by have:i<(J.map D.ref).length:=hi;rw[IU]at this;exact this
     have hd:((J.map D.ref)[i]?).map (fun d=>D.tup [.int (i:Int),d])=MA d:=hd;obtain⟨S,eS,mS⟩:=R8.get hi;rw[IW,IS hi]at hd;cases hd;have iS:=u1 S (IZ eS);obtain⟨lt,sl⟩:=hO S iS;obtain⟨fS,v2,RS⟩:=dn G S (J6.mp iS).1;obtain⟨S0,Sh⟩:=zk RS;have ai:Qa ws os ok i=if ok S=MC then MA ((S.map (NO ws)).sum,((i:Nat):Int)+1)else MB:=by unfold Qa;rw[eS];rfl
     have nx:=xC ws os ok i;have b1:ok S=(!decide (fS/2∈gs)&&decide (OW ws 1 c0.1 c0.2 S%2=1)):=by rw[<-w0];show(!decide (S.headD 0/2∈gs)&&_)=_;rw[Sh]
     have V:=SD.Sub.trans s9 sa;have m2:=SD.Sub.trans s8 V;refine⟨_,rfl,rfl,_,_,rfl,_,_,rfl,rfl,?_⟩;(try dsimp only[SD.aU])
     refine Qi fun B hB=>?_;have s0:ok S=MD->∀M2,SD.Sub M' M2->∀(C I:Option D),B.nx [MA (.ref l),MA (.ref lr),MA (.ref x),MA (.ref z),MA (.ref p),MA (.int 0),MA (.ref zg),MA (.ref ls),MA (Ot c0),MA (.ref za),C,I,h0] M2:=fun f M2 s2 C I=>hB _ _ ⟨_,_,rfl,SD.Sub.trans sa s2,by rw[nx,ai,f,ME ⋯,Option.toList_none,JM];exact s2 _ _ N⟩;refine⟨_,rfl,_,_,V _ _ mS,bY (v:=D.int (fS:Int)) (by rw[IW,S0];rfl),⟨⋯,bP ⋯⟩,_,rfl,?_⟩;show SD.yr _ (D.int (Int.fdiv (fS:Int) 2)) _ _ _;rw[yI];refine pg (ns:=gs.map fun g:Nat=>(g:Int)) ((fS/2:Nat):Int) _ _ (by rw[Ku];exact V _ _ g2) ⟨_,rfl,?_⟩;rw[vp];refine bO (fun h=>?_) (fun h=>jK rfl (s0 (by rw[b1,eq_false_of_ne_true h];rfl) _ .refl _ _));refine⟨_,rfl,_,rfl,_,rfl,l,J[i],ws,S,1,c0.1,c0.2,rfl,rfl,rfl,(by rw[EN];exact m2 _ _ W),V _ _ mS,lt,hn,sl,hU,⋯,fun M2 s2=>⟨_,rfl,?_⟩⟩;refine bO (fun y=>?_) (fun y=>s0 (by rw[b1,eq_false_of_ne_true y,LA]) _ s2 _ _);have t:ok S=MC:=by rw[b1,h,y];rfl
     rw[MF t]at ai;have al:=AX ws os ok i;have n0:=s2 _ _ N;have sM:=SD.Sub.trans V s2;have n2:=SD.Sub.trans s8 sM;refine⟨_,rfl,za,_,rfl,n0,_,rfl,_,rfl,l,J[i],ws,S,rfl,rfl,n2 _ _ W,sM _ _ mS,lt,hn,sl,h8,_,rfl,Mm rfl,_,_,rfl,n0,by have:1000<=J8:=Mm rfl;rw[IU];have:=R8.len;omega,?_⟩;refine hB _ _ ⟨_,_,rfl,fun b o h=>?_,?_⟩
     ·rw[au (na b o h)];exact s2 _ _ (sa _ _ h)
     ·rw[ag,nx,ai,Jg];rfl
    ·rintro δ M' ⟨C,I,rfl,sa,N⟩;dsimp only at N;rw[show(J.map D.ref).length=os.length by rw[IU,R8.len],eA]at N;refine⟨_,rfl,_,N,(by unfold PR;exact List.cons_ne_nil _ _),fun b hb mn=>⟨_,rfl,?_⟩⟩;have V:=SD.Sub.trans s9 sa;refine hu _ _ ⟨b.2,_,rfl,rfl,SD.Sub.trans s8 V,V _ _ f2,fun g X L il=>?_⟩;obtain⟨q1,q2⟩:=n1 L il;have lg:=q2 r n o g X;have lf:=q2 r n o f0 (gT hU hF f1 Rf);have Ls:=rN hU hF G q1 q2 n o f1 Rf lf;rw[k2]at Ls lg;rw[lg,Aw hU (fun S hS=>(hO S hS).2) (fun S _=>x0 S) Ls hb mn]
  rintro δ b0 ⟨a,T,rfl,hT,w1,n0,La⟩;refine⟨_,rfl,_,w1 _ _ mr,fun i δ M3=>∃(F':List D) (T:List (Option D)),δ=MA (.ref l)::MA (.ref lr)::MA (.ref x)::MA (.ref z)::MA (.ref p)::MA (.int a)::T/\T.length=7/\SD.Sub Z M3/\M3 z=MA (.lst F')/\F'.length=2*ws.length/\∀g,g<2*ws.length->F'[g]?=if g∈r.take i then MA (.int a)else F[g]?,⟨F,_,rfl,hT,w1,n0,Fl,fun g _=>by rw[ME (by simp)]⟩,(fun i δ M3 _ q=>by obtain⟨_,_,_,_,q,_⟩:=q;exact q _ _ mr),?_,?_⟩
  ·rintro i d δ M3 hi hd ⟨F',T,rfl,hT,c1,d1,g1,d0⟩;refine IE hT fun o6 o7 o8 o9 C I h0=>?_;have hd:(r.map fun g:Nat=>D.int (g:Int))[i]?=MA d:=hd;rw[IW]at hd;cases eg:r[i]? with
   |none=>rw[eg]at hd;cases hd
   |some g=>
    rw[eg]at hd
    cases hd
    have gl:=A.lt g (IZ eg)
    refine⟨_,rfl,_,rfl,_,rfl,_,g,d1,(by unfold ixN;rw[MF (),Kx,MF ()]),?_⟩
    refine⟨F'.set g (.int a),_,rfl,rfl,(fun b o h=>by rw[au (nz b o h)];exact c1 _ _ h),ag,(by rw[List.length_set];exact g1),fun h hh=>?_⟩
    rw[List.getElem?_set,K9,eg]
    by_cases e:g=h
    ·subst e;rw[MF rfl,MF (),MF (Jb _ (by simp))]
    ·rw[ME e,d0 h hh];by_cases m:h∈r.take i
     ·rw[MF m,MF (Kn _ m)]
     ·rw[ME m,ME fun y=>(Jj.mp y).elim m fun y=>e (Eq.symm (by simpa using y))]
  ·rintro δ M3 ⟨F',T,rfl,hT,c1,d1,g1,d0⟩;refine hB _ _ ⟨F',_,rfl,congrArg (·+2) hT,c1,d1,g1,fun g X=>?_⟩
   have d0:∀g,g<2*ws.length->F'[g]?=if g∈r then MA (.int a)else F[g]?:=fun g X=>by
    have:=d0 g X
    rwa [show r.take (r.map fun g:Nat=>D.int (g:Int)).length=r by rw[IU,L5]]at this
   obtain⟨r',x1,X⟩:=X;rw[K9,er]at x1;rcases Jj.mp x1 with h|h
   ·have gl:g<2*ws.length:=(Y r' (List.mem_of_mem_take h)).lt g X;rw[d0 g gl];by_cases m:g∈r
    ·rw[MF m];exact⟨a,rfl,La g m⟩
    ·rw[ME m];exact FF g ⟨r',h,X⟩
   ·have e:r'=r:=by simpa using h
    subst e;rw[d0 g (A.lt g X),MF X];exact⟨a,rfl,La g X⟩
 ·rintro δ M' ⟨F,T,rfl,hT,O,l0,Fl,FF⟩
  obtain⟨L,rfl,al⟩:=vN Fl fun g X=>FF g (by
   obtain⟨r,n,m⟩:=jB G g X
   refine⟨r,?_,m⟩
   show r∈u.take (ps.map D.ref).length
   rw[IU,pl,L5];exact n)
  refine⟨_,rfl,_,rfl,Mm rfl,NA (k M' z x qs u L (SD.Sub.trans k1 O) a2 l0 (by rw[IU]at Fl;exact Fl) al (O _ _ a0) G (g0.mono fun p _ o h=>O _ _ h))⟩
theorem gf:Mk ["plot","face","first","second"] ["plot","face"] (ay j4):=by walk_at "sc"
inductive OT(u v:D)(M:MH)(Q:DK):Prop
 |mk (t b X Y:Int) (ws:List Wl) (f:Nat) (_:u=.tup (ws.map (Ms t b X Y))) (_:v=.int (f:Int)) (_:f<2*ws.length) (_:ws.length<=1000) (_:Q (Ms t b X Y (fw ws f)) M)
theorem cE(T:Tx K mg):Cal P w K mg base 1 "face_ends" (NU OT):=by
 refine bQ (k:=0) T.f_face_ends gf fun f cdv A outer s H E e=>⟨_,(aq (cI (aC (dv 0) (aB eV (dv 1) ao)) (bZ rfl (aG (aE 2 gf.nd) (aG (aE 3 gf.nd) bG)))) (aw (aF (jv (aM (cU e.units) (aB fm (dv 1) ao) ao) (aJ (ae (dv 2) (ae (dv 3) ak))) (aJ (ae (dv 3) (ae (dv 2) ak))))))),fun _ _ M Q h=>?_⟩;obtain⟨t,b,X,Y,ws,f,rfl,rfl,hf,c,k⟩:=h;obtain⟨d,j,l⟩:=br (ws:=ws) (k:=((f/2:Nat):Int)) () ();have g:(f:Int).fdiv 2=((f/2:Nat):Int):=by rw[JQ _ ⋯];omega
 have i:(f:Int).fmod 2=((f%2:Nat):Int):=by rw[KR _ ⋯];omega
 have a:atI (ws.map (Ms t b X Y)) ((f:Int).fdiv 2)=MA (Ms t b X Y (Mu ws ((f/2:Nat):Int))):=by rw[g];refine bY ?_;rw[Kx]at d;rw[IW,d];rfl
 refine⟨_,rfl,_,rfl,⟨⋯,bP ⋯⟩,_,a,?_⟩;refine⟨_,rfl,rfl,_,_,rfl,_,_,rfl,rfl,?_⟩;refine⟨_,rfl,(show(2:Int)≠0 by decide),_,rfl,?_⟩;dsimp only;rw[i];refine bO (fun h=>?_) (fun h=>?_)
 ·have h:f%2=0:=by have:((f%2:Nat):Int)=0:=by simpa using h
                   omega
  refine⟨_,rfl,_,rfl,Mm rfl,NA ?_⟩;unfold fw at k;rw[MF h]at k;exact k
 ·have h:¬f%2=0:=fun z=>by rw[z]at h;simp at h
  refine⟨_,rfl,_,rfl,Mm rfl,NA ?_⟩;unfold fw at k;rw[ME h]at k;exact k
theorem df:Mk ["plot","leaving","face"] ["plot"] (ay fH):=by walk_at "sc"
def Q4(t b X Y:Int)(p:Vc):ND:=((MV t b X 1 p.1).num,((MV t b X 1 p.1).den:Int),(MV t b Y 1 p.2).num,((MV t b Y 1 p.2).den:Int))
theorem uN{t b X Y:Int}(a:0<t)(c:0<b){p q:Vc}(h:Q4 t b X Y p=Q4 t b X Y q):p=q:=by unfold Q4 at h;injection h with d h;injection h with e h;injection h with f g;have e1:MV t b X 1 p.1=MV t b X 1 q.1:=Rat.ext d (by exact_mod_cast e);have e2:MV t b Y 1 p.2=MV t b Y 1 q.2:=Rat.ext f (by exact_mod_cast g);have i:=(Me a c ⋯ ⋯).mp e1;have j:=(Me a c ⋯ ⋯).mp e2;exact Prod.ext () ()
def Ng(ws:List Wl)(i:Nat)(p:Vc):List Int:=((J5 i).filter fun g=>decide (fa ws g=p)).map fun g:Nat=>(g:Int)
theorem rA(ws:List Wl)(i:Nat)(p:Vc):Ng ws (i+1) p=Ng ws i p++(if fa ws i=p then[(i:Int)]else[]):=by
 unfold Ng;rw[KD,List.filter_append,Jg];by_cases h:fa ws i=p
 ·simp[h]
 ·simp[h]
theorem Bb(ws:List Wl)(i:Nat)(p:Vc):(Ng ws i p).length<=i:=by unfold Ng;rw[IU];have:=List.length_filter_le (fun g=>decide (fa ws g=p)) (J5 i);simpa using this
theorem zl{kvs:N7}{k:ND}(d:D)(h:dX kvs k=MB)(j:ND):dX (putD kvs k d) j=if j=k then MA d else dX kvs j:=by
 have a:(kvs.any fun x=>decide (x.1=k))=MD:=by unfold dX at h;rw[Option.map_eq_none_iff,List.find?_eq_none]at h;rw[List.any_eq_false];exact h
 unfold putD;rw[ME (by rw[a];decide)];unfold dX at *;rw[List.find?_append];by_cases e:j=k
 ·subst e;rw[MF rfl];rw[Option.map_eq_none_iff]at h;rw[h];simp
 ·rw[ME e];have:¬k=j:=fun z=>e z.symm;cases kvs.find? fun x=>decide (x.1=j)<;>simp[this]
structure Qz(t b X Y:Int)(ws:List Wl)(i:Nat)(M M':MH)(ld:Addr)(kvs:N7)(L:Vc->Addr):Prop where
 d:M' ld=MA (Nv kvs)
 some:∀p,Ng ws i p≠[]->dX kvs (Q4 t b X Y p)=.some (.ref (L p))/\M' (L p)=.some (.lst ((Ng ws i p).map D.int))/\L p≠ld/\M (L p)=MB
 none:∀p,Ng ws i p=[]->dX kvs (Q4 t b X Y p)=.none
 inj:∀p q,Ng ws i p≠[]->Ng ws i q≠[]->L p=L q->p=q
inductive N6(u:D)(M:MH)(Q:DK):Prop
 |mk (t b X Y:Int) (ws:List Wl) (_:u=.tup (ws.map (Ms t b X Y))) (_:Nh t b X Y) (_:ws.length<=40) (_:∀(M':MH) (ld:Addr) (kvs:N7) (L:Vc->Addr),SD.Sub M M'->Qz t b X Y ws (2*ws.length) M M' ld kvs L->Q (.ref ld) M')
theorem jO(T:Tx K mg):Cal P w K mg base 2 "faces_by_start" (Oq N6):=by
 refine fj (k:=1) T.f_faces_by_start df fun f cdv A outer s H E hr=>⟨_,(aq (aD 1 df.nd xG) (aq (de Je rfl rfl T.b_range (ae (aB aS ao (aN cR rfl T.b_len cT (ae (dv 0) ak))) ak) (aE 2 df.nd) (aw (bS (bc (Ax (iB hr) (dv 1) (ae (aC (av (cE T).m hr (ae (dv 0) (ae (dv 2) ak))) ao) (ae (bz ak) ak))) (ae (dv 2) ak))))) (aw (aF (dv 1))))),fun _ M Q h=>?_⟩;obtain⟨t,b,X,Y,ws,rfl,S,a0,k⟩:=h;have R:(ws.map (Ms t b X Y)).length=ws.length:=by simp
 refine fun ld J=>?_;refine⟨_,rfl,bA (bP ⋯),2*ws.length,(by rw[R];simp),(),?_⟩;refine⟨fun i δ l=>∃(kvs:N7) (L:Vc->Addr) (U:Option D),δ=[MA (.tup (ws.map (Ms t b X Y))),MA (.ref ld),U]/\SD.Sub M l/\kvs.length<=i/\Qz t b X Y ws i M l ld kvs L,?_,?_,?_⟩
 ·exact⟨[],fun _=>0,_,rfl,.new J .refl,IX _,ag,fun p h=>absurd rfl h,fun p _=>rfl,fun p q h=>absurd rfl h⟩
 ·rintro i δ l hi ⟨kvs,L,U,rfl,N,hk,V⟩;have W:∀{q:Addr} {o},l q=MB->(aA l q o) ld=MA (Nv kvs):=fun u=>by rw[au (az V.d u)];exact V.d
  have c:∀p,fa ws i≠p->Ng ws (i+1) p=Ng ws i p:=fun p h=>by rw[rA,ME h,JM]
  have r:Ng ws (i+1) (fa ws i)=Ng ws i (fa ws i)++[(i:Int)]:=by rw[rA,MF rfl]
  have ll:=Bb ws i (fa ws i);refine⟨_,rfl,ld,kvs,rfl,V.d,_,rfl,_,rfl,t,b,X,Y,ws,i,rfl,rfl,hi,(),_,rfl,Mm rfl,fun q u=>?_⟩;refine⟨kvs,Q4 t b X Y (fa ws i),.ref q,rfl,W u,(),fun d' hd=>?_,fun hn=>?_⟩
  ·have ne:Ng ws i (fa ws i)≠[]:=fun z=>by rw[V.none _ z]at hd;cases hd
   obtain⟨v1,v2,v3,v4⟩:=V.some _ ne;rw[v1]at hd;cases hd;have Z:∀{a o},l a=MA o->(aA l q (.lst [])) a=MA o:=fun h=>by rw[au (az h u)];exact h
   refine⟨L (fa ws i),_,rfl,Z v2,_,rfl,_,_,rfl,Z v2,(by rw[IU];omega),?_⟩;have C:∀{a o G},l a=MA o->a≠L (fa ws i)->(aA (aA l q (.lst [])) (L (fa ws i)) G) a=MA o:=fun h n=>by rw[au n];exact Z h
   refine⟨kvs,L,_,rfl,fun a o h=>C (N _ _ h) (fun z=>by subst z;rw[v4]at h;cases h),(),C V.d v3.symm,fun p h=>?_,fun p h=>?_,fun p v h F e=>?_⟩
   ·by_cases z:fa ws i=p
    ·subst z;refine⟨v1,?_,v3,v4⟩;rw[ag,r,Jg];rfl
    ·rw[c p z]at h ⊢;obtain⟨u1,u2,O,u4⟩:=V.some p h;exact⟨u1,C u2 (fun y=>z (V.inj _ _ ne h y.symm)),O,u4⟩
   ·by_cases z:fa ws i=p
    ·subst z;rw[r]at h;simp at h
    ·rw[c p z]at h;exact V.none p h
   ·have g:∀p,Ng ws (i+1) p≠[]->Ng ws i p≠[]:=fun p h=>by
     by_cases z:fa ws i=p
     ·subst z;exact ne
     ·rw[c p z]at h;exact h
    exact V.inj p v (g p h) (g v F) e
  ·have em:Ng ws i (fa ws i)=[]:=by
    cases z:Ng ws i (fa ws i)with
    |nil=>rfl
    |cons x xs=>
     have:=(V.some _ (by rw[z];simp)).1
     rw[hn]at this;cases this
   have B:q≠ld:=(az V.d u).symm;have cq:(aA (aA l q (.lst [])) ld (Nv (putD kvs (Q4 t b X Y (fa ws i)) (.ref q)))) q=MA (.lst []):=by rw[au B,ag]
   refine⟨q,[],rfl,cq,_,rfl,_,_,rfl,cq,⋯,?_⟩;have C:∀{a o D' G},l a=MA o->a≠ld->(aA (aA (aA l q (.lst [])) ld D') q G) a=MA o:=fun h n=>by rw[au (az h u),au n,au (az h u)];exact h
   have mq:M q=MB:=by
    cases z:M q with
    |none=>rfl
    |some o=>rw[N _ _ z]at u;cases u
   have vn:=fun j=>zl (.ref q) hn j;refine⟨putD kvs (Q4 t b X Y (fa ws i)) (.ref q),fun p=>if fa ws i=p then q else L p,_,rfl,fun a o h=>C (N _ _ h) (fun z=>by subst z;rw[J]at h;cases h),?_,(by rw[au B.symm,ag]),fun p h=>?_,fun p h=>?_,fun p v h F e=>?_⟩
   ·have:(putD kvs (Q4 t b X Y (fa ws i)) (.ref q)).length<=kvs.length+1:=by
     unfold putD;split
     ·rw[IU];omega
     ·simp
    omega
   ·by_cases z:fa ws i=p
    ·subst z;refine⟨by rw[vn,MF rfl,MF rfl],?_,by rw[MF rfl];exact B,by rw[MF rfl];exact mq⟩;rw[MF rfl,ag,r,em];rfl
    ·rw[c p z]at h ⊢;obtain⟨u1,u2,O,u4⟩:=V.some p h;rw[ME z];exact⟨by rw[vn,ME (fun y=>z (uN S.t0 S.b0 y).symm)];exact u1,C u2 O,O,u4⟩
   ·by_cases z:fa ws i=p
    ·subst z;rw[r]at h;simp at h
    ·rw[c p z]at h;rw[vn,ME (fun y=>z (uN S.t0 S.b0 y).symm)];exact V.none p h
   ·by_cases z:fa ws i=p<;>by_cases I:fa ws i=v
    ·rw[<-z,<-I]
    ·rw[c v I]at F;rw[MF z,ME I]at e;have:=(V.some v F).2.1;rw[<-e,u]at this;cases this
    ·rw[c p z]at h;rw[ME z,MF I]at e;have:=(V.some p h).2.1;rw[e,u]at this;cases this
    ·rw[c p z]at h;rw[c v I]at F;rw[ME z,ME I]at e;exact V.inj p v h F e
 ·rintro δ l ⟨kvs,L,U,rfl,N,hk,V⟩;exact⟨_,rfl,⟨l,.refl,k l ld kvs L N V⟩⟩
theorem D5:Mk ["one","other"] ["one","other"] (ay B2):=by walk_at "sc"
inductive RK(x y:D)(M:MH)(Q:DK):Prop
 |mk (t1 b1 t2 b2:Int) (_:x=.tup [.int t1,.int b1]) (_:y=.tup [.int t2,.int b2]) (_:Bd 1000000 t1) (_:Bd 1000000 b1) (_:Bd 1000000 t2) (_:Bd 1000000 b2) (_:Q (.tup [.int (t1*b2-t2*b1),.int (b1*b2)]) M)
theorem pS(T:Tx K mg):Cal P w K mg base 1 "gap" (NU RK):=by refine bQ (k:=0) T.f_gap D5 fun f cdv A outer s H E e=>⟨_,(aw (aF (aJ (ae (aB dC (aB aS (aC (dv 0) ao) (aC (dv 1) ao)) (aB aS (aC (dv 1) ao) (aC (dv 0) ao))) (ae (aB aS (aC (dv 0) ao) (aC (dv 1) ao)) ak))))),fun _ _ M Q h=>?_⟩;obtain⟨t1,b1,g,i,rfl,rfl,c,a,d,b,k⟩:=h;refine⟨_,rfl,_,rfl,_,rfl,_,rfl,ff c b,_,rfl,_,rfl,_,rfl,_,rfl,ff d a,trivial,?_⟩;exact⟨_,rfl,_,rfl,_,rfl,_,rfl,ff a b,Mm rfl,NA k⟩
theorem dZ:Mk ["wall","spot","a","b","c","d","x","y","across","up","along","high"] ["wall","spot"] (ay y6):=by walk_at "sc"
inductive Qe(u v:D)(M:MH)(Q:DK):Prop
 |mk (n:Nat) (a b c d x y:Rat) (_:u=MU a b c d) (_:v=Mg x y) (_:MW n a) (_:MW n b) (_:MW n c) (_:MW n d) (_:MW n x) (_:MW n y) (_:n<=20000) (_:∀t e:Int,0<e->Rat.divInt t e=MZ a b c d x y->Bd (8*n+3) t->Bd (8*n+3) e->Q (.tup [.int t,.int e]) M)
theorem El(T:Tx K mg):Cal P w K mg base 2 "lean" (NU Qe):=by
 refine bQ (k:=1) T.f_lean dZ fun f cdv A outer s H E o=>⟨_,(aq (cI (dv 0) (bZ rfl (aG (bZ rfl (aG (aE 2 dZ.nd) (aG (aE 3 dZ.nd) bG))) (aG (bZ rfl (aG (aE 4 dZ.nd) (aG (aE 5 dZ.nd) bG))) bG)))) (aq (cI (dv 1) (bZ rfl (aG (aE 6 dZ.nd) (aG (aE 7 dZ.nd) bG)))) (aq (fP 8 9 rfl dZ.nd (ae (av (pS T).m o (ae (dv 4) (ae (dv 2) ak))) (ae (av (pS T).m o (ae (dv 5) (ae (dv 3) ak))) ak))) (aq (fP 10 11 rfl dZ.nd (ae (av (pS T).m o (ae (dv 6) (ae (dv 2) ak))) (ae (av (pS T).m o (ae (dv 7) (ae (dv 3) ak))) ak))) (aw (aF (av (pS T).m o (ae (aJ (ae (aB aS (aC (dv 8) ao) (aC (dv 11) ao)) (ae (aB aS (aC (dv 8) ao) (aC (dv 11) ao)) ak))) (ae (aJ (ae (aB aS (aC (dv 9) ao) (aC (dv 10) ao)) (ae (aB aS (aC (dv 9) ao) (aC (dv 10) ao)) ak))) ak))))))))),fun _ _ M Q h=>?_⟩;obtain⟨n,a,b,c,d,x,y,rfl,rfl,g,j,p,hd,t,u,G,k⟩:=h;have e:∀{m:Nat} {i:Int},Bd m i->m<=1000000->Bd 1000000 i:=fun z l=>z.mono l;have B:=p.uk g;have C:=hd.uk j;have D:=t.uk g;have F:=u.uk j;have e1:=p.2.mul g.2;have e2:=hd.2.mul j.2;have e3:=t.2.mul g.2;have e4:=u.2.mul j.2;refine⟨_,rfl,_,rfl,rfl,_,_,rfl,⟨_,rfl,rfl,_,_,rfl,_,_,rfl,rfl,?_⟩⟩;refine⟨_,_,rfl,⟨_,rfl,rfl,_,_,rfl,_,_,rfl,rfl,?_⟩⟩;refine⟨rfl,_,rfl,_,rfl,rfl,_,_,rfl,_,_,rfl,rfl,?_⟩;refine⟨_,rfl,_,rfl,_,_,_,_,rfl,rfl,e p.1 (),e p.2 (),e g.1 (),e g.2 (),?_⟩;refine⟨_,rfl,_,rfl,_,_,_,_,rfl,rfl,e hd.1 (),e hd.2 (),e j.1 (),e j.2 (),?_⟩;refine⟨_,_,rfl,?_⟩;refine⟨_,rfl,_,rfl,_,_,_,_,rfl,rfl,e t.1 (),e t.2 (),e g.1 (),e g.2 (),?_⟩;refine⟨_,rfl,_,rfl,_,_,_,_,rfl,rfl,e u.1 (),e u.2 (),e j.1 (),e j.2 (),?_⟩;refine⟨_,_,rfl,?_⟩;refine⟨_,rfl,_,rfl,_,rfl,_,rfl,ff (e B ()) (e F ()),?_⟩;refine⟨_,rfl,_,rfl,_,rfl,_,rfl,ff (e e1 ()) (e e4 ()),Mm rfl,?_⟩;refine⟨_,rfl,_,rfl,_,rfl,_,rfl,ff (e C ()) (e D ()),?_⟩;refine⟨_,rfl,_,rfl,_,rfl,_,rfl,ff (e e2 ()) (e e3 ()),Mm rfl,?_⟩;refine⟨_,_,_,_,rfl,rfl,e (B.mul F) (),e (e1.mul e4) (),e (C.mul D) (),e (e2.mul e3) (),?_⟩;have v:∀q r:Rat,0<(q.den:Int)*(r.den:Int):=fun q r=>Jy (Mi q) (Mi r);refine NA (k _ _ (Jy (Jy (v c a) (v y b)) (Jy (v d b) (v x a))) (Ma.Ay a b c d x y) ?_ ?_)
 ·exact((((B.mul F).mul (e2.mul e3)).mono (():_<=8*n+2)).sub (((C.mul D).mul (e1.mul e4)).mono (():_<=8*n+2)))
 ·exact((e1.mul e4).mul (e2.mul e3)).mono ()
theorem kR:Mk ["wall","spot","top"] ["wall","spot"] (ay nP):=by walk_at "sc"
inductive Oz(u v:D)(M:MH)(Q:DK):Prop
 |mk (n:Nat) (a b c d x y:Rat) (_:u=MU a b c d) (_:v=Mg x y) (_:MW n a) (_:MW n b) (_:MW n c) (_:MW n d) (_:MW n x) (_:MW n y) (_:n<=1900) (_:Q (.int (Mc (MZ a b c d x y))) M)
theorem d4(T:Tx K mg):Cal P w K mg base 3 "side_of" (NU Oz):=by
 refine bQ (k:=2) T.f_side_of kR fun f cdv A outer s H E g=>⟨_,(aq (aD 2 kR.nd (aC (av (El T).m g (ae (dv 0) (ae (dv 1) ak))) ao)) (aq (bF (aM (fU g.units) (dv 2) ao) (aw (aF ao)) aR) (aq (bF (aM (dP g.units) (dv 2) ao) (aw (aF (j0 fh ao))) aR) (aw (aF ao))))),fun _ _ M Q h=>?_⟩;obtain⟨n,a,b,c,d,x,y,rfl,rfl,j,l,o,hd,p,q,u,k⟩:=h;refine⟨_,rfl,_,rfl,n,a,b,c,d,x,y,rfl,rfl,j,l,o,hd,p,q,(),fun t e r i _ _=>⟨_,rfl,?_⟩⟩;rw[<-i,Ma.zY r]at k;refine⟨_,rfl,trivial,_,rfl,?_⟩;refine bO (fun h=>?_) (fun h=>?_)
 ·rw[MF (by simpa using h)]at k;exact NA k
 rw[ME (by simpa using h)]at k;refine⟨_,rfl,trivial,_,rfl,?_⟩;refine bO (fun h=>?_) (fun h=>?_)
 ·rw[MF (by simpa using h)]at k;exact NA k
 ·rw[ME (by simpa using h)]at k;exact NA k
theorem dD:Mk ["corner","came_from","one","other","turn","other_turn"] ["corner","came_from","one","other"] (ay gn):=by walk_at "sc"
inductive N9(u v x y:D)(M:MH)(Q:DK):Prop
 |mk (t b X Y:Int) (c p q r:Vc) (_:u=Mg (MV t b X 1 c.1) (MV t b Y 1 c.2)) (_:v=Mg (MV t b X 1 p.1) (MV t b Y 1 p.2)) (_:x=Mg (MV t b X 1 q.1) (MV t b Y 1 q.2)) (_:y=Mg (MV t b X 1 r.1) (MV t b Y 1 r.2)) (_:Nh t b X Y) (_:(0<=c.1/\c.1<=20)) (_:(0<=c.2/\c.2<=20)) (_:(0<=p.1/\p.1<=20)) (_:(0<=p.2/\p.2<=20)) (_:(0<=q.1/\q.1<=20)) (_:(0<=q.2/\q.2<=20)) (_:(0<=r.1/\r.1<=20)) (_:(0<=r.2/\r.2<=20)) (_:Q (.bl (OI (p.1-c.1,p.2-c.2) (q.1-c.1,q.2-c.2) (r.1-c.1,r.2-c.2))) M)
theorem kj(T:Tx K mg):Cal P w K mg base 4 "is_met_sooner" (XU N9):=by
 refine G6 (k:=3) T.f_is_met_sooner dD fun f cdv A outer s H E a=>⟨_,(aq (aD 4 dD.nd (av (d4 T).m a (ae (aJ (ae (dv 0) (ae (dv 1) ak))) (ae (dv 2) ak)))) (aq (aD 5 dD.nd (av (d4 T).m a (ae (aJ (ae (dv 0) (ae (dv 1) ak))) (ae (dv 3) ak)))) (aq (bF (aM (eP a.units) (dv 4) (dv 5)) (aw (aF (cg (dP a.units) (dv 4) (dv 5)))) aR) (aw (aF (cg (cU a.units) (av (d4 T).m a (ae (aJ (ae (dv 0) (ae (dv 2) ak))) (ae (dv 3) ak))) (j0 fh ao))))))),fun _ _ _ _ M Q h=>?_⟩;obtain⟨t,b,X,Y,c,p,q,r,rfl,rfl,rfl,rfl,S,d,g,i,j,l,n,o,u,k⟩:=h;have one:(0:Int)<1/\(1:Int)<=10^6:=⋯
 have v:∀{z:Int},(0<=z/\z<=20)->(-(10^6)<=z/\z<=10^6):=fun{z} h=>()
 have bx:∀{z:Int},(0<=z/\z<=20)->MW 200 (MV t b X 1 z):=fun{z} h=>S.bx one (v h);have by':∀{z:Int},(0<=z/\z<=20)->MW 200 (MV t b Y 1 z):=fun{z} h=>S.by' one (v h)
 have e1:=jQ (X:=X) (Y:=Y) S.t0 S.b0 (c.1,c.2,p.1,p.2) q.1 q.2;have e2:=jQ (X:=X) (Y:=Y) S.t0 S.b0 (c.1,c.2,p.1,p.2) r.1 r.2;have e3:=jQ (X:=X) (Y:=Y) S.t0 S.b0 (c.1,c.2,q.1,q.2) r.1 r.2;have x:sd (c.1,c.2,p.1,p.2) q.1 q.2=vc (p.1-c.1,p.2-c.2) (q.1-c.1,q.2-c.2):=rfl;have y:sd (c.1,c.2,p.1,p.2) r.1 r.2=vc (p.1-c.1,p.2-c.2) (r.1-c.1,r.2-c.2):=rfl;have B:sd (c.1,c.2,q.1,q.2) r.1 r.2=vc (q.1-c.1,q.2-c.2) (r.1-c.1,r.2-c.2):=rfl;rw[x]at e1;rw[y]at e2;rw[B]at e3;dsimp only at e1 e2 e3;refine⟨_,rfl,_,rfl,Mm rfl,_,rfl,200,_,_,_,_,_,_,rfl,rfl,bx d,by' g,bx i,by' j,bx l,by' n,⋯,?_⟩;rw[e1];refine⟨_,rfl,_,rfl,Mm rfl,_,rfl,200,_,_,_,_,_,_,rfl,rfl,bx d,by' g,bx i,by' j,bx o,by' u,⋯,?_⟩;rw[e2];refine⟨_,rfl,_,rfl,_,rfl,?_⟩;unfold OI at k;refine bO (fun h=>?_) (fun h=>?_)
 ·have ne:¬Ji (vc (p.1-c.1,p.2-c.2) (q.1-c.1,q.2-c.2))=Ji (vc (p.1-c.1,p.2-c.2) (r.1-c.1,r.2-c.2)):=fun z=>by rw[z]at h;simp at h
  rw[ME ne]at k;exact⟨_,rfl,_,rfl,trivial,NA k⟩
 ·have eq:Ji (vc (p.1-c.1,p.2-c.2) (q.1-c.1,q.2-c.2))=Ji (vc (p.1-c.1,p.2-c.2) (r.1-c.1,r.2-c.2)):=by simpa using h
  rw[MF eq]at k;refine⟨_,rfl,_,rfl,Mm rfl,_,rfl,200,_,_,_,_,_,_,rfl,rfl,bx d,by' g,bx l,by' n,bx o,by' u,⋯,?_⟩;rw[e3];have e:decide (vc (q.1-c.1,q.2-c.2) (r.1-c.1,r.2-c.2)<0)=decide (Ji (vc (q.1-c.1,q.2-c.2) (r.1-c.1,r.2-c.2))=-1):=by rw[MK];rcases gb (vc (q.1-c.1,q.2-c.2) (r.1-c.1,r.2-c.2))with z|z|z<;>omega
  rw[e]at k;exact NA k
theorem bL:Mk ["plot","leaving","face","came_from","corner","back","best","rival"] ["plot","leaving","face"] (ay ix):=by walk_at "sc"
def eG(ws:List Wl)(f j:Nat):Option Nat:=((((J5 (2*ws.length)).filter fun g=>decide (fa ws g=fb ws f)).take j).filter fun g=>decide (g≠fx f)).foldl (bW (NT ws f)) MB
theorem ou(R:Nat->Nat->Bool):∀(l:List Nat) (o:Option Nat) {h:Nat},l.foldl (bW R) o=MA h->h∈l\/o=MA h
 |[],o,h,e=>.inr e
 |g::l,o,h,e=>by
  rw[Lh]at e
  rcases ou R l _ e with z|z
  ·exact .inl (by simp[z])
  ·cases o with
   |none=>cases z;exact .inl (by simp)
   |some k=>
    unfold bW at z
    dsimp only at z
    by_cases r:R g k=MC
    ·rw[MF r]at z;cases z;exact .inl (by simp)
    ·rw[ME r]at z;exact .inr z
theorem sP(ws:List Wl)(f j:Nat)(h:((J5 (2*ws.length)).filter fun g=>decide (fa ws g=fb ws f)).length<=j):eG ws f j=(cV ws f).foldl (bW (NT ws f)) MB:=by
 unfold eG cV jd;rw[K8 h,List.filter_filter]
 congr 1
 apply List.filter_congr;intro x _;rw[Bool.and_comm]
theorem sf{ws:List Wl}{f j h:Nat}(e:eG ws f j=MA h):h∈cV ws f:=by
 unfold eG at e;rcases ou _ _ _ e with z|z
 ·have a:=J6.mp z;have b:=J6.mp (List.mem_of_mem_take a.1);exact bD.mpr ⟨by simpa using b.1,by simpa using b.2,by simpa using a.2⟩
 ·cases z
inductive Nr(u v w:D)(M:MH)(Q:DK):Prop
 |mk (t b X Y:Int) (ws:List Wl) (M0:MH) (ld:Addr) (kvs:N7) (L:Vc->Addr) (f:Nat) (_:u=.tup (ws.map (Ms t b X Y))) (_:v=.ref ld) (_:w=.int (f:Int)) (_:Nh t b X Y) (_:ws.length<=40) (_:(∀w∈ws,Mn w)) (_:f<2*ws.length) (_:Qz t b X Y ws (2*ws.length) M0 M ld kvs L) (_:Q (.int (bh ws f:Int)) M)
theorem iy(T:Tx K mg):Cal P w K mg base 5 "face_behind" (Qg Nr):=by
 refine md (k:=4) T.f_face_behind bL fun f cdv A outer s H E r=>⟨_,(aq (cI (av (cE T).m r (ae (dv 0) (ae (dv 2) ak))) (bZ rfl (aG (aE 3 bL.nd) (aG (aE 4 bL.nd) bG)))) (aq (aD 5 bL.nd (aB CY (dv 2) ao)) (aq (aD 6 bL.nd (dv 5)) (aq (b6 Je rfl (aV (qc (iB r) (dv 1) (dv 4) (by intro _ _;with_unfolding_all rfl))) (aE 7 bL.nd) (aw (bF (lN (gH (aM (eP r.units) (dv 7) (dv 5)) (fg (lN (tW (aM (cU r.units) (dv 6) (dv 5)) (tH (dM (av (kj T).m r (ae (dv 4) (ae (dv 3) (ae (aC (av (cE T).m r (ae (dv 0) (ae (dv 7) ak))) ao) (ae (aC (av (cE T).m r (ae (dv 0) (ae (dv 6) ak))) ao) ak)))))))))))) (aw (aD 6 bL.nd (dv 7))) aR))) (aw (aF (dv 6))))))),fun _ _ _ M Q h=>?_⟩;obtain⟨t,b,X,Y,ws,M0,ld,kvs,L,f,rfl,rfl,rfl,S,I,U,hf,V,k⟩:=h;have exf:Builtin.bitXor (f:Int) 1=((fx f:Nat):Int):=C8 f ()
 have n:∀g:Nat,g<2*ws.length->((0<=(fa ws g).1/\(fa ws g).1<=20)/\(0<=(fa ws g).2/\(fa ws g).2<=20))/\((0<=(fb ws g).1/\(fb ws g).1<=20)/\(0<=(fb ws g).2/\(fb ws g).2<=20)):=fun g x=>by
  obtain⟨_,_,Z⟩:=br (ws:=ws) (k:=((g/2:Nat):Int)) () ()
  have W:=U _ Z
  unfold fa fb fw
  by_cases h:g%2=0
  ·rw[MF h];exact⟨⟨W.a,W.b⟩,W.c,W.d⟩
  ·rw[ME h];exact⟨⟨W.c,W.d⟩,W.a,W.b⟩
 have ne:Ng ws (2*ws.length) (fb ws f)≠[]:=by
  unfold Ng
  have:fx f∈(J5 (2*ws.length)).filter fun g=>decide (fa ws g=fb ws f):=J6.mpr ⟨Ju.mpr (ie hf),by simpa using d8 ws f⟩
  intro z
  rw[List.map_eq_nil_iff]at z
  rw[z]at this
  cases this
 obtain⟨v1,J,v3,v4⟩:=V.some _ ne;refine⟨_,rfl,_,rfl,t,b,X,Y,ws,f,rfl,rfl,hf,(),?_⟩;refine⟨_,rfl,rfl,_,_,rfl,_,_,rfl,rfl,?_⟩;refine⟨_,rfl,trivial,?_⟩;dsimp only;rw[exf];refine⟨_,rfl,?_⟩;refine⟨_,rfl,_,rfl,ld,kvs,Q4 t b X Y (fb ws f),_,rfl,rfl,V.d,v1,(Ng ws (2*ws.length) (fb ws f)).map D.int,J,?_⟩;refine⟨fun j δ y=>y=M/\∃C,δ=[MA (.tup (ws.map (Ms t b X Y))),MA (.ref ld),MA (.int (f:Int)),MA (Mg (MV t b X 1 (fw ws f).1) (MV t b Y 1 (fw ws f).2.1)),MA (Mg (MV t b X 1 (fw ws f).2.2.1) (MV t b Y 1 (fw ws f).2.2.2)),MA (.int ((fx f:Nat):Int)),MA (.int (((eG ws f j).getD (fx f):Nat):Int)),C],⟨rfl,_,rfl⟩,fun j δ y _ z=>by obtain⟨rfl,_⟩:=z;exact J,?_,?_⟩
 ·rintro j d δ y hj hd ⟨rfl,C,rfl⟩;have hd:((((J5 (2*ws.length)).filter fun g=>decide (fa ws g=fb ws f)).map fun g:Nat=>(g:Int)).map D.int)[j]?=MA d:=hd;rw[IW,IW]at hd;cases B:((J5 (2*ws.length)).filter fun g=>decide (fa ws g=fb ws f))[j]? with
  |none=>rw[B]at hd;cases hd
  |some g=>
   rw[B]at hd
   cases hd
   have u:=J6.mp (IZ B)
   have x:g<2*ws.length:=by simpa using u.1
   have F:fa ws g=fb ws f:=by simpa using u.2
   have nx:eG ws f (j+1)=if g=fx f then eG ws f j else bW (NT ws f) (eG ws f j) g:=by
    unfold eG;rw[K9,B,Option.toList_some,List.filter_append,List.foldl_append];by_cases z:g=fx f
    ·simp[z]
    ·simp[z]
   have p:∀h,eG ws f j=MA h->h∈cV ws f:=fun h e=>sf e
   generalize eG ws f j=o at nx p ⊢
   by_cases z:g=fx f
   ·(try dsimp only[SD.gN,SD.ez,SD.aU,SD.g9,SD.ic,SD.dN,SD.fq,SD.tBD,SD.g8,SD.EndsD.nxt,SD.EndsD.lp])
    refine vC MD MD (fun K l=>⟨_,rfl,_,rfl,_,rfl,?_⟩) (fun q=>absurd q ⋯) (jK rfl ⟨rfl,MA (.int (g:Int)),?_⟩)
    ·rw[show(!decide ((g:Int)=((fx f:Nat):Int)))=MD by rw[z];simp];exact l
    ·rw[nx,MF z];rfl
   ·rw[ME z]at nx
    have N:(!decide ((g:Int)=((fx f:Nat):Int)))=MC:=by
     have:¬((g:Int)=((fx f:Nat):Int)):=fun q=>z ()
     rw[MG this];rfl
    cases o with
    |none=>
     (try dsimp only[SD.gN,SD.ez,SD.aU,SD.g9,SD.ic,SD.dN,SD.fq,SD.tBD,SD.g8,SD.EndsD.nxt,SD.EndsD.lp])
     refine vC MC MC (fun K l=>⟨_,rfl,_,rfl,_,rfl,by rw[N];exact l⟩) (fun _ K l=>VM MC MC (fun O i=>⟨_,rfl,_,rfl,_,rfl,?_⟩) (fun q=>absurd q ⋯) l) (yk rfl ⟨_,rfl,rfl,MA (.int (g:Int)),?_⟩)
     ·rw[show decide ((((MB:Option Nat).getD (fx f):Nat):Int)=((fx f:Nat):Int))=MC by simp];exact i
     ·rw[nx];rfl
    |some h=>
     have v:=bD.mp (p h rfl)
     have d1:fd ws (fx f)=((fa ws f).1-(fb ws f).1,(fa ws f).2-(fb ws f).2):=by unfold fd fa fb;rw[ur];rfl
     have R:∀g,fa ws g=fb ws f->fd ws g=((fb ws g).1-(fb ws f).1,(fb ws g).2-(fb ws f).2):=fun g e=>by rw[<-e];rfl
     have es:NT ws f g h=OI ((fa ws f).1-(fb ws f).1,(fa ws f).2-(fb ws f).2) ((fb ws g).1-(fb ws f).1,(fb ws g).2-(fb ws f).2) ((fb ws h).1-(fb ws f).1,(fb ws h).2-(fb ws f).2):=by unfold NT;rw[d1,R g F,R h v.2.1]
     have G:decide ((((MA h).getD (fx f):Nat):Int)=((fx f:Nat):Int))=MD:=MG (fun q=>v.2.2 (by have q':((h:Nat):Int)=((fx f:Nat):Int):=q;omega))
     (try dsimp only[SD.gN,SD.ez,SD.aU,SD.g9,SD.ic,SD.dN,SD.fq,SD.tBD,SD.g8,SD.EndsD.nxt,SD.EndsD.lp])
     refine vC MC (MD||NT ws f g h) (fun K l=>⟨_,rfl,_,rfl,_,rfl,by rw[N];exact l⟩) (fun _ K l=>VM MD (NT ws f g h) (fun O i=>⟨_,rfl,_,rfl,_,rfl,by rw[G];exact i⟩) (fun _ O i=>?_) l) ?_
     ·refine⟨_,rfl,_,rfl,_,rfl,_,rfl,t,b,X,Y,ws,g,rfl,rfl,x,(),_,rfl,_,rfl,_,rfl,t,b,X,Y,ws,h,rfl,rfl,v.1,(),_,rfl,t,b,X,Y,fb ws f,fa ws f,fb ws g,fb ws h,rfl,rfl,rfl,rfl,S,(n f hf).2.1,(n f hf).2.2,(n f hf).1.1,(n f hf).1.2,(n g x).2.1,(n g x).2.2,(n h v.1).2.1,(n h v.1).2.2,_,rfl,?_⟩;rw[<-es];exact i
     ·refine bO (fun q=>?_) (fun q=>?_)
      ·refine⟨_,rfl,rfl,MA (.int (g:Int)),?_⟩;have q:NT ws f g h=MC:=by simpa using q
       have e:bW (NT ws f) (MA h) g=MA g:=by unfold bW;simp[q]
       rw[nx,e];rfl
      ·refine⟨rfl,MA (.int (g:Int)),?_⟩;have q:¬NT ws f g h=MC:=by simpa using q
       have e:bW (NT ws f) (MA h) g=MA h:=by unfold bW;simp[q]
       rw[nx,e];rfl
 ·rintro δ y ⟨rfl,C,rfl⟩;have e:=sP ws f ((Ng ws (2*ws.length) (fb ws f)).map D.int).length (by simp[Ng]);dsimp only;rw[e];exact⟨_,rfl,NA k⟩
theorem dU:Mk ["plot","leaving","face","ring","at"] ["plot","leaving","face"] (ay j8):=by walk_at "sc"
theorem vm{t b X Y:Int}{ws:List Wl}{i:Nat}{f M:MH}{ld:Addr}{kvs:N7}{L:Vc->Addr}{p:Addr}{o:MO}(V:Qz t b X Y ws i f M ld kvs L)(j:M p=MB):Qz t b X Y ws i f (aA M p o) ld kvs L:=⟨by rw[au (az V.d j)];exact V.d,fun q h=>let⟨a,c,e,g⟩:=V.some q h;⟨a,by rw[au (az c j)];exact c,e,g⟩,V.none,V.inj⟩
inductive OM(u v w:D)(M:MH)(Q:DK):Prop
 |mk (t b X Y:Int) (ws:List Wl) (M0:MH) (ld:Addr) (kvs:N7) (L:Vc->Addr) (f:Nat) (_:u=.tup (ws.map (Ms t b X Y))) (_:v=.ref ld) (_:w=.int (f:Int)) (_:Nh t b X Y) (_:ws.length<=40) (_:(∀w∈ws,Mn w)) (_:PF ws) (_:f<2*ws.length) (_:Qz t b X Y ws (2*ws.length) M0 M ld kvs L) (_:∀(p:Addr) (kk:Nat),M p=MB->NR ws f kk->bh ws (NJ ws f kk)=f->Q (.ref p) (aA M p (.lst ((rn ws f kk).map fun g:Nat=>D.int (g:Int)))))
theorem pZ(T:Tx K mg):Cal P w K mg base 6 "ring_from" (Qg OM):=by
 refine md (k:=5) T.f_ring_from dU fun f cdv A outer s H E l=>⟨_,(aq (aD 3 dU.nd (bz (ae (dv 2) ak))) (aq (aD 4 dU.nd (av (iy T).m l (ae (dv 0) (ae (dv 1) (ae (dv 2) ak))))) (aq (fI Je (aM (eP l.units) (dv 4) (dv 2)) (aq (bS (bc (dv 3) (ae (dv 4) ak))) (aw (aD 4 dU.nd (av (iy T).m l (ae (dv 0) (ae (dv 1) (ae (dv 4) ak)))))))) (aw (aF (dv 3)))))),fun _ _ _ M Q h=>?_⟩;obtain⟨t,b,X,Y,ws,q,ld,kvs,L,f,rfl,rfl,rfl,S,c,d,hF,hf,V,k⟩:=h;refine⟨_,rfl,Mm rfl,fun p n=>?_⟩;refine⟨_,rfl,_,rfl,_,rfl,t,b,X,Y,ws,q,ld,kvs,L,f,rfl,rfl,rfl,S,c,d,hf,vm V n,?_⟩;refine⟨fun m δ i=>∃a,δ=[MA (.tup (ws.map (Ms t b X Y))),MA (.ref ld),MA (.int (f:Int)),MA (.ref p),MA (.int ((NJ ws f (a+1):Nat):Int))]/\i=aA M p (.lst ((rn ws f a).map fun g:Nat=>D.int (g:Int)))/\NR ws f a/\m=2*ws.length-a,⟨_,0,rfl,rfl,ue ws f,rfl⟩,?_⟩;rintro m δ i ⟨a,rfl,rfl,o,rfl⟩;have u:=nD d hF hf o;refine⟨_,rfl,_,rfl,_,rfl,?_⟩;refine bO (fun h=>?_) (fun h=>?_)
 ·have ne:bh ws (NJ ws f a)≠f:=fun z=>by
   have:NJ ws f (a+1)=f:=z
   rw[this]at h;simp at h
  have j:=uj d hF hf o ne;have r:=nD d hF hf j;refine⟨_,rfl,p,_,rfl,ag,_,rfl,_,_,rfl,ag,(by rw[IU,fo];omega),?_⟩;have e:aA (aA M p (.lst ((rn ws f a).map fun g:Nat=>D.int (g:Int)))) p (.lst (((rn ws f a).map fun g:Nat=>D.int (g:Int))++[.int ((NJ ws f (a+1):Nat):Int)]))=aA M p (.lst ((rn ws f (a+1)).map fun g:Nat=>D.int (g:Int))):=by rw[bR,kH,Jg];rfl
  rw[e];refine⟨_,rfl,_,rfl,_,rfl,t,b,X,Y,ws,q,ld,kvs,L,NJ ws f (a+1),rfl,rfl,rfl,S,c,d,cy d hF hf (a+1),vm V n,?_⟩;exact⟨2*ws.length-(a+1),(),a+1,rfl,rfl,j,rfl⟩
 ·have eq:bh ws (NJ ws f a)=f:=by
   have:((NJ ws f (a+1):Nat):Int)=(f:Int):=by simpa using h
   have e:NJ ws f (a+1)=bh ws (NJ ws f a):=rfl
   omega
  exact⟨_,rfl,⟨_,.refl,k p a n o eq⟩⟩
theorem cF:Mk ["plot","leaving","rings","gone_along","face","ring","part"] ["plot"] (ay lQ):=by walk_at "sc"
theorem Bg{t b X Y:Int}{ws:List Wl}{i:Nat}{f M j:MH}{ld:Addr}{kvs:N7}{L:Vc->Addr}(V:Qz t b X Y ws i f M ld kvs L)(s:SD.Sub M j):Qz t b X Y ws i f j ld kvs L:=⟨s _ _ V.d,fun q h=>let⟨a,c,e,g⟩:=V.some q h;⟨a,s _ _ c,e,g⟩,V.none,V.inj⟩
theorem l5{M a:MH}(s:SD.Sub M a){p:Addr}(h:a p=MB):M p=MB:=by
 cases z:M p with
 |none=>rfl
 |some o=>rw[s _ _ z]at h;cases h
inductive O7(u:D)(M:MH)(Q:DK):Prop
 |mk (t b X Y:Int) (ws:List Wl) (_:u=.tup (ws.map (Ms t b X Y))) (_:Nh t b X Y) (_:ws.length<=40) (_:(∀w∈ws,Mn w)) (_:PF ws) (_:∀(M':MH) (lr:Addr) (ps:List Addr) (rs:List (List Nat)),SD.Sub M M'->M lr=MB->M' lr=MA (.lst (ps.map D.ref))->OG ws (2*ws.length) rs->RL M' ps rs->(∀p∈ps,p≠lr/\M p=MB)->Q (.ref lr) M')
theorem rX(T:Tx K mg):Cal P w K mg base 7 "rings_of" (Oq O7):=by
 refine fj (k:=6) T.f_rings_of cF fun f cdv A outer s H E C=>⟨_,(aq (aD 1 cF.nd (av (jO T).m C (ae (dv 0) ak))) (aq (aD 2 cF.nd (bz ak)) (aq (aD 3 cF.nd yt) (aq (de Je rfl rfl T.b_range (ae (aB aS ao (aN cR rfl T.b_len cT (ae (dv 0) ak))) ak) (aE 4 cF.nd) (aw (bF (tR (iB C) (dv 4) (dv 3)) (aq (aD 5 cF.nd (av (pZ T).m C (ae (dv 0) (ae (dv 1) (ae (dv 4) ak))))) (aq (bS (bc (dv 2) (ae (dv 5) ak))) (aw (b6 Je rfl (aV (dv 5)) (aE 6 cF.nd) (aw (zS (iB C) (dv 3) (dv 6) j9)))))) aR))) (aw (aF (dv 2))))))),fun _ M Q h=>?_⟩;obtain⟨t,b,X,Y,ws,rfl,S,W,hU,hF,k⟩:=h;have g0:(ws.map (Ms t b X Y)).length=ws.length:=by simp
 refine⟨_,rfl,t,b,X,Y,ws,rfl,S,W,fun M1 ld kvs L Z V=>?_⟩;refine⟨Mm rfl,fun l a0=>fun y I=>?_⟩;have J:y≠l:=fun z=>by subst z;rw[ag]at I;cases I
 have c0:M1 y=MB:=by have h:=I;rw[au J]at h;exact h
 refine⟨_,rfl,bA (bP ⋯),2*ws.length,(by rw[g0];simp),(),?_⟩;refine⟨fun i δ r=>∃(ps:List Addr) (x:List (List Nat)) (n:Nat) (Sg:Int->Bool) (o4 o5 o6:Option D),δ=[MA (.tup (ws.map (Ms t b X Y))),MA (.ref ld),MA (.ref l),MA (.ref y),o4,o5,o6]/\SD.Sub M1 r/\r l=MA (.lst (ps.map D.ref))/\r y=MA (Q7 n Sg)/\ps.length<=i/\n<=i*80/\(∀g:Nat,Sg (g:Int)=decide (g∈x.flatten))/\OG ws i x/\RL r ps x/\∀p∈ps,p≠l/\p≠y/\M1 p=MB,?_,?_,?_⟩
 ·exact⟨[],[],0,fun _=>MD,_,_,_,rfl,.new I (.new a0 .refl),(by rw[au J.symm,ag];rfl),ag,IX _,K6 _,fun g=>by simp,rfl,.nil,fun p N=>by cases N⟩
 ·rintro i δ r hi ⟨ps,x,n,Sg,o4,o5,o6,rfl,sb,C,hg,h0,i0,hS,R,O,u⟩;(try dsimp only[SD.aU])
  refine Qi fun B hB=>?_;refine⟨_,rfl,_,rfl,(i:Int),y,n,Sg,rfl,rfl,hg,_,rfl,?_⟩;rw[hS];refine bO (fun h=>?_) (fun h=>hB _ _ ⟨ps,x,n,Sg,_,_,_,rfl,sb,C,hg,(),(),hS,⟨x,R,.inl ⟨by simpa using h,rfl⟩⟩,O,u⟩);have k0:i∉x.flatten:=by simpa using h
  refine⟨_,rfl,_,rfl,_,rfl,t,b,X,Y,ws,M,ld,kvs,L,i,rfl,rfl,rfl,S,W,hU,hF,hi,Bg V sb,fun p j N nr eq=>?_⟩;have kb:=nD hU hF hi nr;have c1:∀{a o G},r a=MA o->(aA r p G) a=MA o:=fun h=>by rw[au (az h N)];exact h
  have d0:p≠l:=(az C N).symm;have b0:p≠y:=(az hg N).symm;refine⟨_,rfl,l,_,rfl,c1 C,_,rfl,_,_,rfl,c1 C,(by simp;omega),?_⟩;have c2:∀{a o G D'},r a=MA o->a≠l->(aA (aA r p G) l D') a=MA o:=fun h n=>by rw[au n];exact c1 h
  have e0:=c2 (G:=.lst ((rn ws i j).map fun g:Nat=>D.int (g:Int))) (D':=.lst (ps.map D.ref++[.ref p])) hg J;have U:(aA (aA r p (.lst ((rn ws i j).map fun g:Nat=>D.int (g:Int)))) l (.lst (ps.map D.ref++[.ref p]))) p=MA (.lst ((rn ws i j).map fun g:Nat=>D.int (g:Int))):=by rw[au d0,ag]
  have f0:(aA (aA r p (.lst ((rn ws i j).map fun g:Nat=>D.int (g:Int)))) l (.lst (ps.map D.ref++[.ref p]))) l=MA (.lst (ps.map D.ref++[.ref p])):=ag;have c3:∀{a o},r a=MA o->a≠l->(aA (aA r p (.lst ((rn ws i j).map fun g:Nat=>D.int (g:Int)))) l (.lst (ps.map D.ref++[.ref p]))) a=MA o:=fun h n=>c2 h n;clear c2;generalize aA (aA r p (.lst ((rn ws i j).map fun g:Nat=>D.int (g:Int)))) l (.lst (ps.map D.ref++[.ref p]))=N2 at e0 U f0 c3 ⊢;refine⟨_,rfl,(rn ws i j).map fun g:Nat=>D.int (g:Int),U,?_⟩;refine⟨fun a δ v=>∃(F:Nat) (S':Int->Bool) (o6:Option D),δ=[MA (.tup (ws.map (Ms t b X Y))),MA (.ref ld),MA (.ref l),MA (.ref y),MA (.int (i:Int)),MA (.ref p),o6]/\v y=MA (Q7 F S')/\(∀c,c≠y->v c=N2 c)/\F<=n+a/\∀g:Nat,S' (g:Int)=(decide (g∈x.flatten)||decide (g∈(rn ws i j).take a)),⟨n,Sg,_,rfl,e0,fun _ _=>rfl,IX _,fun g=>by rw[hS];simp⟩,fun a δ v _ z=>by obtain⟨_,_,_,_,_,z,_⟩:=z;show v p=_;rw[z p b0];exact U,?_,?_⟩
  ·rintro a d δ v ha hd ⟨F,S',o6,rfl,h1,h2,h3,h4⟩;have m0:a<j+1:=by have:a<((rn ws i j).map fun g:Nat=>D.int (g:Int)).length:=ha;simpa[fo]using this
   have hd:((rn ws i j).map fun g:Nat=>D.int (g:Int))[a]?=MA d:=hd;rw[IW]at hd;cases eg:(rn ws i j)[a]? with
   |none=>rw[eg]at hd;cases hd
   |some g=>
    rw[eg]at hd
    cases hd
    refine⟨_,rfl,_,rfl,y,(g:Int),F,S',rfl,rfl,h1,(),?_⟩
    refine⟨F+1,_,_,rfl,ag,fun c hc=>by rw[au hc];exact h2 c hc,(),fun g'=>?_⟩
    rw[h4,K9,eg]
    have e:decide (((g':Nat):Int)=((g:Nat):Int))=decide (g'=g):=by rw[MK];omega
    rw[e]
    simp only[Jj,Option.toList_some,Jx,Bool.decide_or]
    cases decide (g'=g)<;>cases decide (g'∈x.flatten)<;>simp
  ·rintro δ v ⟨F,S',o6,rfl,h1,h2,h3,h4⟩;have h3:F<=n+(j+1):=by simpa[fo]using h3
   have h4:∀g:Nat,S' (g:Int)=(decide (g∈x.flatten)||decide (g∈(rn ws i j).take ((rn ws i j).map fun g:Nat=>D.int (g:Int)).length)):=h4;have et:(rn ws i j).take ((rn ws i j).map fun g:Nat=>D.int (g:Int)).length=rn ws i j:=K8 (by simp);rw[et]at h4;have c4:∀{a o},r a=MA o->a≠l->a≠y->v a=MA o:=fun h n F=>by rw[h2 _ F];exact c3 h n
   refine hB _ _ ⟨ps++[p],x++[rn ws i j],F,S',_,_,_,rfl,fun a o h=>c4 (sb _ _ h) (fun z=>by subst z;rw[a0]at h;cases h) (fun z=>by subst z;rw[c0]at h;cases h),(by rw[h2 l J.symm,Jg];exact f0),h1,by simp;omega,(),fun g=>?_,⟨x,R,.inr ⟨k0,_,⟨j,nr,eq,rfl⟩,rfl⟩⟩,?_,fun p' l0=>?_⟩
   ·rw[h4];simp only[List.flatten_append,Jj,KQ,List.flatten_nil,JM,Bool.decide_or]
   ·exact(O.mono fun q hq o e=>c4 e (u q hq).1 (u q hq).2.1).snoc (by rw[h2 p b0];exact U)
   ·rcases Jj.mp l0 with z|z
    ·exact u p' z
    ·have:p'=p:=by simpa using z
     subst this;exact⟨d0,b0,l5 sb N⟩
 ·rintro δ r ⟨ps,x,n,Sg,o4,o5,o6,rfl,sb,C,hg,h0,i0,hS,R,O,u⟩;exact⟨_,rfl,⟨r,.refl,k r l ps x (SD.Sub.trans Z sb) (l5 Z a0) C R O fun p N=>⟨(u p N).1,l5 Z (u p N).2.2⟩⟩⟩
theorem dS:Mk ["one","other"] ["one","other"] (ay eB):=by walk_at "sc"
inductive NQ(x y:D)(M:MH)(Q:DK):Prop
 |mk (a b:Nat) (_:x=.int (a:Int)) (_:y=.int (b:Int)) (_:Q (.int ((LB a b:Nat):Int)) M)
theorem eD(T:Tx K mg):Cal P w K mg base 1 "greatest_divisor" (NU NQ):=by
 refine bQ (k:=0) T.f_greatest_divisor dS fun f cdv A outer s H E i=>⟨_,(aq (fI Je (aM (eP i.units) (dv 1) ao) (aw (fP 0 1 rfl dS.nd (ae (dv 1) (ae (aB fm (dv 0) (dv 1)) ak))))) (aw (aF (dv 0)))),fun _ _ M Q h=>?_⟩;obtain⟨a,b,rfl,rfl,q⟩:=h;refine⟨fun m δ g=>g=M/\∃x y:Nat,δ=[MA (.int x),MA (.int y)]/\LB x y=LB a b/\m=y,⟨_,rfl,_,_,rfl,rfl,rfl⟩,?_⟩;rintro m δ g ⟨rfl,x,y,rfl,c,j⟩;refine⟨_,rfl,_,rfl,?_⟩;refine bO (fun h=>?_) (fun h=>?_)
 ·have d:(y:Int)≠0:=by simpa using h
  refine⟨_,rfl,_,rfl,_,rfl,d,_,_,rfl,?_⟩;have e:0<y:=()
  refine⟨x%y,by rw[j];exact Nat.mod_lt _ e,rfl,y,x%y,?_,?_,rfl⟩
  ·rw[<-Ma.t5];rfl
  ·rw[<-c,Nat.gcd_comm x y,Nat.gcd_rec y x,Nat.gcd_comm]
 ·have d:y=0:=by simpa using h
  subst d;rw[Nat.gcd_zero_right]at c;subst c;exact⟨_,rfl,NA q⟩
theorem cK:Mk ["parts","common","part"] ["parts"] (ay gi):=by walk_at "sc"
inductive Na(u:D)(M:MH)(Q:DK):Prop
 |mk (p:Addr) (qs:List Rat) (b:Nat) (_:u=.ref p) (_:M p=MA (.lst (qs.map Mh))) (_:0<b) (_:b<=10^26) (_:(∀q∈qs,q.den ∣ b)) (_:∀c:Nat,0<c->c ∣ b->(∀q∈qs,q.den ∣ c)->Q (.int (c:Int)) M)
theorem gh(T:Tx K mg):Cal P w K mg base 2 "common_bottom" (Oq Na):=by
 refine fj (k:=1) T.f_common_bottom cK fun f cdv A outer s H E I=>⟨_,(aq (aD 1 cK.nd ao) (aq (b6 Je rfl (aV (dv 0)) (aE 2 cK.nd) (aw (aD 1 cK.nd (aB aS (aB eV (dv 1) (av (eD T).m I (ae (dv 1) (ae (aC (dv 2) ao) ak)))) (aC (dv 2) ao))))) (aw (aF (dv 1))))),fun _ M Q h=>?_⟩;obtain⟨p,qs,b,rfl,G,a,v,o,k⟩:=h;refine⟨_,rfl,qs.map Mh,G,?_⟩;refine⟨fun i δ r=>r=M/\∃(c:Nat) (x:Option D),δ=[MA (.ref p),MA (.int (c:Int)),x]/\0<c/\c ∣ b/\∀q∈qs.take i,q.den ∣ c,⟨rfl,1,_,rfl,⋯,Nat.one_dvd _,fun q o=>by simp at o⟩,fun i δ r _ z=>by obtain⟨rfl,_⟩:=z;exact G,?_,?_⟩
 ·rintro i d δ r O hd ⟨rfl,c,x,rfl,g,t,y⟩;have hd:(qs.map Mh)[i]?=MA d:=hd;rw[IW]at hd;cases u:qs[i]? with
  |none=>rw[u]at hd;cases hd
  |some q=>
   rw[u]at hd
   cases hd
   have j:=IZ u
   have R:0<LB c q.den:=Nat.gcd_pos_of_pos_left _ g
   have J:c<=b:=Nat.le_of_dvd a t
   have L:LB c q.den<=c:=Nat.gcd_le_left _ g
   have B:∀{n:Nat},n<=10^26->Bd 100 (n:Int):=fun{n} h=>by show(n:Int).natAbs<2^100;omega
   have C:Bd 100 ((c:Int).fdiv ((LB c q.den:Nat):Int)):=(B (n:=c) ()).of_le (by rw[JQ _ ()];exact Int.natAbs_ediv_le_natAbs _ _)
   have N:(c:Int).fdiv ((LB c q.den:Nat):Int)*(q.den:Int)=((Nat.lcm c q.den:Nat):Int):=by
    rw[JQ _ (),<-Int.natCast_ediv,<-Int.natCast_mul]
    congr 1
    rw[Nat.lcm,Nat.mul_comm c q.den,Nat.mul_div_assoc _ (Nat.gcd_dvd_left c q.den),Nat.mul_comm]
   refine⟨_,rfl,_,rfl,_,rfl,_,rfl,c,q.den,rfl,rfl,⟨(),(B ()).mono ⋯⟩,_,rfl,_,rfl,ff (C.mono ⋯) ((B (K3 (Nat.le_of_dvd a (o q j)) v)).mono ⋯),?_⟩
   dsimp only
   rw[N]
   refine⟨rfl,Nat.lcm c q.den,_,rfl,Nat.lcm_pos g q.den_pos,Nat.lcm_dvd t (o q j),fun F l=>?_⟩
   rw[K9,u]at l
   rcases Jj.mp l with z|z
   ·exact Nat.dvd_trans (y F z) (Nat.dvd_lcm_left c q.den)
   ·have:F=q:=by simpa using z
    subst this;exact Nat.dvd_lcm_right c F.den
 ·rintro δ r ⟨rfl,c,x,rfl,g,t,y⟩;exact⟨_,rfl,NA (k c g t (by have e:qs.take (qs.map Mh).length=qs:=K8 (by simp);rw[<-e];exact y))⟩
theorem rz:Mk ["part","bottom"] ["part","bottom"] (ay lV):=by walk_at "sc"
inductive O6(u v:D)(M:MH)(Q:DK):Prop
 |mk (q:Rat) (B:Int) (_:u=Mh q) (_:v=.int B) (_:MW 200 q) (_:0<B) (_:B<=10^26) (_:Q (.int (q.num*B.fdiv (q.den:Int))) M)
theorem fX(T:Tx K mg):Cal P w K mg base 1 "top_over" (NU O6):=by
 refine bQ (k:=0) T.f_top_over rz fun f cdv A outer s H E c=>⟨_,(aw (aF (aB aS (aC (dv 0) ao) (aB eV (dv 1) (aC (dv 0) ao))))),fun _ _ M Q h=>?_⟩;obtain⟨q,B,rfl,rfl,a,d,e,k⟩:=h;have bB:Bd 100 B:=by show B.natAbs<2^100;omega
 have b:(B.fdiv (q.den:Int)).natAbs<=B.natAbs:=by rw[JQ _ ()];exact Int.natAbs_ediv_le_natAbs _ _
 exact⟨_,rfl,_,rfl,_,rfl,_,rfl,_,rfl,⟨Mj q,a.2.mono ⋯⟩,ff (a.1.mono ⋯) ((bB.of_le b).mono ⋯),NA k⟩
theorem aZ:Mk ["plot","ring","ways","x_bottom","y_bottom","total","x","y","next_x","next_y"] ["plot","ring"] (ay iR):=by walk_at "sc"
theorem oe{I:QY}{js:List Nat}{q:Nw}{te:TD}{δ:DS}{f:MH}{Q:DK}(a b g h:Nat->D)(t:I.n<=1000)(hC:∀p c,f p=MB->I.C (aA f p (.lst c)))(o:∀i d,i<I.n->I.item i=MA d->d=.tup [a i,b i]) (hw:∀i M R,i<I.n->R ⟨2,fun j=>[a i,b i][j]?,fun M=>EL M (.tup [a i,b i]) [a i,b i]⟩ M->q (cδ [MA (.tup [a i,b i]),MB] js δ) M R) (u:∀i M (K:DK),i<I.n->K (g i) M->te (cδ [MA (.tup [a i,b i]),MA (a i)] js δ) M K) (v:∀i M (K:DK),i<I.n->K (h i) M->te (cδ [MA (.tup [a i,b i]),MA (b i)] js δ) M K) (x:∀p,f p=MB->Q (.ref p) (aA f p (.lst ((J5 I.n).flatMap fun i=>[g i,h i])))):Gz I js q te δ f Q:=by
 refine⟨t,fun p r=>⟨fun i c M=>c=(J5 i).flatMap (fun i=>[g i,h i])/\M=aA f p (.lst c),⟨rfl,rfl⟩,?_,?_,?_⟩⟩
 ·rintro i c M _ ⟨_,rfl⟩;exact hC p c r
 ·rintro i c d M k hd ⟨rfl,rfl⟩;obtain rfl:=o i d k hd;refine hw i _ _ k ⟨Mm rfl,fun j l M=>l=(J5 i).flatMap (fun i=>[g i,h i])++[g i,h i].take j/\M=aA f p (.lst l),⟨by simp,rfl⟩,fun _ _ _ _ _=>rfl,?_,?_⟩
  ·rintro j l e M s m ⟨rfl,rfl⟩;have s:j<2:=s;have m:[a i,b i][j]?=MA e:=m;rcases(():j=0\/j=1)with rfl|rfl
   ·cases m;exact u i _ _ k ⟨_,.refl,ag,by simp,by rw[bR]⟩
   ·cases m;exact v i _ _ k ⟨_,.refl,ag,by simp,by rw[bR]⟩
  ·rintro l M ⟨rfl,rfl⟩;refine⟨?_,rfl⟩;rw[KD,List.flatMap_append];simp
 ·rintro c M ⟨rfl,rfl⟩;exact x p r
inductive Nz(u v:D)(M:MH)(Q:DK):Prop
 |mk (t b X Y:Int) (ws:List Wl) (p:Addr) (r:List Nat) (_:u=.tup (ws.map (Ms t b X Y))) (_:v=.ref p) (_:M p=MA (.lst (r.map fun g:Nat=>D.int (g:Int)))) (_:Nh t b X Y) (_:(∀w∈ws,Mn w)) (_:ws.length<=40) (_:r.length<=80) (_:(∀g∈r,g<2*ws.length)) (_:∀tot B:Int,0<B->B<=10^52->Bd 1000 tot->(tot:Rat)=(r.map (RF t b X Y ws)).sum*(B:Rat)->Q (.tup [.int tot,.int B]) M)
theorem pD(T:Tx K mg):Cal P w K mg base 3 "twice_area" (NU Nz):=by
 refine bQ (k:=2) T.f_twice_area aZ fun f cdv A outer s H E V=>⟨_,(aq (dm 2 aZ.nd (Ml.of (xs:=["face"]) (js:=[0]) rfl) rfl (aV (dv 1)) (fun _ _ _ _=>cJ) (fun _ _ _ _=>(av (cE T).m V (ae (dv 1) (ae (dv 0) ak))))) (aq (aD 3 aZ.nd (av (gh T).m V (ae (ze (Ml.of (xs:=["way","corner"]) (js:=[]) rfl) rfl (aV (dv 2)) (fun _ _ _ _=>(aV (dv 0))) (fun _ _ _ _=>(aC (dv 1) ao))) ak))) (aq (aD 4 aZ.nd (av (gh T).m V (ae (ze (Ml.of (xs:=["way","corner"]) (js:=[]) rfl) rfl (aV (dv 2)) (fun _ _ _ _=>(aV (dv 0))) (fun _ _ _ _=>(aC (dv 1) ao))) ak))) (aq (aD 5 aZ.nd ao) (aq (b6 Je rfl (aV (dv 2)) (bZ rfl (aG (bZ rfl (aG (aE 6 aZ.nd) (aG (aE 7 aZ.nd) bG))) (aG (bZ rfl (aG (aE 8 aZ.nd) (aG (aE 9 aZ.nd) bG))) bG))) (aq (yp 5 aZ.nd Eu (aB aS (av (fX T).m V (ae (dv 6) (ae (dv 3) ak))) (av (fX T).m V (ae (dv 9) (ae (dv 4) ak))))) (aw (yp 5 aZ.nd ED (aB aS (av (fX T).m V (ae (dv 8) (ae (dv 3) ak))) (av (fX T).m V (ae (dv 7) (ae (dv 4) ak)))))))) (aw (aF (aJ (ae (dv 5) (ae (aB aS (dv 3) (dv 4)) ak)))))))))),fun _ _ M Q h=>?_⟩;obtain⟨t,b,X,Y,ws,p,r,rfl,rfl,hp,S,hU,f1,g1,V,k⟩:=h;refine⟨_,rfl,_,hp,comp_map (fun j=>Ms t b X Y (fw ws ((r[j]?).getD 0))) (by show(r.map fun g:Nat=>D.int (g:Int)).length<=1000000;simp;omega) (fun q ys hq=>by show(aA M q _) p=_;rw[au (az hp hq)];exact hp) ?_ (fun O x0=>?_)⟩
 ·intro j d M6 hj hd sb;have hd:(r.map fun g:Nat=>D.int (g:Int))[j]?=MA d:=hd;rw[IW]at hd;cases C:r[j]? with
  |none=>rw[C]at hd;cases hd
  |some g=>
   rw[C]at hd
   cases hd
   exact⟨_,rfl,fun K hK=>⟨_,rfl,_,rfl,t,b,X,Y,ws,g,rfl,rfl,V g (IZ C),(),hK _ .refl⟩⟩
 have e1:(J5 (r.map fun g:Nat=>D.int (g:Int)).length).map (fun j=>Ms t b X Y (fw ws ((r[j]?).getD 0)))=r.map fun g=>Ms t b X Y (fw ws g):=by
  rw[IU];apply List.ext_getElem
  ·simp
  ·intro i h1 h2;simp at h1;simp[h1]
 dsimp only;rw[e1];have I:(aA M O (.lst (r.map fun g=>Ms t b X Y (fw ws g)))) O=MA (.lst (r.map fun g=>Ms t b X Y (fw ws g))):=ag;have m0:SD.Sub M (aA M O (.lst (r.map fun g=>Ms t b X Y (fw ws g)))):=.new x0 .refl;generalize aA M O (.lst (r.map fun g=>Ms t b X Y (fw ws g)))=M1 at I m0 ⊢;have e0:(r.map fun g=>Ms t b X Y (fw ws g)).length=r.length:=by simp
 refine⟨_,rfl,_,I,oe (fun i=>Mg (MV t b X 1 (fa ws ((r[i]?).getD 0)).1) (MV t b Y 1 (fa ws ((r[i]?).getD 0)).2)) (fun i=>Mg (MV t b X 1 (fb ws ((r[i]?).getD 0)).1) (MV t b Y 1 (fb ws ((r[i]?).getD 0)).2)) (fun i=>Mh (MV t b X 1 (fa ws ((r[i]?).getD 0)).1)) (fun i=>Mh (MV t b X 1 (fb ws ((r[i]?).getD 0)).1)) (by show(r.map fun g=>Ms t b X Y (fw ws g)).length<=1000;omega) (fun q ys hq=>by show(aA M1 q _) O=_;rw[au (az I hq)];exact I) (fun i d J hd=>?_) (fun i M R J h=>⟨_,rfl,_,rfl,h⟩) (fun i M K J h=>⟨_,rfl,_,rfl,h⟩) (fun i M K J h=>⟨_,rfl,_,rfl,h⟩) (fun px n0=>?_)⟩
 ·have hd:(r.map fun g=>Ms t b X Y (fw ws g))[i]?=MA d:=hd;rw[IW]at hd;cases C:r[i]? with
  |none=>rw[C]at hd;cases hd
  |some g=>
   rw[C]at hd
   cases hd
   rfl
 obtain⟨l,rfl⟩:∃l:Nat,b=(l:Int):=⟨b.toNat,by have:=S.b0;omega⟩;have a0:0<l:=by have:=S.b0;omega
 have dv:∀(Z x:Int),(MV t (l:Int) Z 1 x).den ∣ l:=fun Z x=>by
  have h:=Bn (n:=x*t+Z*1) (d:=(l:Int)*1) ()
  rw[Int.mul_one (l:Int)]at h
  unfold MV
  rw[Int.mul_one (l:Int)]
  exact Int.ofNat_dvd.mp h
 have eX:∀(Z:Int) (F:Vc->Int) (n:Nat),((J5 n).flatMap fun i=>[Mh (MV t (l:Int) Z 1 (F (fa ws ((r[i]?).getD 0)))),Mh (MV t (l:Int) Z 1 (F (fb ws ((r[i]?).getD 0))))])=((J5 n).flatMap fun i=>[MV t (l:Int) Z 1 (F (fa ws ((r[i]?).getD 0))),MV t (l:Int) Z 1 (F (fb ws ((r[i]?).getD 0)))]).map Mh:=fun Z F n=>by rw[List.map_flatMap];rfl
 have c0:∀(Z:Int) (F:Vc->Int) (n:Nat) (q:Rat),q∈((J5 n).flatMap fun i=>[MV t (l:Int) Z 1 (F (fa ws ((r[i]?).getD 0))),MV t (l:Int) Z 1 (F (fb ws ((r[i]?).getD 0)))])->q.den ∣ l:=fun Z F n q hq=>by
  obtain⟨i,_,J⟩:=List.mem_flatMap.mp hq;rcases Jo.mp J with z|z
  ·rw[z];exact dv _ _
  ·rw[show q=_ from by simpa using z];exact dv _ _
 have d0:∀(Z:Int) (F:Vc->Int) (c:Nat),(∀q∈((J5 r.length).flatMap fun i=>[MV t (l:Int) Z 1 (F (fa ws ((r[i]?).getD 0))),MV t (l:Int) Z 1 (F (fb ws ((r[i]?).getD 0)))]),q.den ∣ c)->∀(i g:Nat),r[i]?=MA g->(MV t (l:Int) Z 1 (F (fa ws g))).den ∣ c/\(MV t (l:Int) Z 1 (F (fb ws g))).den ∣ c:=fun Z F c h i g C=>by
  have J:i<r.length:=(J1.mp C).1
  refine⟨h _ (List.mem_flatMap.mpr ⟨i,Ju.mpr J,?_⟩),h _ (List.mem_flatMap.mpr ⟨i,Ju.mpr J,?_⟩)⟩
  ·rw[C];simp
  ·rw[C];simp
 have o0:l<=10^26:=by have:=S.b1;omega
 refine⟨px,_,l,rfl,(by rw[ag];dsimp only;rw[e0];exact congrArg (fun z=>MA (MO.lst z)) (eX X (fun v=>v.1) r.length)),a0,o0,c0 X (fun v=>v.1) _,fun L i1 y0 z0=>?_⟩;have U:∀{o},(aA M1 px o) O=MA (.lst (r.map fun g=>Ms t (l:Int) X Y (fw ws g))):=fun{o}=>by rw[au (az I n0)];exact I
 have a1:∀{o},SD.Sub M (aA M1 px o):=fun{o}=>.new n0 m0;refine⟨_,rfl,_,U,oe (fun i=>Mg (MV t (l:Int) X 1 (fa ws ((r[i]?).getD 0)).1) (MV t (l:Int) Y 1 (fa ws ((r[i]?).getD 0)).2)) (fun i=>Mg (MV t (l:Int) X 1 (fb ws ((r[i]?).getD 0)).1) (MV t (l:Int) Y 1 (fb ws ((r[i]?).getD 0)).2)) (fun i=>Mh (MV t (l:Int) Y 1 (fa ws ((r[i]?).getD 0)).2)) (fun i=>Mh (MV t (l:Int) Y 1 (fb ws ((r[i]?).getD 0)).2)) (by show(r.map fun g=>Ms t (l:Int) X Y (fw ws g)).length<=1000;omega) (fun q ys hq=>by show(aA _ q _) O=_;rw[au (az U hq)];exact U) (fun i d J hd=>?_) (fun i M R J h=>⟨_,rfl,_,rfl,h⟩) (fun i M K J h=>⟨_,rfl,_,rfl,h⟩) (fun i M K J h=>⟨_,rfl,_,rfl,h⟩) (fun py r0=>?_)⟩
 ·have hd:(r.map fun g=>Ms t (l:Int) X Y (fw ws g))[i]?=MA d:=hd;rw[IW]at hd;cases C:r[i]? with
  |none=>rw[C]at hd;cases hd
  |some g=>
   rw[C]at hd
   cases hd
   rfl
 refine⟨py,_,l,rfl,(by rw[ag];dsimp only;rw[e0];exact congrArg (fun z=>MA (MO.lst z)) (eX Y (fun v=>v.2) r.length)),a0,o0,c0 Y (fun v=>v.2) _,fun N j1 c1 d1=>?_⟩;have ux:=d0 X (fun v=>v.1) L z0;have uy:=d0 Y (fun v=>v.2) N d1;have s0:∀{o o'},py≠O->(aA (aA M1 px o) py o') O=MA (.lst (r.map fun g=>Ms t (l:Int) X Y (fw ws g))):=fun ne=>by rw[au ne.symm];exact U
 have t0:py≠O:=(az U r0).symm;refine⟨_,rfl,_,s0 t0,?_⟩;have f0:=SD.Sub.new (o:=MO.lst ((J5 (r.map fun g=>Ms t (l:Int) X Y (fw ws g)).length).flatMap fun i=>[Mh (MV t (l:Int) Y 1 (fa ws ((r[i]?).getD 0)).2),Mh (MV t (l:Int) Y 1 (fb ws ((r[i]?).getD 0)).2)])) r0 a1;dsimp only at f0 ⊢;have u0:=s0 (o:=MO.lst ((J5 (r.map fun g=>Ms t (l:Int) X Y (fw ws g)).length).flatMap fun i=>[Mh (MV t (l:Int) X 1 (fa ws ((r[i]?).getD 0)).1),Mh (MV t (l:Int) X 1 (fb ws ((r[i]?).getD 0)).1)])) (o':=MO.lst ((J5 (r.map fun g=>Ms t (l:Int) X Y (fw ws g)).length).flatMap fun i=>[Mh (MV t (l:Int) Y 1 (fa ws ((r[i]?).getD 0)).2),Mh (MV t (l:Int) Y 1 (fb ws ((r[i]?).getD 0)).2)])) t0;generalize aA (aA M1 px (MO.lst ((J5 (r.map fun g=>Ms t (l:Int) X Y (fw ws g)).length).flatMap fun i=>[Mh (MV t (l:Int) X 1 (fa ws ((r[i]?).getD 0)).1),Mh (MV t (l:Int) X 1 (fb ws ((r[i]?).getD 0)).1)]))) py (MO.lst ((J5 (r.map fun g=>Ms t (l:Int) X Y (fw ws g)).length).flatMap fun i=>[Mh (MV t (l:Int) Y 1 (fa ws ((r[i]?).getD 0)).2),Mh (MV t (l:Int) Y 1 (fb ws ((r[i]?).getD 0)).2)]))=M3 at f0 u0 ⊢;have y:(0:Int)<(L:Int)/\(L:Int)<=10^26:=by have:=Nat.le_of_dvd a0 y0;omega
 have u:(0:Int)<(N:Int)/\(N:Int)<=10^26:=by have:=Nat.le_of_dvd a0 c1;omega
 refine⟨fun i δ M'=>M'=M3/\∃(G:Int) (o6 o7 o8 o9:Option D),δ=[MA (.tup (ws.map (Ms t (l:Int) X Y))),MA (.ref p),MA (.ref O),MA (.int (L:Int)),MA (.int (N:Int)),MA (.int G),o6,o7,o8,o9]/\(G:Rat)=((r.take i).map (RF t (l:Int) X Y ws)).sum*(((L:Int)*(N:Int):Int):Rat)/\Bd (600+2*i) G,⟨rfl,0,_,_,_,_,rfl,(by simp),(by show(0:Int).natAbs<2^(600+2*0);decide)⟩,fun i δ M' _ z=>by obtain⟨rfl,_⟩:=z;exact u0,?_,?_⟩
 ·rintro i d δ M' J hd ⟨rfl,G,o6,o7,o8,o9,rfl,et,bt⟩;have hd:(r.map fun g=>Ms t (l:Int) X Y (fw ws g))[i]?=MA d:=hd;rw[IW]at hd;cases C:r[i]? with
  |none=>rw[C]at hd;cases hd
  |some g=>
   rw[C]at hd
   cases hd
   have hg:=V g (IZ C)
   obtain⟨_,_,w3⟩:=br (ws:=ws) (k:=((g/2:Nat):Int)) () ()
   have W:=hU _ w3
   have W6:∀{z:Int},(0<=z/\z<=20)->(-(10^6)<=z/\z<=10^6):=fun{z} h=>()
   have one:(0:Int)<1/\(1:Int)<=10^6:=⋯
   have rg:((0<=(fa ws g).1/\(fa ws g).1<=20)/\(0<=(fa ws g).2/\(fa ws g).2<=20))/\((0<=(fb ws g).1/\(fb ws g).1<=20)/\(0<=(fb ws g).2/\(fb ws g).2<=20)):=by
    unfold fa fb fw;by_cases h:g%2=0
    ·rw[MF h];exact⟨⟨W.a,W.b⟩,W.c,W.d⟩
    ·rw[ME h];exact⟨⟨W.c,W.d⟩,W.a,W.b⟩
   have g0:MW 200 (MV t (l:Int) X 1 (fa ws g).1):=S.bx one (W6 rg.1.1)
   have i0:MW 200 (MV t (l:Int) Y 1 (fa ws g).2):=S.by' one (W6 rg.1.2)
   have k0:MW 200 (MV t (l:Int) X 1 (fb ws g).1):=S.bx one (W6 rg.2.1)
   have l0:MW 200 (MV t (l:Int) Y 1 (fb ws g).2):=S.by' one (W6 rg.2.2)
   have tb:∀{q:Rat} {B:Int},MW 200 q->0<B->B<=10^26->Bd 300 (q.num*B.fdiv (q.den:Int)):=fun{q B} h h0 h1=>by
    have bB:Bd 100 B:=by show B.natAbs<2^100;omega
    have dB:(B.fdiv (q.den:Int)).natAbs<=B.natAbs:=by rw[JQ _ ()];exact Int.natAbs_ediv_le_natAbs _ _
    exact h.1.mul (bB.of_le dB)
   have m6:∀{z:Int},Bd 300 z->Bd 1000000 z:=fun h=>h.mono ⋯
   refine⟨_,rfl,rfl,_,_,rfl,_,rfl,rfl,_,_,rfl,_,_,rfl,rfl,_,_,rfl,_,rfl,rfl,_,_,rfl,_,_,rfl,rfl,rfl,?_⟩
   refine⟨G,rfl,_,rfl,_,rfl,MV t (l:Int) X 1 (fa ws g).1,(L:Int),rfl,rfl,g0,y.1,y.2,_,rfl,_,rfl,MV t (l:Int) Y 1 (fb ws g).2,(N:Int),rfl,rfl,l0,u.1,u.2,ff (m6 (tb g0 y.1 y.2)) (m6 (tb l0 u.1 u.2)),_,rfl,?_⟩
   refine⟨_,rfl,_,rfl,_,rfl,MV t (l:Int) X 1 (fb ws g).1,(L:Int),rfl,rfl,k0,y.1,y.2,_,rfl,_,rfl,MV t (l:Int) Y 1 (fa ws g).2,(N:Int),rfl,rfl,i0,u.1,u.2,ff (m6 (tb k0 y.1 y.2)) (m6 (tb i0 u.1 u.2)),_,rfl,?_⟩
   refine⟨rfl,_,_,_,_,_,rfl,?_,?_⟩
   ·rw[K9,C,Option.toList_some,Jg,List.sum_append];have ex:=ux i g C;have ey:=uy i g C;have t1:=vd (MV t (l:Int) X 1 (fa ws g).1) (L:Int) (Int.ofNat_dvd.mpr ex.1);have t2:=vd (MV t (l:Int) Y 1 (fb ws g).2) (N:Int) (Int.ofNat_dvd.mpr ey.2);have t3:=vd (MV t (l:Int) X 1 (fb ws g).1) (L:Int) (Int.ofNat_dvd.mpr ex.2);have t4:=vd (MV t (l:Int) Y 1 (fa ws g).2) (N:Int) (Int.ofNat_dvd.mpr ey.1);dsimp only;rw[KG,Lj,et,JT,JT,t1,t2,JT,t3,t4];simp only[IY,Ki,JU,List.sum_nil];unfold RF;grind
   ·have p1:=((tb g0 y.1 y.2).mul (tb l0 u.1 u.2)).mono (():300+300<=600+2*i);have p2:=((tb k0 y.1 y.2).mul (tb i0 u.1 u.2)).mono (():300+300<=600+2*i+1);exact((bt.add p1).sub p2).mono ()
 ·rintro δ M' ⟨rfl,G,o6,o7,o8,o9,rfl,et,bt⟩;have e:r.take (r.map fun g=>Ms t (l:Int) X Y (fw ws g)).length=r:=K8 (by simp);rw[e]at et;have v0:Bd 100 (L:Int):=by show(L:Int).natAbs<2^100;omega
  have w0:Bd 100 (N:Int):=by show(N:Int).natAbs<2^100;omega
  have pp:=Jy y.1 u.1
  have pl:(L:Int)*(N:Int)<=10^52:=by
   have h1:=Int.mul_le_mul y.2 u.2 (K7 u.1) (show(0:Int)<=10^26 by decide)
   exact Int.le_trans h1 ⋯
  exact⟨_,rfl,_,rfl,_,rfl,ff (v0.mono ⋯) (w0.mono ⋯),Mm rfl,⟨M,f0,k G _ pp pl (bt.mono (by rw[e0];first|omega|(dsimp only;omega)|(simp only[IU]at *;omega))) et⟩⟩
theorem cY:Mk ["plot","outers","inners","ring"] ["plot"] (ay eR):=by walk_at "sc"
inductive NV(u:D)(M:MH)(Q:DK):Prop
 |mk (t b X Y:Int) (ws:List Wl) (_:u=.tup (ws.map (Ms t b X Y))) (_:Nh t b X Y) (_:ws.length<=40) (_:(∀w∈ws,Mn w)) (_:PF ws) (_:∀(M':MH) (lo li:Addr) (ps qs:List Addr) (rs:List (List Nat)),SD.Sub M M'->OG ws (2*ws.length) rs->M' lo=MA (.lst (ps.map D.ref))->M' li=MA (.lst (qs.map D.ref))->RL M' ps (rs.filter (aK ws))->RL M' qs (rs.filter fun r=>!aK ws r)->M lo=MB->M li=MB->(∀p∈ps++qs,M p=MB)->Q (.tup [.ref lo,.ref li]) M')
theorem jk(T:Tx K mg):Cal P w K mg base 8 "outer_and_inner" (Oq NV):=by
 refine fj (k:=7) T.f_outer_and_inner cY fun f cdv A outer s H E hr=>⟨_,(aq (fP 1 2 rfl cY.nd (ae (bz ak) (ae (bz ak) ak))) (aq (b6 Je rfl (aV (av (rX T).m hr (ae (dv 0) ak))) (aE 3 cY.nd) (aw (bF (aM (fU hr.units) (aC (av (pD T).m hr (ae (dv 0) (ae (dv 3) ak))) ao) ao) (aw (bS (bc (dv 1) (ae (dv 3) ak)))) (aw (bS (bc (dv 2) (ae (dv 3) ak))))))) (aw (aF (aJ (ae (dv 1) (ae (dv 2) ak))))))),fun _ M Q h=>?_⟩;obtain⟨t,b,X,Y,ws,rfl,S,I,hU,hF,k⟩:=h;refine⟨Mm rfl,fun x L=>⟨Mm rfl,fun n N=>?_⟩⟩;have q:x≠n:=az ag N;have J:M n=MB:=by have h:=N;rw[au q.symm]at h;exact h
 refine⟨_,_,rfl,?_⟩;refine⟨_,rfl,t,b,X,Y,ws,rfl,S,I,hU,hF,fun y lr pr C O F a0 R c0 g0=>?_⟩;have d0:y x=MA (.lst []):=O _ _ (by rw[au q,ag]);have e0:y n=MA (.lst []):=O _ _ ag;have h0:SD.Sub M y:=SD.Sub.trans (.new N (.new L .refl)) O;have i0:lr≠x:=fun z=>by subst z;rw[au q,ag]at F;cases F
 have k0:lr≠n:=fun z=>by subst z;rw[ag]at F;cases F
 have pn:∀p∈pr,p≠x/\p≠n/\M p=MB:=fun p g=>by
  have h:=(g0 p g).2
  have a:p≠n:=fun z=>by subst z;rw[ag]at h;cases h
  rw[au a]at h
  have c:p≠x:=fun z=>by subst z;rw[ag]at h;cases h
  rw[au c]at h
  exact⟨c,a,h⟩
 have l0:=kD R;have m0:=c0.len;have f0:=i9 hU hF (IX _) R;refine⟨_,a0,?_⟩;refine⟨fun i δ G=>∃(ps qs:List Addr) (o3:Option D),δ=[MA (.tup (ws.map (Ms t b X Y))),MA (.ref x),MA (.ref n),o3]/\(∀c,c≠x->c≠n->G c=y c)/\G x=MA (.lst (ps.map D.ref))/\G n=MA (.lst (qs.map D.ref))/\RL y ps ((C.take i).filter (aK ws))/\RL y qs ((C.take i).filter fun r=>!aK ws r)/\ps.length<=i/\qs.length<=i/\∀p∈ps++qs,p∈pr,⟨[],[],_,rfl,fun _ _ _=>rfl,d0,e0,.nil,.nil,IX _,IX _,fun p g=>by cases g⟩,fun i δ G _ z=>by obtain⟨_,_,_,_,z,_⟩:=z;show G lr=_;rw[z lr i0 k0];exact a0,?_,?_⟩
 ·rintro i d δ G hi hd ⟨ps,qs,o3,rfl,l,u,v,U,R2,l1,l2,j⟩;have hi:i<pr.length:=by have:i<(pr.map D.ref).length:=hi;simpa using this
  have hd:(pr.map D.ref)[i]?=MA d:=hd;rw[IW,IS hi]at hd;cases hd;obtain⟨r,er,V⟩:=c0.get hi;have W:pr[i]∈pr:=JS hi;obtain⟨p1,p2,p3⟩:=pn _ W;have A:=f0 r (IZ er);refine⟨_,rfl,_,rfl,t,b,X,Y,ws,pr[i],r,rfl,rfl,(by rw[l _ p1 p2];exact V),S,hU,I,by have:=A.len;omega,A.lt,fun n0 B hB o0 bt et=>?_⟩;refine⟨_,rfl,trivial,_,rfl,?_⟩;have sg:=xj hU hF A.rng S.t0 S.b0 hB et;have Z:=gE (aK ws) C er;have f2:=gE (fun r=>!aK ws r) C er;refine bO (fun h=>?_) (fun h=>?_)
  ·have o:aK ws r=MC:=by rw[<-sg];exact h
   rw[o]at Z f2;rw[MF rfl]at Z;rw[ME ⋯,JM]at f2;refine⟨_,rfl,x,_,rfl,u,_,rfl,_,_,rfl,u,(by rw[IU];omega),?_⟩;refine⟨ps++[pr[i]],qs,_,rfl,fun c a c2=>by rw[au a];exact l c a c2,by rw[ag,Jg];rfl,by rw[au q.symm];exact v,by rw[Z];exact U.snoc V,by rw[f2];exact R2,by simp;omega,(),fun p g=>?_⟩;rcases Jj.mp g with z|z
   ·rcases Jj.mp z with z|z
    ·exact j p (Jj.mpr (.inl z))
    ·rw[show p=pr[i] by simpa using z];exact W
   ·exact j p (Jj.mpr (.inr z))
  ·have o:aK ws r=MD:=by rw[<-sg];simpa using h
   rw[o]at Z f2;rw[ME ⋯,JM]at Z;rw[MF (show(!MD)=MC from rfl)]at f2;refine⟨_,rfl,n,_,rfl,v,_,rfl,_,_,rfl,v,(by rw[IU];omega),?_⟩;refine⟨ps,qs++[pr[i]],_,rfl,fun c a c2=>by rw[au c2];exact l c a c2,by rw[au q];exact u,by rw[ag,Jg];rfl,by rw[Z];exact U,by rw[f2];exact R2.snoc V,(),by simp;omega,fun p g=>?_⟩;rcases Jj.mp g with z|z
   ·exact j p (Jj.mpr (.inl z))
   ·rcases Jj.mp z with z|z
    ·exact j p (Jj.mpr (.inr z))
    ·rw[show p=pr[i] by simpa using z];exact W
 ·rintro δ G ⟨ps,qs,o3,rfl,l,u,v,U,R2,l1,l2,j⟩;have et:C.take (pr.map D.ref).length=C:=K8 (by rw[IU];omega);have U:RL y ps ((C.take (pr.map D.ref).length).filter (aK ws)):=U;have R2:RL y qs ((C.take (pr.map D.ref).length).filter fun r=>!aK ws r):=R2;rw[et]at U R2;have kp:∀p∈ps++qs,G p=y p:=fun p g=>let z:=pn p (j p g);l p z.1 z.2.1
  refine⟨_,rfl,_,rfl,Mm rfl,NA (k G x n ps qs C (fun a o h=>?_) R u v (U.mono fun p g o e=>by rw[kp p (Jj.mpr (.inl g))];exact e) (R2.mono fun p g o e=>by rw[kp p (Jj.mpr (.inr g))];exact e) L J fun p g=>(pn p (j p g)).2.2)⟩;rw[l a (fun z=>by subst z;rw[L]at h;cases h) (fun z=>by subst z;rw[J]at h;cases h)];exact h0 _ _ h
theorem tI:Mk ["one","other"] ["one","other"] (ay ny):=by walk_at "sc"
inductive PJ(x y:D)(M:MH)(Q:DK):Prop
 |mk (q r:Rat) (_:x=Mh q) (_:y=Mh r) (_:MW 100000 q) (_:MW 100000 r) (_:Q (.bl (decide (q<r))) M)
theorem nR(T:Tx K mg):Cal P w K mg base 1 "is_less" (NU PJ):=by refine bQ (k:=0) T.f_is_less tI fun f cdv A outer s H E c=>⟨_,(aw (aF (cg (dP c.units) (aB aS (aC (dv 0) ao) (aC (dv 1) ao)) (aB aS (aC (dv 1) ao) (aC (dv 0) ao))))),fun _ _ M Q h=>?_⟩;obtain⟨q,r,rfl,rfl,a,b,k⟩:=h;refine⟨_,rfl,_,rfl,_,rfl,_,rfl,ff (a.1.mono ⋯) (b.2.mono ⋯),?_⟩;refine⟨_,rfl,_,rfl,_,rfl,_,rfl,ff (b.1.mono ⋯) (a.2.mono ⋯),trivial,?_⟩;dsimp only;rw[Ma.Hg];exact NA k
theorem qX:Mk ["one","other"] ["one","other"] (ay lW):=by walk_at "sc"
inductive Oh(x y:D)(M:MH)(Q:DK):Prop
 |mk (a b c d:Rat) (_:x=Mg a b) (_:y=Mg c d) (_:MW 100000 a) (_:MW 100000 b) (_:MW 100000 c) (_:MW 100000 d) (_:Q (.bl (decide (a<c\/a=c/\b<d))) M)
theorem dz(T:Tx K mg):Cal P w K mg base 2 "is_ahead" (NU Oh):=by
 refine bQ (k:=1) T.f_is_ahead qX fun f cdv A outer s H E g=>⟨_,(aq (bF (aM (cU g.units) (aC (dv 0) ao) (aC (dv 1) ao)) (aw (aF (av (nR T).m g (ae (aC (dv 0) ao) (ae (aC (dv 1) ao) ak))))) aR) (aw (aF (av (nR T).m g (ae (aC (dv 0) ao) (ae (aC (dv 1) ao) ak)))))),fun _ _ M Q h=>?_⟩;obtain⟨a,b,c,d,rfl,rfl,i,j,l,n,k⟩:=h;refine⟨_,rfl,_,rfl,_,rfl,_,rfl,_,_,Pd.of rfl,Pd.of rfl,rfl,rfl,?_⟩;rw[Ma.sO];refine⟨_,rfl,?_⟩;refine bO (fun h=>?_) (fun h=>?_)
 ·have e:a=c:=by simpa using h
  subst e;refine⟨_,rfl,_,rfl,_,rfl,_,rfl,b,d,rfl,rfl,j,n,?_⟩
  have z:(a<a\/a=a/\b<d)↔b<d:=by
   have:=Rat.lt_irrefl (a:=a)
   simp[this]
  rw[decide_eq_decide.mpr z]at k;exact NA k
 ·have e:¬a=c:=by simpa using h
  refine⟨_,rfl,_,rfl,_,rfl,_,rfl,a,c,rfl,rfl,i,l,?_⟩;have z:(a<c\/a=c/\b<d)↔a<c:=by simp[e]
  rw[decide_eq_decide.mpr z]at k;exact NA k
theorem mM:Mk ["one","other"] ["one","other"] (ay jg):=by walk_at "sc"
inductive OE(x y:D)(M:MH)(Q:DK):Prop
 |mk (c d g h:Rat) (_:x=Mg c d) (_:y=Mg g h) (_:MW 100000 c) (_:MW 100000 d) (_:MW 100000 g) (_:MW 100000 h) (_:∀s:Rat×Rat,s=(if MX c d g h then(c,d)else(g,h))->Q (Mg s.1 s.2) M)
theorem jh(T:Tx K mg):Cal P w K mg base 3 "earlier_of" (NU OE):=by
 refine bQ (k:=2) T.f_earlier_of mM fun f cdv A outer s H E b=>⟨_,(aw (aF (jv (dM (av (dz T).m b (ae (dv 0) (ae (dv 1) ak)))) (dv 0) (dv 1)))),fun _ _ M Q h=>?_⟩;obtain⟨c,d,g,a,rfl,rfl,e,i,j,l,k⟩:=h;refine⟨_,rfl,_,rfl,c,d,g,a,rfl,rfl,e,i,j,l,_,rfl,?_⟩;refine bO (fun h=>?_) (fun h=>?_)
 ·have z:MX c d g a:=by simpa[MX]using h
  have:=k (c,d) (by rw[MF z]);exact⟨_,rfl,NA this⟩
 ·have z:¬MX c d g a:=by simpa[MX]using h
  have:=k (g,a) (by rw[ME z]);exact⟨_,rfl,NA this⟩
theorem cX:Mk ["plot","ring","first","face"] ["plot","ring"] (ay gL):=by walk_at "sc"
inductive Nd(u v:D)(M:MH)(Q:DK):Prop
 |mk (t b X Y:Int) (ws:List Wl) (p:Addr) (r:List Nat) (_:u=.tup (ws.map (Ms t b X Y))) (_:v=.ref p) (_:M p=MA (.lst (r.map fun g:Nat=>D.int (g:Int)))) (_:Nh t b X Y) (_:(∀w∈ws,Mn w)) (_:ws.length<=40) (_:0<r.length) (_:(∀g∈r,g<2*ws.length)) (_:Q (OJ t b X Y (fc ws r)) M)
theorem mJ(T:Tx K mg):Cal P w K mg base 4 "first_corner" (NU Nd):=by
 refine bQ (k:=3) T.f_first_corner cX fun f cdv A outer s H E j=>⟨_,(aq (aD 2 cX.nd (aC (av (cE T).m j (ae (dv 0) (ae (aC (dv 1) ao) ak))) ao)) (aq (b6 Je rfl (aV (dv 1)) (aE 3 cX.nd) (aw (aD 2 cX.nd (av (jh T).m j (ae (dv 2) (ae (aC (av (cE T).m j (ae (dv 0) (ae (dv 3) ak))) ao) ak)))))) (aw (aF (dv 2))))),fun _ _ M Q h=>?_⟩;obtain⟨t,b,X,Y,ws,p,r,rfl,rfl,v,S,F,G,c,j,k⟩:=h
 obtain⟨n,I,x⟩:∃n I,r=n::I:=by
  cases r with
  |nil=>simp at c
  |cons a l=>exact⟨a,l,rfl⟩
 have q:∀{z:Vc},N8 z->MW 100000 (MV t b X 1 z.1)/\MW 100000 (MV t b Y 1 z.2):=fun{z} h=>by
  have one:(0:Int)<1/\(1:Int)<=10^6:=⋯
  exact⟨(S.bx one (by have:=h.1;omega)).mono ⋯,(S.by' one (by have:=h.2;omega)).mono ⋯⟩
 refine⟨_,rfl,_,rfl,_,_,v,(show atI _ ((0:Nat):Int)=MA (.int (n:Int))from bY (by rw[x];rfl)),t,b,X,Y,ws,n,rfl,rfl,j n (by rw[x];simp),(),_,rfl,?_⟩;refine⟨_,rfl,_,v,?_⟩;refine⟨fun i δ u=>u=M/\∃y:Option D,δ=[MA (.tup (ws.map (Ms t b X Y))),MA (.ref p),MA (OJ t b X Y (Q9 ws r i)),y],⟨rfl,_,by rw[x];rfl⟩,fun i δ u _ z=>by obtain⟨rfl,_⟩:=z;exact v,?_,?_⟩
 ·rintro i d δ u o hd ⟨rfl,y,rfl⟩;have o:i<r.length:=by have:i<(r.map fun g:Nat=>D.int (g:Int)).length:=o;simpa using this
  have hd:(r.map fun g:Nat=>D.int (g:Int))[i]?=MA d:=hd;rw[IW,IS o]at hd;cases hd;have J:=j r[i] (JS o);have b1:=oW F j c i ();have B:=pE F J;refine⟨_,rfl,_,rfl,_,rfl,t,b,X,Y,ws,r[i],rfl,rfl,J,(),_,rfl,?_⟩;refine⟨_,_,_,_,rfl,rfl,(q b1).1,(q b1).2,(q B).1,(q B).2,fun s C=>?_⟩;have C:=C.trans (GK (X:=X) (Y:=Y) S.t0 S.b0 b1 B);subst C;exact⟨rfl,_,by rw[qO (IS o)];rfl⟩
 ·rintro δ u ⟨rfl,y,rfl⟩;have e:Q9 ws r (r.map fun g:Nat=>D.int (g:Int)).length=fc ws r:=by rw[IU];rfl
  refine⟨_,rfl,NA ?_⟩;dsimp only;rw[e];exact k
theorem cG:Mk ["row","spot","low","high","middle"] ["row","spot"] (ay iz):=by walk_at "sc"
inductive Nn(x y:D)(M:MH)(Q:DK):Prop
 |mk (l:Addr) (t b X Y:Int) (ps:List Vc) (u:Vc) (_:x=.ref l) (_:y=OJ t b X Y u) (_:M l=MA (.lst (ps.map (OJ t b X Y)))) (_:Nh t b X Y) (_:ps.length<=200) (_:(∀p∈ps,N8 p)) (_:N8 u) (_:ps.Pairwise Nc) (_:∀j:Nat,j<=ps.length->(∀i,i<j->Nc (p0 ps i) u)->(∀i,j<=i->i<ps.length->¬Nc (p0 ps i) u)->Q (.int (j:Int)) M)
theorem mP(T:Tx K mg):Cal P w K mg base 3 "place_among" (NU Nn):=by
 refine bQ (k:=2) T.f_place_among cG fun f cdv A outer s H E v=>⟨_,(aq (fP 2 3 rfl cG.nd (ae ao (ae (aN cR rfl T.b_len cT (ae (dv 0) ak)) ak))) (aq (fI Je (aM (dP v.units) (dv 2) (dv 3)) (aq (aD 4 cG.nd (aB eV (aB aO (dv 2) (dv 3)) ao)) (aw (bF (dM (av (dz T).m v (ae (aC (dv 0) (dv 4)) (ae (dv 1) ak)))) (aw (aD 2 cG.nd (aB aO (dv 4) ao))) (aw (aD 3 cG.nd (dv 4))))))) (aw (aF (dv 2))))),fun _ _ M Q h=>?_⟩;obtain⟨l,t,b,X,Y,ps,u,rfl,rfl,x,S,O,F,o,y,k⟩:=h;have G:(ps.map (OJ t b X Y)).length=ps.length:=by simp
 refine⟨_,rfl,_,x,_,_,rfl,?_⟩;refine⟨fun m δ B=>B=M/\∃(g d:Nat) (C:Option D),δ=[MA (.ref l),MA (OJ t b X Y u),MA (.int (g:Int)),MA (.int (d:Int)),C]/\g<=d/\d<=ps.length/\(∀i,i<g->Nc (p0 ps i) u)/\(∀i,d<=i->i<ps.length->¬Nc (p0 ps i) u)/\m=d-g,⟨_,rfl,0,ps.length,_,by rw[G];rfl,K6 _,IX _,fun i d=>(),fun i I p=>(),rfl⟩,?_⟩;rintro m δ B ⟨rfl,g,d,C,rfl,I,p,a,c,R⟩;refine⟨_,rfl,_,rfl,trivial,_,rfl,?_⟩;refine bO (fun h=>?_) (fun h=>?_)
 ·have J:g<d:=by
   have:(g:Int)<(d:Int):=by simpa using h
   omega
  have n:Int.fdiv ((g:Int)+(d:Int)) 2=(((g+d)/2:Nat):Int):=by rw[JQ _ ⋯];omega
  have j:(g+d)/2<ps.length:=()
  refine⟨_,rfl,_,rfl,⟨⋯,bP ⋯⟩,?_⟩;dsimp only;rw[n];generalize U:(g+d)/2=q at j ⊢;have L:ps[q]?=MA (p0 ps q):=by unfold p0;simp[j]
  have r:=F _ (tp j);refine⟨_,rfl,_,rfl,_,_,x,bY (by rw[IW,L];rfl),_,rfl,_,_,_,_,rfl,rfl,(r.bx S).mono ⋯,(r.by' S).mono ⋯,(o.bx S).mono ⋯,(o.by' S).mono ⋯,_,rfl,?_⟩;have ah:=zR (X:=X) (Y:=Y) S.t0 S.b0 r o;refine bO (fun h=>?_) (fun h=>?_)
  ·have z:Nc (p0 ps q) u:=ah.mp (by simpa[MX]using h);refine⟨_,rfl,d-(q+1),(),rfl,q+1,d,_,rfl,(),p,fun i N=>?_,c,rfl⟩;by_cases e:i=q
   ·subst e;exact z
   ·have:=KY.mp y i q () j ();have e1:p0 ps i=ps[i]:=by unfold p0;simp[show i<ps.length by omega]
    have e2:p0 ps q=ps[q]:=by unfold p0;simp[j]
    rw[e2]at z;rw[e1];unfold Nc at z this ⊢;omega
  ·have z:¬Nc (p0 ps q) u:=fun w=>by
    have:=ah.mpr w
    simp[MX]at h this
    exact absurd this (by simpa using h)
   refine⟨_,rfl,q-g,(),rfl,g,q,_,rfl,(),(),a,fun i V W=>?_,rfl⟩;by_cases e:i=q
   ·subst e;exact z
   ·have:=KY.mp y q i j () ();have e1:p0 ps i=ps[i]:=by unfold p0;simp[show i<ps.length by omega]
    have e2:p0 ps q=ps[q]:=by unfold p0;simp[j]
    rw[e2]at z;rw[e1];unfold Nc at z this ⊢;omega
 ·have:g=d:=by
   have:¬(g:Int)<(d:Int):=by simpa using h
   omega
  subst this;(repeat (first|refine⟨_,rfl,?_⟩|refine⟨trivial,?_⟩|refine⟨_,_,rfl,?_⟩|refine⟨rfl,?_⟩|refine⟨Mm rfl,?_⟩))
  exact NA (k g p a c)
theorem eK:Mk ["spots","row","spot"] ["spots"] (ay ig):=by walk_at "sc"
inductive Nt(x:D)(M:MH)(Q:DK):Prop
 |mk (l:Addr) (t b X Y:Int) (us:List Vc) (_:x=.ref l) (_:M l=MA (.lst (us.map (OJ t b X Y)))) (_:Nh t b X Y) (_:us.length<=200) (_:(∀p∈us,N8 p)) (_:us.Nodup) (_:∀(M':MH) (z:Addr) (ps:List Vc),SD.Sub M M'->M z=MB->M' z=MA (.lst (ps.map (OJ t b X Y)))->ps.Perm us->ps.Pairwise Nc->Q (.ref z) M')
theorem mZ(T:Tx K mg):Cal P w K mg base 4 "ahead_first" (Oq Nt):=by
 refine fj (k:=3) T.f_ahead_first eK fun f cdv A outer s H E hr=>⟨_,(aq (aD 1 eK.nd (bz ak)) (aq (b6 Je rfl (aV (dv 0)) (aE 2 eK.nd) (aw (bS (gy (dv 1) (ae (av (mP T).m hr (ae (dv 1) (ae (dv 2) ak))) (ae (dv 2) ak)))))) (aw (aF (dv 1))))),fun _ M Q h=>?_⟩;obtain⟨l,t,b,X,Y,us,rfl,I,S,hn,V,nd,k⟩:=h;refine⟨Mm rfl,fun z C=>?_⟩;have J:l≠z:=az I C;refine⟨_,rfl,us.map (OJ t b X Y),(by show(aA M z _) l=_;rw[au J];exact I),?_⟩;refine⟨fun i δ n=>∃(ps:List Vc) (L:Option D),δ=[MA (.ref l),MA (.ref z),L]/\SD.Sub M n/\n z=MA (.lst (ps.map (OJ t b X Y)))/\ps.Perm (us.take i)/\ps.Pairwise Nc,⟨[],_,rfl,.new C .refl,ag,by simp,List.Pairwise.nil⟩,fun i δ n _ q=>let⟨_,_,_,x,_⟩:=q;x _ _ I,?_,?_⟩
 ·rintro i d δ n hi hd ⟨ps,L,rfl,x,g,r,F⟩;have hd:(us.map (OJ t b X Y))[i]?=MA d:=hd;rw[IW]at hd;cases v:us[i]? with
  |none=>rw[v]at hd;cases hd
  |some u=>
   rw[v]at hd
   cases hd
   have iu:i<us.length:=(J1.mp v).1
   have N:us[i]=u:=(J1.mp v).2
   have W:=V u (IZ v)
   have O:∀p∈ps,p∈us:=fun p y=>List.mem_of_mem_take (r.mem_iff.mp y)
   have B:∀p∈ps,N8 p:=fun p y=>V p (O p y)
   have a0:ps.length=i:=by rw[r.length_eq,L3];omega
   have nu:u∉ps:=fun y=>by
    have:=r.mem_iff.mp y
    obtain⟨j,G,Z⟩:=List.getElem_of_mem this
    have R:j<i:=by rw[L3]at G;omega
    rw[List.getElem_take]at Z
    have:=KY.mp nd j i () iu R
    exact this (Z.trans N.symm)
   refine⟨_,rfl,z,_,rfl,g,_,rfl,_,rfl,z,t,b,X,Y,ps,u,rfl,rfl,g,S,(),B,W,F,fun j G a c=>?_⟩
   obtain⟨i1,i2⟩:=Ea F G a fun i h1 U=>AY (B _ (tp U)) W (fun e=>nu (e▸tp U)) (c i h1 U)
   refine⟨_,rfl,_,_,j,rfl,g,by rw[IU];exact G,by rw[IU];omega,gA ps j u,_,rfl,fun a o h=>?_,by rw[ag,lP],?_,i1⟩
   ·rw[au (az h C)];exact x _ _ h
   ·rw[K9,v];exact i2.trans ((List.Perm.cons u r).trans (List.perm_append_singleton u (us.take i)).symm)
 ·rintro δ n ⟨ps,L,rfl,x,g,r,F⟩;have e:us.take (us.map (OJ t b X Y)).length=us:=by rw[IU,L5]
  exact⟨_,rfl,n,.refl,k n z ps x C g (by rw[<-e];exact r) F⟩
theorem wL:Mk ["wall","spot"] ["wall","spot"] (ay uI):=by walk_at "sc"
inductive Q0(u v:D)(M:MH)(Q:DK):Prop
 |mk (n:Nat) (a b c d x y:Rat) (_:u=MU a b c d) (_:v=Mg x y) (_:MW n a) (_:MW n b) (_:MW n c) (_:MW n d) (_:MW n x) (_:MW n y) (_:n<=100000) (_:Q (.bl (!decide (MX x y a b)&&decide (MX x y c d))) M)
theorem AU(T:Tx K mg):Cal P w K mg base 3 "spans" (NU Q0):=by
 refine bQ (k:=2) T.f_spans wL fun f cdv A outer s H E i=>⟨_,(aw (aF (xY (DL (av (dz T).m i (ae (dv 1) (ae (aC (dv 0) ao) ak)))) (sr (av (dz T).m i (ae (dv 1) (ae (aC (dv 0) ao) ak))))))),fun _ _ M Q h=>?_⟩;obtain⟨n,a,b,c,d,x,y,rfl,rfl,o,p,r,hd,j,l,t,k⟩:=h;have e:∀{q:Rat},MW n q->MW 100000 q:=fun z=>z.mono t;(try dsimp only[SD.gN,SD.ez,SD.aU,SD.g9,SD.ic,SD.dN,SD.fq,SD.tBD,SD.g8,SD.EndsD.nxt,SD.EndsD.lp])
 exact GW (!decide (MX x y a b)) (decide (MX x y c d)) (fun K g=>⟨_,rfl,_,rfl,_,rfl,x,y,a,b,rfl,rfl,e j,e l,e o,e p,_,rfl,g⟩) (fun _ K g=>⟨_,rfl,_,rfl,_,rfl,x,y,c,d,rfl,rfl,e j,e l,e r,e hd,g⟩) (NA k)
theorem q0:Mk ["one","other"] ["one","other"] (ay lM):=by walk_at "sc"
inductive Og(x y:D)(M:MH)(Q:DK):Prop
 |mk (a b e f:Rat) (_:x=Mg a b) (_:y=Mg e f) (_:MW 100000 a) (_:MW 100000 b) (_:MW 100000 e) (_:MW 100000 f) (_:∀s:Rat×Rat,s=(if MX e f a b then(a,b)else(e,f))->Q (Mg s.1 s.2) M)
theorem se(T:Tx K mg):Cal P w K mg base 3 "later_of" (NU Og):=by
 refine bQ (k:=2) T.f_later_of q0 fun f cdv A outer s H E c=>⟨_,(aw (aF (jv (dM (av (dz T).m c (ae (dv 1) (ae (dv 0) ak)))) (dv 0) (dv 1)))),fun _ _ M Q h=>?_⟩;obtain⟨a,b,e,f,rfl,rfl,d,g,i,j,k⟩:=h;refine⟨_,rfl,_,rfl,e,f,a,b,rfl,rfl,i,j,d,g,_,rfl,?_⟩;refine bO (fun h=>?_) (fun h=>?_)
 ·have z:MX e f a b:=by simpa[MX]using h
  have:=k (a,b) (by rw[MF z]);exact⟨_,rfl,NA this⟩
 ·have z:¬MX e f a b:=by simpa[MX]using h
  have:=k (e,f) (by rw[ME z]);exact⟨_,rfl,NA this⟩
theorem eU:Mk ["one","other","start","end","place","deciding"] ["one","other"] (ay k5):=by walk_at "sc"
inductive Oi(u v:D)(M:MH)(Q:DK):Prop
 |mk (t b X Y:Int) (U V:Wl) (_:u=Ms t b X Y U) (_:v=Ms t b X Y V) (_:Nh t b X Y) (_:Mn U) (_:Mn V) (_:Q (.bl (Mr U V)) M)
theorem sU(T:Tx K mg):Cal P w K mg base 4 "is_above" (NU Oi):=by
 refine bQ (k:=3) T.f_is_above eU fun f cdv A outer s H E x=>⟨_,(aq (fP 2 3 rfl eU.nd (ae (av (se T).m x (ae (aC (dv 0) ao) (ae (aC (dv 1) ao) ak))) (ae (av (jh T).m x (ae (aC (dv 0) ao) (ae (aC (dv 1) ao) ak))) ak))) (aq (bF (zy (dM (av (dz T).m x (ae (dv 2) (ae (dv 3) ak))))) (aw (aF j9)) aR) (aq (cI (jv (aM (cU x.units) (aC (dv 0) ao) (aC (dv 1) ao)) (aJ (ae ao (ae (dv 3) ak))) (aJ (ae ao (ae (dv 2) ak)))) (bZ rfl (aG (aE 4 eU.nd) (aG (aE 5 eU.nd) bG)))) (aq (bF (aM (cU x.units) (dv 5) (aC (dv 0) (dv 4))) (aw (aF (cg (cU x.units) (av (d4 T).m x (ae (dv 1) (ae (dv 5) ak))) ao))) aR) (aw (aF (cg (cU x.units) (av (d4 T).m x (ae (dv 0) (ae (dv 5) ak))) (j0 fh ao)))))))),fun _ _ M Q h=>?_⟩;obtain⟨t,b,X,Y,U,V,rfl,rfl,S,g,i,k⟩:=h;have C:=S.t0;have F:=S.b0;have one:(0:Int)<1/\(1:Int)<=10^6:=⋯
 have W6:∀{z:Int},(0<=z/\z<=20)->(-(10^6)<=z/\z<=10^6):=fun{z} h=>()
 have bx:∀{z:Int},(0<=z/\z<=20)->MW 200 (MV t b X 1 z):=fun{z} h=>S.bx one (W6 h);have by':∀{z:Int},(0<=z/\z<=20)->MW 200 (MV t b Y 1 z):=fun{z} h=>S.by' one (W6 h)
 have n:∀{q:Rat},MW 200 q->MW 100000 q:=fun z=>z.mono ⋯
 have W:∃r u:Int,(if MX (MV t b X 1 V.1) (MV t b Y 1 V.2.1) (MV t b X 1 U.1) (MV t b Y 1 U.2.1)then(MV t b X 1 U.1,MV t b Y 1 U.2.1)else(MV t b X 1 V.1,MV t b Y 1 V.2.1))=(MV t b X 1 r,MV t b Y 1 u)/\(0<=r/\r<=20)/\(0<=u/\u<=20)/\la r u=max (l1 U) (l1 V)/\((l1 V<l1 U/\r=U.1/\u=U.2.1)\/(¬l1 V<l1 U/\r=V.1/\u=V.2.1)):=by
  have z:=k7 (X:=X) (Y:=Y) (p:=V.1) (q:=V.2.1) (e:=U.1) (f:=U.2.1) C F i.b g.b
  by_cases y:la V.1 V.2.1<la U.1 U.2.1
  ·exact⟨U.1,U.2.1,by rw[MF (z.mpr y)],g.a,g.b,by unfold l1;omega,.inl ⟨y,rfl,rfl⟩⟩
  ·exact⟨V.1,V.2.1,by rw[ME (fun q=>y (z.mp q))],i.a,i.b,by unfold l1;omega,.inr ⟨y,rfl,rfl⟩⟩
 have G:∃ex v:Int,(if MX (MV t b X 1 U.2.2.1) (MV t b Y 1 U.2.2.2) (MV t b X 1 V.2.2.1) (MV t b Y 1 V.2.2.2)then(MV t b X 1 U.2.2.1,MV t b Y 1 U.2.2.2)else(MV t b X 1 V.2.2.1,MV t b Y 1 V.2.2.2))=(MV t b X 1 ex,MV t b Y 1 v)/\(0<=ex/\ex<=20)/\(0<=v/\v<=20)/\la ex v=min (l2 U) (l2 V)/\((l2 U<l2 V/\ex=U.2.2.1/\v=U.2.2.2)\/(¬l2 U<l2 V/\ex=V.2.2.1/\v=V.2.2.2)):=by
  have z:=k7 (X:=X) (Y:=Y) (p:=U.2.2.1) (q:=U.2.2.2) (e:=V.2.2.1) (f:=V.2.2.2) C F g.d i.d
  by_cases y:la U.2.2.1 U.2.2.2<la V.2.2.1 V.2.2.2
  ·exact⟨U.2.2.1,U.2.2.2,by rw[MF (z.mpr y)],g.c,g.d,by unfold l2;omega,.inl ⟨y,rfl,rfl⟩⟩
  ·exact⟨V.2.2.1,V.2.2.2,by rw[ME (fun q=>y (z.mp q))],i.c,i.d,by unfold l2;omega,.inr ⟨y,rfl,rfl⟩⟩
 obtain⟨r,u,es,Z,I,ls,cs⟩:=W;obtain⟨ex,v,ee,a0,J,le,ce⟩:=G;refine⟨_,rfl,_,rfl,_,rfl,_,rfl,_,_,_,_,rfl,rfl,n (bx g.a),n (by' g.b),n (bx i.a),n (by' i.b),fun s1 c0=>?_⟩;rw[es]at c0;subst c0;refine⟨_,rfl,_,rfl,_,rfl,_,rfl,_,_,_,_,rfl,rfl,n (bx g.c),n (by' g.d),n (bx i.c),n (by' i.d),fun s2 d0=>?_⟩;rw[ee]at d0;subst d0;refine⟨_,_,rfl,?_⟩;refine⟨_,rfl,_,rfl,MV t b X 1 r,MV t b Y 1 u,MV t b X 1 ex,MV t b Y 1 v,rfl,rfl,n (bx Z),n (by' I),n (bx a0),n (by' J),_,rfl,?_⟩;have L:=k7 (X:=X) (Y:=Y) (p:=r) (q:=u) (e:=ex) (f:=v) C F I J;rw[ls,le]at L;refine bO (fun h=>?_) (fun h=>?_)
 ·have N:¬(max (l1 U) (l1 V)<min (l2 U) (l2 V)):=fun z=>by
   have z':=L.mpr z
   unfold MX at z'
   simp[z']at h
  have e:Mr U V=MD:=by unfold Mr;rw[ME N]
  rw[e]at k;exact NA k
 have N:max (l1 U) (l1 V)<min (l2 U) (l2 V):=L.mp (Decidable.byContradiction fun z=>h ((Bool.not_eq_true' _).mpr (MG z)));dsimp only[SD.dN];refine bU (fun δ M'=>M'=M/\∃(pl j l O B:Int) (o2 o3:Option D),δ=[MA (Ms t b X Y U),MA (Ms t b X Y V),o2,o3,MA (.int pl),MA (Mg (MV t b X 1 j) (MV t b Y 1 l))]/\atI [Mg (MV t b X 1 U.1) (MV t b Y 1 U.2.1),Mg (MV t b X 1 U.2.2.1) (MV t b Y 1 U.2.2.2)] pl=MA (Mg (MV t b X 1 O) (MV t b Y 1 B))/\(0<=j/\j<=20)/\(0<=l/\l<=20)/\(0<=B/\B<=20)/\(la j l=la O B->decide (0<sd V j l)=Mr U V)/\(la j l≠la O B->decide (sd U j l<0)=Mr U V)) ?_ (fun hu=>?_);rotate_left
 ·refine⟨_,rfl,_,rfl,_,rfl,_,rfl,_,_,Pd.of rfl,Pd.of rfl,rfl,rfl,?_⟩;rw[Mf];refine⟨_,rfl,?_⟩;have q1:=jf (X:=X) (Y:=Y) (p:=U.1) (q:=U.2.1) (e:=V.1) (f:=V.2.1) C F g.b i.b;refine bO (fun h=>?_) (fun h=>?_)
  ·have e1:l1 U=l1 V:=q1.mp (by simpa using h);refine⟨_,rfl,Mm rfl,?_⟩;refine⟨_,rfl,rfl,_,_,rfl,_,_,rfl,rfl,?_⟩;refine hu _ _ ⟨rfl,1,ex,v,U.2.2.1,U.2.2.2,_,_,rfl,rfl,a0,J,g.d,fun z=>?_,fun z=>?_⟩
   ·rcases ce with⟨o,rfl,rfl⟩|⟨o,rfl,rfl⟩
    ·unfold Mr;rw[MF N,MF e1,MF o];rfl
    ·have y1:Mt U V=0:=p9 g i z.symm;have y2:sd V V.2.2.1 V.2.2.2=0:=p9 i i rfl;unfold Mr;rw[MF N,MF e1,ME o,y1,y2]
   ·rcases ce with⟨o,rfl,rfl⟩|⟨o,rfl,rfl⟩
    ·exact absurd rfl z
    ·unfold Mr;rw[MF N,MF e1,ME o];rfl
  ·have e1:¬l1 U=l1 V:=fun z=>h (by simpa using q1.mpr z);refine⟨_,rfl,Mm rfl,?_⟩;refine⟨_,rfl,rfl,_,_,rfl,_,_,rfl,rfl,?_⟩;refine hu _ _ ⟨rfl,0,r,u,U.1,U.2.1,_,_,rfl,rfl,Z,I,g.b,fun z=>?_,fun z=>?_⟩
   ·rcases cs with⟨o,rfl,rfl⟩|⟨o,rfl,rfl⟩
    ·unfold Mr;rw[MF N,ME e1,MF o];rfl
    ·exact absurd z.symm e1
   ·rcases cs with⟨o,rfl,rfl⟩|⟨o,rfl,rfl⟩
    ·exact absurd rfl z
    ·unfold Mr;rw[MF N,ME e1,ME o];rfl
 rintro δ M' ⟨rfl,pl,j,l,O,B,o2,o3,rfl,f0,e0,R,g0,c1,c2⟩;refine⟨_,rfl,_,rfl,_,rfl,_,f0,_,_,Pd.of rfl,Pd.of rfl,rfl,rfl,?_⟩;rw[Mf];have q2:=jf (X:=X) (Y:=Y) (p:=j) (q:=l) (e:=O) (f:=B) C F R g0;refine⟨_,rfl,?_⟩;refine bO (fun h=>?_) (fun h=>?_)
 ·have z:la j l=la O B:=q2.mp (by simpa using h);refine⟨_,rfl,_,rfl,200,_,_,_,_,_,_,rfl,rfl,bx i.a,by' i.b,bx i.c,by' i.d,bx e0,by' R,⋯,?_⟩;rw[jQ C F];have e:decide (Ji (sd V j l)=1)=Mr U V:=by rw[<-c1 z,MK];exact XT _
  show R5 Q (.bl (decide _)) _;rw[e];exact NA k
 ·have z:la j l≠la O B:=fun q=>h (by simpa using q2.mpr q);refine⟨_,rfl,_,rfl,200,_,_,_,_,_,_,rfl,rfl,bx g.a,by' g.b,bx g.c,by' g.d,bx e0,by' R,⋯,?_⟩;rw[jQ C F];have e:decide (Ji (sd U j l)=-1)=Mr U V:=by rw[<-c2 z,MK];exact HE _
  show R5 Q (.bl (decide _)) _;rw[e];exact NA k
theorem gM:Mk ["top","bottom","divisor"] ["top","bottom"] (ay kW):=by walk_at "sc"
inductive Oj(x y:D)(M:MH)(Q:DK):Prop
 |mk (t:_) (b:_) (_:x=.int t) (_:y=.int b) (_:b≠0) (_:Bd 8000 t) (_:Bd 8000 b) (_:Q (Mh (Rat.divInt t b)) M)
theorem lF(T:Tx K mg):Cal P w K mg base 2 "fraction" (NU Oj):=by
 refine bQ (k:=1) T.f_fraction gM fun f cdv A outer s H E e=>⟨_,(aq (bF (aM (cU e.units) (dv 1) ao) (aw yi) aR) (aq (aD 2 gM.nd (av (eD T).m e (ae (aN oV rfl T.b_abs oD (ae (dv 0) ak)) (ae (aN oV rfl T.b_abs oD (ae (dv 1) ak)) ak)))) (aq (bF (aM (dP e.units) (dv 1) ao) (aw (aD 2 gM.nd (j0 fh (dv 2)))) aR) (aw (aF (aJ (ae (aB eV (dv 0) (dv 2)) (ae (aB eV (dv 1) (dv 2)) ak)))))))),fun _ _ M Q h=>?_⟩;obtain⟨t,b,rfl,rfl,i,j,g,q⟩:=h;have l:=Ma.fF (t:=t) i;have a:Bd 8000 ((LB t.natAbs b.natAbs:Nat):Int):=g.of_le (by simpa using Nat.gcd_le_right t.natAbs (():0<b.natAbs));refine⟨_,rfl,_,rfl,jK (MG i) ?_⟩;refine⟨_,rfl,_,rfl,t.natAbs,b.natAbs,rfl,rfl,?_⟩;refine⟨_,rfl,trivial,_,rfl,?_⟩;refine bO (fun h=>?_) (fun h=>?_)
 ·have c:b<0:=by simpa using h
  obtain⟨e1,e2⟩:=Ma.uH (t:=t) c;refine⟨_,rfl,_,rfl,_,rfl,⟨(),a.neg⟩,_,rfl,_,rfl,⟨(),a.neg⟩,Mm rfl,?_⟩;dsimp only;rw[e1,e2];exact NA q
 ·have d:0<b:=by
   have:¬b<0:=by simpa using h
   omega
  obtain⟨e1,e2⟩:=Ma.uU (t:=t) d;refine⟨_,rfl,_,rfl,⟨(),a⟩,_,rfl,_,rfl,⟨(),a⟩,Mm rfl,?_⟩;dsimp only;rw[e1,e2];exact NA q
theorem gG:Mk ["spot","x","y"] ["spot"] (ay lJ):=by walk_at "sc"
inductive O9(x:D)(M:MH)(Q:DK):Prop
 |mk (a b:Rat) (_:x=Mg a b) (_:MW 8000 a) (_:MW 8000 b) (_:Q (Mg a b) M)
theorem k6(T:Tx K mg):Cal P w K mg base 3 "own_spot" (Oq O9):=by refine fj (k:=2) T.f_own_spot gG fun f cdv A outer s H E c=>⟨_,(aq (cI (dv 0) (bZ rfl (aG (aE 1 gG.nd) (aG (aE 2 gG.nd) bG)))) (aw (aF (aJ (ae (av (lF T).m c (ae (aC (dv 1) ao) (ae (aC (dv 1) ao) ak))) (ae (av (lF T).m c (ae (aC (dv 2) ao) (ae (aC (dv 2) ao) ak))) ak)))))),fun _ M Q h=>?_⟩;obtain⟨a,b,rfl,d,e,k⟩:=h;refine⟨_,rfl,_,rfl,rfl,_,_,rfl,_,_,rfl,rfl,?_⟩;refine⟨_,rfl,_,rfl,_,rfl,_,rfl,a.num,(a.den:Int),rfl,rfl,Mj a,d.1,d.2,?_⟩;refine⟨_,rfl,_,rfl,_,rfl,_,rfl,b.num,(b.den:Int),rfl,rfl,Mj b,e.1,e.2,Mm rfl,?_⟩;rw[Rat.num_divInt_den,Rat.num_divInt_den];exact NA k
theorem rk:Mk ["wall"] ["wall"] (ay mF):=by walk_at "sc"
inductive O8(x:D)(M:MH)(Q:DK):Prop
 |mk (a b c d:Rat) (_:x=MU a b c d) (_:MW 8000 a) (_:MW 8000 b) (_:MW 8000 c) (_:MW 8000 d) (_:Q (MU a b c d) M)
theorem tP(T:Tx K mg):Cal P w K mg base 4 "own_wall" (Oq O8):=by refine fj (k:=3) T.f_own_wall rk fun f cdv A outer s H E e=>⟨_,(aw (aF (aJ (ae (av (k6 T).m e (ae (aC (dv 0) ao) ak)) (ae (av (k6 T).m e (ae (aC (dv 0) ao) ak)) ak))))),fun _ M Q h=>?_⟩;obtain⟨a,b,c,d,rfl,g,i,j,l,k⟩:=h;exact⟨_,rfl,_,rfl,a,b,rfl,g,i,_,rfl,_,rfl,c,d,rfl,j,l,Mm rfl,NA k⟩
theorem eY:Mk ["walls","upper","wall"] ["walls"] (ay mB):=by walk_at "sc"
inductive O5(u:D)(M:MH)(Q:DK):Prop
 |mk (a:Addr) (t b X Y:Int) (us:List Wl) (top:Wl) (_:u=.ref a) (_:M a=MA (.lst (us.map (Ms t b X Y)))) (_:Nh t b X Y) (_:(∀w∈us,Mn w)) (_:top∈us) (_:(∀w∈us,w=top\/(Mr top w=MC/\Mr w top=MD))) (_:Q (Ms t b X Y top) M)
theorem rP(T:Tx K mg):Cal P w K mg base 5 "upper_of" (Oq O5):=by
 refine fj (k:=4) T.f_upper_of eY fun f cdv A outer s H E C=>⟨_,(aq (aD 1 eY.nd (aC (dv 0) ao)) (aq (b6 Je rfl (aV (dv 0)) (aE 2 eY.nd) (aw (bF (dM (av (sU T).m C (ae (dv 2) (ae (dv 1) ak)))) (aw (aD 1 eY.nd (dv 2))) aR))) (aw (aF (av (tP T).m C (ae (dv 1) ak)))))),fun _ M Q h=>?_⟩;obtain⟨a,t,b,X,Y,us,top,rfl,u,S,x,D,F,k⟩:=h;cases us with
 |nil=>cases D
 |cons g us=>
  refine⟨_,rfl,_,_,u,bY (j:=0) (v:=Ms t b X Y g) rfl,?_⟩
  refine⟨_,rfl,(g::us).map (Ms t b X Y),u,?_⟩
  refine⟨fun i δ p=>p=M/\∃l y,δ=[MA (.ref a),MA (Ms t b X Y l),y]/\l∈g::us/\(top∈(g::us).take i->l=top),⟨rfl,g,_,rfl,by simp,fun z=>by simp at z⟩,fun i δ p _ z=>by obtain⟨rfl,_⟩:=z;exact u,?_,?_⟩
  ·rintro i d δ p L hd ⟨rfl,l,y,rfl,n,o⟩;have hd:((g::us).map (Ms t b X Y))[i]?=MA d:=hd;rw[IW]at hd;cases r:(g::us)[i]? with
   |none=>rw[r]at hd;cases hd
   |some w=>
    rw[r]at hd
    cases hd
    have B:w∈g::us:=IZ r
    have G:∀z,z∈(g::us).take (i+1)->z∈(g::us).take i\/z=w:=fun z I=>by rw[K9,r]at I;simpa using I
    refine⟨_,rfl,_,rfl,t,b,X,Y,w,l,rfl,rfl,S,x w B,x l n,_,rfl,?_⟩
    refine bO (fun h=>?_) (fun h=>?_)
    ·refine⟨_,rfl,rfl,w,_,rfl,B,fun z=>?_⟩;rcases G _ z with z|z
     ·have:=o z;subst this;rcases F w B with q|q
      ·exact q
      ·rw[q.2]at h;cases h
     ·exact z.symm
    ·refine⟨rfl,l,_,rfl,n,fun z=>?_⟩;rcases G _ z with z|z
     ·exact o z
     ·subst z;rcases F l n with q|q
      ·exact q
      ·exact absurd q.1 h
  ·rintro δ p ⟨rfl,l,y,rfl,n,o⟩;have e:l=top:=o (by show top∈(g::us).take ((g::us).map (Ms t b X Y)).length;rw[K8 (by simp)];exact D);subst e;have W:=x l n;have one:(0:Int)<1/\(1:Int)<=10^6:=⋯
   have J:∀{z:Int},(0<=z/\z<=20)->(-(10^6)<=z/\z<=10^6):=fun{z} h=>()
   have bx:∀{z:Int},(0<=z/\z<=20)->MW 8000 (MV t b X 1 z):=fun{z} h=>(S.bx one (J h)).mono ⋯;have by':∀{z:Int},(0<=z/\z<=20)->MW 8000 (MV t b Y 1 z):=fun{z} h=>(S.by' one (J h)).mono ⋯
   exact⟨_,rfl,_,_,_,_,rfl,bx W.a,by' W.b,bx W.c,by' W.d,NA k⟩
theorem gD:Mk ["walls","spot","below"] ["walls","spot"] (ay gZ):=by walk_at "sc"
inductive Nl(u v:D)(M:MH)(Q:DK):Prop
 |mk (t b X Y:Int) (x y:Rat) (ws:List Wl) (_:u=.tup (ws.map (Ms t b X Y))) (_:v=Mg x y) (_:Nh t b X Y) (_:(∀w∈ws,Mn w)) (_:PF ws) (_:ws.length<=40) (_:MW 200 x) (_:MW 200 y) (_:(bT t b X Y ws x y=[]->Q .non M)) (_:∀tt∈bT t b X Y ws x y,(∀w∈(bT t b X Y ws x y).map (Mu ws),w=Mu ws tt\/(Mr (Mu ws tt) w=MC/\Mr w (Mu ws tt)=MD))->Q (Ms t b X Y (Mu ws tt)) M)
theorem m7(T:Tx K mg):Cal P w K mg base 6 "upper_below" (NU Nl):=by
 refine bQ (k:=5) T.f_upper_below gD fun f cdv A outer s H E p=>⟨_,(aq (dm 2 gD.nd (Ml.of (xs:=["wall"]) (js:=[1]) rfl) rfl (aV (dv 0)) (fun _ _ _ _=>(kL (lN (gH (dM (av (AU T).m p (ae (dv 0) (ae (dv 1) ak)))) (fg (aM (cU p.units) (av (d4 T).m p (ae (dv 0) (ae (dv 1) ak))) ao)))))) (fun _ _ _ _=>(dv 0))) (aw (aF (jv (Ek (dv 2)) (av (rP T).m p (ae (dv 2) ak)) mK)))),fun _ _ M Q h=>?_⟩;obtain⟨t,b,X,Y,x,y,ws,rfl,rfl,S,B,hF,G,I,J,U,k1⟩:=h;have C:(ws.map (Ms t b X Y)).length=ws.length:=by simp
 have one:(0:Int)<1/\(1:Int)<=10^6:=⋯
 have L:∀{z:Int},(0<=z/\z<=20)->(-(10^6)<=z/\z<=10^6):=fun{z} h=>()
 have bx:∀{z:Int},(0<=z/\z<=20)->MW 200 (MV t b X 1 z):=fun{z} h=>S.bx one (L h);have by':∀{z:Int},(0<=z/\z<=20)->MW 200 (MV t b Y 1 z):=fun{z} h=>S.by' one (L h)
 refine⟨_,rfl,ws.map (Ms t b X Y),rfl,kI (fun j=>if Bt t b X Y x y (wn ws j)=MC then MA (Ms t b X Y (wn ws j))else MB) (by show(ws.map (Ms t b X Y)).length<=1000000;rw[C];omega) (fun _ _ _=>rfl) ?_ (fun N i=>?_)⟩
 ·intro a d V O hd sb;have hd:(ws.map (Ms t b X Y))[a]?=MA d:=hd;have O:a<ws.length:=by have:a<(ws.map (Ms t b X Y)).length:=O;omega
  obtain⟨R,w2,Z⟩:=br (ws:=ws) (k:=(a:Int)) () ();have D:ws[a]?=MA (wn ws a):=by rw[Kx]at R;exact R
  rw[IW,D]at hd;cases hd;have W:=B _ Z;refine⟨_,rfl,fun K q=>?_,fun v r K q=>?_⟩
  ·have n:K (Bt t b X Y x y (wn ws a)) V:=by cases z:Bt t b X Y x y (wn ws a)<;>rw[z]at q<;>exact q
   unfold Bt at n;exact vC _ _ (fun K' g=>⟨_,rfl,_,rfl,200,_,_,_,_,_,_,rfl,rfl,bx W.a,by' W.b,bx W.c,by' W.d,I,J,⋯,_,rfl,g⟩) (fun _ K' g=>⟨_,rfl,_,rfl,200,_,_,_,_,_,_,rfl,rfl,bx W.a,by' W.b,bx W.c,by' W.d,I,J,⋯,_,rfl,g⟩) n
  ·cases z:Bt t b X Y x y (wn ws a)with
   |false=>rw[z]at r;cases r
   |true=>
    rw[z]at r
    cases r
    exact⟨_,rfl,q _ .refl⟩
 dsimp only;rw[xK];refine⟨_,rfl,N,_,rfl,ag,?_⟩;by_cases u:bT t b X Y ws x y=[]
 ·rw[u];exact jK rfl ⟨_,.new i .refl,U u⟩
 ·obtain⟨F,o,e⟩:=CQ S.t0 S.b0 B hF u
  refine yk (by
   cases z:bT t b X Y ws x y with
   |nil=>exact absurd z u
   |cons a l=>rfl) ?_
  refine⟨_,rfl,N,t,b,X,Y,(bT t b X Y ws x y).map (Mu ws),Mu ws F,rfl,ag,S,fun w hw=>?_,JH.mpr ⟨F,o,rfl⟩,e,⟨_,.new i .refl,k1 F o e⟩⟩;obtain⟨kk,hk,rfl⟩:=JH.mp hw;obtain⟨j,rfl,j1,_⟩:=oO.mp hk;exact aL B j1
theorem ik:Mk ["plot","lands","corner","wall"] ["plot","lands","corner"] (ay iW):=by walk_at "sc"
inductive OD(u v x:D)(M:MH)(Q:DK):Prop
 |mk (t b X Y:Int) (ws:List Wl) (l:Addr) (L:List Int) (c:Vc) (_:u=.tup (ws.map (Ms t b X Y))) (_:v=.ref l) (_:x=OJ t b X Y c) (_:M l=MA (.lst (L.map D.int))) (_:L.length=2*ws.length) (_:Nh t b X Y) (_:(∀w∈ws,Mn w)) (_:PF ws) (_:ws.length<=40) (_:N8 c) (_:Q (.int (O0 ws L c)) M)
theorem pM(T:Tx K mg):Cal P w K mg base 7 "land_about" (Qg OD):=by
 refine md (k:=6) T.f_land_about ik fun f cdv A outer s H E x=>⟨_,(aq (aD 3 ik.nd (av (m7 T).m x (ae (dv 0) (ae (dv 2) ak)))) (aw (aF (jv (aM BS (dv 3) mK) ao (aC (dv 1) (aB aS ao (tO (iB x) (dv 0) (ae (dv 3) ak)))))))),fun _ _ _ M Q h=>?_⟩;obtain⟨t,b,X,Y,ws,l,L,c,rfl,rfl,rfl,C,J,S,j,hF,n,u,k⟩:=h;have N:=u.1;have O:=u.2;have F:=FP (X:=X) (Y:=Y) S.t0 S.b0 j (p:=c.1) (q:=c.2) ();refine⟨_,rfl,_,rfl,t,b,X,Y,_,_,ws,rfl,rfl,S,j,hF,n,u.bx S,u.by' S,(fun G=>?_),(fun a d o=>?_)⟩<;>rw[F]at *
 ·have k:Q (.int 0) M:=by unfold O0 at k;rw[MF G]at k;exact k
  exact⟨_,rfl,_,rfl,_,rfl,yk rfl (NA k)⟩
 ·have sp:=i8 (jH d);obtain⟨z,R,I⟩:=br sp.1 sp.2.1;have tn:a.toNat<ws.length:=()
  have k:Q (.int ((L[2*a.toNat]?).getD 0)) M:=by unfold O0 at k;rw[ME (Kq d),Bh j hF d o]at k;exact k
  have B:2*a.toNat<L.length:=()
  rw[IS B]at k;refine⟨_,rfl,_,rfl,_,rfl,jK rfl ?_⟩;refine⟨_,rfl,_,rfl,_,rfl,_,rfl,_,Qh t b X Y (Mu ws a),a.toNat,rfl,(by simp;omega),Pd.of rfl,rfl,fun i y V r=>?_,?_⟩
  ·rw[IW]at r;cases g:ws[i]? with
   |none=>rw[g]at r;cases r
   |some U=>
    rw[g]at r
    cases r
    refine⟨Qh t b X Y U,Pd.of rfl,rfl,?_⟩
    by_cases e:i=a.toNat
    ·subst e;rw[z]at g;cases g;rw[zM,MI rfl]
    ·rw[MG e];exact CK S.t0 S.b0 (j _ (IZ g)) (j _ I) (hF i a.toNat _ _ e g z).ne
  ·refine⟨bA (bP ⋯),_,_,C,(by rw[show(2:Int)*((a.toNat:Nat):Int)=((2*a.toNat:Nat):Int) by omega];exact bY (v:=D.int L[2*a.toNat]) (by rw[IW,IS B];rfl)),NA k⟩
theorem aP:Mk ["plot","outers","inners","lands","number","ring","face","ring_at","corner","land"] ["plot"] (ay fD):=by walk_at "sc"
inductive N5(u:D)(M:MH)(Q:DK):Prop
 |mk (t b X Y:Int) (ws:List Wl) (_:u=.tup (ws.map (Ms t b X Y))) (_:Nh t b X Y) (_:ws.length<=40) (_:(∀w∈ws,Mn w)) (_:PF ws) (_:∀(M':MH) (z:Addr) (L:List Int),SD.Sub M M'->M z=MB->M' z=MA (.lst (L.map D.int))->dF ws L->Q (.ref z) M')
theorem fL(T:Tx K mg):Cal P w K mg base 9 "lands_of_faces" (Oq N5):=by
 refine fj (k:=8) T.f_lands_of_faces aP fun f cdv A outer s H E O=>⟨_,(aq (cI (av (jk T).m O (ae (dv 0) ak)) (bZ rfl (aG (aE 1 aP.nd) (aG (aE 2 aP.nd) bG)))) (aq (aD 3 aP.nd (aB uR (bz (ae ao ak)) (aB aS ao (aN cR rfl T.b_len cT (ae (dv 0) ak))))) (aq (b6 Je rfl (yz rfl T.b_enumerate (ae (dv 1) ak)) (bZ rfl (aG (aE 4 aP.nd) (aG (aE 5 aP.nd) bG))) (aw (b6 Je rfl (aV (dv 5)) (aE 6 aP.nd) (aw (cI (dv 4) (mE (dv 3) (dv 6))))))) (aq (wI 7 aP.nd (iB O) (Ml.of (xs:=["ring"]) (js:=[0]) rfl) rfl (aV (dv 2)) (fun _ _ _ _=>cJ) (fun _ _ _ _=>(av (mJ T).m O (ae (dv 1) (ae (dv 0) ak)))) (fun _ _ _ _=>(dv 0))) (aq (b6 Je rfl (aV (av (mZ T).m O (ae (c8 (yj rfl) rfl T.b_list u7 (ae (dv 7) ak)) ak))) (aE 8 aP.nd) (aq (aD 9 aP.nd (av (pM T).m O (ae (dv 0) (ae (dv 3) (ae (dv 8) ak))))) (aw (b6 Je rfl (aV (qc (iB O) (dv 7) (dv 8) (by intro _ _;with_unfolding_all rfl))) (aE 6 aP.nd) (aw (cI (dv 9) (mE (dv 3) (dv 6)))))))) (aw (aF (dv 3)))))))),fun _ M Q h=>?_⟩;obtain⟨t,b,X,Y,ws,rfl,S,U,hU,hF,k⟩:=h;have e0:(ws.map (Ms t b X Y)).length=ws.length:=by simp
 refine⟨_,rfl,t,b,X,Y,ws,rfl,S,U,hU,hF,fun M1 lo li ps qs rs m0 R ho hi RO RI m1 n1 o1=>?_⟩;refine⟨_,rfl,rfl,_,_,rfl,_,_,rfl,rfl,?_⟩;have RO:=RO;generalize J:rs.filter (aK ws)=l at RO;generalize N:(rs.filter fun r=>!aK ws r)=ins at RI;have d0:=i9 hU hF (IX _) R;have p1:=kD R;have q1:l.length<=80:=by rw[<-J];have:=List.length_filter_le (aK ws) rs;omega
 have r1:ins.length<=80:=by rw[<-N];have:=List.length_filter_le (fun r=>!aK ws r) rs;omega
 have n0:∀r∈l,XO ws r:=fun r O=>d0 r (by rw[<-J]at O;exact(J6.mp O).1);have V:∀r∈ins,XO ws r:=fun r O=>d0 r (by rw[<-N]at O;exact(J6.mp O).1);have b1:=RO.len;have c1:=RI.len;refine⟨Mm rfl,fun z0 o0=>⟨_,rfl,bA (bP ⋯),.int 0,ag,by rw[e0];omega,by rw[e0];omega,fun z hz=>?_⟩⟩;have W:SD.Sub M1 (aA (aA M1 z0 (.lst [.int 0])) z (.lst (Jk ((2:Int)*((ws.map (Ms t b X Y)).length:Nat)).toNat (.int 0)))):=.new hz (.new o0 .refl);have r0:(aA (aA M1 z0 (.lst [.int 0])) z (.lst (Jk ((2:Int)*((ws.map (Ms t b X Y)).length:Nat)).toNat (.int 0)))) z=MA (.lst ((fO (2*ws.length) l 0).map D.int)):=by rw[ag,e0,show((2:Int)*(ws.length:Nat)).toNat=2*ws.length by omega,fO,List.map_replicate]
 have nz:∀{a o},M1 a=MA o->a≠z:=fun h e=>by
  subst e
  have h0:=SD.Sub.new (o:=.lst [.int 0]) o0 .refl _ _ h
  rw[hz]at h0;cases h0
 have fz:M z=MB:=by
  cases e:M z with
  |none=>rfl
  |some o=>exact absurd rfl (nz (m0 _ _ e))
 generalize aA (aA M1 z0 (.lst [.int 0])) z (.lst (Jk ((2:Int)*((ws.map (Ms t b X Y)).length:Nat)).toNat (.int 0)))=M2 at W r0 ⊢;(try dsimp only[SD.aU])
 refine bU (fun δ y=>∃o4 o5 I:Option D,δ=[MA (.tup (ws.map (Ms t b X Y))),MA (.ref lo),MA (.ref li),MA (.ref z),o4,o5,I,MB,MB,MB]/\(∀c,c≠z->y c=M2 c)/\y z=MA (.lst ((fO (2*ws.length) l l.length).map D.int))) ?_ (fun hu=>?_);rotate_left
 ·refine⟨_,rfl,lo,ps.map D.ref,rfl,W _ _ ho,fun i δ y=>∃o4 o5 I:Option D,δ=[MA (.tup (ws.map (Ms t b X Y))),MA (.ref lo),MA (.ref li),MA (.ref z),o4,o5,I,MB,MB,MB]/\(∀c,c≠z->y c=M2 c)/\y z=MA (.lst ((fO (2*ws.length) l i).map D.int)),⟨_,_,_,rfl,fun _ _=>rfl,r0⟩,fun i δ y _ q=>by obtain⟨_,_,_,_,q,_⟩:=q;show y lo=_;rw[q lo (nz ho)];exact W _ _ ho,?_,?_⟩
  ·rintro i d δ y hi hd ⟨o4,o5,I,rfl,kM,v⟩;have hi:i<ps.length:=by have:i<(ps.map D.ref).length:=hi;simpa using this
   have hd:((ps.map D.ref)[i]?).map (fun d=>D.tup [.int ((i+1:Nat):Int),d])=MA d:=hd;rw[IW,IS hi]at hd;cases hd;obtain⟨r,er,f0⟩:=RO.get hi;have A:=n0 r (IZ er);have Z:M2 ps[i]=MA (.lst (r.map fun g:Nat=>D.int (g:Int))):=W _ _ f0;refine⟨_,rfl,rfl,_,_,rfl,_,_,rfl,rfl,?_⟩;(try dsimp only[SD.aU])
   refine Qi fun B hB=>?_;refine⟨_,rfl,r.map (fun g:Nat=>D.int (g:Int)),(by show y ps[i]=_;rw[kM _ (nz f0)];exact Z),fun j δ u=>∃I:Option D,δ=[MA (.tup (ws.map (Ms t b X Y))),MA (.ref lo),MA (.ref li),MA (.ref z),MA (.int ((i+1:Nat):Int)),MA (.ref ps[i]),I,MB,MB,MB]/\(∀c,c≠z->u c=M2 c)/\u z=MA (.lst ((iw (fO (2*ws.length) l i) r ((i+1:Nat):Int) j).map D.int)),⟨_,rfl,kM,v⟩,fun j δ u _ q=>by obtain⟨_,_,q,_⟩:=q;show u ps[i]=_;rw[q _ (nz f0)];exact Z,?_,?_⟩
   ·rintro j d δ u hj hd ⟨I,rfl,L,n⟩;have hj:j<r.length:=by have:j<(r.map fun g:Nat=>D.int (g:Int)).length:=hj;simpa using this
    have hd:(r.map fun g:Nat=>D.int (g:Int))[j]?=MA d:=hd;rw[IW,IS hj]at hd;cases hd;refine⟨_,rfl,_,rfl,_,rfl,_,r[j],n,ug (by rw[IU,gV,iE];exact A.lt _ (JS hj)),?_⟩;exact⟨_,rfl,fun c hc=>by rw[au hc];exact L c hc,by rw[ag,lK (IS hj),List.map_set]⟩
   ·rintro δ u ⟨I,rfl,L,n⟩;have n:u z=MA (.lst ((iw (fO (2*ws.length) l i) r ((i+1:Nat):Int) (r.map fun g:Nat=>D.int (g:Int)).length).map D.int)):=n;rw[IU]at n;exact hB _ _ ⟨_,_,_,rfl,L,by rw[n,fO,er];rfl⟩
  ·rintro δ y ⟨o4,o5,I,rfl,kM,v⟩;have v:y z=MA (.lst ((fO (2*ws.length) l (ps.map D.ref).length).map D.int)):=v;rw[IU,b1]at v;exact hu _ _ ⟨_,_,_,rfl,kM,v⟩
 rintro δ M3 ⟨o4,o5,I,rfl,d1,g0⟩;have G:∀{a o},M1 a=MA o->M3 a=MA o:=fun{a o} h=>by rw[d1 a (nz h)];exact W _ _ h
 refine⟨_,rfl,qs.map D.ref,G hi,by show(qs.map D.ref).length<=900000;rw[IU];omega,fun p hp=>?_⟩;have np:∀{a o},M3 a=MA o->a≠p:=fun h=>az h hp;refine⟨fun i kvs y=>Qw t b X Y ws ins qs i kvs/\y=aA M3 p (Nv kvs),⟨Qw.nil ..,rfl⟩,fun i kvs y _ q=>by obtain⟨_,rfl⟩:=q;show(aA M3 p _) li=_;rw[au (np (G hi))];exact G hi,?_,?_⟩
 ·rintro i kvs d y C hd ⟨RD,rfl⟩;have C:i<qs.length:=by have:i<(qs.map D.ref).length:=C;simpa using this
  have hd:(qs.map D.ref)[i]?=MA d:=hd;rw[IW,IS C]at hd;cases hd;obtain⟨r,er,s0⟩:=RI.get C;have A:=V r (IZ er);refine⟨_,rfl,?_⟩;dsimp only[SD.ly];refine C4 ?_;refine⟨_,rfl,_,rfl,t,b,X,Y,ws,qs[i],r,rfl,rfl,(by rw[au (np (G s0))];exact G s0),S,hU,U,A.pos,A.lt,?_⟩;refine⟨_,rfl,gk t b X Y (fc ws r),wZ ..,ag,?_,RD.put S.t0 S.b0 er (IS C),by rw[bR]⟩;have:=congrArg List.length RD.ks;rw[IU,IU]at this;have:=jo ws ins i;omega
 rintro kvs M4 ⟨RD,rfl⟩;have RD:Qw t b X Y ws ins qs (qs.map D.ref).length kvs:=RD;rw[IU,c1]at RD;have a0:(aA M3 p (Nv kvs)) z=MA (.lst ((fO (2*ws.length) l l.length).map D.int)):=by rw[au (np g0)];exact g0
 have i0:∀{a o},M1 a=MA o->(aA M3 p (Nv kvs)) a=MA o:=fun{a o} h=>by rw[au (np (G h))];exact G h
 have k0:(aA M3 p (Nv kvs)) p=MA (Nv kvs):=ag
 have fp:M1 p=MB:=by
  cases e:M1 p with
  |none=>rfl
  |some o=>rw[G e]at hp;cases hp
 generalize aA M3 p (Nv kvs)=M4 at a0 i0 k0 ⊢;refine⟨_,rfl,.inr ⟨p,kvs,rfl,k0,fun p2 Z=>?_⟩⟩
 have ek:kvs.map (fun x=>PX x.1)=(cC ws ins ins.length).map (OJ t b X Y):=by
  have:=congrArg (L0 PX) RD.ks
  rw[Ku,Ku]at this
  exact this
 have kb:∀c∈cC ws ins ins.length,N8 c:=fun c hc=>by
  obtain⟨j,_,hj,e⟩:=gX hc
  rw[IS hj]at e
  have A:=V _ (JS hj)
  rw[<-e]
  exact oW hU A.lt A.pos _ (IX _)
 have kl:=jo ws ins ins.length;refine⟨p2,t,b,X,Y,cC ws ins ins.length,rfl,(by rw[ag,ek]),S,(),kb,jZ ws ins _,fun M5 zc F e1 l0 u0 pm up=>?_⟩;have c0:∀{a o},M4 a=MA o->M5 a=MA o:=fun{a o} h=>e1 _ _ (by rw[au (az h Z)];exact h);have f1:=c0 a0;have g1:=c0 k0;have i1:zc≠z:=fun e=>by subst e;rw[au (az a0 Z)]at l0;rw[a0]at l0;cases l0
 have j1:p≠z:=fun e=>by subst e;rw[g0]at hp;cases hp
 refine⟨_,u0,?_⟩;refine⟨fun i δ y=>∃I o8 o9:Option D,δ=[MA (.tup (ws.map (Ms t b X Y))),MA (.ref lo),MA (.ref li),MA (.ref z),o4,o5,I,MA (.ref p),o8,o9]/\(∀c,c≠z->y c=M5 c)/\y z=MA (.lst ((fS ws ins (fO (2*ws.length) l l.length) F i).map D.int)),⟨_,_,_,rfl,fun _ _=>rfl,f1⟩,fun i δ y _ q=>by obtain⟨_,_,_,_,q,_⟩:=q;show y zc=_;rw[q zc i1];exact u0,?_,?_⟩
 ·rintro i d δ y C hd ⟨k1,o8,o9,rfl,kM,v⟩;have C:i<F.length:=by have:i<(F.map (OJ t b X Y)).length:=C;simpa using this
  have hd:(F.map (OJ t b X Y))[i]?=MA d:=hd;rw[IW,IS C]at hd;cases hd;have v0:=pm.mem_iff.mp (JS C);obtain⟨j,ej,hj,_⟩:=gX v0;have w0:j<qs.length:=()
  obtain⟨r,er,x0⟩:=RI.get w0;have A:=V r (IZ er);have y0:M5 qs[j]=MA (.lst (r.map fun g:Nat=>D.int (g:Int))):=c0 (i0 x0);have a1:=nz x0;have eS:fS ws ins (fO (2*ws.length) l l.length) F (i+1)=fill (fS ws ins (fO (2*ws.length) l l.length) F i) r (O0 ws (fS ws ins (fO (2*ws.length) l l.length) F i) F[i]):=by rw[fS,IS C,Option.getD_some,ej,Option.getD_some,er,Option.getD_some]
  (try dsimp only[SD.aU])
  refine Qi fun B hB=>?_;refine⟨_,rfl,_,rfl,_,rfl,t,b,X,Y,ws,z,fS ws ins (fO (2*ws.length) l l.length) F i,F[i],rfl,rfl,rfl,v,by rw[jR,iE],S,hU,hF,U,kb _ v0,?_⟩;refine⟨_,rfl,_,rfl,p,kvs,gk t b X Y F[i],.ref qs[j],rfl,wZ ..,(by rw[kM p j1];exact g1),(by rw[RD.vs,ej];show(qs[j]?).map D.ref=_;rw[IS w0];rfl),r.map (fun g:Nat=>D.int (g:Int)),(by show y qs[j]=_;rw[kM _ a1];exact y0),?_⟩;refine⟨fun a δ u=>∃I:Option D,δ=[MA (.tup (ws.map (Ms t b X Y))),MA (.ref lo),MA (.ref li),MA (.ref z),o4,o5,I,MA (.ref p),MA (OJ t b X Y F[i]),MA (.int (O0 ws (fS ws ins (fO (2*ws.length) l l.length) F i) F[i]))]/\(∀c,c≠z->u c=M5 c)/\u z=MA (.lst ((iw (fS ws ins (fO (2*ws.length) l l.length) F i) r (O0 ws (fS ws ins (fO (2*ws.length) l l.length) F i) F[i]) a).map D.int)),⟨_,rfl,kM,v⟩,fun a δ u _ q=>by obtain⟨_,_,q,_⟩:=q;show u qs[j]=_;rw[q _ a1];exact y0,?_,?_⟩
  ·rintro a d δ u ha hd ⟨I,rfl,L,n⟩;have ha:a<r.length:=by have:a<(r.map fun g:Nat=>D.int (g:Int)).length:=ha;simpa using this
   have hd:(r.map fun g:Nat=>D.int (g:Int))[a]?=MA d:=hd;rw[IW,IS ha]at hd;cases hd;refine⟨_,rfl,_,rfl,_,rfl,_,r[a],n,ug (by rw[IU,gV,jR,iE];exact A.lt _ (JS ha)),?_⟩;exact⟨_,rfl,fun c hc=>by rw[au hc];exact L c hc,by rw[ag,lK (IS ha),List.map_set]⟩
  ·rintro δ u ⟨I,rfl,L,n⟩;have n:u z=MA (.lst ((iw (fS ws ins (fO (2*ws.length) l l.length) F i) r (O0 ws (fS ws ins (fO (2*ws.length) l l.length) F i) F[i]) (r.map fun g:Nat=>D.int (g:Int)).length).map D.int)):=n;rw[IU]at n;exact hB _ _ ⟨_,_,_,rfl,L,by rw[n,eS];rfl⟩
 ·rintro δ y ⟨k1,o8,o9,rfl,kM,v⟩;have v:y z=MA (.lst ((fS ws ins (fO (2*ws.length) l l.length) F (F.map (OJ t b X Y)).length).map D.int)):=v;rw[IU]at v;refine⟨_,rfl,NA (k y z _ (fun a o h=>?_) fz v ⟨rs,F,R,by rw[N];exact pm,up,by rw[N,J]⟩)⟩;have h1:=m0 _ _ h;rw[kM a (nz h1)];exact c0 (i0 h1)
theorem ft:Mk ["_law_script","_law_k","_law_row","_law_scale_here","_law_shuts","_law_plot","_law_due","_law_found"] ["_law_script"] (ay Cm):=by walk_at "sc"
inductive Q1(x:D)(M:MH)(Q:DK):Prop
 |mk (ns:_) (hh0:x=.rol (L0 D.int ns)) (hh1:ns.length<=63) (hh2:∀M',Q (.bl MC) M'):Q1 x M Q
def jA:Ox:=fun a M Q=>match a with
 |[x]=>Q1 x M Q
 |_=>False
theorem Ew:∀a M Q,jA a M Q->a.length=1:=fun a M Q h=>by
 unfold jA at h;split at h
 ·rfl
 ·exact h.elim
theorem Fz{P:Jl}{w:JO}{K:I0}{mg:Str->Option IQ}{fa:Addr}(T:Tx K mg)(e0:mg "law"=MA (.ref fa)):∃fd,(∀(s:IT) (u:IQ),BindsTo s fd ⟨[u],[]⟩ [("_law_script",u)])/\∀base:Heap,N3 P w K mg base Oo 10 fa fd ["_law_script"] (iG K jA):=by
 refine Hw (k:=9) (N:=["_law_script","_law_k","_law_row","_law_scale_here","_law_shuts","_law_plot","_law_due","_law_found"]) T.f_law e0 ft (fun _ _ _ _ _ _ us hl=>by obtain⟨_,rfl⟩:=SD.Ae hl;rfl) Ew fun base f cdv A outer s H E p=>⟨_,(aq (de Je rfl rfl T.b_range (ae (aN (oZ rfl p.units) rfl T.b_max sR (ae ao (ae (aN (iX rfl p.units) rfl T.b_min k8 (ae ao (ae (aN cR rfl T.b_len cT (ae (dv 0) ak)) ak))) ak))) ak) (aE 1 ft.nd) (aq (aD 2 ft.nd (bz (ae (av (mW T).m p (ae (dv 0) (ae (dv 1) ak))) (ae ao ak)))) (aq (aD 3 ft.nd (av (qW T).m p (ae (dv 2) ak))) (aq (aD 4 ft.nd (av (jM T).m p (ae (dv 2) (ae ao (ae ao ak))))) (aq (bF (aM (cU p.units) (av (aH T).m p (ae (dv 2) (ae ao ak))) ao) (aw (aD 4 ft.nd (av (vF T).m p (ae (dv 2) ak)))) aR) (aq (bF (aM (cU p.units) (av (aH T).m p (ae (dv 2) (ae ao ak))) ao) (aw (aD 4 ft.nd (av (mN T).m p (ae (dv 2) ak)))) aR) (aq (aD 5 ft.nd (av (tS T).m p (ae (dv 3) (ae (dv 4) ak)))) (aq (aD 6 ft.nd (aC (av (qM T).m p (ae (dv 4) ak)) ao)) (aq (aD 7 ft.nd (av (fL T).m p (ae (dv 5) ak))) (aq (bF (lN (tW (zy (dM (aN (lq (K:=K) rfl) rfl T.b_isinstance ip (ae (dv 7) (ae (BU rfl T.b_list u7) ak))))) (tW (aM (eP p.units) (dv 7) (dv 6)) (tH (aM (yU (iB p)) j9 (iO (Ml.of (xs:=["_law_land"]) (js:=[]) rfl) rfl (aV (dv 7)) (fun _ _ _ _=>cJ) (fun _ _ _ _=>(aN (lq (K:=K) rfl) rfl T.b_isinstance ip (ae (dv 0) (ae (BU rfl T.b_bool A8) ak))))) (by with_unfolding_all rfl)))))) (aw (aF j9)) aR) (aq (bS (mX (dv 7))) (aq (bS (bc (dv 7) (ae ao ak))) (aw (bF (aM (eP p.units) (av (fL T).m p (ae (dv 5) ak)) (dv 6)) (aw (aF j9)) aR)))))))))))))) (aw (aF j9))),fun ds M Q h=>?r⟩
 case r=>
  unfold jA at h
  split at h
  case h_2=>exact h.elim
  obtain⟨ns,rfl,hl,k⟩:=h
  refine⟨_,rfl,(max 1 (min 2 (((L0 D.int ns).length:Nat):Int))).toNat,?_,(),fun i δ M=>∃o1 o2 o3 o4 o5 o6 o7,δ=[MA (.rol (L0 D.int ns)),o1,o2,o3,o4,o5,o6,o7],⟨_,_,_,_,_,_,_,rfl⟩,?_,fun _ _ _=>NA (k _)⟩
  ·rw[Int.toNat_of_nonneg ()]
  rintro i δ M hi ⟨o1,o2,o3,o4,o5,o6,o7,rfl⟩
  refine⟨_,rfl,_,rfl,ns,i,rfl,rfl,(),fun z=>⟨Mm rfl,fun n y0=>?_⟩⟩
  refine⟨_,rfl,n,z,0,rfl,ag,⋯,⋯,fun x1 c1 t b R V S h1 h2=>?_⟩
  refine⟨_,rfl,n,x1,c1,10,rfl,rfl,⋯,rfl,ag,h1,(),fun M2 x2 c2 l0 f0 x W X g0 g1 g2 g3 g4=>?_⟩
  (try dsimp only[SD.aU])
  refine bU (fun δ M'=>∃(l:Addr) (ws:List Wl) (x' c':Int),δ=[MA (.rol (L0 D.int ns)),MA (.int (i:Int)),MA (.ref n),MA (Ro t b R V),MA (.ref l),o5,o6,o7]/\M' n=MA (.lst [.int x',.int c'])/\M' l=MA (.lst (ws.map uw))/\n≠l/\0<=c'/\c'<=400/\ws.length<=40/\(∀w∈ws,Mn w)/\PF ws) ?_ (fun Y=>?_)
  rotate_left
  ·refine⟨_,rfl,n,3,x2,c2,rfl,rfl,W,g0,(),⋯,bP ⋯,fun Z v3 a1 b1=>⟨_,rfl,?_⟩⟩;refine bO (fun _=>?_) (fun _=>?_)
   ·exact⟨_,rfl,n,Z,c2+1,rfl,ag,(),(),fun M4 x4 c4 l ws C h0 i0 k0 d1 q1 q2 q3=>Y _ _ ⟨l,ws,x4,c4,rfl,h0,i0,C,k0,(),(),q2,q3⟩⟩
   ·exact Y _ _ ⟨l0,f0,Z,c2+1,rfl,ag,(by rw[au x.symm];exact X),x,(),(),(),g3,g4⟩
  clear W X g0 g1 g2 g3 g4 x
  rintro δ M3 ⟨l,ws,Z,c3,rfl,a0,y,C,b0,m0,lw,F,hF⟩
  refine bU (fun δ M'=>∃(l:Addr) (ws:List Wl),δ=[MA (.rol (L0 D.int ns)),MA (.int (i:Int)),MA (.ref n),MA (Ro t b R V),MA (.ref l),o5,o6,o7]/\M' l=MA (.lst (ws.map uw))/\ws.length<=40/\(∀w∈ws,Mn w)/\PF ws) ?_ (fun Y=>?_)
  rotate_left
  ·refine⟨_,rfl,n,10,Z,c3,rfl,rfl,a0,b0,(),⋯,bP ⋯,fun x4 v4 e1 f1=>⟨_,rfl,?_⟩⟩;refine bO (fun _=>?_) (fun _=>?_)
   ·exact⟨_,rfl,n,x4,c3+1,rfl,ag,(),(),fun M5 x5 c5 l' n0 z0 i1 o0 j1 k1 q1 q2 q3=>Y _ _ ⟨l',n0,rfl,o0,q3,q2,q1⟩⟩
   ·exact Y _ _ ⟨l,ws,rfl,(by rw[au C.symm];exact y),lw,F,hF⟩
  clear a0 y b0 m0 lw F hF C
  clear Z c3 ws l
  rintro δ M3 ⟨l,ws,rfl,y,lw,F,hF⟩
  have hW:∀w∈ws,X0 (10^6) w:=fun w hw=>by
   have h:=F w hw
   have U:∀z:Int,(0<=z/\z<=20)->(-(10^6)<=z/\z<=10^6):=fun z h=>()
   exact⟨U _ h.a,U _ h.b,U _ h.c,U _ h.d⟩
  refine⟨_,rfl,_,rfl,t,b,R,V,l,ws,rfl,rfl,y,S,(),hW,?_⟩
  refine⟨_,rfl,l,ws,rfl,y,lw,F,hF,fun M4 zd lo qs rs L m1 n1 I Ll al ho G RQ=>⟨_,rfl,?_⟩⟩
  refine⟨_,rfl,t,b,R,V,ws,rfl,S,lw,F,hF,fun M5 O B r0 s0 v il=>?_⟩
  have e:=al B il
  subst e
  have J:=r0 _ _ I
  have c0:zd≠O:=fun z=>by rw[z,s0]at I;cases I
  have p1:B.length<=80:=()
  refine⟨_,rfl,.inr ⟨O,_,"list",MC,rfl,v,rfl,_,rfl,jK rfl ?_⟩⟩
  refine⟨_,rfl,_,rfl,_,_,.lst v (dJ B),.lst J (dJ B),shaped_ints B,shaped_ints B,_,rfl,?_⟩
  rw[zj]
  refine jK rfl ?_
  refine⟨_,rfl,_,v,comp_map (fun _=>.bl MD) (by show(B.map D.int).length<=1000000;rw[IU];omega) (fun q ys hq=>by show(aA _ q _) O=_;rw[au (az v hq)];exact v) ?_ (fun lb d0=>?_)⟩
  ·intro j d M6 hj hd sb;have hd:(B.map D.int)[j]?=MA d:=hd;rw[IW]at hd;cases eg:B[j]? with
   |none=>rw[eg]at hd;cases hd
   |some g=>
    rw[eg]at hd
    cases hd
    exact⟨_,rfl,fun K hK=>⟨_,rfl,.inl ⟨"int",MD,rfl,rfl,hK _ .refl⟩⟩⟩
  refine⟨_,_,.bl MC,.inl (.lst ag (y9 _)),rfl,xR _,_,rfl,?_⟩
  rw[D6]
  refine jK rfl ?_
  have t0:∀o,(aA M5 lb o) O=MA (.lst (B.map D.int)):=fun o=>by rw[au (az v d0)];exact v
  have u0:∀o,(aA M5 lb o) zd=MA (.lst (B.map D.int)):=fun o=>by rw[au (az J d0)];exact J
  refine⟨_,rfl,O,_,rfl,t0 _,?_⟩
  refine⟨_,rfl,O,_,rfl,ag,_,_,rfl,ag,(by have:1000<=J8:=Mm rfl;rw[List.length_reverse,IU];omega),?_⟩
  refine⟨_,rfl,t,b,R,V,ws,rfl,S,lw,F,hF,fun M7 r1 L2 v0 s1 w0 x0=>?_⟩
  have e2:=al L2 x0
  subst e2
  refine⟨_,rfl,_,_,.lst w0 (dJ L2),.lst (v0 _ _ (by rw[au c0,au c0];exact u0 _)) (dJ L2),shaped_ints L2,shaped_ints L2,_,rfl,?_⟩
  rw[zj]
  exact jK rfl ⟨_,_,_,_,_,_,_,rfl⟩
theorem C5(ns:List Int)(M:MH)(h:ns.length<=63):jA [.rol (ns.map D.int)] M (fun d _=>d=.bl MC):=⟨ns,rfl,h,fun _=>rfl⟩
def kE(P:Jw)(n:String)(k:Nat)(v:IQ):Kf:={ hash:=PyData.keyHash P (L6 n),key:=.str (L6 n) k,val:=v }
def kF(i:Nat)(n m:String)(k c:Nat):Obj:={ cls:=.type "function",data:=.func { name:=L6 n,qualname:=L6 n,params:=cM (top i),body:=.stmts (bE (top i)),scope:=ay (top i),globals:=↑3,closure:=[],defaults:=.none,kwdefaults:=.none,pyModule:=.str (L6 m) k,code:=.ref c } }
def YQ(P:Jw):List Kf:=[kE P "__name__" ↑165 (.str "law_spotlook_k21_lands_of_faces" 516),kE P "__doc__" ↑166 (.none),kE P "__package__" ↑167 (.none),kE P "__loader__" ↑168 (.builtin "__main__.__loader__#opaque"),kE P "__spec__" ↑169 (.none),kE P "__annotations__" ↑170 (.ref ↑6),kE P "__builtins__" ↑171 (.ref ↑4),kE P "__file__" ↑173 (.str "/claim/cut.py" 172)]
def YO(P:Jw):List Kf:=[kE P "__cached__" ↑174 (.none),kE P "SpotError" ↑206 (.ref ↑24),kE P "NoFraction" ↑222 (.ref ↑37),kE P "greatest_divisor" ↑232 (.ref ↑46),kE P "fraction" ↑241 (.ref ↑53),kE P "is_less" ↑249 (.ref ↑60),kE P "common_bottom" ↑258 (.ref ↑67),kE P "top_over" ↑266 (.ref ↑74)]
def YN(P:Jw):List Kf:=[kE P "is_ahead" ↑276 (.ref ↑81),kE P "later_of" ↑284 (.ref ↑88),kE P "earlier_of" ↑292 (.ref ↑95),kE P "place_among" ↑303 (.ref ↑102),kE P "ahead_first" ↑312 (.ref ↑109),kE P "own_spot" ↑321 (.ref ↑116),kE P "own_wall" ↑328 (.ref ↑123),kE P "gap" ↑336 (.ref ↑130)]
def YM(P:Jw):List Kf:=[kE P "lean" ↑354 (.ref ↑137),kE P "side_of" ↑363 (.ref ↑144),kE P "spans" ↑373 (.ref ↑151),kE P "is_above" ↑385 (.ref ↑158),kE P "upper_of" ↑394 (.ref ↑165),kE P "upper_below" ↑400 (.ref ↑170),kE P "face_ends" ↑412 (.ref ↑177),kE P "faces_by_start" ↑421 (.ref ↑184)]
def YL(P:Jw):List Kf:=[kE P "is_met_sooner" ↑433 (.ref ↑191),kE P "face_behind" ↑447 (.ref ↑198),kE P "ring_from" ↑458 (.ref ↑205),kE P "rings_of" ↑471 (.ref ↑212),kE P "twice_area" ↑477 (.ref ↑217),kE P "outer_and_inner" ↑489 (.ref ↑224),kE P "first_corner" ↑499 (.ref ↑231),kE P "land_about" ↑509 (.ref ↑238)]
def YK(P:Jw):List Kf:=[kE P "lands_of_faces" ↑515 (.ref ↑243),kE P "_law_cell_at" ↑525 (.ref ↑250),kE P "_law_take" ↑535 (.ref ↑257),kE P "_law_low" ↑545 (.ref ↑264),kE P "_law_scale" ↑555 (.ref ↑271),kE P "_law_spot" ↑567 (.ref ↑278),kE P "_law_made" ↑573 (.ref ↑283),kE P "_law_turn" ↑585 (.ref ↑290)]
def YJ(P:Jw):List Kf:=[kE P "_law_on" ↑593 (.ref ↑297),kE P "_law_fair" ↑599 (.ref ↑302),kE P "_law_shuts_here" ↑605 (.ref ↑307),kE P "_law_ends" ↑613 (.ref ↑314),kE P "_law_sooner" ↑619 (.ref ↑319),kE P "_law_behind" ↑625 (.ref ↑324),kE P "_law_rings" ↑636 (.ref ↑331),kE P "_law_twice" ↑642 (.ref ↑336)]
def YI(P:Jw):List Kf:=[kE P "_law_inside" ↑657 (.ref ↑343),kE P "_law_group" ↑663 (.ref ↑348),kE P "_law_lands" ↑669 (.ref ↑353),kE P "_law_box" ↑675 (.ref ↑358),kE P "_law_order" ↑685 (.ref ↑365),kE P "_law_set" ↑691 (.ref ↑370),kE P "_law_squares" ↑703 (.ref ↑377),kE P "law" ↑709 (.ref ↑382)]
def kG(P:Jw):Obj:={ cls:=.type "dict",data:=.dict (Ka (YQ P++(YO P++(YN P++(YM P++(YL P++(YK P++(YJ P++(YI P))))))))) 64 }
def NI(n:String)(h:Nat)(i:Nat)(j:Nat)(k:Nat)(l:Nat)(m:Nat)(a:Nat)(b:Nat)(c:Nat)(d:Nat)(e:Nat)(f:Nat)(g:Nat):Obj:={ cls:=.type "code",data:=.fields #[.str (L6 n) h,.str (L6 n) i,.str "/claim/cut.py" j,.int (LS k) 0,.int (LS l) 0,.int 0 0,.int 0 0,.int 3 0,.ref m,.bool MC,.int 181 0,.ref a,.none,.ref b,.ref c,.ref d,.int (LS e) 0,.int (LS f) 0,.str "/claim/cut.py" g] }
def kN(l:List Obj)(i:Nat):Obj:=l.getD i { cls:=.none,data:=.dict #[] }
def NS(n q:Str)(a b c l k f r:Nat)(t:Bool)(s:Nat)(x y z:IQ)(d e:Nat):Obj:={ cls:=.type "code",data:=.fields #[.str n a,.str q b,.str "/claim/cut.py" c,.int l 0,.int k 0,.int 0 0,.int 0 0,.int f 0,.ref r,.bool t,.int 181 0,.ref s,.none,x,y,z,.int d 0,.int l 0,.str "/claim/cut.py" e] }
def X8(n:Str)(s g a i j:Nat):Obj:={ cls:=.type "type",data:=.cls { name:=n,bases:=[.ref 24],mro:=[.ref s,.ref 24,.type "ValueError",.type "Exception",.type "BaseException",.type "object"],ns:=g,qualname:=n,hasDict:=MC,slotNames:=[],subclasses:=[],abstract:=MD,collection:=MB,hasDel:=MD },slots:=#[MA (.ref a),MB,MA (.str n i),MA (.str n j),MA (.builtin "ValueError.__new__"),MA (.bool MC)] }
def YV(n:Str)(s g a i j:Nat):Obj:={ cls:=.type "type",data:=.cls { name:=n,bases:=[.ref ↑24],mro:=[.ref s,.ref ↑24,.type "ValueError",.type "Exception",.type "BaseException",.type "object"],ns:=g,qualname:=n,hasDict:=MC,slotNames:=[],subclasses:=[],abstract:=MD,collection:=MB,hasDel:=MD },slots:=#[MA (.ref a),MB,MA (.str n i),MA (.str n j),MA (.builtin "ValueError.__new__"),MA (.bool MC)] }
def Nb:IQ:=.str "law_spotlook_k21_lands_of_faces" 516
def Ni(i:Nat)(n:String)(c:Nat):Obj:=kF i n "law_spotlook_k21_lands_of_faces" ↑516 c
def Qt:List Obj:=[NI "greatest_divisor" ↑225 ↑226 ↑227 ↑7 ↑2 ↑40 ↑41 ↑42 ↑43 ↑44 ↑230 ↑7 ↑231,kF ↑4 "greatest_divisor" "spotlook.fractions" ↑223 ↑45,NI "fraction" ↑233 ↑234 ↑235 ↑11 ↑2 ↑47 ↑48 ↑49 ↑50 ↑51 ↑239 ↑11 ↑240,kF ↑5 "fraction" "spotlook.fractions" ↑223 ↑52,NI "is_less" ↑242 ↑243 ↑244 ↑18 ↑2 ↑54 ↑55 ↑56 ↑57 ↑58 ↑247 ↑18 ↑248,kF ↑6 "is_less" "spotlook.fractions" ↑223 ↑59,NI "common_bottom" ↑250 ↑251 ↑252 ↑20 ↑1 ↑61 ↑62 ↑63 ↑64 ↑65 ↑256 ↑20 ↑257,kF ↑7 "common_bottom" "spotlook.fractions" ↑223 ↑66]
def Qs:List Obj:=[NI "top_over" ↑259 ↑260 ↑261 ↑25 ↑2 ↑68 ↑69 ↑70 ↑71 ↑72 ↑264 ↑25 ↑265,kF ↑8 "top_over" "spotlook.fractions" ↑223 ↑73,NI "is_ahead" ↑269 ↑270 ↑271 ↑28 ↑2 ↑75 ↑76 ↑77 ↑78 ↑79 ↑274 ↑28 ↑275,kF ↑10 "is_ahead" "spotlook.spots" ↑267 ↑80,NI "later_of" ↑277 ↑278 ↑279 ↑32 ↑2 ↑82 ↑83 ↑84 ↑85 ↑86 ↑282 ↑32 ↑283,kF ↑11 "later_of" "spotlook.spots" ↑267 ↑87,NI "earlier_of" ↑285 ↑286 ↑287 ↑34 ↑2 ↑89 ↑90 ↑91 ↑92 ↑93 ↑290 ↑34 ↑291,kF ↑12 "earlier_of" "spotlook.spots" ↑267 ↑94]
def Qr:List Obj:=[NI "place_among" ↑293 ↑294 ↑295 ↑36 ↑2 ↑96 ↑97 ↑98 ↑99 ↑100 ↑301 ↑36 ↑302,kF ↑13 "place_among" "spotlook.spots" ↑267 ↑101,NI "ahead_first" ↑304 ↑305 ↑306 ↑45 ↑1 ↑103 ↑104 ↑105 ↑106 ↑107 ↑310 ↑45 ↑311,kF ↑14 "ahead_first" "spotlook.spots" ↑267 ↑108,NI "own_spot" ↑313 ↑314 ↑315 ↑50 ↑1 ↑110 ↑111 ↑112 ↑113 ↑114 ↑319 ↑50 ↑320,kF ↑15 "own_spot" "spotlook.spots" ↑267 ↑115,NI "own_wall" ↑322 ↑323 ↑324 ↑53 ↑1 ↑117 ↑118 ↑119 ↑120 ↑121 ↑326 ↑53 ↑327,kF ↑16 "own_wall" "spotlook.spots" ↑267 ↑122]
def Qq:List Obj:=[NI "gap" ↑329 ↑330 ↑331 ↑55 ↑2 ↑124 ↑125 ↑126 ↑127 ↑128 ↑334 ↑55 ↑335,kF ↑17 "gap" "spotlook.spots" ↑267 ↑129,NI "lean" ↑337 ↑338 ↑339 ↑57 ↑2 ↑131 ↑132 ↑133 ↑134 ↑135 ↑352 ↑57 ↑353,kF ↑18 "lean" "spotlook.spots" ↑267 ↑136,NI "side_of" ↑355 ↑356 ↑357 ↑63 ↑2 ↑138 ↑139 ↑140 ↑141 ↑142 ↑361 ↑63 ↑362,kF ↑19 "side_of" "spotlook.spots" ↑267 ↑143,NI "spans" ↑366 ↑367 ↑368 ↑71 ↑2 ↑145 ↑146 ↑147 ↑148 ↑149 ↑371 ↑71 ↑372,kF ↑21 "spans" "spotlook.above" ↑364 ↑150]
def Qp:List Obj:=[NI "is_above" ↑374 ↑375 ↑376 ↑73 ↑2 ↑152 ↑153 ↑154 ↑155 ↑156 ↑383 ↑73 ↑384,kF ↑22 "is_above" "spotlook.above" ↑364 ↑157,NI "upper_of" ↑386 ↑387 ↑388 ↑81 ↑1 ↑159 ↑160 ↑161 ↑162 ↑163 ↑392 ↑81 ↑393,kF ↑23 "upper_of" "spotlook.above" ↑364 ↑164,(NS "upper_below" "upper_below" 395 396 397 87 2 3 166 MC 167 .none .none (.ref 168) 398 399),kF ↑24 "upper_below" "spotlook.above" ↑364 ↑169,NI "face_ends" ↑403 ↑404 ↑405 ↑91 ↑2 ↑171 ↑172 ↑173 ↑174 ↑175 ↑410 ↑91 ↑411,kF ↑26 "face_ends" "spotlook.rings" ↑401 ↑176]
def Qo:List Obj:=[NI "faces_by_start" ↑413 ↑414 ↑415 ↑94 ↑1 ↑178 ↑179 ↑180 ↑181 ↑182 ↑419 ↑94 ↑420,kF ↑27 "faces_by_start" "spotlook.rings" ↑401 ↑183,NI "is_met_sooner" ↑422 ↑423 ↑424 ↑99 ↑4 ↑185 ↑186 ↑187 ↑188 ↑189 ↑431 ↑99 ↑432,kF ↑28 "is_met_sooner" "spotlook.rings" ↑401 ↑190,NI "face_behind" ↑434 ↑435 ↑436 ↑105 ↑3 ↑192 ↑193 ↑194 ↑195 ↑196 ↑445 ↑105 ↑446,kF ↑29 "face_behind" "spotlook.rings" ↑401 ↑197,NI "ring_from" ↑448 ↑449 ↑450 ↑113 ↑3 ↑199 ↑200 ↑201 ↑202 ↑203 ↑456 ↑113 ↑457,kF ↑30 "ring_from" "spotlook.rings" ↑401 ↑204]
def Qn:List Obj:=[NI "rings_of" ↑459 ↑460 ↑461 ↑120 ↑1 ↑206 ↑207 ↑208 ↑209 ↑210 ↑469 ↑120 ↑470,kF ↑31 "rings_of" "spotlook.rings" ↑401 ↑211,(NS "twice_area" "twice_area" 472 473 474 131 2 3 213 MC 214 .none .none (.ref 215) 475 476),kF ↑32 "twice_area" "spotlook.rings" ↑401 ↑216,NI "outer_and_inner" ↑480 ↑481 ↑482 ↑141 ↑1 ↑218 ↑219 ↑220 ↑221 ↑222 ↑487 ↑141 ↑488,kF ↑34 "outer_and_inner" "spotlook.lands" ↑478 ↑223,NI "first_corner" ↑490 ↑491 ↑492 ↑149 ↑2 ↑225 ↑226 ↑227 ↑228 ↑229 ↑497 ↑149 ↑498,kF ↑35 "first_corner" "spotlook.lands" ↑478 ↑230]
def Qm:List Obj:=[NI "land_about" ↑500 ↑501 ↑502 ↑154 ↑3 ↑232 ↑233 ↑234 ↑235 ↑236 ↑507 ↑154 ↑508,kF ↑36 "land_about" "spotlook.lands" ↑478 ↑237,(NS "lands_of_faces" "lands_of_faces" 510 511 512 157 1 3 239 MC 240 .none .none (.ref 241) 513 514),kF ↑37 "lands_of_faces" "spotlook.lands" ↑478 ↑242,NI "_law_cell_at" ↑518 ↑519 ↑520 ↑170 ↑2 ↑244 ↑245 ↑246 ↑247 ↑248 ↑523 ↑170 ↑524,Ni ↑39 "_law_cell_at" ↑249,NI "_law_take" ↑526 ↑527 ↑528 ↑174 ↑2 ↑251 ↑252 ↑253 ↑254 ↑255 ↑533 ↑174 ↑534,Ni ↑40 "_law_take" ↑256]
def Ql:List Obj:=[NI "_law_low" ↑536 ↑537 ↑538 ↑183 ↑2 ↑258 ↑259 ↑260 ↑261 ↑262 ↑543 ↑183 ↑544,Ni ↑41 "_law_low" ↑263,NI "_law_scale" ↑546 ↑547 ↑548 ↑191 ↑1 ↑265 ↑266 ↑267 ↑268 ↑269 ↑553 ↑191 ↑554,Ni ↑42 "_law_scale" ↑270,NI "_law_spot" ↑556 ↑557 ↑558 ↑197 ↑2 ↑272 ↑273 ↑274 ↑275 ↑276 ↑565 ↑197 ↑566,Ni ↑43 "_law_spot" ↑277,(NS "_law_made" "_law_made" 568 569 570 200 2 3 279 MC 280 .none .none (.ref 281) 571 572),Ni ↑44 "_law_made" ↑282]
def Qk:List Obj:=[NI "_law_turn" ↑574 ↑575 ↑576 ↑202 ↑3 ↑284 ↑285 ↑286 ↑287 ↑288 ↑583 ↑202 ↑584,Ni ↑45 "_law_turn" ↑289,NI "_law_on" ↑586 ↑587 ↑588 ↑207 ↑2 ↑291 ↑292 ↑293 ↑294 ↑295 ↑591 ↑207 ↑592,Ni ↑46 "_law_on" ↑296,(NS "_law_fair" "_law_fair" 594 595 596 209 2 3 298 MC 299 .none .none (.ref 300) 597 598),Ni ↑47 "_law_fair" ↑301,(NS "_law_shuts_here" "_law_shuts_here" 600 601 602 219 3 3 303 MC 304 .none .none (.ref 305) 603 604),Ni ↑48 "_law_shuts_here" ↑306]
def O3:List Obj:=[NI "_law_ends" ↑606 ↑607 ↑608 ↑230 ↑2 ↑308 ↑309 ↑310 ↑311 ↑312 ↑611 ↑230 ↑612,Ni ↑49 "_law_ends" ↑313,(NS "_law_sooner" "_law_sooner" 614 615 616 232 3 3 315 MC 316 .none .none (.ref 317) 617 618),Ni ↑50 "_law_sooner" ↑318,(NS "_law_behind" "_law_behind" 620 621 622 238 2 3 320 MC 321 .none .none (.ref 322) 623 624),Ni ↑51 "_law_behind" ↑323,NI "_law_rings" ↑626 ↑627 ↑628 ↑249 ↑1 ↑325 ↑326 ↑327 ↑328 ↑329 ↑634 ↑249 ↑635,Ni ↑52 "_law_rings" ↑330]
def O2:List Obj:=[(NS "_law_twice" "_law_twice" 637 638 639 260 2 3 332 MC 333 .none .none (.ref 334) 640 641),Ni ↑53 "_law_twice" ↑335,NI "_law_inside" ↑643 ↑644 ↑645 ↑263 ↑3 ↑337 ↑338 ↑339 ↑340 ↑341 ↑655 ↑263 ↑656,Ni ↑54 "_law_inside" ↑342,(NS "_law_group" "_law_group" 658 659 660 271 2 3 344 MC 345 .none .none (.ref 346) 661 662),Ni ↑55 "_law_group" ↑347,(NS "_law_lands" "_law_lands" 664 665 666 281 1 3 349 MC 350 .none .none (.ref 351) 667 668),Ni ↑56 "_law_lands" ↑352]
def O1:List Obj:=[(NS "_law_box" "_law_box" 670 671 672 301 2 3 354 MC 355 .none .none (.ref 356) 673 674),Ni ↑57 "_law_box" ↑357,NI "_law_order" ↑676 ↑677 ↑678 ↑305 ↑2 ↑359 ↑360 ↑361 ↑362 ↑363 ↑683 ↑305 ↑684,Ni ↑58 "_law_order" ↑364,(NS "_law_set" "_law_set" 686 687 688 310 1 3 366 MC 367 .none .none (.ref 368) 689 690),Ni ↑59 "_law_set" ↑369,NI "_law_squares" ↑692 ↑693 ↑694 ↑325 ↑1 ↑371 ↑372 ↑373 ↑374 ↑375 ↑701 ↑325 ↑702,Ni ↑60 "_law_squares" ↑376]
def Up:List Obj:=[(NS "law" "law" 704 705 706 334 1 3 378 MC 379 .none .none (.ref 380) 707 708),Ni ↑61 "law" ↑381]
def kK:Jw->I0:=fun P=>(↑3,kG P)::(↑45,kN Qt ↑0)::(↑46,kN Qt ↑1)::(↑52,kN Qt ↑2)::(↑53,kN Qt ↑3)::(↑59,kN Qt ↑4)::(↑60,kN Qt ↑5)::(↑66,kN Qt ↑6)::(↑67,kN Qt ↑7)::(↑73,kN Qs ↑0)::(↑74,kN Qs ↑1)::(↑80,kN Qs ↑2)::(↑81,kN Qs ↑3)::(↑87,kN Qs ↑4)::(↑88,kN Qs ↑5)::(↑94,kN Qs ↑6)::(↑95,kN Qs ↑7)::(↑101,kN Qr ↑0)::(↑102,kN Qr ↑1)::(↑108,kN Qr ↑2)::(↑109,kN Qr ↑3)::(↑115,kN Qr ↑4)::(↑116,kN Qr ↑5)::(↑122,kN Qr ↑6)::(↑123,kN Qr ↑7)::(↑129,kN Qq ↑0)::(↑130,kN Qq ↑1)::(↑136,kN Qq ↑2)::(↑137,kN Qq ↑3)::(↑143,kN Qq ↑4)::(↑144,kN Qq ↑5)::(↑150,kN Qq ↑6)::(↑151,kN Qq ↑7)::(↑157,kN Qp ↑0)::(↑158,kN Qp ↑1)::(↑164,kN Qp ↑2)::(↑165,kN Qp ↑3)::(↑169,kN Qp ↑4)::(↑170,kN Qp ↑5)::(↑176,kN Qp ↑6)::(↑177,kN Qp ↑7)::(↑183,kN Qo ↑0)::(↑184,kN Qo ↑1)::(↑190,kN Qo ↑2)::(↑191,kN Qo ↑3)::(↑197,kN Qo ↑4)::(↑198,kN Qo ↑5)::(↑204,kN Qo ↑6)::(↑205,kN Qo ↑7)::(↑211,kN Qn ↑0)::(↑212,kN Qn ↑1)::(↑216,kN Qn ↑2)::(↑217,kN Qn ↑3)::(↑223,kN Qn ↑4)::(↑224,kN Qn ↑5)::(↑230,kN Qn ↑6)::(↑231,kN Qn ↑7)::(↑237,kN Qm ↑0)::(↑238,kN Qm ↑1)::(↑242,kN Qm ↑2)::(↑243,kN Qm ↑3)::(↑249,kN Qm ↑4)::(↑250,kN Qm ↑5)::(↑256,kN Qm ↑6)::(↑257,kN Qm ↑7)::(↑263,kN Ql ↑0)::(↑264,kN Ql ↑1)::(↑270,kN Ql ↑2)::(↑271,kN Ql ↑3)::(↑277,kN Ql ↑4)::(↑278,kN Ql ↑5)::(↑282,kN Ql ↑6)::(↑283,kN Ql ↑7)::(↑289,kN Qk ↑0)::(↑290,kN Qk ↑1)::(↑296,kN Qk ↑2)::(↑297,kN Qk ↑3)::(↑301,kN Qk ↑4)::(↑302,kN Qk ↑5)::(↑306,kN Qk ↑6)::(↑307,kN Qk ↑7)::(↑313,kN O3 ↑0)::(↑314,kN O3 ↑1)::(↑318,kN O3 ↑2)::(↑319,kN O3 ↑3)::(↑323,kN O3 ↑4)::(↑324,kN O3 ↑5)::(↑330,kN O3 ↑6)::(↑331,kN O3 ↑7)::(↑335,kN O2 ↑0)::(↑336,kN O2 ↑1)::(↑342,kN O2 ↑2)::(↑343,kN O2 ↑3)::(↑347,kN O2 ↑4)::(↑348,kN O2 ↑5)::(↑352,kN O2 ↑6)::(↑353,kN O2 ↑7)::(↑357,kN O1 ↑0)::(↑358,kN O1 ↑1)::(↑364,kN O1 ↑2)::(↑365,kN O1 ↑3)::(↑369,kN O1 ↑4)::(↑370,kN O1 ↑5)::(↑376,kN O1 ↑6)::(↑377,kN O1 ↑7)::(↑381,kN Up ↑0)::(↑382,kN Up ↑1)::[]
end QQ
noncomputable section
namespace QQ
open PySem L2
inductive Tg{A:Type}(a:A):Type where|mk:Tg a
noncomputable def pk{A:Type}{a:A}(_:Tg a):A:=a
noncomputable def hE(P:Jw)(n:Str)(k:Nat)(v:IQ):Kf:={ hash:=PyData.keyHash P n,key:=.str n k,val:=v }
noncomputable def Q3(k:Nat)(l:List Kf):Obj:={ cls:=.type "dict",data:=.dict (Ka l) k }
noncomputable def RB:IQ:=.str "spotlook.errors" 187
noncomputable def kU(s:Stmt)(n q:Str)(g:Nat)(m c:IQ):LY:={ name:=n,qualname:=q,params:=cM s,body:=.stmts (bE s),scope:=ay s,globals:=g,closure:=[],defaults:=.none,kwdefaults:=.none,pyModule:=m,code:=c }
noncomputable def kC(s:Stmt)(i:Nat):Stmt:=match s with
 |.ClassDef (body:=b) ..=>b.getD i (.Pass ⟨0,0,0,0⟩)
 |s=>s
noncomputable def NG(l:List IQ):Obj:={ cls:=.type "tuple",data:=.seq l.toArray 0 }
noncomputable def YW(l:List IQ):Obj:={ cls:=.none,data:=.fields l.toArray }
local macro_rules | `(tactic| walk_at "st") => `(tactic| (intro t; (conv at t => (arg 1; whnf)); exact pk (.mk : type_of% t)))
local macro_rules | `(⇑$n:num) => `((by refine' (?_ : Tg (top $n) → Stmt) .mk; walk_at "st" : Stmt))
def XS:Stmt:=⇑0
def VY:Stmt:=⇑1
def Rm:Stmt:=⇑2
def Rj:Stmt:=⇑3
def PK:Stmt:=⇑4
def OU:Stmt:=⇑5
def Rg:Stmt:=⇑6
def OX:Stmt:=⇑7
def Rc:Stmt:=⇑8
def XR:Stmt:=⇑9
def OZ:Stmt:=⇑10
def OY:Stmt:=⇑11
def QR:Stmt:=⇑12
def OH:Stmt:=⇑13
def QP:Stmt:=⇑14
def QO:Stmt:=⇑15
def QN:Stmt:=⇑16
def QM:Stmt:=⇑17
def QL:Stmt:=⇑18
def QK:Stmt:=⇑19
def Rl:Stmt:=⇑20
def QJ:Stmt:=⇑21
def QI:Stmt:=⇑22
def QH:Stmt:=⇑23
def QG:Stmt:=⇑24
def Rk:Stmt:=⇑25
def QF:Stmt:=⇑26
def QE:Stmt:=⇑27
def QD:Stmt:=⇑28
def QC:Stmt:=⇑29
def QB:Stmt:=⇑30
def QA:Stmt:=⇑31
def Pz:Stmt:=⇑32
def Ri:Stmt:=⇑33
def Py:Stmt:=⇑34
def Px:Stmt:=⇑35
def Pw:Stmt:=⇑36
def Pu:Stmt:=⇑37
def Rh:Stmt:=⇑38
def Pt:Stmt:=⇑39
def Pr:Stmt:=⇑40
def Pq:Stmt:=⇑41
def Pp:Stmt:=⇑42
def Po:Stmt:=⇑43
def Pn:Stmt:=⇑44
def Pm:Stmt:=⇑45
def Pl:Stmt:=⇑46
def Pk:Stmt:=⇑47
def Pj:Stmt:=⇑48
def Ph:Stmt:=⇑49
def Pg:Stmt:=⇑50
def Pe:Stmt:=⇑51
def Pc:Stmt:=⇑52
def Pb:Stmt:=⇑53
def Pa:Stmt:=⇑54
def P9:Stmt:=⇑55
def P8:Stmt:=⇑56
def P7:Stmt:=⇑57
def P6:Stmt:=⇑58
def P5:Stmt:=⇑59
def P0:Stmt:=⇑60
def PZ:Stmt:=⇑61
noncomputable def Xs:Lr:=by refine'(?_:Tg (JJ.main.scope)->Lr) .mk;walk_at "st"
noncomputable def YS:Str:=by refine'(?_:Tg (JJ.main.file)->Str) .mk;walk_at "st"
noncomputable def YR:Given:=by refine'(?_:Tg (JJ.given)->Given) .mk;walk_at "st"
noncomputable def Xt:List Stmt:=Pj::Ph::Pg::Pe::Pc::Pb::Pa::P9::P8::P7::P6::P5::P0::PZ::[]
noncomputable def Xu:List Stmt:=Pz::Ri::Py::Px::Pw::Pu::Rh::Pt::Pr::Pq::Pp::Po::Pn::Pm::Pl::Pk::Xt
noncomputable def Xv:List Stmt:=QN::QM::QL::QK::Rl::QJ::QI::QH::QG::Rk::QF::QE::QD::QC::QB::QA::Xu
noncomputable def pw2:Jl:={ main:={ body:=XS::VY::Rm::Rj::PK::OU::Rg::OX::Rc::XR::OZ::OY::QR::OH::QP::QO::Xv,scope:=Xs,futureAnnotations:=MD,file:=YS,more:=[] },modules:=[],parses:=[],absent:=[],harvested:=[],given:=YR }
noncomputable def X9:List Stmt:=P9::P8::P7::P6::P5::P0::PZ::[]
noncomputable def Xa:List Stmt:=Pt::Pr::Pq::Pp::Po::Pn::Pm::Pl::Pk::Pj::Ph::Pg::Pe::Pc::Pb::Pa::X9
noncomputable def Xb:List Stmt:=QK::QJ::QI::QH::QG::QF::QE::QD::QC::QB::QA::Pz::Py::Px::Pw::Pu::Xa
noncomputable def vw:Jl:={ pw2 with main:={ pw2.main with body:=VY::Rm::PK::OU::Rg::OX::Rc::OZ::OY::QR::OH::QP::QO::QN::QM::QL::Xb } }
noncomputable def sx0:List Stmt:=[XS,VY]
noncomputable def sx1:List Stmt:=[Rm,Rj,PK,OU,Rg,OX,Rc,XR]
noncomputable def sx2:List Stmt:=[OZ,OY,QR,OH,QP,QO,QN,QM,QL,QK,Rl,QJ,QI]
noncomputable def sx3:List Stmt:=[QH,QG,Rk,QF,QE,QD,QC,QB,QA,Pz,Ri,Py,Px,Pw]
noncomputable def sx4:List Stmt:=[Pu,Rh,Pt,Pr,Pq,Pp,Po,Pn,Pm,Pl,Pk,Pj,Ph,Pg]
noncomputable def sx5:List Stmt:=[Pe,Pc,Pb,Pa,P9,P8,P7,P6,P5,P0,PZ]
noncomputable def Ux(P:Jw):List Kf:=[hE P "__doc__" 166 .none,hE P "__package__" 167 .none,hE P "__loader__" 168 (.builtin "__main__.__loader__#opaque"),hE P "__spec__" 169 .none,hE P "__annotations__" 170 (.ref 6),hE P "__builtins__" 171 (.ref 4),hE P "__file__" 173 (.str "/claim/cut.py" 172),hE P "__cached__" 174 .none]
noncomputable def Uw(P:Jw):List Kf:=[hE P "SpotError" 206 (.ref 24),hE P "NoFraction" 222 (.ref 37),hE P "greatest_divisor" 232 (.ref 46),hE P "fraction" 241 (.ref 53),hE P "is_less" 249 (.ref 60),hE P "common_bottom" 258 (.ref 67),hE P "top_over" 266 (.ref 74),hE P "is_ahead" 276 (.ref 81)]
noncomputable def Uv(P:Jw):List Kf:=[hE P "later_of" 284 (.ref 88),hE P "earlier_of" 292 (.ref 95),hE P "place_among" 303 (.ref 102),hE P "ahead_first" 312 (.ref 109),hE P "own_spot" 321 (.ref 116),hE P "own_wall" 328 (.ref 123),hE P "gap" 336 (.ref 130),hE P "lean" 354 (.ref 137)]
noncomputable def Uu(P:Jw):List Kf:=[hE P "side_of" 363 (.ref 144),hE P "spans" 373 (.ref 151),hE P "is_above" 385 (.ref 158),hE P "upper_of" 394 (.ref 165),hE P "upper_below" 400 (.ref 170),hE P "face_ends" 412 (.ref 177),hE P "faces_by_start" 421 (.ref 184),hE P "is_met_sooner" 433 (.ref 191)]
noncomputable def Ut(P:Jw):List Kf:=[hE P "face_behind" 447 (.ref 198),hE P "ring_from" 458 (.ref 205),hE P "rings_of" 471 (.ref 212),hE P "twice_area" 477 (.ref 217),hE P "outer_and_inner" 489 (.ref 224),hE P "first_corner" 499 (.ref 231),hE P "land_about" 509 (.ref 238),hE P "lands_of_faces" 515 (.ref 243)]
noncomputable def Us(P:Jw):List Kf:=[hE P "_law_cell_at" 525 (.ref 250),hE P "_law_take" 535 (.ref 257),hE P "_law_low" 545 (.ref 264),hE P "_law_scale" 555 (.ref 271),hE P "_law_spot" 567 (.ref 278),hE P "_law_made" 573 (.ref 283),hE P "_law_turn" 585 (.ref 290),hE P "_law_on" 593 (.ref 297)]
noncomputable def Ur(P:Jw):List Kf:=[hE P "_law_fair" 599 (.ref 302),hE P "_law_shuts_here" 605 (.ref 307),hE P "_law_ends" 613 (.ref 314),hE P "_law_sooner" 619 (.ref 319),hE P "_law_behind" 625 (.ref 324),hE P "_law_rings" 636 (.ref 331),hE P "_law_twice" 642 (.ref 336),hE P "_law_inside" 657 (.ref 343)]
noncomputable def Uq(P:Jw):List Kf:=[hE P "_law_group" 663 (.ref 348),hE P "_law_lands" 669 (.ref 353),hE P "_law_box" 675 (.ref 358),hE P "_law_order" 685 (.ref 365),hE P "_law_set" 691 (.ref 370),hE P "_law_squares" 703 (.ref 377),hE P "law" 709 (.ref 382)]
noncomputable def RY(P:Jw):List Kf:=Ux P++(Uw P++(Uv P++(Uu P++(Ut P++(Us P++(Ur P++(Uq P)))))))
noncomputable def Ou:List IQ:=[(.int 2 0),(.int 0 0),(.ref 20),(.int 4 0),(.int 0 0),(.ref 33),(.int 7 0),(.int 0 0),(.ref 45),(.int 11 0),(.int 0 0),(.ref 52),(.int 18 0),(.int 0 0),(.ref 59),(.int 20 0),(.int 0 0),(.ref 66),(.int 25 0),(.int 0 0),(.ref 73),(.int 28 0),(.int 0 0),(.ref 80),(.int 32 0),(.int 0 0),(.ref 87),(.int 34 0),(.int 0 0),(.ref 94),(.int 36 0),(.int 0 0),(.ref 101),(.int 45 0),(.int 0 0),(.ref 108),(.int 50 0),(.int 0 0),(.ref 115),(.int 53 0),(.int 0 0),(.ref 122),(.int 55 0),(.int 0 0),(.ref 129),(.int 57 0),(.int 0 0),(.ref 136),(.int 63 0),(.int 0 0),(.ref 143),(.int 71 0),(.int 0 0),(.ref 150),(.int 73 0),(.int 0 0),(.ref 157),(.int 81 0),(.int 0 0),(.ref 164),(.int 87 0),(.int 0 0),(.ref 169),(.int 91 0),(.int 0 0),(.ref 176),(.int 94 0),(.int 0 0),(.ref 183),(.int 99 0),(.int 0 0),(.ref 190),(.int 105 0),(.int 0 0),(.ref 197),(.int 113 0),(.int 0 0),(.ref 204),(.int 120 0),(.int 0 0),(.ref 211),(.int 131 0),(.int 0 0),(.ref 216),(.int 141 0),(.int 0 0),(.ref 223),(.int 149 0),(.int 0 0),(.ref 230),(.int 154 0),(.int 0 0),(.ref 237),(.int 157 0),(.int 0 0),(.ref 242),(.int 170 0),(.int 0 0),(.ref 249),(.int 174 0),(.int 0 0),(.ref 256),(.int 183 0),(.int 0 0),(.ref 263),(.int 191 0),(.int 0 0),(.ref 270),(.int 197 0),(.int 0 0),(.ref 277),(.int 200 0),(.int 0 0),(.ref 282),(.int 202 0),(.int 0 0),(.ref 289),(.int 207 0),(.int 0 0),(.ref 296),(.int 209 0),(.int 0 0),(.ref 301),(.int 219 0),(.int 0 0),(.ref 306),(.int 230 0),(.int 0 0),(.ref 313),(.int 232 0),(.int 0 0),(.ref 318),(.int 238 0),(.int 0 0),(.ref 323),(.int 249 0),(.int 0 0),(.ref 330),(.int 260 0),(.int 0 0),(.ref 335),(.int 263 0),(.int 0 0),(.ref 342),(.int 271 0),(.int 0 0),(.ref 347),(.int 281 0),(.int 0 0),(.ref 352),(.int 301 0),(.int 0 0),(.ref 357),(.int 305 0),(.int 0 0),(.ref 364),(.int 310 0),(.int 0 0),(.ref 369),(.int 325 0),(.int 0 0),(.ref 376),(.int 334 0),(.int 0 0),(.ref 381)]
noncomputable def hC(n:Str)(i j k a l b c d e m o p q r f g h:Nat)(s:Bool):Obj:={ cls:=.type "code",data:=.fields #[.str n i,.str n j,.str "/claim/cut.py" k,.int (LS m) 0,.int (LS o) 0,.int (LS p) 0,.int (LS q) 0,.int (LS r) 0,.ref l,.bool s,.int (LS f) 0,.ref b,.none,.ref c,.ref d,.ref e,.int (LS g) 0,.int (LS h) 0,.str "/claim/cut.py" a] }
noncomputable def hF(t:IQ)(s:Stmt)(n:Str)(g:Nat)(m c:IQ):Obj:={ cls:=t,data:=.func (kU s n n g m c) }
noncomputable def NC(s:Stmt)(n:Str)(m:IQ)(r:Nat):Obj:=hF (.type "function") s n 3 m (.ref r)
def XC:Obj:=NG []
def XB:Obj:={ cls:=.none,data:=.fields (Ka (Ou.take 0)) }
noncomputable def XA:Obj:=NS "<module>" "<module>" 182 183 184 1 0 0 11 MD 12 .none .none .none 185 186
noncomputable def Wz:Obj:={ cls:=(.type "frame"),slots:=#[(MA (.ref 13)),(MA (.ref 3)),(MA (.ref 3)),MB,(MA (.str "__main__" 164)),MB,(MA (.ref 0))] }
def Wy(P:Jw):Obj:=Q3 10 (hE P "__name__" 165 RB::(RY P).take 9)
def Wx:Obj:={ cls:=.none,data:=.fields (Ka (Ou.take 3)) }
def Ww:Obj:=NG [(.type "ValueError")]
noncomputable def Wv:Obj:={ cls:=(.type "builtin_function_or_method"),data:=(.fields #[(.builtin "type.__prepare__"),(.type "type")]) }
def Wu(P:Jw):Obj:=Q3 4 [hE P "__module__" 196 RB,hE P "__qualname__" 198 (.str "SpotError" 197),hE P "__firstlineno__" 200 (.int 2 199),hE P "__static_attributes__" 201 (.ref 22)]
noncomputable def Ws:Obj:=NS "SpotError" "SpotError" 191 192 193 2 0 0 18 MD 19 .none .none .none 194 195
def Wr:Obj:={ cls:=(.type "frame"),slots:=#[(MA (.ref 20)),(MA (.ref 3)),(MA (.ref 17)),MB,(MA RB),MB,(MA (.ref 0))] }
def Wq(P:Jw):Obj:=Q3 3 [hE P "__module__" 196 RB,hE P "__firstlineno__" 200 (.int 2 199),hE P "__static_attributes__" 201 (.ref 22),hE P "__weakref__" 203 (.ref 25),hE P "__doc__" 204 .none]
noncomputable def Wo:Obj:={ cls:=(.type "type"),data:=(.cls { name:="SpotError",bases:=[(.type "ValueError")],mro:=[(.ref 24),(.type "ValueError"),(.type "Exception"),(.type "BaseException"),(.type "object")],ns:=23,qualname:="SpotError",hasDict:=MC,slotNames:=[],subclasses:=[],abstract:=MD,collection:=MB,hasDel:=MD }),slots:=#[(MA (.ref 15)),MB,(MA (.str "SpotError" 189)),(MA (.str "SpotError" 197)),(MA (.builtin "ValueError.__new__")),(MA (.bool MC))] }
noncomputable def Wn:Obj:={ cls:=(.type "getset_descriptor"),data:=(.fields #[(.str "__weakref__" 202),(.ref 24),(.builtin "ExceptionGroup.__weakref__"),.none]) }
noncomputable def Wm:Obj:={ cls:=(.type "super"),data:=(.fields #[(.ref 24),(.ref 24),(.ref 24)]) }
noncomputable def Wk:Obj:={ cls:=(.type "builtin_function_or_method"),data:=(.fields #[(.builtin "object.__init_subclass__"),(.ref 24)]) }
def Wj(P:Jw):Obj:=Q3 16 (hE P "__name__" 165 (.str "spotlook.spots" 267)::(RY P).take 15)
def Wi:Obj:={ cls:=.none,data:=.fields (Ka (Ou.take 21)) }
noncomputable def Wh:Obj:={ cls:=(.type "type"),data:=(.cls { name:="SpotError",bases:=[(.type "ValueError")],mro:=[(.ref 24),(.type "ValueError"),(.type "Exception"),(.type "BaseException"),(.type "object")],ns:=23,qualname:="SpotError",hasDict:=MC,slotNames:=[],subclasses:=[(.ref 37)],abstract:=MD,collection:=MB,hasDel:=MD }),slots:=#[(MA (.ref 15)),MB,(MA (.str "SpotError" 189)),(MA (.str "SpotError" 197)),(MA (.builtin "ValueError.__new__")),(MA (.bool MC))] }
def Wg:Obj:=NG [(.ref 24)]
def Wf(P:Jw):Obj:=Q3 4 [hE P "__module__" 214 RB,hE P "__qualname__" 216 (.str "NoFraction" 215),hE P "__firstlineno__" 218 (.int 4 217),hE P "__static_attributes__" 219 (.ref 35)]
noncomputable def We:Obj:=NS "NoFraction" "NoFraction" 209 210 211 4 0 0 31 MD 32 .none .none .none 212 213
def Wd:Obj:={ cls:=(.type "frame"),slots:=#[(MA (.ref 33)),(MA (.ref 3)),(MA (.ref 30)),MB,(MA RB),MB,(MA (.ref 0))] }
def Wc(P:Jw):Obj:=Q3 2 [hE P "__module__" 214 RB,hE P "__firstlineno__" 218 (.int 4 217),hE P "__static_attributes__" 219 (.ref 35),hE P "__doc__" 220 .none]
noncomputable def Wb:Obj:=X8 "NoFraction" 37 36 28 207 215
noncomputable def Wa:Obj:={ cls:=(.type "super"),data:=(.fields #[(.ref 37),(.ref 37),(.ref 37)]) }
noncomputable def W9:Obj:={ cls:=(.type "builtin_function_or_method"),data:=(.fields #[(.builtin "object.__init_subclass__"),(.ref 37)]) }
def W7:Obj:=NG [(.str "one" 228),(.str "other" 229)]
def W5:Obj:=hF .none PK "greatest_divisor" 0 .none .none
def W4:Obj:=hC "greatest_divisor" 225 226 227 231 40 41 42 43 44 7 2 0 0 3 181 230 7 MC
def W3:Obj:=NC PK "greatest_divisor" (.str "spotlook.fractions" 223) 45
def W2:Obj:=NG [(.str "top" 236),(.str "bottom" 237),(.str "divisor" 238)]
def W0:Obj:=hF .none OU "fraction" 0 .none .none
def WZ:Obj:=hC "fraction" 233 234 235 240 47 48 49 50 51 11 2 0 0 3 181 239 11 MC
def WY:Obj:=NC OU "fraction" (.str "spotlook.fractions" 223) 52
def WX:Obj:=NG [(.str "one" 245),(.str "other" 246)]
def WW:Obj:=hF .none Rg "is_less" 0 .none .none
def WV:Obj:=hC "is_less" 242 243 244 248 54 55 56 57 58 18 2 0 0 3 181 247 18 MC
def WU:Obj:=NC Rg "is_less" (.str "spotlook.fractions" 223) 59
def WT:Obj:=NG [(.str "parts" 253),(.str "common" 254),(.str "part" 255)]
def WS:Obj:=hF .none OX "common_bottom" 0 .none .none
def WR:Obj:=hC "common_bottom" 250 251 252 257 61 62 63 64 65 20 1 0 0 3 181 256 20 MC
def WQ:Obj:=NC OX "common_bottom" (.str "spotlook.fractions" 223) 66
def WO:Obj:=NG [(.str "part" 262),(.str "bottom" 263)]
def WN:Obj:=hF .none Rc "top_over" 0 .none .none
def WM:Obj:=hC "top_over" 259 260 261 265 68 69 70 71 72 25 2 0 0 3 181 264 25 MC
def WL:Obj:=NC Rc "top_over" (.str "spotlook.fractions" 223) 73
def WK(P:Jw):Obj:=Q3 28 (hE P "__name__" 165 (.str "spotlook.above" 364)::(RY P).take 27)
def WJ:Obj:={ cls:=.none,data:=.fields (Ka (Ou.take 57)) }
def WI:Obj:=NG [(.str "one" 272),(.str "other" 273)]
def WH:Obj:=hF .none OZ "is_ahead" 0 .none .none
def WG:Obj:=hC "is_ahead" 269 270 271 275 75 76 77 78 79 28 2 0 0 3 181 274 28 MC
def WE:Obj:=NC OZ "is_ahead" (.str "spotlook.spots" 267) 80
def WD:Obj:=NG [(.str "one" 280),(.str "other" 281)]
def WC:Obj:=hF .none OY "later_of" 0 .none .none
def WB:Obj:=hC "later_of" 277 278 279 283 82 83 84 85 86 32 2 0 0 3 181 282 32 MC
def WA:Obj:=NC OY "later_of" (.str "spotlook.spots" 267) 87
def Vz:Obj:=NG [(.str "one" 288),(.str "other" 289)]
def Vy:Obj:=hF .none QR "earlier_of" 0 .none .none
def Vx:Obj:=hC "earlier_of" 285 286 287 291 89 90 91 92 93 34 2 0 0 3 181 290 34 MC
def Vw:Obj:=NC QR "earlier_of" (.str "spotlook.spots" 267) 94
def Vv:Obj:=NG [(.str "row" 296),(.str "spot" 297),(.str "low" 298),(.str "high" 299),(.str "middle" 300)]
def Vu:Obj:=hF .none OH "place_among" 0 .none .none
def Vt:Obj:=hC "place_among" 293 294 295 302 96 97 98 99 100 36 2 0 0 3 181 301 36 MC
def Vr:Obj:=NC OH "place_among" (.str "spotlook.spots" 267) 101
def Vq:Obj:=NG [(.str "spots" 307),(.str "row" 308),(.str "spot" 309)]
def Vp:Obj:=hF .none QP "ahead_first" 0 .none .none
def Vo:Obj:=hC "ahead_first" 304 305 306 311 103 104 105 106 107 45 1 0 0 3 181 310 45 MC
def Vn:Obj:=NC QP "ahead_first" (.str "spotlook.spots" 267) 108
def Vm:Obj:=NG [(.str "spot" 316),(.str "x" 317),(.str "y" 318)]
def Vl:Obj:=hF .none QO "own_spot" 0 .none .none
def Vk:Obj:=hC "own_spot" 313 314 315 320 110 111 112 113 114 50 1 0 0 3 181 319 50 MC
def Vj:Obj:=NC QO "own_spot" (.str "spotlook.spots" 267) 115
def Vi:Obj:=NG [(.str "wall" 325)]
def Vh:Obj:=hF .none QN "own_wall" 0 .none .none
def Vg:Obj:=hC "own_wall" 322 323 324 327 117 118 119 120 121 53 1 0 0 3 181 326 53 MC
def Vf:Obj:=NC QN "own_wall" (.str "spotlook.spots" 267) 122
def Ve:Obj:=NG [(.str "one" 332),(.str "other" 333)]
def Vd:Obj:=hF .none QM "gap" 0 .none .none
def Vb:Obj:=hC "gap" 329 330 331 335 124 125 126 127 128 55 2 0 0 3 181 334 55 MC
def Va:Obj:=NC QM "gap" (.str "spotlook.spots" 267) 129
def V9:Obj:=NG [(.str "wall" 340),(.str "spot" 341),(.str "a" 342),(.str "b" 343),(.str "c" 344),(.str "d" 345),(.str "x" 346),(.str "y" 347),(.str "across" 348),(.str "up" 349),(.str "along" 350),(.str "high" 351)]
def V7:Obj:=hF .none QL "lean" 0 .none .none
def V6:Obj:=hC "lean" 337 338 339 353 131 132 133 134 135 57 2 0 0 3 181 352 57 MC
def V5:Obj:=NC QL "lean" (.str "spotlook.spots" 267) 136
def V4:Obj:=NG [(.str "wall" 358),(.str "spot" 359),(.str "top" 360)]
def V3:Obj:=hF .none QK "side_of" 0 .none .none
def V2:Obj:=hC "side_of" 355 356 357 362 138 139 140 141 142 63 2 0 0 3 181 361 63 MC
def V1:Obj:=NC QK "side_of" (.str "spotlook.spots" 267) 143
def Uo:Obj:=NG [(.str "wall" 369),(.str "spot" 370)]
def Um:Obj:=hF .none QJ "spans" 0 .none .none
def Ul:Obj:=hC "spans" 366 367 368 372 145 146 147 148 149 71 2 0 0 3 181 371 71 MC
def Uk:Obj:=NC QJ "spans" (.str "spotlook.above" 364) 150
def Uj:Obj:=NG [(.str "one" 377),(.str "other" 378),(.str "start" 379),(.str "end" 380),(.str "place" 381),(.str "deciding" 382)]
def Ui:Obj:=hF .none QI "is_above" 0 .none .none
def Uh:Obj:=hC "is_above" 374 375 376 384 152 153 154 155 156 73 2 0 0 3 181 383 73 MC
def Ug:Obj:=NC QI "is_above" (.str "spotlook.above" 364) 157
def Ue(P:Jw):Obj:=Q3 40 (hE P "__name__" 165 (.str "spotlook.lands" 478)::(RY P).take 39)
def Ud:Obj:={ cls:=.none,data:=.fields (Ka (Ou.take 93)) }
def Uc:Obj:=NG [(.str "walls" 389),(.str "upper" 390),(.str "wall" 391)]
def Ub:Obj:=hF .none QH "upper_of" 0 .none .none
def Ua:Obj:=hC "upper_of" 386 387 388 393 159 160 161 162 163 81 1 0 0 3 181 392 81 MC
def U9:Obj:=NC QH "upper_of" (.str "spotlook.above" 364) 164
def U8:Obj:=hF .none QG "upper_below" 0 .none .none
noncomputable def U7:Obj:=NS "upper_below" "upper_below" 395 396 397 87 2 3 166 MC 167 .none .none (.ref 168) 398 399
def U6:Obj:=NC QG "upper_below" (.str "spotlook.above" 364) 169
def U5:Obj:=NG [(.str "plot" 406),(.str "face" 407),(.str "first" 408),(.str "second" 409)]
def U4:Obj:=hF .none QF "face_ends" 0 .none .none
def U3:Obj:=hC "face_ends" 403 404 405 411 171 172 173 174 175 91 2 0 0 3 181 410 91 MC
def U2:Obj:=NC QF "face_ends" (.str "spotlook.rings" 401) 176
def U1:Obj:=NG [(.str "plot" 416),(.str "leaving" 417),(.str "face" 418)]
def U0:Obj:=hF .none QE "faces_by_start" 0 .none .none
def UZ:Obj:=hC "faces_by_start" 413 414 415 420 178 179 180 181 182 94 1 0 0 3 181 419 94 MC
def UY:Obj:=NC QE "faces_by_start" (.str "spotlook.rings" 401) 183
def UX:Obj:=NG [(.str "corner" 425),(.str "came_from" 426),(.str "one" 427),(.str "other" 428),(.str "turn" 429),(.str "other_turn" 430)]
def UW:Obj:=hF .none QD "is_met_sooner" 0 .none .none
def UU:Obj:=hC "is_met_sooner" 422 423 424 432 185 186 187 188 189 99 4 0 0 3 181 431 99 MC
def UT:Obj:=NC QD "is_met_sooner" (.str "spotlook.rings" 401) 190
def US:Obj:=NG [(.str "plot" 437),(.str "leaving" 438),(.str "face" 439),(.str "came_from" 440),(.str "corner" 441),(.str "back" 442),(.str "best" 443),(.str "rival" 444)]
def UR:Obj:=hF .none QC "face_behind" 0 .none .none
def UQ:Obj:=hC "face_behind" 434 435 436 446 192 193 194 195 196 105 3 0 0 3 181 445 105 MC
def UP:Obj:=NC QC "face_behind" (.str "spotlook.rings" 401) 197
def UO:Obj:=NG [(.str "plot" 451),(.str "leaving" 452),(.str "face" 453),(.str "ring" 454),(.str "at" 455)]
def UN:Obj:=hF .none QB "ring_from" 0 .none .none
def UM:Obj:=hC "ring_from" 448 449 450 457 199 200 201 202 203 113 3 0 0 3 181 456 113 MC
def UL:Obj:=NC QB "ring_from" (.str "spotlook.rings" 401) 204
def UK:Obj:=NG [(.str "plot" 462),(.str "leaving" 463),(.str "rings" 464),(.str "gone_along" 465),(.str "face" 466),(.str "ring" 467),(.str "part" 468)]
def UJ:Obj:=hF .none QA "rings_of" 0 .none .none
def UI:Obj:=hC "rings_of" 459 460 461 470 206 207 208 209 210 120 1 0 0 3 181 469 120 MC
def UH:Obj:=NC QA "rings_of" (.str "spotlook.rings" 401) 211
def UG:Obj:=hF .none Pz "twice_area" 0 .none .none
noncomputable def UE:Obj:=NS "twice_area" "twice_area" 472 473 474 131 2 3 213 MC 214 .none .none (.ref 215) 475 476
def UD:Obj:=NC Pz "twice_area" (.str "spotlook.rings" 401) 216
def UC:Obj:=NG [(.str "plot" 483),(.str "outers" 484),(.str "inners" 485),(.str "ring" 486)]
def UB:Obj:=hF .none Py "outer_and_inner" 0 .none .none
def UA:Obj:=hC "outer_and_inner" 480 481 482 488 218 219 220 221 222 141 1 0 0 3 181 487 141 MC
def Tz:Obj:=NC Py "outer_and_inner" (.str "spotlook.lands" 478) 223
def Tw:Obj:=NG [(.str "plot" 493),(.str "ring" 494),(.str "first" 495),(.str "face" 496)]
def Tv:Obj:=hF .none Px "first_corner" 0 .none .none
def Tu:Obj:=hC "first_corner" 490 491 492 498 225 226 227 228 229 149 2 0 0 3 181 497 149 MC
def Tt:Obj:=NC Px "first_corner" (.str "spotlook.lands" 478) 230
def Ts:Obj:=NG [(.str "plot" 503),(.str "lands" 504),(.str "corner" 505),(.str "wall" 506)]
def Tr:Obj:=hF .none Pw "land_about" 0 .none .none
def Tq:Obj:=hC "land_about" 500 501 502 508 232 233 234 235 236 154 3 0 0 3 181 507 154 MC
def Tp:Obj:=NC Pw "land_about" (.str "spotlook.lands" 478) 237
def To(P:Jw):Obj:=Q3 53 (hE P "__name__" 165 Nb::(RY P).take 52)
def Tn:Obj:={ cls:=.none,data:=.fields (Ka (Ou.take 132)) }
def Tj:Obj:=hF .none Pu "lands_of_faces" 0 .none .none
noncomputable def Ti:Obj:=NS "lands_of_faces" "lands_of_faces" 510 511 512 157 1 3 239 MC 240 .none .none (.ref 241) 513 514
def Th:Obj:=NC Pu "lands_of_faces" (.str "spotlook.lands" 478) 242
def Tf:Obj:=NG [(.str "_law_script" 521),(.str "_law_k" 522)]
def Te:Obj:=hF .none Pt "_law_cell_at" 0 .none .none
def Td:Obj:=hC "_law_cell_at" 518 519 520 524 244 245 246 247 248 170 2 0 0 3 181 523 170 MC
def Tc:Obj:=NC Pt "_law_cell_at" Nb 249
def Tb:Obj:=NG [(.str "_law_row" 529),(.str "_law_base" 530),(.str "_law_rest" 531),(.str "_law_number" 532)]
def Ta:Obj:=hF .none Pr "_law_take" 0 .none .none
def T9:Obj:=hC "_law_take" 526 527 528 534 251 252 253 254 255 174 2 0 0 3 181 533 174 MC
def T8:Obj:=NC Pr "_law_take" Nb 256
def T7:Obj:=NG [(.str "_law_top" 539),(.str "_law_bottom" 540),(.str "_law_one" 541),(.str "_law_other" 542)]
def T6:Obj:=hF .none Pq "_law_low" 0 .none .none
def T5:Obj:=hC "_law_low" 536 537 538 544 258 259 260 261 262 183 2 0 0 3 181 543 183 MC
def T4:Obj:=NC Pq "_law_low" Nb 263
def TZ:Obj:=NG [(.str "_law_row" 549),(.str "_law_top" 550),(.str "_law_bottom" 551),(.str "_law_far" 552)]
def TY:Obj:=hF .none Pp "_law_scale" 0 .none .none
def TX:Obj:=hC "_law_scale" 546 547 548 554 265 266 267 268 269 191 1 0 0 3 181 553 191 MC
def TV:Obj:=NC Pp "_law_scale" Nb 270
def TU:Obj:=NG [(.str "_law_scale_here" 559),(.str "_law_unit" 560),(.str "_law_top" 561),(.str "_law_bottom" 562),(.str "_law_x" 563),(.str "_law_y" 564)]
def TR:Obj:=hF .none Po "_law_spot" 0 .none .none
def TQ:Obj:=hC "_law_spot" 556 557 558 566 272 273 274 275 276 197 2 0 0 3 181 565 197 MC
def TN:Obj:=NC Po "_law_spot" Nb 277
def TM:Obj:=hF .none Pn "_law_made" 0 .none .none
noncomputable def TL:Obj:=NS "_law_made" "_law_made" 568 569 570 200 2 3 279 MC 280 .none .none (.ref 281) 571 572
def TK:Obj:=NC Pn "_law_made" Nb 282
def TJ:Obj:=NG [(.str "_law_one" 577),(.str "_law_two" 578),(.str "_law_three" 579),(.str "_law_far" 580),(.str "_law_beside" 581),(.str "_law_found" 582)]
def TH:Obj:=hF .none Pm "_law_turn" 0 .none .none
def TF:Obj:=hC "_law_turn" 574 575 576 584 284 285 286 287 288 202 3 0 0 3 181 583 202 MC
def TC:Obj:=NC Pm "_law_turn" Nb 289
def TB:Obj:=NG [(.str "_law_shut" 589),(.str "_law_spot_here" 590)]
def Sz:Obj:=hF .none Pl "_law_on" 0 .none .none
def Sy:Obj:=hC "_law_on" 586 587 588 592 291 292 293 294 295 207 2 0 0 3 181 591 207 MC
def Sx:Obj:=NC Pl "_law_on" Nb 296
def Sw:Obj:=hF .none Pk "_law_fair" 0 .none .none
noncomputable def Sv:Obj:=NS "_law_fair" "_law_fair" 594 595 596 209 2 3 298 MC 299 .none .none (.ref 300) 597 598
def Su:Obj:=NC Pk "_law_fair" Nb 301
def Ss:Obj:=hF .none Pj "_law_shuts_here" 0 .none .none
noncomputable def Sr:Obj:=NS "_law_shuts_here" "_law_shuts_here" 600 601 602 219 3 3 303 MC 304 .none .none (.ref 305) 603 604
def Sq:Obj:=NC Pj "_law_shuts_here" Nb 306
def So:Obj:=NG [(.str "_law_shuts" 609),(.str "_law_face" 610)]
def Sm:Obj:=hF .none Ph "_law_ends" 0 .none .none
def Sl:Obj:=hC "_law_ends" 606 607 608 612 308 309 310 311 312 230 2 0 0 3 181 611 230 MC
def Sk:Obj:=NC Ph "_law_ends" Nb 313
def Sj:Obj:=hF .none Pg "_law_sooner" 0 .none .none
noncomputable def Si:Obj:=NS "_law_sooner" "_law_sooner" 614 615 616 232 3 3 315 MC 316 .none .none (.ref 317) 617 618
def Sf:Obj:=NC Pg "_law_sooner" Nb 318
def Se(P:Jw):Obj:=Q3 64 (hE P "__name__" 165 Nb::(RY P).take 63)
def Sd:Obj:={ cls:=.none,data:=.fields (Ka (Ou.take 165)) }
def Sb:Obj:=hF .none Pe "_law_behind" 0 .none .none
noncomputable def Sa:Obj:=NS "_law_behind" "_law_behind" 620 621 622 238 2 3 320 MC 321 .none .none (.ref 322) 623 624
def S9:Obj:=NC Pe "_law_behind" Nb 323
def S8:Obj:=NG [(.str "_law_shuts" 629),(.str "_law_rings_here" 630),(.str "_law_gone" 631),(.str "_law_face" 632),(.str "_law_ring" 633)]
def S7:Obj:=hF .none Pc "_law_rings" 0 .none .none
def S6:Obj:=hC "_law_rings" 626 627 628 635 325 326 327 328 329 249 1 0 0 3 181 634 249 MC
def S5:Obj:=NC Pc "_law_rings" Nb 330
def S4:Obj:=hF .none Pb "_law_twice" 0 .none .none
noncomputable def S3:Obj:=NS "_law_twice" "_law_twice" 637 638 639 260 2 3 332 MC 333 .none .none (.ref 334) 640 641
def S2:Obj:=NC Pb "_law_twice" Nb 335
def S1:Obj:=NG [(.str "_law_shuts" 646),(.str "_law_ring" 647),(.str "_law_spot_here" 648),(.str "_law_many" 649),(.str "_law_face" 650),(.str "_law_one" 651),(.str "_law_other" 652),(.str "_law_low_here" 653),(.str "_law_high" 654)]
def SY:Obj:=hF .none Pa "_law_inside" 0 .none .none
def SX:Obj:=hC "_law_inside" 643 644 645 656 337 338 339 340 341 263 3 0 0 3 181 655 263 MC
def SW:Obj:=NC Pa "_law_inside" Nb 342
def SV:Obj:=hF .none P9 "_law_group" 0 .none .none
noncomputable def SU:Obj:=NS "_law_group" "_law_group" 658 659 660 271 2 3 344 MC 345 .none .none (.ref 346) 661 662
def SS:Obj:=NC P9 "_law_group" Nb 347
def SR:Obj:=hF .none P8 "_law_lands" 0 .none .none
noncomputable def SQ:Obj:=NS "_law_lands" "_law_lands" 664 665 666 281 1 3 349 MC 350 .none .none (.ref 351) 667 668
def SO:Obj:=NC P8 "_law_lands" Nb 352
def SN:Obj:=hF .none P7 "_law_box" 0 .none .none
noncomputable def SM:Obj:=NS "_law_box" "_law_box" 670 671 672 301 2 3 354 MC 355 .none .none (.ref 356) 673 674
def SK:Obj:=NC P7 "_law_box" Nb 357
def SJ:Obj:=NG [(.str "_law_row" 679),(.str "_law_many" 680),(.str "_law_found" 681),(.str "_law_number" 682)]
def SH:Obj:=hF .none P6 "_law_order" 0 .none .none
def SG:Obj:=hC "_law_order" 676 677 678 684 359 360 361 362 363 305 2 0 0 3 181 683 305 MC
def SF:Obj:=NC P6 "_law_order" Nb 364
def SE:Obj:=hF .none P5 "_law_set" 0 .none .none
noncomputable def SA:Obj:=NS "_law_set" "_law_set" 686 687 688 310 1 3 366 MC 367 .none .none (.ref 368) 689 690
def Rz:Obj:=NC P5 "_law_set" Nb 369
def Ry:Obj:=NG [(.str "_law_row" 695),(.str "_law_many" 696),(.str "_law_shuts" 697),(.str "_law_k" 698),(.str "_law_found" 699),(.str "_law_number" 700)]
def Rx:Obj:=hF .none P0 "_law_squares" 0 .none .none
def Rw:Obj:=hC "_law_squares" 692 693 694 702 371 372 373 374 375 325 1 0 0 3 181 701 325 MC
def Rv:Obj:=NC P0 "_law_squares" Nb 376
def Ru:Obj:=hF .none PZ "law" 0 .none .none
noncomputable def Rr:Obj:=NS "law" "law" 704 705 706 334 1 3 378 MC 379 .none .none (.ref 380) 707 708
def Rq:Obj:=NC PZ "law" Nb 381
noncomputable def YG(P:Jw):List Obj:=[PySem.W.boot_o_0 P,PySem.W.boot_o_1 P,PySem.W.boot_o_2 P,PySem.W.boot_o_3 P,PySem.W.boot_o_4 P,PySem.W.boot_o_5 P,PySem.W.boot_o_6 P,PySem.W.boot_o_7 P,PySem.W.boot_o_8 P,PySem.W.boot_o_9 P,PySem.W.boot_o_10 P,XC,XB,XA,Wz,Wy P]
noncomputable def YF(P:Jw):List Obj:=[Wx,Ww,Wv,Wu P,Ws,Wr,Wq P,Wo,Wn,Wm,Wk,Wj P,Wi,Wh,Wg,Wf P]
noncomputable def YE(P:Jw):List Obj:=[We,Wd,Wc P,Wb,Wa,W9,W7,W5,W4,W3,W2,W0,WZ,WY,WX,WW]
noncomputable def YD(P:Jw):List Obj:=[WV,WU,WT,WS,WR,WQ,WO,WN,WM,WL,WK P,WJ,WI,WH,WG,WE]
noncomputable def YC(P:Jw):List Obj:=[WD,WC,WB,WA,Vz,Vy,Vx,Vw,Vv,Vu,Vt,Vr,Vq,Vp,Vo,Vn]
noncomputable def YB(P:Jw):List Obj:=[Vm,Vl,Vk,Vj,Vi,Vh,Vg,Vf,Ve,Vd,Vb,Va,V9,V7,V6,V5]
noncomputable def YA(P:Jw):List Obj:=[V4,V3,V2,V1,Uo,Um,Ul,Uk,Uj,Ui,Uh,Ug,Ue P,Ud,Uc,Ub]
noncomputable def Xz(P:Jw):List Obj:=[Ua,U9,U8,U7,U6,U5,U4,U3,U2,U1,U0,UZ,UY,UX,UW,UU]
noncomputable def Xy(P:Jw):List Obj:=[UT,US,UR,UQ,UP,UO,UN,UM,UL,UK,UJ,UI,UH,UG,UE,UD]
noncomputable def Xx(P:Jw):List Obj:=[UC,UB,UA,Tz,Tw,Tv,Tu,Tt,Ts,Tr,Tq,Tp,To P,Tn,Tj,Ti]
noncomputable def XI(P:Jw):List Obj:=[Th,Tf,Te,Td,Tc,Tb,Ta,T9,T8,T7,T6,T5,T4,TZ,TY,TX]
noncomputable def XH(P:Jw):List Obj:=[TV,TU,TR,TQ,TN,TM,TL,TK,TJ,TH,TF,TC,TB,Sz,Sy,Sx]
noncomputable def XG(P:Jw):List Obj:=[Sw,Sv,Su,Ss,Sr,Sq,So,Sm,Sl,Sk,Sj,Si,Sf,Se P,Sd,Sb]
noncomputable def XF(P:Jw):List Obj:=[Sa,S9,S8,S7,S6,S5,S4,S3,S2,S1,SY,SX,SW,SV,SU,SS]
noncomputable def XE(P:Jw):List Obj:=[SR,SQ,SO,SN,SM,SK,SJ,SH,SG,SF,SE,SA,Rz,Ry,Rx,Rw]
noncomputable def XD(P:Jw):List Obj:=[Rv,Ru,Rr,Rq]
noncomputable def fA(c i:Nat)(P:Jw):Obj:=(([YG P,YF P,YE P,YD P,YC P,YB P,YA P,Xz P,Xy P,Xx P,XI P,XH P,XG P,XF P,XE P,XD P]:List (List Obj)).getD c []).getD i { cls:=.none }
noncomputable def Xl(n:Nat->Js->Js->Js)(e:Js):Js:=(fun m:Nat->Js=>(n 0 (n 1 (n 3 (m 7) (m 11)) (n 5 (m 9) (m 13))) (n 2 (n 4 (m 8) (m 12)) (n 6 (m 10) (m 14))))) fun a=>n a e e
noncomputable def tX0(f:Nat->Nat->Jw->Obj)(P:Jw):Js:=Xl (fun k=>.node (f (k/16) (k%16) P)) .nil
noncomputable def Xk(n:Nat->Js->Js->Js)(e:Js):Js:=(fun m:Nat->Js=>(n 0 (n 1 (n 15 (n 7 (m 17) (m 22)) (n 11 (m 12) (m 26))) (n 5 (n 9 (m 19) (m 24)) (n 13 (m 21) e))) (n 2 (n 4 (n 8 (m 18) (m 23)) (n 16 (m 20) e)) (n 6 (n 10 (m 11) (m 25)) (n 14 (m 11) e))))) fun a=>n a e e
noncomputable def tX1(f:Nat->Nat->Jw->Obj)(P:Jw):Js:=Xk (fun k=>.node (f (k/16) (k%16) P)) .nil
noncomputable def Xj(n:Nat->Js->Js->Js)(e:Js):Js:=(fun m:Nat->Js=>(n 0 (n 1 (n 27 (n 7 (n 17 (n 11 (m 50) e) (m 11)) (n 22 (n 37 (m 11) e) (m 12))) (n 11 (n 12 (n 11 (m 53) e) (m 43)) (n 26 (m 11) (m 48)))) (n 5 (n 9 (n 19 (n 32 (m 51) e) (m 42)) (n 24 (n 12 (m 56) e) (m 11))) (n 13 (n 21 (n 35 (m 12) e) (m 45)) (n 18 (m 40) (m 11))))) (n 2 (n 4 (n 8 (n 18 (n 12 (m 11) e) (m 12)) (n 29 (n 11 (m 55) e) (m 46))) (n 28 (n 20 (n 34 (m 11) e) (m 44)) (n 30 (m 39) (m 49)))) (n 6 (n 10 (n 11 (n 33 (m 52) e) (m 11)) (n 25 (n 38 (m 57) e) (m 47))) (n 14 (n 11 (n 36 (m 54) e) (m 11)) (n 31 (m 41) (m 12))))))) fun a=>n a e e
noncomputable def tX2(f:Nat->Nat->Jw->Obj)(P:Jw):Js:=Xj (fun k=>.node (f (k/16) (k%16) P)) .nil
noncomputable def Xi(n:Nat->Js->Js->Js)(e:Js):Js:=(fun m:Nat->Js=>(n 0 (n 1 (n 58 (n 7 (n 17 (n 11 (n 50 (m 11) e) (m 71)) (n 11 (n 61 (m 98) e) (m 12))) (n 22 (n 37 (n 11 (m 93) e) (m 11)) (n 12 (n 66 (m 103) e) (m 84)))) (n 11 (n 12 (n 11 (n 53 (m 11) e) (m 11)) (n 43 (n 12 (m 100) e) (m 82))) (n 26 (n 11 (n 11 (m 12) e) (m 77)) (n 48 (n 68 (m 11) e) (m 87))))) (n 5 (n 9 (n 19 (n 32 (n 51 (m 90) e) (m 12)) (n 42 (n 63 (m 11) e) (m 11))) (n 24 (n 12 (n 56 (m 95) e) (m 76)) (n 11 (n 11 (m 12) e) (m 85)))) (n 13 (n 21 (n 35 (n 12 (m 92) e) (m 74)) (n 45 (n 11 (m 101) e) (m 11))) (n 18 (n 40 (n 60 (m 11) e) (m 79)) (n 11 (n 69 (m 106) e) (m 12)))))) (n 2 (n 4 (n 8 (n 18 (n 12 (n 11 (m 89) e) (m 11)) (n 12 (n 62 (m 99) e) (m 80))) (n 29 (n 11 (n 55 (m 94) e) (m 12)) (n 46 (n 67 (m 11) e) (m 11)))) (n 59 (n 20 (n 34 (n 11 (m 12) e) (m 73)) (n 44 (n 64 (m 11) e) (m 83))) (n 30 (n 39 (n 12 (m 96) e) (m 78)) (n 49 (n 11 (m 105) e) (m 11))))) (n 6 (n 10 (n 11 (n 33 (n 52 (m 91) e) (m 72)) (n 11 (n 11 (m 12) e) (m 81))) (n 25 (n 38 (n 57 (m 11) e) (m 11)) (n 47 (n 12 (m 104) e) (m 86)))) (n 14 (n 11 (n 36 (n 54 (m 11) e) (m 75)) (n 11 (n 65 (m 102) e) (m 12))) (n 31 (n 41 (n 11 (m 97) e) (m 11)) (n 12 (n 70 (m 107) e) (m 88)))))))) fun a=>n a e e
noncomputable def tX3(f:Nat->Nat->Jw->Obj)(P:Jw):Js:=Xi (fun k=>.node (f (k/16) (k%16) P)) .nil
noncomputable def Xh(n:Nat->Js->Js->Js)(e:Js):Js:=(fun m:Nat->Js=>(n 0 (n 1 (n 108 (n 7 (n 17 (n 11 (n 50 (m 11) (m 128)) (n 71 (m 11) (m 146))) (n 11 (n 61 (m 98) (m 12)) (n 12 (m 118) e))) (n 22 (n 37 (n 11 (m 93) (m 11)) (n 11 (m 12) (m 151))) (n 12 (n 66 (m 103) (m 141)) (n 84 (m 123) e)))) (n 11 (n 12 (n 11 (n 53 (m 11) (m 11)) (n 11 (m 111) (m 148))) (n 43 (n 12 (m 100) (m 139)) (n 82 (m 12) e))) (n 26 (n 11 (n 11 (m 12) (m 134)) (n 77 (m 11) (m 11))) (n 48 (n 68 (m 11) (m 12)) (n 87 (m 125) e))))) (n 5 (n 9 (n 19 (n 32 (n 51 (m 90) (m 12)) (n 12 (m 110) (m 11))) (n 42 (n 63 (m 11) (m 11)) (n 11 (m 120) e))) (n 24 (n 12 (n 56 (m 95) (m 133)) (n 76 (m 115) (m 12))) (n 11 (n 11 (m 12) (m 143)) (n 85 (m 11) e)))) (n 13 (n 21 (n 35 (n 12 (m 92) (m 131)) (n 74 (m 113) (m 149))) (n 45 (n 11 (m 101) (m 11)) (n 11 (m 11) e))) (n 18 (n 40 (n 60 (m 11) (m 136)) (n 79 (m 117) (m 154))) (n 11 (n 69 (m 106) (m 11)) (n 12 (m 126) e)))))) (n 2 (n 4 (n 8 (n 18 (n 12 (n 11 (m 89) (m 11)) (n 11 (m 12) (m 147))) (n 12 (n 62 (m 99) (m 137)) (n 80 (m 119) e))) (n 29 (n 11 (n 55 (m 94) (m 12)) (n 12 (m 114) (m 11))) (n 46 (n 67 (m 11) (m 142)) (n 11 (m 124) e)))) (n 109 (n 20 (n 34 (n 11 (m 12) (m 130)) (n 73 (m 112) (m 11))) (n 44 (n 64 (m 11) (m 140)) (n 83 (m 121) e))) (n 30 (n 39 (n 12 (m 96) (m 135)) (n 78 (m 12) (m 153))) (n 49 (n 11 (m 105) (m 144)) (n 11 (m 11) e))))) (n 6 (n 10 (n 11 (n 33 (n 52 (m 91) (m 129)) (n 72 (m 11) (m 12))) (n 11 (n 11 (m 12) (m 138)) (n 81 (m 11) e))) (n 25 (n 38 (n 57 (m 11) (m 11)) (n 11 (m 116) (m 152))) (n 47 (n 12 (m 104) (m 11)) (n 86 (m 12) e)))) (n 14 (n 11 (n 36 (n 54 (m 11) (m 132)) (n 75 (m 11) (m 150))) (n 11 (n 65 (m 102) (m 12)) (n 12 (m 122) e))) (n 31 (n 41 (n 11 (m 97) (m 11)) (n 11 (m 11) (m 155))) (n 12 (n 70 (m 107) (m 145)) (n 88 (m 127) e)))))))) fun a=>n a e e
noncomputable def tX4(f:Nat->Nat->Jw->Obj)(P:Jw):Js:=Xh (fun k=>.node (f (k/16) (k%16) P)) .nil
noncomputable def Xg(n:Nat->Js->Js->Js)(e:Js):Js:=(fun m:Nat->Js=>(n 0 (n 1 (n 156 (n 7 (n 17 (n 11 (n 50 (n 11 (m 166) e) (n 128 (m 204) e)) (n 71 (n 11 (m 11) e) (m 146))) (n 11 (n 61 (n 98 (m 176) e) (m 12)) (n 12 (n 118 (m 11) e) (m 11)))) (n 22 (n 37 (n 11 (n 93 (m 171) e) (m 11)) (n 11 (n 12 (m 189) e) (m 151))) (n 12 (n 66 (n 103 (m 11) e) (m 141)) (n 84 (n 123 (m 11) e) (m 11))))) (n 11 (n 12 (n 11 (n 53 (n 11 (m 12) e) (m 11)) (n 11 (n 111 (m 11) e) (m 148))) (n 43 (n 12 (n 100 (m 11) e) (m 139)) (n 82 (n 12 (m 197) e) (m 160)))) (n 26 (n 11 (n 11 (n 12 (m 173) e) (m 134)) (n 77 (n 11 (m 12) e) (m 11))) (n 48 (n 68 (n 11 (m 183) e) (m 12)) (n 87 (n 125 (m 11) e) (m 11)))))) (n 5 (n 9 (n 19 (n 32 (n 51 (n 90 (m 168) e) (m 12)) (n 12 (n 110 (m 186) e) (m 11))) (n 42 (n 63 (n 11 (m 12) e) (m 11)) (n 11 (n 120 (m 195) e) (m 158)))) (n 24 (n 12 (n 56 (n 95 (m 11) e) (m 133)) (n 76 (n 115 (m 191) e) (m 12))) (n 11 (n 11 (n 12 (m 181) e) (m 143)) (n 85 (n 11 (m 200) e) (m 163))))) (n 13 (n 21 (n 35 (n 12 (n 92 (m 11) e) (m 131)) (n 74 (n 113 (m 188) e) (m 149))) (n 45 (n 11 (n 101 (m 179) e) (m 11)) (n 11 (n 11 (m 12) e) (m 12)))) (n 18 (n 40 (n 60 (n 11 (m 174) e) (m 136)) (n 79 (n 117 (m 193) e) (m 154))) (n 11 (n 69 (n 106 (m 12) e) (m 11)) (n 12 (n 126 (m 202) e) (m 165))))))) (n 2 (n 4 (n 8 (n 18 (n 12 (n 11 (n 89 (m 167) e) (m 11)) (n 11 (n 12 (m 185) e) (m 147))) (n 12 (n 62 (n 99 (m 11) e) (m 137)) (n 80 (n 119 (m 12) e) (m 12)))) (n 29 (n 11 (n 55 (n 94 (m 172) e) (m 12)) (n 12 (n 114 (m 190) e) (m 11))) (n 46 (n 67 (n 11 (m 12) e) (m 142)) (n 11 (n 124 (m 199) e) (m 162))))) (n 157 (n 20 (n 34 (n 11 (n 12 (m 169) e) (m 130)) (n 73 (n 112 (m 12) e) (m 11))) (n 44 (n 64 (n 11 (m 178) e) (m 140)) (n 83 (n 121 (m 11) e) (m 11)))) (n 30 (n 39 (n 12 (n 96 (m 11) e) (m 135)) (n 78 (n 12 (m 192) e) (m 153))) (n 49 (n 11 (n 105 (m 11) e) (m 144)) (n 11 (n 11 (m 12) e) (m 12)))))) (n 6 (n 10 (n 11 (n 33 (n 52 (n 91 (m 11) e) (m 129)) (n 72 (n 11 (m 187) e) (m 12))) (n 11 (n 11 (n 12 (m 177) e) (m 138)) (n 81 (n 11 (m 196) e) (m 159)))) (n 25 (n 38 (n 57 (n 11 (m 12) e) (m 11)) (n 11 (n 116 (m 11) e) (m 152))) (n 47 (n 12 (n 104 (m 182) e) (m 11)) (n 86 (n 12 (m 201) e) (m 164))))) (n 14 (n 11 (n 36 (n 54 (n 11 (m 170) e) (m 132)) (n 75 (n 11 (m 11) e) (m 150))) (n 11 (n 65 (n 102 (m 180) e) (m 12)) (n 12 (n 122 (m 198) e) (m 161)))) (n 31 (n 41 (n 11 (n 97 (m 175) e) (m 11)) (n 11 (n 11 (m 194) e) (m 155))) (n 12 (n 70 (n 107 (m 184) e) (m 145)) (n 88 (n 127 (m 203) e) (m 11))))))))) fun a=>n a e e
noncomputable def tX5(f:Nat->Nat->Jw->Obj)(P:Jw):Js:=Xg (fun k=>.node (f (k/16) (k%16) P)) .nil
noncomputable def Xf(n:Nat->Js->Js->Js)(e:Js):Js:=(fun m:Nat->Js=>(n 0 (n 1 (n 205 (n 7 (n 17 (n 11 (n 50 (n 11 (m 166) e) (n 128 (m 204) e)) (n 71 (n 11 (m 11) e) (n 146 (m 224) e))) (n 11 (n 61 (n 98 (m 176) e) (n 12 (m 215) e)) (n 12 (n 118 (m 11) e) (n 11 (m 12) e)))) (n 22 (n 37 (n 11 (n 93 (m 171) e) (n 11 (m 210) e)) (n 11 (n 12 (m 189) e) (n 151 (m 11) e))) (n 12 (n 66 (n 103 (m 11) e) (n 141 (m 220) e)) (n 84 (n 123 (m 11) e) (n 11 (m 238) e))))) (n 11 (n 12 (n 11 (n 53 (n 11 (m 12) e) (n 11 (m 208) e)) (n 11 (n 111 (m 11) e) (n 148 (m 12) e))) (n 43 (n 12 (n 100 (m 11) e) (n 139 (m 217) e)) (n 82 (n 12 (m 197) e) (n 160 (m 11) e)))) (n 26 (n 11 (n 11 (n 12 (m 173) e) (n 134 (m 213) e)) (n 77 (n 11 (m 12) e) (n 11 (m 231) e))) (n 48 (n 68 (n 11 (m 183) e) (n 12 (m 222) e)) (n 87 (n 125 (m 11) e) (n 11 (m 12) e)))))) (n 5 (n 9 (n 19 (n 32 (n 51 (n 90 (m 168) e) (n 12 (m 12) e)) (n 12 (n 110 (m 186) e) (n 11 (m 226) e))) (n 42 (n 63 (n 11 (m 12) e) (n 11 (m 11) e)) (n 11 (n 120 (m 195) e) (n 158 (m 235) e)))) (n 24 (n 12 (n 56 (n 95 (m 11) e) (n 133 (m 211) e)) (n 76 (n 115 (m 191) e) (n 12 (m 230) e))) (n 11 (n 11 (n 12 (m 181) e) (n 143 (m 12) e)) (n 85 (n 11 (m 200) e) (n 163 (m 240) e))))) (n 13 (n 21 (n 35 (n 12 (n 92 (m 11) e) (n 131 (m 11) e)) (n 74 (n 113 (m 188) e) (n 149 (m 228) e))) (n 45 (n 11 (n 101 (m 179) e) (n 11 (m 218) e)) (n 11 (n 11 (m 12) e) (n 12 (m 237) e)))) (n 18 (n 40 (n 60 (n 11 (m 174) e) (n 136 (m 12) e)) (n 79 (n 117 (m 193) e) (n 154 (m 233) e))) (n 11 (n 69 (n 106 (m 12) e) (n 11 (m 11) e)) (n 12 (n 126 (m 202) e) (n 165 (m 242) e))))))) (n 2 (n 4 (n 8 (n 18 (n 12 (n 11 (n 89 (m 167) e) (n 11 (m 11) e)) (n 11 (n 12 (m 185) e) (n 147 (m 225) e))) (n 12 (n 62 (n 99 (m 11) e) (n 137 (m 216) e)) (n 80 (n 119 (m 12) e) (n 12 (m 234) e)))) (n 29 (n 11 (n 55 (n 94 (m 172) e) (n 12 (m 11) e)) (n 12 (n 114 (m 190) e) (n 11 (m 12) e))) (n 46 (n 67 (n 11 (m 12) e) (n 142 (m 11) e)) (n 11 (n 124 (m 199) e) (n 162 (m 239) e))))) (n 206 (n 20 (n 34 (n 11 (n 12 (m 169) e) (n 130 (m 209) e)) (n 73 (n 112 (m 12) e) (n 11 (m 227) e))) (n 44 (n 64 (n 11 (m 178) e) (n 140 (m 11) e)) (n 83 (n 121 (m 11) e) (n 11 (m 12) e)))) (n 30 (n 39 (n 12 (n 96 (m 11) e) (n 135 (m 11) e)) (n 78 (n 12 (m 192) e) (n 153 (m 232) e))) (n 49 (n 11 (n 105 (m 11) e) (n 144 (m 223) e)) (n 11 (n 11 (m 12) e) (n 12 (m 241) e)))))) (n 6 (n 10 (n 11 (n 33 (n 52 (n 91 (m 11) e) (n 129 (m 207) e)) (n 72 (n 11 (m 187) e) (n 12 (m 11) e))) (n 11 (n 11 (n 12 (m 177) e) (n 138 (m 12) e)) (n 81 (n 11 (m 196) e) (n 159 (m 236) e)))) (n 25 (n 38 (n 57 (n 11 (m 12) e) (n 11 (m 212) e)) (n 11 (n 116 (m 11) e) (n 152 (m 11) e))) (n 47 (n 12 (n 104 (m 182) e) (n 11 (m 221) e)) (n 86 (n 12 (m 201) e) (n 164 (m 11) e))))) (n 14 (n 11 (n 36 (n 54 (n 11 (m 170) e) (n 132 (m 12) e)) (n 75 (n 11 (m 11) e) (n 150 (m 229) e))) (n 11 (n 65 (n 102 (m 180) e) (n 12 (m 219) e)) (n 12 (n 122 (m 198) e) (n 161 (m 11) e)))) (n 31 (n 41 (n 11 (n 97 (m 175) e) (n 11 (m 214) e)) (n 11 (n 11 (m 194) e) (n 155 (m 11) e))) (n 12 (n 70 (n 107 (m 184) e) (n 145 (m 12) e)) (n 88 (n 127 (m 203) e) (n 11 (m 243) e))))))))) fun a=>n a e e
noncomputable def tX6(f:Nat->Nat->Jw->Obj)(P:Jw):Js:=Xf (fun k=>.node (f (k/16) (k%16) P)) .nil
noncomputable def hX0(f:Nat->Nat->Jw->Obj)(P:Jw):Heap:=(fun g:Nat->Obj=>(⟨⟨[g 0,g 1,g 2,g 3,g 4,g 5,g 6,g 7,g 8,g 9,g 10,g 11,g 12,g 13,g 14]⟩,{}⟩:Heap)) fun k=>f (k/16) (k%16) P
noncomputable def hX1(f:Nat->Nat->Jw->Obj)(P:Jw):Heap:=(fun g:Nat->Obj=>(⟨⟨[g 0,g 1,g 2,g 205,g 4,g 5,g 6,g 7,g 8,g 9,g 10,g 11,g 206,g 13,g 14,g 17,g 18,g 19,g 11,g 12,g 20,g 21,g 11,g 22,g 29,g 24,g 25,g 26,g 30,g 18,g 31,g 11,g 12,g 32,g 33,g 11,g 34,g 35,g 36,g 37,g 11,g 12,g 38,g 11,g 39,g 40,g 41,g 11,g 12,g 42,g 11,g 43,g 44,g 45,g 11,g 12,g 46,g 11,g 47,g 48,g 49,g 11,g 12,g 50,g 11,g 51,g 52,g 53,g 11,g 12,g 54,g 11,g 55,g 56,g 57,g 11,g 12,g 60,g 11,g 61,g 62,g 63,g 11,g 12,g 64,g 11,g 65,g 66,g 67,g 11,g 12,g 68,g 11,g 69,g 70,g 71,g 11,g 12,g 72,g 11,g 73,g 74,g 75,g 11,g 12,g 76,g 11,g 77,g 78,g 79,g 11,g 12,g 80,g 11,g 81,g 82,g 83,g 11,g 12,g 84,g 11,g 85,g 86,g 87,g 11,g 12,g 88,g 11,g 89,g 90,g 91,g 11,g 12,g 92,g 11,g 93,g 94,g 95,g 11,g 12,g 96,g 11,g 97,g 98,g 99,g 11,g 12,g 100,g 11,g 101,g 102,g 103,g 11,g 12,g 104,g 11,g 105,g 106,g 107,g 11,g 12,g 110,g 11,g 111,g 112,g 113,g 11,g 12,g 114,g 115,g 116,g 11,g 12,g 117,g 11,g 118,g 119,g 120,g 11,g 12,g 121,g 11,g 122,g 123,g 124,g 11,g 12,g 125,g 11,g 126,g 127,g 128,g 11,g 12,g 129,g 11,g 130,g 131,g 132,g 11,g 12,g 133,g 11,g 134,g 135,g 136,g 11,g 12,g 137,g 11,g 138,g 139,g 140,g 11,g 12,g 141,g 142,g 143,g 11,g 12,g 144,g 11,g 145,g 146,g 147,g 11,g 12,g 148,g 11,g 149,g 150,g 151,g 11,g 12,g 152,g 11,g 153,g 154,g 155,g 11,g 12,g 158,g 159,g 160,g 11,g 12,g 161,g 11,g 162,g 163,g 164,g 11,g 12,g 165,g 11,g 166,g 167,g 168,g 11,g 12,g 169,g 11,g 170,g 171,g 172,g 11,g 12,g 173,g 11,g 174,g 175,g 176,g 11,g 12,g 177,g 11,g 178,g 179,g 180,g 11,g 12,g 181,g 182,g 183,g 11,g 12,g 184,g 11,g 185,g 186,g 187,g 11,g 12,g 188,g 11,g 189,g 190,g 191,g 11,g 12,g 192,g 193,g 194,g 11,g 12,g 195,g 196,g 197,g 11,g 12,g 198,g 11,g 199,g 200,g 201,g 11,g 12,g 202,g 203,g 204,g 11,g 12,g 207,g 208,g 209,g 11,g 12,g 210,g 11,g 211,g 212,g 213,g 11,g 12,g 214,g 215,g 216,g 11,g 12,g 217,g 11,g 218,g 219,g 220,g 11,g 12,g 221,g 222,g 223,g 11,g 12,g 224,g 225,g 226,g 11,g 12,g 227,g 228,g 229,g 11,g 12,g 230,g 11,g 231,g 232,g 233,g 11,g 12,g 234,g 235,g 236,g 11,g 12,g 237,g 11,g 238,g 239,g 240,g 11,g 12,g 241,g 242,g 243]⟩,{}⟩:Heap)) fun k=>f (k/16) (k%16) P
theorem laid:(fun(_:Jl) (_:Jl) (_:Nat->Nat->Jw->Obj) (_:List Stmt) (_:List Stmt) (_:List Stmt) (_:List Stmt) (_:List Stmt) (_:List Stmt)=>MC) pw2 vw fA sx0 sx1 sx2 sx3 sx4 sx5=MC:=by k_qdec
end QQ
namespace PySem.W.Fast
noncomputable def tw13128314235920296140:Jl:=tw4061903402435717205
theorem te13128314235920296140:JJ=tw13128314235920296140:=Eq.trans (by kernel_rfl:JJ=QQ.pw2) te4061903402435717205
noncomputable def tw18256671665829782948:Jl:=tw2543460329597916322
theorem te18256671665829782948:QQ.vw=tw18256671665829782948:=te2543460329597916322
noncomputable def tw16442561154005280416:List Stmt:=tw4220349153739756805
theorem te16442561154005280416:QQ.sx0=tw16442561154005280416:=te4220349153739756805
noncomputable def tw2122126713884437753:List Stmt:=tw11397161696757032129
theorem te2122126713884437753:QQ.sx1=tw2122126713884437753:=te11397161696757032129
noncomputable def tw1069179643603715386:List Stmt:=tw10303515436491237874
theorem te1069179643603715386:QQ.sx2=tw1069179643603715386:=te10303515436491237874
noncomputable def tw2872739784564503432:List Stmt:=tw12358083906500975388
theorem te2872739784564503432:QQ.sx3=tw2872739784564503432:=te12358083906500975388
noncomputable def tw583617300093383246:List Stmt:=tw2861187580803015100
theorem te583617300093383246:QQ.sx4=tw583617300093383246:=te2861187580803015100
noncomputable def tw1707824288811964125:List Stmt:=tw9932084693255007381
theorem te1707824288811964125:QQ.sx5=tw1707824288811964125:=te9932084693255007381
noncomputable def tw11096501639994110931:Jw->BT:=QQ.tX0 tw16523235828492288951
theorem te11096501639994110931:QQ.tX0 QQ.fA=tw11096501639994110931:=congrArg QQ.tX0 te16523235828492288951
noncomputable def tw3120824968190015710:Jw->BT:=QQ.tX1 tw16523235828492288951
theorem te3120824968190015710:QQ.tX1 QQ.fA=tw3120824968190015710:=congrArg QQ.tX1 te16523235828492288951
noncomputable def tw12331698776142326878:Jw->BT:=QQ.tX2 tw16523235828492288951
theorem te12331698776142326878:QQ.tX2 QQ.fA=tw12331698776142326878:=congrArg QQ.tX2 te16523235828492288951
noncomputable def tw14931495738934964735:Jw->BT:=QQ.tX3 tw16523235828492288951
theorem te14931495738934964735:QQ.tX3 QQ.fA=tw14931495738934964735:=congrArg QQ.tX3 te16523235828492288951
noncomputable def tw550138358035124299:Jw->BT:=QQ.tX4 tw16523235828492288951
theorem te550138358035124299:QQ.tX4 QQ.fA=tw550138358035124299:=congrArg QQ.tX4 te16523235828492288951
noncomputable def tw11907658219649194310:Jw->BT:=QQ.tX5 tw16523235828492288951
theorem te11907658219649194310:QQ.tX5 QQ.fA=tw11907658219649194310:=congrArg QQ.tX5 te16523235828492288951
noncomputable def tw16668622713938556218:Jw->BT:=QQ.tX6 tw16523235828492288951
theorem te16668622713938556218:QQ.tX6 QQ.fA=tw16668622713938556218:=congrArg QQ.tX6 te16523235828492288951
noncomputable def tw1648143384178114753:Jw->PySem.Heap:=QQ.hX0 tw16523235828492288951
theorem te1648143384178114753:QQ.hX0 QQ.fA=tw1648143384178114753:=congrArg QQ.hX0 te16523235828492288951
noncomputable def tw12271435013995297734:Jw->PySem.Heap:=QQ.hX1 tw16523235828492288951
theorem te12271435013995297734:QQ.hX1 QQ.fA=tw12271435013995297734:=congrArg QQ.hX1 te16523235828492288951
end PySem.W.Fast
end
open PySem PySem.W PyProof.Rows
set_option maxRecDepth 100000 in
set_option maxHeartbeats 0 in
theorem PySem.Challenge.cw_spotlook_k21_lands_of_faces_holds : PySem.Challenge.rw_spotlook_k21_lands_of_faces.Holds := by
 w_on;o_law;o_head (PySem.W.kHook QQ.kK [↑3,↑45,↑46,↑52,↑53,↑59,↑60,↑66,↑67,↑73,↑74,↑80,↑81,↑87,↑88,↑94,↑95,↑101,↑102,↑108,↑109,↑115,↑116,↑122,↑123,↑129,↑130,↑136,↑137,↑143,↑144,↑150,↑151,↑157,↑158,↑164,↑165,↑169,↑170,↑176,↑177,↑183,↑184,↑190,↑191,↑197,↑198,↑204,↑205,↑211,↑212,↑216,↑217,↑223,↑224,↑230,↑231,↑237,↑238,↑242,↑243,↑249,↑250,↑256,↑257,↑263,↑264,↑270,↑271,↑277,↑278,↑282,↑283,↑289,↑290,↑296,↑297,↑301,↑302,↑306,↑307,↑313,↑314,↑318,↑319,↑323,↑324,↑330,↑331,↑335,↑336,↑342,↑343,↑347,↑348,↑352,↑353,↑357,↑358,↑364,↑365,↑369,↑370,↑376,↑377,↑381,↑382] (fun _=>by kernel_rfl));(case hw=>w_witness2)
 k_fill
 refine SD.yT (k:=10) (x:="_law_script") (sp:=QQ.jA) (l:=PySem.Challenge.rw_spotlook_k21_lands_of_faces) rfl rfl ⟨rfl,⋯,⋯,rfl⟩ (fun w h Y=>PySem.W.kIn_of Y) ?F QQ.C5
 case F=>
  intro w mg fa h KX G hmg
  have T:QQ.Tx (L2.KOf KX) mg:=by
   dsimp only[L2.KOf]
   constructor
   all_goals first
    |(refine' PySem.W.mg_none_of KX G ?a;(case a=>k_is))
    |(refine' SD.Txt.mk KX G ?a ?l ?c ?k;(case a=>k_is);(case l=>k_is);(case c=>k_is);(case k=>k_is))
  exact QQ.Fz T hmg
