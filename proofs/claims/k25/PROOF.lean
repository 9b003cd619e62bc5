import PyProof.Rows.All
import Wide.All
import OpenK.AllK
import Wide.FinOn
import Lean
import PyProof.EqAt
import PyProof.EqKinds
import PyProof.TupleCall
import PySem.Challenge.RW_spotlook_k25_lands_looked_at
noncomputable section
open Option renaming some->LZ
open Option renaming none->MA
open Bool renaming true->MB
open Bool renaming false->MC
theorem MD{c:Prop}{d:Decidable c}(h:¬c){a:Sort _}{x y:a}:(if c then x else y)=y:=if_neg h
theorem ME{c:Prop}{d:Decidable c}(h:c){a:Sort _}{x y:a}:(if c then x else y)=x:=if_pos h
theorem MF{p:Prop}[Decidable p](h:¬p):decide p=false:=decide_eq_false h
theorem MG{p:Prop}[Decidable p](h:p):decide p=true:=decide_eq_true h
theorem MI{p:Prop}[Decidable p](h:decide p=true):p:=of_decide_eq_true h
theorem MJ{p q:Prop}{_:Decidable p}{_:Decidable q}:(decide p=decide q)=(p↔q):=propext decide_eq_decide
theorem MK{p:Prop}[Decidable p]:(decide p=true)=p:=decide_eq_true_eq
local macro_rules|`(())=>`(by omega)
local macro_rules|`(‹$x›)=>`(by simpa using $x)
local macro_rules|`(⋯)=>`(by first|decide|walk_at "sc")
local macro_rules | `(tactic| omega) => `(tactic| lia)
open Bool renaming false_ne_true->J9,and_eq_true->Jp,false_and->JU,eq_iff_iff->Kn,true_and->Ko,false_eq_true->Kz,and_true->Ll,and_false->Lu,decide_and->LA
open Classical renaming byContradiction->JO
open False renaming elim->Js
open ForInStep renaming yield->Le
open Int renaming lt_trichotomy->J5,sign->Ji,mul_pos->Jl,mul_neg_of_neg_of_pos->Jq,mul_neg_of_pos_of_neg->Jr,sign_eq_neg_one_of_neg->Jt,sign_eq_one_of_pos->JF,mul_pos_of_neg_of_neg->JG,fdiv_eq_ediv_of_nonneg->JM,le_of_lt->K5,toNat_natCast->K7,mul_nonneg->Ku,mul_nonpos_of_nonneg_of_nonpos->KA,le_refl->KH,fmod_eq_emod_of_nonneg->KO,mul_le_mul_of_nonneg_left->La,ofNat->LQ,one_mul->LR
open List renaming getElem?_eq_getElem->IT,length_map->IV,mem_of_getElem?->IW,getElem?_map->IX,map_cons->J0,getElem?_eq_some_iff->J1,range->J8,mem_filter->Jb,size_toArray->Jd,map_append->Jg,mem_append_right->Jh,mem_append->Jn,replicate->Ju,mem_range->Jv,find?_cons->Jw,mem_cons->Jx,mem_cons_of_mem->JA,mem_map->JC,sum_cons->JH,getElem_mem->JQ,all_eq_true->JR,mem_singleton->JS,getElem?_append_right->JV,mem_cons_self->JW,append_nil->JX,getElem?_append_left->JY,toArray->JZ,length_cons->K1,take_of_length_le->K6,length_append->Kg,map_nil->Kh,take_succ->Kj,lookup_cons->Kk,replicate_succ->Kq,map->Kt,range_succ->Kw,ne_nil_of_mem->KC,flatten_cons->KN,map_congr_left->KU,pairwise_iff_getElem->KY,length_take->L3,map_map->L7,foldl_cons->Ld,any_cons->Lk,nodup_cons->Lz,append_assoc->LG,nodup_append->LI
open List.Pairwise renaming filter->KI
open Nat renaming le_refl->IY,lt_of_lt_of_le->Jm,ne_of_lt->JB,le_trans->K4,zero_le->Kf,mod_two_eq_zero_or_one->KR,gcd->Lx
open PyProof.Rows renaming slot_tuple_getitem->Ka,callWith_type1->KJ,IntsAre->Lc
open PySem renaming wpAny_bind->cc,Value->IQ,Shared->IS,wpAny_pure->IU,wpAny->J4,sizeLine->J7,wpAny_mono->Ja,starEach->Je,model->Jf,Program->Jk,Params->Jo,wpAny_newObj_type->Jy,foldedSetIterable->Jz,compareOp->JD,World->JJ,mem_of_lookup->JN,Around->JP,bootBuiltins->JT,cLine->K0,DictEntry->K3,wpAny_holding->K8,wpAny_loadPart'->Kb,wpAny_truthy_bool->Kd,backTo->Kr,wpAny_standAt->Ks,sysModules->Ky,cellsFrom->KD,wpAny_callSpecial?_slot->KG,wpAny_seqItems->KP,letOwnedTupleGo->KW,binaryOp->KZ,Spec->L0,wpAny_call_entry->L4,wpAny_typeNameOfWhole_keyiter->L9,codeAny->Lb,NameKind->Lh,swapsWith->Lo,Scope->Lp,wpAny_tryCatch->Lr,wpAny_passesOwn->Ly,codeAny_builtin->LB,mainGlobals->LC,wpAny_field->LD,keywordEach->LF,wpAny_pyIter_list->LH,behindInMarks->LJ,assignEach->LK,plainId_quiet->LM,assign->LN,PyData->LP,FuncData->LW,Paired->LX,Builtin->LY,Addr->n7,Stmt->n_,Heap->oa,Expr->oT
open PySem.Around renaming under_plainId->L8
open PySem.Builtin.Slice renaming sliceApplied->Lq
open PySem.Builtin.Tuple renaming tupleExact->K9
open PySem.Challenge renaming pw_spotlook_k25_lands_looked_at->JE
open PySem.F renaming slot_dict_keyiterator_next->Kx,plain_min_loop->L5,slot_tuple_iterator_next->Lv
open PySem.Heap renaming get?_push_of_some->IZ,get?_push_size->J3,lt_size->J6,get?_update_other->JK,size_push->Ki,get?_update_self->Kl,SameBut->L6
open PySem.Heap.SameBut renaming update->KS
open PySem.NameKind renaming free->Lm
open PySem.PassesOwn renaming never->Jc
open PySem.PyData renaming eqv->JL,eqvAll->Ke,canLayAll0->KQ
open PySem.SeqAt renaming shaped->Li,canLay_of_shaped->Lj
open PySem.Str renaming ofString->Kp
open PySem.Value renaming ref->Kc,none->KL,type->LV
open PySem.W renaming Frag->I0,BT->Jj,fnOf->Kv
open Rat renaming intCast_mul->JI,intCast_sub->Km,intCast_add->Lf,mul_pos->Ln,div_def->LU
open True renaming intro->LL
local macro_rules | `(↑$n:num) => `(nat_lit $n)
set_option Elab.async false
set_option linter.all false
set_option maxRecDepth 100000
set_option maxHeartbeats 4000000
set_option allowUnsafeReducibility true
abbrev PySem.Shared.z(s:PySem.Shared):=s.heap.objs.size
abbrev _root_.ri:=Nat->Int
abbrev _root_.rf:=List PySem.Str
abbrev _root_.rb:=List n7
abbrev _root_.ra:=List oT
abbrev _root_.q_:=List n_
abbrev _root_.qb:=Option Int
abbrev _root_.p_:=Option IQ
abbrev _root_.p4:=List IQ
abbrev _root_.pw:=List Int
abbrev _root_.pq:=List Nat
abbrev _root_.pe:=List (pq)
abbrev _root_.pd:=PySem.Str->p_
abbrev _root_.pa:=List (n7×PySem.Obj)
abbrev _root_.o_:=IQ->IS->Prop
theorem Mo{n m:Nat}(h:Nat.ble n m=MB):n<=m:=Nat.le_of_ble_eq_true h
namespace L2
open PySem PySem.Spec PyProof.Rows
abbrev Key:=Sum Int Str
def nN:Key->IQ->Bool
 |.inl k,v=>Value.isInt k v
 |.inr x,v=>Value.isStrOf x v
def HJ(w:JJ):Key->Int
 |.inl k=>hashInt k
 |.inr x=>hashStr w x
theorem bR:∀{k:Key} {v:IQ},nN k v=MB->(∃i t,k=Sum.inl i/\v=Value.int i t)\/(∃x t,k=Sum.inr x/\v=Value.str x t)
 |.inl i,v,h=>by
  obtain⟨t,e⟩:=Value.isInt_shape (k:=i) (v:=v) h
  exact .inl ⟨i,t,rfl,e⟩
 |.inr x,v,h=>by
  obtain⟨t,e⟩:=Value.isStrOf_shape (x:=x) (v:=v) h
  exact .inr ⟨x,t,rfl,e⟩
theorem wG(i:Int)(t:Tok):nN (.inl i) (.int i t)=MB:=by simp[nN,Value.isInt]
theorem wF(x:Str)(t:Tok):nN (.inr x) (.str x t)=MB:=by simp[nN,Value.isStrOf]
theorem D2(a b:Int):decide ((Sum.inl a:Key)=Sum.inl b)=(a==b):=by
 by_cases e:a=b
 ·subst e;simp
 ·have h:¬(Sum.inl a:Key)=Sum.inl b:=fun q=>e (Sum.inl.inj q);rw[MF h];exact(beq_eq_false_iff_ne.mpr e).symm
theorem D5(a b:Str):decide ((Sum.inr a:Key)=Sum.inr b)=decide (a=b):=by
 by_cases e:a=b
 ·subst e;simp
 ·have h:¬(Sum.inr a:Key)=Sum.inr b:=fun q=>e (Sum.inr.inj q);rw[MF h,MF e]
theorem Dk(a:Int)(b:Str):decide ((Sum.inl a:Key)=Sum.inr b)=MC:=MF (fun q=>nomatch q)
theorem Er(a:Str)(b:Int):decide ((Sum.inr a:Key)=Sum.inl b)=MC:=MF (fun q=>nomatch q)
def cx(prog:Jk)(w:JJ):PySem.KeyKind prog w Key where
 is:=nN
 hash:=HJ w
 inj:=fun v a b f d=>by
  rcases bR f with⟨i,t,rfl,rfl⟩|⟨x,t,rfl,rfl⟩
  ·rcases bR d with⟨j,u,rfl,e⟩|⟨y,u,rfl,e⟩
   ·injection e with e1 _;rw[e1]
   ·exact nomatch e
  ·rcases bR d with⟨j,u,rfl,e⟩|⟨y,u,rfl,e⟩
   ·exact nomatch e
   ·injection e with e1 _;rw[e1]
 byValue:=fun k v h=>by
  rcases bR h with⟨i,t,rfl,rfl⟩|⟨x,t,rfl,rfl⟩<;>rfl
 pyHash:=fun c h=>by
  rcases bR c with⟨i,t,rfl,rfl⟩|⟨x,t,rfl,rfl⟩
  ·exact wpAny_pyHash_int h
  ·exact wpAny_pyHash_str h
 eqBool:=fun g c h=>by
  rcases bR g with⟨i,t,rfl,rfl⟩|⟨x,t,rfl,rfl⟩
  ·rcases bR c with⟨j,u,rfl,rfl⟩|⟨y,u,rfl,rfl⟩
   ·rw[D2]at h;exact wpAny_eqBool_int h
   ·rw[Dk]at h;exact SeqAt.EqAt.int_str i t y u _ _ _ _ h
  ·rcases bR c with⟨j,u,rfl,rfl⟩|⟨y,u,rfl,rfl⟩
   ·rw[Er]at h;exact SeqAt.EqAt.str_int x t j u _ _ _ _ h
   ·rw[D5]at h;exact wpAny_eqBool_str h
 «strs»:=fun k x t v h=>by
  rcases bR h with⟨i,u,rfl,e⟩|⟨y,u,rfl,e⟩
  ·exact nomatch e
  ·injection e with e1 _
   subst e1
   cases v<;>rfl
theorem qU(prog:Jk)(w:JJ)(i:Int)(t:Tok):(cx prog w).is (.inl i) (.int i t)=MB:=wG i t
theorem rP(prog:Jk)(w:JJ)(x:Str)(t:Tok):(cx prog w).is (.inr x) (.str x t)=MB:=wF x t
inductive V where
 |non|bl (b:Bool)|int (i:Int)|str (x:Str)|byt (b:Array UInt8)|flt (b:UInt64)|ref (a:n7)|ty (n:String)
 deriving DecidableEq
abbrev _root_.ro:=List V
def RelV:V->IQ->Prop
 |.non,u=>u=KL
 |.bl b,u=>u=Value.bool b
 |.int i,u=>∃t,u=Value.int i t
 |.str x,u=>∃t,u=Value.str x t
 |.byt b,u=>∃t,u=Value.bytes b t
 |.flt b,u=>∃t,u=Value.float b t
 |.ref a,u=>u=Kc a
 |.ty n,u=>u=LV n
abbrev Vals:ro->p4->Prop:=LX RelV
theorem Vals.length{xs:ro}{us:p4}(r:Vals xs us):xs.length=us.length:=Paired.length r
theorem Vals.get:∀{xs:ro} {us:p4} {i:Nat} {x:V},Vals xs us->xs[i]?=LZ x->∃u,us[i]?=LZ u/\RelV x u
 |_,_,_,_,.nil,e=>by simp at e
 |_,_,0,_,.cons r _,e=>by simp at e;subst e;exact⟨_,rfl,r⟩
 |_,_,i+1,x,.cons _ t,e=>by
  obtain⟨u,a,b⟩:=Vals.get (i:=i) (x:=x) t ‹e›
  exact⟨u,‹a›,b⟩
theorem Vals.set{x:V}{u:IQ}(r:RelV x u):∀{xs:ro} {us:p4} (i:Nat),Vals xs us->Vals (xs.set i x) (us.set i u)
 |_,_,_,.nil=>.nil
 |_,_,0,.cons _ t=>.cons r t
 |_,_,i+1,.cons q t=>.cons q (Vals.set r i t)
theorem Vals.append:∀{xs a:ro} {us ws:p4},Vals xs us->Vals a ws->Vals (xs++a) (us++ws):=by
 intro xs a us ws h s
 induction h with
 |nil=>exact s
 |cons r t b=>exact .cons r b
theorem Vals.take:∀{xs:ro} {us:p4} (n:Nat),Vals xs us->Vals (xs.take n) (us.take n)
 |_,_,0,_=>.nil
 |_,_,_+1,.nil=>.nil
 |_,_,n+1,.cons r t=>.cons r (Vals.take n t)
theorem Vals.drop:∀{xs:ro} {us:p4} (n:Nat),Vals xs us->Vals (xs.drop n) (us.drop n)
 |_,_,0,r=>r
 |_,_,_+1,.nil=>.nil
 |_,_,n+1,.cons _ t=>Vals.drop n t
def wo:Option V->p_->Prop
 |some v,LZ u=>RelV v u
 |none,MA=>True
 |_,_=>False
def KV{a:Type}:List (a×V)->List (a×IQ)->Prop:=LX fun(p:a×V) (q:a×IQ)=>p.1=q.1/\RelV p.2 q.2
def kV:Key->V
 |.inl i=>.int i
 |.inr x=>.str x
inductive HO where
 |lst (xs:ro)
 |tup (xs:ro)
 |dK (kvs:List (Key×V))|dT (kvs:List (List Key×V))
 |set (S:Int->Bool) (n:Nat)
 |ins (C dx:n7) (fs:List (Str×V))
 |own (x:n7)
 |xd (fs:List (Str×V))
 |met (f x:n7)
 |rng (lo hi:Int)
 |frz (o:Obj) (u:HO)
 |tbl (ps:Array IQ)
 |ext (φ:oa->Prop)
abbrev Hp:=n7->Option HO
def upd(H:Hp)(a:n7)(o:HO):Hp:=fun b=>if b=a then LZ o else H b
theorem bc{H:Hp}{a:n7}{o:HO}:upd H a o a=LZ o:=by unfold upd;rw[ME rfl]
theorem aZ{H:Hp}{a b:n7}{o:HO}(h:b≠a):upd H a o b=H b:=by unfold upd;rw[MD h]
theorem GW{H:Hp}{a b:n7}{o u:HO}(h:H a=LZ o)(h':H b=LZ u)(d:o≠u):a≠b:=by intro e;subst e;rw[h]at h';exact d (Option.some.inj h')
theorem eC{H:Hp}{a b:n7}{o:HO}(h:H a=LZ o)(h':H b=MA):a≠b:=by intro e;subst e;rw[h]at h';cases h'
section
variable(P:Jk)(w:JJ)
def R3(h:oa)(a:n7):Prop:=∃o,h.get? a=LZ o/\o.dict=MA
theorem R3.new(h:oa)(u:Array IQ):R3 (h.push { cls:=.type "tuple",data:=.seq u }) h.objs.size:=⟨_,J3 _ rfl,rfl⟩
def cP(H:Hp)(h:oa)(a:n7):HO->Prop
 |.lst xs=>xs.length<=J7/\∃(b:p4) (n:Nat),Vals xs b/\h.get? a=LZ { cls:=.type "list",data:=.seq b.toArray n }
 |.tup xs=>xs.length<=J7/\∃b:p4,Vals xs b/\IsTup h a b.toArray/\R3 h a
 |.dK kvs=>kvs.length<=J7/\(a==Ky)=MC/\∃vs,KV kvs vs/\h.DictOf (cx P w) a vs
 |.dT kvs=>kvs.length<=J7/\(a==Ky)=MC/\∃xs:List (List Key×n7×IQ),
  LX (fun(p:List Key×V) (q:List Key×n7×IQ)=>p.1=q.1/\H q.2.1=LZ (.tup (p.1.map kV))/\RelV p.2 q.2.2) kvs xs/\
  ∃o g k,h.get? a=LZ o/\o.ExactDict/\o.data=.dict g k/\g.toList=xs.map (entryOfKey (tupleKind (cx P w)))/\(xs.map (·.1)).Nodup
 |.set S n=>h.SetOf (intKind P w) a S n
 |.ins C d fs=>H d=LZ (.own a)/\fs.length<=1000/\d≠a/\h.get? a=LZ (PySem.W.instObj C d)/\
  ∃c,h.Ns1 d c/\(∀f,wo (fs.lookup f) (c f))/\PySem.Within c (fs.map (·.1))
 |.own _=>∃o,h.get? a=LZ o
 |.xd fs=>∃c,h.Ns1 a c/\∀f,wo (fs.lookup f) (c f)
 |.rng l m=>∃t u v,h.get? a=LZ { cls:=.type "range",data:=.fields #[.int l t,.int m u,.int 1 v] }
 |.frz o u=>h.get? a=LZ o/\cP H h a u
 |.tbl ps=>h.get? a=LZ { cls:=.none,data:=.fields ps }
 |.met f x=>h.get? a=LZ (PySem.W.methodObj (.ref f) (.ref x))
 |.ext e=>e h/\(∃o,h.get? a=LZ o)/\∀i j:oa,e i->(∀o,i.get? a=LZ o->j.get? a=LZ o)->e j
def N8(H:Hp)(h:oa):Prop:=∀a o,H a=LZ o->cP P w H h a o
end
section
variable{P:Jk}{w:JJ}{H H':Hp}{h h':oa}{a:n7}{o:HO}
theorem cP.lt(x:cP P w H h a o):a<h.objs.size:=by
 cases o with
 |lst xs=>obtain⟨_,_,_,_,e⟩:=x;exact J6 e
 |tup xs=>obtain⟨_,_,_,p,_⟩:=x;exact p.lt
 |dK kvs=>obtain⟨_,_,_,_,o,_,_,e,_⟩:=x;exact J6 e
 |dT kvs=>obtain⟨_,_,_,_,o,_,_,e,_⟩:=x;exact J6 e
 |set S n=>obtain⟨o,_,_,_,e,_⟩:=x;exact J6 e
 |ins C b fs=>obtain⟨_,_,_,e,_⟩:=x;exact J6 e
 |own y=>obtain⟨_,e⟩:=x;exact J6 e
 |xd fs=>obtain⟨_,⟨_,_,_,e,_⟩,_⟩:=x;exact J6 e
 |rng c d=>obtain⟨_,_,_,e⟩:=x;exact J6 e
 |frz g u=>obtain⟨e,_⟩:=x;exact J6 e
 |tbl ps=>exact J6 (show h.get? a=LZ _ from x)
 |met f y=>exact J6 (show h.get? a=LZ _ from x)
 |ext i=>obtain⟨_,⟨_,e⟩,_⟩:=x;exact J6 e
theorem Paired.GV{c d:Type}{F G:c->d->Prop}:∀{l₁:List c} {l₂:List d},LX F l₁ l₂->(∀a b,F a b->G a b)->LX G l₁ l₂:=by
 intro l₁ l₂ h f
 induction h with
 |nil=>exact .nil
 |cons r t e=>exact .cons (f _ _ r) e
theorem cP.iU(x:cP P w H h a o)(k:∀b u,(b=a\/H b=LZ (.own a))->h.get? b=LZ u->h'.get? b=LZ u) (s:∀b,H b=LZ (.own a)->H' b=LZ (.own a)) (A:∀b xs,H b=LZ (.tup xs)->H' b=LZ (.tup xs)):cP P w H' h' a o:=by
 induction o with
 |lst xs=>obtain⟨z,l,n,r,e⟩:=x;exact⟨z,l,n,r,k _ _ (.inl rfl) e⟩
 |tup xs=>obtain⟨z,l,r,⟨g,e,c⟩,B,e2,D⟩:=x;exact⟨z,l,r,⟨g,k _ _ (.inl rfl) e,c⟩,B,k _ _ (.inl rfl) e2,D⟩
 |dK kvs=>obtain⟨z,y,vs,r,g,i,j,e,c⟩:=x;exact⟨z,y,vs,r,g,i,j,k _ _ (.inl rfl) e,c⟩
 |dT kvs=>
  obtain⟨z,y,xs,r,g,i,j,e,c⟩:=x
  exact⟨z,y,xs,Paired.GV r fun p q z=>⟨z.1,A _ _ z.2.1,z.2.2⟩,g,i,j,k _ _ (.inl rfl) e,c⟩
 |set S n=>obtain⟨g,i,j,t,e,c⟩:=x;exact⟨g,i,j,t,k _ _ (.inl rfl) e,c⟩
 |ins C F fs=>
  obtain⟨d,z,ne,e,m,⟨od,i,j,e2,c⟩,r⟩:=x
  exact⟨s _ d,z,ne,k _ _ (.inl rfl) e,m,⟨od,i,j,k _ _ (.inr d) e2,c⟩,r⟩
 |own y=>obtain⟨g,e⟩:=x;exact⟨g,k _ _ (.inl rfl) e⟩
 |xd fs=>obtain⟨m,⟨od,i,j,e,c⟩,r⟩:=x;exact⟨m,⟨od,i,j,k _ _ (.inl rfl) e,c⟩,r⟩
 |rng G I=>obtain⟨t,u,v,e⟩:=x;exact⟨t,u,v,k _ _ (.inl rfl) e⟩
 |frz g u E=>obtain⟨e,q⟩:=x;exact⟨k _ _ (.inl rfl) e,E q⟩
 |tbl ps=>
  have e:h.get? a=LZ { cls:=.none,data:=.fields ps }:=x
  show h'.get? a=LZ { cls:=.none,data:=.fields ps }
  exact k a _ (.inl rfl) e
 |met f y=>
  have e:h.get? a=LZ (PySem.W.methodObj (.ref f) (.ref y)):=x
  show h'.get? a=LZ (PySem.W.methodObj (.ref f) (.ref y))
  exact k a _ (.inl rfl) e
 |ext J=>obtain⟨p,⟨o,e⟩,st⟩:=x;exact⟨st _ _ p fun o q=>k _ _ (.inl rfl) q,⟨o,k _ _ (.inl rfl) e⟩,st⟩
theorem N8.lt(x:N8 P w H h)(e:H a=LZ o):a<h.objs.size:=(x a o e).lt
theorem N8.fresh(x:N8 P w H h)(e:h.objs.size<=a):H a=MA:=by
 cases q:H a with
 |none=>rfl
 |some u=>exact absurd (Jm (x.lt q) e) (Nat.lt_irrefl _)
theorem N8.kept(x:N8 P w H h)(k:∀b u,h.get? b=LZ u->h'.get? b=LZ u):N8 P w H h':=fun a o e=>(x a o e).iU (fun b u _ q=>k b u q) (fun _ q=>q) fun _ _ q=>q
theorem N8.laid(x:N8 P w H h)(k:∀b u,h.get? b=LZ u->h'.get? b=LZ u)(g:h.objs.size<=a)(new:cP P w (upd H a o) h' a o):N8 P w (upd H a o) h':=fun b u e=>by
 have d:=x.fresh g;by_cases f:b=a
 ·subst f;rw[bc]at e;cases e;exact new
 ·rw[aZ f]at e;exact(x b u e).iU (fun c v _ q=>k c v q) (fun c q=>by rw[aZ (eC q d)];exact q) fun c xs q=>by rw[aZ (eC q d)];exact q
end
def Rd(H:Hp)(a:n7)(u:HO):Prop:=H a=LZ u\/∃o,H a=LZ (.frz o u)
theorem Rd.ok{P:Jk}{w:JJ}{H:Hp}{h:oa}{a:n7}{u:HO}(r:Rd H a u)(x:N8 P w H h):cP P w H h a u:=by
 rcases r with r|⟨o,r⟩
 ·exact x a u r
 ·obtain⟨_,q⟩:=x a _ r;exact q
def Vw:Option HO->Prop
 |some (.lst _)=>True
 |some (.dK _)=>True
 |some (.dT _)=>True
 |some (.set _ _)=>True
 |some (.ins _ _ _)=>True
 |some (.ext _)=>True
 |_=>False
section
variable{P:Jk}{w:JJ}{H:Hp}{h h':oa}{x e:n7}{o':HO}
theorem N8.write(ok:N8 P w H h)(g:Vw (H x))(m:e=x\/H e=LZ (.own x))(k:∀b u,b≠e->h.get? b=LZ u->h'.get? b=LZ u)(l:∃u,h'.get? e=LZ u)
 (new:cP P w (upd H x o') h' x o'):N8 P w (upd H x o') h':=fun b u q=>by
 have d:∀c y,H c=LZ (.own y)->c≠x:=fun c y r z=>by subst z;rw[r]at g;exact g
 have f:∀c xs,H c=LZ (.tup xs)->c≠x:=fun c xs r z=>by subst z;rw[r]at g;exact g
 by_cases i:b=x
 ·subst i;rw[bc]at q;cases q;exact new
 ·rw[aZ i]at q
  by_cases a:b=e
  ·have n:H b=LZ (.own x):=by
    rcases m with z|z
    ·exact absurd (a.trans z) i
    ·rw[a];exact z
   rw[q]at n;cases n
   obtain⟨v,o⟩:=l
   exact⟨v,by rw[a];exact o⟩
  ·refine(ok b u q).iU (fun c v j r=>k c v ?_ r) (fun c r=>by rw[aZ (d c b r)];exact r) fun c xs r=>by rw[aZ (f c xs r)];exact r
   rcases j with rfl|j
   ·exact a
   ·rintro rfl
    rcases m with z|z
    ·exact d c b j z
    ·rw[j]at z;cases z;exact i rfl
end
structure Un(fs ex:rb)(H H':Hp)(h h':oa):Prop where
 keep:∀b o,h.get? b=LZ o->H b=MA->b∉fs->b∉ex->h'.get? b=LZ o
 slot:∀b o,h.get? b=LZ o->H b=MA->b∈fs->b∉ex->∃sl,h'.get? b=LZ { o with slots:=sl }
 free:∀b o,h.get? b=LZ o->H b=MA->b∉ex->H' b=MA
 there:∀b o,h.get? b=LZ o->b∉ex->∃o',h'.get? b=LZ o'
 tups:∀b xs,H b=LZ (.tup xs)->H' b=LZ (.tup xs)
 frzs:∀b o u,H b=LZ (.frz o u)->H' b=LZ (.frz o u)
 tbls:∀b ps,H b=LZ (.tbl ps)->∃more,H' b=LZ (.tbl (ps++more))
section
variable{fs ML ex MM:rb}{H H1 H2:Hp}{h h1 h2 h':oa}{a x e:n7}{o:HO}
theorem Un.any(u:Un fs ex H H1 h h1){b:n7}{c:Obj}(q:h.get? b=LZ c)(n:H b=MA)(d:b∉ex):∃g,h1.get? b=LZ { c with slots:=g }:=by
 by_cases f:b∈fs
 ·exact u.slot b c q n f d
 ·exact⟨c.slots,u.keep b c q n f d⟩
theorem Un.kept(k:∀b u,h.get? b=LZ u->h'.get? b=LZ u):Un fs ex H H h h':=⟨fun b c q _ _ _=>k b c q,fun b c q _ _ _=>⟨c.slots,k b c q⟩,fun _ _ _ n _=>n,fun b c q _=>⟨c,k b c q⟩,fun _ _ q=>q,fun _ _ _ q=>q,fun _ ps q=>⟨#[],by rw[q];simp⟩⟩
theorem Un.refl:Un fs ex H H h h:=Un.kept fun _ _ q=>q
theorem Un.laid(k:∀b u,h.get? b=LZ u->h'.get? b=LZ u)(d:h.objs.size<=a)(c:H a=MA):Un fs ex H (upd H a o) h h' where
 keep:=fun b u q _ _ _=>k b u q
 slot:=fun b u q _ _ _=>⟨u.slots,k b u q⟩
 free:=fun b u q n _=>by rw[aZ (JB (Jm (J6 q) d))];exact n
 there:=fun b u q _=>⟨u,k b u q⟩
 tups:=fun b xs q=>by rw[aZ (eC q c)];exact q
 frzs:=fun b u xs q=>by rw[aZ (eC q c)];exact q
 tbls:=fun b ps q=>⟨#[],by rw[aZ (eC q c),q];simp⟩
theorem Un.write(d:Vw (H x))(l:e=x\/H e=LZ (.own x))(k:∀b u,b≠e->h.get? b=LZ u->h'.get? b=LZ u)(f:∃u,h'.get? e=LZ u):Un fs ex H (upd H x o) h h':=by
 have i:∀b,H b=MA->b≠x:=fun b n z=>by subst z;rw[n]at d;exact d
 have j:∀b,H b=MA->b≠e:=fun b n z=>by
  subst z;rcases l with r|r
  ·exact i b n r
  ·rw[n]at r;cases r
 have g:∀b u,H b=LZ u->¬Vw (LZ u)->b≠x:=fun b u q m z=>by subst z;rw[q]at d;exact m d
 refine⟨fun b u q n _ _=>k b u (j b n) q,fun b u q n _ _=>⟨u.slots,k b u (j b n) q⟩,fun b u q n _=>by rw[aZ (i b n)];exact n,fun b u q _=>?_,fun b xs q=>by rw[aZ (g b _ q fun z=>z)];exact q,fun b u xs q=>by rw[aZ (g b _ q fun z=>z)];exact q,fun b ps q=>⟨#[],by rw[aZ (g b _ q fun z=>z),q];simp⟩⟩;by_cases c:b=e
 ·subst c;exact f
 ·exact⟨u,k b u c q⟩
end
def WD(h:oa)(H:Hp):rb:=(J8 h.objs.size).filter fun a=>(H a).isSome
def oR(h:oa)(H:Hp):oa:=PySem.W.hideAll h (WD h H)
theorem wN(h:oa)(H:Hp):(oR h H).objs.size=h.objs.size:=PySem.W.hideAll_size _ _
theorem yG{h:oa}{H:Hp}{b:n7}{o:Obj}(e:h.get? b=LZ o)(n:H b=MA):(oR h H).get? b=LZ o:=
 PySem.W.hideAll_get _ e fun a=>by
  have q:(H b).isSome=MB:=(Jb.mp a).2
  rw[n]at q;simp at q
theorem Am{h:oa}{H:Hp}{b:n7}{o:Obj}(e:(oR h H).get? b=LZ o):h.get? b=LZ o/\H b=MA:=by
 have a:h.get? b=LZ o:=PySem.W.of_hideAll (WD h H) e;refine⟨a,?_⟩;cases q:H b with
 |none=>rfl
 |some x=>
  have c:b∈WD h H:=Jb.mpr ⟨Jv.mpr (J6 a),by simp[q]⟩
  have z:(oR h H).get? b=MA:=PySem.W.hideAll_none (WD h H) c
  rw[z]at e;cases e
structure Mod(K:I0)(mg:pd)(base:oa):Prop where
 kin:K.In base
 glob:base.Ns LC mg
 blt:∃mb,base.Ns builtinsNs mb/\∀x:Str,x≠"__name__"->mb x=JT x
 nolimit:base.NoLimit
structure Cx where
 prog:Jk
 w:JJ
 K:I0
 mg:Str->p_
 base:oa
 A:JP
 N:rf
 s₀:IS
 H₀:Hp
 env:Env
 outer:List Env
 stack:List Env
 ex:rb
 fn:Str->Bool
 calm:Bool
 pn:pa
 xe:IQ->IS->Prop
def Qf(l:List Env):rb:=l.filterMap (·.frame)
abbrev Cx.fs(X:Cx):rb:=Qf X.outer
def Vu(sc:Lp)(x:Str):Prop:=sc.names.lookup x=LZ .local\/sc.names.lookup x=LZ .cell\/sc.names.lookup x=LZ .free
def Loc(sc:Lp)(x:Str):Prop:=sc.names.lookup x=LZ .local\/sc.names.lookup x=LZ .cell
def Look(env:Env)(h:oa)(m:pd)(x:Str)(u:IQ):Prop:=
 (env.kindOf x=LZ .local/\m x=LZ u)\/((env.kindOf x=LZ .cell\/env.kindOf x=LZ .free)/\∃c,env.cells.lookup x=LZ c/\h.IsCell c (LZ u))
structure Cx.Ok(X:Cx):Prop where
 mod:Mod X.K X.mg X.base
 kind:X.env.scope.kind=.function
 glob:X.env.globals=LC
 blt:X.env.builtins=builtinsNs
 above:X.s₀.z<=X.env.locals
 inj:∀x y c,X.env.cells.lookup x=LZ c->X.env.cells.lookup y=LZ c->x=y
 has:∀x,(X.env.kindOf x=LZ .cell\/X.env.kindOf x=LZ .free)->∃c,X.env.cells.lookup x=LZ c
 cab:∀x c,X.fn x=MB->X.env.cells.lookup x=LZ c->X.s₀.z<=c
 hd:X.calm=MB->X.A.handled=MA
 frames:X.A.frames=LZ X.stack
 stk:X.stack=X.outer\/(X.stack=X.env::X.outer/\X.env.frame=LZ X.env.locals)
 exf:∀b∈X.ex,b≠X.env.locals/\∀x c,X.env.cells.lookup x=LZ c->c≠b
 bs:∀b o,X.base.get? b=LZ o->X.s₀.heap.get? b=LZ o/\X.H₀ b=MA
 bsz:X.base.objs.size<=X.s₀.z
 noex:∀b o,X.base.get? b=LZ o->b∉X.ex
 exfs:∀b∈X.ex,b∉X.fs
 mL:X.s₀.heap.FunFrames X.base X.outer
 frf:∀b∈X.fs,X.H₀ b=MA
structure Inv(X:Cx)(MN:pa)(σ:List (Option V))(H:Hp)(s:IS):Prop where
 ok:X.Ok
 os:s.os=X.s₀.os
 bare:AllBare s.gens
 base:Un X.fs X.ex X.H₀ H X.s₀.heap s.heap
 loc:∃m,s.heap.Ns X.env.locals m/\∀(i:Nat) (x:Str) (v:V),X.N[i]?=LZ x->σ[i]?=LZ (LZ v)->Vu X.env.scope x->∃u,RelV v u/\Look X.env s.heap m x u
 cell:∀x c,X.env.cells.lookup x=LZ c->∃v,s.heap.IsCell c v
 free:H X.env.locals=MA
 freeC:∀x c,X.env.cells.lookup x=LZ c->H c=MA
 pin:∀p∈X.pn++MN,s.heap.get? p.1=LZ p.2/\H p.1=MA/\p.1≠X.env.locals/\p.1∉X.fs/\∀v,p.2.data≠.cell v
 hok:N8 X.prog X.w H s.heap
 len:σ.length=X.N.length
section
variable{X:Cx}{MN:pa}{σ:List (Option V)}{H H':Hp}{s:IS}{h':oa}
theorem Cx.Ok.HQ(ok:X.Ok){b:n7}{o:Obj}(e:X.base.get? b=LZ o):b∉X.fs:=fun a=>by have:=(ok.mL.mem a).1;rw[e]at this;cases this
theorem Inv.bs(I:Inv X MN σ H s):∀b o,X.base.get? b=LZ o->s.heap.get? b=LZ o/\H b=MA:=fun b o e=>⟨I.base.keep b o (I.ok.bs b o e).1 (I.ok.bs b o e).2 (I.ok.HQ e) (I.ok.noex b o e),I.base.free b o (I.ok.bs b o e).1 (I.ok.bs b o e).2 (I.ok.noex b o e)⟩
theorem Inv.bk(I:Inv X MN σ H s):∀b o,X.base.get? b=LZ o->s.heap.get? b=LZ o:=fun b o e=>(I.bs b o e).1
theorem Inv.mod(I:Inv X MN σ H s):Mod X.K X.mg X.base:=I.ok.mod
theorem Inv.kIn(I:Inv X MN σ H s):X.K.In s.heap:=I.ok.mod.kin.keeps I.bk
theorem Inv.lt(I:Inv X MN σ H s):X.env.locals<s.z:=let⟨_,a,_⟩:=I.loc;a.lt
theorem Inv.sz(I:Inv X MN σ H s):X.s₀.z<=s.z:=K4 I.ok.above (Nat.le_of_lt I.lt)
theorem Inv.IM(I:Inv X MN σ H s){a:n7}(h:s.z<=a):a∉X.fs:=fun b=>by obtain⟨_,o,c,_⟩:=I.ok.mL.mem b;exact absurd (Jm (J6 c) (K4 I.sz h)) (Nat.lt_irrefl _)
theorem Inv.cne(I:Inv X MN σ H s):∀x c,X.env.cells.lookup x=LZ c->c≠X.env.locals:=fun x c e z=>by obtain⟨v,o,d,hd⟩:=I.cell x c e;obtain⟨m,⟨f,g,h,a,b,_⟩,_⟩:=I.loc;rw[z,a]at d;cases d;rw[b]at hd;cases hd
theorem Inv.mL(I:Inv X MN σ H s):s.heap.FunFrames X.base X.outer:=by
 have all:∀(l:List Env),(∀b∈Qf l,b∈X.fs)->X.s₀.heap.FunFrames X.base l->s.heap.FunFrames X.base l:=by
  intro l
  induction l with
  |nil=>intro _ _;trivial
  |cons env r f=>
   intro d g
   obtain⟨h,⟨L,o,hf,i,j,hd⟩,k⟩:=g
   have a:L∈X.fs:=d L (by unfold Qf;rw[List.filterMap_cons,hf];exact JW)
   obtain⟨m,e⟩:=I.base.slot L o j (I.ok.frf L a) a fun z=>I.ok.exfs L z a
   exact⟨h,⟨L,_,hf,i,e,hd⟩,f (fun b c=>d b (by unfold Qf;rw[List.filterMap_cons,hf];exact JA _ c)) k⟩
 exact all X.outer (fun _ c=>c) I.ok.mL
theorem Inv.stack(I:Inv X MN σ H s):s.heap.FunFrames X.base X.stack:=by
 rcases I.ok.stk with e|⟨e,hf⟩
 ·rw[e];exact I.mL
 ·rw[e];obtain⟨m,a,_⟩:=I.loc;refine .cons (by rw[I.ok.kind];decide) hf a ?_ I.mL;exact Heap.get?_none_of_le (K4 I.ok.bsz I.ok.above)
theorem Inv.t8(I:Inv X MN σ H s):∀b∈Qf X.stack,b∈X.env.locals::X.fs:=fun b a=>by
 rcases I.ok.stk with e|⟨e,hf⟩
 ·rw[e]at a;exact JA _ a
 ·rw[e]at a;unfold Qf at a;rw[List.filterMap_cons,hf]at a;exact a
theorem Inv.vt(I:Inv X MN σ H s):∀b∈Qf X.stack,H b=MA:=fun b a=>by
 rcases Jx.mp (I.t8 b a)with e|a
 ·rw[e];exact I.free
 ·obtain⟨_,o,c,_⟩:=I.ok.mL.mem a;exact I.base.free b o c (I.ok.frf b a) fun z=>I.ok.exfs b z a
theorem Inv.step{g':Array GenState}{t':Nat}{d':Drawn}{ch:rb}(I:Inv X MN σ H s)
 (f:∀b∈ch,(b∈X.ex\/X.s₀.z<=b)/\b≠X.env.locals/\(∀x c,X.env.cells.lookup x=LZ c->c≠b)/\∀p∈X.pn++MN,p.1≠b)
 (keep:∀b o,b≠X.env.locals->b∉X.fs->b∉ch->s.heap.get? b=LZ o->H b=MA->h'.get? b=LZ o)
 (slot:∀b o,b≠X.env.locals->b∈X.fs->b∉ch->s.heap.get? b=LZ o->H b=MA->∃C,h'.get? b=LZ { o with slots:=C }) (free:∀b o,b∉ch->s.heap.get? b=LZ o->H b=MA->H' b=MA)
 (there:∀b o,b∉ch->s.heap.get? b=LZ o->∃o',h'.get? b=LZ o')
 (tups:∀b xs,H b=LZ (.tup xs)->H' b=LZ (.tup xs)) (frzs:∀b o u,H b=LZ (.frz o u)->H' b=LZ (.frz o u)) (tbls:∀b ps,H b=LZ (.tbl ps)->∃more,H' b=LZ (.tbl (ps++more)))
 (ns:∀m,s.heap.Ns X.env.locals m->h'.Ns X.env.locals m) (hok:N8 X.prog X.w H' h') (J:AllBare g') :
 Inv X MN σ H' { s with heap:=h',gens:=g',drawn:=d',toks:=t' }:=by
 have B:∀b o,X.s₀.heap.get? b=LZ o->b≠X.env.locals:=fun b o e=>JB (Jm (J6 e) I.ok.above)
 have j:∀b o,X.s₀.heap.get? b=LZ o->b∉X.ex->b∉ch:=fun b o e a t=>by
  rcases(f b t).1 with z|z
  ·exact a z
  ·exact absurd (Jm (J6 e) z) (Nat.lt_irrefl _)
 have g:∀x c,X.env.cells.lookup x=LZ c->∀v,s.heap.IsCell c v->h'.IsCell c v:=fun x c e v y=>by
  obtain⟨o,A,hd⟩:=y
  have h:c∉ch:=fun z=>(f c z).2.2.1 x c e rfl
  by_cases E:c∈X.fs
  ·obtain⟨C,q⟩:=slot c o (I.cne x c e) E h A (I.freeC x c e)
   exact⟨_,q,hd⟩
  ·exact⟨o,keep c o (I.cne x c e) E h A (I.freeC x c e),hd⟩
 refine⟨I.ok,I.os,J,⟨fun b o e n t a=>?_,fun b o e n t a=>?_,fun b o e n a=>?_,fun b o e a=>?_,fun b xs e=>tups b xs (I.base.tups b xs e),fun b o xs e=>frzs b o xs (I.base.frzs b o xs e),fun b ps e=>?_⟩,?_,fun x c e=>?_,?_,fun x c e=>?_,fun p F=>?_,hok,I.len⟩
 ·exact keep b o (B b o e) t (j b o e a) (I.base.keep b o e n t a) (I.base.free b o e n a)
 ·obtain⟨C,e1⟩:=I.base.slot b o e n t a
  obtain⟨D,e2⟩:=slot b _ (B b o e) t (j b o e a) e1 (I.base.free b o e n a)
  exact⟨D,e2⟩
 ·obtain⟨o',e1⟩:=I.base.there b o e a
  exact free b o' (j b o e a) e1 (I.base.free b o e n a)
 ·obtain⟨o',e1⟩:=I.base.there b o e a
  exact there b o' (j b o e a) e1
 ·obtain⟨K,e1⟩:=I.base.tbls b ps e
  obtain⟨L,e2⟩:=tbls b _ e1
  exact⟨K++L,by rw[e2,Array.append_assoc]⟩
 ·obtain⟨m,M,N⟩:=I.loc
  refine⟨m,ns m M,fun i x v e1 e2 e3=>?_⟩
  obtain⟨u,r,l⟩:=N i x v e1 e2 e3
  refine⟨u,r,?_⟩
  rcases l with l|⟨k,c,e,z⟩
  ·exact .inl l
  ·exact .inr ⟨k,c,e,g x c e _ z⟩
 ·obtain⟨v,z⟩:=I.cell x c e
  exact⟨v,g x c e v z⟩
 ·obtain⟨m,⟨o,_,_,A,_⟩,_⟩:=I.loc
  exact free _ o (fun z=>(f _ z).2.1 rfl) A I.free
 ·obtain⟨v,o,A,hd⟩:=I.cell x c e
  exact free c o (fun z=>(f c z).2.2.1 x c e rfl) A (I.freeC x c e)
 ·obtain⟨e,n,ne,G,d⟩:=I.pin p F
  have h:p.1∉ch:=fun z=>(f p.1 z).2.2.2 p F rfl
  exact⟨keep p.1 p.2 ne G h e n,free p.1 p.2 h e n,ne,G,d⟩
theorem Inv.un{t':Nat}(I:Inv X MN σ H s)(u:Un X.fs [] H H' s.heap h')(hok:N8 X.prog X.w H' h'):Inv X MN σ H' { s with heap:=h',toks:=t' }:=by
 obtain⟨m,⟨o,k,l,g,r⟩,_⟩:=id I.loc;obtain⟨p,h⟩:=u.any g I.free (by simp)
 exact I.step (g':=s.gens) (d':=s.drawn) (ch:=[]) (fun _ z=>nomatch z) (fun b o _ c _ e n=>u.keep b o e n c (by simp)) (fun b o _ c _ e n=>u.slot b o e n c (by simp)) (fun b o _ e n=>u.free b o e n (by simp)) (fun b o _ e=>u.there b o e (by simp)) u.tups u.frzs u.tbls (fun q i=>by
  obtain⟨t,d,f,a,j⟩:=i
  rw[g]at a;cases a
  exact⟨_,d,f,h,j⟩) hok I.bare
theorem Inv.call{g':Array GenState}{t':Nat}{d':Drawn}{ch:rb}(I:Inv X MN σ H s)(u:Un (Qf X.stack) ch H H' s.heap h')(hok:N8 X.prog X.w H' h')(k:AllBare g') (d:∀b∈ch,(b∈X.ex\/X.s₀.z<=b)/\b≠X.env.locals/\(∀x c,X.env.cells.lookup x=LZ c->c≠b)/\∀p∈X.pn++MN,p.1≠b) : Inv X MN σ H' { s with heap:=h',gens:=g',drawn:=d',toks:=t' }:=by
 obtain⟨m,⟨o,v,y,j,r⟩,_⟩:=id I.loc;obtain⟨A,g⟩:=u.any j I.free fun z=>(d _ z).2.1 rfl
 exact I.step (ch:=ch) d (fun b o g l a e n=>u.keep b o e n (fun z=>(Jx.mp (I.t8 b z)).elim g l) a) (fun b o _ _ a e n=>u.any e n a) (fun b o a e n=>u.free b o e n a) (fun b o a e=>u.there b o e a) u.tups u.frzs u.tbls (fun B q=>by
  obtain⟨C,h,i,f,t⟩:=q
  rw[j]at f;cases f
  exact⟨_,h,i,g,t⟩) hok k
theorem Inv.turned{t':Nat}{it:n7}(I:Inv X MN σ H s)(k:∀b o,b≠it->s.heap.get? b=LZ o->h'.get? b=LZ o)(g:H it=MA)(f:it≠X.env.locals)
 (h:it∈X.ex\/X.s₀.z<=it) (i:∀x c,X.env.cells.lookup x=LZ c->c≠it) (j:∀p∈X.pn++MN,p.1≠it):Inv X MN σ H { s with heap:=h',toks:=t' }:=by
 have d:∀b u,H b=LZ u->b≠it:=fun b u e z=>by rw[z,g]at e;cases e
 refine I.step (g':=s.gens) (d':=s.drawn) (ch:=[it]) (fun b l=>?_) (fun b o _ _ a e _=>k b o (fun z=>a (by simp[z])) e) (fun b o _ _ a e _=>⟨o.slots,k b o (fun z=>a (by simp[z])) e⟩) (fun _ _ _ _ n=>n)
  (fun b o a e=>⟨o,k b o (fun z=>a (by simp[z])) e⟩) (fun _ _ e=>e) (fun _ _ _ e=>e) (fun b ps e=>⟨#[],by rw[e];simp⟩) (fun m t=>?_) (fun b u e=>?_) I.bare
 ·have e:b=it:=‹l›
  subst e
  exact⟨h,f,i,j⟩
 ·obtain⟨o,w,y,A,r⟩:=t
  exact⟨o,w,y,k _ o (Ne.symm f) A,r⟩
 ·refine(I.hok b u e).iU (fun c v a q=>k c v ?_ q) (fun _ q=>q) fun _ _ q=>q
  rcases a with z|z
  ·rw[z];exact d b u e
  ·exact d c _ z
theorem Inv.tok(I:Inv X MN σ H s)(t:Nat):Inv X MN σ H { s with toks:=t }:=I.un (h':=s.heap) (t':=t) Un.refl I.hok
theorem Inv.kept{t':Nat}(I:Inv X MN σ H s)(k:∀b u,s.heap.get? b=LZ u->h'.get? b=LZ u):Inv X MN σ H { s with heap:=h',toks:=t' }:=I.un (Un.kept k) (I.hok.kept k)
theorem Inv.laid{a:n7}{o:HO}{t':Nat}(I:Inv X MN σ H s)(k:∀b u,s.heap.get? b=LZ u->h'.get? b=LZ u)(c:s.z<=a)(new:cP X.prog X.w (upd H a o) h' a o) : Inv X MN σ (upd H a o) { s with heap:=h',toks:=t' }:=I.un (Un.laid k c (I.hok.fresh c)) (I.hok.laid k c new)
theorem Inv.write{x e:n7}{o:HO}{t':Nat}(I:Inv X MN σ H s)(c:Vw (H x))(d:e=x\/H e=LZ (.own x))(k:∀b u,b≠e->s.heap.get? b=LZ u->h'.get? b=LZ u)(a:∃u,h'.get? e=LZ u) (new:cP X.prog X.w (upd H x o) h' x o):Inv X MN σ (upd H x o) { s with heap:=h',toks:=t' }:=I.un (Un.write c d k a) (I.hok.write c d k a new)
theorem Inv.vB{pins':pa}(I:Inv X MN σ H s)(h:∀p∈pins',s.heap.get? p.1=LZ p.2/\H p.1=MA/\p.1≠X.env.locals/\p.1∉X.fs/\∀v,p.2.data≠.cell v):Inv X pins' σ H s:=⟨I.ok,I.os,I.bare,I.base,I.loc,I.cell,I.free,I.freeC,fun p a=>(Jn.mp a).elim (fun z=>I.pin p (List.mem_append_left _ z)) (h p),I.hok,I.len⟩
theorem qx{N:rf}(c:N.Nodup){i j:Nat}{x:Str}(a:N[i]?=LZ x)(b:N[j]?=LZ x):i=j:=by obtain⟨d,e1⟩:=J1.mp a;obtain⟨e,e2⟩:=J1.mp b;exact(List.getElem_inj c).mp (e1.trans e2.symm)
theorem jN{M:Model}{A:JP}{E:o_}{i:Nat}{x:Str}{v:V}{u:IQ}{Q:Unit->IS->Prop}(I:Inv X MN σ H s)(hN:X.N.Nodup)(K:X.N[i]?=LZ x)(t:Loc X.env.scope x)(r:RelV v u)
 (h:∀W,Inv X MN (σ.set i (LZ v)) H W->(∃a,L6 a s.heap W.heap/\(a=X.env.locals\/X.env.cells.lookup x=LZ a))->Q .unit W) (hf:X.fn x=MB\/X.env.scope.names.lookup x=LZ .local:=by first|exact .inl rfl|exact .inr rfl|assumption):J4 M A (storeName X.env x u) Q E s:=by
 obtain⟨m,Y,hl⟩:=id I.loc
 have L:(X.env.scope.kind==.class||(X.env.scope.kind==.module&&X.env.locals != X.env.globals))=MC:=by rw[I.ok.kind];rfl
 have C:i<σ.length:=by rw[I.len];exact(J1.mp K).1
 have cne:=I.cne
 have g:∀{a:n7} {h':oa},(∃o,s.heap.get? a=LZ o/\H a=MA)->L6 a s.heap h'->N8 X.prog X.w H h':=fun{a h'} ha f b ob e=>by
  obtain⟨_,_,B⟩:=ha
  refine(I.hok b ob e).iU (fun c T l q=>(f.2 c ?_).trans q) (fun _ q=>q) fun _ _ q=>q
  rintro rfl
  rcases l with rfl|l
  ·rw[B]at e;cases e
  ·rw[B]at l;cases l
 rcases t with D|D
 ·refine wpAny_storeName_local D Y (fun h' Z f=>?_) L
  obtain⟨oL,_,_,a0,_⟩:=id Y
  refine h _ ⟨I.ok,I.os,I.bare,⟨fun b o e n F t=>?_,fun b o e n F t=>?_,I.base.free,fun b o e t=>?_,I.base.tups,I.base.frzs,I.base.tbls⟩,⟨_,Z,fun j y v' e1 e2 e3=>?_⟩,fun y c e=>?_,I.free,I.freeC,fun p hp=>?_,g ⟨oL,a0,I.free⟩ f,‹I.len›⟩ ⟨_,f,.inl rfl⟩
  ·exact(f.2 b (JB (Jm (J6 e) I.ok.above))).trans (I.base.keep b o e n F t)
  ·obtain⟨sl,e1⟩:=I.base.slot b o e n F t
   exact⟨sl,(f.2 b (JB (Jm (J6 e) I.ok.above))).trans e1⟩
  ·obtain⟨o',e1⟩:=I.base.there b o e t
   exact⟨o',(f.2 b (JB (Jm (J6 e) I.ok.above))).trans e1⟩
  ·by_cases G:j=i
   ·subst G
    rw[K]at e1;cases e1
    rw[List.getElem?_set_self C]at e2
    cases e2
    exact⟨u,r,.inl ⟨D,by simp⟩⟩
   ·rw[List.getElem?_set_ne (Ne.symm G)]at e2
    obtain⟨u',r',q⟩:=hl j y v' e1 e2 e3
    refine⟨u',r',?_⟩
    rcases q with⟨k,e⟩|⟨k,c,e,z⟩
    ·refine .inl ⟨k,?_⟩
     have:y≠x:=fun e=>G (qx hN e1 (e▸K))
     simp[this,e]
    ·exact .inr ⟨k,c,e,z.sameBut f (cne y c e)⟩
  ·obtain⟨T,z⟩:=I.cell y c e
   exact⟨T,z.sameBut f (cne y c e)⟩
  ·obtain⟨e,n,ne,nf,d⟩:=I.pin p hp
   exact⟨(f.2 p.1 ne).trans e,n,ne,nf,d⟩
 ·have J:X.fn x=MB:=by
   rcases hf with z|z
   ·exact z
   ·rw[z]at D;cases D
  obtain⟨c,l⟩:=I.ok.has x (.inl D)
  obtain⟨T,z⟩:=I.cell x c l
  refine wpAny_storeName_cell I.ok.kind D l z (fun h' O f=>?_)
  obtain⟨oc,P,R⟩:=id z
  refine h { s with heap:=h' } ⟨I.ok,I.os,I.bare,⟨fun b o e n F t=>?_,fun b o e n F t=>?_,I.base.free,fun b o e t=>?_,I.base.tups,I.base.frzs,I.base.tbls⟩,⟨m,Y.sameBut f (Ne.symm (cne x c l)),fun j y v' e1 e2 e3=>?_⟩,fun y U e=>?_,I.free,I.freeC,fun p hp=>?_,g ⟨oc,P,I.freeC x c l⟩ f,‹I.len›⟩ ⟨c,f,.inr l⟩
  ·exact(f.2 b (JB (Jm (J6 e) (I.ok.cab x c J l)))).trans (I.base.keep b o e n F t)
  ·obtain⟨sl,e1⟩:=I.base.slot b o e n F t
   exact⟨sl,(f.2 b (JB (Jm (J6 e) (I.ok.cab x c J l)))).trans e1⟩
  ·obtain⟨o',e1⟩:=I.base.there b o e t
   exact⟨o',(f.2 b (JB (Jm (J6 e) (I.ok.cab x c J l)))).trans e1⟩
  ·by_cases G:j=i
   ·subst G
    rw[K]at e1;cases e1
    rw[List.getElem?_set_self C]at e2
    cases e2
    exact⟨u,r,.inr ⟨.inl D,c,l,O⟩⟩
   ·rw[List.getElem?_set_ne (Ne.symm G)]at e2
    obtain⟨u',r',q⟩:=hl j y v' e1 e2 e3
    refine⟨u',r',?_⟩
    rcases q with q|⟨k,U,e,z'⟩
    ·exact .inl q
    ·refine .inr ⟨k,U,e,z'.sameBut f ?_⟩
     rintro rfl
     exact G (qx hN e1 (I.ok.inj _ _ _ e l▸K))
  ·by_cases S:U=c
   ·subst S;exact⟨_,O⟩
   ·obtain⟨w2,z2⟩:=I.cell y U e
    exact⟨w2,z2.sameBut f S⟩
  ·obtain⟨e,n,ne,nf,d⟩:=I.pin p hp
   refine⟨(f.2 p.1 ?_).trans e,n,ne,nf,d⟩
   intro q
   rw[q,P]at e
   have q':oc=p.2:=Option.some.inj e
   exact d T (by rw[<-q'];exact R)
theorem gv{M:Model}{A:JP}{E:o_}{i:Nat}{x:Str}{v:V}{u:IQ}{Q:Unit->IS->Prop}(I:Inv X MN σ H s)(b:X.N.Nodup)(c:X.N[i]?=LZ x)(d:Loc X.env.scope x)(r:RelV v u) (h:∀a,Inv X MN (σ.set i (LZ v)) H a->Q .unit a) (hf:X.fn x=MB\/X.env.scope.names.lookup x=LZ .local:=by first|exact .inl rfl|exact .inr rfl|assumption):J4 M A (storeName X.env x u) Q E s:=jN I b c d r (fun a e _=>h a e) hf
theorem Inv.zb{a:IS}{ch:rb}(I:Inv X MN σ H s)(f:a.os=s.os)(u:Un (Qf X.stack) ch H H' s.heap a.heap)(hok:N8 X.prog X.w H' a.heap)(g:AllBare a.gens)
 (d:∀b∈ch,(b∈X.ex\/X.s₀.z<=b)/\b≠X.env.locals/\(∀x c,X.env.cells.lookup x=LZ c->c≠b)/\∀p∈X.pn++MN,p.1≠b):Inv X MN σ H' a:=by
 obtain⟨h',g',d',t',h⟩:=a
 have e:h=s.os:=f
 subst e
 exact I.call (g':=g') (t':=t') (d':=d') u hok g d
end
abbrev XK:=IQ->Option n7->Hp->Prop
abbrev St:=List (Option V)
abbrev VK:=V->Hp->Prop
abbrev TE:=St->Hp->VK->Prop
abbrev TT:=St->Hp->(Bool->Hp->Prop)->Prop
abbrev TA:=St->Hp->(ro->Hp->Prop)->Prop
structure Ends where
 nx:St->Hp->Prop
 rt:VK
 bk:St->Hp->Prop:=fun _ _=>False
 ct:St->Hp->Prop:=fun _ _=>False
abbrev TS:=Ends->St->Hp->Prop
def EP(X:Cx)(MN:pa)(σ:St)(Q:VK)(u:IQ)(b:IS):Prop:=∃v a,Inv X MN σ a b/\RelV v u/\Q v a
def TP(X:Cx)(MN:pa)(σ:St)(Q:Bool->Hp->Prop)(b:Bool)(c:IS):Prop:=∃a,Inv X MN σ a c/\Q b a
def AP(X:Cx)(MN:pa)(σ:St)(Q:ro->Hp->Prop)(us:p4)(b:IS):Prop:=∃vs a,Inv X MN σ a b/\Vals vs us/\Q vs a
def SP(X:Cx)(MN:pa)(D:Ends)(f:Flow)(c:IS):Prop:=
 match f with
 |.next=>∃a b,Inv X MN a b c/\D.nx a b
 |.brk=>∃a b,Inv X MN a b c/\D.bk a b
 |.cont=>∃a b,Inv X MN a b c/\D.ct a b
 |.ret u=>∃v a b,Inv X MN a b c/\RelV v u/\D.rt v b
def PE(X:Cx)(e:oT)(t:TE):Prop:=
 ∀(MN:pa) (s:IS) (σ:St) (H:Hp) (Q:VK),Inv X MN σ H s->t σ H Q->J4 (Jf X.prog X.w) X.A (eval e X.env) (EP X MN σ Q) X.xe s
def PT(X:Cx)(e:oT)(t:TT):Prop:=
 ∀(MN:pa) (s:IS) (σ:St) (H:Hp) (Q:Bool->Hp->Prop),Inv X MN σ H s->t σ H Q->J4 (Jf X.prog X.w) X.A (isTrue e X.env (eval e X.env)) (TP X MN σ Q) X.xe s
def PW(X:Cx)(e:oT)(t:TT):Prop:=
 ∀(a:Sem IQ) (MN:pa) (s:IS) (σ:St) (H:Hp) (Q:Bool->Hp->Prop),Inv X MN σ H s->t σ H Q->J4 (Jf X.prog X.w) X.A (isTrue e X.env a) (TP X MN σ Q) X.xe s
theorem PW.pt{X:Cx}{e:oT}{t:TT}(h:PW X e t):PT X e t:=h _
def PA(X:Cx)(es:ra)(t:TA):Prop:=
 ∀(pos:Pos) (MN:pa) (s:IS) (σ:St) (H:Hp) (Q:ro->Hp->Prop),Inv X MN σ H s->t σ H Q->J4 (Jf X.prog X.w) X.A (spliced (Kr pos (Je es X.env))) (AP X MN σ Q) X.xe s
def PS(X:Cx)(st:n_)(t:TS):Prop:=
 ∀(MN:pa) (s:IS) (σ:St) (H:Hp) (D:Ends),Inv X MN σ H s->t D σ H->J4 (Jf X.prog X.w) X.A (exec st X.env) (SP X MN D) X.xe s
def Ov(X:Cx)(st:q_)(t:TS):Prop:=
 ∀(MN:pa) (s:IS) (σ:St) (H:Hp) (D:Ends),Inv X MN σ H s->t D σ H->J4 (Jf X.prog X.w) X.A (execs st X.env) (SP X MN D) X.xe s
theorem Mr{b:Type}{t:Sem b}{Q c:b->IS->Prop}{M:Model}{A:JP}{E:o_}{s:IS}(h:J4 M A t Q E s)(d:∀a s,Q a s->c a s):J4 M A t c E s:=Ja h d fun _ _ x=>x
section
variable{X:Cx}
def HX(i:Nat):TE:=fun σ H Q=>∃v,σ[i]?=LZ (LZ v)/\Q v H
def tC(v:V):TE:=fun _ H Q=>Q v H
theorem DY{i:Nat}{x:Str}{pos:Pos}(j:X.N[i]?=LZ x)(k:Vu X.env.scope x)(hd:(x==("__debug__":Str))=MC:=by decide)(f:(x==("__classdict__":Str))=MC:=by decide):PE X (.Name x pos) (HX i):=by
 intro MN s σ H Q I h;obtain⟨v,e,h⟩:=h;obtain⟨m,n,o⟩:=I.loc;obtain⟨u,r,l⟩:=o i x v j e k;have b:EP X MN σ Q u s:=⟨v,H,I,r,h⟩;rcases l with⟨d,p⟩|⟨d,c,g,a⟩
 ·exact wpAny_Name (wpAny_loadName_local I.ok.kind d n p b) hd
 ·rcases d with d|d
  ·exact wpAny_Name (wpAny_loadName_cell I.ok.kind d g a b) hd
  ·exact wpAny_Name (wpAny_loadName_free I.ok.kind d g a b f) hd
theorem yy{i j pos}:PE X (.Constant (.int i) j pos) (tC (.int i)):=fun _ _ _ H _ I h=>wpAny_Constant_int ⟨.int i,H,I.tok _,⟨_,rfl⟩,h⟩
theorem GY{b j pos}:PE X (.Constant (.bool b) j pos) (tC (.bl b)):=fun _ _ _ H _ I h=>Constant_bool ⟨.bl b,H,I,rfl,h⟩
theorem DC{j pos}:PE X (.Constant .none j pos) (tC .non):=fun _ _ _ H _ I h=>Constant_none ⟨.non,H,I,rfl,h⟩
theorem Dh{x j pos}:PE X (.Constant (.str x) j pos) (tC (.str x)):=fun _ _ _ H _ I h=>Calls.Constant_str ⟨.str x,H,I.tok _,⟨_,rfl⟩,h⟩
def Gl(X:Cx)(x:Str):Prop:=X.env.kindOf x=LZ .globalImplicit
theorem BS{E:o_}{MN:pa}{s:IS}{σ:St}{H:Hp}{x:Str}{u:IQ}{pos:Pos}{Q:o_}(I:Inv X MN σ H s)(a:Gl X x)(b:X.mg x=LZ u)(h:Q u s) (hd:(x==("__debug__":Str))=MC:=by decide):J4 (Jf X.prog X.w) X.A (eval (.Name x pos) X.env) Q E s:=Calls.Name_function_global I.ok.kind a (Calls.loadGlobal_global (by rw[I.ok.glob];exact I.mod.glob.keeps I.bk) b h) hd
theorem gI{E:o_}{MN:pa}{s:IS}{σ:St}{H:Hp}{x:Str}{u:IQ}{pos:Pos}{Q:o_}(I:Inv X MN σ H s)(a:Gl X x)(b:X.mg x=MA)(c:JT x=LZ u)(h:Q u s) (d:x≠"__name__":=by decide) (hd:(x==("__debug__":Str))=MC:=by decide):J4 (Jf X.prog X.w) X.A (eval (.Name x pos) X.env) Q E s:=by obtain⟨g,e,f⟩:=I.mod.blt;exact Calls.Name_function_global I.ok.kind a (Calls.loadGlobal_builtin (by rw[I.ok.glob];exact I.mod.glob.keeps I.bk) b (by rw[I.ok.blt];exact e.keeps I.bk) ((f x d).trans c) h) hd
theorem Aw{x:Str}{v:V}{u:IQ}{pos:Pos}(a:Gl X x)(b:X.mg x=MA)(c:JT x=LZ u)(r:RelV v u)(d:x≠"__name__":=by decide)(hd:(x==("__debug__":Str))=MC:=by decide):PE X (.Name x pos) (tC v):=fun _ _ _ H _ I h=>gI I a b c ⟨v,H,I,r,h⟩ d hd
variable{a b:oT}{ta tb:TE}{pos:Pos}
def PC(X:Cx)(op:CmpOp)(a b:oT)(t:TE):Prop:=
 ∀(MN:pa) (s:IS) (σ:St) (H:Hp) (Q:VK),Inv X MN σ H s->t σ H Q->
  J4 (Jf X.prog X.w) X.A (eval a X.env) (fun v c=>J4 (Jf X.prog X.w) X.A (eval b X.env) (fun u d=>J4 (Jf X.prog X.w) X.A (JD op v u) (EP X MN σ Q) X.xe d) X.xe c) X.xe s
def tB(t:TE):TT:=fun σ H Q=>t σ H fun x H1=>∃c,x=.bl c/\Q c H1
theorem E6{op:CmpOp}{t:TE}(h:PC X op a b t)(f:LJ op b=MC:=by first|exact nobehind _ ⋯ ⋯|rfl):PT X (.Compare a [op] [b] pos) (tB t):=by intro MN s σ H Q I g;refine wpAny_isTrue_Compare1 (Mr (h MN s σ H _ I g) fun v m f=>Mr f fun u n i=>Mr i fun c o e=>?_) f;obtain⟨x,H1,j,k,l⟩:=e;obtain⟨d,rfl,q⟩:=l;cases k;exact Kd ⟨H1,j,q⟩
theorem E5{e:oT}{t:TE}(h:PE X e t)(g:∀c,isTrue e X.env c=(do let v <-c;standAt e.pos;holding [v] (truthy v)):=by intro _;rfl):PT X e (tB t):=by intro MN s σ H Q I i;refine isTrue_plain (Mr (h MN s σ H _ I i) fun v m f=>?_) (g _);obtain⟨x,H1,j,k,l⟩:=f;obtain⟨d,rfl,q⟩:=l;cases k;exact Kd ⟨H1,j,q⟩
variable{tA MP:TT}{rest:ra}
def Iw(t u:TT):TT:=fun σ H Q=>t σ H fun c H1=>if c=MB then u σ H1 Q else Q MC H1
def Yp(t u:TT):TT:=fun σ H Q=>t σ H fun c H1=>if c=MB then Q MB H1 else u σ H1 Q
def Hv(t:TT):TT:=fun σ H Q=>t σ H fun c H1=>Q (!c) H1
theorem AI(d:PT X a tA):PW X (.BoolOp .And [a] pos) tA:=by
 intro f MN s σ H Q I h;refine isTrue_and (Mr (d MN s σ H Q I h) fun c g e=>?_);cases c with
 |true=>exact isTrue_and_nil e
 |false=>exact e
theorem E4(d:PT X a tA):PW X (.BoolOp .Or [a] pos) tA:=by
 intro f MN s σ H Q I h;refine isTrue_or (Mr (d MN s σ H Q I h) fun c g e=>?_);cases c with
 |false=>exact isTrue_or_nil e
 |true=>exact e
theorem Ey(g:PT X a tA)(i:PW X (.BoolOp .And (b::rest) pos) MP):PW X (.BoolOp .And (a::b::rest) pos) (Iw tA MP):=by
 intro j MN s σ H Q I h;refine isTrue_and (Mr (g MN s σ H _ I h) fun c k d=>?_);obtain⟨H1,e,f⟩:=d;cases c with
 |true=>exact i j MN k σ H1 Q e f
 |false=>exact⟨H1,e,f⟩
theorem Ht(g:PT X a tA)(i:PW X (.BoolOp .Or (b::rest) pos) MP):PW X (.BoolOp .Or (a::b::rest) pos) (Yp tA MP):=by
 intro j MN s σ H Q I h;refine isTrue_or (Mr (g MN s σ H _ I h) fun c k d=>?_);obtain⟨H1,e,f⟩:=d;cases c with
 |true=>exact⟨H1,e,f⟩
 |false=>exact i j MN k σ H1 Q e f
theorem Ee(d:PT X a tA):PT X (.UnaryOp .Not a pos) (Hv tA):=by intro MN s σ H Q I h;exact isTrue_not (d MN s σ H (fun c H1=>Q (!c) H1) I h)
def GF(ta tb:TE):TE:=fun σ H Q=>ta σ H fun x H1=>∃c,x=.bl c/\if c=MB then tb σ H1 Q else Q (.bl MC) H1
def Il(ta tb:TE):TE:=fun σ H Q=>ta σ H fun x H1=>∃c,x=.bl c/\if c=MB then Q (.bl MB) H1 else tb σ H1 Q
def Gk(ta:TE):TE:=fun σ H Q=>ta σ H fun x H1=>∃c,x=.bl c/\Q (.bl (!c)) H1
theorem E7{op}{t:TE}(h:PE X a t):PE X (.BoolOp op [a] pos) t:=fun MN s σ H Q I c=>BoolOp_one (h MN s σ H Q I c)
theorem EE(g:PE X a ta)(i:PE X (.BoolOp .And (b::rest) pos) tb):PE X (.BoolOp .And (a::b::rest) pos) (GF ta tb):=by
 intro MN s σ H Q I h;refine BoolOp_and (Mr (g MN s σ H _ I h) fun v j d=>?_);obtain⟨x,H1,f,k,e⟩:=d;obtain⟨c,rfl,e⟩:=e;cases k;refine Kd ?_;cases c with
 |true=>exact i MN j σ H1 Q f e
 |false=>exact⟨.bl MC,H1,f,rfl,e⟩
theorem F8(g:PE X a ta)(i:PE X (.BoolOp .Or (b::rest) pos) tb):PE X (.BoolOp .Or (a::b::rest) pos) (Il ta tb):=by
 intro MN s σ H Q I h;refine BoolOp_or (Mr (g MN s σ H _ I h) fun v j d=>?_);obtain⟨x,H1,f,k,e⟩:=d;obtain⟨c,rfl,e⟩:=e;cases k;refine Kd ?_;cases c with
 |false=>exact i MN j σ H1 Q f e
 |true=>exact⟨.bl MB,H1,f,rfl,e⟩
theorem Ef(f:PE X a ta):PE X (.UnaryOp .Not a pos) (Gk ta):=by intro MN s σ H Q I h;refine UnaryOp_ (Mr (f MN s σ H _ I h) fun v j d=>?_);obtain⟨x,H1,g,i,e⟩:=d;obtain⟨c,rfl,e⟩:=e;cases i;exact not_of (Kd ⟨.bl (!c),H1,g,rfl,e⟩)
def Yq(t:TT)(ta tb:TE):TE:=fun σ H Q=>t σ H fun c H1=>if c=MB then ta σ H1 Q else tb σ H1 Q
theorem yJ{c:oT}(j:PT X c tA)(k:PE X a ta)(l:PE X b tb):PE X (.IfExp c a b pos) (Yq tA ta tb):=by
 intro MN s σ H Q I h;refine wpAny_IfExp (Mr (j MN s σ H _ I h) fun d f e=>?_);obtain⟨H1,g,i⟩:=e;cases d with
 |true=>exact k MN f σ H1 Q g i
 |false=>exact l MN f σ H1 Q g i
end
def ND(K:I0)(H:Hp)(a:n7)(xs:ro):Prop:=
 Rd H a (.lst xs)\/
  ∃(o:Obj) (b:Array IQ) (n:Nat),K.lookup a=LZ o/\o.cls=.type "list"/\o.dict=MA/\o.data=.seq b n/\b.size<=J7/\Vals xs b.toList
def NB(K:I0)(H:Hp)(a:n7)(xs:ro):Prop:=
 Rd H a (.tup xs)\/
  ∃(o:Obj) (b:Array IQ) (n:Nat),K.lookup a=LZ o/\(o.cls=.type "tuple"/\o.dict=MA)/\o.data=.seq b n/\b.size<=J7/\Vals xs b.toList
def Hw:IQ->Option V
 |.none=>LZ .non
 |.bool b=>LZ (.bl b)
 |.int i _=>LZ (.int i)
 |.str x _=>LZ (.str x)
 |.bytes b _=>LZ (.byt b)
 |.float b _=>LZ (.flt b)
 |.ref a=>LZ (.ref a)
 |.type n=>LZ (.ty n)
 |_=>MA
theorem RelV.abs{x:V}{u:IQ}(r:RelV x u):Hw u=LZ x:=by
 cases x with
 |non=>cases r;rfl
 |bl _=>cases r;rfl
 |int _=>obtain⟨t,rfl⟩:=r;rfl
 |str _=>obtain⟨t,rfl⟩:=r;rfl
 |byt _=>obtain⟨t,rfl⟩:=r;rfl
 |flt _=>obtain⟨t,rfl⟩:=r;rfl
 |ref _=>cases r;rfl
 |ty _=>cases r;rfl
theorem RelV.inj{x y:V}{u:IQ}(r:RelV x u)(q:RelV y u):x=y:=Option.some.inj (r.abs.symm.trans q.abs)
theorem Vals.inj:∀{xs a:ro} {us:p4},Vals xs us->Vals a us->xs=a:=by
 intro xs a us h
 induction h generalizing a with
 |nil=>intro k;cases k;rfl
 |cons r t b=>
  intro k
  cases k with
  |cons c d=>rw[r.inj c,b d]
section
variable{X:Cx}{MN:pa}{σ:St}{H:Hp}{s:IS}{a:n7}{xs ys:ro}
theorem ND.of{K:I0}(h:H a=LZ (.lst xs)):ND K H a xs:=.inl (.inl h)
theorem NB.of{K:I0}(h:H a=LZ (.tup xs)):NB K H a xs:=.inl (.inl h)
theorem Inv.list(I:Inv X MN σ H s)(h:ND X.K H a xs):∃b:p4,Vals xs b/\PlainL s.heap a b.toArray/\xs.length<=J7:=by
 rcases h with h|⟨o,b,n,c,d,hd,f,g,r⟩
 ·obtain⟨z,b,n,r,e⟩:=h.ok I.hok;exact⟨b,r,⟨_,n,e,rfl,rfl,rfl⟩,z⟩
 ·refine⟨b.toList,r,⟨o,n,I.kIn a o c,d,hd,‹f›⟩,?_⟩;have e:=r.length;simp only[Array.length_toList]at e;omega
theorem Inv.tuple(I:Inv X MN σ H s)(h:NB X.K H a xs):∃b:p4,Vals xs b/\IsTup s.heap a b.toArray/\xs.length<=J7:=by
 rcases h with h|⟨o,b,n,c,d,f,g,r⟩
 ·obtain⟨z,b,r,p,_⟩:=h.ok I.hok;exact⟨b,r,p,z⟩
 ·refine⟨b.toList,r,⟨o,I.kIn a o c,d.1,n,‹f›⟩,?_⟩;have e:=r.length;simp only[Array.length_toList]at e;omega
theorem Inv.EU(I:Inv X MN σ H s)(h:NB X.K H a xs):R3 s.heap a:=by
 rcases h with h|⟨o,b,n,c,d,e,f,r⟩
 ·obtain⟨z,b,r,_,p⟩:=h.ok I.hok;exact p
 ·exact⟨o,I.kIn a o c,d.2⟩
theorem Inv.ja(I:Inv X MN σ H s)(h:ND X.K H a xs)(h':ND X.K H a ys):xs=ys:=by
 obtain⟨c,r,⟨o,n,e,_,_,d⟩,_⟩:=I.list h;obtain⟨b,i,⟨k,l,f,_,_,g⟩,_⟩:=I.list h';rw[e]at f;cases f;rw[d]at g;injection g with j _;have:c=b:=‹congrArg Array.toList j›
 subst this;exact r.inj i
theorem Inv.nX(I:Inv X MN σ H s)(h:NB X.K H a xs)(h':NB X.K H a ys):xs=ys:=by
 obtain⟨c,r,⟨o,e,_,n,d⟩,_⟩:=I.tuple h;obtain⟨b,i,⟨k,f,_,l,g⟩,_⟩:=I.tuple h';rw[e]at f;cases f;rw[d]at g;injection g with j _;have:c=b:=‹congrArg Array.toList j›
 subst this;exact r.inj i
end
abbrev Cx.nj(X:Cx)(E:o_):Cx:={ X with xe:=E }
abbrev Cx.nox(X:Cx):Cx:=X.nj fun _ _=>False
theorem Cx.Ok.nj{X:Cx}(ok:X.Ok)(E:o_):(X.nj E).Ok:=⟨ok.mod,ok.kind,ok.glob,ok.blt,ok.above,ok.inj,ok.has,ok.cab,ok.hd,ok.frames,ok.stk,ok.exf,ok.bs,ok.bsz,ok.noex,ok.exfs,ok.mL,ok.frf⟩
theorem Cx.Ok.gR{X:Cx}{E:o_}(ok:(X.nj E).Ok):X.Ok:=⟨ok.mod,ok.kind,ok.glob,ok.blt,ok.above,ok.inj,ok.has,ok.cab,ok.hd,ok.frames,ok.stk,ok.exf,ok.bs,ok.bsz,ok.noex,ok.exfs,ok.mL,ok.frf⟩
section
variable{X:Cx}{MN:pa}{σ:St}{H:Hp}{s:IS}{E:o_}
theorem Inv.nj(I:Inv X MN σ H s)(E:o_):Inv (X.nj E) MN σ H s:=⟨I.ok.nj E,I.os,I.bare,I.base,I.loc,I.cell,I.free,I.freeC,I.pin,I.hok,I.len⟩
theorem Inv.gR(I:Inv (X.nj E) MN σ H s):Inv X MN σ H s:=⟨I.ok.gR,I.os,I.bare,I.base,I.loc,I.cell,I.free,I.freeC,I.pin,I.hok,I.len⟩
theorem SP.gR{D:Ends}{f:Flow}{c:IS}(h:SP (X.nj E) MN D f c):SP X MN D f c:=by
 cases f with
 |next=>obtain⟨a,b,I,q⟩:=h;exact⟨a,b,I.gR,q⟩
 |brk=>obtain⟨a,b,I,q⟩:=h;exact⟨a,b,I.gR,q⟩
 |cont=>obtain⟨a,b,I,q⟩:=h;exact⟨a,b,I.gR,q⟩
 |ret u=>obtain⟨v,a,b,I,r,q⟩:=h;exact⟨v,a,b,I.gR,r,q⟩
theorem Ov.nox{st:q_}{t:TS}(h:Ov X.nox st t):Ov X st t:=fun MN s σ H D I a=>Ja (h MN s σ H D (I.nj _) a) (fun _ _ q=>q.gR) fun _ _ z=>Js z
end
section
variable{X:Cx}{st:n_}{rest:q_}{t u:TS}{e:oT}{te:TE}{pos:Pos}
def GU:TS:=fun D σ H=>D.nx σ H
def Io(t u:TS):TS:=fun D σ H=>t { D with nx:=u D } σ H
theorem Bk:Ov X [] GU:=fun _ _ σ H _ I h=>wpAny_execs_nil ⟨σ,H,I,h⟩
theorem xS(b:PS X st t)(c:Ov X rest u):Ov X (st::rest) (Io t u):=by
 intro MN s σ H D I h;refine wpAny_execs_cons (Mr (b MN s σ H { D with nx:=u D } I h) fun f d q=>?_);cases f with
 |next=>
  obtain⟨a,g,i,q⟩:=q
  exact c MN d a g D i q
 |ret v=>exact q
 |brk=>exact q
 |cont=>exact q
theorem BF(a:PS X st t):Ov X [st] t:=by
 intro MN s σ H D I h;refine wpAny_execs_cons (Mr (a MN s σ H D I h) fun f b q=>?_);cases f with
 |next=>exact wpAny_execs_nil q
 |ret v=>exact q
 |brk=>exact q
 |cont=>exact q
theorem Inv.quiet{MN:pa}{σ:St}{H:Hp}{s:IS}(I:Inv X MN σ H s):interactive X.env=MC:=by simp[interactive,I.ok.kind]
def FP(te:TE):TS:=fun D σ H=>te σ H fun _ H1=>D.nx σ H1
theorem zZ(b:PE X e te)(c:Lo e MA pos.line X.env=pure MC:=by rfl):PS X (.Expr e pos) (FP te):=by intro MN s σ H D I h;exact wpAny_Expr_any (Mr (b MN s σ H _ I h) fun v g a=>by obtain⟨x,H1,d,i,f⟩:=a;exact(⟨σ,H1,d,f⟩)) I.quiet c
def ID(te:TE):TS:=fun D σ H=>te σ H D.rt
theorem EN(b:PE X e te):PS X (.Return (LZ e) pos) (ID te):=by intro MN s σ H D I h;exact wpAny_Return_some (Mr (b MN s σ H _ I h) fun v g a=>by obtain⟨x,H1,c,d,f⟩:=a;exact(⟨x,σ,H1,c,d,f⟩))
def HM(c:TT)(t u:TS):TS:=fun D σ H=>c σ H fun b H1=>if b=MB then t D σ H1 else u D σ H1
theorem Gp{c:oT}{a b:q_}{tc:TT}(k:PT X c tc)(l:Ov X a t)(m:Ov X b u):PS X (.If c a b pos) (HM tc t u):=by
 intro MN s σ H D I h;refine wpAny_If (Mr (k MN s σ H _ I h) fun d g f=>?_);obtain⟨H1,i,j⟩:=f;cases d with
 |true=>exact l MN g σ H1 D i j
 |false=>exact m MN g σ H1 D i j
def C2:TS:=fun _ _ _=>False
theorem xh:PS X st C2:=fun _ _ _ _ _ _ h=>h.elim
end
abbrev TG:=V->St->Hp->(St->Hp->Prop)->Prop
abbrev Qy:=ro->St->Hp->(St->Hp->Prop)->Prop
def PG(X:Cx)(a:oT)(t:TG):Prop:=
 ∀(MN:pa) (s:IS) (σ:St) (H:Hp) (v:V) (u:IQ) (Q:St->Hp->Prop),Inv X MN σ H s->RelV v u->t v σ H Q->
  J4 (Jf X.prog X.w) X.A (LN a X.env u) (fun _ d=>∃b c,Inv X MN b c d/\Q b c) X.xe s
def Rg(X:Cx)(c:ra)(t:Qy):Prop:=
 ∀(MN:pa) (s:IS) (σ:St) (H:Hp) (vs:ro) (us:p4) (Q:St->Hp->Prop),Inv X MN σ H s->Vals vs us->t vs σ H Q->
  J4 (Jf X.prog X.w) X.A (assignInOrder ((LK c X.env).map (·.2)) us) (fun _ d=>∃a b,Inv X MN a b d/\Q a b) X.xe s
abbrev DD:=V->V->V->Hp->(Hp->Prop)->Prop
def Fo(X:Cx)(t:DD):Prop:=
 ∀(MN:pa) (s:IS) (σ:St) (H:Hp) (o i v:V) (a b u:IQ) (Q:Hp->Prop),Inv X MN σ H s->RelV o a->RelV i b->RelV v u->t o i v H Q->
  J4 (Jf X.prog X.w) X.A (setItem a b u) (fun _ d=>∃c,Inv X MN σ c d/\Q c) X.xe s
abbrev WK:=V->V->Hp->VK->Prop
def WL(X:Cx)(op:Operator)(t:WK):Prop:=
 ∀(MN:pa) (s:IS) (σ:St) (H:Hp) (x y:V) (v u:IQ) (Q:VK),Inv X MN σ H s->RelV x v->RelV y u->t x y H Q->
  J4 (Jf X.prog X.w) X.A (inplaceOp op v u) (EP X MN σ Q) X.xe s
section
variable{X:Cx}{pos:Pos}
def gg(i:Nat):TG:=fun v σ H Q=>Q (σ.set i (LZ v)) H
theorem vH{i:Nat}{x:Str}(a:X.N.Nodup)(b:X.N[i]?=LZ x)(c:Loc X.env.scope x)(hf:X.fn x=MB\/X.env.scope.names.lookup x=LZ .local:=by first|exact .inl rfl|exact .inr rfl|assumption):PG X (.Name x pos) (gg i):=by intro MN s σ H v u Q I r h;exact wpAny_assign_Name (gv I a b c r (fun e d=>⟨_,H,d,h⟩) hf)
def Dz:Qy:=fun vs σ H Q=>vs=[]/\Q σ H
def rS(t:TG)(u:Qy):Qy:=fun vs σ H Q=>∃v r,vs=v::r/\t v σ H fun a b=>u r a b Q
theorem ur:Rg X [] Dz:=by intro MN s σ H vs us Q I r h;obtain⟨e,h⟩:=h;subst e;cases r;exact assignInOrder_nil ⟨σ,H,I,h⟩
theorem l9{e:oT}{es:ra}{t:TG}{u:Qy}(c:PG X e t)(d:Rg X es u) (f:(LK (e::es) X.env).map (·.2)=LN e X.env::(LK es X.env).map (·.2):=by rfl):Rg X (e::es) (rS t u):=by
 intro MN s σ H vs us Q I r h;obtain⟨v,l,e1,h⟩:=h;subst e1;cases r with
 |cons r g=>
  rw[f]
  refine assignInOrder_cons (Mr (c MN s σ H _ _ _ I r h) fun _ i a=>?_)
  obtain⟨b,H1,j,k⟩:=a
  exact d MN i b H1 _ _ Q j g k
def C0(K:I0)(n:Nat)(t:Qy):TG:=fun v σ H Q=>∃a xs,v=.ref a/\NB K H a xs/\xs.length=n/\t xs σ H Q
theorem xn{es:ra}{k:Nat}{t:Qy}{n:Nat}(g:X.calm=MB)(h:Rg X es t)
 (i:(LK es X.env).length=n:=by rfl) (c:(LK es X.env).findIdx? (·.1)=MA:=by rfl):PG X (.Tuple es k pos) (C0 X.K n t):=by
 intro MN s σ H v u Q I r d
 obtain⟨a,xs,e1,j,l,d⟩:=d
 subst e1
 cases r
 obtain⟨m,f,p,y⟩:=I.tuple j
 refine assign_Tuple_tuple (I.ok.hd g) p (by simp[i,<-l,f.length]) c fun q w=>?_
 have x:Inv X MN σ H { s with heap:=q }:=I.kept (t':=s.toks) fun b o e=>w b o (JB (J6 e)) e
 exact h MN _ σ H xs _ Q x ‹f› d
def IG(a b:TE)(t:DD):TG:=fun v σ H Q=>a σ H fun o H1=>b σ H1 fun i c=>t o i v c fun d=>Q σ d
theorem CW{o i:oT}{f g:TE}{t:DD}(j:PE X o f)(k:PE X i g)(l:Fo X t)
 (m:∀v,LN (.Subscript o i pos) X.env v=(do
  let d <-holding [v] (eval o X.env)
  let e <-holding [v,d] (eval i X.env)
  standAt pos
  holding [v,d,e] (setItem d e v)
  release [v,d,e] []):=by intro _;rfl):PG X (.Subscript o i pos) (IG f g t):=by
 intro MN s σ H v u Q I r h
 rw[m]
 refine cc (K8 (Mr (j MN s σ H _ I h) fun d n a=>?_))
 obtain⟨x,H1,p,q,w⟩:=a
 refine cc (K8 (Mr (k MN n σ H1 _ p w) fun e z b=>?_))
 obtain⟨y,A,B,C,D⟩:=b
 refine cc (Ks (cc (K8 (Mr (l MN z σ A x y v d e u _ B q C r D) fun _ J c=>?_))))
 obtain⟨E,F,G⟩:=c
 exact wpAny_release ⟨σ,E,F,G⟩
def A7(te:TE)(g:TG):TS:=fun D σ H=>te σ H fun x H1=>g x σ H1 D.nx
theorem DJ{tg e:oT}{te:TE}{g:TG}(b:PE X e te)(c:PG X tg g)(d:swapsWithSole [tg] e pos.line X.env=pure MC:=by rfl)(hw:swappedStores [tg] e X.env=pure MA:=by rfl) (f:(LK [tg] X.env).map (·.2)=[LN tg X.env]:=by rfl):PS X (.Assign [tg] e pos) (A7 te g):=by intro MN s σ H D I h;refine wpAny_Assign_stores (Mr (b MN s σ H _ I h) fun v i a=>?_) d hw;obtain⟨x,H1,j,k,l⟩:=a;rw[f];exact Mr (c MN i σ H1 x v _ j k l) fun _ m q=>q
theorem CS{i:Nat}{x:Str}{e:oT}{te:TE}{b:Pos}(c:X.N.Nodup)(d:X.N[i]?=LZ x)(f:Loc X.env.scope x)(g:PE X e te)(j:Lo e (LZ (.Name x b)) pos.line X.env=pure MC:=by rfl)(hf:X.fn x=MB\/X.env.scope.names.lookup x=LZ .local:=by first|exact .inl rfl|exact .inr rfl|assumption) : PS X (.Assign [.Name x b] e pos) (A7 te (gg i)):=by intro MN s σ H D I h;refine wpAny_Assign_Name (Mr (g MN s σ H _ I h) fun v o a=>?_) j;obtain⟨y,H1,k,l,m⟩:=a;exact gv k c d f l (fun p n=>⟨_,H1,n,m⟩) hf
def Ip(i j:Nat)(a:TA):TS:=fun D σ H=>a σ H fun vs H1=>∃v w,vs=[v,w]/\D.nx ((σ.set i (LZ v)).set j (LZ w)) H1
theorem CB{i j:Nat}{x y:Str}{a b:oT}{C:TA}{l m pt:Pos}{n r d}(K:X.calm=MB)(E:X.N.Nodup)(L:X.N[i]?=LZ x)(M:X.N[j]?=LZ y)(t:i≠j)
 (F:X.env.scope.names.lookup x=LZ .local) (G:X.env.scope.names.lookup y=LZ .local) (O:PA X [a,b] C)
 (hw:swappedStores [.Tuple [.Name x l,.Name y m] n pt] (.Tuple [a,b] r d) X.env=pure (LZ [x,y]))
 (P:swapsWithSole [.Tuple [.Name x l,.Name y m] n pt] (.Tuple [a,b] r d) pos.line X.env=pure MC:=by rfl) :
 PS X (.Assign [.Tuple [.Name x l,.Name y m] n pt] (.Tuple [a,b] r d) pos) (Ip i j C):=by
 intro MN s σ H D I h
 rw[exec_Assign_arm]
 refine cc (Ks ?_)
 rw[P]
 refine cc (IU ?_)
 rw[MD ⋯]
 refine cc (Tuple_ (Mr (O _ MN s σ H _ I h) fun us f c=>?_))
 obtain⟨vs,H1,Q,R,u⟩:=c
 obtain⟨v,w,e1,u⟩:=u
 subst e1
 obtain⟨g,k,rfl,S,z⟩:∃g k,us=[g,k]/\RelV v g/\RelV w k:=by
  cases R with
  |cons p q=>
   cases q with
   |cons T U=>
    cases U
    exact⟨_,_,rfl,p,T⟩
 refine Jy ?_ (by show 2<=J7;decide)
 have V:Inv X MN σ H1 { f with heap:=f.heap.push { cls:=.type "tuple",data:=.seq [g,k].toArray } }:=Q.kept (t':=f.toks) fun b o e=>IZ _ e
 rw[hw]
 refine cc (IU ?_)
 show J4 (Jf X.prog X.w) X.A (do rule "assign.swapped-stores";let items <-unpackItems (.ref f.z) 2 MA;assignInOrder [fun v=>bindName X.env y v,fun v=>bindName X.env x v] items.reverse;pure Flow.next) _ _ _
 refine cc (wpAny_rule (cc (unpackItems_tuple (items:=#[g,k]) (I.ok.hd K) (IsTup.new f.heap _) fun h' B=>?_)))
 have W:=V.kept (h':=h') (t':=f.toks) fun b o e=>B b o (JB (J6 e)) e
 show J4 _ _ (assignInOrder [fun v=>bindName X.env y v,fun v=>bindName X.env x v] [k,g] >>= fun _=>pure Flow.next) _ _ _
 refine cc (assignInOrder_cons (wpAny_bindName (gv W E M (.inl G) z (fun Z Y=>?_) (.inr G))))
 refine assignInOrder_cons (wpAny_bindName (gv Y E L (.inl F) S (fun s3 J=>assignInOrder_nil (IU ?_)) (.inr F)))
 rw[List.set_comm _ _ (Ne.symm t)]at J
 exact⟨_,H1,J,u⟩
def IB(i:Nat)(te:TE)(a:WK):TS:=fun D σ H=>∃x,σ[i]?=LZ (LZ x)/\te σ H fun y H1=>a x y H1 fun z b=>D.nx (σ.set i (LZ z)) b
theorem CN{i:Nat}{x:Str}{e:oT}{te:TE}{op:Operator}{q:WK}{g:Pos}(B:X.N.Nodup)(t:X.N[i]?=LZ x)(o:Loc X.env.scope x)(C:PE X e te)(E:WL X op q)(hf:X.fn x=MB\/X.env.scope.names.lookup x=LZ .local:=by first|exact .inl rfl|exact .inr rfl|assumption) :
 PS X (.AugAssign (.Name x g) op e pos) (IB i te q):=by
 intro MN s σ H D I h
 obtain⟨v,e1,h⟩:=h
 obtain⟨m,F,G⟩:=I.loc
 have p:Vu X.env.scope x:=by rcases o with k|k;exact .inl k;exact .inr (.inl k)
 obtain⟨u,r,l⟩:=G i x v t e1 p
 refine wpAny_AugAssign_Name ?_
 have go:J4 (Jf X.prog X.w) X.A (eval e X.env) (fun w j=>J4 (Jf X.prog X.w) X.A (inplaceOp op u w) (fun r n=>J4 (Jf X.prog X.w) X.A (storeName X.env x r) (fun _=>SP X MN D .next) X.xe n) X.xe j) X.xe s:=by
  refine Mr (C MN s σ H _ I h) fun w J a=>?_
  obtain⟨y,H1,K,L,M⟩:=a
  refine Mr (E MN J σ H1 v y u w _ K r L M) fun z V b=>?_
  obtain⟨W,O,P,Q,R⟩:=b
  exact gv P B t o Q (fun Y S=>⟨_,O,S,R⟩) hf
 rcases l with⟨d,T⟩|⟨d,c,U,f⟩
 ·exact wpAny_loadName_local I.ok.kind d F T go
 ·rcases d with d|d
  ·exact wpAny_loadName_cell I.ok.kind d U f go
  ·rcases o with k|k
   ·have:X.env.scope.names.lookup x=LZ .free:=d
    rw[k]at this;cases this
   ·have:X.env.scope.names.lookup x=LZ .free:=d
    rw[k]at this;cases this
def YF(f:Int->Int->Int):WK:=fun x y H Q=>∃i j,x=.int i/\y=.int j/\Q (.int (f i j)) H
theorem Ew:WL X .Add (YF fun i j=>i+j):=by intro MN s σ H x y v u Q I a b h;obtain⟨i,j,e1,e2,q⟩:=h;subst e1;subst e2;obtain⟨t,rfl⟩:=a;obtain⟨c,rfl⟩:=b;exact iadd_int ⟨.int _,H,I.tok _,⟨_,rfl⟩,q⟩
theorem DU:WL X .Sub (YF fun i j=>i-j):=by intro MN s σ H x y v u Q I a b h;obtain⟨i,j,e1,e2,q⟩:=h;subst e1;subst e2;obtain⟨t,rfl⟩:=a;obtain⟨c,rfl⟩:=b;exact isub_int ⟨.int _,H,I.tok _,⟨_,rfl⟩,q⟩
end
section
variable{X:Cx}{pos:Pos}
def CL(c:TT)(f:TS):TS:=fun D σ H=>∃W:Nat->St->Hp->Prop,(∃m,W m σ H)/\∀m σ H,W m σ H->
 c σ H fun b H1=>if b=MB then ∃N:St->Hp->Prop,(∀a d,N a d->∃e,e<m/\W e a d)/\f { D with nx:=N,ct:=N,bk:=D.nx } σ H1 else D.nx σ H1
theorem zG{c:oT}{body:q_}{tc:TT}{t:TS}(u:PassesOwn (Jf X.prog X.w) X.A X.env X.xe)(C:PT X c tc)(E:Ov X body t):PS X (.While c body [] pos) (CL tc t):=by
 intro MN s σ H D I h;obtain⟨W,⟨F,G⟩,g⟩:=h;refine wpAny_While (codeAny_whileLoop (fun n J=>∃i x,Inv X MN i x J/\W n i x) ?_ F ⟨σ,H,I,G⟩);rintro n K ⟨d,H1,L,M⟩;refine Ly u (Mr (C MN K d H1 _ L (g n d H1 M)) fun b O e=>?_);obtain⟨y,z,k⟩:=e;cases b with
 |true=>
  obtain⟨N,B,k⟩:=k
  rw[ME rfl]
  refine Ly u (Mr (E MN O d y _ z k) fun f P l=>?_)
  cases f with
  |next=>
   obtain⟨a,j,m,o⟩:=l
   obtain⟨p,q,r⟩:=B a j o
   exact⟨p,q,a,j,m,r⟩
  |cont=>
   obtain⟨a,j,m,o⟩:=l
   obtain⟨p,q,r⟩:=B a j o
   exact⟨p,q,a,j,m,r⟩
  |brk=>exact l
  |ret v=>exact l
 |false=>
  rw[MD J9]
  exact wpAny_execs_nil ⟨d,y,z,k⟩
end
structure It where
 go:Nat->Hp->Prop
 yld:Nat->Hp->V->Hp->Prop
 stop:Nat->Hp->Prop
def cQ(X:Cx)(MN:pa)(H:Hp)(b:n7):Prop:=
 H b=MA/\b≠X.env.locals/\b∉X.fs/\(b∈X.ex\/X.s₀.z<=b)/\(∀x c,X.env.cells.lookup x=LZ c->c≠b)/\∀p∈X.pn++MN,p.1≠b
theorem Inv.pV{X:Cx}{MN:pa}{σ:St}{H d:Hp}{s:IS}{b:n7}(I:Inv X MN σ H s)(a:s.z<=b)(f:d b=MA):cQ X MN d b:=by
 refine⟨f,Nat.ne_of_gt (Jm I.lt a),I.IM a,.inr (K4 I.sz a),fun x c e z=>?_,fun p g z=>?_⟩
 ·obtain⟨v,q⟩:=I.cell x c e;exact absurd (Jm q.lt (by rw[z];exact a)) (Nat.lt_irrefl _)
 ·exact absurd (Jm (J6 (I.pin p g).1) (by rw[z];exact a)) (Nat.lt_irrefl _)
structure Turn(P:Jk)(w:JJ)(K:I0)(tg:oT)(J:It)(fp:rb)(it:n7)(tn:Nat->oa->Prop):Prop where
 mem:it∈fp
 obj:∀i h,tn i h->∀b∈fp,∃o,h.get? b=LZ o/\∀v,o.data≠.cell v
 keep:∀i h h',tn i h->(∀b∈fp,∀o,h.get? b=LZ o->h'.get? b=LZ o)->tn i h'
 item:∀(X:Cx),X.prog=P->X.w=w->X.K=K->X.calm=MB->∀(i:Nat) (MN:pa) (s:IS) (σ:St) (H:Hp) (E:o_),Inv X MN σ H s->(∀b∈fp,cQ X MN H b)->tn i s.heap->J.go i H->
  J4 (Jf P w) X.A (pyNext (.ref it)) (fun r s1=>∃u,r=LZ u/\
   J4 (Jf P w) X.A (KW tg (.ref it) u) (fun _ s2=>∃x H',Inv X MN σ H' s2/\RelV x u/\J.yld i H x H'/\tn (i+1) s2.heap/\∀b∈fp,H' b=MA) E s1) E s
 done:∀(X:Cx),X.prog=P->X.w=w->X.K=K->X.calm=MB->∀(i:Nat) (MN:pa) (s:IS) (σ:St) (H:Hp) (E:o_),Inv X MN σ H s->(∀b∈fp,cQ X MN H b)->tn i s.heap->J.stop i H->
  J4 (Jf P w) X.A (pyNext (.ref it)) (fun r s1=>r=MA/\Inv X MN σ H s1) E s
 self:∀(A:JP) (i:Nat) (s:IS) (Q:o_) (E:o_),tn i s.heap->Q (.ref it) s->J4 (Jf P w) A (pyIter (.ref it)) Q E s
abbrev TI:=St->Hp->(It->Hp->Prop)->Prop
def YZ(X:Cx)(MN:pa)(σ:St)(tg:oT)(R:It->Hp->Prop)(a:IQ)(d:IS):Prop:=
 ∃(it:n7) (fp:rb) (tn:Nat->oa->Prop) (J:It) (c:Hp),a=.ref it/\Inv X MN σ c d/\Turn X.prog X.w X.K tg J fp it tn/\tn 0 d.heap/\(∀b∈fp,cQ X MN c b)/\R J c
def PI(X:Cx)(tg a:oT)(b:TI):Prop:=
 ∀(MN:pa) (s:IS) (σ:St) (H:Hp) (R:It->Hp->Prop),Inv X MN σ H s->b σ H R->
  J4 (Jf X.prog X.w) X.A (eval a X.env) (fun v c=>J4 (Jf X.prog X.w) X.A (pyIter v) (YZ X MN σ tg R) X.xe c) X.xe s
theorem xR{M:Model}{A:JP}{E:o_}{s:IS}{tg:oT}{it:n7}{u:IQ}{o:Obj}{n:String}{vs:Array IQ}{Q:Unit->IS->Prop}(b:s.heap.get? it=LZ o)(c:o.cls=.type n)(hd:o.data=.fields vs) (d:["enumerate","zip","dict_itemiterator","dict_reverseitemiterator","odict_iterator","itertools.zip_longest","itertools.pairwise"].contains n=MC) (a:Q .unit s):J4 M A (KW tg (.ref it) u) Q E s:=by
 unfold KW
 cases tg<;>first
  |exact IU a
  |(cases u<;>first
   |exact IU a
   |(refine cc (wpAny_load b ?_)
     rw[c,hd]
     show J4 M A (if(["enumerate","zip","dict_itemiterator","dict_reverseitemiterator","odict_iterator","itertools.zip_longest","itertools.pairwise"].contains n&&vs[0]?==LZ (rawInt _))=MB then _ else _) Q E s
     rw[MD (by intro h;rw[d,JU]at h;cases h)]
     exact IU a))
def Y3(K:I0)(a:n7):It:=
 ⟨fun i H=>∃xs x,ND K H a xs/\xs[i]?=LZ x,fun i H x b=>b=H/\∀xs,ND K H a xs->xs[i]?=LZ x,fun i H=>∃xs,ND K H a xs/\xs.length<=i⟩
def Y2(K:I0)(a:n7):It:=
 ⟨fun i H=>∃xs x,NB K H a xs/\xs[i]?=LZ x,fun i H x b=>b=H/\∀xs,NB K H a xs->xs[i]?=LZ x,fun i H=>∃xs,NB K H a xs/\xs.length<=i⟩
def Rz(a:Int)(n:Nat):It:=⟨fun i _=>i<n,fun i H x b=>b=H/\x=.int (a+i),fun i _=>n<=i⟩
theorem wJ{P:Jk}{w:JJ}{K:I0}{tg:oT}(a it:n7):Turn P w K tg (Y3 K a) [it] it (fun i h=>h.IsListIter it a i) where
 mem:=by simp
 obj:=fun i h st b f=>by
  have e:b=it:=‹f›
  subst e
  obtain⟨o,e,c,d⟩:=st
  exact⟨o,e,fun v z=>by rw[d]at z;cases z⟩
 keep:=fun i h j st k=>st.at fun o e=>k it (by simp) o e
 item:=by
  intro X m n q J i MN s σ H E I hf st r
  subst m n q
  obtain⟨xs,x,l,t⟩:=r
  obtain⟨y,A,p,L⟩:=I.list l
  obtain⟨u,M,N⟩:=A.get t
  obtain⟨B,C,O,D,F,G⟩:=hf it (by simp)
  refine wpAny_pyNext_list_item st p.isList (x:=u) ‹M› fun j g Q=>?_
  have R:Inv X MN σ H { s with heap:=j }:=I.turned (t':=s.toks) (fun b o f e=>(Q.2 b f).trans e) B C D F G
  obtain⟨o,e,c,d⟩:=id g
  exact⟨u,rfl,xR (s:={ s with heap:=j }) e c d ⋯ ⟨x,H,R,N,⟨rfl,fun T S=>by rw[I.ja S l];exact t⟩,g,fun b f=>(hf b f).1⟩⟩
 done:=by
  intro X m n q J i MN s σ H E I hf st r
  subst m n q
  obtain⟨xs,l,t⟩:=r
  obtain⟨y,A,p,L⟩:=I.list l
  obtain⟨B,C,O,D,F,G⟩:=hf it (by simp)
  have U:=A.length
  exact wpAny_pyNext_list_end (I.ok.hd J) st p.isList (by simp;omega) fun j eb=>⟨rfl,I.turned (t':=s.toks) (fun b o f e=>eb b o f e) B C D F G⟩
 self:=fun _ _ _ _ _ st h=>wpAny_pyIter_listiter st h
theorem tP{P:Jk}{w:JJ}{K:I0}{tg:oT}(a it:n7):Turn P w K tg (Y2 K a) [it] it (fun i h=>h.IsTupleIter it a i) where
 mem:=by simp
 obj:=fun i h st b f=>by
  have e:b=it:=‹f›
  subst e
  obtain⟨o,e,c,d⟩:=st
  exact⟨o,e,fun v z=>by rw[d]at z;cases z⟩
 keep:=fun i h l st k=>st.at fun o e=>k it (by simp) o e
 item:=by
  intro X n q r J i MN s σ H E I hf st t
  subst n q r
  obtain⟨xs,x,m,y⟩:=t
  obtain⟨g,A,p,L⟩:=I.tuple m
  obtain⟨u,M,N⟩:=A.get y
  obtain⟨B,C,O,D,F,G⟩:=hf it (by simp)
  refine wpAny_pyNext_tuple_item st (show s.heap.IsTuple a g.toArray from p) (x:=u) ‹M› fun l j Q=>?_
  have R:Inv X MN σ H { s with heap:=l }:=I.turned (t':=s.toks) (fun b o f e=>(Q.2 b f).trans e) B C D F G
  obtain⟨o,e,c,d⟩:=id j
  exact⟨u,rfl,xR (s:={ s with heap:=l }) e c d ⋯ ⟨x,H,R,N,⟨rfl,fun T S=>by rw[I.nX S m];exact y⟩,j,fun b f=>(hf b f).1⟩⟩
 done:=by
  intro X n q r J i MN s σ H E I hf st t
  subst n q r
  obtain⟨xs,m,y⟩:=t
  obtain⟨g,A,p,L⟩:=I.tuple m
  obtain⟨B,C,O,D,F,G⟩:=hf it (by simp)
  have U:=A.length
  exact wpAny_pyNext_tuple_end (I.ok.hd J) st (show s.heap.IsTuple a g.toArray from p) (by simp;omega) fun l eb=>⟨rfl,I.turned (t':=s.toks) (fun b o f e=>eb b o f e) B C D F G⟩
 self:=fun _ _ _ _ _ st h=>wpAny_pyIter_tupleiter st h
theorem sa{P:Jk}{w:JJ}{K:I0}{tg:oT}(it:n7)(d:Int)(n:Nat):Turn P w K tg (Rz d n) [it] it (fun i h=>IsRangeIter h it (d+(i:Nat)*1) ((n:Int)-(i:Nat)) 1) where
 mem:=by simp
 obj:=fun i h st b a=>by
  have e:b=it:=‹a›
  subst e
  exact⟨_,st,fun v z=>by
   have B:Data.fields _=Data.cell v:=z
   cases B⟩
 keep:=fun i h f st k=>k it (by simp) _ st
 item:=by
  intro X g j l m i MN s σ H E I hf st p
  subst g j l
  obtain⟨q,r,C,u,x,y⟩:=hf it (by simp)
  have W:=Walks.range (prog:=X.prog) (w:=X.w) (I.ok.hd m) it d 1 n
  refine W.item i s _ _ p st fun v f A D c F=>?_
  obtain⟨t,rfl⟩:=D
  have G:Inv X MN σ H { s with heap:=f,toks:=A }:=I.turned (fun b o a e=>F b o ‹a› e) q r u x y
  refine⟨_,rfl,xR (s:={ s with heap:=f,toks:=A }) (n:="range_iterator") c rfl rfl ⋯ ⟨.int (d+i),H,G,⟨t,?_⟩,⟨rfl,rfl⟩,c,fun b a=>(hf b a).1⟩⟩
  rw[Int.mul_one]
 done:=by
  intro X g j l m i MN s σ H E I hf st p
  subst g j l
  obtain⟨q,r,C,u,x,y⟩:=hf it (by simp)
  exact wpAny_pyNext_range_end (I.ok.hd m) st (by have:n<=i:=p;omega) fun f eb=>⟨rfl,I.turned (t':=s.toks) (fun b o a e=>eb b o a e) q r u x y⟩
 self:=fun _ _ _ _ _ st h=>wpAny_pyIter_rangeiter st h
section
variable{X:Cx}{tg:oT}
theorem yR{MN:pa}{σ:St}{H:Hp}{s:IS}{R:It->Hp->Prop}{E:o_}{a c:Int}{t u v:Tok}{tk:Nat}(I:Inv X MN σ H s)(f:-(2^62)<=a)(g:a<2^62)(h:-(2^62)<=c)(i:c<2^62)
 (q:R (Rz a (c-a).toNat) H):J4 (Jf X.prog X.w) X.A (pyIter (.ref s.z)) (YZ X MN σ tg R) E { s with heap:=s.heap.push { cls:=.type "range",data:=.fields #[.int a t,.int c u,.int 1 v] },toks:=tk }:=by
 refine wpAny_pyIter_range (IsRange.new ..) (small_one f g h i) ?_
 have d:Inv X MN σ H { s with heap:=s.heap.push { cls:=.type "range",data:=.fields #[.int a t,.int c u,.int 1 v] },toks:=tk }:=I.kept fun b o e=>IZ _ e
 refine⟨(s.heap.push { cls:=.type "range",data:=.fields #[.int a t,.int c u,.int 1 v] }).objs.size,[(s.heap.push { cls:=.type "range",data:=.fields #[.int a t,.int c u,.int 1 v] }).objs.size],_,_,H,rfl,
  d.kept (t':=tk) fun b o e=>IZ _ e,sa _ a (c-a).toNat,?_,fun b j=>?_,q⟩
 ·have e1:a+((0:Nat):Int)*1=a:=by simp
  have e2:(((c-a).toNat:Nat):Int)-((0:Nat):Int)=Builtin.Range.rangeSize a c 1:=by rw[rangeSize_one];split<;>omega
  show IsRangeIter _ _ (a+((0:Nat):Int)*1) ((((c-a).toNat:Nat):Int)-((0:Nat):Int)) 1
  rw[e1,e2]
  exact J3 _ rfl
 ·have e:b=(s.heap.push { cls:=.type "range",data:=.fields #[.int a t,.int c u,.int 1 v] }).objs.size:=‹j›
  subst e
  exact d.pV (IY _) (d.hok.fresh (IY _))
def Gv(a:TA):TI:=fun σ H R=>a σ H fun vs H1=>∃j:Int,vs=[.int j]/\-(2^62)<=j/\j<2^62/\R (Rz 0 j.toNat) H1
theorem oI{a:oT}{d:TA}{p pos:Pos}(f:Gl X "range")(g:X.mg "range"=MA)(i:PA X [a] d)(k:Je [a] X.env=[(MC,eval a X.env)]:=by rfl):PI X tg (.Call (.Name "range" p) [a] [] pos) (Gv d):=by
 intro MN s σ H R I h;refine Call_ (gI I f g boot_range (KJ (Mr (i pos MN s σ H _ I h) fun us u b=>?_) k rfl));obtain⟨vs,H1,l,m,c⟩:=b;obtain⟨j,e,c,n,q⟩:=c;subst e;cases m with
 |cons r o=>
  cases o
  obtain⟨t,rfl⟩:=r
  exact call_range_1 (yR l () () c n ‹q›)
def Ik(e:TI)(g:TG)(f:TS):TS:=fun D σ H=>e σ H fun J H1=>∃W:Nat->Nat->St->Hp->Prop,(∃m,W 0 m σ H1)/\∀i m σ H,W i m σ H->
 (J.stop i H/\D.nx σ H)\/(J.go i H/\∃N:St->Hp->Prop,(∀a b,N a b->∃d,d<m/\W (i+1) d a b)/\∀x b,J.yld i H x b->g x σ b fun c h=>f { D with nx:=N,ct:=N,bk:=D.nx } c h)
def gQ(fp:rb)(h:oa):pa:=fp.filterMap fun b=>(h.get? b).map fun o=>(b,o)
theorem bS{fp:rb}{h:oa}{b:n7}{o:Obj}(a:b∈fp)(e:h.get? b=LZ o):(b,o)∈gQ fp h:=List.mem_filterMap.mpr ⟨b,a,by rw[e];rfl⟩
theorem wj{fp:rb}{h:oa}{p:n7×Obj}(a:p∈gQ fp h):p.1∈fp/\h.get? p.1=LZ p.2:=by
 obtain⟨b,c,e⟩:=List.mem_filterMap.mp a;cases q:h.get? b with
 |none=>rw[q]at e;cases e
 |some o=>
  rw[q]at e
  have d:(b,o)=p:=Option.some.inj e
  subst d
  exact⟨c,q⟩
theorem Inv.pinned{MN:pa}{σ:St}{H:Hp}{s:IS}{fp:rb}(I:Inv X MN σ H s)(hf:∀b∈fp,cQ X MN H b)(f:∀b∈fp,∃o,s.heap.get? b=LZ o/\∀v,o.data≠.cell v):Inv X (MN++gQ fp s.heap) σ H s:=
 I.vB fun p g=>(Jn.mp g).elim (fun z=>I.pin p (Jh _ z)) fun z=>by
  obtain⟨a,e⟩:=wj z
  obtain⟨h,i,j,_⟩:=hf p.1 a
  obtain⟨o,c,d⟩:=f p.1 a
  rw[e]at c;cases c
  exact⟨e,h,i,j,d⟩
theorem Inv.d9{MN a:pa}{σ:St}{H:Hp}{s:IS}(I:Inv X (MN++a) σ H s):Inv X MN σ H s:=I.vB fun p b=>I.pin p (Jh _ (List.mem_append_left _ b))
theorem xD{c:oT}{body:q_}{Y:TI}{g:TG}{Z:TS}{pos:Pos}(K:PassesOwn (Jf X.prog X.w) X.A X.env X.xe)(hc:X.calm=MB)(hi:PI X tg c Y)(hg:PG X tg g)(j:Ov X body Z)
 (hs:∀x,Jz c X.env x=pure x:=by intro _;rfl):PS X (.For tg c body [] pos) (Ik Y g Z):=by
 intro MN s σ H D I h
 refine wpAny_For (Mr (hi MN s σ H _ I h) fun v s1 h1=>Mr h1 fun a0 s2 h2=>?_) hs
 obtain⟨it,fp,tn,J,H2,e,I2,T,SS,f2,W,⟨m0,w0⟩,L⟩:=h2
 subst e
 have k:∀{z:Hp},(∀b∈fp,z b=MA)->∀b∈fp,cQ X MN z b:=fun hn b j=>⟨hn b j,(f2 b j).2⟩
 refine codeAny_forLoop_any (fun n s'=>∃i l z,Inv X MN l z s'/\tn i s'.heap/\(∀b∈fp,z b=MA)/\W i n l z) ?_ m0 ⟨0,σ,H2,I2,SS,fun b j=>(f2 b j).1,w0⟩
 rintro n s3 ⟨i,p,P,I3,SO,M,w3⟩
 rcases L i n p P w3 with⟨stop,qn⟩|⟨go,N,hN,step⟩
 ·refine Ly K (Mr (T.done X rfl rfl rfl hc i MN s3 p P X.xe I3 (k M) SO stop) fun r s4 B=>?_)
  obtain⟨Q,I4⟩:=B
  subst Q
  exact wpAny_execs_nil ⟨p,P,I4,qn⟩
 ·refine Ly K (Mr (T.item X rfl rfl rfl hc i MN s3 p P X.xe I3 (k M) SO go) fun r s4 C=>?_)
  obtain⟨u,Q,h4⟩:=C
  subst Q
  refine Ly K (Mr h4 fun _ s5 E=>?_)
  obtain⟨x,H5,I5,r5,y5,OZ,R⟩:=E
  have S:=I5.pinned (k R) (T.obj _ _ OZ)
  refine Ly K (Mr (hg _ s5 p H5 x u _ S r5 (step x H5 y5)) fun _ s6 F=>?_)
  obtain⟨U,H6,I6,q6⟩:=F
  refine Ly K (Mr (j _ s6 U H6 _ I6 q6) fun f V G=>?_)
  have q:∀{a:St} {t:Hp},Inv X (MN++gQ fp s5.heap) a t V->N a t->∃m,m<n/\∃i l z,Inv X MN l z V/\tn i V.heap/\(∀b∈fp,z b=MA)/\W i m l z:=fun{a t} y O=>by
   obtain⟨m',hm,w7⟩:=hN a t O
   refine⟨m',hm,i+1,a,t,y.d9,T.keep _ _ _ OZ fun b j o e=>(y.pin (b,o) (Jh _ (Jh _ (bS j e)))).1,fun b j=>?_,w7⟩
   obtain⟨o,e,d⟩:=T.obj _ _ OZ b j
   exact(y.pin (b,o) (Jh _ (Jh _ (bS j e)))).2.1
  cases f with
  |next=>obtain⟨a,t,y,O⟩:=G;exact q y O
  |cont=>obtain⟨a,t,y,O⟩:=G;exact q y O
  |brk=>obtain⟨a,t,y,G⟩:=G;exact⟨a,t,y.d9,G⟩
  |ret v=>obtain⟨x7,a,t,y,r7,G⟩:=G;exact⟨x7,a,t,y.d9,r7,G⟩
end
theorem wg{h:Int}{n:Nat}{g:TG}{k:TS}{D:Ends}{σ:St}{H:Hp}(a:Nat->St->Hp->Prop)(o:a 0 σ H)
 (q:∀i σ H,i<n->a i σ H->g (.int (h+i)) σ H fun b j=>k { D with nx:=a (i+1),ct:=a (i+1),bk:=D.nx } b j) (hd:∀σ H,a n σ H->D.nx σ H) :
 ∃W:Nat->Nat->St->Hp->Prop,(∃m,W 0 m σ H)/\∀i m σ H,W i m σ H->
  ((Rz h n).stop i H/\D.nx σ H)\/((Rz h n).go i H/\∃N:St->Hp->Prop,(∀c d,N c d->∃l,l<m/\W (i+1) l c d)/\∀x d,(Rz h n).yld i H x d->g x σ d fun b j=>k { D with nx:=N,ct:=N,bk:=D.nx } b j):=by
 refine⟨fun i m σ H=>m=n-i/\i<=n/\a i σ H,⟨n,by simp,Kf _,o⟩,?_⟩
 rintro i m σ H ⟨rfl,s,p⟩
 by_cases f:i<n
 ·refine .inr ⟨f,a (i+1),fun c d r=>⟨n-(i+1),(),rfl,f,r⟩,fun x d y=>?_⟩
  obtain⟨e,y⟩:=y
  subst e y
  exact q i σ _ f p
 ·have e:i=n:=()
  subst e
  exact .inl ⟨IY _,hd σ H p⟩
abbrev R2:=V->V->Hp->VK->Prop
def NS(X:Cx)(f:IQ->IQ->Sem IQ)(r:R2):Prop:=
 ∀(MN:pa) (s:IS) (σ:St) (H:Hp) (x y:V) (v u:IQ) (Q:VK),Inv X MN σ H s->RelV x v->RelV y u->r x y H Q->
  J4 (Jf X.prog X.w) X.A (f v u) (EP X MN σ Q) X.xe s
def Vv(X:Cx)(f:IQ->Sem IQ)(r:V->Hp->VK->Prop):Prop:=
 ∀(MN:pa) (s:IS) (σ:St) (H:Hp) (x:V) (v:IQ) (Q:VK),Inv X MN σ H s->RelV x v->r x H Q->
  J4 (Jf X.prog X.w) X.A (f v) (EP X MN σ Q) X.xe s
def cg(X:Cx)(f:IQ)(r:ro->Hp->VK->Prop):Prop:=
 ∀(MN:pa) (s:IS) (σ:St) (H:Hp) (xs:ro) (us:p4) (Q:VK),Inv X MN σ H s->Vals xs us->r xs H Q->
  J4 (Jf X.prog X.w) X.A (call f us) (EP X MN σ Q) X.xe s
def HL(X:Cx)(r:V->Hp->(Bool->Hp->Prop)->Prop):Prop:=
 ∀(MN:pa) (s:IS) (σ:St) (H:Hp) (x:V) (v:IQ) (Q:Bool->Hp->Prop),Inv X MN σ H s->RelV x v->r x H Q->
  J4 (Jf X.prog X.w) X.A (truthy v) (TP X MN σ Q) X.xe s
def SF(r:R2)(a b:TE):TE:=fun σ H Q=>a σ H fun x H1=>b σ H1 fun y c=>r x y c Q
def Yn(r:V->Hp->VK->Prop)(a:TE):TE:=fun σ H Q=>a σ H fun x H1=>r x H1 Q
def rI(C:Int->Int->Prop)(g:Int->Int->V):R2:=fun x y H Q=>∃i j,x=.int i/\y=.int j/\C i j/\Q (g i j) H
def Qo(g:Int->Int->V):R2:=fun x y H Q=>∃i j,x=.int i/\y=.int j/\Q (g i j) H
def rU(g:Int->V):V->Hp->VK->Prop:=fun x H Q=>∃i,x=.int i/\Q (g i) H
section
variable{X:Cx}{a b c:oT}{ta tb tc:TE}{pos:Pos}
theorem EL(l:PE X a ta)(m:PE X b tb){MN:pa}{s:IS}{σ:St}{H:Hp}{R:V->V->Hp->Prop}(I:Inv X MN σ H s) (h:ta σ H fun x H1=>tb σ H1 fun y g=>R x y g) {Q:o_} {f:IQ->IQ->Sem IQ} (hf:∀v u k x y g,Inv X MN σ g k->RelV x v->RelV y u->R x y g->J4 (Jf X.prog X.w) X.A (f v u) Q X.xe k) : J4 (Jf X.prog X.w) X.A (eval a X.env) (fun v i=>J4 (Jf X.prog X.w) X.A (eval b X.env) (fun u j=>J4 (Jf X.prog X.w) X.A (f v u) Q X.xe j) X.xe i) X.xe s:=by refine Mr (l MN s σ H _ I h) fun v n d=>?_;obtain⟨x,H1,o,p,q⟩:=d;refine Mr (m MN n σ H1 _ o q) fun u k e=>?_;obtain⟨y,g,r,t,z⟩:=e;exact hf v u k x y g r p t z
theorem Gn{op:Operator}{r:R2}(d:NS X (KZ op) r)(e:PE X a ta)(f:PE X b tb):PE X (.BinOp a op b pos) (SF r ta tb):=by intro MN s σ H Q I h;exact wpAny_BinOp (EL e f I h fun v u g x y i j k l q=>d MN g σ i x y v u Q j k l q)
theorem FJ{op:UnaryOp}{r:V->Hp->VK->Prop}(e:Vv X (unaryOp op) r)(f:PE X a ta):PE X (.UnaryOp op a pos) (Yn r ta):=by intro MN s σ H Q I h;exact UnaryOp_ (Mr (f MN s σ H _ I h) fun v g d=>by obtain⟨x,H1,i,j,k⟩:=d;exact(e MN g σ H1 x v Q i j k))
theorem WI{f:IQ->IQ->Sem IQ}{C:Int->Int->Prop}{g:Int->Int->Int} (d:∀(i j:Int) (t u:Tok) (s:IS) (Q:o_) (E:o_),C i j->Q (.int (g i j) s.toks) { s with toks:=s.toks+1 }->J4 (Jf X.prog X.w) X.A (f (.int i t) (.int j u)) Q E s) : NS X f (rI C fun i j=>.int (g i j)):=by intro MN s σ H x y v u Q I e k h;obtain⟨i,j,rfl,rfl,l,q⟩:=h;obtain⟨t,rfl⟩:=e;obtain⟨m,rfl⟩:=k;exact d i j t m s _ _ l ⟨.int (g i j),H,I.tok _,⟨_,rfl⟩,q⟩
theorem CD{f:IQ->IQ->Sem IQ}{g:Int->Int->Int} (d:∀(i j:Int) (t u:Tok) (s:IS) (Q:o_) (E:o_),Q (.int (g i j) s.toks) { s with toks:=s.toks+1 }->J4 (Jf X.prog X.w) X.A (f (.int i t) (.int j u)) Q E s) : NS X f (Qo fun i j=>.int (g i j)):=by intro MN s σ H x y v u Q I e k h;obtain⟨i,j,rfl,rfl,q⟩:=h;obtain⟨t,rfl⟩:=e;obtain⟨l,rfl⟩:=k;exact d i j t l s _ _ ⟨.int (g i j),H,I.tok _,⟨_,rfl⟩,q⟩
theorem AH{f:IQ->IQ->Sem IQ}{g:Int->Int->Bool} (d:∀(i j:Int) (t u:Tok) (s:IS) (Q:o_) (E:o_),Q (.bool (g i j)) s->J4 (Jf X.prog X.w) X.A (f (.int i t) (.int j u)) Q E s) : NS X f (Qo fun i j=>.bl (g i j)):=by intro MN s σ H x y v u Q I e k h;obtain⟨i,j,rfl,rfl,q⟩:=h;obtain⟨t,rfl⟩:=e;obtain⟨l,rfl⟩:=k;exact d i j t l s _ _ ⟨.bl (g i j),H,I,rfl,q⟩
def FQ(i j:Int):Prop:=0<=j/\j<=1000000/\i.natAbs<2^64
theorem C3:NS X (KZ .Add) (Qo fun i j=>.int (i+j)):=CD fun _ _ _ _ _ _ _ q=>add_int q
theorem C4:NS X (KZ .Sub) (Qo fun i j=>.int (i-j)):=CD fun _ _ _ _ _ _ _ q=>sub_int q
theorem BR:NS X (KZ .Mod) (rI (fun _ j=>j≠0) fun i j=>.int (i.fmod j)):=WI fun _ _ _ _ _ _ _ d q=>mod_int' d q
theorem E1:NS X (KZ .Pow) (rI FQ fun i j=>.int (i^j.toNat)):=WI fun _ _ _ _ _ _ _ d q=>pow_int_small d.1 d.2.1 d.2.2 q
theorem CU:NS X (KZ .BitXor) (Qo fun i j=>.int (Builtin.bitXor i j)):=CD fun _ _ _ _ _ _ _ q=>xor_int q
theorem Yd{f:IQ->Sem IQ}{g:Int->Int} (d:∀(i:Int) (t:Tok) (s:IS) (Q:o_) (E:o_),Q (.int (g i) s.toks) { s with toks:=s.toks+1 }->J4 (Jf X.prog X.w) X.A (f (.int i t)) Q E s) : Vv X f (rU fun i=>.int (g i)):=by intro MN s σ H x v Q I e h;obtain⟨i,rfl,q⟩:=h;obtain⟨t,rfl⟩:=e;exact d i t s _ _ ⟨.int (g i),H,I.tok _,⟨_,rfl⟩,q⟩
theorem Di:Vv X (unaryOp .USub) (rU fun i=>.int (-i)):=Yd fun _ _ _ _ _ q=>neg_int q
end
section
variable{X:Cx}{a b c:oT}{ta tb tc:TE}{pos:Pos}
theorem G8:NS X (JD .Lt) (Qo fun i j=>.bl (decide (i<j))):=AH fun _ _ _ _ _ _ _ q=>lt_int q
theorem GI:NS X (JD .LtE) (Qo fun i j=>.bl (decide (i<=j))):=AH fun _ _ _ _ _ _ _ q=>le_int q
theorem Fd:NS X (JD .Gt) (Qo fun i j=>.bl (decide (j<i))):=AH fun _ _ _ _ _ _ _ q=>gt_int q
theorem F6:NS X (JD .GtE) (Qo fun i j=>.bl (decide (j<=i))):=AH fun _ _ _ _ _ _ _ q=>ge_int q
theorem NS.or{f:IQ->IQ->Sem IQ}{r d:R2}(h:NS X f r)(h':NS X f d):NS X f (fun x y H Q=>r x y H Q\/d x y H Q):=by
 intro MN s σ H x y v u Q I e g q;rcases q with q|q
 ·exact h MN s σ H x y v u Q I e g q
 ·exact h' MN s σ H x y v u Q I e g q
theorem zQ(b:oT){op:CmpOp}(h:op≠.In:=by decide)(d:op≠.NotIn:=by decide):LJ op b=MC:=by
 have e1:(op==CmpOp.In)=MC:=by cases op<;>first|rfl|exact absurd rfl h
 have e2:(op==CmpOp.NotIn)=MC:=by cases op<;>first|rfl|exact absurd rfl d
 cases b<;>simp[LJ,e1,e2]
theorem AJ{op:CmpOp}{r:R2}(d:NS X (JD op) r)(e:PE X a ta)(f:PE X b tb)(g:LJ op b=MC):PE X (.Compare a [op] [b] pos) (SF r ta tb):=by intro MN s σ H Q I h;exact wpAny_Compare1 (EL e f I h fun v u i x y j k l m q=>d MN i σ j x y v u Q k l m q) g
def Ct(t:TE):TT:=fun σ H Q=>t σ H fun x d=>∃k,x=.bl k/\Q k d
theorem Bh{op:CmpOp}{r:R2}(d:NS X (JD op) r)(f:PE X a ta)(g:PE X b tb)(i:LJ op b=MC):PT X (.Compare a [op] [b] pos) (Ct (SF r ta tb)):=by intro MN s σ H Q I h;refine wpAny_isTrue_Compare1 (Mr (f MN s σ H _ I h) fun v j ⟨x,H1,l,m,n⟩=>Mr (g MN j σ H1 _ l n) fun u o ⟨y,p,q,t,w⟩=>Mr (d MN o σ p x y v u _ q m t w) fun c E ⟨z,A,B,C,k,e,D⟩=>?_) i;subst e;cases C;exact Kd ⟨A,B,D⟩
def DZ(r e:R2)(ta tb tc:TE):TE:=fun σ H Q=>ta σ H fun x H1=>tb σ H1 fun y f=>r x y f fun z d=>∃k,z=.bl k/\
 (if k=MB then tc σ d fun g h=>e y g h Q else Q (.bl MC) d)
theorem zB{op g:CmpOp}{r j:R2}(p:NS X (JD op) r)(i:NS X (JD g) j)(q:PE X a ta)(t:PE X b tb)(w:PE X c tc) (A:lastMarks [op,g] [b,c]=MC:=by with_unfolding_all rfl):PE X (.Compare a [op,g] [b,c] pos) (DZ r j ta tb tc):=by
 intro MN s σ H Q I h;refine Compare_chain (Mr (q MN s σ H _ I h) fun v B ⟨x,H1,C,D,E⟩=>chain_link (Mr (t MN B σ H1 _ C E) fun u F ⟨y,G,J,l,K⟩=>Mr (p MN F σ G x y v u _ J D l K) fun d L ⟨z,m,n,M,k,e,o⟩=>?_)) A;subst e;cases M;refine Kd ?_;cases k with
 |false=>exact ite_ff ⟨.bl MC,m,n,rfl,o⟩
 |true=>exact ite_tt (chain_last (Mr (w MN L σ m _ n o) fun N O f=>by obtain⟨P,R,S,T,U⟩:=f;exact(i MN O σ R y P u N Q S l T U)))
def FI(K:I0)(x:V)(H:Hp)(k:Bool):Prop:=
 match x with
 |.non=>k=MC
 |.bl b=>k=b
 |.int i=>k=(i != 0)
 |.str y=>y.length<=J7/\k=((y.length:Int) != 0)
 |.byt y=>y.size<=J7/\k=((y.size:Int) != 0)
 |.ref p=>(∃xs,ND K H p xs/\k=!xs.isEmpty)\/(∃xs,NB K H p xs/\k=!xs.isEmpty)\/∃kvs,H p=LZ (.dK kvs)/\k=!kvs.isEmpty
 |_=>False
theorem tR{d:Type}{kvs:List (d×V)}{vs:List (d×IQ)}(r:KV kvs vs):(!vs.isEmpty)=!kvs.isEmpty:=by cases r<;>rfl
theorem lT{xs:ro}{d:p4}(r:Vals xs d):(!d.toArray.isEmpty)=!xs.isEmpty:=by cases r<;>simp
theorem j6:(J7:Nat)<2^63:=by rw[sizeLine_eq];decide
theorem EV:HL X (fun x H Q=>∃k,FI X.K x H k/\Q k H):=by
 intro MN s σ H x v Q I g h;obtain⟨k,e,q⟩:=h;have A:=j6;have B:J7=16777216:=sizeLine_eq;cases x with
 |non=>
  cases g
  have d:k=MC:=e
  subst d
  exact truthy_none ⟨H,I,q⟩
 |bl b=>
  cases g
  have d:k=b:=e
  subst d
  exact Kd ⟨H,I,q⟩
 |int i=>
  obtain⟨t,rfl⟩:=g
  have d:k=(i != 0):=e
  subst d
  exact PySem.P.truthy_int ⟨H,I,q⟩
 |str y=>
  obtain⟨t,rfl⟩:=g
  obtain⟨u,d⟩:y.length<=J7/\k=((y.length:Int) != 0):=e
  subst d
  exact PySem.P.truthy_str () ⟨H,I.tok _,q⟩
 |byt y=>
  obtain⟨t,rfl⟩:=g
  obtain⟨u,d⟩:y.size<=J7/\k=((y.size:Int) != 0):=e
  subst d
  exact PySem.W.truthy_bytes () ⟨H,I.tok _,q⟩
 |ref p=>
  cases g
  have d:(∃xs,ND X.K H p xs/\k=!xs.isEmpty)\/(∃xs,NB X.K H p xs/\k=!xs.isEmpty)\/∃kvs,H p=LZ (.dK kvs)/\k=!kvs.isEmpty:=e
  rcases d with⟨xs,j,d⟩|⟨xs,j,d⟩|⟨kvs,j,d⟩
  ·subst d;obtain⟨l,r,n,o⟩:=I.list j;have f:=r.length;exact wpAny_truthy_list n.isList (by simp only[Jd];omega) ⟨H,I.tok _,by rw[lT r];exact q⟩
  ·subst d;obtain⟨l,r,n,o⟩:=I.tuple j;have f:=r.length;exact truthy_tuple n (by simp only[Jd];omega) ⟨H,I.tok _,by rw[lT r];exact q⟩
  ·subst d;obtain⟨o,z,vs,r,m⟩:kvs.length<=J7/\(p==Ky)=MC/\∃vs,KV kvs vs/\s.heap.DictOf (cx X.prog X.w) p vs:=I.hok p _ j;have f:kvs.length=vs.length:=Paired.length r;exact wpAny_truthy_dict z m () ⟨H,I.tok _,by rw[tR r];exact q⟩
 |_=>exact(show False from e).elim
theorem xg(g:PE X a ta)(i:∀d,isTrue a X.env d=(do let v <-d;standAt a.pos;holding [v] (truthy v))) :
 PT X a (fun σ H Q=>ta σ H fun x f=>∃k,FI X.K x f k/\Q k f):=by
 intro MN s σ H Q I h
 exact isTrue_plain (Mr (g MN s σ H _ I h) fun v j e=>by obtain⟨x,H1,l,m,n⟩:=e;exact(EV MN j σ H1 x v Q l m n)) (i _)
theorem vals1{x:V}{us:p4}(r:Vals [x] us):∃u,us=[u]/\RelV x u:=by
 cases r with
 |cons d e=>cases e;exact⟨_,rfl,d⟩
theorem vals2{x y:V}{us:p4}(r:Vals [x,y] us):∃u d,us=[u,d]/\RelV x u/\RelV y d:=by
 cases r with
 |cons e f=>
  cases f with
  |cons g h=>cases h;exact⟨_,_,rfl,e,g⟩
theorem ze:cg X (.builtin "abs") (fun xs H Q=>∃i,xs=[.int i]/\Q (.int (if i<0 then -i else i)) H):=by intro MN s σ H xs us Q I r h;obtain⟨i,rfl,q⟩:=h;obtain⟨u,rfl,t,rfl⟩:=vals1 r;exact call_abs_int fun u d=>⟨.int (if i<0 then -i else i),H,I.tok _,⟨_,rfl⟩,q⟩
theorem xf(e:X.calm=MB):cg X (.builtin "max") (fun xs H Q=>∃i j,xs=[.int i,.int j]/\Q (.int (if j>i then j else i)) H):=by
 intro MN s σ H xs us Q I r h;obtain⟨i,j,rfl,q⟩:=h;obtain⟨u,f,rfl,⟨t,rfl⟩,⟨g,rfl⟩⟩:=vals2 r;refine max_two_ints (I.ok.hd e) fun l m k=>⟨_,H,I.kept k,?_,q⟩;by_cases d:j>i
 ·rw[ME d,ME d];exact⟨_,rfl⟩
 ·rw[MD d,MD d];exact⟨_,rfl⟩
theorem we(e:X.calm=MB):cg X (.builtin "min") (fun xs H Q=>∃i j,xs=[.int i,.int j]/\Q (.int (if j<i then j else i)) H):=by
 intro MN s σ H xs us Q I r h;obtain⟨i,j,rfl,q⟩:=h;obtain⟨u,f,rfl,⟨t,rfl⟩,⟨g,rfl⟩⟩:=vals2 r;refine min_two_ints (I.ok.hd e) fun l m k=>⟨_,H,I.kept k,?_,q⟩;by_cases d:j<i
 ·rw[ME d,ME d];exact⟨_,rfl⟩
 ·rw[MD d,MD d];exact⟨_,rfl⟩
theorem vY:cg X (.type "int") (fun xs H Q=>(∃i,xs=[.int i]/\Q (.int i) H)\/∃k,xs=[.bl k]/\Q (.int (if k then 1 else 0)) H):=by
 intro MN s σ H xs us Q I r h;rcases h with⟨i,rfl,q⟩|⟨k,rfl,q⟩
 ·obtain⟨u,rfl,t,rfl⟩:=vals1 r;exact call_int_int ⟨.int i,H,I,⟨_,rfl⟩,q⟩
 ·obtain⟨u,rfl,d⟩:=vals1 r;cases d;exact call_int_bool ⟨.int (if k then 1 else 0),H,I.tok _,⟨_,rfl⟩,q⟩
end
structure NF(k:Nat)(A:JP):Prop where
 hd:A.handled=MA
 dp:A.depth+3*k+5<recursionLimit
 un:A.units+16*k+200<K0
 gd:A.guards=LZ []
theorem NF.mono{j k:Nat}{A:JP}(r:NF k A)(h:j<=k):NF j A:=⟨r.hd,by have:=r.dp;omega,by have:=r.un;omega,r.gd⟩
theorem NF.deeper{k:Nat}{A:JP}(r:NF (k+1) A)(env:Env):NF k (A.deeper env):=⟨r.hd,by have:=r.dp;show A.depth+1+3*k+5<_;omega,by have:=r.un;show A.units+3+16*k+200<_;omega,r.gd⟩
theorem NF.depth{k:Nat}{A:JP}(r:NF k A):A.depth<recursionLimit:=by have:=r.dp;omega
theorem NF.units{k:Nat}{A:JP}(r:NF k A):A.units+64<K0:=by have:=r.un;omega
def HN:TA:=fun _ H Q=>Q [] H
def FX(a:TE)(b:TA):TA:=fun σ H Q=>a σ H fun x H1=>b σ H1 fun xs c=>Q (x::xs) c
section
variable{X:Cx}{e:oT}{es:ra}{te:TE}{t:TA}{pos:Pos}
theorem Fb:PA X [] HN:=fun _ _ _ _ H Q I h=>Calls.spliced_nil ⟨[],H,I,.nil,h⟩
theorem BM(c:PE X e te)(d:PA X es t)(f:Je (e::es) X.env=(MC,eval e X.env)::Je es X.env:=by rfl):PA X (e::es) (FX te t):=by intro pos MN s σ H Q I h;rw[f];show J4 _ _ (spliced ((MC,eval e X.env)::Kr pos (Je es X.env))) _ _ s;refine Calls.spliced_cons (Mr (c MN s σ H _ I h) fun u g a=>?_);obtain⟨x,H1,i,j,k⟩:=a;exact Mr (d pos MN g σ H1 _ i k) fun us p b=>by obtain⟨xs,l,m,n,o⟩:=b;exact(⟨x::xs,l,m,.cons j n,o⟩)
def IL(t:TA):TE:=fun σ H Q=>t σ H fun xs H1=>xs.length<=J7/\∀p,H1 p=MA->Q (.ref p) (upd H1 p (.tup xs))
def HE(t:TA):TE:=fun σ H Q=>t σ H fun xs H1=>xs.length<=J7/\∀p,H1 p=MA->Q (.ref p) (upd H1 p (.lst xs))
theorem DB{x1}(h:PA X es t):PE X (.Tuple es x1 pos) (IL t):=by intro MN s σ H Q I d;refine wpAny_Tuple_spliced (Mr (h pos MN s σ H _ I d) fun us a ⟨xs,H1,c,r,z,q⟩=>⟨by rw[<-r.length];exact z,?_⟩);have hf:H1 a.z=MA:=c.hok.fresh (IY _);refine⟨.ref a.z,upd H1 a.z (.tup xs),c.laid (t':=a.toks) (fun b u e=>IZ _ e) (IY _) ?_,rfl,q _ hf⟩;exact⟨z,us,r,⟨_,J3 _ rfl,rfl,_,rfl⟩,⟨_,J3 _ rfl,rfl⟩⟩
theorem Dl(h:PA X es t):PE X (.List es pos) (HE t):=by intro MN s σ H Q I d;refine wpAny_List_spliced (Mr (h pos MN s σ H _ I d) fun us a ⟨xs,H1,c,r,z,q⟩=>⟨by rw[<-r.length];exact z,?_⟩);have hf:H1 a.z=MA:=c.hok.fresh (IY _);refine⟨.ref a.z,upd H1 a.z (.lst xs),c.laid (t':=a.toks) (fun b u e=>IZ _ e) (IY _) ?_,rfl,q _ hf⟩;exact⟨z,us,0,r,J3 _ rfl⟩
end
abbrev Sp:=ro->Hp->VK->XK->Prop
abbrev Qk:=List Env->Hp->IS->XK->IQ->IS->Prop
structure Qz(P:Jk)(w:JJ)(K:I0)(mg:pd)(base:oa)(A:JP)(outer:List Env)(s:IS)(H:Hp):Prop where
 frames:A.frames=LZ outer
 mod:Mod K mg base
 bs:∀b o,base.get? b=LZ o->s.heap.get? b=LZ o/\H b=MA
 bsz:base.objs.size<=s.z
 mL:s.heap.FunFrames base outer
 frf:∀b∈Qf outer,H b=MA
 hok:N8 P w H s.heap
 bare:AllBare s.gens
def CE(outer:List Env)(P:Jk)(w:JJ)(H:Hp)(s:IS)(Q:VK)(u:IQ)(a:IS):Prop:=
 ∃v b,a.os=s.os/\AllBare a.gens/\Un (Qf outer) [] H b s.heap a.heap/\N8 P w b a.heap/\RelV v u/\Q v b
def CR(CX:Qk)(outer:List Env)(P:Jk)(w:JJ)(H:Hp)(s:IS)(Q:VK)(E:XK)(r:Result)(a:IS):Prop:=
 match r with
 |.ok (.ret u)=>CE outer P w H s Q u a
 |.ok _=>False
 |.error e=>CX outer H s E e a
structure N9(P:Jk)(w:JJ)(K:I0)(mg:pd)(base:oa)(CX:Qk)(k:Nat)(f:n7)(fd:LW)(ps:rf)(sp:Sp):Prop where
 len:∀vs H Q E,sp vs H Q E->vs.length=ps.length
 run:∀(A:JP) (outer:List Env) (s:IS) (H:Hp) (args:Args) (us:p4) (vs:ro) (Q:VK) (E:XK),NF k A->Qz P w K mg base A outer s H->BindsTo s fd args (ps.zip us)->Vals vs us->sp vs H Q E->
  Lb (Jf P w) A (.call (.ref f) args) (CR CX outer P w H s Q E) s
theorem N9.mono{P:Jk}{w:JJ}{K:I0}{mg:pd}{base:oa}{CX:Qk}{j k:Nat}{f:n7}{fd:LW}{ps:rf}{sp:Sp}(F:N9 P w K mg base CX j f fd ps sp)(h:j<=k) : N9 P w K mg base CX k f fd ps sp:=⟨F.len,fun A outer s H args us vs Q E a=>F.run A outer s H args us vs Q E (a.mono h)⟩
section
variable{X:Cx}{MN:pa}{σ:St}{H:Hp}{s s':IS}
theorem Inv.Ir(I:Inv X MN σ H s):Qz X.prog X.w X.K X.mg X.base X.A X.stack s H:=⟨I.ok.frames,I.ok.mod,I.bs,K4 I.ok.bsz I.sz,I.stack,I.vt,I.hok,I.bare⟩
theorem Inv.after{Q:VK}{u:IQ}(I:Inv X MN σ H s)(h:CE X.stack X.prog X.w H s Q u s'):EP X MN σ Q u s':=by obtain⟨v,c,os,bare,un,hok,r,q⟩:=h;obtain⟨e,g,d,t,a⟩:=s';obtain rfl:a=s.os:=os;exact⟨v,c,I.call (h':=e) (g':=g) (d':=d) (t':=t) (ch:=[]) un hok bare (fun b z=>absurd z (by simp)),r,q⟩
end
def Hq(sp:Sp)(a:ro)(E:XK)(t:TA):TE:=fun σ H Q=>t σ H fun vs H1=>sp (vs++a) H1 Q E
def Binds(K:I0)(fd:LW)(ps:rf)(a:p4):Prop:=
 ∀(s:IS) (us:p4),K.In s.heap->(us++a).length=ps.length->BindsTo s fd ⟨us,[]⟩ (ps.zip (us++a))
theorem Binds.all{K:I0}{fd:LW}{ps:rf}(h:∀us:p4,us.length=ps.length->bindArgs fd ⟨us,[]⟩=pure (ps.zip us)):Binds K fd ps []:=fun s us _ a=>by rw[JX]at a ⊢;exact .of_eq (h us a)
def Passes(CX:Qk)(X:Cx)(E:XK):Prop:=∀(MN:pa) (σ:St) (H:Hp) (s:IS) (e:IQ) (a:IS),Inv X MN σ H s->CX X.stack H s E e a->X.xe e a
section
variable{X:Cx}{CX:Qk}{k:Nat}{f C:n7}{fd:LW}{ps:rf}{sp:Sp}{MQ:ro}{ds:p4}{E:XK}{x m:Str}{p pos apos:Pos}{e o:oT}{es:ra}{ta:TE}{t:TA}
theorem C9{MN:pa}{σ:St}{H:Hp}{s:IS}{Q:VK}{us:p4}{vs:ro}(F:N9 X.prog X.w X.K X.mg X.base CX k f fd ps sp)(c:NF k X.A)(d:Binds X.K fd ps ds)(hd:Vals MQ ds)(g:Passes CX X E)
 (I:Inv X MN σ H s) (r:Vals vs us) (h:sp (vs++MQ) H Q E):J4 (Jf X.prog X.w) X.A (call (.ref f) us) (EP X MN σ Q) X.xe s:=by
 have b:Vals (vs++MQ) (us++ds):=r.append hd
 have i:(us++ds).length=ps.length:=by rw[<-b.length];exact F.len _ _ _ _ h
 refine wpAny_call (codeAny_mono (F.run X.A X.stack s H ⟨us,[]⟩ (us++ds) (vs++MQ) Q E c I.Ir (d s us I.kIn i) b h) fun r j a=>?_)
 cases r with
 |error e=>exact g MN σ H s e j I a
 |ok l=>
  cases l with
  |ret u=>exact I.after a
  |next=>exact Js a
  |brk=>exact Js a
  |cont=>exact Js a
theorem Ax(F:N9 X.prog X.w X.K X.mg X.base CX k f fd ps sp)(d:NF k X.A)(g:Gl X x)(i:X.mg x=LZ (.ref f))(j:PySem.W.keepIn X.K (.ref f)=MB)(l:Binds X.K fd ps ds)(hd:Vals MQ ds)(n:Passes CX X E) (u:PA X (e::es) t) (a:(x==("__debug__":Str))=MC:=by decide) (v:Je (e::es) X.env=(MC,eval e X.env)::Je es X.env:=by rfl) (b:(Kr pos (Je es X.env)).any (·.1)=MC:=by rfl) : PE X (.Call (.Name x p) (e::es) [] pos) (Hq sp MQ E t):=by intro MN s σ H Q I h;refine wpAny_Call_Name_kw (BS I g i ?_ a);refine PySem.W.callWith_K (h₀:=X.base) I.ok.mod.kin j (Mr (u pos MN s σ H _ I h) fun us y ⟨vs,H1,c,r,q⟩=>⟨c.kIn,?_⟩) v b;exact C9 F d l hd n c r q
end
structure Ml(N P:rf)(sc:Lp):Prop where
 kind:sc.kind=.function
 co:sc.isCoroutine=MC
 gen:sc.isGenerator=MC
 nd:N.Nodup
 pre:N.take P.length=P
 par:∀x∈P,sc.names.lookup x=LZ .local\/sc.names.lookup x=LZ .cell
 nofree:∀y∈sc.names,y.2≠.free
theorem oE{kindOf:Str->Option Lh}{x:Str}:∀{binds:List (Str×IQ)} {m:pd},(∀v,(x,v)∉binds)->bindL kindOf binds m x=m x
 |[],_,_=>rfl
 |(n,v)::r,m,h=>by
  unfold bindL
  rw[oE fun w a=>h w (JA _ a)]
  split
  ·have:x≠n:=by rintro rfl;exact h v JW
   simp[this]
  ·rfl
theorem nW{kindOf:Str->Option Lh}{x:Str}:∀{binds:List (Str×IQ)} {m:pd},(∀v,(x,v)∉binds)->bindC kindOf binds m x=m x
 |[],_,_=>rfl
 |(n,v)::r,m,h=>by
  unfold bindC
  rw[nW fun w a=>h w (JA _ a)]
  split
  ·rfl
  ·have:x≠n:=by rintro rfl;exact h v JW
   simp[this]
theorem nM{kindOf:Str->Option Lh}{x:Str}{v:IQ}:∀{P:rf} {vs:p4} {i:Nat} {m:pd},P.Nodup->P[i]?=LZ x->vs[i]?=LZ v->kindOf x=LZ .local->
 bindL kindOf (P.zip vs) m x=LZ v
 |[],_,_,_,_,h,_,_=>by simp at h
 |_::_,[],_,_,_,_,h,_=>by simp at h
 |p::P,w::vs,0,m,nd,h1,h2,hk=>by
  simp at h1 h2;subst h1;subst h2
  show bindL kindOf ((p,w)::P.zip vs) m p=_
  unfold bindL
  rw[oE fun v a=>(Lz.mp nd).1 (List.of_mem_zip a).1,ME hk]
  simp
 |p::P,w::vs,i+1,m,nd,h1,h2,hk=>by
  show bindL kindOf ((p,w)::P.zip vs) m x=_
  unfold bindL
  exact nM (i:=i) (Lz.mp nd).2 ‹h1› ‹h2› hk
theorem nV{kindOf:Str->Option Lh}{x:Str}{v:IQ}:∀{P:rf} {vs:p4} {i:Nat} {m:pd},P.Nodup->P[i]?=LZ x->vs[i]?=LZ v->kindOf x≠LZ .local->
 bindC kindOf (P.zip vs) m x=LZ v
 |[],_,_,_,_,h,_,_=>by simp at h
 |_::_,[],_,_,_,_,h,_=>by simp at h
 |p::P,w::vs,0,m,nd,h1,h2,hk=>by
  simp at h1 h2;subst h1;subst h2
  show bindC kindOf ((p,w)::P.zip vs) m p=_
  unfold bindC
  rw[nW fun v a=>(Lz.mp nd).1 (List.of_mem_zip a).1,MD hk]
  simp
 |p::P,w::vs,i+1,m,nd,h1,h2,hk=>by
  show bindC kindOf ((p,w)::P.zip vs) m x=_
  unfold bindC
  exact nV (i:=i) (Lz.mp nd).2 ‹h1› ‹h2› hk
def start(N:rf)(vs:ro):St:=vs.map LZ++Ju (N.length-vs.length) MA
def jY(CX:Qk)(P:Jk)(w:JJ)(K:I0)(mg:pd)(base:oa)(N:rf)(qual:Str)(scope:Lp)(f:n7)(b:IQ)(A:JP)(outer:List Env)(s:IS)(H:Hp)(E:XK):Cx where
 prog:=P
 w:=w
 K:=K
 mg:=mg
 base:=base
 A:=A.deeper (envOfC qual scope s.z f b)
 N:=N
 s₀:=s
 H₀:=H
 env:=envOfC qual scope s.z f b
 outer:=outer
 stack:=envOfC qual scope s.z f b::outer
 ex:=[]
 calm:=MB
 fn:=fun _=>MB
 pn:=[]
 xe:=fun e c=>J4 (Jf P w) (A.deeper (envOfC qual scope s.z f b)) (leaving (envOfC qual scope s.z f b) e) (fun _ a=>CX outer H s E e a) (fun d a=>CX outer H s E d a) c
theorem lN{sc:Lp}{n:Nat}{x:Str}(h:sc.names.lookup x=LZ .cell):∃c,(KD n sc.names []).lookup x=LZ c:=by have q:=PySem.W.cellsFrom_some sc.names n [] (.inl h);exact Option.isSome_iff_exists.mp q
theorem wb{CX:Qk}{P:Jk}{w:JJ}{K:I0}{mg:pd}{base:oa}{N ps:rf}{qual:Str}{scope:Lp}{f:n7}{t:IQ}{A:JP}{outer:List Env}{s D:IS}{H:Hp}{E:XK}{us:p4}{vs:ro}
 (S:Ml N ps scope) (hd:A.handled=MA) (g:Qz P w K mg base A outer s H) (M:vs.length=ps.length) (r:Vals vs us)
 (x:InCallC s s.z (bindL (envOfC qual scope s.z f t).kindOf (ps.zip us) fun _=>MA) (KD (s.z+1) scope.names []) (bindC (envOfC qual scope s.z f t).kindOf (ps.zip us) fun _=>MA) D) :
 Inv (jY CX P w K mg base N qual scope f t A outer s H E) [] (start N vs) H D:=by
 have I:ps.length<=N.length:=by have:=congrArg List.length S.pre;rw[L3]at this;omega
 obtain⟨B,O,rfl,F⟩:=x.done
 have j:∀b:n7,b∉(jY CX P w K mg base N qual scope f t A outer s H E).ex:=fun b z=>absurd (show b∈([]:rb)from z) (by simp)
 refine⟨⟨g.mod,S.kind,rfl,rfl,IY _,fun y z c B d=>?_,fun y l=>?_,fun y c _ h=>?_,fun _=>hd,Around.frames_deeper g.frames,.inr ⟨rfl,rfl⟩,fun b z=>absurd z (j b),g.bs,g.bsz,fun b _ _=>j b,fun b z=>absurd z (j b),g.mL,g.frf⟩,
  rfl,g.bare,Un.kept F,⟨_,x.toInCall.ns,fun i y v B d Q=>?_⟩,fun y c h=>⟨_,x.cell y c h⟩,g.hok.fresh (IY _),fun y c h=>?_,fun p m=>absurd (show p∈([]:pa)from m) (by simp),g.hok.kept F,?_⟩
 ·exact name_of_addr x.apart (JN B) (JN d)
 ·have l:scope.names.lookup y=LZ .cell\/scope.names.lookup y=LZ .free:=l
  rcases l with l|l
  ·exact lN l
  ·exact absurd rfl (S.nofree _ (JN l))
 ·exact Nat.le_of_lt (x.above y c (JN h))
 ·have C:i<vs.length:=by
   unfold start at d
   by_cases C:i<vs.length
   ·exact C
   ·rw[JV ‹C›]at d
    rw[List.getElem?_replicate]at d
    split at d<;>cases d
  have J:vs[i]?=LZ v:=by
   unfold start at d
   rw[JY ‹C›,IX]at d
   cases e:vs[i]? with
   |none=>rw[e]at d;cases d
   |some a=>rw[e]at d;cases d;rfl
  obtain⟨u,G,L⟩:=r.get J
  have m:ps[i]?=LZ y:=by
   rw[<-S.pre,List.getElem?_take_of_lt ()];exact B
  have o:ps.Nodup:=by rw[<-S.pre];exact S.nd.sublist (List.take_sublist _ _)
  refine⟨u,L,?_⟩
  rcases S.par y (IW m)with k|k
  ·exact .inl ⟨k,nM o m G k⟩
  ·obtain⟨c,e⟩:=lN (n:=s.z+1) k
   refine .inr ⟨.inl k,c,e,?_⟩
   have q:=x.cell y c e
   rw[nV o m G (by show scope.names.lookup y≠_;rw[k];decide)]at q
   exact q
 ·exact g.hok.fresh (Nat.le_of_lt (x.above y c (JN h)))
 ·unfold start
  show _=N.length
  rw[Kg,IV,List.length_replicate]
  omega
theorem Hd{CX:Qk}{P:Jk}{w:JJ}{K:I0}{mg:pd}{base:oa}{k:Nat}{f:n7}{name qual:Str}{params:Arguments}{body:q_}{scope:Lp}{G kV j L cdv ct oc:IQ}{an od:Option n7}
 {osl:Array (p_)} {N ps:rf} {sp:Sp} (R:K.lookup f=LZ ⟨oc,od,.func (Kv name qual params body scope G kV j L an cdv ct),osl⟩) (z:PySem.W.codeIn K cdv qual=MB) (S:Ml N ps scope)
 (len:∀vs H Q E,sp vs H Q E->vs.length=ps.length)
 (g:∀(A:JP) (outer:List Env) (s:IS) (H:Hp) (vs:ro) (Q:VK) (E:XK),NF k (A.deeper (envOfC qual scope s.z f cdv))->sp vs H Q E->
  ∃t,Ov (jY CX P w K mg base N qual scope f cdv A outer s H E) body t/\t { nx:=fun _ d=>Q .non d,rt:=Q } (start N vs) H) :
 N9 P w K mg base CX (k+1) f (Kv name qual params body scope G kV j L an cdv ct) ps sp:=by
 refine⟨len,fun A outer s H args us vs Q E B l T r m=>?_⟩
 have U:=len _ _ _ _ m
 have M:K.In s.heap:=l.mod.kin.keeps fun b o e=>(l.bs b o e).1
 have C:s.heap.NoLimit:=l.mod.nolimit.keeps fun b o e=>(l.bs b o e).1
 have h:∀y∈ps.zip us,scope.names.lookup y.1=LZ .local\/(scope.names.lookup y.1=LZ .cell/\((KD (s.z+1) scope.names []).lookup y.1).isSome=MB):=fun a X=>by
  obtain⟨n,v⟩:=a
  rcases S.par n (List.of_mem_zip X).1 with q|q
  ·exact .inl q
  ·exact .inr ⟨q,PySem.W.cellsFrom_some _ _ _ (.inl q)⟩
 refine codeAny_call_function B.depth (M _ _ R) rfl S.co S.gen rfl (PySem.W.codeRec_of M z) (T _ _ _ _ ?_)
 refine wpAny_newFunctionEnv_cells S.kind h fun env Y O x=>?_
 subst Y
 refine⟨C.keeps x.toInCall.keep,codeAny_func ?_⟩
 obtain⟨t,Z,hq⟩:=g A outer s H vs Q E (B.deeper _) m
 have I:Inv (jY CX P w K mg base N qual scope f cdv A outer s H E) [] (start N vs) H O:=wb S B.hd l U r x
 refine Ja (Z [] O (start N vs) H _ I hq) (fun fl D i=>?_) fun e D i=>i
 have p:∀{c:St} {d:Hp} {v:V} {u:IQ},Inv (jY CX P w K mg base N qual scope f cdv A outer s H E) [] c d D->RelV v u->Q v d->CE outer P w H s Q u D:=
  fun{c d v u} J F q=>⟨v,d,J.os,J.bare,J.base,J.hok,F,q⟩
 cases fl with
 |ret u=>
  obtain⟨v,c,d,J,F,q⟩:=i
  exact p J F q
 |next=>
  obtain⟨c,d,J,q⟩:=i
  exact p (v:=V.non) (u:=KL) J rfl q
 |brk=>
  obtain⟨_,_,_,q⟩:=i
  exact Js q
 |cont=>
  obtain⟨_,_,_,q⟩:=i
  exact Js q
section
variable{X:Cx}{x:Str}{p pos:Pos}{e:oT}{es:ra}{t:TA}{id T:String}{r:ro->Hp->VK->Prop}
def WR(r:ro->Hp->VK->Prop)(t:TA):TE:=fun σ H Q=>t σ H fun vs H1=>r vs H1 Q
theorem yS(d:cg X (.builtin id) r)(f:Gl X x)(g:X.mg x=MA)(i:JT x=LZ (.builtin id))(j:PA X (e::es) t)(k:x≠"__name__":=by decide)(b:(x==("__debug__":Str))=MC:=by decide) (l:Je (e::es) X.env=(MC,eval e X.env)::Je es X.env:=by rfl) (c:(Kr pos (Je es X.env)).any (·.1)=MC:=by rfl):PE X (.Call (.Name x p) (e::es) [] pos) (WR r t):=by intro MN s σ H Q I h;refine wpAny_Call_Name_kw (gI I f g i ?_ k b);exact PyProof.Rows.callWith_builtin1 (Mr (j pos MN s σ H _ I h) fun us m a=>by obtain⟨vs,H1,n,o,q⟩:=a;exact(d MN m σ H1 vs us Q n o q)) l c
theorem wX(d:cg X (.type T) r)(f:Gl X x)(g:X.mg x=MA)(i:JT x=LZ (.type T))(j:PA X (e::es) t)(k:x≠"__name__":=by decide)(b:(x==("__debug__":Str))=MC:=by decide) (l:Je (e::es) X.env=(MC,eval e X.env)::Je es X.env:=by rfl) (c:(Kr pos (Je es X.env)).any (·.1)=MC:=by rfl):PE X (.Call (.Name x p) (e::es) [] pos) (WR r t):=by intro MN s σ H Q I h;refine wpAny_Call_Name_kw (gI I f g i ?_ k b);exact KJ (Mr (j pos MN s σ H _ I h) fun us m a=>by obtain⟨vs,H1,n,o,q⟩:=a;exact(d MN m σ H1 vs us Q n o q)) l c
end
end L2
namespace HT
open PySem PyProof.Rows
def lexLt:pw->pw->Bool
 |[],[]=>MC
 |[],_::_=>MB
 |_::_,[]=>MC
 |x::xs,y::ys=>if x=y then lexLt xs ys else decide (x<y)
theorem sY(x y:Int)(xs a:pw):lexLt (x::xs) (y::a)=if x=y then lexLt xs a else decide (x<y):=rfl
theorem nF:lexLt [] []=MC:=rfl
theorem lX(y:Int)(a:pw):lexLt [] (y::a)=MB:=rfl
theorem mY(x:Int)(xs:pw):lexLt (x::xs) []=MC:=rfl
theorem qB(A:JP)(s:IS)(a:Int)(t:Tok)(c:Int)(u:Tok):∃e,SeqAt.EqAt A s (.int a t) (.int c u) e/\(e=MB↔a=c):=⟨(a==c),SeqAt.EqAt.int_int a t c u,by simp⟩
theorem yN(A:JP)(s:IS)(a:Int)(t:Tok)(c:Int)(u:Tok)(prog:Jk)(w:JJ)(E:o_)(Q:o_)(h:Q (.bool (decide (a<c))) s) : J4 (Jf prog w) A (richCompare .Lt (.int a t) (.int c u)) Q E s:=(PyProof.Rows.lt_int h:J4 (Jf prog w) A (JD .Lt (.int a t) (.int c u)) Q E s)
section
open PySem.SeqAt
open PySem.AutoSeq1 (wpAny_loadPart')
open PySem.MeetsSeq PySem.MeetsSeq2 PySem.MeetsSeq3
theorem nC(l b:n7)(items f:Array IQ)(n P:Nat)(Q H:Option n7)(S I:Array (p_))(ns ms:pw)(M:Lc items.toList ns)(N:Lc f.toList ms) :
 Meets (LY.«tuple.__lt__» ⟨[.ref l,.ref b],[]⟩)
  (fun _ R s=>s.heap.get? l=LZ { cls:=.type "tuple",dict:=Q,data:=.seq items n,slots:=S }/\s.heap.get? b=LZ { cls:=.type "tuple",dict:=H,data:=.seq f P,slots:=I }/\
   R (.ok (.ret (.bool (lexLt ns ms)))) s):=
 .of_wp fun prog w A R s h=>by
  obtain⟨F,g,d,G,os⟩:=s;obtain⟨T,U,h⟩:=h
  have Z:=AutoSeq1.sub_tuple_tuple
  have z1:items.size=ns.length:=by rw[<-M.length];simp
  have z2:f.size=ms.length:=by rw[<-N.length];simp
  wp_walk using Kb T,Kb U,wpAny_forIn_list _ (fun p b J=>b.1=MA/\J=⟨F,g,d,G,os⟩/\∃(vs ws:p4) (j k:pw),p=vs.zip ws/\
   Lc vs j/\Lc ws k/\j.length+f.size=k.length+items.size/\R (.ok (.ret (.bool (lexLt j k)))) ⟨F,g,d,G,os⟩) _
  case turn=>
   rintro⟨y,x⟩ p b J ⟨z,rfl,vs,ws,j,k,m,B,o,i,r⟩
   cases B with
   |nil=>rw[List.zip_nil_left]at m;cases m
   |cons a t D=>
    cases o with
    |nil=>rw[List.zip_nil_right]at m;cases m
    |cons c u E=>
     rw[List.zip_cons_cons]at m
     injection m with K C
     injection K with V W
     subst V W
     rw[sY]at r
     simp only[K1]at i
     obtain⟨e,X,v⟩:=qB A.in1 ⟨F,g,d,G,os⟩ a t c u
     refine cc (X prog w _ _ ?_)
     cases e with
     |true=>
      rw[ME (v.mp rfl)]at r
      wp_walk
      exact⟨rfl,rfl,_,_,_,_,C,D,E,(),r⟩
     |false=>
      rw[MD (fun q=>absurd (v.mpr q) J9)]at r
      have L:=yN A.in1 ⟨F,g,d,G,os⟩ a t c u prog w
      wp_walk using L
      exact⟨_,rfl,‹r›⟩
  case fin=>
   rintro⟨b1,b2⟩ J ⟨z,rfl,vs,ws,j,k,m,B,o,i,r⟩
   simp only at z
   subst z
   have O:lexLt j k=decide (items.size<f.size):=by
    cases B with
    |nil=>
     cases o with
     |nil=>
      simp only[List.length_nil]at i
      rw[nF]
      exact(MF ()).symm
     |cons c u Y=>
      simp only[List.length_nil,K1]at i
      rw[lX]
      exact(MG ()).symm
    |cons a t O=>
     cases o with
     |nil=>
      simp only[List.length_nil,K1]at i
      rw[mY]
      exact(MF ()).symm
     |cons c u Y=>
      rw[List.zip_cons_cons]at m
      cases m
   rw[O]at r
   wp_walk
   exact⟨_,rfl,by simpa[Builtin.Tuple.tupleCompareSizes]using r⟩
  case h=>
   exact⟨rfl,rfl,items.toList,f.toList,ns,ms,rfl,M,N,(),h⟩
end
section
variable{prog:Jk}{w:JJ}{A:JP}{E:o_}{s:IS}
theorem iZ{l b:n7}{items a:Array IQ}{ns ms:pw}{Q:o_}(o:IsTup s.heap l items)(p:IsTup s.heap b a)(q:Lc items.toList ns)(r:Lc a.toList ms) (t:A.units<K0) (h:Q (.bool (lexLt ns ms)) s):J4 (Jf prog w) A (JD .Lt (.ref l) (.ref b)) Q E s:=by obtain⟨⟨cls,u,data,v⟩,j,k,n,hd⟩:=id o;obtain⟨⟨m,f,g,i⟩,c,d,y,e⟩:=id p;simp only at k hd d e;subst k hd d e;exact richCompare_meets_room (op:=.Lt) ⟨_,j,rfl⟩ ⟨_,c,rfl⟩ PySem.F.slot_tuple_lt PySem.F.entry_tuple_lt (PySem.F.args_tuple_lt_2 _ _) (nC l b items a n y u f v i ns ms q r) ⟨j,c,show Value.bool (lexLt ns ms)≠Value.notImplemented/\Q (.bool (lexLt ns ms)) s from⟨(fun x=>nomatch x),h⟩⟩ t
theorem AO{t b:n7}{vs ws:p4}{Q:o_}(r:IsTup s.heap t vs.toArray)(u:IsTup s.heap b ws.toArray)(k:vs≠[])
 (v:ws=[]->Q (.ref t) s) (x:ws≠[]->Q (.ref s.z) { s with heap:=s.heap.push { cls:=.type "tuple",data:=.seq (vs++ws).toArray } })
 (hsz:vs.length+ws.length<=J7):J4 (Jf prog w) A (KZ .Add (.ref t) (.ref b)) Q E s:=by
 obtain⟨⟨cls,l,data,m⟩,h,o,n,hd⟩:=id r
 obtain⟨⟨p,c,j,d⟩,a,f,q,g⟩:=id u
 simp only at o hd f g
 subst o hd f g
 have e:vs.toArray++ws.toArray=(vs++ws).toArray:=by simp
 by_cases i:ws=[]
 ·exact concat_meets ⟨_,h,rfl⟩ ⟨_,a,rfl⟩ noFill_tuple_add seq_tuple_add PySem.F.slot_tuple_add PySem.F.entry_tuple_add (PySem.F.args_tuple_add_2 _ _)
   (tuple_addW1 t b vs.toArray ws.toArray n q l c m d ‹k› (by simp[i])) ⟨h,a,v i⟩
 ·refine concat_meets ⟨_,h,rfl⟩ ⟨_,a,rfl⟩ noFill_tuple_add seq_tuple_add PySem.F.slot_tuple_add PySem.F.entry_tuple_add (PySem.F.args_tuple_add_2 _ _)
   (tuple_addW2 t b vs.toArray ws.toArray n q l c m d ‹k› ‹i› (by rw[Jd,Jd];exact hsz)) ⟨h,a,?_⟩
  rw[e]
  exact x i
def sIx(n d:Nat):qb->Nat
 |none=>d
 |some v=>if v<0 then(v+(n:Int)).toNat else min v.toNat n
theorem E2(n d:Nat)(hd:d<=n)(o:qb):sIx n d o<=n:=by
 cases o with
 |none=>exact hd
 |some v=>
  show(if v<0 then(v+(n:Int)).toNat else min v.toNat n)<=n
  by_cases a:v<0
  ·rw[ME a];omega
  ·rw[MD a];exact Nat.min_le_right _ _
theorem vp(v:Int)(n d:Nat):(if v<0 then max (v+(n:Int)) 0 else min v (n:Int))=((sIx n d (LZ v):Nat):Int):=by
 show(if v<0 then max (v+(n:Int)) 0 else min v (n:Int))=(((if v<0 then(v+(n:Int)).toNat else min v.toNat n):Nat):Int);by_cases a:v<0
 ·simp only[ME a];omega
 ·simp only[MD a];omega
theorem tS(a b:qb)(n:Nat):Builtin.Slice.sliceAdjust a b 1 (n:Int)=(((sIx n 0 a:Nat):Int),((sIx n n b:Nat):Int)):=by
 have c:¬((1:Int)<0):=()
 unfold Builtin.Slice.sliceAdjust;simp only[c,if_false];refine Prod.ext ?_ ?_
 ·cases a with
  |none=>rfl
  |some v=>exact vp v n 0
 ·cases b with
  |none=>rfl
  |some v=>exact vp v n n
theorem sR(i j:Nat):Builtin.Slice.slicePlaces (i:Int) (j:Int) 1=j-i:=by
 unfold Builtin.Slice.slicePlaces;have a:(1:Int)>0:=()
 simp only[a,if_true,Int.ediv_one];split<;>omega
theorem eE{v:IQ}{o:qb}{Q:qb->IS->Prop}(p:IsPart v o)(h:Q o s):J4 (Jf prog w) A (Builtin.Slice.slicePartIndex v) Q E s:=by
 cases p with
 |none=>exact slicePart_none h
 |int i t=>exact slicePart_int h
theorem jU{f:n7}{vl e:IQ}{a b:qb}{n:Nat}{Q:Int×Int×Nat->IS->Prop}(g:s.heap.IsSliceOf f vl e .none)(i:IsPart vl a)(j:IsPart e b)
 (h:Q (((sIx n 0 a:Nat):Int),1,sIx n n b-sIx n 0 a) s):J4 (Jf prog w) A (Lq (.ref f) (pure (n:Int))) Q E s:=by
 obtain⟨os,c,k,d⟩:=id g
 unfold Lq Builtin.Slice.sliceFields
 refine cc (cc (LD c d (x:=vl) rfl (cc (LD c d (x:=e) rfl (cc (LD c d (x:=.none) rfl (IU ?_)))))))
 refine cc (slicePart_none ?_)
 show J4 _ _ (if((1:Int)==0)=MB then _ else _) _ _ s
 rw[MD ⋯]
 refine cc (eE i (cc (eE j (cc (IU ?_)))))
 show J4 _ _ (match Builtin.Slice.sliceAdjust a b 1 (n:Int)with|(a,b)=>pure (a,(1:Int),Builtin.Slice.slicePlaces a b 1)) _ _ s
 rw[tS a b n]
 show J4 _ _ (pure (((sIx n 0 a:Nat):Int),(1:Int),Builtin.Slice.slicePlaces ((sIx n 0 a:Nat):Int) ((sIx n n b:Nat):Int) 1)) _ _ s
 rw[sR]
 exact IU h
theorem xH(xs:Array IQ)(i k:Nat):((J8 k).filterMap fun(m:Nat)=>xs[((i:Int)+(m:Int)*1).toNat]?).toArray=((xs.toList.drop i).take k).toArray:=by
 have e:(fun(m:Nat)=>xs[((i:Int)+(m:Int)*1).toNat]?)=fun m=>xs[i+m]?:=by
  funext m
  have:((i:Int)+(m:Int)*1).toNat=i+m:=()
  rw[this]
 rw[e];have:=pick_run xs i k;rw[List.filterMap_map]at this;have e2:((fun x=>xs[x]?)∘fun x=>i+x)=fun m=>xs[i+m]?:=rfl;rw[e2]at this;rw[this]
theorem jz{t e:n7}{items:Array IQ}{vl k:IQ}{b c:qb}{Q:o_}(d:IsTup s.heap t items)(l:s.heap.IsSliceOf e vl k .none)(n:IsPart vl b)(o:IsPart k c)
 (hw:¬(sIx items.size 0 b=0/\sIx items.size items.size c=items.size))
 (h:Q (.ref s.z) { s with heap:=s.heap.push { cls:=.type "tuple",data:=.seq ((items.toList.drop (sIx items.size 0 b)).take (sIx items.size items.size c-sIx items.size 0 b)).toArray } })
 (hsz:items.size<=J7):J4 (Jf prog w) A (getItem (.ref t) (.ref e)) Q E s:=by
 have a:sizeOk (.seq ((items.toList.drop (sIx items.size 0 b)).take (sIx items.size items.size c-sIx items.size 0 b)).toArray):=by
  show((items.toList.drop (sIx items.size 0 b)).take (sIx items.size items.size c-sIx items.size 0 b)).toArray.size<=J7
  rw[Jd,L3,List.length_drop,Array.length_toList]
  omega
 have r:sIx items.size items.size c<=items.size:=E2 _ _ (IY _) c
 obtain⟨os,f,g,p⟩:=id l
 have i:s.TypeIs (.ref e) "slice":=⟨os,f,g⟩
 unfold getItem
 try with_reducible refine K8 ?_
 first|refine cc (IU ?_)|skip
 refine cc (wpAny_sequenceKey d.typeIs ⋯ ?_)
 refine cc (KG (name:=Kp "__getitem__") d.typeIs Ka
  (L4 Ka d.typeIs entry_tuple_getitem ?_ (args_tuple_getitem _ _)))
 show J4 _ _ (Builtin.Tuple.tupleItemsOf (.ref t) >>= _) _ _ s
 refine cc (tupleItemsOf_ d ?_)
 refine cc (wpAny_typeOf i ?_)
 rw[ME ⋯]
 refine cc (jU l n o ?_)
 have j:¬((((sIx items.size 0 b:Nat):Int)==0&&(1:Int)==1&&(sIx items.size items.size c-sIx items.size 0 b)==items.size)=MB):=by
  intro q
  rw[Jp,Jp]at q
  have u:((sIx items.size 0 b:Nat):Int)=0:=eq_of_beq q.1.1
  have v:sIx items.size items.size c-sIx items.size 0 b=items.size:=eq_of_beq q.2
  exact hw ⟨(),()⟩
 show J4 _ _ (if(((sIx items.size 0 b:Nat):Int)==0&&(1:Int)==1&&(sIx items.size items.size c-sIx items.size 0 b)==items.size)=MB then _ else _) _ _ s
 rw[MD j,xH]
 first
  |exact cc (m:=K9 _) (Jy (IU ⟨_,rfl,IU h⟩) a)
  |exact cc (m:=K9 _) (Jy (cc (IU (IU ⟨_,rfl,IU h⟩))) a)
  |exact cc (cc (m:=K9 _) (Jy (IU (IU ⟨_,rfl,IU h⟩)) a))
  |exact cc (cc (m:=K9 _) (Jy (IU ⟨_,rfl,IU h⟩) a))
end
end HT
namespace L2
open PySem PySem.Spec PyProof.Rows
abbrev TO:=St->Hp->(qb->Hp->Prop)->Prop
def PO(X:Cx)(e:Option oT)(t:TO):Prop:=
 ∀(MN:pa) (s:IS) (σ:St) (H:Hp) (Q:qb->Hp->Prop),Inv X MN σ H s->t σ H Q->
  J4 (Jf X.prog X.w) X.A (evalPart e X.env) (fun u b=>∃o a,Inv X MN σ a b/\IsPart u o/\Q o a) X.xe s
def Bs:TO:=fun _ H Q=>Q MA H
def Fc(t:TE):TO:=fun σ H Q=>t σ H fun x H1=>∃i,x=.int i/\Q (LZ i) H1
theorem intsAre_of{ns:pw}:∀{us:p4},Vals (ns.map V.int) us->Lc us ns:=by
 induction ns with
 |nil=>intro us r;rw[Kh]at r;cases r;exact .nil
 |cons n ns a=>
  intro us r
  rw[J0]at r
  cases r with
  |cons b c=>
   obtain⟨t,e⟩:=b
   subst e
   exact .cons n t (a c)
section
variable{X:Cx}{e:oT}{te:TE}{lo hi:Option oT}{tl th:TO}{pos p2:Pos}
theorem Av:PO X MA Bs:=by intro MN s σ H Q I h;rw[evalPart_none];exact IU ⟨MA,H,I,.none,h⟩
theorem Bg(h:PE X e te):PO X (LZ e) (Fc te):=by intro MN s σ H Q I b;rw[evalPart_some];refine Mr (h MN s σ H _ I b) fun u g a=>?_;obtain⟨x,H1,c,d,f⟩:=a;obtain⟨i,rfl,q⟩:=f;obtain⟨t,rfl⟩:=d;exact⟨LZ i,H1,c,.int i t,q⟩
def Rf(X:Cx)(r:V->qb->qb->Hp->VK->Prop):Prop:=
 ∀(MN:pa) (s:IS) (σ:St) (H:Hp) (x:V) (v vl a:IQ) (lo hi:qb) (b:n7) (Q:VK),Inv X MN σ H s->RelV x v->s.heap.IsSliceOf b vl a .none->IsPart vl lo->IsPart a hi->r x lo hi H Q->
  ∃T id,typeLookup (.type T) "__getitem__"=pure (LZ (.builtin id))/\s.TypeIs v T/\J4 (Jf X.prog X.w) X.A (getItem v (.ref b)) (EP X MN σ Q) X.xe s
theorem Rf.or{r a:V->qb->qb->Hp->VK->Prop}(h:Rf X r)(h':Rf X a):Rf X (fun x lo hi H Q=>r x lo hi H Q\/a x lo hi H Q):=by
 intro MN s σ H x v vl b lo hi c Q I d f g i q;rcases q with q|q
 ·exact h MN s σ H x v vl b lo hi c Q I d f g i q
 ·exact h' MN s σ H x v vl b lo hi c Q I d f g i q
def Yo(r:V->qb->qb->Hp->VK->Prop)(te:TE)(tl th:TO):TE:=fun σ H Q=>te σ H fun x H1=>tl σ H1 fun l a=>th σ a fun u b=>r x l u b Q
theorem yC{r:V->qb->qb->Hp->VK->Prop}(i:Rf X r)(j:PE X e te)(k:PO X lo tl)(m:PO X hi th):PE X (.Subscript e (.Slice lo hi MA p2) pos) (Yo r te tl th):=by intro MN s σ H Q I h;refine Subscript_ (Mr (j MN s σ H _ I h) fun v n c=>?_);obtain⟨x,H1,o,p,t⟩:=c;refine wpAny_Slice (Mr (k MN n σ H1 _ o t) fun vl y ⟨l,z,B,C,D⟩=>Mr (m MN y σ z _ B D) fun f a d=>?_);obtain⟨u,g,E,F,G⟩:=d;rw[evalPart_none];refine IU ?_;have J:Inv X MN σ g { a with heap:=a.heap.push { cls:=.type "slice",data:=.fields #[vl,f,.none] } }:=E.kept (t':=a.toks) fun b N q=>IZ _ q;obtain⟨T,id,K,L,M⟩:=i MN { a with heap:=a.heap.push { cls:=.type "slice",data:=.fields #[vl,f,.none] } } σ g x v vl f l u a.z Q J p (Heap.IsSliceOf.new ..) C F G;show J4 (Jf X.prog X.w) X.A (subscriptTail e (.Slice lo hi MA p2) v (.ref a.z)) (EP X MN σ Q) X.xe { a with heap:=a.heap.push { cls:=.type "slice",data:=.fields #[vl,f,.none] } };exact tail_any (ops:=[.ref a.z,v]) L K M (by with_unfolding_all rfl)
def qj(xs:ro)(lo hi:qb):ro:=(xs.drop (HT.sIx xs.length 0 lo)).take (HT.sIx xs.length xs.length hi-HT.sIx xs.length 0 lo)
theorem kj(xs:ro)(lo hi:qb):(qj xs lo hi).length<=xs.length:=by unfold qj;rw[L3,List.length_drop];omega
def HR(K:I0):V->qb->qb->Hp->VK->Prop:=fun x lo hi H Q=>∃a xs,x=.ref a/\NB K H a xs/\
 ¬(HT.sIx xs.length 0 lo=0/\HT.sIx xs.length xs.length hi=xs.length)/\∀p,H p=MA->Q (.ref p) (upd H p (.tup (qj xs lo hi)))
theorem Ea:Rf X (HR X.K):=by
 intro MN s σ H x v vl p lo hi t Q I i j k l h;obtain⟨a,xs,rfl,m,n,q⟩:=h;cases i;obtain⟨d,r,f,g⟩:=I.tuple m;have c:d.toArray.size=xs.length:=by rw[Jd];exact r.length.symm
 refine⟨"tuple",_,Ka.lookup,f.typeIs,?_⟩;refine HT.jz f j k l (by rw[c];exact n) ?_ (by rw[c];exact g);rw[c];refine⟨.ref s.z,_,I.laid (t':=s.toks) (o:=.tup (qj xs lo hi)) (fun b u q=>IZ _ q) (IY _) ?_,rfl,q _ (I.hok.fresh (IY _))⟩;exact⟨K4 (kj xs lo hi) g,_,(r.drop (HT.sIx xs.length 0 lo)).take (HT.sIx xs.length xs.length hi-HT.sIx xs.length 0 lo),IsTup.new _ _,R3.new _ _⟩
def HY(K:I0):R2:=fun x y H Q=>∃a b ns c,x=.ref a/\y=.ref b/\NB K H a (ns.map V.int)/\NB K H b (c.map V.int)/\Q (.bl (HT.lexLt ns c)) H
theorem Ei(g:X.A.units<K0):NS X (JD .Lt) (HY X.K):=by intro MN s σ H x y v u Q I i j h;obtain⟨a,b,ns,f,rfl,rfl,k,l,q⟩:=h;cases i;cases j;obtain⟨d,m,n,_⟩:=I.tuple k;obtain⟨c,o,p2,_⟩:=I.tuple l;have p:Lc d.toArray.toList ns:=intsAre_of m;have r:Lc c.toArray.toList f:=intsAre_of o;exact HT.iZ n p2 p r g ⟨.bl (HT.lexLt ns f),H,I,rfl,q⟩
def FD(K:I0):R2:=fun x y H Q=>∃a b xs c,x=.ref a/\y=.ref b/\NB K H a xs/\NB K H b c/\xs≠[]/\xs.length+c.length<=J7/\
 (c=[]->Q (.ref a) H)/\(c≠[]->∀p,H p=MA->Q (.ref p) (upd H p (.tup (xs++c))))
theorem Vals.p8{xs:ro}{us:p4}(r:Vals xs us):us=[]↔xs=[]:=by
 cases r with
 |nil=>simp
 |cons _ _=>simp
theorem Bo:NS X (KZ .Add) (FD X.K):=by intro MN s σ H x y v u Q I i j h;obtain⟨a,b,xs,k,rfl,rfl,l,m,n,f,p,r⟩:=h;cases i;cases j;obtain⟨t,d,A,_⟩:=I.tuple l;obtain⟨g,c,p2,_⟩:=I.tuple m;refine HT.AO A p2 (fun z=>n (d.p8.mp z)) (fun z=>⟨.ref a,H,I,rfl,p (c.p8.mp z)⟩) (fun z=>?_) (by rw[<-d.length,<-c.length];exact f);refine⟨.ref s.z,_,I.laid (t':=s.toks) (o:=.tup (xs++k)) (fun b B q=>IZ _ q) (IY _) ?_,rfl,r (fun w=>z (c.p8.mpr w)) _ (I.hok.fresh (IY _))⟩;exact⟨by rw[Kg];exact f,_,d.append c,IsTup.new _ _,R3.new _ _⟩
end
def ixN(n:Nat)(i:Int):Option Nat:=if 0<=i then(if i<n then LZ i.toNat else MA)else if -(n:Int)<=i then LZ (i+n).toNat else MA
def atI{a:Type}(xs:List a)(i:Int):Option a:=(ixN xs.length i).bind fun j=>xs[j]?
theorem vG{n:Nat}{i:Int}{j:Nat}(h:ixN n i=LZ j):seqIndex? i n=LZ j/\j<n/\-(n:Int)<=i/\i<n:=by
 unfold ixN at h;by_cases b:0<=i
 ·rw[ME b]at h;by_cases a:i<n
  ·rw[ME a]at h;have e:i.toNat=j:=Option.some.inj h;exact⟨by rw[seqIndex_of b a,e],(),(),a⟩
  ·rw[MD a]at h;cases h
 ·rw[MD b]at h;by_cases a:-(n:Int)<=i
  ·rw[ME a]at h;have e:(i+n).toNat=j:=Option.some.inj h;exact⟨by rw[seqIndex_neg () a,e],(),a,()⟩
  ·rw[MD a]at h;cases h
theorem qd{a:Type}{xs:List a}{i:Int}{v:a}(h:atI xs i=LZ v):∃j,seqIndex? i xs.length=LZ j/\xs[j]?=LZ v/\j<xs.length/\-(xs.length:Int)<=i/\i<xs.length:=by
 unfold atI at h;cases e:ixN xs.length i with
 |none=>rw[e]at h;cases h
 |some j=>
  rw[e]at h
  obtain⟨b,c,d,f⟩:=vG e
  exact⟨j,b,h,c,d,f⟩
theorem cM{a:Type}{xs:List a}{j:Nat}{v:a}(h:xs[j]?=LZ v):atI xs (j:Int)=LZ v:=by
 have b:j<xs.length:=(J1.mp h).1;have e:ixN xs.length (j:Int)=LZ j:=by unfold ixN;rw[ME (),ME ()];simp
 unfold atI;rw[e];exact h
def pJ(b:oT):Prop:=∀o i,subscripted b MC o i=operate [o,i] (getItem o i)
def P9(X:Cx)(r:R2):Prop:=
 ∀(b a:oT) (MN:pa) (s:IS) (σ:St) (H:Hp) (x y:V) (v u:IQ) (Q:VK),Inv X MN σ H s->RelV x v->RelV y u->r x y H Q->
  subscripted a MC v u=operate [v,u] (getItem v u)->J4 (Jf X.prog X.w) X.A (subscriptTail b a v u) (EP X MN σ Q) X.xe s
def Y0(X:Cx)(id:String)(r:V->ro->Hp->VK->Prop):Prop:=
 ∀(MN:pa) (s:IS) (σ:St) (H:Hp) (x:V) (xs:ro) (v:IQ) (us:p4) (Q:VK),Inv X MN σ H s->RelV x v->Vals xs us->r x xs H Q->
  J4 (Jf X.prog X.w) X.A (call (.builtin id) (v::us)) (EP X MN σ Q) X.xe s
section
variable{X:Cx}{a b:oT}{ta tb:TE}{pos:Pos}
theorem P9.or{r e:R2}(h:P9 X r)(h':P9 X e):P9 X (fun x y H Q=>r x y H Q\/e x y H Q):=by
 intro c d MN s σ H x y v u Q I f g q i;rcases q with q|q
 ·exact h c d MN s σ H x y v u Q I f g q i
 ·exact h' c d MN s σ H x y v u Q I f g q i
theorem FY{r:R2}(c:P9 X r)(d:PE X a ta)(e:PE X b tb)(f:pJ b):PE X (.Subscript a b pos) (SF r ta tb):=by intro MN s σ H Q I h;exact Subscript_ (EL d e I h fun v u g x y i j k l q=>c a b MN g σ i x y v u Q j k l q (f _ _))
def FO(K:I0):R2:=fun x y H Q=>∃p xs i v,x=.ref p/\y=.int i/\ND K H p xs/\atI xs i=LZ v/\Q v H
def GZ(K:I0):R2:=fun x y H Q=>∃p xs i v,x=.ref p/\y=.int i/\NB K H p xs/\atI xs i=LZ v/\Q v H
def FZ:R2:=fun x y H Q=>∃z i c,x=.str z/\y=.int i/\z.length<=J7/\atI z.cps.toList i=LZ c/\Q (.str ⟨#[c]⟩) H
theorem Bn:P9 X (FO X.K):=by
 intro e f MN s σ H x y v u Q I B C h n;obtain⟨p,xs,i,z,rfl,rfl,D,E,q⟩:=h;cases B;obtain⟨t,rfl⟩:=C;obtain⟨g,r,k,N⟩:=I.list D;obtain⟨j,d,F,O,G,J⟩:=qd E;obtain⟨w,o,l⟩:=r.get F;have L:=r.length;have P:=j6;have c:EP X MN σ Q w s:=⟨z,H,I,l,q⟩;by_cases A:0<=i
 ·have m:i.toNat=j:=by rw[seqIndex_of A J]at d;exact Option.some.inj d
  exact item_listR k.isList A () (by rw[m];simpa using o) c n
 ·have m:(i+(g.toArray.size:Int)).toNat=j:=by rw[seqIndex_neg () G]at d;rw[Jd,<-L];exact Option.some.inj d
  exact subscriptTail_builtinR (x:=w) k.isList.typeIs slot_list_getitem.lookup (wpAny_getItem_list_neg (Q:=fun r M=>r=w/\EP X MN σ Q r M) k.isList () (by rw[Jd]<;>omega) () (by rw[m];simpa using o) ⟨rfl,c⟩) n
theorem Eo:P9 X (GZ X.K):=by intro c d MN s σ H x y v u Q I k l h m;obtain⟨p,xs,i,z,rfl,rfl,n,o,q⟩:=h;cases k;obtain⟨t,rfl⟩:=l;obtain⟨A,r,g,G⟩:=I.tuple n;obtain⟨j,B,C,J,L,M⟩:=qd o;obtain⟨w,D,e⟩:=r.get C;have E:=r.length;have N:=j6;have f:EP X MN σ Q w s:=⟨z,H,I,e,q⟩;exact subscriptTail_builtinR (x:=w) g.typeIs slot_tuple_getitem.lookup (getItem_tuple (j:=j) (Q:=fun r F=>r=w/\EP X MN σ Q r F) g () () (by rw[Jd,<-E];exact B) ‹D› ⟨rfl,f⟩) m
theorem EZ:P9 X FZ:=by
 intro d e MN s σ H x y v u Q I g k h l;obtain⟨z,i,c,rfl,rfl,w,m,q⟩:=h;obtain⟨t,rfl⟩:=g;obtain⟨A,rfl⟩:=k;obtain⟨j,f,n,B,o,p⟩:=qd m;have r:z.cps.toList.length=z.length:=by simp[Str.length]
 rw[r]at f o p;have C:=j6
 exact tail_any (typeIs_str s z t) slot_str_getitem.lookup (getItem_str (c:=c) (by
  have e1:decide (i < -(2^63:Int))=MC:=MF ()
  have e2:decide (i≥2^63)=MC:=MF ()
  rw[e1,e2,Bool.or_false]) (by rw[f];simpa using n) ⟨.str ⟨#[c]⟩,H,I.tok _,⟨_,rfl⟩,q⟩) l
def YS(K:I0):R2:=fun x y H Q=>FO K x y H Q\/GZ K x y H Q\/FZ x y H Q
theorem Ek:P9 X (YS X.K):=Bn.or (Eo.or EZ)
theorem tI(c:p4)(n j:Nat)(u:IQ):Obj.mapSeq (·.setIfInBounds j u) { cls:=.type "list",data:=.seq c.toArray n }={ cls:=.type "list",data:=.seq (c.set j u).toArray n }:=by simp[Obj.mapSeq]
theorem Inv.lst{MN:pa}{σ:St}{H:Hp}{s:IS}{p:n7}{xs:ro}(I:Inv X MN σ H s)(h:H p=LZ (.lst xs)) : ∃(c:p4) (n:Nat),Vals xs c/\s.heap.get? p=LZ { cls:=.type "list",data:=.seq c.toArray n }/\xs.length<=J7:=by obtain⟨z,c,n,r,e⟩:=I.hok p _ h;exact⟨c,n,r,e,z⟩
theorem Inv.EF{MN:pa}{σ:St}{H:Hp}{s:IS}{p:n7}{xs d:ro}{c its':p4}{n g:Nat}{f:Obj->Obj}(I:Inv X MN σ H s)(h:H p=LZ (.lst xs))
 (i:s.heap.get? p=LZ { cls:=.type "list",data:=.seq c.toArray n }) (hf:f { cls:=.type "list",data:=.seq c.toArray n }={ cls:=.type "list",data:=.seq its'.toArray g }) (r:Vals d its') (hz:d.length<=J7) (t:Nat) :
 Inv X MN σ (upd H p (.lst d)) { s with heap:=s.heap.update p f,toks:=t }:=by
 have e:(s.heap.update p f).get? p=LZ { cls:=.type "list",data:=.seq its'.toArray g }:=by
  rw[Kl f i (by rw[hf]<;>rfl),hf]
 refine I.write (x:=p) (e:=p) (by rw[h];trivial) (.inl rfl) (fun b u j q=>(JK _ _ (Ne.symm j)).trans q) ⟨_,e⟩ ?_
 exact⟨hz,its',g,r,e⟩
def Fg:V->V->V->Hp->(Hp->Prop)->Prop:=fun o i v H Q=>∃p xs k j,o=.ref p/\i=.int k/\H p=LZ (.lst xs)/\ixN xs.length k=LZ j/\Q (upd H p (.lst (xs.set j v)))
theorem set_list:Fo X Fg:=by
 intro MN s σ H o i v E F u Q I z A B h;obtain⟨p,xs,k,j,rfl,rfl,l,C,q⟩:=h;cases z;obtain⟨t,rfl⟩:=A;obtain⟨c,n,r,e,D⟩:=I.lst l;obtain⟨d,G,m,w⟩:=vG C;have f:=r.length;have J:=j6;have x:Inv X MN σ (upd H p (.lst (xs.set j v))) { s with heap:=s.heap.update p (Obj.mapSeq (·.setIfInBounds j u)) }:=I.EF l e (tI c n j u) (r.set B j) (by rw[List.length_set];exact D) s.toks;by_cases y:0<=k
 ·have g:k.toNat=j:=by rw[seqIndex_of y w]at d;exact Option.some.inj d
  exact PySem.W.ki_setAt e y () (by rw[Jd,<-f];exact w) (by rw[g];exact⟨_,x,q⟩)
 ·have g:(k+(c.toArray.size:Int)).toNat=j:=by rw[seqIndex_neg () m]at d;rw[Jd,<-f];exact Option.some.inj d
  exact PySem.W.ki_setBack e () (by rw[Jd,<-f];exact m) () (by rw[g];exact⟨_,x,q⟩)
theorem pT(c d:qb)(n:Nat):(sliceBounds c d MA n).1=((HT.sIx n 0 c:Nat):Int)/\(sliceBounds c d MA n).2.1=((HT.sIx n n d:Nat):Int)/\(sliceBounds c d MA n).2.2=1:=by
 refine⟨?_,?_,rfl⟩
 ·cases c with
  |none=>simp[sliceBounds,HT.sIx]
  |some i=>
   simp only[sliceBounds,HT.sIx,Option.getD_none,show(1:Int)>0 by decide,if_true]
   by_cases h:i<0
   ·simp only[h,if_true]<;>omega
   ·simp only[h,if_false]<;>omega
 ·cases d with
  |none=>simp[sliceBounds,HT.sIx]
  |some i=>
   simp only[sliceBounds,HT.sIx,Option.getD_none,show(1:Int)>0 by decide,if_true]
   by_cases h:i<0
   ·simp only[h,if_true]<;>omega
   ·simp only[h,if_false]<;>omega
theorem m9(c:p4)(d e:qb):slicePick c.toArray d e MA=((c.drop (HT.sIx c.length 0 d)).take (HT.sIx c.length c.length e-HT.sIx c.length 0 d)).toArray:=by obtain⟨f,g,h⟩:=pT d e c.toArray.size;unfold slicePick;rw[f,g,h];simp only[sliceRange_one,pick_run,Jd]<;>rfl
def HP(K:I0):V->qb->qb->Hp->VK->Prop:=fun x c d H Q=>∃a xs,x=.ref a/\ND K H a xs/\∀p,H p=MA->Q (.ref p) (upd H p (.lst (qj xs c d)))
theorem AM:Rf X (HP X.K):=by intro MN s σ H x v vl p d e t Q I g i j k h;obtain⟨a,xs,rfl,l,q⟩:=h;cases g;obtain⟨m,r,f,n⟩:=I.list l;have c:=r.length;refine⟨"list",_,slot_list_getitem.lookup,f.isList.typeIs,?_⟩;refine wpAny_getItem_list_slice f.isList i j k .none (by simp) ?_ (by rw[Jd]<;>omega);rw[m9,<-c];refine⟨.ref s.z,_,I.laid (t':=s.toks) (o:=.lst (qj xs d e)) (fun b u q=>IZ _ q) (IY _) ?_,rfl,q _ (I.hok.fresh (IY _))⟩;exact⟨K4 (kj xs d e) n,_,0,(r.drop (HT.sIx xs.length 0 d)).take (HT.sIx xs.length xs.length e-HT.sIx xs.length 0 d),J3 _ rfl⟩
theorem pQ:cg X (.builtin "len") (fun xs H Q=>∃p d,xs=[.ref p]/\(ND X.K H p d\/NB X.K H p d)/\Q (.int d.length) H):=by
 intro MN s σ H xs us Q I r h;obtain⟨p,d,rfl,e,q⟩:=h;obtain⟨u,rfl,j⟩:=vals1 r;cases j;have l:=j6;rcases e with e|e
 ·obtain⟨f,g,i,k⟩:=I.list e;have c:=g.length;exact Calls.call_len_list i.isList (by simp only[Jd]<;>omega) ⟨.int d.length,H,I.tok _,⟨s.toks+1,by rw[Jd,c]⟩,q⟩
 ·obtain⟨f,g,i,k⟩:=I.tuple e;have c:=g.length;exact len_tuple i (by simp only[Jd]<;>omega) ⟨.int d.length,H,I.tok _,⟨s.toks+1,by rw[Jd,c]⟩,q⟩
theorem cg.or{f:IQ}{r c:ro->Hp->VK->Prop}(h:cg X f r)(h':cg X f c):cg X f (fun xs H Q=>r xs H Q\/c xs H Q):=by
 intro MN s σ H xs us Q I d q;rcases q with q|q
 ·exact h MN s σ H xs us Q I d q
 ·exact h' MN s σ H xs us Q I d q
theorem p7:cg X (.type "list") (fun xs H Q=>∃p f,xs=[.ref p]/\(ND X.K H p f\/NB X.K H p f)/\∀l,H l=MA->Q (.ref l) (upd H l (.lst f))):=by
 intro MN s σ H xs us Q I r h;obtain⟨p,f,rfl,j,q⟩:=h;obtain⟨u,rfl,A⟩:=vals1 r;cases A;have k:∀(c:p4),Vals f c->f.length<=J7->∀(d:oa) (g:Nat),(∀b z,s.heap.get? b=LZ z->d.get? b=LZ z)->d.get? s.z=LZ { cls:=.type "list",dict:=MA,data:=.seq c.toArray g,slots:=#[] }->EP X MN σ Q (.ref s.z) { s with heap:=d }:=fun c i m d g kp e=>⟨.ref s.z,_,I.laid (t':=s.toks) kp (IY _) (show cP X.prog X.w _ d _ (.lst f)from⟨m,c,g,i,e⟩),rfl,q _ (I.hok.fresh (IY _))⟩;rcases j with j|j
 ·obtain⟨c,i,v,m⟩:=I.list j;have t:=i.length;obtain⟨o,x,y,n,hd⟩:=v.isList;exact call_list_seq p (.inl rfl) x y hd (fun d g kp e=>k c i m d g kp e) (by simp only[Jd]<;>omega)
 ·obtain⟨c,i,v,m⟩:=I.tuple j;have t:=i.length;obtain⟨o,x,y,n,hd⟩:=v;exact call_list_seq p (.inr rfl) x y hd (fun d g kp e=>k c i m d g kp e) (by simp only[Jd]<;>omega)
theorem nH:cg X (.type "tuple") (fun xs H Q=>∃p d,xs=[.ref p]/\((ND X.K H p d/\∀l,H l=MA->Q (.ref l) (upd H l (.tup d)))\/(NB X.K H p d/\Q (.ref p) H))):=by
 intro MN s σ H xs us Q I r h;obtain⟨p,d,rfl,h⟩:=h;obtain⟨u,rfl,t⟩:=vals1 r;cases t;rcases h with⟨g,q⟩|⟨g,q⟩
 ·obtain⟨c,i,j,k⟩:=I.list g;have m:=i.length;refine call_tuple_list j.isList (fun f kp=>?_) (by simp only[Jd]<;>omega);have n:Inv X MN σ H { s with heap:=f }:=I.kept (t':=s.toks) kp;have v:Inv X MN σ (upd H f.objs.size (.tup d)) { s with heap:=f.push { cls:=.type "tuple",data:=.seq c.toArray } }:=n.laid (t':=s.toks) (fun b o e=>IZ _ e) (IY _) (show cP X.prog X.w _ _ _ (.tup d)from⟨k,c,i,IsTup.new _ _,R3.new _ _⟩);exact⟨.ref f.objs.size,_,v,rfl,q _ (n.hok.fresh (IY _))⟩
 ·obtain⟨c,i,j,k⟩:=I.tuple g;exact call_tuple_same j ⟨.ref p,H,I,rfl,q⟩
def YN(K:I0)(T:String)(x:V)(H:Hp):Prop:=match x with
 |.str _=>T="str"
 |.int _=>T="int"
 |.ref p=>(T="list"/\∃xs,ND K H p xs)\/(T="tuple"/\∃o,K.lookup p=LZ o/\o.cls=.type "tuple"/\o.dict=MA)\/
  (T="dict"/\((∃kvs,H p=LZ (.dK kvs))\/∃kvs,H p=LZ (.dT kvs)))\/(T="set"/\∃S n,H p=LZ (.set S n))
 |_=>False
theorem DM{MN:pa}{σ:St}{H:Hp}{s:IS}{T:String}{x:V}{v:IQ}(I:Inv X MN σ H s)(r:RelV x v)(ty:YN X.K T x H) : s.TypeIs v T/\∀a,v=.ref a->∃f,s.heap.get? a=LZ f/\f.dict=MA:=by
 cases x with
 |str z=>
  obtain⟨t,rfl⟩:=r
  cases (show T="str" from ty)
  exact⟨typeIs_str s z t,fun _ e=>nomatch e⟩
 |int i=>
  obtain⟨t,rfl⟩:=r
  cases (show T="int" from ty)
  exact⟨typeIs_int s i t,fun _ e=>nomatch e⟩
 |ref p=>
  cases r
  rcases ty with⟨rfl,xs,h⟩|⟨rfl,o,d,j,hd⟩|⟨rfl,d⟩|⟨rfl,S,n,d⟩
  ·obtain⟨k,_,g,_⟩:=I.list h;refine⟨g.isList.typeIs,fun a e=>?_⟩;cases e;obtain⟨o,n,e,c,hd,_⟩:=g;exact⟨o,e,hd⟩
  ·refine⟨⟨o,I.kIn p o d,j⟩,fun a e=>?_⟩;cases e;exact⟨o,I.kIn _ o d,hd⟩
  ·have z:∃o,s.heap.get? p=LZ o/\o.ExactDict:=by
    rcases d with⟨kvs,d⟩|⟨kvs,d⟩
    ·obtain⟨_,_,_,_,o,_,_,e,ex,_⟩:=I.hok p _ d;exact⟨o,e,ex⟩
    ·obtain⟨_,_,_,_,o,_,_,e,ex,_⟩:=I.hok p _ d;exact⟨o,e,ex⟩
   obtain⟨o,e,ex⟩:=z;refine⟨⟨o,e,ex.1⟩,fun a e2=>?_⟩;cases e2;exact⟨o,e,ex.2.1⟩
  ·obtain⟨o,_,_,_,e,ex,_⟩:=I.hok p _ d;refine⟨⟨o,e,ex.1⟩,fun a e2=>?_⟩;cases e2;exact⟨o,e,ex.2.1⟩
 |_=>exact Js ty
def Yr(K:I0)(T:String)(r:V->ro->Hp->VK->Prop)(c:TE)(t:TA):TE:=fun σ H Q=>c σ H fun x H1=>YN K T x H1/\t σ H1 fun xs d=>r x xs d Q
variable{o e:oT}{es:ra}{to:TE}{t:TA}{name:Str}{apos bC:Pos}{T id:String}{r:V->ro->Hp->VK->Prop}
theorem B9(p:PlainAttrs T)(slot:Slot T name id)(k:typeOf (.builtin id)=pure (.type "method_descriptor"))(q:Y0 X id r)(u:PE X o to)(w:PA X (e::es) t)
 (g:attributeBase o name X.env (eval o X.env)=eval o X.env:=by rfl)
 (j:((Kr bC (Je (e::es) X.env)).all (fun x=>!x.1)&&(backToKw bC (LF [] X.env)).all (fun x=>x.1.isSome)
  && decide ((e::es).length+([]:List Keyword).length+(if([]:List Keyword).isEmpty then 0 else 1)<30))=MB:=by rfl)
 (i:(apos.endLine==bC.line)=MB:=by rfl) (y:Je (e::es) X.env=(MC,eval e X.env)::Je es X.env:=by rfl) (c:(Kr bC (Je es X.env)).any (·.1)=MC:=by rfl) :
 PE X (.Call (.Attribute o name apos) (e::es) [] bC) (Yr X.K T r to t):=by
 intro MN s σ H Q I h
 refine wpAny_Call_method_late g j i rfl (Mr (u MN s σ H _ I h) fun v z d=>?_)
 obtain⟨x,H1,l,m,ty,A⟩:=d
 obtain⟨B,C⟩:=DM l m ty
 refine⟨T,id,p,slot,k,B,C,?_⟩
 have n:=w bC MN z σ H1 _ l A
 rw[y]at n ⊢
 refine Calls.callWith_builtin (by show(MC||(Kr bC (Je es X.env)).any (·.1))=MC;rw[c]<;>rfl) (Calls.evalArgs_plain ?_)
 exact Mr n fun us D f=>by obtain⟨vs,E,F,G,J⟩:=f;exact(q MN D σ E x vs v us Q F m G J)
/- xs.append(e),list.index on a module's tuple .. are Y0 facts of 06m -/
end
def YJ(X:Cx)(id:String)(r:V->ro->Hp->VK->Prop):Prop:=
 ∀(MN:pa) (s:IS) (σ:St) (H:Hp) (x:V) (xs:ro) (v:IQ) (us:p4) (Q:VK),Inv X MN σ H s->RelV x v->Vals xs us->r x xs H Q->
  J4 (Jf X.prog X.w) X.A (call (.builtin id) (v::us)) (EP X MN σ Q) X.xe s
theorem Vals.one:∀{x:V} {us:p4},Vals [x] us->∃u,us=[u]/\RelV x u:=by
 intro x us h;cases h with
 |cons r t=>cases t;exact⟨_,rfl,r⟩
theorem Vals.two:∀{x y:V} {us:p4},Vals [x,y] us->∃u v,us=[u,v]/\RelV x u/\RelV y v:=by
 intro x y us h;cases h with
 |cons r t=>
  cases t with
  |cons q n=>cases n;exact⟨_,_,rfl,r,q⟩
theorem Vals.rep{xs:ro}{us:p4}(h:Vals xs us):∀k:Nat,Vals (Ju k xs).flatten (Ju k us).flatten
 |0=>.nil
 |k+1=>by
  rw[Kq,Kq,KN,KN]
  exact Vals.append h (Vals.rep h k)
theorem foldl_rep(a:p4):∀(k:Nat) (b:p4),
 List.foldl (fun x1 c=>x1++c) b.toArray (Ju k a.toArray)=(b++(Ju k a).flatten).toArray
 |0,b=>by simp
 |k+1,b=>by
  have e:b.toArray++a.toArray=(b++a).toArray:=by simp
  have e2:(b++a)++(Ju k a).flatten=b++(Ju (k+1) a).flatten:=by
   rw[Kq,KN,LG]
  rw[<-e2,<-foldl_rep a k (b++a),<-e,Kq,Ld]
section
variable{X:Cx}{MN:pa}{σ:St}{H:Hp}{s:IS}{l b:n7}{xs ys zs:ro}
theorem Inv.Gr{a its':p4}{n:Nat}{f:Array IQ->Array IQ}{t':Nat}(I:Inv X MN σ H s)(c:H l=LZ (.lst xs))
 (e:s.heap.get? l=LZ { cls:=.type "list",data:=.seq a.toArray n }) (hf:f a.toArray=its'.toArray) (d:Vals ys its') (hz:ys.length<=J7) :
 Inv X MN σ (upd H l (.lst ys)) { s with heap:=s.heap.update l (Obj.mapSeq f),toks:=t' }:=by
 have q:=PySem.IsL.update e f
 rw[hf]at q
 refine I.write (x:=l) (e:=l) (by rw[c];exact trivial) (.inl rfl) (fun i u g h=>(JK s.heap (Obj.mapSeq f) (Ne.symm g)).trans h) ⟨_,q⟩ ?_
 exact⟨hz,its',_,d,q⟩
theorem Inv.Hj{a:p4}{t':Nat}(I:Inv X MN σ H s)(c:Vals ys a)(hz:ys.length<=J7) : Inv X MN σ (upd H s.z (.lst ys)) { s with heap:=s.heap.push { cls:=.type "list",data:=.seq a.toArray },toks:=t' }:=I.laid (fun _ _ q=>IZ _ q) (IY _) ⟨hz,a,0,c,J3 _ rfl⟩
theorem Inv.fresh(I:Inv X MN σ H s):H s.z=MA:=I.hok.fresh (IY _)
theorem Inv.ph(I:Inv X MN σ H s)(c:H l=LZ (.lst xs)):xs.length<=J7/\∃(a:p4) (n:Nat),Vals xs a/\xs.length=a.length/\s.heap.get? l=LZ { cls:=.type "list",data:=.seq a.toArray n }:=by obtain⟨z,a,n,r,e⟩:=I.hok l _ c;exact⟨z,a,n,r,r.length,e⟩
theorem xt{n:Nat}(h:n<=J7):Builtin.List.listTooLong n=MC:=by unfold Builtin.List.listTooLong;exact MF ()
end
section
variable{X:Cx}
def By:V->ro->Hp->VK->Prop:=fun x vs H Q=>∃l xs y,x=.ref l/\vs=[y]/\H l=LZ (.lst xs)/\xs.length<J7/\Q .non (upd H l (.lst (xs++[y])))
theorem jR:YJ X "list.append" By:=by intro MN s σ H x vs v us Q I c d h;obtain⟨l,xs,y,rfl,rfl,b,g,q⟩:=h;cases c;obtain⟨u,rfl,f⟩:=d.one;obtain⟨z,a,n,r,i,e⟩:=I.ph b;refine call_meets F.slot_list_append ⟨_,e,rfl⟩ F.entry_list_append (F.args_list_append_2 _ _) (PySem.list_append l a.toArray n u (by rw[Jd];omega)) ⟨e,?_⟩;refine⟨.non,_,I.Gr (its':=a++[u]) b e (by simp) (r.append (.cons f .nil)) ?_,rfl,q⟩;rw[Kg,List.length_singleton];omega
def Ie:R2:=fun x y H Q=>∃l b xs a,x=.ref l/\y=.ref b/\H l=LZ (.lst xs)/\H b=LZ (.lst a)/\xs.length+a.length<=J7/\∀p,H p=MA->Q (.ref p) (upd H p (.lst (xs++a)))
theorem Ec:NS X (KZ .Add) Ie:=by
 intro MN s σ H x y v u Q I d f h;obtain⟨l,b,xs,m,rfl,rfl,g,i,o,q⟩:=h;cases d;cases f;obtain⟨z,c,n,r,p,e⟩:=I.ph g;obtain⟨t,a,w,j,k,e2⟩:=I.ph i;refine PySem.P.add_list e e2 ?_ (by rw[Jd,Jd];omega);have ea:c.toArray++a.toArray=(c++a).toArray:=by simp
 rw[ea];exact⟨.ref _,_,I.Hj (t':=s.toks) (r.append j) (by rw[Kg];omega),rfl,q _ I.fresh⟩
def IE:R2:=fun x y H Q=>∃l k xs,x=.ref l/\y=.int k/\H l=LZ (.lst xs)/\-(2^63)<=k/\k<2^63/\xs.length*k.toNat<=J7/\
 ∀p,H p=MA->Q (.ref p) (upd H p (.lst (Ju k.toNat xs).flatten))
theorem len_rep{a:Type}(xs:List a)(k:Nat):(Ju k xs).flatten.length=k*xs.length:=by
 induction k with
 |zero=>simp
 |succ k b=>rw[Kq,KN,Kg,b,Nat.succ_mul,Nat.add_comm]
theorem D6:NS X (KZ .Mult) IE:=by
 intro MN s σ H x y v u Q I p w h;obtain⟨l,k,xs,rfl,rfl,A,B,C,o,q⟩:=h;cases p;obtain⟨t,rfl⟩:=w;obtain⟨z,b,n,r,D,e⟩:=I.ph A;have d:b.toArray.size*k.toNat<=J7:=by rw[Jd,<-D];exact o
 have f:¬b.toArray.size*k.toNat>(2^63-1)/8:=by
  have:(J7:Nat)<=(2^63-1)/8:=⋯
  omega
 have g:¬(!Builtin.List.listFitsIndex k)=MB:=by rw[fitsIndex_both B C];exact J9
 have c:¬Builtin.List.listTooLong (b.toArray.size*k.toNat)=MB:=by rw[xt d];exact J9
 have i:List.foldl (fun x1 j=>x1++j) #[] (Ju (if b.toArray.isEmpty=MB then 0 else k.toNat) b.toArray)=(Ju k.toNat b).flatten.toArray:=by
  have E:∀m:Nat,List.foldl (fun x1 j=>x1++j) #[] (Ju m b.toArray)=(Ju m b).flatten.toArray:=fun m=>by
   have:=foldl_rep b m []
   rw[List.nil_append]at this
   exact this
  rw[E]
  cases b with
  |nil=>simp
  |cons a J=>rw[MD (by simp)]
 refine wpAny_binaryOp_repeat_ref (T:="list") (U:="int") ⋯ ⟨_,e,rfl⟩ (fun G=>typeIs_int G k t) noFill_list_mul F.fills_int_mul F.slot_int_rmul repeat_list F.slot_int_index.lookup
  (call_meets F.slot_int_rmul (typeIs_int s k t) F.entry_int_rmul (F.args_int_rmul_2 _ _) (int___rmul___int_list k t l b.toArray n)
   ⟨e,rfl,⟨_,e,rfl⟩,call_meets F.slot_list_mul ⟨_,e,rfl⟩ F.entry_list_mul (F.args_list_mul_2 _ _) (AutoListH.list___mul___list_int_3 l b.toArray n k t g f c) ⟨e,?_⟩⟩)
 rw[i];exact⟨.ref _,_,I.Hj (t':=s.toks) (r.rep k.toNat) (by rw[len_rep,Nat.mul_comm];exact o),rfl,q _ I.fresh⟩
end
end L2
namespace Att
open PySem PySem.W PySem.Calls PyProof.Rows
theorem kR{P:Jo}{h:oa}:∀(ns:pw) (vs:p4),WellAll P h vs (ns.map WData.int)->Lc vs ns:=by
 intro ns
 induction ns with
 |nil=>
  intro vs w
  rw[Kh]at w
  cases w
  exact .nil
 |cons n ns c=>
  intro vs w
  rw[J0]at w
  cases w with
  |cons a b=>
   cases a
   exact .cons _ _ (c _ b)
theorem wC{l:OpenLaw}{n:Nat}(o:l.most=LZ n){P:Jo}{h:oa}{args:List WData}{b:p4}
 (c:l.row.toRowW.claim.pre args=MB) (j:WellAll P h b args) :
 ∃a vs ns,b=[Kc a]/\args=[WData.list (ns.map WData.int)]/\h.get? a=LZ { cls:=.type "list",data:=.seq vs.toArray }/\Lc vs ns/\ns.length<=n:=by
 have k:WShape.hasAll [] args [.list .int]=MB:=(pre_splitW c).1
 have m:l.pre.holds [] { args:=args }=MB:=(pre_splitW c).2
 obtain⟨d,r,rfl,p,s⟩:=hasAllW_cons k
 obtain rfl:=hasAllW_nil s
 obtain⟨xs,rfl,t⟩:=hasW_list p
 obtain⟨ns,rfl⟩:=items_int t
 have e:ns.length<=n:=by
  unfold OpenLaw.pre at m
  have g:(WTm.not (.lt (.lit (.int (n:Int))) (.len (.arg 0)))).holds [] { args:=[.list (ns.map .int)] }=MB:=by
   have g:=(holds_andW m).1
   rw[o]at g
   exact g
  have i:=condW_of g (w_not (w_lt w_lit (w_len_list (w_arg rfl))))
  rw[IV]at i
  refine Nat.le_of_not_lt fun q=>?_
  have u:(n:Int)<((ns.length:Nat):Int):=()
  first
   |(rw[MG u]at i;exact absurd i ⋯)
   |(simp at i;omega)
 cases j with
 |cons v w=>
  cases w
  cases v with
  |list x f=>exact⟨_,_,ns,rfl,rfl,x,kR ns _ f,e⟩
theorem wI(l:OpenLaw)(args:List WData):l.row.toRowW.claim.post args (.bool MB) args=MB:=
 postW_of (r:=l.row.toRowW) (X:=(MB==MB))
  (show WShape.has [] (.bool MB) .bool=MB by first|rfl|decide|simp[WShape.has,WShape.arms,WShape.armsAll])
  (show(WTm.eq .res (.lit (.bool MB))).value [] { args:=args,res:=LZ (.bool MB),after:=args }=LZ (.bool (MB==MB))from w_eq_bool (w_res rfl) w_lit) rfl
theorem qX{l:OpenLaw}{n:Nat}{q:Jk}{c:rf}{y:(pd)->oa->Prop}{z:JJ->oa->Prop}{d:DefRec}
 (D:l.most=LZ n) (p:d.params.defaults=[])
 (call:∀(w:JJ) (s₀ b:IS) (mg s:pd) (fa:n7) (o:Obj) (t k e:IQ) (a:n7) (vs:p4) (ns:pw),
  Ground q c [] y w s₀ mg s b.heap->z w b.heap->
  b.heap.get? fa=LZ o->o.data=.func (docDef d.name d.params d.body d.scope t k e)->b.heap.CodeRec k d.name->mg d.name=LZ (.ref fa)->
  b.heap.get? a=LZ { cls:=.type "list",data:=.seq vs.toArray }->Lc vs ns->ns.length<=n->b.gens=#[]->
  Lb (Jf l.prog w) callerA (.call (.ref fa) ⟨[.ref a],[]⟩) (fun r m=>r=.ok (.ret (.bool MB))/\OldK b.heap m.heap/\m.os=b.os/\AllBare m.gens) b) :
 WalkO q c y z l.row.toRowW d [] (fun f vs=>PySem.call f vs):=by
 intro w s₀ b mg s G Y fa o t k e E kV F hd u A v H args B P h C I x J
 obtain rfl:E=.none:=Dflts.none A p
 obtain rfl:kV=.none:=Dflts.noKw A
 obtain⟨a,vs,ns,rfl,rfl,i,g,j⟩:=wC D h x
 refine enter_call (codeAny_mono (call w s₀ b mg s fa o t k e a vs ns G Y F (fd_plain hd) u v i g j H) fun r m K=>?_)
 obtain⟨rfl,L,M,N⟩:=K
 exact⟨.inl ⟨.bool MB,.bool MB,[],rfl,fun _=>rfl,.bool MB,wI l _,fun _=>⟨List.Pairwise.nil,fun _ O=>(nomatch O)⟩⟩,L,M,N⟩
section
variable{prog:Jk}{w:JJ}{A:JP}{E:o_}{s:IS}{K:Frag}
end
end Att
namespace L2
open PySem PySem.Spec PyProof.Rows
theorem ot:∀{vs:p4} {ns:pw},Lc vs ns->Vals (ns.map V.int) vs
 |_,_,.nil=>.nil
 |_,_,.cons n t h=>.cons ⟨t,rfl⟩ (ot h)
def ED(H:Hp):Prop:=∀b,H b=MA\/∃o xs,H b=LZ (.frz o (.lst xs))
theorem zV{P:Jk}{w:JJ}{K:I0}{mg L:pd}{CX:Qk}{k:Nat}{fa a:n7}{fd:LW}{x:Str}{sp:Sp}{c:IS}{vs:p4}{ns:pw}
 (T:K.In c.heap) (y:c.heap.Ns LC mg) (g:c.heap.Ns builtinsNs L) (M:∀x:Str,x≠"__name__"->L x=JT x) (A:c.heap.NoLimit) (hg:c.gens=#[])
 (J:c.heap.get? a=LZ { cls:=.type "list",data:=.seq vs.toArray }) (U:Lc vs ns) (W:ns.length<=J7) (hr:NF k callerA)
 (F:∀base:oa,K.In base->base.Ns LC mg->N9 P w K mg base CX k fa fd [x] sp) (t:∀(s:IS) (u:IQ),BindsTo s fd ⟨[u],[]⟩ [(x,u)])
 (N:∀H:Hp,ED H->ND K H a (ns.map V.int)->sp [.ref a] H (fun v _=>v=.bl MB) fun _ _ _=>False)
 (O:∀H e i,CX [] H c (fun _ _ _=>False) e i->False) :
 Lb (Jf P w) callerA (.call (.ref fa) ⟨[.ref a],[]⟩) (fun r i=>r=.ok (.ret (.bool MB))/\OldK c.heap i.heap/\i.os=c.os/\AllBare i.gens) c:=by
 have X:=ot U
 have B:=U.length
 have p:∀H:Hp,ED H->ND K H a (ns.map V.int)->N8 P w H c.heap->(∀b,H b≠MA->b=a)->(H a≠MA->K.lookup a=MA)->
  Lb (Jf P w) callerA (.call (.ref fa) ⟨[.ref a],[]⟩) (fun r i=>r=.ok (.ret (.bool MB))/\OldK c.heap i.heap/\i.os=c.os/\AllBare i.gens) c:=by
  intro H Y hS hok Z hK
  have f:∀{b:n7} {o:Obj},c.heap.get? b=LZ o->H b=MA->(oR c.heap H).get? b=LZ o:=fun e n=>yG e n
  have Q:∀{b:n7} {o:Obj} {C:Array K3} {D:Nat},c.heap.get? b=LZ o->o.data=.dict C D->H b=MA:=fun{b o C D} e d=>by
   cases q:H b with
   |none=>rfl
   |some u=>
    have R:b=a:=Z b (by rw[q];simp)
    subst R
    rw[J]at e;cases e
    have d':Data.seq vs.toArray _=Data.dict C D:=d
    cases d'
  have j:∀{b:n7} {m:pd},c.heap.Ns b m->(oR c.heap H).Ns b m:=fun{b m} l=>by obtain⟨o,C,D,e,d,r⟩:=l;exact(⟨o,C,D,f e (Q e d),d,r⟩)
  have E:K.In (oR c.heap H):=fun b o e=>f (T b o e) (by
   cases q:H b with
   |none=>rfl
   |some u=>
    have R:b=a:=Z b (by rw[q];simp)
    subst R
    rw[hK (by rw[q];simp)]at e;cases e)
  have hM:Mod K mg (oR c.heap H):=⟨E,j y,⟨L,j g,M⟩,let⟨mc,h1,h2⟩:=A;⟨mc,j h1,h2⟩⟩
  have e0:Qz P w K mg (oR c.heap H) callerA [] c H:=⟨rfl,hM,fun b o e=>Am e,Nat.le_of_eq (wN _ _),trivial,fun b g=>absurd (show b∈([]:rb)from g) (by simp),hok,.of_eq hg⟩
  refine codeAny_mono ((F _ E (j y)).run callerA [] c H ⟨[.ref a],[]⟩ [.ref a] [.ref a] _ _ hr e0 (t c (.ref a)) (.cons rfl .nil) (N H Y hS)) fun r i h=>?_
  cases r with
  |error e=>exact(O H e i h).elim
  |ok fl=>
   cases fl with
   |next=>exact Js h
   |brk=>exact Js h
   |cont=>exact Js h
   |ret u=>
    obtain⟨v,H',os,bare,un,G,r',q⟩:=h
    have q':v=.bl MB:=q
    subst q'
    obtain rfl:u=Value.bool MB:=r'
    refine⟨rfl,OldK.of_keep fun b o e=>?_,os,bare⟩
    cases q:H b with
    |none=>exact un.keep b o e q (by intro z;exact absurd (show b∈([]:rb)from z) (by simp)) (by simp)
    |some u=>
     rcases Y b with z|⟨ob,xs,z⟩
     ·rw[q]at z;cases z
     ·have z2:=un.frzs b ob _ z
      obtain⟨e1,_⟩:=hok b _ z
      obtain⟨e2,_⟩:=G b _ z2
      rw[e]at e1;cases e1
      exact e2
 cases S:K.lookup a with
 |some o=>
  have e:=T a o S
  rw[J]at e
  cases e
  refine p (fun _=>MA) (fun _=>.inl rfl) (.inr ⟨_,vs.toArray,_,S,rfl,rfl,rfl,by rw[Jd,B];exact W,‹X›⟩) (fun b u z=>by have I:(MA:Option HO)=LZ u:=z;cases I) (fun b z=>absurd rfl z) fun z=>absurd rfl z
 |none=>
  refine p (fun b=>if b=a then LZ (.frz { cls:=.type "list",data:=.seq vs.toArray } (.lst (ns.map V.int)))else MA) (fun b=>?_) (.inl (.inr ⟨{ cls:=.type "list",data:=.seq vs.toArray },ME rfl⟩)) (fun b u z=>?_) (fun b z=>?_) fun _=>S
  ·by_cases g:b=a
   ·exact .inr ⟨_,_,ME g⟩
   ·exact .inl (MD g)
  ·by_cases g:b=a
   ·have I:=(ME g).symm.trans z
    cases I
    subst g
    exact⟨J,by rw[IV];exact W,vs,_,X,J⟩
   ·have I:=(MD g).symm.trans z
    cases I
  ·by_cases g:b=a
   ·exact g
   ·exact absurd (MD g) z
abbrev KOf{K:I0}{h:oa}(_:K.In h):I0:=K
theorem AK{l:PySem.W.OpenLaw}{n k:Nat}{q:Jk}{i:rf}{E:(pd)->oa->Prop}{C:JJ->oa->Prop}{d:DefRec}{K:Jo->I0}{CX:JJ->Qk}{sp:JJ->Sp}{x:Str}
 (I:l.most=LZ n) (r:n<=J7) (t:d.params.defaults=[]) (J:NF k callerA)
 (L:∀(w:JJ) (h:oa),C w h->(K w.params).In h)
 (F:∀(w:JJ) (mg:pd) (fa:n7) (h:oa),(K w.params).In h->h.Ns LC mg->mg d.name=LZ (.ref fa)->
  ∃fd:LW,(∀(s:IS) (u:IQ),BindsTo s fd ⟨[u],[]⟩ [(x,u)])/\
   ∀base:oa,(K w.params).In base->base.Ns LC mg->N9 l.prog w (K w.params) mg base (CX w) k fa fd [x] (sp w))
 (y:∀(w:JJ) (H:Hp) (a:n7) (ns:pw),ns.length<=n->ED H->ND (K w.params) H a (ns.map V.int)->sp w [.ref a] H (fun v _=>v=.bl MB) fun _ _ _=>False)
 (z:∀(w:JJ) (H:Hp) (s:IS) (e:IQ) (A:IS),CX w [] H s (fun _ _ _=>False) e A->False) :
 PySem.W.WalkO q i E C l.row.toRowW d [] (fun f vs=>PySem.call f vs):=by
 refine Att.qX I t fun w s₀ m mg S fa o U X M a vs ns G Y Z hd N B p j c O=>?_
 have D:=L w _ Y
 obtain⟨fd,P,hF⟩:=F w mg fa _ D G.T.g B
 exact zV D G.T.g G.T.b G.T.builtins G.T.nolimit O p j (K4 c r) J hF P (fun H Q R=>y w H a ns c Q R) fun H e A=>z w H m e A
def cL(s:n_):Arguments:=match s with
 |.FunctionDef _ a _ _ _ _ _ _ _ _=>a
 |_=>{ posonlyargs:=[],args:=[],vararg:=MA,kwonlyargs:=[],kw_defaults:=[],kwarg:=MA,defaults:=[] }
def br(s:n_):q_:=match s with
 |.FunctionDef _ _ b _ _ _ _ _ _ _=>b
 |_=>[]
def av(s:n_):Lp:=match s with
 |.FunctionDef _ _ _ _ _ _ sc _ _ _=>sc
 |_=>{ kind:=.function,names:=[],isGenerator:=MC,isCoroutine:=MC }
abbrev Ow:Qk:=fun _ _ _ _ _ _=>False
abbrev E0:XK:=fun _ _ _=>False
theorem FL{X:Cx}:Passes Ow X E0:=fun _ _ _ _ _ _ _ h=>h.elim
structure Rh(K:I0)(x qual:Str)(st:n_)(f:n7)(fd:LW):Prop where
 ex:∃(oc:IQ) (od:Option n7) (kV doc pm:IQ) (an:Option n7) (cdv ct:IQ) (osl:Array (p_)),
  fd=Kv x qual (cL st) (br st) (av st) .none kV doc pm an cdv ct/\K.lookup f=LZ ⟨oc,od,.func fd,osl⟩/\PySem.W.codeIn K cdv qual=MB
 kp:PySem.W.keepIn K (.ref f)=MB
section
variable{P:Jk}{w:JJ}{K:I0}{mg:pd}{base:oa}
theorem Rh.ok{x qual:Str}{st:n_}{f:n7}{fd:LW}{N ps:rf}{k:Nat}{sp:Sp}(F:Rh K x qual st f fd)(S:Ml N ps (av st))(len:∀vs H Q E,sp vs H Q E->vs.length=ps.length)
 (a:∀(cdv:IQ) (A:JP) (outer:List Env) (s:IS) (H:Hp) (vs:ro) (Q:VK) (E:XK),NF k (A.deeper (envOfC qual (av st) s.z f cdv))->sp vs H Q E->
  ∃t,Ov (jY Ow P w K mg base N qual (av st) f cdv A outer s H E).nox (br st) t/\t { nx:=fun _ d=>Q .non d,rt:=Q } (start N vs) H):N9 P w K mg base Ow (k+1) f fd ps sp:=by
 obtain⟨oc,od,kV,e,j,an,cdv,ct,osl,rfl,g,b⟩:=F.ex
 refine Hd g b S len fun A outer s H vs Q E i c=>?_
 obtain⟨t,h,q⟩:=a cdv A outer s H vs Q E i c
 exact⟨t,h.nox,q⟩
theorem Rh.binds{x qual:Str}{st:n_}{f:n7}{fd:LW}{ps:rf}(F:Rh K x qual st f fd) (h:∀(kV a b:IQ) (an:Option n7) (cdv ct:IQ) (us:p4),us.length=ps.length->bindArgs (Kv x qual (cL st) (br st) (av st) .none kV a b an cdv ct) ⟨us,[]⟩=pure (ps.zip us)):Binds K fd ps []:=by obtain⟨oc,od,kV,a,b,an,cdv,ct,osl,rfl,d,c⟩:=F.ex;exact .all (h kV a b an cdv ct)
theorem Dq{x qual:Str}{st:n_}{f:n7}{oc:IQ}{od an:Option n7}{osl:Array (p_)}{kV a b cdv ct:IQ}(l:K.lookup f=LZ ⟨oc,od,.func (Kv x qual (cL st) (br st) (av st) .none kV a b an cdv ct),osl⟩) (c:PySem.W.codeIn K cdv qual=MB) (k:PySem.W.keepIn K (.ref f)=MB):Rh K x qual st f (Kv x qual (cL st) (br st) (av st) .none kV a b an cdv ct):=⟨⟨oc,od,kV,a,b,an,cdv,ct,osl,rfl,l,c⟩,k⟩
end
theorem DR{A B:Prop}(h:A):if MB=MB then A else B:=by rw[ME rfl];exact h
theorem bP{c A B:Prop}[Decidable c](a:c->A)(b:¬c->B):if c then A else B:=by
 by_cases h:c
 ·rw[ME h];exact a h
 ·rw[MD h];exact b h
section
variable{κ:Type}[DecidableEq κ]
def fy(kvs:List (κ×V))(k:κ):Option V:=(kvs.find? fun a=>decide (a.1=k)).map (·.2)
def putK(kvs:List (κ×V))(k:κ)(v:V):List (κ×V):=
 if(kvs.any fun a=>decide (a.1=k))=MB then kvs.map (fun a=>if a.1=k then(a.1,v)else a)else kvs++[(k,v)]
theorem cC{p:κ×V}{r:List (κ×V)}{k:κ}(e:p.1=k):fy (p::r) k=LZ p.2:=by simp[fy,Jw,e]
theorem cB{p:κ×V}{r:List (κ×V)}{k:κ}(e:¬p.1=k):fy (p::r) k=fy r k:=by simp[fy,Jw,e]
theorem ez(k:κ):∀kvs:List (κ×V),(kvs.any fun a=>decide (a.1=k))=(fy kvs k).isSome
 |[]=>rfl
 |p::r=>by
  rw[Lk]
  by_cases e:p.1=k
  ·simp only[cC e,MG e,Bool.true_or,Option.isSome_some]
  ·rw[cB e,MF e,Bool.false_or];exact ez k r
theorem rz(k j:κ)(y:V):∀kvs:List (κ×V),fy (kvs.map fun a=>if a.1=k then(a.1,y)else a) j=(fy kvs j).map fun x=>if j=k then y else x
 |[]=>rfl
 |p::r=>by
  have b:=rz k j y r
  rw[J0]
  by_cases h:p.1=k
  ·rw[ME h]
   by_cases e:p.1=j
   ·rw[cC (p:=(p.1,y)) e,cC e,Option.map_some,ME (e.symm.trans h)]
   ·rw[cB (p:=(p.1,y)) e,cB e,b]
  ·rw[MD h]
   by_cases e:p.1=j
   ·rw[cC (p:=p) e,cC e,Option.map_some,MD (fun z=>h (e.trans z))]
   ·rw[cB (p:=p) e,cB e,b]
theorem og(k j:κ)(y:V):∀kvs:List (κ×V),fy kvs k=MA->fy (kvs++[(k,y)]) j=if j=k then LZ y else fy kvs j
 |[],_=>by
  by_cases e:k=j
  ·rw[ME e.symm];exact cC (p:=(k,y)) e
  ·rw[MD (fun z=>e z.symm)];exact cB (p:=(k,y)) e
 |p::r,hn=>by
  rw[List.cons_append]
  have a:¬p.1=k:=fun z=>by rw[cC z]at hn;cases hn
  rw[cB a]at hn
  have b:=og k j y r hn
  by_cases e:p.1=j
  ·rw[cC e,cC e,MD (fun z=>a (e.trans z))]
  ·rw[cB e,cB e,b]
theorem yp(kvs:List (κ×V))(k j:κ)(y:V):fy (putK kvs k y) j=if j=k then LZ y else fy kvs j:=by
 unfold putK;by_cases a:(kvs.any fun b=>decide (b.1=k))=MB
 ·rw[ME a,rz];rw[ez]at a;by_cases e:j=k
  ·obtain⟨x,c⟩:=Option.isSome_iff_exists.mp a;rw[ME e,e,c,Option.map_some,ME rfl]
  ·rw[MD e];cases fy kvs j with
   |none=>rfl
   |some x=>rw[Option.map_some,MD e]
 ·rw[MD a];refine og k j y kvs ?_;rw[ez]at a;cases q:fy kvs k with
  |none=>rfl
  |some x=>rw[q]at a;exact(a rfl).elim
theorem gr(kvs:List (κ×V))(k:κ)(v:V):(putK kvs k v).length<=kvs.length+1:=by
 unfold putK;split
 ·rw[IV];omega
 ·rw[Kg,K1,List.length_nil];omega
theorem wo.jJ{o:Option V}{u:p_}(r:wo o u):o.isSome=u.isSome:=by
 cases o with
 |none=>cases u with
  |none=>rfl
  |some _=>exact(show False from r).elim
 |some _=>cases u with
  |none=>exact(show False from r).elim
  |some _=>rfl
theorem KV.val{kvs:List (κ×V)}{vs:List (κ×IQ)}(r:KV kvs vs)(k:κ):wo (fy kvs k) (valueAt vs k):=by
 unfold KV at r
 induction r with
 |nil=>exact LL
 |@cons p q ps qs h t ih=>
  obtain⟨c,d⟩:=h
  by_cases e:p.1=k
  ·have a:q.1=k:=c.symm.trans e;have b:valueAt (q::qs) k=LZ q.2:=by simp[valueAt,Jw,a]
   rw[cC e,b];exact d
  ·have a:¬q.1=k:=fun z=>e (c.trans z);have b:valueAt (q::qs) k=valueAt qs k:=by simp[valueAt,Jw,a]
   rw[cB e,b];exact ih
theorem KV.any{kvs:List (κ×V)}{vs:List (κ×IQ)}(r:KV kvs vs)(k:κ):(kvs.any fun a=>decide (a.1=k))=vs.any fun a=>decide (a.1=k):=by
 unfold KV at r
 induction r with
 |nil=>rfl
 |cons h t b=>rw[Lk,Lk,b,h.1]
theorem KV.CG{kvs:List (κ×V)}{vs:List (κ×IQ)}(r:KV kvs vs)(k:κ){y:V}{u:IQ}(c:RelV y u) :
 KV (kvs.map fun a=>if a.1=k then(a.1,y)else a) (vs.map fun a=>if a.1=k then(a.1,u)else a):=by
 unfold KV at r ⊢
 induction r with
 |nil=>exact .nil
 |@cons p q ps qs h t ih=>
  rw[J0,J0]
  refine .cons ?_ ih
  obtain⟨b,d⟩:=h
  by_cases e:p.1=k
  ·rw[ME e,ME (b.symm.trans e)];exact⟨b,c⟩
  ·rw[MD e,MD (fun z=>e (b.trans z))];exact⟨b,d⟩
theorem KV.put{kvs:List (κ×V)}{vs:List (κ×IQ)}(r:KV kvs vs)(k:κ){y:V}{u:IQ}(a:RelV y u):KV (putK kvs k y) (stored vs k u):=by
 unfold putK stored;rw[r.any k];by_cases e:(vs.any fun b=>decide (b.1=k))=MB
 ·rw[ME e,ME e];exact r.CG k a
 ·rw[MD e,MD e];exact Paired.snoc r ⟨rfl,a⟩
theorem KV.length{kvs:List (κ×V)}{vs:List (κ×IQ)}(r:KV kvs vs):kvs.length=vs.length:=Paired.length r
end
theorem xj{P:Jk}{w:JJ}{k:Key}{u:IQ}(r:RelV (kV k) u):(cx P w).is k u=MB:=by
 cases k with
 |inl i=>obtain⟨t,e⟩:=(show ∃t,u=Value.int i t from r);subst e;exact qU P w i t
 |inr x=>obtain⟨t,e⟩:=(show ∃t,u=Value.str x t from r);subst e;exact rP P w x t
theorem oh{P:Jk}{w:JJ}:∀{ks:List Key} {us:p4},Vals (ks.map kV) us->ItemsAre (cx P w) ks us
 |[],_,r=>by rw[Kh]at r;cases r;exact .nil
 |k::ks,_,r=>by
  rw[J0]at r
  cases r with
  |cons h t=>exact .cons (xj h) (oh t)
abbrev KT(H:Hp):List (List Key×V)->List (List Key×n7×IQ)->Prop:=LX fun p q=>p.1=q.1/\H q.2.1=LZ (.tup (p.1.map kV))/\RelV p.2 q.2.2
theorem KT.val{H:Hp}{kvs:List (List Key×V)}{xs:List (List Key×n7×IQ)}(r:KT H kvs xs)(k:List Key):wo (fy kvs k) ((atKey xs k).map (·.2)):=by
 induction r with
 |nil=>exact LL
 |@cons p q ps qs h t ih=>
  obtain⟨c,_,d⟩:=h
  by_cases e:p.1=k
  ·have a:q.1=k:=c.symm.trans e;have b:atKey (q::qs) k=LZ q.2:=by simp[atKey,Jw,a]
   rw[cC e,b];exact d
  ·have a:¬q.1=k:=fun z=>e (c.trans z);have b:atKey (q::qs) k=atKey qs k:=by simp[atKey,Jw,a]
   rw[cB e,b];exact ih
theorem KT.CG{H:Hp}{kvs:List (List Key×V)}{xs:List (List Key×n7×IQ)}(r:KT H kvs xs)(k:List Key){y:V}{u:IQ}(d:RelV y u) :
 KT H (kvs.map fun b=>if b.1=k then(b.1,y)else b) (xs.map (putAt k u)):=by
 induction r with
 |nil=>exact .nil
 |@cons p q ps qs h t ih=>
  rw[J0,J0]
  refine .cons ?_ ih
  obtain⟨a,c,f⟩:=h
  unfold putAt
  by_cases e:p.1=k
  ·rw[ME e,ME (a.symm.trans e)];exact⟨a,c,d⟩
  ·rw[MD e,MD (fun z=>e (a.trans z))];exact⟨a,c,f⟩
theorem KT.put{H:Hp}{kvs:List (List Key×V)}{xs:List (List Key×n7×IQ)}(r:KT H kvs xs)(k:List Key){b:n7}{y:V}{u:IQ}(c:H b=LZ (.tup (k.map kV)))(a:RelV y u) :
 KT H (putK kvs k y) (storedH xs k b u):=by
 have e:(kvs.any fun d=>decide (d.1=k))=(atKey xs k).isSome:=by
  rw[ez,(r.val k).jJ,Option.isSome_map]
 unfold putK storedH
 rw[e]
 by_cases q:(atKey xs k).isSome=MB
 ·rw[ME q,ME q];exact r.CG k a
 ·rw[MD q,MD q];exact Paired.snoc r ⟨rfl,c,a⟩
theorem KT.keeps{H a:Hp}{kvs:List (List Key×V)}{xs:List (List Key×n7×IQ)}(r:KT H kvs xs)(d:∀b c,H b=LZ (.tup c)->a b=LZ (.tup c)):KT a kvs xs:=Paired.GV r fun _ _ z=>⟨z.1,d _ _ z.2.1,z.2.2⟩
section
variable{P:Jk}{w:JJ}{H:Hp}{h:oa}{a:n7}
theorem B7{u:HO}(ok:N8 P w H h)(e:Rd H a u):cP P w H h a u:=e.ok ok
theorem B4{kvs:List (Key×V)}(ok:N8 P w H h)(e:Rd H a (.dK kvs)):kvs.length<=J7/\(a==Ky)=MC/\∃vs,KV kvs vs/\h.DictOf (cx P w) a vs:=show cP P w H h a (.dK kvs)from B7 ok e
theorem GP{kvs:List (Key×V)}(ok:N8 P w H h)(e:H a=LZ (.dK kvs)):kvs.length<=J7/\(a==Ky)=MC/\∃vs,KV kvs vs/\h.DictOf (cx P w) a vs:=B4 ok (.inl e)
theorem uc{ks:List Key}(ok:N8 P w H h)(e:H a=LZ (.tup (ks.map kV))):(tupleKind (cx P w)).is h ks a:=by obtain⟨_,b,r,⟨o,c,d,n,f⟩,_⟩:=(show cP P w H h a (.tup (ks.map kV))from ok a _ e);exact⟨o,b.toArray,n,c,d,f,‹oh r›⟩
theorem Ce{kvs:List (List Key×V)}(ok:N8 P w H h)(e:Rd H a (.dT kvs)):kvs.length<=J7/\(a==Ky)=MC/\
 ∃xs,KT H kvs xs/\h.DictOfH (tupleKind (cx P w)) a xs:=by
 obtain⟨z,y,xs,r,o,c,d,f,g,i,j,k⟩:=(show cP P w H h a (.dT kvs)from B7 ok e)
 refine⟨z,y,xs,r,o,c,d,f,g,i,j,fun x b=>?_,k⟩
 have all:∀{l:List (List Key×V)} {m:List (List Key×n7×IQ)},KT H l m->∀x∈m,(tupleKind (cx P w)).is h x.1 x.2.1:=by
  intro l m q
  induction q with
  |nil=>intro x b;exact nomatch b
  |@cons p q ps qs hq t ih=>
   intro x b
   rcases Jx.mp b with e|b
   ·subst e
    exact uc ok (by rw[<-hq.1];exact hq.2.1)
   ·exact ih x b
 exact all r x b
theorem FR{kvs:List (List Key×V)}(ok:N8 P w H h)(e:H a=LZ (.dT kvs)):kvs.length<=J7/\(a==Ky)=MC/\∃xs,KT H kvs xs/\h.DictOfH (tupleKind (cx P w)) a xs:=Ce ok (.inl e)
end
def D1(H:Hp)(a:n7)(y:V)(r:Option V):Prop:=
 (∃kvs k,Rd H a (.dK kvs)/\y=kV k/\r=fy kvs k)\/∃kvs k b,Rd H a (.dT kvs)/\y=.ref b/\H b=LZ (.tup (k.map kV))/\r=fy kvs k
def F5(H:Hp)(a:n7)(y v:V)(c:Hp):Prop:=
 (∃kvs k,H a=LZ (.dK kvs)/\y=kV k/\kvs.length<J7/\c=upd H a (.dK (putK kvs k v)))\/
 ∃kvs k b,H a=LZ (.dT kvs)/\y=.ref b/\H b=LZ (.tup (k.map kV))/\kvs.length<J7/\c=upd H a (.dT (putK kvs k v))
section
variable{X:Cx}{MN:pa}{σ:St}{H:Hp}{s:IS}{a:n7}{y v:V}{u r:IQ}{o:Option V}{A:JP}{E:o_}
theorem Inv.big(I:Inv X MN σ H s):Ky<s.z:=by have h:LC<s.z:=(I.mod.glob.keeps I.bk).lt;exact Nat.lt_trans ⋯ h
theorem Bf{Q:o_}(m:A.units+1<K0)(I:Inv X MN σ H s)(g:D1 H a y o)(i:RelV y u)(h:∀j,Inv X MN σ H j->Q (.bool (!o.isSome)) j) : J4 (Jf X.prog X.w) A (JD .NotIn u (.ref a)) Q E s:=by
 rcases g with⟨kvs,k,e,d,l⟩|⟨kvs,k,b,e,d,eb,l⟩
 ·subst d;obtain⟨z,hd,vs,c,f⟩:=B4 I.hok e;refine wpAny_notIn_of (xj i) hd f.mapOf ?_;rw[<-(c.val k).jJ,<-l];exact h _ (I.tok _)
 ·subst d;cases (show u=Kc b from i);obtain⟨z,hd,xs,c,f⟩:=Ce I.hok e;refine wpAny_notIn_heap (tupleKind_room_in1 m) (uc I.hok eb) hd f ?_;have q:=(c.val k).jJ;rw[Option.isSome_map]at q;rw[<-q,<-l];exact h _ (I.tok _)
theorem jq{h':oa}{t':Nat}{c:HO}(I:Inv X MN σ H s)(d:Vw (H a))(f:L6 a s.heap h')(g:∃q,h'.get? a=LZ q)(new:cP X.prog X.w (upd H a c) h' a c) : Inv X MN σ (upd H a c) { s with heap:=h',toks:=t' }:=I.write (x:=a) (e:=a) d (.inl rfl) (fun b q h z=>(f.2 b h).trans z) g new
theorem EG{P:Jk}{w:JJ}{c:Hp}{h':oa}{kvs:List (Key×V)}{vs:List (Key×IQ)}(z:kvs.length<=J7)(hd:(a==Ky)=MC)(b:KV kvs vs)(d:h'.DictOf (cx P w) a vs) : cP P w c h' a (.dK kvs):=⟨z,hd,vs,b,d⟩
theorem wD{B:Hp}{Q:Unit->IS->Prop}(K:A.units+1<K0)(I:Inv X MN σ H s)(g:F5 H a y v B)(C:RelV y u)(D:RelV v r)(h:∀F,Inv X MN σ B F->Q .unit F) : J4 (Jf X.prog X.w) A (setItem (.ref a) u r) Q E s:=by
 rcases g with⟨kvs,k,e,j,l,m⟩|⟨kvs,k,b,e,j,eb,l,m⟩
 ·subst j m;obtain⟨z,hd,vs,d,n⟩:=GP I.hok e;have p:vs.length<=J7:=by rw[<-d.length];exact z
  have t:(putK kvs k v).length<=J7:=by have:=gr kvs k v;omega
  refine wpAny_setItem_pairs (hsz:=p) (xj C) n fun G f x=>h _ ?_;have L:∃q,G.get? a=LZ q:=let⟨q,_,_,i,_⟩:=f;⟨q,i⟩
  exact jq I (by rw[e];exact LL) x L (EG t hd (d.put k D) f)
 ·subst j m;cases (show u=Kc b from C);obtain⟨z,hd,xs,d,n⟩:=FR I.hok e;have p:xs.length<=J7:=by rw[<-Paired.length d];exact z
  have t:(putK kvs k v).length<=J7:=by have:=gr kvs k v;omega
  refine wpAny_setItem_heap (hsz:=p) (tupleKind_room_in1 K) (uc I.hok eb) n fun G f x=>h _ ?_;obtain⟨q,M,N,i,O,P,R,_,S⟩:=f;refine jq I (by rw[e];exact LL) x ⟨q,i⟩ ⟨t,hd,_,(d.put k eb D).keeps fun c T J=>?_,q,M,N,i,O,P,R,S⟩;rw[aZ (GW J e (fun z=>nomatch z))];exact J
end
def Fz(i:oT):Prop:=∀a b,subscripted i MC a b=operate [a,b] (getItem a b)
def A6(ty c:TE):TE:=fun σ H Q=>ty σ H fun y H1=>c σ H1 fun x b=>∃a o,x=.ref a/\D1 b a y o/\Q (.bl (!o.isSome)) b
def Fu(c ty d:TE):TS:=fun D σ H=>d σ H fun v H1=>c σ H1 fun x e=>ty σ e fun y f=>∃a b,x=.ref a/\F5 f a y v b/\D.nx σ b
section
variable{X:Cx}{o i e value:oT}{pos pos' MR:Pos}{td ty tv:TE}
theorem wU(b:X.A.units+1<K0)(c:PE X i ty)(d:PE X o td):PC X .NotIn i o (A6 ty td):=by intro MN s σ H Q I h;refine Mr (c MN s σ H _ I h) fun v f ⟨y,H1,j,k,l⟩=>Mr (d MN f σ H1 _ j l) fun u w ⟨x,m,n,p,a,q,ex,g,r⟩=>?_;subst ex;obtain rfl:u=Kc a:=p;exact Bf b n g k fun z t=>⟨.bl (!q.isSome),m,t,rfl,r⟩
theorem Aq(b:X.A.units+1<K0)(c:PE X o td)(d:PE X i ty)(f:PE X value tv)(j:Lo value (LZ (.Subscript o i pos')) pos.line X.env=pure MC) : PS X (.Assign [.Subscript o i pos'] value pos) (Fu td ty tv):=by intro MN s σ H D I h;refine wpAny_Assign_Subscript (Mr (f MN s σ H _ I h) fun r k ⟨v,H1,l,m,n⟩=>Mr (c MN k σ H1 _ l n) fun u p ⟨x,q,t,w,z⟩=>Mr (d MN p σ q _ t z) fun J K ⟨y,L,B,C,a,E,ex,g,F⟩=>?_) j;subst ex;obtain rfl:u=Kc a:=w;exact wD b B g C m fun M G=>⟨σ,E,G,F⟩
end
theorem yA{P:Jk}{w:JJ}{H:Hp}(h:oa)(a:Ky<h.objs.size):cP P w H (h.push { cls:=.type "dict",data:=.dict #[] }) h.objs.size (.dK []):=⟨Kf _,beq_eq_false_iff_ne.mpr (Ne.symm (JB a)),[],.nil,Heap.DictOf.new h⟩
def Ds:TE:=fun _ H Q=>∀p,H p=MA->Q (.ref p) (upd H p (.dK []))
section
variable{X:Cx}{pos:Pos}
theorem zE:PE X (.Dict [] [] pos) Ds:=fun MN s σ H Q I h=>wpAny_Dict_empty ⟨.ref s.z,_,I.laid (a:=s.z) (o:=.dK []) (t':=s.toks) (fun _ _ q=>IZ _ q) (IY _) (yA s.heap I.big),rfl,h _ (I.hok.fresh (IY _))⟩
end
end L2
namespace SD
theorem AA{c:Type}{l:List c}(h:l.length=1):∃a,l=[a]:=by
 cases l with
 |nil=>cases h
 |cons a l=>
  cases l with
  |nil=>exact⟨a,rfl⟩
  |cons b l=>cases h
theorem DN{b:Type}{n:Nat}{l:List b}(h:l.length=n+1):∃a r,l=a::r/\r.length=n:=by
 cases l with
 |nil=>cases h
 |cons a l=>exact⟨a,l,rfl,Nat.succ.inj h⟩
theorem xy{c:Type}{l:List c}(h:l.length=2):∃a b,l=[a,b]:=by obtain⟨a,r,rfl,d⟩:=DN h;obtain⟨b,rfl⟩:=AA d;exact⟨a,b,rfl⟩
theorem Hl{d:Type}{l:List d}(h:l.length=3):∃a b c,l=[a,b,c]:=by obtain⟨a,r,rfl,e⟩:=DN h;obtain⟨b,c,rfl⟩:=xy e;exact⟨a,b,c,rfl⟩
theorem Ii{e:Type}{l:List e}(h:l.length=4):∃a b c d,l=[a,b,c,d]:=by obtain⟨a,r,rfl,f⟩:=DN h;obtain⟨b,c,d,rfl⟩:=Hl f;exact⟨a,b,c,d,rfl⟩
open PySem PySem.Spec PyProof.Rows L2
inductive D where
 |non|bl (b:Bool)|int (i:Int)|str (x:Str)|ty (n:String)|ref (a:n7)|rol (ds:List D)|tup (ds:List D)
abbrev _root_.r3(g:Nat):SD.D:=.int (g:Int)
abbrev _root_.ry:=Option D
abbrev _root_.rx:=List D
abbrev _root_.rv:=List (ry)
def Rx(K:I0)(H:Hp)(a:n7)(xs:ro):Prop:=
 (∃o,H a=LZ (.frz o (.lst xs)))\/
  ∃(o:Obj) (b:Array IQ) (n:Nat),K.lookup a=LZ o/\o.cls=.type "list"/\o.dict=MA/\o.data=.seq b n/\b.size<=J7/\Vals xs b.toList
theorem Rx.sql{K:I0}{H:Hp}{a:n7}{xs:ro}(h:Rx K H a xs):ND K H a xs:=by
 rcases h with h|h
 ·exact .inl (.inr h)
 ·exact .inr h
mutual
def Rep(K:I0)(H:Hp):D->V->Prop
 |.non,v=>v=.non
 |.bl b,v=>v=.bl b
 |.int i,v=>v=.int i
 |.str x,v=>v=.str x
 |.ty n,v=>v=.ty n
 |.ref a,v=>v=.ref a
 |.rol ds,v=>∃a xs,v=.ref a/\Rx K H a xs/\aG K H ds xs
 |.tup ds,v=>∃a xs,v=.ref a/\NB K H a xs/\aG K H ds xs
def aG(K:I0)(H:Hp):rx->ro->Prop
 |[],xs=>xs=[]
 |d::ds,xs=>∃x r,xs=x::r/\Rep K H d x/\aG K H ds r
end
structure Mp(K:I0)(H H':Hp):Prop where
 t:∀a xs,NB K H a xs->NB K H' a xs
 f:∀a xs,Rx K H a xs->Rx K H' a xs
theorem Mp.refl{K:I0}{H:Hp}:Mp K H H:=⟨fun _ _ h=>h,fun _ _ h=>h⟩
theorem Mp.trans{K:I0}{H H1 c:Hp}(a:Mp K H H1)(b:Mp K H1 c):Mp K H c:=⟨fun x y h=>b.t x y (a.t x y h),fun x y h=>b.f x y (a.f x y h)⟩
theorem Mp.put{K:I0}{H:Hp}{p:n7}{o:HO}(c:∀xs,H p≠LZ (.tup xs))(b:∀u xs,H p≠LZ (.frz u xs)):Mp K H (upd H p o):=by
 refine⟨fun a xs h=>?_,fun a xs h=>?_⟩
 ·rcases h with(h|⟨u,h⟩)|h
  ·exact .inl (.inl (by rw[aZ (by intro e;subst e;exact c _ h)];exact h))
  ·exact .inl (.inr ⟨u,by rw[aZ (by intro e;subst e;exact b _ _ h)];exact h⟩)
  ·exact .inr h
 ·rcases h with⟨u,h⟩|h
  ·exact .inl ⟨u,by rw[aZ (by intro e;subst e;exact b _ _ h)];exact h⟩
  ·exact .inr h
theorem Mp.new{K:I0}{H:Hp}{p:n7}{o:HO}(h:H p=MA):Mp K H (upd H p o):=.put (fun xs e=>by rw[h]at e;cases e) (fun u xs e=>by rw[h]at e;cases e)
theorem Mp.lst{K:I0}{H:Hp}{p:n7}{o:HO}{xs:ro}(h:H p=LZ (.lst xs)):Mp K H (upd H p o):=.put (fun a e=>by rw[h]at e;cases e) (fun u a e=>by rw[h]at e;cases e)
mutual
theorem Rep.mono{K:I0}{H i:Hp}(g:Mp K H i):∀{d:D} {v:V},Rep K H d v->Rep K i d v
 |.non,_,h=>h
 |.bl _,_,h=>h
 |.int _,_,h=>h
 |.str _,_,h=>h
 |.ty _,_,h=>h
 |.ref _,_,h=>h
 |.rol ds,_,h=>by
  rw[Rep]at h ⊢
  obtain⟨a,xs,e,b,c⟩:=h
  exact⟨a,xs,e,g.f _ _ b,aG.mono g c⟩
 |.tup ds,_,h=>by
  rw[Rep]at h ⊢
  obtain⟨a,xs,e,b,c⟩:=h
  exact⟨a,xs,e,g.t _ _ b,aG.mono g c⟩
theorem aG.mono{K:I0}{H b:Hp}(g:Mp K H b):∀{a:rx} {xs:ro},aG K H a xs->aG K b a xs
 |[],_,h=>h
 |d::a,_,h=>by
  rw[aG]at h ⊢
  obtain⟨x,r,e,c,f⟩:=h
  exact⟨x,r,e,Rep.mono g c,aG.mono g f⟩
end
section
variable{K:I0}{H H':Hp}
theorem aG.nil:aG K H [] []:=by rw[aG]
theorem aG.cons{d:D}{c:rx}{x:V}{r:ro}(a:Rep K H d x)(b:aG K H c r):aG K H (d::c) (x::r):=by rw[aG];exact⟨x,r,rfl,a,b⟩
theorem aG.length:∀{a:rx} {xs:ro},aG K H a xs->a.length=xs.length
 |[],xs,h=>by rw[aG]at h;subst h;rfl
 |d::a,xs,h=>by
  rw[aG]at h
  obtain⟨x,r,rfl,_,b⟩:=h
  simp[aG.length b]
theorem aG.get:∀{a:rx} {xs:ro} {i:Nat} {d:D},aG K H a xs->a[i]?=LZ d->∃x,xs[i]?=LZ x/\Rep K H d x
 |[],_,_,_,_,e=>by simp at e
 |_::_,xs,0,_,h,e=>by
  rw[aG]at h
  obtain⟨x,r,rfl,b,_⟩:=h
  simp at e;subst e
  exact⟨x,rfl,b⟩
 |_::a,xs,i+1,d,h,e=>by
  rw[aG]at h
  obtain⟨x,r,rfl,_,c⟩:=h
  simpa using aG.get (i:=i) (d:=d) c ‹e›
theorem aG.set{d:D}{x:V}(a:Rep K H d x):∀{b:rx} {xs:ro} (i:Nat),aG K H b xs->aG K H (b.set i d) (xs.set i x)
 |[],_,_,h=>by rw[aG]at h;subst h;simp[aG.nil]
 |_::_,_,0,h=>by
  rw[aG]at h
  obtain⟨y,r,rfl,_,c⟩:=h
  exact .cons a c
 |_::b,_,i+1,h=>by
  rw[aG]at h
  obtain⟨y,r,rfl,e,c⟩:=h
  exact .cons e (aG.set a i c)
theorem aG.append:∀{a es:rx} {xs b:ro},aG K H a xs->aG K H es b->aG K H (a++es) (xs++b)
 |[],_,_,_,h,k=>by rw[aG]at h;subst h;exact k
 |_::a,_,_,_,h,k=>by
  rw[aG]at h
  obtain⟨y,r,rfl,c,d⟩:=h
  exact .cons c (aG.append d k)
theorem aG.of_get:∀{c:rx} {xs:ro},c.length=xs.length->(∀(i:Nat) d x,c[i]?=LZ d->xs[i]?=LZ x->Rep K H d x)->aG K H c xs
 |[],[],_,_=>.nil
 |[],_::_,h,_=>by simp at h
 |_::_,[],h,_=>by simp at h
 |d::c,x::xs,h,k=>.cons (k 0 d x rfl rfl) (aG.of_get ‹h› fun i d x a b=>k (i+1) d x ‹a› ‹b›)
theorem aG.take{c:rx}{xs:ro}(n:Nat)(h:aG K H c xs):aG K H (c.take n) (xs.take n):=by
 refine .of_get (by simp[h.length]) fun i d x a b=>?_
 have f:i<n:=by
  rw[List.getElem?_take]at a;split at a
  ·assumption
  ·cases a
 rw[List.getElem?_take_of_lt f]at a b;obtain⟨y,e,r⟩:=h.get a;rw[e]at b;cases b;exact r
theorem aG.drop{c:rx}{xs:ro}(n:Nat)(h:aG K H c xs):aG K H (c.drop n) (xs.drop n):=by refine .of_get (by simp[h.length]) fun i d x a b=>?_;rw[List.getElem?_drop]at a b;obtain⟨y,e,r⟩:=h.get a;rw[e]at b;cases b;exact r
theorem jW:∀(ns:pw),aG K H (ns.map D.int) (ns.map V.int)
 |[]=>.nil
 |n::ns=>.cons (by rw[Rep]) (jW ns)
end
def IH(a C:n7):oa->Prop:=fun h=>∃o,h.get? a=LZ o/\o.cls=.ref C
inductive MO where
 |lst (ds:rx)|err (C:n7)
 |dct (n:Nat) (P:pw->Bool)
 |gen (A:I0->Hp->n7->Prop)
abbrev MH:=n7->Option MO
def rQ(K:I0)(H:Hp)(a:n7):MO->Prop
 |.lst c=>∃xs,H a=LZ (.lst xs)/\aG K H c xs
 |.err C=>H a=LZ (.ext (IH a C))
 |.dct n P=>∃kvs:List (List Key×V),H a=LZ (.dT kvs)/\kvs.length<=n/\∀k:pw,(kvs.any fun d=>decide (d.1=k.map Sum.inl))=P k
 |.gen A=>A K H a/\H a≠MA/\∀b,Mp K H b->b a=H a->A K b a
def My(K:I0)(H:Hp)(M:MH):Prop:=∀a o,M a=LZ o->rQ K H a o
def az(M:MH)(a:n7)(o:MO):MH:=fun b=>if b=a then LZ o else M b
theorem ag{M:MH}{a:n7}{o:MO}:az M a o a=LZ o:=by unfold az;rw[ME rfl]
theorem ao{M:MH}{a b:n7}{o:MO}(h:b≠a):az M a o b=M b:=by unfold az;rw[MD h]
theorem bD{M:MH}{a:n7}{o u:MO}:az (az M a o) a u=az M a u:=by funext b;unfold az;split<;>rfl
section
variable{K:I0}{H H':Hp}{M:MH}
theorem rQ.some{a:n7}{o:MO}(h:rQ K H a o):H a≠MA:=by
 cases o with
 |lst c=>
  obtain⟨xs,b,_⟩:=h
  rw[b];simp
 |err C=>rw[show H a=_ from h];simp
 |dct n P=>
  obtain⟨kvs,b,_⟩:=h
  rw[b];simp
 |gen A=>exact h.2.1
theorem My.fresh(h:My K H M){p:n7}(a:H p=MA):M p=MA:=by
 cases e:M p with
 |none=>rfl
 |some o=>exact absurd a (h p o e).some
theorem rQ.iU{a:n7}{o:MO}(g:Mp K H H')(e:H' a=H a)(h:rQ K H a o):rQ K H' a o:=by
 cases o with
 |lst i=>
  obtain⟨xs,b,c⟩:=h
  exact⟨xs,e.trans b,c.mono g⟩
 |err C=>exact e.trans h
 |dct n P=>
  obtain⟨kvs,b,c⟩:=h
  exact⟨kvs,e.trans b,c⟩
 |gen A=>exact⟨h.2.2 H' g e,fun z=>h.2.1 (by rw[<-e];exact z),fun d f e2=>h.2.2 d (g.trans f) (e2.trans e)⟩
theorem My.new{p:n7}{o:HO}(h:My K H M)(b:H p=MA):My K (upd H p o) M:=fun a u e=>by
 have ne:a≠p:=fun z=>by subst z;rw[h.fresh b]at e;cases e
 exact(h a u e).iU (.new b) (aZ ne)
theorem My.nD{p:n7}{xs:ro}{b:rx}(h:My K H M)(c:H p=MA)(r:aG K H b xs):My K (upd H p (.lst xs)) (az M p (.lst b)):=fun a u e=>by
 by_cases ne:a=p
 ·subst ne;rw[ag]at e;cases e;exact⟨xs,bc,r.mono (.new c)⟩
 ·rw[ao ne]at e;exact(h a u e).iU (.new c) (aZ ne)
theorem My.za{p:n7}{xs b:ro}{c:rx}(h:My K H M)(d:H p=LZ (.lst xs))(r:aG K H c b):My K (upd H p (.lst b)) (az M p (.lst c)):=fun a u e=>by
 by_cases ne:a=p
 ·subst ne;rw[ag]at e;cases e;exact⟨b,bc,r.mono (.lst d)⟩
 ·rw[ao ne]at e;exact(h a u e).iU (.lst d) (aZ ne)
theorem My.sub{b:MH}(h:My K H M)(s:∀a o,b a=LZ o->M a=LZ o):My K H b:=fun a o e=>h a o (s a o e)
end
abbrev DS:=rv
structure Slots(K:I0)(H:Hp)(δ:DS)(σ:L2.St):Prop where
 len:δ.length=σ.length
 at':∀(i:Nat) d,δ[i]?=LZ (LZ d)->∃v,σ[i]?=LZ (LZ v)/\Rep K H d v
section
variable{K:I0}{H H':Hp}{δ:DS}{σ:L2.St}
theorem Slots.mono(g:Mp K H H')(h:Slots K H δ σ):Slots K H' δ σ:=⟨h.len,fun i d e=>let⟨v,a,b⟩:=h.at' i d e;⟨v,a,b.mono g⟩⟩
theorem Slots.set{d:D}{v:V}(r:Rep K H d v)(i:Nat)(h:Slots K H δ σ):Slots K H (δ.set i (LZ d)) (σ.set i (LZ v)):=by
 refine⟨by simp[h.len],fun j e q=>?_⟩;rw[List.getElem?_set]at q;by_cases a:i=j
 ·subst a;rw[ME rfl]at q;by_cases b:i<δ.length
  ·rw[ME b]at q;cases q;exact⟨v,by rw[List.getElem?_set,ME rfl,ME (by rw[<-h.len];exact b)],r⟩
  ·rw[MD b]at q;cases q
 ·rw[MD a]at q;obtain⟨c,e1,e2⟩:=h.at' j e q;exact⟨c,by rw[List.getElem?_set,MD a];exact e1,e2⟩
theorem qu{N:rf}{a:rx}{vs:ro}(r:aG K H a vs):Slots K H (a.map LZ++Ju (N.length-a.length) MA) (L2.start N vs):=by
 have c:=r.length;refine⟨by unfold L2.start;simp[c],fun i d e=>?_⟩;unfold L2.start;by_cases b:i<a.length
 ·rw[JY ‹b›,IX]at e;cases q:a[i]? with
  |none=>rw[q]at e;cases e
  |some f=>
   rw[q]at e;cases e
   obtain⟨x,e1,e2⟩:=r.get q
   refine⟨x,?_,e2⟩
   rw[JY (by simp;omega),IX,e1];rfl
 ·rw[JV ‹b›,List.getElem?_replicate]at e;split at e<;>cases e
end
abbrev DK:=D->MH->Prop
abbrev TD:=DS->MH->DK->Prop
abbrev NT:=DS->MH->(Bool->MH->Prop)->Prop
abbrev NN:=DS->MH->(rx->MH->Prop)->Prop
structure EndsD where
 nx:DS->MH->Prop
 rt:DK
 bk:DS->MH->Prop:=fun _ _=>False
 ct:DS->MH->Prop:=fun _ _=>False
@[reducible] def EndsD.nxt(B:EndsD)(n:DS->MH->Prop):EndsD:={ B with nx:=n }
@[reducible] def EndsD.lp(B:EndsD)(w:DS->MH->Prop):EndsD:={ B with nx:=w,ct:=w,bk:=B.nx }
abbrev NV:=EndsD->DS->MH->Prop
section
variable(K:I0)
def Fin(H:Hp)(R:DK)(Q:VK):Prop:=∀d b v a,Mp K H a->Rep K a d v->My K a b->R d b->Q v a
def A4(H:Hp)(R:Bool->MH->Prop)(Q:Bool->Hp->Prop):Prop:=∀b c a,Mp K H a->My K a c->R b c->Q b a
def FinA(H:Hp)(R:rx->MH->Prop)(Q:ro->Hp->Prop):Prop:=∀b c vs a,Mp K H a->aG K a b vs->My K a c->R b c->Q vs a
def lift(t:TD):TE:=fun σ H Q=>∃δ M R,Slots K H δ σ/\My K H M/\t δ M R/\Fin K H R Q
def liftT(t:NT):TT:=fun σ H Q=>∃δ M R,Slots K H δ σ/\My K H M/\t δ M R/\A4 K H R Q
def zg(t:NN):TA:=fun σ H Q=>∃δ M R,Slots K H δ σ/\My K H M/\t δ M R/\FinA K H R Q
structure OS(H:Hp)(B:EndsD)(E:Ends):Prop where
 nx:∀δ M σ H',Mp K H H'->Slots K H' δ σ->My K H' M->B.nx δ M->E.nx σ H'
 rt:∀d M v H',Mp K H H'->Rep K H' d v->My K H' M->B.rt d M->E.rt v H'
 bk:∀δ M σ H',Mp K H H'->Slots K H' δ σ->My K H' M->B.bk δ M->E.bk σ H'
 ct:∀δ M σ H',Mp K H H'->Slots K H' δ σ->My K H' M->B.ct δ M->E.ct σ H'
def BZ(t:NV):TS:=fun E σ H=>∃δ M,Slots K H δ σ/\My K H M/\∃B,OS K H B E/\t B δ M
end
namespace Zq
@[scoped irreducible]def _root_.SD.DE(X:Cx)(e:oT)(t:TD):Prop:=PE X e (lift X.K t)
@[scoped irreducible]def _root_.SD.DT(X:Cx)(e:oT)(t:NT):Prop:=PT X e (liftT X.K t)
@[scoped irreducible]def _root_.SD.DW(X:Cx)(e:oT)(t:NT):Prop:=PW X e (liftT X.K t)
@[scoped irreducible]def _root_.SD.DA(X:Cx)(es:ra)(t:NN):Prop:=PA X es (zg X.K t)
@[scoped irreducible]def _root_.SD.DSt(X:Cx)(st:n_)(t:NV):Prop:=PS X st (BZ X.K t)
@[scoped irreducible]def _root_.SD.DSs(X:Cx)(st:q_)(t:NV):Prop:=Ov X st (BZ X.K t)
end Zq
theorem bj{X:Cx}{e:oT}{t t':TE}(h:PE X e t)(k:∀σ H Q,t' σ H Q->t σ H Q):PE X e t':=fun MN s σ H Q I q=>h MN s σ H Q I (k σ H Q q)
theorem mh{X:Cx}{e:oT}{t t':TT}(h:PT X e t)(k:∀σ H Q,t' σ H Q->t σ H Q):PT X e t':=fun MN s σ H Q I q=>h MN s σ H Q I (k σ H Q q)
theorem zP{X:Cx}{e:oT}{t t':TT}(h:PW X e t)(k:∀σ H Q,t' σ H Q->t σ H Q):PW X e t':=fun a MN s σ H Q I q=>h a MN s σ H Q I (k σ H Q q)
theorem zd{X:Cx}{e:ra}{t t':TA}(h:PA X e t)(k:∀σ H Q,t' σ H Q->t σ H Q):PA X e t':=fun pos MN s σ H Q I q=>h pos MN s σ H Q I (k σ H Q q)
theorem cU{X:Cx}{e:n_}{t t':TS}(h:PS X e t)(k:∀D σ H,t' D σ H->t D σ H):PS X e t':=fun MN s σ H D I q=>h MN s σ H D I (k D σ H q)
theorem vf{X:Cx}{e:q_}{t t':TS}(h:Ov X e t)(k:∀D σ H,t' D σ H->t D σ H):Ov X e t':=fun MN s σ H D I q=>h MN s σ H D I (k D σ H q)
section
variable{K:I0}{H H1 H':Hp}
theorem Fin.go{R:DK}{Q:VK}(g:Mp K H H1)(h:Fin K H R Q):Fin K H1 R Q:=fun d M v H' a=>h d M v H' (g.trans a)
theorem A4.go{R:Bool->MH->Prop}{Q:Bool->Hp->Prop}(g:Mp K H H1)(h:A4 K H R Q):A4 K H1 R Q:=fun b M H' a=>h b M H' (g.trans a)
theorem OS.go{B:EndsD}{E:Ends}(g:Mp K H H1)(h:OS K H B E):OS K H1 B E:=⟨fun d M v H' a=>h.nx d M v H' (g.trans a),fun d M v H' a=>h.rt d M v H' (g.trans a),fun d M v H' a=>h.bk d M v H' (g.trans a),fun d M v H' a=>h.ct d M v H' (g.trans a)⟩
end
section
variable{X:Cx}
inductive RB(i:Nat)(δ:DS)(M:MH)(Q:DK):Prop
 |mk (d:D) (h:δ[i]?=LZ (LZ d)) (q:Q d M):RB i δ M Q
def Rm(d:D):TD:=fun _ M Q=>Q d M
theorem dv(i:Nat){x:Str}{pos:Pos}(c:X.N[i]?=LZ x:=by rfl)(f:Vu X.env.scope x:=by first|exact Or.inl rfl|exact Or.inr (Or.inl rfl)|exact Or.inr (Or.inr rfl))(hd:(x==("__debug__":Str))=MC:=by decide)
 (a:(x==("__classdict__":Str))=MC:=by decide):DE X (.Name x pos) (RB i):=
 bj (DY c f hd a) fun σ H Q g=>by
  obtain⟨δ,M,R,h,j,⟨d,e,r⟩,b⟩:=g
  obtain⟨v,e1,e2⟩:=h.at' i d e
  exact⟨v,e1,b d M v H .refl e2 j r⟩
theorem dc{e:oT}{v:V}{d:D}(h:PE X e (tC v))(r:∀H,Rep X.K H d v):DE X e (Rm d):=bj h fun σ H Q a=>by obtain⟨δ,M,R,f,c,q,b⟩:=a;exact(b d M v H .refl (r H) c q)
theorem aj{i j pos}:DE X (.Constant (.int i) j pos) (Rm (.int i)):=dc yy fun _=>by rw[Rep]
theorem my{i j pos}:DE X (.Constant (.bool i) j pos) (Rm (.bl i)):=dc GY fun _=>by rw[Rep]
theorem iR{j pos}:DE X (.Constant .none j pos) (Rm .non):=dc DC fun _=>by rw[Rep]
theorem t9{x j pos}:DE X (.Constant (.str x) j pos) (Rm (.str x)):=dc Dh fun _=>by rw[Rep]
theorem Gm{x:Str}{n:String}{pos:Pos}(a:Gl X x)(b:X.mg x=MA)(c:JT x=LZ (.type n))(d:x≠"__name__":=by decide)(hd:(x==("__debug__":Str))=MC:=by decide):DE X (.Name x pos) (Rm (.ty n)):=dc (Aw (v:=.ty n) a b c rfl d hd) fun _=>by rw[Rep]
end
abbrev N3:=D->D->MH->DK->Prop
def pW(K:I0)(r:N3):R2:=fun v u H Q=>∃x y M R,Rep K H x v/\Rep K H y u/\My K H M/\r x y M R/\Fin K H R Q
def N4(X:Cx)(f:IQ->IQ->Sem IQ)(r:N3):Prop:=NS X f (pW X.K r)
def wW(r:N3)(a b:TD):TD:=fun δ M Q=>a δ M fun x c=>b δ c fun y d=>r x y d Q
theorem iX{X:Cx}{f:IQ->IQ->Sem IQ}{r c:R2}(h:NS X f r)(k:∀x y H Q,c x y H Q->r x y H Q):NS X f c:=fun MN s σ H x y v u Q I a b q=>h MN s σ H x y v u Q I a b (k _ _ _ _ q)
theorem k7{K:I0}{r:N3}{b c:TD}{σ:L2.St}{H:Hp}{Q:VK}(h:lift K (wW r b c) σ H Q):SF (pW K r) (lift K b) (lift K c) σ H Q:=by obtain⟨δ,M,R,d,g,q,a⟩:=h;refine⟨δ,M,_,d,g,q,fun x i v H1 e j k l=>?_⟩;exact⟨δ,i,_,d.mono e,k,l,fun y m u s f n o p=>⟨x,y,m,R,j.mono f,n,o,p,a.go (e.trans f)⟩⟩
section
variable{X:Cx}{a b:oT}{ta tb:TD}{pos:Pos}
theorem aw{op:Operator}{r:N3}(c:N4 X (KZ op) r)(d:DE X a ta)(e:DE X b tb):DE X (.BinOp a op b pos) (wW r ta tb):=bj (Gn c d e) fun _ _ _ h=>k7 h
theorem b6{op:CmpOp}{r:N3}(c:N4 X (JD op) r)(d:DE X a ta)(e:DE X b tb)(f:LJ op b=MC:=by exact zQ _):DE X (.Compare a [op] [b] pos) (wW r ta tb):=bj (AJ c d e f) fun _ _ _ h=>k7 h
inductive Qh(x:D)(M:MH)(Q:Bool->MH->Prop):Prop
 |mk (c:Bool) (h:x=.bl c) (q:Q c M):Qh x M Q
def tBD(t:TD):NT:=fun δ M Q=>t δ M fun x c=>Qh x c Q
theorem ox{K:I0}{t:TD}{t':TE}(i:∀σ H Q,lift K t σ H Q->t' σ H Q){σ:L2.St}{H:Hp}{Q:Bool->Hp->Prop}(h:liftT K (tBD t) σ H Q):Ct t' σ H Q:=by obtain⟨δ,M,R,j,k,q,f⟩:=h;refine i _ _ _ ⟨δ,M,_,j,k,q,fun x l v H1 m g n d=>?_⟩;obtain⟨c,e,o⟩:=d;subst e;rw[Rep]at g;exact⟨c,g,f c l H1 m n o⟩
theorem aL{op:CmpOp}{r:N3}(c:N4 X (JD op) r)(d:DE X a ta)(e:DE X b tb)(f:LJ op b=MC:=by exact zQ _):DT X (.Compare a [op] [b] pos) (tBD (wW r ta tb)):=mh (Bh c d e f) fun _ _ _ h=>ox (fun _ _ _ h=>k7 h) h
theorem de{e:oT}{t:TD}(h:DE X e t)(d:∀c,isTrue e X.env c=(do let v <-c;standAt e.pos;holding [v] (truthy v)):=by intro _;rfl):DT X e (tBD t):=
 mh (E5 h d) fun _ _ _ h=>ox (t':=lift X.K t) (fun _ _ _ h=>h) h
end
section
variable{X:Cx}{a b c:oT}{ta tb:TD}{tA MP:NT}{rest:ra}{pos:Pos}
def B1(t u:NT):NT:=fun δ M Q=>t δ M fun c d=>if c=MB then u δ d Q else Q MC d
def Ho(t u:NT):NT:=fun δ M Q=>t δ M fun c d=>if c=MB then Q MB d else u δ d Q
def gF(t:NT):NT:=fun δ M Q=>t δ M fun c d=>Q (!c) d
theorem fY(d:DT X a tA):DW X (.BoolOp .And [a] pos) tA:=AI d
theorem tF(d:DT X a tA):DW X (.BoolOp .Or [a] pos) tA:=E4 d
theorem iQ(j:DT X a tA)(k:DW X (.BoolOp .And (b::rest) pos) MP):DW X (.BoolOp .And (a::b::rest) pos) (B1 tA MP):=
 zP (Ey j k) fun σ H Q d=>by obtain⟨δ,M,R,h,l,q,e⟩:=d;exact(⟨δ,M,_,h,l,q,fun c m H1 g i f=>by
  cases c with
  |true=>rw[ME rfl]at f ⊢;exact⟨δ,m,R,h.mono g,i,f,e.go g⟩
  |false=>rw[MD J9]at f ⊢;exact e _ _ _ g i f⟩)
theorem yh(j:DT X a tA)(k:DW X (.BoolOp .Or (b::rest) pos) MP):DW X (.BoolOp .Or (a::b::rest) pos) (Ho tA MP):=
 zP (Ht j k) fun σ H Q d=>by obtain⟨δ,M,R,h,l,q,e⟩:=d;exact(⟨δ,M,_,h,l,q,fun c m H1 g i f=>by
  cases c with
  |true=>rw[ME rfl]at f ⊢;exact e _ _ _ g i f
  |false=>rw[MD J9]at f ⊢;exact⟨δ,m,R,h.mono g,i,f,e.go g⟩⟩)
theorem ny{e:oT}{t:NT}(h:DW X e t):DT X e t:=PW.pt h
theorem Eb(f:DT X a tA):DT X (.UnaryOp .Not a pos) (gF tA):=mh (Ee f) fun σ H Q d=>by obtain⟨δ,M,R,g,h,q,e⟩:=d;exact(⟨δ,M,_,g,h,q,fun c l H1 i j k=>e _ _ _ i j k⟩)
def yc(ta tb:TD):TD:=fun δ M Q=>ta δ M fun x d=>Qh x d fun c d=>if c=MB then tb δ d Q else Q (.bl MC) d
def BV(ta tb:TD):TD:=fun δ M Q=>ta δ M fun x d=>Qh x d fun c d=>if c=MB then Q (.bl MB) d else tb δ d Q
def D9(ta:TD):TD:=fun δ M Q=>ta δ M fun x d=>Qh x d fun c d=>Q (.bl (!c)) d
theorem pZ{op}{t:TD}(h:DE X a t):DE X (.BoolOp op [a] pos) t:=E7 h
theorem oS(k:DE X a ta)(l:DE X (.BoolOp .And (b::rest) pos) tb):DE X (.BoolOp .And (a::b::rest) pos) (yc ta tb):=
 bj (EE k l) fun σ H Q ⟨δ,M,R,h,m,q,d⟩=>⟨δ,M,_,h,m,q,fun x n v H1 g i j o=>by
  obtain⟨c,e,f⟩:=o
  subst e
  rw[Rep]at i
  refine⟨c,i,?_⟩
  cases c with
  |true=>rw[ME rfl]at f ⊢;exact⟨δ,n,R,h.mono g,j,f,d.go g⟩
  |false=>rw[MD J9]at f ⊢;exact d _ _ _ _ g (by rw[Rep]) j f⟩
theorem GD(k:DE X a ta)(l:DE X (.BoolOp .Or (b::rest) pos) tb):DE X (.BoolOp .Or (a::b::rest) pos) (BV ta tb):=
 bj (F8 k l) fun σ H Q ⟨δ,M,R,h,m,q,d⟩=>⟨δ,M,_,h,m,q,fun x n v H1 g i j o=>by
  obtain⟨c,e,f⟩:=o
  subst e
  rw[Rep]at i
  refine⟨c,i,?_⟩
  cases c with
  |true=>rw[ME rfl]at f ⊢;exact d _ _ _ _ g (by rw[Rep]) j f
  |false=>rw[MD J9]at f ⊢;exact⟨δ,n,R,h.mono g,j,f,d.go g⟩⟩
theorem sO(h:DE X a ta):DE X (.UnaryOp .Not a pos) (D9 ta):=
 bj (Ef h) fun σ H Q d=>by obtain⟨δ,M,R,i,j,q,f⟩:=d;exact(⟨δ,M,_,i,j,q,fun x o v H1 k g l m=>by
  obtain⟨c,e,n⟩:=m
  subst e
  rw[Rep]at g
  exact⟨c,g,f _ _ _ _ k (by rw[Rep]) l n⟩⟩)
def HD(t:NT)(ta tb:TD):TD:=fun δ M Q=>t δ M fun c d=>if c=MB then ta δ d Q else tb δ d Q
theorem gy(k:DT X c tA)(l:DE X a ta)(m:DE X b tb):DE X (.IfExp c a b pos) (HD tA ta tb):=
 bj (yJ k l m) fun σ H Q d=>by obtain⟨δ,M,R,h,n,q,e⟩:=d;exact(⟨δ,M,_,h,n,q,fun c i H1 f j g=>by
  cases c with
  |true=>rw[ME rfl]at g ⊢;exact⟨δ,i,R,h.mono f,j,g,e.go f⟩
  |false=>rw[MD J9]at g ⊢;exact⟨δ,i,R,h.mono f,j,g,e.go f⟩⟩)
end
def Iz(r:D->MH->DK->Prop)(a:TD):TD:=fun δ M Q=>a δ M fun x b=>r x b Q
def Cy(K:I0)(r:D->MH->DK->Prop):V->Hp->VK->Prop:=fun v H Q=>∃x M R,Rep K H x v/\My K H M/\r x M R/\Fin K H R Q
theorem kL{X:Cx}{a:oT}{d:TD}{pos:Pos}{op:UnaryOp}{r:D->MH->DK->Prop}(e:Vv X (unaryOp op) (Cy X.K r))(f:DE X a d):DE X (.UnaryOp op a pos) (Iz r d):=bj (FJ e f) fun σ H Q b=>by obtain⟨δ,M,R,g,h,q,c⟩:=b;exact(⟨δ,M,_,g,h,q,fun x i v H1 j k l m=>⟨x,i,R,k,l,m,c.go j⟩⟩)
def Gj:NN:=fun _ M Q=>Q [] M
def Eg(a:TD)(b:NN):NN:=fun δ M Q=>a δ M fun x c=>b δ c fun xs d=>Q (x::xs) d
section
variable{X:Cx}{e:oT}{es:ra}{te:TD}{t:NN}{pos:Pos}
theorem af:DA X [] Gj:=zd Fb fun σ H Q a=>by obtain⟨δ,M,R,d,c,q,b⟩:=a;exact(b _ _ _ _ .refl .nil c q)
theorem ae(g:DE X e te)(h:DA X es t)(b:Je (e::es) X.env=(MC,eval e X.env)::Je es X.env:=by rfl):DA X (e::es) (Eg te t):=
 zd (BM g h b) fun σ H Q a=>by obtain⟨δ,M,R,b,i,q,c⟩:=a;exact(⟨δ,M,_,b,i,q,fun x j v H1 d k l m=>
  ⟨δ,j,_,b.mono d,l,m,fun xs r vs s f n o p=>c _ _ _ _ (d.trans f) (.cons (k.mono f) n) o p⟩⟩)
def Fw(t:NN):TD:=fun δ M Q=>t δ M fun xs a=>xs.length<=J7/\Q (.tup xs) a
def Gb(t:NN):TD:=fun δ M Q=>t δ M fun xs a=>xs.length<=J7/\∀p,a p=MA->Q (.ref p) (az a p (.lst xs))
theorem aF{x1}(h:DA X es t):DE X (.Tuple es x1 pos) (Fw t):=bj (DB h) fun σ H Q a=>by obtain⟨δ,M,R,g,i,q,c⟩:=a;exact(⟨δ,M,_,g,i,q,fun xs m vs H1 j f k b=>by obtain⟨z,l⟩:=b;exact(⟨by rw[<-f.length];exact z,fun p d=>c _ _ _ _ (j.trans (.new d)) (by rw[Rep];exact⟨p,vs,rfl,NB.of bc,f.mono (.new d)⟩) (k.new d) l⟩)⟩)
theorem bw(h:DA X es t):DE X (.List es pos) (Gb t):=bj (Dl h) fun σ H Q a=>by obtain⟨δ,M,R,i,j,q,c⟩:=a;exact(⟨δ,M,_,i,j,q,fun xs m vs H1 k f g b=>by obtain⟨z,l⟩:=b;exact(⟨by rw[<-f.length];exact z,fun p d=>c _ _ _ _ (k.trans (.new d)) (by rw[Rep]) (g.nD d f) (l p (g.fresh d))⟩)⟩)
end
def ZW(X:Cx)(r:N3):Prop:=P9 X (pW X.K r)
theorem EW{X:Cx}{r c:R2}(h:P9 X r)(k:∀x y H Q,c x y H Q->r x y H Q):P9 X c:=fun e1 e2 MN s σ H x y v u Q I a b q=>h e1 e2 MN s σ H x y v u Q I a b (k _ _ _ _ q)
theorem EK{X:Cx}{a b:oT}{c d:TD}{pos:Pos}{r:N3}(e:ZW X r)(f:DE X a c)(g:DE X b d)(i:pJ b):DE X (.Subscript a b pos) (wW r c d):=bj (FY e f g i) fun _ _ _ h=>k7 h
inductive YL(ds:rx)(i:Int)(M:MH)(Q:DK):Prop
 |mk (d:D) (h:atI ds i=LZ d) (q:Q d M):YL ds i M Q
inductive Y5(a:n7)(i:Int)(M:MH)(Q:DK):Prop
 |mk (ds:rx) (d:D) (h:M a=LZ (.lst ds)) (q:atI ds i=LZ d/\Q d M):Y5 a i M Q
def Dw:N3:=fun x y M Q=>match x,y with
 |.tup ds,.int i=>YL ds i M Q
 |.rol ds,.int i=>YL ds i M Q
 |.ref a,.int i=>Y5 a i M Q
 |_,_=>False
theorem aG.atI{K:I0}{H:Hp}{a:rx}{xs:ro}{i:Int}{d:D}(h:aG K H a xs)(e:L2.atI a i=LZ d):∃x,L2.atI xs i=LZ x/\Rep K H d x:=by
 unfold L2.atI at e ⊢;rw[<-h.length];cases q:ixN a.length i with
 |none=>rw[q]at e;cases e
 |some j=>
  rw[q]at e
  exact h.get e
theorem wB{K:I0}{v u:V}{H:Hp}{Q:VK}(h:pW K Dw v u H Q):YS K v u H Q:=by
 obtain⟨x,y,M,R,c,g,a,q,b⟩:=h;unfold Dw at q;split at q
 ·obtain⟨d,e,q⟩:=q;obtain rfl:u=.int _:=g;rw[Rep]at c;obtain⟨p,xs,rfl,i,f⟩:=c;obtain⟨x,e1,e2⟩:=f.atI e;exact .inr (.inl ⟨p,xs,_,x,rfl,rfl,i,e1,b _ _ _ _ .refl e2 a q⟩)
 ·obtain⟨d,e,q⟩:=q;obtain rfl:u=.int _:=g;rw[Rep]at c;obtain⟨p,xs,rfl,i,f⟩:=c;obtain⟨x,e1,e2⟩:=f.atI e;exact .inl ⟨p,xs,_,x,rfl,rfl,i.sql,e1,b _ _ _ _ .refl e2 a q⟩
 ·obtain⟨l,d,j,e,q⟩:=q;obtain rfl:u=.int _:=g;obtain rfl:v=.ref _:=c;obtain⟨xs,k,f⟩:=a _ _ j;obtain⟨x,e1,e2⟩:=f.atI e;exact .inl ⟨_,xs,_,x,rfl,rfl,ND.of k,e1,b _ _ _ _ .refl e2 a q⟩
 ·exact q.elim
theorem ay{X:Cx}{a b:oT}{c d:TD}{pos:Pos}(e:DE X a c)(f:DE X b d)(g:pJ b:=by exact fun _ _=>rfl):DE X (.Subscript a b pos) (wW Dw c d):=EK (EW Ek fun _ _ _ _ h=>wB h) e f g
def Bd(n:Nat)(i:Int):Prop:=i.natAbs<2^n
instance(n:Nat)(i:Int):Decidable (Bd n i):=inferInstanceAs (Decidable (i.natAbs<2^n))
theorem Bd.mono{m n:Nat}{i:Int}(h:Bd m i)(l:m<=n):Bd n i:=Jm h (Nat.pow_le_pow_right ⋯ l)
theorem Bd.bits{n:Nat}{i:Int}(h:Bd n i):Builtin.Int.intBits i<=n:=by
 unfold Builtin.Int.intBits;split
 ·exact Kf _
 ·rename_i hz;have a:i.natAbs≠0:=fun e=>hz ‹Int.natAbs_eq_zero.mp e›;exact(Nat.log2_lt a).mpr h
theorem Bd.log2{n:Nat}{i:Int}(h:Bd n i)(b:0<n):i.natAbs.log2<n:=by
 by_cases a:i.natAbs=0
 ·rw[a];simpa using b
 ·exact(Nat.log2_lt a).mpr h
theorem Bd.mul{m n:Nat}{i j:Int}(a:Bd m i)(b:Bd n j):Bd (m+n) (i*j):=by unfold Bd at *;rw[Int.natAbs_mul,Nat.pow_add];exact Nat.mul_lt_mul'' a b
theorem Bd.add{n:Nat}{i j:Int}(a:Bd n i)(b:Bd n j):Bd (n+1) (i+j):=by unfold Bd at *;rw[Nat.pow_succ];have:=Int.natAbs_add_le i j;omega
theorem Bd.sub{n:Nat}{i j:Int}(a:Bd n i)(b:Bd n j):Bd (n+1) (i-j):=by unfold Bd at *;rw[Nat.pow_succ];have:=Int.natAbs_sub_le i j;omega
theorem Bd.neg{n:Nat}{i:Int}(a:Bd n i):Bd n (-i):=by unfold Bd at *;rw[Int.natAbs_neg];exact a
theorem Bd.of_le{n:Nat}{i j:Int}(a:Bd n i)(b:j.natAbs<=i.natAbs):Bd n j:=Nat.lt_of_le_of_lt b a
theorem bA{n:Nat}{i:Int}(h:i.natAbs<2^64)(l:64<=n:=by decide):Bd n i:=Bd.mono (m:=64) h l
theorem eQ{i j:Int}(a:Bd 1000000 i)(b:Bd 1000000 j):IntMulOk i j:=.of_bits (K4 a.bits ⋯) (K4 b.bits ⋯)
theorem aQ{i j:Int}(a:Bd 64 i):IntMulOk i j:=.of_left a.bits
theorem dh{i j:Int}(a:Bd 64 j):IntMulOk i j:=.of_right a.bits
def PZ(C:Int->Int->Prop)(g:Int->Int->D):N3:=fun x y M Q=>match x,y with
 |.int i,.int j=>C i j/\Q (g i j) M
 |_,_=>False
section
variable{X:Cx}
theorem dA{f:IQ->IQ->Sem IQ}{C:Int->Int->Prop}{g:Int->Int->V}{g':Int->Int->D}(h:NS X f (rI C g))(e:∀i j H,Rep X.K H (g' i j) (g i j)):N4 X f (PZ C g'):=
 iX h fun v u H Q c=>by
  obtain⟨x,y,M,R,d,k,a,q,b⟩:=c
  unfold PZ at q
  split at q
  ·obtain rfl:v=.int _:=d
   obtain rfl:u=.int _:=k
   exact⟨_,_,rfl,rfl,q.1,b _ _ _ _ .refl (e _ _ _) a q.2⟩
  ·exact q.elim
theorem Rn{f:IQ->IQ->Sem IQ}{g:Int->Int->V}(h:NS X f (Qo g)):NS X f (rI (fun _ _=>True) g):=iX h fun x y H Q c=>by obtain⟨i,j,a,b,_,q⟩:=c;exact(⟨i,j,a,b,q⟩)
def Fl:N3:=PZ (fun _ _=>True) fun i j=>.int (i-j)
def GN:N3:=PZ IntMulOk fun i j=>.int (i*j)
def ZX(i j:Int):Prop:=j≠0/\Bd 8000 j
def Ia:N3:=PZ ZX fun i j=>.int (i.fdiv j)
def Ff:N3:=PZ (fun _ j=>j≠0) fun i j=>.int (i.fmod j)
def Ft:N3:=PZ FQ fun i j=>.int (i^j.toNat)
def Ib:N3:=PZ (fun _ _=>True) fun i j=>.bl (decide (i<j))
def Hz:N3:=PZ (fun _ _=>True) fun i j=>.bl (decide (i<=j))
def IP:N3:=PZ (fun _ _=>True) fun i j=>.bl (decide (j<i))
def Ih:N3:=PZ (fun _ _=>True) fun i j=>.bl (decide (j<=i))
theorem cE:N4 X (KZ .Sub) Fl:=dA (Rn C4) fun _ _ _=>by rw[Rep]
theorem aH:N4 X (KZ .Mult) GN:=dA (WI fun _ _ _ _ _ _ _ a q=>mul_int q a) fun _ _ _=>by rw[Rep]
theorem eP:N4 X (KZ .FloorDiv) Ia:=dA (WI fun _ _ _ _ _ _ _ a q=>floordiv_int a.1 q (.inl (PyProof.noPylong_of_log2 (Nat.lt_trans (a.2.log2 ⋯) ⋯)))) fun _ _ _=>by rw[Rep]
theorem fu:N4 X (KZ .Mod) Ff:=dA BR fun _ _ _=>by rw[Rep]
theorem iJ:N4 X (KZ .Pow) Ft:=dA E1 fun _ _ _=>by rw[Rep]
theorem Hh:N4 X (JD .Lt) Ib:=dA (Rn G8) fun _ _ _=>by rw[Rep]
theorem Fp:N4 X (JD .LtE) Hz:=dA (Rn GI) fun _ _ _=>by rw[Rep]
theorem G6:N4 X (JD .Gt) IP:=dA (Rn Fd) fun _ _ _=>by rw[Rep]
theorem zt:N4 X (JD .GtE) Ih:=dA (Rn F6) fun _ _ _=>by rw[Rep]
def CA:D->MH->DK->Prop:=fun x M Q=>match x with
 |.int i=>Q (.int (-i)) M
 |_=>False
theorem eW:Vv X (unaryOp .USub) (Cy X.K CA):=fun MN s σ H x v Q I r b=>by obtain⟨d,M,R,e,a,q,c⟩:=b;exact(Di MN s σ H x v Q I r (by
 unfold CA at q
 split at q
 ·obtain rfl:x=.int _:=e;exact⟨_,rfl,c _ _ _ _ .refl (by rw[Rep]) a q⟩
 ·exact q.elim))
def Cr:N3:=fun x y M Q=>match x,y with
 |.int i,.int j=>Q (.int (i+j)) M
 |.tup a,.tup b=>a≠[]/\a.length+b.length<=J7/\Q (.tup (a++b)) M
 |.ref a,.ref b=>∃xs c,M a=LZ (.lst xs)/\M b=LZ (.lst c)/\xs.length+c.length<=J7/\∀p,M p=MA->Q (.ref p) (az M p (.lst (xs++c)))
 |_,_=>False
theorem aJ:N4 X (KZ .Add) Cr:=iX (C3.or (Bo.or Ec)) fun v u H Q l=>by
 obtain⟨x,y,M,R,g,h,a,q,b⟩:=l;unfold Cr at q;split at q
 ·obtain rfl:v=.int _:=g;obtain rfl:u=.int _:=h;exact .inl ⟨_,_,rfl,rfl,b _ _ _ _ .refl (by rw[Rep]) a q⟩
 ·rename_i da db;obtain⟨m,n,q⟩:=q;rw[Rep]at g;obtain⟨p,xs,rfl,i,d⟩:=g;obtain⟨o,j,rfl,k,f⟩:∃a xs,u=V.ref a/\NB X.K H a xs/\aG X.K H db xs:=by rw[Rep]at h;exact h
  have l1:=d.length;have l2:=f.length;refine .inr (.inl ⟨p,o,xs,j,rfl,rfl,i,k,?_,(),fun e=>?_,fun _ z c=>?_⟩)
  ·intro e;subst e;exact m (List.length_eq_zero_iff.mp ‹l1›)
  ·subst e;obtain rfl:db=[]:=List.length_eq_zero_iff.mp ‹l2›;exact b _ _ _ _ .refl (by rw[Rep,JX];exact⟨p,xs,rfl,i,d⟩) a q
  ·exact b _ _ _ _ (.new c) (by rw[Rep];exact⟨z,_,rfl,NB.of bc,(d.append f).mono (.new c)⟩) (a.new c) q
 ·obtain⟨r,s,e1,e2,n,q⟩:=q;obtain rfl:v=.ref _:=g;obtain rfl:u=.ref _:=h;obtain⟨xs,i,d⟩:=a _ _ e1;obtain⟨j,k,f⟩:=a _ _ e2;have l1:=d.length;have l2:=f.length;exact .inr (.inr ⟨_,_,xs,j,rfl,rfl,i,k,(),fun z c=>b _ _ _ _ (.new c) (by rw[Rep]) (a.nD c (d.append f)) (q z (a.fresh c))⟩)
 ·exact q.elim
end
mutual
inductive Pd(M:MH):D->LP->Prop
 |non:Pd M .non .none
 |bl (b:Bool):Pd M (.bl b) (.bool b)
 |int (i:Int):Pd M (.int i) (.int i)
 |str (x:Str):Pd M (.str x) (.str x)
 |tup {ds:rx} {ps:List LP}:PX M ds ps->Pd M (.tup ds) (.tuple ps)
 |rol {ds:rx} {ps:List LP}:PX M ds ps->Pd M (.rol ds) (.list ps)
 |lst {a:n7} {ds:rx} {ps:List LP}:M a=LZ (.lst ds)->PX M ds ps->Pd M (.ref a) (.list ps)
inductive PX(M:MH):rx->List LP->Prop
 |nil:PX M [] []
 |cons {d:D} {ds:rx} {p:LP} {ps:List LP}:Pd M d p->PX M ds ps->PX M (d::ds) (p::ps)
end
mutual
def Qb:D->Option LP
 |.non=>LZ .none
 |.bl b=>LZ (.bool b)
 |.int i=>LZ (.int i)
 |.str x=>LZ (.str x)
 |.tup a=>match rZ a with
  |some ps=>LZ (.tuple ps)
  |none=>MA
 |_=>MA
def rZ:rx->Option (List LP)
 |[]=>LZ []
 |d::ds=>match Qb d,rZ ds with
  |some p,LZ ps=>LZ (p::ps)
  |_,_=>MA
end
mutual
theorem Pd.of{M:MH}:∀{d:D} {p:LP},Qb d=LZ p->Pd M d p
 |.non,p,h=>by rw[Qb]at h;cases h;exact .non
 |.bl b,p,h=>by rw[Qb]at h;cases h;exact .bl b
 |.int i,p,h=>by rw[Qb]at h;cases h;exact .int i
 |.str x,p,h=>by rw[Qb]at h;cases h;exact .str x
 |.ty _,p,h=>by simp[Qb]at h
 |.ref _,p,h=>by simp[Qb]at h
 |.rol _,p,h=>by simp[Qb]at h
 |.tup ds,p,h=>by
  rw[Qb]at h
  cases e:rZ ds with
  |none=>rw[e]at h;cases h
  |some ps=>rw[e]at h;cases h;exact .tup (PX.of e)
theorem PX.of{M:MH}:∀{a:rx} {ps:List LP},rZ a=LZ ps->PX M a ps
 |[],ps,h=>by rw[rZ]at h;cases h;exact .nil
 |d::a,ps,h=>by
  rw[rZ]at h
  cases e1:Qb d with
  |none=>rw[e1]at h;cases h
  |some p=>
   cases e2:rZ a with
   |none=>rw[e1,e2]at h;cases h
   |some qs=>rw[e1,e2]at h;cases h;exact .cons (Pd.of e1) (PX.of e2)
end
section
variable{X:Cx}{MN:pa}{σ:L2.St}{H:Hp}{s:IS}{M:MH}
mutual
theorem bX(I:Inv X MN σ H s)(q:My X.K H M):∀{d:D} {p:LP} {v:V} {u:IQ},Pd M d p->Rep X.K H d v->L2.RelV v u->∃c,Reads s.heap u p c
 |_,_,_,_,.non,r,e=>by rw[Rep]at r;subst r;cases e;exact⟨_,.none⟩
 |_,_,_,_,.bl b,r,e=>by rw[Rep]at r;subst r;cases e;exact⟨_,.bool b⟩
 |_,_,_,_,.int i,r,e=>by rw[Rep]at r;subst r;obtain⟨t,rfl⟩:=e;exact⟨_,.int i t⟩
 |_,_,_,_,.str x,r,e=>by rw[Rep]at r;subst r;obtain⟨t,rfl⟩:=e;exact⟨_,.str x t⟩
 |_,_,_,_,.tup hp,r,e=>by
  rw[Rep]at r
  obtain⟨a,xs,rfl,w,f⟩:=r
  cases e
  obtain⟨g,h,⟨o,j,k,n,l⟩,_⟩:=I.tuple w
  obtain⟨c,m⟩:=hZ I q hp f h
  exact⟨c,reads_tuple_at j k l ‹m›⟩
 |_,_,_,_,.rol hp,r,e=>by
  rw[Rep]at r
  obtain⟨a,xs,rfl,w,f⟩:=r
  cases e
  obtain⟨g,h,⟨o,n,j,k,_,l⟩,_⟩:=I.list w.sql
  obtain⟨c,m⟩:=hZ I q hp f h
  exact⟨_,reads_list_at j k l ‹m›⟩
 |_,_,_,_,.lst ha hp,r,e=>by
  rw[Rep]at r
  subst r
  cases e
  obtain⟨xs,y,f⟩:=q _ _ ha
  obtain⟨g,h,⟨o,n,j,k,_,l⟩,_⟩:=I.list (ND.of y)
  obtain⟨c,m⟩:=hZ I q hp f h
  exact⟨_,reads_list_at j k l ‹m›⟩
theorem hZ(I:Inv X MN σ H s)(a:My X.K H M):∀{b:rx} {ps:List LP} {vs:ro} {us:p4},PX M b ps->aG X.K H b vs->Vals vs us->∃c,ReadsAll s.heap us ps c
 |_,_,_,_,.nil,r,e=>by rw[aG]at r;subst r;cases e;exact⟨_,.nil⟩
 |_,_,_,_,.cons h1 h2,r,e=>by
  rw[aG]at r
  obtain⟨x,r,rfl,d,f⟩:=r
  cases e with
  |cons e1 e2=>
   obtain⟨c,g⟩:=bX I a h1 d e1
   obtain⟨bs,h⟩:=hZ I a h2 f e2
   exact⟨_,.cons g h⟩
end
end
inductive Qa(g:Bool->Bool)(x y:D)(M:MH)(Q:DK):Prop
 |mk (p q:LP) (h1:Pd M x p) (h2:Pd M y q) (h3:Li p=MB) (h4:Li q=MB) (hq:Q (.bl (g (JL p q))) M):Qa g x y M Q
def Fq:N3:=fun x y M Q=>match x,y with
 |.int i,.int j=>Q (.bl (decide (i=j))) M
 |.bl i,.bl j=>Q (.bl (decide (i=j))) M
 |x,y=>Qa (fun b=>b) x y M Q
def DQ:N3:=fun x y M Q=>match x,y with
 |.int i,.int j=>Q (.bl (!decide (i=j))) M
 |.bl i,.bl j=>Q (.bl (!decide (i=j))) M
 |x,y=>Qa (fun b=>!b) x y M Q
section
variable{X:Cx}
theorem CI(d:X.A.units+64<K0):N4 X (JD .Eq) (Qa fun b=>b):=by intro MN s σ H v u t w Q I e f h;obtain⟨x,y,M,R,g,i,a,⟨p,q,j,k,l,m,n⟩,c⟩:=h;obtain⟨z,o⟩:=bX I a j g e;obtain⟨bs,r⟩:=bX I a k i f;exact eq_dataH o r l m d ⟨.bl _,H,I,rfl,c _ _ _ _ .refl (by rw[Rep]) a n⟩
theorem Ej(d:X.A.units+64<K0):N4 X (JD .NotEq) (Qa fun b=>!b):=by intro MN s σ H v u t w Q I e f h;obtain⟨x,y,M,R,g,i,a,⟨p,q,j,k,l,m,n⟩,c⟩:=h;obtain⟨z,o⟩:=bX I a j g e;obtain⟨bs,r⟩:=bX I a k i f;exact ne_dataH o r l m d ⟨.bl _,H,I,rfl,c _ _ _ _ .refl (by rw[Rep]) a n⟩
theorem lh{i j:Int}:(i==j)=decide (i=j):=by by_cases h:i=j<;>simp[h]
theorem qC{i j:Bool}:(i==j)=decide (i=j):=by cases i<;>cases j<;>rfl
theorem cu(c:X.A.units+64<K0):N4 X (JD .Eq) Fq:=iX (CI c) fun v u H Q d=>by
 obtain⟨x,y,M,R,e,f,a,q,b⟩:=d;refine⟨x,y,M,R,e,f,a,?_,b⟩;unfold Fq at q;split at q
 ·exact⟨_,_,.int _,.int _,rfl,rfl,by simpa[JL,lh]using q⟩
 ·exact⟨_,_,.bl _,.bl _,rfl,rfl,by simpa[JL,qC]using q⟩
 ·exact q
theorem fI(c:X.A.units+64<K0):N4 X (JD .NotEq) DQ:=iX (Ej c) fun v u H Q d=>by
 obtain⟨x,y,M,R,e,f,a,q,b⟩:=d;refine⟨x,y,M,R,e,f,a,?_,b⟩;unfold DQ at q;split at q
 ·exact⟨_,_,.int _,.int _,rfl,rfl,by simpa[JL,lh]using q⟩
 ·exact⟨_,_,.bl _,.bl _,rfl,rfl,by simpa[JL,qC]using q⟩
 ·exact q
def YU(x y:D):Option Bool:=match y with
 |.non=>LZ (match x with
  |.non=>MB
  |_=>MC)
 |.bl b=>LZ (match x with
  |.bl a=>decide (a=b)
  |_=>MC)
 |_=>MA
inductive SV(g:Bool->Bool)(x y:D)(M:MH)(Q:DK):Prop
 |mk (b:Bool) (h:YU x y=LZ b) (q:Q (.bl (g b)) M):SV g x y M Q
def IC:N3:=SV fun b=>b
theorem wA{K:I0}{H:Hp}{x y:D}{b:Bool}{v u:V}{k l:IQ}(h:YU x y=LZ b)(g:Rep K H x v)(m:Rep K H y u)(i:L2.RelV v k)(j:L2.RelV u l):plainIs k l=MB/\(k==l)=b:=by
 have f:∀{c:IQ} {d:Bool},l=c->LZ d=LZ b->plainIs k c=MB->(k==c)=d->plainIs k l=MB/\(k==l)=b:=fun e h p q=>by cases h;subst e;exact⟨p,q⟩
 cases y with
 |non=>
  rw[Rep]at m;subst m
  cases x<;>rw[Rep]at g
  case non=>subst g;cases (show k=KL from i);exact f j h rfl rfl
  case bl=>subst g;cases (show k=Value.bool _ from i);exact f j h rfl rfl
  case int=>subst g;obtain⟨t,rfl⟩:=i;exact f j h rfl rfl
  case str=>subst g;obtain⟨t,rfl⟩:=i;exact f j h rfl rfl
  case ty=>subst g;cases i;exact f j h rfl rfl
  case ref=>subst g;cases i;exact f j h rfl rfl
  all_goals (obtain⟨a,xs,rfl,_⟩:=g;cases i;exact f j h rfl rfl)
 |bl c=>
  rw[Rep]at m;subst m
  cases x<;>rw[Rep]at g
  case non=>subst g;cases (show k=KL from i);exact f j h rfl rfl
  case bl c'=>subst g;cases (show k=Value.bool _ from i);exact f j h rfl (by cases c<;>cases c'<;>rfl)
  case int=>subst g;obtain⟨t,rfl⟩:=i;exact f j h rfl rfl
  case str=>subst g;obtain⟨t,rfl⟩:=i;exact f j h rfl rfl
  case ty=>subst g;cases i;exact f j h rfl rfl
  case ref=>subst g;cases i;exact f j h rfl rfl
  all_goals (obtain⟨a,xs,rfl,_⟩:=g;cases i;exact f j h rfl rfl)
 |_=>cases h
theorem vy:N4 X (JD .Is) IC:=by intro MN s σ H v u j k Q I d f h;obtain⟨x,y,M,R,g,i,a,⟨b,e,q⟩,c⟩:=h;obtain⟨e1,e2⟩:=wA e g i d f;exact wpAny_is_plain e1 ⟨.bl b,H,I,by rw[e2];rfl,c _ _ _ _ .refl (by rw[Rep]) a q⟩
end
abbrev RC:=rx->MH->DK->Prop
def Cz(K:I0)(r:RC):ro->Hp->VK->Prop:=fun vs H Q=>∃a M R,aG K H a vs/\My K H M/\r a M R/\Fin K H R Q
def dP(X:Cx)(f:IQ)(r:RC):Prop:=cg X f (Cz X.K r)
theorem cf{X:Cx}{f:IQ}{r b:ro->Hp->VK->Prop}(h:cg X f r)(k:∀xs H Q,b xs H Q->r xs H Q):cg X f b:=fun MN s σ H xs us Q I a q=>h MN s σ H xs us Q I a (k _ _ _ q)
def Et(r:RC)(t:NN):TD:=fun δ M Q=>t δ M fun a b=>r a b Q
theorem vL{K:I0}{r:RC}{t:NN}{σ:L2.St}{H:Hp}{Q:VK}(h:lift K (Et r t) σ H Q):WR (Cz K r) (zg K t) σ H Q:=by obtain⟨δ,M,R,b,c,q,a⟩:=h;exact⟨δ,M,_,b,c,q,fun d e vs H1 f g i j=>⟨d,e,R,g,i,j,a.go f⟩⟩
section
variable{X:Cx}{x:Str}{p pos:Pos}{e:oT}{es:ra}{t:NN}{id T:String}{r:RC}
theorem aP(c:dP X (.builtin id) r)(d:Gl X x)(f:X.mg x=MA)(g:JT x=LZ (.builtin id))(i:DA X (e::es) t)(j:x≠"__name__":=by decide)(a:(x==("__debug__":Str))=MC:=by decide) (k:Je (e::es) X.env=(MC,eval e X.env)::Je es X.env:=by rfl) (b:(Kr pos (Je es X.env)).any (·.1)=MC:=by rfl):DE X (.Call (.Name x p) (e::es) [] pos) (Et r t):=bj (yS c d f g i j a k b) fun _ _ _ h=>vL h
theorem cH(c:dP X (.type T) r)(d:Gl X x)(f:X.mg x=MA)(g:JT x=LZ (.type T))(i:DA X (e::es) t)(j:x≠"__name__":=by decide)(a:(x==("__debug__":Str))=MC:=by decide) (k:Je (e::es) X.env=(MC,eval e X.env)::Je es X.env:=by rfl) (b:(Kr pos (Je es X.env)).any (·.1)=MC:=by rfl):DE X (.Call (.Name x p) (e::es) [] pos) (Et r t):=bj (wX c d f g i j a k b) fun _ _ _ h=>vL h
theorem cv{K:I0}{H:Hp}{d:D}{vs:ro}(h:aG K H [d] vs):∃v,vs=[v]/\Rep K H d v:=by rw[aG]at h;obtain⟨x,r,rfl,b,a⟩:=h;rw[aG]at a;subst a;exact⟨x,rfl,b⟩
theorem fG{K:I0}{H:Hp}{d e:D}{vs:ro}(h:aG K H [d,e] vs):∃v u,vs=[v,u]/\Rep K H d v/\Rep K H e u:=by rw[aG]at h;obtain⟨x,r,rfl,a,b⟩:=h;obtain⟨u,rfl,c⟩:=cv b;exact⟨x,u,rfl,a,c⟩
def HC:RC:=fun a M Q=>match a with
 |[.int i]=>Q (.int (i.natAbs:Int)) M
 |_=>False
theorem pM:dP X (.builtin "abs") HC:=cf ze fun vs H Q f=>by
 obtain⟨b,M,R,g,a,q,c⟩:=f;rcases b with _|⟨d,b⟩
 ·exact Js q
 cases d<;>rcases b with _|⟨e,b⟩<;>try exact Js q
 ·rename_i i;obtain⟨v,rfl,r⟩:=cv g;rw[Rep]at r;subst r;have e:(if i<0 then -i else i)=(i.natAbs:Int):=by split<;>omega
  exact⟨_,rfl,c _ _ _ _ .refl (by rw[Rep,e]) a q⟩
def II:RC:=fun a M Q=>match a with
 |[.int i,.int j]=>Q (.int (max i j)) M
 |_=>False
def Ij:RC:=fun a M Q=>match a with
 |[.int i,.int j]=>Q (.int (min i j)) M
 |_=>False
theorem DL(h:X.calm=MB):dP X (.builtin "max") II:=cf (xf h) fun vs H Q k=>by
 obtain⟨b,M,R,l,a,q,c⟩:=k;rcases b with _|⟨d,b⟩
 ·exact Js q
 cases d<;>rcases b with _|⟨e,b⟩<;>try exact Js q
 all_goals (cases e<;>rcases b with _|⟨f,b⟩<;>try exact Js q)
 ·rename_i i j;obtain⟨v,u,rfl,r,g⟩:=fG l;rw[Rep]at r;subst r;have m:u=.int j:=by rw[Rep]at g;exact g
  subst m;have e:(if j>i then j else i)=max i j:=by split<;>omega
  exact⟨_,_,rfl,c _ _ _ _ .refl (by rw[Rep,e]) a q⟩
theorem EA(h:X.calm=MB):dP X (.builtin "min") Ij:=cf (we h) fun vs H Q k=>by
 obtain⟨b,M,R,l,a,q,c⟩:=k;rcases b with _|⟨d,b⟩
 ·exact Js q
 cases d<;>rcases b with _|⟨e,b⟩<;>try exact Js q
 all_goals (cases e<;>rcases b with _|⟨f,b⟩<;>try exact Js q)
 ·rename_i i j;obtain⟨v,u,rfl,r,g⟩:=fG l;rw[Rep]at r;subst r;have m:u=.int j:=by rw[Rep]at g;exact g
  subst m;have e:(if j<i then j else i)=min i j:=by split<;>omega
  exact⟨_,_,rfl,c _ _ _ _ .refl (by rw[Rep,e]) a q⟩
def IA:RC:=fun a M Q=>match a with
 |[.tup xs]=>Q (.int (xs.length:Int)) M
 |[.rol xs]=>Q (.int (xs.length:Int)) M
 |[.ref l]=>∃xs,M l=LZ (.lst xs)/\Q (.int (xs.length:Int)) M
 |_=>False
theorem dN:dP X (.builtin "len") IA:=cf pQ fun vs H Q i=>by
 obtain⟨g,M,R,h,a,q,b⟩:=i;rcases g with _|⟨d,g⟩
 ·exact Js q
 cases d<;>rcases g with _|⟨e,g⟩<;>try exact Js q
 ·obtain⟨v,rfl,r⟩:=cv h;rw[Rep]at r;subst r;obtain⟨xs,e,q⟩:=q;obtain⟨j,c,f⟩:=a _ _ e;exact⟨_,j,rfl,.inl (ND.of c),b _ _ _ _ .refl (by rw[Rep,f.length]) a q⟩
 ·obtain⟨v,rfl,r⟩:=cv h;rw[Rep]at r;obtain⟨l,xs,rfl,c,f⟩:=r;exact⟨l,xs,rfl,.inl c.sql,b _ _ _ _ .refl (by rw[Rep,f.length]) a q⟩
 ·obtain⟨v,rfl,r⟩:=cv h;rw[Rep]at r;obtain⟨l,xs,rfl,c,f⟩:=r;exact⟨l,xs,rfl,.inr c,b _ _ _ _ .refl (by rw[Rep,f.length]) a q⟩
def EY:RC:=fun a M Q=>match a with
 |[.tup xs]=>Q (.tup xs) M
 |[.rol xs]=>Q (.tup xs) M
 |[.ref l]=>∃xs,M l=LZ (.lst xs)/\Q (.tup xs) M
 |_=>False
theorem rh:dP X (.type "tuple") EY:=cf nH fun vs H Q k=>by
 obtain⟨h,M,R,i,a,q,b⟩:=k;rcases h with _|⟨d,h⟩
 ·exact Js q
 cases d<;>rcases h with _|⟨e,h⟩<;>try exact Js q
 ·obtain⟨v,rfl,r⟩:=cv i;rw[Rep]at r;subst r;obtain⟨xs,e,q⟩:=q;obtain⟨j,f,g⟩:=a _ _ e;exact⟨_,j,rfl,.inl ⟨ND.of f,fun p c=>b _ _ _ _ (.new c) (by rw[Rep];exact⟨p,j,rfl,NB.of bc,g.mono (.new c)⟩) (a.new c) q⟩⟩
 ·obtain⟨v,rfl,r⟩:=cv i;rw[Rep]at r;obtain⟨l,xs,rfl,f,g⟩:=r;exact⟨l,xs,rfl,.inl ⟨f.sql,fun p c=>b _ _ _ _ (.new c) (by rw[Rep];exact⟨p,xs,rfl,NB.of bc,g.mono (.new c)⟩) (a.new c) q⟩⟩
 ·obtain⟨v,rfl,r⟩:=cv i;rw[Rep]at r;obtain⟨l,xs,rfl,f,g⟩:=r;exact⟨l,xs,rfl,.inr ⟨f,b _ _ _ _ .refl (by rw[Rep];exact⟨l,xs,rfl,f,g⟩) a q⟩⟩
def Ge:RC:=fun a M Q=>match a with
 |[.int i]=>Q (.int i) M
 |[.bl k]=>Q (.int (if k=MB then 1 else 0)) M
 |_=>False
theorem lP:dP X (.type "int") Ge:=cf vY fun vs H Q g=>by
 obtain⟨c,M,R,f,a,q,b⟩:=g;rcases c with _|⟨d,c⟩
 ·exact Js q
 cases d<;>rcases c with _|⟨e,c⟩<;>try exact Js q
 ·obtain⟨v,rfl,r⟩:=cv f;rw[Rep]at r;subst r;exact .inr ⟨_,rfl,b _ _ _ _ .refl (by rw[Rep]) a q⟩
 ·obtain⟨v,rfl,r⟩:=cv f;rw[Rep]at r;subst r;exact .inl ⟨_,rfl,b _ _ _ _ .refl (by rw[Rep]) a q⟩
def Ye:D->Option String
 |.non=>LZ "NoneType"
 |.bl _=>LZ "bool"
 |.int _=>LZ "int"
 |.str _=>LZ "str"
 |.tup _=>LZ "tuple"
 |.rol _=>LZ "list"
 |_=>MA
def vz(K:I0):RC:=fun a M Q=>match a with
 |[x,.ty n]=>∃t b,Ye x=LZ t/\PySem.W.kitOne K (.type t) (.type n)=LZ b/\Q (.bl b) M
 |_=>False
theorem wz:dP X (.builtin "isinstance") (vz X.K):=by
 intro MN s σ H vs us Q I A B;obtain⟨F,M,R,C,a,q,g⟩:=B;unfold vz at q;split at q
 ·rename_i x n;obtain⟨v,u,rfl,r,w⟩:=fG C;rw[Rep]at w;subst w;obtain⟨f,D,rfl,c,E⟩:=vals2 A;cases (show D=LV n from E);obtain⟨t,b,d,e,q⟩:=q;have h:∀i,EP X MN σ Q (.bool b) { s with toks:=i }:=fun i=>⟨.bl b,H,I.tok i,rfl,g _ _ _ _ .refl (by rw[Rep]) a q⟩;cases x with
  |non=>cases d;rw[Rep]at r;subst r;cases (show f=KL from c);exact PySem.W.kia_one PySem.W.kitx_none I.kIn LL e (fun z=>nomatch z) h
  |bl y=>cases d;rw[Rep]at r;subst r;cases (show f=Value.bool y from c);exact PySem.W.kia_one PySem.W.kitx_bool I.kIn LL e (fun z=>nomatch z) h
  |int y=>cases d;rw[Rep]at r;subst r;obtain⟨t,q⟩:=(show ∃t,f=Value.int y t from c);cases q;exact PySem.W.kia_one PySem.W.kitx_int I.kIn LL e (fun z=>nomatch z) h
  |str y=>cases d;rw[Rep]at r;subst r;obtain⟨t,q⟩:=(show ∃t,f=Value.str y t from c);cases q;exact PySem.W.kia_one PySem.W.kitx_str I.kIn LL e (fun z=>nomatch z) h
  |tup y=>
   cases d;rw[Rep]at r
   obtain⟨p,xs,rfl,j,_⟩:=r
   cases (show f=Kc p from c)
   obtain⟨k,_,⟨o,l,m,_⟩,_⟩:=I.tuple j
   exact PySem.W.kia_one PySem.W.kitx_tuple I.kIn ⟨o,l,m⟩ e (fun z=>nomatch z) h
  |rol y=>
   cases d;rw[Rep]at r
   obtain⟨p,xs,rfl,j,_⟩:=r
   cases (show f=Kc p from c)
   obtain⟨k,_,⟨o,n,l,m,_⟩,_⟩:=I.list j.sql
   exact PySem.W.kia_one PySem.W.kitx_list I.kIn ⟨o,l,m⟩ e (fun z=>nomatch z) h
  |_=>cases d
 ·exact q.elim
end
abbrev PB:=D->DS->MH->(DS->MH->Prop)->Prop
abbrev sr:=rx->DS->MH->(DS->MH->Prop)->Prop
section
variable(K:I0)
def zh(H:Hp)(R:DS->MH->Prop)(Q:L2.St->Hp->Prop):Prop:=∀a d b c,Mp K H c->Slots K c a b->My K c d->R a d->Q b c
def Fh(t:PB):TG:=fun v σ H Q=>∃d δ M R,Rep K H d v/\Slots K H δ σ/\My K H M/\t d δ M R/\zh K H R Q
def CQ(t:sr):Qy:=fun vs σ H Q=>∃a δ M R,aG K H a vs/\Slots K H δ σ/\My K H M/\t a δ M R/\zh K H R Q
end
theorem zh.go{K:I0}{H H1:Hp}{R:DS->MH->Prop}{Q:L2.St->Hp->Prop}(g:Mp K H H1)(h:zh K H R Q):zh K H1 R Q:=fun d M v a b=>h d M v a (g.trans b)
namespace Zq
@[scoped irreducible]def _root_.SD.DG(X:Cx)(e:oT)(t:PB):Prop:=PG X e (Fh X.K t)
@[scoped irreducible]def _root_.SD.DGs(X:Cx)(es:ra)(t:sr):Prop:=Rg X es (CQ X.K t)
end Zq
theorem tK{X:Cx}{e:oT}{t t':TG}(h:PG X e t)(k:∀v σ H Q,t' v σ H Q->t v σ H Q):PG X e t':=fun MN s σ H v u Q I r q=>h MN s σ H v u Q I r (k _ _ _ _ q)
theorem uY{X:Cx}{e:ra}{t t':Qy}(h:Rg X e t)(k:∀v σ H Q,t' v σ H Q->t v σ H Q):Rg X e t':=fun MN s σ H v u Q I r q=>h MN s σ H v u Q I r (k _ _ _ _ q)
section
variable{X:Cx}{pos:Pos}
def aT(i:Nat):PB:=fun d δ M Q=>Q (δ.set i (LZ d)) M
theorem aB(i:Nat){x:Str}(e:X.N.Nodup)(f:X.N[i]?=LZ x:=by rfl)(g:Loc X.env.scope x:=by first|exact Or.inl rfl|exact Or.inr rfl)(hf:X.fn x=MB\/X.env.scope.names.lookup x=LZ .local:=by first|exact .inl rfl|exact .inr rfl|assumption):DG X (.Name x pos) (aT i):=tK (vH e f g hf) fun v σ H Q b=>by obtain⟨d,δ,M,R,r,h,a,q,c⟩:=b;exact(c _ _ _ _ .refl (h.set r i) a q)
def GC:sr:=fun a δ M Q=>a=[]/\Q δ M
inductive Qe(t:PB)(u:sr)(ds:rx)(δ:DS)(M:MH)(Q:DS->MH->Prop):Prop
 |mk (d:D) (r:rx) (h:ds=d::r) (q:t d δ M fun δ' M'=>u r δ' M' Q):Qe t u ds δ M Q
theorem a9:DGs X [] GC:=uY ur fun vs σ H Q d=>by obtain⟨g,δ,M,R,c,f,a,⟨e,q⟩,b⟩:=d;subst e;rw[aG]at c;exact⟨c,b _ _ _ _ .refl f a q⟩
theorem aC{e:oT}{es:ra}{t:PB}{u:sr}(i:DG X e t)(j:DGs X es u) (b:(LK (e::es) X.env).map (·.2)=LN e X.env::(LK es X.env).map (·.2):=by rfl):DGs X (e::es) (Qe t u):=uY (l9 i j b) fun vs σ H Q k=>by obtain⟨w,δ,M,R,g,b,a,⟨d,r,e,q⟩,c⟩:=k;subst e;rw[aG]at g;obtain⟨x,xs,rfl,l,m⟩:=g;exact⟨x,xs,rfl,d,δ,M,_,l,b,a,q,fun f n o y h p s v=>⟨r,f,n,R,m.mono h,p,s,v,c.go h⟩⟩
inductive RV(n:Nat)(t:sr)(d:D)(δ:DS)(M:MH)(Q:DS->MH->Prop):Prop
 |mk (ds:rx) (h:d=.tup ds) (q:ds.length=n/\t ds δ M Q):RV n t d δ M Q
theorem bI{es:ra}{k:Nat}{t:sr}{n:Nat}(g:X.calm=MB)(h:DGs X es t) (i:(LK es X.env).length=n:=by rfl) (b:(LK es X.env).findIdx? (·.1)=MA:=by rfl):DG X (.Tuple es k pos) (RV n t):=tK (xn g h i b) fun v σ H Q j=>by obtain⟨d,δ,M,R,r,l,a,⟨m,e,o,q⟩,c⟩:=j;subst e;rw[Rep]at r;obtain⟨p,xs,rfl,s,f⟩:=r;exact⟨p,xs,rfl,s,by rw[<-f.length];exact o,m,δ,M,R,f,l,a,q,c⟩
def Co:D->D->D->MH->(MH->Prop)->Prop:=fun o i v M Q=>match o,i with
 |.ref p,.int k=>∃a j,M p=LZ (.lst a)/\ixN a.length k=LZ j/\Q (az M p (.lst (a.set j v)))
 |_,_=>False
def FU(a b:TD):PB:=fun v δ M Q=>a δ M fun o c=>b δ c fun i d=>Co o i v d fun e=>Q δ e
theorem pb{o i:oT}{k l:TD}(t:DE X o k)(u:DE X i l)
 (w:∀v,LN (.Subscript o i pos) X.env v=(do
  let ov <-holding [v] (eval o X.env)
  let iv <-holding [v,ov] (eval i X.env)
  standAt pos
  holding [v,ov,iv] (setItem ov iv v)
  release [v,ov,iv] []):=by intro _;rfl):DG X (.Subscript o i pos) (FU k l):=
 tK (CW t u set_list w) fun v σ H Q x=>by
  obtain⟨d,δ,M,R,r,e,a,q,f⟩:=x
  exact⟨δ,M,_,e,a,q,fun o y z H1 c A B C=>⟨δ,y,_,e.mono c,B,C,fun i F D m g E n b=>by
   unfold Co at b
   split at b
   ·obtain⟨G,j,e1,e2,b⟩:=b
    obtain rfl:z=.ref _:=A
    obtain rfl:D=.int _:=E
    obtain⟨xs,h,p⟩:=n _ _ e1
    refine⟨_,xs,_,j,rfl,rfl,h,by rw[<-p.length];exact e2,?_⟩
    have s:Mp X.K m (upd m _ (.lst (xs.set j v))):=.lst h
    exact f _ _ _ _ ((c.trans g).trans s) (e.mono ((c.trans g).trans s)) (n.za h (p.set (r.mono (c.trans g)) j)) b
   ·exact b.elim⟩⟩
end
section
variable{X:Cx}{pos:Pos}{st:n_}{rest:q_}{t u:NV}
def dq:NV:=fun B δ M=>B.nx δ M
def gi(t u:NV):NV:=fun B δ M=>t (B.nxt (u B)) δ M
theorem aO:DSs X [] dq:=vf Bk fun E σ H b=>by obtain⟨δ,M,c,a,B,ok,q⟩:=b;exact(ok.nx _ _ _ _ .refl c a q)
theorem ak(d:DSt X st t)(e:DSs X rest u):DSs X (st::rest) (gi t u):=vf (xS d e) fun E σ H b=>by obtain⟨δ,M,f,a,B,ok,q⟩:=b;exact(⟨δ,M,f,a,B.nxt (u B),⟨fun c h i m g j k l=>⟨c,h,j,k,B,ok.go g,l⟩,ok.rt,ok.bk,ok.ct⟩,q⟩)
theorem au(a:DSt X st t):DSs X [st] t:=BF a
def A5:NV:=fun _ _ _=>False
theorem rL:DSt X st A5:=cU xh fun E σ H b=>by obtain⟨δ,M,c,a,B,ok,q⟩:=b;exact(q.elim)
def eJ(te:TD):NV:=fun B δ M=>te δ M fun _ a=>B.nx δ a
theorem cw{e:oT}{te:TD}(g:DE X e te)(c:Lo e MA pos.line X.env=pure MC:=by rfl):DSt X (.Expr e pos) (eJ te):=cU (zZ g c) fun E σ H b=>by obtain⟨δ,M,c,a,B,ok,q⟩:=b;exact(⟨δ,M,_,c,a,q,fun d j v H1 f k h i=>ok.nx _ _ _ _ f (c.mono f) h i⟩)
def gE(te:TD):NV:=fun B δ M=>te δ M B.rt
theorem aD{e:oT}{te:TD}(c:DE X e te):DSt X (.Return (LZ e) pos) (gE te):=cU (EN c) fun E σ H b=>by obtain⟨δ,M,f,a,B,ok,q⟩:=b;exact(⟨δ,M,_,f,a,q,fun d k v H1 g h i j=>ok.rt _ _ _ _ g h i j⟩)
def gU(c:NT)(t u:NV):NV:=fun B δ M=>c δ M fun b a=>if b=MB then t B δ a else u B δ a
theorem bo{c:oT}{a b:q_}{tc:NT}(j:DT X c tc)(k:DSs X a t)(l:DSs X b u):DSt X (.If c a b pos) (gU tc t u):=
 cU (Gp j k l) fun E σ H d=>by obtain⟨δ,M,g,a,B,ok,q⟩:=d;exact(⟨δ,M,_,g,a,q,fun c h H1 e i f=>by
  cases c with
  |true=>rw[ME rfl]at f ⊢;exact⟨δ,h,g.mono e,i,B,ok.go e,f⟩
  |false=>rw[MD J9]at f ⊢;exact⟨δ,h,g.mono e,i,B,ok.go e,f⟩⟩)
def dQ(te:TD)(g:PB):NV:=fun B δ M=>te δ M fun d a=>g d δ a B.nx
theorem bZ{tg e:oT}{te:TD}{g:PB}(h:DE X e te)(i:DG X tg g)(c:swapsWithSole [tg] e pos.line X.env=pure MC:=by rfl)(hw:swappedStores [tg] e X.env=pure MA:=by rfl)
 (j:(LK [tg] X.env).map (·.2)=[LN tg X.env]:=by rfl):DSt X (.Assign [tg] e pos) (dQ te g):=
 cU (DJ h i c hw j) fun E σ H b=>by obtain⟨δ,M,c,a,B,ok,q⟩:=b;exact(⟨δ,M,_,c,a,q,fun d k v H1 f l m n=>
  ⟨d,δ,k,B.nx,l,c.mono f,m,n,fun o y p z r s w x=>ok.nx _ _ _ _ (f.trans r) s w x⟩⟩)
theorem aA(i:Nat){x:Str}{e:oT}{te:TD}{c:Pos}(h:X.N.Nodup)(j:DE X e te)(k:X.N[i]?=LZ x:=by rfl)(l:Loc X.env.scope x:=by first|exact Or.inl rfl|exact Or.inr rfl)(f:Lo e (LZ (.Name x c)) pos.line X.env=pure MC:=by rfl) (hf:X.fn x=MB\/X.env.scope.names.lookup x=LZ .local:=by first|exact .inl rfl|exact .inr rfl|assumption):DSt X (.Assign [.Name x c] e pos) (dQ te (aT i)):=cU (CS h k l j f hf) fun E σ H b=>by obtain⟨δ,M,f,a,B,ok,q⟩:=b;exact(⟨δ,M,_,f,a,q,fun d p v H1 g m n o=>ok.nx _ _ _ _ g ((f.mono g).set m i) n o⟩)
def Hm(i j:Nat)(a:NN):NV:=fun B δ M=>a δ M fun b c=>∃d e,b=[d,e]/\B.nx ((δ.set i (LZ d)).set j (LZ e)) c
theorem gb(i j:Nat){x y:Str}{a b:oT}{o:NN}{h k pt:Pos}{l m f}(r:X.calm=MB)(s:X.N.Nodup)(w:DA X [a,b] o)(n:i≠j:=by decide)(A:X.N[i]?=LZ x:=by rfl)(C:X.N[j]?=LZ y:=by rfl)
 (D:X.env.scope.names.lookup x=LZ .local:=by rfl) (F:X.env.scope.names.lookup y=LZ .local:=by rfl)
 (hw:swappedStores [.Tuple [.Name x h,.Name y k] l pt] (.Tuple [a,b] m f) X.env=pure (LZ [x,y]):=by rfl)
 (g:swapsWithSole [.Tuple [.Name x h,.Name y k] l pt] (.Tuple [a,b] m f) pos.line X.env=pure MC:=by rfl) :
 DSt X (.Assign [.Tuple [.Name x h,.Name y k] l pt] (.Tuple [a,b] m f) pos) (Hm i j o):=
 cU (CB r s A C n D F w hw g) fun E σ H c=>by obtain⟨δ,M,g,a,B,ok,q⟩:=c;exact(⟨δ,M,_,g,a,q,fun P Q vs H1 p G I J=>by
  obtain⟨d,e,z,K⟩:=J
  subst z
  obtain⟨v,u,rfl,L,O⟩:=fG G
  exact⟨v,u,rfl,ok.nx _ _ _ _ p (((g.mono p).set L i).set O j) I K⟩⟩)
def Bb(c:NT)(f:NV):NV:=fun B δ M=>∃W:Nat->DS->MH->Prop,(∃m,W m δ M)/\∀m δ M,W m δ M->
 c δ M fun b d=>if b=MB then f (B.lp fun a g=>∃e,e<m/\W e a g) δ d else B.nx δ d
theorem gT{c:oT}{body:q_}{tc:NT}{I:NV}(L:PassesOwn (Jf X.prog X.w) X.A X.env X.xe)(N:DT X c tc)(O:DSs X body I):DSt X (.While c body [] pos) (Bb tc I):=
 cU (zG L N O) fun E σ H P=>by
  obtain⟨δ,M,q,a,B,ok,W,⟨m,C⟩,r⟩:=P
  refine⟨fun m σ e=>Mp X.K H e/\∃δ M,Slots X.K e δ σ/\My X.K e M/\W m δ M,⟨m,.refl,δ,M,q,a,C⟩,?_⟩
  rintro m σ e ⟨g,δ,M,q,a,C⟩
  refine⟨δ,M,_,q,a,r m δ M C,fun b Q H1 k J y=>?_⟩
  cases b with
  |true=>
   rw[ME rfl]at y ⊢
   refine⟨fun D F=>∃p,p<m/\(Mp X.K H F/\∃δ M,Slots X.K F δ D/\My X.K F M/\W p δ M),fun n e h=>h,δ,Q,q.mono k,J,_,?_,y⟩
   refine⟨fun f z n e o s x i=>by obtain⟨p,l,G⟩:=i;exact(⟨p,l,(g.trans k).trans o,f,z,s,x,G⟩),fun d M v e o=>ok.rt d M v e ((g.trans k).trans o),fun f z n e o s x R=>ok.nx _ _ _ _ ((g.trans k).trans o) s x R,fun f z n e o s x j=>by obtain⟨p,l,G⟩:=j;exact(⟨p,l,(g.trans k).trans o,f,z,s,x,G⟩)⟩
  |false=>
   rw[MD J9]at y ⊢
   exact ok.nx _ _ _ _ (g.trans k) (q.mono k) J y
inductive Vy(g:PB)(tb:NV)(B:EndsD)(n:Nat)(δ0:DS)(M0:MH):Prop
 |mk (W:Nat->DS->MH->Prop) (w0:W 0 δ0 M0) (turn:∀i δ M,i<n->W i δ M->g (.int (i:Int)) δ M fun δ2 M2=>tb (B.lp (W (i+1))) δ2 M2) (done:∀δ M,W n δ M->B.nx δ M):Vy g tb B n δ0 M0
inductive Vz(g:PB)(tb:NV)(B:EndsD)(ds:rx)(δ0:DS)(M0:MH):Prop
 |mk (n:Nat) (e:ds=[.int (n:Int)]) (q:n<2^60/\Vy g tb B n δ0 M0):Vz g tb B ds δ0 M0
def Dy(a:NN)(g:PB)(b:NV):NV:=fun B δ M=>a δ M fun c d=>Vz g b B c δ d
theorem dg{tg e:oT}{body:q_}{I:NN}{g:PB}{J:NV}{p L:Pos}(O:PassesOwn (Jf X.prog X.w) X.A X.env X.xe)(P:X.calm=MB)(Q:Gl X "range")(R:X.mg "range"=MA)(S:DA X [e] I)(T:DG X tg g)(U:DSs X body J)
 (o:Je [e] X.env=[(MC,eval e X.env)]:=by rfl) (hf:∀x,Jz (.Call (.Name "range" p) [e] [] L) X.env x=pure x:=by intro _;rfl):DSt X (.For tg (.Call (.Name "range" p) [e] [] L) body [] pos) (Dy I g J):=
 cU (xD O P (oI Q R S o) T U hf) fun E σ H ⟨δ,M,o,a,B,ok,q⟩=>⟨δ,M,_,o,a,q,fun ds V vs H1 N Y Z z9=>by
  obtain⟨n,e,hn,W,w0,j,done⟩:=z9
  subst e
  obtain⟨v,rfl,r⟩:=cv Y
  rw[Rep]at r;subst r
  refine⟨(n:Int),rfl,(),(),?_⟩
  rw[show((n:Int)).toNat=n from by simp]
  refine wg (fun i σ c=>Mp X.K H c/\∃δ M,Slots X.K c δ σ/\My X.K c M/\W i δ M) ⟨N,δ,V,o.mono N,Z,w0⟩ ?_ ?_
  ·rintro i σ H2 hi ⟨h,δ,M,z,C,D⟩
   refine⟨.int (i:Int),δ,M,_,by rw[Rep];simp,z,C,j i δ M hi D,fun F M3 a0 H3 s s3 a3 q3=>?_⟩
   refine⟨F,M3,s3,a3,_,?_,q3⟩
   exact⟨fun b y k c f l m G=>⟨(h.trans s).trans f,b,y,l,m,G⟩,fun d M v c f=>ok.rt d M v c ((h.trans s).trans f),fun b y k c f l m q'=>ok.nx _ _ _ _ ((h.trans s).trans f) l m q',fun b y k c f l m G=>⟨(h.trans s).trans f,b,y,l,m,G⟩⟩
  ·rintro σ H2 ⟨h,δ,M,z,C,D⟩
   exact ok.nx _ _ _ _ h z C (done δ M D)⟩
end
theorem rY{b:Bool}{A B:Prop}(e:b=MB)(h:A):if b=MB then A else B:=by rw[ME e];exact h
theorem jf{b:Bool}{A B:Prop}(e:b=MC)(h:B):if b=MB then A else B:=by rw[MD (by rw[e];exact J9)];exact h
theorem Yy{b c:TD}{δ:DS}{M:MH}{Q:DK}(a d:Bool)(f:∀K:DK,K (.bl a) M->b δ M K)(g:a=MC->∀K:DK,K (.bl d) M->c δ M K)(e:Q (.bl (a||d)) M):BV b c δ M Q:=
 f _ ⟨a,rfl,by
  cases a with
  |true=>rw[ME rfl];exact e
  |false=>rw[MD J9];exact g rfl _ e⟩
theorem Be{b c:TD}{δ:DS}{M:MH}{Q:DK}(a d:Bool)(f:∀K:DK,K (.bl a) M->b δ M K)(g:a=MB->∀K:DK,K (.bl d) M->c δ M K)(e:Q (.bl (a&&d)) M):yc b c δ M Q:=
 f _ ⟨a,rfl,by
  cases a with
  |true=>rw[ME rfl];exact g rfl _ e
  |false=>rw[MD J9];exact e⟩
theorem WH{b c:NT}{δ:DS}{M:MH}{Q:Bool->MH->Prop}(a d:Bool)(f:∀K:Bool->MH->Prop,K a M->b δ M K)(g:a=MC->∀K:Bool->MH->Prop,K d M->c δ M K)(e:Q (a||d) M):Ho b c δ M Q:=
 f _ (by
  cases a with
  |true=>rw[ME rfl];exact e
  |false=>rw[MD J9];exact g rfl _ e)
theorem vZ{b c:NT}{δ:DS}{M:MH}{Q:Bool->MH->Prop}(a d:Bool)(f:∀K:Bool->MH->Prop,K a M->b δ M K)(g:a=MB->∀K:Bool->MH->Prop,K d M->c δ M K)(e:Q (a&&d) M):B1 b c δ M Q:=
 f _ (by
  cases a with
  |true=>rw[ME rfl];exact g rfl _ e
  |false=>rw[MD J9];exact e)
def Aj(r b:N3)(c d tc:TD):TD:=fun δ M Q=>c δ M fun x e=>d δ e fun y f=>r x y f fun z a=>∃k,z=.bl k/\if k=MB then tc δ a fun u g=>b y u g Q else Q (.bl MC) a
theorem xY{X:Cx}{a b c:oT}{o p tc:TD}{pos:Pos}{op f:CmpOp}{r s:N3}(D:N4 X (JD op) r)(m:N4 X (JD f) s)(E:DE X a o)(F:DE X b p)(G:DE X c tc)
 (I:lastMarks [op,f] [b,c]=MC:=by with_unfolding_all rfl):DE X (.Compare a [op,f] [b,c] pos) (Aj r s o p tc):=
 bj (zB D m E F G I) fun σ H Q J=>by
  obtain⟨δ,M,R,n,K,q,g⟩:=J
  refine⟨δ,M,_,n,K,q,fun x L v H1 h N O P=>?_⟩
  refine⟨δ,L,_,n.mono h,O,P,fun y S u H2 i t T U=>?_⟩
  refine⟨x,y,S,_,N.mono i,t,T,U,fun z V w H3 j A B d=>?_⟩
  obtain⟨k,e,l⟩:=d
  subst e
  rw[Rep]at A
  refine⟨k,A,?_⟩
  cases k with
  |true=>
   rw[ME rfl]at l ⊢
   exact⟨δ,V,_,n.mono ((h.trans i).trans j),B,l,fun W Y w' H4 C Z a4 q4=>⟨y,W,Y,R,t.mono (j.trans C),Z,a4,q4,g.go (((h.trans i).trans j).trans C)⟩⟩
  |false=>
   rw[MD J9]at l ⊢
   exact g _ _ _ _ ((h.trans i).trans j) (by rw[Rep]) B l
theorem bU{t u:NV}{B:EndsD}{δ:DS}{M:MH}(W:DS->MH->Prop)(c:∀a b,W a b->u B a b)(d:(∀a b,W a b->u B a b)->t (B.nxt (u B)) δ M):gi t u B δ M:=d c
def Sub(b M:MH):Prop:=∀a o,b a=LZ o->M a=LZ o
def nE(r:n7)(b M:MH):Prop:=∀a o,a≠r->b a=LZ o->M a=LZ o
theorem Sub.refl{M:MH}:Sub M M:=fun _ _ h=>h
theorem Sub.trans{M c d:MH}(a:Sub M c)(b:Sub c d):Sub M d:=fun x o h=>b x o (a x o h)
theorem Sub.new{M b:MH}{p:n7}{o:MO}(c:M p=MA)(s:Sub b M):Sub b (az M p o):=fun a u h=>by rw[ao (fun e=>by subst e;rw[s _ _ h]at c;cases c)];exact s _ _ h
theorem nE.refl{M:MH}{r:n7}:nE r M M:=fun _ _ _ h=>h
theorem nE.new{M b:MH}{r p:n7}{o:MO}(c:M p=MA)(s:nE r b M):nE r b (az M p o):=fun a u ne h=>by rw[ao (fun e=>by subst e;rw[s _ _ ne h]at c;cases c)];exact s _ _ ne h
theorem nE.same{M b:MH}{r:n7}{o:MO}(s:nE r b M):nE r b (az M r o):=fun a u ne h=>by rw[ao ne];exact s _ _ ne h
theorem Sub.EI{M b:MH}{r:n7}{o:MO}(s:nE r b M):Sub (az b r o) (az M r o):=fun a u h=>by
 by_cases e:a=r
 ·subst e;rw[ag]at h ⊢;exact h
 ·rw[ao e]at h ⊢;exact s _ _ e h
inductive Ry(Q:DK)(d:D)(M:MH):Prop
 |mk (M':MH) (s:Sub M' M) (q:Q d M'):Ry Q d M
@[reducible] def qD(Q:DK):EndsD:={ nx:=fun _ a=>Ry Q .non a,rt:=Ry Q }
theorem NA{Q:DK}{d:D}{M:MH}(q:Q d M):Ry Q d M:=⟨M,.refl,q⟩
abbrev PD:=rx->MH->DK->Prop
def iO(K:I0)(sp:PD):Sp:=fun vs H Q _=>∃a M R,aG K H a vs/\My K H M/\sp a M R/\Fin K H R Q
def Cal(P:Jk)(w:JJ)(K:I0)(mg:pd)(base:oa)(k:Nat)(x:Str)(sp:PD):Prop:=
 ∃f fd ps,N9 P w K mg base Ow k f fd ps (iO K sp)/\mg x=LZ (.ref f)/\PySem.W.keepIn K (.ref f)=MB/\Binds K fd ps []
theorem Cal.mono{P:Jk}{w:JJ}{K:I0}{mg:pd}{base:oa}{j k:Nat}{x:Str}{sp:PD}(h:Cal P w K mg base j x sp)(l:j<=k):Cal P w K mg base k x sp:=let⟨f,fd,ps,F,r⟩:=h;⟨f,fd,ps,F.mono l,r⟩
section
variable{X:Cx}{k:Nat}{x:Str}{sp:PD}{p pos:Pos}{e:oT}{es:ra}{t:NN}
def Dt(sp:PD)(t:NN):TD:=fun δ M Q=>t δ M fun a b=>sp a b Q
theorem aq(C:Cal X.prog X.w X.K X.mg X.base k x sp)(g:NF k X.A)(h:DA X (e::es) t)(i:Gl X x:=by rfl)(b:(x==("__debug__":Str))=MC:=by decide)
 (j:Je (e::es) X.env=(MC,eval e X.env)::Je es X.env:=by rfl) (c:(Kr pos (Je es X.env)).any (·.1)=MC:=by rfl):DE X (.Call (.Name x p) (e::es) [] pos) (Dt sp t):=by
 obtain⟨f,fd,ps,F,l,m,n⟩:=C
 refine bj (Ax F g i l m n .nil FL h b j c) fun σ H Q a=>?_
 obtain⟨δ,M,R,o,r,q,d⟩:=a
 refine⟨δ,M,_,o,r,q,fun s u vs H1 v y z B=>?_⟩
 show iO X.K sp (vs++[]) H1 Q E0
 rw[JX]
 exact⟨s,u,R,y,z,B,d.go v⟩
end
def gL(N:rf)(a:rx):DS:=a.map LZ++Ju (N.length-a.length) MA
section
variable{P:Jk}{w:JJ}{K:I0}{mg:pd}{base:oa}
theorem YV{x qual:Str}{st:n_}{f:n7}{fd:LW}{N ps:rf}{k:Nat}{sp:PD}(F:Rh K x qual st f fd)(S:Ml N ps (av st))(len:∀b M Q,sp b M Q->b.length=ps.length)
 (m:∀X:Cx,X.prog=P->True) (body:∀(cdv:IQ) (A:JP) (outer:List Env) (s:IS) (H:Hp) (E:XK),NF k (A.deeper (envOfC qual (av st) s.z f cdv))->
  ∃t,DSs (jY Ow P w K mg base N qual (av st) f cdv A outer s H E).nox (br st) t/\∀b M Q,sp b M Q->t (qD Q) (gL N b) M):N9 P w K mg base Ow (k+1) f fd ps (iO K sp):=by
 refine F.ok S (fun vs H Q E c=>by obtain⟨b,M,R,n,_,q,_⟩:=c;rw[<-n.length];exact len _ _ _ q) fun cdv A outer s H vs Q E B e=>?_
 obtain⟨b,M,R,n,a,q,j⟩:=e
 obtain⟨t,h,C⟩:=body cdv A outer s H E B
 refine⟨_,h,gL N b,M,qu n,a,(qD R),⟨fun D G I u g J o l=>?_,fun d G v u g r o i=>by obtain⟨y,p,l⟩:=i;exact(j _ _ _ _ g r (o.sub p) l),fun _ _ _ _ _ _ _ z=>z,fun _ _ _ _ _ _ _ z=>z⟩,C b M R q⟩
 obtain⟨y,p,l⟩:=l
 exact j .non y .non u g (by rw[Rep]) (o.sub p) l
def Txt(K:I0)(mg:pd)(x:Str)(st:n_):Prop:=∃f fd,Rh K x x st f fd/\mg x=LZ (.ref f)
theorem Txt.mk{h:oa}{x:Str}{st:n_}{f:n7}{oc:IQ}{od an:Option n7}{osl:Array (p_)}{kV b d cdv ct:IQ}(X:K.In h)(G:h.Ns LC mg)(a:PySem.W.nsIn K LC x=LZ (LZ (.ref f))) (l:K.lookup f=LZ ⟨oc,od,.func (Kv x x (cL st) (br st) (av st) .none kV b d an cdv ct),osl⟩) (c:PySem.W.codeIn K cdv x=MB) (k:PySem.W.keepIn K (.ref f)=MB):Txt K mg x st:=⟨f,_,Dq l c k,PySem.W.mg_of X G a⟩
theorem BI{x:Str}{st:n_}{N ps:rf}{k:Nat}{sp:PD}(T:Txt K mg x st)(S:Ml N ps (av st))
 (c:∀(kV b d:IQ) (an:Option n7) (cdv ct:IQ) (us:p4),us.length=ps.length->bindArgs (Kv x x (cL st) (br st) (av st) .none kV b d an cdv ct) ⟨us,[]⟩=pure (ps.zip us))
 (len:∀a M Q,sp a M Q->a.length=ps.length)
 (body:∀(f:n7) (cdv:IQ) (A:JP) (outer:List Env) (s:IS) (H:Hp) (E:XK),NF k (A.deeper (envOfC x (av st) s.z f cdv))->
  ∃t,DSs (jY Ow P w K mg base N x (av st) f cdv A outer s H E).nox (br st) t/\∀a M Q,sp a M Q->t (qD Q) (gL N a) M):Cal P w K mg base (k+1) x sp:=by
 obtain⟨f,fd,F,e⟩:=T
 exact⟨f,fd,ps,YV F S len (fun _ _=>trivial) (body f),e,F.kp,F.binds c⟩
end
theorem oP:JT "abs"=LZ (.builtin "abs"):=by decide +kernel
theorem ua:JT "max"=LZ (.builtin "max"):=by decide +kernel
theorem pC:JT "min"=LZ (.builtin "min"):=by decide +kernel
theorem dJ:JT "len"=LZ (.builtin "len"):=by decide +kernel
theorem DV:JT "all"=LZ (.builtin "all"):=by decide +kernel
theorem nt:JT "isinstance"=LZ (.builtin "isinstance"):=by decide +kernel
theorem qS:JT "tuple"=LZ (.type "tuple"):=by decide +kernel
theorem uA:JT "list"=LZ (.type "list"):=by decide +kernel
theorem mM:JT "int"=LZ (.type "int"):=by decide +kernel
theorem BQ:JT "bool"=LZ (.type "bool"):=by decide +kernel
section
variable{P:Jk}{w:JJ}{K:I0}{mg:pd}
theorem IJ{x:Str}{st:n_}{N:rf}{p:Str}{k:Nat}{sp:PD}{fa:n7}(T:Txt K mg x st)(c:mg x=LZ (.ref fa))(S:Ml N [p] (av st))
 (g:∀(kV a d:IQ) (an:Option n7) (cdv ct:IQ) (us:p4),us.length=[p].length->bindArgs (Kv x x (cL st) (br st) (av st) .none kV a d an cdv ct) ⟨us,[]⟩=pure ([p].zip us))
 (len:∀b M Q,sp b M Q->b.length=[p].length)
 (body:∀(base:oa) (f:n7) (cdv:IQ) (A:JP) (outer:List Env) (s:IS) (H:Hp) (E:XK),NF k (A.deeper (envOfC x (av st) s.z f cdv))->
  ∃t,DSs (jY Ow P w K mg base N x (av st) f cdv A outer s H E).nox (br st) t/\∀b M Q,sp b M Q->t (qD Q) (gL N b) M) :
 ∃fd,(∀(s:IS) (u:IQ),BindsTo s fd ⟨[u],[]⟩ [(p,u)])/\∀base:oa,N9 P w K mg base Ow (k+1) fa fd [p] (iO K sp):=by
 obtain⟨f,fd,F,h⟩:=T
 have e:=c.symm.trans h
 cases e
 refine⟨fd,fun s u=>?_,fun base=>YV F S len (fun _ _=>trivial) (body base _)⟩
 obtain⟨oc,od,kV,a,d,an,cdv,ct,osl,rfl,j,i⟩:=F.ex
 exact .of_eq (g kV a d an cdv ct [u] rfl)
end
theorem yO{l:PySem.W.OpenLaw}{k:Nat}{q:Jk}{i:rf}{t:(pd)->oa->Prop}{p:JJ->oa->Prop}{d:DefRec}{K:Jo->I0}{sp:PD}{x:Str}
 (A:l.most=LZ 63) (j:d.params.defaults=[]) (B:NF k callerA)
 (C:∀(w:JJ) (h:oa),p w h->(K w.params).In h)
 (F:∀(w:JJ) (mg:pd) (fa:n7) (h:oa),(K w.params).In h->h.Ns LC mg->mg d.name=LZ (.ref fa)->
  ∃fd:LW,(∀(s:IS) (u:IQ),BindsTo s fd ⟨[u],[]⟩ [(x,u)])/\
   ∀base:oa,N9 l.prog w (K w.params) mg base Ow k fa fd [x] (iO (K w.params) sp))
 (m:∀(ns:pw) (M:MH),ns.length<=63->sp [.rol (ns.map D.int)] M (fun d _=>d=.bl MB)) :
 PySem.W.WalkO q i t p l.row.toRowW d [] (fun f vs=>PySem.call f vs):=by
 refine AK (x:=x) (n:=63) (CX:=fun _=>Ow) (sp:=fun w=>iO (K w.params) sp) A ⋯ j B C (fun w mg fa h a b c=>?_) (fun w H a ns E G I=>?_) fun _ _ _ _ _ z=>z
 ·obtain⟨fd,J,L⟩:=F w mg fa h a b c
  exact⟨fd,J,fun base _ _=>L base⟩
 ·have hF:Rx (K w.params) H a (ns.map V.int):=by
   rcases I with(z|z)|z
   ·rcases G a with y|⟨o,xs,y⟩
    ·rw[z]at y;cases y
    ·rw[z]at y;cases y
   ·exact .inl z
   ·exact .inr z
  refine⟨[.rol (ns.map D.int)],fun _=>MA,_,.cons (by rw[Rep];exact⟨a,_,rfl,hF,jW ns⟩) .nil,(fun _ _ e=>nomatch e:My (K w.params) H fun _=>MA),m ns _ E,fun d N v O g r P e=>?_⟩
  subst e
  rw[Rep]at r
  exact r
end SD
namespace Ma
open PySem PySem.Spec PyProof.Rows L2 SD
abbrev fr(q:Rat):D:=.tup [.int q.num,.int (q.den:Int)]
theorem den_pos(q:Rat):(0:Int)<(q.den:Int):=by have:=q.den_pos;omega
def Bq(n:Nat)(q:Rat):Prop:=Bd n q.num/\Bd n (q.den:Int)
theorem Bq.mono{m n:Nat}{q:Rat}(h:Bq m q)(l:m<=n):Bq n q:=⟨h.1.mono l,h.2.mono l⟩
theorem rA{t b:Int}(a:0<b):t.fdiv b=t/b:=JM _ ()
theorem fdiv_neg{t b:Int}(hd:b ∣ t)(d:0<b):t.fdiv (-b)=-(t/b):=by
 obtain⟨c,rfl⟩:=hd;have a:b≠0:=()
 rw[Int.mul_ediv_cancel_left _ a];have:b*c=-b * -c:=by rw[Int.neg_mul_neg]
 rw[this];exact Int.mul_fdiv_cancel_left _ ()
theorem vF(t b:Int):((Lx t.natAbs b.natAbs:Nat):Int) ∣ t:=Int.ofNat_dvd_left.mpr (Nat.gcd_dvd_left _ _)
theorem vm(t b:Int):((Lx t.natAbs b.natAbs:Nat):Int) ∣ b:=Int.ofNat_dvd_left.mpr (Nat.gcd_dvd_right _ _)
theorem nT(t b:Int):Int.gcd b t=Lx t.natAbs b.natAbs:=by unfold Int.gcd;exact Nat.gcd_comm _ _
theorem fP{t b:Int}(a:b≠0):0<Lx t.natAbs b.natAbs:=Nat.gcd_pos_of_pos_right _ ()
theorem uW{t b:Int}(a:0<b):t.fdiv (Lx t.natAbs b.natAbs:Nat)=(Rat.divInt t b).num/\b.fdiv (Lx t.natAbs b.natAbs:Nat)=((Rat.divInt t b).den:Int):=by
 have c:=fP (t:=t) (b:=b) ();rw[rA (),rA (),Rat.num_divInt,Rat.den_divInt,MD (),JF a,LR,nT];refine⟨rfl,?_⟩;rw[Int.natCast_ediv]
 congr 1
 omega
theorem vE{t b:Int}(a:b<0):t.fdiv (-((Lx t.natAbs b.natAbs:Nat):Int))=(Rat.divInt t b).num/\b.fdiv (-((Lx t.natAbs b.natAbs:Nat):Int))=((Rat.divInt t b).den:Int):=by
 have c:=fP (t:=t) (b:=b) ();rw[fdiv_neg (vF t b) (),fdiv_neg (vm t b) (),Rat.num_divInt,Rat.den_divInt,MD (),Jt a,nT];constructor
 ·rw[show(-1:Int)*t=-t from by omega,Int.neg_ediv_of_dvd (vF t b)]
 ·rw[Int.natCast_ediv,show((b.natAbs:Nat):Int)=-b from by omega,Int.neg_ediv_of_dvd (vm t b)]
theorem sN{t b:Int}(a:b≠0):(Rat.divInt t b).num.natAbs<=t.natAbs/\(Rat.divInt t b).den<=b.natAbs:=by
 constructor
 ·rw[Rat.num_divInt];refine K4 (Int.natAbs_ediv_le_natAbs _ _) ?_;rw[Int.natAbs_mul];rcases J5 b 0 with h|h|h
  ·rw[Jt h];simp
  ·exact absurd h a
  ·rw[JF h];simp
 ·rw[Rat.den_divInt,MD a];exact Nat.div_le_self _ _
theorem Bq.divInt{n:Nat}{t b:Int}(a:b≠0)(c:Bd n t)(d:Bd n b):Bq n (Rat.divInt t b):=by obtain⟨e,f⟩:=sN (t:=t) a;exact⟨Nat.lt_of_le_of_lt e c,Nat.lt_of_le_of_lt ‹f› d⟩
theorem vq(x y:Nat):Int.fmod (x:Int) (y:Int)=((x%y:Nat):Int):=by rw[KO _ ()];rfl
theorem t5(q r:Rat):JL (.tuple [.int q.num,.int (q.den:Int)]) (.tuple [.int r.num,.int (r.den:Int)])=decide (q=r):=by
 simp only[JL,Ke,Ll];by_cases h:q=r
 ·subst h;simp
 ·rw[MF h];rw[Bool.eq_false_iff];intro z;rw[Jp,beq_iff_eq,beq_iff_eq]at z;exact h (Rat.ext z.1 (by have:=z.2;omega))
theorem Ha(q r:Rat):decide (q.num*(r.den:Int)<r.num*(q.den:Int))=decide (q<r):=by rw[MJ,Rat.lt_iff]
abbrev spt(a b:Rat):D:=.tup [fr a,fr b]
theorem jy(a b c d:Rat):JL (.tuple [.tuple [.int a.num,.int (a.den:Int)],.tuple [.int b.num,.int (b.den:Int)]]) (.tuple [.tuple [.int c.num,.int (c.den:Int)],.tuple [.int d.num,.int (d.den:Int)]])=decide (a=c/\b=d):=by rw[JL,Ke,Ke,Ke,t5,t5,Ll,LA]
theorem iL(q:Rat):(q.den:Int)≠0:=by have:=q.den_pos;omega
theorem sub_eq(q r:Rat):Rat.divInt (q.num*(r.den:Int)-r.num*(q.den:Int)) ((q.den:Int)*(r.den:Int))=q-r:=by rw[<-Rat.divInt_sub_divInt _ _ (iL q) (iL r),Rat.num_divInt_den,Rat.num_divInt_den]
theorem vh(q r:Rat):(q.den:Int)*(r.den:Int)≠0:=Int.mul_ne_zero (iL q) (iL r)
theorem Bq.vg{n:Nat}{q r:Rat}(a:Bq n q)(b:Bq n r):Bd (2*n+1) (q.num*(r.den:Int)-r.num*(q.den:Int)):=((a.1.mul b.2).sub (b.1.mul a.2)).mono ()
def sgn(z:Rat):Int:=if 0<z then 1 else if z<0 then -1 else 0
def cr(a b c d x y:Rat):Rat:=(c-a)*(y-b)-(d-b)*(x-a)
abbrev wll(a b c d:Rat):D:=.tup [spt a b,spt c d]
def ah(a b c d:Rat):Prop:=a<c\/a=c/\b<d
instance(a b c d:Rat):Decidable (ah a b c d):=inferInstanceAs (Decidable (_\/_))
theorem rW(z:Rat):sgn z=0↔z=0:=by
 unfold sgn;split
 ·grind
 ·split<;>grind
theorem pos_int{i:Int}(h:0<i):(0:Rat)<(i:Rat):=by rw[Rat.lt_iff];simpa using h
theorem pick{xs:pw}{v:Int}(b:0<=v)(c:v<xs.length){P:Int->Prop}(h:∀m∈xs,P m):∃m,atI (xs.map D.int) v=LZ (.int m)/\P m:=by
 obtain⟨j,rfl⟩:∃j:Nat,v=(j:Int):=⟨v.toNat,()⟩;have a:j<xs.length:=()
 exact⟨xs[j],cM (by simp[a]),h _ (JQ a)⟩
end Ma
namespace SD
open PySem PySem.Spec PyProof.Rows L2
def fB(names:List (Str×Lh))(env:Env):List (Str×n7):=(names.filter fun y=>y.2==.free).reverse.map fun y=>(y.1,(env.cells.lookup y.1).getD 0)
theorem sH{scope:Lp}{env:Env}(h:∀y∈scope.names,y.2=.free->∃c,env.cells.lookup y.1=LZ c):closureFor scope env=pure (fB scope.names env):=by
 have key:∀(names:List (Str×Lh)) (b:List (Str×n7)),(∀y∈names,y.2=.free->∃c,env.cells.lookup y.1=LZ c)->
  (forIn names b (fun(x:Str×Lh) (r:List (Str×n7))=>if(x.2==Lm)=MB then do let a <-cellOf env x.1;pure (Le ((x.1,a)::r))else pure (Le r)):Sem (List (Str×n7)))=pure (fB names env++b):=by
  intro names
  induction names with
  |nil=>intro b _;rfl
  |cons y l g=>
   intro b e
   obtain⟨n,k⟩:=y
   rw[List.forIn_cons]
   by_cases d:(k==Lm)=MB
   ·obtain⟨c,i⟩:=e (n,k) (JW ..) ‹d›
    have e1:cellOf env n=pure c:=by unfold cellOf;rw[i]
    dsimp only
    rw[ME d,e1]
    simp only[pure_bind]
    rw[g _ fun y f=>e y (JA _ f)]
    unfold fB
    rw[List.filter_cons_of_pos ‹d›,List.reverse_cons,Jg,LG]
    simp[i]
   ·dsimp only
    rw[MD d]
    simp only[pure_bind]
    rw[g _ fun y f=>e y (JA _ f)]
    unfold fB
    rw[List.filter_cons_of_neg ‹d›]
 have:=key scope.names [] h;rw[JX]at this;unfold closureFor;exact Eq.trans (congrArg (fun t:Sem (List (Str×n7))=>t >>= fun j=>pure j) this) rfl
theorem rC{env:Env}{y:Str}{c:n7}:∀{names:List (Str×Lh)},(∀z∈names,z.2=.free->∃c,env.cells.lookup z.1=LZ c)->(fB names env).lookup y=LZ c->env.cells.lookup y=LZ c:=by intro names h e;have b:=JN e;unfold fB at b;obtain⟨z,a,e2⟩:=JC.mp b;rw[List.mem_reverse,Jb]at a;obtain⟨f,d⟩:=h z a.1 ‹a.2›;rw[d]at e2;cases e2;exact d
theorem rG{env:Env}{y:Str}{names:List (Str×Lh)}(a:(y,Lm)∈names):∃c,(fB names env).lookup y=LZ c:=by
 cases e:(fB names env).lookup y with
 |some c=>exact⟨c,rfl⟩
 |none=>
  have:=List.lookup_eq_none_iff.mp e (y,(env.cells.lookup y).getD 0) (JC.mpr ⟨(y,.free),List.mem_reverse.mpr (Jb.mpr ⟨a,rfl⟩),rfl⟩)
  simp at this
theorem gD{env:Env}(d:env.scope.kind=.function):∀{names:List (Str×Lh)} {y:Str} {k:Lh},
 (names.map fun(n,k)=>if(k==Lm&&env.scope.kind==.function&&env.kindOf n==LZ .cell)then(n,NameKind.cell)else(n,k)).lookup y=LZ k->
  names.lookup y=LZ k\/(k=.cell/\names.lookup y=LZ .free)
 |[],_,_,h=>by simp at h
 |(n,q)::r,y,k,h=>by
  have e:=@gD env d r y k
  rw[J0]at h
  dsimp only at h
  by_cases b:(y==n)=MB
  ·by_cases c:(q==Lm&&env.scope.kind==.function&&env.kindOf n==LZ .cell)=MB
   ·rw[ME c,Kk,b]at h
    have hf:q=.free:=by
     rw[Jp,Jp]at c
     simpa using c.1.1
    cases h
    right
    exact⟨rfl,by rw[Kk,b,hf]⟩
   ·rw[MD c,Kk,b]at h
    left
    rw[Kk,b];exact h
  ·have a:(y==n)=MC:=‹b›
   have f:(r.map fun(n,k)=>if(k==Lm&&env.scope.kind==.function&&env.kindOf n==LZ .cell)then(n,NameKind.cell)else(n,k)).lookup y=LZ k:=by
    split at h
    ·rw[Kk,a]at h;exact h
    ·rw[Kk,a]at h;exact h
   rw[Kk,a]
   exact e f
theorem jV{X:Cx}{tg a:oT}{c b:TI}(h:PI X tg a c)(k:∀σ H R,b σ H R->c σ H R):PI X tg a b:=fun MN s σ H R I q=>h MN s σ H R I (k _ _ _ q)
def Iu(K:I0)(b:TE):TI:=fun σ H R=>b σ H fun x H1=>∃a,x=.ref a/\(((∃xs,ND K H1 a xs)/\R (Y3 K a) H1)\/((∃xs,NB K H1 a xs)/\R (Y2 K a) H1))
theorem DH{X:Cx}{tg l:oT}{j:TE}(k:PE X l j):PI X tg l (Iu X.K j):=by
 intro MN s σ H R I h;refine Mr (k MN s σ H _ I h) fun v c d=>?_;obtain⟨x,H1,f,m,n⟩:=d;obtain⟨a,e,z⟩:=n;subst e;cases m
 have fp:∀b∈[c.z],cQ X MN H1 b:=fun b r=>by
  obtain rfl:b=c.z:=‹r›
  exact f.pV (IY _) (f.hok.fresh (IY _))
 rcases z with⟨⟨xs,i⟩,q⟩|⟨⟨xs,i⟩,q⟩
 ·obtain⟨g,t,p,u⟩:=f.list i;exact LH p.isList ⟨_,[c.z],_,_,H1,rfl,f.kept (t':=c.toks) fun b o e=>IZ _ e,wJ a _,⟨_,J3 _ rfl,rfl,rfl⟩,fp,q⟩
 ·obtain⟨g,t,p,u⟩:=f.tuple i;exact wpAny_pyIter_tuple (show c.heap.IsTuple a g.toArray from p) ⟨_,[c.z],_,_,H1,rfl,f.kept (t':=c.toks) fun b o e=>IZ _ e,tP a _,⟨_,J3 _ rfl,rfl,rfl⟩,fp,q⟩
structure Qg where
 n:Nat
 item:Nat->ry
 C:MH->Prop
abbrev Nt:=DS->MH->(Qg->MH->Prop)->Prop
structure Vx(K:I0)(H1:Hp)(I:Qg)(J:It):Prop where
 stop:∀H2 M2,Mp K H1 H2->My K H2 M2->I.C M2->J.stop I.n H2
 go:∀i H2 M2,i<I.n->Mp K H1 H2->My K H2 M2->I.C M2->J.go i H2
 yld:∀i H2 M2 v H3,i<I.n->Mp K H1 H2->My K H2 M2->I.C M2->J.yld i H2 v H3->Mp K H2 H3/\My K H3 M2/\∃d,I.item i=LZ d/\Rep K H3 d v
def l6(K:I0)(t:Nt):TI:=fun σ H R=>∃δ M b,Slots K H δ σ/\My K H M/\t δ M b/\∀I c a J,Mp K H a->My K a c->b I c->Vx K a I J->R J a
namespace Zq
@[scoped irreducible]def _root_.SD.DI(X:Cx)(tg a:oT)(t:Nt):Prop:=PI X tg a (l6 X.K t)
end Zq
def CO(M:MH):D->rx->Prop
 |.tup ds,es=>es=ds
 |.rol ds,es=>es=ds
 |.ref a,es=>M a=LZ (.lst es)
 |_,_=>False
inductive YY(ds:rx)(M:MH)(R:Qg->MH->Prop):Prop
 |mk (n:Nat) (h:ds=[.int (n:Int)]) (q:n<2^60/\R ⟨n,fun i=>LZ (.int (i:Int)),fun _=>True⟩ M):YY ds M R
inductive YX(d:D)(M:MH)(R:Qg->MH->Prop):Prop
 |mk (ds:rx) (h:CO M d ds) (q:R ⟨ds.length,fun i=>ds[i]?,fun M=>CO M d ds⟩ M):YX d M R
def Hk(a:NN):Nt:=fun δ M R=>a δ M fun b c=>YY b c R
def HG(a:TD):Nt:=fun δ M R=>a δ M fun d b=>YX d b R
section
variable{X:Cx}{tg:oT}
theorem wL{a:oT}{d:NN}{p pos:Pos}(g:Gl X "range")(h:X.mg "range"=MA)(j:DA X [a] d)(b:Je [a] X.env=[(MC,eval a X.env)]:=by rfl):DI X tg (.Call (.Name "range" p) [a] [] pos) (Hk d):=
 jV (oI g h j b) fun σ H R k=>by
  obtain⟨δ,M,y,b,l,q,c⟩:=k
  exact⟨δ,M,_,b,l,q,fun z m vs H1 o s t u=>by
   obtain⟨n,e,A,w⟩:=u
   subst e
   obtain⟨v,rfl,r⟩:=cv s
   rw[Rep]at r;subst r
   refine⟨(n:Int),rfl,(),(),c _ m H1 _ o t w ⟨fun _ _ _ _ _=>by show((n:Int)).toNat<=n;simp,fun i _ _ f _ _ _=>by show i<((n:Int)).toNat;simpa using f,?_⟩⟩
   rintro i B C v D f E x _ ⟨rfl,rfl⟩
   exact⟨.refl,x,_,rfl,by rw[Rep];simp⟩⟩
theorem aR{l:oT}{E:TD}(G:DE X l E):DI X tg l (HG E):=
 jV (DH G) fun σ H R I=>by
  obtain⟨δ,M,O,J,K,q,o⟩:=I
  exact⟨δ,M,_,J,K,q,fun d y v H1 A s z L=>by
   obtain⟨e,sq,B⟩:=L
   cases d with
   |tup C=>
    obtain rfl:e=C:=sq
    rw[Rep]at s
    obtain⟨a,xs,rfl,j,m⟩:=s
    refine⟨a,rfl,.inr ⟨⟨xs,j⟩,o _ y H1 _ A z B ⟨fun n _ c _ _=>⟨xs,c.t _ _ j,by rw[m.length];exact IY _⟩,fun i n _ b c _ _=>?_,?_⟩⟩⟩
    ·have g:i<xs.length:=by rw[<-m.length];exact b
     exact⟨xs,xs[i],c.t _ _ j,by simp[g]⟩
    ·rintro i n p v F b c h _ ⟨rfl,k⟩
     have b:i<e.length:=b
     obtain⟨x,e1,e2⟩:=(m.mono c).get (show e[i]?=LZ e[i] by simp[b])
     have:=k xs (c.t _ _ j)
     rw[e1]at this;cases this
     exact⟨.refl,h,_,by simp[b],e2⟩
   |rol C=>
    obtain rfl:e=C:=sq
    rw[Rep]at s
    obtain⟨a,xs,rfl,j,m⟩:=s
    refine⟨a,rfl,.inl ⟨⟨xs,j.sql⟩,o _ y H1 _ A z B ⟨fun n _ c _ _=>⟨xs,(c.f _ _ j).sql,by rw[m.length];exact IY _⟩,fun i n _ b c _ _=>?_,?_⟩⟩⟩
    ·have g:i<xs.length:=by rw[<-m.length];exact b
     exact⟨xs,xs[i],(c.f _ _ j).sql,by simp[g]⟩
    ·rintro i n p v F b c h _ ⟨rfl,k⟩
     have b:i<e.length:=b
     obtain⟨x,e1,e2⟩:=(m.mono c).get (show e[i]?=LZ e[i] by simp[b])
     have:=k xs (c.f _ _ j).sql
     rw[e1]at this;cases this
     exact⟨.refl,h,_,by simp[b],e2⟩
   |ref a=>
    rw[Rep]at s;subst s
    obtain⟨xs,N,m⟩:=z _ _ (show y a=LZ (.lst e)from sq)
    refine⟨a,rfl,.inl ⟨⟨xs,ND.of N⟩,o _ y H1 _ A z B ⟨fun n p c h u=>?_,fun i n p b c h u=>?_,?_⟩⟩⟩
    ·obtain⟨r,k,w⟩:=h _ _ (show p a=LZ (.lst e)from u)
     exact⟨r,ND.of k,by rw[w.length];exact IY _⟩
    ·obtain⟨r,k,w⟩:=h _ _ (show p a=LZ (.lst e)from u)
     have g:i<r.length:=by rw[<-w.length];exact b
     exact⟨r,r[i],ND.of k,by simp[g]⟩
    ·rintro i n p v F b c h u ⟨rfl,k⟩
     have b:i<e.length:=b
     obtain⟨r,D,w⟩:=h _ _ (show p a=LZ (.lst e)from u)
     obtain⟨x,e1,e2⟩:=w.get (show e[i]?=LZ e[i] by simp[b])
     have:=k r (ND.of D)
     rw[e1]at this;cases this
     exact⟨.refl,h,_,by simp[b],e2⟩
   |_=>exact sq.elim⟩
inductive WA(g:PB)(tb:NV)(B:EndsD)(I:Qg)(δ0:DS)(M0:MH):Prop
 |mk (W:Nat->DS->MH->Prop) (w0:W 0 δ0 M0) (hC:∀i δ M,i<=I.n->W i δ M->I.C M) (turn:∀i d δ M,i<I.n->I.item i=LZ d->W i δ M->g d δ M fun δ2 M2=>tb (B.lp (W (i+1))) δ2 M2) (done:∀δ M,W I.n δ M->B.nx δ M):WA g tb B I δ0 M0
def Ga(a:Nt)(g:PB)(b:NV):NV:=fun B δ M=>a δ M fun I c=>WA g b B I δ c
theorem bV{b:oT}{body:q_}{R:Nt}{g:PB}{S:NV}{pos:Pos}(Y:PassesOwn (Jf X.prog X.w) X.A X.env X.xe)(Z:X.calm=MB)(p:DI X tg b R)(hG:DG X tg g)(hb:DSs X body S)
 (hf:∀x,Jz b X.env x=pure x:=by intro _;rfl):DSt X (.For tg b body [] pos) (Ga R g S):=
 cU (xD Y Z p hG hb hf) fun E σ H ⟨δ,M,T,a,B,ok,q⟩=>⟨δ,M,_,T,a,q,fun I M1 H1 J D a1 z9 O=>by
  obtain⟨W,w0,hC,r,done⟩:=z9
  refine⟨fun i m σ h=>m=I.n-i/\i<=I.n/\Mp X.K H1 h/\∃δ M,Slots X.K h δ σ/\My X.K h M/\W i δ M,⟨I.n,by simp,Kf _,.refl,δ,M1,T.mono D,a1,w0⟩,?_⟩
  rintro i m σ h ⟨rfl,p,s,j,l,U,F,t⟩
  by_cases e:i<I.n
  ·refine .inr ⟨O.go i h l e s F (hC _ _ _ p t),fun c o=>Mp X.K H1 o/\∃δ M,Slots X.K o δ c/\My X.K o M/\W (i+1) δ M,fun c o z=>⟨I.n-(i+1),(),rfl,e,z⟩,fun x o y=>?_⟩
   obtain⟨V,a3,d,ed,rd⟩:=O.yld i h l x o e s F (hC _ _ _ p t) y
   refine⟨d,j,l,_,rd,U.mono V,a3,r i d j l e ed t,fun P M4 a0 H4 g4 s4 a4 q4=>⟨P,M4,s4,a4,_,?_,q4⟩⟩
   have G:Mp X.K H1 H4:=(s.trans V).trans g4
   exact⟨fun f L c N k u C Q=>⟨G.trans k,f,L,u,C,Q⟩,fun d M v N k=>ok.rt d M v N ((D.trans G).trans k),fun f L c N k u C q'=>ok.nx _ _ _ _ ((D.trans G).trans k) u C q',fun f L c N k u C Q=>⟨G.trans k,f,L,u,C,Q⟩⟩
  ·obtain rfl:i=I.n:=()
   exact .inl ⟨O.stop h l s F (hC _ _ _ p t),ok.nx _ _ _ _ (D.trans s) U F (done j l t)⟩⟩
def He(i:Nat)(te:TD)(f:Int->Int->Int):NV:=fun B δ M=>∃k,δ[i]?=LZ (LZ (.int k))/\te δ M fun y a=>∃j,y=.int j/\B.nx (δ.set i (LZ (.int (f k j)))) a
theorem x9(i:Nat){x:Str}{e:oT}{te:TD}{op:Operator}{f:Int->Int->Int}{pos c:Pos}(l:X.N.Nodup)(m:WL X op (YF f))(n:DE X e te)(o:X.N[i]?=LZ x:=by rfl)(p:Loc X.env.scope x:=by first|exact Or.inl rfl|exact Or.inr rfl)
 (hf:X.fn x=MB\/X.env.scope.names.lookup x=LZ .local:=by first|exact .inl rfl|exact .inr rfl|assumption):DSt X (.AugAssign (.Name x c) op e pos) (He i te f):=
 cU (CN l o p n m hf) fun E σ H s=>by
  obtain⟨δ,M,d,a,B,ok,k,e1,q⟩:=s
  obtain⟨v,e2,r⟩:=d.at' i _ e1
  rw[Rep]at r;subst r
  refine⟨_,e2,δ,M,_,d,a,q,fun y A u H1 g h t b=>?_⟩
  obtain⟨j,w,z⟩:=b
  subst w
  rw[Rep]at h;subst h
  exact⟨k,j,rfl,rfl,ok.nx _ _ _ _ g ((d.mono g).set (by rw[Rep]) i) t z⟩
end
end SD
namespace Ma
open SD
theorem mV{a b:Int}(h:0<b):0<Rat.divInt a b↔0<a:=by
 have c:=Rat.divInt_nonneg_iff_of_pos_right (a:=-a) h;rw[<-Rat.neg_divInt]at c;have:¬(0<=-Rat.divInt a b)↔0<Rat.divInt a b:=by constructor<;>intro z<;>grind
 rw[<-this,c];omega
theorem tO{a b:Int}(h:0<b):Rat.divInt a b<0↔a<0:=by
 have c:=Rat.divInt_nonneg_iff_of_pos_right (a:=a) h;have:¬(0<=Rat.divInt a b)↔Rat.divInt a b<0:=by constructor<;>intro z<;>grind
 rw[<-this,c];omega
theorem An{t b:Int}(h:0<b):sgn (Rat.divInt t b)=if 0<t then 1 else if t<0 then -1 else 0:=by unfold sgn;simp only[mV h,tO h]
theorem Ar(a b c d x y:Rat) :
 Rat.divInt ((c.num*(a.den:Int)-a.num*(c.den:Int))*(y.num*(b.den:Int)-b.num*(y.den:Int))*((d.den:Int)*(b.den:Int)*((x.den:Int)*(a.den:Int))) -
  (d.num*(b.den:Int)-b.num*(d.den:Int))*(x.num*(a.den:Int)-a.num*(x.den:Int))*((c.den:Int)*(a.den:Int)*((y.den:Int)*(b.den:Int))))
  ((c.den:Int)*(a.den:Int)*((y.den:Int)*(b.den:Int))*((d.den:Int)*(b.den:Int)*((x.den:Int)*(a.den:Int))))=cr a b c d x y:=by
 rw[<-Rat.divInt_sub_divInt _ _ (Int.mul_ne_zero (vh c a) (vh y b)) (Int.mul_ne_zero (vh d b) (vh x a)),<-Rat.divInt_mul_divInt,<-Rat.divInt_mul_divInt,sub_eq,sub_eq,sub_eq,sub_eq]
 rfl
end Ma
namespace SD
open PySem PySem.Spec PyProof.Rows L2
abbrev NQ:o_:=fun _ _=>False
def cN(X:Cx)(xs:rf)(js:pq):rf:=xs++js.map fun j=>(X.N[j]?).getD ("":Str)
def cσ(os:L2.St)(js:pq)(σ:L2.St):L2.St:=os++js.map fun j=>(σ[j]?).join
theorem cY:∀(names:List (Str×Lh)) (n:Nat) (a:List (Str×n7)),KD n names a=KD n names []++a
 |[],_,_=>rfl
 |(x,k)::r,n,a=>by
  unfold KD
  split
  ·rw[cY r (n+1) ((x,n)::a),cY r (n+1) [(x,n)],LG];rfl
  ·exact cY r n a
theorem kd:∀(names:List (Str×Lh)) (n:Nat) {y:Str} {c:n7},(y,c)∈KD n names []->(y,NameKind.cell)∈names
 |[],_,_,_,h=>by cases h
 |(x,k)::r,n,y,c,h=>by
  unfold KD at h
  split at h
  ·rename_i hk
   rw[cY]at h
   rcases Jn.mp h with h|h
   ·exact JA _ (kd r _ h)
   ·have e:(y,c)=(x,n):=‹h›
    cases e
    obtain rfl:k=.cell:=‹hk›
    exact JW
  ·exact JA _ (kd r _ h)
theorem rO{l r:List (Str×n7)}{y:Str}{c:n7}(h:(l++r).lookup y=LZ c):l.lookup y=LZ c\/(l.lookup y=MA/\r.lookup y=LZ c):=by
 rw[List.lookup_append]at h;cases e:l.lookup y with
 |some a=>rw[e]at h;exact .inl h
 |none=>rw[e]at h;exact .inr ⟨rfl,h⟩
theorem zr{env:Env}{y:Str}{c:n7}{names:List (Str×Lh)}(h:(fB names env).lookup y=LZ c):(y,Lm)∈names:=by
 have b:=JN h;unfold fB at b;obtain⟨z,a,e⟩:=JC.mp b;rw[List.mem_reverse,Jb]at a;obtain⟨n,k⟩:=z;obtain rfl:k=.free:=‹a.2›
 cases e;exact a.1
theorem fZ{env:Env}{k:Lh}(c:k≠.free):∀{names:List (Str×Lh)} {x:Str},names.lookup x=LZ k->
 (names.map fun(n,k)=>if(k==Lm&&env.scope.kind==.function&&env.kindOf n==LZ .cell)then(n,NameKind.cell)else(n,k)).lookup x=LZ k
 |[],_,h=>by simp at h
 |(n,q)::r,x,h=>by
  have d:=@fZ env k c r x
  rw[J0]
  dsimp only
  by_cases b:(x==n)=MB
  ·rw[Kk,b]at h
   cases h
   rw[MD (by intro z;rw[Jp,Jp]at z;exact c ‹z.1.1›),Kk,b]
  ·have a:(x==n)=MC:=‹b›
   rw[Kk,a]at h
   split<;>(rw[Kk,a];exact d h)
theorem oV{M:Model}{A:JP}{E:o_}{s:IS}{scope:Lp}{globals:n7}{b:List (Str×n7)}{qual:Str}{env:Env}{Q:Env->IS->Prop} (h:Q { scope:=scope,locals:=s.z,globals:=globals,cells:=KD (s.z+1) scope.names b,qual:=qual,func:=MA,code:=env.code,frame:=env.frame,builtins:=env.builtins } { s with heap:=pushCells (s.heap.push { cls:=.type "dict",data:=.dict #[] }) scope.names }) : J4 M A (newFunctionEnv scope globals b [] qual MA .none (LZ env)) Q E s:=by simp only[newFunctionEnv,Option.isSome_some,if_true];refine cc (wpAny_alloc ?_);refine cc (wpAny_layCells _ (fun name kind cells=>by cases a:kind==NameKind.cell<;>simp[a]) _ _ _ _ ?_);rw[show({ s with heap:=s.heap.push { cls:=.type "dict",data:=.dict #[] } }:IS).heap.objs.size=s.z+1 from Ki ..];refine cc ?_;rw[List.forIn_nil];exact IU (IU h)
def kO(scope:Lp)(C:n7)(env:Env):Env:=
 { scope:=relabel scope env,locals:=C,globals:=env.globals,cells:=KD (C+1) scope.names (fB scope.names env),qual:=env.qual,func:=MA,code:=env.code,frame:=env.frame,builtins:=env.builtins }
def Mx(X:Cx)(xs:rf)(js:pq)(scope:Lp)(C:n7)(s:IS)(H:Hp)(fp:rb):Cx where
 prog:=X.prog
 w:=X.w
 K:=X.K
 mg:=X.mg
 base:=X.base
 A:=X.A
 N:=cN X xs js
 s₀:=s
 H₀:=H
 env:=kO scope C X.env
 outer:=X.stack
 stack:=X.stack
 ex:=fp
 fn:=fun y=>xs.contains y
 calm:=X.calm
 pn:=[]
 xe:=fun _ _=>False
structure Mm(X:Cx)(xs:rf)(js:pq)(scope:Lp):Prop where
 kind:scope.kind=.function
 cell:∀y∈scope.names,y.2=.cell->y.1∈xs
 free':∀y∈scope.names,y.2=.free->y.1∉xs
 names:∀y∈scope.names,y.2=.local->scope.names.lookup y.1=LZ .local
 own:∀x∈xs,scope.names.lookup x=LZ .local\/scope.names.lookup x=LZ .cell
 out:∀y∈scope.names,y.2=.free->X.env.kindOf y.1=LZ .cell\/X.env.kindOf y.1=LZ .free
 nd:(cN X xs js).Nodup
 js:∀j∈js,scope.names.lookup ((X.N[j]?).getD ("":Str))≠LZ .local
section
variable{X:Cx}{xs:rf}{js:pq}{scope:Lp}{MN:pa}{σ:L2.St}{H:Hp}{s:IS}{fp:rb}
theorem Mm.cells(c:Mm X xs js scope)(ok:X.Ok):∀y∈scope.names,y.2=.free->∃a,X.env.cells.lookup y.1=LZ a:=fun y b hf=>ok.has _ (c.out y b hf)
theorem Mm.Ab(c:Mm X xs js scope)(ok:X.Ok):closureFor scope X.env=pure (fB scope.names X.env):=sH (c.cells ok)
theorem Mm.kindOf(c:Mm X xs js scope)(ok:X.Ok){C:n7}{y:Str}{k:Lh}(e:(kO scope C X.env).kindOf y=LZ k):scope.names.lookup y=LZ k\/(k=.cell/\scope.names.lookup y=LZ .free):=gD ok.kind e
theorem mC(c:Mm X xs js scope)(I:Inv X MN σ H s)(hf:∀b∈fp,cQ X MN H b)(A:∀b∈fp,b<s.z){h':oa}(P:h'=pushCells (s.heap.push { cls:=.type "dict",data:=.dict #[] }) scope.names)(k:∀b o,s.heap.get? b=LZ o->h'.get? b=LZ o) :
 Inv (Mx X xs js scope s.z s H fp) [] (cσ (Ju xs.length MA) js σ) H { s with heap:=h' }:=by
 have ok:=I.ok
 have Y:h'.Ns s.z fun _=>MA:=by rw[P];exact(Heap.Ns.new s.heap (.type "dict")).keeps (pushCells_keeps _ _)
 have t:CellsOk h' (s.z+1) (KD (s.z+1) scope.names []):=by
  have:=cellsFrom_ok scope.names (s.heap.push { cls:=.type "dict",data:=.dict #[] }) (s.z+1) [] ⟨fun _ _ B=>(nomatch B),List.Pairwise.nil⟩ (by rw[Ki];exact IY _)
  rw[Ki]at this
  rw[P];exact this
 have Q:∀{y:Str} {a:n7},(fB scope.names X.env).lookup y=LZ a->X.env.cells.lookup y=LZ a:=fun e=>rC (c.cells ok) e
 have D:∀{y:Str} {a:n7},X.env.cells.lookup y=LZ a->a<s.z:=fun e=>by obtain⟨v,z⟩:=I.cell _ _ e;exact z.lt
 have d:∀{y:Str} {a:n7},(kO scope s.z X.env).cells.lookup y=LZ a->((y,a)∈KD (s.z+1) scope.names []/\s.z<a)\/X.env.cells.lookup y=LZ a:=fun{y a} e=>by
  have e:(KD (s.z+1) scope.names (fB scope.names X.env)).lookup y=LZ a:=e
  rw[cY]at e
  rcases rO e with z|⟨_,z⟩
  ·exact .inl ⟨JN z,(t.empty _ _ (JN z)).2⟩
  ·exact .inr (Q z)
 have free:∀{y:Str},(kO scope s.z X.env).kindOf y=LZ .cell\/(kO scope s.z X.env).kindOf y=LZ .free->scope.names.lookup y=LZ .cell\/scope.names.lookup y=LZ .free:=fun{y} e=>by
  rcases e with e|e
  ·rcases c.kindOf ok e with z|⟨_,z⟩
   ·exact .inl z
   ·exact .inr z
  ·rcases c.kindOf ok e with z|⟨z,_⟩
   ·exact .inr z
   ·cases z
 refine⟨⟨ok.mod,c.kind,ok.glob,ok.blt,IY _,fun y z a f g=>?_,fun y J=>?_,fun y a h e=>?_,ok.hd,ok.frames,.inl rfl,fun b w=>⟨JB (A b w),fun y a e=>?_⟩,
  I.bs,K4 ok.bsz I.sz,fun b o e w=>?_,fun b w=>?_,I.stack,I.vt⟩,rfl,I.bare,Un.kept k,?_,fun y a e=>?_,I.hok.fresh (IY _),fun y a e=>?_,fun p Z=>absurd (show p∈([]:pa)from Z) (by simp),I.hok.kept k,?_⟩
 ·rcases d f with⟨m1,l1⟩|R<;>rcases d g with⟨m2,l2⟩|S
  ·exact name_of_addr t.apart m1 m2
  ·exact absurd (D S) (Nat.not_lt.mpr (Nat.le_of_lt l1))
  ·exact absurd (D R) (Nat.not_lt.mpr (Nat.le_of_lt l2))
  ·exact ok.inj y z a R S
 ·show ∃c,(KD (s.z+1) scope.names (fB scope.names X.env)).lookup y=LZ c
  rw[cY,List.lookup_append]
  rcases free J with z|z
  ·obtain⟨a,e⟩:=lN (n:=s.z+1) z
   exact⟨a,by rw[e];rfl⟩
  ·obtain⟨a,e⟩:=rG (env:=X.env) (JN z)
   cases q:(KD (s.z+1) scope.names []).lookup y with
   |none=>exact⟨a,by rw[e];rfl⟩
   |some G=>exact⟨G,rfl⟩
 ·have hx:y∈xs:=by simpa[Mx]using h
  have e:(KD (s.z+1) scope.names (fB scope.names X.env)).lookup y=LZ a:=e
  rw[cY]at e
  rcases rO e with z|⟨_,z⟩
  ·exact Nat.le_of_lt (t.empty _ _ (JN z)).2
  ·exact absurd hx (c.free' _ (zr z) rfl)
 ·rcases d e with⟨_,l⟩|o
  ·exact Nat.ne_of_gt (Nat.lt_trans (A b w) l)
  ·exact(hf b w).2.2.2.2.1 y a o
 ·rcases(hf b w).2.2.2.1 with z|z
  ·exact ok.noex b o e z
  ·exact absurd (Jm (Jm (J6 e) ok.bsz) z) (Nat.lt_irrefl _)
 ·intro z
  rcases Jx.mp (I.t8 b z)with y|y
  ·exact(hf b w).2.1 y
  ·exact(hf b w).2.2.1 y
 ·refine⟨_,Y,fun i y v f g h3=>?_⟩
  have f:(xs++js.map fun j=>(X.N[j]?).getD ("":Str))[i]?=LZ y:=f
  have g:(Ju xs.length (MA:Option V)++js.map fun j=>(σ[j]?).join)[i]?=LZ (LZ v):=g
  by_cases T:i<xs.length
  ·rw[JY ‹T›,List.getElem?_replicate,ME T]at g
   cases g
  ·have x:y∉xs:=fun J=>by
    rw[JV ()]at f
    have nd:=c.nd
    unfold cN at nd
    exact(LI.mp nd).2.2 y J y (IW f) rfl
   rw[JV ()]at f
   rw[JV (by simp;omega)]at g
   rw[List.length_replicate]at g
   rw[IX]at f g
   cases K:js[i-xs.length]? with
   |none=>rw[K]at f;cases f
   |some j=>
    rw[K]at f g
    have e1:(X.N[j]?).getD ("":Str)=y:=Option.some.inj f
    have e2:(σ[j]?).join=LZ v:=Option.some.inj g
    have e3:σ[j]?=LZ (LZ v):=by
     cases q:σ[j]? with
     |none=>rw[q]at e2;cases e2
     |some o=>rw[q]at e2;exact congrArg LZ e2
    have hj:j<X.N.length:=by rw[<-I.len];exact(J1.mp e3).1
    have e4:X.N[j]?=LZ y:=by
     rw[IT hj]at e1 ⊢
     exact congrArg LZ e1
    have nl:scope.names.lookup y≠LZ .local:=by
     have:=c.js j (IW K)
     rw[e1]at this
     exact this
    have U:(kO scope s.z X.env).kindOf y=LZ .cell\/(kO scope s.z X.env).kindOf y=LZ .free:=by
     rcases h3 with z|z|z
     ·rcases c.kindOf (C:=s.z) ok z with q|⟨q,_⟩
      ·exact absurd q nl
      ·cases q
     ·exact .inl z
     ·exact .inr z
    have B:(y,Lm)∈scope.names:=by
     rcases free U with z|z
     ·exact absurd (c.cell _ (JN z) rfl) x
     ·exact JN z
    obtain⟨a,W⟩:=rG (env:=X.env) B
    have L:(kO scope s.z X.env).cells.lookup y=LZ a:=by
     show(KD (s.z+1) scope.names (fB scope.names X.env)).lookup y=LZ a
     rw[cY,List.lookup_append]
     cases q:(KD (s.z+1) scope.names []).lookup y with
     |none=>rw[W];rfl
     |some G=>exact absurd (c.cell _ (kd _ _ (JN q)) rfl) x
    have E:Vu X.env.scope y:=by
     rcases c.out _ B rfl with z|z
     ·exact .inr (.inl z)
     ·exact .inr (.inr z)
    obtain⟨m,_,hl⟩:=I.loc
    obtain⟨u,r,l⟩:=hl j y v e4 e3 E
    refine⟨u,r,?_⟩
    rcases l with⟨z,_⟩|⟨_,G,M,o,O,hd⟩
    ·rcases c.out _ B rfl with q|q
     ·have F:X.env.kindOf y=LZ .local:=z
      rw[q]at F;cases F
     ·have F:X.env.kindOf y=LZ .local:=z
      rw[q]at F;cases F
    ·refine .inr ⟨U,G,?_,o,k _ _ O,hd⟩
     have:=Q W
     rw[M]at this
     cases this
     exact L
 ·rcases d e with⟨m,_⟩|o
  ·exact⟨_,(t.empty _ _ m).1⟩
  ·obtain⟨v,o,O,hd⟩:=I.cell y a o
   exact⟨v,o,k _ _ O,hd⟩
 ·rcases d e with⟨_,l⟩|o
  ·exact I.hok.fresh (Nat.le_of_lt l)
  ·exact I.freeC y a o
 ·show(cσ (Ju xs.length MA) js σ).length=(cN X xs js).length
  unfold cσ cN
  simp
end
def R0(X:Cx)(a:ra)(t:TT):Prop:=∀(MN:pa) (s:IS) (σ:L2.St) (H:Hp) (Q:Bool->Hp->Prop),Inv X MN σ H s->t σ H Q->
 J4 (Jf X.prog X.w) X.A (forIn a MB fun c r=>if r=MB then do let ok <-isTrue c X.env (eval c X.env);pure (Le ok)else pure (Le r)) (TP X MN σ Q) X.xe s
theorem AL{X:Cx}:R0 X [] (fun _ H Q=>Q MB H):=fun MN s σ H Q I q=>wpAny_tests_nil ⟨H,I,q⟩
theorem BP{X:Cx}{c:oT}{t:TT}(h:PT X c t):R0 X [c] t:=fun MN s σ H Q I q=>wpAny_tests_one (h MN s σ H Q I q)
theorem wR{prog:Jk}{w:JJ}{A:JP}{R:Result->IS->Prop}{s:IS}{d a b:oT}{f:ra}{scope:Lp}{pos:Pos}{it g:IQ}{env:Env}(J:Nat->IS->Prop)
 (step:∀n s,J n s->J4 (Jf prog w) A (pyNext it) (fun r j=>match r with
  |none=>R (.ok .next) j
  |some v=>J4 (Jf prog w) A (KW a it v) (fun _ l=>J4 (Jf prog w) A (LN a env v) (fun _ o=>
   J4 (Jf prog w) A (forIn f MB fun c r=>if r=MB then do let ok <-isTrue c env (eval c env);pure (Le ok)else pure (Le r)) (fun ok k=>
    if ok=MB then J4 (Jf prog w) A (eval d env) (fun x p=>J4 (Jf prog w) A (call (.builtin "list.append") [g,x]) (fun _ q=>∃m,m<n/\J m q) NQ p) NQ k
    else ∃m,m<n/\J m k) NQ o) NQ l) NQ j) NQ s)
 (n:Nat) (h:J n s):Lb (Jf prog w) A (.compLoop (.ListComp d [⟨a,b,f,0⟩] scope pos) 0 it g env) R s:=by
 have i:∀{E:o_} e t,NQ e t->E e t:=fun _ _ z=>z.elim
 refine codeAny_loop rfl J (fun n s B=>?_) n h
 show J4 _ _ (Sem.onRaise (compTurn (.ListComp d [⟨a,b,f,0⟩] scope pos) 0 it g env) (fun x=>do noteFrame x env;theTreesLotGoes x)) _ _ s
 refine wpAny_noted ?_
 rw[compTurn_list]
 refine cc (Ks (cc (Ja (step n s B) (fun r j u=>?_) i)))
 cases r with
 |none=>exact IU u
 |some v=>
  refine cc (Ja u (fun _ l C=>cc (Ja C (fun _ o D=>cc (Ja D (fun ok k y=>?_) i)) i)) i)
  cases ok with
  |false=>exact IU ⟨rfl,y⟩
  |true=>exact cc (cc (Ja y (fun x p F=>cc (Ja F (fun _ q G=>IU (IU ⟨rfl,G⟩)) i)) i))
abbrev Own:=V->Hp->L2.St->Prop
structure OE(n:Nat)(g:TG)(own:Own):Prop where
 len:∀y H os,own y H os->os.length=n
 run:∀y H os0 tail os (Q:L2.St->Hp->Prop),os0.length=n->own y H os->Q (os++tail) H->g y (os0++tail) H Q
def Cc(js:pq)(own:Own)(tc:TT)(te:TE)(σ:L2.St)(J:It)(H1:Hp)(Q:VK):Prop:=∀D,H1 D=MA->∃W:Nat->Nat->Hp->Prop,(∃m,W 0 m (upd H1 D (.lst [])))/\∀i m H,W i m H->
 (J.stop i H/\Q (.ref D) H)\/(J.go i H/\∀y c,J.yld i H y c->∃os,own y c os/\tc (cσ os js σ) c fun b d=>if b=MB then
  te (cσ os js σ) d fun v e=>∃xs,e D=LZ (.lst xs)/\xs.length<J7/\∃a,a<m/\W (i+1) a (upd e D (.lst (xs++[v])))else ∃a,a<m/\W (i+1) a d)
def tU(js:pq)(own:Own)(a:TI)(tc:TT)(te:TE):TE:=fun σ H Q=>a σ H fun J H1=>Cc js own tc te σ J H1 Q
section
variable{X:Cx}{xs:rf}{tg:oT}{pos:Pos}{js:pq}{scope:Lp}{elt iter:oT}{ifs:ra}{te:TE}{tc:TT}{g:TG}{own:Own}{wi:TI}{MN:pa}{σ:L2.St}{H:Hp}{s:IS}{fp:rb}{it:n7}{tn:Nat->oa->Prop}{J:It}
theorem rk(c:Mm X xs js scope)(hc:X.calm=MB)(hG:OE xs.length g own)(hg:∀C s H fp,PG (Mx X xs js scope C s H fp) tg g)(ht:∀C s H fp,R0 (Mx X xs js scope C s H fp) ifs tc)(he:∀C s H fp,PE (Mx X xs js scope C s H fp) elt te)
 {R:IQ->n7->Result->IS->Prop} {E:o_} {Q:VK}
 (I:Inv X MN σ H s) (T:Turn X.prog X.w X.K tg J fp it tn) (st:tn 0 s.heap) (hf:∀b∈fp,cQ X MN H b) (wc:Cc js own tc te σ J H Q)
 (hR:∀D C f F,Inv X MN σ f F->cQ X MN f C->(∃m,F.heap.Ns C m)->Q (.ref D) f->R (.ref D) C (.ok .next) F) :
 J4 (Jf X.prog X.w) X.A (newList []) (fun d0 e0=>J4 (Jf X.prog X.w) X.A (newFunctionEnv scope X.env.globals (fB scope.names X.env) [] X.env.qual MA .none (LZ X.env)) (fun N f0=>
  Lb (Jf X.prog X.w) X.A (.compStart (.ListComp elt [⟨tg,iter,ifs,0⟩] scope pos) 0 (.ref it) d0 { N with scope:=relabel scope X.env }) (R d0 N.locals) f0) E e0) E s:=by
 have g0:∀b∈fp,b<s.z:=fun b a=>let⟨o,e,_⟩:=T.obj 0 _ st b a;J6 e
 have hD:H s.z=MA:=I.hok.fresh (IY _)
 refine Jy (oV ?_)
 generalize hh:s.heap.push { cls:=.type "list",dict:=MA,data:=.seq ([]:p4).toArray }=h
 generalize h0:pushCells (({ s with heap:=h }:IS).heap.push { cls:=.type "dict",data:=.dict #[] }) scope.names=j
 have k3:∀b o,s.heap.get? b=LZ o->h.get? b=LZ o:=fun b o e=>by rw[<-hh];exact IZ _ e
 have I3:Inv X MN σ (upd H s.z (.lst [])) { s with heap:=h }:=by
  refine I.laid (t':=s.toks) k3 (IY _) ?_
  refine⟨Kf _,[],0,.nil,?_⟩
  rw[<-hh]
  exact J3 _ rfl
 have k:∀b∈fp,cQ X MN (upd H s.z (.lst [])) b:=fun b a=>⟨by rw[aZ (JB (g0 b a))];exact(hf b a).1,(hf b a).2⟩
 have s0:h.objs.size=s.z+1:=by rw[<-hh,Ki]
 have i0:∀b∈fp,b<h.objs.size:=fun b a=>by rw[s0];exact Nat.lt_succ_of_lt (g0 b a)
 have k4:∀b o,h.get? b=LZ o->j.get? b=LZ o:=fun b o e=>by rw[<-h0];exact pushCells_keeps _ _ b o (IZ _ e)
 have I4:=mC c I3 k i0 (h':=j) h0.symm k4
 obtain⟨W,⟨m0,w0⟩,k0⟩:=wc _ hD
 have PU:tn 0 j:=T.keep 0 _ _ st fun b a o e=>k4 b o (k3 b o e)
 generalize hX:Mx X xs js scope h.objs.size { s with heap:=h } (upd H s.z (.lst [])) fp=X' at I4
 have S:∀{pins':pa} {f:Hp} {G:L2.St} {F:IS},Inv X' [] G f F->(∀b∈fp,f b=MA)->∀b∈fp,cQ X' [] f b:=fun{pins' f G F} J' hn b a=>by
  subst hX
  obtain⟨a1,a2⟩:=J'.ok.exf b a
  exact⟨hn b a,a1,J'.ok.exfs b a,.inl a,a2,fun p hp=>absurd (show p∈([]:pa)from hp) (by simp)⟩
 have O:Lb (Jf X.prog X.w) X.A (.compLoop (.ListComp elt [⟨tg,iter,ifs,0⟩] scope pos) 0 (.ref it) (.ref s.z) (kO scope h.objs.size X.env)) (R (.ref s.z) h.objs.size)
  { s with heap:=j }:=by
  refine wR (fun n F=>∃i os f,os.length=xs.length/\Inv X' [] (cσ os js σ) f F/\tn i F.heap/\(∀b∈fp,f b=MA)/\W i n f) ?_ m0 ⟨0,_,_,by simp,I4,PU,fun b a=>(k b a).1,w0⟩
  rintro n s5 ⟨i,os,H5,t0,I5,OZ,l0,w5⟩
  rcases k0 i n H5 w5 with⟨stop,q⟩|⟨go,step⟩
  ·subst hX
   refine Ja (T.done (Mx X xs js scope h.objs.size { s with heap:=h } (upd H s.z (.lst [])) fp) rfl rfl rfl hc i [] s5 _ H5 NQ I5 (S (pins':=[]) I5 l0) OZ stop) (fun r s6 U=>?_) fun _ _ z=>z
   obtain⟨hr,I6⟩:=U
   subst hr
   refine hR _ _ H5 s6 (I3.zb I6.os I6.base I6.hok I6.bare fun b a=>⟨(k b a).2.2.2.1,(k b a).2.1,(k b a).2.2.2.2.1,(k b a).2.2.2.2.2⟩) (I3.pV (IY _) I6.free) (let⟨m,hm,_⟩:=I6.loc;⟨m,hm⟩) q
  ·subst hX
   refine Ja (T.item (Mx X xs js scope h.objs.size { s with heap:=h } (upd H s.z (.lst [])) fp) rfl rfl rfl hc i [] s5 _ H5 NQ I5 (S (pins':=[]) I5 l0) OZ go) (fun r s6 V=>?_) fun _ _ z=>z
   obtain⟨u,hr,h6⟩:=V
   subst hr
   refine Ja h6 (fun _ s7 Y=>?_) fun _ _ z=>z
   obtain⟨y,H7,I7,r7,y7,O1,u0⟩:=Y
   have v0:=I7.pinned (S (pins':=[]) I7 u0) (T.obj _ _ O1)
   obtain⟨L,n0,q8⟩:=step y H7 y7
   have l8:=hG.len _ _ _ n0
   refine Ja (hg _ _ _ _ _ s7 _ H7 y u (fun G f=>G=cσ L js σ/\f=H7) v0 r7 (hG.run y H7 os _ L _ t0 n0 ⟨rfl,rfl⟩)) (fun _ s8 Z=>?_) fun _ _ z=>z
   obtain⟨e1,H8,I8,e8,x0⟩:=Z
   subst e8 x0
   refine Ja (ht _ _ _ _ _ s8 _ _ _ I8 q8) (fun ok s9 a0=>?_) fun _ _ z=>z
   obtain⟨H9,I9,q9⟩:=a0
   have P:∀{M:Nat} {l:Hp} {t:IS},Inv (Mx X xs js scope h.objs.size { s with heap:=h } (upd H s.z (.lst [])) fp) ([]++gQ fp s7.heap) (cσ L js σ) l t->M<n->W (i+1) M l->
    ∃m,m<n/\∃i os f,os.length=xs.length/\Inv (Mx X xs js scope h.objs.size { s with heap:=h } (upd H s.z (.lst [])) fp) [] (cσ os js σ) f t/\tn i t.heap/\(∀b∈fp,f b=MA)/\W i m f:=fun{M l t} x B y0=>by
    refine⟨M,B,i+1,L,l,l8,x.d9,T.keep _ _ _ O1 fun b a o e=>(x.pin (b,o) (Jh _ (Jh _ (bS a e)))).1,fun b a=>?_,y0⟩
    obtain⟨o',e,d⟩:=T.obj _ _ O1 b a
    exact(x.pin (b,o') (Jh _ (Jh _ (bS a e)))).2.1
   cases ok with
   |false=>
    rw[MD J9]at q9 ⊢
    obtain⟨M,B,w9⟩:=q9
    exact P I9 B w9
   |true=>
    rw[ME rfl]at q9 ⊢
    refine Ja (he _ _ _ _ _ s9 _ _ _ I9 q9) (fun v t b0=>?_) fun _ _ z=>z
    obtain⟨vv,l,x,z0,ys,o0,r0,b1⟩:=b0
    refine Ja (jR (X:=(Mx X xs js scope h.objs.size { s with heap:=h } (upd H s.z (.lst [])) fp)) _ t _ l (.ref s.z) [vv] (.ref s.z) [v] (fun _ f=>∃M,M<n/\W (i+1) M f) x rfl (.cons z0 .nil) ⟨_,ys,vv,rfl,rfl,o0,r0,b1⟩) (fun _ f1 c0=>?_) fun _ _ z=>z
    obtain⟨_,g1,c1,_,M,B,d1⟩:=c0
    exact P c1 B d1
 exact codeAny_compStart_list O (T.self X.A 0 _ _ _ PU O)
theorem AU(c:Mm X xs js scope)(k:X.calm=MB)(l:PI X tg iter wi)(n:OE xs.length g own)(p:∀C s H fp,PG (Mx X xs js scope C s H fp) tg g)(r:∀C s H fp,R0 (Mx X xs js scope C s H fp) ifs tc)(t:∀C s H fp,PE (Mx X xs js scope C s H fp) elt te)(u:∀x,Jz iter X.env x=pure x:=by intro _;rfl) : PE X (.ListComp elt [⟨tg,iter,ifs,0⟩] scope pos) (tU js own wi tc te):=by intro MN s σ H Q I h;rw[eval_ListComp];refine wpAny_comprehension_free (use:=MA) rfl u (c.Ab I.ok) c.kind c.names (Mr (l MN s σ H _ I h) fun v M y=>Mr y fun z N a=>?_);obtain⟨it,fp,tn,J,O,e,B,T,st,E,w⟩:=a;subst e;refine rk (R:=fun i C=>compPost (Jf X.prog X.w) X.A X.xe MA (EP X MN σ Q) i C) c k n p r t B T st E w fun D C F G K f d q=>?_;obtain⟨m,L⟩:=d;exact⟨m,L,fun P j=>⟨.ref D,F,K.turned (t':=G.toks) (fun b o ne e=>j.extBut b o ne e) f.1 f.2.1 f.2.2.2.1 f.2.2.2.2.1 f.2.2.2.2.2,rfl,q⟩⟩
theorem Ao{i:Nat}{y:Str}{l j:Pos}(c:Mm X xs js scope)(F:X.calm=MB)(G:X.N.Nodup)(K:PI X tg iter wi)(L:OE xs.length g own)(M:∀C s H fp,PG (Mx X xs js scope C s H fp) tg g)(O:∀C s H fp,R0 (Mx X xs js scope C s H fp) ifs tc)(P:∀C s H fp,PE (Mx X xs js scope C s H fp) elt te)(S:X.N[i]?=LZ y)(E:X.env.scope.names.lookup y=LZ .local)
 (p:Lo (.ListComp elt [⟨tg,iter,ifs,0⟩] scope pos) (LZ (.Name y l)) j.line X.env=pure MB) (U:∀x,Jz iter X.env x=pure x:=by intro _;rfl) :
 PS X (.Assign [.Name y l] (.ListComp elt [⟨tg,iter,ifs,0⟩] scope pos) j) (A7 (tU js own wi tc te) (gg i)):=by
 intro MN s σ H B I h
 rw[exec_Assign_Name_used _ _ _ _ p]
 refine cc (Ks (cc ?_))
 show J4 _ X.A (do let _ <-comprehension (.ListComp elt [⟨tg,iter,ifs,0⟩] scope pos) scope X.env _ (newList []) MC (eval iter X.env) (LZ (LN (.Name y l) X.env))) _ _ s
 refine cc (Ja (wpAny_comprehension_free (use:=LZ (LN (.Name y l) X.env)) (Q:=fun _ n=>SP X MN B .next n) rfl U (c.Ab I.ok) c.kind c.names
  (Mr (K MN s σ H _ I h) fun v s1 V=>Mr V fun W s2 z=>?_)) (fun _ n Y=>IU (IU Y)) fun _ _ e=>e)
 obtain⟨it,fp,tn,J,H2,e,Z,T,st,f2,w⟩:=z
 subst e
 refine rk (R:=fun r C=>compPost (Jf X.prog X.w) X.A X.xe (LZ (LN (.Name y l) X.env)) (fun _ n=>SP X MN B .next n) r C) c F L M O P Z T st f2 w fun D C H' n I' k d q=>?_
 obtain⟨m,hm⟩:=d
 show J4 _ X.A (LN (.Name y l) X.env (.ref D)) _ _ _
 refine wpAny_assign_Name (jN I' G S (.inl E) (v:=.ref D) rfl (fun s9 I9 f=>?_) (.inr E))
 obtain⟨a,sb,ha⟩:=f
 have t:C≠a:=by
  rcases ha with z|z
  ·rw[z];exact k.2.1
  ·exact fun e=>k.2.2.2.2.1 y a z e.symm
 refine⟨m,hm.sameBut sb t,fun h' u=>?_⟩
 exact⟨_,H',I9.turned (t':=s9.toks) (fun b o ne e=>u.extBut b o ne e) k.1 k.2.1 k.2.2.2.1 k.2.2.2.2.1 k.2.2.2.2.2,q⟩
end
inductive P5 where
 |one|many (n:Nat)
def rj(K:I0):P5->Own
 |.one=>fun y _ os=>os=[LZ y]
 |.many n=>fun y H os=>∃a xs,y=.ref a/\NB K H a xs/\xs.length=n/\os=xs.map LZ
theorem sQ{K:I0}:OE 1 (gg 0) (rj K .one):=⟨fun _ _ os h=>by rw[h];rfl,fun y H b a os Q c d q=>by
 obtain⟨o,rfl⟩:=AA c
 rw[show os=[LZ y]from d]at q;exact q⟩
theorem Dc{K:I0}:OE 2 (C0 K 2 (rS (gg 0) (rS (gg 1) Dz))) (rj K (.many 2)):=⟨fun _ _ os z=>by
 obtain⟨a,xs,_,_,b,e⟩:=z
 rw[e];simpa using b,fun y H f c os Q b z q=>by
 obtain⟨a,xs,e,g,d,h⟩:=z
 obtain⟨o,i,rfl⟩:=xy b
 obtain⟨u,v,rfl⟩:=xy d
 rw[h]at q;exact⟨a,_,e,g,d,u,_,rfl,v,_,rfl,rfl,q⟩⟩
def yt:P5->D->DS->Prop
 |.one,d,os=>os=[LZ d]
 |.many n,d,os=>∃a,d=.tup a/\a.length=n/\os=a.map LZ
def cδ(os:DS)(js:pq)(δ:DS):DS:=os++js.map fun j=>(δ[j]?).join
theorem lD{K:I0}{H:Hp}{δ os:DS}{σ us:L2.St}{js:pq}(c:Slots K H δ σ)(r:Slots K H os us):Slots K H (cδ os js δ) (cσ us js σ):=by
 refine⟨by simp[cδ,cσ,r.len],fun i e q=>?_⟩;unfold cδ at q;unfold cσ;by_cases a:i<os.length
 ·rw[JY a]at q;rw[JY (by rw[<-r.len];exact a)];exact r.at' i e q
 ·rw[JV ()]at q;rw[JV (by rw[<-r.len];omega),<-r.len];rw[IX]at q ⊢;cases b:js[i-os.length]? with
  |none=>rw[b]at q;cases q
  |some j=>
   rw[b]at q
   have e2:(δ[j]?).join=LZ e:=Option.some.inj q
   have e3:δ[j]?=LZ (LZ e):=by
    cases z:δ[j]? with
    |none=>rw[z]at e2;cases e2
    |some o=>rw[z]at e2;exact congrArg LZ e2
   obtain⟨d,e4,f⟩:=c.at' j e e3
   exact⟨d,by rw[show(LZ j).map (fun j=>(σ[j]?).join)=LZ ((σ[j]?).join)from rfl,e4];rfl,f⟩
theorem jK{K:I0}{H:Hp}{a:rx}{xs:ro}(r:aG K H a xs):Slots K H (a.map LZ) (xs.map LZ):=by
 refine⟨by simp[r.length],fun i d e=>?_⟩;rw[IX]at e ⊢;cases q:a[i]? with
 |none=>rw[q]at e;cases e
 |some b=>
  rw[q]at e;cases e
  obtain⟨x,e1,e2⟩:=r.get q
  exact⟨x,by rw[e1];rfl,e2⟩
theorem qp{K:I0}{H:Hp}{tk:P5}{d:D}{v:V}{os:DS}(r:Rep K H d v)(h:yt tk d os):∃us,rj K tk v H us/\Slots K H os us:=by
 cases tk with
 |one=>
  rw[show os=[LZ d]from h]
  exact⟨[LZ v],rfl,jK (.cons r .nil)⟩
 |many n=>
  obtain⟨f,rfl,c,rfl⟩:=h
  rw[Rep]at r
  obtain⟨a,xs,rfl,e,b⟩:=r
  exact⟨_,⟨a,xs,rfl,e,by rw[<-b.length];exact c,rfl⟩,jK b⟩
def lH:NT:=fun _ M Q=>Q MB M
def y6(I:Qg)(tk:P5)(js:pq)(tc:NT)(te:TD)(δ:DS)(f:MH)(Q:DK):Prop:=I.n<=1000000/\∀p,f p=MA->∃W:Nat->rx->MH->Prop,W 0 [] (az f p (.lst []))/\(∀i a M,i<=I.n->W i a M->I.C M)/\
 (∀i a d M,i<I.n->I.item i=LZ d->W i a M->∃os,yt tk d os/\tc (cδ os js δ) M fun b g=>if b=MB then te (cδ os js δ) g fun e h=>∃c,Sub c h/\c p=LZ (.lst a)/\W (i+1) (a++[e]) (az c p (.lst (a++[e])))else ∃c,Sub c g/\W (i+1) a c)/\∀a M,W I.n a M->Q (.ref p) M
def kh(a:Nt)(tk:P5)(js:pq)(tc:NT)(te:TD):TD:=fun δ M Q=>a δ M fun I b=>y6 I tk js tc te δ b Q
section
variable{X:Cx}{K:I0}
theorem ou{D:Nt}{tk:P5}{js:pq}{tc:NT}{te:TD}{σ:L2.St}{H:Hp}{Q:VK}(h:lift K (kh D tk js tc te) σ H Q):tU js (rj K tk) (l6 K D) (liftT K tc) (lift K te) σ H Q:=by
 obtain⟨δ,M,R,E,T,q,t⟩:=h;refine⟨δ,M,_,E,T,q,fun I M1 H1 J F G w x p y=>?_⟩;obtain⟨U,w⟩:=w;obtain⟨W,V,hC,l,done⟩:=w p (G.fresh y);refine⟨fun i m j=>m=I.n-i/\i<=I.n/\Mp K H1 j/\∃c M,c.length<=i/\My K j M/\W i c M,⟨I.n,by simp,Kf _,.new y,[],_,IY _,G.nD y .nil,V⟩,?_⟩;rintro i m j ⟨rfl,z,f,c,k,Y,r,o⟩;by_cases a:i<I.n
 ·refine .inr ⟨x.go i j k a f r (hC _ _ _ z o),fun v Z hy=>?_⟩;obtain⟨A,a3,d,ed,rd⟩:=x.yld i j k v Z a f r (hC _ _ _ z o) hy;obtain⟨os,ow,q3⟩:=l i c d k a ed o;obtain⟨us,uv,su⟩:=qp rd ow;have L:=lD (js:=js) (E.mono ((F.trans f).trans A)) su;refine⟨us,uv,cδ os js δ,k,_,L,a3,q3,fun b M4 H4 B N s=>?_⟩;cases b with
  |false=>
   rw[MD J9]at s ⊢
   obtain⟨M5,s5,w5⟩:=s
   exact⟨I.n-(i+1),(),rfl,a,(f.trans A).trans B,c,M5,(),N.sub s5,w5⟩
  |true=>
   rw[ME rfl]at s ⊢
   refine⟨cδ os js δ,M4,_,L.mono B,N,s,fun e M' u H5 g5 r5 O g=>?_⟩
   obtain⟨M6,P,e6,w6⟩:=g
   obtain⟨zs,C,S⟩:=(O.sub P) _ _ e6
   refine⟨zs,C,?_,I.n-(i+1),(),rfl,a,(((f.trans A).trans B).trans g5).trans (.lst C),c++[e],_,by simp;omega,(O.sub P).za C (S.append (.cons r5 .nil)),w6⟩
   rw[<-S.length]
   exact Nat.lt_of_le_of_lt Y (Jm a (K4 U ⋯))
 ·obtain rfl:i=I.n:=()
  exact .inl ⟨x.stop j k f r (hC _ _ _ z o),t _ _ _ _ (F.trans f) (by rw[Rep]) r (done c k o)⟩
variable{xs:rf}{tg:oT}{pos:Pos}{js:pq}{scope:Lp}{elt iter:oT}{ifs:ra}{te:TD}{tc:NT}{g:TG}{tk:P5}{wd:Nt}
namespace Zq
@[scoped irreducible]def _root_.SD.DTs(X:Cx)(ifs:ra)(t:NT):Prop:=R0 X ifs (liftT X.K t)
end Zq
theorem cG:DTs X [] lH:=fun MN s σ H Q I a=>by obtain⟨δ,M,R,d,c,q,b⟩:=a;exact(AL MN s σ H Q I (b _ _ _ .refl c q))
theorem kW{c:oT}{t:NT}(h:DT X c t):DTs X [c] t:=BP h
theorem um(c:Mm X xs js scope)(a:X.calm=MB)(b:DI X tg iter wd)(d:OE xs.length g (rj X.K tk))(e:∀C s H fp,PG (Mx X xs js scope C s H fp) tg g)(f:∀C s H fp,DTs (Mx X xs js scope C s H fp) ifs tc)(i:∀C s H fp,DE (Mx X xs js scope C s H fp) elt te) (j:∀x,Jz iter X.env x=pure x:=by intro _;rfl):DE X (.ListComp elt [⟨tg,iter,ifs,0⟩] scope pos) (kh wd tk js tc te):=bj (AU (te:=lift X.K te) (tc:=liftT X.K tc) c a b d e f i j) fun _ _ _ h=>ou h
theorem Bu(i:Nat){y:Str}{j b:Pos}(l:X.N.Nodup)(c:Mm X xs js scope)(m:X.calm=MB)(n:DI X tg iter wd)(o:OE xs.length g (rj X.K tk))(p:∀C s H fp,PG (Mx X xs js scope C s H fp) tg g)(r:∀C s H fp,DTs (Mx X xs js scope C s H fp) ifs tc)(t:∀C s H fp,DE (Mx X xs js scope C s H fp) elt te) (u:X.N[i]?=LZ y:=by rfl) (w:X.env.scope.names.lookup y=LZ .local:=by rfl) (h:Lo (.ListComp elt [⟨tg,iter,ifs,0⟩] scope pos) (LZ (.Name y j)) b.line X.env=pure MB:=by rfl) (f:∀x,Jz iter X.env x=pure x:=by intro _;rfl) : DSt X (.Assign [.Name y j] (.ListComp elt [⟨tg,iter,ifs,0⟩] scope pos) b) (dQ (kh wd tk js tc te) (aT i)):=cU (Ao (te:=lift X.K te) (tc:=liftT X.K tc) c m l n o p r t u w h f) fun E σ H e=>by obtain⟨δ,M,f,a,B,ok,q⟩:=e;exact(ou ⟨δ,M,_,f,a,q,fun d F v H1 k z A D=>ok.nx _ _ _ _ k ((f.mono k).set z i) A D⟩)
theorem comp_map{I:Qg}{tk:P5}{js:pq}{te:TD}{δ:DS}{b:MH}{Q:DK}(f:Nat->D)(j:I.n<=1000000)(hC:∀p a,b p=MA->I.C (az b p (.lst a))) (h:∀i d M,i<I.n->I.item i=LZ d->Sub b M->∃os,yt tk d os/\∀K:DK,(∀c,Sub M c->K (f i) c)->te (cδ os js δ) M K) (l:∀p,b p=MA->Q (.ref p) (az b p (.lst ((J8 I.n).map f)))):y6 I tk js lH te δ b Q:=by
 refine⟨j,fun p e=>⟨fun i a M=>a=(J8 i).map f/\M=az b p (.lst a),⟨rfl,rfl⟩,?_,?_,?_⟩⟩
 ·rintro i a M _ ⟨_,rfl⟩;exact hC p a e
 ·rintro i a d M m hd ⟨rfl,rfl⟩;obtain⟨os,o,k⟩:=h i d _ m hd (.new e .refl);refine⟨os,o,?_⟩;unfold lH;refine DR (k _ ?_);exact fun c q=>⟨_,q,ag,by rw[Kw,Jg];rfl,by rw[bD]⟩
 ·rintro a M ⟨rfl,rfl⟩;exact l p e
end
def Fx(X:Cx)(xs:rf)(js:pq)(scope:Lp):Bool:=
 scope.kind==.function&&scope.names.all (fun y=>(y.2 != .cell||xs.contains y.1)&&(y.2 != .free||!xs.contains y.1))&&scope.names.all (fun y=>y.2 != .local||scope.names.lookup y.1==LZ .local)&&xs.all (fun x=>scope.names.lookup x==LZ .local||scope.names.lookup x==LZ .cell) &&
  scope.names.all (fun y=>y.2 != .free||(X.env.kindOf y.1==LZ .cell||X.env.kindOf y.1==LZ .free))&&decide (cN X xs js).Nodup&&js.all (fun j=>scope.names.lookup ((X.N[j]?).getD ("":Str)) != LZ .local)
theorem Mm.of{X:Cx}{xs:rf}{js:pq}{scope:Lp}(h:Fx X xs js scope=MB):Mm X xs js scope:=by
 unfold Fx at h;simp only[Jp]at h;obtain⟨⟨⟨⟨⟨⟨c,b⟩,d⟩,e⟩,f⟩,g⟩,i⟩:=h;refine⟨‹c›,fun y a k=>?_,fun y a hf=>?_,fun y a l=>?_,fun x m=>?_,fun y a hf=>?_,MI g,fun j n=>?_⟩
 ·have:=JR.mp b y a;rw[k]at this;simpa using this
 ·have:=JR.mp b y a;rw[hf]at this;simpa using this
 ·have:=JR.mp d y a;rw[l]at this;simpa using this
 ·have:=JR.mp e x m;simpa using this
 ·have:=JR.mp f y a;rw[hf]at this;simpa using this
 ·have:=JR.mp i j n;simpa using this
abbrev Rw:=DS->MH->(qb->MH->Prop)->Prop
def uV(K:I0)(t:Rw):TO:=fun σ H Q=>∃δ M R,Slots K H δ σ/\My K H M/\t δ M R/\∀o b a,Mp K H a->My K a b->R o b->Q o a
def y9:Rw:=fun _ M Q=>Q MA M
def ye(t:TD):Rw:=fun δ M Q=>t δ M fun x a=>∃i,x=.int i/\Q (LZ i) a
def cutD(xs:rx)(a b:qb):rx:=(xs.drop (HT.sIx xs.length 0 a)).take (HT.sIx xs.length xs.length b-HT.sIx xs.length 0 a)
def Hg:D->qb->qb->MH->DK->Prop:=fun x c d M Q=>match x with
 |.ref a=>∃b,M a=LZ (.lst b)/\∀p,M p=MA->Q (.ref p) (az M p (.lst (cutD b c d)))
 |.rol b=>∀p,M p=MA->Q (.ref p) (az M p (.lst (cutD b c d)))
 |.tup b=>¬(HT.sIx b.length 0 c=0/\HT.sIx b.length b.length d=b.length)/\Q (.tup (cutD b c d)) M
 |_=>False
def Ic(te:TD)(a b:Rw):TD:=fun δ M Q=>te δ M fun x c=>a δ c fun l d=>b δ d fun u e=>Hg x l u e Q
theorem aG.cut{K:I0}{H:Hp}{a:rx}{xs:ro}(h:aG K H a xs)(b c:qb):aG K H (cutD a b c) (qj xs b c):=by unfold cutD qj;rw[h.length];exact(h.drop _).take _
section
variable{X:Cx}{e a:oT}{te:TD}{tl th:Rw}{lo hi:Option oT}{pos p2:Pos}
theorem zH{e:Option oT}{t t':TO}(h:PO X e t)(k:∀σ H Q,t' σ H Q->t σ H Q):PO X e t':=fun MN s σ H Q I q=>h MN s σ H Q I (k _ _ _ q)
theorem ly:PO X MA (uV X.K y9):=zH Av fun σ H Q b=>by obtain⟨δ,M,R,d,a,q,c⟩:=b;exact(c _ _ _ .refl a q)
theorem jb(h:DE X e te):PO X (LZ e) (uV X.K (ye te)):=zH (Bg h) fun σ H Q b=>by obtain⟨δ,M,R,g,a,q,c⟩:=b;exact(⟨δ,M,_,g,a,q,fun d o v H1 j f k l=>by
 obtain⟨i,m,n⟩:=l
 subst m
 rw[Rep]at f
 exact⟨i,f,c _ _ _ j k n⟩⟩)
theorem jA(r:DE X a te)(s:PO X lo (uV X.K tl))(t:PO X hi (uV X.K th)):DE X (.Subscript a (.Slice lo hi MA p2) pos) (Ic te tl th):=
 bj (yC (AM.or Ea) r s t) fun σ H Q f=>by obtain⟨δ,M,R,m,a,q,g⟩:=f;exact(⟨δ,M,_,m,a,q,fun x w v H1 n y A B=>⟨δ,w,_,m.mono n,A,B,fun l C I o D E=>⟨δ,C,_,m.mono (n.trans o),D,E,fun u J L p h d=>by
  have G:=(n.trans o).trans p
  have j:=y.mono (o.trans p)
  unfold Hg at d
  split at d
  ·obtain⟨N,e3,d⟩:=d
   obtain rfl:v=.ref _:=j
   obtain⟨xs,k,i⟩:=h _ _ e3
   exact .inl ⟨_,xs,rfl,ND.of k,fun z c=>g _ _ _ _ (G.trans (.new c)) (by rw[Rep]) (h.nD c (i.cut _ _)) (d z (h.fresh c))⟩
  ·rw[Rep]at j
   obtain⟨b,xs,rfl,k,i⟩:=j
   exact .inl ⟨_,xs,rfl,k.sql,fun z c=>g _ _ _ _ (G.trans (.new c)) (by rw[Rep]) (h.nD c (i.cut _ _)) (d z (h.fresh c))⟩
  ·obtain⟨F,d⟩:=d
   rw[Rep]at j
   obtain⟨b,xs,rfl,k,i⟩:=j
   exact .inr ⟨_,xs,rfl,k,by rw[<-i.length];exact F,fun z c=>g _ _ _ _ (G.trans (.new c)) (by rw[Rep];exact⟨z,_,rfl,NB.of bc,(i.cut _ _).mono (.new c)⟩) (h.new c) d⟩
  ·exact d.elim⟩⟩⟩)
end
section
variable{X:Cx}{x y z:Str}{px py pz pt pos:Pos}{kt:Nat}{js:pq}{scope:Lp}{elt iter:oT}{ifs:ra}{te:TD}{tc:NT}{wd:Nt}{xs:rf}
theorem iW(c:Mm X xs js scope)(i:Nat)(a:xs[i]?=LZ x){C:n7}{s:IS}{H:Hp}{fp:rb}:PG (Mx X xs js scope C s H fp) (.Name x px) (gg i):=by
 have d:i<xs.length:=(J1.mp a).1;have b:=IW a
 have e:Loc (Mx X xs js scope C s H fp).env.scope x:=by
  rcases c.own x b with z|z
  ·exact .inl (fZ ⋯ z)
  ·exact .inr (fZ ⋯ z)
 refine vH (i:=i) c.nd ?_ e (.inl (by show xs.contains x=MB;simpa using b));show(xs++js.map fun j=>(X.N[j]?).getD ("":Str))[i]?=LZ x;rw[JY d];exact a
theorem A3(c:Mm X [x,y] js scope)(a:X.calm=MB){C:n7}{s:IS}{H:Hp}{fp:rb}:PG (Mx X [x,y] js scope C s H fp) (.Tuple [.Name x px,.Name y py] kt pt) (C0 X.K 2 (rS (gg 0) (rS (gg 1) Dz))):=xn (X:=Mx X [x,y] js scope C s H fp) a (l9 (iW c 0 rfl) (l9 (iW c 1 rfl) ur)) rfl rfl
theorem gO(c:Mm X [x] js scope)(a:X.calm=MB)(b:DI X (.Name x px) iter wd)(d:∀C s H fp,DTs (Mx X [x] js scope C s H fp) ifs tc)(e:∀C s H fp,DE (Mx X [x] js scope C s H fp) elt te) (f:∀x,Jz iter X.env x=pure x:=by intro _;rfl):DE X (.ListComp elt [⟨.Name x px,iter,ifs,0⟩] scope pos) (kh wd .one js tc te):=um c a b sQ (fun _ _ _ _=>iW c 0 rfl) d e f
theorem lU(c:Mm X [x,y] js scope)(a:X.calm=MB)(b:DI X (.Tuple [.Name x px,.Name y py] kt pt) iter wd)(d:∀C s H fp,DTs (Mx X [x,y] js scope C s H fp) ifs tc)(e:∀C s H fp,DE (Mx X [x,y] js scope C s H fp) elt te) (f:∀x,Jz iter X.env x=pure x:=by intro _;rfl):DE X (.ListComp elt [⟨.Tuple [.Name x px,.Name y py] kt pt,iter,ifs,0⟩] scope pos) (kh wd (.many 2) js tc te):=um c a b Dc (fun _ _ _ _=>A3 c a) d e f
theorem dE(i:Nat){v:Str}{d a:Pos}(e:X.N.Nodup)(c:Mm X [x] js scope)(f:X.calm=MB)(g:DI X (.Name x px) iter wd)(h:∀C s H fp,DTs (Mx X [x] js scope C s H fp) ifs tc)(j:∀C s H fp,DE (Mx X [x] js scope C s H fp) elt te) (k:X.N[i]?=LZ v:=by rfl) (l:X.env.scope.names.lookup v=LZ .local:=by rfl) (b:Lo (.ListComp elt [⟨.Name x px,iter,ifs,0⟩] scope pos) (LZ (.Name v d)) a.line X.env=pure MB:=by rfl) (m:∀x,Jz iter X.env x=pure x:=by intro _;rfl) : DSt X (.Assign [.Name v d] (.ListComp elt [⟨.Name x px,iter,ifs,0⟩] scope pos) a) (dQ (kh wd .one js tc te) (aT i)):=Bu i e c f g sQ (fun _ _ _ _=>iW c 0 rfl) h j k l b m
end
section
variable{prog:Jk}{w:JJ}{A:JP}{E:o_}{s:IS}
theorem zK{N L:String}{op:CmpOp}{a b:IQ}{c:Bool}{Q:o_}(n:(N="max"/\L="max.loop"/\op=.Gt)\/(N="min"/\L="min.loop"/\op=.Lt))(hh:A.handled=MA)
 (R:∀(t:IS) (Q':o_) (E':o_),(∀x o,s.heap.get? x=LZ o->t.heap.get? x=LZ o)->Q' (.bool c) t->J4 (Jf prog w) A.in1 (richCompare op b a) Q' E' t)
 (h:∀h' tk,(∀x o,s.heap.get? x=LZ o->h'.get? x=LZ o)->Q (if c=MB then b else a) { s with heap:=h',toks:=tk }) :
 J4 (Jf prog w) A (call (.builtin N) [a,b]) Q E s:=by
 rcases n with⟨rfl,P,rfl⟩|⟨rfl,P,rfl⟩
 have D:(toString "max"++toString ".loop":String)=L:=by rw[P];decide
 have i:=F.plain_max_loop
 have G:=F.entry_max_loop
 refine call_function_tree F.kind_max F.plain_max F.entry_max (F.args_max2 _ _) ?_
 rotate_left
 have D:(toString "min"++toString ".loop":String)=L:=by rw[P];decide
 have i:=L5
 have G:=F.entry_min_loop
 refine call_function_tree F.kind_min F.plain_min F.entry_min (F.args_min2 _ _) ?_
 all_goals
  rw[<-P]at i G
  show J4 _ A.in1 (Builtin.Builtins.bindParams _ ["key","default"] 0 ⟨[],[]⟩ >>= fun _=>_) _ _ s
  refine cc (wpAny_of_eq (a:=[MA,MA]) rfl ?_)
  show J4 _ A.in1 (newTuple [a,b] >>= fun _=>_) _ _ s
  refine cc (Jy ?_)
  generalize e1:s.heap.push { cls:=.type "tuple",dict:=MA,data:=.seq ([a,b]:p4).toArray }=k
  have k1:∀x o,s.heap.get? x=LZ o->k.get? x=LZ o:=fun x o q=>by rw[<-e1];exact IZ _ q
  have hT:k.IsTuple s.z #[a,b]:=by rw[<-e1];exact⟨_,J3 _ rfl,rfl,0,rfl⟩
  have z1:k.objs.size=s.z+1:=by rw[<-e1,Ki]
  refine cc (wpAny_pyIter_tuple (s:={ s with heap:=k }) hT ?_)
  refine cc (Jy ?_)
  dsimp only
  generalize eI:k.objs.size=I
  generalize e2:k.push _=z
  have k2:∀x o,k.get? x=LZ o->z.get? x=LZ o:=fun x o q=>by rw[<-e2];exact IZ _ q
  have hI:z.IsTupleIter I s.z 0:=by rw[<-e2,<-eI];exact⟨_,J3 _ rfl,rfl,rfl⟩
  have z2:z.objs.size=I+1:=by rw[<-e2,Ki,eI]
  generalize eS:z.objs.size=S
  generalize e3:z.push _=l
  have T:∀x o,z.get? x=LZ o->l.get? x=LZ o:=fun x o q=>by rw[<-e3];exact IZ _ q
  have hS:l.get? S=LZ { cls:=.type "list",dict:=MA,data:=.seq #[] 0,slots:=#[] }:=by rw[<-e3,<-eS];exact J3 _ rfl
  have H:S≠I:=()
  have g:∀x o,s.heap.get? x=LZ o->x≠I/\x≠S:=fun x o q=>⟨JB (Jm (J6 q) ()),JB (Jm (J6 q) ())⟩
  have J:l.IsTuple s.z #[a,b]:=by
   obtain⟨o,q,r⟩:=hT
   exact⟨o,T _ _ (k2 _ _ q),r⟩
  have U:l.IsTupleIter I s.z 0:=hI.at fun o q=>T _ _ q
  have TI:s.z≠I:=()
  have TS:s.z≠S:=()
  have m:∀x o,s.heap.get? x=LZ o->l.get? x=LZ o:=fun x o q=>T _ _ (k2 _ _ (k1 _ _ q))
  rw[D]
  refine IU ⟨LM i _,?_⟩
  have f:∀(t:IS) (v:IQ) (n:Nat),t.heap.IsTupleIter I s.z 2->t.heap.IsTuple s.z #[a,b]->t.heap.get? S=LZ { cls:=.type "list",dict:=MA,data:=.seq #[v,v] n,slots:=#[] }->
   (∃h' tk,t={ s with heap:=h',toks:=tk }/\∀x o,s.heap.get? x=LZ o->h'.get? x=LZ o)->v=(if c=MB then b else a)->Lb (Jf prog w) A (.builtin L ⟨[.ref I,.none,.ref S],[]⟩) (fun r s'=>match r with|.ok (.ret v)=>Q v s'|.ok _=>False|.error e=>E e s') t:=by
   rintro t v n i2 tT lS ⟨h',tk,rfl,kt⟩ ev
   refine LB G ?_
   rw[L8 i _]
   show J4 _ A.in1 (seqItems? (.ref S) >>= fun _=>_) _ _ _
   refine cc (KP lS rfl ?_)
   show J4 _ A.in1 (tryCatch (pyNext (.ref I)) _ >>= fun _=>_) _ _ _
   refine cc (Lr (wpAny_pyNext_tuple_end (A:=A.in1) hh i2 tT (by simp) fun B C=>?_))
   have V:B.get? S=LZ _:=C _ _ H lS
   show J4 _ A.in1 (updateSeq S (fun _=>#[]) >>= fun _=>_) _ _ _
   refine cc (wpAny_updateSeq V rfl (cc (wpAny_letGo (IU ?_))))
   show Q v _
   rw[ev]
   exact h _ _ fun x o q=>(JK _ _ (g x o q).2.symm).trans (C x o (g x o q).1 (kt x o q))
  refine LB G ?_
  rw[L8 i _]
  show J4 _ A.in1 (seqItems? (.ref S) >>= fun _=>_) _ _ _
  refine cc (KP (s:={ s with heap:=l }) hS rfl ?_)
  show J4 _ A.in1 (tryCatch (pyNext (.ref I)) _ >>= fun _=>_) _ _ _
  refine cc (Lr (wpAny_pyNext_tuple_item (s:={ s with heap:=l }) U J (x:=a) (by simp) fun B i4 C=>?_))
  have K:B.get? S=LZ _:=(C.2 _ H).trans hS
  have W:B.IsTuple s.z #[a,b]:=by
   obtain⟨o,q,r⟩:=J
   exact⟨o,(C.2 _ TI).trans q,r⟩
  show J4 _ A.in1 (updateSeq S (fun _=>#[a,a]) >>= fun _=>_) _ _ _
  refine cc (wpAny_updateSeq K rfl ?_)
  rw[D]
  refine IU ⟨LM i _,?_⟩
  generalize e5:B.update S _=p
  have X:∀x,x≠S->p.get? x=B.get? x:=fun x q=>by rw[<-e5];exact JK _ _ q.symm
  have j:∃n,p.get? S=LZ { cls:=.type "list",dict:=MA,data:=.seq #[a,a] n,slots:=#[] }:=⟨_,by rw[<-e5];exact Kl _ K rfl⟩
  obtain⟨n5,j⟩:=j
  have i5:p.IsTupleIter I s.z 1:=i4.at fun o q=>(X _ H.symm).trans q
  have M:p.IsTuple s.z #[a,b]:=by
   obtain⟨o,q,r⟩:=W
   exact⟨o,(X _ TS).trans q,r⟩
  have u:∀x o,s.heap.get? x=LZ o->p.get? x=LZ o:=fun x o q=>(X _ (g x o q).2).trans ((C.2 _ (g x o q).1).trans (m x o q))
  refine LB G ?_
  rw[L8 i _]
  show J4 _ A.in1 (seqItems? (.ref S) >>= fun _=>_) _ _ _
  refine cc (KP (s:={ s with heap:=p }) j rfl ?_)
  show J4 _ A.in1 (tryCatch (pyNext (.ref I)) _ >>= fun _=>_) _ _ _
  refine cc (Lr (wpAny_pyNext_tuple_item (s:={ s with heap:=p }) i5 M (x:=b) (by simp) fun Y i6 Z=>?_))
  have y:Y.get? S=LZ _:=(Z.2 _ H).trans j
  have O:Y.IsTuple s.z #[a,b]:=by
   obtain⟨o,q,r⟩:=M
   exact⟨o,(Z.2 _ TI).trans q,r⟩
  have d:∀x o,s.heap.get? x=LZ o->Y.get? x=LZ o:=fun x o q=>(Z.2 _ (g x o q).1).trans (u x o q)
  show J4 _ A.in1 (tryCatch (holding [b,b] (richCompare _ b a >>= fun _=>_)) _ >>= fun _=>_) _ _ _
  refine cc (Lr (K8 (cc (R _ _ _ d ?_))))
  refine cc (K8 (Kd ?_))
  refine cc (wpAny_letGo (IU ?_))
  cases c with
  |true=>
   simp only[if_true]at f ⊢
   refine cc (wpAny_updateSeq y rfl (cc (wpAny_letGo ?_)))
   rw[D]
   refine IU ⟨LM i _,f _ b _ (i6.at fun o q=>(JK _ _ H).trans q) ?_ (Kl _ y rfl) ⟨_,_,rfl,fun x o q=>(JK _ _ (g x o q).2.symm).trans (d x o q)⟩ rfl⟩
   obtain⟨o,q,r⟩:=O
   exact⟨o,(JK _ _ TS.symm).trans q,r⟩
  |false=>
   simp only[Kz,if_false]at f ⊢
   refine cc (wpAny_letGo ?_)
   rw[D]
   exact IU ⟨LM i _,f _ a _ i6 O y ⟨_,_,rfl,d⟩ rfl⟩
end
end SD
namespace HT
open PySem PyProof.Rows
def lexLe:pw->pw->Bool
 |[],[]=>MB
 |[],_::_=>MB
 |_::_,[]=>MC
 |x::xs,y::ys=>if x=y then lexLe xs ys else decide (x<=y)
def dF:pw->pw->Bool
 |[],[]=>MC
 |[],_::_=>MC
 |_::_,[]=>MB
 |x::xs,y::ys=>if x=y then dF xs ys else decide (y<x)
def mj(k:Bool)(ns ms:pw):Bool:=bif k then dF ns ms else lexLe ns ms
theorem wQ(k:Bool)(x y:Int)(xs a:pw):mj k (x::xs) (y::a)=if x=y then mj k xs a else bif k then decide (y<x)else decide (x<=y):=by cases k<;>rfl
theorem Af{k:Bool}{ns ms:pw}{a b:Nat}(z:ns=[]\/ms=[])(h:ns.length+b=ms.length+a):mj k ns ms=bif k then decide (a>b)else decide (a<=b):=by
 have e:mj k ns ms=bif k then decide (ns.length>ms.length)else decide (ns.length<=ms.length):=by
  rcases z with rfl|rfl
  ·cases k<;>cases ms<;>simp[mj,lexLe,dF]
  ·cases k<;>cases ns<;>simp[mj,lexLe,dF]
 rw[e];cases k
 ·exact decide_eq_decide.mpr ()
 ·exact decide_eq_decide.mpr ()
theorem BC(k:Bool)(A:JP)(s:IS)(a:Int)(t:Tok)(c:Int)(u:Tok)(prog:Jk)(w:JJ)(E:o_)(Q:o_)(h:Q (.bool (bif k then decide (c<a)else decide (a<=c))) s) : J4 (Jf prog w) A (richCompare (bif k then .Gt else .LtE) (.int a t) (.int c u)) Q E s:=by
 cases k
 ·exact(PyProof.Rows.le_int h:J4 (Jf prog w) A (JD .LtE (.int a t) (.int c u)) Q E s)
 ·exact(PyProof.Rows.gt_int h:J4 (Jf prog w) A (JD .Gt (.int a t) (.int c u)) Q E s)
section
open PySem.SeqAt
open PySem.AutoSeq1 (wpAny_loadPart')
open PySem.MeetsSeq PySem.MeetsSeq2 PySem.MeetsSeq3
theorem zq(k:Bool)(l b:n7)(items i:Array IQ)(n U:Nat)(V J:Option n7)(W K:Array (p_))(ns ms:pw)(P:Lc items.toList ns)(Q:Lc i.toList ms) :
 Meets ((bif k then LY.«tuple.__gt__» else LY.«tuple.__le__») ⟨[.ref l,.ref b],[]⟩)
  (fun _ R s=>s.heap.get? l=LZ { cls:=.type "tuple",dict:=V,data:=.seq items n,slots:=W }/\s.heap.get? b=LZ { cls:=.type "tuple",dict:=J,data:=.seq i U,slots:=K }/\
   R (.ok (.ret (.bool (mj k ns ms)))) s):=
 .of_wp fun prog w A R s h=>by
  obtain⟨H,g,d,I,os⟩:=s;obtain⟨X,Y,h⟩:=h
  have f2:=AutoSeq1.sub_tuple_tuple
  have z1:items.size=ns.length:=by rw[<-P.length];simp
  have z2:i.size=ms.length:=by rw[<-Q.length];simp
  have fc:=wQ k
  have L:=fun ns ms a b=>Af (k:=k) (ns:=ns) (ms:=ms) (a:=a) (b:=b)
  have S:=fun a t c u=>BC k A.in1 ⟨H,g,d,I,os⟩ a t c u prog w
  generalize mj k=f at h fc L
  cases k
  all_goals
   dsimp only[cond_true,cond_false]at fc L S ⊢
   wp_walk using Kb X,Kb Y,wpAny_forIn_list _ (fun r b M=>b.1=MA/\M=⟨H,g,d,I,os⟩/\∃(vs ws:p4) (j m:pw),r=vs.zip ws/\
    Lc vs j/\Lc ws m/\j.length+i.size=m.length+items.size/\R (.ok (.ret (.bool (f j m)))) ⟨H,g,d,I,os⟩) _
   case turn=>
    rintro⟨y,x⟩ r b M ⟨B,rfl,vs,ws,j,m,p,C,D,o,v⟩
    cases C with
    |nil=>rw[List.zip_nil_left]at p;cases p
    |cons a t F=>
     cases D with
     |nil=>rw[List.zip_nil_right]at p;cases p
     |cons c u G=>
      rw[List.zip_cons_cons]at p
      injection p with N E
      injection N with Z hx
      subst Z hx
      rw[fc]at v
      simp only[K1]at o
      obtain⟨e,he,z⟩:=qB A.in1 ⟨H,g,d,I,os⟩ a t c u
      refine cc (he prog w _ _ ?_)
      cases e with
      |true=>
       rw[ME (z.mp rfl)]at v
       wp_walk
       exact⟨rfl,rfl,_,_,_,_,E,F,G,(),v⟩
      |false=>
       rw[MD (fun q=>absurd (z.mpr q) J9)]at v
       have O:=S a t c u
       wp_walk using O
       exact⟨_,rfl,‹v›⟩
   case fin=>
    rintro⟨b1,b2⟩ M ⟨B,rfl,vs,ws,j,m,p,C,D,o,v⟩
    simp only at B
    subst B
    have T:=L j m items.size i.size (by
     cases C with
     |nil=>exact .inl rfl
     |cons a t T=>
      cases D with
      |nil=>exact .inr rfl
      |cons c u hw=>
       rw[List.zip_cons_cons]at p
       cases p) o
    rw[T]at v
    wp_walk
    exact⟨_,rfl,by simpa[Builtin.Tuple.tupleCompareSizes]using v⟩
   case h=>
    exact⟨rfl,rfl,items.toList,i.toList,ns,ms,rfl,P,Q,(),h⟩
end
section
variable{prog:Jk}{w:JJ}{A:JP}{E:o_}{s:IS}
theorem iN(k:Bool){l b:n7}{items a:Array IQ}{ns ms:pw}{Q:o_}(r:IsTup s.heap l items)(t:IsTup s.heap b a)(u:Lc items.toList ns)(v:Lc a.toList ms)
 (o:A.units<K0) (h:Q (.bool (mj k ns ms)) s):J4 (Jf prog w) A (JD (bif k then .Gt else .LtE) (.ref l) (.ref b)) Q E s:=by
 obtain⟨⟨cls,y,data,z⟩,f,p,n,hd⟩:=id r
 obtain⟨⟨q,g,i,j⟩,c,d,B,e⟩:=id t
 simp only at p hd d e
 subst p hd d e
 have m:=zq k l b items a n B y g z j ns ms u v
 have h:Value.bool (mj k ns ms)≠Value.notImplemented/\Q (.bool (mj k ns ms)) s:=⟨(fun x=>nomatch x),h⟩
 cases k
 ·exact richCompare_meets_room (op:=.LtE) ⟨_,f,rfl⟩ ⟨_,c,rfl⟩ PySem.F.slot_tuple_le PySem.F.entry_tuple_le (PySem.F.args_tuple_le_2 _ _) m ⟨f,c,h⟩ o
 ·exact richCompare_meets_room (op:=.Gt) ⟨_,f,rfl⟩ ⟨_,c,rfl⟩ PySem.F.slot_tuple_gt PySem.F.entry_tuple_gt (PySem.F.args_tuple_gt_2 _ _) m ⟨f,c,h⟩ o
end
end HT
namespace SD
open PySem PySem.Spec PyProof.Rows L2
section
variable{X:Cx}
theorem dZ{K:I0}{H:Hp}:∀{ns:pw} {xs:ro},aG K H (ns.map D.int) xs->xs=ns.map V.int
 |[],xs,h=>by rw[Kh,aG]at h;exact h
 |n::ns,xs,h=>by
  rw[J0,aG]at h
  obtain⟨x,r,rfl,a,b⟩:=h
  rw[Rep]at a
  rw[a,dZ b];rfl
theorem CF(d:X.A.units<K0):NS X (JD .LtE) (fun x y H Q=>∃a b ns ms,x=.ref a/\y=.ref b/\NB X.K H a (ns.map V.int)/\NB X.K H b (ms.map V.int)/\Q (.bl (HT.lexLe ns ms)) H):=by intro MN s σ H x y v u Q I e f h;obtain⟨a,b,ns,ms,rfl,rfl,g,i,q⟩:=h;cases e;cases f;obtain⟨j,k,l,_⟩:=I.tuple g;obtain⟨c,m,n,_⟩:=I.tuple i;exact HT.iN MC l n (intsAre_of k) (intsAre_of m) d ⟨.bl (HT.lexLe ns ms),H,I,rfl,q⟩
theorem Ed(d:X.A.units<K0):NS X (JD .Gt) (fun x y H Q=>∃a b ns ms,x=.ref a/\y=.ref b/\NB X.K H a (ns.map V.int)/\NB X.K H b (ms.map V.int)/\Q (.bl (HT.dF ns ms)) H):=by intro MN s σ H x y v u Q I e f h;obtain⟨a,b,ns,ms,rfl,rfl,g,i,q⟩:=h;cases e;cases f;obtain⟨j,k,l,_⟩:=I.tuple g;obtain⟨c,m,n,_⟩:=I.tuple i;exact HT.iN MB l n (intsAre_of k) (intsAre_of m) d ⟨.bl (HT.dF ns ms),H,I,rfl,q⟩
def rN(f:Int->Int->Bool)(g:pw->pw->Bool):N3:=fun x y M Q=>match x,y with
 |.int i,.int j=>True/\Q (.bl (f i j)) M
 |.tup a,.tup b=>∃ns c,a=Kt D.int ns/\b=Kt D.int c/\Q (.bl (g ns c)) M
 |_,_=>False
theorem zk{op:CmpOp}{f:Int->Int->Bool}{g:pw->pw->Bool}(m:N4 X (JD op) (PZ (fun _ _=>True) fun i j=>.bl (f i j))) (n:NS X (JD op) (fun x y H Q=>∃a b ns ms,x=.ref a/\y=.ref b/\NB X.K H a (ns.map V.int)/\NB X.K H b (ms.map V.int)/\Q (.bl (g ns ms)) H)):N4 X (JD op) (rN f g):=by
 refine iX (m.or n) fun v u H Q c=>?_;obtain⟨x,y,M,R,e,h,a,q,d⟩:=c;unfold rN at q;split at q
 ·exact .inl ⟨_,_,M,R,e,h,a,q,d⟩
 ·obtain⟨ns,ms,rfl,rfl,q⟩:=q;rw[Rep]at e;obtain⟨p,xs,rfl,k,o⟩:=e;obtain⟨r,t,rfl,l,s⟩:∃a xs,u=V.ref a/\NB X.K H a xs/\aG X.K H (Kt D.int ms) xs:=by rw[Rep]at h;exact h
  rw[dZ o]at k;rw[dZ s]at l;exact .inr ⟨p,r,ns,ms,rfl,rfl,k,l,d _ _ _ _ .refl (by rw[Rep]) a q⟩
 ·exact q.elim
theorem fm(a:X.A.units+64<K0):N4 X (JD .Lt) (rN (fun i j=>decide (i<j)) HT.lexLt):=zk Hh (Ei ())
theorem zj(a:X.A.units+64<K0):N4 X (JD .LtE) (rN (fun i j=>decide (i<=j)) HT.lexLe):=zk Fp (CF ())
theorem fW(a:X.A.units+64<K0):N4 X (JD .Gt) (rN (fun i j=>decide (j<i)) HT.dF):=zk G6 (Ed ())
theorem vX(d:X.calm=MB)(E:X.A.units+64<K0):cg X (.builtin "max") (fun xs H Q=>∃p q ns ms,xs=[.ref p,.ref q]/\NB X.K H p (ns.map V.int)/\NB X.K H q (ms.map V.int)/\Q (if HT.dF ms ns=MB then .ref q else .ref p) H):=by
 intro MN s σ H xs us Q I r f;obtain⟨p,q,ns,ms,e,g,h,k⟩:=f;subst e;obtain⟨u,v,rfl,i,j⟩:=vals2 r;cases i;cases j;obtain⟨l,m,n,_⟩:=I.tuple g;obtain⟨b,o,w,_⟩:=I.tuple h;refine zK (.inl ⟨rfl,rfl,rfl⟩) (c:=HT.dF ms ns) (I.ok.hd d) (fun t F G a x=>?_) fun J L a=>⟨_,H,I.kept a,?_,k⟩
 ·obtain⟨y,z,b1⟩:=n;obtain⟨B,C,D⟩:=w;exact HT.iN MB (A:=X.A.in1) (s:=t) ⟨B,a _ _ C,D⟩ ⟨y,a _ _ z,b1⟩ (intsAre_of o) (intsAre_of m) (by show X.A.units+1<K0;omega) x
 ·cases HT.dF ms ns<;>rfl
theorem vU(d:X.calm=MB)(E:X.A.units+64<K0):cg X (.builtin "min") (fun xs H Q=>∃p q ns ms,xs=[.ref p,.ref q]/\NB X.K H p (ns.map V.int)/\NB X.K H q (ms.map V.int)/\Q (if HT.lexLt ms ns=MB then .ref q else .ref p) H):=by
 intro MN s σ H xs us Q I r f;obtain⟨p,q,ns,ms,e,g,h,k⟩:=f;subst e;obtain⟨u,v,rfl,i,j⟩:=vals2 r;cases i;cases j;obtain⟨l,m,n,_⟩:=I.tuple g;obtain⟨b,o,w,_⟩:=I.tuple h;refine zK (.inr ⟨rfl,rfl,rfl⟩) (c:=HT.lexLt ms ns) (I.ok.hd d) (fun t F G a x=>?_) fun J L a=>⟨_,H,I.kept a,?_,k⟩
 ·obtain⟨y,z,b1⟩:=n;obtain⟨B,C,D⟩:=w;exact HT.iZ (A:=X.A.in1) (s:=t) ⟨B,a _ _ C,D⟩ ⟨y,a _ _ z,b1⟩ (intsAre_of o) (intsAre_of m) (by show X.A.units+1<K0;omega) x
 ·cases HT.lexLt ms ns<;>rfl
def Gq:RC:=fun d M Q=>match d with
 |[.int i,.int j]=>Q (.int (max i j)) M
 |[.tup a,.tup b]=>∃ns c,a=Kt D.int ns/\b=Kt D.int c/\Q (.tup (Kt D.int (if HT.dF c ns=MB then c else ns))) M
 |_=>False
def B3:RC:=fun d M Q=>match d with
 |[.int i,.int j]=>Q (.int (min i j)) M
 |[.tup a,.tup b]=>∃ns c,a=Kt D.int ns/\b=Kt D.int c/\Q (.tup (Kt D.int (if HT.lexLt c ns=MB then c else ns))) M
 |_=>False
theorem pA(j:X.calm=MB)(t:X.A.units+64<K0):dP X (.builtin "max") Gq:=cf (cg.or (DL j) (vX j t)) fun vs H Q w=>by
 obtain⟨b,M,R,k,a,q,c⟩:=w;rcases b with _|⟨d,b⟩
 ·exact Js q
 cases d<;>rcases b with _|⟨e,b⟩<;>try exact Js q
 all_goals (cases e<;>rcases b with _|⟨f,b⟩<;>try exact Js q)
 ·exact .inl ⟨_,M,R,k,a,q,c⟩
 ·obtain⟨ns,i,rfl,rfl,q⟩:=q;obtain⟨v,u,rfl,l,m⟩:=fG k;rw[Rep]at l;obtain⟨p,xs,rfl,n,o⟩:=l;obtain⟨x,y,rfl,r,s⟩:∃a xs,u=V.ref a/\NB X.K H a xs/\aG X.K H (Kt D.int i) xs:=by rw[Rep]at m;exact m
  have g:=n;have h:=r;rw[dZ o]at g;rw[dZ s]at h;refine .inr ⟨p,x,ns,i,rfl,g,h,c _ _ _ _ .refl ?_ a q⟩;by_cases z:HT.dF i ns=MB
  ·rw[ME z,ME z,Rep];exact⟨_,_,rfl,r,s⟩
  ·rw[MD z,MD z,Rep];exact⟨_,_,rfl,n,o⟩
theorem BN(j:X.calm=MB)(t:X.A.units+64<K0):dP X (.builtin "min") B3:=cf (cg.or (EA j) (vU j t)) fun vs H Q w=>by
 obtain⟨b,M,R,k,a,q,c⟩:=w;rcases b with _|⟨d,b⟩
 ·exact Js q
 cases d<;>rcases b with _|⟨e,b⟩<;>try exact Js q
 all_goals (cases e<;>rcases b with _|⟨f,b⟩<;>try exact Js q)
 ·exact .inl ⟨_,M,R,k,a,q,c⟩
 ·obtain⟨ns,i,rfl,rfl,q⟩:=q;obtain⟨v,u,rfl,l,m⟩:=fG k;rw[Rep]at l;obtain⟨p,xs,rfl,n,o⟩:=l;obtain⟨x,y,rfl,r,s⟩:∃a xs,u=V.ref a/\NB X.K H a xs/\aG X.K H (Kt D.int i) xs:=by rw[Rep]at m;exact m
  have g:=n;have h:=r;rw[dZ o]at g;rw[dZ s]at h;refine .inr ⟨p,x,ns,i,rfl,g,h,c _ _ _ _ .refl ?_ a q⟩;by_cases z:HT.lexLt i ns=MB
  ·rw[ME z,ME z,Rep];exact⟨_,_,rfl,r,s⟩
  ·rw[MD z,MD z,Rep];exact⟨_,_,rfl,n,o⟩
end
end SD
namespace Ma
open SD
theorem vC{p z:Int}(h:0<p):0<p*z↔0<z:=by
 constructor
 ·intro q;by_cases a:0<z
  ·exact a
  ·have:p*z<=0:=KA () ();omega
 ·exact fun q=>Jl h q
theorem nU{a b c d:Int}(f:0<b)(hd:0<d):Rat.divInt a b<Rat.divInt c d↔a*d<c*b:=by
 have e:=Rat.divInt_sub_divInt c a (d₁:=d) (d₂:=b) () ();have g:Rat.divInt a b<Rat.divInt c d↔0<Rat.divInt c d-Rat.divInt a b:=by constructor<;>intro z<;>grind
 rw[g,e,mV (Jl hd f)];omega
def ut(t b X m x:Int):Rat:=Rat.divInt (x*t+X*m) (b*m)
theorem ve{t b X m n x y:Int}(c:0<t)(a:0<b)(d:0<m)(f:0<n):ut t b X m x<ut t b X n y↔n*x<m*y:=by
 unfold ut;rw[nU (Jl a d) (Jl a f)];have e:(y*t+X*n)*(b*m)-(x*t+X*m)*(b*n)=(b*t)*(m*y-n*x):=by grind
 have:=vC (z:=m*y-n*x) (Jl a c);omega
theorem gx{t b X m n x y:Int}(d:0<t)(f:0<b)(g:0<m)(h:0<n):ut t b X m x=ut t b X n y↔n*x=m*y:=by
 have i:=ve (X:=X) (x:=x) (y:=y) d f g h;have j:=ve (X:=X) (x:=y) (y:=x) d f h g;constructor
 ·intro e;have a:¬ut t b X m x<ut t b X n y:=by rw[e];exact Rat.lt_irrefl
  have c:¬ut t b X n y<ut t b X m x:=by rw[e];exact Rat.lt_irrefl
  rw[i]at a;rw[j]at c;omega
 ·intro e;have a:¬ut t b X m x<ut t b X n y:=by rw[i];omega
  have c:¬ut t b X n y<ut t b X m x:=by rw[j];omega
  grind
theorem yP{t b X x:Int}:Rat.divInt (x*t+X) b=ut t b X 1 x:=by unfold ut;rw[Int.mul_one,Int.mul_one]
theorem oJ{t b X Y m n x y u v:Int}(a:0<t)(c:0<b)(d:0<m)(e:0<n) : ah (ut t b X m x) (ut t b Y m y) (ut t b X n u) (ut t b Y n v)↔HT.lexLt [n*x,n*y] [m*u,m*v]=MB:=by
 unfold ah;rw[ve a c d e,gx a c d e,ve a c d e];simp only[HT.lexLt];by_cases h:n*x=m*u
 ·rw[ME h];by_cases f:n*y=m*v
  ·rw[ME f];simp;omega
  ·rw[MD f];simp;omega
 ·rw[MD h];simp;omega
theorem xc(a b c d:Int):HT.lexLe [a,b] [c,d]=!HT.lexLt [c,d] [a,b]:=by
 simp only[HT.lexLe,HT.lexLt];by_cases h:a=c
 ·subst h;rw[ME rfl,ME rfl];by_cases f:b=d
  ·subst f;rw[ME rfl,ME rfl];rfl
  ·rw[MD f,MD (fun e=>f e.symm)];rw[<-decide_not,MJ];omega
 ·rw[MD h,MD (fun e=>h e.symm),<-decide_not,MJ];omega
theorem nP(a b c d:Int):HT.dF [a,b] [c,d]=HT.lexLt [c,d] [a,b]:=by
 simp only[HT.dF,HT.lexLt];by_cases h:a=c
 ·subst h;rw[ME rfl,ME rfl];by_cases f:b=d
  ·subst f;simp
  ·rw[MD f,MD (fun e=>f e.symm)]
 ·rw[MD h,MD (fun e=>h e.symm)]
theorem cJ{a b c d:Int}:HT.lexLt [a,b] [c,d]=MB↔a<c\/(a=c/\b<d):=by
 simp only[HT.lexLt];by_cases h:a=c
 ·subst h;rw[ME rfl];by_cases e:b=d
  ·subst e;rw[ME rfl];simp
  ·rw[MD e];simp
 ·rw[MD h];simp;omega
end Ma
open Ma renaming wll->MT,ut->MU,Bq->MV,ah->MW,pos_int->MX,cr->MY,sgn->MZ,oJ->Mb,cJ->Mc,gx->Md,jy->Me,spt->Mf,fr->Mg,iL->Mh,den_pos->Mi
namespace SD
open PySem PySem.Spec PyProof.Rows L2
theorem ax{M:MH}{a p:PySem.Addr}{o:MO}(h:M a=LZ o)(b:M p=MA):a≠p:=fun e=>by subst e;rw[h]at b;cases b
def Qw(t b x y:Int):D:=.tup [.int t,.int b,.int x,.int y]
structure N7(t b x y:Int):Prop where
 t0:0<t
 t1:t<=10^24
 b0:0<b
 b1:b<=10^26
 x0:-(10^30)<=x
 x1:x<=10^30
 y0:-(10^30)<=y
 y1:y<=10^30
def uw(w:Int×Int×Int×Int):D:=.tup [.tup [.int w.1,.int w.2.1],.tup [.int w.2.2.1,.int w.2.2.2]]
def Mq(t b x y:Int)(w:Int×Int×Int×Int):D:=MT (MU t b x 1 w.1) (MU t b y 1 w.2.1) (MU t b x 1 w.2.2.1) (MU t b y 1 w.2.2.2)
def YW(n:Int)(w:Int×Int×Int×Int):Prop:=(-n<=w.1/\w.1<=n)/\(-n<=w.2.1/\w.2.1<=n)/\(-n<=w.2.2.1/\w.2.2.1<=n)/\(-n<=w.2.2.2/\w.2.2.2<=n)
def Mw(m:Int)(w:Int×Int×Int×Int):Int×Int×Int×Int:=(m*w.1,m*w.2.1,m*w.2.2.1,m*w.2.2.2)
theorem range_getD(l:rx):(J8 l.length).map (fun i=>(l[i]?).getD .non)=l:=by refine List.ext_getElem (by simp) fun i b a=>?_;simp[a]
theorem getD_map{b:Type}{f:b->D}{l:List b}{i:Nat}{a:b}(h:l[i]?=LZ a):((l.map f)[i]?).getD .non=f a:=by rw[IX,h];rfl
theorem BX{t b x m p:Int}(h:0<t/\t<=10^24)(c:0<b/\b<=10^26)(i:-(10^30)<=x/\x<=10^30)(d:0<m/\m<=10^6)(j:-(10^6)<=p/\p<=10^6):MV 200 (MU t b x m p):=by
 have e:Bd 80 t:=by show t.natAbs<2^80;omega
 have a:Bd 64 m:=by show m.natAbs<2^64;omega
 have f:Bd 64 p:=by show p.natAbs<2^64;omega
 have g:Bd 90 b:=by show b.natAbs<2^90;omega
 have bx:Bd 100 x:=by show x.natAbs<2^100;omega
 refine Ma.Bq.divInt (by have:=Jl c.1 d.1;omega) ?_ ((g.mul a).mono ⋯);exact(((f.mul e).mono (by decide:64+80<=164)).add (bx.mul a)).mono ⋯
theorem N7.bx{t b x y m p:Int}(S:N7 t b x y)(a:0<m/\m<=10^6)(c:-(10^6)<=p/\p<=10^6):MV 200 (MU t b x m p):=BX ⟨S.t0,S.t1⟩ ⟨S.b0,S.b1⟩ ⟨S.x0,S.x1⟩ a c
theorem N7.by'{t b x y m p:Int}(S:N7 t b x y)(a:0<m/\m<=10^6)(c:-(10^6)<=p/\p<=10^6):MV 200 (MU t b y m p):=BX ⟨S.t0,S.t1⟩ ⟨S.b0,S.b1⟩ ⟨S.y0,S.y1⟩ a c
theorem pD(a b c d:Int):JL (.tuple [.int a,.int b]) (.tuple [.int c,.int d])=decide (a=c/\b=d):=by simp only[JL,Ke,lh,Ll,LA]
open PySem PySem.Spec PyProof.Rows L2 Ma
instance(a b c d:Rat):Decidable (MW a b c d):=inferInstanceAs (Decidable (_\/_))
def NJ(a b c d:Int):Int:=a*d-b*c
theorem yV{t b X m x:Int}(a:0<b)(c:0<m):MU t b X m x=((t:Rat)/b)*((x:Rat)/m)+(X:Rat)/b:=by
 unfold MU;rw[Rat.divInt_eq_div];have d:(b:Rat)≠0:=by have:=MX a;grind
 have e:(m:Rat)≠0:=by have:=MX c;grind
 rw[Lf,JI,JI,JI];grind
theorem dD{t b X x:Int}(a:0<b):MU t b X 1 x=((t:Rat)/b)*(x:Rat)+(X:Rat)/b:=by rw[yV a ⋯];have:((1:Int):Rat)=1:=rfl;rw[this];grind
theorem xP(k x y p q r s e f:Rat):MY (k*p+x) (k*q+y) (k*r+x) (k*s+y) (k*e+x) (k*f+y)=k*k*((r-p)*(f-q)-(s-q)*(e-p)):=by unfold MY;grind
theorem GS{t b X Y p q r s e f:Int}(a:0<b):MY (MU t b X 1 p) (MU t b Y 1 q) (MU t b X 1 r) (MU t b Y 1 s) (MU t b X 1 e) (MU t b Y 1 f)=((t:Rat)/b)*((t:Rat)/b)*((NJ (r-p) (s-q) (e-p) (f-q):Int):Rat):=by rw[dD a,dD a,dD a,dD a,dD a,dD a,xP];unfold NJ;rw[Km,JI,JI,Km,Km,Km,Km]
theorem sgn_mul{k:Rat}(a:0<k)(z:Int):MZ (k*(z:Rat))=Ji z:=by
 unfold MZ;by_cases b:0<z
 ·rw[ME (Ln a (MX b)),JF b]
 ·by_cases c:z<0
  ·have d:0<k*((-z:Int):Rat):=Ln a (MX ());rw[Rat.intCast_neg]at d;rw[MD (by grind),ME (by grind),Jt c]
  ·obtain rfl:z=0:=()
   have:((0:Int):Rat)=0:=rfl;rw[this];simp
theorem pN{k:Rat}(a:0<k)(z:Int):k*(z:Rat)=0↔z=0:=by have h:=sgn_mul a z;rw[<-Ma.rW,h];exact Int.sign_eq_zero_iff_zero
theorem Hf{t b X Y p q e f:Int}(a:0<t)(c:0<b):MW (MU t b X 1 p) (MU t b Y 1 q) (MU t b X 1 e) (MU t b Y 1 f)↔(p<e\/(p=e/\q<f)):=by rw[Mb a c ⋯ ⋯,Mc];omega
end SD
namespace HT
open PySem PyProof.Rows
end HT
namespace SD
open PySem PySem.Spec PyProof.Rows L2
section
variable{X:Cx}
def yB(g:Bool->Bool):N3:=fun x y M Q=>∃p ps,Pd M x p/\(Pd M y (.list ps)\/Pd M y (.tuple ps))/\Li p=MB/\KQ ps=MB/\Q (.bl (g (ps.any fun q=>JL q p))) M
theorem me{p:LP}{n:Nat}(h:Li p=MB):min n p.depth<=63+1:=K4 (Nat.min_le_right _ _) (SeqAt.depth_of_shaped h)
theorem G0(r:X.A.units+66<K0):N4 X (JD .In) (yB fun b=>b):=by
 intro MN s σ H v u t w Q I m g h;obtain⟨x,y,M,R,o,i,a,⟨p,ps,q,c,e,j,k⟩,d⟩:=h;obtain⟨z,l⟩:=bX I a q o m;have B:=me (n:=PyData.depthAll ps) e;rcases c with c|c
 ·obtain⟨bs,f⟩:=bX I a c i g;exact SeqAt.in_list_reads f l j (Lj e) () ⟨.bl _,H,I,rfl,d _ _ _ _ .refl (by rw[Rep]) a k⟩
 ·obtain⟨bs,f⟩:=bX I a c i g;exact SeqAt.in_tuple_reads f l j (Lj e) () ⟨.bl _,H,I,rfl,d _ _ _ _ .refl (by rw[Rep]) a k⟩
theorem qk(r:X.A.units+66<K0):N4 X (JD .NotIn) (yB fun b=>!b):=by
 intro MN s σ H v u t w Q I m g h;obtain⟨x,y,M,R,o,i,a,⟨p,ps,q,c,e,j,k⟩,d⟩:=h;obtain⟨z,l⟩:=bX I a q o m;have B:=me (n:=PyData.depthAll ps) e;rcases c with c|c
 ·obtain⟨bs,f⟩:=bX I a c i g;exact SeqAt.notIn_list_reads f l j (Lj e) () ⟨.bl _,H,I,rfl,d _ _ _ _ .refl (by rw[Rep]) a k⟩
 ·obtain⟨bs,f⟩:=bX I a c i g;exact SeqAt.notIn_tuple_reads f l j (Lj e) () ⟨.bl _,H,I,rfl,d _ _ _ _ .refl (by rw[Rep]) a k⟩
theorem qZ{K:I0}{H:Hp}:∀{bs:List Bool} {xs:ro},aG K H (bs.map D.bl) xs->xs=bs.map V.bl
 |[],xs,h=>by rw[Kh,aG]at h;exact h
 |n::ns,xs,h=>by
  rw[J0,aG]at h
  obtain⟨x,r,rfl,a,b⟩:=h
  rw[Rep]at a
  rw[a,qZ b];rfl
theorem mN:∀{bs:List Bool} {us:p4},Vals (bs.map V.bl) us->us=bs.map Value.bool
 |[],_,.nil=>rfl
 |b::bs,_,.cons r t=>by
  cases (show _=Value.bool b from r)
  rw[mN t];rfl
def Hy:RC:=fun a M Q=>match a with
 |[.ref l]=>∃bs:List Bool,M l=LZ (.lst (Kt D.bl bs))/\Q (.bl (bs.all id)) M
 |_=>False
theorem wK(h:X.calm=MB):cg X (.builtin "all") (fun xs H Q=>∃(p:n7) (bs:List Bool),xs=[.ref p]/\ND X.K H p (bs.map V.bl)/\Q (.bl (bs.all id)) H):=by
 intro MN s σ H xs us Q I r j;obtain⟨l,bs,e,m,k⟩:=j;subst e;obtain⟨u,rfl,n⟩:=vals1 r;cases n;obtain⟨c,o,q,_⟩:=I.list m;have g:=mN o;have d:=q.isList;have lt:l≠s.z:=JB (let⟨_,e,_⟩:=d;J6 e);refine call_all_walk (x:=.ref l) (LH d ⟨s.z,[s.z,l],[s.z],c.toArray.size,_,_,fun i=>(bs[i]?).getD MB,rfl,Walks.list (A:=X.A.in1) (I.ok.hd h) _ l lt c.toArray,⟨⟨_,J3 _ rfl,rfl,rfl⟩,d.push _⟩,fun i v t w C y z=>?_,fun D E B=>?_⟩)
 ·have a:c[i]?=LZ v:=‹y›
  rw[g,IX]at a;cases eb:bs[i]? with
  |none=>rw[eb]at a;cases a
  |some b=>
   rw[eb]at a
   cases a
   have f:w b t:=by simpa[eb]using z
   exact Kd f
 ·rw[show((J8 c.toArray.size).all fun i=>(bs[i]?).getD MB)=bs.all id by rw[Jd,g,IV];exact LSm.range_all bs];exact⟨.bl (bs.all id),H,I.kept (LSm.kept_iter B),rfl,k⟩
theorem CJ(g:X.calm=MB):dP X (.builtin "all") Hy:=cf (wK g) fun vs H Q h=>by
 obtain⟨b,M,R,i,a,q,c⟩:=h;rcases b with _|⟨d,b⟩
 ·exact Js q
 cases d<;>rcases b with _|⟨e,b⟩<;>try exact Js q
 ·obtain⟨bs,e,q⟩:=q;obtain⟨v,rfl,r⟩:=cv i;rw[Rep]at r;subst r;obtain⟨xs,f,j⟩:=a _ _ e;rw[qZ j]at f;exact⟨_,bs,rfl,ND.of f,c _ _ _ _ .refl (by rw[Rep]) a q⟩
def FK(c:TD)(t:NN):TD:=fun δ M Q=>c δ M fun x a=>∃l e,x=.ref l/\a l=LZ (.lst e)/\t δ a fun f b=>∃xs d,f=[d]/\b l=LZ (.lst xs)/\xs.length<1000000/\Q .non (az b l (.lst (xs++[d])))
variable{o e:oT}{to:TD}{t:NN}{apos bC:Pos}
theorem bz(z:DE X o to)(A:DA X [e] t)
 (b:attributeBase o "append" X.env (eval o X.env)=eval o X.env:=by rfl)
 (i:((Kr bC (Je [e] X.env)).all (fun x=>!x.1)&&(backToKw bC (LF [] X.env)).all (fun x=>x.1.isSome)
  && decide ([e].length+([]:List Keyword).length+(if([]:List Keyword).isEmpty then 0 else 1)<30))=MB:=by rfl)
 (c:(apos.endLine==bC.line)=MB:=by rfl) (B:Je [e] X.env=(MC,eval e X.env)::Je [] X.env:=by rfl) (a:(Kr bC (Je [] X.env)).any (·.1)=MC:=by rfl) :
 DE X (.Call (.Attribute o "append" apos) [e] [] bC) (FK to t):=
 bj (B9 PySem.F.plainAttrs_list PySem.F.slot_list_append PySem.F.type_list_append jR z A b i c B a) fun σ H Q C=>by
  obtain⟨δ,M,R,j,D,q,m⟩:=C
  refine⟨δ,M,_,j,D,q,fun x E v H1 p r s f=>?_⟩
  obtain⟨l,S,ex,G,I⟩:=f
  subst ex
  rw[Rep]at r
  subst r
  obtain⟨vs,n,_⟩:=s _ _ G
  refine⟨.inl ⟨rfl,vs,ND.of n⟩,δ,E,_,j.mono p,s,I,fun T U us V J K w g=>?_⟩
  obtain⟨xs,d,L,N,W,O⟩:=g
  subst L
  obtain⟨u,rfl,P⟩:=cv K
  obtain⟨ws,h,k⟩:=w _ _ N
  have y:=k.length
  refine⟨l,ws,u,rfl,rfl,h,Jm () (show 1000000<=J7 from Mo rfl),?_⟩
  exact m _ _ _ _ (p.trans (J.trans (.lst h))) (by rw[Rep]) (w.za h (k.append (.cons P .nil))) O
end
theorem kS{k:Nat}{A:JP}(r:NF k A):A.units+66<K0:=by have:=r.un;omega
abbrev Wl:=Int×Int×Int×Int
abbrev _root_.rr:=List Wl
def la(x y:Int):Int:=100*x+y
def l1(w:Wl):Int:=la w.1 w.2.1
def l2(w:Wl):Int:=la w.2.2.1 w.2.2.2
def sd(w:Wl)(x y:Int):Int:=NJ (w.2.2.1-w.1) (w.2.2.2-w.2.1) (x-w.1) (y-w.2.1)
def Mt(w v:Wl):Int:=sd w v.1 v.2.1
def Mv(w v:Wl):Int:=sd w v.2.2.1 v.2.2.2
structure Mn(w:Wl):Prop where
 a:0<=w.1/\w.1<=20
 b:0<=w.2.1/\w.2.1<=20
 c:0<=w.2.2.1/\w.2.2.1<=20
 d:0<=w.2.2.2/\w.2.2.2<=20
 lt:l1 w<l2 w
def aV(w:Wl)(l s:Int):Prop:=l=l1 w\/l=l2 w\/l<l1 w\/l2 w<l\/s≠0
structure Mz(U V:Wl):Prop where
 ne:¬(l1 U=l1 V/\l2 U=l2 V)
 e1:aV U (l1 V) (Mt U V)
 e2:aV U (l2 V) (Mv U V)
 e3:aV V (l1 U) (Mt V U)
 e4:aV V (l2 U) (Mv V U)
 pr:0<=Ji (Mt U V)*Ji (Mv U V)\/0<=Ji (Mt V U)*Ji (Mv V U)
theorem Mz.swap{U V:Wl}(h:Mz U V):Mz V U:=⟨fun z=>h.ne ⟨z.1.symm,z.2.symm⟩,h.e3,h.e4,h.e1,h.e2,h.pr.symm⟩
def Ms(U V:Wl):Bool:=
 if max (l1 U) (l1 V)<min (l2 U) (l2 V)then
  if l1 U=l1 V then(if l2 U<l2 V then decide (0<Mv V U)else decide (Mv U V<0))
  else if l1 V<l1 U then decide (0<Mt V U)else decide (Mt U V<0)
 else MC
theorem WT(z:Int):Ji z=1↔0<z:=Int.sign_eq_one_iff_pos
theorem Ys(z:Int):-Ji z=1↔z<0:=by
 rcases J5 z 0 with h|h|h
 ·rw[Jt h];omega
 ·subst h;simp
 ·rw[JF h];omega
theorem WG{x y:Int}(h:0<=Ji x*Ji y):¬(0<x/\y<0)/\¬(x<0/\0<y):=by
 constructor
 ·rintro⟨a,b⟩;rw[JF a,Jt b]at h;omega
 ·rintro⟨a,b⟩;rw[Jt a,JF b]at h;omega
theorem iV{z k:Int}(a:0<k)(h:0<z*k):0<z:=by
 rcases J5 z 0 with q|q|q
 ·have:=Jq q a;omega
 ·subst q;simp at h
 ·exact q
theorem pE{z k:Int}(a:0<k)(h:z*k<0):z<0:=by
 rcases J5 z 0 with q|q|q
 ·exact q
 ·subst q;simp at h
 ·have:=Jl q a;omega
theorem within{a b c d g h e f:Int}(p:a*(f-e)=d*(g-e)-c*(h-e))(q:b*(f-e)=d*(g-f)-c*(h-f))
 (r:e<g) (s:e<h) (t:g<f) (u:h<f) (F:(¬(0<c/\d<0)/\¬(c<0/\0<d))\/(¬(0<a/\b<0)/\¬(a<0/\0<b))) (v:c≠0) (w:d≠0):0<c↔0<d:=by
 have k:0<f-e:=()
 have A:¬(0<c/\d<0):=fun i=>by
  obtain⟨x,y⟩:=i
  have j:=Jq y (():0<g-e)
  have l:=Jl x (():0<h-e)
  have m:=JG y (():g-f<0)
  have n:=Jr x (():h-f<0)
  have o:=pE (z:=a) k ()
  have b1:=iV (z:=b) k ()
  omega
 have B:¬(c<0/\0<d):=fun i=>by
  obtain⟨x,y⟩:=i
  have j:=Jl y (():0<g-e)
  have l:=Jq x (():0<h-e)
  have m:=Jr y (():g-f<0)
  have n:=JG x (():h-f<0)
  have o:=iV (z:=a) k ()
  have b1:=pE (z:=b) k ()
  omega
 omega
theorem pB{a b c d f h i g:Int}(q:b*(g-i)=d*(f-g)-c*(h-g))(r:c*(h-f)=b*(i-f)-a*(g-f))
 (s:i<f) (t:f<g) (u:g<h) (F:(¬(0<c/\d<0)/\¬(c<0/\0<d))\/(¬(0<a/\b<0)/\¬(a<0/\0<b))) (v:c≠0) (b0:b≠0):0<c↔b<0:=by
 have e:d*(f-g)=-(d*(g-f)):=by rw[<-Int.mul_neg];congr 1;omega
 have w:¬(0<c/\0<b):=fun j=>by
  obtain⟨x,y⟩:=j
  have k:=Jl y (():0<g-i)
  have l:=Jl x (():0<h-g)
  have m:=Jl x (():0<h-f)
  have n:=Jr y (():i-f<0)
  have o:=pE (z:=a) (():0<g-f) ()
  have p:=pE (z:=d) (():0<g-f) ()
  omega
 have A:¬(c<0/\b<0):=fun j=>by
  obtain⟨x,y⟩:=j
  have k:=Jq y (():0<g-i)
  have l:=Jq x (():0<h-g)
  have m:=Jq x (():0<h-f)
  have n:=JG y (():i-f<0)
  have o:=iV (z:=a) (():0<g-f) ()
  have p:=iV (z:=d) (():0<g-f) ()
  omega
 omega
theorem wu(U V:Wl):Mt U V*(l2 V-l1 V)=Mv V U*(l1 U-l1 V)-Mt V U*(l2 U-l1 V):=by unfold Mt Mv sd l1 l2 la NJ;grind
theorem wV(U V:Wl):Mv U V*(l2 V-l1 V)=Mv V U*(l1 U-l2 V)-Mt V U*(l2 U-l2 V):=by unfold Mt Mv sd l1 l2 la NJ;grind
theorem gG{x y u v:Int}(a:0<=y/\y<=20)(b:0<=v/\v<=20)(h:la x y=la u v):x=u/\y=v:=by unfold la at h;omega
theorem zL{U V:Wl}(a:Mn U)(c:Mn V)(h:l1 U=l1 V):Mt U V=0:=by obtain⟨e1,e2⟩:=gG a.b c.b h;unfold Mt sd NJ;rw[e1,e2];simp
theorem oG{U V:Wl}(a:Mn U)(b:Mn V)(h:l2 U=l2 V):Mv U V=0:=by obtain⟨e1,e2⟩:=gG a.d b.d h;unfold Mv sd NJ;rw[e1,e2];grind
theorem aV.nz{w:Wl}{l s:Int}(h:aV w l s)(a:l1 w<l)(b:l<l2 w):s≠0:=by
 unfold aV at h;rcases h with h|h|h|h|h
 ·omega
 ·omega
 ·omega
 ·omega
 ·exact h
theorem bW{a b c d:Int}:max a c<min b d↔a<b/\a<d/\c<b/\c<d:=by rw[Int.max_lt,Int.lt_min,Int.lt_min,and_assoc]
section
variable{U V:Wl}(ap:max (l1 U) (l1 V)<min (l2 U) (l2 V))
include ap
theorem mW(z:l1 U<l1 V):Ms U V=decide (Mt U V<0):=by unfold Ms;rw[ME ap,MD (Int.ne_of_lt z),MD (Int.not_lt.mpr (K5 z))]
theorem oz(z:l1 V<l1 U):Ms U V=decide (0<Mt V U):=by unfold Ms;rw[ME ap,MD (fun e=>Int.ne_of_lt z e.symm),ME z]
theorem u5(z:l1 U=l1 V)(y:l2 U<l2 V):Ms U V=decide (0<Mv V U):=by unfold Ms;rw[ME ap,ME z,ME y]
theorem rR(z:l1 U=l1 V)(y:¬l2 U<l2 V):Ms U V=decide (Mv U V<0):=by unfold Ms;rw[ME ap,ME z,MD y]
end
theorem zl{a:Int}(h:a≠0):decide (0<a)=!decide (a<0):=by rw[<-decide_not,MJ];omega
theorem si{a:Int}(h:a≠0):decide (a<0)=!decide (0<a):=by rw[<-decide_not,MJ];omega
theorem fh{U V:Wl}(d:Mn U)(e:Mn V)(F:Mz U V)(b:max (l1 U) (l1 V)<min (l2 U) (l2 V)):Ms V U=!Ms U V:=by
 have c:=b;rw[Int.max_comm,Int.min_comm]at c;have o:=bW.mp b;rcases J5 (l1 U) (l1 V)with h|h|h
 ·rw[oz c h,mW b h,zl (F.e1.nz h o.2.2.1)]
 ·rcases J5 (l2 U) (l2 V)with a|a|a
  ·rw[rR c h.symm (Int.not_lt.mpr (K5 a)),u5 b h a,si (F.e4.nz o.2.2.1 a)]
  ·exact absurd ⟨h,a⟩ F.ne
  ·rw[u5 c h.symm a,rR b h (Int.not_lt.mpr (K5 a)),zl (F.e2.nz o.2.1 a)]
 ·rw[mW c h,oz b h,si (F.e3.nz h o.2.1)]
theorem Cj{a b c d:Int}(e:0<=b/\b<=20)(hd:0<=d/\d<=20):HT.lexLt [a,b] [c,d]=decide (la a b<la c d):=by have h:=Mc (a:=a) (b:=b) (c:=c) (d:=d);rw[Kn,h,MK];unfold la;omega
theorem Gz{a b c d:Int}(e:0<=b/\b<=20)(hd:0<=d/\d<=20):HT.dF [a,b] [c,d]=decide (la c d<la a b):=by rw[Ma.nP,Cj hd e]
theorem rV{z:Int}(h:0<=z/\z<=20):Bd 6 z:=by show z.natAbs<2^6;omega
theorem xl{x y u v:Int}(a:0<=y/\y<=20)(b:0<=v/\v<=20):(x=u/\y=v)↔la x y=la u v:=by unfold la;omega
theorem lq{I:Qg}{tk:P5}{js:pq}{tc:NT}{te:TD}{δ:DS}{b:MH}{Q:DK}(f:Nat->ry)(j:I.n<=1000000)(hC:∀p a,b p=MA->I.C (az b p (.lst a))) (h:∀i d M,i<I.n->I.item i=LZ d->Sub b M->∃os,yt tk d os/\(∀K:Bool->MH->Prop,K (f i).isSome M->tc (cδ os js δ) M K)/\∀e,f i=LZ e->∀K:DK,(∀c,Sub M c->K e c)->te (cδ os js δ) M K) (k:∀p,b p=MA->Q (.ref p) (az b p (.lst ((J8 I.n).filterMap f)))):y6 I tk js tc te δ b Q:=by
 refine⟨j,fun p g=>⟨fun i a M=>a=(J8 i).filterMap f/\M=az b p (.lst a),⟨rfl,rfl⟩,?_,?_,?_⟩⟩
 ·rintro i a M _ ⟨_,rfl⟩;exact hC p a g
 ·rintro i a d M l hd ⟨rfl,rfl⟩;obtain⟨os,m,o,q⟩:=h i d _ l hd (.new g .refl);refine⟨os,m,o _ ?_⟩;cases e:f i with
  |none=>
   refine jf rfl ⟨_,.refl,?_,?_⟩
   ·rw[Kw,List.filterMap_append];simp[e]
   ·rfl
  |some v=>
   refine rY rfl (q v e _ fun c r=>⟨_,r,ag,?_,by rw[bD]⟩)
   rw[Kw,List.filterMap_append];simp[e]
 ·rintro a M ⟨rfl,rfl⟩;exact k p g
theorem yd{A:Wl}{x y:Int}(c:Mn A)(e:0<=y/\y<=20)(h:(!(decide (A.1=x/\A.2.1=y)||decide (A.2.2.1=x/\A.2.2.2=y))&&(decide (l1 A<=la x y)&&decide (la x y<=l2 A)&&decide (sd A x y=0)))=MC):aV A (la x y) (sd A x y):=by
 unfold aV;by_cases f:A.1=x/\A.2.1=y
 ·exact .inl ((xl c.b e).mp f).symm
 ·by_cases g:A.2.2.1=x/\A.2.2.2=y
  ·exact .inr (.inl ((xl c.d e).mp g).symm)
  ·rw[MF f,MF g,Bool.or_false,Bool.not_false,Ko,<-LA,<-LA,decide_eq_false_iff_not]at h;by_cases i:sd A x y=0
   ·rcases Int.lt_or_le (la x y) (l1 A)with z|z
    ·exact .inr (.inr (.inl z))
    ·rcases Int.lt_or_le (l2 A) (la x y)with a|a
     ·exact .inr (.inr (.inr (.inl a)))
     ·exact absurd ⟨⟨z,a⟩,i⟩ h
   ·exact .inr (.inr (.inr (.inr i)))
theorem Dn(M:MH)(A:Wl)(x y:Int)(g:Bool->Bool)(Q:DK)(q:Q (.bl (g (decide (A.1=x/\A.2.1=y)||decide (A.2.2.1=x/\A.2.2.2=y)))) M):yB g (.tup [.int x,.int y]) (uw A) M Q:=by refine⟨_,_,Pd.of rfl,.inr (Pd.of rfl),rfl,rfl,?_⟩;rw[Lk,Lk,List.any_nil,pD,pD,Bool.or_false];exact q
theorem Ci(z:Int):Bd 64 (Ji z):=by
 rcases J5 z 0 with h|h|h
 ·rw[Jt h];decide
 ·subst h;decide
 ·rw[JF h];decide
def SE(w:Wl):LP:=.tuple [.tuple [.int w.1,.int w.2.1],.tuple [.int w.2.2.1,.int w.2.2.2]]
theorem oX{M:MH}:∀ws:rr,PX M (ws.map uw) (ws.map SE)
 |[]=>.nil
 |w::ws=>.cons (Pd.of rfl) (oX ws)
theorem xM:∀ws:rr,KQ (ws.map SE)=MB
 |[]=>rfl
 |w::ws=>by rw[J0,KQ,xM ws];rfl
theorem zU:∀ws:rr,PyData.depthAll (ws.map SE)<=10
 |[]=>Mo rfl
 |w::ws=>by
  rw[J0,PyData.depthAll]
  exact Nat.max_le.mpr ⟨Mo rfl,zU ws⟩
theorem kf(ws:rr):Li (.list (ws.map SE))=MB:=by unfold Li;have a:=xM ws;have b:=zU ws;rw[Jp];refine⟨by rw[PyData.canLay0];exact a,MG ?_⟩;rw[PyData.depth];omega
theorem iS:∀ws:rr,JL (.list (ws.map SE)) (.list [])=ws.isEmpty
 |[]=>by simp[JL,Ke]
 |w::ws=>by simp[JL,Ke]
def PF(ws:rr):Prop:=∀(i j:Nat) (U V:Wl),i≠j->ws[i]?=LZ U->ws[j]?=LZ V->Mz U V
theorem Ex:PF []:=fun i j U V _ h=>by simp at h
theorem wY{ws:rr}{U:Wl}(h:PF ws)(d:∀(j:Nat) (w:Wl),ws[j]?=LZ w->Mz U w):PF (ws++[U]):=by
 intro i j A B c f g
 have get:∀{k:Nat} {C:Wl},(ws++[U])[k]?=LZ C->ws[k]?=LZ C\/(k=ws.length/\C=U):=fun{k C} e=>by
  rcases Nat.lt_trichotomy k ws.length with z|z|z
  ·rw[JY z]at e;exact .inl e
  ·subst z;rw[JV (IY _)]at e;simp at e;exact .inr ⟨rfl,e.symm⟩
  ·rw[List.getElem?_eq_none (by simp;omega)]at e;cases e
 rcases get f with a|⟨a,rfl⟩<;>rcases get g with b|⟨b,rfl⟩
 ·exact h i j A B c a b
 ·exact(d _ _ a).swap
 ·exact d _ _ b
 ·omega
theorem xr{w:Wl}(h:Mn w){v:Int}(e:0<=v)(f:v<2):∃x y,atI [D.tup [.int w.1,.int w.2.1],.tup [.int w.2.2.1,.int w.2.2.2]] v=LZ (.tup [.int x,.int y])/\(0<=x/\x<=20)/\(0<=y/\y<=20):=by
 rcases(():v=0\/v=1)with rfl|rfl
 ·exact⟨_,_,rfl,h.a,h.b⟩
 ·exact⟨_,_,rfl,h.c,h.d⟩
theorem uN{ws:rr}{v:Int}(b:0<=v)(c:v<ws.length):∃w,w∈ws/\atI (ws.map uw) v=LZ (uw w):=by
 obtain⟨j,rfl⟩:∃j:Nat,v=(j:Int):=⟨v.toNat,()⟩;have a:j<ws.length:=()
 exact⟨ws[j],JQ a,cM (by simp[a])⟩
theorem wZ{p q e f:Int}(b:0<=p/\p<=20)(a:0<=q/\q<=20)(c:0<=e/\e<=20)(hf:0<=f/\f<=20)(ne:¬(p=e/\q=f)) :
 ∃w:Wl,(if HT.lexLt [e,f] [p,q]=MB then[e,f]else[p,q])=[w.1,w.2.1]/\(if HT.dF [e,f] [p,q]=MB then[e,f]else[p,q])=[w.2.2.1,w.2.2.2]/\Mn w:=by
 rw[Cj hf a,Gz hf a]
 have g:la p q≠la e f:=fun z=>ne ((xl a hf).mpr z)
 by_cases h:la e f<la p q
 ·exact⟨(e,f,p,q),by rw[ME (MG h)],by rw[MD (by simp;omega)],⟨c,hf,b,a,h⟩⟩
 ·have d:la p q<la e f:=()
  exact⟨(p,q,e,f),by rw[MD ‹h›],by rw[ME (MG d)],⟨b,a,c,hf,d⟩⟩
theorem lZ{t b X Y p q e f:Int}(a:0<t)(c:0<b)(d:0<=q/\q<=20)(hf:0<=f/\f<=20):MW (MU t b X 1 p) (MU t b Y 1 q) (MU t b X 1 e) (MU t b Y 1 f)↔la p q<la e f:=by rw[Hf a c];unfold la;omega
theorem jH{t b X Y p q e f:Int}(a:0<t)(c:0<b)(d:0<=q/\q<=20)(hf:0<=f/\f<=20):(MU t b X 1 p=MU t b X 1 e/\MU t b Y 1 q=MU t b Y 1 f)↔la p q=la e f:=by rw[Md a c ⋯ ⋯,Md a c ⋯ ⋯];unfold la;omega
theorem jI{t b X Y:Int}(c:0<t)(a:0<b)(w:Wl)(x y:Int):MZ (MY (MU t b X 1 w.1) (MU t b Y 1 w.2.1) (MU t b X 1 w.2.2.1) (MU t b Y 1 w.2.2.2) (MU t b X 1 x) (MU t b Y 1 y))=Ji (sd w x y):=by
 have k:(0:Rat)<(t:Rat)/b:=by rw[LU];exact Ln (MX c) (Rat.inv_pos.mpr (MX a))
 rw[GS a,sgn_mul (Ln k k)];rfl
theorem HS(z:Int):Ji z=-1↔z<0:=by rw[<-Ys];omega
theorem qq{M:MH}:∀ns:pw,PX M (ns.map D.int) (ns.map PyData.int)
 |[]=>.nil
 |n::ns=>.cons (.int n) (qq ns)
theorem lay_ints:∀ns:pw,KQ (ns.map PyData.int)=MB
 |[]=>rfl
 |n::ns=>by rw[J0,KQ,lay_ints ns];rfl
theorem any_ints(k:Int)(ns:pw):(ns.map PyData.int).any (fun q=>JL q (.int k))=ns.any (fun z=>z==k):=by
 rw[List.any_map]
 congr 1
theorem Bx{M:MH}{l:n7}{ns:pw}(k:Int)(g:Bool->Bool)(Q:DK)(h:M l=LZ (.lst (ns.map D.int)))(q:Q (.bl (g (ns.any (fun z=>z==k)))) M):yB g (.int k) (.ref l) M Q:=by refine⟨_,_,.int k,.inl (.lst h (qq ns)),rfl,lay_ints ns,?_⟩;rw[any_ints];exact q
section
variable{X:Cx}
def gJ{a:Type}(xs:List a)(j:Nat)(y:a):List a:=xs.take j++y::xs.drop j
def BG:V->ro->Hp->VK->Prop:=fun x vs H Q=>∃l xs y,∃(k:Int) (j:Nat),x=.ref l/\vs=[.int k,y]/\k=(j:Int)/\H l=LZ (.lst xs)/\j<=xs.length/\xs.length<1000000/\Q .non (upd H l (.lst (gJ xs j y)))
theorem As(a:p4)(k:Int)(j:Nat)(u:IQ)(b:k=(j:Int))(c:j<=a.length) :
 (a.toArray.extract 0 (if k<0 then(k+((a.toArray.size:Nat):Int)).toNat else min k.toNat a.toArray.size)).push u++a.toArray.extract (if k<0 then(k+((a.toArray.size:Nat):Int)).toNat else min k.toNat a.toArray.size)=(gJ a j u).toArray:=by
 have e:(if k<0 then(k+((a.toArray.size:Nat):Int)).toNat else min k.toNat a.toArray.size)=j:=by
  rw[MD (),Jd];omega
 rw[e]
 apply Array.toList_inj.mp
 simp[gJ]
 exact K6 (by simp)
theorem vP:YJ X "list.insert" BG:=by
 intro MN s σ H x vs v us Q I g h i;obtain⟨l,xs,y,k,j,ex,m,o,f,A,B,q⟩:=i;subst ex m;cases g;obtain⟨C,c,rfl,p,u⟩:=h.two;obtain⟨t,rfl⟩:=p;obtain⟨z,a,n,r,w,e⟩:=I.ph f;have b:Builtin.List.listFitsIndex k=MB:=by unfold Builtin.List.listFitsIndex;simp;omega
 have d:a.toArray.size<=J7:=by rw[Jd,<-w];exact z
 refine call_meets PySem.F.slot_list_insert ⟨_,e,rfl⟩ PySem.F.entry_list_insert (PySem.F.args_list_insert_3 _ _ _) (PySem.AutoSeq1.list_insert_list_int_val_1 l a.toArray n k t c (by rw[b];decide) d) ⟨e,?_⟩;refine⟨.non,_,I.Gr (its':=gJ a j c) f e (As a k j c o ()) ((Vals.take j r).append (.cons u (Vals.drop j r))) ?_,rfl,q⟩;show(xs.take j++y::xs.drop j).length<=J7;simp only[Kg,L3,K1,List.length_drop];have:1000000<=J7:=Mo rfl;omega
def Gs(c:TD)(t:NN):TD:=fun δ M Q=>c δ M fun x a=>∃l e,x=.ref l/\a l=LZ (.lst e)/\t δ a fun f b=>∃xs d,∃j:Nat,f=[.int (j:Int),d]/\b l=LZ (.lst xs)/\j<=xs.length/\xs.length<1000000/\Q .non (az b l (.lst (gJ xs j d)))
variable{o e1 e2:oT}{to:TD}{t:NN}{apos bC:Pos}
theorem gH(A:DE X o to)(B:DA X [e1,e2] t)
 (b:attributeBase o "insert" X.env (eval o X.env)=eval o X.env:=by rfl)
 (i:((Kr bC (Je [e1,e2] X.env)).all (fun x=>!x.1)&&(backToKw bC (LF [] X.env)).all (fun x=>x.1.isSome)
  && decide ([e1,e2].length+([]:List Keyword).length+(if([]:List Keyword).isEmpty then 0 else 1)<30))=MB:=by rfl)
 (c:(apos.endLine==bC.line)=MB:=by rfl) (C:Je [e1,e2] X.env=(MC,eval e1 X.env)::Je [e2] X.env:=by rfl) (a:(Kr bC (Je [e2] X.env)).any (·.1)=MC:=by rfl) :
 DE X (.Call (.Attribute o "insert" apos) [e1,e2] [] bC) (Gs to t):=
 bj (B9 PySem.F.plainAttrs_list PySem.F.slot_list_insert PySem.F.type_list_insert vP A B b i c C a) fun σ H Q D=>by
  obtain⟨δ,M,R,k,E,q,n⟩:=D
  refine⟨δ,M,_,k,E,q,fun x G v H1 s u w e=>?_⟩
  obtain⟨l,T,ex,I,J⟩:=e
  subst ex
  rw[Rep]at u
  subst u
  obtain⟨vs,p,_⟩:=w _ _ I
  refine⟨.inl ⟨rfl,vs,ND.of p⟩,δ,G,_,k.mono s,w,J,fun U V us W K L y f=>?_⟩
  obtain⟨xs,d,j,N,O,Y,Z,P⟩:=f
  subst N
  obtain⟨u1,S,rfl,m,r⟩:=fG L
  rw[Rep]at m
  subst m
  obtain⟨ws,g,h⟩:=y _ _ O
  have z:=h.length
  exact⟨l,ws,S,_,j,rfl,rfl,rfl,g,(),(),n _ _ _ _ (s.trans (K.trans (.lst g))) (by rw[Rep]) (y.za g ((h.take j).append (.cons r (h.drop j)))) P⟩
def xF:RC:=fun a M Q=>match a with
 |[.ref l]=>∃xs,M l=LZ (.lst xs)/\∀p,M p=MA->Q (.ref p) (az M p (.lst xs))
 |[.tup xs]=>∀p,M p=MA->Q (.ref p) (az M p (.lst xs))
 |_=>False
theorem Az:dP X (.type "list") xF:=cf p7 fun vs H Q h=>by
 obtain⟨i,M,R,g,a,q,c⟩:=h;unfold xF at q;split at q
 ·obtain⟨j,e,q⟩:=q;obtain⟨v,rfl,r⟩:=cv g;rw[Rep]at r;subst r;obtain⟨xs,d,f⟩:=a _ _ e;exact⟨_,xs,rfl,.inl (ND.of d),fun z b=>c _ _ _ _ (.new b) (by rw[Rep]) (a.nD b f) (q z (a.fresh b))⟩
 ·obtain⟨v,rfl,r⟩:=cv g;rw[Rep]at r;obtain⟨p,xs,rfl,d,f⟩:=r;exact⟨_,xs,rfl,.inr d,fun z b=>c _ _ _ _ (.new b) (by rw[Rep]) (a.nD b f) (q z (a.fresh b))⟩
 ·exact q.elim
end
def lam(w:Wl):Int:=l2 w-l1 w
def Nm(w:Wl)(t:Int):Int:=2*w.1*lam w+(t-2*l1 w)*(w.2.2.1-w.1)
def Gh(U V:Wl)(t:Int):Int:=Nm V t*lam U-Nm U t*lam V
theorem Hc(U V:Wl):Gh U V (2*l1 U)=2*(lam U*Mt V U):=by unfold Gh Nm lam Mt sd l1 l2 la NJ;grind
theorem G5(U V:Wl):Gh U V (2*l2 U)=2*(lam U*Mv V U):=by unfold Gh Nm lam Mv sd l1 l2 la NJ;grind
theorem uQ(U V:Wl)(t:Int):Gh V U t=-Gh U V t:=by unfold Gh;grind
theorem H0(U V:Wl):Gh U V (2*l1 V)=-(2*(lam V*Mt U V)):=by rw[<-Hc,uQ]
theorem Ig(U V:Wl):Gh U V (2*l2 V)=-(2*(lam V*Mv U V)):=by rw[<-G5,uQ]
theorem FH(U V:Wl)(p q t:Int):Gh U V t*(q-p)=Gh U V p*(q-t)+Gh U V q*(t-p):=by unfold Gh Nm;grind
theorem fP{U V:Wl}{p q t:Int}(c:p<t)(d:t<q)(a:0<=Gh U V p)(b:0<=Gh U V q)(g:0<Gh U V p\/0<Gh U V q):0<Gh U V t:=by
 refine iV (k:=q-p) () ?_;rw[FH U V p q t];have e:=Ku a (():0<=q-t);have f:=Ku b (():0<=t-p);rcases g with g|g
 ·have:=Jl g (():0<q-t);omega
 ·have:=Jl g (():0<t-p);omega
theorem Rp{a b t:Int}:2*max a b<t↔2*a<t/\2*b<t:=by rw[Int.max_def];split<;>omega
theorem Rq{a b t:Int}:t<2*min a b↔t<2*a/\t<2*b:=by rw[Int.min_def];split<;>omega
theorem yu{a c d b1 e f:Int}(h:a<b1/\a<e/\a<f)(h':c<b1/\c<e/\c<f)(g:d<b1/\d<e/\d<f):∃t,(2*a<t/\2*c<t/\2*d<t)/\t<2*b1/\t<2*e/\t<2*f:=by have k:∀{b},a<b->c<b->d<b->max (max a c) d<b:=fun x y z=>Int.max_lt.mpr ⟨Int.max_lt.mpr ⟨x,y⟩,z⟩;have l:max (max a c) d<min (min b1 e) f:=Int.lt_min.mpr ⟨Int.lt_min.mpr ⟨k h.1 h'.1 g.1,k h.2.1 h'.2.1 g.2.1⟩,k h.2.2 h'.2.2 g.2.2⟩;have i:a<=max (max a c) d:=Int.le_trans (Int.le_max_left ..) (Int.le_max_left ..);have j:c<=max (max a c) d:=Int.le_trans (Int.le_max_right ..) (Int.le_max_left ..);have o:d<=max (max a c) d:=Int.le_max_right ..;have p:min (min b1 e) f<=b1:=Int.le_trans (Int.min_le_left ..) (Int.min_le_left ..);have q:min (min b1 e) f<=e:=Int.le_trans (Int.min_le_left ..) (Int.min_le_right ..);have r:min (min b1 e) f<=f:=Int.min_le_right ..;generalize max (max a c) d=m at *;generalize min (min b1 e) f=n at *;clear h h' g k;refine⟨m+n,⟨?_,?_,?_⟩,?_,?_,?_⟩<;>omega
theorem qr{U V:Wl}{t:Int}(k:Mn U)(l:Mn V)(F:Mz U V)(j:max (l1 U) (l1 V)<min (l2 U) (l2 V))(t1:2*max (l1 U) (l1 V)<t)(B:t<2*min (l2 U) (l2 V))(h:Ms U V=MB):0<Gh U V t:=by
 have r:l1 U<l1 V->Mt U V<0:=fun z=>MI ((mW j z).symm.trans h);have hC:l1 V<l1 U->0<Mt V U:=fun z=>MI ((oz j z).symm.trans h);have P:l1 U=l1 V->l2 U<l2 V->0<Mv V U:=fun z y=>MI ((u5 j z y).symm.trans h);have Q:l1 U=l1 V->¬l2 U<l2 V->Mv U V<0:=fun z y=>MI ((rR j z y).symm.trans h);clear h;obtain⟨o1,m,n,o4⟩:=bW.mp j;clear j;obtain⟨R,S⟩:=Rp.mp t1;obtain⟨T,W⟩:=Rq.mp B;clear t1 B;have C:=F.e1.nz;have D:=F.e2.nz;have E:=F.e3.nz;have G:=F.e4.nz;have pr:(¬(0<Mt V U/\Mv V U<0)/\¬(Mt V U<0/\0<Mv V U))\/(¬(0<Mt U V/\Mv U V<0)/\¬(Mt U V<0/\0<Mv U V)):=F.pr.elim (fun z=>.inr (WG z)) (fun z=>.inl (WG z));have z1:=zL k l;have z2:=oG k l;have H:=zL l k;have I:=oG l k;have X:=fun e f g s d i=>within (wu U V) (wV U V) e f g s pr d i;have Y:=fun e f g s d i=>within (wu V U) (wV V U) e f g s pr.symm d i;have Z:=fun e f g d i=>pB (wV U V) (wu V U) e f g pr d i;have s2:=fun e f g d i=>pB (wV V U) (wu U V) e f g pr.symm d i;clear pr;have ne:=F.ne;have J:0<lam U:=by have:=k.lt;unfold lam;omega
 have K:0<lam V:=by have:=l.lt;unfold lam;omega
 have L:=Hc U V;have M:=G5 U V;have G3:=H0 U V;have G4:=Ig U V;have u:0<Mt V U->0<Gh U V (2*l1 U):=fun z=>by rw[L];have:=Jl J z;omega
 have v:0<Mv V U->0<Gh U V (2*l2 U):=fun z=>by rw[M];have:=Jl J z;omega
 have w:Mt U V<0->0<Gh U V (2*l1 V):=fun z=>by rw[G3];have:=Jr K z;omega
 have x:Mv U V<0->0<Gh U V (2*l2 V):=fun z=>by rw[G4];have:=Jr K z;omega
 have N:Mt V U=0->Gh U V (2*l1 U)=0:=fun z=>by rw[L,z];simp
 have O:Mv V U=0->Gh U V (2*l2 U)=0:=fun z=>by rw[M,z];simp
 rcases J5 (l1 U) (l1 V)with y|y|y<;>rcases J5 (l2 U) (l2 V)with c|c|c
 ·have A:=C y n;have nd:=G n c;have q:=s2 y n c A nd;have o:Mt U V<0:=r y;have b:=w o;have a:=v ();exact fP (p:=2*l1 V) (q:=2*l2 U) (by assumption) (by assumption) (K5 b) (by first|exact K5 a|exact Int.le_of_eq a.symm) (.inl b)
 ·have o:Mt U V<0:=r y;have b:=w o;have a:=O (I c.symm);exact fP (p:=2*l1 V) (q:=2*l2 U) (by assumption) (by assumption) (K5 b) (by first|exact K5 a|exact Int.le_of_eq a.symm) (.inl b)
 ·have A:=C y n;have nb:=D () c;have q:=Y y () n c A nb;have o:Mt U V<0:=r y;have b:=w o;have a:=x ();exact fP (p:=2*l1 V) (q:=2*l2 V) (by assumption) (by assumption) (K5 b) (by first|exact K5 a|exact Int.le_of_eq a.symm) (.inl b)
 ·have b:=N (H y.symm);have a:=v (P y c);exact fP (p:=2*l1 U) (q:=2*l2 U) (by assumption) (by assumption) (Int.le_of_eq b.symm) (K5 a) (.inr a)
 ·exact absurd ⟨y,c⟩ ne
 ·have b:=N (H y.symm);have a:=x (Q y ());exact fP (p:=2*l1 U) (q:=2*l2 V) (by assumption) (by assumption) (Int.le_of_eq b.symm) (K5 a) (.inr a)
 ·have q:=X y () m c (E y m) (G () c);have d:0<Mt V U:=hC y;have b:=u d;have a:=v ();exact fP (p:=2*l1 U) (q:=2*l2 U) (by assumption) (by assumption) (K5 b) (by first|exact K5 a|exact Int.le_of_eq a.symm) (.inl b)
 ·have d:0<Mt V U:=hC y;have b:=u d;have a:=O (I c.symm);exact fP (p:=2*l1 U) (q:=2*l2 U) (by assumption) (by assumption) (K5 b) (by first|exact K5 a|exact Int.le_of_eq a.symm) (.inl b)
 ·have q:=Z y m c (E y m) (D m c);have d:0<Mt V U:=hC y;have b:=u d;have a:=x ();exact fP (p:=2*l1 U) (q:=2*l2 V) (by assumption) (by assumption) (K5 b) (by first|exact K5 a|exact Int.le_of_eq a.symm) (.inl b)
theorem oy{U V W:Wl}(a:Mn U)(d:Mn V)(b:Mn W)(r:Mz U V)(s:Mz V W)(h:Mz U W)(i:max (l1 U) (l1 V)<min (l2 U) (l2 V))(j:max (l1 V) (l1 W)<min (l2 V) (l2 W))(f:max (l1 U) (l1 W)<min (l2 U) (l2 W))
 (u:Ms U V=MB) (v:Ms V W=MB):Ms U W=MB:=by
 have c:=bW.mp i
 have g:=bW.mp j
 have l:=bW.mp f
 obtain⟨t,⟨x1,m,o⟩,y1,p,q⟩:=yu ⟨c.1,c.2.1,l.2.1⟩ ⟨c.2.2.1,c.2.2.2,g.2.1⟩ ⟨l.2.2.1,g.2.2.1,g.2.2.2⟩
 have w:=qr (t:=t) a d r i (Rp.mpr ⟨x1,m⟩) (Rq.mpr ⟨y1,p⟩) u
 have x:=qr (t:=t) d b s j (Rp.mpr ⟨m,o⟩) (Rq.mpr ⟨p,q⟩) v
 have y:0<lam U:=by have:=a.lt;unfold lam;omega
 have A:0<lam V:=by have:=d.lt;unfold lam;omega
 have lw:0<lam W:=by have:=b.lt;unfold lam;omega
 have C:0<Gh U W t:=by
  refine iV (k:=lam V) A ?_
  have e:Gh U W t*lam V=lam U*Gh V W t+lam W*Gh U V t:=by unfold Gh;grind
  rw[e]
  exact Int.add_pos (Jl y x) (Jl lw w)
 cases z:Ms U W with
 |true=>rfl
 |false=>
  have n:=fh a b h f
  rw[z]at n
  have B:=qr (t:=t) b a h.swap (by rw[Int.max_comm,Int.min_comm];exact f) (Rp.mpr ⟨o,x1⟩) (Rq.mpr ⟨q,y1⟩) n
  rw[uQ]at B
  omega
theorem b7{U:Wl}(a:Mn U):Ms U U=MC:=by
 unfold Ms;split
 ·rw[ME rfl,MD (),oG a a rfl];rfl
 ·rfl
theorem lR{a b:Type}(f:a->b)(xs:List a)(j:Nat)(y:a):gJ (xs.map f) j (f y)=(gJ xs j y).map f:=by unfold gJ;simp[List.map_take,List.map_drop]
theorem om{a:Type}(xs:List a)(j:Nat)(y:a):(gJ xs j y).Perm (y::xs):=by
 unfold gJ;have h:(xs.take j++y::xs.drop j).Perm (y::(xs.take j++xs.drop j)):=List.perm_middle
 rwa [List.take_append_drop]at h
theorem fK{b:Type}(p:b->Bool)(f:b->D):∀l:List b,l.filterMap (fun k=>if p k=MB then LZ (f k)else MA)=(l.filter p).map f
 |[]=>rfl
 |a::l=>by
  rw[List.filterMap_cons,List.filter_cons]
  cases h:p a
  ·simp[fK p f l]
  ·simp[fK p f l]
def Mu(ws:rr)(k:Int):Wl:=(ws[k.toNat]?).getD (0,0,0,0)
theorem aX{ws:rr}{k:Int}(b:0<=k)(c:k<ws.length):ws[k.toNat]?=LZ (Mu ws k)/\atI (ws.map uw) k=LZ (uw (Mu ws k))/\Mu ws k∈ws:=by
 obtain⟨j,rfl⟩:∃j:Nat,k=(j:Int):=⟨k.toNat,()⟩;have a:j<ws.length:=()
 have e:Mu ws (j:Int)=ws[j]:=by unfold Mu;simp[a]
 refine⟨by rw[e];simp[a],?_,by rw[e];exact JQ a⟩;rw[e];exact cM (by simp[a])
theorem zy{R:Int->Int->Bool}:∀fs:pw,fs≠[]->(∀k∈fs,∀j∈fs,k≠j->R j k=!R k j)->(∀k∈fs,∀j∈fs,∀i∈fs,k≠j->j≠i->k≠i->R k j=MB->R j i=MB->R k i=MB)->∃t∈fs,∀k∈fs,k=t\/R t k=MB
 |[],h,_,_=>absurd rfl h
 |[a],_,_,_=>⟨a,by simp,fun k c=>.inl ‹c›⟩
 |a::b::l,_,tot,tr=>by
  obtain⟨t,d,top⟩:=zy (R:=R) (b::l) (by simp) (fun k c j f=>tot k (.tail _ c) j (.tail _ f)) (fun k c j f i p=>tr k (.tail _ c) j (.tail _ f) i (.tail _ p))
  by_cases e:a=t
  ·subst e
   refine⟨a,by simp,fun k c=>?_⟩
   rcases Jx.mp c with rfl|c
   ·exact .inl rfl
   ·exact top k c
  ·have m:=tot a (by simp) t (.tail _ d) e
   cases q:R a t with
   |false=>
    rw[q]at m
    refine⟨t,.tail _ d,fun k c=>?_⟩
    rcases Jx.mp c with rfl|c
    ·exact .inr m
    ·exact top k c
   |true=>
    refine⟨a,by simp,fun k c=>?_⟩
    rcases Jx.mp c with rfl|g
    ·exact .inl rfl
    ·by_cases n:k=a
     ·exact .inl n
     ·rcases top k g with rfl|z
      ·exact .inr q
      ·by_cases o:k=t
       ·subst o;exact .inr q
       ·exact .inr (tr a (by simp) t (.tail _ d) k c e (fun y=>o y.symm) (fun y=>n y.symm) q z)
theorem sf{fs:pw}{t:Int}{p:Int->Bool}(nd:fs.Nodup)(f:t∈fs)(b:∀k∈fs,p k=MB↔k=t):fs.filter p=[t]:=by
 induction fs with
 |nil=>cases f
 |cons a l g=>
  rw[Lz]at nd
  rw[List.filter_cons]
  by_cases e:a=t
  ·subst e;rw[ME ((b a (by simp)).mpr rfl)];have:l.filter p=[]:=List.filter_eq_nil_iff.mpr fun k c d=>nd.1 ((b k (.tail _ c)).mp d▸c);rw[this]
  ·rw[MD (fun z=>e ((b a (by simp)).mp z))];exact g nd.2 ((Jx.mp f).resolve_left (fun z=>e z.symm)) fun k c=>b k (.tail _ c)
def Rr(q:Rat):LP:=.tuple [.int q.num,.int (q.den:Int)]
def Qn(t b x y:Int)(w:Wl):LP:=.tuple [.tuple [Rr (MU t b x 1 w.1),Rr (MU t b y 1 w.2.1)],.tuple [Rr (MU t b x 1 w.2.2.1),Rr (MU t b y 1 w.2.2.2)]]
theorem rE(t b x y:Int)(w:Wl):JL (Qn t b x y w) (Qn t b x y w)=MB:=by simp[Qn,Rr,JL,Ke]
theorem AN{a b x y:Int}(e:-10<=b/\b<=85)(f:-10<=y/\y<=85):HT.lexLt [a,b] [x,y]=decide (la a b<la x y):=by have h:=Mc (a:=a) (b:=b) (c:=x) (d:=y);rw[Kn,h,MK];unfold la;omega
def SU(ws:rr)(m s:Int)(j:Nat):Bool:=decide (m*l1 (Mu ws (j:Int))<=s)&&decide (s<m*l2 (Mu ws (j:Int)))
def WE(ws:rr)(m s:Int):pw:=((J8 ws.length).filter (SU ws m s)).map fun j:Nat=>(j:Int)
theorem jd{ws:rr}{m s k:Int}(h:k∈WE ws m s):0<=k/\k<ws.length/\m*l1 (Mu ws k)<=s/\s<m*l2 (Mu ws k):=by unfold WE at h;obtain⟨j,a,rfl⟩:=JC.mp h;rw[Jb,Jv]at a;have:=a.2;unfold SU at this;rw[Jp,MK,MK]at this;exact⟨(),(),this.1,this.2⟩
theorem C8(m a b:Int):la (m*a) (m*b)=m*la a b:=by unfold la;grind
theorem over_of{m s a b c d:Int}(j:0<m)(f:m*a<=s)(g:s<m*b)(h:m*c<=s)(i:s<m*d):max a c<min b d:=by have e:∀{x y:Int},m*x<=s->s<m*y->x<y:=fun{x y} p q=>Int.lt_of_mul_lt_mul_left (Int.lt_of_le_of_lt p q) ();have:=e f g;have:=e f i;have:=e h g;have:=e h i;omega
theorem yq{ws:rr}{fs:pw}{m s:Int}(r:∀w∈ws,Mn w)(hF:PF ws)(u:0<m)(v:∀k∈fs,k∈WE ws m s)(x:fs≠[])(nd:fs.Nodup) :
 ∃t∈fs,(∀w∈fs.map (Mu ws),w=Mu ws t\/(Ms (Mu ws t) w=MB/\Ms w (Mu ws t)=MC))/\(fs.filter fun k=>fs.all fun j=>!Ms (Mu ws j) (Mu ws k))=[t]:=by
 have sp:=fun k d=>jd (v k d)
 have un:∀k∈fs,Mn (Mu ws k):=fun k d=>r _ (aX (sp k d).1 (sp k d).2.1).2.2
 have fr:∀k∈fs,∀j∈fs,k≠j->Mz (Mu ws k) (Mu ws j):=fun k d j f ne=>by
  have a:=sp k d
  have b:=sp j f
  exact hF k.toNat j.toNat _ _ () (aX a.1 a.2.1).1 (aX b.1 b.2.1).1
 have n:∀k∈fs,∀j∈fs,max (l1 (Mu ws k)) (l1 (Mu ws j))<min (l2 (Mu ws k)) (l2 (Mu ws j)):=fun k d j f=>
  over_of u (sp k d).2.2.1 (sp k d).2.2.2 (sp j f).2.2.1 (sp j f).2.2.2
 have g:∀k∈fs,∀j∈fs,k≠j->Ms (Mu ws j) (Mu ws k)=!Ms (Mu ws k) (Mu ws j):=fun k d j f ne=>fh (un k d) (un j f) (fr k d j f ne) (n k d j f)
 obtain⟨t,o,top⟩:=zy (R:=fun k j=>Ms (Mu ws k) (Mu ws j)) fs x g (fun k d j f i l a b c p q=>oy (un k d) (un j f) (un i l) (fr k d j f a) (fr j f i l b) (fr k d i l c) (n k d j f) (n j f i l) (n k d i l) p q)
 refine⟨t,o,fun w y=>?_,sf nd o fun k d=>?_⟩
 ·obtain⟨k,d,rfl⟩:=JC.mp y
  by_cases e:k=t
  ·exact .inl (by rw[e])
  ·have a:=(top k d).resolve_left e
   have b:=g t o k d (fun z=>e z.symm)
   rw[a]at b
   exact .inr ⟨a,b⟩
 ·rw[JR]
  constructor
  ·intro h
   by_cases e:k=t
   ·exact e
   ·have a:=(top k d).resolve_left e
    have:=h t o
    rw[a]at this
    cases this
  ·rintro rfl j f
   by_cases e:j=k
   ·rw[e,b7 (un k d)];rfl
   ·have a:=(top j f).resolve_left e
    have b:=g k d j f (fun z=>e z.symm)
    rw[b,a];rfl
section
variable{X:Cx}{MN:pa}{σ:L2.St}{H:Hp}{s:IS}
theorem mQ{h':oa}{t':Nat}{e it:n7}(I:Inv X MN σ H s)(k:∀b o,b≠e->b≠it->s.heap.get? b=LZ o->h'.get? b=LZ o)(g:cQ X MN H e)(h:cQ X MN H it):Inv X MN σ H { s with heap:=h',toks:=t' }:=by
 obtain⟨i,e1,_,e3,e4,j⟩:=g;obtain⟨l,f,_,p,t,w⟩:=h;have ne:∀b u,H b=LZ u->b≠e/\b≠it:=fun b u q=>⟨fun z=>(by rw[z,i]at q;cases q),fun z=>(by rw[z,l]at q;cases q)⟩;have d:∀{b:n7},b∉[e,it]->b≠e/\b≠it:=fun{b} a=>⟨fun z=>a (by simp[z]),fun z=>a (by simp[z])⟩;refine I.step (g':=s.gens) (d':=s.drawn) (ch:=[e,it]) (fun b x=>?_) (fun b o _ _ a q _=>k b o (d a).1 (d a).2 q) (fun b o _ _ a q _=>⟨o.slots,k b o (d a).1 (d a).2 q⟩) (fun _ _ _ _ n=>n) (fun b o a q=>⟨o,k b o (d a).1 (d a).2 q⟩) (fun _ _ q=>q) (fun _ _ _ q=>q) (fun b ps q=>⟨#[],by rw[q];simp⟩) (fun m A=>?_) (fun b u q=>?_) I.bare
 ·rcases(show b=e\/b=it by simpa using x)with rfl|rfl
  ·exact⟨e3,e1,e4,j⟩
  ·exact⟨p,f,t,w⟩
 ·obtain⟨o,B,C,D,r⟩:=A;exact⟨o,B,C,k _ o (Ne.symm e1) (Ne.symm f) D,r⟩
 ·refine(I.hok b u q).iU (fun c v a z=>?_) (fun _ z=>z) fun _ _ z=>z;rcases a with y|y
  ·subst y;exact k _ v (ne _ u q).1 (ne _ u q).2 z
  ·exact k c v (ne c _ y).1 (ne c _ y).2 z
end
theorem qw(c:Nat){prog:Jk}{w:JJ}{A:JP}{it:n7}{fp:rb}{n:Nat}{P:Nat->IQ->Prop}{St:Nat->oa->Prop}(D:Draws prog w A it fp n P St):Draws prog w A it fp (n+c) (fun j x=>∃i,j=i+c/\P i x) (fun j h=>∃i,j=i+c/\St i h) where
 live:=fun j h a=>by
  obtain⟨i,_,st⟩:=a
  exact D.live i h st
 frame:=fun j h b a k=>by
  obtain⟨i,e,st⟩:=a
  exact⟨i,e,D.frame i h b st k⟩
 item:=fun j s Q E m a f=>by
  obtain⟨i,e,st⟩:=a
  exact D.item i s Q E () st fun x b g p d l=>f x b g ⟨i,e,p⟩ ⟨i+1,(),d⟩ l
 done:=fun s Q E a hE=>by
  obtain⟨i,e,st⟩:=a
  obtain rfl:i=n:=()
  exact D.done s Q E st hE
theorem sT{prog:Jk}{w:JJ}{A:JP}(b:A.handled=MA)(it l:n7)(c:l≠it)(items:Array IQ){i:Nat}(d:items[i]?=MA):Draws prog w A it [it,l] i (fun _ _=>False) (fun j h=>j=i/\h.IsListIter it l i/\h.IsList l items) where
 live:=fun _ _ st=>by
  obtain⟨o,f,_⟩:=st.2.1
  exact⟨o,f⟩
 frame:=fun _ _ _ st a=>⟨st.1,st.2.1.at fun o e=>a it (by simp) o e,st.2.2.at fun o e=>a l (by simp) o e⟩
 item:=fun j s Q E g st _=>absurd st.1 ()
 done:=fun s Q E st hE=>wpAny_nextOf_list_end b st.2.1 st.2.2 d hE
def WM(K:I0)(c:Nat)(a:n7):It:=
 ⟨fun i H=>∃xs x,ND K H a xs/\xs[i]?=LZ x,fun i H x b=>∃T y,x=.ref T/\H T=MA/\b=upd H T (.tup [.int ((i+c:Nat):Int),y])/\∀xs,ND K H a xs->xs[i]?=LZ y,fun i H=>∃xs,ND K H a xs/\xs.length<=i⟩
theorem oA(c:Nat){P:Jk}{w:JJ}{K:I0}{F:ra}{kt}{pt:Pos}(a e it:n7)(r:e≠it):Turn P w K (.Tuple F kt pt) (WM K c a) [e,it] e (fun i h=>(∃g,IsEnum h e it ((i+c:Nat):Int) g)/\h.IsListIter it a i) where
 mem:=by simp
 obj:=fun i h st b G=>by
  rcases(show b=e\/b=it by simpa using G)with rfl|rfl
  ·obtain⟨⟨g,q⟩,_⟩:=st
   exact⟨_,q,fun v z=>by
    have z':Data.fields _=Data.cell v:=z
    cases z'⟩
  ·obtain⟨o,q,_,d⟩:=st.2
   exact⟨o,q,fun v z=>by rw[d]at z;cases z⟩
 keep:=fun i h h' st k=>by
  obtain⟨⟨g,q⟩,st⟩:=st
  exact⟨⟨g,k e (by simp) _ q⟩,st.at fun o z=>k it (by simp) o z⟩
 item:=by
  intro X N O Q R i MN s σ H E I hf st S
  subst N O Q
  obtain⟨xs,x,M,T⟩:=S
  obtain⟨m,U,p,hz⟩:=I.list M
  obtain⟨u,hu,ru⟩:=U.get T
  obtain⟨⟨g,t⟩,j⟩:=st
  have le:e<s.z:=J6 t
  have li:it<s.z:=by obtain⟨o,q,_⟩:=j;exact J6 q
  have y:a≠it:=fun z=>by
   subst z
   obtain⟨o1,V,W,_⟩:=j
   obtain⟨o2,y1,B,_⟩:=p.isList
   rw[V]at y1;cases y1
   rw[W]at B;exact absurd (LV.inj B) ⋯
  have Y:e≠a:=fun z=>by
   subst z
   obtain⟨o2,y1,B,_⟩:=p.isList
   rw[show s.heap.get? e=_ from t]at y1;cases y1
   exact absurd (LV.inj B) ⋯
  have C:X.A.in1.handled=MA:=I.ok.hd R
  have a0:i<m.length:=(J1.mp hu).1
  refine wpAny_pyNext_enum_itemD (i:=i+c) (qw c (Draws.list C it a y m.toArray)) t ⟨i,rfl,j,p.isList⟩ (by simp;omega) r (by simp[r,Y]) fun x0 h1 D l ho J hT b0 hk=>?_
  obtain⟨i0,c0,l⟩:=l
  obtain rfl:i=i0:=()
  obtain⟨i1,d0,L⟩:=J
  obtain rfl:i1=i+1:=()
  obtain rfl:u=x0:=by
   have l:m[i]?=LZ x0:=‹l›
   rw[hu]at l;cases l;rfl
  refine⟨_,rfl,wpAny_letOwnedTupleGo_enum (s:={ s with heap:=h1,toks:=D+1 }) ho fun h2 Z n=>?_⟩
  have n:L6 e h1 h2:=n
  have fr:=I.fresh
  have I1:Inv X MN σ (upd H s.z (.tup [.int ((i+c:Nat):Int),x])) { s with heap:=s.heap.push { cls:=.type "tuple",data:=.seq #[.int ((i+c:Nat):Int) D,u] },toks:=s.toks }:=
   I.laid (fun b v q=>IZ _ q) (IY _) ⟨Mo rfl,[.int ((i+c:Nat):Int) D,u],.cons ⟨_,rfl⟩ (.cons ru .nil),⟨_,J3 _ rfl,rfl,_,rfl⟩,⟨_,J3 _ rfl,rfl⟩⟩
  have fk:∀{b:n7},b<s.z->cQ X MN H b->cQ X MN (upd H s.z (.tup [.int ((i+c:Nat):Int),x])) b:=fun{b} lt f=>⟨by rw[aZ (JB lt)];exact f.1,f.2⟩
  have fe:=fk le (hf e (by simp))
  have fi:=fk li (hf it (by simp))
  have I2:Inv X MN σ (upd H s.z (.tup [.int ((i+c:Nat):Int),x])) { s with heap:=h2,toks:=D+1 }:=by
   refine mQ (s:={ s with heap:=s.heap.push { cls:=.type "tuple",data:=.seq #[.int ((i+c:Nat):Int) D,u] },toks:=s.toks }) I1 (fun b o ne ni q=>?_) fe fi
   have q:(s.heap.push { cls:=.type "tuple",data:=.seq #[.int ((i+c:Nat):Int) D,u] }).get? b=LZ o:=q
   refine(n.2 b ne).trans ?_
   rcases Heap.get?_push_cases q with⟨rfl,rfl⟩|q
   ·exact hT
   ·exact hk b o ne ni q
  refine⟨.ref s.z,_,I2,rfl,⟨_,x,rfl,fr,rfl,fun ys hy=>by rw[I.ja hy M];exact T⟩,⟨⟨u,?_⟩,L.1.at fun o z=>(n.2 it r.symm).trans z⟩,fun b G=>?_⟩
  ·rw[show((i+1+c:Nat):Int)=((i+c:Nat):Int)+1 by omega];exact Z
  ·rcases(show b=e\/b=it by simpa using G)with rfl|rfl
   ·exact fe.1
   ·exact fi.1
 done:=by
  intro X N O Q R i MN s σ H E I hf st S
  subst N O Q
  obtain⟨xs,M,T⟩:=S
  obtain⟨m,U,p,hz⟩:=I.list M
  obtain⟨⟨g,t⟩,j⟩:=st
  obtain⟨f0,f1,f2,f3,f4,f5⟩:=hf it (by simp)
  have hl:=U.length
  have y:a≠it:=fun z=>by
   subst z
   obtain⟨o1,V,W,_⟩:=j
   obtain⟨o2,y1,B,_⟩:=p.isList
   rw[V]at y1;cases y1
   rw[W]at B;exact absurd (LV.inj B) ⋯
  have C:X.A.in1.handled=MA:=I.ok.hd R
  exact wpAny_pyNext_enum_endD (sT C it a y m.toArray (i:=i) (by simp;omega)) t ⟨rfl,j,p.isList⟩ fun h' eb=>⟨rfl,I.turned (t':=s.toks) (fun b o G q=>eb b o G q) f0 f1 f3 f4 f5⟩
 self:=fun _ _ _ _ _ st h=>let⟨⟨_,t⟩,_⟩:=st;wpAny_pyIter_enum t h
theorem fX:JT "enumerate"=LZ (.type "enumerate"):=by decide +kernel
section
variable{X:Cx}{elts:ra}{kt:Nat}{pt:Pos}
def Gy(K:I0)(b:TA):TI:=fun σ H R=>b σ H fun vs H1=>∃a xs,vs=[.ref a]/\H1 a=LZ (.lst xs)/\R (WM K 0 a) H1
theorem Bv{a:oT}{j:TA}{p pos:Pos}(m:Gl X "enumerate")(o:X.mg "enumerate"=MA)(t:PA X [a] j)(v:Je [a] X.env=[(MC,eval a X.env)]:=by rfl):PI X (.Tuple elts kt pt) (.Call (.Name "enumerate" p) [a] [] pos) (Gy X.K j):=by
 intro MN s σ H R I h;refine Call_ (gI I m o fX (KJ (Mr (t pos MN s σ H _ I h) fun us c d=>?_) v rfl));obtain⟨vs,H1,g,w,x⟩:=d;obtain⟨l,xs,y,A,q⟩:=x;subst y;obtain⟨u,rfl,B⟩:=w.one;cases B;obtain⟨z,C,n,r,G,e⟩:=g.ph A;refine call_enumerate_1 e fun J k i D E=>wpAny_pyIter_enum k ?_
 have fp:∀b∈[c.z+1,c.z],cQ X MN H1 b:=fun b F=>by
  have f:c.z<=b:=by
   rcases(show b=c.z+1\/b=c.z by simpa using F)with rfl|rfl
   ·exact Nat.le_succ _
   ·exact IY _
  exact g.pV f (g.hok.fresh f)
 exact⟨_,[c.z+1,c.z],_,_,H1,rfl,g.kept (t':=c.toks) E,oA 0 l _ _ (Nat.succ_ne_self _),⟨⟨_,k⟩,i⟩,fp,q⟩
theorem uP(c:Nat){K:I0}{H1:Hp}{l:n7}{es:rx}:Vx K H1 ⟨es.length,fun i=>(es[i]?).map fun d=>.tup [.int ((i+c:Nat):Int),d],fun M=>M l=LZ (.lst es)⟩ (WM K c l):=by
 refine⟨fun o f p b g=>?_,fun i o f e p b g=>?_,?_⟩
 ·obtain⟨a,h,j⟩:=b _ _ (show f l=LZ (.lst es)from g);exact⟨a,ND.of h,by rw[<-j.length];exact IY _⟩
 ·obtain⟨a,h,j⟩:=b _ _ (show f l=LZ (.lst es)from g);have k:i<a.length:=by rw[<-j.length];exact e
  exact⟨a,a[i],ND.of h,by simp[k]⟩
 ·rintro i o f v q e p b g ⟨T,y,rfl,m,rfl,h⟩;have e:i<es.length:=e;obtain⟨a,n,j⟩:=b _ _ (show f l=LZ (.lst es)from g);obtain⟨x,e1,e2⟩:=j.get (show es[i]?=LZ es[i] by simp[e]);have:=h a (ND.of n);rw[e1]at this;cases this;exact⟨.new m,b.new m,.tup [.int ((i+c:Nat):Int),es[i]],by simp[e],by rw[Rep];exact⟨T,_,rfl,NB.of bc,.cons (by rw[Rep]) (.cons (e2.mono (.new m)) .nil)⟩⟩
def FG(c:NN):Nt:=fun δ M R=>c δ M fun e b=>∃l a,e=[.ref l]/\b l=LZ (.lst a)/\R ⟨a.length,fun i=>(a[i]?).map fun d=>.tup [.int (i:Int),d],fun M=>M l=LZ (.lst a)⟩ b
theorem A0{a:oT}{d:NN}{p pos:Pos}(g:Gl X "enumerate")(h:X.mg "enumerate"=MA)(i:DA X [a] d)(b:Je [a] X.env=[(MC,eval a X.env)]:=by rfl):DI X (.Tuple elts kt pt) (.Call (.Name "enumerate" p) [a] [] pos) (FG d):=
 jV (Bv g h i b) fun σ H R j=>by
  obtain⟨δ,M,x,b,k,q,c⟩:=j
  exact⟨δ,M,_,b,k,q,fun y m vs H1 n o f s=>by
   obtain⟨l,z,e,t,u⟩:=s
   subst e
   obtain⟨v,rfl,r⟩:=cv o
   rw[Rep]at r;subst r
   obtain⟨xs,w,A⟩:=f _ _ t
   exact⟨l,xs,rfl,w,c _ m H1 _ n f u (uP 0)⟩⟩
end
theorem qF{U V:Wl}(h:Ms U V=MB):max (l1 U) (l1 V)<min (l2 U) (l2 V):=by
 unfold Ms at h;split at h
 ·assumption
 ·cases h
theorem oF(f:Int->Int):∀fs:pw,fs≠[]->∃w∈fs,∀k∈fs,f w<=f k
 |[],h=>absurd rfl h
 |[a],_=>⟨a,by simp,fun k c=>by rw[JS.mp c];exact KH _⟩
 |a::b::l,_=>by
  obtain⟨w,d,h⟩:=oF f (b::l) (by simp)
  by_cases e:f a<=f w
  ·refine⟨a,by simp,fun k c=>?_⟩
   rcases Jx.mp c with rfl|c
   ·exact KH _
   ·have:=h k c;omega
  ·refine⟨w,.tail _ d,fun k c=>?_⟩
   rcases Jx.mp c with rfl|c
   ·omega
   ·exact h k c
theorem AD{ws:rr}(v:∀w∈ws,Mn w)(hF:PF ws):∀(n:Nat) (fs:pw),fs.length=n->fs≠[]->fs.Nodup->(∀k∈fs,0<=k/\k<ws.length)->∃t∈fs,∀k∈fs,Ms (Mu ws k) (Mu ws t)=MC:=by
 intro n
 induction n with
 |zero=>intro fs h l;exact absurd (List.eq_nil_of_length_eq_zero h) l
 |succ n x=>
  intro fs A l nd i
  have un:∀k∈fs,Mn (Mu ws k):=fun k c=>v _ (aX (i k c).1 (i k c).2).2.2
  have fr:∀k∈fs,∀j∈fs,k≠j->Mz (Mu ws k) (Mu ws j):=fun k c j B ne=>by
   have a:=i k c
   have b:=i j B
   exact hF k.toNat j.toNat _ _ () (aX a.1 a.2).1 (aX b.1 b.2).1
  obtain⟨w,f,g⟩:=oF (fun k=>l2 (Mu ws k)) fs l
  by_cases p:fs.erase w=[]
  ·refine⟨w,f,fun k c=>?_⟩
   have:k=w:=by
    by_cases e:k=w
    ·exact e
    ·have:=(List.Nodup.mem_erase_iff nd).mpr ⟨e,c⟩;rw[p]at this;cases this
   subst this;exact b7 (un k c)
  ·obtain⟨t,r,top⟩:=x (fs.erase w) (by rw[List.length_erase_of_mem f,A];rfl) p (nd.erase w) (fun k c=>i k (List.mem_of_mem_erase c));have d:t∈fs:=List.mem_of_mem_erase r;have C:t≠w:=((List.Nodup.mem_erase_iff nd).mp r).1;cases q:Ms (Mu ws w) (Mu ws t)with
   |false=>
    refine⟨t,d,fun k c=>?_⟩
    by_cases e:k=w
    ·subst e;exact q
    ·exact top k ((List.Nodup.mem_erase_iff nd).mpr ⟨e,c⟩)
   |true=>
    refine⟨w,f,fun k c=>?_⟩
    cases z:Ms (Mu ws k) (Mu ws w)with
    |false=>rfl
    |true=>
     exfalso
     by_cases e:k=w
     ·subst e;rw[b7 (un k c)]at z;cases z
     ·have m:=qF z;have s:=qF q;have D:l2 (Mu ws w)<=l2 (Mu ws k):=g k c;have E:l2 (Mu ws w)<=l2 (Mu ws t):=g t d;have F:=(un k c).lt;have G:=(un t d).lt;have H:max (l1 (Mu ws k)) (l1 (Mu ws t))<min (l2 (Mu ws k)) (l2 (Mu ws t)):=bW.mpr ⟨F,Int.lt_of_lt_of_le (bW.mp m).2.1 E,Int.lt_of_lt_of_le (bW.mp s).2.2.1 D,G⟩;have o:k∈fs.erase w:=(List.Nodup.mem_erase_iff nd).mpr ⟨e,c⟩;by_cases u:k=t
      ·subst u;have:=fh (un k c) (un w f) (fr k c w f e) m;rw[z,q]at this;cases this
      ·have:=oy (un k c) (un w f) (un t d) (fr k c w f e) (fr w f t d (fun y=>C y.symm)) (fr k c t d u) m s H z q;rw[top k o]at this;cases this
end SD
namespace HT
open PySem PyProof.Rows
section
open PySem.SeqAt
open PySem.AutoSeq1 (wpAny_loadPart')
open PySem.MeetsSeq PySem.MeetsSeq2 PySem.MeetsSeq3
theorem nA(l:n7)(items:Array IQ)(n:Nat)(r:Option n7)(t:Array (p_))(x:IQ)(j:Nat)(C:j<items.size) :
 Meets (LY.«tuple.index» ⟨[.ref l,x],[]⟩) fun A R s=>s.heap.get? l=LZ { cls:=.type "tuple",dict:=r,data:=.seq items n,slots:=t }/\(∀(i:Nat) (D:i<items.size),i<=j->EqAt A.in1 s items[i] x (decide (i=j)))/\R (.ok (.ret (.int (j:Int) s.toks))) { s with toks:=s.toks+1 }:=
 .of_wp fun prog w A R s h=>by
  obtain⟨u,g,d,v,os⟩:=s;obtain⟨y,k,h⟩:=h
  unfold LY.«tuple.index»
  simp only[Std.Legacy.Range.forIn_eq_forIn_range']
  wp_walk using Kb y,wpAny_forIn_list _ (fun c b o=>b=(MA,.unit)/\o=⟨u,g,d,v,os⟩/\∃m,m<=j/\c=List.range' m (items.size-m) 1) _
  case turn=>
   rintro a c b o ⟨rfl,rfl,m,q,e⟩
   have p:items.size-m=(items.size-m-1)+1:=()
   rw[p,List.range'_succ]at e
   injection e with z B
   subst z B
   have f:a<items.size:=()
   rw[Array.getElem?_eq_getElem f]
   refine cc (k a f q prog w _ _ ?_)
   by_cases e1:a=j
   ·subst e1
    rw[MG rfl]
    wp_walk
    exact⟨_,rfl,h⟩
   ·rw[MF e1]
    wp_walk
    exact⟨rfl,rfl,a+1,(),by rw[show items.size-a-1=items.size-(a+1) by omega]⟩
  case fin=>
   rintro b o ⟨rfl,rfl,m,q,e⟩
   have p:items.size-m=(items.size-m-1)+1:=()
   rw[p,List.range'_succ]at e
   cases e
  exact⟨rfl,rfl,0,(),by simp[Std.Legacy.Range.size]⟩
end
end HT
open HT renaming eE->Mj,lexLt->Mk
namespace SD
open PySem PySem.Spec PyProof.Rows L2
section
variable{X:Cx}
def Fs(c:TD)(t:NN):TD:=fun δ M Q=>c δ M fun x e=>∃a,x=.tup a/\t δ e fun f b=>∃d p,∃j:Nat,f=[d]/\j<a.length/\Pd b d p/\Li p=MB/\
 (∀(i:Nat) (y:D),i<=j->a[i]?=LZ y->∃q,Pd b y q/\PyData.canLay0 q=MB/\JL q p=decide (i=j))/\Q (.int (j:Int)) b
def FN(K:I0):V->ro->Hp->VK->Prop:=fun x vs H Q=>∃a b M v d p,∃j:Nat,x=.ref a/\vs=[v]/\My K H M/\Rep K H (.tup b) x/\Rep K H d v/\j<b.length/\Pd M d p/\Li p=MB/\
 (∀(i:Nat) (y:D),i<=j->b[i]?=LZ y->∃q,Pd M y q/\PyData.canLay0 q=MB/\JL q p=decide (i=j))/\Q (.int (j:Int)) H
theorem Dr(hu:X.A.units+66<K0):YJ X "tuple.index" (FN X.K):=by
 intro MN s σ H x vs v us Q I B C D;obtain⟨a,l,M,v1,d,p,j,ex,E,u,w,hd,G,J,f,g,q⟩:=D;subst ex E;cases B;obtain⟨L,rfl,N⟩:=C.one;rw[Rep]at w;obtain⟨a',xs,ea,O,y⟩:=w;cases ea;obtain⟨c,h,⟨o,z,P,n,R⟩,hz⟩:=I.tuple O;obtain⟨as,S⟩:=bX I u J hd N;have b:c.length=l.length:=by rw[<-h.length,y.length]
 obtain⟨oc,od,T,osl⟩:=o;cases P;cases R;refine call_meets PySem.F.slot_tuple_index ⟨_,z,rfl⟩ PySem.F.entry_tuple_index (PySem.F.args_tuple_index_2 _ _) (HT.nA a c.toArray n od osl L j (by simpa[b]using G)) ⟨z,fun i U m=>?_,?_⟩
 ·have k:i<l.length:=by simpa[b]using U
  obtain⟨V,W,Y,Z⟩:=g i l[i] m (IT k);obtain⟨x1,e1,r⟩:=y.get (IT k);obtain⟨u2,e2,t⟩:=h.get e1;obtain⟨bs,q2⟩:=bX I u W r t
  have e3:c.toArray[i]=u2:=by
   have:=J1.mp e2
   obtain⟨_,e⟩:=this
   simpa using e
  rw[e3,<-Z];have hm:min V.depth p.depth<=63+1:=K4 (Nat.min_le_right _ _) (SeqAt.depth_of_shaped f);exact PySem.SeqAt.eqAt_reads _ _ _ _ _ _ _ _ q2 S Y (Lj f) (by show X.A.units+1+_<K0;omega)
 ·exact⟨.int _,H,I.tok _,⟨_,rfl⟩,q⟩
theorem ET{o e1:oT}{m:TE}{t:TA}{c bC:Pos}(r:X.A.units+66<K0)(u:PE X o m)(w:PA X [e1] t)
 (d:attributeBase o "index" X.env (eval o X.env)=eval o X.env)
 (j:((Kr bC (Je [e1] X.env)).all (fun x=>!x.1)&&(backToKw bC (LF [] X.env)).all (fun x=>x.1.isSome)
  && decide ([e1].length+([]:List Keyword).length+(if([]:List Keyword).isEmpty then 0 else 1)<30))=MB)
 (f:(c.endLine==bC.line)=MB) (y:Je [e1] X.env=(MC,eval e1 X.env)::Je [] X.env) (b:(Kr bC (Je [] X.env)).any (·.1)=MC) :
 PE X (.Call (.Attribute o "index" c) [e1] [] bC) (fun σ H Q=>m σ H fun x H1=>(∃p xs,x=.ref p/\NB X.K H1 p xs)/\t σ H1 fun vs k=>FN X.K x vs k Q):=by
 intro MN s σ H Q I h
 refine wpAny_Call_method_late d j f rfl (Mr (u MN s σ H _ I h) fun v z g=>?_)
 obtain⟨x,H1,l,B,⟨p,xs,ex,n⟩,C⟩:=g
 subst ex
 cases B
 obtain⟨D,_,⟨E,G,J,_⟩,_⟩:=l.tuple n
 obtain⟨L,M,N⟩:=l.EU n
 refine⟨"tuple","tuple.index",PySem.F.plainAttrs_tuple,PySem.F.slot_tuple_index,PySem.F.type_tuple_index,⟨E,G,J⟩,fun a e=>by cases e;exact⟨L,M,N⟩,?_⟩
 have q:=w bC MN z σ H1 _ l C
 rw[y]at q ⊢
 refine Calls.callWith_builtin (by show(MC||(Kr bC (Je [] X.env)).any (·.1))=MC;rw[b]<;>rfl) (Calls.evalArgs_plain ?_)
 exact Mr q fun us O i=>by obtain⟨vs,k,P,R,S⟩:=i;exact(Dr r MN O σ k (.ref p) vs (.ref p) us Q P rfl R S)
variable{o e1:oT}{to:TD}{t:NN}{apos bC:Pos}
theorem mP(z:X.A.units+66<K0)(B:DE X o to)(C:DA X [e1] t)
 (c:attributeBase o "index" X.env (eval o X.env)=eval o X.env:=by rfl)
 (h:((Kr bC (Je [e1] X.env)).all (fun x=>!x.1)&&(backToKw bC (LF [] X.env)).all (fun x=>x.1.isSome)
  && decide ([e1].length+([]:List Keyword).length+(if([]:List Keyword).isEmpty then 0 else 1)<30))=MB:=by rfl)
 (e:(apos.endLine==bC.line)=MB:=by rfl) (D:Je [e1] X.env=(MC,eval e1 X.env)::Je [] X.env:=by rfl) (b:(Kr bC (Je [] X.env)).any (·.1)=MC:=by rfl) :
 DE X (.Call (.Attribute o "index" apos) [e1] [] bC) (Fs to t):=
 bj (ET z B C c h e D b) fun σ H Q ⟨δ,M,R,i,E,q,l⟩=>by
  refine⟨δ,M,_,i,E,q,fun x F v H1 u m G f=>?_⟩
  obtain⟨I,ex,J⟩:=f
  subst ex
  have n:=m
  rw[Rep]at m
  obtain⟨a,xs,rfl,K,V⟩:=m
  refine⟨⟨a,xs,rfl,K⟩,δ,F,_,i.mono u,G,J,fun W L us Y w N y g=>?_⟩
  obtain⟨d,p,j,O,P,S,r,k,T⟩:=g
  subst O
  obtain⟨U,rfl,s⟩:=cv N
  exact⟨a,I,L,U,d,p,j,rfl,rfl,y,n.mono w,s,P,S,r,k,l _ _ _ _ (u.trans w) (by rw[Rep]) y T⟩
def GH(te:TD):NT:=fun δ M Q=>te δ M fun x a=>∃l xs,x=.ref l/\a l=LZ (.lst xs)/\Q (!xs.isEmpty) a
theorem CP{e:oT}{te:TD}(g:DE X e te)(hw:∀a,isTrue e X.env a=(do let v <-a;standAt e.pos;holding [v] (truthy v)):=by intro _;rfl):DT X e (GH te):=
 mh (xg g hw) fun σ H Q ⟨δ,M,R,h,i,q,b⟩=>⟨δ,M,_,h,i,q,fun x r v H1 j d f ⟨l,xs,ex,k,m⟩=>by
  subst ex
  rw[Rep]at d;subst d
  obtain⟨c,n,p⟩:=f _ _ k
  refine⟨_,.inl ⟨c,ND.of n,rfl⟩,?_⟩
  have e:c.isEmpty=xs.isEmpty:=by
   have:=p.length
   cases xs<;>cases c<;>simp at this ⊢
  rw[e]
  exact b _ _ _ j f m⟩
end
open PySem PySem.W PySem.Spec PySem.Calls PyProof.Rows Builtin Builtin.ObjectAttr Builtin.Getset_descriptor
section
variable{P:Jk}{w:JJ}{K:I0}{mg:pd}{base:oa}{N:rf}{qual:Str}{scope:Lp}{f:n7}{cd:IQ}{A:JP}{outer:List Env}{s:IS}{H:Hp}{E:XK}
end
def two(a t1 b c d:oT)(scope:Lp)(pos:Pos):oT:=.ListComp a [⟨t1,b,[],0⟩,⟨c,d,[],0⟩] scope pos
theorem GJ(a t1 d e c:oT)(scope:Lp)(pos:Pos)(it b:IQ)(env:Env):compTurn (two a t1 d e c scope pos) 0 it b env=(do
 standAt d.pos
 match <-pyNext it with
 |none=>pure (.done .next)
 |some v=>
  KW t1 it v
  LN t1 env v
  let x <-eval c env
  standAt c.pos
  let x <-Jz c env x
  let _ <-runOwn (.compStart (two a t1 d e c scope pos) 1 (<-holding [x] (pyIter x)) b env) env
  again (.compLoop (two a t1 d e c scope pos) 0 it b env)):=by rfl
theorem FA(a t1 e c d:oT)(scope:Lp)(pos:Pos)(it b:IQ)(env:Env):compTurn (two a t1 e c d scope pos) 1 it b env=(do
 standAt d.pos
 match <-pyNext it with
 |none=>pure (.done .next)
 |some v=>
  KW c it v
  LN c env v
  (do let _ <-call (.builtin "list.append") [b,<-eval a env])
  again (.compLoop (two a t1 e c d scope pos) 1 it b env)):=by rfl
section
variable{prog:Jk}{w:JJ}{A:JP}{R:Result->IS->Prop}{s:IS}{elt t1 i1 t2 i2:oT}{scope:Lp}{pos:Pos}{it acc:IQ}{env:Env}
theorem ER(c:Lb (Jf prog w) A (.compLoop (two elt t1 i1 t2 i2 scope pos) 1 it acc env) R s)
 (h:J4 (Jf prog w) A (pyIter it) (fun a b=>Lb (Jf prog w) A (.compLoop (two elt t1 i1 t2 i2 scope pos) 1 a acc env) R b) (notedBy (Jf prog w) A env fun x b=>R (.error x) b) s) :
 Lb (Jf prog w) A (.compStart (two elt t1 i1 t2 i2 scope pos) 1 it acc env) R s:=by
 refine codeAny_of_tree ?_
 show J4 _ _ ((compStart (two elt t1 i1 t2 i2 scope pos) 1 it acc env).onRaise (fun x=>do noteFrame x env;standAt theWindowsPlace)) _ _ s
 refine wpAny_notedAt ?_
 unfold compStart
 show J4 _ _ (ask >>= _) _ _ s
 refine cc (wpAny_askSetting (wpAny_ite ?_))
 split
 ·first
   |exact cc (IU (IU (And.intro rfl c)))
   |exact IU (And.intro rfl c)
 ·refine cc (wpAny_rule ?_)
  show J4 _ _ (standAt i2.pos >>= _) _ _ s
  exact cc (Ks (cc (Ja h (fun a b d=>IU (And.intro rfl d)) fun _ _ x=>x)))
theorem Gi(J:Nat->IS->Prop)
 (step:∀n s,J n s->J4 (Jf prog w) A (pyNext it) (fun r b=>match r with
  |none=>R (.ok .next) b
  |some v=>J4 (Jf prog w) A (KW t2 it v) (fun _ c=>J4 (Jf prog w) A (LN t2 env v) (fun _ d=>
   J4 (Jf prog w) A (eval elt env) (fun x f=>J4 (Jf prog w) A (call (.builtin "list.append") [acc,x]) (fun _ g=>∃m,m<n/\J m g) NQ f) NQ d) NQ c) NQ b) NQ s)
 (n:Nat) (h:J n s):Lb (Jf prog w) A (.compLoop (two elt t1 i1 t2 i2 scope pos) 1 it acc env) R s:=by
 have a:∀{E:o_} e i,NQ e i->E e i:=fun _ _ z=>z.elim
 refine codeAny_loop rfl J (fun n s k=>?_) n h
 show J4 _ _ (Sem.onRaise (compTurn (two elt t1 i1 t2 i2 scope pos) 1 it acc env) (fun x=>do noteFrame x env;theTreesLotGoes x)) _ _ s
 refine wpAny_noted ?_
 rw[FA]
 refine cc (Ks (cc (Ja (step n s k) (fun r b j=>?_) a)))
 cases r with
 |none=>exact IU j
 |some v=>
  refine cc (Ja j (fun _ c l=>cc (Ja l (fun _ d o=>?_) a)) a)
  exact cc (cc (Ja o (fun x f p=>cc (Ja p (fun _ g q=>IU (IU ⟨rfl,q⟩)) a)) a))
theorem Hn(J:Nat->IS->Prop)(c:∀x,Jz i2 env x=pure x)
 (step:∀n s,J n s->J4 (Jf prog w) A (pyNext it) (fun r d=>match r with
  |none=>R (.ok .next) d
  |some v=>J4 (Jf prog w) A (KW t1 it v) (fun _ g=>J4 (Jf prog w) A (LN t1 env v) (fun _ i=>
   J4 (Jf prog w) A (eval i2 env) (fun x j=>J4 (Jf prog w) A (pyIter x) (fun a k=>Lb (Jf prog w) A (.compStart (two elt t1 i1 t2 i2 scope pos) 1 a acc env) (fun r l=>match r with
    |.ok _=>∃m,m<n/\J m l
    |.error e=>False) k) NQ j) NQ i) NQ g) NQ d) NQ s)
 (n:Nat) (h:J n s):Lb (Jf prog w) A (.compLoop (two elt t1 i1 t2 i2 scope pos) 0 it acc env) R s:=by
 have b:∀{E:o_} e o,NQ e o->E e o:=fun _ _ z=>z.elim
 refine codeAny_loop rfl J (fun n s t=>?_) n h
 show J4 _ _ (Sem.onRaise (compTurn (two elt t1 i1 t2 i2 scope pos) 0 it acc env) (fun x=>do noteFrame x env;theTreesLotGoes x)) _ _ s
 refine wpAny_noted ?_
 rw[GJ]
 refine cc (Ks (cc (Ja (step n s t) (fun r d p=>?_) b)))
 cases r with
 |none=>exact IU p
 |some v=>
  refine cc (Ja p (fun _ g u=>cc (Ja u (fun _ i y=>cc (Ja y (fun x j B=>?_) b)) b)) b)
  refine cc (Ks ?_)
  rw[c]
  refine cc (IU ?_)
  refine cc (K8 (Ja B (fun a k C=>?_) b))
  refine cc (wpAny_runOwn (codeAny_mono C (fun r l q=>?_)))
  cases r with
  |ok f=>exact IU ⟨rfl,q⟩
  |error e=>exact q.elim
end
def G7(js:pq)(wi2:TI)(te:TE)(σ:L2.St)(J:It)(H1:Hp)(Q:VK):Prop:=∀D,H1 D=MA->∃W:Nat->Nat->Hp->Prop,(∃m,W 0 m (upd H1 D (.lst [])))/\∀i m H,W i m H->
 (J.stop i H/\Q (.ref D) H)\/(J.go i H/\∀y c,J.yld i H y c->∀o,wi2 (cσ [LZ y,o] js σ) c fun b h=>∃U:Nat->Nat->Hp->Prop,(∃n,U 0 n h)/\∀j n a,U j n a->
  (b.stop j a/\∃d,d<m/\W (i+1) d a)\/(b.go j a/\∀z e,b.yld j a z e->te (cσ [LZ y,LZ z] js σ) e fun v f=>∃xs,f D=LZ (.lst xs)/\xs.length<J7/\∃g,g<n/\U (j+1) g (upd f D (.lst (xs++[v])))))
def Cg(js:pq)(a wi2:TI)(te:TE):TE:=fun σ H Q=>a σ H fun J H1=>G7 js wi2 te σ J H1 Q
section
variable{X:Cx}{x y:Str}{px py pos:Pos}{js:pq}{scope:Lp}{elt i1 i2:oT}{te:TE}{wi wi2:TI}{MN:pa}{σ:L2.St}{H:Hp}{s:IS}{fp:rb}{it:n7}{tn:Nat->oa->Prop}{J:It}
theorem BB(c:Mm X [x,y] js scope)(hc:X.calm=MB)(p1:∀C s H fp,PI (Mx X [x,y] js scope C s H fp) (.Name y py) i2 wi2)(q1:∀(env:Env) x,Jz i2 env x=pure x)(he:∀C s H fp,PE (Mx X [x,y] js scope C s H fp) elt te)
 {R:IQ->n7->Result->IS->Prop} {E:o_} {Q:VK}
 (I:Inv X MN σ H s) (T:Turn X.prog X.w X.K (.Name x px) J fp it tn) (st:tn 0 s.heap) (hf:∀b∈fp,cQ X MN H b) (wc:G7 js wi2 te σ J H Q)
 (hR:∀D C f F,Inv X MN σ f F->cQ X MN f C->(∃m,F.heap.Ns C m)->Q (.ref D) f->R (.ref D) C (.ok .next) F) :
 J4 (Jf X.prog X.w) X.A (newList []) (fun s0 t0=>J4 (Jf X.prog X.w) X.A (newFunctionEnv scope X.env.globals (fB scope.names X.env) [] X.env.qual MA .none (LZ X.env)) (fun N v0=>
  Lb (Jf X.prog X.w) X.A (.compStart (two elt (.Name x px) i1 (.Name y py) i2 scope pos) 0 (.ref it) s0 { N with scope:=relabel scope X.env }) (R s0 N.locals) v0) E t0) E s:=by
 have r1:∀C s H fp,PG (Mx X [x,y] js scope C s H fp) (.Name x px) (gg 0):=fun _ _ _ _=>iW c 0 rfl
 have s1:∀C s H fp,PG (Mx X [x,y] js scope C s H fp) (.Name y py) (gg 1):=fun _ _ _ _=>iW c 1 rfl
 have x0:∀b∈fp,b<s.z:=fun b a=>let⟨o,e,_⟩:=T.obj 0 _ st b a;J6 e
 have hD:H s.z=MA:=I.hok.fresh (IY _)
 refine Jy (oV ?_)
 generalize hh:s.heap.push { cls:=.type "list",dict:=MA,data:=.seq ([]:p4).toArray }=g
 generalize y0:pushCells (({ s with heap:=g }:IS).heap.push { cls:=.type "dict",data:=.dict #[] }) scope.names=h
 have k3:∀b o,s.heap.get? b=LZ o->g.get? b=LZ o:=fun b o e=>by rw[<-hh];exact IZ _ e
 have I3:Inv X MN σ (upd H s.z (.lst [])) { s with heap:=g }:=by
  refine I.laid (t':=s.toks) k3 (IY _) ?_
  refine⟨Kf _,[],0,.nil,?_⟩
  rw[<-hh]
  exact J3 _ rfl
 have k:∀b∈fp,cQ X MN (upd H s.z (.lst [])) b:=fun b a=>⟨by rw[aZ (JB (x0 b a))];exact(hf b a).1,(hf b a).2⟩
 have t1:g.objs.size=s.z+1:=by rw[<-hh,Ki]
 have z0:∀b∈fp,b<g.objs.size:=fun b a=>by rw[t1];exact Nat.lt_succ_of_lt (x0 b a)
 have k4:∀b o,g.get? b=LZ o->h.get? b=LZ o:=fun b o e=>by rw[<-y0];exact pushCells_keeps _ _ b o (IZ _ e)
 have I4:=mC c I3 k z0 (h':=h) y0.symm k4
 obtain⟨W,⟨m0,w0⟩,b1⟩:=wc _ hD
 have PU:tn 0 h:=T.keep 0 _ _ st fun b a o e=>k4 b o (k3 b o e)
 generalize hX:Mx X [x,y] js scope g.objs.size { s with heap:=g } (upd H s.z (.lst [])) fp=X' at I4
 have S:∀{pins':pa} {f:Hp} {l:L2.St} {F:IS},Inv X' [] l f F->(∀b∈fp,f b=MA)->∀b∈fp,cQ X' [] f b:=fun{pins' f l F} J' hn b a=>by
  subst hX
  obtain⟨a1,a2⟩:=J'.ok.exf b a
  exact⟨hn b a,a1,J'.ok.exfs b a,.inl a,a2,fun p hp=>absurd (show p∈([]:pa)from hp) (by simp)⟩
 have O:Lb (Jf X.prog X.w) X.A (.compLoop (two elt (.Name x px) i1 (.Name y py) i2 scope pos) 0 (.ref it) (.ref s.z) (kO scope g.objs.size X.env)) (R (.ref s.z) g.objs.size)
  { s with heap:=h }:=by
  refine Hn (fun n F=>∃i os f,os.length=2/\Inv X' [] (cσ os js σ) f F/\tn i F.heap/\(∀b∈fp,f b=MA)/\W i n f) (fun x=>q1 _ x) ?_ m0 ⟨0,_,_,by simp,I4,PU,fun b a=>(k b a).1,w0⟩
  rintro n s5 ⟨i,os,H5,u1,I5,OZ,c1,w5⟩
  rcases b1 i n H5 w5 with⟨stop,q⟩|⟨go,step⟩
  ·subst hX
   refine Ja (T.done (Mx X [x,y] js scope g.objs.size { s with heap:=g } (upd H s.z (.lst [])) fp) rfl rfl rfl hc i [] s5 _ H5 NQ I5 (S (pins':=[]) I5 c1) OZ stop) (fun r s6 z6=>?_) fun _ _ z=>z
   obtain⟨Y,I6⟩:=z6
   subst Y
   refine hR _ _ H5 s6 (I3.zb I6.os I6.base I6.hok I6.bare fun b a=>⟨(k b a).2.2.2.1,(k b a).2.1,(k b a).2.2.2.2.1,(k b a).2.2.2.2.2⟩) (I3.pV (IY _) I6.free) (let⟨m,hm,_⟩:=I6.loc;⟨m,hm⟩) q
  ·subst hX
   refine Ja (T.item (Mx X [x,y] js scope g.objs.size { s with heap:=g } (upd H s.z (.lst [])) fp) rfl rfl rfl hc i [] s5 _ H5 NQ I5 (S (pins':=[]) I5 c1) OZ go) (fun r s6 z6=>?_) fun _ _ z=>z
   obtain⟨u,Y,h6⟩:=z6
   subst Y
   refine Ja h6 (fun _ s7 z7=>?_) fun _ _ z=>z
   obtain⟨yv,H7,I7,r7,y7,O1,v1⟩:=z7
   have w1:=I7.pinned (S (pins':=[]) I7 v1) (T.obj _ _ O1)
   obtain⟨o0,o1,rfl⟩:∃o0 o1,os=[o0,o1]:=by
    exact xy u1
   refine Ja (r1 _ _ _ _ _ s7 _ H7 yv u (fun l f=>l=cσ [LZ yv,o1] js σ/\f=H7) w1 r7 ⟨rfl,rfl⟩) (fun _ s8 Z=>?_) fun _ _ z=>z
   obtain⟨l3,H8,I8,e8,x1⟩:=Z
   subst e8 x1
   have d1:∀{m':Nat} {o2:Option V} {t:Hp} {B:IS},Inv (Mx X [x,y] js scope g.objs.size { s with heap:=g } (upd H s.z (.lst [])) fp) ([]++gQ fp s7.heap) (cσ [LZ yv,o2] js σ) t B->m'<n->W (i+1) m' t->
    ∃m,m<n/\∃i os f,os.length=2/\Inv (Mx X [x,y] js scope g.objs.size { s with heap:=g } (upd H s.z (.lst [])) fp) [] (cσ os js σ) f B/\tn i B.heap/\(∀b∈fp,f b=MA)/\W i m f:=fun{m' o2 t B} G a0 y1=>by
    refine⟨m',a0,i+1,_,t,rfl,G.d9,T.keep _ _ _ O1 fun b a o e=>(G.pin (b,o) (Jh _ (Jh _ (bS a e)))).1,fun b a=>?_,y1⟩
    obtain⟨o',e,d⟩:=T.obj _ _ O1 b a
    exact(G.pin (b,o') (Jh _ (Jh _ (bS a e)))).2.1
   refine Ja (p1 _ _ _ _ _ s8 _ _ _ I8 (step yv H8 y7 o1)) (fun v2 s9 h9=>Ja h9 (fun m3 B z1=>?_) fun _ _ z=>z) fun _ _ z=>z
   obtain⟨b2,c2,d2,J2,t,e2,G,T2,O3,M,U,⟨n0,u0⟩,b0⟩:=z1
   subst e2
   have L:Lb (Jf X.prog X.w) X.A (.compLoop (two elt (.Name x px) i1 (.Name y py) i2 scope pos) 1 (.ref b2) (.ref s.z) (kO scope g.objs.size X.env)) (fun r s6=>match r with
    |.ok _=>∃m,m<n/\∃i os f,os.length=2/\Inv (Mx X [x,y] js scope g.objs.size { s with heap:=g } (upd H s.z (.lst [])) fp) [] (cσ os js σ) f s6/\tn i s6.heap/\(∀b∈fp,f b=MA)/\W i m f
    |.error e=>False) B:=by
    refine Gi (fun n2 F=>∃j o2 f,Inv (Mx X [x,y] js scope g.objs.size { s with heap:=g } (upd H s.z (.lst [])) fp) ([]++gQ fp s7.heap) (cσ [LZ yv,o2] js σ) f F/\d2 j F.heap/\(∀b∈c2,f b=MA)/\U j n2 f) ?_ n0 ⟨0,o1,t,G,O3,fun b a=>(M b a).1,u0⟩
    rintro n2 e1 ⟨j,o2,c0,f1,O2,P,f2⟩
    rcases b0 j n2 c0 f2 with⟨d0,m',a0,w'⟩|⟨g2,e0⟩
    ·refine Ja (T2.done (Mx X [x,y] js scope g.objs.size { s with heap:=g } (upd H s.z (.lst [])) fp) rfl rfl rfl hc j _ e1 _ c0 NQ f1 (fun b a=>⟨P b a,(M b a).2⟩) O2 d0) (fun r h2 f0=>?_) fun _ _ z=>z
     obtain⟨Y,j2⟩:=f0
     subst Y
     exact d1 j2 a0 w'
    ·refine Ja (T2.item (Mx X [x,y] js scope g.objs.size { s with heap:=g } (upd H s.z (.lst [])) fp) rfl rfl rfl hc j _ e1 _ c0 NQ f1 (fun b a=>⟨P b a,(M b a).2⟩) O2 g2) (fun r h2 g0=>?_) fun _ _ z=>z
     obtain⟨u2,Y,k2⟩:=g0
     subst Y
     refine Ja k2 (fun _ m2 h0=>?_) fun _ _ z=>z
     obtain⟨zv,g1,p2,q2,r2,OQ,h1⟩:=h0
     have j1:=p2.pinned (fun b a=>⟨h1 b a,(M b a).2⟩) (T2.obj _ _ OQ)
     refine Ja (s1 _ _ _ _ _ m2 _ g1 zv u2 (fun l f=>l=cσ [LZ yv,LZ zv] js σ/\f=g1) j1 q2 ⟨rfl,rfl⟩) (fun _ s2 i0=>?_) fun _ _ z=>z
     obtain⟨i3,t2,w2,x2,k1⟩:=i0
     subst x2 k1
     refine Ja (he _ _ _ _ _ s2 _ _ _ w2 (e0 zv t2 r2)) (fun v y2 k0=>?_) fun _ _ z=>z
     obtain⟨vv,z2,a3,b3,ys,m1,n1,c3⟩:=k0
     refine Ja (jR (X:=(Mx X [x,y] js scope g.objs.size { s with heap:=g } (upd H s.z (.lst [])) fp)) _ y2 _ z2 (.ref s.z) [vv] (.ref s.z) [v] (fun _ f=>∃n',n'<n2/\U (j+1) n' f) a3 rfl (.cons b3 .nil) ⟨_,ys,vv,rfl,rfl,m1,n1,c3⟩) (fun _ n3 l0=>?_) fun _ _ z=>z
     obtain⟨_,e3,r0,_,n',f3,g3⟩:=l0
     refine⟨n',f3,j+1,_,e3,r0.d9,T2.keep _ _ _ OQ fun b a o e=>(r0.pin (b,o) (Jh _ (Jh _ (bS a e)))).1,fun b a=>?_,g3⟩
     obtain⟨o',e,d⟩:=T2.obj _ _ OQ b a
     exact(r0.pin (b,o') (Jh _ (Jh _ (bS a e)))).2.1
   exact ER L (T2.self X.A 0 _ _ _ O3 L)
 exact codeAny_compStart_list O (T.self X.A 0 _ _ _ PU O)
theorem CC(c:Mm X [x,y] js scope)(l:X.calm=MB)(n:PI X (.Name x px) i1 wi)(g:∀C s H fp,PI (Mx X [x,y] js scope C s H fp) (.Name y py) i2 wi2)(p:∀C s H fp,PE (Mx X [x,y] js scope C s H fp) elt te) (r:∀x,Jz i1 X.env x=pure x:=by intro _;rfl) (i:∀(env:Env) x,Jz i2 env x=pure x:=by intro _ _;rfl) : PE X (two elt (.Name x px) i1 (.Name y py) i2 scope pos) (Cg js wi wi2 te):=by intro MN s σ H Q I h;unfold two;rw[eval_ListComp];refine wpAny_comprehension_free (use:=MA) rfl r (c.Ab I.ok) c.kind c.names (Mr (n MN s σ H _ I h) fun v L t=>Mr t fun u M a=>?_);obtain⟨it,fp,tn,J,N,e,z,T,st,B,w⟩:=a;subst e;refine BB (R:=fun j C=>compPost (Jf X.prog X.w) X.A X.xe MA (EP X MN σ Q) j C) c l g i p z T st B w fun D C E F G f d q=>?_;obtain⟨m,K⟩:=d;exact⟨m,K,fun O k=>⟨.ref D,E,G.turned (t':=F.toks) (fun b o ne e=>k.extBut b o ne e) f.1 f.2.1 f.2.2.2.1 f.2.2.2.2.1 f.2.2.2.2.2,rfl,q⟩⟩
end
def FV(I:Qg)(js:pq)(h:Nt)(te:TD)(δ:DS)(g:MH)(Q:DK):Prop:=I.n<=1000/\∀p,g p=MA->∃W:Nat->rx->MH->Prop,W 0 [] (az g p (.lst []))/\(∀i b M,i<=I.n->W i b M->I.C M)/\
 (∀i b d M,i<I.n->I.item i=LZ d->W i b M->h (cδ [LZ d,MA] js δ) M fun c k=>c.n<=1000/\∃U:Nat->rx->MH->Prop,U 0 b k/\(∀j a M,j<=c.n->U j a M->c.C M)/\
  (∀j a e M,j<c.n->c.item j=LZ e->U j a M->te (cδ [LZ d,LZ e] js δ) M fun v l=>∃f,Sub f l/\f p=LZ (.lst a)/\U (j+1) (a++[v]) (az f p (.lst (a++[v]))))/\∀a M,U c.n a M->W (i+1) a M)/\∀b M,W I.n b M->Q (.ref p) M
def BY(a:Nt)(js:pq)(b:Nt)(te:TD):TD:=fun δ M Q=>a δ M fun I c=>FV I js b te δ c Q
theorem tM{K:I0}{H:Hp}{d:D}{v:V}(o:Option V)(r:Rep K H d v):Slots K H [LZ d,MA] [LZ v,o]:=by
 refine⟨rfl,fun i e h=>?_⟩
 match i,h with
 |0,h=>cases h;exact⟨v,rfl,r⟩
 |1,h=>cases h
theorem uj{K:I0}{H:Hp}{d e:D}{v u:V}(r:Rep K H d v)(q:Rep K H e u):Slots K H [LZ d,LZ e] [LZ v,LZ u]:=jK (.cons r (.cons q .nil))
theorem xx{K:I0}{wd MS:Nt}{js:pq}{te:TD}{σ:L2.St}{H:Hp}{Q:VK}(h:lift K (BY wd js MS te) σ H Q):Cg js (l6 K wd) (l6 K MS) (lift K te) σ H Q:=by
 obtain⟨δ,M,R,L,hM,q,N⟩:=h;refine⟨δ,M,_,L,hM,q,fun I M1 H1 J O a1 P S p T=>?_⟩;obtain⟨hn,P⟩:=P;obtain⟨W,w0,hC,C,done⟩:=P p (a1.fresh T);refine⟨fun i m t=>m=I.n-i/\i<=I.n/\Mp K H1 t/\∃w M,w.length<=i*1000/\My K t M/\W i w M,⟨I.n,by simp,Kf _,.new T,[],_,Kf _,a1.nD T .nil,w0⟩,?_⟩;rintro i m t ⟨rfl,V,f,w,x,hl,F,D⟩;by_cases a:i<I.n
 ·refine .inr ⟨S.go i t x a f F (hC _ _ _ V D),fun v H3 hy o=>?_⟩;obtain⟨X,a3,d,ed,rd⟩:=S.yld i t x v H3 a f F (hC _ _ _ V D) hy;have q3:=C i w d x a ed D;refine⟨cδ [LZ d,MA] js δ,x,_,lD (js:=js) (L.mono ((O.trans f).trans X)) (tM o rd),a3,q3,fun y M4 H4 J2 Y a4 Z g=>?_⟩;obtain⟨b0,U,u0,k,l,r⟩:=Z;refine⟨fun j n z=>n=y.n-j/\j<=y.n/\Mp K H4 z/\∃A M,A.length<=i*1000+j/\My K z M/\U j A M,⟨y.n,by simp,Kf _,.refl,w,M4,(),a4,u0⟩,?_⟩;rintro j n z ⟨rfl,hj,s,A,B,c0,G,E⟩;by_cases b:j<y.n
  ·refine .inr ⟨g.go j z B b s G (k _ _ _ hj E),fun u H6 a0=>?_⟩;obtain⟨g6,a6,e,ee,re⟩:=g.yld j z B u H6 b s G (k _ _ _ hj E) a0;have s6:=lD (js:=js) (L.mono (((((O.trans f).trans X).trans Y).trans s).trans g6)) (uj (rd.mono ((Y.trans s).trans g6)) re);refine⟨cδ [LZ d,LZ e] js δ,B,_,s6,a6,l j A e B b ee E,fun vv M' uu H7 g7 r7 a7 c=>?_⟩;obtain⟨M8,s8,e8,w8⟩:=c;obtain⟨ts,hx,rs⟩:=(a7.sub s8) _ _ e8;refine⟨ts,hx,?_,y.n-(j+1),(),rfl,b,((s.trans g6).trans g7).trans (.lst hx),A++[vv],_,by simp;omega,(a7.sub s8).za hx (rs.append (.cons r7 .nil)),w8⟩;rw[<-rs.length];have sz:1000000<=J7:=Mo rfl;omega
  ·obtain rfl:j=y.n:=()
   exact .inl ⟨g.stop z B s G (k _ _ _ hj E),I.n-(i+1),(),rfl,a,((f.trans X).trans Y).trans s,A,B,(),G,r _ _ E⟩
 ·obtain rfl:i=I.n:=()
  exact .inl ⟨S.stop t x f F (hC _ _ _ V D),N _ _ _ _ (O.trans f) (by rw[Rep]) F (done w x D)⟩
section
variable{X:Cx}{x y:Str}{px py pos:Pos}{js:pq}{scope:Lp}{elt i1 i2:oT}{te:TD}{wd MS:Nt}
theorem zo(c:Mm X [x,y] js scope)(d:X.calm=MB)(e:DI X (.Name x px) i1 wd)(a:∀C s H fp,DI (Mx X [x,y] js scope C s H fp) (.Name y py) i2 MS)(f:∀C s H fp,DE (Mx X [x,y] js scope C s H fp) elt te) (g:∀x,Jz i1 X.env x=pure x:=by intro _;rfl) (b:∀(env:Env) x,Jz i2 env x=pure x:=by intro _ _;rfl) : DE X (.ListComp elt [⟨.Name x px,i1,[],0⟩,⟨.Name y py,i2,[],0⟩] scope pos) (BY wd js MS te):=bj (CC (te:=lift X.K te) (wi2:=l6 X.K MS) c d e a f g b) fun _ _ _ h=>xx h
end
section
variable{prog:Jk}{w:JJ}{A:JP}{E:o_}{s:IS}
theorem rJ{c:n7}{t:Tok}{Q:Int×Int×Nat->IS->Prop}(d:s.heap.IsSliceOf c .none .none (.int (-1) t))(h:Q (1,-1,2) s):J4 (Jf prog w) A (Lq (.ref c) (pure ((2:Nat):Int))) Q E s:=by obtain⟨os,a,e,b⟩:=id d;unfold Lq Builtin.Slice.sliceFields;refine cc (cc (LD a b (x:=.none) rfl (cc (LD a b (x:=.none) rfl (cc (LD a b (x:=.int (-1) t) rfl (IU ?_)))))));refine cc (Mj (IsPart.int _ _) ?_);show J4 _ _ (if((-1:Int)==0)=MB then _ else _) _ _ s;rw[MD ⋯];refine cc (Mj IsPart.none (cc (Mj IsPart.none (cc (IU ?_)))));exact IU h
theorem qW{t c:n7}{x y:IQ}{tk:Tok}{Q:o_}(b:IsTup s.heap t #[x,y])(g:s.heap.IsSliceOf c .none .none (.int (-1) tk))
 (h:Q (.ref s.z) { s with heap:=s.heap.push { cls:=.type "tuple",data:=.seq #[y,x] } }):J4 (Jf prog w) A (getItem (.ref t) (.ref c)) Q E s:=by
 obtain⟨os,d,e,i⟩:=id g
 have f:s.TypeIs (.ref c) "slice":=⟨os,d,e⟩
 unfold getItem
 try with_reducible refine K8 ?_
 first|refine cc (IU ?_)|skip
 refine cc (wpAny_sequenceKey b.typeIs ⋯ ?_)
 refine cc (KG (name:=Kp "__getitem__") b.typeIs Ka
  (L4 Ka b.typeIs entry_tuple_getitem ?_ (args_tuple_getitem _ _)))
 show J4 _ _ (Builtin.Tuple.tupleItemsOf (.ref t) >>= _) _ _ s
 refine cc (tupleItemsOf_ b ?_)
 refine cc (wpAny_typeOf f ?_)
 rw[ME ⋯]
 refine cc (rJ g ?_)
 have a:sizeOk (.seq #[y,x]):=Mo rfl
 first
  |exact cc (m:=K9 _) (Jy (IU ⟨_,rfl,IU h⟩) a)
  |exact cc (m:=K9 _) (Jy (cc (IU (IU ⟨_,rfl,IU h⟩))) a)
  |exact cc (cc (m:=K9 _) (Jy (IU (IU ⟨_,rfl,IU h⟩)) a))
  |exact cc (cc (m:=K9 _) (Jy (IU ⟨_,rfl,IU h⟩) a))
end
section
variable{X:Cx}{e st:oT}{pos p2:Pos}
def Hu(K:I0)(te:TE)(c:TO):TE:=fun σ H Q=>te σ H fun x H1=>c σ H1 fun o b=>o=LZ (-1)/\∃a u v,x=.ref a/\NB K b a [u,v]/\∀p,b p=MA->Q (.ref p) (upd b p (.tup [v,u]))
theorem EJ{te:TE}{p:TO}(z:PE X e te)(B:PO X (LZ st) p):PE X (.Subscript e (.Slice MA MA (LZ st) p2) pos) (Hu X.K te p):=by
 intro MN s σ H Q I h;refine Subscript_ (Mr (z MN s σ H _ I h) fun v C d=>?_);obtain⟨x,H1,D,E,F⟩:=d;refine wpAny_Slice ?_;rw[evalPart_none];refine IU (IU (Mr (B MN C σ H1 _ D F) fun vs c f=>?_));obtain⟨o,G,J,ps,L,a,u,t,ex,M,N⟩:=f;subst L ex;cases E;obtain⟨g,rfl⟩:∃g,vs=Value.int (-1) g:=by cases ps;exact⟨_,rfl⟩
 have k:Inv X MN σ G { c with heap:=c.heap.push { cls:=.type "slice",data:=.fields #[.none,.none,.int (-1) g] } }:=J.kept (t':=c.toks) fun b O q=>IZ _ q;obtain⟨l,r,y,T⟩:=k.tuple M
 obtain⟨i,j,rfl,m,n⟩:∃i j,l=[i,j]/\RelV u i/\RelV t j:=by
  cases r with
  |cons P r=>cases r with
   |cons R r=>cases r;exact⟨_,_,rfl,P,R⟩
 have S:J4 (Jf X.prog X.w) X.A (getItem (.ref a) (.ref c.z)) (EP X MN σ Q) X.xe { c with heap:=c.heap.push { cls:=.type "slice",data:=.fields #[.none,.none,.int (-1) g] } }:=by refine qW y (Heap.IsSliceOf.new ..) ?_;refine⟨.ref _,_,k.laid (t':=c.toks) (o:=.tup [t,u]) (fun b O q=>IZ _ q) (IY _) ⟨Mo rfl,[j,i],.cons n (.cons m .nil),IsTup.new _ _,R3.new _ _⟩,rfl,N _ (k.hok.fresh (IY _))⟩
 show J4 (Jf X.prog X.w) X.A (subscriptTail e (.Slice MA MA (LZ st) p2) (.ref a) (.ref c.z)) (EP X MN σ Q) X.xe { c with heap:=c.heap.push { cls:=.type "slice",data:=.fields #[.none,.none,.int (-1) g] } };exact tail_any (ops:=[.ref a,.ref c.z]) y.typeIs Ka.lookup S (by with_unfolding_all rfl)
def HK(te:TD)(a:Rw):TD:=fun δ M Q=>te δ M fun x b=>a δ b fun o c=>o=LZ (-1)/\∃d e,x=.tup [d,e]/\Q (.tup [e,d]) c
theorem Dp{te l:TD}(r:DE X e te)(f:DE X st l):DE X (.Subscript e (.Slice MA MA (LZ st) p2) pos) (HK te (ye l)):=
 bj (EJ r (jb f)) fun σ H Q c=>by obtain⟨δ,M,R,f,a,q,g⟩:=c;exact(⟨δ,M,_,f,a,q,fun x s v H1 m t u w=>⟨δ,s,_,f.mono m,u,w,fun o D E n y h=>by
  obtain⟨A,d,e,ex,h⟩:=h
  subst A ex
  have p:=t.mono n
  rw[Rep]at p
  obtain⟨b,xs,rfl,B,C⟩:=p
  obtain⟨F,G,rfl,i,j⟩:=fG C
  exact⟨rfl,_,_,_,rfl,B,fun z k=>g _ _ _ _ ((m.trans n).trans (.new k)) (by rw[Rep];exact⟨z,_,rfl,NB.of bc,aG.mono (.new k) (by
   rw[aG];exact⟨_,_,rfl,j,by rw[aG];exact⟨_,_,rfl,i,by rw[aG]⟩⟩)⟩) (y.new k) h⟩⟩⟩)
end
section
variable{X:Cx}
def HI:RC:=fun a M Q=>match a with
 |[.ref l]=>∃ns:pw,M l=LZ (.lst (ns.map D.int))/\Q (.int ns.sum) M
 |_=>False
theorem kI(ns:pw):∀j,j<=ns.length->preSum (fun i=>(ns[i]?).getD 0) j=(ns.take j).sum
 |0,_=>by simp[preSum]
 |j+1,h=>by
  rw[preSum,kI ns j (),Kj,List.sum_append]
  have:j<ns.length:=()
  simp[this]
theorem vS(m:X.calm=MB):cg X (.builtin "sum") (fun xs H Q=>∃(p:n7) (ns:pw),xs=[.ref p]/\ND X.K H p (ns.map V.int)/\Q (.int ns.sum) H):=by
 intro MN s σ H xs us Q I r o;obtain⟨l,ns,e,w,k⟩:=o;subst e;obtain⟨u,rfl,y⟩:=vals1 r;cases y;obtain⟨a,g,z,_⟩:=I.list w;have d:=z.isList;have c:a.length=ns.length:=by rw[<-g.length,IV]
 have lt:l≠s.z:=JB (let⟨_,e,_⟩:=d;J6 e);refine call_sum_walkG (x:=.ref l) (LH d ⟨s.z,[s.z,l],[s.z],a.toArray.size,_,_,fun i=>(ns[i]?).getD 0,rfl,Walks.list (A:=X.A.in1) (I.ok.hd m) _ l lt a.toArray,⟨⟨_,J3 _ rfl,rfl,rfl⟩,d.push _⟩,?_,fun i v B=>?_,fun G J L C=>?_⟩)
 ·intro b j;simp at j;rcases j with rfl|rfl
  ·show _<(s.heap.push _).objs.size;rw[Ki];omega
  ·show _<(s.heap.push _).objs.size;rw[Ki];exact Nat.lt_succ_of_lt (let⟨_,e,_⟩:=d;J6 e)
 ·have f:a[i]?=LZ v:=‹B›
  have D:=intsAre_of g
  obtain⟨n,E,q⟩:∃n,ns[i]?=LZ n/\∃t,v=Value.int n t:=by
   have key:∀{us:p4} {ns:pw},Lc us ns->∀(i:Nat) (v:IQ),us[i]?=LZ v->∃n,ns[i]?=LZ n/\∃t,v=Value.int n t:=by
    intro us ns h
    induction h with
    |nil=>intro i v e;simp at e
    |cons n t h F=>
     intro i v e
     cases i with
     |zero=>simp at e;exact⟨n,rfl,t,e.symm⟩
     |succ i=>exact F i v ‹e›
   exact key D i v f
  obtain⟨t,rfl⟩:=q;exact⟨t,by simp[E]⟩
 ·rw[show preSum (fun i=>(ns[i]?).getD 0) a.toArray.size=ns.sum by rw[Jd,c,kI ns _ (IY _),List.take_length]];exact⟨.int ns.sum,H,I.kept (LSm.kept_iter C),⟨_,rfl⟩,k⟩
theorem C7(g:X.calm=MB):dP X (.builtin "sum") HI:=cf (vS g) fun vs H Q ⟨b,M,R,h,a,q,c⟩=>by
 rcases b with _|⟨d,b⟩
 ·exact Js q
 cases d<;>rcases b with _|⟨e,b⟩<;>try exact Js q
 ·obtain⟨ns,e,q⟩:=q;obtain⟨v,rfl,r⟩:=cv h;rw[Rep]at r;subst r;obtain⟨xs,f,i⟩:=a _ _ e;rw[dZ i]at f;exact⟨_,ns,rfl,ND.of f,c _ _ _ _ .refl (by rw[Rep]) a q⟩
theorem Dv:JT "sum"=LZ (.builtin "sum"):=boot_sum
end
abbrev NH:=Int×Int×Int×Int
section
variable{P:Jk}{w:JJ}
def sW(P:Jk)(w:JJ)(h:oa)(n d:Int)(a:n7):Prop:=IsTupleKey (intKind P w) h [n,d] a
def gM(P:Jk)(w:JJ)(h:oa)(k:NH)(a:n7):Prop:=∃o b c m,h.get? a=LZ o/\o.cls=.type "tuple"/\o.data=.seq #[.ref b,.ref c] m/\sW P w h k.1 k.2.1 b/\sW P w h k.2.2.1 k.2.2.2 c
theorem gM.inj{h:oa}{a:n7}{x y:NH}(p:gM P w h x a)(q:gM P w h y a):x=y:=by
 obtain⟨o,b,c,m,j,v,k,l,n⟩:=p;obtain⟨z,r,s,A,d,B,f,t,u⟩:=q;rw[j]at d;cases d;rw[k]at f;injection f with e _;have e1:b=r/\c=s:=‹e›
 obtain⟨rfl,rfl⟩:=e1;have g:=IsTupleKey.inj l t;have i:=IsTupleKey.inj n u;obtain⟨x1,C,D,E⟩:=x;obtain⟨y1,F,G,H⟩:=y;simp at g i;obtain⟨rfl,rfl⟩:=g;obtain⟨rfl,rfl⟩:=i;rfl
theorem gM.keeps{h h':oa}{k:NH}{a d:n7}{o:Obj}{es:Array K3}{ep:Nat}(p:gM P w h k a)(hd:h.get? d=LZ o)(e:o.data=.dict es ep)(f:L6 d h h'):gM P w h' k a:=by
 obtain⟨j,b,c,m,g,l,i,n,q⟩:=p;have ne:a≠d:=fun z=>by rw[z,hd]at g;cases g;rw[e]at i;cases i
 exact⟨j,b,c,m,(f.2 a ne).trans g,l,i,IsTupleKey.keeps n hd e f,IsTupleKey.keeps q hd e f⟩
def yQ(P:Jk)(w:JJ)(k:NH):Int:=reduceHash (Builtin.Tuple.tupleHashOf [tupleKeyHash (intKind P w) [k.1,k.2.1],tupleKeyHash (intKind P w) [k.2.2.1,k.2.2.2]])
theorem gM.hash{A:JP}{E:o_}{s:IS}{k:NH}{a:n7}{Q:Int->IS->Prop}(l:A.units+4<K0)(p:gM P w s.heap k a)(q:Q (yQ P w k) { s with toks:=s.toks+7 }):J4 (Jf P w) A (pyHash (.ref a)) Q E s:=by
 obtain⟨o,b,c,m,e,f,h,i,j⟩:=p;obtain⟨n,g,d,r,os⟩:=s;show J4 _ _ (pyHashByItsType (.ref a)) _ _ _;refine PySem.W.pyHash_slot (T:="tuple") ⟨o,e,f⟩ F.slot_tuple_hash F.entry_tuple_hash (F.args_tuple_hash_1 _) rfl (.inr ()) ?_;unfold LY.«tuple.__hash__»;simp only[<-Array.forIn_toList]
 iterate 4 wp_step
 refine IU ?_;refine cc (wpAny_tupleItemsOf e h ?_);refine cc ?_;simp only[List.forIn_cons,List.forIn_nil,pure_bind,bind_assoc];refine cc (wpAny_pyHash_tuple (knd:=intKind P w) (by show A.units+1<K0;omega) i ?_);refine cc (wpAny_pyHash_tuple (knd:=intKind P w) (by show A.units+1<K0;omega) j ?_);refine IU ?_;unfold retInt
 wp_walk
 exact⟨_,_,rfl,q⟩
theorem jw{n:Int}{v:IQ}(h:(intKind P w).is n v=MB):∃t,v=.int n t:=by
 have h:Value.isInt n v=MB:=h;cases v with
 |int i t=>
  have:(i==n)=MB:=h
  exact⟨t,by rw[eq_of_beq this]⟩
 |_=>cases h
def Bm(n d:Int):LP:=.tuple [.int n,.int d]
def oN(k:NH):LP:=.tuple [Bm k.1 k.2.1,Bm k.2.2.1 k.2.2.2]
theorem sW.reads{h:oa}{n d:Int}{a:n7}(p:sW P w h n d a):∃e,Reads h (.ref a) (Bm n d) e:=by
 obtain⟨o,b,m,f,g,i,c⟩:=p;generalize j:b.toList=l at c;cases c with
 |cons k r=>
  cases r with
  |cons q r=>
   cases r
   obtain⟨t1,rfl⟩:=jw k
   obtain⟨s,rfl⟩:=jw q
   exact⟨_,.tuple f g i (by rw[j];exact .cons (.int _ _) (.cons (.int _ _) .nil))⟩
theorem gM.reads{h:oa}{k:NH}{a:n7}(p:gM P w h k a):∃d,Reads h (.ref a) (oN k) d:=by obtain⟨o,b,c,m,e,f,g,i,j⟩:=p;obtain⟨d,l⟩:=i.reads;obtain⟨bs,n⟩:=j.reads;exact⟨_,.tuple e f g (.cons l (.cons n .nil))⟩
theorem yZ(x y:NH):(oN x).eqv (oN y)=decide (x=y):=by obtain⟨x1,a,b,c⟩:=x;obtain⟨y1,d,e,f⟩:=y;simp only[oN,Bm,JL,Ke,Ll];rw[Kn];simp[and_assoc]
theorem gM.eq{A:JP}{E:o_}{s:IS}{x y:NH}{a b:n7}{Q:Bool->IS->Prop}(g:A.units+4<K0)(p:gM P w s.heap x a)(c:gM P w s.heap y b)(q:Q (decide (x=y)) s):J4 (Jf P w) A (eqBool (.ref a) (.ref b)) Q E s:=by obtain⟨d,e⟩:=p.reads;obtain⟨bs,f⟩:=c.reads;have hd:min (oN x).depth (oN y).depth<=3:=K4 (Nat.min_le_left _ _) (Mo rfl);have:=SeqAt.eqAt_reads (oN x) (oN y) A s (.ref a) (.ref b) d bs e f rfl rfl ();rw[yZ]at this;exact this P w E Q q
theorem sW.quiet{A:JP}{E:o_}{s:IS}{n d:Int}{a:n7}{Q:Bool->IS->Prop}(i:Nat)(p:sW P w s.heap n d a)(q:Q MB s):J4 (Jf P w) A (eqIsQuiet (i+1) (.ref a)) Q E s:=by
 obtain⟨o,b,m,c,e,g,f⟩:=p;rw[eqIsQuiet.eq_2];refine cc (wpAny_specialOf ⟨o,c,e⟩ F.slot_tuple_eq.lookup ?_);refine cc (wpAny_isInstance ⟨o,c,e⟩ isSubtype_tuple_tuple ?_);simp only[Bool.not_true,Kz,if_false];refine cc (KP c g ?_);simp only[Option.getD_some,<-Array.forIn_toList];generalize t:b.toList=l at f;cases f with
 |cons h r=>
  cases r with
  |cons j r=>
   cases r
   obtain⟨t1,rfl⟩:=jw h
   obtain⟨k,rfl⟩:=jw j
   refine cc ?_
   simp only[List.forIn_cons,List.forIn_nil,pure_bind,bind_assoc,eqIsQuiet_byValue i (show carriedByValue (.int n t1)=MB from rfl),eqIsQuiet_byValue i (show carriedByValue (.int d k)=MB from rfl),Bool.not_true,Kz,if_false]
   refine IU ?_
   exact IU q
theorem gM.quiet{A:JP}{E:o_}{s:IS}{k:NH}{a:n7}{Q:Bool->IS->Prop}(p:gM P w s.heap k a)(q:Q MB s):J4 (Jf P w) A (eqIsQuiet 8 (.ref a)) Q E s:=by obtain⟨o,b,c,m,d,e,f,g,h⟩:=p;rw[eqIsQuiet.eq_2];refine cc (wpAny_specialOf ⟨o,d,e⟩ F.slot_tuple_eq.lookup ?_);refine cc (wpAny_isInstance ⟨o,d,e⟩ isSubtype_tuple_tuple ?_);simp only[Bool.not_true,Kz,if_false];refine cc (KP d f ?_);simp only[Option.getD_some,<-Array.forIn_toList];refine cc ?_;simp only[List.forIn_cons,List.forIn_nil,pure_bind,bind_assoc];refine cc (g.quiet 6 ?_);simp only[Bool.not_true,Kz,if_false,pure_bind];refine cc (h.quiet 6 ?_);simp only[Bool.not_true,Kz,if_false,pure_bind];refine IU ?_;exact IU q
def d5(P:Jk)(w:JJ):HeapKind P w NH where
 is:=gM P w
 hash:=yQ P w
 draws:=fun _=>7
 room:=fun A=>A.units+4<K0
 inj:=fun p q=>p.inj q
 keeps:=fun p hd b c=>p.keeps hd b c
 pyHash:=fun a p q=>p.hash a q
 eqBool:=fun a p d q=>p.eq a d q
 quiet:=fun p q=>p.quiet q
end
section
variable{X:Cx}{MN:pa}{σ:L2.St}{H:Hp}{s:IS}{a b:n7}{k:NH}
def dG(K:I0)(H:Hp)(b:n7)(k:NH):Prop:=∃f g,NB K H b [.ref f,.ref g]/\NB K H f [.int k.1,.int k.2.1]/\NB K H g [.int k.2.2.1,.int k.2.2.2]
theorem Cs{n d:Int}{f:n7}(I:L2.Inv X MN σ H s)(h:NB X.K H f [.int n,.int d]):sW X.prog X.w s.heap n d f:=by
 obtain⟨c,r,e,_⟩:=I.tuple h;cases r with
 |cons g r=>cases r with
  |cons i r=>
   cases r
   obtain⟨t1,rfl⟩:=g
   obtain⟨q,rfl⟩:=i
   obtain⟨o,j,l,m,p⟩:=e
   exact⟨o,_,m,j,l,p,.cons (by show((n==n)=MB);simp) (.cons (by show((d==d)=MB);simp) .nil)⟩
theorem qE(I:L2.Inv X MN σ H s)(h:dG X.K H b k):gM X.prog X.w s.heap k b:=by
 obtain⟨f,g,c,d,e⟩:=h;obtain⟨i,r,j,_⟩:=I.tuple c;cases r with
 |cons l r=>cases r with
  |cons n r=>
   cases r
   cases l
   cases n
   obtain⟨o,p,q,m,t⟩:=j
   exact⟨o,f,g,m,p,q,t,Cs I d,Cs I e⟩
abbrev N1:=NH×n7×V
def ck(P:Jk)(w:JJ)(a:n7)(xs:List N1):oa->Prop:=fun h=>(a==Ky)=MC/\xs.length<=J7/\(xs.map (·.1)).Nodup/\∃c:List (NH×n7×IQ),
 LX (fun(p:N1) (q:NH×n7×IQ)=>p.1=q.1/\p.2.1=q.2.1/\RelV p.2.2 q.2.2) xs c/\∃o d e,h.get? a=LZ o/\o.ExactDict/\o.data=.dict d e/\d.toList=c.map (entryOfKey (d5 P w))
def fR(xs:List N1)(k:NH)(b:n7)(v:V):List N1:=if(xs.any fun x=>decide (x.1=k))=MB then xs.map (fun x=>if x.1=k then(x.1,x.2.1,v)else x)else xs++[(k,b,v)]
abbrev Qs:=fun(p:N1) (q:NH×n7×IQ)=>p.1=q.1/\p.2.1=q.2.1/\RelV p.2.2 q.2.2
theorem jt{xs:List N1}{c:List (NH×n7×IQ)}(r:LX Qs xs c):c.map (·.1)=xs.map (·.1):=by
 induction r with
 |nil=>rfl
 |cons h t d=>rw[J0,J0,d,h.1]
theorem A9{xs:List N1}{d:List (NH×n7×IQ)}(r:LX Qs xs d)(k:NH):(xs.any fun x=>decide (x.1=k))=(atKey d k).isSome:=by
 induction r with
 |nil=>rfl
 |@cons p q ps qs h t ih=>
  rw[Lk]
  by_cases e:p.1=k
  ·have c:q.1=k:=h.1.symm.trans e;simp[atKey,Jw,e,c]
  ·have c:¬q.1=k:=fun z=>e (h.1.trans z);rw[MF e,Bool.false_or,ih];simp[atKey,Jw,c]
theorem ig{xs:List N1}{c:List (NH×n7×IQ)}(r:LX Qs xs c)(k:NH)(b:n7){v:V}{u:IQ}(d:RelV v u):LX Qs (fR xs k b v) (storedH c k b u):=by
 unfold fR storedH;rw[A9 r k];by_cases e:(atKey c k).isSome=MB
 ·rw[ME e,ME e];clear e
  induction r with
  |nil=>exact .nil
  |@cons p q ps qs h t ih=>
   rw[J0,J0]
   refine .cons ?_ ih
   unfold putAt
   by_cases e:p.1=k
   ·rw[ME e,ME (h.1.symm.trans e)];exact⟨h.1,h.2.1,d⟩
   ·rw[MD e,MD (fun z=>e (h.1.trans z))];exact h
 ·rw[MD e,MD e];exact Paired.snoc r ⟨rfl,rfl,d⟩
theorem k6{xs:List N1}{c:List (NH×n7×IQ)}(r:LX Qs xs c):xs.length=c.length:=by
 induction r with
 |nil=>rfl
 |cons h t d=>rw[K1,K1,d]
theorem AV{xs:List N1}{c:List (NH×n7×IQ)}(r:LX Qs xs c){q:NH×n7×IQ}(h:q∈c):∃p∈xs,p.1=q.1/\p.2.1=q.2.1:=by
 induction r with
 |nil=>cases h
 |cons d t f=>
  rcases Jx.mp h with z|z
  ·subst z;exact⟨_,by simp,d.1,d.2.1⟩
  ·obtain⟨p,g,e⟩:=f z;exact⟨p,by simp[g],e⟩
theorem lV(xs:List N1)(k:NH)(b:n7)(v:V):(fR xs k b v).length<=xs.length+1:=by
 unfold fR;split
 ·rw[IV];omega
 ·simp
theorem oK{xs:List N1}(I:L2.Inv X MN σ H s)(e:H a=LZ (.ext (ck X.prog X.w a xs)))(d:∀x∈xs,dG X.K H x.2.1 x.1):(a==Ky)=MC/\xs.length<=J7/\∃c,LX Qs xs c/\s.heap.DictOfH (d5 X.prog X.w) a c:=by obtain⟨⟨f,g,h,c,r,o,i,j,l,m,n,q⟩,_⟩:=I.hok a _ e;refine⟨f,g,c,r,o,i,j,l,m,n,q,fun x t=>?_,by rw[jt r];exact h⟩;obtain⟨p,u,e1,e2⟩:=AV r t;rw[<-e1,<-e2];exact qE I (d p u)
theorem kX{P:Jk}{w:JJ}{xs:List N1}(c d:oa)(h:ck P w a xs c)(k:∀o,c.get? a=LZ o->d.get? a=LZ o):ck P w a xs d:=by obtain⟨e,f,g,i,r,o,j,l,m,q⟩:=h;exact⟨e,f,g,i,r,o,j,l,k o m,q⟩
theorem AE{A:JP}{E:o_}{Q:Unit->IS->Prop}{xs:List N1}{v:V}{u:IQ}(G:A.units+8<K0)(I:L2.Inv X MN σ H s)(e:H a=LZ (.ext (ck X.prog X.w a xs)))(i:∀x∈xs,dG X.K H x.2.1 x.1)(j:dG X.K H b k)(f:RelV v u)(J:xs.length<J7)
 (h:∀g,L2.Inv X MN σ (upd H a (.ext (ck X.prog X.w a (fR xs k b v)))) g->Q .unit g):J4 (Jf X.prog X.w) A (setItem (.ref a) (.ref b) u) Q E s:=by
 obtain⟨hd,l,L,r,m⟩:=oK I e i
 refine wpAny_setItem_heap (knd:=d5 X.prog X.w) (hsz:=by rw[<-k6 r];exact l) (show A.in1.units+4<K0 by show A.units+1+4<K0;omega) (qE I j) m fun M c n=>h _ ?_
 obtain⟨q,o,p,d,t,z,B,_,C⟩:=c
 refine jq I (by rw[e];exact LL) n ⟨q,d⟩ ⟨⟨hd,?_,?_,_,ig r k b f,q,o,p,d,t,z,B⟩,⟨q,d⟩,fun D F x y=>kX D F x y⟩
 ·have:=lV xs k b v;omega
 ·rw[<-jt (ig r k b f)];exact C
theorem uB(I:L2.Inv X MN σ H s):L2.Inv X MN σ (upd H s.z (.ext (ck X.prog X.w s.z []))) { s with heap:=s.heap.push { cls:=.type "dict",data:=.dict #[] } }:=
 I.laid (a:=s.z) (t':=s.toks) (fun _ _ q=>IZ _ q) (IY _)
  ⟨⟨beq_eq_false_iff_ne.mpr (Ne.symm (JB I.big)),Kf _,List.nodup_nil,[],.nil,_,#[],0,J3 _ rfl,⟨rfl,rfl,rfl⟩,rfl,rfl⟩,⟨_,J3 _ rfl⟩,fun c d x y=>kX c d x y⟩
def eM(xs:List N1)(k:NH):Option V:=(xs.find? fun x=>decide (x.1=k)).map (·.2.2)
theorem pj{xs:List N1}{d:List (NH×n7×IQ)}(r:LX Qs xs d){v:V}(h:eM xs k=LZ v):∃p:n7×IQ,atKey d k=LZ p/\RelV v p.2:=by
 induction r with
 |nil=>cases h
 |@cons p q ps qs h' t ih=>
  by_cases e:p.1=k
  ·have c:q.1=k:=h'.1.symm.trans e;simp[eM,Jw,e]at h;subst h;exact⟨q.2,by simp[atKey,Jw,c],h'.2.2⟩
  ·have c:¬q.1=k:=fun z=>e (h'.1.trans z);have f:eM ps k=LZ v:=by simpa[eM,Jw,e]using h
   obtain⟨g,i,j⟩:=ih f;exact⟨g,by simpa[atKey,Jw,c]using i,j⟩
theorem A8{A:JP}{E:o_}{Q:o_}{xs:List N1}{v:V}(m:A.units+8<K0)(I:L2.Inv X MN σ H s)(e:H a=LZ (.ext (ck X.prog X.w a xs)))(d:∀x∈xs,dG X.K H x.2.1 x.1)(f:dG X.K H b k)(g:eM xs k=LZ v) (h:∀u c,L2.Inv X MN σ H c->RelV v u->Q u c):J4 (Jf X.prog X.w) A (getItem (.ref a) (.ref b)) Q E s:=by obtain⟨hd,n,o,r,i⟩:=oK I e d;obtain⟨p,j,l⟩:=pj r g;exact wpAny_getItem_heap (knd:=d5 X.prog X.w) (show A.in1.units+4<K0 by show A.units+1+4<K0;omega) (qE I f) i j (h _ _ (I.tok _) l)
end
section
variable{prog:Jk}{w:JJ}{K:Type}[DecidableEq K]{knd:HeapKind prog w K}{A:JP}{E:o_}{s:IS}
theorem qo{d a:n7}{xs:List (K×n7×IQ)}{k:K}{v:IQ}{Q:o_}(q:knd.room A)(b:knd.is s.heap k a)(t:s.heap.DictOfH knd d xs) (u:∀p,atKey xs k=LZ p->Q p.2 { s with toks:=s.toks+knd.draws k }) (z:atKey xs k=MA->∀h',h'.DictOfH knd d (storedH xs k a v)->L6 d s.heap h'->Q v { s with heap:=h',toks:=s.toks+knd.draws k }) (hsz:xs.length<=J7) : J4 (Jf prog w) A (dictSetDefault d (.ref a) v) Q E s:=by
 obtain⟨o,F,B,f,C,hd,m,h,n⟩:=t;unfold dictSetDefault
 try with_reducible refine K8 ?_
 refine cc (knd.pyHash q b ?_);refine cc (wpAny_dictFind_heap (s:={ s with toks:=s.toks+knd.draws k }) q b f hd m h n ?_ ?_)
 ·intro i;have l:k∉xs.map (·.1):=not_mem_keys_of_get i;have g:=atKey_none_of_get i
  refine cc (wpAny_rule (cc (wpAny_updateDictKeys (hz:=by have e:=size_of_entries m;omega) (s:={ s with toks:=s.toks+knd.draws k }) f hd (IU (z g _ ⟨_,_,B+1,Kl _ f (Obj.isFreed_of_dict (Obj.data_mapDictKeys hd _)),
   C.mapDictKeys _,Obj.data_mapDictKeys hd _,?_,?_,?_⟩ (KS ..))))))
  ·rw[storedH_new g];simp[m,entryOfKey]
  ·rw[storedH_new g];intro x c;rcases Jn.mp c with c|c
   ·exact knd.keeps (h x c) f hd (KS ..)
   ·have:x=(k,a,v):=‹c›
    subst this;exact knd.keeps b f hd (KS ..)
  ·rw[storedH_new g,Jg,LI];refine⟨n,by simp,?_⟩;intro x c y D;have:y=k:=‹D›
   subst this;exact fun e=>l (e▸c)
 ·intro j p r;have g:=atKey_of_get n r;refine cc (wpAny_dictEntries (s:={ s with toks:=s.toks+knd.draws k }) f hd ?_);rw[entry_at m j,r];exact cc (wpAny_rule (IU (u p g)))
theorem qA{d a:n7}{xs:List (K×n7×IQ)}{k:K}{v:IQ}{Q:o_}(g:knd.room A.in1)(b:knd.is s.heap k a)(c:s.heap.DictOfH knd d xs)(hd:(d==Ky)=MC)
 (h:∀p,atKey xs k=LZ p->Q p.2 { s with toks:=s.toks+knd.draws k })
 (i:atKey xs k=MA->∀h',h'.DictOfH knd d (storedH xs k a v)->L6 d s.heap h'->Q v { s with heap:=h',toks:=s.toks+knd.draws k }) (hsz:xs.length<=J7) :
 J4 (Jf prog w) A (call (.builtin "dict.setdefault") [.ref d,.ref a,v]) Q E s:=by
 refine L4 PySem.F.slot_dict_setdefault c.typeIs PySem.F.entry_dict_setdefault ?_ (PySem.F.args_dict_setdefault_3 _ _ _)
 unfold LY.«dict.setdefault»
 refine cc ?_
 unfold Builtin.Dict.keyAndDefault
 refine cc (wpAny_notOrdered_dict c.typeIs ?_)
 show J4 _ _ (pure (d,Kc a,LZ v)) _ _ s
 refine IU ?_
 show J4 _ _ (if(d==Ky)=MB then _ else(dictSetDefault d (.ref a) v >>= _)) _ _ s
 rw[MD (by rw[hd];exact J9)]
 exact cc (qo g b c (fun p j=>IU ⟨p.2,rfl,h p j⟩) (fun l h' e f=>IU ⟨v,rfl,i l h' e f⟩) hsz)
end
section
variable{X:Cx}{MN:pa}{σ:L2.St}{H:Hp}{s:IS}{a b:n7}{k:NH}
theorem yI{xs:List N1}{c:List (NH×n7×IQ)}(r:LX Qs xs c)(h:eM xs k=MA):atKey c k=MA:=by
 induction r with
 |nil=>rfl
 |@cons p q ps qs h' t ih=>
  by_cases e:p.1=k
  ·simp[eM,Jw,e]at h
  ·have d:¬q.1=k:=fun z=>e (h'.1.trans z);have f:eM ps k=MA:=by simpa[eM,Jw,e]using h
   have:=ih f;simpa[atKey,Jw,d]using this
theorem ug{A:JP}{E:o_}{Q:o_}{xs:List N1}{v:V}{u:IQ}(S:A.units+8<K0)(I:L2.Inv X MN σ H s)(e:H a=LZ (.ext (ck X.prog X.w a xs)))(t:∀x∈xs,dG X.K H x.2.1 x.1)(z:dG X.K H b k)(n:RelV v u)(T:xs.length<J7)
 (h:∀d o f,eM xs k=LZ d->L2.Inv X MN σ H f->RelV d o->Q o f)
 (i:eM xs k=MA->∀f,L2.Inv X MN σ (upd H a (.ext (ck X.prog X.w a (fR xs k b v)))) f->Q u f):J4 (Jf X.prog X.w) A (call (.builtin "dict.setdefault") [.ref a,.ref b,u]) Q E s:=by
 obtain⟨hd,B,U,r,C⟩:=oK I e t
 refine qA (knd:=d5 X.prog X.w) (show A.in1.units+4<K0 by show A.units+1+4<K0;omega) (qE I z) C hd (fun p j=>?_) (fun D W l F=>?_) (by rw[<-k6 r];exact B)
 ·cases c:eM xs k with
  |none=>rw[yI r c]at j;cases j
  |some d=>
   obtain⟨G,g,J⟩:=pj r c
   rw[j]at g
   cases g
   exact h d _ _ c (I.tok _) J
 ·have c:eM xs k=MA:=by
   cases c:eM xs k with
   |none=>rfl
   |some d=>
    obtain⟨G,g,_⟩:=pj r c
    rw[D]at g;cases g
  refine i c _ ?_
  obtain⟨q,L,M,m,N,O,P,_,R⟩:=l
  refine jq I (by rw[e];exact LL) F ⟨q,m⟩ ⟨⟨hd,?_,?_,_,ig r k b n,q,L,M,m,N,O,P⟩,⟨q,m⟩,fun h i x y=>kX h i x y⟩
  ·have:=lV xs k b v;omega
  ·rw[<-jt (ig r k b n)];exact R
end
section
variable{X:Cx}
def Dm(X:Cx):TE:=fun _ H Q=>∀p,H p=MA->Q (.ref p) (upd H p (.ext (ck X.prog X.w p [])))
theorem zO{pos:Pos}:PE X (.Dict [] [] pos) (Dm X):=fun MN s σ H Q I h=>wpAny_Dict_empty ⟨.ref s.z,_,uB I,rfl,h _ (I.hok.fresh (IY _))⟩
structure Ri(X:Cx)(H:Hp)(a b:n7)(xs:List N1)(k:NH):Prop where
 d:H a=LZ (.ext (ck X.prog X.w a xs))
 ks:∀x∈xs,dG X.K H x.2.1 x.1
 key:dG X.K H b k
def DX(X:Cx)(d ty:TE):TE:=fun σ H Q=>d σ H fun x H1=>ty σ H1 fun y c=>∃a b xs k v,x=.ref a/\y=.ref b/\Ri X c a b xs k/\eM xs k=LZ v/\Q v c
theorem ya{MN:pa}{σ:L2.St}{H:Hp}{s:IS}{a:n7}{xs:List N1}(I:L2.Inv X MN σ H s)(e:H a=LZ (.ext (ck X.prog X.w a xs))):s.TypeIs (.ref a) "dict"/\∀b,Kc a=.ref b->∃o,s.heap.get? b=LZ o/\o.dict=MA:=by obtain⟨⟨_,_,_,_,_,o,_,_,c,d,_⟩,_⟩:=I.hok a _ e;exact⟨⟨o,c,d.1⟩,fun b z=>by cases z;exact⟨o,c,d.2.1⟩⟩
theorem yM{o i:oT}{e ty:TE}{pos:Pos}(g:X.A.units+8<K0)(j:PE X o e)(l:PE X i ty)(m:Fz i):PE X (.Subscript o i pos) (DX X e ty):=by intro MN s σ H Q I h;refine Subscript_ (Mr (j MN s σ H _ I h) fun v n ⟨x,H1,p,r,t⟩=>Mr (l MN n σ H1 _ p t) fun u K c=>?_);obtain⟨y,w,f,z,a,b,xs,k,B,ex,C,D,E,q⟩:=c;subst ex C;cases r;cases z;exact tail_any (ya f D.d).1 PySem.F.slot_dict_getitem.lookup (A8 g f D.d D.ks D.key E fun L M G J=>⟨B,w,G,J,q⟩) (m _ _)
def Dx(X:Cx)(d ty e:TE):TS:=fun D σ H=>e σ H fun v H1=>d σ H1 fun x f=>ty σ f fun y c=>∃a b xs k,x=.ref a/\y=.ref b/\Ri X c a b xs k/\xs.length<J7/\D.nx σ (upd c a (.ext (ck X.prog X.w a (fR xs k b v))))
theorem yj{o i c:oT}{g ty j:TE}{pos e:Pos}(l:X.A.units+8<K0)(m:PE X o g)(n:PE X i ty)(p:PE X c j)(q:Lo c (LZ (.Subscript o i e)) pos.line X.env=pure MC) : PS X (.Assign [.Subscript o i e] c pos) (Dx X g ty j):=by intro MN s σ H D I h;refine wpAny_Assign_Subscript (Mr (p MN s σ H _ I h) fun r t ⟨v,H1,w,z,B⟩=>Mr (m MN t σ H1 _ w B) fun u C ⟨x,E,F,G,J⟩=>Mr (n MN C σ E _ F J) fun Q R f=>?_) q;obtain⟨y,S,K,L,a,b,xs,k,ex,M,A,N,O⟩:=f;subst ex M;cases G;cases L;exact AE l K A.d A.ks A.key z N fun T P=>⟨σ,_,P,O⟩
def F9(X:Cx)(f:TE)(t:TA):TE:=fun σ H Q=>f σ H fun x H1=>∃a c,x=.ref a/\H1 a=LZ (.ext (ck X.prog X.w a c))/\t σ H1 fun vs d=>∃b v xs k,vs=[.ref b,v]/\Ri X d a b xs k/\xs.length<J7/\
 (∀e,eM xs k=LZ e->Q e d)/\(eM xs k=MA->Q v (upd d a (.ext (ck X.prog X.w a (fR xs k b v)))))
theorem Ap{o e1 e2:oT}{r:TE}{t:TA}{e bC:Pos}(z:X.A.units+8<K0)(B:PE X o r)(C:PA X [e1,e2] t)
 (f:attributeBase o "setdefault" X.env (eval o X.env)=eval o X.env:=by rfl)
 (l:((Kr bC (Je [e1,e2] X.env)).all (fun x=>!x.1)&&(backToKw bC (LF [] X.env)).all (fun x=>x.1.isSome)
  && decide ([e1,e2].length+([]:List Keyword).length+(if([]:List Keyword).isEmpty then 0 else 1)<30))=MB:=by rfl)
 (g:(e.endLine==bC.line)=MB:=by rfl) (E:Je [e1,e2] X.env=(MC,eval e1 X.env)::Je [e2] X.env:=by rfl) (c:(Kr bC (Je [e2] X.env)).any (·.1)=MC:=by rfl) :
 PE X (.Call (.Attribute o "setdefault" e) [e1,e2] [] bC) (F9 X r t):=by
 intro MN s σ H Q I h
 refine wpAny_Call_method_late f l g rfl (Mr (B MN s σ H _ I h) fun v G i=>?_)
 obtain⟨x,H1,u,J,a,K,ex,L,M⟩:=i
 subst ex
 cases J
 obtain⟨N,O⟩:=ya u L
 refine⟨"dict","dict.setdefault",PySem.F.plainAttrs_dict,PySem.F.slot_dict_setdefault,PySem.F.type_dict_setdefault,N,O,?_⟩
 have w:=C bC MN G σ H1 _ u M
 rw[E]at w ⊢
 refine Calls.callWith_builtin (by show(MC||(Kr bC (Je [e2] X.env)).any (·.1))=MC;rw[c]<;>rfl) (Calls.evalArgs_plain ?_)
 refine Mr w fun us s2 j=>?_
 obtain⟨vs,P,R,S,b,T,xs,k,n,D,U,k1,V⟩:=j
 subst n
 obtain⟨u1,u2,rfl,p,m⟩:=S.two
 cases p
 exact ug z R D.d D.ks D.key m U (fun y u' W n q Y=>⟨y,P,q,Y,k1 y n⟩) (fun Z W q=>⟨T,_,q,m,V Z⟩)
end
def PV(k:NH):D:=.tup [.tup [.int k.1,.int k.2.1],.tup [.int k.2.2.1,.int k.2.2.2]]
section
variable{K:I0}{H H':Hp}{M:MH}{a b:n7}{k:NH}
theorem rK{v:V}(r:Rep K H (PV k) v):∃b,v=.ref b/\dG K H b k:=by unfold PV at r;rw[Rep]at r;obtain⟨b,xs,rfl,l,m⟩:=r;obtain⟨q,s,rfl,c,d⟩:=fG m;rw[Rep]at c d;obtain⟨f,fs,rfl,hf,n⟩:=c;obtain⟨g,t,rfl,o,p⟩:=d;obtain⟨u,w,rfl,e,h⟩:=fG n;obtain⟨x,y,rfl,i,j⟩:=fG p;rw[Rep]at e h i j;subst e h i j;exact⟨b,rfl,f,g,l,hf,o⟩
theorem xJ(h:dG K H b k):Rep K H (PV k) (.ref b):=by
 obtain⟨f,g,d,hf,e⟩:=h;unfold PV;rw[Rep];refine⟨b,_,rfl,d,?_⟩;have c:∀(m n:Int),aG K H [D.int m,D.int n] [V.int m,V.int n]:=fun m n=>jW [m,n];rw[aG];refine⟨_,_,rfl,?_,?_⟩
 ·rw[Rep];exact⟨f,_,rfl,hf,c _ _⟩
 ·rw[aG];refine⟨_,_,rfl,?_,?_⟩
  ·rw[Rep];exact⟨g,_,rfl,e,c _ _⟩
  ·rw[aG]
theorem dG.mono(g:Mp K H H')(h:dG K H b k):dG K H' b k:=by obtain⟨c,e,r⟩:=rK ((xJ h).mono g);cases e;exact r
abbrev N6:=List (NH×D)
def RW(kvs:N6):I0->Hp->n7->Prop:=fun K H a=>∃xs:List N1,(∀P w,H a=LZ (.ext (ck P w a xs)))/\xs.map (·.1)=kvs.map (·.1)/\(∀x∈xs,dG K H x.2.1 x.1)/\aG K H (kvs.map (·.2)) (xs.map (·.2.2))
theorem yD{kvs:N6}(h:RW kvs K H a)(g:Mp K H H')(e:H' a=H a):RW kvs K H' a:=by obtain⟨xs,c,d,f,i⟩:=h;exact⟨xs,fun P w=>e.trans (c P w),d,fun x j=>(f x j).mono g,i.mono g⟩
def Ng(kvs:N6):MO:=.gen (RW kvs)
theorem My.dsp{kvs:N6}(h:My K H M)(e:M a=LZ (Ng kvs)):RW kvs K H a:=(h a _ e).1
theorem RW.zD{kvs:N6}(h:RW kvs K H a)(ne:H a≠MA):rQ K H a (Ng kvs):=⟨h,ne,fun H' g e=>yD h g e⟩
theorem My.Cf{p:n7}(P:Jk)(w:JJ)(h:My K H M)(c:H p=MA):My K (upd H p (.ext (ck P w p []))) (az M p (Ng [])):=fun a u e=>by
 by_cases ne:a=p
 ·subst ne;rw[ag]at e;cases e;exact RW.zD ⟨[],(fun P w=>bc),rfl,(fun x d=>by simp at d),(by simp[aG])⟩ (by rw[bc];simp)
 ·rw[ao ne]at e;exact(h a u e).iU (.new c) (aZ ne)
def dY(kvs:N6)(k:NH):ry:=(kvs.find? fun x=>decide (x.1=k)).map (·.2)
def putD(kvs:N6)(k:NH)(d:D):N6:=if(kvs.any fun x=>decide (x.1=k))=MB then kvs.map (fun x=>if x.1=k then(x.1,d)else x)else kvs++[(k,d)]
theorem pU(k:NH):∀{kvs:N6} {xs:List N1},xs.map (·.1)=kvs.map (·.1)->aG K H (kvs.map (·.2)) (xs.map (·.2.2))->(∀d,dY kvs k=LZ d->∃v,eM xs k=LZ v/\Rep K H d v)/\(dY kvs k=MA->eM xs k=MA)/\((xs.any fun x=>decide (x.1=k))=kvs.any fun x=>decide (x.1=k))
 |[],[],_,_=>⟨(fun d h=>by simp[dY]at h),(fun _=>rfl),rfl⟩
 |[],x::xs,h,_=>by cases h
 |y::kvs,[],h,_=>by cases h
 |y::kvs,x::xs,h,r=>by
  rw[J0,J0]at h
  injection h with g i
  rw[J0,J0,aG]at r
  obtain⟨v,vs,e,j,l⟩:=r
  injection e with e1 e2
  subst e1 e2
  obtain⟨m,n,o⟩:=pU k i l
  by_cases e:y.1=k
  ·have c:x.1=k:=g.trans e
   refine⟨fun d hd=>?_,fun f=>?_,?_⟩
   ·simp[dY,Jw,e]at hd
    subst hd
    exact⟨x.2.2,by simp[eM,Jw,c],j⟩
   ·simp[dY,Jw,e]at f
   ·simp[e,c]
  ·have c:¬x.1=k:=fun z=>e (g.symm.trans z)
   refine⟨fun d hd=>?_,fun f=>?_,?_⟩
   ·obtain⟨v,p,q⟩:=m d (by simpa[dY,Jw,e]using hd)
    exact⟨v,by simpa[eM,Jw,c]using p,q⟩
   ·have:=n (by simpa[dY,Jw,e]using f)
    simpa[eM,Jw,c]using this
   ·rw[Lk,Lk,o,MF e,MF c]
theorem uD(k:NH){d:D}{v:V}(r:Rep K H d v):∀{kvs:N6} {xs:List N1},xs.map (·.1)=kvs.map (·.1)->aG K H (kvs.map (·.2)) (xs.map (·.2.2))->
 (xs.map fun x=>if x.1=k then(x.1,x.2.1,v)else x).map (·.1)=(kvs.map fun x=>if x.1=k then(x.1,d)else x).map (·.1)/\aG K H ((kvs.map fun x=>if x.1=k then(x.1,d)else x).map (·.2)) ((xs.map fun x=>if x.1=k then(x.1,x.2.1,v)else x).map (·.2.2))
 |[],[],_,h=>⟨rfl,h⟩
 |[],x::xs,h,_=>by cases h
 |y::kvs,[],h,_=>by cases h
 |y::kvs,x::xs,h,q=>by
  rw[J0,J0]at h
  injection h with c j
  rw[J0,J0,aG]at q
  obtain⟨n,vs,e,l,m⟩:=q
  injection e with e1 e2
  subst e1 e2
  obtain⟨g,i⟩:=uD k r j m
  by_cases e:y.1=k
  ·have f:x.1=k:=c.trans e
   simp only[J0,ME e,ME f]
   exact⟨by rw[g];exact congrArg (·::_) c,by rw[aG];exact⟨_,_,rfl,r,i⟩⟩
  ·have f:¬x.1=k:=fun z=>e (c.symm.trans z)
   simp only[J0,MD e,MD f]
   exact⟨by rw[g];exact congrArg (·::_) c,by rw[aG];exact⟨_,_,rfl,l,i⟩⟩
theorem CT{kvs:N6}{xs:List N1}{d:D}{v:V}(c:xs.map (·.1)=kvs.map (·.1))(f:aG K H (kvs.map (·.2)) (xs.map (·.2.2)))(h:∀x∈xs,dG K H x.2.1 x.1)(i:dG K H b k)(r:Rep K H d v) : (fR xs k b v).map (·.1)=(putD kvs k d).map (·.1)/\aG K H ((putD kvs k d).map (·.2)) ((fR xs k b v).map (·.2.2))/\∀x∈fR xs k b v,dG K H x.2.1 x.1:=by
 unfold fR putD;rw[(pU k c f).2.2];by_cases e:(kvs.any fun x=>decide (x.1=k))=MB
 ·rw[ME e,ME e];obtain⟨j,l⟩:=uD k r c f;refine⟨j,l,fun x g=>?_⟩;obtain⟨y,m,rfl⟩:=JC.mp g;have:=h y m;by_cases e:y.1=k
  ·rw[ME e];exact this
  ·rw[MD e];exact this
 ·rw[MD e,MD e];refine⟨by rw[Jg,Jg,c];rfl,?_,fun x g=>?_⟩
  ·rw[Jg,Jg];exact f.append (by rw[J0,J0,Kh,Kh,aG];exact⟨_,_,rfl,r,by rw[aG]⟩)
  ·rcases Jn.mp g with z|z
   ·exact h x z
   ·have:x=(k,b,v):=‹z›
    subst this;exact i
theorem Mp.ext{c:oa->Prop}{o:HO}(h:H a=LZ (.ext c)):Mp K H (upd H a o):=.put (fun xs e=>by rw[h]at e;cases e) (fun u xs e=>by rw[h]at e;cases e)
theorem My.yr{kvs:N6}{xs:List N1}{d:D}{v:V}(P:Jk)(w:JJ)(h:My K H M)(f:∀P w,H a=LZ (.ext (ck P w a xs)))(i:xs.map (·.1)=kvs.map (·.1))(j:aG K H (kvs.map (·.2)) (xs.map (·.2.2)))(l:∀x∈xs,dG K H x.2.1 x.1)(m:dG K H b k)(r:Rep K H d v) :
 My K (upd H a (.ext (ck P w a (fR xs k b v)))) (az M a (Ng (putD kvs k d))):=fun c u e=>by
 have g:Mp K H (upd H a (.ext (ck P w a (fR xs k b v)))):=.ext (f P w)
 by_cases ne:c=a
 ·subst ne
  rw[ag]at e;cases e
  obtain⟨n,o,p⟩:=CT i j l m r
  exact RW.zD ⟨_,fun P w=>bc,n,fun x f=>(p x f).mono g,o.mono g⟩ (by rw[bc];simp)
 ·rw[ao ne]at e
  exact(h c u e).iU g (aZ ne)
end
section
variable{X:Cx}
def BH:TD:=fun _ M Q=>∀p,M p=MA->Q (.ref p) (az M p (Ng []))
theorem rF{pos:Pos}:DE X (.Dict [] [] pos) BH:=bj zO fun σ H Q a=>by obtain⟨δ,M,R,e,d,q,b⟩:=a;exact(fun p c=>b _ _ _ _ (.new c) (by rw[Rep]) (d.Cf _ _ c) (q p (d.fresh c)))
def Bz(b ty:TD):TD:=fun δ M Q=>b δ M fun x c=>ty δ c fun y a=>∃l kvs k d,x=.ref l/\y=PV k/\a l=LZ (Ng kvs)/\dY kvs k=LZ d/\Q d a
theorem qi{o i:oT}{g ty:TD}{pos:Pos}(P:X.A.units+66<K0)(n:DE X o g)(p:DE X i ty)(e:Fz i):DE X (.Subscript o i pos) (Bz g ty):=
 bj (yM () n p e) fun σ H Q a=>by obtain⟨δ,M,R,e,r,q,f⟩:=a;exact(⟨δ,M,_,e,r,q,fun x s v H1 h j t w=>⟨δ,s,_,e.mono h,t,w,fun y S u T z B m c=>by
  obtain⟨l,kvs,k,d,ex,C,D,E,F⟩:=c
  subst ex C
  rw[Rep]at j;subst j
  obtain⟨b,rfl,sp⟩:=rK B
  obtain⟨xs,G,I,J,K⟩:=m.dsp D
  obtain⟨L,N,O⟩:=(pU k I K).1 d E
  exact⟨l,b,xs,k,L,rfl,rfl,⟨G _ _,J,sp⟩,N,f _ _ _ _ (h.trans z) O m F⟩⟩⟩)
def Ag(b ty c:TD):NV:=fun B δ M=>c δ M fun d e=>b δ e fun x f=>ty δ f fun y a=>∃l kvs k,x=.ref l/\y=PV k/\a l=LZ (Ng kvs)/\kvs.length<1000000/\B.nx δ (az a l (Ng (putD kvs k d)))
theorem yo{o i a:oT}{m ty n:TD}{pos c:Pos}(Z:X.A.units+66<K0)(F:DE X o m)(G:DE X i ty)(I:DE X a n)(e:Lo a (LZ (.Subscript o i c)) pos.line X.env=pure MC:=by rfl):DSt X (.Assign [.Subscript o i c] a pos) (Ag m ty n):=
 cU (yj () F G I e) fun D σ H ⟨δ,M,e,J,B,ok,q⟩=>⟨δ,M,_,e,J,q,fun d L v H1 f N O P=>⟨δ,L,_,e.mono f,O,P,fun x Q u H2 g p R S=>⟨δ,Q,_,(e.mono f).mono g,R,S,fun y M3 u3 r h T s ⟨l,kvs,k,ex,U,V,hn,W⟩=>by
  subst ex U
  rw[Rep]at p;subst p
  obtain⟨b,rfl,sp⟩:=rK T
  obtain⟨xs,j,t,z,Y⟩:=s.dsp V
  have C:xs.length=kvs.length:=by have:=congrArg List.length t;simpa using this
  have sz:1000000<=J7:=Mo rfl
  refine⟨l,b,xs,k,rfl,rfl,⟨j _ _,z,sp⟩,(),?_⟩
  have E:Mp X.K r (upd r l (.ext (ck X.prog X.w l (fR xs k b v)))):=.ext (j X.prog X.w)
  exact ok.nx _ _ _ _ (((f.trans g).trans h).trans E) (e.mono (((f.trans g).trans h).trans E)) (s.yr _ _ j t Y z sp (N.mono (g.trans h))) W⟩⟩⟩
def CM(f:TD)(t:NN):TD:=fun δ M Q=>f δ M fun x c=>∃l a,x=.ref l/\c l=LZ (Ng a)/\t δ c fun g b=>∃kvs k d,g=[PV k,d]/\b l=LZ (Ng kvs)/\kvs.length<1000000/\(∀e,dY kvs k=LZ e->Q e b)/\(dY kvs k=MA->Q d (az b l (Ng (putD kvs k d))))
theorem z5{o e1 e2:oT}{G:TD}{t:NN}{f bC:Pos}(hu:X.A.units+66<K0)(W:DE X o G)(Y:DA X [e1,e2] t)
 (g:attributeBase o "setdefault" X.env (eval o X.env)=eval o X.env:=by rfl)
 (j:((Kr bC (Je [e1,e2] X.env)).all (fun x=>!x.1)&&(backToKw bC (LF [] X.env)).all (fun x=>x.1.isSome)
  && decide ([e1,e2].length+([]:List Keyword).length+(if([]:List Keyword).isEmpty then 0 else 1)<30))=MB:=by rfl)
 (h:(f.endLine==bC.line)=MB:=by rfl) (r:Je [e1,e2] X.env=(MC,eval e1 X.env)::Je [e2] X.env:=by rfl) (c:(Kr bC (Je [e2] X.env)).any (·.1)=MC:=by rfl) :
 DE X (.Call (.Attribute o "setdefault" f) [e1,e2] [] bC) (CM G t):=
 bj (Ap () W Y g j h r c) fun σ H Q ⟨δ,M,R,r,Z,q,m⟩=>⟨δ,M,_,r,Z,q,fun x M1 v H1 u I J ⟨l,L,ex,y,q1⟩=>by
  subst ex
  rw[Rep]at I;subst I
  obtain⟨z,h0,_⟩:=J.dsp y
  refine⟨l,z,rfl,h0 _ _,δ,M1,_,r.mono u,J,q1,fun ds M2 vs N O r2 B i=>?_⟩
  obtain⟨kvs,k,d,e,hl,hn,k1,k2⟩:=i
  subst e
  obtain⟨v1,P,rfl,C,n⟩:=fG r2
  obtain⟨b,rfl,sp⟩:=rK C
  obtain⟨xs,D,E,S,T⟩:=B.dsp hl
  have U:xs.length=kvs.length:=by have:=congrArg List.length E;simpa using this
  have sz:1000000<=J7:=Mo rfl
  have dv:=pU k E T
  refine⟨b,P,xs,k,rfl,⟨D _ _,S,sp⟩,(),fun v' a=>?_,fun a=>?_⟩
  ·cases e:dY kvs k with
   |none=>rw[dv.2.1 e]at a;cases a
   |some s=>
    obtain⟨F,p,q4⟩:=dv.1 s e
    rw[a]at p;cases p
    exact m _ _ _ _ (u.trans O) q4 B (k1 s e)
  ·have e:dY kvs k=MA:=by
    cases e:dY kvs k with
    |none=>rfl
    |some s=>
     obtain⟨F,p,_⟩:=dv.1 s e
     rw[a]at p;cases p
   have V:Mp X.K N (upd N l (.ext (ck X.prog X.w l (fR xs k b P)))):=.ext (D X.prog X.w)
   exact m _ _ _ _ ((u.trans O).trans V) (n.mono V) (B.yr _ _ D E T S sp n) (k2 e)⟩
end
theorem dU{z:Int}(h:0<=z/\z<=20):Bd 10 z:=by show z.natAbs<2^10;omega
theorem E9(t b X m x:Int):MU t b X m x=MU t (b*m) (X*m) 1 x:=by unfold MU;rw[Int.mul_one,Int.mul_one]
theorem uE{t b X m:Int}(c:0<t)(d:0<b)(e:0<m)(a:Int):MU t b X 1 a=MU t (b*m) (X*m) 1 (m*a):=by rw[<-E9,Md c d ⋯ e];omega
theorem uK{t b X Y m:Int}(a:0<t)(c:0<b)(d:0<m)(w:Wl)(p q:Int):MZ (MY (MU t b X 1 w.1) (MU t b Y 1 w.2.1) (MU t b X 1 w.2.2.1) (MU t b Y 1 w.2.2.2) (MU t b X m p) (MU t b Y m q))=Ji (sd (Mw m w) p q):=by rw[uE a c d,uE a c d,uE a c d,uE a c d,E9 t b X m p,E9 t b Y m q];exact jI a (Jl c d) (Mw m w) p q
theorem zf{t b X Y m p q a c:Int}(f:0<t)(g:0<b)(e:0<m/\m<=4)(h:-10<=q/\q<=85)(d:0<=c/\c<=20):MW (MU t b X m p) (MU t b Y m q) (MU t b X 1 a) (MU t b Y 1 c)↔la p q<m*la a c:=by have e1:=Ku (():0<=m) d.1;have e2:=Int.mul_le_mul e.2 d.2 d.1 (show(0:Int)<=4 by decide);rw[Mb f g e.1 ⋯,LR,LR,AN h ⟨(),()⟩,MK,C8]
def NZ(k:Int):Wl:=(k,0,k,1)
def NM(k y:Int):Wl:=(k,y,k+1,y)
def OB(m:Int):Nat->rr
 |0=>[NZ m]
 |i+1=>OB m i++[NM (i:Int) 0,NM (i:Int) 1,NZ (i:Int)]
theorem k5(m:Int):∀i:Nat,(OB m i).length=1+3*i
 |0=>rfl
 |i+1=>by rw[OB,Kg,k5 m i];simp;omega
theorem pI{m:Int}{w:Wl}:∀{i:Nat},w∈OB m i->w=NZ m\/∃k:Nat,k<i/\(w=NM (k:Int) 0\/w=NM (k:Int) 1\/w=NZ (k:Int))
 |0,h=>.inl (JS.mp h)
 |i+1,h=>by
  rw[OB,Jn]at h
  rcases h with h|h
  ·rcases pI h with h|⟨k,a,h⟩
   ·exact .inl h
   ·exact .inr ⟨k,(),h⟩
  ·simp only[Jx,List.not_mem_nil,or_false]at h
   exact .inr ⟨i,(),h⟩
def yU(w:Wl):Prop:=∃k:Int,0<=k/\k<=13/\(w=NZ k\/w=NM k 0\/w=NM k 1)
theorem De{m:Nat}{w:Wl}(a:m<=13)(h:w∈OB (m:Int) m):yU w:=by
 rcases pI h with h|⟨k,b,h|h|h⟩
 ·exact⟨m,(),(),.inl h⟩
 ·exact⟨k,(),(),.inr (.inl h)⟩
 ·exact⟨k,(),(),.inr (.inr h)⟩
 ·exact⟨k,(),(),.inl h⟩
theorem Fv{w:Wl}(h:yU w):Mn w:=by
 obtain⟨k,a,b,rfl|rfl|rfl⟩:=h
 ·exact⟨by simp only[NZ];omega,by simp only[NZ];omega,by simp only[NZ];omega,by simp only[NZ];omega,by simp only[NZ,l1,l2,la];omega⟩
 ·exact⟨by simp only[NM];omega,by simp only[NM];omega,by simp only[NM];omega,by simp only[NM];omega,by simp only[NM,l1,l2,la];omega⟩
 ·exact⟨by simp only[NM];omega,by simp only[NM];omega,by simp only[NM];omega,by simp only[NM];omega,by simp only[NM,l1,l2,la];omega⟩
theorem nh(k x y:Int):sd (NZ k) x y=k-x:=by unfold sd NJ NZ;simp;omega
theorem oM(k c x y:Int):sd (NM k c) x y=y-c:=by unfold sd NJ NM;simp only;rw[show k+1-k=1 by omega,Int.sub_self,LR,Int.zero_mul,Int.sub_zero]
theorem qL(z:Int):0<=Ji z*Ji z:=by
 rcases J5 z 0 with h|h|h
 ·rw[Jt h];decide
 ·subst h;decide
 ·rw[JF h];decide
theorem xC(z:Int):0<=Ji z*Ji (z-1):=by
 rcases J5 z 0 with h|h|h
 ·rw[Jt h,Jt ()];decide
 ·subst h;decide
 ·rcases J5 (z-1) 0 with g|g|g
  ·omega
  ·rw[g];simp
  ·rw[JF h,JF g];decide
theorem Ah{U V:Wl}(f:yU U)(g:yU V)(ne:U≠V):Mz U V:=by
 have h:∀k j:Int,k≠j->Mz (NZ k) (NZ j):=fun k j e=>by
  refine⟨?_,?_,?_,?_,?_,.inl ?_⟩
  ·simp only[l1,l2,la,NZ];omega
  ·simp only[aV,Mt,Mv,nh];simp only[l1,l2,la,NZ];omega
  ·simp only[aV,Mt,Mv,nh];simp only[l1,l2,la,NZ];omega
  ·simp only[aV,Mt,Mv,nh];simp only[l1,l2,la,NZ];omega
  ·simp only[aV,Mt,Mv,nh];simp only[l1,l2,la,NZ];omega
  ·simp only[Mt,Mv,nh];exact qL _
 have c:∀k j y:Int,(y=0\/y=1)->Mz (NZ k) (NM j y):=fun k j y i=>by
  refine⟨?_,?_,?_,?_,?_,.inl ?_⟩
  ·simp only[l1,l2,la,NZ,NM];omega
  ·simp only[aV,Mt,Mv,nh,oM];simp only[l1,l2,la,NZ,NM];omega
  ·simp only[aV,Mt,Mv,nh,oM];simp only[l1,l2,la,NZ,NM];omega
  ·simp only[aV,Mt,Mv,nh,oM];simp only[l1,l2,la,NZ,NM];omega
  ·simp only[aV,Mt,Mv,nh,oM];simp only[l1,l2,la,NZ,NM];omega
  ·simp only[Mt,Mv,nh];have:=xC (k-j);rw[show k-j-1=k-(j+1) by omega]at this;exact this
 have d:∀k y j x:Int,(y=0\/y=1)->(x=0\/x=1)->¬(k=j/\y=x)->Mz (NM k y) (NM j x):=fun k y j x i l e=>by
  refine⟨?_,?_,?_,?_,?_,.inl ?_⟩
  ·simp only[l1,l2,la,NM];omega
  ·simp only[aV,Mt,Mv,oM];simp only[l1,l2,la,NM];omega
  ·simp only[aV,Mt,Mv,oM];simp only[l1,l2,la,NM];omega
  ·simp only[aV,Mt,Mv,oM];simp only[l1,l2,la,NM];omega
  ·simp only[aV,Mt,Mv,oM];simp only[l1,l2,la,NM];omega
  ·simp only[Mt,Mv,oM];exact qL _
 have a:(0:Int)=0\/(0:Int)=1:=.inl rfl;have b:(1:Int)=0\/(1:Int)=1:=.inr rfl;obtain⟨k,m,n,rfl|rfl|rfl⟩:=f<;>obtain⟨j,o,p,rfl|rfl|rfl⟩:=g
 ·exact h k j fun z=>ne (by rw[z])
 ·exact c k j 0 a
 ·exact c k j 1 b
 ·exact(c j k 0 a).swap
 ·exact d k 0 j 0 a a fun z=>ne (by rw[z.1])
 ·exact d k 0 j 1 a b fun z=>()
 ·exact(c j k 1 b).swap
 ·exact d k 1 j 0 b a fun z=>()
 ·exact d k 1 j 1 b b fun z=>ne (by rw[z.1])
theorem n9(m:Nat):∀i:Nat,i<=m->(OB (m:Int) i).Nodup
 |0,_=>Lz.mpr ⟨by simp,List.nodup_nil⟩
 |i+1,h=>by
  rw[OB,LI]
  refine⟨n9 m i (),by simp[NM,NZ],fun a c b f e=>?_⟩
  subst e
  have d:a=NM (i:Int) 0\/a=NM (i:Int) 1\/a=NZ (i:Int):=‹f›
  rcases pI c with c|⟨k,g,c⟩
  ·subst c
   rcases d with z|z|z<;>simp only[NZ,NM,Prod.mk.injEq]at z<;>omega
  ·rcases c with rfl|rfl|rfl<;>rcases d with z|z|z<;>simp only[NZ,NM,Prod.mk.injEq]at z<;>omega
theorem GO{m:Nat}{ws:rr}(f:m<=13)(h:ws.Perm (OB (m:Int) m)):PF ws/\(∀w∈ws,Mn w)/\ws.length<=40:=by have is:∀w∈ws,yU w:=fun w a=>De f (h.mem_iff.mp a);have nd:ws.Nodup:=h.nodup_iff.mpr (n9 m m (IY _));refine⟨fun i j U V b c d=>?_,fun w a=>Fv (is w a),by rw[h.length_eq,k5];omega⟩;refine Ah (is U (IW c)) (is V (IW d)) fun e=>?_;subst e;obtain⟨g,e1⟩:=J1.mp c;obtain⟨k,e2⟩:=J1.mp d;exact b ((List.getElem_inj nd).mp (e1.trans e2.symm))
def bB(ws:rr)(m p q:Int)(j:Nat):Bool:=SU ws m (la p q) j&&decide (Ji (sd (Mw m (Mu ws (j:Int))) p q)=1)
def bK(ws:rr)(m p q:Int):pw:=((J8 ws.length).filter (bB ws m p q)).map fun j:Nat=>(j:Int)
theorem jX{ws:rr}{m p q k:Int}(h:k∈bK ws m p q):k∈WE ws m (la p q):=by unfold bK at h;obtain⟨j,a,rfl⟩:=JC.mp h;rw[Jb]at a;have:=a.2;unfold bB at this;rw[Jp]at this;exact JC.mpr ⟨j,Jb.mpr ⟨a.1,this.1⟩,rfl⟩
theorem qN(ws:rr)(m p q:Int):(bK ws m p q).Nodup:=by unfold bK List.Nodup;rw[List.pairwise_map];have h:List.Pairwise (fun x y:Nat=>x≠y) ((J8 ws.length).filter (bB ws m p q)):=KI _ List.nodup_range;refine List.Pairwise.imp (R:=fun x y:Nat=>x≠y) ?_ h;intro a b c e;exact c ()
theorem xI{t b X Y:Int}(a:0<t)(c:0<b){U V:Wl}(g:Mn U)(h:Mn V)(ne:¬(l1 U=l1 V/\l2 U=l2 V)):JL (Qn t b X Y U) (Qn t b X Y V)=MC:=by have i:=jH (X:=X) (Y:=Y) (p:=U.1) (q:=U.2.1) (e:=V.1) (f:=V.2.1) a c g.b h.b;have j:=jH (X:=X) (Y:=Y) (p:=U.2.2.1) (q:=U.2.2.2) (e:=V.2.2.1) (f:=V.2.2.2) a c g.d h.d;unfold Qn Rr;rw[JL,Ke,Ke,Ke,Me,Me,Ll,<-LA,decide_eq_false_iff_not,i,j];exact ne
abbrev Vc:=Int×Int
def vc(a b:Vc):Int:=NJ a.1 a.2 b.1 b.2
def vl(a:Vc):Int:=la a.1 a.2
theorem d6(a b:Vc):vc b a=-vc a b:=by unfold vc NJ;grind
theorem Gu(b x y z:Vc):vc b y*vc x z=vc b x*vc y z+vc b z*vc x y:=by unfold vc NJ;grind
theorem EB(a b c:Vc)(h:vc a b=0):vc b c*vl a=vc a c*vl b:=by unfold vc NJ at *;unfold vl la;grind
def PH(a b:Vc):Prop:=vc a b=0->vl a*vl b<0
theorem fV(z:Int):(z<0/\Ji z=-1)\/(z=0/\Ji z=0)\/(0<z/\Ji z=1):=by
 rcases J5 z 0 with h|h|h
 ·exact .inl ⟨h,Jt h⟩
 ·exact .inr (.inl ⟨h,by subst h;rfl⟩)
 ·exact .inr (.inr ⟨h,JF h⟩)
theorem fE{p q:Int}(h:p*q<0):(p<0/\0<q)\/(0<p/\q<0):=by
 rcases J5 p 0 with a|a|a
 ·rcases J5 q 0 with b|b|b
  ·have:=JG a b;omega
  ·subst b;simp at h
  ·exact .inl ⟨a,b⟩
 ·subst a;simp at h
 ·rcases J5 q 0 with b|b|b
  ·exact .inr ⟨a,b⟩
  ·subst b;simp at h
  ·have:=Jl a b;omega
theorem WW{a b:Vc}(c:Vc)(z:vc a b=0)(h:vl a*vl b<0):Ji (vc b c)=-Ji (vc a c):=by
 have e:=EB a b c z;generalize vc b c=p at *;generalize vc a c=q at *;have k:∀{x y:Int},0<x->0<y->0<x*y:=fun d f=>Jl d f
 rcases fE h with⟨d,f⟩|⟨d,f⟩<;>rcases fV p with⟨g,e1⟩|⟨g,e1⟩|⟨g,e1⟩<;>rcases fV q with⟨i,e2⟩|⟨i,e2⟩|⟨i,e2⟩<;>rw[e1,e2]<;>first|rfl|(exfalso;subst_vars;first
  |(have k1:=JG g d;have j:=Jq i f;omega)
  |(have k1:=Jq g d;have j:=JG i f;omega)
  |(have k1:=Jr g d;have j:=Jl i f;omega)
  |(have k1:=Jl g d;have j:=Jr i f;omega)
  |(have k1:=JG g d;omega)
  |(have k1:=Jq g d;omega)
  |(have k1:=Jr g d;omega)
  |(have k1:=Jl g d;omega)
  |(have j:=JG i f;omega)
  |(have j:=Jq i f;omega)
  |(have j:=Jr i f;omega)
  |(have j:=Jl i f;omega))
def O0(b x y:Vc):Bool:=if Ji (vc b x)=Ji (vc b y)then decide (vc x y<0)else decide (Ji (vc b x)<Ji (vc b y))
theorem ic(b x y:Vc):O0 b x y=MB↔Ji (vc b x)<Ji (vc b y)\/(Ji (vc b x)=Ji (vc b y)/\vc x y<0):=by
 unfold O0;split
 ·rename_i h;simp;omega
 ·rename_i h;simp;omega
theorem vN{b x y:Vc}(a:PH b x)(c:PH b y)(d:PH x y):O0 b x y=MB\/O0 b y x=MB:=by
 rw[ic,ic];rcases J5 (vc x y) 0 with h|h|h
 ·omega
 ·have o:=d h;have e:=WW b h o;have e1:vc x b=-vc b x:=d6 b x;have e2:vc y b=-vc b y:=d6 b y;rw[e1,e2,Int.sign_neg,Int.sign_neg]at e;by_cases ne:Ji (vc b x)=Ji (vc b y)
  ·have f:Ji (vc b x)=0:=()
   have g:Ji (vc b y)=0:=()
   have i:=fE (a (Int.sign_eq_zero_iff_zero.mp f));have j:=fE (c (Int.sign_eq_zero_iff_zero.mp g));have k:=fE o;omega
  ·omega
 ·have:=d6 x y;omega
theorem wa{b x y z:Vc}(h:PH b x)(n:PH b y)(o:PH b z)(d:O0 b x y=MB)(a:O0 b y z=MB):O0 b x z=MB:=by
 rw[ic]at *;rcases d with d|⟨d,b1⟩
 ·left;rcases a with a|⟨a,f⟩<;>omega
 ·rcases a with a|⟨a,f⟩
  ·left;omega
  ·right;refine⟨(),?_⟩;have i:=Gu b x y z;rcases fV (vc b y)with⟨k,e⟩|⟨k,e⟩|⟨k,e⟩
   ·have c:vc b x<0:=by rcases fV (vc b x)with q|q|q<;>omega
    have g:vc b z<0:=by rcases fV (vc b z)with q|q|q<;>omega
    have j:=JG c f;have l:=JG g b1;rcases J5 (vc x z) 0 with q|q|q
    ·exact q
    ·rw[q]at i;simp at i;omega
    ·have:=Jq k q;omega
   ·exfalso;have c:vc b x=0:=by rcases fV (vc b x)with q|q|q<;>omega
    have m:=h c;have e:=WW y c m;have:Ji (vc x y)=-1:=Jt b1;rw[k]at e;simp at e;omega
   ·have c:0<vc b x:=by rcases fV (vc b x)with q|q|q<;>omega
    have g:0<vc b z:=by rcases fV (vc b z)with q|q|q<;>omega
    have j:=Jr c f;have l:=Jr g b1;rcases J5 (vc x z) 0 with q|q|q
    ·exact q
    ·rw[q]at i;simp at i;omega
    ·have:=Jl k q;omega
theorem AB{a b c:Vc}(h:PH a b)(e:O0 a c b=MB)(d:O0 b c a=MB):False:=by
 rw[ic]at e d;have e1:vc b a=-vc a b:=d6 a b;have e2:vc c b=-vc b c:=d6 b c;have e3:vc c a=-vc a c:=d6 a c;rw[e1,Int.sign_neg]at d;rw[e2]at e;rw[e3]at d;by_cases z:vc a b=0
 ·have o:=WW c z (h z);rw[z]at e d;simp at e d;rcases fV (vc a c)with q|q|q<;>rcases fV (vc b c)with r|r|r<;>omega
 ·rcases fV (vc a b)with p|p|p<;>rcases fV (vc a c)with q|q|q<;>rcases fV (vc b c)with r|r|r<;>omega
def rev(w:Wl):Wl:=(w.2.2.1,w.2.2.2,w.1,w.2.1)
def fw(ws:rr)(f:Nat):Wl:=if f%2=0 then Mu ws ((f/2:Nat):Int)else rev (Mu ws ((f/2:Nat):Int))
def fa(ws:rr)(f:Nat):Vc:=((fw ws f).1,(fw ws f).2.1)
def fb(ws:rr)(f:Nat):Vc:=((fw ws f).2.2.1,(fw ws f).2.2.2)
def fd(ws:rr)(f:Nat):Vc:=((fw ws f).2.2.1-(fw ws f).1,(fw ws f).2.2.2-(fw ws f).2.1)
def fx(f:Nat):Nat:=if f%2=0 then f+1 else f-1
theorem k8(f:Nat):fx f/2=f/2/\(fx f)%2=1-f%2:=by unfold fx;split<;>omega
theorem Ck(f:Nat):fx (fx f)=f:=by unfold fx;split<;>split<;>omega
theorem kA{f n:Nat}(h:f<2*n):fx f<2*n:=by unfold fx;split<;>omega
theorem uo(ws:rr)(f:Nat):fw ws (fx f)=rev (fw ws f):=by
 unfold fw;rw[(k8 f).1,(k8 f).2];by_cases h:f%2=0
 ·rw[MD (),ME h]
 ·rw[ME (),MD h];rfl
theorem fH(ws:rr)(f:Nat):fa ws (fx f)=fb ws f:=by unfold fa fb;rw[uo];rfl
theorem zA(ws:rr)(f:Nat):fb ws (fx f)=fa ws f:=by unfold fa fb;rw[uo];rfl
theorem ie{ws:rr}(c:∀w∈ws,Mn w)(hF:PF ws){g h:Nat}(x:g<2*ws.length)(y:h<2*ws.length)(ne:g≠h)(e:fa ws g=fa ws h):PH (fd ws g) (fd ws h):=by
 obtain⟨d,_,i⟩:=aX (ws:=ws) (k:=((g/2:Nat):Int)) () ();obtain⟨f,_,j⟩:=aX (ws:=ws) (k:=((h/2:Nat):Int)) () ();have U:=c _ i;have V:=c _ j;rw[K7]at d f;unfold fa at e;have e1:=congrArg Prod.fst e;have e2:=congrArg Prod.snd e;unfold fd;unfold fw at *;by_cases same:g/2=h/2
 ·exfalso;rw[<-same]at e1 e2;have lt:=U.lt;unfold l1 l2 la at lt;by_cases p:g%2=0
  ·rw[ME p,MD (():¬h%2=0)]at e1 e2;unfold rev at e1 e2;dsimp only at e1 e2;omega
  ·rw[MD p,ME (():h%2=0)]at e1 e2;unfold rev at e1 e2;dsimp only at e1 e2;omega
 ·have F:=hF _ _ _ _ same d f;generalize Mu ws ((g/2:Nat):Int)=u at *;generalize Mu ws ((h/2:Nat):Int)=v at *;intro z;have A:=U.lt;have B:=V.lt;unfold vc NJ at z;have l:=F.e2;have m:=F.e4;have n:=F.e1;have o:=F.e3;have C:=F.ne;unfold aV at n l o m;unfold vl;by_cases p:g%2=0<;>by_cases q:h%2=0
  ·rw[ME p,ME q]at z e1 e2 ⊢;exfalso;simp only[]at z e1 e2;have r:Mv u v=0:=by unfold Mv sd NJ;grind
   have s:Mv v u=0:=by unfold Mv sd NJ;grind
   have t:l1 u=l1 v:=by unfold l1;rw[e1,e2]
   omega
  ·rw[ME p,MD q]at z e1 e2 ⊢;unfold rev at *;simp only[]at z e1 e2 ⊢;have a:la (u.2.2.1-u.1) (u.2.2.2-u.2.1)=l2 u-l1 u:=by unfold l1 l2 la;omega
   have b:la (v.1-v.2.2.1) (v.2.1-v.2.2.2)=-(l2 v-l1 v):=by unfold l1 l2 la;omega
   rw[a,b];exact Jr () ()
  ·rw[MD p,ME q]at z e1 e2 ⊢;unfold rev at *;simp only[]at z e1 e2 ⊢;have a:la (u.1-u.2.2.1) (u.2.1-u.2.2.2)=-(l2 u-l1 u):=by unfold l1 l2 la;omega
   have b:la (v.2.2.1-v.1) (v.2.2.2-v.2.1)=l2 v-l1 v:=by unfold l1 l2 la;omega
   rw[a,b];exact Jq () ()
  ·rw[MD p,MD q]at z e1 e2 ⊢;unfold rev at *;exfalso;simp only[]at z e1 e2;have r:Mt u v=0:=by unfold Mt sd NJ;grind
   have s:Mt v u=0:=by unfold Mt sd NJ;grind
   have t:l2 u=l2 v:=by unfold l2;rw[e1,e2]
   omega
def bQ(R:Nat->Nat->Bool)(o:Option Nat)(g:Nat):Option Nat:=match o with
 |none=>LZ g
 |some h=>if R g h=MB then LZ g else LZ h
theorem fold_min{R:Nat->Nat->Bool}{S:Nat->Prop}(b:∀x y,S x->S y->x≠y->R x y=MB\/R y x=MB)(f:∀x y z,S x->S y->S z->R x y=MB->R y z=MB->R x z=MB) :
 ∀(l:pq) (h:Nat),S h->(∀x∈l,S x)->∃m,l.foldl (bQ R) (LZ h)=LZ m/\S m/\(m=h\/m∈l)/\(h=m\/R m h=MB)/\∀x∈l,x=m\/R m x=MB
 |[],h,sh,_=>⟨h,rfl,sh,.inl rfl,.inl rfl,fun x a=>by cases a⟩
 |g::l,h,sh,hl=>by
  have sg:=hl g (by simp)
  rw[Ld]
  by_cases r:R g h=MB
  ·obtain⟨m,e,d,mem,c,i⟩:=fold_min b f l g sg (fun x a=>hl x (by simp[a]))
   have j:bQ R (LZ h) g=LZ g:=by unfold bQ;simp[r]
   rw[j]
   refine⟨m,e,d,?_,?_,?_⟩
   ·rcases mem with z|z
    ·right;simp[z]
    ·right;simp[z]
   ·right
    rcases c with z|z
    ·rw[<-z];exact r
    ·exact f _ _ _ d sg sh z r
   ·intro x a
    rcases Jx.mp a with z|z
    ·subst z;exact c
    ·exact i x z
  ·obtain⟨m,e,d,mem,c,i⟩:=fold_min b f l h sh (fun x a=>hl x (by simp[a]))
   have j:bQ R (LZ h) g=LZ h:=by unfold bQ;simp[r]
   rw[j]
   refine⟨m,e,d,?_,c,?_⟩
   ·rcases mem with z|z
    ·exact .inl z
    ·right;simp[z]
   ·intro x a
    rcases Jx.mp a with z|z
    ·subst z
     by_cases ne:x=h
     ·subst ne;exact c
     ·rcases b x h sg sh ne with q|q
      ·exact absurd q r
      ·rcases c with z|z
       ·right;rw[<-z];exact q
       ·right;exact f _ _ _ d sh sg z q
    ·exact i x z
def jg(ws:rr)(f g:Nat):Bool:=decide (fa ws g=fb ws f)&&decide (g≠fx f)
def cV(ws:rr)(f:Nat):pq:=(J8 (2*ws.length)).filter (jg ws f)
def N0(ws:rr)(f g h:Nat):Bool:=O0 (fd ws (fx f)) (fd ws g) (fd ws h)
def bh(ws:rr)(f:Nat):Nat:=((cV ws f).foldl (bQ (N0 ws f)) MA).getD (fx f)
theorem bG{ws:rr}{f g:Nat}:g∈cV ws f↔g<2*ws.length/\fa ws g=fb ws f/\g≠fx f:=by unfold cV jg;simp[Jb]
theorem g8{ws:rr}(j:∀w∈ws,Mn w)(hF:PF ws){f:Nat}(hf:f<2*ws.length):(cV ws f=[]/\bh ws f=fx f)\/(bh ws f∈cV ws f/\∀x∈cV ws f,x=bh ws f\/N0 ws f (bh ws f) x=MB):=by
 unfold bh;cases c:cV ws f with
 |nil=>exact .inl ⟨rfl,rfl⟩
 |cons g l=>
  right
  have sub:∀x∈g::l,x<2*ws.length/\fa ws x=fb ws f/\x≠fx f:=fun x d=>bG.mp (by rw[c];exact d)
  have h:∀x,(x<2*ws.length/\fa ws x=fb ws f/\x≠fx f)->PH (fd ws (fx f)) (fd ws x):=fun x d=>ie j hF (kA hf) d.1 (fun z=>d.2.2 z.symm) (by rw[fH,d.2.1])
  obtain⟨m,e,q,mem,k,n⟩:=fold_min (R:=N0 ws f) (S:=fun x=>x<2*ws.length/\fa ws x=fb ws f/\x≠fx f) (fun x y d i ne=>vN (h x d) (h y i) (ie j hF d.1 i.1 ne (by rw[d.2.1,i.2.1]))) (fun x y z d i o a b=>wa (h x d) (h y i) (h z o) a b) l g (sub g (by simp)) (fun x d=>sub x (by simp[d]))
  rw[Ld]
  have p:bQ (N0 ws f) MA g=LZ g:=rfl
  rw[p,e]
  simp only[Option.getD_some]
  refine⟨by rcases mem with z|z<;>simp[z],fun x d=>?_⟩
  rcases Jx.mp d with z|z
  ·subst z;exact k
  ·exact n x z
theorem Cb{ws:rr}(a:∀w∈ws,Mn w)(hF:PF ws){f:Nat}(hf:f<2*ws.length):bh ws f<2*ws.length:=by
 rcases g8 a hF hf with⟨_,e⟩|⟨h,_⟩
 ·rw[e];exact kA hf
 ·exact(bG.mp h).1
theorem ku{ws:rr}(a:∀w∈ws,Mn w)(hF:PF ws){f:Nat}(hf:f<2*ws.length):fa ws (bh ws f)=fb ws f:=by
 rcases g8 a hF hf with⟨_,e⟩|⟨h,_⟩
 ·rw[e,fH]
 ·exact(bG.mp h).2.1
theorem CH{ws:rr}(a:∀w∈ws,Mn w)(hF:PF ws){f g:Nat}(hf:f<2*ws.length)(b:g<2*ws.length)(e:bh ws f=bh ws g):f=g:=by
 by_cases ne:fx f=fx g
 ·rw[<-Ck f,ne,Ck]
 ·exfalso;have c:fb ws f=fb ws g:=by rw[<-ku a hF hf,<-ku a hF b,e]
  have d:fx g∈cV ws f:=bG.mpr ⟨kA b,by rw[fH,c],fun z=>ne z.symm⟩;have h:fx f∈cV ws g:=bG.mpr ⟨kA hf,by rw[fH,c],ne⟩;rcases g8 a hF hf with⟨z,_⟩|⟨k1,j⟩
  ·rw[z]at d;cases d
  ·rcases g8 a hF b with⟨z,_⟩|⟨k,l⟩
   ·rw[z]at h;cases h
   ·have m:=(bG.mp k1).2.2;have n:=(bG.mp k).2.2;have o:=(j _ d).resolve_left (fun z=>n (by rw[<-e,<-z]));have i:=(l _ h).resolve_left (fun z=>m (by rw[e,<-z]));rw[<-e]at i;exact AB (ie a hF (kA hf) (kA b) ne (by rw[fH,fH,c])) o i
def NP(ws:rr)(f:Nat):Nat->Nat
 |0=>f
 |k+1=>bh ws (NP ws f k)
def rn(ws:rr)(f k:Nat):pq:=(J8 (k+1)).map (NP ws f)
def NR(ws:rr)(f k:Nat):Prop:=∀i j,i<j->j<=k->NP ws f i≠NP ws f j
theorem ft(ws:rr)(f k:Nat):(rn ws f k).length=k+1:=by simp[rn]
theorem lj(ws:rr)(f k:Nat):rn ws f (k+1)=rn ws f k++[NP ws f (k+1)]:=by unfold rn;rw[Kw,Jg];rfl
theorem vM(ws:rr)(f:Nat):rn ws f 0=[f]:=rfl
theorem zu:∀(m:Nat) (l:pq),l.Nodup->(∀x∈l,x<m)->l.length<=m
 |0,l,_,h=>by
  cases l with
  |nil=>simp
  |cons a l=>exact absurd (h a (by simp)) ()
 |m+1,l,nd,h=>by
  have d:=zu m (l.erase m) (nd.erase m) (fun x b=>by
   have:=h x (List.mem_of_mem_erase b)
   have ne:x≠m:=fun z=>by
    subst z
    exact absurd b (nd.not_mem_erase)
   omega)
  have:=List.length_erase_le (a:=m) (l:=l)
  by_cases c:m∈l
  ·have:=List.length_erase_of_mem c;omega
  ·rw[List.erase_of_not_mem c]at d;omega
section
variable{ws:rr}(hU:∀w∈ws,Mn w)(hF:PF ws){f:Nat}(hf:f<2*ws.length)
include hU hF hf
theorem dm:∀k,NP ws f k<2*ws.length
 |0=>hf
 |k+1=>Cb hU hF (dm k)
theorem uS{k:Nat}(h:NR ws f k)(ne:bh ws (NP ws f k)≠f):NR ws f (k+1):=fun i j a b e=>by
 by_cases q:j<=k
 ·exact h i j a q e
 ·have:j=k+1:=()
  subst this;cases i with
  |zero=>exact ne e.symm
  |succ i=>exact h i k () (IY _) (CH hU hF (dm hU hF hf i) (dm hU hF hf k) e)
theorem nK{k:Nat}(h:NR ws f k):k+1<=2*ws.length:=by
 rw[<-ft ws f k];refine zu _ _ ?_ (fun x d=>?_)
 ·unfold rn;rw[List.nodup_iff_pairwise_ne,List.pairwise_map];refine List.Pairwise.imp_of_mem ?_ (List.pairwise_lt_range (n:=k+1));intro a b g e c;exact h a b c (by have:=Jv.mp e;omega)
 ·unfold rn at d;obtain⟨i,_,rfl⟩:=JC.mp d;exact dm hU hF hf i
end
structure YH(ws:rr)(r:pq):Prop where
 ex:∃f k,f<2*ws.length/\k+1<=2*ws.length/\r=rn ws f k/\bh ws (NP ws f k)=f
theorem vd(ws:rr)(f:Nat):NR ws f 0:=fun i j a b=>()
theorem round0{ws:rr}(b:∀w∈ws,Mn w)(hF:PF ws){f k:Nat}(hf:f<2*ws.length)(c:bh ws (NP ws f k)=f)(a:Vc->Rat):((rn ws f k).map fun g=>a (fb ws g)-a (fa ws g)).sum=0:=by
 have key:∀k,((rn ws f k).map fun g=>a (fb ws g)-a (fa ws g)).sum=a (fb ws (NP ws f k))-a (fa ws f):=fun k=>by
  induction k with
  |zero=>rw[vM];simp only[J0,Kh,JH,List.sum_nil,Rat.add_zero];rfl
  |succ k d=>
   rw[lj,Jg,List.sum_append,d]
   simp only[J0,Kh,JH,List.sum_nil]
   have:fa ws (NP ws f (k+1))=fb ws (NP ws f k):=ku b hF (dm b hF hf k)
   rw[this]
   grind
 rw[key,<-ku b hF (dm b hF hf k),c];grind
def NL(ws:rr)(g:Nat):Int:=(fa ws g).1*(fb ws g).2-(fb ws g).1*(fa ws g).2
def Rc(t b X Y:Int)(ws:rr)(g:Nat):Rat:=MU t b X 1 (fa ws g).1*MU t b Y 1 (fb ws g).2-MU t b X 1 (fb ws g).1*MU t b Y 1 (fa ws g).2
theorem va(a c d:Rat)(u v w:Nat->Rat):∀l:pq,(l.map fun g=>a*u g+(c*v g+d*w g)).sum=a*(l.map u).sum+(c*(l.map v).sum+d*(l.map w).sum)
 |[]=>by simp;grind
 |g::l=>by
  rw[J0,JH,va a c d u v w l,J0,JH,J0,JH,J0,JH]
  grind
theorem qg(u:ri):∀l:pq,(l.map fun g=>((u g:Int):Rat)).sum=(((l.map u).sum:Int):Rat)
 |[]=>by simp
 |g::l=>by
  rw[J0,JH,qg u l,J0,JH,Lf]
theorem GB{ws:rr}(d:∀w∈ws,Mn w)(hF:PF ws){r:pq}(h:YH ws r){t b X Y:Int}(a:0<b):(r.map (Rc t b X Y ws)).sum=((t:Rat)/b)*((t:Rat)/b)*(((r.map (NL ws)).sum:Int):Rat):=by
 obtain⟨f,k,hf,_,rfl,c⟩:=h.ex;have i:=round0 d hF hf c (fun p=>((p.1:Int):Rat));have j:=round0 d hF hf c (fun p=>((p.2:Int):Rat))
 have e:(Rc t b X Y ws)=fun g=>(((t:Rat)/b)*((t:Rat)/b))*((NL ws g:Int):Rat)+((-(((t:Rat)/b)*((Y:Rat)/b)))*((((fb ws g).1:Int):Rat)-(((fa ws g).1:Int):Rat))+(((t:Rat)/b)*((X:Rat)/b))*((((fb ws g).2:Int):Rat)-(((fa ws g).2:Int):Rat))):=by
  funext g
  unfold Rc NL;rw[dD a,dD a,dD a,dD a,Km,JI,JI];grind
 rw[e,va,qg];rw[i,j];grind
theorem uH(q:Rat)(B:Int)(h:(q.den:Int) ∣ B):((q.num*B.fdiv (q.den:Int):Int):Rat)=q*(B:Rat):=by
 obtain⟨k,rfl⟩:=h;have hd:(q.den:Int)≠0:=by have:=q.den_nz;omega
 have e:((q.den:Int)*k).fdiv (q.den:Int)=k:=by rw[JM _ ()];exact Int.mul_ediv_cancel_left k hd
 rw[e,JI,JI];have a:((q.den:Int):Rat)≠0:=fun z=>hd (by exact_mod_cast z)
 have m:q*((q.den:Int):Rat)=(q.num:Rat):=by
  have e:=Rat.num_divInt_den q
  rw[Rat.divInt_eq_div]at e
  rw[<-e]
  have e3:((q.num:Rat)/((q.den:Int):Rat))*((q.den:Int):Rat)=(q.num:Rat):=by grind
  rw[e]at e3 ⊢
  exact e3
 rw[<-m];grind
theorem Ba{n d:Int}(hd:0<d):((Rat.divInt n d).den:Int) ∣ d:=by rw[Rat.den_divInt,MD ()];have a:d.natAbs/d.gcd n ∣ d.natAbs:=Nat.div_dvd_of_dvd (Int.ofNat_dvd_left.mp (Int.gcd_dvd_left d n));exact Int.ofNat_dvd_left.mpr a
section
variable{X:Cx}
def Hi:N3:=PZ (fun _ _=>True) fun i j=>.int (Builtin.bitXor i j)
theorem C1:N4 X (KZ .BitXor) Hi:=dA (Rn CU) fun _ _ _=>by rw[Rep]
variable{o:oT}{to:TD}{apos bC:Pos}
end
theorem EC:∀f:Nat,f<80->Builtin.bitXor (f:Int) 1=((fx f:Nat):Int):=⋯
def Rv(n:Nat)(S:Int->Bool):I0->Hp->n7->Prop:=fun K H a=>∃kvs:List (Key×V),H a=LZ (.dK kvs)/\kvs.length<=n/\∀i:Int,(kvs.any fun b=>decide (b.1=Sum.inl i))=S i
def Qq(n:Nat)(S:Int->Bool):MO:=.gen (Rv n S)
section
variable{K:I0}{H H':Hp}{M:MH}{a:n7}
theorem Rv.zD{n:Nat}{S:Int->Bool}(h:Rv n S K H a):rQ K H a (Qq n S):=⟨h,(by obtain⟨kvs,b,_⟩:=h;rw[b];simp),fun H' g e=>let⟨kvs,b,c⟩:=h;⟨kvs,e.trans b,c⟩⟩
theorem My.di{n:Nat}{S:Int->Bool}(h:My K H M)(e:M a=LZ (Qq n S)):Rv n S K H a:=(h a _ e).1
theorem My.Fj{p:n7}(h:My K H M)(b:H p=MA):My K (upd H p (.dK [])) (az M p (Qq 0 fun _=>MC)):=fun a u e=>by
 by_cases ne:a=p
 ·subst ne;rw[ag]at e;cases e;exact Rv.zD ⟨[],bc,IY _,fun _=>rfl⟩
 ·rw[ao ne]at e;exact(h a u e).iU (.new b) (aZ ne)
theorem Mp.dK{kvs:List (Key×V)}{o:HO}(h:H a=LZ (.dK kvs)):Mp K H (upd H a o):=.put (fun xs e=>by rw[h]at e;cases e) (fun u xs e=>by rw[h]at e;cases e)
theorem My.FF{n:Nat}{S:Int->Bool}{kvs:List (Key×V)}{i:Int}{v:V}(h:My K H M)(b:H a=LZ (.dK kvs))(g:kvs.length<=n)(d:∀i:Int,(kvs.any fun f=>decide (f.1=Sum.inl i))=S i) : My K (upd H a (.dK (putK kvs (.inl i) v))) (az M a (Qq (n+1) fun j=>decide (j=i)||S j)):=fun c u e=>by
 by_cases ne:c=a
 ·subst ne;rw[ag]at e;cases e;refine Rv.zD ⟨_,bc,by have:=gr kvs (.inl i) v;omega,fun j=>?_⟩;rw[ez,yp];by_cases z:j=i
  ·subst z;rw[ME rfl];simp
  ·rw[MD (fun q=>z (by injection q)),<-ez,d];simp[z]
 ·rw[ao ne]at e;exact(h c u e).iU (.dK b) (aZ ne)
end
section
variable{X:Cx}{pos:Pos}
def CV:TD:=fun _ M Q=>∀p,M p=MA->Q (.ref p) (az M p (Qq 0 fun _=>MC))
theorem yH:DE X (.Dict [] [] pos) CV:=bj zE fun σ H Q a=>by obtain⟨δ,M,R,e,d,q,b⟩:=a;exact(fun p c=>b _ _ _ _ (.new c) (by rw[Rep]) (d.Fj c) (q p (d.fresh c)))
def Cu(g:Bool->Bool)(ty b:TD):TD:=fun δ M Q=>ty δ M fun y c=>b δ c fun x a=>∃i l n S,y=.int i/\x=.ref l/\a l=LZ (Qq n S)/\Q (.bl (g (S i))) a
theorem Ai{K:I0}{g:Bool->Bool}{ty e:TD}{σ:L2.St}{H:Hp}{Q:VK}(h:lift K (Cu g ty e) σ H Q) : (lift K ty) σ H fun y H1=>(lift K e) σ H1 fun x c=>∃a o,x=.ref a/\D1 c a y o/\Q (.bl (g o.isSome)) c:=by obtain⟨δ,M,R,f,r,q,d⟩:=h;refine⟨δ,M,_,f,r,q,fun y s v H1 j k t w=>⟨δ,s,_,f.mono j,t,w,fun x F u c z m p b=>?_⟩⟩;obtain⟨i,l,n,S,A,ex,B,C⟩:=b;subst A ex;rw[Rep]at k;rw[Rep]at m;subst k m;obtain⟨kvs,D,G,E⟩:=p.di B;refine⟨l,fy kvs (.inl i),rfl,.inl ⟨kvs,.inl i,.inl D,rfl,rfl⟩,?_⟩;rw[<-ez,E];exact d _ _ _ _ (j.trans z) (by rw[Rep]) p C
variable{e1 e2:oT}{ty td:TD}
theorem ud(p:X.A.units+66<K0)(j:DE X e1 ty)(k:DE X e2 td)(l:LJ .NotIn e2=MC:=by rfl):DT X (.Compare e1 [.NotIn] [e2] pos) (tBD (Cu (fun b=>!b) ty td)):=
 mh (E6 (wU () j k) l) fun σ H Q e=>by obtain⟨δ,M,R,m,n,q,h⟩:=e;exact(Ai (g:=fun b=>!b) (Q:=fun x i=>∃c,x=.bl c/\Q c i) ⟨δ,M,_,m,n,q,fun d s v i g r a f=>by
  obtain⟨c,o,z⟩:=f
  subst o
  rw[Rep]at r;subst r
  exact⟨c,rfl,h _ _ _ g a z⟩⟩)
def C5(td ty b:TD):NV:=fun B δ M=>b δ M fun d c=>td δ c fun x e=>ty δ e fun y a=>∃l i n S,x=.ref l/\y=.int i/\a l=LZ (Qq n S)/\n<1000000/\B.nx δ (az a l (Qq (n+1) fun j=>decide (j=i)||S j))
theorem zi{o i a:oT}{k:TD}{b:Pos}(V:X.A.units+66<K0)(z:DE X o td)(C:DE X i ty)(E:DE X a k)(f:Lo a (LZ (.Subscript o i b)) pos.line X.env=pure MC:=by rfl):DSt X (.Assign [.Subscript o i b] a pos) (C5 td ty k):=
 cU (Aq () z C E f) fun D σ H c=>by obtain⟨δ,M,f,F,B,ok,q⟩:=c;exact(⟨δ,M,_,f,F,q,fun d G v H1 g W I J=>⟨δ,G,_,f.mono g,I,J,fun x L u Y h m N O=>⟨δ,L,_,(f.mono g).mono h,N,O,fun y Z u3 p r s t e=>by
  obtain⟨l,i,n,S,ex,P,Q,hn,R⟩:=e
  subst ex P
  rw[Rep]at m;rw[Rep]at s;subst m s
  obtain⟨kvs,j,T,U⟩:=t.di Q
  have sz:1000000<=J7:=Mo rfl
  have w:Mp X.K p (upd p l (.dK (putK kvs (.inl i) v))):=.dK j
  exact⟨l,_,rfl,.inl ⟨kvs,.inl i,j,rfl,(),rfl⟩,ok.nx _ _ _ _ (((g.trans h).trans r).trans w) (f.mono (((g.trans h).trans r).trans w)) (t.FF j T U) R⟩⟩⟩⟩)
end
def gn(ws:rr)(f:Nat)(r:pq):Prop:=∃a,NR ws f a/\bh ws (NP ws f a)=f/\r=rn ws f a
theorem BO{ws:rr}{f:Nat}{r c:pq}(h:gn ws f r)(h':gn ws f c):r=c:=by
 obtain⟨k,n,e,rfl⟩:=h;obtain⟨g,i,j,rfl⟩:=h';have d:∀{a b:Nat},NR ws f b->bh ws (NP ws f a)=f->¬a<b:=fun{a b} n e l=>n 0 (a+1) () () e.symm;have m:=d i e;have o:=d n j;have:k=g:=()
 rw[this]
def OO(ws:rr):Nat->pe->Prop
 |0,rs=>rs=[]
 |i+1,rs=>∃qs,OO ws i qs/\((i∈qs.flatten/\rs=qs)\/(i∉qs.flatten/\∃r,gn ws i r/\rs=qs++[r]))
theorem yW{ws:rr}:∀{i:Nat} {c b:pe},OO ws i c->OO ws i b->c=b
 |0,c,b,h,h'=>by rw[show c=[]from h,show b=[]from h']
 |i+1,c,b,⟨qs,h1,h2⟩,⟨qs',h1',h2'⟩=>by
  have:=yW h1 h1'
  subst this
  rcases h2 with⟨a,rfl⟩|⟨a,r,f,rfl⟩
  ·rcases h2' with⟨d,rfl⟩|⟨d,_⟩
   ·rfl
   ·exact absurd a d
  ·rcases h2' with⟨d,_⟩|⟨d,g,e,rfl⟩
   ·exact absurd d a
   ·rw[BO f e]
def RL(M:MH)(ps:rb)(a:pe):Prop:=LX (fun(p:n7) (r:pq)=>M p=LZ (.lst (r.map r3))) ps a
theorem RL.len{M:MH}{ps:rb}{a:pe}(h:RL M ps a):ps.length=a.length:=by
 unfold RL at h
 induction h with
 |nil=>rfl
 |cons _ _ b=>rw[K1,K1,b]
theorem RL.mono{M b:MH}{ps:rb}{c:pe}(h:RL M ps c)(s:∀p∈ps,∀o,M p=LZ o->b p=LZ o):RL b ps c:=by
 unfold RL at *
 induction h with
 |nil=>exact .nil
 |cons a _ d=>exact .cons (s _ (by simp) _ a) (d fun p f o e=>s p (by simp[f]) o e)
theorem RL.snoc{M:MH}{ps:rb}{a:pe}{p:n7}{r:pq}(h:RL M ps a)(e:M p=LZ (.lst (r.map r3))):RL M (ps++[p]) (a++[r]):=Paired.snoc h e
section
variable{X:Cx}
def p0(us:List (Int×Int))(i:Nat):Int×Int:=us.getD i (0,0)
theorem sZ{us:List (Int×Int)}{i:Nat}(h:i<us.length):p0 us i∈us:=by unfold p0;rw[List.getD_eq_getElem?_getD,IT h];exact JQ h
variable{prog:Jk}{w:JJ}{A:JP}{E:o_}{s:IS}
end
section
variable{X:Cx}
def Nj(u v:Int×Int):Prop:=100*u.1+u.2<100*v.1+v.2
end
def kT(h:oa)(d:n7)(es:Array K3)(ep:Nat):Prop:=∃o,h.get? d=LZ o/\o.ExactDict/\o.data=.dict es ep
section
variable{prog:Jk}{w:JJ}{A:JP}{E:o_}{s:IS}{d it:n7}{es:Array K3}{ep i:Nat}
theorem kT.ty(h:kT s.heap d es ep):s.TypeIs (.ref d) "dict":=let⟨o,a,b,_⟩:=h;⟨o,a,b.1⟩
theorem kT.kept{h h':oa}(q:kT h d es ep)(k:∀o,h.get? d=LZ o->h'.get? d=LZ o):kT h' d es ep:=let⟨o,a,b⟩:=q;⟨o,k o a,b⟩
theorem kT.lt{h:oa}(q:kT h d es ep):d<h.objs.size:=let⟨_,a,_⟩:=q;J6 a
theorem yn{Q:o_}(f:(d==Ky)=MC)(b:kT s.heap d es ep)
 (q:Q (.ref s.z) { s with heap:=s.heap.push { cls:=.type "dict_keyiterator",data:=.fields #[.ref d,.int 0 0,.int es.size 0,.int ep 0] } }):J4 (Jf prog w) A (pyIter (.ref d)) Q E s:=by
 have a:=b.ty
 obtain⟨o,c,g,e⟩:=b
 refine wpAny_pyIter_slot a F.slot_dict_iter (L4 F.slot_dict_iter a F.entry_dict_iter ?_ (F.args_dict_iter_1 _))
 unfold LY.«dict.__iter__»
 refine cc ?_
 unfold Builtin.Dict.dictSlotNone
 refine cc (wpAny_notOrdered_dict a ?_)
 show J4 _ _ (pure (Kc d)) _ _ s
 refine IU ?_
 show J4 _ _ (Builtin.Dict.showsAll d >>= _) _ _ s
 unfold Builtin.Dict.showsAll
 rw[MD (by rw[f];exact J9)]
 refine cc (IU (cc (wpAny_dictEntries c e (cc (wpAny_dictEpoch c e ?_)))))
 refine cc (Jy (IU ⟨_,rfl,"dict_keyiterator",_,⟨_,J3 _ rfl,rfl⟩,Kx.lookup,?_⟩))
 simpa[rawInt]using q
theorem xw{Q:p_->IS->Prop}(b:s.heap.IsKeyIter it d i es.size ep)(h:kT s.heap d es ep)(j:i<es.size)
 (k:∀h':oa,h'.IsKeyIter it d (i+1) es.size ep->L6 it s.heap h'->Q (LZ es[i].key) { s with heap:=h' }):J4 (Jf prog w) A (pyNext (.ref it)) Q E s:=by
 obtain⟨o,c,l,hd⟩:=id b
 obtain⟨od,e,m,f⟩:=h
 have a:=b.typeIs
 unfold pyNext
 refine cc (wpAny_attempt (KG (name:=Kp "__next__") a Kx (L4 Kx a F.entry_dict_keyiterator_next ?_ (F.args_dict_keyiterator_next_1 _))))
 refine cc (IU (cc (cc ?_)))
 first|refine cc (L9 a (IU ?_))|refine cc (wpAny_typeNameOf_keyiter a (IU ?_))
 refine cc (wpAny_fieldsOf c hd ?_)
 simp only[show Builtin.Dict_items.ownsTuple "dict_keyiterator"=MC by decide,Kz,if_false]
 show J4 _ _ (if(Kc d==KL)=MB then _ else _) _ _ s
 rw[MD (show ¬((Kc d==KL)=MB)from J9)]
 refine cc (IU (cc (wpAny_dictEntries e f ?_)))
 rw[MD (by simp)]
 refine cc (IU (cc (wpAny_dictEpoch e f ?_)))
 rw[MD (by simp)]
 refine IU ?_
 simp only[show ¬((i:Int)<0)from by omega,if_false,K7,Array.getElem?_eq_getElem j]
 refine cc ?_
 first|refine cc (L9 a (IU ?_))|refine cc (wpAny_typeNameOf_keyiter a (IU ?_))
 refine cc (wpAny_isOneOf_keyiter a ?_)
 show J4 _ _ (setField (.ref it) 1 (rawInt ((i:Int)+1)) >>= _) _ _ s
 refine cc (wpAny_setField c hd (by simp) ?_)
 have g:(s.heap.update it (Obj.mapFields (·.setIfInBounds 1 (rawInt ((i:Int)+1))))).IsKeyIter it d (i+1) es.size ep:=
  ⟨_,Kl _ c (Obj.isFreed_of_fields (Obj.data_mapFields hd _)),(Obj.cls_mapFields ..).trans l,by rw[Obj.data_mapFields hd];simp[rawInt]⟩
 refine cc (K8 (cc (wpAny_isOneOf_keyiter (s:={ s with heap:=s.heap.update it (Obj.mapFields (·.setIfInBounds 1 (rawInt ((i:Int)+1)))) }) g.typeIs ?_)))
 show J4 _ _ (pure es[i].key) _ _ _
 exact IU (IU ⟨_,rfl,IU (k _ g (KS ..))⟩)
theorem Bi{Q:p_->IS->Prop}(j:A.handled=MA)(e:s.heap.IsKeyIter it d es.size es.size ep)(k:kT s.heap d es ep)
 (l:∀h',Heap.ExtBut it s.heap h'->Q MA { s with heap:=h' }):J4 (Jf prog w) A (pyNext (.ref it)) Q E s:=by
 obtain⟨o,f,n,hd⟩:=id e
 obtain⟨od,g,p,h⟩:=k
 have c:=e.typeIs
 unfold pyNext
 refine cc (wpAny_attempt (KG (name:=Kp "__next__") c Kx (L4 Kx c F.entry_dict_keyiterator_next ?_ (F.args_dict_keyiterator_next_1 _))))
 refine cc (IU (cc (cc ?_)))
 first|refine cc (L9 c (IU ?_))|refine cc (wpAny_typeNameOf_keyiter c (IU ?_))
 refine cc (wpAny_fieldsOf f hd ?_)
 simp only[show Builtin.Dict_items.ownsTuple "dict_keyiterator"=MC by decide,Kz,if_false]
 show J4 _ _ (if(Kc d==KL)=MB then _ else _) _ _ s
 rw[MD (show ¬((Kc d==KL)=MB)from J9)]
 refine cc (IU (cc (wpAny_dictEntries g h ?_)))
 rw[MD (by simp)]
 refine cc (IU (cc (wpAny_dictEpoch g h ?_)))
 rw[MD (by simp)]
 refine IU ?_
 simp only[show ¬((es.size:Int)<0)from by omega,if_false,K7,Array.getElem?_eq_none (IY es.size)]
 refine cc ?_
 first|refine cc (L9 c (IU ?_))|refine cc (wpAny_typeNameOf_keyiter c (IU ?_))
 show J4 _ _ (setField (.ref it) 0 .none >>= _) _ _ s
 refine cc (wpAny_setField f hd (by simp) ?_)
 show J4 _ _ (newExc (.type "StopIteration") [] >>= _) _ _ _
 refine cc ?_
 simp only[newExc,newTuple]
 refine cc (Jy ?_ (by size_fits))
 refine cc (m:=firstArgMember _ _) (wpAny_of_eq (a:=KL) (by first|rfl|(simp only[firstArgMember];rfl)) ?_)
 refine Jy ?_ (by size_fits)
 simp only[raiseNew]
 refine cc (wpAny_handled ?_)
 rw[show A.in1.handled=MA from j]
 refine cc (IU (wpAny_throw ?_))
 refine cc (wpAny_isInstance (T:="StopIteration") (b:=MB) ⟨_,J3 _ rfl,rfl⟩ isSubtype_stop ?_)
 exact IU (l _ (((KS ..).extBut.push _).push _))
theorem wy(m:A.handled=MA)(I d:n7)(f:d≠I)(es:Array K3)(ep:Nat):Walks prog w A I [I,d] [I] es.size (fun i v=>∃e,es[i]?=LZ e/\v=e.key) (fun i h=>h.IsKeyIter I d i es.size ep/\kT h d es ep) where
 sub:=fun b a=>by simp at a;simp[a]
 frame:=fun _ _ _ st j=>⟨st.1.at fun o e=>j I (by simp) o e,st.2.kept fun o e=>j d (by simp) o e⟩
 item:=fun i s Q E k st c=>xw st.1 st.2 k fun g n l=>c _ g s.toks ⟨es[i],by simp[k],rfl⟩ ⟨n,st.2.kept fun o e=>(l.2 d f).trans e⟩ fun b o a e=>l.extBut b o (fun h=>a (by simp[h])) e
 done:=fun s Q E st c=>Bi m st.1 st.2 fun g p=>c g s.toks fun b o a e=>p b o (fun h=>a (by simp[h])) e
 self:=fun _ _ _ _ st c=>wpAny_pyIter_keyiter st.1 c
theorem Ay(c:(d==Ky)=MC):PySem.W.KdlSrc prog w "dict" d d es.size (fun i v=>∃e,es[i]?=LZ e/\v=e.key) (fun h=>kT h d es ep) where
 type:=fun _ a=>a.ty
 there:=fun _ a=>⟨a.lt,a.lt⟩
 keep:=fun _ _ a f=>a.kept fun o e=>f d (.inl rfl) o e
 notList:=⋯
 notTuple:=⋯
 hint:=fun _ _ _ _ a b=>PySem.W.kdl_hint_dict a.ty b
 iter:=fun _ _ g a=>⟨_,_,(fun _ _ b=>yn c a b),wy g _ d (JB a.lt) es ep,⟨⟨_,J3 _ rfl,rfl,rfl⟩,a.kept fun o e=>IZ _ e⟩⟩
end
section
variable{X:Cx}
theorem xp{P:Jk}{w:JJ}{xs:List N1}{a:List (NH×n7×IQ)}(r:LX Qs xs a):(a.map (entryOfKey (d5 P w))).map (·.key)=xs.map fun x=>Kc x.2.1:=by
 induction r with
 |nil=>rfl
 |cons h t b=>simp only[J0,b,h.2.1];rfl
theorem n8:∀xs:List N1,Vals (xs.map fun x=>V.ref x.2.1) (xs.map fun x=>Kc x.2.1)
 |[]=>.nil
 |x::xs=>.cons rfl (n8 xs)
theorem qz(j:X.calm=MB):cg X (.type "list") (fun vs H Q=>∃p xs,vs=[.ref p]/\H p=LZ (.ext (ck X.prog X.w p xs))/\∀l,H l=MA->Q (.ref l) (upd H l (.lst (xs.map fun x=>V.ref x.2.1)))):=by
 intro MN s σ H vs us Q I r k;obtain⟨p,xs,m,n,q⟩:=k;subst m;obtain⟨u,rfl,t⟩:=vals1 r;cases t;obtain⟨⟨v,f,F,G,g,o,es,ep,y,z,A,h⟩,_⟩:=I.hok p _ n;have B:es.size=xs.length:=by rw[<-Array.length_toList,h,IV,k6 g]
 refine PySem.W.kdl_call (Ay (es:=es) (ep:=ep) v) (I.ok.hd j) ⟨o,y,z,A⟩ (by rw[B];exact f) fun C D a c kp E it=>?_
 have ea:a.toList=xs.map fun x=>Kc x.2.1:=by
  rw[<-xp (P:=X.prog) (w:=X.w) g,<-h];apply List.ext_getElem?;intro i;by_cases d:i<es.size
  ·have b:i<a.size:=by rw[it.1];exact d
   obtain⟨e,e1,e2⟩:=it.2 i a[i] (by simp[b]);simp[b,d]at e1 ⊢;rw[e2,<-e1]
  ·have b:¬i<a.size:=by rw[it.1];exact d
   simp[d,b]
 refine⟨.ref s.z,_,I.laid (t':=D) kp (IY _) (show cP X.prog X.w _ C _ (.lst _)from⟨by rw[IV];exact f,_,c,n8 xs,?_⟩),rfl,q _ (I.hok.fresh (IY _))⟩;rw[<-ea,Array.toArray_toList];exact E
def Dd:RC:=fun a M Q=>xF a M Q\/∃l kvs,a=[.ref l]/\M l=LZ (Ng kvs)/\∀p,M p=MA->Q (.ref p) (az M p (.lst (kvs.map fun x=>PV x.1)))
theorem oH{K:I0}{H:Hp}:∀{kvs:N6} {xs:List N1},xs.map (·.1)=kvs.map (·.1)->(∀x∈xs,dG K H x.2.1 x.1)->aG K H (kvs.map fun x=>PV x.1) (xs.map fun x=>V.ref x.2.1)
 |[],[],_,_=>by rw[Kh,Kh];exact aG.nil
 |y::kvs,x::xs,h,k=>by
  rw[J0,J0]at h
  injection h with e1 e2
  rw[J0,J0]
  exact aG.cons (by rw[<-e1];exact xJ (k x (by simp))) (oH e2 fun z a=>k z (by simp[a]))
 |[],_::_,h,_=>by cases h
 |_::_,[],h,_=>by cases h
theorem qH(f:X.calm=MB):dP X (.type "list") Dd:=by
 intro MN s σ H vs us Q I d g;obtain⟨h,M,R,e,a,q,b⟩:=g;rcases q with q|⟨l,kvs,i,j,q⟩
 ·exact Az MN s σ H vs us Q I d ⟨h,M,R,e,a,q,b⟩
 ·subst i;obtain⟨v,rfl,r⟩:=cv e;rw[Rep]at r;subst r;obtain⟨xs,k,m,n,o⟩:=a.dsp j;exact qz f MN s σ H _ us Q I d ⟨_,xs,rfl,k _ _,fun z c=>b (.ref z) _ _ _ (.new c) (by rw[Rep]) (a.nD c (oH m n)) (q z (a.fresh c))⟩
end
def Nf(t b X Y:Int)(u:Vc):D:=Mf (MU t b X 1 u.1) (MU t b Y 1 u.2)
def gk(t b X Y:Int)(u:Vc):NH:=((MU t b X 1 u.1).num,((MU t b X 1 u.1).den:Int),(MU t b Y 1 u.2).num,((MU t b Y 1 u.2).den:Int))
theorem tE(t b X Y:Int)(u:Vc):Nf t b X Y u=PV (gk t b X Y u):=rfl
theorem tN{t b X Y:Int}(a:0<t)(c:0<b){p q:Vc}(h:gk t b X Y p=gk t b X Y q):p=q:=by unfold gk at h;injection h with d h;injection h with e h;injection h with f g;have e1:MU t b X 1 p.1=MU t b X 1 q.1:=Rat.ext d (by exact_mod_cast e);have e2:MU t b Y 1 p.2=MU t b Y 1 q.2:=Rat.ext f (by exact_mod_cast g);have i:=(Md a c ⋯ ⋯).mp e1;have j:=(Md a c ⋯ ⋯).mp e2;exact Prod.ext () ()
def NY(u:Vc):Prop:=(0<=u.1/\u.1<=20)/\(0<=u.2/\u.2<=20)
def ea(w:Wl):Vc:=(w.1,w.2.1)
def eb(w:Wl):Vc:=(w.2.2.1,w.2.2.2)
theorem Mn.ea{w:Wl}(h:Mn w):NY (ea w):=⟨h.a,h.b⟩
theorem Mn.eb{w:Wl}(h:Mn w):NY (eb w):=⟨h.c,h.d⟩
def gu(us:List Vc)(u:Vc):List Vc:=if u∈us then us else us++[u]
theorem qf{us:List Vc}{u v:Vc}:v∈gu us u↔v∈us\/v=u:=by
 unfold gu;split
 ·constructor
  ·exact .inl
  ·rintro(h|rfl)
   ·exact h
   ·assumption
 ·simp
theorem uZ{us:List Vc}{u:Vc}(h:us.Nodup):(gu us u).Nodup:=by
 unfold gu;split
 ·exact h
 ·rename_i hn;rw[LI];refine⟨h,by simp,fun a c b d e=>?_⟩;have:b=u:=‹d›
  subst this;subst e;exact hn c
theorem mw(us:List Vc)(u:Vc):(gu us u).length<=us.length+1:=by
 unfold gu;split
 ·omega
 ·simp
def Nq(ws:rr):Nat->List Vc
 |0=>[]
 |i+1=>match ws[i]? with
  |some w=>gu (gu (Nq ws i) (ea w)) (eb w)
  |none=>Nq ws i
theorem t7(ws:rr):∀i,(Nq ws i).Nodup
 |0=>List.nodup_nil
 |i+1=>by
  unfold Nq
  split
  ·exact uZ (uZ (t7 ws i))
  ·exact t7 ws i
theorem oO(ws:rr):∀i,(Nq ws i).length<=2*i
 |0=>IY _
 |i+1=>by
  have a:=oO ws i
  unfold Nq
  split
  ·have b:=mw (gu (Nq ws i) (ea (by assumption:_))) (eb (by assumption:_))
   have c:=mw (Nq ws i) (ea (by assumption:_))
   omega
  ·omega
theorem oY{ws:rr}{u:Vc}:∀i,u∈Nq ws i↔∃j w,j<i/\ws[j]?=LZ w/\(u=ea w\/u=eb w)
 |0=>by simp[Nq]
 |i+1=>by
  have d:=oY (ws:=ws) (u:=u) i
  unfold Nq
  split
  ·rename_i w hw
   rw[qf,qf,d]
   constructor
   ·rintro((⟨j,v,c,b,a⟩|h)|h)
    ·exact⟨j,v,(),b,a⟩
    ·exact⟨i,w,(),hw,.inl h⟩
    ·exact⟨i,w,(),hw,.inr h⟩
   ·rintro⟨j,v,c,b,a⟩
    by_cases e:j=i
    ·subst e
     rw[hw]at b;cases b
     rcases a with a|a
     ·exact .inl (.inr a)
     ·exact .inr a
    ·exact .inl (.inl ⟨j,v,(),b,a⟩)
  ·rename_i hw
   rw[d]
   constructor
   ·rintro⟨j,v,c,b,a⟩
    exact⟨j,v,(),b,a⟩
   ·rintro⟨j,v,c,b,a⟩
    by_cases e:j=i
    ·subst e;rw[hw]at b;cases b
    ·exact⟨j,v,(),b,a⟩
theorem Gw{ws:rr}(a:∀w∈ws,Mn w){i:Nat}:∀u∈Nq ws i,NY u:=fun u b=>by
 obtain⟨j,w,_,c,d⟩:=(oY i).mp b;have:=a w (IW c);rcases d with rfl|rfl
 ·exact this.ea
 ·exact this.eb
def P8(t b X Y:Int)(us:List Vc):N6:=us.map fun u=>(gk t b X Y u,D.bl MB)
theorem Al{t b X Y:Int}(c:0<t)(d:0<b)(us:List Vc)(u:Vc):putD (P8 t b X Y us) (gk t b X Y u) (.bl MB)=P8 t b X Y (gu us u):=by
 have ea:((P8 t b X Y us).any fun x=>decide (x.1=gk t b X Y u))=decide (u∈us):=by
  rw[Kn,List.any_eq_true,MK];constructor
  ·rintro⟨x,f,e⟩;obtain⟨v,a,rfl⟩:=JC.mp f;have:gk t b X Y v=gk t b X Y u:=‹e›
   rw[<-tN c d this];exact a
  ·intro h;exact⟨_,JC.mpr ⟨u,h,rfl⟩,by simp⟩
 unfold putD gu;rw[ea];by_cases h:u∈us
 ·rw[ME ‹h›,ME h];unfold P8;rw[L7];refine KU fun v a=>?_;dsimp only[Function.comp];split
  ·rfl
  ·rfl
 ·rw[MD ‹h›,MD h];unfold P8;rw[Jg];rfl
theorem DF{ps:List Vc}{u:Vc}{j:Nat}(h:ps.Pairwise Nj)(m:j<=ps.length)(f:∀i,i<j->Nj (p0 ps i) u)(g:∀i,j<=i->i<ps.length->Nj u (p0 ps i)):(gJ ps j u).Pairwise Nj/\(gJ ps j u).Perm (u::ps):=by
 constructor
 ·unfold gJ;rw[List.pairwise_append]
  have lt:∀x∈ps.take j,Nj x u:=fun x b=>by
   obtain⟨i,c,rfl⟩:=List.getElem_of_mem b
   have a:i<j/\i<ps.length:=by rw[L3]at c;omega
   have:=f i a.1
   unfold p0 at this
   simpa[a.2]using this
  have e:∀x∈ps.drop j,Nj u x:=fun x b=>by
   obtain⟨i,c,rfl⟩:=List.getElem_of_mem b
   have a:j+i<ps.length:=by rw[List.length_drop]at c;omega
   have:=g (j+i) () a
   unfold p0 at this
   simpa[a]using this
  refine⟨h.sublist (List.take_sublist _ _),List.pairwise_cons.mpr ⟨e,h.sublist (List.drop_sublist _ _)⟩,fun x b y d=>?_⟩;rcases Jx.mp d with rfl|d
  ·exact lt x b
  ·have k:=lt x b;have l:=e y d;unfold Nj at k l ⊢;omega
 ·unfold gJ;have:(ps.take j++u::ps.drop j).Perm (u::(ps.take j++ps.drop j)):=List.perm_middle
  rwa [List.take_append_drop]at this
theorem zW{t b X Y:Int}(a:0<t)(c:0<b){u v:Vc}(d:NY u)(e:NY v):MW (MU t b X 1 u.1) (MU t b Y 1 u.2) (MU t b X 1 v.1) (MU t b Y 1 v.2)↔Nj u v:=lZ a c d.2 e.2
theorem NY.bx{t b X Y:Int}(S:N7 t b X Y){u:Vc}(h:NY u):MV 200 (MU t b X 1 u.1):=S.bx ⋯ (by have:=h.1;omega)
theorem NY.by'{t b X Y:Int}(S:N7 t b X Y){u:Vc}(h:NY u):MV 200 (MU t b Y 1 u.2):=S.by' ⋯ (by have:=h.2;omega)
theorem BD{u v:Vc}(a:NY u)(b:NY v)(ne:u≠v)(h:¬Nj u v):Nj v u:=by
 have c:=a.2;have d:=b.2;unfold Nj at h ⊢;by_cases e:100*u.1+u.2=100*v.1+v.2
 ·exact absurd (Prod.ext () ()) ne
 ·omega
def gP(t b X Y:Int)(u:Vc):LP:=oN (gk t b X Y u)
theorem uk{M:MH}(t b X Y:Int):∀us:List Vc,PX M (us.map (Nf t b X Y)) (us.map (gP t b X Y))
 |[]=>.nil
 |u::us=>.cons (Pd.of rfl) (uk t b X Y us)
theorem uG(t b X Y:Int):∀us:List Vc,KQ (us.map (gP t b X Y))=MB
 |[]=>rfl
 |u::us=>by rw[J0,KQ,uG t b X Y us];rfl
section
variable{X:Cx}{MN:pa}{σ:L2.St}{H:Hp}{s:IS}{a b:n7}{k:NH}
theorem yK{A:JP}{E:o_}{Q:Unit->IS->Prop}{xs:List N1}{v:V}{u:IQ}(G:A.units+8<K0)(I:L2.Inv X MN σ H s)(e:H a=LZ (.ext (ck X.prog X.w a xs)))(i:∀x∈xs,dG X.K H x.2.1 x.1)(j:dG X.K H b k)(f:RelV v u)(J:xs.length<J7)
 (h:∀g,L2.Inv X MN σ (upd H a (.ext (ck X.prog X.w a (fR xs k b v)))) g->Q .unit g):J4 (Jf X.prog X.w) A (dictSet a (.ref b) u) Q E s:=by
 obtain⟨hd,l,L,r,m⟩:=oK I e i
 refine wpAny_dictSet_heap (knd:=d5 X.prog X.w) (hsz:=by rw[<-k6 r];exact l) (():A.units+4<K0) (qE I j) m fun M c n=>h _ ?_
 obtain⟨q,o,p,d,t,z,B,_,C⟩:=c
 refine jq I (by rw[e];exact LL) n ⟨q,d⟩ ⟨⟨hd,?_,?_,_,ig r k b f,q,o,p,d,t,z,B⟩,⟨q,d⟩,fun D F x y=>kX D F x y⟩
 ·have:=lV xs k b v;omega
 ·rw[<-jt (ig r k b f)];exact C
end
theorem tL{prog:Jk}{w:JJ}{A:JP}{R:Result->IS->Prop}{s:IS}{g i a b:oT}{d:ra}{scope:Lp}{pos:Pos}{it:IQ}{D:n7}{env:Env}(J:Nat->IS->Prop)
 (step:∀n s,J n s->J4 (Jf prog w) A (pyNext it) (fun r j=>match r with
  |none=>R (.ok .next) j
  |some v=>J4 (Jf prog w) A (KW a it v) (fun _ l=>J4 (Jf prog w) A (LN a env v) (fun _ o=>
   J4 (Jf prog w) A (forIn d MB fun c r=>if r=MB then do let ok <-isTrue c env (eval c env);pure (Le ok)else pure (Le r)) (fun ok k=>
    if ok=MB then J4 (Jf prog w) A (eval g env) (fun p q=>J4 (Jf prog w) A (eval i env) (fun t u=>J4 (Jf prog w) A (dictSet D p t) (fun _ y=>∃m,m<n/\J m y) NQ u) NQ q) NQ k
    else ∃m,m<n/\J m k) NQ o) NQ l) NQ j) NQ s)
 (n:Nat) (h:J n s):Lb (Jf prog w) A (.compLoop (.DictComp g i [⟨a,b,d,0⟩] scope pos) 0 it (.ref D) env) R s:=by
 have f:∀{E:o_} e B,NQ e B->E e B:=fun _ _ z=>z.elim
 refine codeAny_loop rfl J (fun n s G=>?_) n h
 show J4 _ _ (Sem.onRaise (compTurn (.DictComp g i [⟨a,b,d,0⟩] scope pos) 0 it (.ref D) env) (fun x=>do noteFrame x env;theTreesLotGoes x)) _ _ s
 refine wpAny_noted ?_
 rw[compTurn_dict]
 refine cc (Ks (cc (Ja (step n s G) (fun r j C=>?_) f)))
 cases r with
 |none=>exact IU C
 |some v=>
  refine cc (Ja C (fun _ l H=>cc (Ja H (fun _ o I=>cc (Ja I (fun ok k F=>?_) f)) f)) f)
  cases ok with
  |false=>exact IU ⟨rfl,F⟩
  |true=>exact cc (cc (Ja F (fun p q K=>cc (K8 (Ja K (fun t u L=>cc (Ks (K8 (Ja L (fun _ y M=>IU ⟨rfl,M⟩) f)))) f))) f))
def zN(X:Cx)(js:pq)(own:Own)(tc:TT)(tk te:TE)(σ:L2.St)(J:It)(H1:Hp)(Q:VK):Prop:=∀D,H1 D=MA->∃W:Nat->Nat->Hp->Prop,(∃m,W 0 m (upd H1 D (.ext (ck X.prog X.w D []))))/\∀i m H,W i m H->
 (J.stop i H/\Q (.ref D) H)\/(J.go i H/\∀y d,J.yld i H y d->∃os,own y d os/\tc (cσ os js σ) d fun b e=>if b=MB then
  tk (cσ os js σ) e fun f g=>te (cσ os js σ) g fun v c=>∃b k xs,f=.ref b/\c D=LZ (.ext (ck X.prog X.w D xs))/\(∀x∈xs,dG X.K c x.2.1 x.1)/\dG X.K c b k/\xs.length<J7/\∃a,a<m/\W (i+1) a (upd c D (.ext (ck X.prog X.w D (fR xs k b v))))else ∃a,a<m/\W (i+1) a e)
def uI(X:Cx)(js:pq)(own:Own)(a:TI)(tc:TT)(tk te:TE):TE:=fun σ H Q=>a σ H fun J H1=>zN X js own tc tk te σ J H1 Q
section
variable{X:Cx}{xs:rf}{tg:oT}{pos:Pos}{js:pq}{scope:Lp}{kx vx iter:oT}{ifs:ra}{tk te:TE}{tc:TT}{g:TG}{own:Own}{wi:TI}{MN:pa}{σ:L2.St}{H:Hp}{s:IS}{fp:rb}{it:n7}{tn:Nat->oa->Prop}{J:It}
theorem vO(c:Mm X xs js scope)(hc:X.calm=MB)(hG:OE xs.length g own)(hg:∀C s H fp,PG (Mx X xs js scope C s H fp) tg g)(ht:∀C s H fp,R0 (Mx X xs js scope C s H fp) ifs tc)(hk:∀C s H fp,PE (Mx X xs js scope C s H fp) kx tk)(he:∀C s H fp,PE (Mx X xs js scope C s H fp) vx te)(hu:X.A.units+8<K0)
 {R:IQ->n7->Result->IS->Prop} {E:o_} {Q:VK}
 (I:Inv X MN σ H s) (T:Turn X.prog X.w X.K tg J fp it tn) (st:tn 0 s.heap) (hf:∀b∈fp,cQ X MN H b) (wc:zN X js own tc tk te σ J H Q)
 (hR:∀D C h G,Inv X MN σ h G->cQ X MN h C->(∃m,G.heap.Ns C m)->Q (.ref D) h->R (.ref D) C (.ok .next) G) :
 J4 (Jf X.prog X.w) X.A newDict (fun d0 e0=>J4 (Jf X.prog X.w) X.A (newFunctionEnv scope X.env.globals (fB scope.names X.env) [] X.env.qual MA .none (LZ X.env)) (fun N f0=>
  Lb (Jf X.prog X.w) X.A (.compStart (.DictComp kx vx [⟨tg,iter,ifs,0⟩] scope pos) 0 (.ref it) d0 { N with scope:=relabel scope X.env }) (R d0 N.locals) f0) E e0) E s:=by
 have g0:∀b∈fp,b<s.z:=fun b a=>let⟨o,e,_⟩:=T.obj 0 _ st b a;J6 e
 have hD:H s.z=MA:=I.hok.fresh (IY _)
 refine Jy (oV ?_)
 generalize hh:s.heap.push { cls:=.type "dict",data:=.dict #[] }=f
 generalize h0:pushCells (({ s with heap:=f }:IS).heap.push { cls:=.type "dict",data:=.dict #[] }) scope.names=j
 have k3:∀b o,s.heap.get? b=LZ o->f.get? b=LZ o:=fun b o e=>by rw[<-hh];exact IZ _ e
 have I3:Inv X MN σ (upd H s.z (.ext (ck X.prog X.w s.z []))) { s with heap:=f }:=by
  rw[<-hh];exact uB I
 have l:∀b∈fp,cQ X MN (upd H s.z (.ext (ck X.prog X.w s.z []))) b:=fun b a=>⟨by rw[aZ (JB (g0 b a))];exact(hf b a).1,(hf b a).2⟩
 have s0:f.objs.size=s.z+1:=by rw[<-hh,Ki]
 have i0:∀b∈fp,b<f.objs.size:=fun b a=>by rw[s0];exact Nat.lt_succ_of_lt (g0 b a)
 have k4:∀b o,f.get? b=LZ o->j.get? b=LZ o:=fun b o e=>by rw[<-h0];exact pushCells_keeps _ _ b o (IZ _ e)
 have I4:=mC c I3 l i0 (h':=j) h0.symm k4
 obtain⟨W,⟨m0,w0⟩,k0⟩:=wc _ hD
 have PU:tn 0 j:=T.keep 0 _ _ st fun b a o e=>k4 b o (k3 b o e)
 generalize hX:Mx X xs js scope f.objs.size { s with heap:=f } (upd H s.z (.ext (ck X.prog X.w s.z []))) fp=X' at I4
 have S:∀{pins':pa} {h:Hp} {L:L2.St} {G:IS},Inv X' [] L h G->(∀b∈fp,h b=MA)->∀b∈fp,cQ X' [] h b:=fun{pins' h L G} J' hn b a=>by
  subst hX
  obtain⟨a1,a2⟩:=J'.ok.exf b a
  exact⟨hn b a,a1,J'.ok.exfs b a,.inl a,a2,fun p hp=>absurd (show p∈([]:pa)from hp) (by simp)⟩
 have O:Lb (Jf X.prog X.w) X.A (.compLoop (.DictComp kx vx [⟨tg,iter,ifs,0⟩] scope pos) 0 (.ref it) (.ref s.z) (kO scope f.objs.size X.env)) (R (.ref s.z) f.objs.size)
  { s with heap:=j }:=by
  refine tL (fun n G=>∃i os h,os.length=xs.length/\Inv X' [] (cσ os js σ) h G/\tn i G.heap/\(∀b∈fp,h b=MA)/\W i n h) ?_ m0 ⟨0,_,_,by simp,I4,PU,fun b a=>(l b a).1,w0⟩
  rintro n s5 ⟨i,os,H5,t0,I5,OZ,l0,w5⟩
  rcases k0 i n H5 w5 with⟨stop,q⟩|⟨go,step⟩
  ·subst hX
   refine Ja (T.done (Mx X xs js scope f.objs.size { s with heap:=f } (upd H s.z (.ext (ck X.prog X.w s.z []))) fp) rfl rfl rfl hc i [] s5 _ H5 NQ I5 (S (pins':=[]) I5 l0) OZ stop) (fun r s6 U=>?_) fun _ _ z=>z
   obtain⟨hr,I6⟩:=U
   subst hr
   refine hR _ _ H5 s6 (I3.zb I6.os I6.base I6.hok I6.bare fun b a=>⟨(l b a).2.2.2.1,(l b a).2.1,(l b a).2.2.2.2.1,(l b a).2.2.2.2.2⟩) (I3.pV (IY _) I6.free) (let⟨m,hm,_⟩:=I6.loc;⟨m,hm⟩) q
  ·subst hX
   refine Ja (T.item (Mx X xs js scope f.objs.size { s with heap:=f } (upd H s.z (.ext (ck X.prog X.w s.z []))) fp) rfl rfl rfl hc i [] s5 _ H5 NQ I5 (S (pins':=[]) I5 l0) OZ go) (fun r s6 V=>?_) fun _ _ z=>z
   obtain⟨u,hr,h6⟩:=V
   subst hr
   refine Ja h6 (fun _ s7 Y=>?_) fun _ _ z=>z
   obtain⟨y,H7,I7,r7,y7,O1,u0⟩:=Y
   have v0:=I7.pinned (S (pins':=[]) I7 u0) (T.obj _ _ O1)
   obtain⟨M,n0,q8⟩:=step y H7 y7
   have l8:=hG.len _ _ _ n0
   refine Ja (hg _ _ _ _ _ s7 _ H7 y u (fun L h=>L=cσ M js σ/\h=H7) v0 r7 (hG.run y H7 os _ M _ t0 n0 ⟨rfl,rfl⟩)) (fun _ s8 Z=>?_) fun _ _ z=>z
   obtain⟨i1,H8,I8,e8,x0⟩:=Z
   subst e8 x0
   refine Ja (ht _ _ _ _ _ s8 _ _ _ I8 q8) (fun ok s9 a0=>?_) fun _ _ z=>z
   obtain⟨H9,I9,q9⟩:=a0
   have P:∀{m':Nat} {x:Hp} {t:IS},Inv (Mx X xs js scope f.objs.size { s with heap:=f } (upd H s.z (.ext (ck X.prog X.w s.z []))) fp) ([]++gQ fp s7.heap) (cσ M js σ) x t->m'<n->W (i+1) m' x->
    ∃m,m<n/\∃i os h,os.length=xs.length/\Inv (Mx X xs js scope f.objs.size { s with heap:=f } (upd H s.z (.ext (ck X.prog X.w s.z []))) fp) [] (cσ os js σ) h t/\tn i t.heap/\(∀b∈fp,h b=MA)/\W i m h:=fun{m' x t} B F y0=>by
    refine⟨m',F,i+1,M,x,l8,B.d9,T.keep _ _ _ O1 fun b a o e=>(B.pin (b,o) (Jh _ (Jh _ (bS a e)))).1,fun b a=>?_,y0⟩
    obtain⟨o',e,d⟩:=T.obj _ _ O1 b a
    exact(B.pin (b,o') (Jh _ (Jh _ (bS a e)))).2.1
   cases ok with
   |false=>
    rw[MD J9]at q9 ⊢
    obtain⟨m',F,w9⟩:=q9
    exact P I9 F w9
   |true=>
    rw[ME rfl]at q9 ⊢
    refine Ja (hk _ _ _ _ _ s9 _ _ _ I9 q9) (fun kv t b0=>?_) fun _ _ z=>z
    obtain⟨kk,x,B,z0,b1⟩:=b0
    refine Ja (he _ _ _ _ _ t _ _ _ B b1) (fun v j1 c0=>?_) fun _ _ z=>z
    obtain⟨vv,k1,c1,d1,b,k,ys,ek,o0,e1,f1,r0,m',F,g1⟩:=c0
    subst ek
    cases z0
    exact yK (X:=Mx X xs js scope f.objs.size { s with heap:=f } (upd H s.z (.ext (ck X.prog X.w s.z []))) fp) hu c1 o0 e1 f1 d1 r0 fun m1 h1=>P h1 F g1
 exact codeAny_compStart_dict O (T.self X.A 0 _ _ _ PU O)
theorem ym{i:Nat}{y:Str}{l j:Pos}(c:Mm X xs js scope)(F:X.calm=MB)(G:X.N.Nodup)(K:PI X tg iter wi)(L:OE xs.length g own)(M:∀C s H fp,PG (Mx X xs js scope C s H fp) tg g)(O:∀C s H fp,R0 (Mx X xs js scope C s H fp) ifs tc)(P:∀C s H fp,PE (Mx X xs js scope C s H fp) kx tk)(S:∀C s H fp,PE (Mx X xs js scope C s H fp) vx te)(U:X.A.units+8<K0)(V:X.N[i]?=LZ y)(E:X.env.scope.names.lookup y=LZ .local)
 (p:Lo (.DictComp kx vx [⟨tg,iter,ifs,0⟩] scope pos) (LZ (.Name y l)) j.line X.env=pure MB) (W:∀x,Jz iter X.env x=pure x:=by intro _;rfl) :
 PS X (.Assign [.Name y l] (.DictComp kx vx [⟨tg,iter,ifs,0⟩] scope pos) j) (A7 (uI X js own wi tc tk te) (gg i)):=by
 intro MN s σ H B I h
 rw[exec_Assign_Name_used _ _ _ _ p]
 refine cc (Ks (cc ?_))
 show J4 _ X.A (do let _ <-comprehension (.DictComp kx vx [⟨tg,iter,ifs,0⟩] scope pos) scope X.env _ newDict MC (eval iter X.env) (LZ (LN (.Name y l) X.env))) _ _ s
 refine cc (Ja (wpAny_comprehension_free (use:=LZ (LN (.Name y l) X.env)) (Q:=fun _ n=>SP X MN B .next n) rfl W (c.Ab I.ok) c.kind c.names
  (Mr (K MN s σ H _ I h) fun v s1 Y=>Mr Y fun Z s2 z9=>?_)) (fun _ n hq=>IU (IU hq)) fun _ _ e=>e)
 obtain⟨it,fp,tn,J,H2,e,I2,T,st,f2,w⟩:=z9
 subst e
 refine vO (R:=fun r C=>compPost (Jf X.prog X.w) X.A X.xe (LZ (LN (.Name y l) X.env)) (fun _ n=>SP X MN B .next n) r C) c F L M O P S U I2 T st f2 w fun D C H' n I' k d q=>?_
 obtain⟨m,hm⟩:=d
 show J4 _ X.A (LN (.Name y l) X.env (.ref D)) _ _ _
 refine wpAny_assign_Name (jN I' G V (.inl E) (v:=.ref D) rfl (fun s9 I9 f=>?_) (.inr E))
 obtain⟨a,sb,ha⟩:=f
 have t:C≠a:=by
  rcases ha with z|z
  ·rw[z];exact k.2.1
  ·exact fun e=>k.2.2.2.2.1 y a z e.symm
 refine⟨m,hm.sameBut sb t,fun h' u=>?_⟩
 exact⟨_,H',I9.turned (t':=s9.toks) (fun b o ne e=>u.extBut b o ne e) k.1 k.2.1 k.2.2.2.1 k.2.2.2.2.1 k.2.2.2.2.2,q⟩
end
def D3(I:Qg)(tk:P5)(js:pq)(tc:NT)(g te:TD)(δ:DS)(a:MH)(Q:DK):Prop:=I.n<=900000/\∀p,a p=MA->∃W:Nat->N6->MH->Prop,W 0 [] (az a p (Ng []))/\(∀i kvs M,i<=I.n->W i kvs M->I.C M)/\
 (∀i kvs d M,i<I.n->I.item i=LZ d->W i kvs M->∃os,yt tk d os/\tc (cδ os js δ) M fun b c=>if b=MB then g (cδ os js δ) c fun y h=>te (cδ os js δ) h fun e f=>∃k,y=PV k/\f p=LZ (Ng kvs)/\kvs.length<=i/\W (i+1) (putD kvs k e) (az f p (Ng (putD kvs k e)))else W (i+1) kvs c)/\∀kvs M,W I.n kvs M->Q (.ref p) M
def pg(a:Nt)(tk:P5)(js:pq)(tc:NT)(b te:TD):TD:=fun δ M Q=>a δ M fun I c=>D3 I tk js tc b te δ c Q
section
variable{X:Cx}
theorem sI{G:Nt}{tk:P5}{js:pq}{tc:NT}{L te:TD}{σ:L2.St}{H:Hp}{Q:VK}(h:lift X.K (pg G tk js tc L te) σ H Q):uI X js (rj X.K tk) (l6 X.K G) (liftT X.K tc) (lift X.K L) (lift X.K te) σ H Q:=by
 obtain⟨δ,M,R,N,hM,q,x⟩:=h;refine⟨δ,M,_,N,hM,q,fun I M1 H1 J O P z A p B=>?_⟩;obtain⟨hn,z⟩:=z;obtain⟨W,w0,hC,l,done⟩:=z p (P.fresh B);refine⟨fun i m g=>m=I.n-i/\i<=I.n/\Mp X.K H1 g/\∃kvs M,My X.K g M/\W i kvs M,⟨I.n,by simp,Kf _,.new B,[],_,P.Cf _ _ B,w0⟩,?_⟩;rintro i m g ⟨rfl,C,f,kvs,j,r,o⟩;by_cases a:i<I.n
 ·refine .inr ⟨A.go i g j a f r (hC _ _ _ C o),fun v H3 hy=>?_⟩;obtain⟨D,a3,d,ed,rd⟩:=A.yld i g j v H3 a f r (hC _ _ _ C o) hy;obtain⟨os,ow,q3⟩:=l i kvs d j a ed o;obtain⟨us,uv,su⟩:=qp rd ow;have E:=lD (js:=js) (N.mono ((O.trans f).trans D)) su;refine⟨us,uv,cδ os js δ,j,_,E,a3,q3,fun b S H4 s T t=>?_⟩;cases b with
  |false=>
   rw[MD J9]at t ⊢
   exact⟨I.n-(i+1),(),rfl,a,(f.trans D).trans s,kvs,S,T,t⟩
  |true=>
   rw[ME rfl]at t ⊢
   refine⟨cδ os js δ,S,_,E.mono s,T,t,fun y M5 u H5 U r5 a5 q5=>⟨cδ os js δ,M5,_,(E.mono s).mono U,a5,q5,fun e M6 u6 V Y r6 Z c=>?_⟩⟩
   obtain⟨k,ey,e6,b0,w6⟩:=c
   subst ey
   obtain⟨b,rfl,sp⟩:=rK (r5.mono Y)
   obtain⟨xs,F,h2,h3,h4⟩:=Z.dsp e6
   have a0:xs.length=kvs.length:=by have:=congrArg List.length h2;simpa using this
   have sz:1000000<=J7:=Mo rfl
   have g7:Mp X.K V (upd V p (.ext (ck X.prog X.w p (fR xs k b u6)))):=.ext (F X.prog X.w)
   exact⟨b,k,xs,rfl,F _ _,h3,sp,(),I.n-(i+1),(),rfl,a,((((f.trans D).trans s).trans U).trans Y).trans g7,putD kvs k e,_,Z.yr _ _ F h2 h4 h3 sp r6,w6⟩
 ·obtain rfl:i=I.n:=()
  exact .inl ⟨A.stop g j f r (hC _ _ _ C o),x _ _ _ _ (O.trans f) (by rw[Rep]) r (done kvs j o)⟩
variable{xs:rf}{tg:oT}{pos:Pos}{js:pq}{scope:Lp}{kx vx iter:oT}{ifs:ra}{tx te:TD}{tc:NT}{g:TG}{tk:P5}{wd:Nt}
theorem yX(i:Nat){y:Str}{j e:Pos}(l:X.N.Nodup)(I:X.A.units+66<K0)(c:Mm X xs js scope)(m:X.calm=MB)(n:DI X tg iter wd)(o:OE xs.length g (rj X.K tk))(p:∀C s H fp,PG (Mx X xs js scope C s H fp) tg g)(r:∀C s H fp,DTs (Mx X xs js scope C s H fp) ifs tc)(t:∀C s H fp,DE (Mx X xs js scope C s H fp) kx tx)(u:∀C s H fp,DE (Mx X xs js scope C s H fp) vx te) (w:X.N[i]?=LZ y:=by rfl) (z:X.env.scope.names.lookup y=LZ .local:=by rfl) (h:Lo (.DictComp kx vx [⟨tg,iter,ifs,0⟩] scope pos) (LZ (.Name y j)) e.line X.env=pure MB:=by rfl) (f:∀x,Jz iter X.env x=pure x:=by intro _;rfl) : DSt X (.Assign [.Name y j] (.DictComp kx vx [⟨tg,iter,ifs,0⟩] scope pos) e) (dQ (pg wd tk js tc tx te) (aT i)):=cU (ym (tk:=lift X.K tx) (te:=lift X.K te) (tc:=liftT X.K tc) c m l n o p r t u () w z h f) fun E σ H b=>by obtain⟨δ,M,f,a,B,ok,q⟩:=b;exact(sI ⟨δ,M,_,f,a,q,fun d J v H1 k D F G=>ok.nx _ _ _ _ k ((f.mono k).set D i) F G⟩)
theorem vW(i:Nat){x v:Str}{b e a:Pos}(f:X.N.Nodup)(h:X.A.units+66<K0)(c:Mm X [x] js scope)(j:X.calm=MB)(k:DI X (.Name x b) iter wd)(l:∀C s H fp,DTs (Mx X [x] js scope C s H fp) ifs tc)(m:∀C s H fp,DE (Mx X [x] js scope C s H fp) kx tx)(n:∀C s H fp,DE (Mx X [x] js scope C s H fp) vx te) (o:X.N[i]?=LZ v:=by rfl) (p:X.env.scope.names.lookup v=LZ .local:=by rfl) (d:Lo (.DictComp kx vx [⟨.Name x b,iter,ifs,0⟩] scope pos) (LZ (.Name v e)) a.line X.env=pure MB:=by rfl) (q:∀x,Jz iter X.env x=pure x:=by intro _;rfl) : DSt X (.Assign [.Name v e] (.DictComp kx vx [⟨.Name x b,iter,ifs,0⟩] scope pos) a) (dQ (pg wd .one js tc tx te) (aT i)):=yX i f h c j k sQ (fun _ _ _ _=>iW c 0 rfl) l m n o p d q
end
section
variable{X:Cx}
def B2:N3:=fun x y M Q=>match x,y with
 |.ref a,.int k=>∃d,M a=LZ (.lst [d])/\0<=k/\k<=1000/\∀z,M z=MA->Q (.ref z) (az M z (.lst (Ju k.toNat d)))
 |_,_=>False
theorem rM{K:I0}{H:Hp}{d:D}{v:V}(r:Rep K H d v):∀n,aG K H (Ju n d) (Ju n v)
 |0=>by rw[List.replicate_zero,List.replicate_zero];exact .nil
 |n+1=>by rw[Kq,Kq];exact .cons r (rM r n)
theorem qG{a:Type}(v:a):∀n,(Ju n [v]).flatten=Ju n v
 |0=>rfl
 |n+1=>by rw[Kq,KN,qG v n];rfl
theorem Bp:N4 X (KZ .Mult) B2:=iX D6 fun v u H Q f=>by
 obtain⟨x,y,M,R,g,h,a,q,b⟩:=f;unfold B2 at q;split at q
 ·obtain⟨d,hd,k,l,q⟩:=q;obtain rfl:v=.ref _:=g;obtain rfl:u=.int _:=h;obtain⟨xs,i,j⟩:=a _ _ hd;obtain⟨w,rfl,c⟩:=cv j;have sz:1000000<=J7:=Mo rfl;refine⟨_,_,_,rfl,rfl,i,(),(),by simp;omega,fun z e=>?_⟩;rw[qG];exact b _ _ _ _ (.new e) (by rw[Rep]) (a.nD e (rM c _)) (q z (a.fresh e))
 ·exact q.elim
end
section
theorem m5(a u:IQ):checkTypeCall "enumerate" ⟨[a],[("start",u)]⟩=pure .unit:=by kernel_rfl
theorem nB(a u:IQ):checkBuiltinCall "enumerate.__new__" ⟨[.type "enumerate",a],[("start",u)]⟩=pure .unit:=by kernel_rfl
theorem r9(a b u:IQ):argsOk "object.__init__" ⟨[a,b],[("start",u)]⟩:=by unfold argsOk;rw[PySem.signature?_of (id:="object.__init__") (n:=['_','_','t','i','n','i','_','_']) (o:=['t','c','e','j','b','o']) (by kernel_rfl) F.owner_object];kernel_rfl
def lL(l it:n7):Obj×Obj:=({ cls:=.type "list_iterator",data:=.fields #[.ref l,.int 0 0] },{ cls:=.type "enumerate",data:=.fields #[.none,.bool MC,.ref it,rawInt 1,.none,.none] })
variable{prog:Jk}{w:JJ}{A:JP}{E:o_}{s:IS}{l:n7}{items:Array IQ}{n:Nat}{t:Tok}{Q:o_}
theorem wt(a:s.heap.get? l=LZ { cls:=.type "list",dict:=MA,data:=.seq items n,slots:=#[] })
 (h:Q (.ref (s.heap.push (lL l 0).1).objs.size) { s with heap:=(s.heap.push (lL l 0).1).push (lL l s.z).2 }) :
 J4 (Jf prog w) A (LY.«enumerate.__new__» ⟨[.type "enumerate",.ref l],[("start",.int 1 t)]⟩) (fun fin b=>∃v,fin=.done (.ret v)/\Q v b) E s:=by
 obtain⟨e,g,d,f,os⟩:=s
 have e1:=sub_enumerate
 have e2:Heap.IsList (Shared.heap ⟨e,g,d,f,os⟩) l items:=⟨_,a,rfl,n,rfl⟩
 wp_walk using AutoSeq1.wpAny_loadPart' a
 refine wpAny_stack_any fun st=>IU ?_
 split
 case h_1 c _ _ _ _ _=>cases (c==LV "enumerate")<;>(wp_walk using AutoSeq1.wpAny_loadPart' a,LH e2;exact⟨_,rfl,h⟩)
 all_goals (wp_walk using AutoSeq1.wpAny_loadPart' a,LH e2;exact⟨_,rfl,h⟩)
theorem tG:Meets (LY.«enumerate.__new__» ⟨[.type "enumerate",.ref l],[("start",.int 1 t)]⟩) (fun _ R s=>s.heap.get? l=LZ { cls:=.type "list",dict:=MA,data:=.seq items n,slots:=#[] }/\R (.ok (.ret (.ref (s.heap.push (lL l 0).1).objs.size))) { s with heap:=(s.heap.push (lL l 0).1).push (lL l s.z).2 }):=.of_wp fun prog w A R s z=>wt (Q:=fun v a=>R (.ok (.ret v)) a) z.1 z.2
theorem ql{e:IQ}{u:IQ}:Meets (LY.«object.__init__» ⟨[e,.ref l],[("start",u)]⟩) (fun _ R s=>s.TypeIs e "enumerate"/\R (.ok (.ret .none)) s):=
 .of_wp fun prog w A R s a=>by
  obtain⟨ty,r⟩:=a
  have e1:=F.called_enumerate.init.lookup
  have e2:=F.called_enumerate.made
  repeat (any_goals (first|assumption|wp_step))
  exact⟨_,rfl,r⟩
theorem sP(p:s.heap.get? l=LZ { cls:=.type "list",dict:=MA,data:=.seq items n,slots:=#[] })
 (h:∀h',IsEnum h' (s.z+1) s.z 1 .none->h'.IsListIter s.z l 0->(∀b o,s.heap.get? b=LZ o->h'.get? b=LZ o)->Q (.ref (s.z+1)) { s with heap:=h' }) :
 J4 (Jf prog w) A (call (.type "enumerate") [.ref l] [("start",.int 1 t)]) Q E s:=by
 have C:=F.called_enumerate
 obtain⟨c,u,x⟩:=C.mro
 have y:=C.made
 have B:=C.sub
 have D:=C.notType
 have G:=C.canCreate
 have H:=m5 (.ref l) (.int 1 t)
 refine wpAny_call (codeAny_of_tree (IU ⟨Code.quiet_builtin _ (by decide +kernel),LB F.entry_type_call ?_⟩))
 rw[Around.under_plain rfl rfl]
 repeat (any_goals (first|assumption|wp_step))
 have j:(s.heap.push (lL l 0).1).objs.size=s.z+1:=Ki ..
 have k:IsEnum ((s.heap.push (lL l 0).1).push (lL l s.z).2) (s.z+1) s.z 1 .none:=by
  have:=J3 (s.heap.push (lL l 0).1) (o:=(lL l s.z).2) rfl
  rw[j]at this;exact this
 have q:=h _ k ⟨_,IZ _ (J3 _ rfl),rfl,rfl⟩ fun b o z=>IZ _ (IZ _ z)
 refine codeAny_mono (codeAny_call_builtin C.plain F.entry_enumerate_new (wpAny_of_eq (nB _ _) (tG prog w A.in1 (wants (fun v m=>v=.ref (s.z+1)/\m.TypeIs v "enumerate"/\Q v m) E) s ⟨p,by rw[j];exact⟨rfl,⟨_,k,rfl⟩,q⟩⟩))) fun r f i=>?_
 match r,i with
 |.error e,i=>exact i
 |.ok (.ret v),⟨ev,ty,qv⟩=>
  have I:=C.init.lookup
  have J:=C.init.bind v
  repeat (any_goals (first|assumption|wp_step))
  refine codeAny_mono (codeAny_call_builtin C.init.plain F.entry_object_init (C.init.check _ _ _ _ _ _ _ _ ty (r9 _ _ _) (ql prog w A.in1 (wants (fun r d=>r=.none/\Q v d) E) f ⟨ty,rfl,qv⟩))) fun g d a=>?_
  match g,a with
  |.error e,a=>exact a
  |.ok (.ret r),⟨er,q2⟩=>
   subst er
   repeat (any_goals (first|assumption|wp_step))
end
section
variable{X:Cx}{elts:ra}{kt:Nat}{pt:Pos}
theorem mG{pos kp:Pos}{T:String}{e k:oT}{name:Str}{env:Env}{M:Model}{A:JP}{E:o_}{s:IS}{Q:o_}
 (h:J4 M A (spliced (Kr pos (Je [e] env))) (fun vs b=>J4 M A (eval k env) (fun u c=>J4 M A (call (.type T) vs [(name,u)]) Q E c) E b) E s)
 (i:Kr pos (Je [e] env)=(MC,eval e env)::Kr pos (Je [] env):=by rfl) (g:(Kr pos (Je [e] env)).any (·.1)=MC:=by rfl) :
 J4 M A (callWith pos (.type T) [] (Kr pos (Je [e] env)) (backToKw pos (LF [⟨LZ name,k,kp⟩] env))) Q E s:=by
 have j:J4 M A (evalArgs (.type T) MB (Kr pos (Je [e] env)) (backToKw pos (LF [⟨LZ name,k,kp⟩] env))) (fun a b=>J4 M A (call (.type T) a.pos a.kw) Q E b) E s:=by
  rw[i]at h ⊢
  refine evalArgs_kwB rfl (Ja h (fun vs b d=>?_) fun _ _ z=>z)
  exact kws_cons (Ja d (fun u c f=>kws_nil f) fun _ _ z=>z)
 unfold callWith
 refine cc (K8 (Ja j (fun a b d=>cc (Ks ?_)) fun _ _ z=>z))
 have l:(backToKw pos (LF [⟨LZ name,k,kp⟩] env)).any (·.1.isNone)=MC:=rfl
 simp only[g,l,Bool.or_false]
 exact cc (IU (cc (Ja d (fun r c m=>cc (K8 (wpAny_point (IU m)))) fun _ _ z=>z)))
def D8(K:I0)(b:TA):TI:=fun σ H R=>b σ H fun vs H1=>∃a xs,vs=[.ref a]/\H1 a=LZ (.lst xs)/\R (WM K 1 a) H1
theorem yz{a k:oT}{j:TA}{p pos kp:Pos}(y:Gl X "enumerate")(B:X.mg "enumerate"=MA)(C:PA X [a] j)(g:∀MN s σ H (Q:VK),Inv X MN σ H s->Q (.int 1) H->J4 (Jf X.prog X.w) X.A (eval k X.env) (EP X MN σ Q) X.xe s)
 (m:Je [a] X.env=[(MC,eval a X.env)]:=by rfl):PI X (.Tuple elts kt pt) (.Call (.Name "enumerate" p) [a] [⟨LZ "start",k,kp⟩] pos) (D8 X.K j):=by
 intro MN s σ H R I h
 refine wpAny_Call_Name_kw (gI I y B fX (mG (Mr (C pos MN s σ H _ I h) fun us D ⟨vs,H1,E,F,G⟩=>?_) (by rw[m];rfl) (by rw[m];rfl)))
 obtain⟨l,xs,J,L,q⟩:=G
 subst J
 obtain⟨u,rfl,M⟩:=F.one
 cases M
 refine Mr (g MN D σ H1 (fun v N=>v=.int 1/\N=H1) E ⟨rfl,rfl⟩) fun u c ⟨v,o,f,O,e1,e2⟩=>?_
 subst e1 e2
 obtain⟨t,rfl⟩:=O
 obtain⟨z,P,n,r,T,e⟩:=f.ph L
 refine sP e fun U x i g=>wpAny_pyIter_enum x ?_
 have fp:∀b∈[c.z+1,c.z],cQ X MN o b:=fun b S=>by
  have d:c.z<=b:=by
   rcases(show b=c.z+1\/b=c.z by simpa using S)with rfl|rfl
   ·exact Nat.le_succ _
   ·exact IY _
  exact f.pV d (f.hok.fresh d)
 exact⟨_,[c.z+1,c.z],_,_,o,rfl,f.kept (t':=c.toks) g,oA 1 l _ _ (Nat.succ_ne_self _),⟨⟨_,x⟩,i⟩,fp,q⟩
def ES(c:NN):Nt:=fun δ M R=>c δ M fun e b=>∃l a,e=[.ref l]/\b l=LZ (.lst a)/\R ⟨a.length,fun i=>(a[i]?).map fun d=>.tup [.int ((i+1:Nat):Int),d],fun M=>M l=LZ (.lst a)⟩ b
theorem zI{a:oT}{d:NN}{p pos kp g:Pos}{h}(i:Gl X "enumerate")(j:X.mg "enumerate"=MA)(k:DA X [a] d)(b:Je [a] X.env=[(MC,eval a X.env)]:=by rfl):DI X (.Tuple elts kt pt) (.Call (.Name "enumerate" p) [a] [⟨LZ "start",.Constant (.int 1) h g,kp⟩] pos) (ES d):=
 jV (yz i j k (fun MN s σ H Q I q=>yy MN s σ H Q I q) b) fun σ H R m=>by
  obtain⟨δ,M,z,b,n,q,c⟩:=m
  exact⟨δ,M,_,b,n,q,fun A o vs H1 t u f ⟨l,B,e,w,x⟩=>by
   subst e
   obtain⟨v,rfl,r⟩:=cv u
   rw[Rep]at r;subst r
   obtain⟨xs,y,C⟩:=f _ _ w
   exact⟨l,xs,rfl,y,c _ o H1 _ t f x (uP 1)⟩⟩
end
section
variable{X:Cx}{MN:pa}{σ:L2.St}{H:Hp}{s:IS}
theorem km{h':oa}{t':Nat}{ch:rb}(I:Inv X MN σ H s)(k:∀b o,b∉ch->s.heap.get? b=LZ o->h'.get? b=LZ o)(f:∀b∈ch,cQ X MN H b):Inv X MN σ H { s with heap:=h',toks:=t' }:=by
 have ne:∀b u,H b=LZ u->b∉ch:=fun b u q d=>by rw[(f b d).1]at q;cases q
 refine I.step (g':=s.gens) (d':=s.drawn) (ch:=ch) (fun b d=>?_) (fun b o _ _ a q _=>k b o a q) (fun b o _ _ a q _=>⟨o.slots,k b o a q⟩) (fun _ _ _ _ n=>n) (fun b o a q=>⟨o,k b o a q⟩) (fun _ _ q=>q) (fun _ _ _ q=>q) (fun b ps q=>⟨#[],by rw[q];simp⟩) (fun m e=>?_) (fun b u q=>?_) I.bare
 ·obtain⟨l,e1,_,e3,e4,g⟩:=f b d;exact⟨e3,e1,e4,g⟩
 ·obtain⟨o,h,i,j,r⟩:=e;exact⟨o,h,i,k _ o (fun d=>(f _ d).2.1 rfl) j,r⟩
 ·refine(I.hok b u q).iU (fun c v a z=>?_) (fun _ z=>z) fun _ _ z=>z;rcases a with y|y
  ·subst y;exact k _ v (ne _ u q) z
  ·exact k c v (ne c _ y) z
end
def Y1(K:I0)(a b:n7):It:=
 ⟨fun i H=>∃xs c x y,ND K H a xs/\ND K H b c/\xs[i]?=LZ x/\c[i]?=LZ y,fun i H x d=>∃T y z,x=.ref T/\H T=MA/\d=upd H T (.tup [y,z])/\(∀xs,ND K H a xs->xs[i]?=LZ y)/\∀c,ND K H b c->c[i]?=LZ z,fun i H=>∃xs c,ND K H a xs/\ND K H b c/\(xs.length<=i\/c.length<=i)⟩
theorem yw{P:Jk}{w:JJ}{K:I0}{N:ra}{kt}{pt:Pos}(a b z TI TO j l:n7)(D:ZipApart z TI TO j l a b):Turn P w K (.Tuple N kt pt) (Y1 K a b) [z,TI,TO,j,l] z (fun i h=>IsZip h z TI TO .none/\IsPair h TI (.ref j) (.ref l)/\(∃p q,IsPair h TO p q)/\h.IsListIter j a i/\h.IsListIter l b i) where
 mem:=by simp
 obj:=fun i h st c f=>by
  obtain⟨u,m,⟨p,q,A⟩,B,C⟩:=st
  rcases(show c=z\/c=TI\/c=TO\/c=j\/c=l by simpa using f)with rfl|rfl|rfl|rfl|rfl
  ·exact⟨_,u,fun v y=>by cases (show Data.fields _=Data.cell v from y)⟩
  ·exact⟨_,m,fun v y=>by cases (show Data.seq _ _=Data.cell v from y)⟩
  ·exact⟨_,A,fun v y=>by cases (show Data.seq _ _=Data.cell v from y)⟩
  ·obtain⟨o,F,_,d⟩:=B
   exact⟨o,F,fun v y=>by rw[d]at y;cases y⟩
  ·obtain⟨o,F,_,d⟩:=C
   exact⟨o,F,fun v y=>by rw[d]at y;cases y⟩
 keep:=fun i h O st k=>by
  obtain⟨u,m,⟨p,q,A⟩,B,C⟩:=st
  exact⟨k z (by simp) _ u,k TI (by simp) _ m,⟨p,q,k TO (by simp) _ A⟩,B.at fun o y=>k j (by simp) o y,C.at fun o y=>k l (by simp) o y⟩
 item:=by
  intro X W Y Z f i MN s σ H E I hf st hg
  subst W Y Z
  obtain⟨xs,ys,x,y,r,t,hx,hy⟩:=hg
  obtain⟨u,m,⟨p,q,A⟩,B,C⟩:=st
  obtain⟨Q,G,p1,a0⟩:=I.list r
  obtain⟨R,J,p2,b0⟩:=I.list t
  obtain⟨S,c0,d0⟩:=G.get hx
  obtain⟨T,e0,f0⟩:=J.get hy
  refine wpAny_pyNext_zip_item D u m A B C p1.isList p2.isList (x:=S) (y:=T) ‹c0› ‹e0› fun O a1 a2 a3 a4 a5 a6 a7=>⟨_,rfl,wpAny_letOwnedTupleGo_zip (s:={ s with heap:=O }) a1 fun L b1 U=>?_⟩
  have U:L6 z O L:=U
  have fr:=I.fresh
  have lt:∀c∈[z,TI,TO,j,l],c<s.z:=fun c f=>by
   rcases(show c=z\/c=TI\/c=TO\/c=j\/c=l by simpa using f)with rfl|rfl|rfl|rfl|rfl
   ·exact J6 u
   ·exact J6 m
   ·exact J6 A
   ·obtain⟨o,F,_⟩:=B;exact J6 F
   ·obtain⟨o,F,_⟩:=C;exact J6 F
  have I1:Inv X MN σ (upd H s.z (.tup [x,y])) { s with heap:=s.heap.push { cls:=.type "tuple",data:=.seq #[S,T] },toks:=s.toks }:=
   I.laid (fun b v q=>IZ _ q) (IY _) ⟨Mo rfl,[S,T],.cons d0 (.cons f0 .nil),⟨_,J3 _ rfl,rfl,_,rfl⟩,⟨_,J3 _ rfl,rfl⟩⟩
  have fk:∀c∈[z,TI,TO,j,l],cQ X MN (upd H s.z (.tup [x,y])) c:=fun c f=>⟨by rw[aZ (JB (lt c f))];exact(hf c f).1,(hf c f).2⟩
  have I2:Inv X MN σ (upd H s.z (.tup [x,y])) { s with heap:=L,toks:=s.toks }:=by
   refine km (ch:=[z,TO,j,l]) (s:={ s with heap:=s.heap.push { cls:=.type "tuple",data:=.seq #[S,T] },toks:=s.toks }) I1 (fun c o g q=>?_) fun c f=>fk c (by simp at f ⊢;rcases f with rfl|rfl|rfl|rfl<;>simp)
   have q:(s.heap.push { cls:=.type "tuple",data:=.seq #[S,T] }).get? c=LZ o:=q
   simp at g
   refine(U.2 c g.1).trans ?_
   rcases Heap.get?_push_cases q with⟨rfl,rfl⟩|q
   ·exact a5
   ·exact a7 c o g.1 g.2.1 g.2.2.1 g.2.2.2 q
  have V:∀c o,c≠z->O.get? c=LZ o->L.get? c=LZ o:=fun c o n e=>(U.2 c n).trans e
  refine⟨.ref s.z,_,I2,rfl,⟨_,x,y,rfl,fr,rfl,fun zs M=>by rw[I.ja M r];exact hx,fun zs M=>by rw[I.ja M t];exact hy⟩,⟨b1,V _ _ D.TIz (a7 _ _ D.TIz D.TITO D.TIi1 D.TIi2 m),⟨_,_,V _ _ D.TOz a2⟩,a3.at fun o e=>V _ o D.i1z e,a4.at fun o e=>V _ o D.i2z e⟩,fun c f=>(fk c f).1⟩
 done:=by
  intro X W Y Z f i MN s σ H E I hf st hg
  subst W Y Z
  obtain⟨xs,ys,r,t,he⟩:=hg
  obtain⟨u,m,⟨p,q,A⟩,B,C⟩:=st
  obtain⟨Q,G,p1,a0⟩:=I.list r
  obtain⟨R,J,p2,b0⟩:=I.list t
  have l1:=G.length
  have l2:=J.length
  refine wpAny_pyNext_zip_end (I.ok.hd f) D u m A B C p1.isList p2.isList (he.imp (fun e=>by simp;omega) fun e=>by simp;omega) fun O k=>⟨rfl,?_⟩
  exact km (t':=s.toks) (ch:=[z,TO,j,l]) I (fun c o g q=>by simp at g;exact k c o g.1 g.2.1 g.2.2.1 g.2.2.2 q) fun c f=>hf c (by simp at f ⊢;rcases f with rfl|rfl|rfl|rfl<;>simp)
 self:=fun _ _ _ _ _ st h=>wpAny_pyIter_zip st.1 h
theorem Ez{n l1 l2:Nat}(a:l1<n)(b:l2<n):ZipApart (n+4) (n+2) (n+3) n (n+1) l1 l2:=by constructor<;>exact fun e=>absurd (id e:@Eq Nat _ _) ()
theorem DP:JT "zip"=LZ (.type "zip"):=by decide +kernel
section
variable{X:Cx}{elts:ra}{kt:Nat}{pt:Pos}
def Fi(K:I0)(c:TA):TI:=fun σ H R=>c σ H fun vs H1=>∃a b xs d,vs=[.ref a,.ref b]/\H1 a=LZ (.lst xs)/\H1 b=LZ (.lst d)/\R (Y1 K a b) H1
theorem Df{a b:oT}{x:TA}{p pos:Pos}(A:Gl X "zip")(B:X.mg "zip"=MA)(C:PA X [a,b] x)(E:Je [a,b] X.env=(MC,eval a X.env)::Je [b] X.env:=by rfl)(j:(Kr pos (Je [b] X.env)).any (·.1)=MC:=by rfl):PI X (.Tuple elts kt pt) (.Call (.Name "zip" p) [a,b] [] pos) (Fi X.K x):=by
 intro MN s σ H R I h;refine Call_ (gI I A B DP (KJ (Mr (C pos MN s σ H _ I h) fun us c d=>?_) E j));obtain⟨vs,H1,e,F,G⟩:=d;obtain⟨l1,l2,xs,V,J,k,l,q⟩:=G;subst J;obtain⟨W,Y,rfl,m,n⟩:=vals2 F;cases m;cases n;obtain⟨Z,f,L,M,N,e1⟩:=e.ph k;obtain⟨z2,g,O,P,Q,e2⟩:=e.ph l;have S:c.heap.IsList l1 f.toArray:=⟨_,e1,rfl,L,rfl⟩;have L2:c.heap.IsList l2 g.toArray:=⟨_,e2,rfl,O,rfl⟩;have o:=J6 e1;have r:=J6 e2;refine call_zip_2 S L2 fun h' y t u v w T U=>wpAny_pyIter_zip y ?_
 have fp:∀b∈[c.z+4,c.z+2,c.z+3,c.z,c.z+1],cQ X MN H1 b:=fun b z=>by
  have i:c.z<=b:=by simp at z;rcases z with rfl|rfl|rfl|rfl|rfl<;>first|exact Nat.le_add_right _ _|exact IY _
  exact e.pV i (e.hok.fresh i)
 have D:ZipApart (c.z+4) (c.z+2) (c.z+3) c.z (c.z+1) l1 l2:=by exact Ez o r
 exact⟨_,_,_,_,H1,rfl,e.kept (t':=c.toks) U,yw l1 l2 _ _ _ _ _ D,⟨y,t,⟨_,_,u⟩,v,w⟩,fp,q⟩
def GQ(g:NN):Nt:=fun δ M R=>g δ M fun h f=>∃a b c fs,h=[.ref a,.ref b]/\f a=LZ (.lst c)/\f b=LZ (.lst fs)/\R ⟨min c.length fs.length,fun i=>(c[i]?).bind fun d=>(fs[i]?).map fun e=>.tup [d,e],fun M=>M a=LZ (.lst c)/\M b=LZ (.lst fs)⟩ f
theorem xQ{K:I0}{D:NN}:∀(σ:L2.St) (H:Hp) R,l6 K (GQ D) σ H R->Fi K (zg K D) σ H R:=
 fun σ H R L=>by
  obtain⟨δ,M,RD,N,O,q,s⟩:=L
  exact⟨δ,M,_,N,O,q,fun ds P vs H1 Q S t U=>by
   obtain⟨l1,l2,c,fs,e,u,w,V⟩:=U
   subst e
   obtain⟨v1,v2,rfl,r,E⟩:=fG S
   rw[Rep]at r E;subst r E
   obtain⟨xs,W,rs⟩:=t _ _ u
   obtain⟨Y,A,rt⟩:=t _ _ w
   refine⟨l1,l2,xs,Y,rfl,W,A,s _ P H1 _ Q t V ⟨fun F k G j l=>?_,fun i F k m G j l=>?_,?_⟩⟩
   ·obtain⟨n,o⟩:=(show k l1=LZ (.lst c)/\k l2=LZ (.lst fs)from l)
    obtain⟨a,d,f⟩:=j _ _ n
    obtain⟨b,g,h⟩:=j _ _ o
    refine⟨a,b,ND.of d,ND.of g,?_⟩
    show a.length<=min c.length fs.length\/b.length<=min c.length fs.length
    rw[<-f.length,<-h.length];omega
   ·obtain⟨n,o⟩:=(show k l1=LZ (.lst c)/\k l2=LZ (.lst fs)from l)
    obtain⟨a,d,f⟩:=j _ _ n
    obtain⟨b,g,h⟩:=j _ _ o
    have m:i<min c.length fs.length:=m
    have Z:i<a.length:=by rw[<-f.length];omega
    have h2:i<b.length:=by rw[<-h.length];omega
    exact⟨a,b,a[i],b[i],ND.of d,ND.of g,by simp[Z],by simp[h2]⟩
   ·rintro i F k v H3 m G j l ⟨T,y,z,rfl,p,rfl,A,hz⟩
    obtain⟨n,o⟩:=(show k l1=LZ (.lst c)/\k l2=LZ (.lst fs)from l)
    have m:i<min c.length fs.length:=m
    have I:i<c.length:=()
    have hf:i<fs.length:=()
    obtain⟨a,d,f⟩:=j _ _ n
    obtain⟨b,g,h⟩:=j _ _ o
    obtain⟨x,e1,e2⟩:=f.get (show c[i]?=LZ c[i] by simp[I])
    obtain⟨x',B,C⟩:=h.get (show fs[i]?=LZ fs[i] by simp[hf])
    have t1:=A a (ND.of d)
    have J:=hz b (ND.of g)
    rw[e1]at t1;cases t1
    rw[B]at J;cases J
    exact⟨.new p,j.new p,.tup [c[i],fs[i]],by simp[I,hf],by rw[Rep];exact⟨T,_,rfl,NB.of bc,.cons (e2.mono (.new p)) (.cons (C.mono (.new p)) .nil)⟩⟩⟩
theorem E3{a b:oT}{d:NN}{p pos:Pos}(e:Gl X "zip")(f:X.mg "zip"=MA)(g:DA X [a,b] d)(h:Je [a,b] X.env=(MC,eval a X.env)::Je [b] X.env:=by rfl)(c:(Kr pos (Je [b] X.env)).any (·.1)=MC:=by rfl):DI X (.Tuple elts kt pt) (.Call (.Name "zip" p) [a,b] [] pos) (GQ d):=jV (Df e f g h c) xQ
end
theorem kY{ws:rr}:∀{i:Nat} {a:pe},OO ws i a->a.length<=i
 |0,a,h=>by rw[show a=[]from h];simp
 |i+1,a,⟨qs,h1,h2⟩=>by
  have:=kY h1
  rcases h2 with⟨_,rfl⟩|⟨_,r,_,rfl⟩
  ·omega
  ·simp;omega
structure YI(ws:rr)(r:pq):Prop where
 rng:YH ws r
 len:r.length<=2*ws.length
 lt:∀g∈r,g<2*ws.length
 pos:0<r.length
theorem jc{ws:rr}(b:∀w∈ws,Mn w)(hF:PF ws):∀{i:Nat} {a:pe},i<=2*ws.length->OO ws i a->∀r∈a,YI ws r
 |0,a,_,h,r,hr=>by rw[show a=[]from h]at hr;cases hr
 |i+1,a,hi,⟨qs,h1,h2⟩,r,hr=>by
  rcases h2 with⟨_,rfl⟩|⟨_,k,⟨c,n,e,rfl⟩,rfl⟩
  ·exact jc b hF () h1 r hr
  ·rcases Jn.mp hr with z|z
   ·exact jc b hF () h1 r z
   ·have:r=rn ws i c:=‹z›
    subst this
    have f:=nK b hF (():i<2*ws.length) n
    refine⟨⟨i,c,(),f,rfl,e⟩,by rw[ft];omega,fun g d=>?_,by rw[ft];omega⟩
    unfold rn at d
    obtain⟨j,_,rfl⟩:=JC.mp d
    exact dm b hF () j
def aI(ws:rr)(r:pq):Bool:=decide (0<(r.map (NL ws)).sum)
theorem yF{ws:rr}(i:∀w∈ws,Mn w)(hF:PF ws){r:pq}(R:YH ws r){t b X Y a B:Int}(j:0<t)(f:0<b)(k:0<B)(e:(a:Rat)=(r.map (Rc t b X Y ws)).sum*(B:Rat)):decide (0<a)=aI ws r:=by
 have l:∀{z:Int},0<z->(0:Rat)<(z:Rat):=fun{z} h=>by exact_mod_cast h
 have c:(0:Rat)<(t:Rat)/b:=by rw[LU];exact Ln (MX j) (Rat.inv_pos.mpr (MX f))
 have m:(0:Rat)<((t:Rat)/b)*((t:Rat)/b)*(B:Rat):=Ln (Ln c c) (l k);rw[GB i hF R f]at e;have e1:(a:Rat)=((t:Rat)/b)*((t:Rat)/b)*(B:Rat)*(((r.map (NL ws)).sum:Int):Rat):=by rw[e];grind
 have d:=sgn_mul m (r.map (NL ws)).sum;rw[<-e1]at d;have g:=sgn_mul (show(0:Rat)<1 by decide) a;rw[Rat.one_mul]at g;rw[g]at d;unfold aI;rw[MJ,<-Int.sign_eq_one_iff_pos,d,Int.sign_eq_one_iff_pos]
theorem RL.get{M:MH}{ps:rb}{b:pe}(h:RL M ps b){i:Nat}(c:i<ps.length):∃r,b[i]?=LZ r/\M ps[i]=LZ (.lst (r.map r3)):=by
 unfold RL at h
 induction h generalizing i with
 |nil=>simp at c
 |@cons p r ps b a _ ih=>
  cases i with
  |zero=>exact⟨r,rfl,a⟩
  |succ i=>simpa using ih ‹c›
theorem gN{a:Type}(f:a->Bool)(l:List a){i:Nat}{r:a}(e:l[i]?=LZ r):(l.take (i+1)).filter f=(l.take i).filter f++(if f r=MB then[r]else[]):=by
 rw[Kj,e,List.filter_append]
 congr 1
 simp[List.filter_cons]
def mn(a c:Vc):Vc:=if la a.1 a.2<la c.1 c.2 then a else c
theorem F4{t b X Y:Int}(a:0<t)(c:0<b){u v:Vc}(d:NY u)(e:NY v):(if MW (MU t b X 1 u.1) (MU t b Y 1 u.2) (MU t b X 1 v.1) (MU t b Y 1 v.2)then(MU t b X 1 u.1,MU t b Y 1 u.2)else(MU t b X 1 v.1,MU t b Y 1 v.2))=(MU t b X 1 (mn u v).1,MU t b Y 1 (mn u v).2):=by
 have h:=zW (X:=X) (Y:=Y) a c d e;unfold Nj at h;unfold mn;by_cases z:la u.1 u.2<la v.1 v.2
 ·rw[ME (h.mpr z),ME z]
 ·rw[MD (fun q=>z (h.mp q)),MD z]
theorem Du{u v:Vc}(a:NY u)(b:NY v):NY (mn u v):=by
 unfold mn;split
 ·exact a
 ·exact b
theorem pf{ws:rr}(e:∀w∈ws,Mn w){g:Nat}(i:g<2*ws.length):NY (fa ws g):=by
 obtain⟨_,_,f⟩:=aX (ws:=ws) (k:=((g/2:Nat):Int)) () ();have W:=e _ f;unfold fa fw;by_cases h:g%2=0
 ·rw[ME h];exact⟨W.a,W.b⟩
 ·rw[MD h];exact⟨W.c,W.d⟩
def Qx(ws:rr)(r:pq)(i:Nat):Vc:=(r.take i).foldl (fun a g=>mn a (fa ws g)) (fa ws (r.headD 0))
def fc(ws:rr)(r:pq):Vc:=Qx ws r r.length
theorem rT{ws:rr}{r:pq}{i g:Nat}(e:r[i]?=LZ g):Qx ws r (i+1)=mn (Qx ws r i) (fa ws g):=by unfold Qx;rw[Kj,e,List.foldl_append];rfl
theorem pF{ws:rr}(a:∀w∈ws,Mn w){r:pq}(b:∀g∈r,g<2*ws.length)(c:0<r.length):∀i,i<=r.length->NY (Qx ws r i)
 |0,_=>by
  unfold Qx
  cases r with
  |nil=>simp at c
  |cons g r=>exact pf a (b g (by simp))
 |i+1,h=>by
  rw[rT (IT (():i<r.length))]
  exact Du (pF a b c i ()) (pf a (b _ (JQ _)))
def wO(ws:rr)(fs:pw):Int:=(fs.filter fun k=>fs.all fun j=>!Ms (Mu ws j) (Mu ws k)).headD 0
theorem BE{ws:rr}(g:∀w∈ws,Mn w)(hF:PF ws){p q b:Int}(d:b∈bK ws 1 p q)(h:∀w∈(bK ws 1 p q).map (Mu ws),w=Mu ws b\/(Ms (Mu ws b) w=MB/\Ms w (Mu ws b)=MC)):wO ws (bK ws 1 p q)=b:=by
 obtain⟨t,f,i,j⟩:=yq g hF (show(0:Int)<1 by decide) (fun k l=>jX l) (KC d) (qN ws 1 p q);unfold wO;rw[j];show t=b
 have e:Mu ws t=Mu ws b:=by
  rcases h _ (JC.mpr ⟨t,f,rfl⟩)with z|z
  ·exact z
  ·rcases i _ (JC.mpr ⟨b,d,rfl⟩)with y|y
   ·exact y.symm
   ·rw[y.1]at z;exact absurd z.2 ⋯
 have a:=jd (jX f);have c:=jd (jX d);by_cases ne:t.toNat=b.toNat
 ·omega
 ·exact absurd ⟨by rw[e],by rw[e]⟩ (hF t.toNat b.toNat _ _ ne (aX a.1 a.2.1).1 (aX c.1 c.2.1).1).ne
def Oy(ws:rr)(L:pw)(u:Vc):Int:=if bK ws 1 u.1 u.2=[]then 0 else(L[2*(wO ws (bK ws 1 u.1 u.2)).toNat]?).getD 0
def iH(L:pw)(r:pq)(v:Int)(i:Nat):pw:=(r.take i).foldl (fun L g=>L.set g v) L
def fill(L:pw)(r:pq)(v:Int):pw:=iH L r v r.length
theorem mK{L:pw}{r:pq}{v:Int}{i g:Nat}(e:r[i]?=LZ g):iH L r v (i+1)=(iH L r v i).set g v:=by unfold iH;rw[Kj,e,List.foldl_append];rfl
theorem jE(v:Int):∀(r:pq) (L:pw),(r.foldl (fun L g=>L.set g v) L).length=L.length
 |[],L=>rfl
 |g::r,L=>by rw[Ld,jE v r,List.length_set]
theorem gY(L:pw)(r:pq)(v:Int)(i:Nat):(iH L r v i).length=L.length:=jE v _ L
theorem u9{n j:Nat}(h:j<n):L2.ixN n (j:Int)=LZ j:=by unfold L2.ixN;rw[ME (),ME ()];rfl
def fO(m:Nat)(outs:pe):Nat->pw
 |0=>Ju m 0
 |i+1=>fill (fO m outs i) ((outs[i]?).getD []) ((i+1:Nat):Int)
theorem iM(m:Nat)(outs:pe):∀i,(fO m outs i).length=m
 |0=>by simp[fO]
 |i+1=>by rw[fO,fill,gY,iM m outs i]
def cn(ws:rr)(ins:pe):Nat->List Vc
 |0=>[]
 |i+1=>let c:=fc ws ((ins[i]?).getD []);if c∈cn ws ins i then cn ws ins i else cn ws ins i++[c]
def mE(ws:rr)(ins:pe)(c:Vc):Nat->Option Nat
 |0=>MA
 |i+1=>if fc ws ((ins[i]?).getD [])=c then LZ i else mE ws ins c i
theorem kB(ws:rr)(ins:pe):∀i,(cn ws ins i).Nodup
 |0=>List.nodup_nil
 |i+1=>by
  have c:=kB ws ins i
  unfold cn
  dsimp only
  split
  ·exact c
  ·rename_i h
   rw[LI]
   refine⟨c,by simp,fun a d b e=>?_⟩
   have:b=fc ws ((ins[i]?).getD []):=‹e›
   subst this
   exact fun z=>h (z▸d)
theorem jQ(ws:rr)(ins:pe):∀i,(cn ws ins i).length<=i
 |0=>IY _
 |i+1=>by
  have a:=jQ ws ins i
  unfold cn
  dsimp only
  split
  ·omega
  ·simp;omega
theorem gX{ws:rr}{ins:pe}{c:Vc}:∀{i},c∈cn ws ins i->∃j,mE ws ins c i=LZ j/\j<i/\fc ws ((ins[j]?).getD [])=c
 |0,h=>by cases h
 |i+1,h=>by
  unfold mE
  by_cases e:fc ws ((ins[i]?).getD [])=c
  ·exact⟨i,by rw[ME e],(),e⟩
  ·rw[MD e]
   have f:c∈cn ws ins i:=by
    unfold cn at h
    dsimp only at h
    split at h
    ·exact h
    ·rcases Jn.mp h with z|z
     ·exact z
     ·exact absurd (by simpa using z:c=_).symm e
   obtain⟨j,a,b,d⟩:=gX f
   exact⟨j,a,(),d⟩
def fS(ws:rr)(ins:pe)(L:pw)(ps:List Vc):Nat->pw
 |0=>L
 |i+1=>let c:=(ps[i]?).getD (0,0);fill (fS ws ins L ps i) ((ins[(mE ws ins c ins.length).getD 0]?).getD []) (Oy ws (fS ws ins L ps i) c)
theorem j7(ws:rr)(ins:pe)(L:pw)(ps:List Vc):∀i,(fS ws ins L ps i).length=L.length
 |0=>rfl
 |i+1=>by rw[fS,fill,gY,j7 ws ins L ps i]
def dW(ws:rr)(L:pw):Prop:=∃(a:pe) (ps:List Vc),OO ws (2*ws.length) a/\ps.Perm (cn ws (a.filter fun r=>!aI ws r) (a.filter fun r=>!aI ws r).length)/\ps.Pairwise Nj/\
 L=fS ws (a.filter fun r=>!aI ws r) (fO (2*ws.length) (a.filter (aI ws)) (a.filter (aI ws)).length) ps ps.length
theorem dW.len{ws:rr}{L:pw}(h:dW ws L):L.length=2*ws.length:=by obtain⟨a,ps,R,b,c,rfl⟩:=h;rw[j7,iM]
theorem jG(k:NH)(d:D)(c:NH):∀kvs:N6,((kvs.map fun x=>if x.1=k then(x.1,d)else x).find? fun x=>decide (x.1=c)).map (·.2)=if c=k/\(kvs.any fun x=>decide (x.1=k))=MB then LZ d else(kvs.find? fun x=>decide (x.1=c)).map (·.2)
 |[]=>by simp
 |x::kvs=>by
  have f:=jG k d c kvs
  rw[J0,Jw,Jw,Lk]
  by_cases a:x.1=k
  ·rw[ME a]
   by_cases b:x.1=c
   ·have e:c=k:=b.symm.trans a
    simp[a,e]
   ·have ne:¬c=k:=fun z=>b (a.trans z.symm)
    rw[MD (fun z=>ne z.1)]
    rw[MD (fun z=>ne z.1)]at f
    simp only[MF b]
    exact f
  ·rw[MD a]
   by_cases b:x.1=c
   ·have ne:¬c=k:=fun z=>a (b.trans z)
    rw[MD (fun z=>ne z.1)]
    simp[b]
   ·simp only[MF b,MF a,Bool.false_or]
    exact f
theorem yE(kvs:N6)(k:NH)(d:D)(a:NH):dY (putD kvs k d) a=if a=k then LZ d else dY kvs a:=by
 unfold putD dY;by_cases h:(kvs.any fun x=>decide (x.1=k))=MB
 ·rw[ME h,jG];by_cases e:a=k
  ·rw[ME ⟨e,h⟩,ME e]
  ·rw[MD (fun z=>e z.1),MD e]
 ·rw[MD h,List.find?_append];by_cases e:a=k
  ·subst e;have:(kvs.find? fun x=>decide (x.1=a))=MA:=by rw[List.find?_eq_none];intro x b c;exact h (List.any_eq_true.mpr ⟨x,b,c⟩)
   rw[this,ME rfl];simp
  ·rw[MD e];have:([(k,d)]:N6).find? (fun x=>decide (x.1=a))=MA:=by simp;exact fun z=>e z.symm
   rw[this];simp
theorem zX(kvs:N6)(k:NH)(d:D):(putD kvs k d).map (·.1)=if k∈kvs.map (·.1)then kvs.map (·.1)else kvs.map (·.1)++[k]:=by
 unfold putD;have e:((kvs.any fun x=>decide (x.1=k))=MB)↔k∈kvs.map (·.1):=by rw[List.any_eq_true,JC];exact⟨fun c=>by obtain⟨x,a,b⟩:=c;exact(⟨x,a,‹b›⟩),fun f=>by obtain⟨x,a,b⟩:=f;exact(⟨x,a,‹b›⟩)⟩
 by_cases h:k∈kvs.map (·.1)
 ·rw[ME (e.mpr h),ME h,L7];apply KU;intro x _;show(if x.1=k then(x.1,d)else x).1=x.1;split<;>rfl
 ·rw[MD (fun z=>h (e.mp z)),MD h,Jg];rfl
structure RZ(t b X Y:Int)(ws:rr)(ins:pe)(qs:rb)(i:Nat)(kvs:N6):Prop where
 ks:kvs.map (·.1)=(cn ws ins i).map (gk t b X Y)
 vs:∀c,dY kvs (gk t b X Y c)=(mE ws ins c i).bind fun j=>(qs[j]?).map D.ref
theorem RZ.nil(t b X Y:Int)(ws:rr)(ins:pe)(qs:rb):RZ t b X Y ws ins qs 0 []:=⟨rfl,fun c=>rfl⟩
theorem RZ.put{t b X Y:Int}{ws:rr}{ins:pe}{qs:rb}{i:Nat}{kvs:N6}{r:pq}{q:n7}(d:0<t)(e:0<b)(h:RZ t b X Y ws ins qs i kvs)(f:ins[i]?=LZ r)(eq:qs[i]?=LZ q):RZ t b X Y ws ins qs (i+1) (putD kvs (gk t b X Y (fc ws r)) (.ref q)):=by
 have a:(ins[i]?).getD []=r:=by rw[f];rfl
 refine⟨?_,fun c=>?_⟩
 ·rw[zX,h.ks]
  have g:cn ws ins (i+1)=if fc ws r∈cn ws ins i then cn ws ins i else cn ws ins i++[fc ws r]:=by
   conv=>lhs;unfold cn
   rw[a]
  rw[g];by_cases z:fc ws r∈cn ws ins i
  ·rw[ME z,ME (JC.mpr ⟨_,z,rfl⟩)]
  ·rw[MD z,MD (fun y=>by
    obtain⟨c,j,k⟩:=JC.mp y
    exact z ((tN d e k)▸j)),Jg]
   rfl
 ·rw[yE]
  have ea:mE ws ins c (i+1)=if fc ws r=c then LZ i else mE ws ins c i:=by
   conv=>lhs;unfold mE
   rw[a]
  rw[ea];by_cases z:fc ws r=c
  ·rw[ME (by rw[z]),ME z];show _=(qs[i]?).map D.ref;rw[eq];rfl
  ·rw[MD (fun y=>z (tN d e y).symm),MD z];exact h.vs c
def sg:Nat->(ri)->Int
 |0,_=>0
 |n+1,g=>sg n g+g n
theorem aS{g h:ri}:∀{n:Nat},(∀k,k<n->g k=h k)->sg n g=sg n h
 |0,_=>rfl
 |n+1,e=>by rw[sg,sg,aS fun k a=>e k (),e n ()]
theorem cZ(g h:ri):∀n,sg n (fun k=>g k+h k)=sg n g+sg n h
 |0=>rfl
 |n+1=>by rw[sg,sg,sg,cZ g h n];omega
theorem dO(g h:ri):∀n,sg n (fun k=>g k-h k)=sg n g-sg n h
 |0=>rfl
 |n+1=>by rw[sg,sg,sg,dO g h n];omega
theorem uq:∀n,sg n (fun _=>0)=0
 |0=>rfl
 |n+1=>by rw[sg,uq n];rfl
theorem cy{g:ri}{n:Nat}(h:∀k,k<n->g k=0):sg n g=0:=by rw[aS h,uq]
theorem fj(d:ri)(j:Nat):∀n,sg n (fun k=>if k=j then d k else 0)=if j<n then d j else 0
 |0=>rfl
 |n+1=>by
  rw[sg,fj d j n]
  by_cases e:n=j
  ·subst e;rw[MD (Nat.lt_irrefl _),ME rfl,ME ()];omega
  ·rw[MD e]
   by_cases l:j<n
   ·rw[ME l,ME ()];omega
   ·rw[MD l,MD ()];rfl
def wn(ws:rr)(k:Nat):Wl:=Mu ws (k:Int)
section
variable{ws:rr}(hU:∀w∈ws,Mn w)(hF:PF ws)
include hU in
theorem aK{k:Nat}(h:k<ws.length):Mn (wn ws k):=hU _ (aX (ws:=ws) (k:=(k:Int)) () ()).2.2
include hF in
theorem aY{i j:Nat}(c:i<ws.length)(d:j<ws.length)(ne:i≠j):Mz (wn ws i) (wn ws j):=by have a:=(aX (ws:=ws) (k:=(i:Int)) () ()).1;have b:=(aX (ws:=ws) (k:=(j:Int)) () ()).1;rw[K7]at a b;exact hF i j _ _ ne a b
def sp(w:Wl)(t:Int):Bool:=decide (l1 w<=t)&&decide (t<l2 w)
theorem aU{w:Wl}{t:Int}:sp w t=MB↔l1 w<=t/\t<l2 w:=by unfold sp;simp
def OP(ws:rr)(d:ri)(q:Nat->Bool)(t:Int):Int:=sg ws.length fun k=>if(sp (wn ws k) t&&q k)=MB then d k else 0
def Flow(ws:rr)(d:ri):Prop:=∀t:Int,sg ws.length (fun k=>if l2 (wn ws k)=t then d k else 0)=sg ws.length (fun k=>if l1 (wn ws k)=t then d k else 0)
include hU in
theorem y8{d:ri}(i:Flow ws d){q:Nat->Bool}{t:Int}(c:Bool)(j:∀k,k<ws.length->l1 (wn ws k)=t\/l2 (wn ws k)=t->q k=c):OP ws d q t=OP ws d q (t-1):=by
 unfold OP
 have e:∀k,k<ws.length->(if(sp (wn ws k) t&&q k)=MB then d k else 0)=(if(sp (wn ws k) (t-1)&&q k)=MB then d k else 0)+(if c=MB then((if l1 (wn ws k)=t then d k else 0)-(if l2 (wn ws k)=t then d k else 0))else 0):=fun k g=>by
  have lt:=(aK hU g).lt
  have h:=j k g
  unfold sp
  generalize l1 (wn ws k)=a at *
  generalize l2 (wn ws k)=b at *
  by_cases x:a=t
  ·have f:=h (.inl x);rw[f,MG (():a<=t),MG (():t<b),MF (():¬a<=t-1),ME x,MD (():¬b=t)];cases c<;>simp
  ·by_cases y:b=t
   ·have f:=h (.inr y);rw[f,MF (():¬t<b),MG (():a<=t-1),MG (():t-1<b),MD x,ME y];cases c
    ·simp
    ·simp;omega
   ·rw[MD x,MD y];have e1:decide (a<=t)=decide (a<=t-1):=by rw[MJ];omega
    have e2:decide (t<b)=decide (t-1<b):=by rw[MJ];omega
    rw[e1,e2];simp
 rw[aS e,cZ];cases c with
 |false=>rw[show sg ws.length (fun k=>if MC=MB then((if l1 (wn ws k)=t then d k else 0)-(if l2 (wn ws k)=t then d k else 0))else 0)=0 from cy fun _ _=>rfl];omega
 |true=>
  have z:sg ws.length (fun k=>if MB=MB then((if l1 (wn ws k)=t then d k else 0)-(if l2 (wn ws k)=t then d k else 0))else 0)=0:=by rw[aS (h:=fun k=>(if l1 (wn ws k)=t then d k else 0)-(if l2 (wn ws k)=t then d k else 0)) fun k _=>ME rfl,dO,i t];omega
  rw[z];omega
include hU in
theorem kg{d:ri}(c:Flow ws d){q:Nat->Bool}:∀(n:Nat) (t:Int),(∀s,t<s->s<=t+n->∃a,∀k,k<ws.length->l1 (wn ws k)=s\/l2 (wn ws k)=s->q k=a)->OP ws d q (t+n)=OP ws d q t
 |0,t,_=>by rw[show t+((0:Nat):Int)=t by omega]
 |n+1,t,h=>by
  obtain⟨a,b⟩:=h (t+(n+1:Nat)) () ()
  rw[y8 hU c a b,show t+((n+1:Nat):Int)-1=t+(n:Int) by omega]
  exact kg c n t fun s e f=>h s e ()
include hU in
theorem pL{d:ri}(c:Flow ws d)(t:Int):OP ws d (fun _=>MB) t=0:=by
 have z:∀s:Int,s<0->OP ws d (fun _=>MB) s=0:=fun s f=>cy fun k e=>by
  have U:=aK hU e
  have:=U.a;have:=U.b
  rw[MD]
  intro q
  rw[Ll,aU]at q
  unfold l1 la at q
  omega
 by_cases h:t<0
 ·exact z t h
 ·have:=kg hU c (q:=fun _=>MB) (t+1).toNat (-1) fun s _ _=>⟨MB,fun _ _ _=>rfl⟩;rw[show(-1:Int)+((t+1).toNat:Int)=t by omega,z (-1) ()]at this;exact this
end
theorem Hx{w:Wl}(h:Mn w){t:Int}(e:l1 w=t):w.1=t/100/\w.2.1=t%100:=by
 have:=h.a;have:=h.b
 unfold l1 la at e;omega
theorem IK{w:Wl}(h:Mn w){t:Int}(e:l2 w=t):w.2.2.1=t/100/\w.2.2.2=t%100:=by
 have:=h.c;have:=h.d
 unfold l2 la at e;omega
def OR(w:Wl)(t:Int):Int:=sd w (t/100) (t%100)
theorem HW{w v:Wl}(h:Mn v){t:Int}(e:l1 v=t):OR w t=Mt w v:=by obtain⟨a,b⟩:=Hx h e;unfold OR Mt;rw[a,b]
theorem HF{w v:Wl}(h:Mn v){t:Int}(e:l2 v=t):OR w t=Mv w v:=by obtain⟨a,b⟩:=IK h e;unfold OR Mv;rw[a,b]
theorem lQ{U V:Wl}(d:Mn U)(e:Mn V)(F:Mz U V)(c:l1 U<l2 V)(a:l2 V<l2 U):Ms U V=decide (Mv U V<0):=by
 have f:=d.lt;have g:=e.lt;have nz:=F.e2.nz c a;have b:max (l1 U) (l1 V)<min (l2 U) (l2 V):=bW.mpr ⟨f,c,(),g⟩;have pr:(¬(0<Mt V U/\Mv V U<0)/\¬(Mt V U<0/\0<Mv V U))\/(¬(0<Mt U V/\Mv U V<0)/\¬(Mt U V<0/\0<Mv U V)):=F.pr.elim (fun z=>.inr (WG z)) (fun z=>.inl (WG z));rcases J5 (l1 U) (l1 V)with h|h|h
 ·have i:=F.e1.nz h ();have q:=within (wu V U) (wV V U) h () () a pr.symm i nz;rw[mW b h,MJ];omega
 ·rw[rR b h ()]
 ·have j:=F.e3.nz h ();have q:=pB (wV U V) (wu V U) h () a pr j nz;rw[oz b h,MJ];exact q
theorem dn{U V:Wl}(c:Mn U)(a:Mn V)(F:Mz U V){t:Int}(g:l1 U<t)(h:t<l2 U)(e:l1 V=t\/l2 V=t):Ms U V=decide (OR U t<0)/\Ms V U=decide (0<OR U t):=by
 have d:=c.lt;have f:=a.lt
 have nz:OR U t≠0/\Ms U V=decide (OR U t<0)/\max (l1 U) (l1 V)<min (l2 U) (l2 V):=by
  rcases e with e|e
  ·have b:max (l1 U) (l1 V)<min (l2 U) (l2 V):=bW.mpr ⟨d,(),(),f⟩;rw[HW a e];exact⟨F.e1.nz () (),mW b (),b⟩
  ·have b:max (l1 U) (l1 V)<min (l2 U) (l2 V):=bW.mpr ⟨d,(),(),f⟩;rw[HF a e];exact⟨F.e2.nz () (),lQ c a F () (),b⟩
 refine⟨nz.2.1,?_⟩;rw[fh c a F nz.2.2,nz.2.1,si nz.1,Bool.not_not]
section
variable{ws:rr}(hU:∀w∈ws,Mn w)(hF:PF ws)
def Bw(ws:rr)(d:ri)(j:Nat):Int:=OP ws d (fun k=>Ms (wn ws j) (wn ws k)) (l1 (wn ws j))
include hU hF in
theorem gB{d:ri}(c:Flow ws d){j:Nat}(a:j<ws.length){t:Int}(h:sp (wn ws j) t=MB):OP ws d (fun k=>Ms (wn ws j) (wn ws k)) t=Bw ws d j:=by
 rw[aU]at h;have:=kg hU c (q:=fun k=>Ms (wn ws j) (wn ws k)) (t-l1 (wn ws j)).toNat (l1 (wn ws j)) fun s f g=>⟨decide (OR (wn ws j) s<0),fun k b e=>?_⟩
 ·rw[show l1 (wn ws j)+((t-l1 (wn ws j)).toNat:Int)=t by omega]at this;exact this
 ·have ne:j≠k:=fun z=>by subst z;omega
  exact(dn (aK hU a) (aK hU b) (aY hF a b ne) f () e).1
end
theorem ib(ws:rr)(k:Nat):fw ws (2*k)=wn ws k:=by unfold fw wn;rw[ME (),show 2*k/2=k by omega]
theorem tV(ws:rr)(k:Nat):fw ws (2*k+1)=rev (wn ws k):=by unfold fw wn;rw[MD (),show(2*k+1)/2=k by omega]
def NK(a b:Vc):Bool:=decide ((vl a<0/\0<vl b)\/(((vl a<0/\vl b<0)\/(0<vl a/\0<vl b))/\vc a b<0))
theorem eZ{a b:Vc}:NK a b=MB↔(vl a<0/\0<vl b)\/(((vl a<0/\vl b<0)\/(0<vl a/\0<vl b))/\vc a b<0):=by unfold NK;rw[MK]
theorem GA(a b x:Vc):vl a*vc b x-vl b*vc a x+vl x*vc a b=0:=by unfold vl la vc NJ;grind
def sc(z:Int):_root_.Fin 3:=if z<0 then 0 else if z=0 then 1 else 2
theorem Q8{z:Int}:sc z=0↔z<0:=by
 unfold sc;split
 ·simp[*]
 ·split<;>simp[*]
theorem PY{z:Int}:sc z=1↔z=0:=by
 unfold sc;split
 ·simp;omega
 ·split<;>simp[*]
theorem Q7{z:Int}:sc z=2↔0<z:=by
 unfold sc;split
 ·simp;omega
 ·split
  ·simp;omega
  ·simp;omega
def Ac(a r:_root_.Fin 3):_root_.Fin 3:=if a=0 then 2-r else if a=1 then 1 else r
theorem zT(z:Int):sc (-z)=2-sc z:=by
 rcases J5 z 0 with h|h|h
 ·rw[Q8.mpr h,Q7.mpr ()];rfl
 ·rw[PY.mpr h,PY.mpr ()];rfl
 ·rw[Q7.mpr h,Q8.mpr ()];rfl
theorem sG(a r:Int):sc (a*r)=Ac (sc a) (sc r):=by
 rcases J5 a 0 with h|h|h
 ·rw[Q8.mpr h];rcases J5 r 0 with k|k|k
  ·rw[Q8.mpr k,Q7.mpr (JG h k)];rfl
  ·rw[PY.mpr k,PY.mpr (by rw[k,Int.mul_zero])];rfl
  ·rw[Q7.mpr k,Q8.mpr (Jq h k)];rfl
 ·rw[PY.mpr h,PY.mpr (by rw[h,Int.zero_mul])];rfl
 ·rw[Q7.mpr h];rcases J5 r 0 with k|k|k
  ·rw[Q8.mpr k,Q8.mpr (Jr h k)];rfl
  ·rw[PY.mpr k,PY.mpr (by rw[k,Int.mul_zero])];rfl
  ·rw[Q7.mpr k,Q7.mpr (Jl h k)];rfl
def YT(a b c:_root_.Fin 3):Bool:=!(a != 0&&b != 0&&c != 0&&(a==2||b==2||c==2))&&!(a != 2&&b != 2&&c != 2&&(a==0||b==0||c==0))
theorem jZ(z:Int):(z<0/\sc z=0)\/(z=0/\sc z=1)\/(0<z/\sc z=2):=by
 rcases J5 z 0 with h|h|h
 ·exact .inl ⟨h,Q8.mpr h⟩
 ·exact .inr (.inl ⟨h,PY.mpr h⟩)
 ·exact .inr (.inr ⟨h,Q7.mpr h⟩)
theorem Em{u v w:Int}(h:u+v+w=0):YT (sc u) (sc v) (sc w)=MB:=by rcases jZ u with x|x|x<;>rcases jZ v with y|y|y<;>rcases jZ w with z|z|z<;>rw[x.2,y.2,z.2]<;>first|rfl|(exfalso;omega)
def F7(a b p:_root_.Fin 3):Bool:=(a==0&&b==2)||(((a==0&&b==0)||(a==2&&b==2))&&p==0)
theorem pH(a b:Vc):NK a b=F7 (sc (vl a)) (sc (vl b)) (sc (vc a b)):=by rw[Kn,eZ];unfold F7;simp[Q8,Q7]
theorem Yc(a b:Vc):sc (vc b a)=2-sc (vc a b):=by rw[d6 a b,zT]
theorem Cn(a b x:Vc):YT (Ac (sc (vl a)) (sc (vc b x))) (2-Ac (sc (vl b)) (sc (vc a x))) (Ac (sc (vl x)) (sc (vc a b)))=MB:=by rw[<-sG,<-sG,<-sG,<-zT];exact Em (by have:=GA a b x;omega)
theorem j4{a b c:Vc}(d:NK a b=MB)(e:NK b c=MB):NK a c=MB:=by
 rw[pH]at *;have id:=Cn a b c
 revert d e id
 generalize sc (vl a)=A;generalize sc (vl b)=B;generalize sc (vl c)=C;generalize sc (vc a b)=p;generalize sc (vc a c)=q;generalize sc (vc b c)=r
 revert A B C p q r
 decide +kernel
theorem bF{a b:Vc}(c:NK a b=MB)(d:NK b a=MB):False:=by rw[eZ]at *;have:=d6 a b;omega
theorem xa{a b:Vc}(c:vl a≠0)(d:vl b≠0)(h:PH a b):NK a b=MB\/NK b a=MB:=by
 rw[eZ,eZ];have:=d6 a b;by_cases z:vc a b=0
 ·have:=fE (h z);omega
 ·omega
def Gd(a b p:_root_.Fin 3):Bool:=p != 1||(a==0&&b==2)||(a==2&&b==0)
theorem tm{a b:Vc}(h:PH a b):Gd (sc (vl a)) (sc (vl b)) (sc (vc a b))=MB:=by
 unfold Gd;by_cases z:vc a b=0
 ·rcases fE (h z)with q|q
  ·rw[Q8.mpr q.1,Q7.mpr q.2];simp
  ·rw[Q7.mpr q.1,Q8.mpr q.2];simp
 ·have:sc (vc a b)≠1:=fun e=>z (PY.mp e);simp[this]
def Fm(p q r:_root_.Fin 3):Bool:=decide (p<q)||(p==q&&r==0)
theorem El{b x y:Vc}(h:O0 b x y=MB):Fm (sc (vc b x)) (sc (vc b y)) (sc (vc x y))=MB:=by rw[ic]at h;unfold Fm;rcases fV (vc b x)with t|t|t<;>rcases fV (vc b y)with u|u|u<;>rw[t.2,u.2]at h<;>rcases jZ (vc b x)with p|p|p<;>rcases jZ (vc b y)with q|q|q<;>rcases jZ (vc x y)with r|r|r<;>rw[p.2,q.2,r.2]<;>first|rfl|(exfalso;omega)
theorem BJ{a b x:Vc}(c:vl a≠0)(d:vl b≠0)(f:vl x≠0)(g:PH a b)(i:PH a x)(j:PH b x)(h:O0 a b x=MB):(NK a b=MB/\NK b x=MB)\/(NK b x=MB/\NK x a=MB)\/(NK x a=MB/\NK a b=MB):=by
 have h:=El h;have id:=Cn a b x;have g:=tm g;have i:=tm i;have j:=tm j;have c:sc (vl a)≠1:=fun e=>c (PY.mp e);have d:sc (vl b)≠1:=fun e=>d (PY.mp e);have f:sc (vl x)≠1:=fun e=>f (PY.mp e);rw[pH,pH,pH,Yc a x]
 revert h id g i j c d f
 generalize sc (vl a)=A;generalize sc (vl b)=B;generalize sc (vl x)=X;generalize sc (vc a b)=p;generalize sc (vc a x)=q;generalize sc (vc b x)=r
 revert A B X p q r
 decide +kernel
def dw(w:Wl):Vc:=(w.2.2.1-w.1,w.2.2.2-w.2.1)
def ng(v:Vc):Vc:=(-v.1,-v.2)
theorem gW(ws:rr)(k:Nat):fd ws (2*k)=dw (wn ws k):=by unfold fd dw;rw[ib]
theorem sF(ws:rr)(k:Nat):fd ws (2*k+1)=ng (dw (wn ws k)):=by unfold fd dw ng;rw[tV];unfold rev;exact Prod.ext (by dsimp only;omega) (by dsimp only;omega)
theorem mU(w:Wl):vl (dw w)=l2 w-l1 w:=by unfold vl dw l1 l2 la;dsimp only;omega
theorem uU(v:Vc):vl (ng v)=-vl v:=by unfold vl ng la;dsimp only;omega
theorem GG(a b:Vc):vc (ng a) (ng b)=vc a b:=by unfold vc ng NJ;dsimp only;rw[Int.neg_mul_neg,Int.neg_mul_neg]
theorem cO(ws:rr)(k:Nat):la (fa ws (2*k)).1 (fa ws (2*k)).2=l1 (wn ws k):=by unfold fa;rw[ib];rfl
theorem qa(ws:rr)(k:Nat):la (fa ws (2*k+1)).1 (fa ws (2*k+1)).2=l2 (wn ws k):=by unfold fa;rw[tV];rfl
theorem jL{U V:Wl}(a:Mn U)(c:Mn V)(F:Mz U V)(e:l1 U=l1 V):Ms U V=decide (vc (dw U) (dw V)<0)/\vc (dw U) (dw V)≠0:=by
 have i:=a.lt;have j:=c.lt;have d:max (l1 U) (l1 V)<min (l2 U) (l2 V):=bW.mpr ⟨i,(),(),j⟩;obtain⟨f,g⟩:=gG a.b c.b (show la U.1 U.2.1=la V.1 V.2.1 from e);have k:Mv U V=vc (dw U) (dw V):=by unfold Mv sd vc dw NJ;rw[f,g]
 have l:Mv V U=-vc (dw U) (dw V):=by unfold Mv sd vc dw NJ;rw[f,g];grind
 rcases J5 (l2 U) (l2 V)with h|h|h
 ·have nz:=F.e4.nz () h;rw[u5 d e h,l];refine⟨by rw[MJ];omega,()⟩
 ·exact absurd ⟨e,h⟩ F.ne
 ·have nz:=F.e2.nz () h;rw[rR d e (),k];exact⟨rfl,()⟩
theorem zC{U V:Wl}(a:Mn U)(b:Mn V)(F:Mz U V)(e:l2 U=l2 V):Ms U V=decide (0<vc (dw U) (dw V))/\vc (dw U) (dw V)≠0:=by
 have i:=a.lt;have j:=b.lt;have c:max (l1 U) (l1 V)<min (l2 U) (l2 V):=bW.mpr ⟨i,(),(),j⟩;obtain⟨f,g⟩:=gG a.d b.d (show la U.2.2.1 U.2.2.2=la V.2.2.1 V.2.2.2 from e);have k:Mt U V=-vc (dw U) (dw V):=by unfold Mt sd vc dw NJ;rw[f,g];grind
 have l:Mt V U=vc (dw U) (dw V):=by unfold Mt sd vc dw NJ;rw[f,g];grind
 rcases J5 (l1 U) (l1 V)with h|h|h
 ·have nz:=F.e1.nz h ();rw[mW c h,k];refine⟨by rw[MJ];omega,()⟩
 ·exact absurd ⟨h,e⟩ F.ne
 ·have nz:=F.e3.nz h ();rw[oz c h,l];exact⟨rfl,()⟩
def Pf(ws:rr)(d:ri)(f:Nat):Int:=if f%2=0 then Bw ws d (f/2)+d (f/2)else Bw ws d (f/2)
theorem fg(ws:rr)(d:ri)(k:Nat):Pf ws d (2*k)=Bw ws d k+d k:=by unfold Pf;rw[ME (),show 2*k/2=k by omega]
theorem l5(ws:rr)(d:ri)(k:Nat):Pf ws d (2*k+1)=Bw ws d k:=by unfold Pf;rw[MD (),show(2*k+1)/2=k by omega]
def Zc(ws:rr)(d:ri)(t:Int):Int:=sg ws.length fun k=>if l1 (wn ws k)<t/\t<l2 (wn ws k)/\0<OR (wn ws k) t then d k else 0
def Es(ws:rr)(d:ri)(t:Int)(v:Vc):Int:=sg ws.length fun k=>(if l2 (wn ws k)=t/\NK (ng (dw (wn ws k))) v=MB then d k else 0)-(if l1 (wn ws k)=t/\NK (dw (wn ws k)) v=MB then d k else 0)
section
variable{ws:rr}(hU:∀w∈ws,Mn w)(hF:PF ws){d:ri}(fl:Flow ws d)
include hU hF fl
theorem Au{j:Nat}(a:j<ws.length):Pf ws d (2*j)=Zc ws d (l1 (wn ws j))+Es ws d (l1 (wn ws j)) (dw (wn ws j)):=by
 rw[fg];have one:d j=sg ws.length (fun k=>if k=j then d k else 0):=by rw[fj,ME a]
 have f:=fl (l1 (wn ws j));have J:=aK hU a;have g:=J.lt;have i:=mU (wn ws j);generalize b:l1 (wn ws j)=t at *;rw[one];unfold Bw OP Zc Es;rw[b,<-cZ,<-cZ];have z:sg ws.length (fun k=>(if l1 (wn ws k)=t then d k else 0)-(if l2 (wn ws k)=t then d k else 0))=0:=by rw[dO];omega
 refine Eq.trans (aS (h:=fun k=>((if l1 (wn ws k)<t/\t<l2 (wn ws k)/\0<OR (wn ws k) t then d k else 0)+((if l2 (wn ws k)=t/\NK (ng (dw (wn ws k))) (dw (wn ws j))=MB then d k else 0)-(if l1 (wn ws k)=t/\NK (dw (wn ws k)) (dw (wn ws j))=MB then d k else 0)))+((if l1 (wn ws k)=t then d k else 0)-(if l2 (wn ws k)=t then d k else 0))) fun k e=>?_) (by rw[cZ (fun k=>(if l1 (wn ws k)<t/\t<l2 (wn ws k)/\0<OR (wn ws k) t then d k else 0)+_),z];omega);dsimp only;show(if(sp (wn ws k) t&&Ms (wn ws j) (wn ws k))=MB then d k else 0)+(if k=j then d k else 0)=_;have K:=aK hU e;have l:=K.lt;by_cases c:k=j
 ·subst c;rw[ME rfl,b7 J,Lu,MD ⋯,MD (),MD (fun q=>()),b,ME rfl,MD (():¬l2 (wn ws k)=t)];have:¬(t=t/\NK (dw (wn ws k)) (dw (wn ws k))=MB):=fun q=>bF q.2 q.2;rw[MD this];omega
 ·rw[MD c];have F:=aY hF a e (fun q=>c q.symm);have m:=mU (wn ws k);rcases J5 (l1 (wn ws k)) t with x|x|x
  ·rcases J5 (l2 (wn ws k)) t with y|y|y
   ·have s:sp (wn ws k) t=MC:=by unfold sp;rw[MF (():¬t<l2 (wn ws k)),Lu]
    rw[s,JU,MD ⋯,MD (),MD (),MD (),MD (),MD ()];rfl
   ·have s:sp (wn ws k) t=MC:=by unfold sp;rw[MF (():¬t<l2 (wn ws k)),Lu]
    have p:NK (ng (dw (wn ws k))) (dw (wn ws j))=MB:=eZ.mpr (.inl ⟨by rw[uU];omega,()⟩);rw[s,JU,MD ⋯,MD (),ME ⟨y,p⟩,MD (),MD (),ME y];omega
   ·have s:sp (wn ws k) t=MB:=aU.mpr ⟨(),y⟩;have T:=(dn K J F.swap x y (.inl b)).2;rw[s,Ko,T,MD (():¬(l2 (wn ws k)=t/\_)),MD (():¬(l1 (wn ws k)=t/\_)),MD (():¬l1 (wn ws k)=t),MD (():¬l2 (wn ws k)=t)];by_cases q:0<OR (wn ws k) t
    ·rw[ME ‹q›,ME ⟨x,y,q⟩];omega
    ·rw[MD ‹q›,MD (fun z=>q z.2.2)];omega
  ·have s:sp (wn ws k) t=MB:=aU.mpr ⟨(),()⟩;obtain⟨A,nz⟩:=jL J K F ()
   have P:NK (dw (wn ws k)) (dw (wn ws j))=decide (0<vc (dw (wn ws j)) (dw (wn ws k))):=by
    rw[Kn,eZ,MK]
    have:=d6 (dw (wn ws j)) (dw (wn ws k))
    omega
   rw[s,Ko,A,P,MD (():¬(l1 (wn ws k)<t/\_)),MD (():¬(l2 (wn ws k)=t/\_)),ME x,MD (():¬l2 (wn ws k)=t)];by_cases q:vc (dw (wn ws j)) (dw (wn ws k))<0
   ·rw[ME ‹q›,MD (fun z=>by have:=MI z.2;omega)];omega
   ·rw[MD ‹q›,ME ⟨x,MG ()⟩];omega
  ·have s:sp (wn ws k) t=MC:=by unfold sp;rw[MF (():¬l1 (wn ws k)<=t),JU]
   rw[s,JU,MD ⋯,MD (),MD (),MD (),MD (),MD ()];rfl
theorem Ep{j:Nat}(a:j<ws.length):Pf ws d (2*j+1)=Zc ws d (l2 (wn ws j))+Es ws d (l2 (wn ws j)) (ng (dw (wn ws j))):=by
 rw[l5];have J:=aK hU a;have h:=J.lt;have i:=mU (wn ws j);have e:=uU (dw (wn ws j));rw[<-gB hU hF fl a (t:=l2 (wn ws j)-1) (aU.mpr ⟨(),()⟩)];generalize f:l2 (wn ws j)=t at *;unfold OP Zc Es;rw[<-cZ];refine aS fun k b=>?_;dsimp only;show(if(sp (wn ws k) (t-1)&&Ms (wn ws j) (wn ws k))=MB then d k else 0)=_;have K:=aK hU b;have l:=K.lt;by_cases c:k=j
 ·subst c;rw[b7 J,Lu,MD ⋯,MD (),MD (fun q=>bF q.2 q.2),MD ()];rfl
 ·have F:=aY hF a b (fun q=>c q.symm);have m:=mU (wn ws k);have g:=uU (dw (wn ws k));rcases J5 (l1 (wn ws k)) t with x|x|x
  ·rcases J5 (l2 (wn ws k)) t with y|y|y
   ·have s:sp (wn ws k) (t-1)=MC:=by unfold sp;rw[MF (():¬t-1<l2 (wn ws k)),Lu]
    rw[s,JU,MD ⋯,MD (),MD (),MD ()];rfl
   ·have s:sp (wn ws k) (t-1)=MB:=aU.mpr ⟨(),()⟩;obtain⟨A,nz⟩:=zC J K F ()
    have P:NK (ng (dw (wn ws k))) (ng (dw (wn ws j)))=decide (0<vc (dw (wn ws j)) (dw (wn ws k))):=by
     rw[Kn,eZ,MK,GG]
     have:=d6 (dw (wn ws j)) (dw (wn ws k))
     omega
    rw[s,Ko,A,P,MD (():¬(l1 (wn ws k)<t/\_)),MD (():¬(l1 (wn ws k)=t/\_))];by_cases q:0<vc (dw (wn ws j)) (dw (wn ws k))
    ·rw[ME ‹q›,ME ⟨y,MG q⟩];omega
    ·rw[MD ‹q›,MD (fun z=>q (MI z.2))];rfl
   ·have s:sp (wn ws k) (t-1)=MB:=aU.mpr ⟨(),()⟩;have T:=(dn K J F.swap x y (.inr f)).2;rw[s,Ko,T,MD (():¬(l2 (wn ws k)=t/\_)),MD (():¬(l1 (wn ws k)=t/\_))];by_cases q:0<OR (wn ws k) t
    ·rw[ME ‹q›,ME ⟨x,y,q⟩];omega
    ·rw[MD ‹q›,MD (fun z=>q z.2.2)];omega
  ·have s:sp (wn ws k) (t-1)=MC:=by unfold sp;rw[MF (():¬l1 (wn ws k)<=t-1),JU]
   have p:¬(l1 (wn ws k)=t/\NK (dw (wn ws k)) (ng (dw (wn ws j)))=MB):=fun q=>by
    have:=eZ.mp q.2
    omega
   rw[s,JU,MD ⋯,MD (),MD (),MD p];rfl
  ·have s:sp (wn ws k) (t-1)=MC:=by unfold sp;rw[MF (():¬l1 (wn ws k)<=t-1),JU]
   rw[s,JU,MD ⋯,MD (),MD (),MD ()];rfl
theorem uO{g:Nat}(a:g<2*ws.length):Pf ws d g=Zc ws d (la (fa ws g).1 (fa ws g).2)+Es ws d (la (fa ws g).1 (fa ws g).2) (fd ws g):=by
 rcases KR g with h|h
 ·obtain⟨k,rfl⟩:∃k,g=2*k:=⟨g/2,()⟩;rw[cO,gW];exact Au hU hF fl ()
 ·obtain⟨k,rfl⟩:∃k,g=2*k+1:=⟨g/2,()⟩;rw[qa,sF];exact Ep hU hF fl ()
end
def eF(d:ri)(g:Nat):Int:=if g%2=0 then -d (g/2)else d (g/2)
theorem EX(d:ri){n g:Nat}(a:g<2*n):eF d g=sg n fun k=>(if 2*k+1=g then d k else 0)-(if 2*k=g then d k else 0):=by
 rw[dO];unfold eF;by_cases h:g%2=0
 ·rw[ME h,show sg n (fun k=>if 2*k+1=g then d k else 0)=0 from cy fun k _=>MD (),aS (h:=fun k=>if k=g/2 then d k else 0) fun k _=>?_,fj,ME ()]
  ·omega
  ·by_cases e:k=g/2
   ·rw[ME e,ME ()]
   ·rw[MD e,MD ()]
 ·rw[MD h,show sg n (fun k=>if 2*k=g then d k else 0)=0 from cy fun k _=>MD (),aS (h:=fun k=>if k=g/2 then d k else 0) fun k _=>?_,fj,ME ()]
  ·omega
  ·by_cases e:k=g/2
   ·rw[ME e,ME ()]
   ·rw[MD e,MD ()]
theorem Fe(ws:rr)(d:ri)(f:Nat):Pf ws d f=Pf ws d (fx f)+eF d (fx f):=by
 unfold Pf eF;rw[(k8 f).1,(k8 f).2];by_cases h:f%2=0
 ·rw[ME h,MD (),MD ()]
 ·rw[MD h,ME (),ME ()];omega
theorem j8{A B C:Prop}[Decidable A][Decidable B][Decidable C]{x:Int}(h:A↔B\/C)(n:¬(B/\C)):(if A then x else 0)=(if B then x else 0)+(if C then x else 0):=by
 by_cases b:B
 ·rw[ME (h.mpr (.inl b)),ME b,MD fun c=>n ⟨b,c⟩];omega
 ·by_cases c:C
  ·rw[ME (h.mpr (.inr c)),MD b,ME c];omega
  ·rw[MD fun a=>(h.mp a).elim b c,MD b,MD c];rfl
section
variable{ws:rr}(hU:∀w∈ws,Mn w)(hF:PF ws)
include hU in
theorem rD{g:Nat}(a:g<2*ws.length):vl (fd ws g)≠0:=by
 rcases KR g with h|h
 ·obtain⟨k,rfl⟩:∃k,g=2*k:=⟨g/2,()⟩;have:=(aK hU (():k<ws.length)).lt;rw[gW,mU];omega
 ·obtain⟨k,rfl⟩:∃k,g=2*k+1:=⟨g/2,()⟩;have:=(aK hU (():k<ws.length)).lt;rw[sF,uU,mU];omega
include hU in
theorem FE{g:Nat}(a:g<2*ws.length):0<=(fa ws g).2/\(fa ws g).2<=20:=by
 rcases KR g with h|h
 ·obtain⟨k,rfl⟩:∃k,g=2*k:=⟨g/2,()⟩;unfold fa;rw[ib];exact(aK hU (():k<ws.length)).b
 ·obtain⟨k,rfl⟩:∃k,g=2*k+1:=⟨g/2,()⟩;unfold fa;rw[tV];exact(aK hU (():k<ws.length)).d
include hU in
theorem Cw{g h:Nat}(c:g<2*ws.length)(d:h<2*ws.length)(e:la (fa ws g).1 (fa ws g).2=la (fa ws h).1 (fa ws h).2):fa ws g=fa ws h:=by obtain⟨a,b⟩:=gG (FE hU c) (FE hU d) e;exact Prod.ext a b
def tf(ws:rr)(g:Nat):Int:=la (fa ws g).1 (fa ws g).2
variable{d:ri}(fl:Flow ws d)
include hU hF fl in
theorem Gx{f:Nat}(hf:f<2*ws.length):Pf ws d (bh ws f)=Pf ws d f:=by
 have v:=kA hf;have J:=Cb hU hF hf;have e1:fa ws (bh ws f)=fa ws (fx f):=by rw[ku hU hF hf,fH]
 rw[Fe ws d f,uO hU hF fl J,uO hU hF fl v,e1];have K:=fl (la (fa ws (fx f)).1 (fa ws (fx f)).2);have L:∀g,g<2*ws.length->la (fa ws g).1 (fa ws g).2=la (fa ws (fx f)).1 (fa ws (fx f)).2->fa ws g=fb ws f:=fun g M e=>by rw[Cw hU M v e,fH]
 have N:∀k,la (fa ws (2*k)).1 (fa ws (2*k)).2=l1 (wn ws k):=cO ws;have O:∀k,la (fa ws (2*k+1)).1 (fa ws (2*k+1)).2=l2 (wn ws k):=qa ws;have i:∀k,fd ws (2*k)=dw (wn ws k):=gW ws;have j:∀k,fd ws (2*k+1)=ng (dw (wn ws k)):=sF ws;have V:=EX d v;generalize W:la (fa ws (fx f)).1 (fa ws (fx f)).2=t at *;have P:∀k,k<ws.length->l1 (wn ws k)=t->fa ws (2*k)=fb ws f:=fun k l e=>L _ () (by rw[N];exact e);have Q:∀k,k<ws.length->l2 (wn ws k)=t->fa ws (2*k+1)=fb ws f:=fun k l e=>L _ () (by rw[O];exact e);have o:∀k,2*k=fx f->l1 (wn ws k)=t:=fun k e=>by rw[<-N,e,W]
 have s:∀k,2*k+1=fx f->l2 (wn ws k)=t:=fun k e=>by rw[<-O,e,W]
 rcases g8 hU hF hf with⟨c,e⟩|⟨m,all⟩
 ·-- the only one
  have only:∀g,g<2*ws.length->fa ws g=fb ws f->g=fx f:=fun g M e=>JO fun ne=>by
   have:g∈cV ws f:=bG.mpr ⟨M,e,ne⟩
   rw[c]at this;cases this
  rw[e]
  have z:eF d (fx f)=0:=by
   rw[V]
   have:=aS (n:=ws.length) (g:=fun k=>(if 2*k+1=fx f then d k else 0)-(if 2*k=fx f then d k else 0)) (h:=fun k=>(if l2 (wn ws k)=t then d k else 0)-(if l1 (wn ws k)=t then d k else 0)) fun k l=>by
    have Y:(2*k+1=fx f)↔l2 (wn ws k)=t:=⟨s k,fun e=>only _ () (Q k l e)⟩
    have Z:(2*k=fx f)↔l1 (wn ws k)=t:=⟨o k,fun e=>only _ () (P k l e)⟩
    simp only[Y,Z]
   rw[this,dO,K];omega
  rw[z];omega
 ·obtain⟨m1,T,X⟩:=bG.mp m;have S:∀g h,g<2*ws.length->h<2*ws.length->fa ws g=fb ws f->fa ws h=fb ws f->g≠h->PH (fd ws g) (fd ws h):=fun g h M hh a b ne=>ie hU hF M hh ne (by rw[a,b]);have U:fa ws (fx f)=fb ws f:=fH ws f;have R:∀x,x<2*ws.length->fa ws x=fb ws f->x≠fx f->x≠bh ws f->(NK (fd ws (fx f)) (fd ws (bh ws f))=MB/\NK (fd ws (bh ws f)) (fd ws x)=MB)\/(NK (fd ws (bh ws f)) (fd ws x)=MB/\NK (fd ws x) (fd ws (fx f))=MB)\/(NK (fd ws x) (fd ws (fx f))=MB/\NK (fd ws (fx f)) (fd ws (bh ws f))=MB):=fun x y ex u E=>BJ (rD hU v) (rD hU J) (rD hU y) (S _ _ v J U T (fun z=>X z.symm)) (S _ _ v y U ex (fun z=>u z.symm)) (S _ _ J y T ex (fun z=>E z.symm)) ((all x (bG.mpr ⟨y,ex,u⟩)).resolve_left E);rw[Int.add_assoc]
  congr 1
  rw[V];unfold Es;rcases xa (rD hU v) (rD hU J) (S _ _ v J U T (fun z=>X z.symm))with p|p
  ·have key:∀x,x<2*ws.length->fa ws x=fb ws f->(NK (fd ws x) (fd ws (bh ws f))=MB↔NK (fd ws x) (fd ws (fx f))=MB\/x=fx f):=fun x y ex=>by
    by_cases u:x=fx f
    ·subst u;exact⟨fun _=>.inr rfl,fun _=>p⟩
    ·by_cases E:x=bh ws f
     ·subst E;exact⟨fun q=>(bF q q).elim,fun q=>q.elim (fun q=>(bF p q).elim) (fun q=>absurd q u)⟩
     ·rcases R x y ex u E with⟨_,q⟩|⟨q,r⟩|⟨q,_⟩
      ·exact⟨fun z=>(bF q z).elim,fun z=>z.elim (fun z=>(bF q (j4 z p)).elim) fun z=>absurd z u⟩
      ·exact(bF p (j4 q r)).elim
      ·exact⟨fun _=>.inl q,fun _=>j4 q p⟩
   rw[<-cZ];refine aS fun k l=>?_
   have A:(l2 (wn ws k)=t/\NK (ng (dw (wn ws k))) (fd ws (bh ws f))=MB)↔(l2 (wn ws k)=t/\NK (ng (dw (wn ws k))) (fd ws (fx f))=MB)\/2*k+1=fx f:=by
    constructor
    ·rintro⟨a,b⟩;rw[<-j]at b;rcases(key _ () (Q k l a)).mp b with q|q
     ·rw[j]at q;exact .inl ⟨a,q⟩
     ·exact .inr q
    ·intro z;have a:l2 (wn ws k)=t:=z.elim (fun q=>q.1) (s k);refine⟨a,?_⟩;rw[<-j];exact(key _ () (Q k l a)).mpr (z.imp (fun q=>by rw[j];exact q.2) id)
   have B:(l1 (wn ws k)=t/\NK (dw (wn ws k)) (fd ws (bh ws f))=MB)↔(l1 (wn ws k)=t/\NK (dw (wn ws k)) (fd ws (fx f))=MB)\/2*k=fx f:=by
    constructor
    ·rintro⟨a,b⟩;rw[<-i]at b;rcases(key _ () (P k l a)).mp b with q|q
     ·rw[i]at q;exact .inl ⟨a,q⟩
     ·exact .inr q
    ·intro z;have a:l1 (wn ws k)=t:=z.elim (fun q=>q.1) (o k);refine⟨a,?_⟩;rw[<-i];exact(key _ () (P k l a)).mpr (z.imp (fun q=>by rw[i];exact q.2) id)
   have C:¬((l2 (wn ws k)=t/\NK (ng (dw (wn ws k))) (fd ws (fx f))=MB)/\2*k+1=fx f):=fun F=>by obtain⟨⟨_,q⟩,e⟩:=F;rw[<-j,e]at q;exact bF q q
   have D:¬((l1 (wn ws k)=t/\NK (dw (wn ws k)) (fd ws (fx f))=MB)/\2*k=fx f):=fun G=>by obtain⟨⟨_,q⟩,e⟩:=G;rw[<-i,e]at q;exact bF q q
   rw[j8 A C,j8 B D];omega
  ·have key:∀x,x<2*ws.length->fa ws x=fb ws f->NK (fd ws x) (fd ws (bh ws f))≠MB/\(NK (fd ws x) (fd ws (fx f))=MB\/x=fx f):=fun x y ex=>by
    by_cases u:x=fx f
    ·subst u;exact⟨fun q=>bF p q,.inr rfl⟩
    ·by_cases E:x=bh ws f
     ·subst E;exact⟨fun q=>bF q q,.inl p⟩
     ·rcases R x y ex u E with⟨q,_⟩|⟨q,r⟩|⟨_,q⟩
      ·exact(bF p q).elim
      ·exact⟨fun z=>bF q z,.inl r⟩
      ·exact(bF p q).elim
   rw[cy fun k l=>by
    rw[MD fun z=>(key _ () (Q k l z.1)).1 (by rw[j];exact z.2),MD fun z=>(key _ () (P k l z.1)).1 (by rw[i];exact z.2)];rfl]
   rw[<-cZ,aS (h:=fun k=>(if l2 (wn ws k)=t then d k else 0)-(if l1 (wn ws k)=t then d k else 0)) fun k l=>?_,dO,K]
   ·omega
   have A:(l2 (wn ws k)=t)↔(l2 (wn ws k)=t/\NK (ng (dw (wn ws k))) (fd ws (fx f))=MB)\/2*k+1=fx f:=by
    constructor
    ·intro a;rcases(key _ () (Q k l a)).2 with q|q
     ·rw[j]at q;exact .inl ⟨a,q⟩
     ·exact .inr q
    ·exact fun z=>z.elim (fun q=>q.1) (s k)
   have B:(l1 (wn ws k)=t)↔(l1 (wn ws k)=t/\NK (dw (wn ws k)) (fd ws (fx f))=MB)\/2*k=fx f:=by
    constructor
    ·intro a;rcases(key _ () (P k l a)).2 with q|q
     ·rw[i]at q;exact .inl ⟨a,q⟩
     ·exact .inr q
    ·exact fun z=>z.elim (fun q=>q.1) (o k)
   have C:¬((l2 (wn ws k)=t/\NK (ng (dw (wn ws k))) (fd ws (fx f))=MB)/\2*k+1=fx f):=fun H=>by obtain⟨⟨_,q⟩,e⟩:=H;rw[<-j,e]at q;exact bF q q
   have D:¬((l1 (wn ws k)=t/\NK (dw (wn ws k)) (fd ws (fx f))=MB)/\2*k=fx f):=fun I=>by obtain⟨⟨_,q⟩,e⟩:=I;rw[<-i,e]at q;exact bF q q
   rw[j8 A C,j8 B D];omega
end
theorem yk{ws:rr}{f k:Nat}(h:NR ws f k):(rn ws f k).Nodup:=by unfold rn;rw[List.nodup_iff_pairwise_ne,List.pairwise_map];refine List.Pairwise.imp_of_mem ?_ (List.pairwise_lt_range (n:=k+1));intro a b e d c;exact h a b c (by have:=Jv.mp d;omega)
theorem fU{ws:rr}{f k g:Nat}:g∈rn ws f k↔∃i,i<=k/\NP ws f i=g:=by unfold rn;rw[JC];exact⟨fun a=>by obtain⟨i,h,e⟩:=a;exact(⟨i,by have:=Jv.mp h;omega,e⟩),fun b=>by obtain⟨i,h,e⟩:=b;exact(⟨i,Jv.mpr (),e⟩)⟩
theorem jo(c:ri){n:Nat}:∀r:pq,r.Nodup->(∀g∈r,g<2*n)->(r.map c).sum=sg n fun k=>(if 2*k∈r then c (2*k)else 0)+(if 2*k+1∈r then c (2*k+1)else 0)
 |[],_,_=>by rw[cy fun k _=>by simp];rfl
 |g::r,nd,h=>by
  rw[Lz]at nd
  rw[J0,JH,jo c r nd.2 fun x i=>h x (JA _ i)]
  have j:=h g JW
  have e:c g=sg n fun k=>(if 2*k=g then c (2*k)else 0)+(if 2*k+1=g then c (2*k+1)else 0):=by
   rw[cZ]
   by_cases p:g%2=0
   ·rw[show sg n (fun k=>if 2*k+1=g then c (2*k+1)else 0)=0 from cy fun k _=>MD (),aS (h:=fun k=>if k=g/2 then c (2*k)else 0) fun k _=>?_,fj (fun k=>c (2*k)),ME (),show 2*(g/2)=g by omega]
    ·omega
    ·by_cases e:k=g/2
     ·rw[ME e,ME ()]
     ·rw[MD e,MD ()]
   ·rw[show sg n (fun k=>if 2*k=g then c (2*k)else 0)=0 from cy fun k _=>MD (),aS (h:=fun k=>if k=g/2 then c (2*k+1)else 0) fun k _=>?_,fj (fun k=>c (2*k+1)),ME (),show 2*(g/2)+1=g by omega]
    ·omega
    ·by_cases e:k=g/2
     ·rw[ME e,ME ()]
     ·rw[MD e,MD ()]
  rw[e,<-cZ]
  refine aS fun k _=>?_
  have m:∀x:Nat,(x∈g::r)↔(x=g)\/x∈r:=fun x=>Jx
  have f:∀x:Nat,¬(x=g/\x∈r):=fun x d=>by obtain⟨a,b⟩:=d;exact(nd.1 (a▸b))
  rw[j8 (m (2*k)) (f (2*k)),j8 (m (2*k+1)) (f (2*k+1))]
  omega
def dR(r:pq)(k:Nat):Int:=(if 2*k∈r then 1 else 0)-(if 2*k+1∈r then 1 else 0)
theorem xG(r:pq)(k:Nat)(x:Int):(if 2*k∈r then x else 0)+(if 2*k+1∈r then -x else 0)=dR r k*x:=by unfold dR;split<;>split<;>first|(simp;done)|(simp;omega)
section
variable{ws:rr}(hU:∀w∈ws,Mn w)(hF:PF ws){f:Nat}(hf:f<2*ws.length){r:pq}(R:gn ws f r)
include hU hF hf R
theorem c8:∀g∈r,g<2*ws.length:=fun g a=>by obtain⟨k,n,e,rfl⟩:=R;obtain⟨i,_,rfl⟩:=fU.mp a;exact dm hU hF hf i
theorem pR:r.Nodup:=by obtain⟨k,n,e,rfl⟩:=R;exact yk n
theorem p9:∀g∈r,bh ws g∈r:=fun g a=>by
 obtain⟨k,n,e,rfl⟩:=R;obtain⟨i,b,rfl⟩:=fU.mp a;by_cases h:i=k
 ·subst h;rw[e];exact fU.mpr ⟨0,(),rfl⟩
 ·exact fU.mpr ⟨i+1,(),rfl⟩
theorem wk:f∈r:=by obtain⟨k,n,e,rfl⟩:=R;exact fU.mpr ⟨0,(),rfl⟩
theorem jO(a:Vc->Int):sg ws.length (fun k=>dR r k*(a (fb ws (2*k))-a (fa ws (2*k))))=0:=by
 have nd:=pR hU hF hf R;have lt:=c8 hU hF hf R;have key:=jo (fun g=>a (fb ws g)-a (fa ws g)) r nd lt
 have z:(r.map fun g=>a (fb ws g)-a (fa ws g)).sum=0:=by
  obtain⟨k,n,e,rfl⟩:=R
  have key:∀k,((rn ws f k).map fun g=>a (fb ws g)-a (fa ws g)).sum=a (fb ws (NP ws f k))-a (fa ws f):=fun k=>by
   induction k with
   |zero=>rw[vM];simp only[J0,Kh,JH,List.sum_nil,Int.add_zero];rfl
   |succ k b=>
    rw[lj,Jg,List.sum_append,b]
    simp only[J0,Kh,JH,List.sum_nil]
    have:fa ws (NP ws f (k+1))=fb ws (NP ws f k):=ku hU hF (dm hU hF hf k)
    rw[this]
    omega
  rw[key,<-ku hU hF (dm hU hF hf k),e]
  omega
 rw[z]at key;rw[key];refine aS fun k _=>?_;have e2:fx (2*k)=2*k+1:=by unfold fx;rw[ME ()]
 rw[<-e2,fH,zA,e2,<-xG,Int.neg_sub]
theorem tq(k:Nat):la (fb ws (2*k)).1 (fb ws (2*k)).2=l2 (wn ws k):=by unfold fb;rw[ib];rfl
theorem aM:Flow ws (dR r):=fun t=>by
 have h:=jO hU hF hf R fun c=>if la c.1 c.2=t then 1 else 0;have e:=aS (n:=ws.length) (g:=fun k=>dR r k*((if la (fb ws (2*k)).1 (fb ws (2*k)).2=t then 1 else 0)-(if la (fa ws (2*k)).1 (fa ws (2*k)).2=t then 1 else 0))) (h:=fun k=>(if l2 (wn ws k)=t then dR r k else 0)-(if l1 (wn ws k)=t then dR r k else 0)) fun k a=>by rw[cO,tq hU hF hf R];split<;>split<;>simp
 rw[e,dO]at h;omega
theorem bH{d:ri}(b:Flow ws d){g:Nat}(a:g∈r):Pf ws d g=Pf ws d f:=by
 obtain⟨k,n,e,rfl⟩:=R;obtain⟨i,c,rfl⟩:=fU.mp a;clear c a
 induction i with
 |zero=>rfl
 |succ i h=>rw[<-h];exact Gx hU hF b (dm hU hF hf i)
end
def xi(w:Wl)(t:Int):Rat:=(Nm w (2*t+1):Rat)/(lam w:Rat)
theorem bC{z:Int}(h:0<z):(0:Rat)<(z:Rat):=by exact_mod_cast h
theorem G9{U V:Wl}(a:Mn U)(b:Mn V){t:Int}:xi U t<xi V t↔0<Gh U V (2*t+1):=by
 have c:0<lam U:=by have:=a.lt;unfold lam;omega
 have d:0<lam V:=by have:=b.lt;unfold lam;omega
 unfold xi Gh;have e1:(Nm U (2*t+1):Rat)/(lam U:Rat)=Rat.divInt (Nm U (2*t+1)) (lam U):=(Rat.divInt_eq_div ..).symm;have e2:(Nm V (2*t+1):Rat)/(lam V:Rat)=Rat.divInt (Nm V (2*t+1)) (lam V):=(Rat.divInt_eq_div ..).symm;rw[e1,e2,Ma.nU c d];omega
theorem dI{U V:Wl}(a:Mn U)(b:Mn V)(F:Mz U V){t:Int}(e:sp U t=MB)(f:sp V t=MB):Ms U V=MB↔xi U t<xi V t:=by
 rw[aU]at e f;have c:max (l1 U) (l1 V)<min (l2 U) (l2 V):=bW.mpr ⟨(),(),(),()⟩;have d:=c;rw[Int.max_comm,Int.min_comm]at d;rw[G9 a b];constructor
 ·exact qr a b F c (Rp.mpr ⟨(),()⟩) (Rq.mpr ⟨(),()⟩)
 ·intro g;cases z:Ms U V with
  |true=>rfl
  |false=>
   have n:=fh a b F c
   rw[z]at n
   have h:=qr (t:=2*t+1) b a F.swap d (Rp.mpr ⟨(),()⟩) (Rq.mpr ⟨(),()⟩) n
   rw[uQ]at h
   omega
theorem uF{U V:Wl}(b:Mn U)(d:Mn V)(F:Mz U V){t:Int}(f:sp U t=MB)(g:sp V t=MB):xi U t≠xi V t:=fun e=>by
 have a:¬Ms U V=MB:=fun z=>by have:=(dI b d F f g).mp z;rw[e]at this;exact Rat.lt_irrefl this
 have c:¬Ms V U=MB:=fun z=>by have:=(dI d b F.swap g f).mp z;rw[e]at this;exact Rat.lt_irrefl this
 rw[aU]at f g;rw[fh b d F (bW.mpr ⟨(),(),(),()⟩)]at c;cases z:Ms U V<;>simp_all
theorem p6(q:Nat->Rat):∀l:pq,l≠[]->∃m∈l,∀x∈l,q x<=q m
 |[],h=>absurd rfl h
 |[a],_=>⟨a,by simp,fun x c=>by rw[JS.mp c];exact Rat.le_refl⟩
 |a::b::l,_=>by
  obtain⟨m,d,h⟩:=p6 q (b::l) (by simp)
  rcases Rat.le_total (a:=q a) (b:=q m)with z|z
  ·exact⟨m,JA _ d,fun x c=>(Jx.mp c).elim (fun e=>e▸z) (h x)⟩
  ·exact⟨a,JW,fun x c=>(Jx.mp c).elim (fun e=>e▸Rat.le_refl) fun c=>Rat.le_trans (h x c) z⟩
theorem zF(q:ri):∀l:pq,l≠[]->∃m∈l,∀x∈l,q m<=q x
 |[],h=>absurd rfl h
 |[a],_=>⟨a,by simp,fun x c=>by rw[JS.mp c];exact KH _⟩
 |a::b::l,_=>by
  obtain⟨m,d,h⟩:=zF q (b::l) (by simp)
  by_cases z:q m<=q a
  ·exact⟨m,JA _ d,fun x c=>(Jx.mp c).elim (fun e=>e▸z) (h x)⟩
  ·exact⟨a,JW,fun x c=>(Jx.mp c).elim (fun e=>e▸KH _) fun c=>by have:=h x c;omega⟩
structure R7(ws:rr)(r:pq)(t:Int)(k:Nat):Prop where
 k1:k<ws.length
 e:l1 (wn ws k)=t
 m:2*k∈r\/2*k+1∈r
 ge:∀j,2*j∈r\/2*j+1∈r->t<=l1 (wn ws j)
 low:∀j,2*j∈r\/2*j+1∈r->l1 (wn ws j)=t->Ms (wn ws k) (wn ws j)=MC
section
variable{ws:rr}(hU:∀w∈ws,Mn w)(hF:PF ws){f:Nat}(hf:f<2*ws.length){r:pq}(R:gn ws f r)
include hU hF hf R
theorem fD:∃t k,R7 ws r t k/\∃g∈r,tf ws g=t/\∀h∈r,t<=tf ws h:=by
 have ne:r≠[]:=KC (wk hU hF hf R);obtain⟨g,c,mn⟩:=zF (tf ws) r ne
 have ge:∀j,2*j∈r\/2*j+1∈r->tf ws g<=l1 (wn ws j):=fun j h=>by
  rcases h with h|h
  ·have:=mn _ h;unfold tf at this;rw[cO]at this;exact this
  ·have:=mn _ (p9 hU hF hf R _ h);unfold tf at this;rw[ku hU hF (c8 hU hF hf R _ h)]at this;have e2:fx (2*j)=2*j+1:=by unfold fx;rw[ME ()]
   rw[<-e2,zA,cO]at this;exact this
 have m:((J8 ws.length).filter fun j=>decide ((2*j∈r\/2*j+1∈r)/\l1 (wn ws j)=tf ws g))≠[]:=by
  have lt:=c8 hU hF hf R g c
  refine KC (a:=g/2) ?_
  rw[Jb,Jv,MK]
  refine⟨(),?_⟩
  rcases KR g with h|h
  ·have e:2*(g/2)=g:=()
   refine⟨.inl (by rw[e];exact c),?_⟩;unfold tf;rw[<-cO,e]
  ·exfalso;have e:2*(g/2)+1=g:=()
   have q:=ge (g/2) (.inr (by rw[e];exact c));have l:=(aK hU (():g/2<ws.length)).lt;have w:tf ws g=l2 (wn ws (g/2)):=by unfold tf;rw[<-qa,e]
   omega
 obtain⟨k,b,n⟩:=p6 (fun j=>xi (wn ws j) (tf ws g)) _ m;rw[Jb,Jv,MK]at b;refine⟨tf ws g,k,⟨b.1,b.2.2,b.2.1,ge,fun j i o=>?_⟩,g,c,rfl,mn⟩;have d:j<ws.length:=by rcases i with h|h<;>(have:=c8 hU hF hf R _ h;omega)
 by_cases ne:k=j
 ·subst ne;exact b7 (aK hU d)
 ·have K:=aK hU b.1;have J:=aK hU d;have p:=K.lt;have s:=J.lt;have q:=n j (by rw[Jb,Jv,MK];exact⟨d,i,o⟩);cases z:Ms (wn ws k) (wn ws j)with
  |false=>rfl
  |true=>
   have:=(dI K J (aY hF b.1 d ne) (t:=tf ws g) (aU.mpr ⟨(),()⟩) (aU.mpr ⟨(),()⟩)).mp z
   exact absurd this (Rat.not_lt.mpr q)
theorem zx{t:Int}{k:Nat}(L:R7 ws r t k):Bw ws (dR r) k=0:=by
 unfold Bw OP;refine cy fun j b=>?_;by_cases m:2*j∈r\/2*j+1∈r
 ·have ge:=L.ge j m;rw[L.e];refine MD fun q=>?_;rw[Jp,aU]at q;have:=L.low j m ();have a:Ms (wn ws k) (wn ws j)=MB:=q.2;rw[this]at a;cases a
 ·have:dR r j=0:=by unfold dR;rw[MD fun z=>m (.inl z),MD fun z=>m (.inr z)];rfl
  rw[this];split<;>rfl
theorem jP{t:Int}{k:Nat}(L:R7 ws r t k):(2*k+1∈r/\Pf ws (dR r) f=0)\/(2*k+1∉r/\2*k∈r/\Pf ws (dR r) f=1):=by
 have a:=aM hU hF hf R;have z:=zx hU hF hf R L;by_cases h:2*k+1∈r
 ·left;refine⟨h,?_⟩;rw[<-bH hU hF hf R a h,l5,z]
 ·right;have m:=L.m.resolve_right h;refine⟨h,m,?_⟩;rw[<-bH hU hF hf R a m,fg,z];unfold dR;rw[ME m,MD h];rfl
end
def sq:Nat->(Nat->Rat)->Rat
 |0,_=>0
 |n+1,g=>sq n g+g n
theorem c9{g h:Nat->Rat}:∀{n:Nat},(∀k,k<n->g k=h k)->sq n g=sq n h
 |0,_=>rfl
 |n+1,e=>by rw[sq,sq,c9 fun k a=>e k (),e n ()]
theorem xu(g h:Nat->Rat):∀n,sq n (fun k=>g k+h k)=sq n g+sq n h
 |0=>by rw[sq,sq,sq,Rat.add_zero]
 |n+1=>by rw[sq,sq,sq,xu g h n];grind
theorem yL(c:Rat)(g:Nat->Rat):∀n,sq n (fun k=>c*g k)=c*sq n g
 |0=>by rw[sq,sq,Rat.mul_zero]
 |n+1=>by rw[sq,sq,yL c g n];grind
theorem vK:∀n,sq n (fun _=>0)=0
 |0=>rfl
 |n+1=>by rw[sq,vK n,Rat.add_zero]
theorem uz(g:Nat->Nat->Rat)(m:Nat):∀n,sq n (fun k=>sq m (g k))=sq m fun t=>sq n fun k=>g k t
 |0=>by rw[sq];exact(vK m).symm
 |n+1=>by
  rw[sq,uz g m n,<-xu]
  rfl
theorem gZ(g:ri):∀n,((sg n g:Int):Rat)=sq n fun k=>((g k:Int):Rat)
 |0=>rfl
 |n+1=>by rw[sg,sq,Lf,gZ g n]
theorem sq_nonneg{g:Nat->Rat}:∀{n:Nat},(∀k,k<n->0<=g k)->0<=sq n g
 |0,_=>Rat.le_refl
 |n+1,h=>by
  have a:=sq_nonneg (g:=g) (n:=n) fun k c=>h k ()
  have b:=h n ()
  rw[sq]
  exact Rat.add_nonneg a b
theorem sq_pos{g:Nat->Rat}{j:Nat}(p:0<g j):∀{n:Nat},j<n->(∀k,k<n->0<=g k)->0<sq n g
 |0,hj,_=>absurd hj ()
 |n+1,hj,h=>by
  rw[sq]
  by_cases e:j=n
  ·subst e
   have a:=sq_nonneg (g:=g) (n:=j) fun k c=>h k ()
   grind
  ·have a:=sq_pos p (n:=n) () fun k c=>h k ()
   have b:=h n ()
   grind
theorem ik(p:Nat->Bool)(g:Nat->Rat):∀n,(((J8 n).filter p).map g).sum=sq n fun k=>if p k=MB then g k else 0
 |0=>rfl
 |n+1=>by
  rw[Kw,List.filter_append,Jg,List.sum_append,ik p g n,sq]
  congr 1
  by_cases h:p n=MB
  ·rw[ME h];simp[h,Rat.add_zero]
  ·rw[MD h];simp[h]
theorem yi{l c:pq}(h:l.Perm c)(g:Nat->Rat):(l.map g).sum=(c.map g).sum:=by
 induction h with
 |nil=>rfl
 |cons x _ d=>rw[J0,J0,JH,JH,d]
 |swap x y l=>simp only[J0,JH];grind
 |trans _ _ a b=>rw[a,b]
theorem fJ(d q:Nat->Rat)(c a:Rat):∀l:pq,(l.map fun x=>d x*(q x-c)).sum=(l.map fun x=>d x*(q x-a)).sum+(l.map d).sum*(a-c)
 |[]=>by simp;grind
 |x::l=>by
  simp only[J0,JH]
  rw[fJ d q c a l]
  grind
theorem Br(d q:Nat->Rat):∀(m:Nat) (l:pq),l.length=m->l.Nodup->(∀x∈l,∀y∈l,q x=q y->x=y)->(∀x∈l,0<=(l.map fun y=>if q x<=q y then d y else 0).sum)->∀c,(∀x∈l,c<q x)->
 0<=(l.map fun x=>d x*(q x-c)).sum/\∀x∈l,0<(l.map fun y=>if q x<=q y then d y else 0).sum->0<(l.map fun x=>d x*(q x-c)).sum
 |0,l,e,_,_,_,c,_=>by
  rw[List.length_eq_zero_iff.mp e]
  exact⟨Rat.le_refl,fun x b=>by cases b⟩
 |m+1,l,e,nd,inj,A,c,hc=>by
  obtain⟨a,j,p⟩:=p6 (fun x=>-q x) l (fun z=>by rw[z]at e;cases e)
  have mn:∀x∈l,q a<=q x:=fun x b=>by have:=p x b;grind
  have P:=List.perm_cons_erase j
  have k:∀g:Nat->Rat,(l.map g).sum=g a+((l.erase a).map g).sum:=fun g=>by rw[yi P g,J0,JH]
  have sub:∀x∈l.erase a,x∈l/\q a<q x:=fun x b=>by
   have f:=List.mem_of_mem_erase b
   have ne:x≠a:=fun z=>by subst z;exact nd.not_mem_erase b
   have r:q a≠q x:=fun z=>ne (inj x f a j z.symm)
   have:=mn x f
   exact⟨f,by grind⟩
  have i:∀x∈l.erase a,(l.map fun y=>if q x<=q y then d y else 0).sum=((l.erase a).map fun y=>if q x<=q y then d y else 0).sum:=fun x b=>by
   rw[k,MD (Rat.not_le.mpr (sub x b).2),Rat.zero_add]
  have all:(l.map fun y=>if q a<=q y then d y else 0).sum=(l.map d).sum:=by
   congr 1
   exact KU fun y n=>ME (mn y n)
  have D:=A a j
  rw[all]at D
  obtain⟨s,t⟩:=Br d q m (l.erase a) (by rw[List.length_erase_of_mem j];omega) (nd.erase a) (fun x b y n=>inj x (sub x b).1 y (sub y n).1) (fun x b=>by rw[<-i x b];exact A x (sub x b).1) (q a) fun x b=>(sub x b).2
  have e1:(l.map fun x=>d x*(q x-c)).sum=((l.erase a).map fun x=>d x*(q x-q a)).sum+(l.map d).sum*(q a-c):=by
   rw[fJ d q c (q a),k fun x=>d x*(q x-q a)]
   grind
  have o:0<q a-c:=by have:=hc a j;grind
  rw[e1]
  refine⟨Rat.add_nonneg s (Rat.mul_nonneg D (Rat.le_of_lt o)),fun x b h=>?_⟩
  by_cases ex:x=a
  ·subst ex
   rw[all]at h
   have:=Ln h o
   grind
  ·have f:x∈l.erase a:=(List.mem_erase_of_ne ex).mpr b
   rw[i x f]at h
   have:=t x f h
   have:=Rat.mul_nonneg D (Rat.le_of_lt o)
   grind
theorem jr(q:Nat->Rat):∀l:pq,∃c,∀x∈l,c<q x
 |[]=>⟨0,fun x b=>by cases b⟩
 |a::l=>by
  obtain⟨c,h⟩:=jr q l
  refine⟨min c (q a)-1,fun x b=>?_⟩
  have d:min c (q a)<=c:=by rw[Rat.min_def];split<;>grind
  have f:min c (q a)<=q a:=by rw[Rat.min_def];split<;>grind
  rcases Jx.mp b with e|e
  ·subst e;grind
  ·have:=h x e;grind
def gj(w:Wl)(j:Int):Rat:=2*(w.1:Rat)*(j:Rat)+(j:Rat)*(j:Rat)*(((w.2.2.1-w.1:Int):Rat)/(lam w:Rat))
theorem Ak{w:Wl}(h:0<lam w){t:Int}{j:Int}(e:t=l1 w+j):gj w (j+1)=gj w j+xi w t:=by
 have d:(lam w:Rat)≠0:=by have:=bC h;grind
 have ex:xi w t=2*(w.1:Rat)+(2*(j:Rat)+1)*(((w.2.2.1-w.1:Int):Rat)/(lam w:Rat)):=by
  unfold xi Nm
  rw[e,show 2*(l1 w+j)+1-2*l1 w=2*j+1 by omega,Lf,JI,JI,JI,Lf,JI]
  have a:((2:Int):Rat)=2:=rfl
  have b:((1:Int):Rat)=1:=rfl
  rw[a,b,LU,LU]
  have c:(lam w:Rat)*(lam w:Rat)⁻¹=1:=Rat.mul_inv_cancel _ d
  grind
 rw[ex];unfold gj;rw[Lf];have b:((1:Int):Rat)=1:=rfl;rw[b];grind
theorem F0{w:Wl}(hw:Mn w):∀m:Nat,sq m (fun t=>if sp w (t:Int)=MB then xi w (t:Int)else 0)=gj w (if(m:Int)<=l1 w then 0 else if(m:Int)<=l2 w then(m:Int)-l1 w else lam w)
 |0=>by
  have:(((0:Nat):Int)<=l1 w):=by have:=hw.a;have:=hw.b;unfold l1 la;omega
  rw[ME this,sq]
  unfold gj
  have a:((0:Int):Rat)=0:=rfl
  rw[a];grind
 |m+1=>by
  have g:=hw.lt
  have f:0<lam w:=by unfold lam;omega
  rw[sq,F0 hw m]
  by_cases d:((m+1:Nat):Int)<=l1 w
  ·rw[ME (show((m:Nat):Int)<=l1 w by omega),ME d,MD (by rw[aU];omega),Rat.add_zero]
  ·by_cases e:((m+1:Nat):Int)<=l2 w
   ·have s:sp w ((m:Nat):Int)=MB:=aU.mpr ⟨(),()⟩
    rw[ME s,MD d,ME e]
    have st:=Ak f (t:=(m:Int)) (j:=(m:Int)-l1 w) ()
    rw[show((m+1:Nat):Int)-l1 w=(m:Int)-l1 w+1 by omega,st]
    congr 2
    by_cases c:((m:Nat):Int)<=l1 w
    ·rw[ME c];omega
    ·rw[MD c,ME ()]
   ·rw[MD (():¬((m:Nat):Int)<=l1 w),MD d,MD e,MD (show ¬sp w ((m:Nat):Int)=MB by rw[aU];omega),Rat.add_zero]
    congr 1
    by_cases c:((m:Nat):Int)<=l2 w
    ·rw[ME c];unfold lam;omega
    ·rw[MD c]
theorem xq{w:Wl}(hw:Mn w){N:Nat}(h:l2 w<=N):sq N (fun t=>if sp w (t:Int)=MB then xi w (t:Int)else 0)=(((w.1+w.2.2.1)*lam w:Int):Rat):=by
 have d:=hw.lt;have a:0<lam w:=by unfold lam;omega
 have b:(lam w:Rat)≠0:=by have:=bC a;grind
 rw[F0 hw N,MD ()]
 have e:(if(N:Int)<=l2 w then(N:Int)-l1 w else lam w)=lam w:=by
  split
  ·unfold lam;omega
  ·rfl
 rw[e];unfold gj;rw[JI,Lf,Km,LU];have c:(lam w:Rat)*(lam w:Rat)⁻¹=1:=Rat.mul_inv_cancel _ b;grind
section
variable{ws:rr}(hU:∀w∈ws,Mn w)(hF:PF ws){f:Nat}(hf:f<2*ws.length){r:pq}(R:gn ws f r)
def lt'(ws:rr)(r:pq)(t:Int):pq:=(J8 ws.length).filter fun k=>sp (wn ws k) t&&decide (dR r k≠0)
theorem j5{t:Int}{k:Nat}:k∈lt' ws r t↔k<ws.length/\sp (wn ws k) t=MB/\dR r k≠0:=by unfold lt';rw[Jb,Jv,Jp,MK]
include hU hF in
theorem xo{t:Int}:∀x∈lt' ws r t,∀y∈lt' ws r t,xi (wn ws x) t=xi (wn ws y) t->x=y:=fun x a y b e=>JO fun ne=>by obtain⟨x1,c,_⟩:=j5.mp a;obtain⟨y1,d,_⟩:=j5.mp b;exact uF (aK hU x1) (aK hU y1) (aY hF x1 y1 ne) c d e
include hU hF hf R in
theorem pG{t:Int}{x:Nat}(g:x∈lt' ws r t):((lt' ws r t).map fun y=>if xi (wn ws x) t<=xi (wn ws y) t then(dR r y:Rat)else 0).sum=((Bw ws (dR r) x+dR r x:Int):Rat):=by
 obtain⟨x1,c,h⟩:=j5.mp g;have one:dR r x=sg ws.length (fun k=>if k=x then dR r k else 0):=by rw[fj,ME x1]
 rw[<-gB hU hF (aM hU hF hf R) x1 c,one];unfold OP lt';rw[<-cZ,gZ,ik];refine c9 fun k d=>?_;show _=(((if(sp (wn ws k) t&&Ms (wn ws x) (wn ws k))=MB then dR r k else 0)+(if k=x then dR r k else 0):Int):Rat);by_cases e:k=x
 ·subst e;rw[c,MG h,b7 (aK hU d),ME (show(MB&&MB)=MB from rfl),ME Rat.le_refl,ME rfl,MD (⋯:¬(MB&&MC)=MB),Int.zero_add]
 ·rw[MD e,Int.add_zero];by_cases s:sp (wn ws k) t=MB
  ·rw[s,Ko,Ko];by_cases z:dR r k=0
   ·rw[MF (fun q=>q z),MD ⋯,z];split<;>rfl
   ·rw[MG z,ME rfl];have F:=aY hF x1 d (fun q=>e q.symm);have a:=dI (aK hU x1) (aK hU d) F c s;have b:=uF (aK hU x1) (aK hU d) F c s;by_cases q:xi (wn ws x) t<=xi (wn ws k) t
    ·rw[ME q,ME (a.mpr (by grind))]
    ·rw[MD q,MD fun y=>q (Rat.le_of_lt (a.mp y))];rfl
  ·have i:sp (wn ws k) t=MC:=‹s›
   rw[i,JU,JU,MD ⋯,MD ⋯];rfl
include hU hF hf R in
theorem xT(t:Int):((lt' ws r t).map fun y=>(dR r y:Rat)).sum=0:=by
 have h:=pL hU (aM hU hF hf R) t;unfold OP at h
 have a:((sg ws.length (fun k=>if(sp (wn ws k) t&&MB)=MB then dR r k else 0):Int):Rat)=0:=by
  have h:sg ws.length (fun k=>if(sp (wn ws k) t&&MB)=MB then dR r k else 0)=0:=h
  rw[h];rfl
 rw[gZ]at a;unfold lt';rw[ik];refine Eq.trans (c9 fun k c=>?_) a;rw[Ll];by_cases s:sp (wn ws k) t=MB
 ·rw[s,Ko,ME rfl];by_cases z:dR r k=0
  ·rw[MF (fun q=>q z),MD ⋯,z];rfl
  ·rw[MG z,ME rfl]
 ·have b:sp (wn ws k) t=MC:=‹s›
  rw[b,JU,MD ⋯];rfl
include hU hF hf R in
theorem iY:(((r.map (NL ws)).sum:Int):Rat)=sq 3000 fun t=>((lt' ws r (t:Int)).map fun k=>(dR r k:Rat)*xi (wn ws k) (t:Int)).sum:=by
 have nd:=pR hU hF hf R;have lt:=c8 hU hF hf R
 have a:∀k,NL ws (2*k+1)=-NL ws (2*k):=fun k=>by
  have e2:fx (2*k)=2*k+1:=by unfold fx;rw[ME ()]
  unfold NL
  rw[<-e2,fH,zA]
  omega
 have z:=jO hU hF hf R fun c=>c.1*la c.1 c.2;rw[jo (NL ws) r nd lt,aS (h:=fun k=>dR r k*((wn ws k).1+(wn ws k).2.2.1)*lam (wn ws k)-dR r k*((fb ws (2*k)).1*la (fb ws (2*k)).1 (fb ws (2*k)).2-(fa ws (2*k)).1*la (fa ws (2*k)).1 (fa ws (2*k)).2)) fun k e=>?_,dO,z,Int.sub_zero,gZ]
 ·rw[c9 (h:=fun k=>sq 3000 fun t=>(dR r k:Rat)*(if sp (wn ws k) (t:Int)=MB then xi (wn ws k) (t:Int)else 0)) fun k e=>?_,uz]
  ·refine c9 fun t _=>?_;unfold lt';rw[ik];refine c9 fun k _=>?_;by_cases s:sp (wn ws k) (t:Int)=MB
   ·rw[s,Ko,ME rfl];by_cases z:dR r k=0
    ·rw[MF (fun q=>q z),MD ⋯,z];exact Rat.zero_mul _
    ·rw[MG z,ME rfl]
   ·have g:sp (wn ws k) (t:Int)=MC:=‹s›
    rw[g,JU,MD ⋯,MD ⋯,Rat.mul_zero]
  ·have W:=aK hU e;have b:l2 (wn ws k)<=((3000:Nat):Int):=by have:=W.c;have:=W.d;unfold l2 la;omega
   rw[yL,xq W b,Int.mul_assoc,JI]
 ·rw[a,xG];unfold NL fa fb;rw[ib];unfold lam l1 l2 la;grind
include hU hF hf R in
theorem BA{t:Int}{x:Nat}(d:x∈lt' ws r t):(dR r x=1/\Bw ws (dR r) x+dR r x=Pf ws (dR r) f)\/(dR r x=-1/\Bw ws (dR r) x+dR r x=Pf ws (dR r) f-1):=by
 obtain⟨x1,g,b⟩:=j5.mp d;have c:=aM hU hF hf R;by_cases m:2*x∈r
 ·have a:2*x+1∉r:=fun z=>b (by unfold dR;rw[ME m,ME z];rfl);left;refine⟨by unfold dR;rw[ME m,MD a];rfl,?_⟩;rw[<-bH hU hF hf R c m,fg]
 ·have a:2*x+1∈r:=JO fun z=>b (by unfold dR;rw[MD m,MD z];rfl);have e:dR r x=-1:=by unfold dR;rw[MD m,ME a];rfl
  right;refine⟨e,?_⟩;rw[<-bH hU hF hf R c a,l5,e];rfl
theorem BU{t:Int}:(lt' ws r t).Nodup:=by unfold lt';exact KI _ List.nodup_range
include hU hF hf R in
theorem uX{t:Int}(a:Pf ws (dR r) f=1):0<=((lt' ws r t).map fun k=>(dR r k:Rat)*xi (wn ws k) t).sum/\∀x∈lt' ws r t,dR r x=1->0<((lt' ws r t).map fun k=>(dR r k:Rat)*xi (wn ws k) t).sum:=by
 obtain⟨c,d⟩:=jr (fun k=>xi (wn ws k) t) (lt' ws r t)
 have A:∀x∈lt' ws r t,0<=((lt' ws r t).map fun y=>if xi (wn ws x) t<=xi (wn ws y) t then(dR r y:Rat)else 0).sum:=fun x b=>by
  rw[pG hU hF hf R b]
  have:=BA hU hF hf R b
  have p:0<=Bw ws (dR r) x+dR r x:=()
  exact_mod_cast p
 have key:=Br (fun k=>(dR r k:Rat)) (fun k=>xi (wn ws k) t) _ (lt' ws r t) rfl BU (xo hU hF) A c d;have e:=fJ (fun k=>(dR r k:Rat)) (fun k=>xi (wn ws k) t) c 0 (lt' ws r t);rw[xT hU hF hf R t,Rat.zero_mul,Rat.add_zero]at e
 have g:((lt' ws r t).map fun k=>(dR r k:Rat)*xi (wn ws k) t).sum=((lt' ws r t).map fun k=>(dR r k:Rat)*(xi (wn ws k) t-c)).sum:=by
  rw[e]
  congr 1
  exact KU fun k _=>by grind
 rw[g];refine⟨key.1,fun x b h=>key.2 x b ?_⟩;rw[pG hU hF hf R b];have:=BA hU hF hf R b;have p:0<Bw ws (dR r) x+dR r x:=()
 exact_mod_cast p
include hU hF hf R in
theorem v9{t:Int}(a:Pf ws (dR r) f=0):((lt' ws r t).map fun k=>(dR r k:Rat)*xi (wn ws k) t).sum<=0:=by
 obtain⟨c,d⟩:=jr (fun k=>xi (wn ws k) t) (lt' ws r t)
 have neg:∀(g:Nat->Rat) (l:pq),(l.map fun x=>-g x).sum=-(l.map g).sum:=fun g l=>by
  induction l with
  |nil=>rfl
  |cons x l h=>simp only[J0,JH];rw[h];grind
 have A:∀x∈lt' ws r t,0<=((lt' ws r t).map fun y=>if xi (wn ws x) t<=xi (wn ws y) t then -(dR r y:Rat)else 0).sum:=fun x b=>by
  have e:((lt' ws r t).map fun y=>if xi (wn ws x) t<=xi (wn ws y) t then -(dR r y:Rat)else 0).sum=-((lt' ws r t).map fun y=>if xi (wn ws x) t<=xi (wn ws y) t then(dR r y:Rat)else 0).sum:=by
   rw[<-neg]
   congr 1
   exact KU fun y _=>by split<;>grind
  rw[e,pG hU hF hf R b]
  have:=BA hU hF hf R b
  have p:Bw ws (dR r) x+dR r x<=0:=()
  have p:((Bw ws (dR r) x+dR r x:Int):Rat)<=0:=by exact_mod_cast p
  grind
 have key:=(Br (fun k=>-(dR r k:Rat)) (fun k=>xi (wn ws k) t) _ (lt' ws r t) rfl BU (xo hU hF) A c d).1;have e:=fJ (fun k=>-(dR r k:Rat)) (fun k=>xi (wn ws k) t) c 0 (lt' ws r t);rw[neg,xT hU hF hf R t]at e
 have i:-((lt' ws r t).map fun k=>(dR r k:Rat)*xi (wn ws k) t).sum=((lt' ws r t).map fun k=>-(dR r k:Rat)*(xi (wn ws k) t-0)).sum:=by
  rw[<-neg]
  congr 1
  exact KU fun k _=>by grind
 rw[e,<-i]at key;grind
include hU hF hf R in
theorem xW:decide (0<(r.map (NL ws)).sum)=decide (Pf ws (dR r) f=1):=by
 obtain⟨t,k,L,_⟩:=fD hU hF hf R;have c:=iY hU hF hf R;rw[MJ];rcases jP hU hF hf R L with⟨_,a⟩|⟨d,m,a⟩
 ·rw[a];constructor
  ·intro h;exfalso;have h:(0:Rat)<(((r.map (NL ws)).sum:Int):Rat):=bC h;rw[c]at h
   have n:∀n:Nat,sq n (fun t=>((lt' ws r (t:Int)).map fun k=>(dR r k:Rat)*xi (wn ws k) (t:Int)).sum)<=0:=fun n=>by
    induction n with
    |zero=>exact Rat.le_refl
    |succ n l=>
     rw[sq]
     have:=v9 hU hF hf R (t:=(n:Int)) a
     grind
   exact absurd h (Rat.not_lt.mpr (n 3000))
  ·intro h;cases h
 ·rw[a];refine⟨fun _=>rfl,fun _=>?_⟩;have W:=aK hU L.k1
  have t0:0<=t/\t<3000:=by
   have:=W.a;have:=W.b;have e:=L.e
   unfold l1 la at e
   omega
  have g:k∈lt' ws r t:=j5.mpr ⟨L.k1,aU.mpr ⟨by have:=L.e;omega,by have:=L.e;have:=W.lt;omega⟩,by unfold dR;rw[ME m,MD d];decide⟩;have i:dR r k=1:=by unfold dR;rw[ME m,MD d];rfl
  have p:(0:Rat)<(((r.map (NL ws)).sum:Int):Rat):=by rw[c];refine sq_pos (j:=t.toNat) ?_ () fun n _=>(uX hU hF hf R a).1;rw[show((t.toNat:Nat):Int)=t by omega];exact(uX hU hF hf R a).2 k g i
  exact_mod_cast p
end
theorem nL{ws:rr}(i:∀w∈ws,Mn w)(hF:PF ws){r c:pq}{t t':Int}{k g:Nat}(f:∀j,2*j∈c\/2*j+1∈c->j<ws.length)(L:R7 ws r t k)(d:R7 ws c t' g)(D:t<=t')(bl:t=t'->k≠g/\Ms (wn ws g) (wn ws k)=MB):Bw ws (dR c) k=0/\dR c k=0:=by
 have y:∀j,2*j∈c\/2*j+1∈c->sp (wn ws j) t=MB->Ms (wn ws k) (wn ws j)=MB->False:=fun j m s a=>by
  rw[aU]at s
  have ge:=d.ge j m
  have l:t=t':=()
  obtain⟨ne,b⟩:=bl l
  have K:=aK i L.k1
  have n:=aK i d.k1
  have J:=aK i (f j m)
  have E:=K.lt
  have A:=n.lt
  have B:=L.e
  have C:=d.e
  have p:sp (wn ws k) t=MB:=aU.mpr ⟨(),()⟩
  have u:sp (wn ws g) t=MB:=aU.mpr ⟨(),()⟩
  have v:sp (wn ws j) t=MB:=aU.mpr s
  have o:k≠j:=fun z=>by subst z;rw[b7 K]at a;cases a
  have x1:=(dI K J (aY hF L.k1 (f j m) o) p v).mp a
  have F:=(dI n K (aY hF d.k1 L.k1 (fun z=>ne z.symm)) u p).mp b
  have h:g≠j:=fun z=>by subst z;grind
  have x:=(dI n J (aY hF d.k1 (f j m) h) u v).mpr (by grind)
  have:=d.low j m ()
  rw[this]at x;cases x
 constructor
 ·unfold Bw OP;refine cy fun j G=>?_;by_cases m:2*j∈c\/2*j+1∈c
  ·refine MD fun q=>?_;rw[Jp,L.e]at q;exact y j m q.1 q.2
  ·have:dR c j=0:=by unfold dR;rw[MD fun z=>m (.inl z),MD fun z=>m (.inr z)];rfl
   rw[this];split<;>rfl
 ·have m:¬(2*k∈c\/2*k+1∈c):=fun m=>by
   have ge:=d.ge k m
   have B:=L.e
   have l:t=t':=()
   have:=d.low k m ()
   rw[(bl l).2]at this;cases this
  unfold dR;rw[MD fun z=>m (.inl z),MD fun z=>m (.inr z)];rfl
section
variable{ws:rr}(hU:∀w∈ws,Mn w)(hF:PF ws){f:Nat}(hf:f<2*ws.length){r:pq}(R:gn ws f r)
include hU hF hf R
theorem k9:∀j,2*j∈r\/2*j+1∈r->j<ws.length:=fun j m=>by rcases m with m|m<;>(have:=c8 hU hF hf R _ m;omega)
theorem oe{o:Nat}(c:o<2*ws.length){i:pq}(j:gn ws o i)(x:∀g∈r,g∉i)(a:Pf ws (dR r) f=1)(E:Pf ws (dR i) o=1)(b:Pf ws (dR i) f=1)(y:Pf ws (dR r) o=1):False:=by
 obtain⟨t,k,L,_⟩:=fD hU hF hf R;obtain⟨l,d,h,_⟩:=fD hU hF c j
 have m:2*k∈r:=by
  rcases jP hU hF hf R L with⟨_,z⟩|⟨_,z,_⟩
  ·omega
  ·exact z
 have u:2*d∈i:=by
  rcases jP hU hF c j h with⟨_,z⟩|⟨_,z,_⟩
  ·omega
  ·exact z
 rw[<-bH hU hF hf R (aM hU hF c j) m,fg]at b;rw[<-bH hU hF c j (aM hU hF hf R) u,fg]at y;have w:=k9 hU hF hf R;have A:=k9 hU hF c j;have ne:k≠d:=fun z=>by subst z;exact x _ m u
 have K:=aK hU L.k1;have v:=aK hU h.k1;have G:=K.lt;have B:=v.lt;have H:=L.e;have C:=h.e;have F:=aY hF L.k1 h.k1 ne
 have go:(t<=l/\(t=l->Ms (wn ws d) (wn ws k)=MB))\/(l<=t/\(l=t->Ms (wn ws k) (wn ws d)=MB)):=by
  rcases J5 t l with z|z|z
  ·exact .inl ⟨(),fun e=>()⟩
  ·have D:max (l1 (wn ws k)) (l1 (wn ws d))<min (l2 (wn ws k)) (l2 (wn ws d)):=bW.mpr ⟨(),(),(),()⟩;have n:=fh K v F D;cases q:Ms (wn ws k) (wn ws d)with
   |true=>exact .inr ⟨(),fun _=>rfl⟩
   |false=>rw[q]at n;exact .inl ⟨(),fun _=>n⟩
  ·exact .inr ⟨(),fun e=>()⟩
 rcases go with⟨p,s⟩|⟨p,s⟩
 ·have:=nL hU hF A L h p fun e=>⟨ne,s e⟩;omega
 ·have:=nL hU hF w h L p fun e=>⟨fun z=>ne z.symm,s e⟩;omega
theorem pO{t:Int}{k:Nat}(L:R7 ws r t k)(m:2*k+1∈r):∀j,j<ws.length->l1 (wn ws j)=t->Ms (wn ws k) (wn ws j)=MC:=fun j g x=>by
 by_cases ne:k=j
 ·subst ne;exact b7 (aK hU g)
 ·cases z:Ms (wn ws k) (wn ws j)with
  |false=>rfl
  |true=>
   exfalso
   have K:=aK hU L.k1
   have J:=aK hU g
   have y:=L.e
   have F:=aY hF L.k1 g ne
   have B:=c8 hU hF hf R _ m
   have E:=mU (wn ws k)
   have G:=K.lt
   have e2:fx (2*k+1)=2*k:=by unfold fx;rw[MD ()];omega
   have eb:fb ws (2*k+1)=fa ws (2*k):=by have:=fH ws (2*k+1);rw[e2]at this;exact this.symm
   have ea:fa ws (2*j)=fb ws (2*k+1):=by rw[eb];exact Cw hU () () (by rw[cO,cO,y,x])
   have c:2*j∈cV ws (2*k+1):=bG.mpr ⟨(),ea,()⟩
   have A:=jL K J F ()
   rw[A.1,MK]at z
   have b:=p9 hU hF hf R _ m
   rcases g8 hU hF B with⟨q,_⟩|⟨b1,u⟩
   ·rw[q]at c;cases c
   ·obtain⟨H,a,l⟩:=bG.mp b1;rw[e2]at l
    have M:bh ws (2*k+1)%2=0:=by
     rcases KR (bh ws (2*k+1))with h|h
     ·exact h
     ·exfalso;obtain⟨i,n⟩:∃i,bh ws (2*k+1)=2*i+1:=⟨bh ws (2*k+1)/2,()⟩;rw[n]at b a;have ge:=L.ge i (.inr b);have N:=(aK hU (k9 hU hF hf R i (.inr b))).lt;have:la (fa ws (2*i+1)).1 (fa ws (2*i+1)).2=la (fa ws (2*k)).1 (fa ws (2*k)).2:=by rw[a,eb]
      rw[qa,cO]at this;omega
    obtain⟨i,n⟩:∃i,bh ws (2*k+1)=2*i:=⟨bh ws (2*k+1)/2,()⟩;rw[n]at b u a l;have v:=k9 hU hF hf R i (.inl b);have I:=aK hU v
    have C:l1 (wn ws i)=t:=by
     have:la (fa ws (2*i)).1 (fa ws (2*i)).2=la (fa ws (2*k)).1 (fa ws (2*k)).2:=by rw[a,eb]
     rw[cO,cO]at this
     omega
    have o:k≠i:=fun e=>l (by rw[e]);have D:=jL K I (aY hF L.k1 v o) ();have d:=L.low i (.inl b) C;rw[D.1]at d;have d:=of_decide_eq_false d;rcases u _ c with q|q
    ·have:i=j:=()
     subst this;exact d z
    ·unfold N0 at q;rw[e2,gW,gW,gW,ic]at q;rcases fV (vc (dw (wn ws k)) (dw (wn ws i)))with p|p|p<;>rcases fV (vc (dw (wn ws k)) (dw (wn ws j)))with s|s|s<;>omega
end
theorem oB{dx dy e f:Int}(h:0<100*dx+dy)(c:-20<=dy/\dy<=20)(z:dx*f=dy*e)(n:¬(e<0\/(e=0/\f<0))):0<=100*e+f:=by
 by_cases a:dx=0
 ·subst a;have:dy*e=0:=()
  rcases Int.mul_eq_zero.mp this with h|h<;>omega
 ·have dp:0<dx:=()
  have b:0<=e:=()
  have k:=Ku (():0<=100*dx+dy) b;have id:(100*e+f)*dx=(100*dx+dy)*e:=by grind
  by_cases g:100*e+f<0
  ·have:=Jq g dp;omega
  ·omega
def PJ(v:Wl)(m x y:Int):Prop:=(v.2.2.1-v.1)*(y-m*v.2.1)=(v.2.2.2-v.2.1)*(x-m*v.1)/\¬(x<m*v.1\/(x=m*v.1/\y<m*v.2.1))/\¬(m*v.2.2.1<x\/(m*v.2.2.1=x/\m*v.2.2.2<y))
theorem PJ.la{v:Wl}{m x y:Int}(a:Mn v)(h:PJ v m x y):m*l1 v<=100*x+y/\100*x+y<=m*l2 v:=by obtain⟨z,c,g⟩:=h;have i:=a.lt;have j:=a.b;have hd:=a.d;unfold l1 l2 SD.la at *;have k:=oB (dx:=v.2.2.1-v.1) (dy:=v.2.2.2-v.2.1) (e:=x-m*v.1) (f:=y-m*v.2.1) () () z ();have l:=oB (dx:=v.2.2.1-v.1) (dy:=v.2.2.2-v.2.1) (e:=m*v.2.2.1-x) (f:=m*v.2.2.2-y) () () (by grind) ();constructor<;>grind
theorem Ae{v:Wl}(a:Mn v){m x y:Int}(h:(x=m*v.1/\y=m*v.2.1)\/(x=m*v.2.2.1/\y=m*v.2.2.2))(c:0<m):PJ v m x y:=by
 have e:=a.lt;have g:=a.b;have hd:=a.d;unfold l1 l2 SD.la at e;have e1:m*v.2.2.1-m*v.1=m*(v.2.2.1-v.1):=by grind
 have e2:m*v.2.2.2-m*v.2.1=m*(v.2.2.2-v.2.1):=by grind
 have st:¬(m*v.2.2.1-m*v.1<0\/(m*v.2.2.1-m*v.1=0/\m*v.2.2.2-m*v.2.1<0)):=by
  by_cases f:v.2.2.1-v.1=0
  ·have:=Jl c (():0<v.2.2.2-v.2.1);rw[f]at e1;omega
  ·have:=Jl c (():0<v.2.2.1-v.1);omega
 rcases h with⟨rfl,rfl⟩|⟨rfl,rfl⟩
 ·refine⟨by rw[Int.sub_self,Int.sub_self,Int.mul_zero,Int.mul_zero],(),()⟩
 ·refine⟨by rw[e1,e2];grind,(),()⟩
theorem Dj{t b X Y p q r s m x y:Int}(g:0<t)(a:0<b)(d:0<m):MY (MU t b X 1 p) (MU t b Y 1 q) (MU t b X 1 r) (MU t b Y 1 s) (MU t b X m x) (MU t b Y m y)=0↔(r-p)*(y-m*q)=(s-q)*(x-m*p):=by
 have e:∀(X z:Int),MU t b X 1 z=MU t b X m (m*z):=fun X z=>(Md g a ⋯ d).mpr ();have l:∀(X z:Int),MU t b X m z=((t:Rat)/b*(1/m))*(z:Rat)+(X:Rat)/b:=fun X z=>by rw[yV a d,LU (z:Rat),LU (1:Rat)];grind
 have kp:(0:Rat)<(t:Rat)/b*(1/m):=by rw[LU,LU,Rat.one_mul];exact Ln (Ln (MX g) (Rat.inv_pos.mpr (MX a))) (Rat.inv_pos.mpr (MX d))
 rw[e,e,e,e,l,l,l,l,l,l,xP];have c:((((m*r:Int):Rat)-((m*p:Int):Rat))*(((y:Int):Rat)-((m*q:Int):Rat))-(((m*s:Int):Rat)-((m*q:Int):Rat))*(((x:Int):Rat)-((m*p:Int):Rat)))=(((m*r-m*p)*(y-m*q)-(m*s-m*q)*(x-m*p):Int):Rat):=by simp only[Km,JI]
 rw[c,pN (Ln kp kp)];have f:(m*r-m*p)*(y-m*q)-(m*s-m*q)*(x-m*p)=m*((r-p)*(y-m*q)-(s-q)*(x-m*p)):=by grind
 rw[f,Int.mul_eq_zero];omega
theorem zR{t b X Y m x y:Int}(v:Wl)(a:0<t)(c:0<b)(d:0<m):(MY (MU t b X 1 v.1) (MU t b Y 1 v.2.1) (MU t b X 1 v.2.2.1) (MU t b Y 1 v.2.2.2) (MU t b X m x) (MU t b Y m y)=0/\¬MW (MU t b X m x) (MU t b Y m y) (MU t b X 1 v.1) (MU t b Y 1 v.2.1)/\¬MW (MU t b X 1 v.2.2.1) (MU t b Y 1 v.2.2.2) (MU t b X m x) (MU t b Y m y))↔PJ v m x y:=by rw[Dj a c d,Mb a c d ⋯,Mb a c ⋯ d,Mc,Mc];unfold PJ;simp only[LR]
def sL(w:Wl)(m p q:Int):Int:=(w.2.2.1-w.1)*(q-m*w.2.1)-(w.2.2.2-w.2.1)*(p-m*w.1)
def Qv(w:Wl)(m p q:Int):Prop:=¬(p<m*w.1\/(p=m*w.1/\q<m*w.2.1))/\(p<m*w.2.2.1\/(p=m*w.2.2.1/\q<m*w.2.2.2))
instance(w:Wl)(m p q:Int):Decidable (Qv w m p q):=by unfold Qv;infer_instance
theorem jv{a b s x y:Int}(c:0<a)(d:0<b)(e:a*s=b*x+y)(f:0<=y):(0<x->0<s)/\(0<=x->0<=s):=by
 constructor
 ·intro h;have:=Jl d h;exact iV c (by rw[Int.mul_comm];omega)
 ·intro h;have:=Ku (():0<=b) h;by_cases z:s<0
  ·have:=Jr c z;omega
  ·omega
theorem Dg{v k:Wl}{m p q:Int}(z:0<m)(f:Mn v)(g:Mn k)(F:Mz v k)(i:max (l1 v) (l1 k)<min (l2 v) (l2 k))(a:Ms v k=MB)(A:v.1<v.2.2.1)(B:k.1<k.2.2.1)(C:m*v.1<=p)(D:p<=m*v.2.2.1)(E:m*k.1<=p)(G:p<=m*k.2.2.1):(0<sL v m p q->0<sL k m p q)/\(0<=sL v m p q->0<=sL k m p q):=by
 have o:=bW.mp i;have j:0<v.2.2.1-v.1:=()
 have l:0<k.2.2.1-k.1:=()
 have r:(v.2.2.1-v.1)*sL k m p q=(k.2.2.1-k.1)*sL v m p q+((k.2.2.1-k.1)*(m * -Mt v k)+(p-m*k.1) * -vc (dw v) (dw k)):=by unfold sL Mt sd vc dw NJ;grind
 have t:(v.2.2.1-v.1)*sL k m p q=(k.2.2.1-k.1)*sL v m p q+((v.2.2.1-v.1)*(m*Mt k v)+(p-m*v.1) * -vc (dw v) (dw k)):=by unfold sL Mt sd vc dw NJ;grind
 have u:(v.2.2.1-v.1)*sL k m p q=(k.2.2.1-k.1)*sL v m p q+((k.2.2.1-k.1)*(m * -Mv v k)+(m*k.2.2.1-p)*vc (dw v) (dw k)):=by unfold sL Mv sd vc dw NJ;grind
 have w:(v.2.2.1-v.1)*sL k m p q=(k.2.2.1-k.1)*sL v m p q+((v.2.2.1-v.1)*(m*Mv k v)+(m*v.2.2.1-p)*vc (dw v) (dw k)):=by unfold sL Mv sd vc dw NJ;grind
 have d:∀{x y:Int},0<=x->0<=y->0<=x*y:=fun a b=>Ku a b;by_cases c:vc (dw v) (dw k)<=0
 ·by_cases h:l1 k<l1 v
  ·have:=oz i h;rw[a]at this;have:=MI this.symm;exact jv j l t (Int.add_nonneg (d () (d () ())) (d () ()))
  ·have s:Mt v k<=0:=by
    by_cases e:l1 v=l1 k
    ·rw[zL f g e];omega
    ·have:=mW i ();rw[a]at this;have:=MI this.symm;omega
   exact jv j l r (Int.add_nonneg (d () (d () ())) (d () ()))
 ·by_cases h:l2 v<l2 k
  ·have n:=fh f g F i;rw[a,lQ g f F.swap o.2.2.1 h]at n;have n:=of_decide_eq_false n;exact jv j l w (Int.add_nonneg (d () (d () ())) (d () ()))
  ·have s:Mv v k<=0:=by
    by_cases e:l2 v=l2 k
    ·rw[oG f g e];omega
    ·have:=lQ f g F o.2.1 ();rw[a]at this;have:=MI this.symm;omega
   exact jv j l u (Int.add_nonneg (d () (d () ())) (d () ()))
section
variable{ws:rr}(hU:∀w∈ws,Mn w)(hF:PF ws)
abbrev BL(ws:rr)(m p q:Int)(k:Nat):Prop:=Qv (wn ws k) m p q/\0<sL (wn ws k) m p q
def Vs(ws:rr)(d:ri)(m p q:Int):Int:=sg ws.length fun k=>if BL ws m p q k then d k else 0
def At(ws:rr)(m p q a:Int):Prop:=∀k,k<ws.length->(Qv (wn ws k) m p q↔sp (wn ws k) a=MB)
include hU hF in
theorem ue{d:ri}(n:Flow ws d){m p q g:Int}(o:0<m)(A:At ws m p q g)(i:∀k,k<ws.length->Qv (wn ws k) m p q->(wn ws k).1<(wn ws k).2.2.1){v:Nat}(b:v<ws.length)(h:BL ws m p q v)(top:∀k,k<ws.length->k≠v->BL ws m p q k->Ms (wn ws v) (wn ws k)=MB):Vs ws d m p q=Pf ws d (2*v):=by
 have l:=(A v b).mp h.1;have one:d v=sg ws.length (fun j=>if j=v then d j else 0):=by rw[fj,ME b]
 rw[fg,<-gB hU hF n b l,one];unfold OP Vs;rw[<-cZ];refine aS fun j a=>?_;show _=(if(sp (wn ws j) g&&Ms (wn ws v) (wn ws j))=MB then d j else 0)+(if j=v then d j else 0);by_cases e:j=v
 ·subst e;rw[ME h,b7 (aK hU a),Lu,MD ⋯,ME rfl,Int.zero_add]
 ·rw[MD e,Int.add_zero];by_cases c:BL ws m p q j
  ·rw[ME c,(A j a).mp c.1,top j a e c,ME (show(MB&&MB)=MB from rfl)]
  ·rw[MD c,MD];intro z;rw[Jp]at z;have f:=(A j a).mpr z.1;have r:=aU.mp l;have s:=aU.mp z.1;obtain⟨b1,t⟩:=h.1;obtain⟨u,x⟩:=id f;refine c ⟨f,(Dg o (aK hU b) (aK hU a) (aY hF b a (fun y=>e y.symm)) (bW.mpr ⟨(),(),(),()⟩) z.2 (i v b h.1) (i j a f) () () () ()).1 h.2⟩
end
section
variable{ws:rr}(hU:∀w∈ws,Mn w)(hF:PF ws){d:ri}(fl:Flow ws d)
theorem Cd{m z:Int}(a:0<m):(0<m*z↔0<z)/\(m*z<0↔z<0)/\(m*z≠0↔z≠0):=by
 rcases J5 z 0 with h|h|h
 ·have:=Jr a h;omega
 ·subst h;simp
 ·have:=Jl a h;omega
include hU hF fl in
end
def WV(M x y:Int):Int:=if x%M=0 then(if y/M<0 then 100*(x/M)-1 else 100*(x/M)+y/M)else 100*(x/M)+99
theorem GR{M x y X Y:Int}(c:0<M)(g:-(80*M)<=y/\y<90*M)(i:0<=Y/\Y<=20):¬(x<M*X\/(x=M*X/\y<M*Y))↔100*X+Y<=WV M x y:=by
 have e:=Int.mul_ediv_add_emod x M;have j:=Int.emod_nonneg x (():M≠0);have k:=Int.emod_lt_of_pos x c;have y0:=(Int.le_ediv_iff_mul_le (a:=-80) (b:=y) c).mpr ();have y1:=(Int.ediv_lt_iff_lt_mul (a:=y) (b:=90) c).mpr ();have l:=Int.le_ediv_iff_mul_le (a:=Y) (b:=y) c;have d:=Int.le_ediv_iff_mul_le (a:=X) (b:=x) c;have m:Y*M=M*Y:=Int.mul_comm ..;have n:X*M=M*X:=Int.mul_comm ..;have eq:x=M*X->x%M=0/\x/M=X:=fun h=>by subst h;exact⟨Int.mul_emod_right _ _,Int.mul_ediv_cancel_left _ ()⟩
 unfold WV;generalize x/M=a at *;generalize x%M=r at *;generalize y/M=b at *;split
 ·rename_i z;have xe:X=a->x=M*X:=fun h=>by subst h;omega
  split <;>
  (rcases J5 X a with h|h|h
   ·have:M*X<x:=by
     have f:=La (():X+1<=a) (():0<=M)
     rw[Int.mul_add]at f
     omega
    omega
   ·have:=xe h
    omega
   ·have:¬X*M<=x:=fun q=>by have:=d.mpr q;omega
    omega)
 ·rename_i z;have ne:x≠M*X:=fun h=>z (eq h).1;omega
theorem oW{ws:rr}(f:∀w∈ws,Mn w){M x y:Int}(c:0<M)(e:-(80*M)<=y/\y<90*M):At ws M x y (WV M x y):=fun k g=>by have W:=aK f g;have a:=GR (x:=x) (X:=(wn ws k).1) c e W.b;have b:=GR (x:=x) (X:=(wn ws k).2.2.1) c e W.d;rw[aU];exact⟨fun h=>⟨a.mp h.1,Int.not_le.mp fun z=>b.mpr z h.2⟩,fun h=>⟨a.mpr h.1,JO fun z=>absurd (b.mp z) (Int.not_le.mpr h.2)⟩⟩
section
variable{ws:rr}(hU:∀w∈ws,Mn w)(hF:PF ws)
theorem g9:∀{i:Nat} {d:pe},OO ws i d->∀g,g<i->∃r∈d,g∈r
 |0,d,_,g,hg=>absurd hg ()
 |i+1,d,⟨qs,h1,h2⟩,g,hg=>by
  by_cases e:g=i
  ·subst e
   rcases h2 with⟨m,rfl⟩|⟨_,r,⟨k,n,c,rfl⟩,rfl⟩
   ·obtain⟨r,a,b⟩:=List.mem_flatten.mp m
    exact⟨r,a,b⟩
   ·exact⟨rn ws g k,by simp,fU.mpr ⟨0,(),rfl⟩⟩
  ·obtain⟨r,a,b⟩:=g9 h1 g ()
   rcases h2 with⟨_,rfl⟩|⟨_,f,_,rfl⟩
   ·exact⟨r,a,b⟩
   ·exact⟨r,List.mem_append_left _ a,b⟩
theorem dM:∀{i:Nat} {c:pe},OO ws i c->∀r∈c,∃f,f<i/\gn ws f r
 |0,c,h,r,hr=>by rw[show c=[]from h]at hr;cases hr
 |i+1,c,⟨qs,h1,h2⟩,r,hr=>by
  rcases h2 with⟨_,rfl⟩|⟨_,d,R,rfl⟩
  ·obtain⟨f,a,b⟩:=dM h1 r hr
   exact⟨f,(),b⟩
  ·rcases Jn.mp hr with z|z
   ·obtain⟨f,a,b⟩:=dM h1 r z
    exact⟨f,(),b⟩
   ·rw[JS.mp z];exact⟨i,(),R⟩
theorem sU{f:Nat}{r:pq}(R:gn ws f r){C:Nat->Prop}(a:∀g,C g->C (bh ws g)){g:Nat}(b:g∈r)(h:C g):C f:=by
 obtain⟨k,n,e,rfl⟩:=R;obtain⟨i,d,rfl⟩:=fU.mp b
 have go:∀j,C (NP ws f (i+j)):=fun j=>by
  induction j with
  |zero=>exact h
  |succ j c=>exact a _ c
 rw[<-e];have:=go (k-i);rw[show i+(k-i)=k by omega]at this;exact a _ this
include hU hF in
theorem fN:∀{i:Nat} {a:pe},i<=2*ws.length->OO ws i a->∀r∈a,∀b∈a,∀g,g∈r->g∈b->r=b
 |0,a,_,h,r,hr,_,_,_,_,_=>by rw[show a=[]from h]at hr;cases hr
 |i+1,a,hi,⟨qs,h1,h2⟩,r,hr,b,hr',g,hg,hg'=>by
  rcases h2 with⟨_,rfl⟩|⟨j,q,R,rfl⟩
  ·exact fN () h1 r hr b hr' g hg hg'
  ·have new:∀x∈qs,∀g,g∈q->g∈x->False:=fun x e g k d=>by
    obtain⟨f,n,l⟩:=dM h1 x e
    exact j (List.mem_flatten.mpr ⟨x,e,sU R (C:=fun y=>y∈x) (fun y m=>p9 hU hF () l y m) k d⟩)
   rcases Jn.mp hr with z|z<;>rcases Jn.mp hr' with c|c
   ·exact fN () h1 r z b c g hg hg'
   ·rw[JS.mp c]at hg';exact(new r z g hg' hg).elim
   ·rw[JS.mp z]at hg;exact(new b c g hg hg').elim
   ·rw[JS.mp z,JS.mp c]
theorem fF:∀{i:Nat} {d:pe},OO ws i d->d.Nodup
 |0,d,h=>by rw[show d=[]from h];exact List.nodup_nil
 |i+1,d,⟨qs,h1,h2⟩=>by
  rcases h2 with⟨_,rfl⟩|⟨f,q,⟨k,n,c,rfl⟩,rfl⟩
  ·exact fF h1
  ·rw[LI]
   refine⟨fF h1,by simp,fun a g b j e=>?_⟩
   rw[JS.mp j]at e
   subst e
   exact f (List.mem_flatten.mpr ⟨_,g,fU.mpr ⟨0,(),rfl⟩⟩)
end
theorem uJ(ws:rr):∀(l:pq) (a:Vc),(la (l.foldl (fun a g=>mn a (fa ws g)) a).1 (l.foldl (fun a g=>mn a (fa ws g)) a).2<=la a.1 a.2)/\(∀g∈l,la (l.foldl (fun a g=>mn a (fa ws g)) a).1 (l.foldl (fun a g=>mn a (fa ws g)) a).2<=tf ws g)/\(l.foldl (fun a g=>mn a (fa ws g)) a=a\/∃g∈l,l.foldl (fun a g=>mn a (fa ws g)) a=fa ws g)
 |[],a=>⟨KH _,(fun g b=>by cases b),.inl rfl⟩
 |x::l,a=>by
  obtain⟨f,c,d⟩:=uJ ws l (mn a (fa ws x))
  rw[Ld]
  generalize l.foldl (fun a g=>mn a (fa ws g)) (mn a (fa ws x))=z at *
  have m:(mn a (fa ws x)=a\/mn a (fa ws x)=fa ws x)/\la (mn a (fa ws x)).1 (mn a (fa ws x)).2<=la a.1 a.2/\la (mn a (fa ws x)).1 (mn a (fa ws x)).2<=tf ws x:=by
   unfold mn tf
   split
   ·exact⟨.inl rfl,KH _,()⟩
   ·exact⟨.inr rfl,(),KH _⟩
  refine⟨(),fun g b=>?_,?_⟩
  ·rcases Jx.mp b with e|e
   ·subst e;omega
   ·exact c g e
  ·rcases d with e|⟨g,b,e⟩
   ·rcases m.1 with q|q
    ·exact .inl (e.trans q)
    ·exact .inr ⟨x,JW,e.trans q⟩
   ·exact .inr ⟨g,JA _ b,e⟩
theorem pS(ws:rr){r:pq}(h:r≠[]):(∀g∈r,la (fc ws r).1 (fc ws r).2<=tf ws g)/\∃g∈r,fc ws r=fa ws g:=by
 unfold fc Qx;rw[List.take_length];obtain⟨_,a,b⟩:=uJ ws r (fa ws (r.headD 0));refine⟨a,?_⟩;rcases b with e|e
 ·cases r with
  |nil=>exact absurd rfl h
  |cons g r=>exact⟨g,JW,e⟩
 ·exact e
theorem qy(v:Int)(x:Nat):∀(r:pq) (L:pw),x<L.length->(r.foldl (fun L g=>L.set g v) L)[x]?=if x∈r then LZ v else L[x]?
 |[],L,_=>by simp
 |g::r,L,h=>by
  rw[Ld,qy v x r (L.set g v) (by rw[List.length_set];exact h)]
  by_cases m:x∈r
  ·rw[ME m,ME (JA _ m)]
  ·rw[MD m]
   by_cases e:x=g
   ·subst e;rw[ME JW,List.getElem?_set_self h]
   ·rw[MD (fun z=>(Jx.mp z).elim e m),List.getElem?_set_ne (fun z=>e z.symm)]
theorem lY{L:pw}{r:pq}{v:Int}{x:Nat}(h:x<L.length):(fill L r v)[x]?=if x∈r then LZ v else L[x]?:=by unfold fill iH;rw[List.take_length];exact qy v x r L h
theorem xK{m:Nat}{outs:pe}(c:∀(i j:Nat) (r q:pq) (g:Nat),outs[i]?=LZ r->outs[j]?=LZ q->g∈r->g∈q->i=j){j:Nat}{r:pq}(a:outs[j]?=LZ r){x:Nat}(b:x∈r)(d:x<m):∀i,j<i->(fO m outs i)[x]?=LZ ((j+1:Nat):Int)
 |0,h=>absurd h ()
 |i+1,h=>by
  rw[fO,lY (by rw[iM];exact d)]
  by_cases e:i=j
  ·subst e;rw[a];exact ME b
  ·have f:x∉(outs[i]?).getD []:=fun z=>by
    cases q:outs[i]? with
    |none=>rw[q]at z;cases z
    |some s=>rw[q]at z;exact e (c i j s r x q a z b)
   rw[MD f]
   exact xK c a b d i ()
theorem kZ{ws:rr}{ins:pe}{L:pw}{ps:List Vc}{x:Nat}(a:x<L.length){i:Nat}:∀n:Nat,(∀j,i<=j->j<i+n->x∉(ins[(mE ws ins ((ps[j]?).getD (0,0)) ins.length).getD 0]?).getD [])->(fS ws ins L ps (i+n))[x]?=(fS ws ins L ps i)[x]?
 |0,_=>rfl
 |n+1,h=>by
  show(fS ws ins L ps (i+n+1))[x]?=_
  rw[fS,lY (by rw[j7];exact a),MD (h (i+n) () ())]
  exact kZ a n fun j b c=>h j b ()
theorem EH{c:Vc}(a:NY c)(w:Wl):OR w (la c.1 c.2)=sd w c.1 c.2:=by have b:=a.1;have d:=a.2;unfold OR;rw[show la c.1 c.2/100=c.1 by unfold la;omega,show la c.1 c.2%100=c.2 by unfold la;omega]
section
variable{ws:rr}(hU:∀w∈ws,Mn w)(hF:PF ws)
include hU in
theorem tX{c:Vc}(f:NY c){j:Nat}:((j:Nat):Int)∈bK ws 1 c.1 c.2↔j<ws.length/\l1 (wn ws j)<la c.1 c.2/\la c.1 c.2<l2 (wn ws j)/\0<OR (wn ws j) (la c.1 c.2):=by
 rw[EH f];have k:Mw 1 (wn ws j)=wn ws j:=by unfold Mw;simp
 have key:((j:Nat):Int)∈bK ws 1 c.1 c.2↔j<ws.length/\bB ws 1 c.1 c.2 j=MB:=by
  unfold bK;rw[JC];constructor
  ·rintro⟨i,g,e⟩;have:i=j:=()
   subst this;rw[Jb,Jv]at g;exact g
  ·intro h;exact⟨j,Jb.mpr ⟨Jv.mpr h.1,h.2⟩,rfl⟩
 rw[key];unfold bB SU;rw[Jp,Jp,MK,MK,MK,LR,LR,WT];show _/\(l1 (wn ws j)<=_/\_<l2 (wn ws j))/\0<sd (Mw 1 (wn ws j)) c.1 c.2↔_;rw[k];constructor
 ·rintro⟨a,⟨b,d⟩,e⟩;refine⟨a,?_,d,e⟩;by_cases z:l1 (wn ws j)=la c.1 c.2
  ·exfalso;obtain⟨x,y⟩:=gG (aK hU a).b f.2 (show la (wn ws j).1 (wn ws j).2.1=la c.1 c.2 from z);unfold sd NJ at e;rw[<-x,<-y,Int.sub_self,Int.sub_self,Int.mul_zero,Int.mul_zero]at e;omega
  ·omega
 ·rintro⟨a,b,d,e⟩;exact⟨a,⟨(),d⟩,e⟩
include hU in
theorem EM{d:ri}{c:Vc}(a:NY c)(h:bK ws 1 c.1 c.2=[]):Zc ws d (la c.1 c.2)=0:=by unfold Zc;refine cy fun j b=>MD fun q=>?_;have:=(tX hU a).mpr ⟨b,q⟩;rw[h]at this;cases this
include hU hF in
theorem sX{d:ri}(H:Flow ws d){c:Vc}(B:NY c){k:Nat}(f:k<ws.length)(C:l1 (wn ws k)=la c.1 c.2)(h:bK ws 1 c.1 c.2≠[]) :
 ∃v,v<ws.length/\(wO ws (bK ws 1 c.1 c.2)).toNat=v/\l1 (wn ws v)<la c.1 c.2/\Zc ws d (la c.1 c.2)=Pf ws d (2*v):=by
 obtain⟨D,E,I,L⟩:=yq hU hF (show(0:Int)<1 by decide) (fun k f=>jX f) h (qN ws 1 c.1 c.2)
 have s:=jd (jX E)
 obtain⟨v,rfl⟩:∃v:Nat,D=(v:Int):=⟨D.toNat,()⟩
 have M:wO ws (bK ws 1 c.1 c.2)=(v:Int):=by unfold wO;rw[L];rfl
 obtain⟨g,p,r,A⟩:=(tX hU B).mp E
 refine⟨v,g,by rw[M];omega,p,?_⟩
 generalize N:la c.1 c.2=t at *
 have V:=aK hU g
 have K:=aK hU f
 have R:=K.lt
 have u:sp (wn ws v) t=MB:=aU.mpr ⟨(),r⟩
 have G:sp (wn ws k) t=MB:=aU.mpr ⟨(),()⟩
 have l:v≠k:=fun z=>by subst z;omega
 have m:=(dn V K (aY hF g f l) p r (.inl C)).2
 rw[MG A]at m
 have O:=(dI K V (aY hF f g (fun z=>l z.symm)) G u).mp m
 rw[fg,<-gB hU hF H g u]
 have one:d v=sg ws.length (fun j=>if j=v then d j else 0):=by rw[fj,ME g]
 rw[one]
 unfold OP Zc
 rw[<-cZ]
 refine aS fun j n=>?_
 show _=(if(sp (wn ws j) t&&Ms (wn ws v) (wn ws j))=MB then d j else 0)+(if j=v then d j else 0)
 by_cases e:j=v
 ·subst e
  rw[ME ⟨p,r,A⟩,b7 V,Lu,MD ⋯,ME rfl,Int.zero_add]
 ·rw[MD e,Int.add_zero]
  have J:=aK hU n
  have F:=aY hF g n (fun z=>e z.symm)
  by_cases q:l1 (wn ws j)<t/\t<l2 (wn ws j)/\0<OR (wn ws j) t
  ·have P:((j:Nat):Int)∈bK ws 1 c.1 c.2:=(tX hU B).mpr ⟨n,by rw[N];exact q⟩
   have a:Ms (wn ws v) (wn ws j)=MB:=by
    rcases I _ (JC.mpr ⟨_,P,rfl⟩)with z|z
    ·exfalso
     have z:wn ws j=wn ws v:=z
     exact F.ne ⟨by rw[z],by rw[z]⟩
    ·exact z.1
   rw[ME q,aU.mpr ⟨(),q.2.1⟩,a,ME (show(MB&&MB)=MB from rfl)]
  ·rw[MD q,MD]
   intro z
   rw[Jp]at z
   obtain⟨i,a⟩:=z
   have Q:=(dI V J F u i).mp a
   rw[aU]at i
   by_cases y:l1 (wn ws j)=t
   ·have b:=(dn V J F p r (.inl y)).2
    rw[MG A]at b
    have:=(dI J V F.swap (aU.mpr i) u).mp b
    grind
   ·have o:j≠k:=fun z=>by subst z;omega
    have b:=(dn J K (aY hF n f o) (():l1 (wn ws j)<t) i.2 (.inl C)).2
    have x:=(dI K J (aY hF f n (fun z=>o z.symm)) G (aU.mpr i)).mpr (by grind)
    rw[x]at b
    exact q ⟨(),i.2,MI b.symm⟩
include hU hF in
theorem zw{f:Nat}(hf:f<2*ws.length){r:pq}(R:gn ws f r){t:Int}{k:Nat}(L:R7 ws r t k)(m:2*k+1∈r){d:ri}(h:Flow ws d):Pf ws d f=Zc ws d t:=by
 rw[<-bH hU hF hf R h m,l5];unfold Bw OP Zc;have K:=aK hU L.k1;have all:=pO hU hF hf R L m;have g:=L.e;rw[g];refine aS fun j c=>?_;show(if(sp (wn ws j) t&&Ms (wn ws k) (wn ws j))=MB then d j else 0)=_;have J:=aK hU c;by_cases s:sp (wn ws j) t=MB
 ·have a:=aU.mp s;rw[s,Ko];by_cases y:l1 (wn ws j)=t
  ·rw[all j c y,MD ⋯,MD ()]
  ·have ne:j≠k:=fun z=>by subst z;omega
   have b:=(dn J K (aY hF c L.k1 ne) (():l1 (wn ws j)<t) a.2 (.inl g)).2;rw[b];by_cases q:0<OR (wn ws j) t
   ·rw[ME ‹q›,ME ⟨(),a.2,q⟩]
   ·rw[MD ‹q›,MD fun z=>q z.2.2]
 ·have a:sp (wn ws j) t=MC:=‹s›
  rw[a,JU,MD ⋯,MD];intro q;exact s (aU.mpr ⟨(),q.2.1⟩)
include hU hF in
theorem iP{f:Nat}(hf:f<2*ws.length){r:pq}(R:gn ws f r):∃k,R7 ws r (la (fc ws r).1 (fc ws r).2) k/\NY (fc ws r)/\((aI ws r=MB/\Pf ws (dR r) f=1)\/(aI ws r=MC/\2*k+1∈r)):=by
 obtain⟨t,k,L,g,d,l,mn⟩:=fD hU hF hf R;obtain⟨j,h,c,i⟩:=pS ws (KC d);have a:=j g d;have b:=mn h c;have e:la (fc ws r).1 (fc ws r).2=t:=by unfold tf at b;rw[<-i]at b;omega
 rw[e];refine⟨k,L,by rw[i];exact pf hU (c8 hU hF hf R h c),?_⟩;have o:=xW hU hF hf R;rcases jP hU hF hf R L with⟨m,z⟩|⟨_,_,z⟩
 ·right;refine⟨?_,m⟩;unfold aI;rw[o,z];rfl
 ·left;refine⟨?_,z⟩;unfold aI;rw[o,z];rfl
end
theorem oo{ws:rr}{ins:pe}:∀{n i:Nat},i<n->fc ws ((ins[i]?).getD [])∈cn ws ins n
 |0,i,h=>absurd h ()
 |n+1,i,h=>by
  unfold cn
  dsimp only
  by_cases e:i=n
  ·subst e
   split
   ·assumption
   ·exact Jh _ (JS.mpr rfl)
  ·have:=oo (ws:=ws) (ins:=ins) (n:=n) (i:=i) ()
   split
   ·exact this
   ·exact List.mem_append_left _ this
section
variable{ws:rr}(hU:∀w∈ws,Mn w)(hF:PF ws)
include hU hF in
theorem qQ{i:pe}(G:OO ws (2*ws.length) i){r c:pq}(p:r∈i)(g:c∈i)(o:aI ws r=MC)(o':aI ws c=MC)(e:fc ws r=fc ws c):r=c:=by
 obtain⟨f,s,R⟩:=dM G r p;obtain⟨B,h,t⟩:=dM G c g;obtain⟨k,L,_,q⟩:=iP hU hF s R;obtain⟨j,d,_,x⟩:=iP hU hF h t
 have m:2*k+1∈r:=by
  rcases q with⟨z,_⟩|⟨_,z⟩
  ·rw[o]at z;cases z
  ·exact z
 have u:2*j+1∈c:=by
  rcases x with⟨z,_⟩|⟨_,z⟩
  ·rw[o']at z;cases z
  ·exact z
 rw[<-e]at d;have y:=L.e;have l:=d.e;by_cases ne:k=j
 ·subst ne;exact fN hU hF (IY _) G r p c g _ m u
 ·exfalso;have a:=pO hU hF s R L m j d.k1 l;have b:=pO hU hF h t d u k L.k1 y;have K:=aK hU L.k1;have v:=aK hU d.k1;have C:=K.lt;have A:=v.lt;have n:=fh K v (aY hF L.k1 d.k1 ne) (bW.mpr ⟨(),(),(),()⟩);rw[a,b]at n;cases n
include hU hF in
theorem nZ{L:pw}(il:dW ws L):∃h,OO ws (2*ws.length) h/\(∀(i:Nat) (S:pq),(h.filter (aI ws))[i]?=LZ S->∀g∈S,L[g]?=LZ ((i+1:Nat):Int))/\∀r∈h,aI ws r=MC->∀g∈r,L[g]?=LZ (Oy ws L (fc ws r)):=by
 obtain⟨h,ps,G,pm,up,rfl⟩:=il;refine⟨h,G,?_⟩;have Q:∀S,S∈h.filter (aI ws)↔S∈h/\aI ws S=MB:=fun S=>Jb;have mI:∀S,S∈(h.filter fun r=>!aI ws r)↔S∈h/\aI ws S=MC:=fun S=>by rw[Jb];simp
 have T:(h.filter (aI ws)).Nodup:=KI _ (fF G);have U:=fN hU hF (IY _) G;have lt:∀r∈h,∀g∈r,g<2*ws.length:=fun r t g s=>by obtain⟨f,J,R⟩:=dM G r t;exact c8 hU hF J R g s
 generalize eo:h.filter (aI ws)=outs at *;generalize ei:(h.filter fun r=>!aI ws r)=ins at *;have K:(fO (2*ws.length) outs outs.length).length=2*ws.length:=iM _ _ _
 have step:∀j,j<ps.length->∃q c,ps[j]?=LZ c/\(ins[(mE ws ins ((ps[j]?).getD (0,0)) ins.length).getD 0]?).getD []=q/\q∈h/\aI ws q=MC/\fc ws q=c:=fun j B=>by
  have C:ps[j]?=LZ ps[j]:=IT B
  have V:ps[j]∈cn ws ins ins.length:=pm.mem_iff.mp (JQ B)
  obtain⟨i,a,b,c⟩:=gX V
  have em:ins[i]?=LZ ins[i]:=IT b
  have q:=(mI _).mp (JQ b)
  rw[em]at c
  refine⟨ins[i],ps[j],C,?_,q.1,q.2,c⟩
  rw[C]
  show(ins[(mE ws ins ps[j] ins.length).getD 0]?).getD []=_
  rw[a]
  show(ins[i]?).getD []=_
  rw[em];rfl
 constructor
 ·intro i S W g s;have X:=(Q S).mp (IW W);have D:=lt S X.1 g s
  have k1:=xK (m:=2*ws.length) (outs:=outs) (fun i j r q g er eq t hq=>by
   have a:=(Q r).mp (IW er)
   have b:=(Q q).mp (IW eq)
   have:=U r a.1 q b.1 g t hq
   subst this
   obtain⟨M,e1⟩:=J1.mp er
   obtain⟨E,e2⟩:=J1.mp eq
   exact(List.getElem_inj T).mp (e1.trans e2.symm)) W s D outs.length (J1.mp W).1
  have F:=kZ (ws:=ws) (ins:=ins) (L:=fO (2*ws.length) outs outs.length) (ps:=ps) (x:=g) (by rw[K];exact D) (i:=0) ps.length fun j _ E z=>by
   obtain⟨q,c,_,eq,N,O,_⟩:=step j ()
   rw[eq]at z
   have:=U S X.1 q N g s z
   rw[<-this,X.2]at O;cases O
  rw[Nat.zero_add]at F;rw[F];exact k1
 ·intro r t o g s;have D:=lt r t g s;obtain⟨f,J,R⟩:=dM G r t;obtain⟨k,Lw,hc,_⟩:=iP hU hF J R;obtain⟨i,hi,Y⟩:=List.mem_iff_getElem.mp ((mI r).mpr ⟨t,o⟩)
  have V:fc ws r∈ps:=by
   rw[pm.mem_iff]
   have:=oo (ws:=ws) (ins:=ins) hi
   rw[IT hi,Y]at this
   exact this
  obtain⟨j,B,Z⟩:=List.mem_iff_getElem.mp V;obtain⟨q,c,C,eq,N,O,q3⟩:=step j B;have H:ps[j]?=LZ (fc ws r):=by rw[IT B,Z]
  rw[H]at C;cases C;have a0:=qQ hU hF G N t O o q3;subst a0;have P:=KY.mp up
  have n:∀d,j<=d->(hj':d<ps.length)->la (fc ws q).1 (fc ws q).2<=la ps[d].1 ps[d].2/\(ps[d]=fc ws q->d=j):=fun d M E=>by
   by_cases e:j=d
   ·subst e;rw[Z];exact⟨KH _,fun _=>rfl⟩
   ·have:=P j d B E ();rw[Z]at this;unfold Nj at this;unfold la;refine⟨(),fun z=>?_⟩;rw[z]at this;omega
  have k1:(fS ws ins (fO (2*ws.length) outs outs.length) ps (j+1))[g]?=LZ (Oy ws (fS ws ins (fO (2*ws.length) outs outs.length) ps j) (fc ws q)):=by rw[fS,lY (by rw[j7,K];exact D),eq,ME s,H];rfl
  have F:=kZ (ws:=ws) (ins:=ins) (L:=fO (2*ws.length) outs outs.length) (ps:=ps) (x:=g) (by rw[K];exact D) (i:=j+1) (ps.length-(j+1)) fun d M E z=>by
   obtain⟨q',c',u,y,I,b0,A⟩:=step d ()
   rw[y]at z
   have:=U q N q' I g s z
   subst this
   have p:ps[d]?=LZ ps[d]:=IT ()
   rw[u]at p
   have:=(n d () ()).2 (by rw[<-Option.some.inj p,A])
   omega
  rw[show j+1+(ps.length-(j+1))=ps.length by omega]at F;rw[F,k1]
  congr 1
  unfold Oy;by_cases b:bK ws 1 (fc ws q).1 (fc ws q).2=[]
  ·rw[ME b,ME b]
  ·rw[MD b,MD b];obtain⟨v,v1,v2,v3,_⟩:=sX hU hF (aM hU hF J R) hc Lw.k1 Lw.e b;rw[v2]
   have k3:=kZ (ws:=ws) (ins:=ins) (L:=fO (2*ws.length) outs outs.length) (ps:=ps) (x:=2*v) (by rw[K];omega) (i:=j) (ps.length-j) fun d M E z=>by
    obtain⟨q',c',u,y,I,b0,A⟩:=step d ()
    rw[y]at z
    have:=(pS ws (KC z)).1 _ z
    unfold tf at this
    rw[cO,A]at this
    have p:ps[d]?=LZ ps[d]:=IT ()
    rw[u]at p
    have l:=(n d M ()).1
    rw[<-Option.some.inj p]at l
    omega
   rw[show j+(ps.length-j)=ps.length by omega]at k3;rw[k3]
end
section
variable{ws:rr}(hU:∀w∈ws,Mn w)(hF:PF ws)
def Rt(ws:rr)(L:pw)(outs:pe)(g:Nat):Prop:=
 (L[g]?=LZ 0/\∀S∈outs,Pf ws (dR S) g=0)\/∃(i:Nat) (S:pq) (a:Nat),outs[i]?=LZ S/\a∈S/\L[g]?=LZ ((i+1:Nat):Int)/\∀T∈outs,Pf ws (dR T) g=Pf ws (dR T) a
include hU hF in
theorem iK{L:pw}{j:pe}(G:OO ws (2*ws.length) j)(D:∀(i:Nat) (S:pq),(j.filter (aI ws))[i]?=LZ S->∀g∈S,L[g]?=LZ ((i+1:Nat):Int))(E:∀r∈j,aI ws r=MC->∀g∈r,L[g]?=LZ (Oy ws L (fc ws r))) :
 ∀(N:Nat) (r:pq),r∈j->la (fc ws r).1 (fc ws r).2<(N:Int)->∀g∈r,Rt ws L (j.filter (aI ws)) g
 |0,r,hr,hN,g,hg=>by
  exfalso
  obtain⟨f,l,R⟩:=dM G r hr
  obtain⟨k,_,n,_⟩:=iP hU hF l R
  have a:=n.1
  have b:=n.2
  unfold la at hN
  omega
 |N+1,r,hr,hN,g,hg=>by
  obtain⟨f,l,R⟩:=dM G r hr
  obtain⟨k,p,n,q⟩:=iP hU hF l R
  have t:∀T∈j.filter (aI ws),Flow ws (dR T):=fun T h=>by
   obtain⟨M,u,I⟩:=dM G T (Jb.mp h).1
   exact aM hU hF u I
  rcases q with⟨o,_⟩|⟨o,m⟩
  ·right
   obtain⟨i,J,e⟩:=List.mem_iff_getElem.mp (Jb.mpr ⟨hr,o⟩)
   have e:(j.filter (aI ws))[i]?=LZ r:=by rw[IT J,e]
   exact⟨i,r,g,e,hg,D i r e g hg,fun _ _=>rfl⟩
  ·have x:=E r hr o g hg
   have P:∀T∈j.filter (aI ws),Pf ws (dR T) g=Zc ws (dR T) (la (fc ws r).1 (fc ws r).2):=fun T h=>by
    rw[bH hU hF l R (t T h) hg]
    exact zw hU hF l R p m (t T h)
   by_cases b:bK ws 1 (fc ws r).1 (fc ws r).2=[]
   ·left
    refine⟨by rw[x];unfold Oy;rw[ME b],fun S s=>?_⟩
    rw[P S s,EM hU n b]
   ·obtain⟨v,O,F,Q,_⟩:=sX hU hF (aM hU hF l R) n p.k1 p.e b
    have Z:∀T∈j.filter (aI ws),Pf ws (dR T) g=Pf ws (dR T) (2*v):=fun T h=>by
     obtain⟨U,_,y,_,e⟩:=sX hU hF (t T h) n p.k1 p.e b
     rw[P T h,e,<-y,F]
    obtain⟨z,A,B⟩:=g9 G (2*v) ()
    have C:la (fc ws z).1 (fc ws z).2<(N:Int):=by
     have:=(pS ws (KC B)).1 _ B
     unfold tf at this
     rw[cO]at this
     omega
    have H:Oy ws L (fc ws r)=(L[2*v]?).getD 0:=by unfold Oy;rw[MD b,F]
    rcases iK G D E N z A C (2*v) B with⟨a,c⟩|⟨i,S,K,a,c,d,e⟩
    ·left
     refine⟨by rw[x,H,a];rfl,fun S s=>?_⟩
     rw[Z S s,c S s]
    ·right
     refine⟨i,S,K,a,c,by rw[x,H,d];rfl,fun T h=>?_⟩
     rw[Z T h,e T h]
include hU hF in
theorem land_eq{L:pw}(J:dW ws L):(∀g h,g<2*ws.length->h<2*ws.length->(∀f r,f<2*ws.length->gn ws f r->Pf ws (dR r) g=Pf ws (dR r) h)->L[g]?=L[h]?)/\∀g,g<2*ws.length->(∀f r,f<2*ws.length->gn ws f r->Pf ws (dR r) g=0)->L[g]?=LZ 0:=by
 obtain⟨u,G,K,M⟩:=nZ hU hF J;have l:∀g,g<2*ws.length->Rt ws L (u.filter (aI ws)) g:=fun g s=>by obtain⟨r,N,m⟩:=g9 G g s;exact iK hU hF G K M ((la (fc ws r).1 (fc ws r).2).toNat+1) r N () g m
 have ring:∀S∈u.filter (aI ws),∃f,f<2*ws.length/\gn ws f S/\Pf ws (dR S) f=1/\S∈u:=fun S C=>by
  obtain⟨a,o⟩:=Jb.mp C;obtain⟨f,j,R⟩:=dM G S a;obtain⟨k,_,_,q⟩:=iP hU hF j R;rcases q with⟨_,z⟩|⟨z,_⟩
  ·exact⟨f,j,R,z,a⟩
  ·rw[o]at z;cases z
 have own:∀S∈u.filter (aI ws),∀g∈S,Pf ws (dR S) g=1:=fun S C g s=>by obtain⟨f,j,R,z,_⟩:=ring S C;rw[bH hU hF j R (aM hU hF j R) s,z]
 constructor
 ·intro g h s O eq;have p:∀T∈u.filter (aI ws),Pf ws (dR T) g=Pf ws (dR T) h:=fun T P=>by obtain⟨f,j,R,_⟩:=ring T P;exact eq f T j R
  rcases l g s with⟨a,b⟩|⟨i,S,B,a,b,c,d⟩<;>rcases l h O with⟨v,y⟩|⟨X,n,I,v,y,Q,D⟩
  ·rw[a,v]
  ·exfalso;have m:=IW v;have:=own n m I y;rw[<-D n m,<-p n m,b n m]at this;omega
  ·exfalso;have m:=IW a;have:=own S m B b;rw[<-d S m,p S m,y S m]at this;omega
  ·have m:=IW a;have A:=IW v;by_cases e:S=n
   ·subst e;have nd:(u.filter (aI ws)).Nodup:=KI _ (fF G);obtain⟨Y,e1⟩:=J1.mp a;obtain⟨Z,e2⟩:=J1.mp v;have:=(List.getElem_inj nd).mp (e1.trans e2.symm);subst this;rw[c,Q]
   ·exfalso;obtain⟨f,j,R,z,U⟩:=ring S m;obtain⟨f',t,E,V,F⟩:=ring n A;refine oe hU hF j R t E (fun x W H=>e (fN hU hF (IY _) G S U n F x W H)) z V ?_ ?_
    ·rw[<-bH hU hF j R (aM hU hF t E) b,<-d n A,p n A,D n A];exact own n A I y
    ·rw[<-bH hU hF t E (aM hU hF j R) y,<-D S m,<-p S m,d S m];exact own S m B b
 ·intro g s z;rcases l g s with⟨a,b⟩|⟨i,S,B,a,b,c,d⟩
  ·exact a
  ·exfalso;have m:=IW a;obtain⟨f,j,R,_⟩:=ring S m;have:=own S m B b;rw[<-d S m,z f S j R]at this;omega
end
def Bt(t b X Y:Int)(x y:Rat)(w:Wl):Bool:=(!decide (MW x y (MU t b X 1 w.1) (MU t b Y 1 w.2.1))&&decide (MW x y (MU t b X 1 w.2.2.1) (MU t b Y 1 w.2.2.2)))&&decide (MZ (MY (MU t b X 1 w.1) (MU t b Y 1 w.2.1) (MU t b X 1 w.2.2.1) (MU t b Y 1 w.2.2.2) x y)=1)
def bT(t b X Y:Int)(ws:rr)(x y:Rat):pw:=((J8 ws.length).filter fun j=>Bt t b X Y x y (wn ws j)).map fun j:Nat=>(j:Int)
theorem zm(t b X Y:Int)(ws:rr)(x y:Rat):(J8 (ws.map (Mq t b X Y)).length).filterMap (fun j=>if Bt t b X Y x y (wn ws j)=MB then LZ (Mq t b X Y (wn ws j))else MA)=((bT t b X Y ws x y).map (Mu ws)).map (Mq t b X Y):=by rw[IV];unfold bT;rw[L7,L7];exact fK (fun j=>Bt t b X Y x y (wn ws j)) (fun j:Nat=>Mq t b X Y (wn ws j)) _
theorem eB{t b X Y:Int}{ws:rr}{x y:Rat}{k:Int}:k∈bT t b X Y ws x y↔∃j:Nat,k=(j:Int)/\j<ws.length/\Bt t b X Y x y (wn ws j)=MB:=by
 unfold bT;rw[JC];constructor
 ·rintro⟨j,h,e⟩;rw[Jb,Jv]at h;exact⟨j,e.symm,h⟩
 ·rintro⟨j,e,h⟩;exact⟨j,Jb.mpr ⟨Jv.mpr h.1,h.2⟩,e.symm⟩
theorem yT(t b X Y:Int)(ws:rr)(x y:Rat):(bT t b X Y ws x y).Nodup:=by unfold bT List.Nodup;rw[List.pairwise_map];have h:List.Pairwise (fun x y:Nat=>x≠y) ((J8 ws.length).filter fun j=>Bt t b X Y x y (wn ws j)):=KI _ List.nodup_range;refine List.Pairwise.imp (R:=fun x y:Nat=>x≠y) ?_ h;omega
theorem FC{t b X Y:Int}(c:0<t)(f:0<b){ws:rr}(i:∀w∈ws,Mn w){p q:Int}(h:-10<=q/\q<=85):bT t b X Y ws (MU t b X 1 p) (MU t b Y 1 q)=bK ws 1 p q:=by
 unfold bT bK
 congr 1
 refine List.filter_congr fun a j=>?_;have W:=aK i (Jv.mp j);have g:(0:Int)<1/\(1:Int)<=4:=⋯
 unfold Bt bB SU;rw[uK c f g.1,decide_eq_decide.mpr (zf c f g h W.b),decide_eq_decide.mpr (zf c f g h W.d),<-decide_not];show(decide (¬la p q<1*l1 (wn ws a))&&decide (la p q<1*l2 (wn ws a))&&_)=(decide (1*l1 (wn ws a)<=la p q)&&decide (la p q<1*l2 (wn ws a))&&_);have e:decide (¬la p q<1*l1 (wn ws a))=decide (1*l1 (wn ws a)<=la p q):=by rw[MJ];omega
 rw[e];rfl
theorem p5{t b X Y m:Int}(c:0<t)(d:0<b)(a:0<m)(w:Wl)(p q:Int):Bt t b X Y (MU t b X m p) (MU t b Y m q) w=MB↔Qv w m p q/\0<sL w m p q:=by
 unfold Bt Qv;have e:sd (Mw m w) p q=m*sL w m p q:=by unfold sd Mw sL NJ;dsimp only;grind
 rw[uK c d a,e,Jp,Jp,MK,MK,WT,Bool.not_eq_true',decide_eq_false_iff_not,Mb c d a ⋯,Mb c d a ⋯,Mc,Mc,LR,LR];have:=Ma.vC (z:=sL w m p q) a;rw[this]
theorem Hs{a b x y c d:Rat}(e:¬MW x y a b)(f:MW x y c d):MW a b c d:=by unfold MW at *;grind
theorem xU{t b X Y:Int}(A:0<t)(B:0<b){ws:rr}(h:∀w∈ws,Mn w)(hF:PF ws){x y:Rat}(C:bT t b X Y ws x y≠[]):∃f∈bT t b X Y ws x y,∀w∈(bT t b X Y ws x y).map (Mu ws),w=Mu ws f\/(Ms (Mu ws f) w=MB/\Ms w (Mu ws f)=MC):=by
 obtain⟨f,l,D⟩:=AD h hF _ _ rfl C (yT t b X Y ws x y) fun k g=>by obtain⟨j,rfl,a,_⟩:=eB.mp g;omega
 refine⟨f,l,fun w E=>?_⟩;obtain⟨k,g,rfl⟩:=JC.mp E;by_cases e:k=f
 ·subst e;exact .inl rfl
 ·right;have n:=D k g;obtain⟨i,rfl,m,o⟩:=eB.mp l;obtain⟨j,rfl,p,r⟩:=eB.mp g;have I:=aK h m;have J:=aK h p;have s:∀{u v:Wl},Mn u->Mn v->Bt t b X Y x y u=MB->Bt t b X Y x y v=MB->l1 u<l2 v:=fun{u v} F G a c=>by unfold Bt at a c;rw[Jp,Jp,Bool.not_eq_true',decide_eq_false_iff_not,MK]at a c;exact(lZ A B F.b G.d).mp (Hs a.1.1 c.1.2)
  have H:max (l1 (wn ws j)) (l1 (wn ws i))<min (l2 (wn ws j)) (l2 (wn ws i)):=bW.mpr ⟨J.lt,s J I r o,s I J o r,I.lt⟩;have q:=fh J I (aY hF p m (fun z=>e (by rw[z]))) H;have n:Ms (wn ws j) (wn ws i)=MC:=n;rw[n]at q;exact⟨q,n⟩
def Ru(w:Wl)(l s:Int):Bool:=decide (l=l1 w)||decide (l=l2 w)||decide (l<l1 w)||decide (l2 w<l)||decide (s≠0)
theorem pK{w:Wl}{l s:Int}(h:Ru w l s=MB):aV w l s:=by
 unfold Ru at h;simp only[Bool.or_eq_true,MK]at h;unfold aV;rcases h with(((h|h)|h)|h)|h
 ·exact .inl h
 ·exact .inr (.inl h)
 ·exact .inr (.inr (.inl h))
 ·exact .inr (.inr (.inr (.inl h)))
 ·exact .inr (.inr (.inr (.inr h)))
def YG(U V:Wl):Bool:=!(decide (l1 U=l1 V)&&decide (l2 U=l2 V))&&(Ru U (l1 V) (Mt U V)&&(Ru U (l2 V) (Mv U V)&&(Ru V (l1 U) (Mt V U)&&(Ru V (l2 U) (Mv V U)&&(decide (0<=Ji (Mt U V)*Ji (Mv U V))||decide (0<=Ji (Mt V U)*Ji (Mv V U)))))))
theorem C6{U V:Wl}(h:YG U V=MB):Mz U V:=by unfold YG at h;simp only[Jp,Bool.or_eq_true,Bool.not_eq_true',MK]at h;obtain⟨a,b,c,d,e,f⟩:=h;refine⟨fun z=>?_,pK b,pK c,pK d,pK e,f⟩;rw[MG z.1,MG z.2]at a;cases a
def WJ:rr->Bool
 |[]=>MB
 |w::l=>l.all (YG w)&&WJ l
theorem xV:∀{l:rr},WJ l=MB->l.Pairwise Mz
 |[],_=>List.Pairwise.nil
 |w::l,h=>by
  rw[WJ,Jp]at h
  exact List.Pairwise.cons (fun v a=>C6 (JR.mp h.1 v a)) (xV h.2)
def WQ(w:Wl):Bool:=decide ((0<=w.1/\w.1<=20)/\(0<=w.2.1/\w.2.1<=20)/\(0<=w.2.2.1/\w.2.2.1<=20)/\(0<=w.2.2.2/\w.2.2.2<=20)/\l1 w<l2 w)
theorem E8{w:Wl}(h:WQ w=MB):Mn w:=by unfold WQ at h;obtain⟨a,b,c,d,e⟩:=MI h;exact⟨a,b,c,d,e⟩
theorem AX{ws:rr}(h:ws.Pairwise Mz):PF ws:=fun i j U V ne e f=>by
 obtain⟨a,b⟩:=J1.mp e;obtain⟨c,d⟩:=J1.mp f;have P:=KY.mp h;rcases Nat.lt_or_gt_of_ne ne with z|z
 ·rw[<-b,<-d];exact P i j a c z
 ·rw[<-b,<-d];exact(P j i c a z).swap
def OD(x y w:Int):rr:=[(x,y,x+w,y),(x+w,y,x+w,y+w),(x,y+w,x+w,y+w),(x,y,x,y+w)]
def pX:List (rr×Int):=[(OD 0 0 12,1),(OD 0 0 12,2),(OD 0 0 12++OD 1 1 10,2),(OD 0 0 12++OD 1 1 10,3),(OD 0 0 12++OD 2 2 8,3),(OD 0 0 12++OD 2 2 8,4)]
def RF(us:rr)(a t1 b c:Int):rr:=us++(OD (a+t1) (a+b) (1+c)++([(9,8,9,9)]++([(a,8,a+1,8),(a,9,a+1,9)]++OD 12 12 2)))
theorem AF:(pX.all fun g=>[0,1].all fun t1=>[0,1].all fun a=>[0,1].all fun b=>WJ (RF g.1 g.2 t1 a b)&&(RF g.1 g.2 t1 a b).all WQ)=MB:=by decide +kernel
theorem Eu{us:rr}{a t1 b c:Int}(g:(us,a)∈pX)(d:0<=t1/\t1<2)(e:0<=b/\b<2)(f:0<=c/\c<2):(RF us a t1 b c).Pairwise Mz/\∀w∈RF us a t1 b c,Mn w:=by
 have m:∀{t:Int},(0<=t/\t<2)->t∈([0,1]:pw):=fun{t} h=>by rcases(():t=0\/t=1)with rfl|rfl<;>simp
 have:=JR.mp (JR.mp (JR.mp (JR.mp AF _ g) _ (m d)) _ (m e)) _ (m f);rw[Jp]at this;exact⟨xV this.1,fun w i=>E8 (JR.mp this.2 w i)⟩
theorem DO{us vs ws:rr}{a t1 b c:Int}(g:(us,a)∈pX)(d:0<=t1/\t1<2)(e:0<=b/\b<2)(f:0<=c/\c<2)(s:vs.Sublist (RF us a t1 b c))(p:ws.Perm vs):PF ws/\(∀w∈ws,Mn w)/\ws.length<=19:=by
 obtain⟨A,B⟩:=Eu g d e f;refine⟨AX ((p.pairwise_iff (fun{x y} h=>Mz.swap h)).mpr (A.sublist s)),fun w i=>B w (s.subset (p.mem_iff.mp i)),?_⟩;rw[p.length_eq];refine K4 s.length_le ?_
 have j:us.length<=8:=by
  have:(pX.all fun g=>decide (g.1.length<=8))=MB:=by decide +kernel
  exact MI (JR.mp this _ g)
 unfold RF;simp only[Kg];show us.length+(4+(1+(2+4)))<=19;omega
theorem Bc:PyData.strOk (Kp "land")=MB:=by decide +kernel
theorem Aa{t b X Y:Int}{M:MH}{z:n7}{ps:List Vc}{x y:Rat}{Q:DK}(hz:M z=LZ (.lst (ps.map (Nf t b X Y))))(c:∀u∈ps,¬(MU t b X 1 u.1=x/\MU t b Y 1 u.2=y))(k:Q (.bl MC) M):yB (fun b=>b) (Mf x y) (.ref z) M Q:=by
 refine⟨.tuple [.tuple [.int x.num,.int (x.den:Int)],.tuple [.int y.num,.int (y.den:Int)]],ps.map (gP t b X Y),Pd.of rfl,.inl (.lst hz (uk t b X Y ps)),rfl,uG t b X Y ps,?_⟩
 have e:((ps.map (gP t b X Y)).any fun q=>JL q (.tuple [.tuple [.int x.num,.int (x.den:Int)],.tuple [.int y.num,.int (y.den:Int)]]))=MC:=by
  rw[List.any_map,List.any_eq_false]
  intro u d a
  have a:JL (.tuple [.tuple [.int (MU t b X 1 u.1).num,.int ((MU t b X 1 u.1).den:Int)],.tuple [.int (MU t b Y 1 u.2).num,.int ((MU t b Y 1 u.2).den:Int)]]) (.tuple [.tuple [.int x.num,.int (x.den:Int)],.tuple [.int y.num,.int (y.den:Int)]])=MB:=a
  rw[Me,MK]at a
  exact c u d a
 rw[e];exact k
def P0(x y w:Int):rx:=[.tup [.int x,.int y],.tup [.int (x+w),.int y],.tup [.int (x+w),.int (y+w)],.tup [.int x,.int (y+w)]]
structure LS(ws:rr)(L:pw)(m p q v:Int):Prop where
 off:∀k,k<ws.length->¬PJ (wn ws k) m p q
 z:(∀k,k<ws.length->¬BL ws m p q k)->v=0
 tp:∀u,u<ws.length->BL ws m p q u->(∀k,k<ws.length->k≠u->BL ws m p q k->Ms (wn ws u) (wn ws k)=MB)->L[2*u]?=LZ v
section
variable{ws:rr}(hU:∀w∈ws,Mn w)(hF:PF ws)
include hU hF in
theorem uC{m p q:Int}(j:0<m){c:Nat}(l:c<ws.length)(h:BL ws m p q c):∃u,u<ws.length/\BL ws m p q u/\∀k,k<ws.length->k≠u->BL ws m p q k->Ms (wn ws u) (wn ws k)=MB:=by
 have e:∀k,Bt 1 1 0 0 (MU 1 1 0 m p) (MU 1 1 0 m q) (wn ws k)=MB↔BL ws m p q k:=fun k=>p5 ⋯ ⋯ j _ p q;have n:((c:Nat):Int)∈bT 1 1 0 0 ws (MU 1 1 0 m p) (MU 1 1 0 m q):=eB.mpr ⟨c,rfl,l,(e c).mpr h⟩;obtain⟨r,f,d⟩:=xU (t:=1) (b:=1) (X:=0) (Y:=0) ⋯ ⋯ hU hF (KC n);obtain⟨u,rfl,g,o⟩:=eB.mp f;refine⟨u,g,(e u).mp o,fun k i ne b=>?_⟩;rcases d _ (JC.mpr ⟨((k:Nat):Int),eB.mpr ⟨k,rfl,i,(e k).mpr b⟩,rfl⟩)with a|a
 ·exfalso;have a:wn ws k=wn ws u:=a;exact(aY hF i g ne).ne ⟨by rw[a],by rw[a]⟩
 ·exact a.1
include hU in
theorem tY{m p q:Int}(off:∀k,k<ws.length->¬PJ (wn ws k) m p q):∀k,k<ws.length->Qv (wn ws k) m p q->(wn ws k).1<(wn ws k).2.2.1:=fun k a s=>by
 have W:=aK hU a;have c:=W.lt;have b:=W.b;have d:=W.d
 refine JO fun n=>?_;have e:(wn ws k).1=(wn ws k).2.2.1:=by unfold l1 l2 la at c;omega
 obtain⟨f,g⟩:=s;refine off k a ⟨?_,f,?_⟩
 ·have:p-m*(wn ws k).1=0:=by rw[<-e]at g;omega
  rw[this,show(wn ws k).2.2.1-(wn ws k).1=0 by omega,Int.zero_mul,Int.mul_zero]
 ·omega
variable{L:pw}(il:dW ws L)
include hU hF il in
theorem Ad{m p q v:Int}(c:0<m)(d:-(80*m)<=q/\q<90*m)(off:∀k,k<ws.length->¬PJ (wn ws k) m p q){f:Nat}(hf:f<2*ws.length)(V:∀g r,g<2*ws.length->gn ws g r->Vs ws (dR r) m p q=Pf ws (dR r) f)(e:L[f]?=LZ v):LS ws L m p q v:=by
 obtain⟨h,i⟩:=land_eq hU hF il;refine⟨off,fun z=>?_,fun u j b top=>?_⟩
 ·have:=i f hf fun g r a R=>by rw[<-V g r a R];exact cy fun k l=>MD (z k l)
  rw[e]at this;exact Option.some.inj this
 ·rw[<-e];exact h _ _ () hf fun g r a R=>by rw[<-V g r a R];exact(ue hU hF (aM hU hF a R) c (oW hU c d) (tY hU off) j b top).symm
include hU hF il in
theorem Gg{m p q:Int}(a:0<m)(d:-(80*m)<=q/\q<90*m)(off:∀k,k<ws.length->¬PJ (wn ws k) m p q):∃v,LS ws L m p q v:=by
 by_cases n:∀k,k<ws.length->¬BL ws m p q k
 ·exact⟨0,off,fun _=>rfl,fun u c b _=>absurd b (n u c)⟩
 ·obtain⟨k,h⟩:=Classical.not_forall.mp n;obtain⟨e,h⟩:=Classical.not_imp.mp h;obtain⟨u,c,b,top⟩:=uC hU hF a e (Classical.not_not.mp h);have:=il.len;exact⟨_,Ad hU hF il a d off (():2*u<2*ws.length) (fun g r f R=>ue hU hF (aM hU hF f R) a (oW hU a d) (tY hU off) c b top) (IT ())⟩
include hU hF il in
include hU hF il in
include hU hF il in
end
abbrev W8(w:Wl):Prop:=(0<=w.1/\w.1<=80)/\(0<=w.2.1/\w.2.1<=80)/\(0<=w.2.2.1/\w.2.2.1<=80)/\(0<=w.2.2.2/\w.2.2.2<=80)
theorem yl{a b c d:Int}(f:-10<=b/\b<=85)(hd:-10<=d/\d<=85):HT.lexLe [a,b] [c,d]=decide (la a b<=la c d):=by
 have e:Mk [c,d] [a,b]=decide (la c d<la a b):=by rw[Kn,Mc,MK];unfold la;omega
 rw[Ma.xc,e,<-decide_not,MJ];omega
theorem GK:¬(HT.sIx 3 0 MA=0/\HT.sIx 3 3 (LZ 2)=3):=⋯
def Qp(w:Wl)(x y:Int):Bool:=decide (l1 w<=la x y)&&decide (la x y<=l2 w)&&decide (sd w x y=0)
theorem BW{ws:rr}{m:Int}{k:Nat}(a:k<ws.length):wn (ws.map (Mw m)) k=Mw m (wn ws k):=by unfold wn Mu;rw[K7,IX,IT a];rfl
def ld(v:Int):D:=.tup [.str "land",.int v]
theorem Fn{M:MH}{v:Int}{Q:DK}(k:Q (.bl MC) M):DQ (ld v) (ld v) M Q:=by
 have a:Li (.tuple [.str "land",.int v])=MB:=by simp[Li,PyData.canLay0,KQ,Bc,PyData.depth,PyData.depthAll]
 refine⟨.tuple [.str "land",.int v],.tuple [.str "land",.int v],Pd.of rfl,Pd.of rfl,a,a,?_⟩;have e:JL (.tuple [.str "land",.int v]) (.tuple [.str "land",.int v])=MB:=by simp[JL,Ke]
 rw[e];exact k
theorem Iy{x1 y1 a b p q c:Int}(f:0<c↔0<(x1-p)*(b-q)-(y1-q)*(a-p))(g:c<0↔(x1-p)*(b-q)-(y1-q)*(a-p)<0)(m:x1<a\/(x1=a/\y1<b))(off:¬(p<x1\/(p=x1/\q<y1))->(p<a\/(p=a/\q<b))->c≠0) :
 (if(p<a\/(p=a/\q<b))/\b<=q then(1:Int)else 0)-(if(p<x1\/(p=x1/\q<y1))/\y1<=q then 1 else 0)=(if(¬(p<x1\/(p=x1/\q<y1))/\(p<a\/(p=a/\q<b)))/\0<c then 1 else 0)-(if y1<=q/\¬b<=q then(if 0<c then 1 else 0)else if b<=q/\¬y1<=q then(if c<0 then -1 else 0)else 0):=by
 by_cases i:p<x1\/(p=x1/\q<y1)<;>by_cases j:p<a\/(p=a/\q<b)<;>by_cases k:y1<=q<;>by_cases l:b<=q<;>simp only[i,j,k,l,true_and,and_true,false_and,and_false,not_true,not_false_iff,if_true,if_false]
 all_goals try omega
 ·have d:=Jl (():0<x1-p) (():0<b-q)
  have e:=Int.mul_nonpos_of_nonpos_of_nonneg (():y1-q<=0) (():0<=a-p)
  rw[ME (f.mpr ())]
 ·have d:=KA (():0<=x1-p) (():b-q<=0)
  have e:=Jl (():0<y1-q) (():0<a-p)
  rw[ME (g.mpr ())];rfl
 ·have h:=off i j
  have d:=Int.mul_nonneg_of_nonpos_of_nonpos (():x1-p<=0) (():b-q<=0)
  have e:=Int.mul_nonpos_of_nonpos_of_nonneg (():y1-q<=0) (():0<=a-p)
  rw[ME ()]
 ·have d:=Jq (():x1-p<0) (():0<b-q)
  have e:=Ku (():0<=y1-q) (():0<=a-p)
  rw[MD (fun z=>by have:=f.mp z;omega)]
 ·have d:=Int.mul_nonpos_of_nonpos_of_nonneg (():x1-p<=0) (():0<=b-q)
  have e:=Int.mul_nonneg_of_nonpos_of_nonpos (():y1-q<=0) (():a-p<=0)
  rw[MD (fun z=>by have:=f.mp z;omega)]
 ·have d:=Int.mul_nonneg_of_nonpos_of_nonpos (():x1-p<=0) (():b-q<=0)
  have e:=KA (():0<=y1-q) (():a-p<=0)
  rw[MD (fun z=>by have:=g.mp z;omega)]
def Oz(w:Wl)(m p q:Int):Int:=if m*w.2.1<=q/\¬m*w.2.2.2<=q then(if 0<sL w m p q then 1 else 0)else if m*w.2.2.2<=q/\¬m*w.2.1<=q then(if sL w m p q<0 then -1 else 0)else 0
def WU(m p q:Int)(c:Vc):Int:=if(p<m*c.1\/(p=m*c.1/\q<m*c.2))/\m*c.2<=q then 1 else 0
theorem AW{w:Wl}(hw:Mn w){m p q:Int}(a:0<m)(off:¬PJ w m p q):WU m p q (w.2.2.1,w.2.2.2)-WU m p q (w.1,w.2.1)=(if Qv w m p q/\0<sL w m p q then 1 else 0)-Oz w m p q:=by
 have e:m*sL w m p q=(m*w.1-p)*(m*w.2.2.2-q)-(m*w.2.1-q)*(m*w.2.2.1-p):=by unfold sL;grind
 obtain⟨c,f,_⟩:=Cd (z:=sL w m p q) a;rw[e]at c f;refine Iy c.symm f.symm ?_ fun g i z=>off ⟨?_,g,by dsimp only at i;omega⟩
 ·have j:=hw.lt;have l:=hw.b;have hd:=hw.d
  have:w.1<w.2.2.1\/(w.1=w.2.2.1/\w.2.1<w.2.2.2):=by unfold l1 l2 la at j;omega
  rcases this with h|⟨h,k⟩
  ·exact .inl (Int.mul_lt_mul_of_pos_left h a)
  ·exact .inr ⟨by rw[h],Int.mul_lt_mul_of_pos_left k a⟩
 ·unfold sL at z;omega
theorem uM{g:ri}:∀{n:Nat},(∀k,k<n->∃e,g k=2*e)->∃e,sg n g=2*e
 |0,_=>⟨0,rfl⟩
 |n+1,h=>by
  obtain⟨a,c⟩:=uM fun k d=>h k (Nat.lt_succ_of_lt d)
  obtain⟨b,f⟩:=h n (Nat.lt_succ_self n)
  exact⟨a+b,by rw[sg,c,f];omega⟩
def Nr(w:Wl)(m p q:Int):Int:=if Oz w m p q=0 then 0 else 1
section
variable{ws:rr}(hU:∀w∈ws,Mn w)(hF:PF ws){f:Nat}(hf:f<2*ws.length){r:pq}(R:gn ws f r)
include hU hF hf R
theorem Fy{m p q:Int}(b:0<m)(off:∀k,k<ws.length->dR r k≠0->¬PJ (wn ws k) m p q):Vs ws (dR r) m p q=sg ws.length fun k=>dR r k*Oz (wn ws k) m p q:=by
 have z:=jO hU hF hf R (WU m p q);rw[aS (h:=fun k=>(if BL ws m p q k then dR r k else 0)-dR r k*Oz (wn ws k) m p q) fun k a=>?_,dO]at z
 ·unfold Vs;omega
 ·by_cases z:dR r k=0
  ·rw[z,Int.zero_mul,Int.zero_mul];split<;>rfl
  have h:=AW (aK hU a) b (off k a z);unfold fa fb;rw[ib,h,Int.mul_sub];split
  ·omega
  ·omega
theorem AG{m p q:Int}(d:0<m)(off:∀k,k<ws.length->dR r k≠0->¬PJ (wn ws k) m p q):∃e,(r.map fun g=>Nr (wn ws (g/2)) m p q).sum=Vs ws (dR r) m p q+2*e:=by
 rw[jo (fun g=>Nr (wn ws (g/2)) m p q) r (pR hU hF hf R) (c8 hU hF hf R),Fy hU hF hf R d off]
 obtain⟨e,i⟩:=uM (n:=ws.length) (g:=fun k=>((if 2*k∈r then Nr (wn ws (2*k/2)) m p q else 0)+(if 2*k+1∈r then Nr (wn ws ((2*k+1)/2)) m p q else 0))-dR r k*Oz (wn ws k) m p q) fun k _=>by
  rw[show 2*k/2=k by omega,show(2*k+1)/2=k by omega]
  have j:(Oz (wn ws k) m p q=0/\Nr (wn ws k) m p q=0)\/(Oz (wn ws k) m p q=1/\Nr (wn ws k) m p q=1)\/(Oz (wn ws k) m p q=-1/\Nr (wn ws k) m p q=1):=by
   have:Oz (wn ws k) m p q=0\/Oz (wn ws k) m p q=1\/Oz (wn ws k) m p q=-1:=by
    unfold Oz
    repeat' split
    all_goals omega
   unfold Nr
   rcases this with h|h|h<;>rw[h]<;>simp
  unfold dR;rcases j with⟨h,c⟩|⟨h,c⟩|⟨h,c⟩<;>rw[h,c]<;>by_cases a:2*k∈r<;>by_cases b:2*k+1∈r<;>simp only[a,b,if_true,if_false]
  all_goals first|exact⟨0,rfl⟩|exact⟨1,rfl⟩
 rw[dO]at i;exact⟨e,()⟩
end
section
variable{ws:rr}(hU:∀w∈ws,Mn w)(hF:PF ws)
def Fa(ws:rr)(d:ri)(x:Nat)(t:Int):Int:=sg ws.length fun k=>if sp (wn ws k) t=MB/\xi (wn ws x) t<=xi (wn ws k) t then d k else 0
include hU hF in
theorem kn{d:ri}(g:Flow ws d){x:Nat}{t:Int}(x1:x<ws.length)(c:sp (wn ws x) t=MB):Fa ws d x t=Bw ws d x+d x:=by
 have one:d x=sg ws.length (fun k=>if k=x then d k else 0):=by rw[fj,ME x1]
 rw[<-gB hU hF g x1 c,one];unfold OP Fa;rw[<-cZ];refine aS fun k f=>?_;show _=(if(sp (wn ws k) t&&Ms (wn ws x) (wn ws k))=MB then d k else 0)+(if k=x then d k else 0);by_cases e:k=x
 ·subst e;rw[ME ⟨c,Rat.le_refl⟩,b7 (aK hU f),Lu,MD ⋯,ME rfl,Int.zero_add]
 ·rw[MD e,Int.add_zero];by_cases s:sp (wn ws k) t=MB
  ·have F:=aY hF x1 f (fun q=>e q.symm);have a:=dI (aK hU x1) (aK hU f) F c s;have b:=uF (aK hU x1) (aK hU f) F c s;rw[s,Ko];by_cases q:xi (wn ws x) t<=xi (wn ws k) t
   ·rw[ME ⟨rfl,q⟩,ME (a.mpr (by grind))]
   ·rw[MD fun y=>q y.2,MD fun y=>q (Rat.le_of_lt (a.mp y))]
  ·have h:sp (wn ws k) t=MC:=‹s›
   rw[h,JU,MD (fun y=>by cases y.1),MD ⋯]
theorem xB(d:ri){x:Nat}{t:Int}:(∀e:ri,(∀k,d k=0->e k=0)->Fa ws e x t=0)\/∃y,y<ws.length/\sp (wn ws y) t=MB/\d y≠0/\xi (wn ws x) t<=xi (wn ws y) t/\∀e:ri,(∀k,d k=0->e k=0)->Fa ws e x t=Fa ws e y t:=by
 by_cases n:((J8 ws.length).filter fun k=>decide (sp (wn ws k) t=MB/\d k≠0/\xi (wn ws x) t<=xi (wn ws k) t))=[]
 ·left;refine fun e z=>cy fun k b=>?_;by_cases h:sp (wn ws k) t=MB/\xi (wn ws x) t<=xi (wn ws k) t
  ·rw[ME h];refine z k (JO fun z=>?_);have:=List.filter_eq_nil_iff.mp n k (Jv.mpr b);exact this (MG ⟨h.1,z,h.2⟩)
  ·rw[MD h]
 ·right;obtain⟨y,a,f⟩:=p6 (fun k=>-xi (wn ws k) t) _ n;rw[Jb,Jv,MK]at a;refine⟨y,a.1,a.2.1,a.2.2.1,a.2.2.2,fun e z=>?_⟩;unfold Fa;refine aS fun k b=>?_;by_cases c:d k=0
  ·rw[z k c];split<;>split<;>rfl
  ·have:(sp (wn ws k) t=MB/\xi (wn ws x) t<=xi (wn ws k) t)↔(sp (wn ws k) t=MB/\xi (wn ws y) t<=xi (wn ws k) t):=by
    constructor
    ·intro h;have:=f k (by rw[Jb,Jv,MK];exact⟨b,h.1,c,h.2⟩);exact⟨h.1,by grind⟩
    ·exact fun h=>⟨h.1,Rat.le_trans a.2.2.2 h.2⟩
   by_cases h:sp (wn ws k) t=MB/\xi (wn ws x) t<=xi (wn ws k) t
   ·rw[ME h,ME (this.mp h)]
   ·rw[MD h,MD fun q=>h (this.mpr q)]
structure Qt(ws:rr)(f:Nat)(r:pq):Prop where
 hf:f<2*ws.length
 R:gn ws f r
 a:Pf ws (dR r) f=1
include hU hF in
theorem tZ{f:Nat}{r:pq}(O:Qt ws f r){y:Nat}{t:Int}(y1:y<ws.length)(b:sp (wn ws y) t=MB)(c:dR r y≠0):(2*y∈r/\Fa ws (dR r) y t=1)\/(2*y+1∈r/\Fa ws (dR r) y t=0):=by
 have d:=j5.mpr ⟨y1,b,c⟩;rw[kn hU hF (aM hU hF O.hf O.R) y1 b];have h:=BA hU hF O.hf O.R d;have a:=O.a;rcases h with⟨h,k⟩|⟨h,k⟩
 ·refine .inl ⟨JO fun z=>?_,()⟩;unfold dR at h;rw[MD z]at h;split at h<;>omega
 ·refine .inr ⟨JO fun z=>?_,()⟩;unfold dR at h;rw[MD z]at h;split at h<;>omega
include hU hF in
theorem j9{f:Nat}{r:pq}(O:Qt ws f r)(x:Nat)(t:Int):Fa ws (dR r) x t=0\/Fa ws (dR r) x t=1:=by
 rcases xB (ws:=ws) (dR r) (x:=x) (t:=t)with h|⟨y,y1,a,b,_,e⟩
 ·exact .inl (h _ fun _ h=>h)
 ·rw[e (dR r) fun _ h=>h];rcases tZ hU hF O y1 a b with h|h
  ·exact .inr h.2
  ·exact .inl h.2
theorem oD{d:ri}(h:∀{x:Nat} {t:Int},x<ws.length->sp (wn ws x) t=MB->Fa ws d x t=Bw ws d x+d x){x:Nat}{t:Int}(x1:x<ws.length)(a:sp (wn ws x) t=MB):Pf ws d (2*x)=Fa ws d x t:=by rw[fg,h x1 a]
variable{f f':Nat}{r r':pq}(O:Qt ws f r)(O':Qt ws f' r')(dj:∀g∈r,g∉r')(b:Pf ws (dR r') f=1)
include hU hF O O' dj b
theorem rq:Pf ws (dR r) f'=0:=by
 obtain⟨t,k,L,_⟩:=fD hU hF O'.hf O'.R;have c:=aM hU hF O.hf O.R
 have m:2*k∈r':=by
  rcases jP hU hF O'.hf O'.R L with⟨_,z⟩|⟨_,m,_⟩
  ·rw[O'.a]at z;cases z
  ·exact m
 have d:sp (wn ws k) t=MB:=aU.mpr ⟨by have:=L.e;omega,by have:=L.e;have:=(aK hU L.k1).lt;omega⟩;rw[<-bH hU hF O'.hf O'.R c m,oD (fun a b=>kn hU hF c a b) L.k1 d];rcases j9 hU hF O k t with h|h
 ·exact h
 ·exfalso;refine oe hU hF O.hf O.R O'.hf O'.R dj O.a O'.a b ?_;rw[<-bH hU hF O'.hf O'.R c m,oD (fun a b=>kn hU hF c a b) L.k1 d,h]
theorem AQ(x:Nat)(t:Int):Fa ws (dR r) x t<=Fa ws (dR r') x t:=by
 have l:=aM hU hF O.hf O.R;have c:=aM hU hF O'.hf O'.R;have o:=rq hU hF O O' dj b;have u:=j9 hU hF O x t;have v:=j9 hU hF O' x t;have d:∀k,(if dR r k=0/\dR r' k=0 then(0:Int)else 1)=0->dR r k=0/\dR r' k=0:=fun k h=>by refine JO fun n=>?_;rw[MD n]at h;cases h
 rcases xB (ws:=ws) (fun k=>if dR r k=0/\dR r' k=0 then 0 else 1) (x:=x) (t:=t)with h|⟨y,y1,i,p,_,e⟩
 ·rw[h _ fun k h=>(d k h).1,h _ fun k h=>(d k h).2];exact KH _
 ·rw[e _ fun k h=>(d k h).1,e _ fun k h=>(d k h).2];by_cases j:dR r y=0
  ·have s:dR r' y≠0:=fun z=>p (ME ⟨j,z⟩);rcases tZ hU hF O' y1 i s with⟨_,h⟩|⟨m,h⟩
   ·have:=j9 hU hF O y t;omega
   ·have q:Pf ws (dR r) (2*y+1)=0:=by rw[bH hU hF O'.hf O'.R l m];exact o
    rw[l5]at q;rw[kn hU hF l y1 i,q,j,h];omega
  ·rcases tZ hU hF O y1 i j with⟨m,h⟩|⟨_,h⟩
   ·have q:Pf ws (dR r') (2*y)=1:=by rw[bH hU hF O.hf O.R c m];exact b
    rw[oD (fun a b=>kn hU hF c a b) y1 i]at q;omega
   ·have:=j9 hU hF O' y t;omega
end
section
variable{ws:rr}(hU:∀w∈ws,Mn w)(hF:PF ws)
def lw(ws:rr)(t:Int):pq:=(J8 ws.length).filter fun k=>sp (wn ws k) t
theorem uf{t:Int}{k:Nat}:k∈lw ws t↔k<ws.length/\sp (wn ws k) t=MB:=by unfold lw;rw[Jb,Jv]
theorem tJ(g:Nat->Rat)(t:Int):((lw ws t).map g).sum=sq ws.length fun k=>if sp (wn ws k) t=MB then g k else 0:=by unfold lw;rw[ik]
theorem GX(r:pq)(t:Int):((lt' ws r t).map fun k=>(dR r k:Rat)*xi (wn ws k) t).sum=((lw ws t).map fun k=>(dR r k:Rat)*xi (wn ws k) t).sum:=by
 rw[tJ];unfold lt';rw[ik];refine c9 fun k _=>?_;by_cases s:sp (wn ws k) t=MB
 ·rw[s,Ko,ME rfl];by_cases z:dR r k=0
  ·rw[MF (fun q=>q z),MD ⋯,z];exact(Rat.zero_mul _).symm
  ·rw[MG z,ME rfl]
 ·have a:sp (wn ws k) t=MC:=‹s›
  rw[a,JU]
theorem vD(g h:Nat->Rat):∀l:pq,(l.map fun k=>g k-h k).sum=(l.map g).sum-(l.map h).sum
 |[]=>by simp only[Kh,List.sum_nil];grind
 |k::l=>by simp only[J0,JH];rw[vD g h l];grind
variable{f f':Nat}{r r':pq}(O:Qt ws f r)(O':Qt ws f' r')(dj:∀g∈r,g∉r')(b:Pf ws (dR r') f=1)
include hU hF O O' dj b
theorem n6(t:Int):((lw ws t).map fun k=>(dR r k:Rat)*xi (wn ws k) t).sum<=((lw ws t).map fun k=>(dR r' k:Rat)*xi (wn ws k) t).sum/\∀x∈lw ws t,Fa ws (dR r) x t<Fa ws (dR r') x t->((lw ws t).map fun k=>(dR r k:Rat)*xi (wn ws k) t).sum<((lw ws t).map fun k=>(dR r' k:Rat)*xi (wn ws k) t).sum:=by
 obtain⟨c,l⟩:=jr (fun k=>xi (wn ws k) t) (lw ws t)
 have a:∀x,((lw ws t).map fun y=>if xi (wn ws x) t<=xi (wn ws y) t then((dR r' y:Rat)-(dR r y:Rat))else 0).sum=((Fa ws (dR r') x t-Fa ws (dR r) x t:Int):Rat):=fun x=>by
  unfold Fa;rw[<-dO,gZ,tJ];refine c9 fun k _=>?_;by_cases s:sp (wn ws k) t=MB
  ·by_cases q:xi (wn ws x) t<=xi (wn ws k) t
   ·rw[ME s,ME q,ME ⟨s,q⟩,ME ⟨s,q⟩,Km]
   ·rw[ME s,MD q,MD (fun z=>q z.2),MD (fun z=>q z.2)];rfl
  ·rw[MD s,MD (fun z=>s z.1),MD (fun z=>s z.1)];rfl
 have all:((lw ws t).map fun y=>(dR r' y:Rat)-(dR r y:Rat)).sum=0:=by
  have d:=pL hU (aM hU hF O.hf O.R) t
  have i:=pL hU (aM hU hF O'.hf O'.R) t
  unfold OP at d i
  have h:((sg ws.length (fun k=>if sp (wn ws k) t=MB then dR r' k else 0)-sg ws.length (fun k=>if sp (wn ws k) t=MB then dR r k else 0):Int):Rat)=0:=by simp only[Ll]at d i;rw[d,i];rfl
  rw[<-h,<-dO,gZ,tJ]
  refine c9 fun k _=>?_
  by_cases s:sp (wn ws k) t=MB
  ·rw[ME s,ME s,ME s,Km]
  ·rw[MD s,MD s,MD s];rfl
 have A:∀x∈lw ws t,0<=((lw ws t).map fun y=>if xi (wn ws x) t<=xi (wn ws y) t then((dR r' y:Rat)-(dR r y:Rat))else 0).sum:=fun x _=>by
  rw[a x]
  have:=AQ hU hF O O' dj b x t
  have p:0<=Fa ws (dR r') x t-Fa ws (dR r) x t:=()
  exact_mod_cast p
 have nd:(lw ws t).Nodup:=by unfold lw;exact KI _ List.nodup_range
 have inj:∀x∈lw ws t,∀y∈lw ws t,xi (wn ws x) t=xi (wn ws y) t->x=y:=fun x j y m e=>JO fun ne=>by obtain⟨x1,n⟩:=uf.mp j;obtain⟨y1,o⟩:=uf.mp m;exact uF (aK hU x1) (aK hU y1) (aY hF x1 y1 ne) n o e
 have key:=Br (fun k=>(dR r' k:Rat)-(dR r k:Rat)) (fun k=>xi (wn ws k) t) _ (lw ws t) rfl nd inj A c l;have e:=fJ (fun k=>(dR r' k:Rat)-(dR r k:Rat)) (fun k=>xi (wn ws k) t) c 0 (lw ws t);rw[all,Rat.zero_mul,Rat.add_zero]at e
 have u:((lw ws t).map fun k=>((dR r' k:Rat)-(dR r k:Rat))*(xi (wn ws k) t-c)).sum=((lw ws t).map fun k=>(dR r' k:Rat)*xi (wn ws k) t).sum-((lw ws t).map fun k=>(dR r k:Rat)*xi (wn ws k) t).sum:=by
  rw[e,<-vD]
  congr 1
  exact KU fun k _=>by grind
 rw[u]at key;refine⟨by have:=key.1;grind,fun x j h=>?_⟩
 have:=key.2 x j (by
  rw[a x]
  have p:0<Fa ws (dR r') x t-Fa ws (dR r) x t:=()
  exact_mod_cast p)
 grind
theorem vT:(r.map (NL ws)).sum<(r'.map (NL ws)).sum:=by
 have e:=iY hU hF O.hf O.R;have i:=iY hU hF O'.hf O'.R;obtain⟨t,k,L,_⟩:=fD hU hF O'.hf O'.R;have l:=aM hU hF O.hf O.R;have c:=aM hU hF O'.hf O'.R
 have m:2*k∈r':=by
  rcases jP hU hF O'.hf O'.R L with⟨_,z⟩|⟨_,m,_⟩
  ·rw[O'.a]at z;cases z
  ·exact m
 have W:=aK hU L.k1
 have t0:0<=t/\t<3000:=by
  have:=W.a;have:=W.b;have e:=L.e
  unfold l1 la at e
  omega
 have d:sp (wn ws k) t=MB:=aU.mpr ⟨by have:=L.e;omega,by have:=L.e;have:=W.lt;omega⟩;have q:Fa ws (dR r) k t=0:=by rw[<-oD (fun a b=>kn hU hF l a b) L.k1 d,bH hU hF O'.hf O'.R l m];exact rq hU hF O O' dj b
 have u:Fa ws (dR r') k t=1:=by rw[<-oD (fun a b=>kn hU hF c a b) L.k1 d,bH hU hF O'.hf O'.R c m];exact O'.a
 have p:(0:Rat)<sq 3000 fun t=>((lw ws (t:Int)).map fun k=>(dR r' k:Rat)*xi (wn ws k) (t:Int)).sum-((lw ws (t:Int)).map fun k=>(dR r k:Rat)*xi (wn ws k) (t:Int)).sum:=by
  refine sq_pos (j:=t.toNat) ?_ () fun n _=>by have:=(n6 hU hF O O' dj b (n:Int)).1;grind
  rw[show((t.toNat:Nat):Int)=t by omega]
  have:=(n6 hU hF O O' dj b t).2 k (uf.mpr ⟨L.k1,d⟩) ()
  grind
 have s:∀(g h:Nat->Rat) n,sq n (fun k=>g k-h k)=sq n g-sq n h:=fun g h n=>by
  induction n with
  |zero=>rw[sq,sq,sq];grind
  |succ n o=>rw[sq,sq,sq,o];grind
 rw[s]at p;simp only[GX]at e i;rw[<-e,<-i]at p;have p:(((r.map (NL ws)).sum:Int):Rat)<(((r'.map (NL ws)).sum:Int):Rat):=by grind
 exact_mod_cast p
end
section
variable{ws:rr}(hU:∀w∈ws,Mn w)(hF:PF ws){L:pw}(il:dW ws L){rs:pe}(G:OO ws (2*ws.length) rs)
include hU hF il G
theorem tQ{m p q v:Int}(s:0<m)(H:-(80*m)<=q/\q<90*m)(h:LS ws L m p q v) :
 (∀S∈rs.filter (aI ws),∃f,Qt ws f S/\(Vs ws (dR S) m p q=0\/Vs ws (dR S) m p q=1))/\
 ((v=0/\∀S∈rs.filter (aI ws),Vs ws (dR S) m p q=0)\/∃(i:Nat) (S:pq),(rs.filter (aI ws))[i]?=LZ S/\v=((i+1:Nat):Int)/\Vs ws (dR S) m p q=1/\
   ∀(j:Nat) (T:pq),(rs.filter (aI ws))[j]?=LZ T->j≠i->Vs ws (dR T) m p q=1->(S.map (NL ws)).sum<(T.map (NL ws)).sum):=by
 obtain⟨l,M,N,P⟩:=nZ hU hF il
 have e:=yW M G
 subst e
 have ring:∀S∈l.filter (aI ws),∃f,Qt ws f S:=fun S g=>by
  obtain⟨a,o⟩:=Jb.mp g
  obtain⟨f,I,R⟩:=dM G S a
  obtain⟨k,_,_,q⟩:=iP hU hF I R
  rcases q with⟨_,z⟩|⟨z,_⟩
  ·exact⟨f,I,R,z⟩
  ·rw[o]at z;cases z
 by_cases n:∀k,k<ws.length->¬BL ws m p q k
 ·have z:∀S,Vs ws (dR S) m p q=0:=fun S=>cy fun k A=>MD (n k A)
  exact⟨fun S g=>(ring S g).imp fun f O=>⟨O,.inl (z S)⟩,.inl ⟨h.z n,fun S _=>z S⟩⟩
 ·obtain⟨k,z⟩:=Classical.not_forall.mp n
  obtain⟨A,z⟩:=Classical.not_imp.mp z
  obtain⟨u,t,B,top⟩:=uC hU hF s A (Classical.not_not.mp z)
  have Q:=(oW hU s H u t).mp B.1
  have V:∀S f,Qt ws f S->Vs ws (dR S) m p q=Pf ws (dR S) (2*u):=fun S f O=>ue hU hF (aM hU hF O.hf O.R) s (oW hU s H) (tY hU h.off) t B top
  have U:∀S f,Qt ws f S->Vs ws (dR S) m p q=0\/Vs ws (dR S) m p q=1:=fun S f O=>by
   rw[V S f O,oD (fun a b=>kn hU hF (aM hU hF O.hf O.R) a b) t Q]
   exact j9 hU hF O u _
  refine⟨fun S g=>(ring S g).imp fun f O=>⟨O,U S f O⟩,?_⟩
  obtain⟨r,W,X⟩:=g9 G (2*u) ()
  have J:=h.tp u t B top
  rcases iK hU hF G N P ((la (fc ws r).1 (fc ws r).2).toNat+1) r W () (2*u) X with⟨a,c⟩|⟨i,S,Y,a,c,d,e⟩
  ·rw[J]at a
   refine .inl ⟨Option.some.inj a,fun S g=>?_⟩
   obtain⟨f,O⟩:=ring S g
   rw[V S f O];exact c S g
  ·rw[J]at d
   have C:=IW a
   obtain⟨f,O⟩:=ring S C
   have own:Pf ws (dR S) Y=1:=by rw[bH hU hF O.hf O.R (aM hU hF O.hf O.R) c,O.a]
   refine .inr ⟨i,S,a,Option.some.inj d,by rw[V S f O,e S C];exact own,fun j T K ne Z=>?_⟩
   have D:=IW K
   obtain⟨f',y⟩:=ring T D
   have E:S≠T:=fun z=>by
    subst z
    have nd:(l.filter (aI ws)).Nodup:=KI _ (fF G)
    obtain⟨p1,e1⟩:=J1.mp a
    obtain⟨p2,e2⟩:=J1.mp K
    exact ne ((List.getElem_inj nd).mp (e2.trans e1.symm))
   refine vT hU hF O y (fun x hx F=>E (fN hU hF (IY _) G S (Jb.mp C).1 T (Jb.mp D).1 x hx F)) ?_
   rw[<-bH hU hF O.hf O.R (aM hU hF y.hf y.R) c,<-e T D,<-V T f' y]
   exact Z
end
section
variable{prog:Jk}{w:JJ}{A:JP}{E:o_}{s:IS}
theorem Gf{l:n7}{b:Array IQ}{bt:Nat->Nat->Bool}{Q:o_}(hh:A.handled=MA)(O:s.heap.IsList l b)(W:0<b.size)
 (P:∀(i j:Nat) (v u:IQ),b[i]?=LZ v->b[j]?=LZ u->∀(t:IS) (X:o_) (E':o_),(∀x o,s.heap.get? x=LZ o->t.heap.get? x=LZ o)->X (.bool (bt i j)) t->J4 (Jf prog w) A.in1 (richCompare .Lt v u) X E' t)
 (h:∀v h' tk,b[argBest bt (b.size-1)]?=LZ v->(∀x o,s.heap.get? x=LZ o->h'.get? x=LZ o)->Q v { s with heap:=h',toks:=tk }) :
 J4 (Jf prog w) A (call (.builtin "min") [.ref l]) Q E s:=by
 have L:(toString "min"++toString ".loop":String)="min.loop":=⋯
 refine call_function_tree F.kind_min F.plain_min F.entry_min (F.args_min1 _) ?_
 show J4 _ A.in1 (Builtin.Builtins.bindParams "min" ["key","default"] 0 ⟨[],[]⟩ >>= fun _=>_) _ _ s
 refine cc (wpAny_of_eq (a:=[MA,MA]) rfl ?_)
 refine cc (IU ?_)
 have R:l<s.heap.objs.size:=by
  obtain⟨o,q,_⟩:=O
  exact J6 q
 refine cc (LH (s:=s) O ?_)
 refine cc (Jy ?_)
 dsimp only
 generalize T:s.heap.objs.size=I
 generalize e2:s.heap.push _=p
 have k2:∀x o,s.heap.get? x=LZ o->p.get? x=LZ o:=fun x o q=>by rw[<-e2];exact IZ _ q
 have hI:p.IsListIter I l 0:=by rw[<-e2,<-T];exact⟨_,J3 _ rfl,rfl,rfl⟩
 have z2:p.objs.size=I+1:=by rw[<-e2,Ki,T]
 generalize eS:p.objs.size=S
 generalize e3:p.push _=z
 have Y:∀x o,p.get? x=LZ o->z.get? x=LZ o:=fun x o q=>by rw[<-e3];exact IZ _ q
 have Z:z.get? S=LZ { cls:=.type "list",dict:=MA,data:=.seq #[] 0,slots:=#[] }:=by rw[<-e3,<-eS];exact J3 _ rfl
 have B:S≠I:=()
 have f:∀x o,s.heap.get? x=LZ o->x≠I/\x≠S:=fun x o q=>⟨JB (Jm (J6 q) ()),JB (Jm (J6 q) ())⟩
 have C:l<I:=T▸R
 have TI:l≠I:=JB C
 have TS:l≠S:=JB (Nat.lt_trans C (():I<S))
 have g:∀x o,s.heap.get? x=LZ o->z.get? x=LZ o:=fun x o q=>Y _ _ (k2 _ _ q)
 have lst:∀{h':oa},(∀x o,s.heap.get? x=LZ o->h'.get? x=LZ o)->h'.IsList l b:=fun{h'} k=>by
  obtain⟨o,q,r⟩:=O
  exact⟨o,k _ _ q,r⟩
 rw[L]
 refine IU ⟨LM L5 _,?_⟩
 have D:∀(k j:Nat) (h':oa) (tk:Nat) (m:IQ) (c:Nat),b.size-(j+1)=k->j+1<=b.size->h'.IsListIter I l (j+1)->b[argBest bt j]?=LZ m->h'.get? S=LZ { cls:=.type "list",dict:=MA,data:=.seq #[m,m] c,slots:=#[] }->
  (∀x o,s.heap.get? x=LZ o->h'.get? x=LZ o)->Lb (Jf prog w) A (.builtin "min.loop" ⟨[.ref I,.none,.ref S],[]⟩) (fun r s'=>match r with|.ok (.ret v)=>Q v s'|.ok _=>False|.error e=>E e s') { s with heap:=h',toks:=tk }:=by
  intro k
  induction k with
  |zero=>
   intro j h' tk m c ek hj U M G H
   have ej:j=b.size-1:=()
   refine LB F.entry_min_loop ?_
   rw[L8 L5 _]
   show J4 _ A.in1 (seqItems? (.ref S) >>= fun _=>_) _ _ _
   refine cc (KP (s:={ s with heap:=h',toks:=tk }) G rfl ?_)
   show J4 _ A.in1 (tryCatch (pyNext (.ref I)) _ >>= fun _=>_) _ _ _
   refine cc (Lr (wpAny_pyNext_list_end (A:=A.in1) (s:={ s with heap:=h',toks:=tk }) hh U (lst H) (by simp;omega) fun N J=>?_))
   have V:N.get? S=LZ _:=J _ _ B G
   show J4 _ A.in1 (updateSeq S (fun _=>#[]) >>= fun _=>_) _ _ _
   refine cc (wpAny_updateSeq (s:={ s with heap:=N,toks:=tk }) V rfl (cc (wpAny_letGo (IU ?_))))
   show Q m _
   exact h _ _ _ (by rw[<-ej];exact M) fun x o q=>(JK _ _ (f x o q).2.symm).trans (J x o (f x o q).1 (H x o q))
  |succ k ih=>
   intro j h' tk m c ek hj U M G H
   have y:b[j+1]?=LZ b[j+1]:=Array.getElem?_eq_getElem ()
   refine LB F.entry_min_loop ?_
   rw[L8 L5 _]
   show J4 _ A.in1 (seqItems? (.ref S) >>= fun _=>_) _ _ _
   refine cc (KP (s:={ s with heap:=h',toks:=tk }) G rfl ?_)
   show J4 _ A.in1 (tryCatch (pyNext (.ref I)) _ >>= fun _=>_) _ _ _
   refine cc (Lr (wpAny_pyNext_list_item (s:={ s with heap:=h',toks:=tk }) U (lst H) (x:=b[j+1]) y fun h6 i6 q6=>?_))
   have n:h6.get? S=LZ _:=(q6.2 _ B).trans G
   have d:∀x o,s.heap.get? x=LZ o->h6.get? x=LZ o:=fun x o q=>(q6.2 _ (f x o q).1).trans (H x o q)
   show J4 _ A.in1 (tryCatch (holding [b[j+1],b[j+1]] (richCompare .Lt b[j+1] m >>= fun _=>_)) _ >>= fun _=>_) _ _ _
   refine cc (Lr (K8 (cc (P (j+1) (argBest bt j) _ _ y M _ _ _ d ?_))))
   refine cc (K8 (Kd ?_))
   refine cc (wpAny_letGo (IU ?_))
   cases c':bt (j+1) (argBest bt j)with
   |true=>
    refine cc (wpAny_updateSeq n rfl (cc (wpAny_letGo ?_)))
    rw[L]
    exact IU ⟨LM L5 _,ih (j+1) _ _ b[j+1] _ () () (i6.at fun o q=>(JK _ _ B).trans q) (by rw[argBest,ME c'];exact y) (Kl _ n rfl) fun x o q=>(JK _ _ (f x o q).2.symm).trans (d x o q)⟩
   |false=>
    refine cc (wpAny_letGo ?_)
    rw[L]
    exact IU ⟨LM L5 _,ih (j+1) _ _ m _ () () i6 (by rw[argBest,MD (by rw[c'];decide)];exact M) n d⟩
 have y:b[0]?=LZ b[0]:=Array.getElem?_eq_getElem W
 refine LB F.entry_min_loop ?_
 rw[L8 L5 _]
 show J4 _ A.in1 (seqItems? (.ref S) >>= fun _=>_) _ _ _
 refine cc (KP (s:={ s with heap:=z }) Z rfl ?_)
 show J4 _ A.in1 (tryCatch (pyNext (.ref I)) _ >>= fun _=>_) _ _ _
 refine cc (Lr (wpAny_pyNext_list_item (s:={ s with heap:=z }) (hI.at fun o q=>Y _ _ q) (lst g) (x:=b[0]) y fun N i4 J=>?_))
 have K:N.get? S=LZ _:=(J.2 _ B).trans Z
 show J4 _ A.in1 (updateSeq S (fun _=>#[b[0],b[0]]) >>= fun _=>_) _ _ _
 refine cc (wpAny_updateSeq K rfl ?_)
 rw[L]
 exact IU ⟨LM L5 _,D (b.size-1) 0 _ _ b[0] _ () W (i4.at fun o q=>(JK _ _ B).trans q) (by rw[argBest];exact y) (Kl _ K rfl) fun x o q=>(JK _ _ (f x o q).2.symm).trans ((J.2 _ (f x o q).1).trans (g x o q))⟩
end
section
variable{X:Cx}
theorem qt:∀{b:List (n7×Int×Int)} {a:p4},Vals (b.map fun t=>V.ref t.1) a->a=b.map fun t=>Kc t.1
 |[],a,h=>by cases h;rfl
 |t::b,a,h=>by
  rw[J0]at h
  cases h with
  |cons r q=>cases r;rw[qt q];rfl
def Qd(b c:Int×Int):Prop:=b.1<c.1\/(b.1=c.1/\b.2<=c.2)
theorem yg{b c:Int×Int}:Mk [b.1,b.2] [c.1,c.2]=MC↔Qd c b:=by
 unfold Qd;simp only[Mk];by_cases h:b.1=c.1
 ·rw[ME h];by_cases k:b.2=c.2
  ·rw[ME k];constructor
   ·intro _;omega
   ·intro _;rfl
  ·rw[MD k,decide_eq_false_iff_not];omega
 ·rw[MD h,decide_eq_false_iff_not];omega
theorem rm(f:Nat->Int×Int):∀k,(argBest (fun i j=>Mk [(f i).1,(f i).2] [(f j).1,(f j).2]) k<=k)/\∀i,i<=k->Qd (f (argBest (fun i j=>Mk [(f i).1,(f i).2] [(f j).1,(f j).2]) k)) (f i)
 |0=>⟨IY _,fun i c=>by rw[show i=0 by omega];exact .inr ⟨rfl,KH _⟩⟩
 |k+1=>by
  obtain⟨a,b⟩:=rm f k
  rw[argBest]
  cases e:Mk [(f (k+1)).1,(f (k+1)).2] [(f (argBest (fun i j=>Mk [(f i).1,(f i).2] [(f j).1,(f j).2]) k)).1,(f (argBest (fun i j=>Mk [(f i).1,(f i).2] [(f j).1,(f j).2]) k)).2]with
  |true=>
   rw[ME rfl]
   refine⟨IY _,fun i c=>?_⟩
   by_cases z:i=k+1
   ·rw[z];exact .inr ⟨rfl,KH _⟩
   ·have q:=b i ()
    have n:¬Qd (f (argBest (fun i j=>Mk [(f i).1,(f i).2] [(f j).1,(f j).2]) k)) (f (k+1)):=fun y=>by rw[yg.mpr y]at e;cases e
    unfold Qd at *
    omega
  |false=>
   rw[MD ⋯]
   refine⟨(),fun i c=>?_⟩
   by_cases z:i=k+1
   ·rw[z];exact yg.mp e
   ·exact b i ()
theorem vV(x:X.calm=MB)(W:X.A.units+64<K0):cg X (.builtin "min") (fun xs H Q=>∃(l:n7) (d:List (n7×Int×Int)),xs=[.ref l]/\d≠[]/\ND X.K H l (d.map fun t=>.ref t.1)/\(∀t∈d,NB X.K H t.1 ([t.2.1,t.2.2].map V.int))/\∀b∈d,(∀c∈d,Qd b.2 c.2)->Q (.ref b.1) H):=by
 intro MN s σ H xs us Q I r y;obtain⟨l,d,e,z,B,q,k⟩:=y;subst e;obtain⟨u,rfl,C⟩:=vals1 r;cases C;obtain⟨D,E,p0,_⟩:=I.list B;have F:=qt E;subst F;have G:0<d.length:=List.length_pos_iff.mpr z;have get:∀i,i<d.length->∃t,d[i]?=LZ t/\t∈d/\((d[i]?).map (·.2)).getD (0,0)=t.2:=fun i f=>⟨d[i],IT f,JQ f,by rw[IT f];rfl⟩
 have item:∀{i:Nat} {v:IQ},(d.map fun t=>Kc t.1).toArray[i]?=LZ v->∃t,d[i]?=LZ t/\t∈d/\v=.ref t.1/\((d[i]?).map (·.2)).getD (0,0)=t.2:=fun{i v} h=>by
  rw[List.getElem?_toArray,IX]at h;cases e:d[i]? with
  |none=>rw[e]at h;cases h
  |some t=>rw[e]at h;exact⟨t,rfl,IW e,(Option.some.inj h).symm,rfl⟩
 obtain⟨b1,J⟩:=rm (fun i=>((d[i]?).map (·.2)).getD (0,0)) (d.length-1);refine Gf (bt:=fun i j=>Mk [(((d[i]?).map (·.2)).getD (0,0)).1,(((d[i]?).map (·.2)).getD (0,0)).2] [(((d[j]?).map (·.2)).getD (0,0)).1,(((d[j]?).map (·.2)).getD (0,0)).2]) (I.ok.hd x) p0.isList ‹G› (fun i j v u g n t Y Z m w=>?_) fun v h' tk g m=>?_
 ·obtain⟨a,_,o,rfl,ea⟩:=item g;obtain⟨c,_,p,rfl,L⟩:=item n;obtain⟨i1,M,⟨N,O,P⟩,_⟩:=I.tuple (q a o);obtain⟨i2,R,⟨S,T,U⟩,_⟩:=I.tuple (q c p);rw[ea,L]at w;exact HT.iZ (A:=X.A.in1) (s:=t) ⟨N,m _ _ O,P⟩ ⟨S,m _ _ T,U⟩ (intsAre_of M) (intsAre_of R) (by show X.A.units+1<K0;omega) w
 ·rw[Jd,IV]at g;obtain⟨a,ai,o,rfl,ea⟩:=item g;refine⟨.ref a.1,H,I.kept m,rfl,k a o fun c p=>?_⟩;obtain⟨i,f,e⟩:=List.mem_iff_getElem.mp p;have:=J i ();rw[ea,IT f,e]at this;exact this
def Ro(p:Int×Int):D:=.tup [.int p.1,.int p.2]
theorem uL{K:I0}{H:Hp}:∀{ps:List (Int×Int)} {xs:ro},aG K H (ps.map Ro) xs->∃b:List (n7×Int×Int),xs=(b.map fun t=>V.ref t.1)/\b.map (·.2)=ps/\∀t∈b,NB K H t.1 ([t.2.1,t.2.2].map V.int)/\aG K H ([t.2.1,t.2.2].map D.int) ([t.2.1,t.2.2].map V.int)
 |[],xs,h=>by
  rw[Kh,aG]at h
  exact⟨[],h,rfl,fun t c=>by cases c⟩
 |p::ps,xs,h=>by
  rw[J0,aG]at h
  obtain⟨v,vs,rfl,d,g⟩:=h
  obtain⟨b,rfl,e,k⟩:=uL g
  unfold Ro at d
  rw[Rep]at d
  obtain⟨a,l,rfl,i,f⟩:=d
  have j:=dZ (ns:=[p.1,p.2]) f
  subst j
  exact⟨(a,p.1,p.2)::b,rfl,by rw[J0,e],fun t c=>by
   rcases Jx.mp c with rfl|c
   ·exact⟨i,f⟩
   ·exact k t c⟩
def Cv:RC:=fun a M Q=>match a with
 |[.ref l]=>∃ps,M l=LZ (.lst (ps.map Ro))/\ps≠[]/\∀b∈ps,(∀c∈ps,Qd b c)->Q (Ro b) M
 |a=>B3 a M Q
theorem lF(d:X.calm=MB)(j:X.A.units+64<K0):dP X (.builtin "min") Cv:=cf (cg.or (BN d j) (vV d j)) fun vs H Q m=>by
 obtain⟨y,M,R,l,a,q,f⟩:=m;unfold Cv at q;split at q
 ·obtain⟨ps,e,n,q⟩:=q;obtain⟨v,rfl,r⟩:=cv l;rw[Rep]at r;subst r;obtain⟨xs,o,p⟩:=a _ _ e;obtain⟨s,rfl,g,k⟩:=uL p;refine .inr ⟨_,s,rfl,fun z=>n (by rw[<-g,z];rfl),ND.of o,fun t u=>(k t u).1,fun b h w=>f _ _ _ _ .refl ?_ a (q b.2 (by rw[<-g];exact List.mem_map_of_mem h) fun c d=>?_)⟩
  ·unfold Ro;rw[Rep];exact⟨_,_,rfl,(k b h).1,(k b h).2⟩
  ·rw[<-g]at d;obtain⟨x,i,rfl⟩:=JC.mp d;exact w x i
 ·exact .inl ⟨_,M,R,l,a,q,f⟩
end
theorem vJ{z:Int}:0<Ji z↔0<z:=by
 rcases J5 z 0 with h|h|h
 ·rw[Jt h];omega
 ·subst h;simp
 ·rw[JF h];omega
theorem Cm{w:Wl}{m p q:Int}(h:m*w.2.1<=q)(k:¬m*w.2.2.2<=q):Nr w m p q=if 0<sL w m p q then 1 else 0:=by
 unfold Nr Oz;rw[ME (c:=m*w.2.1<=q/\¬m*w.2.2.2<=q) ⟨h,k⟩];by_cases z:0<sL w m p q
 ·rw[ME z];rfl
 ·rw[MD z];rfl
theorem Ca{w:Wl}{m p q:Int}(h:m*w.2.2.2<=q)(k:¬m*w.2.1<=q):Nr w m p q=if sL w m p q<0 then 1 else 0:=by
 unfold Nr Oz;rw[MD (c:=m*w.2.1<=q/\¬m*w.2.2.2<=q) (fun z=>k z.1),ME (c:=m*w.2.2.2<=q/\¬m*w.2.1<=q) ⟨h,k⟩];by_cases z:sL w m p q<0
 ·rw[ME z,ME z];rfl
 ·rw[MD z,MD z];rfl
theorem B8{w:Wl}{m p q:Int}(h:m*w.2.1<=q↔m*w.2.2.2<=q):Nr w m p q=0:=by unfold Nr Oz;rw[MD (c:=m*w.2.1<=q/\¬m*w.2.2.2<=q) (fun z=>z.2 (h.mp z.1)),MD (c:=m*w.2.2.2<=q/\¬m*w.2.1<=q) (fun z=>z.2 (h.mpr z.1))];rfl
theorem Bj{w:Wl}{m p q:Int}(n:0<m){a b c d:Int}(o:(a,b,c,d)=Mw m w\/(a,b,c,d)=rev (Mw m w)) :
 (decide (q<b)=decide (q<d)->Nr w m p q=0)/\(decide (q<b)≠decide (q<d)->(d<b->Nr w m p q=if 0<Ji (NJ (a-c) (b-d) (p-c) (q-d))then 1 else 0)/\(¬d<b->Nr w m p q=if 0<Ji (NJ (c-a) (d-b) (p-a) (q-b))then 1 else 0)):=by
 obtain⟨e1,e2,_⟩:=Cd (z:=sL w m p q) n
 have E:(0<Ji (NJ (m*w.2.2.1-m*w.1) (m*w.2.2.2-m*w.2.1) (p-m*w.1) (q-m*w.2.1)))=(0<sL w m p q):=by
  rw[vJ,<-e1];congr 1;unfold NJ sL;grind
 have l:(0<Ji (NJ (m*w.1-m*w.2.2.1) (m*w.2.1-m*w.2.2.2) (p-m*w.2.2.1) (q-m*w.2.2.2)))=(sL w m p q<0):=by
  have:NJ (m*w.1-m*w.2.2.1) (m*w.2.1-m*w.2.2.2) (p-m*w.2.2.1) (q-m*w.2.2.2)=-(m*sL w m p q):=by unfold NJ sL;grind
  rw[vJ,this,<-e2]
  exact propext ⟨fun h=>(),fun h=>()⟩
 rcases o with h|h
 ·have e:a=m*w.1:=congrArg (·.1) h
  have f:b=m*w.2.1:=congrArg (·.2.1) h
  have i:c=m*w.2.2.1:=congrArg (·.2.2.1) h
  have j:d=m*w.2.2.2:=congrArg (·.2.2.2) h
  clear h
  subst e f i j
  simp only[E,l]
  refine⟨fun k=>?_,fun k=>?_⟩
  ·rw[MJ]at k
   exact B8 ()
  ·have k:¬(q<m*w.2.1↔q<m*w.2.2.2):=fun z=>k (decide_eq_decide.mpr z)
   exact⟨fun g=>Ca () (),fun g=>Cm () ()⟩
 ·have e:a=m*w.2.2.1:=congrArg (·.1) h
  have f:b=m*w.2.2.2:=congrArg (·.2.1) h
  have i:c=m*w.1:=congrArg (·.2.2.1) h
  have j:d=m*w.2.1:=congrArg (·.2.2.2) h
  clear h
  subst e f i j
  simp only[E,l]
  refine⟨fun k=>?_,fun k=>?_⟩
  ·rw[MJ]at k
   exact B8 ()
  ·have k:¬(q<m*w.2.2.2↔q<m*w.2.1):=fun z=>k (decide_eq_decide.mpr z)
   exact⟨fun g=>Cm () (),fun g=>Ca () ()⟩
theorem uT{c:Prop}[Decidable c]:(if c then(1:Int)else 0)=if decide c=MB then 1 else 0:=by
 by_cases h:c
 ·rw[ME h,ME (MG h)]
 ·rw[MD h,MD (fun z=>h (MI z))]
theorem GL{ws:rr}{m:Int}{g:Nat}(a:g<2*ws.length):fw (ws.map (Mw m)) g=Mw m (wn ws (g/2))\/fw (ws.map (Mw m)) g=rev (Mw m (wn ws (g/2))):=by
 have e:Mu (ws.map (Mw m)) ((g/2:Nat):Int)=Mw m (wn ws (g/2)):=BW (():g/2<ws.length);unfold fw;rw[e];by_cases h:g%2=0
 ·rw[ME h];exact .inl rfl
 ·rw[MD h];exact .inr rfl
theorem CZ{ws:rr}{m:Int}{g:Nat}(a:g<2*ws.length):fw (ws.map (Mw m)) g=Mw m (fw ws g):=by
 have e:Mu (ws.map (Mw m)) ((g/2:Nat):Int)=Mw m (wn ws (g/2)):=BW (():g/2<ws.length);unfold fw;rw[e];by_cases h:g%2=0
 ·rw[ME h,ME h];rfl
 ·rw[MD h,MD h];rfl
theorem B6{ws:rr}{m:Int}:∀{r:pq},(∀g∈r,g<2*ws.length)->(r.map (NL (ws.map (Mw m)))).sum=m*m*(r.map (NL ws)).sum
 |[],_=>by simp
 |g::r,h=>by
  rw[J0,J0,JH,JH,B6 fun x a=>h x (JA _ a),Int.mul_add]
  congr 1
  unfold NL fa fb
  rw[CZ (h g JW)]
  unfold Mw
  dsimp only
  grind
theorem Cp{ws:rr}(e:∀w∈ws,Mn w):∀{r:pq},(∀g∈r,g<2*ws.length)->(r.map (NL ws)).sum<=400*(r.length:Int)
 |[],_=>by simp
 |g::r,h=>by
  rw[J0,JH,K1]
  have i:=Cp e fun x j=>h x (JA _ j)
  have W:=aK e (show g/2<ws.length by have:=h g JW;omega)
  have pr:∀{a b c d:Int},(0<=a/\a<=20)->(0<=b/\b<=20)->(0<=c/\c<=20)->(0<=d/\d<=20)->a*b-c*d<=400:=fun{a b c d} k f l hd=>by
   have e1:=Int.mul_le_mul k.2 f.2 f.1 ⋯
   have e2:=Ku l.1 hd.1
   omega
  have t:NL ws g<=400:=by
   unfold NL fa fb fw
   by_cases h:g%2=0
   ·rw[ME h];exact pr W.a W.d W.c W.b
   ·rw[MD h];exact pr W.c W.b W.a W.d
  omega
def OC(ws:rr)(m p q:Int)(r:pq):Int:=(r.map fun g=>Nr (wn ws (g/2)) m p q).sum
theorem sD(ws:rr)(m p q:Int):∀r:pq,0<=OC ws m p q r/\OC ws m p q r<=(r.length:Int)
 |[]=>⟨KH _,KH _⟩
 |g::r=>by
  have i:=sD ws m p q r
  have c:0<=Nr (wn ws (g/2)) m p q/\Nr (wn ws (g/2)) m p q<=1:=by unfold Nr;split<;>omega
  unfold OC at *
  rw[J0,JH,K1]
  omega
def YK(ws:rr)(outs:pe)(m p q v:Int):Prop:=
 (v=0/\∀S∈outs,¬OC ws m p q S%2=1)\/∃(i:Nat) (S:pq),outs[i]?=LZ S/\v=((i+1:Nat):Int)/\OC ws m p q S%2=1/\(∀g∈S,g<2*ws.length)/\S.length<=80/\∀(j:Nat) (T:pq),outs[j]?=LZ T->j≠i->OC ws m p q T%2=1->(S.map (NL ws)).sum<(T.map (NL ws)).sum
def RY(ws:rr)(outs:pe)(m p q:Int)(i:Nat):Option (Int×Int):=if OC ws m p q ((outs[i]?).getD [])%2=1 then LZ (m*m*(((outs[i]?).getD []).map (NL ws)).sum,((i:Nat):Int)+1)else MA
def Qr(ws:rr)(outs:pe)(m p q:Int)(k:Nat):List (Int×Int):=(10^60,0)::(J8 k).filterMap (RY ws outs m p q)
theorem AR(ws:rr)(outs:pe)(m p q:Int)(k:Nat):(Qr ws outs m p q k).length<=k+1:=by unfold Qr;have:=List.length_filterMap_le (RY ws outs m p q) (J8 k);rw[List.length_range]at this;rw[K1];omega
theorem xO{b c:Int×Int}(h:Qd b c)(k:Qd c b):b.2=c.2:=by unfold Qd at *;omega
theorem Bl{ws:rr}(r:∀w∈ws,Mn w){outs:pe}{m p q v:Int}(f:0<m/\m<=4)(L:YK ws outs m p q v){b:Int×Int}(l:b∈Qr ws outs m p q outs.length)(mn:∀c∈Qr ws outs m p q outs.length,Qd b c):b.2=v:=by
 have get:∀{c:Int×Int},c∈(J8 outs.length).filterMap (RY ws outs m p q)->∃j T,outs[j]?=LZ T/\OC ws m p q T%2=1/\c=(m*m*(T.map (NL ws)).sum,((j:Nat):Int)+1):=fun{c} s=>by
  obtain⟨j,g,e⟩:=List.mem_filterMap.mp s
  have g:=Jv.mp g
  unfold RY at e
  rw[IT g]at e
  split at e
  ·rename_i o;exact⟨j,outs[j],IT g,o,(Option.some.inj e).symm⟩
  ·cases e
 rcases L with⟨rfl,z⟩|⟨i,S,k,rfl,o,lt,A,a⟩
 ·rcases Jx.mp l with h|h
  ·rw[h]
  ·obtain⟨j,T,d,o,_⟩:=get h;exact absurd o (z T (IW d))
 ·have t:(m*m*(S.map (NL ws)).sum,((i:Nat):Int)+1)∈Qr ws outs m p q outs.length:=by refine JA _ (List.mem_filterMap.mpr ⟨i,Jv.mpr (J1.mp k).1,?_⟩);unfold RY;rw[k];exact ME o
  have n:0<m*m/\m*m<=16:=⟨Jl f.1 f.1,Int.mul_le_mul f.2 f.2 () ⋯⟩;have u:((i+1:Nat):Int)=((i:Nat):Int)+1:=()
  rw[u];refine xO (mn _ t) ?_;rcases Jx.mp l with h|h
  ·rw[h];refine .inl ?_;have:=Cp r lt;have x:(S.map (NL ws)).sum<=32000:=()
   show m*m*(S.map (NL ws)).sum<10^60;by_cases z:0<=(S.map (NL ws)).sum
   ·have:=Int.mul_le_mul n.2 x z ⋯;omega
   ·have:=KA (():0<=m*m) (show(S.map (NL ws)).sum<=0 by omega);omega
  ·obtain⟨j,T,d,y,rfl⟩:=get h;by_cases e:j=i
   ·subst e;rw[k]at d;cases d;exact .inr ⟨rfl,KH _⟩
   ·exact .inl (Int.mul_lt_mul_of_pos_left (a j T d e y) n.1)
section
variable{ws:rr}(hU:∀w∈ws,Mn w)(hF:PF ws){L:pw}(il:dW ws L){rs:pe}(G:OO ws (2*ws.length) rs)
include hU hF il G in
theorem Eh{m p q v:Int}(l:0<m)(s:-(80*m)<=q/\q<90*m)(h:LS ws L m p q v)(t:∀S∈rs,S.length<=80):YK ws (rs.filter (aI ws)) m p q v:=by
 obtain⟨a,b⟩:=tQ hU hF il G l s h;have par:∀S∈rs.filter (aI ws),(OC ws m p q S%2=1↔Vs ws (dR S) m p q=1):=fun S d=>by obtain⟨f,O,v⟩:=a S d;obtain⟨e,u⟩:=AG hU hF O.hf O.R l fun k x _=>h.off k x;unfold OC;rw[u];omega
 rcases b with⟨y,z⟩|⟨i,S,n,A,B,c⟩
 ·exact .inl ⟨y,fun S d o=>by have:=(par S d).mp o;rw[z S d]at this;omega⟩
 ·have g:=IW n;obtain⟨f,O,_⟩:=a S g;exact .inr ⟨i,S,n,A,(par S g).mpr B,c8 hU hF O.hf O.R,t S (Jb.mp g).1,fun j T r ne o=>c j T r ne ((par T (IW r)).mp o)⟩
end
theorem D7{w:Wl}(h:Mn w){m:Int}(e:0<m/\m<=4):W8 (Mw m w):=by have p:∀{z:Int},(0<=z/\z<=20)->0<=m*z/\m*z<=80:=fun{z} h=>⟨Ku () h.1,Int.mul_le_mul e.2 h.2 h.1 ⋯⟩;exact⟨p h.a,p h.b,p h.c,p h.d⟩
theorem IF{w:Wl}(W:Mn w){m p q:Int}(h:Qp (Mw m w) p q=MC):¬PJ w m p q:=fun o=>by
 have a:=o.la W
 have z:sd (Mw m w) p q=0:=by
  have e:sd (Mw m w) p q=m*sL w m p q:=by unfold sd Mw sL NJ;dsimp only;grind
  have z:sL w m p q=0:=by have:=o.1;unfold sL;omega
  rw[e,z,Int.mul_zero]
 have e1:l1 (Mw m w)=m*l1 w:=by unfold l1 la Mw;dsimp only;grind
 have e2:l2 (Mw m w)=m*l2 w:=by unfold l2 la Mw;dsimp only;grind
 unfold Qp at h;rw[MG z,e1,e2,MG (show m*l1 w<=la p q from a.1),MG (show la p q<=m*l2 w from a.2)]at h;cases h
theorem vA(f:pq->Bool){M:MH}{ps:rb}{a:pe}(h:RL M ps a):∀k,k<=ps.length->∃qs:rb,((J8 k).filterMap fun i=>if f ((a[i]?).getD [])=MB then LZ (D.ref ((ps[i]?).getD 0))else MA)=qs.map D.ref/\RL M qs ((a.take k).filter f)/\∀q∈qs,q∈ps
 |0,_=>⟨[],rfl,.nil,fun q c=>by cases c⟩
 |k+1,hk=>by
  obtain⟨qs,e,r,sub⟩:=vA f h k ()
  obtain⟨S,d,g⟩:=h.get (():k<ps.length)
  rw[Kw,List.filterMap_append,e,gN f a d]
  by_cases o:f S=MB
  ·rw[ME o]
   refine⟨qs++[ps[k]],?_,r.snoc g,fun q c=>(Jn.mp c).elim (sub q) fun z=>by rw[JS.mp z];exact JQ _⟩
   rw[Jg,List.filterMap_cons_some (b:=D.ref ps[k]) (by rw[d,IT ()];exact ME o)]
   rfl
  ·rw[MD o,JX]
   refine⟨qs,?_,r,sub⟩
   rw[List.filterMap_cons_none (by rw[d];exact MD o),List.filterMap_nil,JX]
theorem wq(ws:rr)(m p q:Int):(J8 ws.length).filterMap (fun j=>if Qp (Mw m (wn ws j)) p q=MB then LZ (uw (Mw m (wn ws j)))else MA)=(((J8 ws.length).filter fun j=>Qp (Mw m (wn ws j)) p q).map fun j=>Mw m (wn ws j)).map uw:=by rw[L7];exact fK (fun j=>Qp (Mw m (wn ws j)) p q) (fun j:Nat=>uw (Mw m (wn ws j))) _
theorem AY{ws:rr}(b:∀w∈ws,Mn w){m p q:Int}(h:(((J8 ws.length).filter fun j=>Qp (Mw m (wn ws j)) p q).map fun j=>Mw m (wn ws j)).isEmpty=MB):∀k,k<ws.length->¬PJ (wn ws k) m p q:=fun k a=>by rw[List.isEmpty_iff,List.map_eq_nil_iff,List.filter_eq_nil_iff]at h;exact IF (aK b a) (eq_false_of_ne_true (h k (Jv.mpr a)))
section
open PySem.AutoSeq1 (wpAny_loadPart')
variable{prog:Jk}{w:JJ}{A:JP}{E:o_}{s:IS}
theorem uh{it t:n7}{i:Nat}{items}{x:IQ}{Q:o_}(a:s.heap.IsTupleIter it t i)(e:s.heap.IsTuple t items)(f:items[i]?=LZ x)
 (g:∀h',h'.IsTupleIter it t (i+1)->L6 it s.heap h'->Q x { s with heap:=h' }):J4 (Jf prog w) A (Builtin.SmallTypes.nextOf (.ref it)) Q E s:=by
 obtain⟨o,b,h,hd⟩:=id a
 obtain⟨j,c,_,k,d⟩:=e
 unfold Builtin.SmallTypes.nextOf
 refine cc (KG (name:=Kp "__next__") a.typeIs Lv (L4 Lv a.typeIs F.entry_tuple_iterator_next ?_ (F.args_tuple_iterator_next_1 _)))
 show J4 _ _ (field (.ref it) 0 >>= _) _ _ s
 refine cc (LD b hd (x:=.ref t) rfl ?_)
 show J4 _ _ (if(Kc t==KL)=MB then _ else _) _ _ s
 rw[MD (show ¬((Kc t==KL)=MB)from J9)]
 show J4 _ _ (field (.ref it) 1 >>= _) _ _ s
 refine cc (LD b hd (x:=.int i 0) rfl ?_)
 show J4 _ _ (seqItems? (.ref t) >>= _) _ _ s
 refine cc (KP c d ?_)
 simp only[K7,f]
 refine cc (wpAny_setField b hd (by simp) (IU ⟨x,rfl,IU (g _ ?_ (KS ..))⟩))
 exact⟨_,Kl _ b (Obj.isFreed_of_fields (Obj.data_mapFields hd _)),(Obj.cls_mapFields ..).trans h,by
  rw[Obj.data_mapFields hd];simp[rawInt]⟩
theorem vR{it t:n7}{i:Nat}{items}{Q:o_}(g:A.handled=MA)(b:s.heap.IsTupleIter it t i)(h:s.heap.IsTuple t items)(j:items[i]?=MA)
 (hE:∀h' e,Heap.ExtBut it s.heap h'->(∃o,h'.get? e=LZ o/\o.cls=.type "StopIteration")->E (.ref e) { s with heap:=h' }):J4 (Jf prog w) A (Builtin.SmallTypes.nextOf (.ref it)) Q E s:=by
 obtain⟨o,c,k,hd⟩:=id b
 obtain⟨l,d,_,n,f⟩:=h
 unfold Builtin.SmallTypes.nextOf
 refine cc (KG (name:=Kp "__next__") b.typeIs Lv (L4 Lv b.typeIs F.entry_tuple_iterator_next ?_ (F.args_tuple_iterator_next_1 _)))
 show J4 _ _ (field (.ref it) 0 >>= _) _ _ s
 refine cc (LD c hd (x:=.ref t) rfl ?_)
 show J4 _ _ (if(Kc t==KL)=MB then _ else _) _ _ s
 rw[MD (show ¬((Kc t==KL)=MB)from J9)]
 show J4 _ _ (field (.ref it) 1 >>= _) _ _ s
 refine cc (LD c hd (x:=.int i 0) rfl ?_)
 show J4 _ _ (seqItems? (.ref t) >>= _) _ _ s
 refine cc (KP d f ?_)
 simp only[K7,j]
 refine cc (wpAny_rule (cc (wpAny_setField c hd (by simp) ?_)))
 show J4 _ _ (newExc (.type "StopIteration") [] >>= _) _ _ _
 refine cc ?_
 simp only[newExc,newTuple]
 refine cc (Jy ?_ (by size_fits))
 refine cc (m:=firstArgMember _ _) (wpAny_of_eq (a:=KL) (by first|rfl|(simp only[firstArgMember];rfl)) ?_)
 refine Jy ?_ (by size_fits)
 simp only[raiseNew]
 refine cc (wpAny_handled ?_)
 first|rw[show A.in1.handled=MA from g]|rw[g]
 refine cc (IU (wpAny_throw ?_))
 exact hE _ _ (((KS ..).extBut.push _).push _) ⟨_,J3 _ rfl,rfl⟩
theorem xN(k:A.handled=MA)(it t:n7)(c:t≠it)(items:Array IQ):Draws prog w A it [it,t] items.size (fun i v=>items[i]?=LZ v) (fun i h=>h.IsTupleIter it t i/\h.IsTuple t items) where
 live:=fun _ _ st=>let⟨o,d,_⟩:=st.1;⟨o,d⟩
 frame:=fun _ _ _ st f=>by
  obtain⟨⟨o,d,r⟩,⟨g,e,l⟩⟩:=st
  exact⟨⟨o,f it (by simp) o d,r⟩,⟨g,f t (by simp) g e,l⟩⟩
 item:=fun i s Q E j st m=>by
  refine uh st.1 st.2 (x:=items[i]) (by simp[j]) fun n a b=>?_
  exact m _ n s.toks (by simp[j]) ⟨a,st.2.extBut b.extBut c⟩ b
 done:=fun s Q E st hE=>vR k st.1 st.2 (by simp) hE
theorem wM(l:n7)(items:Array IQ)(n:Nat)(b:Option n7)(i:Array (p_)) :
 Meets (LY.«enumerate.__new__» ⟨[.type "enumerate",.ref l],[]⟩) (fun _ R s=>s.heap.get? l=LZ { cls:=.type "tuple",dict:=b,data:=.seq items n,slots:=i }/\
  R (.ok (.ret (.ref (s.heap.push { cls:=.type "tuple_iterator",data:=.fields #[.ref l,.int 0 0] }).objs.size)))
    { s with heap:=(s.heap.push { cls:=.type "tuple_iterator",data:=.fields #[.ref l,.int 0 0] }).push { cls:=.type "enumerate",data:=.fields #[.none,.bool MC,.ref s.z,rawInt 0,.none,.none] } }):=
 .of_wp fun prog w A R s h=>by
  obtain⟨j,g,d,k,os⟩:=s;obtain⟨a,h⟩:=h
  have f:=sub_enumerate
  have e:Heap.IsTuple (Shared.heap ⟨j,g,d,k,os⟩) l items:=⟨_,a,rfl,n,rfl⟩
  wp_walk using Kb a
  refine wpAny_stack_any fun st=>IU ?_
  split
  ·rename_i c _ _ _ _ _
   cases (c==LV "enumerate")
   ·wp_walk using Kb a,wpAny_pyIter_tuple e
    exact⟨_,rfl,h⟩
   ·wp_walk using Kb a,wpAny_pyIter_tuple e
    exact⟨_,rfl,h⟩
  ·wp_walk using Kb a,wpAny_pyIter_tuple e
   exact⟨_,rfl,h⟩
theorem se{l:n7}{items:Array IQ}{Q:o_}(g:s.heap.IsTuple l items)
 (h:∀h',IsEnum h' (s.z+1) s.z 0 .none->h'.IsTupleIter s.z l 0->(∀b o,s.heap.get? b=LZ o->h'.get? b=LZ o)->Q (.ref (s.z+1)) { s with heap:=h' }) :
 J4 (Jf prog w) A (call (.type "enumerate") [.ref l]) Q E s:=by
 obtain⟨⟨c,a,i,j⟩,k,d,n,hd⟩:=g
 replace d:c=.type "tuple":=d
 replace hd:i=.seq items n:=hd
 subst d hd
 refine callType_new F.called_enumerate ⋯ (F.typeCall_enumerate_1 _) (F.newCall_enumerate_1 _) (fun obj=>F.args_object_init_2 obj _) F.entry_enumerate_new (wM l items n a j) ⟨k,?_⟩
 have e:(s.heap.push { cls:=.type "tuple_iterator",data:=.fields #[.ref l,.int 0 0] }).objs.size=s.z+1:=Ki ..
 show _/\_
 rw[e]
 have f:IsEnum ((s.heap.push { cls:=.type "tuple_iterator",data:=.fields #[.ref l,.int 0 0] }).push { cls:=.type "enumerate",data:=.fields #[.none,.bool MC,.ref s.z,rawInt 0,.none,.none] }) (s.z+1) s.z 0 .none:=by
  have:=J3 (s.heap.push { cls:=.type "tuple_iterator",data:=.fields #[.ref l,.int 0 0] }) (o:={ cls:=.type "enumerate",data:=.fields #[.none,.bool MC,.ref s.z,rawInt 0,.none,.none] }) rfl
  rw[e]at this;exact this
 exact⟨⟨_,f,rfl⟩,h _ f ⟨_,IZ _ (J3 _ rfl),rfl,rfl⟩ fun b o x=>IZ _ (IZ _ x)⟩
end
def FT(K:I0)(a:n7):It:=
 ⟨fun i H=>∃xs x,NB K H a xs/\xs[i]?=LZ x,fun i H x b=>∃T y,x=.ref T/\H T=MA/\b=upd H T (.tup [.int (i:Int),y])/\∀xs,NB K H a xs->xs[i]?=LZ y,fun i H=>∃xs,NB K H a xs/\xs.length=i⟩
theorem sS{P:Jk}{w:JJ}{K:I0}{G:ra}{kt}{pt:Pos}(a e it:n7)(t:e≠it):Turn P w K (.Tuple G kt pt) (FT K a) [e,it] e (fun i h=>(∃j,IsEnum h e it (i:Int) j)/\h.IsTupleIter it a i) where
 mem:=by simp
 obj:=fun i h st b J=>by
  rcases(show b=e\/b=it by simpa using J)with rfl|rfl
  ·obtain⟨⟨j,q⟩,_⟩:=st
   exact⟨_,q,fun v z=>by
    have z':Data.fields _=Data.cell v:=z
    cases z'⟩
  ·obtain⟨o,q,c,d⟩:=st.2
   exact⟨o,q,fun v z=>by rw[d]at z;cases z⟩
 keep:=fun i h h' st k=>by
  obtain⟨⟨j,q⟩,⟨o,Q,r⟩⟩:=st
  exact⟨⟨j,k e (by simp) _ q⟩,⟨o,k it (by simp) o Q,r⟩⟩
 item:=by
  intro X R S T U i MN s σ H E I hf st V
  subst R S T
  obtain⟨xs,x,O,W⟩:=V
  obtain⟨g,Y,p,hz⟩:=I.tuple O
  obtain⟨u,hu,ru⟩:=Y.get W
  obtain⟨⟨j,y⟩,l⟩:=st
  have p:s.heap.IsTuple a g.toArray:=p
  have le:e<s.z:=J6 y
  have li:it<s.z:=by obtain⟨o,q,_⟩:=l;exact J6 q
  have B:a≠it:=fun z=>by
   subst z
   obtain⟨o1,L,M,_⟩:=l
   obtain⟨o2,y1,C,_⟩:=p
   rw[L]at y1;cases y1
   rw[M]at C;exact absurd (LV.inj C) ⋯
  have Z:e≠a:=fun z=>by
   subst z
   obtain⟨o2,y1,C,_⟩:=p
   rw[show s.heap.get? e=_ from y]at y1;cases y1
   exact absurd (LV.inj C) ⋯
  have D:X.A.in1.handled=MA:=I.ok.hd U
  have b0:i<g.length:=(J1.mp hu).1
  refine wpAny_pyNext_enum_itemD (xN D it a B g.toArray) y ⟨l,p⟩ (by simp;omega) t (by simp[t,Z]) fun x0 h1 F m Q N hT c0 hk=>?_
  obtain rfl:u=x0:=by
   have m:g[i]?=LZ x0:=‹m›
   rw[hu]at m;cases m;rfl
  refine⟨_,rfl,wpAny_letOwnedTupleGo_enum (s:={ s with heap:=h1,toks:=F+1 }) Q fun h2 a0 n=>?_⟩
  have n:L6 e h1 h2:=n
  have fr:=I.fresh
  have I1:Inv X MN σ (upd H s.z (.tup [.int (i:Int),x])) { s with heap:=s.heap.push { cls:=.type "tuple",data:=.seq #[.int (i:Int) F,u] },toks:=s.toks }:=
   I.laid (fun b v q=>IZ _ q) (IY _) ⟨Mo rfl,[.int (i:Int) F,u],.cons ⟨_,rfl⟩ (.cons ru .nil),⟨_,J3 _ rfl,rfl,_,rfl⟩,⟨_,J3 _ rfl,rfl⟩⟩
  have fk:∀{b:n7},b<s.z->cQ X MN H b->cQ X MN (upd H s.z (.tup [.int (i:Int),x])) b:=fun{b} lt f=>⟨by rw[aZ (JB lt)];exact f.1,f.2⟩
  have fe:=fk le (hf e (by simp))
  have fi:=fk li (hf it (by simp))
  have I2:Inv X MN σ (upd H s.z (.tup [.int (i:Int),x])) { s with heap:=h2,toks:=F+1 }:=by
   refine mQ (s:={ s with heap:=s.heap.push { cls:=.type "tuple",data:=.seq #[.int (i:Int) F,u] },toks:=s.toks }) I1 (fun b o ne ni q=>?_) fe fi
   have q:(s.heap.push { cls:=.type "tuple",data:=.seq #[.int (i:Int) F,u] }).get? b=LZ o:=q
   refine(n.2 b ne).trans ?_
   rcases Heap.get?_push_cases q with⟨rfl,rfl⟩|q
   ·exact hT
   ·exact hk b o ne ni q
  obtain⟨⟨oi,L,M⟩,_⟩:=N
  refine⟨.ref s.z,_,I2,rfl,⟨_,x,rfl,fr,rfl,fun ys hy=>by rw[I.nX hy O];exact W⟩,⟨⟨u,?_⟩,⟨oi,(n.2 it t.symm).trans L,M⟩⟩,fun b J=>?_⟩
  ·have:(((i+1:Nat):Int))=(i:Int)+1:=()
   rw[this];exact a0
  ·rcases(show b=e\/b=it by simpa using J)with rfl|rfl
   ·exact fe.1
   ·exact fi.1
 done:=by
  intro X R S T U i MN s σ H E I hf st V
  subst R S T
  obtain⟨xs,O,W⟩:=V
  obtain⟨g,Y,p,hz⟩:=I.tuple O
  have p:s.heap.IsTuple a g.toArray:=p
  obtain⟨⟨j,y⟩,l⟩:=st
  obtain⟨f0,f1,f2,f3,f4,f5⟩:=hf it (by simp)
  have hl:=Y.length
  have B:a≠it:=fun z=>by
   subst z
   obtain⟨o1,L,M,_⟩:=l
   obtain⟨o2,y1,C,_⟩:=p
   rw[L]at y1;cases y1
   rw[M]at C;exact absurd (LV.inj C) ⋯
  have D:X.A.in1.handled=MA:=I.ok.hd U
  have ei:g.toArray.size=i:=by simp;omega
  exact wpAny_pyNext_enum_endD (xN D it a B g.toArray) y ⟨by rw[ei];exact l,p⟩ fun h' eb=>⟨rfl,I.turned (t':=s.toks) (fun b o J q=>eb b o J q) f0 f1 f3 f4 f5⟩
 self:=fun _ _ _ _ _ st h=>let⟨⟨_,y⟩,_⟩:=st;wpAny_pyIter_enum y h
section
variable{X:Cx}{elts:ra}{kt:Nat}{pt:Pos}
def CK(K:I0)(b:TA):TI:=fun σ H R=>b σ H fun vs H1=>∃a xs,vs=[.ref a]/\NB K H1 a xs/\R (FT K a) H1
theorem xZ{a:oT}{j:TA}{p pos:Pos}(m:Gl X "enumerate")(n:X.mg "enumerate"=MA)(o:PA X [a] j)(r:Je [a] X.env=[(MC,eval a X.env)]:=by rfl):PI X (.Tuple elts kt pt) (.Call (.Name "enumerate" p) [a] [] pos) (CK X.K j):=by
 intro MN s σ H R I h;refine Call_ (gI I m n fX (KJ (Mr (o pos MN s σ H _ I h) fun us c d=>?_) r rfl));obtain⟨vs,H1,f,t,v⟩:=d;obtain⟨l,xs,w,x,q⟩:=v;subst w;obtain⟨u,rfl,y⟩:=t.one;cases y;obtain⟨g,B,pt,C⟩:=f.tuple x;refine se (show c.heap.IsTuple l g.toArray from pt) fun D k i z=>wpAny_pyIter_enum k ?_
 have fp:∀b∈[c.z+1,c.z],cQ X MN H1 b:=fun b A=>by
  have e:c.z<=b:=by
   rcases(show b=c.z+1\/b=c.z by simpa using A)with rfl|rfl
   ·exact Nat.le_succ _
   ·exact IY _
  exact f.pV e (f.hok.fresh e)
 exact⟨_,[c.z+1,c.z],_,_,H1,rfl,f.kept (t':=c.toks) z,sS l _ _ (Nat.succ_ne_self _),⟨⟨_,k⟩,i⟩,fp,q⟩
def D0(b:NN):Nt:=fun δ M R=>b δ M fun c e=>∃a,c=[.tup a]/\R ⟨a.length,fun i=>(a[i]?).map fun d=>.tup [.int (i:Int),d],fun _=>True⟩ e
theorem zS{a:oT}{o:NN}{p pos:Pos}(z:Gl X "enumerate")(A:X.mg "enumerate"=MA)(B:DA X [a] o)(g:Je [a] X.env=[(MC,eval a X.env)]:=by rfl):DI X (.Tuple elts kt pt) (.Call (.Name "enumerate" p) [a] [] pos) (D0 o):=
 jV (xZ z A B g) fun σ H R C=>by
  obtain⟨δ,M,N,g,D,q,h⟩:=C
  exact⟨δ,M,_,g,D,q,fun O E vs H1 F G I J=>by
   obtain⟨d,e,K⟩:=J
   subst e
   obtain⟨v,rfl,r⟩:=cv G
   rw[Rep]at r
   obtain⟨l,xs,rfl,f,j⟩:=r
   refine⟨l,xs,rfl,f,h _ E H1 _ F I K ⟨fun s u b k w=>⟨xs,b.t _ _ f,j.length.symm⟩,fun i s u c b k w=>?_,?_⟩⟩
   ·have m:i<xs.length:=by rw[<-j.length];exact c
    exact⟨xs,xs[i],b.t _ _ f,by simp[m]⟩
   ·rintro i s u v P c b k w ⟨T,y,rfl,n,rfl,L⟩
    have c:i<d.length:=c
    obtain⟨x,e1,e2⟩:=(j.mono b).get (show d[i]?=LZ d[i] by simp[c])
    have:=L xs (b.t _ _ f)
    rw[e1]at this;cases this
    exact⟨.new n,k.new n,.tup [.int (i:Int),d[i]],by simp[c],by rw[Rep];exact⟨T,_,rfl,NB.of bc,.cons (by rw[Rep]) (.cons (e2.mono (.new n)) .nil)⟩⟩⟩
end
section
variable{P:Jk}{w:JJ}{K:I0}{mg:pd}{base:oa}{x:Str}{st:n_}{N:rf}{k:Nat}
def Ox(C:D->MH->DK->Prop):PD:=fun b M Q=>match b with
 |[a]=>C a M Q
 |_=>False
theorem eV{p:Str}{C:D->MH->DK->Prop}(T:Txt K mg x st)(S:Ml N [p] (av st))
 (body:∀(f:n7) (cdv:IQ) (A:JP) (outer:List Env) (s:IS) (H:Hp) (E:XK),NF k (A.deeper (envOfC x (av st) s.z f cdv))->
  ∃t,DSs (jY Ow P w K mg base N x (av st) f cdv A outer s H E).nox (br st) t/\∀a M Q,C a M Q->t (qD Q) (gL N [a]) M)
 (e:∀(kV b d:IQ) (an:Option n7) (cdv ct a:IQ),bindArgs (Kv x x (cL st) (br st) (av st) .none kV b d an cdv ct) ⟨[a],[]⟩=pure ([p].zip [a]):=by intros;rfl):Cal P w K mg base (k+1) x (Ox C):=by
 refine BI T S (fun kV b d an cdv ct us g=>?_) (fun c M Q h=>?_) fun f cdv A outer s H E i=>?_
 ·obtain⟨a,rfl⟩:=AA g
  exact e ..
 ·rcases c with _|⟨a,_|⟨w,c⟩⟩
  all_goals first|exact Js h|rfl
 ·obtain⟨t,h,j⟩:=body f cdv A outer s H E i
  refine⟨t,h,fun c M Q h=>?_⟩
  rcases c with _|⟨a,_|⟨w,c⟩⟩
  all_goals first|exact Js h|exact j _ _ _ h
def NO(C:D->D->MH->DK->Prop):PD:=fun c M Q=>match c with
 |[a,b]=>C a b M Q
 |_=>False
theorem bE{p q:Str}{C:D->D->MH->DK->Prop}(T:Txt K mg x st)(S:Ml N [p,q] (av st))
 (body:∀(f:n7) (cdv:IQ) (A:JP) (outer:List Env) (s:IS) (H:Hp) (E:XK),NF k (A.deeper (envOfC x (av st) s.z f cdv))->
  ∃t,DSs (jY Ow P w K mg base N x (av st) f cdv A outer s H E).nox (br st) t/\∀a b M Q,C a b M Q->t (qD Q) (gL N [a,b]) M)
 (g:∀(kV c e:IQ) (an:Option n7) (cdv ct a b:IQ),bindArgs (Kv x x (cL st) (br st) (av st) .none kV c e an cdv ct) ⟨[a,b],[]⟩=pure ([p,q].zip [a,b]):=by intros;rfl):Cal P w K mg base (k+1) x (NO C):=by
 refine BI T S (fun kV c e an cdv ct us i=>?_) (fun d M Q h=>?_) fun f cdv A outer s H E j=>?_
 ·obtain⟨a,b,rfl⟩:=xy i
  exact g ..
 ·rcases d with _|⟨a,_|⟨b,_|⟨w,d⟩⟩⟩
  all_goals first|exact Js h|rfl
 ·obtain⟨t,h,l⟩:=body f cdv A outer s H E j
  refine⟨t,h,fun d M Q h=>?_⟩
  rcases d with _|⟨a,_|⟨b,_|⟨w,d⟩⟩⟩
  all_goals first|exact Js h|exact l _ _ _ _ h
def Q9(C:D->D->D->MH->DK->Prop):PD:=fun d M Q=>match d with
 |[a,b,c]=>C a b c M Q
 |_=>False
theorem iC{p q r:Str}{C:D->D->D->MH->DK->Prop}(T:Txt K mg x st)(S:Ml N [p,q,r] (av st))
 (body:∀(f:n7) (cdv:IQ) (A:JP) (outer:List Env) (s:IS) (H:Hp) (E:XK),NF k (A.deeper (envOfC x (av st) s.z f cdv))->
  ∃t,DSs (jY Ow P w K mg base N x (av st) f cdv A outer s H E).nox (br st) t/\∀a b c M Q,C a b c M Q->t (qD Q) (gL N [a,b,c]) M)
 (i:∀(kV d g:IQ) (an:Option n7) (cdv ct a b c:IQ),bindArgs (Kv x x (cL st) (br st) (av st) .none kV d g an cdv ct) ⟨[a,b,c],[]⟩=pure ([p,q,r].zip [a,b,c]):=by intros;rfl):Cal P w K mg base (k+1) x (Q9 C):=by
 refine BI T S (fun kV d g an cdv ct us j=>?_) (fun e M Q h=>?_) fun f cdv A outer s H E l=>?_
 ·obtain⟨a,b,c,rfl⟩:=Hl j
  exact i ..
 ·rcases e with _|⟨a,_|⟨b,_|⟨c,_|⟨w,e⟩⟩⟩⟩
  all_goals first|exact Js h|rfl
 ·obtain⟨t,h,m⟩:=body f cdv A outer s H E l
  refine⟨t,h,fun e M Q h=>?_⟩
  rcases e with _|⟨a,_|⟨b,_|⟨c,_|⟨w,e⟩⟩⟩⟩
  all_goals first|exact Js h|exact m _ _ _ _ _ h
def YR(C:D->D->D->D->MH->DK->Prop):PD:=fun e M Q=>match e with
 |[a,b,c,d]=>C a b c d M Q
 |_=>False
theorem Hb{p q r t:Str}{C:D->D->D->D->MH->DK->Prop}(T:Txt K mg x st)(S:Ml N [p,q,r,t] (av st))
 (body:∀(f:n7) (cdv:IQ) (A:JP) (outer:List Env) (s:IS) (H:Hp) (E:XK),NF k (A.deeper (envOfC x (av st) s.z f cdv))->
  ∃t,DSs (jY Ow P w K mg base N x (av st) f cdv A outer s H E).nox (br st) t/\∀a b c d M Q,C a b c d M Q->t (qD Q) (gL N [a,b,c,d]) M)
 (j:∀(kV e i:IQ) (an:Option n7) (cdv ct a b c d:IQ),bindArgs (Kv x x (cL st) (br st) (av st) .none kV e i an cdv ct) ⟨[a,b,c,d],[]⟩=pure ([p,q,r,t].zip [a,b,c,d]):=by intros;rfl):Cal P w K mg base (k+1) x (YR C):=by
 refine BI T S (fun kV e i an cdv ct us l=>?_) (fun g M Q h=>?_) fun f cdv A outer s H E m=>?_
 ·obtain⟨a,b,c,d,rfl⟩:=Ii l
  exact j ..
 ·rcases g with _|⟨a,_|⟨b,_|⟨c,_|⟨d,_|⟨w,g⟩⟩⟩⟩⟩
  all_goals first|exact Js h|rfl
 ·obtain⟨t,h,n⟩:=body f cdv A outer s H E m
  refine⟨t,h,fun g M Q h=>?_⟩
  rcases g with _|⟨a,_|⟨b,_|⟨c,_|⟨d,_|⟨w,g⟩⟩⟩⟩⟩
  all_goals first|exact Js h|exact n _ _ _ _ _ _ h
end
theorem RE{t:NV}{B:EndsD}{δ:DS}{M:MH}(h:∀a:EndsD,(∀δ M,B.nx δ M->a.nx δ M)->t a δ M):t B δ M:=h B fun _ _ h=>h
@[elab_as_elim] theorem Qc{P:rv->Prop}{n:Nat}{T:rv}(b:T.length=n+1)(h:∀(a:ry) (U:rv),U.length=n->P (a::U)):P T:=by
 cases T with
 |nil=>cases b
 |cons a U=>exact h a U (Nat.succ.inj b)
theorem ZK{P:rv->Prop}{T:rv}(b:T.length=0)(h:P []):P T:=by
 cases T with
 |nil=>exact h
 |cons a U=>cases b
@[elab_as_elim] theorem Iv{P:rv->Prop}{T:rv}(d:T.length=3)(h:∀a b c,P [a,b,c]):P T:=Qc (P:=P) d fun a U d=>Qc (P:=fun T=>P (a::T)) d fun b U d=>Qc (P:=fun T=>P (a::b::T)) d fun c U d=>ZK (P:=fun T=>P (a::b::c::T)) d (h a b c)
@[elab_as_elim] theorem Im{P:rv->Prop}{T:rv}(g:T.length=6)(h:∀a b c d e f,P [a,b,c,d,e,f]):P T:=Qc (P:=P) g fun a U g=>Qc (P:=fun T=>P (a::T)) g fun b U g=>Qc (P:=fun T=>P (a::b::T)) g fun c U g=>Iv (P:=fun T=>P (a::b::c::T)) g (h a b c)
@[elab_as_elim] theorem Iq{P:rv->Prop}{T:rv}(k:T.length=9)(h:∀a b c d e f g i j,P [a,b,c,d,e,f,g,i,j]):P T:=Qc (P:=P) k fun a U k=>Qc (P:=fun T=>P (a::T)) k fun b U k=>Qc (P:=fun T=>P (a::b::T)) k fun c U k=>Im (P:=fun T=>P (a::b::c::T)) k (h a b c)
inductive Rl(a b c d:Prop):Prop
 |mk (_:a) (_:b) (_:c) (_:d):Rl a b c d
inductive SA(a b c d e:Prop):Prop
 |mk (_:a) (_:b) (_:c) (_:d) (_:e):SA a b c d e
inductive Y7(a b c d e f:Prop):Prop
 |mk (_:a) (_:b) (_:c) (_:d) (_:e) (_:f):Y7 a b c d e f
inductive Rk(a b c d e f g:Prop):Prop
 |mk (_:a) (_:b) (_:c) (_:d) (_:e) (_:f) (_:g):Rk a b c d e f g
inductive YM(a b c d e f g h:Prop):Prop
 |mk (_:a) (_:b) (_:c) (_:d) (_:e) (_:f) (_:g) (_:h):YM a b c d e f g h
inductive Y6(a b c d e f g h i:Prop):Prop
 |mk (_:a) (_:b) (_:c) (_:d) (_:e) (_:f) (_:g) (_:h) (_:i):Y6 a b c d e f g h i
inductive Ql(a b c d e f g h i j:Prop):Prop
 |mk (_:a) (_:b) (_:c) (_:d) (_:e) (_:f) (_:g) (_:h) (_:i) (_:j):Ql a b c d e f g h i j
inductive WC(a b c d e f g h i j k:Prop):Prop
 |mk (_:a) (_:b) (_:c) (_:d) (_:e) (_:f) (_:g) (_:h) (_:i) (_:j) (_:k):WC a b c d e f g h i j k
inductive R9{a0 a1:Type}(p:a0->a1->Prop):Prop
 |mk (x0:a0) (x1:a1) (h:p x0 x1):R9 p
inductive Qu{a0 a1 a2:Type}(p:a0->a1->a2->Prop):Prop
 |mk (x0:a0) (x1:a1) (x2:a2) (h:p x0 x1 x2):Qu p
inductive WB{a0 a1 a2 a3:Type}(p:a0->a1->a2->a3->Prop):Prop
 |mk (x0:a0) (x1:a1) (x2:a2) (x3:a3) (h:p x0 x1 x2 x3):WB p
inductive R8{a0 a1 a2 a3 a4:Type}(p:a0->a1->a2->a3->a4->Prop):Prop
 |mk (x0:a0) (x1:a1) (x2:a2) (x3:a3) (x4:a4) (h:p x0 x1 x2 x3 x4):R8 p
inductive WO{a0 a1 a2 a3 a4 a5:Type}(p:a0->a1->a2->a3->a4->a5->Prop):Prop
 |mk (x0:a0) (x1:a1) (x2:a2) (x3:a3) (x4:a4) (x5:a5) (h:p x0 x1 x2 x3 x4 x5):WO p
inductive WN{a0 a1 a2 a3 a4 a5 a6:Type}(p:a0->a1->a2->a3->a4->a5->a6->Prop):Prop
 |mk (x0:a0) (x1:a1) (x2:a2) (x3:a3) (x4:a4) (x5:a5) (x6:a6) (h:p x0 x1 x2 x3 x4 x5 x6):WN p
inductive Y4{a0 a1 a2 a3 a4 a5 a6 a7:Type}(p:a0->a1->a2->a3->a4->a5->a6->a7->Prop):Prop
 |mk (x0:a0) (x1:a1) (x2:a2) (x3:a3) (x4:a4) (x5:a5) (x6:a6) (x7:a7) (h:p x0 x1 x2 x3 x4 x5 x6 x7):Y4 p
end SD
namespace QQ
open PySem PySem.Spec PyProof.Rows L2 SD
def top(i:Nat):n_:=JE.main.body.getD i (.Pass ⟨0,0,0,0⟩)
abbrev iA:n_:=top 46
abbrev lI:n_:=top 47
abbrev kr:n_:=top 49
abbrev mB:n_:=top 52
abbrev qK:n_:=top 53
abbrev mX:n_:=top 54
abbrev fM:n_:=top 55
abbrev nJ:n_:=top 63
abbrev kH:n_:=top 64
abbrev nR:n_:=top 65
abbrev iF:n_:=top 69
abbrev nY:n_:=top 48
abbrev mF:n_:=top 50
abbrev lM:n_:=top 51
abbrev mZ:n_:=top 56
abbrev jh:n_:=top 57
abbrev i9:n_:=top 58
abbrev kJ:n_:=top 59
abbrev ki:n_:=top 60
abbrev ji:n_:=top 66
abbrev qJ:n_:=top 68
abbrev eK:n_:=top 4
abbrev mD:n_:=top 5
abbrev ma:n_:=top 15
abbrev oC:n_:=top 6
abbrev mJ:n_:=top 10
abbrev iD:n_:=top 13
abbrev iz:n_:=top 14
abbrev i8:n_:=top 40
abbrev B5:n_:=top 17
abbrev zJ:n_:=top 18
abbrev nO:n_:=top 19
abbrev oq:n_:=top 20
abbrev uR:n_:=top 22
abbrev jC:n_:=top 12
abbrev lK:n_:=top 11
abbrev mR:n_:=top 23
abbrev l7:n_:=top 16
abbrev m4:n_:=top 24
abbrev ir:n_:=top 25
abbrev jj:n_:=top 42
abbrev eY:n_:=top 44
abbrev ky:n_:=top 27
abbrev fv:n_:=top 28
abbrev gh:n_:=top 29
abbrev iy:n_:=top 30
abbrev ko:n_:=top 31
abbrev mi:n_:=top 32
abbrev gf:n_:=top 7
abbrev lJ:n_:=top 8
abbrev ju:n_:=top 33
abbrev eU:n_:=top 35
abbrev gC:n_:=top 36
abbrev je:n_:=top 37
abbrev fL:n_:=top 38
abbrev gw:n_:=top 43
abbrev mv:n_:=top 67
abbrev jx:n_:=top 61
abbrev iB:n_:=top 62
abbrev Cq:n_:=top 70
local macro_rules | `(tactic| walk_at "sc") => `(tactic| exact ⟨rfl, rfl, rfl, by decide, rfl, by decide, by decide⟩)
theorem _root_.SD.Cal.m{P:Jk}{w:JJ}{K:I0}{mg:pd}{base:oa}{j k:Nat}{x:Str}{sp:PD}(h:Cal P w K mg base j x sp)(l:j<=k:=by decide):Cal P w K mg base k x sp:=h.mono l
abbrev r4(a:PySem.Addr):Option SD.D:=some (.ref a)
abbrev r8(a:Int):Option SD.D:=some (.int a)
variable(r_ sj sk sm sv:SD.D)(M:SD.MH)(Q:SD.DK)
open SD.Zq
structure Tx(K:I0)(mg:pd):Prop where
 ar:Txt K mg "_law_cell_at" iA
 a8:Txt K mg "_law_take" lI
 a_:Txt K mg "_law_scale" kr
 bb:Txt K mg "_law_turn" mB
 bf:Txt K mg "_law_on" qK
 b5:Txt K mg "_law_fair" mX
 b8:Txt K mg "_law_shuts_here" fM
 b9:Txt K mg "_law_box" nJ
 b_:Txt K mg "_law_order" kH
 cb:Txt K mg "_law_set" nR
 cm:Txt K mg "_law_squares" iF
 cp:Txt K mg "_law_low" nY
 c_:Txt K mg "_law_spot" mF
 dd:Txt K mg "_law_made" lM
 dk:Txt K mg "_law_ends" mZ
 dt:Txt K mg "_law_sooner" jh
 dV:Txt K mg "_law_behind" i9
 d_:Txt K mg "_law_rings" kJ
 ec:Txt K mg "_law_twice" ki
 eh:Txt K mg "_law_wanted" ji
 el:Txt K mg "_law_by" qJ
 en:Txt K mg "greatest_divisor" eK
 eu:Txt K mg "fraction" mD
 eH:Txt K mg "own_spot" ma
 eL:Txt K mg "is_less" oC
 eT:Txt K mg "is_ahead" mJ
 e_:Txt K mg "place_among" iD
 fC:Txt K mg "ahead_first" iz
 fT:Txt K mg "corners_of" i8
 f_:Txt K mg "gap" B5
 gp:Txt K mg "lean" zJ
 gq:Txt K mg "side_of" nO
 gs:Txt K mg "lies_on" oq
 gz:Txt K mg "spans" uR
 g_:Txt K mg "earlier_of" jC
 hA:Txt K mg "later_of" lK
 hH:Txt K mg "is_above" mR
 hJ:Txt K mg "own_wall" l7
 hP:Txt K mg "upper_of" m4
 hQ:Txt K mg "upper_below" ir
 hV:Txt K mg "wall_below" jj
 hY:Txt K mg "look_with_lands" eY
 h5:Txt K mg "face_ends" ky
 h7:Txt K mg "faces_by_start" fv
 h_:Txt K mg "is_met_sooner" gh
 ia:Txt K mg "face_behind" iy
 ij:Txt K mg "ring_from" ko
 i7:Txt K mg "rings_of" mi
 i_:Txt K mg "common_bottom" gf
 jm:Txt K mg "top_over" lJ
 j_:Txt K mg "twice_area" ju
 ka:Txt K mg "outer_and_inner" eU
 kc:Txt K mg "first_corner" gC
 ke:Txt K mg "land_about" je
 kz:Txt K mg "lands_of_faces" fL
 k_:Txt K mg "look_plainly" gw
 k':Txt K mg "_law_real" mv
 lg:Txt K mg "_law_inside" jx
 lk:Txt K mg "_law_land_at" iB
 lx:Txt K mg "law" Cq
 lz:mg "abs"=MA
 l4:mg "all"=MA
 l_:mg "bool"=MA
 mu:mg "enumerate"=MA
 mx:mg "int"=MA
 mz:mg "isinstance"=MA
 mA:mg "len"=MA
 mO:mg "list"=MA
 mS:mg "max"=MA
 mT:mg "min"=MA
 m_:mg "range"=MA
 nc:mg "sum"=MA
 nv:mg "tuple"=MA
 n4:mg "zip"=MA
theorem ml:Ml ["_law_script","_law_k"] ["_law_script","_law_k"] (av iA):=⋯
inductive Ny:Prop
 |mk (ns:_) (k:_) (_:r_=.rol (Kt D.int ns)) (_:sj=.int k) (_:0<=k) (_:∀z,Q (.int z) M)
variable{P:Jk}{w:JJ}{K:I0}{mg:pd}{base:oa}
theorem m7(T:Tx K mg):Cal P w K mg base 1 "_law_cell_at" (NO Ny):=by
 refine bE (k:=0) T.ar ml fun f _ _ _ s H _ a=>⟨_,(ak (bo (aL (fm a.units) (dv 1) (aP dN rfl T.mA dJ (ae (dv 0) af))) (au (aD (ay (dv 0) (dv 1)))) aO) (au (aD aj))),fun _ _ M Q h=>?_⟩;obtain⟨ns,k,rfl,rfl,e,q⟩:=h;(repeat (first|refine⟨_,rfl,?_⟩|refine⟨trivial,?_⟩|refine⟨_,_,rfl,?_⟩|refine⟨rfl,?_⟩|refine⟨Mo rfl,?_⟩))
 refine bP (fun b=>?_) (fun _=>?_)
 ·have c:k<(ns.length:Int):=‹b›
  obtain⟨j,rfl⟩:∃j:Nat,k=(j:Int):=⟨k.toNat,()⟩;have d:j<ns.length:=()
  refine⟨_,rfl,_,rfl,.int ns[j],cM (by simp[d]),NA (q _)⟩
 ·exact NA (q 0)
theorem eN:Ml ["_law_row","_law_base","_law_rest","_law_number"] ["_law_row","_law_base"] (av lI):=⋯
inductive Og:Prop
 |mk (r:_) (b:_) (x:_) (c:_) (_:r_=.ref r) (_:sj=.int b) (_:M r=LZ (.lst [.int x,.int c])) (_:0<=c) (_:c<1000000) (_:0<b) (_:Bd 8000 b) (_:∀x' v,0<=v->v<b->Q (.int v) (az M r (.lst [.int x',.int (c+1)])))
theorem aE(T:Tx K mg):Cal P w K mg base 1 "_law_take" (NO Og):=by
 refine bE (k:=0) T.a8 eN fun f _ _ _ s H _ p=>⟨_,(ak (bZ (aw aJ (ay (dv 0) aj) aj) (pb (dv 0) aj)) (ak (bo (aL zt (ay (dv 0) aj) (aw iJ aj aj)) (ak (aA 2 eN.nd (aw cE (ay (dv 0) aj) (aw iJ aj aj))) (ak (bZ (aw aJ (aw iJ aj aj) (aw eP (dv 2) (dv 1))) (pb (dv 0) aj)) (au (aD (aw fu (dv 2) (dv 1)))))) aO) (ak (aA 3 eN.nd (aw fu (aw aJ (aw aJ (aw aJ (aw aH (ay (dv 0) aj) aj) (aw aH (aw aH aj (ay (dv 0) aj)) (ay (dv 0) aj))) (aw aH aj (ay (dv 0) aj))) aj) aj)) (ak (aA 3 eN.nd (aw fu (aw aJ (aw aJ (aw aH (dv 3) (dv 3)) (aw aH aj (dv 3))) (ay (dv 0) aj)) aj)) (au (aD (aw fu (aw eP (dv 3) aj) (dv 1)))))))),fun _ _ M Q h=>?_⟩;obtain⟨r,b,x,c,rfl,rfl,i,l,m,j,g,q⟩:=h;have d:Bd 64 (c+1):=by show(c+1).natAbs<2^64;omega
 have a:b≠0:=()
 have e:∀n:Int,0<=n.fmod b/\n.fmod b<b:=fun n=>⟨Int.fmod_nonneg_of_pos _ j,Int.fmod_lt_of_pos _ j⟩;refine⟨_,rfl,_,_,i,rfl,?_⟩;refine⟨_,rfl,_,_,i,rfl,?_⟩;refine⟨_,rfl,_,_,ag,rfl,⟨⋯,⋯,⋯⟩,trivial,_,rfl,?_⟩;refine bP (fun h=>?_) (fun h=>?_)
 ·refine⟨_,rfl,_,_,ag,rfl,⟨⋯,⋯,⋯⟩,trivial,?_⟩;refine⟨⟨⋯,⋯,⋯⟩,_,rfl,_,rfl,⟨a,g⟩,_,rfl,_,_,ag,rfl,?_⟩;refine⟨_,rfl,_,rfl,a,?_⟩;rw[bD];exact NA (q _ _ (e _).1 (e _).2)
 ·refine⟨_,rfl,_,_,ag,rfl,dh ⋯,?_⟩;refine⟨_,rfl,_,_,ag,rfl,aQ ⋯,?_⟩;refine⟨_,rfl,_,_,ag,rfl,dh d,?_⟩;refine⟨_,rfl,_,_,ag,rfl,aQ ⋯,(show(2147483399:Int)≠0 by decide),?_⟩
  have o:∀n:Int,Bd 64 (n.fmod 2147483399):=fun n=>by
   have t:=Int.fmod_nonneg_of_pos n (show(0:Int)<2147483399 by decide)
   have u:=Int.fmod_lt_of_pos n (show(0:Int)<2147483399 by decide)
   show(n.fmod 2147483399).natAbs<2^64
   omega
  refine⟨_,rfl,_,rfl,aQ (o _),_,rfl,aQ ⋯,_,rfl,_,_,ag,rfl,(show(2147483647:Int)≠0 by decide),?_⟩;refine⟨_,rfl,⟨⋯,bA ⋯⟩,_,rfl,a,?_⟩;exact NA (q _ _ (e _).1 (e _).2)
theorem d3:Ml ["_law_row","_law_top","_law_bottom","_law_far"] ["_law_row"] (av kr):=⋯
inductive OV:Prop
 |mk (r:n7) (x c:Int) (_:r_=.ref r) (_:M r=LZ (.lst [.int x,.int c])) (_:0<=c) (_:c<900000) (_:∀x' c' t b p q,N7 t b p q->0<=c'->c'<=c+10->Q (Qw t b p q) (az M r (.lst [.int x',.int c'])))
theorem q0(T:Tx K mg):Cal P w K mg base 2 "_law_scale" (Ox OV):=by
 refine eV (k:=1) T.a_ d3 fun f _ _ _ s H _ d=>⟨_,(ak (gb 1 2 rfl d3.nd (ae (aw aJ aj (aq (aE T).m d (ae (dv 0) (ae aj af)))) (ae (aw aJ aj (aq (aE T).m d (ae (dv 0) (ae aj af)))) af))) (ak (bo (aL (cu d.units) (aq (aE T).m d (ae (dv 0) (ae aj af))) aj) (au (gb 1 2 rfl d3.nd (ae (aw aJ aj (aq (aE T).m d (ae (dv 0) (ae (aw iJ aj aj) af)))) (ae (aw aJ aj (aq (aE T).m d (ae (dv 0) (ae (aw iJ aj aj) af)))) af)))) aO) (ak (aA 3 d3.nd (ay (bw (ae aj (ae (aw iJ aj aj) af))) (cH lP rfl T.mx mM (ae (b6 (cu d.units) (aq (aE T).m d (ae (dv 0) (ae aj af))) aj) af)))) (au (aD (aF (ae (dv 1) (ae (dv 2) (ae (aw aH (dv 3) (aw cE (aq (aE T).m d (ae (dv 0) (ae aj af))) aj)) (ae (aw aH (dv 3) (aw cE (aq (aE T).m d (ae (dv 0) (ae aj af))) aj)) af)))))))))),fun _ M Q h=>?_⟩;obtain⟨r,x,c,rfl,S,l,U,k⟩:=h;refine⟨_,rfl,r,6,x,c,rfl,rfl,S,l,(),⋯,bA ⋯,fun x1 V W X=>?_⟩;refine⟨_,rfl,r,6,x1,c+1,rfl,rfl,ag,(),(),⋯,bA ⋯,fun Y Z a0 b0=>?_⟩;refine⟨_,_,rfl,?_⟩;(try dsimp only[SD.aT])
 refine bU (fun δ C=>∃x g t b F,0<=g/\g<=c+5/\(0<t/\t<=10^9/\0<b/\b<=10^9)/\C=az M r (.lst [.int x,.int g])/\δ=[r4 r,r8 t,r8 b,F]) ?_ (fun G=>?_);rotate_left
 ·refine⟨_,rfl,r,4,Y,c+1+1,rfl,rfl,ag,(),(),⋯,bA ⋯,fun I v3 c0 d0=>⟨_,rfl,?_⟩⟩;refine bP (fun _=>?_) (fun _=>?_)
  ·refine⟨_,rfl,⟨⋯,⋯,⋯⟩,r,10^9,I,c+1+1+1,rfl,rfl,ag,(),(),⋯,bA ⋯,fun x4 v4 e0 f0=>?_⟩;refine⟨_,rfl,⟨⋯,⋯,⋯⟩,r,10^9,x4,c+1+1+1+1,rfl,rfl,ag,(),(),⋯,bA ⋯,fun x5 v5 g0 h0=>?_⟩;refine⟨_,_,rfl,G _ _ ⟨x5,c+1+1+1+1+1,1+v4,1+v5,MA,(),(),(),?_,rfl⟩⟩;simp only[bD]
  ·refine G _ _ ⟨I,c+1+1+1,1+V,1+Z,MA,(),(),(),?_,rfl⟩;simp only[bD]
 rintro δ C ⟨x,g,t,b,F,J,L,N,rfl,rfl⟩;refine⟨⟨⋯,⋯,⋯⟩,Mo rfl,fun p n=>?_⟩;have i:r≠p:=ax ag n;refine⟨_,rfl,r,6,x,g,rfl,rfl,(by rw[ao i,ag]),(),(),⋯,bA ⋯,fun x6 O i0 k0=>?_⟩
 have hf:∃f:Int,atI [D.int 1,D.int (10^15)] (if decide (O=0)=MB then 1 else 0)=LZ (.int f)/\1<=f/\f<=10^15:=by
  by_cases z:O=0
  ·exact⟨10^15,by rw[ME ‹z›];rfl,⋯,⋯⟩
  ·exact⟨1,by rw[MD ‹z›];rfl,⋯,⋯⟩
 obtain⟨f,ef,l0,m0⟩:=hf;refine⟨_,_,(by rw[ao i.symm,ag];rfl),ef,?_⟩;have R:Bd 64 f:=by show f.natAbs<2^64;omega
 refine⟨_,rfl,_,rfl,_,rfl,_,rfl,r,41,x6,g+1,rfl,rfl,ag,(),(),⋯,bA ⋯,fun x7 v7 q u=>⟨trivial,aQ R,?_⟩⟩;refine⟨_,rfl,_,rfl,r,41,x7,g+1+1,rfl,rfl,ag,(),(),⋯,bA ⋯,fun x8 v8 y B=>⟨trivial,aQ R,Mo rfl,?_⟩⟩
 have j:∀v:Int,0<=v->v<41->-(10^17)<=f*(v-20)/\f*(v-20)<=10^17:=fun v a b=>by
  have h1:f*(v-20)<=f*20:=La () ()
  have h2:f*(-20)<=f*(v-20):=La () ()
  omega
 have q7:=j v7 q u;have q8:=j v8 y B;refine⟨az M r (.lst [.int x8,.int (g+1+1+1)]),?_,k _ _ _ _ _ _ ⟨N.1,(),N.2.2.1,(),(),(),(),()⟩ () ()⟩;simp only[bD];refine .EI ?_;intro a o ne e;have:a≠p:=fun z=>by subst z;rw[ao ne]at n;rw[n]at e;cases e
 rw[ao this,ao ne];exact e
theorem eO:Ml ["_law_one","_law_two","_law_three","_law_far","_law_beside","_law_found"] ["_law_one","_law_two","_law_three"] (av mB):=⋯
inductive Of:Prop
 |mk (a b c d e f:Int) (_:r_=.tup [.int a,.int b]) (_:sj=.tup [.int c,.int d]) (_:sk=.tup [.int e,.int f]) (_:Bd 10 a) (_:Bd 10 b) (_:Bd 10 c) (_:Bd 10 d) (_:Q (.int (Ji (NJ (c-a) (d-b) (e-a) (f-b)))) M)
theorem du(T:Tx K mg):Cal P w K mg base 1 "_law_turn" (Q9 Of):=by
 refine iC (k:=0) T.bb eO fun f _ _ _ s H _ g=>⟨_,(ak (aA 3 eO.nd (aF (ae (aw cE (ay (dv 1) aj) (ay (dv 0) aj)) (ae (aw cE (ay (dv 1) aj) (ay (dv 0) aj)) af)))) (ak (aA 4 eO.nd (aF (ae (aw cE (ay (dv 2) aj) (ay (dv 0) aj)) (ae (aw cE (ay (dv 2) aj) (ay (dv 0) aj)) af)))) (ak (aA 5 eO.nd (aw cE (aw aH (ay (dv 3) aj) (ay (dv 4) aj)) (aw aH (ay (dv 3) aj) (ay (dv 4) aj)))) (au (aD (aw cE (cH lP rfl T.mx mM (ae (b6 (fW g.units) (dv 5) aj) af)) (cH lP rfl T.mx mM (ae (b6 (fm g.units) (dv 5) aj) af)))))))),fun _ _ _ M Q h=>?_⟩;obtain⟨a,b,c,d,e,f,rfl,rfl,rfl,i,j,l,hd,k⟩:=h;refine⟨_,rfl,_,rfl,_,rfl,_,rfl,trivial,_,rfl,_,rfl,_,rfl,_,rfl,trivial,Mo rfl,?_⟩;refine⟨_,rfl,_,rfl,_,rfl,_,rfl,trivial,_,rfl,_,rfl,_,rfl,_,rfl,trivial,Mo rfl,?_⟩;refine⟨_,rfl,_,rfl,_,rfl,_,rfl,aQ ((l.sub i).mono ⋯),_,rfl,_,rfl,_,rfl,_,rfl,aQ ((hd.sub j).mono ⋯),trivial,?_⟩;refine⟨_,rfl,trivial,_,rfl,trivial,trivial,?_⟩
 have e1:(if decide (0<(c-a)*(f-b)-(d-b)*(e-a))=MB then(1:Int)else 0)-(if decide ((c-a)*(f-b)-(d-b)*(e-a)<0)=MB then(1:Int)else 0)=Ji (NJ (c-a) (d-b) (e-a) (f-b)):=by
  unfold NJ;generalize (c-a)*(f-b)-(d-b)*(e-a)=z;rcases J5 z 0 with h|h|h
  ·rw[Jt h,MD (by simp;omega),ME ‹h›];rfl
  ·subst h;rfl
  ·rw[JF h,ME ‹h›,MD (by simp;omega)];rfl
 dsimp only;rw[e1];exact NA k
theorem vQ:Ml ["_law_shut","_law_spot_here"] ["_law_shut","_law_spot_here"] (av qK):=⋯
inductive P6:Prop
 |mk (w:Wl) (x y:Int) (_:r_=uw w) (_:sj=.tup [.int x,.int y]) (_:W8 w) (_:(-10<=x/\x<=85)) (_:(-10<=y/\y<=85)) (_:Q (.bl (decide (l1 w<=la x y)&&decide (la x y<=l2 w)&&decide (sd w x y=0))) M)
theorem qM(T:Tx K mg):Cal P w K mg base 2 "_law_on" (NO P6):=by
 refine bE (k:=1) T.bf vQ fun f _ _ _ s H _ b=>⟨_,(au (aD (oS (xY (zj b.units) (zj b.units) (ay (dv 0) aj) (dv 1) (ay (dv 0) aj)) (pZ (b6 (cu b.units) (aq (du T).m b (ae (ay (dv 0) aj) (ae (ay (dv 0) aj) (ae (dv 1) af)))) aj))))),fun _ _ M Q h=>?_⟩;obtain⟨w,x,y,rfl,rfl,W,i,g,k⟩:=h;have c:∀{z:Int},(0<=z/\z<=80)->Bd 10 z:=fun{z} h=>by show z.natAbs<2^10;omega
 (try dsimp only[SD.gi,SD.dQ,SD.aT,SD.gU,SD.gE,SD.dq,SD.eJ,SD.tBD,SD.gF,SD.EndsD.nxt,SD.EndsD.lp])
 refine Be (decide (l1 w<=la x y)&&decide (la x y<=l2 w)) (decide (sd w x y=0)) (fun K a=>?_) (fun _ K a=>?_) (NA k)
 ·refine⟨_,rfl,_,rfl,_,rfl,[w.1,w.2.1],[x,y],rfl,rfl,_,rfl,?_⟩;rw[yl () g];refine bP (fun h=>?_) (fun h=>?_)
  ·refine⟨_,rfl,_,rfl,[x,y],[w.2.2.1,w.2.2.2],rfl,rfl,?_⟩;rw[yl g ()];have d:decide (l1 w<=la x y)=MB:=h;rw[d,Ko]at a;exact a
  ·have d:decide (l1 w<=la x y)=MC:=eq_false_of_ne_true h;rw[d,JU]at a;exact a
 ·refine⟨_,rfl,_,rfl,_,rfl,_,rfl,_,rfl,w.1,w.2.1,w.2.2.1,w.2.2.2,x,y,rfl,rfl,rfl,c W.1,c W.2.1,c W.2.2.1,c W.2.2.2,?_⟩;have e:decide (Ji (NJ (w.2.2.1-w.1) (w.2.2.2-w.2.1) (x-w.1) (y-w.2.1))=0)=decide (sd w x y=0):=by rw[MJ];exact Int.sign_eq_zero_iff_zero
  try dsimp only
  show K (.bl (decide _)) _;rw[e];exact a
theorem cX:Ml ["_law_one","_law_other","_law_shut","_law_beside","_law_spot_here","_law_sides","_law_others"] ["_law_one","_law_other"] (av mX):=⋯
inductive Ol:Prop
 |mk (U V:Wl) (_:r_=uw U) (_:sj=uw V) (_:Mn U) (_:Mn V) (_:∀b:Bool,(b=MB->Mz U V)->Q (.bl b) M)
theorem sJ(T:Tx K mg):Cal P w K mg base 3 "_law_fair" (NO Ol):=by
 refine bE (k:=2) T.b5 cX fun f cdv A outer s H E F=>⟨_,(ak (bo (aL (cu F.units) (dv 0) (dv 1)) (au (aD my)) aO) (ak (bV Jc rfl (aR (aF (ae (aF (ae (dv 0) (ae (dv 1) af))) (ae (aF (ae (dv 1) (ae (dv 0) af))) af)))) (bI rfl (aC (aB 2 cX.nd) (aC (aB 3 cX.nd) a9))) (au (bV Jc rfl (aR (dv 3)) (aB 4 cX.nd) (au (bo (ny (iQ (aL (qk (kS F)) (dv 4) (dv 2) (by with_unfolding_all rfl)) (fY (de (aq (qM T).m F (ae (dv 2) (ae (dv 4) af))))))) (au (aD my)) aO))))) (ak (dE 5 cX.nd (Mm.of (xs:=["_law_spot_here"]) (js:=[0]) rfl) rfl (aR (dv 1)) (fun _ _ _ _=>cG) (fun _ _ _ _=>(aq (du T).m F (ae (ay (dv 1) aj) (ae (ay (dv 1) aj) (ae (dv 0) af)))))) (ak (dE 6 cX.nd (Mm.of (xs:=["_law_spot_here"]) (js:=[1]) rfl) rfl (aR (dv 0)) (fun _ _ _ _=>cG) (fun _ _ _ _=>(aq (du T).m F (ae (ay (dv 1) aj) (ae (ay (dv 1) aj) (ae (dv 0) af)))))) (au (aD (GD (b6 zt (aw aH (ay (dv 5) aj) (ay (dv 5) aj)) aj) (pZ (b6 zt (aw aH (ay (dv 6) aj) (ay (dv 6) aj)) aj))))))))),fun _ _ M Q h=>?_⟩;obtain⟨U,V,rfl,rfl,l,n,k⟩:=h;refine⟨_,rfl,_,rfl,_,_,Pd.of rfl,Pd.of rfl,rfl,rfl,_,rfl,?_⟩;refine bP (fun h=>NA (k MC (fun z=>absurd z J9))) (fun h=>?_);have N:¬(l1 U=l1 V/\l2 U=l2 V):=fun⟨z1,z2⟩=>by apply h;obtain⟨a1,a2⟩:=gG l.b n.b z1;obtain⟨a3,a4⟩:=gG l.d n.d z2;simp only[JL,Ke,lh,a1,a2,a3,a4];simp
 dsimp only[SD.dq];refine bU (fun δ q=>q=M/\(Qu fun v C o=>δ=[LZ (uw U),LZ (uw V),v,C,o,MA,MA])/\(aV U (l1 V) (Mt U V)/\aV U (l2 V) (Mv U V))/\(aV V (l1 U) (Mt V U)/\aV V (l2 U) (Mv V U))) ?_ (fun hu=>?_);rotate_left
 ·refine⟨_,rfl,_,rfl,Mo rfl,_,rfl,_,rfl,Mo rfl,Mo rfl,[.tup [uw U,uw V],.tup [uw V,uw U]],rfl,?_⟩;refine⟨fun i δ q=>q=M/\(Qu fun v C o=>δ=[LZ (uw U),LZ (uw V),v,C,o,MA,MA])/\(0<i->aV U (l1 V) (Mt U V)/\aV U (l2 V) (Mv U V))/\(1<i->aV V (l1 U) (Mt V U)/\aV V (l2 U) (Mv V U)),⟨rfl,⟨_,_,_,rfl⟩,fun z=>absurd z ⋯,fun z=>absurd z ⋯⟩,fun _ _ _ _ _=>rfl,?_,?_⟩
  ·rintro i d δ q Z hd ⟨rfl,⟨v,C,o,rfl⟩,O,G⟩;have Z:i<2:=Z;have hd:[D.tup [uw U,uw V],.tup [uw V,uw U]][i]?=LZ d:=hd
   have pick:∃A B,d=.tup [uw A,uw B]/\Mn A/\Mn B/\((aV A (l1 B) (Mt A B)/\aV A (l2 B) (Mv A B))->(0<i+1->aV U (l1 V) (Mt U V)/\aV U (l2 V) (Mv U V))/\(1<i+1->aV V (l1 U) (Mt V U)/\aV V (l2 U) (Mv V U))):=by
    rcases(():i=0\/i=1)with rfl|rfl
    ·cases hd;exact⟨U,V,rfl,l,n,fun z=>⟨fun _=>z,fun y=>absurd y ⋯⟩⟩
    ·cases hd;exact⟨V,U,rfl,n,l,fun z=>⟨fun _=>O ⋯,fun _=>z⟩⟩
   obtain⟨A,B,rfl,I,L,nxt⟩:=pick;refine⟨_,rfl,rfl,_,_,rfl,_,_,rfl,rfl,?_⟩;refine⟨_,rfl,[.tup [.int B.1,.int B.2.1],.tup [.int B.2.2.1,.int B.2.2.2]],rfl,?_⟩;refine⟨fun j δ t=>t=q/\(∃o,δ=[LZ (uw U),LZ (uw V),LZ (uw A),LZ (uw B),o,MA,MA])/\(0<j->aV A (l1 B) (Mt A B))/\(1<j->aV A (l2 B) (Mv A B)),⟨rfl,⟨_,rfl⟩,fun z=>absurd z ⋯,fun z=>absurd z ⋯⟩,fun _ _ _ _ _=>rfl,?_,?_⟩
   ·rintro j d δ t r hd ⟨rfl,⟨o,rfl⟩,R,q2⟩;have r:j<2:=r;have hd:[D.tup [.int B.1,.int B.2.1],.tup [.int B.2.2.1,.int B.2.2.2]][j]?=LZ d:=hd
    have pk:∃x y,d=.tup [.int x,.int y]/\(0<=x/\x<=20)/\(0<=y/\y<=20)/\(aV A (la x y) (sd A x y)->(0<j+1->aV A (l1 B) (Mt A B))/\(1<j+1->aV A (l2 B) (Mv A B))):=by
     rcases(():j=0\/j=1)with rfl|rfl
     ·cases hd;exact⟨_,_,rfl,L.a,L.b,fun z=>⟨fun _=>z,fun y=>absurd y ⋯⟩⟩
     ·cases hd;exact⟨_,_,rfl,L.c,L.d,fun z=>⟨fun _=>R ⋯,fun _=>z⟩⟩
    obtain⟨x,y,rfl,hx,hy,S⟩:=pk;have aa:=I.a;have ab:=I.b;have ac:=I.c;have ad:=I.d
    (try dsimp only[SD.gi,SD.dQ,SD.aT,SD.gU,SD.gE,SD.dq,SD.eJ,SD.tBD,SD.gF,SD.EndsD.nxt,SD.EndsD.lp])
    refine vZ (!(decide (A.1=x/\A.2.1=y)||decide (A.2.2.1=x/\A.2.2.2=y))) (decide (l1 A<=la x y)&&decide (la x y<=l2 A)&&decide (sd A x y=0)) (fun K u=>⟨_,rfl,_,rfl,Dn _ A x y _ _ ⟨_,rfl,u⟩⟩) (fun _ K u=>⟨_,rfl,_,rfl,A,x,y,rfl,rfl,⟨(),(),(),()⟩,(),(),_,rfl,u⟩) ?_;refine bP (fun _=>NA (k MC (fun z=>absurd z J9))) (fun h=>?_);exact⟨rfl,⟨_,rfl⟩,S (yd I hy (eq_false_of_ne_true h))⟩
   ·rintro δ t ⟨rfl,⟨o,rfl⟩,R,q2⟩;exact⟨rfl,⟨_,_,_,rfl⟩,nxt ⟨R (⋯:0<2),q2 (⋯:1<2)⟩⟩
  ·rintro δ q ⟨rfl,⟨v,C,o,rfl⟩,O,G⟩;exact hu _ _ ⟨rfl,⟨_,_,_,rfl⟩,O (⋯:0<2),G (⋯:1<2)⟩
 rintro δ q ⟨rfl,⟨v,C,o,rfl⟩,⟨e1,e2⟩,⟨e3,e4⟩⟩;refine⟨_,rfl,[.tup [.int V.1,.int V.2.1],.tup [.int V.2.2.1,.int V.2.2.2]],rfl,comp_map (fun j=>if j=0 then .int (Ji (Mt U V))else .int (Ji (Mv U V))) (Mo rfl) (fun _ _ _=>rfl) ?_ (fun p hp=>?_)⟩
 ·intro j W M2 r e _;have r:j<2:=r;have e:[D.tup [.int V.1,.int V.2.1],.tup [.int V.2.2.1,.int V.2.2.2]][j]?=LZ W:=e;rcases(():j=0\/j=1)with rfl|rfl
  ·cases e;exact⟨_,rfl,fun X g=>⟨_,rfl,_,rfl,_,rfl,_,rfl,_,rfl,U.1,U.2.1,U.2.2.1,U.2.2.2,_,_,rfl,rfl,rfl,dU l.a,dU l.b,dU l.c,dU l.d,g _ .refl⟩⟩
  ·cases e;exact⟨_,rfl,fun X g=>⟨_,rfl,_,rfl,_,rfl,_,rfl,_,rfl,U.1,U.2.1,U.2.2.1,U.2.2.2,_,_,rfl,rfl,rfl,dU l.a,dU l.b,dU l.c,dU l.d,g _ .refl⟩⟩
 refine⟨_,rfl,[.tup [.int U.1,.int U.2.1],.tup [.int U.2.2.1,.int U.2.2.2]],rfl,comp_map (fun j=>if j=0 then .int (Ji (Mt V U))else .int (Ji (Mv V U))) (Mo rfl) (fun _ _ _=>rfl) ?_ (fun G J=>?_)⟩
 ·intro j W M2 r e _;have r:j<2:=r;have e:[D.tup [.int U.1,.int U.2.1],.tup [.int U.2.2.1,.int U.2.2.2]][j]?=LZ W:=e;rcases(():j=0\/j=1)with rfl|rfl
  ·cases e;exact⟨_,rfl,fun X g=>⟨_,rfl,_,rfl,_,rfl,_,rfl,_,rfl,V.1,V.2.1,V.2.2.1,V.2.2.2,_,_,rfl,rfl,rfl,dU n.a,dU n.b,dU n.c,dU n.d,g _ .refl⟩⟩
  ·cases e;exact⟨_,rfl,fun X g=>⟨_,rfl,_,rfl,_,rfl,_,rfl,_,rfl,V.1,V.2.1,V.2.2.1,V.2.2.2,_,_,rfl,rfl,rfl,dU n.a,dU n.b,dU n.c,dU n.d,g _ .refl⟩⟩
 have Y:p≠G:=ax ag J;have c1:(az (az q p (.lst [.int (Ji (Mt U V)),.int (Ji (Mv U V))])) G (.lst [.int (Ji (Mt V U)),.int (Ji (Mv V U))])) p=LZ (.lst [.int (Ji (Mt U V)),.int (Ji (Mv U V))]):=by rw[ao Y,ag]
 (try dsimp only[SD.gi,SD.dQ,SD.aT,SD.gU,SD.gE,SD.dq,SD.eJ,SD.tBD,SD.gF,SD.EndsD.nxt,SD.EndsD.lp])
 refine Yy (decide (0<=Ji (Mt U V)*Ji (Mv U V))) (decide (0<=Ji (Mt V U)*Ji (Mv V U))) (fun K u=>⟨_,rfl,_,_,c1,rfl,_,rfl,_,_,c1,rfl,aQ (Ci _),trivial,u⟩) (fun _ K u=>⟨_,rfl,_,_,ag,rfl,_,rfl,_,_,ag,rfl,aQ (Ci _),trivial,u⟩) ?_;refine⟨q,.new J (.new hp .refl),k _ fun z=>⟨N,e1,e2,e3,e4,?_⟩⟩;rw[Bool.or_eq_true,MK,MK]at z;exact z
theorem bg:Ml ["_law_row","_law_most","_law_size","_law_shuts","_law_turn_here","_law_one","_law_other","_law_shut"] ["_law_row","_law_most","_law_size"] (av fM):=⋯
inductive Na:Prop
 |mk (r:n7) (x c m':Int) (_:r_=.ref r) (_:sj=.int m') (_:(0<=m'/\m'<=12)) (_:sk=.int 5) (_:M r=LZ (.lst [.int x,.int c])) (_:0<=c) (_:c<1000) (_:∀(M'':MH) (x' c':Int) (l:n7) (ws:rr),r≠l->M'' r=LZ (.lst [.int x',.int c'])->M'' l=LZ (.lst (ws.map uw))->0<=c'->c'<=c+140->(ws.length:Int)<=m'->(∀w∈ws,Mn w)->PF ws->Q (.ref l) M'')
theorem jS(T:Tx K mg):Cal P w K mg base 4 "_law_shuts_here" (Q9 Na):=by
 refine iC (k:=3) T.b8 bg fun f _ _ _ s H _ C=>⟨_,(ak (aA 3 bg.nd (bw af)) (ak (dg Jc rfl rfl T.m_ (ae (aq (aE T).m C (ae (dv 0) (ae (aw aJ (dv 1) aj) af))) af) (aB 4 bg.nd) (ak (aA 5 bg.nd (aF (ae (aq (aE T).m C (ae (dv 0) (ae (dv 2) af))) (ae (aq (aE T).m C (ae (dv 0) (ae (dv 2) af))) af)))) (ak (aA 6 bg.nd (aF (ae (aq (aE T).m C (ae (dv 0) (ae (dv 2) af))) (ae (aq (aE T).m C (ae (dv 0) (ae (dv 2) af))) af)))) (ak (bo (ny (iQ (aL (fI C.units) (dv 3) (bw af)) (fY (aL (fW C.units) (aq (aE T).m C (ae (dv 0) (ae aj af))) aj)))) (au (aA 5 bg.nd (ay (ay (dv 3) (aq (aE T).m C (ae (dv 0) (ae (aP dN rfl T.mA dJ (ae (dv 3) af)) af)))) (aq (aE T).m C (ae (dv 0) (ae aj af)))))) aO) (ak (aA 7 bg.nd (aF (ae (aP (lF rfl C.units) rfl T.mT pC (ae (dv 5) (ae (dv 6) af))) (ae (aP (pA rfl C.units) rfl T.mS ua (ae (dv 5) (ae (dv 6) af))) af)))) (au (bo (ny (iQ (aL (fI C.units) (dv 5) (dv 6)) (fY (de (aP (CJ rfl) rfl T.l4 DV (ae (gO (Mm.of (xs:=["_law_beside"]) (js:=[7]) rfl) rfl (aR (dv 3)) (fun _ _ _ _=>cG) (fun _ _ _ _=>(aq (sJ T).m C (ae (dv 1) (ae (dv 0) af))))) af)))))) (au (cw (bz (dv 3) (ae (dv 7) af)))) aO))))))) (au (aD (dv 3))))),fun _ _ _ M Q h=>?_⟩;obtain⟨r,x0,c0,m,rfl,rfl,hm,rfl,hM,e0,s0,k⟩:=h;refine⟨Mo rfl,fun l hl=>?_⟩;have g:r≠l:=ax hM hl;refine⟨_,rfl,_,rfl,r,m+1,x0,c0,rfl,rfl,(by rw[ao g];exact hM),e0,(),(),bA (),fun x1 v h0 h1=>?_⟩;refine⟨v.toNat,?_,(),fun i δ u=>WN fun(x c:Int) (ws:rr) (o4 o5 o6 o7:ry)=>YM (δ=[r4 r,r8 m,r8 5,r4 l,o4,o5,o6,o7]) (u r=LZ (.lst [.int x,.int c])) (u l=LZ (.lst (ws.map uw))) (0<=c) (c<=c0+1+10*i) (ws.length<=i) (∀w∈ws,Mn w) (PF ws),?_,?_,?_⟩
 ·rw[Int.toNat_of_nonneg h0]
 ·refine⟨x1,c0+1,[],_,_,_,_,rfl,ag,(by rw[ao g.symm,ag];rfl),(),(),⋯,fun w hw=>absurd hw (by simp),Ex⟩
 rotate_left
 ·rintro δ u ⟨x,c,ws,o4,o5,o6,o7,rfl,N,O,g0,g1,g2,R,g4⟩;exact⟨_,rfl,NA (k u x c l ws g N O g0 () () R g4)⟩
 rintro i δ u hi ⟨x,c,ws,o4,o5,o6,o7,rfl,N,O,g0,g1,g2,R,g4⟩;have t0:i<=12:=()
 (try dsimp only[SD.aT])
 refine RE fun B hB=>?_;refine⟨_,rfl,_,rfl,r,5,x,c,rfl,rfl,N,g0,(),⋯,bA ⋯,fun x1 p u0 v0=>?_⟩;refine⟨_,rfl,_,rfl,r,5,x1,c+1,rfl,rfl,ag,(),(),⋯,bA ⋯,fun x2 q w0 y0=>⟨Mo rfl,?_⟩⟩;refine⟨_,rfl,_,rfl,r,5,x2,c+1+1,rfl,rfl,ag,(),(),⋯,bA ⋯,fun x3 e z0 a1=>?_⟩;refine⟨_,rfl,_,rfl,r,5,x3,c+1+1+1,rfl,rfl,ag,(),(),⋯,bA ⋯,fun S f b1 c1=>⟨Mo rfl,?_⟩⟩;have U:(az (az (az (az u r (.lst [.int x1,.int (c+1)])) r (.lst [.int x2,.int (c+1+1)])) r (.lst [.int x3,.int (c+1+1+1)])) r (.lst [.int S,.int (c+1+1+1+1)])) l=LZ (.lst (ws.map uw)):=by rw[ao g.symm,ao g.symm,ao g.symm,ao g.symm];exact O
 have V:(az (az (az (az u r (.lst [.int x1,.int (c+1)])) r (.lst [.int x2,.int (c+1+1)])) r (.lst [.int x3,.int (c+1+1+1)])) r (.lst [.int S,.int (c+1+1+1+1)])) r=LZ (.lst [.int S,.int (c+1+1+1+1)]):=ag;generalize az (az (az (az u r (.lst [.int x1,.int (c+1)])) r (.lst [.int x2,.int (c+1+1)])) r (.lst [.int x3,.int (c+1+1+1)])) r (.lst [.int S,.int (c+1+1+1+1)])=M4 at U V ⊢;(try dsimp only[SD.aT])
 refine bU (fun δ u=>R8 fun(x c' p q:Int) (o7:ry)=>Rk (δ=[r4 r,r8 m,r8 5,r4 l,r8 i,LZ (.tup [.int p,.int q]),LZ (.tup [.int e,.int f]),o7]) (u r=LZ (.lst [.int x,.int c'])) (u l=LZ (.lst (ws.map uw))) (0<=c') (c'<=c+10) (0<=p/\p<=20) (0<=q/\q<=20)) ?_ (fun hu=>?_);rotate_left
 ·refine⟨_,rfl,Mo rfl,fun z hz=>?_⟩;have W:r≠z:=ax V hz;have I:l≠z:=ax U hz;have n:(az M4 z (.lst [])) l=LZ (.lst (ws.map uw)):=by rw[ao I];exact U
  have G:(az M4 z (.lst [])) r=LZ (.lst [.int S,.int (c+1+1+1+1)]):=by rw[ao W];exact V
  refine⟨_,_,.lst n (oX ws),.lst ag .nil,kf ws,rfl,_,rfl,?_⟩;rw[iS];refine bP (fun X=>?_) (fun r0=>?_)
  ·have a0:0<ws.length:=by
    cases ws with
    |nil=>simp at X
    |cons w ws=>simp
   refine⟨_,rfl,r,3,S,c+1+1+1+1,rfl,rfl,G,(),(),⋯,bA ⋯,fun L v5 d1 f1=>⟨trivial,_,rfl,?_⟩⟩;have o:(az (az M4 z (.lst [])) r (.lst [.int L,.int (c+1+1+1+1+1)])) l=LZ (.lst (ws.map uw)):=by rw[ao g.symm];exact n
   refine bP (fun _=>?_) (fun _=>?_)
   ·refine⟨_,rfl,_,rfl,_,rfl,_,o,r,((ws.map uw).length:Int),L,c+1+1+1+1+1,rfl,rfl,ag,(),(),‹a0›,bA (by simp;omega),fun x6 v6 f0 i0=>?_⟩;obtain⟨w,hw,ew⟩:=uN (ws:=ws) f0 ‹i0›;have l0:=R w hw;refine⟨_,_,(by rw[ao g.symm];exact o),ew,?_⟩;refine⟨_,rfl,r,2,x6,c+1+1+1+1+1+1,rfl,rfl,ag,(),(),⋯,bA ⋯,fun x7 v7 m0 n0=>?_⟩;obtain⟨a,b,ea,ha,hb⟩:=xr l0 m0 n0;refine⟨_,ea,hu _ _ ⟨x7,_,a,b,_,rfl,ag,(by rw[ao g.symm,ao g.symm];exact o),(),(),ha,hb⟩⟩
   ·exact hu _ _ ⟨L,_,p,q,_,rfl,ag,o,(),(),(),()⟩
  ·refine jf rfl ?_;exact hu _ _ ⟨S,_,p,q,_,rfl,G,n,(),(),(),()⟩
 rintro δ M5 ⟨L,c5,p,q,o7,rfl,G,n,k0,k1,hp,hq⟩;have he:0<=e/\e<=20:=()
 have hf:0<=f/\f<=20:=()
 refine⟨_,rfl,_,rfl,[p,q],[e,f],rfl,rfl,?_⟩;refine⟨_,rfl,_,rfl,[p,q],[e,f],rfl,rfl,Mo rfl,?_⟩;refine⟨_,rfl,_,rfl,_,_,Pd.of rfl,Pd.of rfl,rfl,rfl,_,rfl,?_⟩;rw[pD];refine bP (fun X=>?_) (fun _=>?_);rotate_left
 ·refine jf rfl ?_;exact hB _ _ ⟨L,c5,ws,_,_,_,_,rfl,G,n,k0,(),(),R,g4⟩
 obtain⟨w,e1,e2,hw⟩:=wZ hp hq he hf (fun⟨a,b⟩=>by simp[a,b]at X);rw[e1,e2];refine⟨_,rfl,ws.map uw,n,?_⟩;refine⟨by simp;omega,fun z hz=>?_⟩;have W:r≠z:=ax G hz;have I:l≠z:=ax n hz;refine⟨fun j ys u=>∃bs:List Bool,ys=bs.map D.bl/\bs.length=j/\(∀(t:Nat) (v:Wl),bs[t]?=LZ MB->ws[t]?=LZ v->Mz w v)/\u=az M5 z (.lst ys),⟨[],rfl,rfl,fun t v h=>by simp at h,rfl⟩,?_,?_,?_⟩
 ·rintro j ys u _ ⟨bs,_,_,_,rfl⟩;show(az M5 z _) l=_;rw[ao I];exact n
 ·rintro j ys d u hj hd ⟨bs,rfl,F,hf,rfl⟩;have hd:(ws.map uw)[j]?=LZ d:=hd;rw[IX]at hd;cases ev:ws[j]? with
  |none=>rw[ev]at hd;cases hd
  |some v=>
   rw[ev]at hd
   cases hd
   refine⟨_,rfl,?_⟩
   dsimp only[SD.lH]
   refine DR ?_
   refine⟨_,rfl,_,rfl,w,v,rfl,rfl,hw,R v (IW ev),fun b hb=>?_⟩
   refine⟨_,.refl,ag,bs++[b],by simp,by simp[F],fun t v' J Y=>?_,by rw[bD]⟩
   rcases Nat.lt_trichotomy t bs.length with y|y|y
   ·rw[JY y]at J;exact hf t v' J Y
   ·subst y;rw[JV (IY _)]at J;have o0:b=MB:=‹J›
    rw[F,ev]at Y;cases Y;exact hb o0
   ·rw[List.getElem?_eq_none (by simp;omega)]at J;cases J
 rintro ys u ⟨bs,rfl,F,hf,rfl⟩;have Z:bs.length=ws.length:=by rw[F];simp
 have o:(az M5 z (.lst (bs.map D.bl))) l=LZ (.lst (ws.map uw)):=by rw[ao I];exact n
 have b0:(az M5 z (.lst (bs.map D.bl))) r=LZ (.lst [.int L,.int c5]):=by rw[ao W];exact G
 refine⟨bs,ag,_,rfl,?_⟩;refine bP (fun d0=>?_) (fun _=>?_)
 ·refine⟨_,rfl,l,_,rfl,o,_,rfl,ws.map uw,_,rfl,o,by simp;omega,?_⟩;refine hB _ _ ⟨L,c5,ws++[w],_,_,_,_,rfl,by rw[ao g];exact b0,by rw[ag,Jg];rfl,k0,(),by simp;omega,fun v hv=>?_,wY g4 fun t v hv=>hf t v ?_ hv⟩
  ·rcases Jn.mp hv with y|y
   ·exact R v y
   ·rw[JS.mp y];exact hw
  ·have J:t<bs.length:=by rw[Z];exact(J1.mp hv).1
   rw[IT J];have:=JR.mp d0 _ (JQ J);exact congrArg LZ this
 ·exact hB _ _ ⟨L,c5,ws,_,_,_,_,rfl,b0,o,k0,(),(),R,g4⟩
theorem f9:Ml ["_law_at","_law_wide","_law_x","_law_y","_law_spots"] ["_law_at","_law_wide"] (av nJ):=⋯
inductive PQ:Prop
 |mk (x y w:Int) (_:r_=.tup [.int x,.int y]) (_:sj=.int w) (_:0<w) (_:∀(M'':MH) (l:n7),SD.Sub M M''->M l=MA->M'' l=LZ (.lst ((OD x y w).map uw))->Q (.ref l) M'')
theorem j0(T:Tx K mg):Cal P w K mg base 1 "_law_box" (NO PQ):=by
 refine bE (k:=0) T.b9 f9 fun f _ _ _ s H _ D=>⟨_,(ak (bZ (dv 0) (bI rfl (aC (aB 2 f9.nd) (aC (aB 3 f9.nd) a9)))) (ak (aA 4 f9.nd (bw (ae (aF (ae (dv 2) (ae (dv 3) af))) (ae (aF (ae (aw aJ (dv 2) (dv 1)) (ae (dv 3) af))) (ae (aF (ae (aw aJ (dv 2) (dv 1)) (ae (aw aJ (dv 3) (dv 1)) af))) (ae (aF (ae (dv 2) (ae (aw aJ (dv 3) (dv 1)) af))) af)))))) (au (aD (lU (Mm.of (xs:=["_law_one","_law_other"]) (js:=[]) rfl) rfl (E3 rfl T.n4 (ae (dv 4) (ae (aw aJ (jA (dv 4) (jb aj) ly) (jA (dv 4) ly (jb aj))) af))) (fun _ _ _ _=>cG) (fun _ _ _ _=>(aF (ae (aP (lF rfl D.units) rfl T.mT pC (ae (dv 0) (ae (dv 1) af))) (ae (aP (pA rfl D.units) rfl T.mS ua (ae (dv 0) (ae (dv 1) af))) af))))))))),fun _ _ M Q h=>?_⟩;obtain⟨x,y,w,rfl,rfl,W,k⟩:=h;refine⟨_,rfl,_,rfl,rfl,_,_,rfl,_,_,rfl,rfl,?_⟩;refine⟨_,rfl,_,rfl,Mo rfl,_,rfl,_,rfl,_,rfl,Mo rfl,_,rfl,_,rfl,_,rfl,_,rfl,Mo rfl,_,rfl,_,rfl,_,rfl,Mo rfl,Mo rfl,fun g B=>?_⟩;refine⟨_,rfl,_,rfl,1,rfl,_,ag,fun t m=>?_⟩;have u:g≠t:=ax ag m;refine⟨_,rfl,1,rfl,_,(by rw[ao u,ag]),fun v j=>?_⟩;have S:t≠v:=ax ag j;have F:g≠v:=ax (by rw[ao u,ag]) j;refine⟨_,_,(by rw[ao S,ag]),ag,Mo rfl,fun n r=>?_⟩;have U:g≠n:=ax (by rw[ao F,ao u,ag]) r;have I:=SD.Sub.new (o:=.lst (cutD (P0 x y w) (LZ 1) MA++cutD (P0 x y w) MA (LZ 1))) r (.new j (.new m (.new B .refl)));have C:=(show(az (az (az (az M g (.lst (P0 x y w))) t (.lst (cutD (P0 x y w) (LZ 1) MA))) v (.lst (cutD (P0 x y w) MA (LZ 1)))) n (.lst (cutD (P0 x y w) (LZ 1) MA++cutD (P0 x y w) MA (LZ 1)))) g=LZ (.lst (P0 x y w)) by rw[ao U,ao F,ao u,ag]);refine⟨g,n,_,[.tup [.int (x+w),.int y],.tup [.int (x+w),.int (y+w)],.tup [.int x,.int (y+w)],.tup [.int x,.int y]],rfl,C,ag,?_⟩;have J:=(show(az (az (az (az M g (.lst (P0 x y w))) t (.lst (cutD (P0 x y w) (LZ 1) MA))) v (.lst (cutD (P0 x y w) MA (LZ 1)))) n (.lst (cutD (P0 x y w) (LZ 1) MA++cutD (P0 x y w) MA (LZ 1)))) n=LZ (.lst [.tup [.int (x+w),.int y],.tup [.int (x+w),.int (y+w)],.tup [.int x,.int (y+w)],.tup [.int x,.int y]])from ag);refine comp_map (fun i=>(((OD x y w).map uw)[i]?).getD .non) (Mo rfl) (fun q X N=>⟨by rw[ao (ax C N)];exact C,by rw[ao (ax J N)];exact J⟩) ?_ (fun p O=>?_)
 ·intro i d z R hd V;have R:i<4:=R;have L:∀a b c e:Int,Mk [a,b] [c,e]=decide (a<c\/(a=c/\b<e)):=fun a b c e=>by rw[Kn,Mc,MK]
  have G:∀a b c e:Int,HT.dF [a,b] [c,e]=decide (c<a\/(c=a/\e<b)):=fun a b c e=>by rw[Ma.nP,L]
  rcases(():i=0\/i=1\/i=2\/i=3)with rfl|rfl|rfl|rfl
  ·cases hd;refine⟨_,⟨_,rfl,rfl,rfl⟩,fun K l=>?_⟩;refine⟨_,rfl,_,rfl,[x,y],[x+w,y],rfl,rfl,_,rfl,_,rfl,[x,y],[x+w,y],rfl,rfl,Mo rfl,?_⟩;rw[L,G,MD (by simp;omega),ME (by simp;omega)];exact l z .refl
  ·cases hd;refine⟨_,⟨_,rfl,rfl,rfl⟩,fun K l=>?_⟩;refine⟨_,rfl,_,rfl,[x+w,y],[x+w,y+w],rfl,rfl,_,rfl,_,rfl,[x+w,y],[x+w,y+w],rfl,rfl,Mo rfl,?_⟩;rw[L,G,MD (by simp;omega),ME (by simp;omega)];exact l z .refl
  ·cases hd;refine⟨_,⟨_,rfl,rfl,rfl⟩,fun K l=>?_⟩;refine⟨_,rfl,_,rfl,[x+w,y+w],[x,y+w],rfl,rfl,_,rfl,_,rfl,[x+w,y+w],[x,y+w],rfl,rfl,Mo rfl,?_⟩;rw[L,G,ME (by simp;omega),MD (by simp;omega)];exact l z .refl
  ·cases hd;refine⟨_,⟨_,rfl,rfl,rfl⟩,fun K l=>?_⟩;refine⟨_,rfl,_,rfl,[x,y+w],[x,y],rfl,rfl,_,rfl,_,rfl,[x,y+w],[x,y],rfl,rfl,Mo rfl,?_⟩;rw[L,G,ME (by simp;omega),MD (by simp;omega)];exact l z .refl
 ·refine NA (k _ p (.new O I) ?_ ?_)
  ·cases e:M p with
   |none=>rfl
   |some o=>exact absurd ((I _ _ e).symm.trans O) (by simp)
  ·rw[ag];rfl
theorem f6:Ml ["_law_row","_law_many","_law_found","_law_number"] ["_law_row","_law_many"] (av kH):=⋯
inductive OX:Prop
 |mk (r:n7) (x c:Int) (n:Nat) (_:r_=.ref r) (_:sj=.int (n:Int)) (_:n<=40) (_:M r=LZ (.lst [.int x,.int c])) (_:0<=c) (_:c<2000) (_:∀(M'':MH) (x':Int) (l:n7) (os:pq),r≠l->M'' r=LZ (.lst [.int x',.int (c+n)])->(∀a o,a≠r->M a=LZ o->M'' a=LZ o)->M l=MA->M'' l=LZ (.lst (os.map fun o:Nat=>D.int (o:Int)))->os.Perm (J8 n)->Q (.ref l) M'')
theorem rH(T:Tx K mg):Cal P w K mg base 2 "_law_order" (NO OX):=by
 refine bE (k:=1) T.b_ f6 fun f _ _ _ s H _ C=>⟨_,(ak (aA 2 f6.nd (bw af)) (ak (dg Jc rfl rfl T.m_ (ae (dv 1) af) (aB 3 f6.nd) (au (cw (gH (dv 2) (ae (aq (aE T).m C (ae (dv 0) (ae (aw aJ (dv 3) aj) af))) (ae (dv 3) af)))))) (au (aD (dv 2))))),fun _ _ M Q h=>?_⟩;obtain⟨r,x,c,n,rfl,rfl,O,v,F,G,k⟩:=h;refine⟨Mo rfl,fun l p=>?_⟩;have q:r≠l:=ax v p;refine⟨_,rfl,n,rfl,(),fun i δ e=>Qu fun(g:Int) (os:pq) (u:ry)=>SA (δ=[r4 r,r8 n,r4 l,u]) (e r=LZ (.lst [.int g,.int (c+i)])) (∀a o,a≠r->M a=LZ o->e a=LZ o) (e l=LZ (.lst (os.map fun o:Nat=>D.int (o:Int)))) (os.Perm (J8 i)),⟨x,[],_,rfl,(by rw[ao q];simpa using v),(fun a o _ h=>by rw[ao (ax h p)];exact h),ag,by simp⟩,?_,?_⟩
 ·rintro i δ R S ⟨g,os,u,rfl,d,kp,b,t⟩;have y:os.length=i:=by rw[t.length_eq,List.length_range]
  refine⟨_,rfl,l,_,rfl,b,?_⟩;refine⟨_,rfl,_,rfl,r,(i:Int)+1,g,c+i,rfl,rfl,d,(),(),(),bA (),fun I z J L=>?_⟩;obtain⟨j,rfl⟩:∃j:Nat,z=(j:Int):=⟨z.toNat,()⟩;refine⟨_,rfl,_,_,j,rfl,(by rw[ao q.symm];exact b),by simp;omega,by simp;omega,?_⟩;refine⟨I,gJ os j i,_,rfl,(by rw[ao q,ag,show c+((i+1:Nat):Int)=c+(i:Int)+1 by omega]),(fun a o B h=>?_),(by rw[ag,lR]),?_⟩
  ·have N:a≠l:=ax h p;rw[ao N,ao B];exact kp a o B h
  ·rw[Kw];exact(om os j i).trans ((List.Perm.cons _ t).trans (by simpa using(List.perm_append_comm (l₁:=[i]) (l₂:=J8 i))))
 ·rintro δ e ⟨g,os,u,rfl,d,kp,b,t⟩;exact⟨_,rfl,NA (k e g l os q d kp p b t)⟩
theorem bY:Ml ["_law_row","_law_shuts","_law_at","_law_turn_here"] ["_law_row"] (av nR):=⋯
inductive PM:Prop
 |mk (r:n7) (x c:Int) (_:r_=.ref r) (_:M r=LZ (.lst [.int x,.int c])) (_:0<=c) (_:c<1000) (_:∀(M'':MH) (x' c':Int) (l:n7) (ws:rr),r≠l->M'' r=LZ (.lst [.int x',.int c'])->M'' l=LZ (.lst (ws.map uw))->0<=c'->c'<=c+100->ws.length<=19->(∀w∈ws,Mn w)->PF ws->Q (.ref l) M'')
theorem wm(T:Tx K mg):Cal P w K mg base 3 "_law_set" (Ox PM):=by
 refine eV (k:=2) T.cb bY fun f cdv A outer s H E u=>⟨_,(ak (aA 1 bY.nd (bw af)) (ak (aA 2 bY.nd aj) (ak (dg Jc rfl rfl T.m_ (ae (aw aJ aj (aq (aE T).m u (ae (dv 0) (ae aj af)))) af) (aB 3 bY.nd) (ak (aA 1 bY.nd (aw aJ (dv 1) (aq (j0 T).m u (ae (aF (ae (dv 2) (ae (dv 2) af))) (ae (aw cE aj (aw aH aj (dv 2))) af))))) (au (aA 2 bY.nd (aw aJ (aw aJ (dv 2) aj) (aq (aE T).m u (ae (dv 0) (ae aj af)))))))) (ak (bo (aL (cu u.units) (aq (aE T).m u (ae (dv 0) (ae aj af))) aj) (au (aA 1 bY.nd (aw aJ (dv 1) (aq (j0 T).m u (ae (aF (ae (aw aJ (dv 2) (aq (aE T).m u (ae (dv 0) (ae aj af)))) (ae (aw aJ (dv 2) (aq (aE T).m u (ae (dv 0) (ae aj af)))) af))) (ae (aw aJ aj (aq (aE T).m u (ae (dv 0) (ae aj af)))) af)))))) aO) (ak (bo (aL (cu u.units) (aq (aE T).m u (ae (dv 0) (ae aj af))) aj) (au (cw (bz (dv 1) (ae (aF (ae (aF (ae aj (ae aj af))) (ae (aF (ae aj (ae aj af))) af))) af)))) aO) (ak (dg Jc rfl rfl T.m_ (ae (aq (aE T).m u (ae (dv 0) (ae aj af))) af) (aB 3 bY.nd) (au (cw (bz (dv 1) (ae (aF (ae (aF (ae (dv 2) (ae (aw aJ aj (dv 3)) af))) (ae (aF (ae (aw aJ (dv 2) aj) (ae (aw aJ aj (dv 3)) af))) af))) af))))) (ak (bo (aL (cu u.units) (aq (aE T).m u (ae (dv 0) (ae aj af))) aj) (au (aA 1 bY.nd (aw aJ (dv 1) (aq (j0 T).m u (ae (aF (ae aj (ae aj af))) (ae aj af)))))) aO) (au (aD (gO (Mm.of (xs:=["_law_number"]) (js:=[1]) rfl) rfl (aR (aq (rH T).m u (ae (dv 0) (ae (aP dN rfl T.mA dJ (ae (dv 1) af)) af)))) (fun _ _ _ _=>cG) (fun _ _ _ _=>(ay (dv 1) (dv 0))))))))))))),fun _ M Q h=>?_⟩;obtain⟨r,x,c,rfl,hM,x0,k1,k⟩:=h;have sz:1000000<=J7:=Mo rfl;have b4:∀(x y w:Int) (us:rr),us.length<=100->(us.map uw).length+((OD x y w).map uw).length<=J7:=fun x y w us h=>by rw[IV,IV];show us.length+4<=J7;omega
 refine⟨Mo rfl,fun l0 i0=>?_⟩;have Y:r≠l0:=ax hM i0;have a0:(az M l0 (.lst [])) r=LZ (.lst [.int x,.int c]):=by rw[ao Y];exact hM
 have b0:(az M l0 (.lst [])) l0=LZ (.lst (([]:rr).map uw)):=ag;generalize az M l0 (.lst [])=M1 at a0 b0 ⊢;(try dsimp only[SD.aT])
 refine bU (fun δ j=>δ=[r4 r,r4 l0,r8 0,MA]/\j=M1) ?_ (fun L=>L _ _ ⟨rfl,rfl⟩);rintro δ j ⟨rfl,rfl⟩;refine bU (fun δ j=>WO fun(l:n7) (us:rr) (a F t:Int) (z:ry)=>Rk (δ=[r4 r,r4 l,r8 a,z]) (j r=LZ (.lst [.int F,.int t])) (j l=LZ (.lst (us.map uw))) (r≠l) (0<=t) (t<=c+3) ((us,a)∈pX)) ?_ (fun L=>?_);rotate_left
 ·refine⟨_,rfl,r,2,x,c,rfl,rfl,a0,x0,(),⋯,bA ⋯,fun x1 v h0 h1=>?_⟩;obtain⟨n,rfl⟩:∃n:Nat,v=(n:Int):=⟨v.toNat,()⟩;refine⟨1+n,by simp,(),fun i δ j=>R8 fun(l:n7) (us:rr) (a F:Int) (z:ry)=>SA (δ=[r4 r,r4 l,r8 a,z]) (j r=LZ (.lst [.int F,.int (c+1+i)])) (j l=LZ (.lst (us.map uw))) (r≠l) ((i=0/\us=[]/\a=0)\/(i=1/\us=OD 0 0 12/\(a=1\/a=2))\/(i=2/\(us,a)∈pX)),⟨l0,[],0,x1,_,rfl,(by rw[ag];simp),(by rw[ao Y.symm];exact b0),Y,.inl ⟨rfl,rfl,rfl⟩⟩,?_,?_⟩
  ·rintro i δ M2 hi ⟨l,us,a,F,z,rfl,G,N,b,st⟩
   have ha:0<=a/\a<=2/\us.length<=4/\i<=1:=by
    rcases st with⟨e1,e2,e3⟩|⟨e1,e2,e3⟩|⟨e1,_⟩
    ·subst e2;simp;omega
    ·subst e2;show _/\_/\4<=4/\_;omega
    ·omega
   have y0:Bd 64 a:=bA ();refine⟨_,rfl,_,rfl,_,rfl,Mo rfl,_,rfl,dh y0,trivial,a,a,12-2*a,rfl,rfl,(),fun M3 lb c0 k0 W=>?_⟩;refine⟨_,_,c0 _ _ N,W,b4 _ _ _ us (),fun l3 I=>?_⟩;have d0:r≠l3:=ax (c0 _ _ G) I;refine⟨_,rfl,_,rfl,r,2,F,c+1+i,rfl,rfl,(by rw[ao d0];exact c0 _ _ G),(),(),⋯,bA ⋯,fun x2 v2 m1 n1=>?_⟩;refine⟨l3,us++OD a a (12-2*a),a+1+v2,x2,_,rfl,(by rw[ag,show c+1+((i+1:Nat):Int)=c+1+(i:Int)+1 by omega]),(by rw[ao d0.symm,ag,Jg]),d0,?_⟩;rcases st with⟨e1,rfl,rfl⟩|⟨e1,rfl,e3⟩|⟨e1,_⟩
   ·exact .inr (.inl ⟨(),rfl,()⟩)
   ·refine .inr (.inr ⟨(),?_⟩);rcases(():v2=0\/v2=1)with rfl|rfl<;>rcases e3 with rfl|rfl<;>simp[pX]
   ·omega
  ·rintro δ j ⟨l,us,a,F,z,rfl,G,N,b,st⟩;refine L _ _ ⟨l,us,a,F,_,_,rfl,G,N,b,(),(),?_⟩;rcases st with⟨e1,_⟩|⟨e1,rfl,e3⟩|⟨e1,g⟩
   ·omega
   ·rcases e3 with rfl|rfl<;>simp[pX]
   ·exact g
 clear a0 b0 i0 Y;rintro δ M2 ⟨l,us,a,x2,c2,z,rfl,G,N,b,z0,o1,gm⟩
 have ga:(1<=a/\a<=4)/\us.length<=8:=by
  have:(pX.all fun g=>decide ((1<=g.2/\g.2<=4)/\g.1.length<=8))=MB:=by decide +kernel
  exact MI (JR.mp this _ gm)
 (try dsimp only[SD.aT])
 refine bU (fun δ j=>Y4 fun(l:n7) (A:rr) (t1 Z t3 F t:Int) (z:ry)=>WC (δ=[r4 r,r4 l,r8 a,z]) (j r=LZ (.lst [.int F,.int t])) (j l=LZ (.lst ((us++A).map uw))) (r≠l) (0<=t) (t<=c+10) (0<=t1/\t1<2) (0<=Z/\Z<2) (0<=t3/\t3<2) (A.Sublist (OD (a+t1) (a+Z) (1+t3))) (A.length<=4)) ?_ (fun L=>?_);rotate_left
 ·refine⟨_,rfl,r,2,x2,c2,rfl,rfl,G,z0,(),⋯,bA ⋯,fun x3 v3 p1 r1=>⟨_,rfl,?_⟩⟩;have I:(az M2 r (.lst [.int x3,.int (c2+1)])) l=LZ (.lst (us.map uw)):=by rw[ao b.symm];exact N
  refine bP (fun _=>?_) (fun _=>?_)
  ·refine⟨_,rfl,_,rfl,_,rfl,r,2,x3,c2+1,rfl,rfl,ag,(),(),⋯,bA ⋯,fun x4 t1 m0 n0=>?_⟩;refine⟨_,rfl,_,rfl,r,2,x4,c2+1+1,rfl,rfl,ag,(),(),⋯,bA ⋯,fun x5 Z o0 r0=>⟨Mo rfl,?_⟩⟩;refine⟨_,rfl,r,2,x5,c2+1+1+1,rfl,rfl,ag,(),(),⋯,bA ⋯,fun x6 t3 s0 t0=>?_⟩;refine⟨a+t1,a+Z,1+t3,rfl,rfl,(),fun M7 lb O k0 W=>?_⟩;have e0:=O l (.lst (us.map uw)) (by rw[ao b.symm,ao b.symm,ao b.symm];exact I);have R:=O _ _ ag;refine⟨_,_,e0,W,b4 _ _ _ us (),fun l8 f0=>?_⟩;have X:r≠l8:=ax R f0;exact L _ _ ⟨l8,OD (a+t1) (a+Z) (1+t3),t1,Z,t3,x6,_,_,rfl,(by rw[ao X];exact R),(by rw[ag,Jg]),X,(),(),⟨m0,n0⟩,⟨o0,r0⟩,⟨s0,t0⟩,List.Sublist.refl _,IY _⟩
  ·exact L _ _ ⟨l,[],0,0,0,x3,c2+1,_,rfl,ag,(by rw[JX];exact I),b,(),(),⋯,⋯,⋯,List.nil_sublist _,Kf _⟩
 clear G N b;rintro δ M3 ⟨l,A,t1,Z,t3,x3,c3,z,rfl,u0,I,b,a1,s1,T1,T2,T3,sA,lA⟩;(try dsimp only[SD.aT])
 refine bU (fun δ j=>Qu fun(B:rr) (F t:Int)=>Rk (δ=[r4 r,r4 l,r8 a,z]) (j r=LZ (.lst [.int F,.int t])) (j l=LZ (.lst (((us++A)++B).map uw))) (0<=t) (t<=c+11) (B.Sublist [(9,8,9,9)]) (B.length<=1)) ?_ (fun L=>?_);rotate_left
 ·refine⟨_,rfl,r,2,x3,c3,rfl,rfl,u0,a1,(),⋯,bA ⋯,fun x4 v4 m0 n0=>⟨_,rfl,?_⟩⟩;have S:(az M3 r (.lst [.int x4,.int (c3+1)])) l=LZ (.lst ((us++A).map uw)):=by rw[ao b.symm];exact I
  refine bP (fun _=>?_) (fun _=>?_)
  ·refine⟨_,rfl,l,_,rfl,S,Mo rfl,Mo rfl,Mo rfl,_,_,rfl,S,by simp;omega,?_⟩;exact L _ _ ⟨[(9,8,9,9)],x4,c3+1,rfl,(by rw[ao b,ag]),(by rw[ag,Jg (l₂:=[(9,8,9,9)])];rfl),(),(),List.Sublist.refl _,IY _⟩
  ·exact L _ _ ⟨[],x4,c3+1,rfl,ag,(by rw[JX];exact S),(),(),List.nil_sublist _,Kf _⟩
 clear u0 I;rintro δ M4 ⟨B,x4,c4,rfl,v0,S,b1,u1,sB,lB⟩;(try dsimp only[SD.aT])
 refine bU (fun δ j=>WB fun(C:rr) (F t:Int) (z:ry)=>Rk (δ=[r4 r,r4 l,r8 a,z]) (j r=LZ (.lst [.int F,.int t])) (j l=LZ (.lst ((((us++A)++B)++C).map uw))) (0<=t) (t<=c+12) (C.Sublist [(a,8,a+1,8),(a,9,a+1,9)]) (C.length<=2)) ?_ (fun L=>?_);rotate_left
 ·refine⟨_,rfl,r,3,x4,c4,rfl,rfl,v0,b1,(),⋯,bA ⋯,fun x5 v5 o0 r0=>?_⟩;obtain⟨n,rfl⟩:∃n:Nat,v5=(n:Int):=⟨v5.toNat,()⟩;refine⟨n,by simp,(),fun i δ j=>∃(z:ry),δ=[r4 r,r4 l,r8 a,z]/\j r=LZ (.lst [.int x5,.int (c4+1)])/\j l=LZ (.lst ((((us++A)++B)++([(a,8,a+1,8),(a,9,a+1,9)]:rr).take i).map uw)),⟨_,rfl,ag,(by rw[ao b.symm];simpa using S)⟩,?_,?_⟩
  ·rintro i δ M5 hi ⟨z,rfl,U,J⟩;refine⟨_,rfl,l,_,rfl,J,_,rfl,_,rfl,Mo rfl,_,rfl,_,rfl,Mo rfl,Mo rfl,_,_,rfl,J,by simp;omega,?_⟩;refine⟨_,rfl,(by rw[ao b];exact U),?_⟩;rw[ag];rcases(():i=0\/i=1)with rfl|rfl
   ·simp[uw]
   ·simp[uw]
  ·rintro δ M5 ⟨z,rfl,U,J⟩;exact L _ _ ⟨_,x5,c4+1,_,rfl,U,J,(),(),List.take_sublist _ _,by simp;omega⟩
 clear v0 S;rintro δ M5 ⟨C,x5,c5,c1,rfl,U,J,d1,v1,sC,lC⟩;(try dsimp only[SD.aT])
 refine bU (fun δ j=>WB fun(l':n7) (E:rr) (F t:Int)=>YM (δ=[r4 r,r4 l',r8 a,c1]) (j r=LZ (.lst [.int F,.int t])) (j l'=LZ (.lst (((((us++A)++B)++C)++E).map uw))) (r≠l') (0<=t) (t<=c+13) (E.Sublist (OD 12 12 2)) (E.length<=4)) ?_ (fun L=>?_);rotate_left
 ·refine⟨_,rfl,r,2,x5,c5,rfl,rfl,U,d1,(),⋯,bA ⋯,fun x6 v6 s0 t0=>⟨_,rfl,?_⟩⟩;have V:(az M5 r (.lst [.int x6,.int (c5+1)])) l=LZ (.lst ((((us++A)++B)++C).map uw)):=by rw[ao b.symm];exact J
  refine bP (fun _=>?_) (fun _=>?_)
  ·refine⟨_,rfl,Mo rfl,12,12,2,rfl,rfl,⋯,fun M7 lb O k0 W=>?_⟩;refine⟨_,_,O _ _ V,W,b4 _ _ _ _ (by simp;omega),fun l8 f0=>?_⟩;have X:r≠l8:=ax (O _ _ ag) f0;exact L _ _ ⟨l8,OD 12 12 2,x6,c5+1,rfl,(by rw[ao X];exact O _ _ ag),(by rw[ag];simp only[Jg]),X,(),(),List.Sublist.refl _,IY _⟩
  ·exact L _ _ ⟨l,[],x6,c5+1,rfl,ag,(by rw[JX];exact V),b,(),(),List.nil_sublist _,Kf _⟩
 clear U J b;rintro δ M6 ⟨l',E,x6,c6,rfl,f1,V,b,g1,w1,sE,lE⟩;have sub:(((((us++A)++B)++C)++E)).Sublist (RF us a t1 Z t3):=by unfold RF;rw[LG,LG,LG];exact(List.Sublist.refl us).append (sA.append (sB.append (sC.append sE)))
 have lv:(((((us++A)++B)++C)++E)).length<=30:=by simp;omega
 generalize ((((us++A)++B)++C)++E)=vs at V sub lv;refine⟨_,rfl,_,rfl,_,V,r,x6,c6,vs.length,rfl,by simp,(),f1,g1,(),fun M7 x7 lo os y1 R i1 z1 g0 pm=>?_⟩;have e0:=i1 _ _ b.symm V;have ol:os.length=vs.length:=by rw[pm.length_eq,List.length_range]
 refine⟨_,g0,comp_map (fun i=>(((os.map fun o=>(vs[o]?).getD (0,0,0,0)).map uw)[i]?).getD .non) (by show(os.map fun o:Nat=>D.int (o:Int)).length<=1000000;rw[IV];omega) (fun q ys hq=>by show(az M7 q _) lo=_;rw[ao (ax g0 hq)];exact g0) ?_ (fun p hp=>?_)⟩
 ·intro i d M8 hi hd j1;have hd:(os.map fun o:Nat=>D.int (o:Int))[i]?=LZ d:=hd;rw[IX]at hd;cases eo:os[i]? with
  |none=>rw[eo]at hd;cases hd
  |some o=>
   rw[eo]at hd
   cases hd
   have ov:o<vs.length:=Jv.mp (pm.mem_iff.mp (IW eo))
   refine⟨_,rfl,fun K hK=>?_⟩
   have w0:=hK M8 .refl
   rw[L7,getD_map eo]at w0
   refine⟨_,rfl,_,rfl,_,_,j1 _ _ e0,cM (v:=uw vs[o]) (by rw[IX,IT ov];rfl),?_⟩
   have e:(vs[o]?).getD (0,0,0,0)=vs[o]:=by rw[IT ov];rfl
   rw[<-e]
   exact w0
 have e:(J8 (os.map fun o:Nat=>D.int (o:Int)).length).map (fun i=>(((os.map fun o=>(vs[o]?).getD (0,0,0,0)).map uw)[i]?).getD .non)=(os.map fun o=>(vs[o]?).getD (0,0,0,0)).map uw:=by
  have:=SD.range_getD ((os.map fun o=>(vs[o]?).getD (0,0,0,0)).map uw)
  simpa using this
 dsimp only;rw[e]
 have pv:(os.map fun o=>(vs[o]?).getD (0,0,0,0)).Perm vs:=by
  refine(pm.map _).trans ?_
  have:(J8 vs.length).map (fun o=>(vs[o]?).getD (0,0,0,0))=vs:=by
   apply List.ext_getElem
   ·simp
   ·intro i h1 h2;simp[h2]
  rw[this]
 obtain⟨q1,q2,q3⟩:=DO gm T1 T2 T3 sub pv;exact NA (k _ x7 _ p _ (ax R hp) (by rw[ao (ax R hp)];exact R) ag () () q3 q2 q1)
theorem bN:Ml ["_law_row","_law_many","_law_shuts","_law_k","_law_found","_law_number"] ["_law_row"] (av iF):=⋯
inductive Nw:Prop
 |mk (r:n7) (x c:Int) (_:r_=.ref r) (_:M r=LZ (.lst [.int x,.int c])) (_:0<=c) (_:c<1000) (_:∀(M'':MH) (x' c':Int) (l:n7) (ws:rr),r≠l->M'' r=LZ (.lst [.int x',.int c'])->M'' l=LZ (.lst (ws.map uw))->0<=c'->c'<=c+41->PF ws->(∀w∈ws,Mn w)->ws.length<=40->Q (.ref l) M'')
theorem m8(T:Tx K mg):Cal P w K mg base 2 "_law_squares" (Ox Nw):=by
 refine eV (k:=1) T.cm bN fun f _ _ _ s H _ hr=>⟨_,(ak (aA 1 bN.nd (aw aJ aj (aq (aE T).m hr (ae (dv 0) (ae aj af))))) (ak (aA 2 bN.nd (bw (ae (aF (ae (aF (ae (dv 1) (ae aj af))) (ae (aF (ae (dv 1) (ae aj af))) af))) af))) (ak (dg Jc rfl rfl T.m_ (ae (dv 1) af) (aB 3 bN.nd) (au (aA 2 bN.nd (aw aJ (dv 2) (bw (ae (aF (ae (aF (ae (dv 3) (ae aj af))) (ae (aF (ae (aw aJ (dv 3) aj) (ae aj af))) af))) (ae (aF (ae (aF (ae (dv 3) (ae aj af))) (ae (aF (ae (aw aJ (dv 3) aj) (ae aj af))) af))) (ae (aF (ae (aF (ae (dv 3) (ae aj af))) (ae (aF (ae (dv 3) (ae aj af))) af))) af)))))))) (ak (aA 4 bN.nd (bw af)) (ak (dg Jc rfl rfl T.m_ (ae (aP dN rfl T.mA dJ (ae (dv 2) af)) af) (aB 5 bN.nd) (au (cw (gH (dv 4) (ae (aq (aE T).m hr (ae (dv 0) (ae (aw aJ (dv 5) aj) af))) (ae (ay (dv 2) (dv 5)) af)))))) (au (aD (dv 4)))))))),fun _ M Q h=>?_⟩;obtain⟨r,x,c,rfl,hM,W,c0,k⟩:=h;refine⟨_,rfl,r,8,x,c,rfl,rfl,hM,W,(),⋯,bA ⋯,fun x1 v h0 h1=>?_⟩;obtain⟨n,rfl⟩:∃n:Nat,v=(n:Int):=⟨v.toNat,()⟩;refine⟨_,rfl,Mo rfl,_,rfl,Mo rfl,Mo rfl,Mo rfl,fun C X=>?_⟩;have I:r≠C:=ax ag X;have J:(az (az M r (.lst [.int x1,.int (c+1)])) C (.lst [.tup [.tup [.int (6+(n:Int)),.int 0],.tup [.int (6+(n:Int)),.int 1]]])) r=LZ (.lst [.int x1,.int (c+1)]):=by rw[ao I,ag]
 have L:(az (az M r (.lst [.int x1,.int (c+1)])) C (.lst [.tup [.tup [.int (6+(n:Int)),.int 0],.tup [.int (6+(n:Int)),.int 1]]])) C=LZ (.lst ((OB ((6+n:Nat):Int) 0).map uw)):=by rw[ag];simp[OB,NZ,uw]
 generalize az (az M r (.lst [.int x1,.int (c+1)])) C _=M1 at J L ⊢;(try dsimp only[SD.aT])
 refine bU (fun δ g=>WB fun(l2:n7) (F N q:ry)=>Rl (δ=[r4 r,r8 ((6+n:Nat):Int),r4 l2,F,N,q]) (g r=LZ (.lst [.int x1,.int (c+1)])) (g l2=LZ (.lst ((OB ((6+n:Nat):Int) (6+n)).map uw))) (r≠l2)) ?_ (fun hu=>?_);rotate_left
 ·refine⟨_,rfl,6+n,by simp,(),fun i δ g=>WB fun(l2:n7) (F N q:ry)=>Rl (δ=[r4 r,r8 ((6+n:Nat):Int),r4 l2,F,N,q]) (g r=LZ (.lst [.int x1,.int (c+1)])) (g l2=LZ (.lst ((OB ((6+n:Nat):Int) i).map uw))) (r≠l2),⟨C,_,_,_,by simp;rfl,J,L,I⟩,?_,fun δ g h=>hu _ _ h⟩;rintro i δ G hi ⟨l2,F,N,q,rfl,l,o,y⟩;have sz:1000000<=J7:=Mo rfl;have b:=k5 ((6+n:Nat):Int) i;refine⟨_,rfl,?_⟩;refine⟨_,rfl,Mo rfl,_,rfl,Mo rfl,Mo rfl,?_⟩;refine⟨_,rfl,Mo rfl,_,rfl,Mo rfl,Mo rfl,?_⟩;refine⟨_,rfl,Mo rfl,_,rfl,Mo rfl,Mo rfl,Mo rfl,fun Y e=>?_⟩;have Z:l2≠Y:=ax o e;have a0:r≠Y:=ax l e;refine⟨_,_,(by rw[ao Z];exact o),ag,(by rw[IV,b];show 1+3*i+3<=J7;omega),fun d t=>?_⟩;have p:(az G Y (.lst [.tup [.tup [.int (i:Int),.int 0],.tup [.int ((i:Int)+1),.int 0]],.tup [.tup [.int (i:Int),.int 1],.tup [.int ((i:Int)+1),.int 1]],.tup [.tup [.int (i:Int),.int 0],.tup [.int (i:Int),.int 1]]])) r=LZ (.lst [.int x1,.int (c+1)]):=by rw[ao a0];exact l
  have a:r≠d:=ax p t;exact⟨d,_,_,_,rfl,by rw[ao a];exact p,by rw[ag,OB,Jg];rfl,a⟩
 rintro δ G ⟨l2,F,N,q,rfl,l,o,y⟩;have b:=k5 ((6+n:Nat):Int) (6+n);refine⟨Mo rfl,fun d t=>?_⟩;have a:r≠d:=ax l t;have O:l2≠d:=ax o t;have p:(az G d (.lst [])) r=LZ (.lst [.int x1,.int (c+1)]):=by rw[ao a];exact l
 have e:(az G d (.lst [])) l2=LZ (.lst ((OB ((6+n:Nat):Int) (6+n)).map uw)):=by rw[ao O];exact o
 have R:(az G d (.lst [])) d=LZ (.lst (([]:rr).map uw)):=ag;generalize az G d (.lst [])=M3 at p e R ⊢;refine⟨_,rfl,_,e,1+3*(6+n),by rw[IV,b],(),fun i δ g=>Qu fun(S:Int) (ws:rr) (q:ry)=>SA (δ=[r4 r,r8 ((6+n:Nat):Int),r4 l2,F,r4 d,q]) (g r=LZ (.lst [.int S,.int (c+1+i)])) (g l2=LZ (.lst ((OB ((6+n:Nat):Int) (6+n)).map uw))) (g d=LZ (.lst (ws.map uw))) (ws.Perm ((OB ((6+n:Nat):Int) (6+n)).take i)),⟨x1,[],_,rfl,‹p›,e,R,by simp⟩,?_,?_⟩;rotate_left
 ·rintro δ g ⟨S,ws,q,rfl,z,B,u,U⟩;rw[K6 ()]at U;obtain⟨q1,q2,q3⟩:=GO (m:=6+n) () U;exact⟨_,rfl,NA (k g S _ d ws a z u () () q1 q2 q3)⟩
 rintro i δ M4 hi ⟨S,ws,q,rfl,z,B,u,U⟩;have b0:ws.length=i:=by rw[U.length_eq,L3,b];omega
 have V:i<(OB ((6+n:Nat):Int) (6+n)).length:=()
 refine⟨_,rfl,d,_,rfl,u,?_⟩;refine⟨_,rfl,_,rfl,r,(i:Int)+1,S,c+1+i,rfl,rfl,z,(),(),(),bA (),fun x2 v2 d0 e0=>?_⟩;obtain⟨j,rfl⟩:∃j:Nat,v2=(j:Int):=⟨v2.toNat,()⟩;refine⟨_,rfl,_,rfl,_,_,(by rw[ao y.symm];exact B),cM (v:=uw (OB ((6+n:Nat):Int) (6+n))[i]) (by rw[IX,IT V];rfl),?_⟩;refine⟨_,_,j,rfl,(by rw[ao a.symm];exact u),by simp;omega,by simp;omega,?_⟩;refine⟨x2,gJ ws j (OB ((6+n:Nat):Int) (6+n))[i],_,rfl,(by rw[ao a,ag,show c+1+((i+1:Nat):Int)=c+1+(i:Int)+1 by omega]),(by rw[ao O,ao y.symm];exact B),(by rw[ag,lR]),?_⟩;rw[Kj,IT V];exact(om ws j _).trans ((List.Perm.cons _ U).trans (by simpa using(List.perm_append_comm (l₁:=[(OB ((6+n:Nat):Int) (6+n))[i]]) (l₂:=(OB ((6+n:Nat):Int) (6+n)).take i))))
theorem eD:Ml ["_law_top","_law_bottom","_law_one","_law_other"] ["_law_top","_law_bottom"] (av nY):=⋯
inductive PN:Prop
 |mk (t:_) (b:_) (_:r_=.int t) (_:sj=.int b) (_:b≠0) (_:Bd 8000 t) (_:Bd 8000 b) (_:Q (Mg (Rat.divInt t b)) M)
theorem gV(T:Tx K mg):Cal P w K mg base 1 "_law_low" (NO PN):=by
 refine bE (k:=0) T.cp eD fun f _ _ _ s H _ l=>⟨_,(ak (aA 2 eD.nd (aP pM rfl T.lz oP (ae (dv 0) af))) (ak (aA 3 eD.nd (aP pM rfl T.lz oP (ae (dv 1) af))) (ak (gT Jc (aL (fI l.units) (dv 3) aj) (au (gb 2 3 rfl eD.nd (ae (dv 3) (ae (aw fu (dv 2) (dv 3)) af))))) (ak (bo (aL (fm l.units) (dv 1) aj) (au (aA 2 eD.nd (kL eW (dv 2)))) aO) (au (aD (aF (ae (aw eP (dv 0) (dv 2)) (ae (aw eP (dv 1) (dv 2)) af))))))))),fun _ _ M Q h=>?_⟩;obtain⟨t,b,rfl,rfl,o,r,g,q⟩:=h;refine⟨_,rfl,_,rfl,?_⟩;have u:=Ma.fP (t:=t) o;have a:Bd 8000 ((Lx t.natAbs b.natAbs:Nat):Int):=g.of_le ‹Nat.gcd_le_right t.natAbs (():0<b.natAbs)›;refine⟨fun m δ n=>n=M/\∃x y:Nat,δ=[r8 t,r8 b,r8 x,r8 y]/\Lx x y=Lx t.natAbs b.natAbs/\m=y,⟨_,rfl,_,_,rfl,rfl,rfl⟩,?_⟩;rintro m δ n ⟨rfl,x,y,rfl,c,p⟩;refine⟨_,rfl,_,rfl,?_⟩;refine bP (fun h=>?_) (fun h=>?_)
 ·have i:(y:Int)≠0:=‹h›
  refine⟨_,rfl,_,rfl,_,rfl,i,_,_,rfl,?_⟩;have j:0<y:=()
  refine⟨x%y,by rw[p];exact Nat.mod_lt _ j,rfl,y,x%y,?_,?_,rfl⟩
  ·rw[<-Ma.vq];rfl
  ·rw[<-c,Nat.gcd_comm x y,Nat.gcd_rec y x,Nat.gcd_comm]
 ·have i:y=0:=‹h›
  subst i;rw[Nat.gcd_zero_right]at c;subst c;(repeat (first|refine⟨_,rfl,?_⟩|refine⟨trivial,?_⟩|refine⟨_,_,rfl,?_⟩|refine⟨rfl,?_⟩|refine⟨Mo rfl,?_⟩))
  refine bP (fun h=>?_) (fun h=>?_)
  ·have d:b<0:=‹h›
   obtain⟨e1,e2⟩:=Ma.vE (t:=t) d;refine⟨_,rfl,_,rfl,_,rfl,⟨(),a.neg⟩,_,rfl,_,rfl,⟨(),a.neg⟩,Mo rfl,?_⟩;dsimp only;rw[e1,e2];exact NA q
  ·have e:0<b:=by
    have:¬b<0:=‹h›
    omega
   obtain⟨e1,e2⟩:=Ma.uW (t:=t) e;refine⟨_,rfl,_,rfl,⟨(),a⟩,_,rfl,_,rfl,⟨(),a⟩,Mo rfl,?_⟩;dsimp only;rw[e1,e2];exact NA q
theorem dH:Ml ["_law_scale_here","_law_unit","_law_top","_law_bottom","_law_x","_law_y"] ["_law_scale_here","_law_unit"] (av mF):=⋯
inductive Oh:Prop
 |mk (t b x y p q:Int) (_:r_=Qw t b x y) (_:sj=.tup [.int p,.int q]) (_:N7 t b x y) (_:(-(10^6)<=p/\p<=10^6)) (_:(-(10^6)<=q/\q<=10^6)) (_:Q (Mf (MU t b x 1 p) (MU t b y 1 q)) M)
theorem lG(T:Tx K mg):Cal P w K mg base 2 "_law_spot" (NO Oh):=by
 refine bE (k:=1) T.c_ dH fun f _ _ _ s H _ d=>⟨_,(ak (bZ (dv 0) (bI rfl (aC (aB 2 dH.nd) (aC (aB 3 dH.nd) (aC (aB 4 dH.nd) (aC (aB 5 dH.nd) a9)))))) (au (aD (aF (ae (aq (gV T).m d (ae (aw aJ (aw aH (ay (dv 1) aj) (dv 2)) (dv 4)) (ae (dv 3) af))) (ae (aq (gV T).m d (ae (aw aJ (aw aH (ay (dv 1) aj) (dv 2)) (dv 5)) (ae (dv 3) af))) af)))))),fun _ _ M Q h=>?_⟩;obtain⟨t,b,x,y,p,q,rfl,rfl,S,e,g,k⟩:=h;have j:Bd 100 t:=by have:=S.t0;have:=S.t1;show t.natAbs<2^100;omega
 have c:∀{z:Int},(-(10^6)<=z/\z<=10^6)->Bd 64 z:=fun{z} h=>by show z.natAbs<2^64;omega
 have i:Bd 8000 b:=by have:=S.b0;have:=S.b1;exact Bd.mono (m:=100) (by show b.natAbs<2^100;omega) ⋯
 have big:∀{z w:Int},(-(10^6)<=z/\z<=10^6)->(-(10^30)<=w/\w<=10^30)->Bd 8000 (z*t+w):=fun{z w} l n=>by
  have e1:Bd 164 (z*t):=(c l).mul j
  have e2:Bd 164 w:=by show w.natAbs<2^164;omega
  exact(e1.add e2).mono ⋯
 have a:b≠0:=by have:=S.b0;omega
 refine⟨_,rfl,_,rfl,rfl,_,_,rfl,_,_,rfl,_,_,rfl,_,_,rfl,rfl,?_⟩;refine⟨_,rfl,_,rfl,_,rfl,aQ (c e),_,rfl,_,rfl,p*t+x,b,rfl,rfl,a,big e ⟨S.x0,S.x1⟩,i,?_⟩;refine⟨_,rfl,_,rfl,_,rfl,aQ (c g),_,rfl,_,rfl,q*t+y,b,rfl,rfl,a,big g ⟨S.y0,S.y1⟩,i,Mo rfl,?_⟩;rw[Ma.yP,Ma.yP];exact NA k
theorem qh:Ml ["_law_scale_here","_law_shuts"] ["_law_scale_here","_law_shuts"] (av lM):=⋯
inductive Oj:Prop
 |mk (t b x y:Int) (l:n7) (ws:List (Int×Int×Int×Int)) (_:r_=Qw t b x y) (_:sj=.ref l) (_:M l=LZ (.lst (ws.map uw))) (_:N7 t b x y) (_:ws.length<=1000) (_:(∀w∈ws,YW (10^6) w)) (_:Q (.tup (ws.map (Mq t b x y))) M)
theorem tD(T:Tx K mg):Cal P w K mg base 3 "_law_made" (NO Oj):=by
 refine bE (k:=2) T.dd qh fun f _ _ _ s H _ n=>⟨_,(au (aD (cH rh rfl T.nv qS (ae (lU (Mm.of (xs:=["_law_first","_law_second"]) (js:=[0]) rfl) rfl (aR (dv 1)) (fun _ _ _ _=>cG) (fun _ _ _ _=>(aF (ae (aq (lG T).m n (ae (dv 2) (ae (dv 0) af))) (ae (aq (lG T).m n (ae (dv 2) (ae (dv 1) af))) af))))) af)))),fun _ _ M Q h=>?_⟩;obtain⟨t,b,x,y,l,ws,rfl,rfl,g,S,C,o,k⟩:=h;refine⟨_,rfl,ws.map uw,g,comp_map (fun i=>((ws.map (Mq t b x y))[i]?).getD .non) (by simp;omega) (fun p D j=>?_) ?_ (fun p j=>⟨_,ag,?_⟩)⟩
 ·show(az M p _) l=_;rw[ao (ax g j)];exact g
 ·intro i e q F a _;have a:(ws.map uw)[i]?=LZ e:=a;rw[IX]at a;cases d:ws[i]? with
  |none=>rw[d]at a;cases a
  |some w=>
   rw[d]at a
   cases a
   obtain⟨r,u,v,z⟩:=o w (IW d)
   refine⟨_,⟨_,rfl,rfl,rfl⟩,fun K B=>?_⟩
   have c:=B q .refl
   rw[getD_map d]at c
   refine⟨_,rfl,_,rfl,t,b,x,y,w.1,w.2.1,rfl,rfl,S,r,u,?_⟩
   exact⟨_,rfl,_,rfl,t,b,x,y,w.2.2.1,w.2.2.2,rfl,rfl,S,v,z,Mo rfl,c⟩
 ·refine⟨_,.new j .refl,?_⟩
  have e:(J8 (ws.map uw).length).map (fun i=>((ws.map (Mq t b x y))[i]?).getD .non)=ws.map (Mq t b x y):=by
   have:=SD.range_getD (ws.map (Mq t b x y))
   rw[IV]at this ⊢
   exact this
  dsimp only;rw[e];exact k
theorem qO:Ml ["_law_shuts","_law_face"] ["_law_shuts","_law_face"] (av mZ):=⋯
inductive Om:Prop
 |mk (l:n7) (ws:rr) (f:Nat) (_:r_=.ref l) (_:sj=.int (f:Int)) (_:M l=LZ (.lst (ws.map uw))) (_:f<2*ws.length) (_:ws.length<=1000) (_:Q (uw (fw ws f)) M)
theorem d8(T:Tx K mg):Cal P w K mg base 1 "_law_ends" (NO Om):=by
 refine bE (k:=0) T.dk qO fun f _ _ _ s H _ j=>⟨_,(au (aD (ay (bw (ae (ay (dv 0) (aw eP (dv 1) aj)) (ae (Dp (ay (dv 0) (aw eP (dv 1) aj)) (kL eW aj)) af))) (aw fu (dv 1) aj)))),fun _ _ M Q h=>?_⟩;obtain⟨l,ws,f,rfl,rfl,a,hf,b,k⟩:=h;obtain⟨m,c,n⟩:=aX (ws:=ws) (k:=((f/2:Nat):Int)) () ();have d:(f:Int).fdiv 2=((f/2:Nat):Int):=by rw[JM _ ⋯];omega
 have e:(f:Int).fmod 2=((f%2:Nat):Int):=by rw[KO _ ⋯];omega
 refine⟨_,rfl,_,rfl,⟨⋯,bA ⋯⟩,_,_,a,(by rw[d];exact c),?_⟩;refine⟨_,rfl,_,rfl,⟨⋯,bA ⋯⟩,_,_,a,(by rw[d];exact c),?_⟩;refine⟨_,rfl,rfl,_,_,rfl,?_⟩;refine⟨Mo rfl,fun p g=>?_⟩;refine⟨_,rfl,(show(2:Int)≠0 by decide),_,_,ag,?_,⟨M,.new g .refl,k⟩⟩;rw[e];refine cM ?_;unfold fw;by_cases h:f%2=0
 ·rw[h,ME rfl];rfl
 ·have i:f%2=1:=()
  rw[i,MD ⋯];rfl
theorem fo:Ml ["_law_back","_law_one","_law_other","_law_spot_here","_law_quarters"] ["_law_back","_law_one","_law_other"] (av jh):=⋯
inductive OI:Prop
 |mk (c b x y:Vc) (_:r_=.tup [.tup [.int c.1,.int c.2],.tup [.int b.1,.int b.2]]) (_:sj=.tup [.int x.1,.int x.2]) (_:sk=.tup [.int y.1,.int y.2]) (_:Bd 6 c.1) (_:Bd 6 c.2) (_:Bd 6 b.1) (_:Bd 6 b.2) (_:Bd 6 x.1) (_:Bd 6 x.2) (_:Bd 6 y.1) (_:Bd 6 y.2) (_:Q (.bl (O0 (b.1-c.1,b.2-c.2) (x.1-c.1,x.2-c.2) (y.1-c.1,y.2-c.2))) M)
theorem qe(T:Tx K mg):Cal P w K mg base 2 "_law_sooner" (Q9 OI):=by
 refine iC (k:=1) T.dt fo fun f _ _ _ s H _ i=>⟨_,(ak (aA 3 fo.nd (ay (dv 0) aj)) (ak (dE 4 fo.nd (Mm.of (xs:=["_law_way"]) (js:=[3,0]) rfl) rfl (aR (aF (ae (dv 1) (ae (dv 2) af)))) (fun _ _ _ _=>cG) (fun _ _ _ _=>(aw aJ aj (aq (du T).m i (ae (dv 1) (ae (ay (dv 2) aj) (ae (dv 0) af))))))) (ak (bo (aL (fI i.units) (ay (dv 4) aj) (ay (dv 4) aj)) (au (aD (b6 (fm i.units) (ay (dv 4) aj) (ay (dv 4) aj)))) aO) (au (aD (b6 (fm i.units) (aq (du T).m i (ae (dv 3) (ae (dv 1) (ae (dv 2) af)))) aj)))))),fun _ _ _ M Q h=>?_⟩;obtain⟨c,b,x,y,rfl,rfl,rfl,o,r,b1,t,x1,B,y1,G,k⟩:=h;have a:∀{z:Int},Bd 6 z->Bd 10 z:=fun h=>h.mono ⋯;unfold O0 at k;refine⟨_,rfl,_,rfl,?_⟩;refine⟨_,rfl,_,rfl,Mo rfl,[.tup [.int x.1,.int x.2],.tup [.int y.1,.int y.2]],rfl,comp_map (fun j=>if j=0 then .int (1+Ji (vc (b.1-c.1,b.2-c.2) (x.1-c.1,x.2-c.2)))else .int (1+Ji (vc (b.1-c.1,b.2-c.2) (y.1-c.1,y.2-c.2)))) (Mo rfl) (fun _ _ _=>rfl) ?_ (fun p u=>?_)⟩
 ·intro j C I v d _;have v:j<2:=v;have d:[D.tup [.int x.1,.int x.2],.tup [.int y.1,.int y.2]][j]?=LZ C:=d;rcases(():j=0\/j=1)with rfl|rfl
  ·cases d;exact⟨_,rfl,fun F g=>⟨_,rfl,_,rfl,_,rfl,_,rfl,c.1,c.2,b.1,b.2,_,_,rfl,rfl,rfl,a o,a r,a b1,a t,g _ .refl⟩⟩
  ·cases d;exact⟨_,rfl,fun F g=>⟨_,rfl,_,rfl,_,rfl,_,rfl,c.1,c.2,b.1,b.2,_,_,rfl,rfl,rfl,a o,a r,a b1,a t,g _ .refl⟩⟩
 generalize vc (b.1-c.1,b.2-c.2) (x.1-c.1,x.2-c.2)=l at k ⊢;generalize vc (b.1-c.1,b.2-c.2) (y.1-c.1,y.2-c.2)=n at k ⊢;refine⟨_,rfl,_,_,ag,rfl,_,rfl,_,_,ag,rfl,?_⟩;refine⟨_,rfl,?_⟩;refine bP (fun h=>?_) (fun h=>?_)
 ·have ne:¬l.sign=n.sign:=fun z=>by rw[z]at h;simp at h
  rw[MD ne]at k;have e:decide (l.sign<n.sign)=decide (1+l.sign<1+n.sign):=by rw[MJ];omega
  rw[e]at k;exact⟨_,rfl,_,_,ag,rfl,_,rfl,_,_,ag,rfl,trivial,⟨M,.new u .refl,k⟩⟩
 ·have eq:l.sign=n.sign:=by simp at h;omega
  rw[ME eq]at k;have e:decide (vc (x.1-c.1,x.2-c.2) (y.1-c.1,y.2-c.2)<0)=decide (Ji (NJ (x.1-c.1) (x.2-c.2) (y.1-c.1) (y.2-c.2))<0):=by unfold vc;rw[MJ];rcases fV (NJ (x.1-c.1) (x.2-c.2) (y.1-c.1) (y.2-c.2))with q|q|q<;>dsimp only<;>omega
  rw[e]at k;exact⟨_,rfl,_,rfl,_,rfl,c.1,c.2,x.1,x.2,y.1,y.2,rfl,rfl,rfl,a o,a r,a x1,a B,trivial,⟨M,.new u .refl,k⟩⟩
theorem ba:Ml ["_law_shuts","_law_face","_law_start","_law_spot_here","_law_found","_law_some","_law_best","_law_one","_law_way"] ["_law_shuts","_law_face"] (av i9):=⋯
def HZ(ws:rr)(o:Option Nat):D:=match o with
 |none=>.non
 |some h=>.tup [.int (fb ws h).1,.int (fb ws h).2]
theorem BK(ws:rr)(f:Nat):(J8 (2*ws.length)).filterMap (fun j=>if jg ws f j=MB then LZ (D.int (j:Int))else MA)=(cV ws f).map fun j:Nat=>D.int (j:Int):=fK _ _ _
theorem qI(R:Nat->Nat->Bool):∀(l:pq) (o:Option Nat) {h:Nat},l.foldl (bQ R) o=LZ h->h∈l\/o=LZ h
 |[],o,h,e=>.inr e
 |g::l,o,h,e=>by
  rw[Ld]at e
  rcases qI R l _ e with z|z
  ·exact .inl (by simp[z])
  ·cases o with
   |none=>cases z;exact .inl (by simp)
   |some k=>
    unfold bQ at z
    dsimp only at z
    by_cases r:R g k=MB
    ·rw[ME r]at z;cases z;exact .inl (by simp)
    ·rw[MD r]at z;exact .inr z
inductive OK:Prop
 |mk (l:n7) (ws:rr) (f:Nat) (_:r_=.ref l) (_:sj=.int (f:Int)) (_:M l=LZ (.lst (ws.map uw))) (_:f<2*ws.length) (_:ws.length<=40) (_:(∀w∈ws,Mn w)) (_:Q (.int (bh ws f:Int)) M)
theorem jn(T:Tx K mg):Cal P w K mg base 3 "_law_behind" (NO OK):=by
 refine bE (k:=2) T.dV ba fun f _ _ _ s H _ u=>⟨_,(ak (bZ (aq (d8 T).m u (ae (dv 0) (ae (dv 1) af))) (bI rfl (aC (aB 2 ba.nd) (aC (aB 3 ba.nd) a9)))) (ak (aA 4 ba.nd (aw cE (aw aJ (dv 1) aj) (aw aH aj (aw fu (dv 1) aj)))) (ak (dE 5 ba.nd (Mm.of (xs:=["_law_one"]) (js:=[0,3,4]) rfl) rfl (wL rfl T.m_ (ae (aw aH aj (aP dN rfl T.mA dJ (ae (dv 0) af))) af)) (fun _ _ _ _=>(kW (ny (iQ (aL (cu u.units) (ay (aq (d8 T).m u (ae (dv 1) (ae (dv 0) af))) aj) (dv 2)) (fY (aL (fI u.units) (dv 0) (dv 3))))))) (fun _ _ _ _=>(dv 0))) (ak (aA 6 ba.nd iR) (ak (bV Jc rfl (aR (dv 5)) (aB 7 ba.nd) (ak (aA 8 ba.nd (ay (aq (d8 T).m u (ae (dv 0) (ae (dv 7) af))) aj)) (au (bo (ny (yh (aL vy (dv 6) iR) (tF (de (aq (qe T).m u (ae (aF (ae (dv 3) (ae (dv 2) af))) (ae (dv 8) (ae (dv 6) af)))))))) (ak (aA 6 ba.nd (dv 8)) (au (aA 4 ba.nd (dv 7)))) aO)))) (au (aD (dv 4)))))))),fun _ _ M Q h=>?_⟩;obtain⟨l,ws,f,rfl,rfl,x,hf,Y,hU,k⟩:=h;have em:(f:Int).fmod 2=((f%2:Nat):Int):=by rw[KO _ ⋯];omega
 have L:(f:Int)+1-2*(f:Int).fmod 2=((fx f:Nat):Int):=by rw[em];unfold fx;split<;>omega
 have hn:(ws.map uw).length=ws.length:=by simp
 refine⟨_,rfl,_,rfl,l,ws,f,rfl,rfl,x,hf,(),?_⟩;refine⟨_,rfl,rfl,_,_,rfl,_,_,rfl,rfl,?_⟩;refine⟨_,rfl,_,rfl,(show(2:Int)≠0 by decide),aQ (bA ⋯),trivial,?_⟩;dsimp only;rw[L];refine⟨_,rfl,_,x,aQ (bA ⋯),2*ws.length,(by rw[hn];simp),(),?_⟩;have a0:∀j:Nat,fa ws j=((fw ws j).1,(fw ws j).2.1):=fun _=>rfl;refine lq (fun j=>if jg ws f j=MB then LZ (D.int (j:Int))else MA) (by show 2*ws.length<=1000000;omega) (fun _ _ _=>trivial) ?_ (fun F y=>?_)
 ·intro a d Z N hd sb;have N:a<2*ws.length:=N;cases hd;have O:Z l=LZ (.lst (ws.map uw)):=sb _ _ x;refine⟨_,rfl,fun K p=>?_,fun v G K p=>?_⟩
  ·have B:K (jg ws f a) Z:=by cases z:jg ws f a<;>rw[z]at p<;>exact p
   unfold jg at B;refine vZ (decide (fa ws a=fb ws f)) (decide (a≠fx f)) (fun K' r=>⟨_,rfl,_,rfl,l,ws,a,rfl,rfl,O,N,(),?_⟩) (fun _ K' r=>?_) B
   ·have e:JL (.tuple [.int (fw ws a).1,.int (fw ws a).2.1]) (.tuple [.int (fw ws f).2.2.1,.int (fw ws f).2.2.2])=decide (fa ws a=fb ws f):=by unfold fa fb;simp only[JL,Ke,Ll];rw[Kn];simp[Prod.mk.injEq]
    refine⟨_,rfl,_,rfl,_,_,Pd.of rfl,Pd.of rfl,rfl,rfl,_,rfl,?_⟩;rw[e];exact r
   ·have e:(!decide ((a:Int)=((fx f:Nat):Int)))=decide (a≠fx f):=by rw[<-decide_not,MJ];omega
    rw[<-e]at r;exact⟨_,rfl,_,rfl,_,rfl,r⟩
  ·cases z:jg ws f a with
   |false=>rw[z]at G;cases G
   |true=>
    rw[z]at G
    cases G
    exact⟨_,rfl,p _ .refl⟩
 dsimp only;rw[BK];have R:l≠F:=ax x y;have S:(az M F (.lst ((cV ws f).map fun j:Nat=>D.int (j:Int)))) l=LZ (.lst (ws.map uw)):=by rw[ao R];exact x
 have n:∀g:Nat,g<2*ws.length->(Bd 6 (fa ws g).1/\Bd 6 (fa ws g).2)/\(Bd 6 (fb ws g).1/\Bd 6 (fb ws g).2):=fun g C=>by
  obtain⟨_,_,w3⟩:=aX (ws:=ws) (k:=((g/2:Nat):Int)) () ()
  have W:=hU _ w3
  unfold fa fb fw
  by_cases h:g%2=0
  ·rw[ME h];exact⟨⟨rV W.a,rV W.b⟩,rV W.c,rV W.d⟩
  ·rw[MD h];exact⟨⟨rV W.c,rV W.d⟩,rV W.a,rV W.b⟩
 refine⟨_,rfl,(cV ws f).map fun j:Nat=>D.int (j:Int),ag,?_⟩;refine⟨fun i δ I=>I=az M F (.lst ((cV ws f).map fun j:Nat=>D.int (j:Int)))/\R9 fun U V=>δ=[r4 l,r8 f,LZ (.tup [.int (fw ws f).1,.int (fw ws f).2.1]),LZ (.tup [.int (fw ws f).2.2.1,.int (fw ws f).2.2.2]),LZ (.int (((((cV ws f).take i).foldl (bQ (N0 ws f)) MA).getD (fx f):Nat):Int)),r4 F,LZ (HZ ws (((cV ws f).take i).foldl (bQ (N0 ws f)) MA)),U,V],⟨rfl,_,_,rfl⟩,fun i δ I _ z=>by obtain⟨rfl,_⟩:=z;exact ag,?_,?_⟩
 ·rintro i d δ I hi hd ⟨rfl,U,V,rfl⟩;have hd:((cV ws f).map fun j:Nat=>D.int (j:Int))[i]?=LZ d:=hd;rw[IX]at hd;cases J:(cV ws f)[i]? with
  |none=>rw[J]at hd;cases hd
  |some g=>
   rw[J]at hd
   cases hd
   have C:=bG.mp (IW J)
   have nx:((cV ws f).take (i+1)).foldl (bQ (N0 ws f)) MA=bQ (N0 ws f) (((cV ws f).take i).foldl (bQ (N0 ws f)) MA) g:=by rw[Kj,J,List.foldl_append];rfl
   have t:∀h,((cV ws f).take i).foldl (bQ (N0 ws f)) MA=LZ h->h∈cV ws f:=fun h e=>by
    rcases qI _ _ _ e with z|z
    ·exact List.mem_of_mem_take z
    ·cases z
   generalize ((cV ws f).take i).foldl (bQ (N0 ws f)) MA=o at t nx ⊢
   refine⟨_,rfl,_,rfl,l,ws,g,rfl,rfl,S,C.1,(),_,rfl,?_⟩
   cases o with
   |none=>
    (try dsimp only[SD.gi,SD.dQ,SD.aT,SD.gU,SD.gE,SD.dq,SD.eJ,SD.tBD,SD.gF,SD.EndsD.nxt,SD.EndsD.lp])
    refine WH MB MB (fun K p=>⟨_,rfl,MB,rfl,_,rfl,p⟩) (fun z=>absurd z ⋯) ?_
    refine rY rfl ⟨_,rfl,_,rfl,rfl,r8 g,LZ (.tup [.int (fw ws g).2.2.1,.int (fw ws g).2.2.2]),?_⟩
    rw[nx]
    rfl
   |some h=>
    have X:=bG.mp (t h rfl)
    have d1:fd ws (fx f)=((fa ws f).1-(fb ws f).1,(fa ws f).2-(fb ws f).2):=by unfold fd fa fb;rw[uo];rfl
    have d2:∀g,fa ws g=fb ws f->fd ws g=((fb ws g).1-(fb ws f).1,(fb ws g).2-(fb ws f).2):=fun g e=>by rw[<-e];rfl
    have es:N0 ws f g h=O0 ((fa ws f).1-(fb ws f).1,(fa ws f).2-(fb ws f).2) ((fb ws g).1-(fb ws f).1,(fb ws g).2-(fb ws f).2) ((fb ws h).1-(fb ws f).1,(fb ws h).2-(fb ws f).2):=by unfold N0;rw[d1,d2 g C.2.1,d2 h X.2.1]
    (try dsimp only[SD.gi,SD.dQ,SD.aT,SD.gU,SD.gE,SD.dq,SD.eJ,SD.tBD,SD.gF,SD.EndsD.nxt,SD.EndsD.lp])
    refine WH MC (N0 ws f g h) (fun K p=>⟨_,rfl,MC,rfl,_,rfl,p⟩) (fun _ K p=>?_) ?_
    ·refine⟨_,rfl,_,rfl,Mo rfl,_,rfl,_,rfl,fb ws f,fa ws f,fb ws g,fb ws h,rfl,rfl,rfl,(n f hf).2.1,(n f hf).2.2,(n f hf).1.1,(n f hf).1.2,(n g C.1).2.1,(n g C.1).2.2,(n h X.1).2.1,(n h X.1).2.2,_,rfl,?_⟩;rw[<-es];exact p
    ·refine bP (fun q=>?_) (fun q=>?_)
     ·refine⟨_,rfl,_,rfl,rfl,r8 g,LZ (.tup [.int (fw ws g).2.2.1,.int (fw ws g).2.2.2]),?_⟩;rw[nx];have q:N0 ws f g h=MB:=‹q›
      have e:bQ (N0 ws f) (LZ h) g=LZ g:=by unfold bQ;simp[q]
      rw[e];rfl
     ·refine⟨rfl,r8 g,LZ (.tup [.int (fw ws g).2.2.1,.int (fw ws g).2.2.2]),?_⟩;rw[nx];have q:¬N0 ws f g h=MB:=‹q›
      have e:bQ (N0 ws f) (LZ h) g=LZ h:=by unfold bQ;simp[q]
      rw[e];rfl
 ·rintro δ I ⟨rfl,U,V,rfl⟩;have e:(cV ws f).take ((cV ws f).map fun j:Nat=>D.int (j:Int)).length=cV ws f:=K6 (by simp);dsimp only;rw[e];exact⟨_,rfl,⟨M,.new y .refl,k⟩⟩
theorem cK:Ml ["_law_shuts","_law_rings_here","_law_gone","_law_face","_law_ring"] ["_law_shuts"] (av kJ):=⋯
theorem rX(ws:rr)(f k:Nat):atI ((rn ws f k).map r3) (-1)=LZ (.int ((NP ws f k:Nat):Int)):=by
 unfold atI ixN;rw[MD ⋯,IV,ft,ME ()];have e:((-1:Int)+((k+1:Nat):Int)).toNat=k:=()
 rw[e];show((rn ws f k).map r3)[k]?=_;rw[IX];unfold rn;rw[IX,List.getElem?_range ()];rfl
theorem yf(a:pe)(i:Nat):((a.flatten.map fun g:Nat=>(g:Int)).any fun z=>z==(i:Int))=decide (i∈a.flatten):=by
 rw[List.any_map,Kn,List.any_eq_true,MK];constructor
 ·rintro⟨x,b,e⟩;have:(x:Int)=(i:Int):=‹e›
  have:x=i:=()
  subst this;exact b
 ·intro h;exact⟨i,h,by simp⟩
inductive OW:Prop
 |mk (l:n7) (ws:rr) (_:r_=.ref l) (_:M l=LZ (.lst (ws.map uw))) (_:ws.length<=40) (_:(∀w∈ws,Mn w)) (_:PF ws) (_:∀(M':MH) (lr:n7) (ps:rb) (rs:pe),SD.Sub M M'->M' lr=LZ (.lst (ps.map D.ref))->OO ws (2*ws.length) rs->RL M' ps rs->(∀p∈ps,M p=MA)->Q (.ref lr) M')
theorem qV(T:Tx K mg):Cal P w K mg base 4 "_law_rings" (Ox OW):=by
 refine eV (k:=3) T.d_ cK fun f _ _ _ s H _ j=>⟨_,(ak (aA 1 cK.nd (bw af)) (ak (aA 2 cK.nd (bw af)) (ak (dg Jc rfl rfl T.m_ (ae (aw aH aj (aP dN rfl T.mA dJ (ae (dv 0) af))) af) (aB 3 cK.nd) (au (bo (aL (qk (kS j)) (dv 3) (dv 2) (by with_unfolding_all rfl)) (ak (aA 4 cK.nd (bw (ae (dv 3) af))) (ak (gT Jc (aL (fI j.units) (aq (jn T).m j (ae (dv 0) (ae (ay (dv 4) (kL eW aj)) af))) (dv 3)) (au (cw (bz (dv 4) (ae (aq (jn T).m j (ae (dv 0) (ae (ay (dv 4) (kL eW aj)) af))) af))))) (ak (cw (bz (dv 1) (ae (dv 4) af))) (au (aA 2 cK.nd (aw aJ (dv 2) (dv 4))))))) aO))) (au (aD (dv 1)))))),fun _ M Q h=>?_⟩;obtain⟨l,ws,rfl,U,y,C,hF,k⟩:=h;have hn:(ws.map uw).length=ws.length:=by simp
 refine⟨Mo rfl,fun c t=>⟨Mo rfl,fun r u=>?_⟩⟩;have V:r≠c:=fun z=>by subst z;rw[ag]at u;cases u
 refine⟨_,rfl,_,(by rw[ao (ax (by rw[ao (ax U t)];exact U) u),ao (ax U t)];exact U),aQ (bA ⋯),2*ws.length,(by rw[hn];simp),(),?_⟩;refine⟨fun i δ b=>R8 fun(r:n7) (ps:rb) (d:pe) (o3 o4:ry)=>Ql (δ=[r4 l,r4 c,r4 r,o3,o4]) (r≠c) (SD.Sub M b) (b c=LZ (.lst (ps.map D.ref))) (b r=LZ (.lst ((d.flatten.map fun g:Nat=>(g:Int)).map D.int))) (ps.length<=i) (d.flatten.length<=i*80) (OO ws i d) (RL b ps d) (∀p∈ps,p≠c/\M p=MA),?_,?_,?_⟩
 ·exact⟨r,[],[],_,_,rfl,V,.new u (.new t .refl),(by rw[ao V.symm,ag];rfl),ag,IY _,Kf _,rfl,.nil,fun p F=>by cases F⟩
 ·rintro i δ b W ⟨r,ps,d,o3,o4,rfl,I,S,j,hg,b0,c0,R,v,n⟩;(try dsimp only[SD.aT])
  refine RE fun B hB=>?_;refine⟨_,rfl,_,rfl,Bx (i:Int) _ _ hg ⟨_,rfl,?_⟩⟩;rw[yf];refine bP (fun J=>?_) (fun J=>hB _ _ ⟨r,ps,d,_,_,rfl,I,S,j,hg,(),(),⟨d,R,.inl ⟨‹J›,rfl⟩⟩,v,n⟩);have d0:i∉d.flatten:=‹J›
  refine⟨_,rfl,Mo rfl,fun p F=>?_⟩;have X:∀{a o},b a=LZ o->a≠p:=fun h=>ax h F;have at':∀{a o ys},b a=LZ o->(az b p (.lst ys)) a=LZ o:=fun h=>by rw[ao (X h)];exact h
  have Y:=S _ _ U;refine⟨fun m δ Z=>∃k,Rl (δ=[r4 l,r4 c,r4 r,r8 i,r4 p]) (Z=az b p (.lst ((rn ws i k).map r3))) (NR ws i k) (m=2*ws.length-k),⟨_,0,rfl,rfl,vd ws i,rfl⟩,?_⟩;rintro m δ Z ⟨k,rfl,rfl,nr,rfl⟩;have kb:=nK C hF W nr;refine⟨_,rfl,_,rfl,_,_,ag,rX ws i k,l,ws,NP ws i k,rfl,rfl,at' Y,dm C hF W k,y,C,_,rfl,_,rfl,?_⟩;refine bP (fun h=>?_) (fun h=>?_)
  ·have ne:bh ws (NP ws i k)≠i:=fun z=>by rw[z]at h;simp at h
   have a0:=uS C hF W nr ne;have e0:=nK C hF W a0;refine⟨_,rfl,p,_,rfl,ag,_,rfl,_,rfl,_,_,ag,rX ws i k,l,ws,NP ws i k,rfl,rfl,at' Y,dm C hF W k,y,C,_,_,rfl,ag,(by rw[IV,ft];omega),?_⟩;exact⟨2*ws.length-(k+1),(),k+1,rfl,(by rw[bD,lj,Jg];rfl),a0,rfl⟩
  ·have eq:bh ws (NP ws i k)=i:=by
    have:((bh ws (NP ws i k):Nat):Int)=(i:Int):=‹h›
    omega
   have L:p≠c:=(X j).symm;refine⟨_,rfl,c,_,rfl,at' j,_,rfl,_,_,rfl,at' j,(by simp;omega),?_⟩;have sz:1000000<=J7:=Mo rfl;have N:∀{a o},b a=LZ o->a≠c->(az (az b p (.lst ((rn ws i k).map r3))) c (.lst (ps.map D.ref++[.ref p]))) a=LZ o:=fun h ne=>by rw[ao ne];exact at' h
   refine⟨_,rfl,_,rfl,(d.flatten.map fun g:Nat=>(g:Int)).map D.int,(rn ws i k).map r3,N hg I,(by rw[ao L,ag]),(by rw[IV,IV,IV,ft];omega),fun q hq=>?_⟩;have nq:∀{a o},(az (az b p (.lst ((rn ws i k).map r3))) c (.lst (ps.map D.ref++[.ref p]))) a=LZ o->a≠q:=fun h=>ax h hq;have x:∀{a o G},(az (az b p (.lst ((rn ws i k).map r3))) c (.lst (ps.map D.ref++[.ref p]))) a=LZ o->(az (az (az b p (.lst ((rn ws i k).map r3))) c (.lst (ps.map D.ref++[.ref p]))) q G) a=LZ o:=fun h=>by rw[ao (nq h)];exact h
   refine hB _ _ ⟨q,ps++[p],d++[rn ws i k],_,_,rfl,(nq ag).symm,fun a o h=>x (N (S _ _ h) (fun z=>by subst z;rw[t]at h;cases h)),?_,?_,by simp;omega,?_,⟨d,R,.inr ⟨d0,_,⟨k,nr,eq,rfl⟩,rfl⟩⟩,?_,fun p' O=>?_⟩
   ·rw[Jg];exact x ag
   ·rw[ag,List.flatten_append,Jg,Jg];simp only[KN,List.flatten_nil,JX,L7];rfl
   ·rw[List.flatten_append,Kg];simp only[KN,List.flatten_nil,JX,ft];omega
   ·exact(v.mono fun p' O o e=>x (N e (n p' O).1)).snoc (x (by rw[ao L,ag]))
   ·rcases Jn.mp O with z|z
    ·exact n p' z
    ·have:p'=p:=‹z›
     subst this;refine⟨L,?_⟩;cases e:M p' with
     |none=>rfl
     |some o=>rw[S _ _ e]at F;cases F
 ·rintro δ b ⟨r,ps,d,o3,o4,rfl,I,S,j,hg,b0,c0,R,v,n⟩;exact⟨_,rfl,⟨b,.refl,k b c ps d S j R v fun p F=>(n p F).2⟩⟩
theorem jD:Ml ["_law_shuts","_law_ring","_law_ends_here"] ["_law_shuts","_law_ring"] (av ki):=⋯
inductive OU:Prop
 |mk (l p:n7) (ws:rr) (r:pq) (_:r_=.ref l) (_:sj=.ref p) (_:M l=LZ (.lst (ws.map uw))) (_:M p=LZ (.lst (r.map r3))) (_:(∀g∈r,g<2*ws.length)) (_:ws.length<=40) (_:r.length<=80) (_:(∀w∈ws,W8 w)) (_:Q (.int (r.map (NL ws)).sum) M)
theorem kD(T:Tx K mg):Cal P w K mg base 2 "_law_twice" (NO OU):=by
 refine bE (k:=1) T.ec jD fun f _ _ _ s H _ c=>⟨_,(ak (dE 2 jD.nd (Mm.of (xs:=["_law_face"]) (js:=[0]) rfl) rfl (aR (dv 1)) (fun _ _ _ _=>cG) (fun _ _ _ _=>(aq (d8 T).m c (ae (dv 1) (ae (dv 0) af))))) (au (aD (aP (C7 rfl) rfl T.nc Dv (ae (lU (Mm.of (xs:=["_law_one","_law_other"]) (js:=[]) rfl) rfl (aR (dv 2)) (fun _ _ _ _=>cG) (fun _ _ _ _=>(aw cE (aw aH (ay (dv 0) aj) (ay (dv 1) aj)) (aw aH (ay (dv 1) aj) (ay (dv 0) aj))))) af))))),fun _ _ M Q h=>?_⟩;obtain⟨l,p,ws,r,rfl,rfl,B,n,c,x,C,F,k⟩:=h;refine⟨_,rfl,_,n,comp_map (fun j=>uw (fw ws ((r[j]?).getD 0))) (by show(r.map r3).length<=1000000;simp;omega) (fun q G o=>by show(az M q _) p=_;rw[ao (ax n o)];exact n) ?_ (fun I t=>?_)⟩
 ·intro j d J L hd y;have hd:(r.map r3)[j]?=LZ d:=hd;rw[IX]at hd;cases a:r[j]? with
  |none=>rw[a]at hd;cases hd
  |some g=>
   rw[a]at hd
   cases hd
   exact⟨_,rfl,fun K u=>⟨_,rfl,_,rfl,l,ws,g,rfl,rfl,y _ _ B,c g (IW a),(),u _ .refl⟩⟩
 have e1:(J8 (r.map r3).length).map (fun j=>uw (fw ws ((r[j]?).getD 0)))=r.map fun g=>uw (fw ws g):=by
  rw[IV];apply List.ext_getElem
  ·simp
  ·intro i b N;simp at b;simp[b]
 dsimp only;rw[e1];refine⟨_,rfl,_,ag,comp_map (fun j=>D.int (NL ws ((r[j]?).getD 0))) (by show(r.map fun g=>uw (fw ws g)).length<=1000000;simp;omega) (fun q G o=>by show(az _ q _) I=_;rw[ao (ax ag o)];exact ag) ?_ (fun pn v=>?_)⟩
 ·intro j d J L hd y;have hd:(r.map fun g=>uw (fw ws g))[j]?=LZ d:=hd;rw[IX]at hd;cases a:r[j]? with
  |none=>rw[a]at hd;cases hd
  |some g=>
   rw[a]at hd
   cases hd
   have R:=c g (IW a)
   obtain⟨_,_,O⟩:=aX (ws:=ws) (k:=((g/2:Nat):Int)) () ()
   have W:=F _ O
   have e:∀{z:Int},(0<=z/\z<=80)->Bd 64 z:=fun{z} h=>by show z.natAbs<2^64;omega
   have b1:Bd 64 (fw ws g).1/\Bd 64 (fw ws g).2.2.1:=by
    unfold fw;by_cases h:g%2=0
    ·rw[ME h];exact⟨e W.1,e W.2.2.1⟩
    ·rw[MD h];exact⟨e W.2.2.1,e W.1⟩
   exact⟨_,⟨_,rfl,rfl,rfl⟩,fun K u=>⟨_,rfl,_,rfl,_,rfl,_,rfl,aQ b1.1,_,rfl,_,rfl,_,rfl,_,rfl,aQ b1.2,trivial,u _ .refl⟩⟩
 have e2:(J8 (r.map fun g=>uw (fw ws g)).length).map (fun j=>D.int (NL ws ((r[j]?).getD 0)))=(r.map (NL ws)).map D.int:=by
  rw[IV];apply List.ext_getElem
  ·simp
  ·intro i b N;simp at b;simp[b]
 dsimp only;rw[e2];exact⟨_,ag,⟨M,.new v (.new t .refl),k⟩⟩
theorem bJ:Ml ["_law_row","_law_shuts","_law_size","_law_way","_law_first","_law_second","_law_below","_law_part","_law_x"] ["_law_row","_law_shuts","_law_size"] (av ji):=⋯
inductive OH:Prop
 |mk (r l:n7) (x c S:Int) (ws:rr) (_:r_=.ref r) (_:sj=.ref l) (_:sk=.int S) (_:(0<=S/\S<=14)) (_:r≠l) (_:M r=LZ (.lst [.int x,.int c])) (_:0<=c) (_:c<900000) (_:M l=LZ (.lst (ws.map uw))) (_:(∀w∈ws,Mn w)) (_:ws.length<=40) (_:∀x' c' p q m,0<=c'->c'<=c+6->(-m<=p/\p<=20*m)->(-m<=q/\q<=20*m)->(0<m/\m<=4)->Q (.tup [.int p,.int q,.int m]) (az M r (.lst [.int x',.int c'])))
theorem oZ(T:Tx K mg):Cal P w K mg base 2 "_law_wanted" (Q9 OH):=by
 refine iC (k:=1) T.eh bJ fun f _ _ _ s H _ g=>⟨_,(ak (aA 3 bJ.nd (aq (aE T).m g (ae (dv 0) (ae aj af)))) (ak (bo (ny (iQ (aL (cu g.units) (dv 3) aj) (fY (aL (fI g.units) (dv 1) (bw af))))) (ak (bZ (ay (dv 1) (aq (aE T).m g (ae (dv 0) (ae (aP dN rfl T.mA dJ (ae (dv 1) af)) af)))) (bI rfl (aC (aB 4 bJ.nd) (aC (aB 5 bJ.nd) a9)))) (ak (aA 6 bJ.nd (aw aJ aj (aq (aE T).m g (ae (dv 0) (ae aj af))))) (ak (aA 7 bJ.nd (aq (aE T).m g (ae (dv 0) (ae (aw aJ (dv 6) aj) af)))) (ak (aA 8 bJ.nd (aw aJ (aw aH (ay (dv 4) aj) (aw cE (dv 6) (dv 7))) (aw aH (ay (dv 5) aj) (dv 7)))) (au (aD (aF (ae (dv 8) (ae (aw aJ (aw aH (ay (dv 4) aj) (aw cE (dv 6) (dv 7))) (aw aH (ay (dv 5) aj) (dv 7))) (ae (dv 6) af)))))))))) aO) (ak (aA 6 bJ.nd (ay (bw (ae aj (ae aj (ae aj (ae aj af))))) (dv 3))) (au (aD (aF (ae (aw cE (aq (aE T).m g (ae (dv 0) (ae (aw aH (dv 6) (aw aJ (dv 2) aj)) af))) (aw eP (dv 6) aj)) (ae (aw cE (aq (aE T).m g (ae (dv 0) (ae (aw aH (dv 6) (aw aJ (dv 2) aj)) af))) (aw eP (dv 6) aj)) (ae (dv 6) af))))))))),fun _ _ _ M Q h=>?_⟩;obtain⟨r,l,x,c,S,ws,rfl,rfl,rfl,hS,q,hM,C,d0,F,G,a0,k⟩:=h;refine⟨_,rfl,r,4,x,c,rfl,rfl,hM,C,(),⋯,bA ⋯,fun x1 I J L=>?_⟩;have m1:(az M r (.lst [.int x1,.int (c+1)])) l=LZ (.lst (ws.map uw)):=by rw[ao q.symm];exact F
 (try dsimp only[SD.aT])
 refine bU (fun δ N=>WO fun(x':Int) (o4 o5 o6 o7 o8:ry)=>δ=[r4 r,r4 l,r8 S,r8 I,o4,o5,o6,o7,o8]/\N r=LZ (.lst [.int x',.int (c+1)])/\nE r M N) ?_ (fun hu=>?_);rotate_left
 ·refine⟨_,rfl,_,rfl,?_⟩;refine bP (fun h=>?_) (fun h=>jf rfl (hu _ _ ⟨x1,_,_,_,_,_,rfl,ag,.same .refl⟩));refine⟨_,rfl,Mo rfl,fun p i=>?_⟩;have j:r≠p:=ax ag i;have O:l≠p:=ax m1 i;have R:(az (az M r (.lst [.int x1,.int (c+1)])) p (.lst [])) l=LZ (.lst (ws.map uw)):=by rw[ao O];exact m1
  have mr:(az (az M r (.lst [.int x1,.int (c+1)])) p (.lst [])) r=LZ (.lst [.int x1,.int (c+1)]):=by rw[ao j,ag]
  refine⟨_,_,.lst R (oX ws),.lst ag .nil,kf ws,rfl,_,rfl,?_⟩;rw[iS];refine bP (fun U=>?_) (fun c0=>hu _ _ ⟨x1,_,_,_,_,_,rfl,mr,.new i (.same .refl)⟩)
  have t:0<ws.length:=by
   cases ws with
   |nil=>simp at U
   |cons w ws=>simp
  refine⟨_,rfl,_,rfl,_,rfl,_,R,r,((ws.map uw).length:Int),x1,c+1,rfl,rfl,mr,(),(),‹t›,bA (by simp;omega),fun V v2 u v=>?_⟩;obtain⟨w,hw,ew⟩:=uN (ws:=ws) u ‹v›;have W:=G w hw;refine⟨_,_,(by rw[ao q.symm];exact R),ew,?_⟩;refine⟨_,rfl,rfl,_,_,rfl,_,_,rfl,rfl,?_⟩;refine⟨_,rfl,r,4,V,c+1+1,rfl,rfl,ag,(),(),⋯,bA ⋯,fun X n Y Z=>?_⟩;refine⟨_,rfl,_,rfl,r,1+n+1,X,c+1+1+1,rfl,rfl,ag,(),(),(),bA (),fun x4 o y e0=>?_⟩;have e:∀{z:Int},-1000<=z->z<=1000->Bd 64 z:=fun{z} a b=>by show z.natAbs<2^64;omega
  have conv:∀{a d:Int},(0<=a/\a<=20)->(0<=d/\d<=20)->0<=a*(1+n-o)+d*o/\a*(1+n-o)+d*o<=20*(1+n):=fun{a d} ha hd=>by
   have e1:=Ku ha.1 (():0<=1+n-o)
   have e2:=Ku hd.1 y
   have e3:=Int.mul_le_mul_of_nonneg_right ha.2 (():0<=1+n-o)
   have e4:=Int.mul_le_mul_of_nonneg_right hd.2 y
   omega
  have e1:=conv W.a W.c;have e2:=conv W.b W.d;refine⟨_,rfl,_,rfl,_,rfl,_,rfl,trivial,dh (e () ()),_,rfl,_,rfl,_,rfl,dh (e () ()),?_⟩;refine⟨_,rfl,_,rfl,_,rfl,_,rfl,_,rfl,trivial,dh (e () ()),_,rfl,_,rfl,_,rfl,dh (e () ()),_,rfl,Mo rfl,?_⟩;refine⟨az M r (.lst [.int x4,.int (c+1+1+1+1)]),?_,k _ _ _ _ _ () () () () ()⟩;simp only[bD];exact .EI (.new i (.same .refl))
 rintro δ N ⟨x1,o4,o5,o6,o7,o8,rfl,B,sx⟩;obtain⟨m,em,hm⟩:=Ma.pick (xs:=[1,1,2,4]) (P:=fun m=>1<=m/\m<=4) J ‹L› ⋯;refine⟨Mo rfl,fun p i=>⟨_,rfl,_,_,ag,em,?_⟩⟩;have j:r≠p:=ax B i;have bm:Bd 64 m:=by show m.natAbs<2^64;omega
 have hd:0<=m.fdiv 2/\m.fdiv 2<=m:=by rw[JM _ ⋯];omega
 have b0:=Jl (():0<m) (():0<S+1);have b1:=La (():S+1<=15) (():0<=m);refine⟨_,rfl,_,rfl,_,rfl,aQ bm,r,m*(S+1),x1,c+1,rfl,rfl,(by rw[ao j];exact B),(),(),b0,bA (),fun V v2 u v=>?_⟩;refine⟨_,rfl,⟨⋯,bA ⋯⟩,trivial,_,rfl,_,rfl,_,rfl,aQ bm,r,m*(S+1),V,c+1+1,rfl,rfl,ag,(),(),b0,bA (),fun X n Y Z=>?_⟩;refine⟨_,rfl,⟨⋯,bA ⋯⟩,trivial,_,rfl,Mo rfl,?_⟩;refine⟨az M r (.lst [.int X,.int (c+1+1+1)]),?_,k _ _ _ _ _ () () () () ()⟩;simp only[bD];exact .EI (.new i sx)
theorem wH:Ml ["_law_shuts","_law_below"] ["_law_shuts","_law_below"] (av qJ):=⋯
inductive P7:Prop
 |mk (m:Int) (l:n7) (ws:List (Int×Int×Int×Int)) (_:r_=.ref l) (_:sj=.int m) (_:M l=LZ (.lst (ws.map uw))) (_:Bd 64 m) (_:ws.length<=1000) (_:∀p,M p=MA->Q (.ref p) (az M p (.lst (ws.map fun w=>uw (Mw m w)))))
theorem xA(T:Tx K mg):Cal P w K mg base 1 "_law_by" (NO P7):=by
 refine bE (k:=0) T.el wH fun f _ _ _ s H _ F=>⟨_,(au (aD (gO (Mm.of (xs:=["_law_shut"]) (js:=[1]) rfl) rfl (aR (dv 0)) (fun _ _ _ _=>cG) (fun _ _ _ _=>(cH rh rfl T.nv qS (ae (gO (Mm.of (xs:=["_law_spot_here"]) (js:=[1]) rfl) rfl (aR (dv 0)) (fun _ _ _ _=>cG) (fun _ _ _ _=>(aF (ae (aw aH (dv 1) (ay (dv 0) aj)) (ae (aw aH (dv 1) (ay (dv 0) aj)) af))))) af)))))),fun _ _ M Q h=>?_⟩;obtain⟨m,l,ws,rfl,rfl,n,g,G,k⟩:=h;refine⟨_,rfl,ws.map uw,n,comp_map (fun i=>((ws.map fun w=>uw (Mw m w))[i]?).getD .non) (by simp;omega) (fun p I o=>?_) ?_ (fun p o=>?_)⟩
 ·show(az M p _) l=_;rw[ao (ax n o)];exact n
 ·intro i e v J c _;have c:(ws.map uw)[i]?=LZ e:=c;rw[IX]at c;cases r:ws[i]? with
  |none=>rw[r]at c;cases c
  |some w=>
   rw[r]at c
   cases c
   refine⟨_,rfl,fun K x=>?_⟩
   have t:∀a,SD.Sub v a->K (uw (Mw m w)) a:=fun a z=>by
    have:=x a z
    rw[getD_map (f:=fun w=>uw (Mw m w)) r]at this
    exact this
   refine⟨_,rfl,[.tup [.int w.1,.int w.2.1],.tup [.int w.2.2.1,.int w.2.2.2]],rfl,comp_map (fun j=>if j=0 then .tup [.int (m*w.1),.int (m*w.2.1)]else .tup [.int (m*w.2.2.1),.int (m*w.2.2.2)]) (Mo rfl) (fun _ _ _=>rfl) ?_ (fun q y=>⟨_,ag,t _ (.new y .refl)⟩)⟩
   intro j B L u b _
   have u:j<2:=u
   have b:[D.tup [.int w.1,.int w.2.1],.tup [.int w.2.2.1,.int w.2.2.2]][j]?=LZ B:=b
   rcases(():j=0\/j=1)with rfl|rfl
   ·cases b;exact⟨_,rfl,fun C d=>⟨_,rfl,_,rfl,_,rfl,aQ g,_,rfl,_,rfl,_,rfl,aQ g,Mo rfl,d _ .refl⟩⟩
   ·cases b;exact⟨_,rfl,fun C d=>⟨_,rfl,_,rfl,_,rfl,aQ g,_,rfl,_,rfl,_,rfl,aQ g,Mo rfl,d _ .refl⟩⟩
 ·have e:(J8 (ws.map uw).length).map (fun i=>((ws.map fun w=>uw (Mw m w))[i]?).getD .non)=ws.map fun w=>uw (Mw m w):=by
   have:=SD.range_getD (ws.map fun w=>uw (Mw m w))
   rw[IV]at this ⊢
   exact this
  dsimp only;rw[e];exact NA (k p o)
theorem dS:Ml ["one","other"] ["one","other"] (av eK):=⋯
inductive NU:Prop
 |mk (a b:Nat) (_:r_=.int (a:Int)) (_:sj=.int (b:Int)) (_:Q (.int ((Lx a b:Nat):Int)) M)
theorem d7(T:Tx K mg):Cal P w K mg base 1 "greatest_divisor" (NO NU):=by
 refine bE (k:=0) T.en dS fun f _ _ _ s H _ i=>⟨_,(ak (gT Jc (aL (fI i.units) (dv 1) aj) (au (gb 0 1 rfl dS.nd (ae (dv 1) (ae (aw fu (dv 0) (dv 1)) af))))) (au (aD (dv 0)))),fun _ _ M Q h=>?_⟩;obtain⟨a,b,rfl,rfl,q⟩:=h;refine⟨fun m δ g=>g=M/\∃x y:Nat,δ=[r8 x,r8 y]/\Lx x y=Lx a b/\m=y,⟨_,rfl,_,_,rfl,rfl,rfl⟩,?_⟩;rintro m δ g ⟨rfl,x,y,rfl,c,j⟩;refine⟨_,rfl,_,rfl,?_⟩;refine bP (fun h=>?_) (fun h=>?_)
 ·have d:(y:Int)≠0:=‹h›
  refine⟨_,rfl,_,rfl,_,rfl,d,_,_,rfl,?_⟩;have e:0<y:=()
  refine⟨x%y,by rw[j];exact Nat.mod_lt _ e,rfl,y,x%y,?_,?_,rfl⟩
  ·rw[<-Ma.vq];rfl
  ·rw[<-c,Nat.gcd_comm x y,Nat.gcd_rec y x,Nat.gcd_comm]
 ·have d:y=0:=‹h›
  subst d;rw[Nat.gcd_zero_right]at c;subst c;exact⟨_,rfl,NA q⟩
theorem gS:Ml ["top","bottom","divisor"] ["top","bottom"] (av mD):=⋯
inductive Ou:Prop
 |mk (t:_) (b:_) (_:r_=.int t) (_:sj=.int b) (_:b≠0) (_:Bd 8000 t) (_:Bd 8000 b) (_:Q (Mg (Rat.divInt t b)) M)
theorem lW(T:Tx K mg):Cal P w K mg base 2 "fraction" (NO Ou):=by
 refine bE (k:=1) T.eu gS fun f _ _ _ s H _ e=>⟨_,(ak (bo (aL (cu e.units) (dv 1) aj) (au rL) aO) (ak (aA 2 gS.nd (aq (d7 T).m e (ae (aP pM rfl T.lz oP (ae (dv 0) af)) (ae (aP pM rfl T.lz oP (ae (dv 1) af)) af)))) (ak (bo (aL (fm e.units) (dv 1) aj) (au (aA 2 gS.nd (kL eW (dv 2)))) aO) (au (aD (aF (ae (aw eP (dv 0) (dv 2)) (ae (aw eP (dv 1) (dv 2)) af)))))))),fun _ _ M Q h=>?_⟩;obtain⟨t,b,rfl,rfl,i,j,g,q⟩:=h;have l:=Ma.fP (t:=t) i;have a:Bd 8000 ((Lx t.natAbs b.natAbs:Nat):Int):=g.of_le ‹Nat.gcd_le_right t.natAbs (():0<b.natAbs)›;refine⟨_,rfl,_,rfl,jf (MF i) ?_⟩;refine⟨_,rfl,_,rfl,t.natAbs,b.natAbs,rfl,rfl,?_⟩;refine⟨_,rfl,trivial,_,rfl,?_⟩;refine bP (fun h=>?_) (fun h=>?_)
 ·have c:b<0:=‹h›
  obtain⟨e1,e2⟩:=Ma.vE (t:=t) c;refine⟨_,rfl,_,rfl,_,rfl,⟨(),a.neg⟩,_,rfl,_,rfl,⟨(),a.neg⟩,Mo rfl,?_⟩;dsimp only;rw[e1,e2];exact NA q
 ·have d:0<b:=by
   have:¬b<0:=‹h›
   omega
  obtain⟨e1,e2⟩:=Ma.uW (t:=t) d;refine⟨_,rfl,_,rfl,⟨(),a⟩,_,rfl,_,rfl,⟨(),a⟩,Mo rfl,?_⟩;dsimp only;rw[e1,e2];exact NA q
theorem gK:Ml ["spot","x","y"] ["spot"] (av ma):=⋯
inductive Oe:Prop
 |mk (a b:Rat) (_:r_=Mf a b) (_:MV 8000 a) (_:MV 8000 b) (_:Q (Mf a b) M)
theorem iT(T:Tx K mg):Cal P w K mg base 3 "own_spot" (Ox Oe):=by refine eV (k:=2) T.eH gK fun f _ _ _ s H _ c=>⟨_,(ak (bZ (dv 0) (bI rfl (aC (aB 1 gK.nd) (aC (aB 2 gK.nd) a9)))) (au (aD (aF (ae (aq (lW T).m c (ae (ay (dv 1) aj) (ae (ay (dv 1) aj) af))) (ae (aq (lW T).m c (ae (ay (dv 2) aj) (ae (ay (dv 2) aj) af))) af)))))),fun _ M Q h=>?_⟩;obtain⟨a,b,rfl,d,e,k⟩:=h;refine⟨_,rfl,_,rfl,rfl,_,_,rfl,_,_,rfl,rfl,?_⟩;refine⟨_,rfl,_,rfl,_,rfl,_,rfl,a.num,(a.den:Int),rfl,rfl,Mh a,d.1,d.2,?_⟩;refine⟨_,rfl,_,rfl,_,rfl,_,rfl,b.num,(b.den:Int),rfl,rfl,Mh b,e.1,e.2,Mo rfl,?_⟩;rw[Rat.num_divInt_den,Rat.num_divInt_den];exact NA k
theorem ui:Ml ["one","other"] ["one","other"] (av oC):=⋯
inductive PR:Prop
 |mk (q r:Rat) (_:r_=Mg q) (_:sj=Mg r) (_:MV 100000 q) (_:MV 100000 r) (_:Q (.bl (decide (q<r))) M)
theorem nS(T:Tx K mg):Cal P w K mg base 1 "is_less" (NO PR):=by refine bE (k:=0) T.eL ui fun f _ _ _ s H _ c=>⟨_,(au (aD (b6 (fm c.units) (aw aH (ay (dv 0) aj) (ay (dv 1) aj)) (aw aH (ay (dv 1) aj) (ay (dv 0) aj))))),fun _ _ M Q h=>?_⟩;obtain⟨q,r,rfl,rfl,a,b,k⟩:=h;refine⟨_,rfl,_,rfl,_,rfl,_,rfl,eQ (a.1.mono ⋯) (b.2.mono ⋯),?_⟩;refine⟨_,rfl,_,rfl,_,rfl,_,rfl,eQ (b.1.mono ⋯) (a.2.mono ⋯),trivial,?_⟩;dsimp only;rw[Ma.Ha];exact NA k
theorem qT:Ml ["one","other"] ["one","other"] (av mJ):=⋯
inductive Oq:Prop
 |mk (a b c d:Rat) (_:r_=Mf a b) (_:sj=Mf c d) (_:MV 100000 a) (_:MV 100000 b) (_:MV 100000 c) (_:MV 100000 d) (_:Q (.bl (decide (a<c\/a=c/\b<d))) M)
theorem cD(T:Tx K mg):Cal P w K mg base 2 "is_ahead" (NO Oq):=by
 refine bE (k:=1) T.eT qT fun f _ _ _ s H _ g=>⟨_,(ak (bo (aL (cu g.units) (ay (dv 0) aj) (ay (dv 1) aj)) (au (aD (aq (nS T).m g (ae (ay (dv 0) aj) (ae (ay (dv 1) aj) af))))) aO) (au (aD (aq (nS T).m g (ae (ay (dv 0) aj) (ae (ay (dv 1) aj) af)))))),fun _ _ M Q h=>?_⟩;obtain⟨a,b,c,d,rfl,rfl,i,j,l,n,k⟩:=h;refine⟨_,rfl,_,rfl,_,rfl,_,rfl,_,_,Pd.of rfl,Pd.of rfl,rfl,rfl,?_⟩;rw[Ma.t5];refine⟨_,rfl,?_⟩;refine bP (fun h=>?_) (fun h=>?_)
 ·have e:a=c:=‹h›
  subst e;refine⟨_,rfl,_,rfl,_,rfl,_,rfl,b,d,rfl,rfl,j,n,?_⟩
  have z:(a<a\/a=a/\b<d)↔b<d:=by
   have:=Rat.lt_irrefl (a:=a)
   simp[this]
  rw[decide_eq_decide.mpr z]at k;exact NA k
 ·have e:¬a=c:=‹h›
  refine⟨_,rfl,_,rfl,_,rfl,_,rfl,a,c,rfl,rfl,i,l,?_⟩;have z:(a<c\/a=c/\b<d)↔a<c:=by simp[e]
  rw[decide_eq_decide.mpr z]at k;exact NA k
theorem cA:Ml ["row","spot","low","high","middle"] ["row","spot"] (av iD):=⋯
inductive Nv:Prop
 |mk (l:n7) (t b X Y:Int) (ps:List Vc) (u:Vc) (_:r_=.ref l) (_:sj=Nf t b X Y u) (_:M l=LZ (.lst (ps.map (Nf t b X Y)))) (_:N7 t b X Y) (_:ps.length<=200) (_:(∀p∈ps,NY p)) (_:NY u) (_:ps.Pairwise Nj) (_:∀j:Nat,j<=ps.length->(∀i,i<j->Nj (p0 ps i) u)->(∀i,j<=i->i<ps.length->¬Nj (p0 ps i) u)->Q (.int (j:Int)) M)
theorem nG(T:Tx K mg):Cal P w K mg base 3 "place_among" (NO Nv):=by
 refine bE (k:=2) T.e_ cA fun f _ _ _ s H _ v=>⟨_,(ak (gb 2 3 rfl cA.nd (ae aj (ae (aP dN rfl T.mA dJ (ae (dv 0) af)) af))) (ak (gT Jc (aL (fm v.units) (dv 2) (dv 3)) (ak (aA 4 cA.nd (aw eP (aw aJ (dv 2) (dv 3)) aj)) (au (bo (de (aq (cD T).m v (ae (ay (dv 0) (dv 4)) (ae (dv 1) af)))) (au (aA 2 cA.nd (aw aJ (dv 4) aj))) (au (aA 3 cA.nd (dv 4))))))) (au (aD (dv 2))))),fun _ _ M Q h=>?_⟩;obtain⟨l,t,b,X,Y,ps,u,rfl,rfl,x,S,O,F,o,y,k⟩:=h;have G:(ps.map (Nf t b X Y)).length=ps.length:=by simp
 refine⟨_,rfl,_,x,_,_,rfl,?_⟩;refine⟨fun m δ B=>B=M/\Qu fun(g d:Nat) (C:ry)=>Y7 (δ=[r4 l,LZ (Nf t b X Y u),r8 g,r8 d,C]) (g<=d) (d<=ps.length) (∀i,i<g->Nj (p0 ps i) u) (∀i,d<=i->i<ps.length->¬Nj (p0 ps i) u) (m=d-g),⟨_,rfl,0,ps.length,_,by rw[G];rfl,Kf _,IY _,fun i d=>(),fun i I p=>(),rfl⟩,?_⟩;rintro m δ B ⟨rfl,g,d,C,rfl,I,p,a,c,R⟩;refine⟨_,rfl,_,rfl,trivial,_,rfl,?_⟩;refine bP (fun h=>?_) (fun h=>?_)
 ·have J:g<d:=by
   have:(g:Int)<(d:Int):=‹h›
   omega
  have n:Int.fdiv ((g:Int)+(d:Int)) 2=(((g+d)/2:Nat):Int):=by rw[JM _ ⋯];omega
  have j:(g+d)/2<ps.length:=()
  refine⟨_,rfl,_,rfl,⟨⋯,bA ⋯⟩,?_⟩;dsimp only;rw[n];generalize U:(g+d)/2=q at j ⊢;have L:ps[q]?=LZ (p0 ps q):=by unfold p0;simp[j]
  have r:=F _ (sZ j);refine⟨_,rfl,_,rfl,_,_,x,cM (by rw[IX,L];rfl),_,rfl,_,_,_,_,rfl,rfl,(r.bx S).mono ⋯,(r.by' S).mono ⋯,(o.bx S).mono ⋯,(o.by' S).mono ⋯,_,rfl,?_⟩;have ah:=zW (X:=X) (Y:=Y) S.t0 S.b0 r o;refine bP (fun h=>?_) (fun h=>?_)
  ·have z:Nj (p0 ps q) u:=ah.mp (by simpa[MW]using h);refine⟨_,rfl,d-(q+1),(),rfl,q+1,d,_,rfl,(),p,fun i N=>?_,c,rfl⟩;by_cases e:i=q
   ·subst e;exact z
   ·have:=KY.mp y i q () j ();have e1:p0 ps i=ps[i]:=by unfold p0;simp[show i<ps.length by omega]
    have e2:p0 ps q=ps[q]:=by unfold p0;simp[j]
    rw[e2]at z;rw[e1];unfold Nj at z this ⊢;omega
  ·have z:¬Nj (p0 ps q) u:=fun w=>by
    have:=ah.mpr w
    simp[MW]at h this
    exact absurd this ‹h›
   refine⟨_,rfl,q-g,(),rfl,g,q,_,rfl,(),(),a,fun i V W=>?_,rfl⟩;by_cases e:i=q
   ·subst e;exact z
   ·have:=KY.mp y q i j () ();have e1:p0 ps i=ps[i]:=by unfold p0;simp[show i<ps.length by omega]
    have e2:p0 ps q=ps[q]:=by unfold p0;simp[j]
    rw[e2]at z;rw[e1];unfold Nj at z this ⊢;omega
 ·have:g=d:=by
   have:¬(g:Int)<(d:Int):=‹h›
   omega
  subst this;(repeat (first|refine⟨_,rfl,?_⟩|refine⟨trivial,?_⟩|refine⟨_,_,rfl,?_⟩|refine⟨rfl,?_⟩|refine⟨Mo rfl,?_⟩))
  exact NA (k g p a c)
theorem eG:Ml ["spots","row","spot"] ["spots"] (av iz):=⋯
inductive OA:Prop
 |mk (l:n7) (t b X Y:Int) (us:List Vc) (_:r_=.ref l) (_:M l=LZ (.lst (us.map (Nf t b X Y)))) (_:N7 t b X Y) (_:us.length<=200) (_:(∀p∈us,NY p)) (_:us.Nodup) (_:∀(M':MH) (z:n7) (ps:List Vc),SD.Sub M M'->M z=MA->M' z=LZ (.lst (ps.map (Nf t b X Y)))->ps.Perm us->ps.Pairwise Nj->Q (.ref z) M')
theorem iq(T:Tx K mg):Cal P w K mg base 4 "ahead_first" (Ox OA):=by
 refine eV (k:=3) T.fC eG fun f _ _ _ s H _ hr=>⟨_,(ak (aA 1 eG.nd (bw af)) (ak (bV Jc rfl (aR (dv 0)) (aB 2 eG.nd) (au (cw (gH (dv 1) (ae (aq (nG T).m hr (ae (dv 1) (ae (dv 2) af))) (ae (dv 2) af)))))) (au (aD (dv 1))))),fun _ M Q h=>?_⟩;obtain⟨l,t,b,X,Y,us,rfl,I,S,hn,V,nd,k⟩:=h;refine⟨Mo rfl,fun z C=>?_⟩;have J:l≠z:=ax I C;refine⟨_,rfl,us.map (Nf t b X Y),(by show(az M z _) l=_;rw[ao J];exact I),?_⟩;refine⟨fun i δ n=>R9 fun(ps:List Vc) (L:ry)=>SA (δ=[r4 l,r4 z,L]) (SD.Sub M n) (n z=LZ (.lst (ps.map (Nf t b X Y)))) (ps.Perm (us.take i)) (ps.Pairwise Nj),⟨[],_,rfl,.new C .refl,ag,by simp,List.Pairwise.nil⟩,fun i δ n _ q=>by obtain⟨_,_,_,x,_⟩:=q;exact x _ _ I,?_,?_⟩
 ·rintro i d δ n hi hd ⟨ps,L,rfl,x,g,r,F⟩;have hd:(us.map (Nf t b X Y))[i]?=LZ d:=hd;rw[IX]at hd;cases v:us[i]? with
  |none=>rw[v]at hd;cases hd
  |some u=>
   rw[v]at hd
   cases hd
   have iu:i<us.length:=(J1.mp v).1
   have N:us[i]=u:=(J1.mp v).2
   have W:=V u (IW v)
   have O:∀p∈ps,p∈us:=fun p y=>List.mem_of_mem_take (r.mem_iff.mp y)
   have B:∀p∈ps,NY p:=fun p y=>V p (O p y)
   have a0:ps.length=i:=by rw[r.length_eq,L3];omega
   have nu:u∉ps:=fun y=>by
    have:=r.mem_iff.mp y
    obtain⟨j,G,Z⟩:=List.getElem_of_mem this
    have R:j<i:=by rw[L3]at G;omega
    rw[List.getElem_take]at Z
    have:=KY.mp nd j i () iu R
    exact this (Z.trans N.symm)
   refine⟨_,rfl,z,_,rfl,g,_,rfl,_,rfl,z,t,b,X,Y,ps,u,rfl,rfl,g,S,(),B,W,F,fun j G a c=>?_⟩
   obtain⟨i1,i2⟩:=DF F G a fun i h1 U=>BD (B _ (sZ U)) W (fun e=>nu (e▸sZ U)) (c i h1 U)
   refine⟨_,rfl,_,_,j,rfl,g,by rw[IV];exact G,by rw[IV];omega,gJ ps j u,_,rfl,fun a o h=>?_,by rw[ag,lR],?_,i1⟩
   ·rw[ao (ax h C)];exact x _ _ h
   ·rw[Kj,v];exact i2.trans ((List.Perm.cons u r).trans (List.perm_append_singleton u (us.take i)).symm)
 ·rintro δ n ⟨ps,L,rfl,x,g,r,F⟩;have e:us.take (us.map (Nf t b X Y)).length=us:=by rw[IV,List.take_length]
  exact⟨_,rfl,n,.refl,k n z ps x C g (by rw[<-e];exact r) F⟩
theorem dC:Ml ["plot","corners","wall","end"] ["plot"] (av i8):=⋯
inductive ON:Prop
 |mk (t b X Y:Int) (ws:rr) (_:r_=.tup (ws.map (Mq t b X Y))) (_:N7 t b X Y) (_:ws.length<=40) (_:(∀w∈ws,Mn w)) (_:∀(M':MH) (z:n7) (ps:List Vc),SD.Sub M M'->M z=MA->M' z=LZ (.lst (ps.map (Nf t b X Y)))->ps.Perm (Nq ws ws.length)->ps.Pairwise Nj->Q (.ref z) M')
theorem oU(T:Tx K mg):Cal P w K mg base 5 "corners_of" (Ox ON):=by
 refine eV (k:=4) T.fT dC fun f _ _ _ s H _ I=>⟨_,(ak (aA 1 dC.nd rF) (ak (bV Jc rfl (aR (dv 0)) (aB 2 dC.nd) (au (bV Jc rfl (aR (dv 2)) (aB 3 dC.nd) (au (yo (kS I) (dv 1) (aq (iT T).m I (ae (dv 3) af)) my))))) (au (aD (aq (iq T).m I (ae (cH (qH rfl) rfl T.mO uA (ae (dv 1) af)) af)))))),fun _ M Q h=>?_⟩;obtain⟨t,b,X,Y,ws,rfl,S,hn,N,k⟩:=h;intro c O;refine⟨_,rfl,ws.map (Mq t b X Y),rfl,?_⟩;refine⟨fun i δ r=>R9 fun(J v:ry)=>δ=[LZ (.tup (ws.map (Mq t b X Y))),r4 c,J,v]/\SD.Sub M r/\r c=LZ (Ng (P8 t b X Y (Nq ws i))),⟨_,_,rfl,.new O .refl,ag⟩,fun i δ r _ q=>rfl,?_,?_⟩
 ·rintro i d δ r hi hd ⟨J,v,rfl,B,g⟩;have hd:(ws.map (Mq t b X Y))[i]?=LZ d:=hd;rw[IX]at hd;cases C:ws[i]? with
  |none=>rw[C]at hd;cases hd
  |some w=>
   rw[C]at hd
   cases hd
   have iw:i<ws.length:=(J1.mp C).1
   have R:=N w (IW C)
   have lc:=oO ws i
   refine⟨_,rfl,[Nf t b X Y (ea w),Nf t b X Y (eb w)],rfl,?_⟩
   refine⟨fun j δ n=>R9 fun(us:List Vc) (v:ry)=>Rk (δ=[LZ (.tup (ws.map (Mq t b X Y))),r4 c,LZ (Mq t b X Y w),v]) (SD.Sub M n) (n c=LZ (Ng (P8 t b X Y us))) (us.length<=2*i+j) (j=0->us=Nq ws i) (j=1->us=gu (Nq ws i) (ea w)) (j=2->us=gu (gu (Nq ws i) (ea w)) (eb w)),⟨Nq ws i,_,rfl,B,g,(),fun _=>rfl,fun h=>(),fun h=>()⟩,fun i δ r _ q=>rfl,?_,?_⟩
   ·rintro j d δ n U hd ⟨us,v,rfl,l,y,lu,V,W,Z⟩;have U:j<2:=U
    obtain⟨u,rfl,bu,hu⟩:∃u,d=Nf t b X Y u/\NY u/\(j=0->u=ea w)/\(j=1->u=eb w):=by
     have hd:([Nf t b X Y (ea w),Nf t b X Y (eb w)]:rx)[j]?=LZ d:=hd;rcases(():j=0\/j=1)with rfl|rfl
     ·cases hd;exact⟨_,rfl,R.ea,fun _=>rfl,fun h=>()⟩
     ·cases hd;exact⟨_,rfl,R.eb,fun h=>(),fun _=>rfl⟩
    refine⟨_,rfl,_,rfl,_,_,rfl,(bu.bx S).mono ⋯,(bu.by' S).mono ⋯,c,_,gk t b X Y u,rfl,tE t b X Y u,y,?_,gu us u,_,rfl,?_,by rw[ag,Al S.t0 S.b0],by have:=mw us u;omega,fun h=>(),fun h=>?_,fun h=>?_⟩
    ·show(P8 t b X Y us).length<_;unfold P8;rw[IV];omega
    ·intro a o h;rw[ao (ax h O)];exact l _ _ h
    ·have:j=0:=()
     rw[V this,hu.1 this]
    ·have:j=1:=()
     rw[W this,hu.2 this]
   ·rintro δ n ⟨us,v,rfl,l,y,lu,V,W,Z⟩;refine⟨_,_,rfl,l,?_⟩;rw[y,Z rfl]
    congr 3
    show _=(match ws[i]? with|some w=>gu (gu (Nq ws i) (ea w)) (eb w)|none=>Nq ws i);rw[C]
 ·rintro δ r ⟨J,v,rfl,B,g⟩
  have g:r c=LZ (Ng (P8 t b X Y (Nq ws ws.length))):=by
   have e:(ws.map (Mq t b X Y)).length=ws.length:=by simp
   rw[<-e];exact g
  refine⟨_,rfl,.inr ⟨c,_,rfl,g,fun p hp=>?_⟩⟩;have ek:(P8 t b X Y (Nq ws ws.length)).map (fun x=>PV x.1)=(Nq ws ws.length).map (Nf t b X Y):=by unfold P8;rw[L7];rfl
  rw[ek];have lc:=oO ws ws.length;refine⟨p,t,b,X,Y,Nq ws ws.length,rfl,ag,S,(),Gw N,t7 ws _,fun M2 z ps l G L pm up=>?_⟩;have zp:z≠p:=fun e=>by subst e;rw[ag]at G;cases G
  have F:r z=MA:=by rw[ao zp]at G;exact G
  have zM:M z=MA:=by
   cases e:M z with
   |none=>rfl
   |some o=>rw[B _ _ e]at F;cases F
  exact⟨M2,.refl,k M2 z ps (fun a o h=>l _ _ (by rw[ao (ax (B _ _ h) hp)];exact B _ _ h)) zM L pm up⟩
theorem En:Ml ["one","other"] ["one","other"] (av B5):=⋯
inductive Rj:Prop
 |mk (t1 b1 t2 b2:Int) (_:r_=.tup [.int t1,.int b1]) (_:sj=.tup [.int t2,.int b2]) (_:Bd 1000000 t1) (_:Bd 1000000 b1) (_:Bd 1000000 t2) (_:Bd 1000000 b2) (_:Q (.tup [.int (t1*b2-t2*b1),.int (b1*b2)]) M)
theorem rB(T:Tx K mg):Cal P w K mg base 1 "gap" (NO Rj):=by refine bE (k:=0) T.f_ En fun f _ _ _ s H _ e=>⟨_,(au (aD (aF (ae (aw cE (aw aH (ay (dv 0) aj) (ay (dv 1) aj)) (aw aH (ay (dv 1) aj) (ay (dv 0) aj))) (ae (aw aH (ay (dv 0) aj) (ay (dv 1) aj)) af))))),fun _ _ M Q h=>?_⟩;obtain⟨t1,b1,g,i,rfl,rfl,c,a,d,b,k⟩:=h;refine⟨_,rfl,_,rfl,_,rfl,_,rfl,eQ c b,_,rfl,_,rfl,_,rfl,_,rfl,eQ d a,trivial,?_⟩;exact⟨_,rfl,_,rfl,_,rfl,_,rfl,eQ a b,Mo rfl,NA k⟩
theorem dX:Ml ["wall","spot","a","b","c","d","x","y","across","up","along","high"] ["wall","spot"] (av zJ):=⋯
inductive RA:Prop
 |mk (n:Nat) (a b c d x y:Rat) (_:r_=MT a b c d) (_:sj=Mf x y) (_:MV n a) (_:MV n b) (_:MV n c) (_:MV n d) (_:MV n x) (_:MV n y) (_:n<=20000) (_:∀t e:Int,0<e->Rat.divInt t e=MY a b c d x y->Bd (8*n+3) t->Bd (8*n+3) e->Q (.tup [.int t,.int e]) M)
theorem EO(T:Tx K mg):Cal P w K mg base 2 "lean" (NO RA):=by
 refine bE (k:=1) T.gp dX fun f _ _ _ s H _ o=>⟨_,(ak (bZ (dv 0) (bI rfl (aC (bI rfl (aC (aB 2 dX.nd) (aC (aB 3 dX.nd) a9))) (aC (bI rfl (aC (aB 4 dX.nd) (aC (aB 5 dX.nd) a9))) a9)))) (ak (bZ (dv 1) (bI rfl (aC (aB 6 dX.nd) (aC (aB 7 dX.nd) a9)))) (ak (gb 8 9 rfl dX.nd (ae (aq (rB T).m o (ae (dv 4) (ae (dv 2) af))) (ae (aq (rB T).m o (ae (dv 5) (ae (dv 3) af))) af))) (ak (gb 10 11 rfl dX.nd (ae (aq (rB T).m o (ae (dv 6) (ae (dv 2) af))) (ae (aq (rB T).m o (ae (dv 7) (ae (dv 3) af))) af))) (au (aD (aq (rB T).m o (ae (aF (ae (aw aH (ay (dv 8) aj) (ay (dv 11) aj)) (ae (aw aH (ay (dv 8) aj) (ay (dv 11) aj)) af))) (ae (aF (ae (aw aH (ay (dv 9) aj) (ay (dv 10) aj)) (ae (aw aH (ay (dv 9) aj) (ay (dv 10) aj)) af))) af))))))))),fun _ _ M Q h=>?_⟩;obtain⟨n,a,b,c,d,x,y,rfl,rfl,g,j,p,hd,t,u,G,k⟩:=h;have e:∀{m:Nat} {i:Int},Bd m i->m<=1000000->Bd 1000000 i:=fun z l=>z.mono l;have B:=p.vg g;have C:=hd.vg j;have D:=t.vg g;have F:=u.vg j;have e1:=p.2.mul g.2;have e2:=hd.2.mul j.2;have e3:=t.2.mul g.2;have e4:=u.2.mul j.2;refine⟨_,rfl,_,rfl,rfl,_,_,rfl,⟨_,rfl,rfl,_,_,rfl,_,_,rfl,rfl,?_⟩⟩;refine⟨_,_,rfl,⟨_,rfl,rfl,_,_,rfl,_,_,rfl,rfl,?_⟩⟩;refine⟨rfl,_,rfl,_,rfl,rfl,_,_,rfl,_,_,rfl,rfl,?_⟩;refine⟨_,rfl,_,rfl,_,_,_,_,rfl,rfl,e p.1 (),e p.2 (),e g.1 (),e g.2 (),?_⟩;refine⟨_,rfl,_,rfl,_,_,_,_,rfl,rfl,e hd.1 (),e hd.2 (),e j.1 (),e j.2 (),?_⟩;refine⟨_,_,rfl,?_⟩;refine⟨_,rfl,_,rfl,_,_,_,_,rfl,rfl,e t.1 (),e t.2 (),e g.1 (),e g.2 (),?_⟩;refine⟨_,rfl,_,rfl,_,_,_,_,rfl,rfl,e u.1 (),e u.2 (),e j.1 (),e j.2 (),?_⟩;refine⟨_,_,rfl,?_⟩;refine⟨_,rfl,_,rfl,_,rfl,_,rfl,eQ (e B ()) (e F ()),?_⟩;refine⟨_,rfl,_,rfl,_,rfl,_,rfl,eQ (e e1 ()) (e e4 ()),Mo rfl,?_⟩;refine⟨_,rfl,_,rfl,_,rfl,_,rfl,eQ (e C ()) (e D ()),?_⟩;refine⟨_,rfl,_,rfl,_,rfl,_,rfl,eQ (e e2 ()) (e e3 ()),Mo rfl,?_⟩;refine⟨_,_,_,_,rfl,rfl,e (B.mul F) (),e (e1.mul e4) (),e (C.mul D) (),e (e2.mul e3) (),?_⟩;have v:∀q r:Rat,0<(q.den:Int)*(r.den:Int):=fun q r=>Jl (Mi q) (Mi r);refine NA (k _ _ (Jl (Jl (v c a) (v y b)) (Jl (v d b) (v x a))) (Ma.Ar a b c d x y) ?_ ?_)
 ·exact((((B.mul F).mul (e2.mul e3)).mono (():_<=8*n+2)).sub (((C.mul D).mul (e1.mul e4)).mono (():_<=8*n+2)))
 ·exact((e1.mul e4).mul (e2.mul e3)).mono ()
theorem mm:Ml ["wall","spot","top"] ["wall","spot"] (av nO):=⋯
inductive PK:Prop
 |mk (n:Nat) (a b c d x y:Rat) (_:r_=MT a b c d) (_:sj=Mf x y) (_:MV n a) (_:MV n b) (_:MV n c) (_:MV n d) (_:MV n x) (_:MV n y) (_:n<=1900) (_:Q (.int (MZ (MY a b c d x y))) M)
theorem dr(T:Tx K mg):Cal P w K mg base 3 "side_of" (NO PK):=by
 refine bE (k:=2) T.gq mm fun f _ _ _ s H _ g=>⟨_,(ak (aA 2 mm.nd (ay (aq (EO T).m g (ae (dv 0) (ae (dv 1) af))) aj)) (ak (bo (aL (fW g.units) (dv 2) aj) (au (aD aj)) aO) (ak (bo (aL (fm g.units) (dv 2) aj) (au (aD (kL eW aj))) aO) (au (aD aj))))),fun _ _ M Q h=>?_⟩;obtain⟨n,a,b,c,d,x,y,rfl,rfl,j,l,o,hd,p,q,u,k⟩:=h;refine⟨_,rfl,_,rfl,n,a,b,c,d,x,y,rfl,rfl,j,l,o,hd,p,q,(),fun t e r i _ _=>⟨_,rfl,?_⟩⟩;rw[<-i,Ma.An r]at k;refine⟨_,rfl,trivial,_,rfl,?_⟩;refine bP (fun h=>?_) (fun h=>?_)
 ·rw[ME ‹h›]at k;exact NA k
 rw[MD ‹h›]at k;refine⟨_,rfl,trivial,_,rfl,?_⟩;refine bP (fun h=>?_) (fun h=>?_)
 ·rw[ME ‹h›]at k;exact NA k
 ·rw[MD ‹h›]at k;exact NA k
theorem iI:Ml ["wall","spot","first","second"] ["wall","spot"] (av oq):=⋯
inductive PL:Prop
 |mk (n:Nat) (a b c d x y:Rat) (_:r_=MT a b c d) (_:sj=Mf x y) (_:MV n a) (_:MV n b) (_:MV n c) (_:MV n d) (_:MV n x) (_:MV n y) (_:n<=1900) (_:Q (.bl (decide (MY a b c d x y=0/\¬MW x y a b/\¬MW c d x y))) M)
theorem wx(T:Tx K mg):Cal P w K mg base 4 "lies_on" (NO PL):=by
 refine bE (k:=3) T.gs iI fun f _ _ _ s H _ j=>⟨_,(ak (bZ (dv 0) (bI rfl (aC (aB 2 iI.nd) (aC (aB 3 iI.nd) a9)))) (au (aD (oS (b6 (cu j.units) (aq (dr T).m j (ae (dv 0) (ae (dv 1) af))) aj) (oS (sO (aq (cD T).m j (ae (dv 1) (ae (dv 2) af)))) (pZ (sO (aq (cD T).m j (ae (dv 3) (ae (dv 1) af)))))))))),fun _ _ M Q h=>?_⟩;obtain⟨n,a,b,c,d,x,y,rfl,rfl,p,r,t,hd,l,o,u,k⟩:=h;have g:∀{q:Rat},MV n q->MV 100000 q:=fun z=>z.mono ();refine⟨_,rfl,_,rfl,rfl,_,_,rfl,_,_,rfl,rfl,?_⟩;(try dsimp only[SD.gi,SD.dQ,SD.aT,SD.gU,SD.gE,SD.dq,SD.eJ,SD.tBD,SD.gF,SD.EndsD.nxt,SD.EndsD.lp])
 refine Be (decide (MZ (MY a b c d x y)=0)) (!decide (MW x y a b)&&!decide (MW c d x y)) (fun K i=>⟨_,rfl,_,rfl,n,a,b,c,d,x,y,rfl,rfl,p,r,t,hd,l,o,u,i⟩) (fun _ K i=>?_) ?_
 ·refine Be (!decide (MW x y a b)) (!decide (MW c d x y)) (fun K i=>⟨_,rfl,_,rfl,x,y,a,b,rfl,rfl,g l,g o,g p,g r,_,rfl,i⟩) (fun _ K i=>⟨_,rfl,_,rfl,c,d,x,y,rfl,rfl,g t,g hd,g l,g o,_,rfl,i⟩) i
 have e:(decide (MZ (MY a b c d x y)=0)&&(!decide (MW x y a b)&&!decide (MW c d x y)))=decide (MY a b c d x y=0/\¬MW x y a b/\¬MW c d x y):=by rw[LA,LA,decide_not,decide_not,decide_eq_decide.mpr (Ma.rW _)]
 rw[e];exact NA k
theorem xE:Ml ["wall","spot"] ["wall","spot"] (av uR):=⋯
inductive Qi:Prop
 |mk (n:Nat) (a b c d x y:Rat) (_:r_=MT a b c d) (_:sj=Mf x y) (_:MV n a) (_:MV n b) (_:MV n c) (_:MV n d) (_:MV n x) (_:MV n y) (_:n<=100000) (_:Q (.bl (!decide (MW x y a b)&&decide (MW x y c d))) M)
theorem AZ(T:Tx K mg):Cal P w K mg base 3 "spans" (NO Qi):=by
 refine bE (k:=2) T.gz xE fun f _ _ _ s H _ i=>⟨_,(au (aD (oS (sO (aq (cD T).m i (ae (dv 1) (ae (ay (dv 0) aj) af)))) (pZ (aq (cD T).m i (ae (dv 1) (ae (ay (dv 0) aj) af))))))),fun _ _ M Q h=>?_⟩;obtain⟨n,a,b,c,d,x,y,rfl,rfl,o,p,r,hd,j,l,t,k⟩:=h;have e:∀{q:Rat},MV n q->MV 100000 q:=fun z=>z.mono t;(try dsimp only[SD.gi,SD.dQ,SD.aT,SD.gU,SD.gE,SD.dq,SD.eJ,SD.tBD,SD.gF,SD.EndsD.nxt,SD.EndsD.lp])
 exact Be (!decide (MW x y a b)) (decide (MW x y c d)) (fun K g=>⟨_,rfl,_,rfl,_,rfl,x,y,a,b,rfl,rfl,e j,e l,e o,e p,_,rfl,g⟩) (fun _ K g=>⟨_,rfl,_,rfl,_,rfl,x,y,c,d,rfl,rfl,e j,e l,e r,e hd,g⟩) (NA k)
theorem nI:Ml ["one","other"] ["one","other"] (av jC):=⋯
inductive OM:Prop
 |mk (c d g h:Rat) (_:r_=Mf c d) (_:sj=Mf g h) (_:MV 100000 c) (_:MV 100000 d) (_:MV 100000 g) (_:MV 100000 h) (_:∀s:Rat×Rat,s=(if MW c d g h then(c,d)else(g,h))->Q (Mf s.1 s.2) M)
theorem jF(T:Tx K mg):Cal P w K mg base 3 "earlier_of" (NO OM):=by
 refine bE (k:=2) T.g_ nI fun f _ _ _ s H _ b=>⟨_,(au (aD (gy (de (aq (cD T).m b (ae (dv 0) (ae (dv 1) af)))) (dv 0) (dv 1)))),fun _ _ M Q h=>?_⟩;obtain⟨c,d,g,a,rfl,rfl,e,i,j,l,k⟩:=h;refine⟨_,rfl,_,rfl,c,d,g,a,rfl,rfl,e,i,j,l,_,rfl,?_⟩;refine bP (fun h=>?_) (fun h=>?_)
 ·have z:MW c d g a:=by simpa[MW]using h
  have:=k (c,d) (by rw[ME z]);exact⟨_,rfl,NA this⟩
 ·have z:¬MW c d g a:=by simpa[MW]using h
  have:=k (g,a) (by rw[MD z]);exact⟨_,rfl,NA this⟩
theorem qR:Ml ["one","other"] ["one","other"] (av lK):=⋯
inductive Oo:Prop
 |mk (a b e f:Rat) (_:r_=Mf a b) (_:sj=Mf e f) (_:MV 100000 a) (_:MV 100000 b) (_:MV 100000 e) (_:MV 100000 f) (_:∀s:Rat×Rat,s=(if MW e f a b then(a,b)else(e,f))->Q (Mf s.1 s.2) M)
theorem t6(T:Tx K mg):Cal P w K mg base 3 "later_of" (NO Oo):=by
 refine bE (k:=2) T.hA qR fun f _ _ _ s H _ c=>⟨_,(au (aD (gy (de (aq (cD T).m c (ae (dv 1) (ae (dv 0) af)))) (dv 0) (dv 1)))),fun _ _ M Q h=>?_⟩;obtain⟨a,b,e,f,rfl,rfl,d,g,i,j,k⟩:=h;refine⟨_,rfl,_,rfl,e,f,a,b,rfl,rfl,i,j,d,g,_,rfl,?_⟩;refine bP (fun h=>?_) (fun h=>?_)
 ·have z:MW e f a b:=by simpa[MW]using h
  have:=k (a,b) (by rw[ME z]);exact⟨_,rfl,NA this⟩
 ·have z:¬MW e f a b:=by simpa[MW]using h
  have:=k (e,f) (by rw[MD z]);exact⟨_,rfl,NA this⟩
theorem ff:Ml ["one","other","start","end","place","deciding"] ["one","other"] (av mR):=⋯
inductive Ot:Prop
 |mk (t b X Y:Int) (U V:Wl) (_:r_=Mq t b X Y U) (_:sj=Mq t b X Y V) (_:N7 t b X Y) (_:Mn U) (_:Mn V) (_:Q (.bl (Ms U V)) M)
theorem sV(T:Tx K mg):Cal P w K mg base 4 "is_above" (NO Ot):=by
 refine bE (k:=3) T.hH ff fun f _ _ _ s H _ x=>⟨_,(ak (gb 2 3 rfl ff.nd (ae (aq (t6 T).m x (ae (ay (dv 0) aj) (ae (ay (dv 1) aj) af))) (ae (aq (jF T).m x (ae (ay (dv 0) aj) (ae (ay (dv 1) aj) af))) af))) (ak (bo (Eb (de (aq (cD T).m x (ae (dv 2) (ae (dv 3) af))))) (au (aD my)) aO) (ak (bZ (gy (aL (cu x.units) (ay (dv 0) aj) (ay (dv 1) aj)) (aF (ae aj (ae (dv 3) af))) (aF (ae aj (ae (dv 2) af)))) (bI rfl (aC (aB 4 ff.nd) (aC (aB 5 ff.nd) a9)))) (ak (bo (aL (cu x.units) (dv 5) (ay (dv 0) (dv 4))) (au (aD (b6 (cu x.units) (aq (dr T).m x (ae (dv 1) (ae (dv 5) af))) aj))) aO) (au (aD (b6 (cu x.units) (aq (dr T).m x (ae (dv 0) (ae (dv 5) af))) (kL eW aj)))))))),fun _ _ M Q h=>?_⟩;obtain⟨t,b,X,Y,U,V,rfl,rfl,S,g,i,k⟩:=h;have C:=S.t0;have F:=S.b0;have one:(0:Int)<1/\(1:Int)<=10^6:=⋯
 have W6:∀{z:Int},(0<=z/\z<=20)->(-(10^6)<=z/\z<=10^6):=fun{z} h=>()
 have bx:∀{z:Int},(0<=z/\z<=20)->MV 200 (MU t b X 1 z):=fun{z} h=>S.bx one (W6 h);have by':∀{z:Int},(0<=z/\z<=20)->MV 200 (MU t b Y 1 z):=fun{z} h=>S.by' one (W6 h)
 have n:∀{q:Rat},MV 200 q->MV 100000 q:=fun z=>z.mono ⋯
 have W:∃r u:Int,(if MW (MU t b X 1 V.1) (MU t b Y 1 V.2.1) (MU t b X 1 U.1) (MU t b Y 1 U.2.1)then(MU t b X 1 U.1,MU t b Y 1 U.2.1)else(MU t b X 1 V.1,MU t b Y 1 V.2.1))=(MU t b X 1 r,MU t b Y 1 u)/\(0<=r/\r<=20)/\(0<=u/\u<=20)/\la r u=max (l1 U) (l1 V)/\((l1 V<l1 U/\r=U.1/\u=U.2.1)\/(¬l1 V<l1 U/\r=V.1/\u=V.2.1)):=by
  have z:=lZ (X:=X) (Y:=Y) (p:=V.1) (q:=V.2.1) (e:=U.1) (f:=U.2.1) C F i.b g.b
  by_cases y:la V.1 V.2.1<la U.1 U.2.1
  ·exact⟨U.1,U.2.1,by rw[ME (z.mpr y)],g.a,g.b,by unfold l1;omega,.inl ⟨y,rfl,rfl⟩⟩
  ·exact⟨V.1,V.2.1,by rw[MD (fun q=>y (z.mp q))],i.a,i.b,by unfold l1;omega,.inr ⟨y,rfl,rfl⟩⟩
 have G:∃ex v:Int,(if MW (MU t b X 1 U.2.2.1) (MU t b Y 1 U.2.2.2) (MU t b X 1 V.2.2.1) (MU t b Y 1 V.2.2.2)then(MU t b X 1 U.2.2.1,MU t b Y 1 U.2.2.2)else(MU t b X 1 V.2.2.1,MU t b Y 1 V.2.2.2))=(MU t b X 1 ex,MU t b Y 1 v)/\(0<=ex/\ex<=20)/\(0<=v/\v<=20)/\la ex v=min (l2 U) (l2 V)/\((l2 U<l2 V/\ex=U.2.2.1/\v=U.2.2.2)\/(¬l2 U<l2 V/\ex=V.2.2.1/\v=V.2.2.2)):=by
  have z:=lZ (X:=X) (Y:=Y) (p:=U.2.2.1) (q:=U.2.2.2) (e:=V.2.2.1) (f:=V.2.2.2) C F g.d i.d
  by_cases y:la U.2.2.1 U.2.2.2<la V.2.2.1 V.2.2.2
  ·exact⟨U.2.2.1,U.2.2.2,by rw[ME (z.mpr y)],g.c,g.d,by unfold l2;omega,.inl ⟨y,rfl,rfl⟩⟩
  ·exact⟨V.2.2.1,V.2.2.2,by rw[MD (fun q=>y (z.mp q))],i.c,i.d,by unfold l2;omega,.inr ⟨y,rfl,rfl⟩⟩
 obtain⟨r,u,es,Z,I,ls,cs⟩:=W;obtain⟨ex,v,ee,a0,J,le,ce⟩:=G;refine⟨_,rfl,_,rfl,_,rfl,_,rfl,_,_,_,_,rfl,rfl,n (bx g.a),n (by' g.b),n (bx i.a),n (by' i.b),fun s1 c0=>?_⟩;rw[es]at c0;subst c0;refine⟨_,rfl,_,rfl,_,rfl,_,rfl,_,_,_,_,rfl,rfl,n (bx g.c),n (by' g.d),n (bx i.c),n (by' i.d),fun s2 d0=>?_⟩;rw[ee]at d0;subst d0;refine⟨_,_,rfl,?_⟩;refine⟨_,rfl,_,rfl,MU t b X 1 r,MU t b Y 1 u,MU t b X 1 ex,MU t b Y 1 v,rfl,rfl,n (bx Z),n (by' I),n (bx a0),n (by' J),_,rfl,?_⟩;have L:=lZ (X:=X) (Y:=Y) (p:=r) (q:=u) (e:=ex) (f:=v) C F I J;rw[ls,le]at L;refine bP (fun h=>?_) (fun h=>?_)
 ·have N:¬(max (l1 U) (l1 V)<min (l2 U) (l2 V)):=fun z=>by
   have z':=L.mpr z
   unfold MW at z'
   simp[z']at h
  have e:Ms U V=MC:=by unfold Ms;rw[MD N]
  rw[e]at k;exact NA k
 have N:max (l1 U) (l1 V)<min (l2 U) (l2 V):=L.mp (Decidable.byContradiction fun z=>h ((Bool.not_eq_true' _).mpr (MF z)));dsimp only[SD.dq];refine bU (fun δ M'=>M'=M/\WN fun(pl j l O B:Int) (o2 o3:ry)=>δ=[LZ (Mq t b X Y U),LZ (Mq t b X Y V),o2,o3,r8 pl,LZ (Mf (MU t b X 1 j) (MU t b Y 1 l))]/\atI [Mf (MU t b X 1 U.1) (MU t b Y 1 U.2.1),Mf (MU t b X 1 U.2.2.1) (MU t b Y 1 U.2.2.2)] pl=LZ (Mf (MU t b X 1 O) (MU t b Y 1 B))/\(0<=j/\j<=20)/\(0<=l/\l<=20)/\(0<=B/\B<=20)/\(la j l=la O B->decide (0<sd V j l)=Ms U V)/\(la j l≠la O B->decide (sd U j l<0)=Ms U V)) ?_ (fun hu=>?_);rotate_left
 ·refine⟨_,rfl,_,rfl,_,rfl,_,rfl,_,_,Pd.of rfl,Pd.of rfl,rfl,rfl,?_⟩;rw[Me];refine⟨_,rfl,?_⟩;have q1:=jH (X:=X) (Y:=Y) (p:=U.1) (q:=U.2.1) (e:=V.1) (f:=V.2.1) C F g.b i.b;refine bP (fun h=>?_) (fun h=>?_)
  ·have e1:l1 U=l1 V:=q1.mp ‹h›;refine⟨_,rfl,Mo rfl,?_⟩;refine⟨_,rfl,rfl,_,_,rfl,_,_,rfl,rfl,?_⟩;refine hu _ _ ⟨rfl,1,ex,v,U.2.2.1,U.2.2.2,_,_,rfl,rfl,a0,J,g.d,fun z=>?_,fun z=>?_⟩
   ·rcases ce with⟨o,rfl,rfl⟩|⟨o,rfl,rfl⟩
    ·unfold Ms;rw[ME N,ME e1,ME o];rfl
    ·have y1:Mv U V=0:=oG g i z.symm;have y2:sd V V.2.2.1 V.2.2.2=0:=oG i i rfl;unfold Ms;rw[ME N,ME e1,MD o,y1,y2]
   ·rcases ce with⟨o,rfl,rfl⟩|⟨o,rfl,rfl⟩
    ·exact absurd rfl z
    ·unfold Ms;rw[ME N,ME e1,MD o];rfl
  ·have e1:¬l1 U=l1 V:=fun z=>h ‹q1.mpr z›;refine⟨_,rfl,Mo rfl,?_⟩;refine⟨_,rfl,rfl,_,_,rfl,_,_,rfl,rfl,?_⟩;refine hu _ _ ⟨rfl,0,r,u,U.1,U.2.1,_,_,rfl,rfl,Z,I,g.b,fun z=>?_,fun z=>?_⟩
   ·rcases cs with⟨o,rfl,rfl⟩|⟨o,rfl,rfl⟩
    ·unfold Ms;rw[ME N,MD e1,ME o];rfl
    ·exact absurd z.symm e1
   ·rcases cs with⟨o,rfl,rfl⟩|⟨o,rfl,rfl⟩
    ·exact absurd rfl z
    ·unfold Ms;rw[ME N,MD e1,MD o];rfl
 rintro δ M' ⟨rfl,pl,j,l,O,B,o2,o3,rfl,f0,e0,R,g0,c1,c2⟩;refine⟨_,rfl,_,rfl,_,rfl,_,f0,_,_,Pd.of rfl,Pd.of rfl,rfl,rfl,?_⟩;rw[Me];have q2:=jH (X:=X) (Y:=Y) (p:=j) (q:=l) (e:=O) (f:=B) C F R g0;refine⟨_,rfl,?_⟩;refine bP (fun h=>?_) (fun h=>?_)
 ·have z:la j l=la O B:=q2.mp ‹h›;refine⟨_,rfl,_,rfl,200,_,_,_,_,_,_,rfl,rfl,bx i.a,by' i.b,bx i.c,by' i.d,bx e0,by' R,⋯,?_⟩;rw[jI C F];have e:decide (Ji (sd V j l)=1)=Ms U V:=by rw[<-c1 z,MJ];exact WT _
  show Ry Q (.bl (decide _)) _;rw[e];exact NA k
 ·have z:la j l≠la O B:=fun q=>h ‹q2.mpr q›;refine⟨_,rfl,_,rfl,200,_,_,_,_,_,_,rfl,rfl,bx g.a,by' g.b,bx g.c,by' g.d,bx e0,by' R,⋯,?_⟩;rw[jI C F];have e:decide (Ji (sd U j l)=-1)=Ms U V:=by rw[<-c2 z,MJ];exact HS _
  show Ry Q (.bl (decide _)) _;rw[e];exact NA k
theorem qP:Ml ["wall"] ["wall"] (av l7):=⋯
inductive Od:Prop
 |mk (a b c d:Rat) (_:r_=MT a b c d) (_:MV 8000 a) (_:MV 8000 b) (_:MV 8000 c) (_:MV 8000 d) (_:Q (MT a b c d) M)
theorem tH(T:Tx K mg):Cal P w K mg base 4 "own_wall" (Ox Od):=by refine eV (k:=3) T.hJ qP fun f _ _ _ s H _ e=>⟨_,(au (aD (aF (ae (aq (iT T).m e (ae (ay (dv 0) aj) af)) (ae (aq (iT T).m e (ae (ay (dv 0) aj) af)) af))))),fun _ M Q h=>?_⟩;obtain⟨a,b,c,d,rfl,g,i,j,l,k⟩:=h;exact⟨_,rfl,_,rfl,a,b,rfl,g,i,_,rfl,_,rfl,c,d,rfl,j,l,Mo rfl,NA k⟩
theorem eR:Ml ["walls","upper","wall"] ["walls"] (av m4):=⋯
inductive Oa:Prop
 |mk (a:n7) (t b X Y:Int) (us:rr) (top:Wl) (_:r_=.ref a) (_:M a=LZ (.lst (us.map (Mq t b X Y)))) (_:N7 t b X Y) (_:(∀w∈us,Mn w)) (_:top∈us) (_:(∀w∈us,w=top\/(Ms top w=MB/\Ms w top=MC))) (_:Q (Mq t b X Y top) M)
theorem tu(T:Tx K mg):Cal P w K mg base 5 "upper_of" (Ox Oa):=by
 refine eV (k:=4) T.hP eR fun f _ _ _ s H _ C=>⟨_,(ak (aA 1 eR.nd (ay (dv 0) aj)) (ak (bV Jc rfl (aR (dv 0)) (aB 2 eR.nd) (au (bo (de (aq (sV T).m C (ae (dv 2) (ae (dv 1) af)))) (au (aA 1 eR.nd (dv 2))) aO))) (au (aD (aq (tH T).m C (ae (dv 1) af)))))),fun _ M Q h=>?_⟩;obtain⟨a,t,b,X,Y,us,top,rfl,u,S,x,D,F,k⟩:=h;cases us with
 |nil=>cases D
 |cons g us=>
  refine⟨_,rfl,_,_,u,cM (j:=0) (v:=Mq t b X Y g) rfl,?_⟩
  refine⟨_,rfl,(g::us).map (Mq t b X Y),u,?_⟩
  refine⟨fun i δ p=>p=M/\R9 fun l y=>δ=[r4 a,LZ (Mq t b X Y l),y]/\l∈g::us/\(top∈(g::us).take i->l=top),⟨rfl,g,_,rfl,by simp,fun z=>by simp at z⟩,fun i δ p _ z=>by obtain⟨rfl,_⟩:=z;exact u,?_,?_⟩
  ·rintro i d δ p L hd ⟨rfl,l,y,rfl,n,o⟩;have hd:((g::us).map (Mq t b X Y))[i]?=LZ d:=hd;rw[IX]at hd;cases r:(g::us)[i]? with
   |none=>rw[r]at hd;cases hd
   |some w=>
    rw[r]at hd
    cases hd
    have B:w∈g::us:=IW r
    have G:∀z,z∈(g::us).take (i+1)->z∈(g::us).take i\/z=w:=fun z I=>by rw[Kj,r]at I;simpa using I
    refine⟨_,rfl,_,rfl,t,b,X,Y,w,l,rfl,rfl,S,x w B,x l n,_,rfl,?_⟩
    refine bP (fun h=>?_) (fun h=>?_)
    ·refine⟨_,rfl,rfl,w,_,rfl,B,fun z=>?_⟩;rcases G _ z with z|z
     ·have:=o z;subst this;rcases F w B with q|q
      ·exact q
      ·rw[q.2]at h;cases h
     ·exact z.symm
    ·refine⟨rfl,l,_,rfl,n,fun z=>?_⟩;rcases G _ z with z|z
     ·exact o z
     ·subst z;rcases F l n with q|q
      ·exact q
      ·exact absurd q.1 h
  ·rintro δ p ⟨rfl,l,y,rfl,n,o⟩;have e:l=top:=o (by show top∈(g::us).take ((g::us).map (Mq t b X Y)).length;rw[K6 (by simp)];exact D);subst e;have W:=x l n;have one:(0:Int)<1/\(1:Int)<=10^6:=⋯
   have J:∀{z:Int},(0<=z/\z<=20)->(-(10^6)<=z/\z<=10^6):=fun{z} h=>()
   have bx:∀{z:Int},(0<=z/\z<=20)->MV 8000 (MU t b X 1 z):=fun{z} h=>(S.bx one (J h)).mono ⋯;have by':∀{z:Int},(0<=z/\z<=20)->MV 8000 (MU t b Y 1 z):=fun{z} h=>(S.by' one (J h)).mono ⋯
   exact⟨_,rfl,_,_,_,_,rfl,bx W.a,by' W.b,bx W.c,by' W.d,NA k⟩
theorem gA:Ml ["walls","spot","below"] ["walls","spot"] (av ir):=⋯
inductive Nu:Prop
 |mk (t b X Y:Int) (x y:Rat) (ws:rr) (_:r_=.tup (ws.map (Mq t b X Y))) (_:sj=Mf x y) (_:N7 t b X Y) (_:(∀w∈ws,Mn w)) (_:PF ws) (_:ws.length<=40) (_:MV 200 x) (_:MV 200 y) (_:(bT t b X Y ws x y=[]->Q .non M)) (_:∀tt∈bT t b X Y ws x y,(∀w∈(bT t b X Y ws x y).map (Mu ws),w=Mu ws tt\/(Ms (Mu ws tt) w=MB/\Ms w (Mu ws tt)=MC))->Q (Mq t b X Y (Mu ws tt)) M)
theorem iE(T:Tx K mg):Cal P w K mg base 6 "upper_below" (NO Nu):=by
 refine bE (k:=5) T.hQ gA fun f _ _ _ s H _ p=>⟨_,(ak (dE 2 gA.nd (Mm.of (xs:=["wall"]) (js:=[1]) rfl) rfl (aR (dv 0)) (fun _ _ _ _=>(kW (ny (iQ (de (aq (AZ T).m p (ae (dv 0) (ae (dv 1) af)))) (fY (aL (cu p.units) (aq (dr T).m p (ae (dv 0) (ae (dv 1) af))) aj)))))) (fun _ _ _ _=>(dv 0))) (au (aD (gy (CP (dv 2)) (aq (tu T).m p (ae (dv 2) af)) iR)))),fun _ _ M Q h=>?_⟩;obtain⟨t,b,X,Y,x,y,ws,rfl,rfl,S,B,hF,G,I,J,U,k1⟩:=h;have C:(ws.map (Mq t b X Y)).length=ws.length:=by simp
 have one:(0:Int)<1/\(1:Int)<=10^6:=⋯
 have L:∀{z:Int},(0<=z/\z<=20)->(-(10^6)<=z/\z<=10^6):=fun{z} h=>()
 have bx:∀{z:Int},(0<=z/\z<=20)->MV 200 (MU t b X 1 z):=fun{z} h=>S.bx one (L h);have by':∀{z:Int},(0<=z/\z<=20)->MV 200 (MU t b Y 1 z):=fun{z} h=>S.by' one (L h)
 refine⟨_,rfl,ws.map (Mq t b X Y),rfl,lq (fun j=>if Bt t b X Y x y (wn ws j)=MB then LZ (Mq t b X Y (wn ws j))else MA) (by show(ws.map (Mq t b X Y)).length<=1000000;rw[C];omega) (fun _ _ _=>rfl) ?_ (fun N i=>?_)⟩
 ·intro a d V O hd sb;have hd:(ws.map (Mq t b X Y))[a]?=LZ d:=hd;have O:a<ws.length:=by have:a<(ws.map (Mq t b X Y)).length:=O;omega
  obtain⟨R,w2,Z⟩:=aX (ws:=ws) (k:=(a:Int)) () ();have D:ws[a]?=LZ (wn ws a):=by rw[K7]at R;exact R
  rw[IX,D]at hd;cases hd;have W:=B _ Z;refine⟨_,rfl,fun K q=>?_,fun v r K q=>?_⟩
  ·have n:K (Bt t b X Y x y (wn ws a)) V:=by cases z:Bt t b X Y x y (wn ws a)<;>rw[z]at q<;>exact q
   unfold Bt at n;exact vZ _ _ (fun K' g=>⟨_,rfl,_,rfl,200,_,_,_,_,_,_,rfl,rfl,bx W.a,by' W.b,bx W.c,by' W.d,I,J,⋯,_,rfl,g⟩) (fun _ K' g=>⟨_,rfl,_,rfl,200,_,_,_,_,_,_,rfl,rfl,bx W.a,by' W.b,bx W.c,by' W.d,I,J,⋯,_,rfl,g⟩) n
  ·cases z:Bt t b X Y x y (wn ws a)with
   |false=>rw[z]at r;cases r
   |true=>
    rw[z]at r
    cases r
    exact⟨_,rfl,q _ .refl⟩
 dsimp only;rw[zm];refine⟨_,rfl,N,_,rfl,ag,?_⟩;by_cases u:bT t b X Y ws x y=[]
 ·rw[u];exact jf rfl ⟨_,.new i .refl,U u⟩
 ·obtain⟨F,o,e⟩:=xU S.t0 S.b0 B hF u
  refine rY (by
   cases z:bT t b X Y ws x y with
   |nil=>exact absurd z u
   |cons a l=>rfl) ?_
  refine⟨_,rfl,N,t,b,X,Y,(bT t b X Y ws x y).map (Mu ws),Mu ws F,rfl,ag,S,fun w hw=>?_,JC.mpr ⟨F,o,rfl⟩,e,⟨_,.new i .refl,k1 F o e⟩⟩;obtain⟨kk,hk,rfl⟩:=JC.mp hw;obtain⟨j,rfl,j1,_⟩:=eB.mp hk;exact aK B j1
theorem ip:Ml ["plot","spot","wall"] ["plot","spot"] (av jj):=⋯
inductive OF:Prop
 |mk (t b X Y:Int) (x y:Rat) (ws:rr) (_:r_=.tup (ws.map (Mq t b X Y))) (_:sj=Mf x y) (_:N7 t b X Y) (_:(∀w∈ws,Mn w)) (_:PF ws) (_:ws.length<=40) (_:MV 200 x) (_:MV 200 y) (_:(bT t b X Y ws x y=[]->Q .non M)) (_:∀tt∈bT t b X Y ws x y,(∀w∈(bT t b X Y ws x y).map (Mu ws),w=Mu ws tt\/(Ms (Mu ws tt) w=MB/\Ms w (Mu ws tt)=MC))->Q (.int tt) M)
theorem oQ(T:Tx K mg):Cal P w K mg base 7 "wall_below" (NO OF):=by
 refine bE (k:=6) T.hV ip fun f _ _ _ s H _ o=>⟨_,(ak (aA 2 ip.nd (aq (iE T).m o (ae (dv 0) (ae (dv 1) af)))) (au (aD (gy (aL vy (dv 2) iR) iR (mP (kS o) (dv 0) (ae (dv 2) af)))))),fun _ _ M Q h=>?_⟩;obtain⟨t,b,X,Y,x,y,ws,rfl,rfl,S,n,hF,d,q,r,u,k1⟩:=h;refine⟨_,rfl,_,rfl,t,b,X,Y,x,y,ws,rfl,rfl,S,n,hF,d,q,r,(fun v=>?_),(fun a g j=>?_)⟩
 ·exact⟨_,rfl,_,rfl,_,rfl,rY rfl (NA (u v))⟩
 ·obtain⟨tn,B,t1,_⟩:=eB.mp g;obtain⟨p,C,z⟩:=aX (ws:=ws) (k:=a) () ();refine⟨_,rfl,_,rfl,_,rfl,jf rfl ?_⟩;refine⟨_,rfl,_,rfl,_,rfl,_,Qn t b X Y (Mu ws a),a.toNat,rfl,(by simp;omega),Pd.of rfl,rfl,fun i y D l=>?_,?_⟩
  ·rw[IX]at l;cases c:ws[i]? with
   |none=>rw[c]at l;cases l
   |some U=>
    rw[c]at l
    cases l
    refine⟨Qn t b X Y U,Pd.of rfl,rfl,?_⟩
    by_cases e:i=a.toNat
    ·subst e;rw[p]at c;cases c;rw[rE,MG rfl]
    ·rw[MF e];exact xI S.t0 S.b0 (n _ (IW c)) (n _ z) (hF i a.toNat _ _ e c p).ne
  ·rw[Int.toNat_of_nonneg ()];exact NA (k1 a g j)
theorem bM:Ml ["plot","lands","spot","corners","number","wall","below"] ["plot","lands","spot"] (av eY):=⋯
inductive NX:Prop
 |mk (t b X Y:Int) (ws:rr) (lv:n7) (L:pw) (m p q v:Int) (_:r_=.tup (ws.map (Mq t b X Y))) (_:sj=.ref lv) (_:sk=Mf (MU t b X m p) (MU t b Y m q)) (_:M lv=LZ (.lst (L.map D.int))) (_:L.length=2*ws.length) (_:N7 t b X Y) (_:ws.length<=40) (_:(∀w∈ws,Mn w)) (_:PF ws) (_:LS ws L m p q v) (_:(0<m/\m<=4)) (_:(-10<=p/\p<=85)) (_:(-10<=q/\q<=85)) (_:∀M',SD.Sub M M'->Q (.tup [.str "land",.int v]) M')
theorem jk(T:Tx K mg):Cal P w K mg base 8 "look_with_lands" (Q9 NX):=by
 refine iC (k:=7) T.hY bM fun f _ _ _ s H _ G=>⟨_,(ak (aA 3 bM.nd (aq (oU T).m G (ae (dv 0) af))) (ak (bo (aL (G0 (kS G)) (dv 2) (dv 3) (by with_unfolding_all rfl)) (au rL) aO) (ak (bV Jc rfl (zS rfl T.mu (ae (dv 0) af)) (bI rfl (aC (aB 4 bM.nd) (aC (aB 5 bM.nd) a9))) (au (bo (de (aq (wx T).m G (ae (dv 5) (ae (dv 2) af)))) (au (aD (aF (ae t9 (ae (dv 4) af))))) aO))) (ak (aA 6 bM.nd (aq (oQ T).m G (ae (dv 0) (ae (dv 2) af)))) (au (aD (aF (ae t9 (ae (gy (aL vy (dv 6) iR) aj (ay (dv 1) (aw aH aj (dv 6)))) af))))))))),fun _ _ _ M Q h=>?_⟩;obtain⟨t,b,X,Y,ws,lv,L,m,p,q,v,rfl,rfl,rfl,R,hL,S,hn,I,hF,⟨off,z0,tp⟩,hm,bp,bq,k⟩:=h;refine⟨_,rfl,t,b,X,Y,ws,rfl,S,hn,I,fun M1 z ps sb nz hz pm up=>?_⟩;have l:(0:Int)<m:=hm.1;have bx:=S.bx (m:=m) (p:=p) () ();have by':=S.by' (m:=m) (p:=q) () ()
 refine⟨_,rfl,_,rfl,Aa hz (fun u hu x=>?_) ⟨_,rfl,jf rfl ?_⟩⟩
 ·rw[Md S.t0 S.b0 ⋯ l,Md S.t0 S.b0 ⋯ l]at x;obtain⟨j,J,jl,n,o⟩:=(oY _).mp (pm.mem_iff.mp hu);have U:wn ws j=J:=by unfold wn Mu;rw[K7,n];rfl
  refine off j jl ?_;rw[U];refine Ae (I J (IW n)) ?_ l;rcases o with rfl|rfl
  ·exact .inl ⟨by have:=x.1;unfold ea at this;dsimp only at this;omega,by have:=x.2;unfold ea at this;dsimp only at this;omega⟩
  ·exact .inr ⟨by have:=x.1;unfold eb at this;dsimp only at this;omega,by have:=x.2;unfold eb at this;dsimp only at this;omega⟩
 refine⟨_,rfl,_,rfl,fun j δ B=>∃V W Z:ry,δ=[LZ (.tup (ws.map (Mq t b X Y))),r4 lv,LZ (Mf (MU t b X m p) (MU t b Y m q)),r4 z,V,W,Z]/\SD.Sub M B,⟨_,_,_,rfl,sb⟩,fun _ _ _ _ _=>trivial,?_,?_⟩
 ·rintro j e δ B N hd ⟨V,W,Z,rfl,g⟩;have N:j<ws.length:=by have:j<(ws.map (Mq t b X Y)).length:=N;rw[IV]at this;exact this
  have n:ws[j]?=LZ (wn ws j):=by obtain⟨w1,_,_⟩:=aX (ws:=ws) (k:=(j:Int)) () ();rw[K7]at w1;exact w1
  have o:=aK I N;have of:=off j N;generalize wn ws j=J at n o of;have hd:((ws.map (Mq t b X Y))[j]?).map (fun d=>D.tup [.int (j:Int),d])=LZ e:=hd;rw[IX,n]at hd;cases hd;refine⟨_,rfl,rfl,_,_,rfl,_,_,rfl,rfl,?_⟩;have i:∀z:Int,(0<=z/\z<=20)->(-(10^6)<=z/\z<=10^6):=fun z h=>()
  refine⟨_,rfl,_,rfl,200,_,_,_,_,_,_,rfl,rfl,S.bx ⋯ (i _ o.a),S.by' ⋯ (i _ o.b),S.bx ⋯ (i _ o.c),S.by' ⋯ (i _ o.d),bx,by',⋯,_,rfl,?_⟩;refine jf (MF fun y=>of ((zR J S.t0 S.b0 l).mp y)) ?_;exact⟨_,_,_,rfl,g⟩
 ·rintro δ B ⟨V,W,Z,rfl,g⟩;refine⟨_,rfl,_,rfl,t,b,X,Y,_,_,ws,rfl,rfl,S,I,hF,hn,bx,by',(fun he=>?_),(fun tt a0 C=>?_)⟩
  ·have n:=z0 fun k O y=>by
    have:((k:Nat):Int)∈bT t b X Y ws (MU t b X m p) (MU t b Y m q):=eB.mpr ⟨k,rfl,O,(p5 S.t0 S.b0 l _ p q).mpr y⟩
    rw[he]at this;cases this
   have kq:=k B g;rw[n]at kq;exact⟨_,rfl,_,rfl,_,rfl,rY rfl ⟨Mo rfl,NA kq⟩⟩
  ·obtain⟨u,rfl,u1,u2⟩:=eB.mp a0
   have e:=tp u u1 ((p5 S.t0 S.b0 l _ p q).mp u2) fun k O ne y=>by
    rcases C _ (JC.mpr ⟨((k:Nat):Int),eB.mpr ⟨k,rfl,O,(p5 S.t0 S.b0 l _ p q).mpr y⟩,rfl⟩)with r|r
    ·exfalso;have F:=aY hF O u1 ne;have r:wn ws k=wn ws u:=r;exact F.ne ⟨by rw[r],by rw[r]⟩
    ·exact r.1
   refine⟨_,rfl,_,rfl,_,rfl,jf rfl ⟨_,rfl,_,rfl,aQ (bA ⋯),_,_,g _ _ R,(by rw[show(2:Int)*((u:Nat):Int)=((2*u:Nat):Int) by omega];exact cM (v:=D.int v) (by rw[IX,e];rfl)),Mo rfl,NA (k B g)⟩⟩
theorem f7:Ml ["plot","face","first","second"] ["plot","face"] (av ky):=⋯
inductive OY:Prop
 |mk (t b X Y:Int) (ws:rr) (f:Nat) (_:r_=.tup (ws.map (Mq t b X Y))) (_:sj=.int (f:Int)) (_:f<2*ws.length) (_:ws.length<=1000) (_:Q (Mq t b X Y (fw ws f)) M)
theorem cF(T:Tx K mg):Cal P w K mg base 1 "face_ends" (NO OY):=by
 refine bE (k:=0) T.h5 f7 fun f _ _ _ s H _ e=>⟨_,(ak (bZ (ay (dv 0) (aw eP (dv 1) aj)) (bI rfl (aC (aB 2 f7.nd) (aC (aB 3 f7.nd) a9)))) (au (aD (gy (aL (cu e.units) (aw fu (dv 1) aj) aj) (aF (ae (dv 2) (ae (dv 3) af))) (aF (ae (dv 3) (ae (dv 2) af))))))),fun _ _ M Q h=>?_⟩;obtain⟨t,b,X,Y,ws,f,rfl,rfl,hf,c,k⟩:=h;obtain⟨d,j,l⟩:=aX (ws:=ws) (k:=((f/2:Nat):Int)) () ();have g:(f:Int).fdiv 2=((f/2:Nat):Int):=by rw[JM _ ⋯];omega
 have i:(f:Int).fmod 2=((f%2:Nat):Int):=by rw[KO _ ⋯];omega
 have a:atI (ws.map (Mq t b X Y)) ((f:Int).fdiv 2)=LZ (Mq t b X Y (Mu ws ((f/2:Nat):Int))):=by rw[g];refine cM ?_;rw[K7]at d;rw[IX,d];rfl
 refine⟨_,rfl,_,rfl,⟨⋯,bA ⋯⟩,_,a,?_⟩;refine⟨_,rfl,rfl,_,_,rfl,_,_,rfl,rfl,?_⟩;refine⟨_,rfl,(show(2:Int)≠0 by decide),_,rfl,?_⟩;dsimp only;rw[i];refine bP (fun h=>?_) (fun h=>?_)
 ·have h:f%2=0:=by have:((f%2:Nat):Int)=0:=‹h›
                   omega
  refine⟨_,rfl,_,rfl,Mo rfl,NA ?_⟩;unfold fw at k;rw[ME h]at k;exact k
 ·have h:¬f%2=0:=fun z=>by rw[z]at h;simp at h
  refine⟨_,rfl,_,rfl,Mo rfl,NA ?_⟩;unfold fw at k;rw[MD h]at k;exact k
theorem c7:Ml ["plot","leaving","face"] ["plot"] (av fv):=⋯
def Qm(t b X Y:Int)(p:Vc):NH:=((MU t b X 1 p.1).num,((MU t b X 1 p.1).den:Int),(MU t b Y 1 p.2).num,((MU t b Y 1 p.2).den:Int))
theorem u7{t b X Y:Int}(a:0<t)(c:0<b){p q:Vc}(h:Qm t b X Y p=Qm t b X Y q):p=q:=by unfold Qm at h;injection h with d h;injection h with e h;injection h with f g;have e1:MU t b X 1 p.1=MU t b X 1 q.1:=Rat.ext d (by exact_mod_cast e);have e2:MU t b Y 1 p.2=MU t b Y 1 q.2:=Rat.ext f (by exact_mod_cast g);have i:=(Md a c ⋯ ⋯).mp e1;have j:=(Md a c ⋯ ⋯).mp e2;exact Prod.ext () ()
def Np(ws:rr)(i:Nat)(p:Vc):pw:=((J8 i).filter fun g=>decide (fa ws g=p)).map fun g:Nat=>(g:Int)
theorem qm(ws:rr)(i:Nat)(p:Vc):Np ws (i+1) p=Np ws i p++(if fa ws i=p then[(i:Int)]else[]):=by
 unfold Np;rw[Kw,List.filter_append,Jg];by_cases h:fa ws i=p
 ·simp[h]
 ·simp[h]
theorem zY(ws:rr)(i:Nat)(p:Vc):(Np ws i p).length<=i:=by unfold Np;rw[IV];have:=List.length_filter_le (fun g=>decide (fa ws g=p)) (J8 i);simpa using this
theorem yx{kvs:N6}{k:NH}(d:D)(h:dY kvs k=MA)(j:NH):dY (putD kvs k d) j=if j=k then LZ d else dY kvs j:=by
 have a:(kvs.any fun x=>decide (x.1=k))=MC:=by unfold dY at h;rw[Option.map_eq_none_iff,List.find?_eq_none]at h;rw[List.any_eq_false];exact h
 unfold putD;rw[MD (by rw[a];decide)];unfold dY at *;rw[List.find?_append];by_cases e:j=k
 ·subst e;rw[ME rfl];rw[Option.map_eq_none_iff]at h;rw[h];simp
 ·rw[MD e];have:¬k=j:=fun z=>e z.symm;cases kvs.find? fun x=>decide (x.1=j)<;>simp[this]
structure R4(t b X Y:Int)(ws:rr)(i:Nat)(M M':MH)(ld:n7)(kvs:N6)(L:Vc->n7):Prop where
 d:M' ld=LZ (Ng kvs)
 some:∀p,Np ws i p≠[]->dY kvs (Qm t b X Y p)=.some (.ref (L p))/\M' (L p)=.some (.lst ((Np ws i p).map D.int))/\L p≠ld/\M (L p)=MA
 none:∀p,Np ws i p=[]->dY kvs (Qm t b X Y p)=.none
 inj:∀p q,Np ws i p≠[]->Np ws i q≠[]->L p=L q->p=q
inductive Nc:Prop
 |mk (t b X Y:Int) (ws:rr) (_:r_=.tup (ws.map (Mq t b X Y))) (_:N7 t b X Y) (_:ws.length<=40) (_:∀(M':MH) (ld:n7) (kvs:N6) (L:Vc->n7),SD.Sub M M'->R4 t b X Y ws (2*ws.length) M M' ld kvs L->Q (.ref ld) M')
theorem jM(T:Tx K mg):Cal P w K mg base 2 "faces_by_start" (Ox Nc):=by
 refine eV (k:=1) T.h7 c7 fun f _ _ _ s H _ hr=>⟨_,(ak (aA 1 c7.nd rF) (ak (dg Jc rfl rfl T.m_ (ae (aw aH aj (aP dN rfl T.mA dJ (ae (dv 0) af))) af) (aB 2 c7.nd) (au (cw (bz (z5 (kS hr) (dv 1) (ae (ay (aq (cF T).m hr (ae (dv 0) (ae (dv 2) af))) aj) (ae (bw af) af))) (ae (dv 2) af))))) (au (aD (dv 1))))),fun _ M Q h=>?_⟩;obtain⟨t,b,X,Y,ws,rfl,S,a0,k⟩:=h;have R:(ws.map (Mq t b X Y)).length=ws.length:=by simp
 refine fun ld J=>?_;refine⟨_,rfl,aQ (bA ⋯),2*ws.length,(by rw[R];simp),(),?_⟩;refine⟨fun i δ l=>Qu fun(kvs:N6) (L:Vc->n7) (U:ry)=>Rl (δ=[LZ (.tup (ws.map (Mq t b X Y))),r4 ld,U]) (SD.Sub M l) (kvs.length<=i) (R4 t b X Y ws i M l ld kvs L),?_,?_,?_⟩
 ·exact⟨[],fun _=>0,_,rfl,.new J .refl,IY _,ag,fun p h=>absurd rfl h,fun p _=>rfl,fun p q h=>absurd rfl h⟩
 ·rintro i δ l hi ⟨kvs,L,U,rfl,N,hk,V⟩;have W:∀{q:n7} {o},l q=MA->(az l q o) ld=LZ (Ng kvs):=fun u=>by rw[ao (ax V.d u)];exact V.d
  have c:∀p,fa ws i≠p->Np ws (i+1) p=Np ws i p:=fun p h=>by rw[qm,MD h,JX]
  have r:Np ws (i+1) (fa ws i)=Np ws i (fa ws i)++[(i:Int)]:=by rw[qm,ME rfl]
  have ll:=zY ws i (fa ws i);refine⟨_,rfl,ld,kvs,rfl,V.d,_,rfl,_,rfl,t,b,X,Y,ws,i,rfl,rfl,hi,(),_,rfl,Mo rfl,fun q u=>?_⟩;refine⟨kvs,Qm t b X Y (fa ws i),.ref q,rfl,W u,(),fun d' hd=>?_,fun hn=>?_⟩
  ·have ne:Np ws i (fa ws i)≠[]:=fun z=>by rw[V.none _ z]at hd;cases hd
   obtain⟨v1,v2,v3,v4⟩:=V.some _ ne;rw[v1]at hd;cases hd;have Z:∀{a o},l a=LZ o->(az l q (.lst [])) a=LZ o:=fun h=>by rw[ao (ax h u)];exact h
   refine⟨L (fa ws i),_,rfl,Z v2,_,rfl,_,_,rfl,Z v2,(by rw[IV];omega),?_⟩;have C:∀{a o G},l a=LZ o->a≠L (fa ws i)->(az (az l q (.lst [])) (L (fa ws i)) G) a=LZ o:=fun h n=>by rw[ao n];exact Z h
   refine⟨kvs,L,_,rfl,fun a o h=>C (N _ _ h) (fun z=>by subst z;rw[v4]at h;cases h),(),C V.d v3.symm,fun p h=>?_,fun p h=>?_,fun p v h F e=>?_⟩
   ·by_cases z:fa ws i=p
    ·subst z;refine⟨v1,?_,v3,v4⟩;rw[ag,r,Jg];rfl
    ·rw[c p z]at h ⊢;obtain⟨u1,u2,O,u4⟩:=V.some p h;exact⟨u1,C u2 (fun y=>z (V.inj _ _ ne h y.symm)),O,u4⟩
   ·by_cases z:fa ws i=p
    ·subst z;rw[r]at h;simp at h
    ·rw[c p z]at h;exact V.none p h
   ·have g:∀p,Np ws (i+1) p≠[]->Np ws i p≠[]:=fun p h=>by
     by_cases z:fa ws i=p
     ·subst z;exact ne
     ·rw[c p z]at h;exact h
    exact V.inj p v (g p h) (g v F) e
  ·have em:Np ws i (fa ws i)=[]:=by
    cases z:Np ws i (fa ws i)with
    |nil=>rfl
    |cons x xs=>
     have:=(V.some _ (by rw[z];simp)).1
     rw[hn]at this;cases this
   have B:q≠ld:=(ax V.d u).symm;have cq:(az (az l q (.lst [])) ld (Ng (putD kvs (Qm t b X Y (fa ws i)) (.ref q)))) q=LZ (.lst []):=by rw[ao B,ag]
   refine⟨q,[],rfl,cq,_,rfl,_,_,rfl,cq,⋯,?_⟩;have C:∀{a o D' G},l a=LZ o->a≠ld->(az (az (az l q (.lst [])) ld D') q G) a=LZ o:=fun h n=>by rw[ao (ax h u),ao n,ao (ax h u)];exact h
   have mq:M q=MA:=by
    cases z:M q with
    |none=>rfl
    |some o=>rw[N _ _ z]at u;cases u
   have vn:=fun j=>yx (.ref q) hn j;refine⟨putD kvs (Qm t b X Y (fa ws i)) (.ref q),fun p=>if fa ws i=p then q else L p,_,rfl,fun a o h=>C (N _ _ h) (fun z=>by subst z;rw[J]at h;cases h),?_,(by rw[ao B.symm,ag]),fun p h=>?_,fun p h=>?_,fun p v h F e=>?_⟩
   ·have:(putD kvs (Qm t b X Y (fa ws i)) (.ref q)).length<=kvs.length+1:=by
     unfold putD;split
     ·rw[IV];omega
     ·simp
    omega
   ·by_cases z:fa ws i=p
    ·subst z;refine⟨by rw[vn,ME rfl,ME rfl],?_,by rw[ME rfl];exact B,by rw[ME rfl];exact mq⟩;rw[ME rfl,ag,r,em];rfl
    ·rw[c p z]at h ⊢;obtain⟨u1,u2,O,u4⟩:=V.some p h;rw[MD z];exact⟨by rw[vn,MD (fun y=>z (u7 S.t0 S.b0 y).symm)];exact u1,C u2 O,O,u4⟩
   ·by_cases z:fa ws i=p
    ·subst z;rw[r]at h;simp at h
    ·rw[c p z]at h;rw[vn,MD (fun y=>z (u7 S.t0 S.b0 y).symm)];exact V.none p h
   ·by_cases z:fa ws i=p<;>by_cases I:fa ws i=v
    ·rw[<-z,<-I]
    ·rw[c v I]at F;rw[ME z,MD I]at e;have:=(V.some v F).2.1;rw[<-e,u]at this;cases this
    ·rw[c p z]at h;rw[MD z,ME I]at e;have:=(V.some p h).2.1;rw[e,u]at this;cases this
    ·rw[c p z]at h;rw[c v I]at F;rw[MD z,MD I]at e;exact V.inj p v h F e
 ·rintro δ l ⟨kvs,L,U,rfl,N,hk,V⟩;exact⟨_,rfl,⟨l,.refl,k l ld kvs L N V⟩⟩
theorem dz:Ml ["corner","came_from","one","other","turn","other_turn"] ["corner","came_from","one","other"] (av gh):=⋯
inductive Nh:Prop
 |mk (t b X Y:Int) (c p q r:Vc) (_:r_=Mf (MU t b X 1 c.1) (MU t b Y 1 c.2)) (_:sj=Mf (MU t b X 1 p.1) (MU t b Y 1 p.2)) (_:sk=Mf (MU t b X 1 q.1) (MU t b Y 1 q.2)) (_:sm=Mf (MU t b X 1 r.1) (MU t b Y 1 r.2)) (_:N7 t b X Y) (_:(0<=c.1/\c.1<=20)) (_:(0<=c.2/\c.2<=20)) (_:(0<=p.1/\p.1<=20)) (_:(0<=p.2/\p.2<=20)) (_:(0<=q.1/\q.1<=20)) (_:(0<=q.2/\q.2<=20)) (_:(0<=r.1/\r.1<=20)) (_:(0<=r.2/\r.2<=20)) (_:Q (.bl (O0 (p.1-c.1,p.2-c.2) (q.1-c.1,q.2-c.2) (r.1-c.1,r.2-c.2))) M)
theorem kP(T:Tx K mg):Cal P w K mg base 4 "is_met_sooner" (YR Nh):=by
 refine Hb (k:=3) T.h_ dz fun f _ _ _ s H _ a=>⟨_,(ak (aA 4 dz.nd (aq (dr T).m a (ae (aF (ae (dv 0) (ae (dv 1) af))) (ae (dv 2) af)))) (ak (aA 5 dz.nd (aq (dr T).m a (ae (aF (ae (dv 0) (ae (dv 1) af))) (ae (dv 3) af)))) (ak (bo (aL (fI a.units) (dv 4) (dv 5)) (au (aD (b6 (fm a.units) (dv 4) (dv 5)))) aO) (au (aD (b6 (cu a.units) (aq (dr T).m a (ae (aF (ae (dv 0) (ae (dv 2) af))) (ae (dv 3) af))) (kL eW aj))))))),fun _ _ _ _ M Q h=>?_⟩;obtain⟨t,b,X,Y,c,p,q,r,rfl,rfl,rfl,rfl,S,d,g,i,j,l,n,o,u,k⟩:=h;have one:(0:Int)<1/\(1:Int)<=10^6:=⋯
 have v:∀{z:Int},(0<=z/\z<=20)->(-(10^6)<=z/\z<=10^6):=fun{z} h=>()
 have bx:∀{z:Int},(0<=z/\z<=20)->MV 200 (MU t b X 1 z):=fun{z} h=>S.bx one (v h);have by':∀{z:Int},(0<=z/\z<=20)->MV 200 (MU t b Y 1 z):=fun{z} h=>S.by' one (v h)
 have e1:=jI (X:=X) (Y:=Y) S.t0 S.b0 (c.1,c.2,p.1,p.2) q.1 q.2;have e2:=jI (X:=X) (Y:=Y) S.t0 S.b0 (c.1,c.2,p.1,p.2) r.1 r.2;have e3:=jI (X:=X) (Y:=Y) S.t0 S.b0 (c.1,c.2,q.1,q.2) r.1 r.2;have x:sd (c.1,c.2,p.1,p.2) q.1 q.2=vc (p.1-c.1,p.2-c.2) (q.1-c.1,q.2-c.2):=rfl;have y:sd (c.1,c.2,p.1,p.2) r.1 r.2=vc (p.1-c.1,p.2-c.2) (r.1-c.1,r.2-c.2):=rfl;have B:sd (c.1,c.2,q.1,q.2) r.1 r.2=vc (q.1-c.1,q.2-c.2) (r.1-c.1,r.2-c.2):=rfl;rw[x]at e1;rw[y]at e2;rw[B]at e3;dsimp only at e1 e2 e3;refine⟨_,rfl,_,rfl,Mo rfl,_,rfl,200,_,_,_,_,_,_,rfl,rfl,bx d,by' g,bx i,by' j,bx l,by' n,⋯,?_⟩;rw[e1];refine⟨_,rfl,_,rfl,Mo rfl,_,rfl,200,_,_,_,_,_,_,rfl,rfl,bx d,by' g,bx i,by' j,bx o,by' u,⋯,?_⟩;rw[e2];refine⟨_,rfl,_,rfl,_,rfl,?_⟩;unfold O0 at k;refine bP (fun h=>?_) (fun h=>?_)
 ·have ne:¬Ji (vc (p.1-c.1,p.2-c.2) (q.1-c.1,q.2-c.2))=Ji (vc (p.1-c.1,p.2-c.2) (r.1-c.1,r.2-c.2)):=fun z=>by rw[z]at h;simp at h
  rw[MD ne]at k;exact⟨_,rfl,_,rfl,trivial,NA k⟩
 ·have eq:Ji (vc (p.1-c.1,p.2-c.2) (q.1-c.1,q.2-c.2))=Ji (vc (p.1-c.1,p.2-c.2) (r.1-c.1,r.2-c.2)):=‹h›
  rw[ME eq]at k;refine⟨_,rfl,_,rfl,Mo rfl,_,rfl,200,_,_,_,_,_,_,rfl,rfl,bx d,by' g,bx l,by' n,bx o,by' u,⋯,?_⟩;rw[e3];have e:decide (vc (q.1-c.1,q.2-c.2) (r.1-c.1,r.2-c.2)<0)=decide (Ji (vc (q.1-c.1,q.2-c.2) (r.1-c.1,r.2-c.2))=-1):=by rw[MJ];rcases fV (vc (q.1-c.1,q.2-c.2) (r.1-c.1,r.2-c.2))with z|z|z<;>omega
  rw[e]at k;exact NA k
theorem bO:Ml ["plot","leaving","face","came_from","corner","back","best","rival"] ["plot","leaving","face"] (av iy):=⋯
def eA(ws:rr)(f j:Nat):Option Nat:=((((J8 (2*ws.length)).filter fun g=>decide (fa ws g=fb ws f)).take j).filter fun g=>decide (g≠fx f)).foldl (bQ (N0 ws f)) MA
theorem nQ(R:Nat->Nat->Bool):∀(l:pq) (o:Option Nat) {h:Nat},l.foldl (bQ R) o=LZ h->h∈l\/o=LZ h
 |[],o,h,e=>.inr e
 |g::l,o,h,e=>by
  rw[Ld]at e
  rcases nQ R l _ e with z|z
  ·exact .inl (by simp[z])
  ·cases o with
   |none=>cases z;exact .inl (by simp)
   |some k=>
    unfold bQ at z
    dsimp only at z
    by_cases r:R g k=MB
    ·rw[ME r]at z;cases z;exact .inl (by simp)
    ·rw[MD r]at z;exact .inr z
theorem tj(ws:rr)(f j:Nat)(h:((J8 (2*ws.length)).filter fun g=>decide (fa ws g=fb ws f)).length<=j):eA ws f j=(cV ws f).foldl (bQ (N0 ws f)) MA:=by
 unfold eA cV jg;rw[K6 h,List.filter_filter]
 congr 1
 apply List.filter_congr;intro x _;rw[Bool.and_comm]
theorem tW{ws:rr}{f j h:Nat}(e:eA ws f j=LZ h):h∈cV ws f:=by
 unfold eA at e;rcases nQ _ _ _ e with z|z
 ·have a:=Jb.mp z;have b:=Jb.mp (List.mem_of_mem_take a.1);exact bG.mpr ⟨‹b.1›,‹b.2›,‹a.2›⟩
 ·cases z
inductive Nz:Prop
 |mk (t b X Y:Int) (ws:rr) (M0:MH) (ld:n7) (kvs:N6) (L:Vc->n7) (f:Nat) (_:r_=.tup (ws.map (Mq t b X Y))) (_:sj=.ref ld) (_:sk=.int (f:Int)) (_:N7 t b X Y) (_:ws.length<=40) (_:(∀sk∈ws,Mn sk)) (_:f<2*ws.length) (_:R4 t b X Y ws (2*ws.length) M0 M ld kvs L) (_:Q (.int (bh ws f:Int)) M)
theorem ix(T:Tx K mg):Cal P w K mg base 5 "face_behind" (Q9 Nz):=by
 refine iC (k:=4) T.ia bO fun f _ _ _ s H _ r=>⟨_,(ak (bZ (aq (cF T).m r (ae (dv 0) (ae (dv 2) af))) (bI rfl (aC (aB 3 bO.nd) (aC (aB 4 bO.nd) a9)))) (ak (aA 5 bO.nd (aw C1 (dv 2) aj)) (ak (aA 6 bO.nd (dv 5)) (ak (bV Jc rfl (aR (qi (kS r) (dv 1) (dv 4) (by intro _ _;with_unfolding_all rfl))) (aB 7 bO.nd) (au (bo (ny (iQ (aL (fI r.units) (dv 7) (dv 5)) (fY (ny (yh (aL (cu r.units) (dv 6) (dv 5)) (tF (de (aq (kP T).m r (ae (dv 4) (ae (dv 3) (ae (ay (aq (cF T).m r (ae (dv 0) (ae (dv 7) af))) aj) (ae (ay (aq (cF T).m r (ae (dv 0) (ae (dv 6) af))) aj) af)))))))))))) (au (aA 6 bO.nd (dv 7))) aO))) (au (aD (dv 6))))))),fun _ _ _ M Q h=>?_⟩;obtain⟨t,b,X,Y,ws,M0,ld,kvs,L,f,rfl,rfl,rfl,S,I,U,hf,V,k⟩:=h;have exf:Builtin.bitXor (f:Int) 1=((fx f:Nat):Int):=EC f ()
 have n:∀g:Nat,g<2*ws.length->((0<=(fa ws g).1/\(fa ws g).1<=20)/\(0<=(fa ws g).2/\(fa ws g).2<=20))/\((0<=(fb ws g).1/\(fb ws g).1<=20)/\(0<=(fb ws g).2/\(fb ws g).2<=20)):=fun g x=>by
  obtain⟨_,_,Z⟩:=aX (ws:=ws) (k:=((g/2:Nat):Int)) () ()
  have W:=U _ Z
  unfold fa fb fw
  by_cases h:g%2=0
  ·rw[ME h];exact⟨⟨W.a,W.b⟩,W.c,W.d⟩
  ·rw[MD h];exact⟨⟨W.c,W.d⟩,W.a,W.b⟩
 have ne:Np ws (2*ws.length) (fb ws f)≠[]:=by
  unfold Np
  have:fx f∈(J8 (2*ws.length)).filter fun g=>decide (fa ws g=fb ws f):=Jb.mpr ⟨Jv.mpr (kA hf),‹fH ws f›⟩
  intro z
  rw[List.map_eq_nil_iff]at z
  rw[z]at this
  cases this
 obtain⟨v1,J,v3,v4⟩:=V.some _ ne;refine⟨_,rfl,_,rfl,t,b,X,Y,ws,f,rfl,rfl,hf,(),?_⟩;refine⟨_,rfl,rfl,_,_,rfl,_,_,rfl,rfl,?_⟩;refine⟨_,rfl,trivial,?_⟩;dsimp only;rw[exf];refine⟨_,rfl,?_⟩;refine⟨_,rfl,_,rfl,ld,kvs,Qm t b X Y (fb ws f),_,rfl,rfl,V.d,v1,(Np ws (2*ws.length) (fb ws f)).map D.int,J,?_⟩;refine⟨fun j δ y=>y=M/\∃C,δ=[LZ (.tup (ws.map (Mq t b X Y))),r4 ld,r8 f,LZ (Mf (MU t b X 1 (fw ws f).1) (MU t b Y 1 (fw ws f).2.1)),LZ (Mf (MU t b X 1 (fw ws f).2.2.1) (MU t b Y 1 (fw ws f).2.2.2)),r8 ((fx f:Nat):Int),LZ (.int (((eA ws f j).getD (fx f):Nat):Int)),C],⟨rfl,_,rfl⟩,fun j δ y _ z=>by obtain⟨rfl,_⟩:=z;exact J,?_,?_⟩
 ·rintro j d δ y hj hd ⟨rfl,C,rfl⟩;have hd:((((J8 (2*ws.length)).filter fun g=>decide (fa ws g=fb ws f)).map fun g:Nat=>(g:Int)).map D.int)[j]?=LZ d:=hd;rw[IX,IX]at hd;cases B:((J8 (2*ws.length)).filter fun g=>decide (fa ws g=fb ws f))[j]? with
  |none=>rw[B]at hd;cases hd
  |some g=>
   rw[B]at hd
   cases hd
   have u:=Jb.mp (IW B)
   have x:g<2*ws.length:=‹u.1›
   have F:fa ws g=fb ws f:=‹u.2›
   have nx:eA ws f (j+1)=if g=fx f then eA ws f j else bQ (N0 ws f) (eA ws f j) g:=by
    unfold eA;rw[Kj,B,Option.toList_some,List.filter_append,List.foldl_append];by_cases z:g=fx f
    ·simp[z]
    ·simp[z]
   have p:∀h,eA ws f j=LZ h->h∈cV ws f:=fun h e=>tW e
   generalize eA ws f j=o at nx p ⊢
   by_cases z:g=fx f
   ·(try dsimp only[SD.gi,SD.dQ,SD.aT,SD.gU,SD.gE,SD.dq,SD.eJ,SD.tBD,SD.gF,SD.EndsD.nxt,SD.EndsD.lp])
    refine vZ MC MC (fun K l=>⟨_,rfl,_,rfl,_,rfl,?_⟩) (fun q=>absurd q ⋯) (jf rfl ⟨rfl,r8 g,?_⟩)
    ·rw[show(!decide ((g:Int)=((fx f:Nat):Int)))=MC by rw[z];simp];exact l
    ·rw[nx,ME z];rfl
   ·rw[MD z]at nx
    have N:(!decide ((g:Int)=((fx f:Nat):Int)))=MB:=by
     have:¬((g:Int)=((fx f:Nat):Int)):=fun q=>z ()
     rw[MF this];rfl
    cases o with
    |none=>
     (try dsimp only[SD.gi,SD.dQ,SD.aT,SD.gU,SD.gE,SD.dq,SD.eJ,SD.tBD,SD.gF,SD.EndsD.nxt,SD.EndsD.lp])
     refine vZ MB MB (fun K l=>⟨_,rfl,_,rfl,_,rfl,by rw[N];exact l⟩) (fun _ K l=>WH MB MB (fun O i=>⟨_,rfl,_,rfl,_,rfl,?_⟩) (fun q=>absurd q ⋯) l) (rY rfl ⟨_,rfl,rfl,r8 g,?_⟩)
     ·rw[show decide ((((MA:Option Nat).getD (fx f):Nat):Int)=((fx f:Nat):Int))=MB by simp];exact i
     ·rw[nx];rfl
    |some h=>
     have v:=bG.mp (p h rfl)
     have d1:fd ws (fx f)=((fa ws f).1-(fb ws f).1,(fa ws f).2-(fb ws f).2):=by unfold fd fa fb;rw[uo];rfl
     have R:∀g,fa ws g=fb ws f->fd ws g=((fb ws g).1-(fb ws f).1,(fb ws g).2-(fb ws f).2):=fun g e=>by rw[<-e];rfl
     have es:N0 ws f g h=O0 ((fa ws f).1-(fb ws f).1,(fa ws f).2-(fb ws f).2) ((fb ws g).1-(fb ws f).1,(fb ws g).2-(fb ws f).2) ((fb ws h).1-(fb ws f).1,(fb ws h).2-(fb ws f).2):=by unfold N0;rw[d1,R g F,R h v.2.1]
     have G:decide ((((LZ h).getD (fx f):Nat):Int)=((fx f:Nat):Int))=MC:=MF (fun q=>v.2.2 (by have q':((h:Nat):Int)=((fx f:Nat):Int):=q;omega))
     (try dsimp only[SD.gi,SD.dQ,SD.aT,SD.gU,SD.gE,SD.dq,SD.eJ,SD.tBD,SD.gF,SD.EndsD.nxt,SD.EndsD.lp])
     refine vZ MB (MC||N0 ws f g h) (fun K l=>⟨_,rfl,_,rfl,_,rfl,by rw[N];exact l⟩) (fun _ K l=>WH MC (N0 ws f g h) (fun O i=>⟨_,rfl,_,rfl,_,rfl,by rw[G];exact i⟩) (fun _ O i=>?_) l) ?_
     ·refine⟨_,rfl,_,rfl,_,rfl,_,rfl,t,b,X,Y,ws,g,rfl,rfl,x,(),_,rfl,_,rfl,_,rfl,t,b,X,Y,ws,h,rfl,rfl,v.1,(),_,rfl,t,b,X,Y,fb ws f,fa ws f,fb ws g,fb ws h,rfl,rfl,rfl,rfl,S,(n f hf).2.1,(n f hf).2.2,(n f hf).1.1,(n f hf).1.2,(n g x).2.1,(n g x).2.2,(n h v.1).2.1,(n h v.1).2.2,_,rfl,?_⟩;rw[<-es];exact i
     ·refine bP (fun q=>?_) (fun q=>?_)
      ·refine⟨_,rfl,rfl,r8 g,?_⟩;have q:N0 ws f g h=MB:=‹q›
       have e:bQ (N0 ws f) (LZ h) g=LZ g:=by unfold bQ;simp[q]
       rw[nx,e];rfl
      ·refine⟨rfl,r8 g,?_⟩;have q:¬N0 ws f g h=MB:=‹q›
       have e:bQ (N0 ws f) (LZ h) g=LZ h:=by unfold bQ;simp[q]
       rw[nx,e];rfl
 ·rintro δ y ⟨rfl,C,rfl⟩;have e:=tj ws f ((Np ws (2*ws.length) (fb ws f)).map D.int).length (by simp[Np]);dsimp only;rw[e];exact⟨_,rfl,NA k⟩
theorem d4:Ml ["plot","leaving","face","ring","at"] ["plot","leaving","face"] (av ko):=⋯
theorem vI{t b X Y:Int}{ws:rr}{i:Nat}{f M:MH}{ld:n7}{kvs:N6}{L:Vc->n7}{p:n7}{o:MO}(V:R4 t b X Y ws i f M ld kvs L)(j:M p=MA):R4 t b X Y ws i f (az M p o) ld kvs L:=⟨by rw[ao (ax V.d j)];exact V.d,fun q h=>let⟨a,c,e,g⟩:=V.some q h;⟨a,by rw[ao (ax c j)];exact c,e,g⟩,V.none,V.inj⟩
inductive OT:Prop
 |mk (t b X Y:Int) (ws:rr) (M0:MH) (ld:n7) (kvs:N6) (L:Vc->n7) (f:Nat) (_:r_=.tup (ws.map (Mq t b X Y))) (_:sj=.ref ld) (_:sk=.int (f:Int)) (_:N7 t b X Y) (_:ws.length<=40) (_:(∀sk∈ws,Mn sk)) (_:PF ws) (_:f<2*ws.length) (_:R4 t b X Y ws (2*ws.length) M0 M ld kvs L) (_:∀(p:n7) (kk:Nat),M p=MA->NR ws f kk->bh ws (NP ws f kk)=f->Q (.ref p) (az M p (.lst ((rn ws f kk).map r3))))
theorem qY(T:Tx K mg):Cal P w K mg base 6 "ring_from" (Q9 OT):=by
 refine iC (k:=5) T.ij d4 fun f _ _ _ s H _ l=>⟨_,(ak (aA 3 d4.nd (bw (ae (dv 2) af))) (ak (aA 4 d4.nd (aq (ix T).m l (ae (dv 0) (ae (dv 1) (ae (dv 2) af))))) (ak (gT Jc (aL (fI l.units) (dv 4) (dv 2)) (ak (cw (bz (dv 3) (ae (dv 4) af))) (au (aA 4 d4.nd (aq (ix T).m l (ae (dv 0) (ae (dv 1) (ae (dv 4) af)))))))) (au (aD (dv 3)))))),fun _ _ _ M Q h=>?_⟩;obtain⟨t,b,X,Y,ws,q,ld,kvs,L,f,rfl,rfl,rfl,S,c,d,hF,hf,V,k⟩:=h;refine⟨_,rfl,Mo rfl,fun p n=>?_⟩;refine⟨_,rfl,_,rfl,_,rfl,t,b,X,Y,ws,q,ld,kvs,L,f,rfl,rfl,rfl,S,c,d,hf,vI V n,?_⟩;refine⟨fun m δ i=>∃a,Rl (δ=[LZ (.tup (ws.map (Mq t b X Y))),r4 ld,r8 f,r4 p,LZ (.int ((NP ws f (a+1):Nat):Int))]) (i=az M p (.lst ((rn ws f a).map r3))) (NR ws f a) (m=2*ws.length-a),⟨_,0,rfl,rfl,vd ws f,rfl⟩,?_⟩;rintro m δ i ⟨a,rfl,rfl,o,rfl⟩;have u:=nK d hF hf o;refine⟨_,rfl,_,rfl,_,rfl,?_⟩;refine bP (fun h=>?_) (fun h=>?_)
 ·have ne:bh ws (NP ws f a)≠f:=fun z=>by
   have:NP ws f (a+1)=f:=z
   rw[this]at h;simp at h
  have j:=uS d hF hf o ne;have r:=nK d hF hf j;refine⟨_,rfl,p,_,rfl,ag,_,rfl,_,_,rfl,ag,(by rw[IV,ft];omega),?_⟩;have e:az (az M p (.lst ((rn ws f a).map r3))) p (.lst (((rn ws f a).map r3)++[.int ((NP ws f (a+1):Nat):Int)]))=az M p (.lst ((rn ws f (a+1)).map r3)):=by rw[bD,lj,Jg];rfl
  rw[e];refine⟨_,rfl,_,rfl,_,rfl,t,b,X,Y,ws,q,ld,kvs,L,NP ws f (a+1),rfl,rfl,rfl,S,c,d,dm d hF hf (a+1),vI V n,?_⟩;exact⟨2*ws.length-(a+1),(),a+1,rfl,rfl,j,rfl⟩
 ·have eq:bh ws (NP ws f a)=f:=by
   have:((NP ws f (a+1):Nat):Int)=(f:Int):=‹h›
   have e:NP ws f (a+1)=bh ws (NP ws f a):=rfl
   omega
  exact⟨_,rfl,⟨_,.refl,k p a n o eq⟩⟩
theorem cz:Ml ["plot","leaving","rings","gone_along","face","ring","part"] ["plot"] (av mi):=⋯
theorem AS{t b X Y:Int}{ws:rr}{i:Nat}{f M j:MH}{ld:n7}{kvs:N6}{L:Vc->n7}(V:R4 t b X Y ws i f M ld kvs L)(s:SD.Sub M j):R4 t b X Y ws i f j ld kvs L:=⟨s _ _ V.d,fun q h=>let⟨a,c,e,g⟩:=V.some q h;⟨a,s _ _ c,e,g⟩,V.none,V.inj⟩
theorem md{M a:MH}(s:SD.Sub M a){p:n7}(h:a p=MA):M p=MA:=by
 cases z:M p with
 |none=>rfl
 |some o=>rw[s _ _ z]at h;cases h
inductive Oc:Prop
 |mk (t b X Y:Int) (ws:rr) (_:r_=.tup (ws.map (Mq t b X Y))) (_:N7 t b X Y) (_:ws.length<=40) (_:(∀w∈ws,Mn w)) (_:PF ws) (_:∀(M':MH) (lr:n7) (ps:rb) (rs:pe),SD.Sub M M'->M lr=MA->M' lr=LZ (.lst (ps.map D.ref))->OO ws (2*ws.length) rs->RL M' ps rs->(∀p∈ps,p≠lr/\M p=MA)->Q (.ref lr) M')
theorem so(T:Tx K mg):Cal P w K mg base 7 "rings_of" (Ox Oc):=by
 refine eV (k:=6) T.i7 cz fun f _ _ _ s H _ C=>⟨_,(ak (aA 1 cz.nd (aq (jM T).m C (ae (dv 0) af))) (ak (aA 2 cz.nd (bw af)) (ak (aA 3 cz.nd yH) (ak (dg Jc rfl rfl T.m_ (ae (aw aH aj (aP dN rfl T.mA dJ (ae (dv 0) af))) af) (aB 4 cz.nd) (au (bo (ud (kS C) (dv 4) (dv 3)) (ak (aA 5 cz.nd (aq (qY T).m C (ae (dv 0) (ae (dv 1) (ae (dv 4) af))))) (ak (cw (bz (dv 2) (ae (dv 5) af))) (au (bV Jc rfl (aR (dv 5)) (aB 6 cz.nd) (au (zi (kS C) (dv 3) (dv 6) my)))))) aO))) (au (aD (dv 2))))))),fun _ M Q h=>?_⟩;obtain⟨t,b,X,Y,ws,rfl,S,W,hU,hF,k⟩:=h;have g0:(ws.map (Mq t b X Y)).length=ws.length:=by simp
 refine⟨_,rfl,t,b,X,Y,ws,rfl,S,W,fun M1 ld kvs L Z V=>?_⟩;refine⟨Mo rfl,fun l a0=>fun y I=>?_⟩;have J:y≠l:=fun z=>by subst z;rw[ag]at I;cases I
 have c0:M1 y=MA:=by have h:=I;rw[ao J]at h;exact h
 refine⟨_,rfl,aQ (bA ⋯),2*ws.length,(by rw[g0];simp),(),?_⟩;refine⟨fun i δ r=>WN fun(ps:rb) (x:pe) (n:Nat) (Sg:Int->Bool) (o4 o5 o6:ry)=>Ql (δ=[LZ (.tup (ws.map (Mq t b X Y))),r4 ld,r4 l,r4 y,o4,o5,o6]) (SD.Sub M1 r) (r l=LZ (.lst (ps.map D.ref))) (r y=LZ (Qq n Sg)) (ps.length<=i) (n<=i*80) (∀g:Nat,Sg (g:Int)=decide (g∈x.flatten)) (OO ws i x) (RL r ps x) (∀p∈ps,p≠l/\p≠y/\M1 p=MA),?_,?_,?_⟩
 ·exact⟨[],[],0,fun _=>MC,_,_,_,rfl,.new I (.new a0 .refl),(by rw[ao J.symm,ag];rfl),ag,IY _,Kf _,fun g=>by simp,rfl,.nil,fun p N=>by cases N⟩
 ·rintro i δ r hi ⟨ps,x,n,Sg,o4,o5,o6,rfl,sb,C,hg,h0,i0,hS,R,O,u⟩;(try dsimp only[SD.aT])
  refine RE fun B hB=>?_;refine⟨_,rfl,_,rfl,(i:Int),y,n,Sg,rfl,rfl,hg,_,rfl,?_⟩;rw[hS];refine bP (fun h=>?_) (fun h=>hB _ _ ⟨ps,x,n,Sg,_,_,_,rfl,sb,C,hg,(),(),hS,⟨x,R,.inl ⟨‹h›,rfl⟩⟩,O,u⟩);have k0:i∉x.flatten:=‹h›
  refine⟨_,rfl,_,rfl,_,rfl,t,b,X,Y,ws,M,ld,kvs,L,i,rfl,rfl,rfl,S,W,hU,hF,hi,AS V sb,fun p j N nr eq=>?_⟩;have kb:=nK hU hF hi nr;have c1:∀{a o G},r a=LZ o->(az r p G) a=LZ o:=fun h=>by rw[ao (ax h N)];exact h
  have d0:p≠l:=(ax C N).symm;have b0:p≠y:=(ax hg N).symm;refine⟨_,rfl,l,_,rfl,c1 C,_,rfl,_,_,rfl,c1 C,(by simp;omega),?_⟩;have c2:∀{a o G D'},r a=LZ o->a≠l->(az (az r p G) l D') a=LZ o:=fun h n=>by rw[ao n];exact c1 h
  have e0:=c2 (G:=.lst ((rn ws i j).map r3)) (D':=.lst (ps.map D.ref++[.ref p])) hg J;have U:(az (az r p (.lst ((rn ws i j).map r3))) l (.lst (ps.map D.ref++[.ref p]))) p=LZ (.lst ((rn ws i j).map r3)):=by rw[ao d0,ag]
  have f0:(az (az r p (.lst ((rn ws i j).map r3))) l (.lst (ps.map D.ref++[.ref p]))) l=LZ (.lst (ps.map D.ref++[.ref p])):=ag;have c3:∀{a o},r a=LZ o->a≠l->(az (az r p (.lst ((rn ws i j).map r3))) l (.lst (ps.map D.ref++[.ref p]))) a=LZ o:=fun h n=>c2 h n;clear c2;generalize az (az r p (.lst ((rn ws i j).map r3))) l (.lst (ps.map D.ref++[.ref p]))=N2 at e0 U f0 c3 ⊢;refine⟨_,rfl,(rn ws i j).map r3,U,?_⟩;refine⟨fun a δ v=>Qu fun(F:Nat) (S':Int->Bool) (o6:ry)=>SA (δ=[LZ (.tup (ws.map (Mq t b X Y))),r4 ld,r4 l,r4 y,r8 i,r4 p,o6]) (v y=LZ (Qq F S')) (∀c,c≠y->v c=N2 c) (F<=n+a) (∀g:Nat,S' (g:Int)=(decide (g∈x.flatten)||decide (g∈(rn ws i j).take a))),⟨n,Sg,_,rfl,e0,fun _ _=>rfl,IY _,fun g=>by rw[hS];simp⟩,fun a δ v _ z=>by obtain⟨_,_,_,_,_,z,_⟩:=z;show v p=_;rw[z p b0];exact U,?_,?_⟩
  ·rintro a d δ v ha hd ⟨F,S',o6,rfl,h1,h2,h3,h4⟩;have m0:a<j+1:=by have:a<((rn ws i j).map r3).length:=ha;simpa[ft]using this
   have hd:((rn ws i j).map r3)[a]?=LZ d:=hd;rw[IX]at hd;cases eg:(rn ws i j)[a]? with
   |none=>rw[eg]at hd;cases hd
   |some g=>
    rw[eg]at hd
    cases hd
    refine⟨_,rfl,_,rfl,y,(g:Int),F,S',rfl,rfl,h1,(),?_⟩
    refine⟨F+1,_,_,rfl,ag,fun c hc=>by rw[ao hc];exact h2 c hc,(),fun g'=>?_⟩
    rw[h4,Kj,eg]
    have e:decide (((g':Nat):Int)=((g:Nat):Int))=decide (g'=g):=by rw[MJ];omega
    rw[e]
    simp only[Jn,Option.toList_some,JS,Bool.decide_or]
    cases decide (g'=g)<;>cases decide (g'∈x.flatten)<;>simp
  ·rintro δ v ⟨F,S',o6,rfl,h1,h2,h3,h4⟩;have h3:F<=n+(j+1):=by simpa[ft]using h3
   have h4:∀g:Nat,S' (g:Int)=(decide (g∈x.flatten)||decide (g∈(rn ws i j).take ((rn ws i j).map r3).length)):=h4;have et:(rn ws i j).take ((rn ws i j).map r3).length=rn ws i j:=K6 (by simp);rw[et]at h4;have c4:∀{a o},r a=LZ o->a≠l->a≠y->v a=LZ o:=fun h n F=>by rw[h2 _ F];exact c3 h n
   refine hB _ _ ⟨ps++[p],x++[rn ws i j],F,S',_,_,_,rfl,fun a o h=>c4 (sb _ _ h) (fun z=>by subst z;rw[a0]at h;cases h) (fun z=>by subst z;rw[c0]at h;cases h),(by rw[h2 l J.symm,Jg];exact f0),h1,by simp;omega,(),fun g=>?_,⟨x,R,.inr ⟨k0,_,⟨j,nr,eq,rfl⟩,rfl⟩⟩,?_,fun p' l0=>?_⟩
   ·rw[h4];simp only[List.flatten_append,Jn,KN,List.flatten_nil,JX,Bool.decide_or]
   ·exact(O.mono fun q hq o e=>c4 e (u q hq).1 (u q hq).2.1).snoc (by rw[h2 p b0];exact U)
   ·rcases Jn.mp l0 with z|z
    ·exact u p' z
    ·have:p'=p:=‹z›
     subst this;exact⟨d0,b0,md sb N⟩
 ·rintro δ r ⟨ps,x,n,Sg,o4,o5,o6,rfl,sb,C,hg,h0,i0,hS,R,O,u⟩;exact⟨_,rfl,⟨r,.refl,k r l ps x (SD.Sub.trans Z sb) (md Z a0) C R O fun p N=>⟨(u p N).1,md Z (u p N).2.2⟩⟩⟩
theorem cI:Ml ["parts","common","part"] ["parts"] (av gf):=⋯
inductive Ni:Prop
 |mk (p:n7) (qs:List Rat) (b:Nat) (_:r_=.ref p) (_:M p=LZ (.lst (qs.map Mg))) (_:0<b) (_:b<=10^26) (_:(∀q∈qs,q.den ∣ b)) (_:∀c:Nat,0<c->c ∣ b->(∀q∈qs,q.den ∣ c)->Q (.int (c:Int)) M)
theorem gc(T:Tx K mg):Cal P w K mg base 2 "common_bottom" (Ox Ni):=by
 refine eV (k:=1) T.i_ cI fun f _ _ _ s H _ I=>⟨_,(ak (aA 1 cI.nd aj) (ak (bV Jc rfl (aR (dv 0)) (aB 2 cI.nd) (au (aA 1 cI.nd (aw aH (aw eP (dv 1) (aq (d7 T).m I (ae (dv 1) (ae (ay (dv 2) aj) af)))) (ay (dv 2) aj))))) (au (aD (dv 1))))),fun _ M Q h=>?_⟩;obtain⟨p,qs,b,rfl,G,a,v,o,k⟩:=h;refine⟨_,rfl,qs.map Mg,G,?_⟩;refine⟨fun i δ r=>r=M/\R9 fun(c:Nat) (x:ry)=>Rl (δ=[r4 p,r8 c,x]) (0<c) (c ∣ b) (∀q∈qs.take i,q.den ∣ c),⟨rfl,1,_,rfl,⋯,Nat.one_dvd _,fun q o=>by simp at o⟩,fun i δ r _ z=>by obtain⟨rfl,_⟩:=z;exact G,?_,?_⟩
 ·rintro i d δ r O hd ⟨rfl,c,x,rfl,g,t,y⟩;have hd:(qs.map Mg)[i]?=LZ d:=hd;rw[IX]at hd;cases u:qs[i]? with
  |none=>rw[u]at hd;cases hd
  |some q=>
   rw[u]at hd
   cases hd
   have j:=IW u
   have R:0<Lx c q.den:=Nat.gcd_pos_of_pos_left _ g
   have J:c<=b:=Nat.le_of_dvd a t
   have L:Lx c q.den<=c:=Nat.gcd_le_left _ g
   have B:∀{n:Nat},n<=10^26->Bd 100 (n:Int):=fun{n} h=>by show(n:Int).natAbs<2^100;omega
   have C:Bd 100 ((c:Int).fdiv ((Lx c q.den:Nat):Int)):=(B (n:=c) ()).of_le (by rw[JM _ ()];exact Int.natAbs_ediv_le_natAbs _ _)
   have N:(c:Int).fdiv ((Lx c q.den:Nat):Int)*(q.den:Int)=((Nat.lcm c q.den:Nat):Int):=by
    rw[JM _ (),<-Int.natCast_ediv,<-Int.natCast_mul]
    congr 1
    rw[Nat.lcm,Nat.mul_comm c q.den,Nat.mul_div_assoc _ (Nat.gcd_dvd_left c q.den),Nat.mul_comm]
   refine⟨_,rfl,_,rfl,_,rfl,_,rfl,c,q.den,rfl,rfl,⟨(),(B ()).mono ⋯⟩,_,rfl,_,rfl,eQ (C.mono ⋯) ((B (K4 (Nat.le_of_dvd a (o q j)) v)).mono ⋯),?_⟩
   dsimp only
   rw[N]
   refine⟨rfl,Nat.lcm c q.den,_,rfl,Nat.lcm_pos g q.den_pos,Nat.lcm_dvd t (o q j),fun F l=>?_⟩
   rw[Kj,u]at l
   rcases Jn.mp l with z|z
   ·exact Nat.dvd_trans (y F z) (Nat.dvd_lcm_left c q.den)
   ·have:F=q:=‹z›
    subst this;exact Nat.dvd_lcm_right c F.den
 ·rintro δ r ⟨rfl,c,x,rfl,g,t,y⟩;exact⟨_,rfl,NA (k c g t (by have e:qs.take (qs.map Mg).length=qs:=K6 (by simp);rw[<-e];exact y))⟩
theorem rp:Ml ["part","bottom"] ["part","bottom"] (av lJ):=⋯
inductive Ob:Prop
 |mk (q:Rat) (B:Int) (_:r_=Mg q) (_:sj=.int B) (_:MV 200 q) (_:0<B) (_:B<=10^26) (_:Q (.int (q.num*B.fdiv (q.den:Int))) M)
theorem fQ(T:Tx K mg):Cal P w K mg base 1 "top_over" (NO Ob):=by
 refine bE (k:=0) T.jm rp fun f _ _ _ s H _ c=>⟨_,(au (aD (aw aH (ay (dv 0) aj) (aw eP (dv 1) (ay (dv 0) aj))))),fun _ _ M Q h=>?_⟩;obtain⟨q,B,rfl,rfl,a,d,e,k⟩:=h;have bB:Bd 100 B:=by show B.natAbs<2^100;omega
 have b:(B.fdiv (q.den:Int)).natAbs<=B.natAbs:=by rw[JM _ ()];exact Int.natAbs_ediv_le_natAbs _ _
 exact⟨_,rfl,_,rfl,_,rfl,_,rfl,_,rfl,⟨Mh q,a.2.mono ⋯⟩,eQ (a.1.mono ⋯) ((bB.of_le b).mono ⋯),NA k⟩
theorem aW:Ml ["plot","ring","ways","x_bottom","y_bottom","total","x","y","next_x","next_y"] ["plot","ring"] (av ju):=⋯
theorem oj{I:Qg}{js:pq}{q:Nt}{te:TD}{δ:DS}{f:MH}{Q:DK}(a b g h:Nat->D)(t:I.n<=1000)(hC:∀p c,f p=MA->I.C (az f p (.lst c)))(o:∀i d,i<I.n->I.item i=LZ d->d=.tup [a i,b i]) (hw:∀i M R,i<I.n->R ⟨2,fun j=>[a i,b i][j]?,fun M=>CO M (.tup [a i,b i]) [a i,b i]⟩ M->q (cδ [LZ (.tup [a i,b i]),MA] js δ) M R) (u:∀i M (K:DK),i<I.n->K (g i) M->te (cδ [LZ (.tup [a i,b i]),LZ (a i)] js δ) M K) (v:∀i M (K:DK),i<I.n->K (h i) M->te (cδ [LZ (.tup [a i,b i]),LZ (b i)] js δ) M K) (x:∀p,f p=MA->Q (.ref p) (az f p (.lst ((J8 I.n).flatMap fun i=>[g i,h i])))):FV I js q te δ f Q:=by
 refine⟨t,fun p r=>⟨fun i c M=>c=(J8 i).flatMap (fun i=>[g i,h i])/\M=az f p (.lst c),⟨rfl,rfl⟩,?_,?_,?_⟩⟩
 ·rintro i c M _ ⟨_,rfl⟩;exact hC p c r
 ·rintro i c d M k hd ⟨rfl,rfl⟩;obtain rfl:=o i d k hd;refine hw i _ _ k ⟨Mo rfl,fun j l M=>l=(J8 i).flatMap (fun i=>[g i,h i])++[g i,h i].take j/\M=az f p (.lst l),⟨by simp,rfl⟩,fun _ _ _ _ _=>rfl,?_,?_⟩
  ·rintro j l e M s m ⟨rfl,rfl⟩;have s:j<2:=s;have m:[a i,b i][j]?=LZ e:=m;rcases(():j=0\/j=1)with rfl|rfl
   ·cases m;exact u i _ _ k ⟨_,.refl,ag,by simp,by rw[bD]⟩
   ·cases m;exact v i _ _ k ⟨_,.refl,ag,by simp,by rw[bD]⟩
  ·rintro l M ⟨rfl,rfl⟩;refine⟨?_,rfl⟩;rw[Kw,List.flatMap_append];simp
 ·rintro c M ⟨rfl,rfl⟩;exact x p r
inductive OG:Prop
 |mk (t b X Y:Int) (ws:rr) (p:n7) (r:pq) (_:r_=.tup (ws.map (Mq t b X Y))) (_:sj=.ref p) (_:M p=LZ (.lst (r.map r3))) (_:N7 t b X Y) (_:(∀w∈ws,Mn w)) (_:ws.length<=40) (_:r.length<=80) (_:(∀g∈r,g<2*ws.length)) (_:∀tot B:Int,0<B->B<=10^52->Bd 1000 tot->(tot:Rat)=(r.map (Rc t b X Y ws)).sum*(B:Rat)->Q (.tup [.int tot,.int B]) M)
theorem qc(T:Tx K mg):Cal P w K mg base 3 "twice_area" (NO OG):=by
 refine bE (k:=2) T.j_ aW fun f _ _ _ s H _ V=>⟨_,(ak (dE 2 aW.nd (Mm.of (xs:=["face"]) (js:=[0]) rfl) rfl (aR (dv 1)) (fun _ _ _ _=>cG) (fun _ _ _ _=>(aq (cF T).m V (ae (dv 1) (ae (dv 0) af))))) (ak (aA 3 aW.nd (aq (gc T).m V (ae (zo (Mm.of (xs:=["way","corner"]) (js:=[]) rfl) rfl (aR (dv 2)) (fun _ _ _ _=>(aR (dv 0))) (fun _ _ _ _=>(ay (dv 1) aj))) af))) (ak (aA 4 aW.nd (aq (gc T).m V (ae (zo (Mm.of (xs:=["way","corner"]) (js:=[]) rfl) rfl (aR (dv 2)) (fun _ _ _ _=>(aR (dv 0))) (fun _ _ _ _=>(ay (dv 1) aj))) af))) (ak (aA 5 aW.nd aj) (ak (bV Jc rfl (aR (dv 2)) (bI rfl (aC (bI rfl (aC (aB 6 aW.nd) (aC (aB 7 aW.nd) a9))) (aC (bI rfl (aC (aB 8 aW.nd) (aC (aB 9 aW.nd) a9))) a9))) (ak (x9 5 aW.nd Ew (aw aH (aq (fQ T).m V (ae (dv 6) (ae (dv 3) af))) (aq (fQ T).m V (ae (dv 9) (ae (dv 4) af))))) (au (x9 5 aW.nd DU (aw aH (aq (fQ T).m V (ae (dv 8) (ae (dv 3) af))) (aq (fQ T).m V (ae (dv 7) (ae (dv 4) af)))))))) (au (aD (aF (ae (dv 5) (ae (aw aH (dv 3) (dv 4)) af)))))))))),fun _ _ M Q h=>?_⟩;obtain⟨t,b,X,Y,ws,p,r,rfl,rfl,hp,S,hU,f1,g1,V,k⟩:=h;refine⟨_,rfl,_,hp,comp_map (fun j=>Mq t b X Y (fw ws ((r[j]?).getD 0))) (by show(r.map r3).length<=1000000;simp;omega) (fun q ys hq=>by show(az M q _) p=_;rw[ao (ax hp hq)];exact hp) ?_ (fun O x0=>?_)⟩
 ·intro j d M6 hj hd sb;have hd:(r.map r3)[j]?=LZ d:=hd;rw[IX]at hd;cases C:r[j]? with
  |none=>rw[C]at hd;cases hd
  |some g=>
   rw[C]at hd
   cases hd
   exact⟨_,rfl,fun K hK=>⟨_,rfl,_,rfl,t,b,X,Y,ws,g,rfl,rfl,V g (IW C),(),hK _ .refl⟩⟩
 have e1:(J8 (r.map r3).length).map (fun j=>Mq t b X Y (fw ws ((r[j]?).getD 0)))=r.map fun g=>Mq t b X Y (fw ws g):=by
  rw[IV];apply List.ext_getElem
  ·simp
  ·intro i h1 h2;simp at h1;simp[h1]
 dsimp only;rw[e1];have I:(az M O (.lst (r.map fun g=>Mq t b X Y (fw ws g)))) O=LZ (.lst (r.map fun g=>Mq t b X Y (fw ws g))):=ag;have m0:SD.Sub M (az M O (.lst (r.map fun g=>Mq t b X Y (fw ws g)))):=.new x0 .refl;generalize az M O (.lst (r.map fun g=>Mq t b X Y (fw ws g)))=M1 at I m0 ⊢;have e0:(r.map fun g=>Mq t b X Y (fw ws g)).length=r.length:=by simp
 refine⟨_,rfl,_,I,oj (fun i=>Mf (MU t b X 1 (fa ws ((r[i]?).getD 0)).1) (MU t b Y 1 (fa ws ((r[i]?).getD 0)).2)) (fun i=>Mf (MU t b X 1 (fb ws ((r[i]?).getD 0)).1) (MU t b Y 1 (fb ws ((r[i]?).getD 0)).2)) (fun i=>Mg (MU t b X 1 (fa ws ((r[i]?).getD 0)).1)) (fun i=>Mg (MU t b X 1 (fb ws ((r[i]?).getD 0)).1)) (by show(r.map fun g=>Mq t b X Y (fw ws g)).length<=1000;omega) (fun q ys hq=>by show(az M1 q _) O=_;rw[ao (ax I hq)];exact I) (fun i d J hd=>?_) (fun i M R J h=>⟨_,rfl,_,rfl,h⟩) (fun i M K J h=>⟨_,rfl,_,rfl,h⟩) (fun i M K J h=>⟨_,rfl,_,rfl,h⟩) (fun px n0=>?_)⟩
 ·have hd:(r.map fun g=>Mq t b X Y (fw ws g))[i]?=LZ d:=hd;rw[IX]at hd;cases C:r[i]? with
  |none=>rw[C]at hd;cases hd
  |some g=>
   rw[C]at hd
   cases hd
   rfl
 obtain⟨l,rfl⟩:∃l:Nat,b=(l:Int):=⟨b.toNat,by have:=S.b0;omega⟩;have a0:0<l:=by have:=S.b0;omega
 have dv:∀(Z x:Int),(MU t (l:Int) Z 1 x).den ∣ l:=fun Z x=>by
  have h:=Ba (n:=x*t+Z*1) (d:=(l:Int)*1) ()
  rw[Int.mul_one (l:Int)]at h
  unfold MU
  rw[Int.mul_one (l:Int)]
  exact Int.ofNat_dvd.mp h
 have eX:∀(Z:Int) (F:Vc->Int) (n:Nat),((J8 n).flatMap fun i=>[Mg (MU t (l:Int) Z 1 (F (fa ws ((r[i]?).getD 0)))),Mg (MU t (l:Int) Z 1 (F (fb ws ((r[i]?).getD 0))))])=((J8 n).flatMap fun i=>[MU t (l:Int) Z 1 (F (fa ws ((r[i]?).getD 0))),MU t (l:Int) Z 1 (F (fb ws ((r[i]?).getD 0)))]).map Mg:=fun Z F n=>by rw[List.map_flatMap];rfl
 have c0:∀(Z:Int) (F:Vc->Int) (n:Nat) (q:Rat),q∈((J8 n).flatMap fun i=>[MU t (l:Int) Z 1 (F (fa ws ((r[i]?).getD 0))),MU t (l:Int) Z 1 (F (fb ws ((r[i]?).getD 0)))])->q.den ∣ l:=fun Z F n q hq=>by
  obtain⟨i,_,J⟩:=List.mem_flatMap.mp hq;rcases Jx.mp J with z|z
  ·rw[z];exact dv _ _
  ·rw[show q=_ from by simpa using z];exact dv _ _
 have d0:∀(Z:Int) (F:Vc->Int) (c:Nat),(∀q∈((J8 r.length).flatMap fun i=>[MU t (l:Int) Z 1 (F (fa ws ((r[i]?).getD 0))),MU t (l:Int) Z 1 (F (fb ws ((r[i]?).getD 0)))]),q.den ∣ c)->∀(i g:Nat),r[i]?=LZ g->(MU t (l:Int) Z 1 (F (fa ws g))).den ∣ c/\(MU t (l:Int) Z 1 (F (fb ws g))).den ∣ c:=fun Z F c h i g C=>by
  have J:i<r.length:=(J1.mp C).1
  refine⟨h _ (List.mem_flatMap.mpr ⟨i,Jv.mpr J,?_⟩),h _ (List.mem_flatMap.mpr ⟨i,Jv.mpr J,?_⟩)⟩
  ·rw[C];simp
  ·rw[C];simp
 have o0:l<=10^26:=by have:=S.b1;omega
 refine⟨px,_,l,rfl,(by rw[ag];dsimp only;rw[e0];exact congrArg (fun z=>LZ (MO.lst z)) (eX X (fun v=>v.1) r.length)),a0,o0,c0 X (fun v=>v.1) _,fun L i1 y0 z0=>?_⟩;have U:∀{o},(az M1 px o) O=LZ (.lst (r.map fun g=>Mq t (l:Int) X Y (fw ws g))):=fun{o}=>by rw[ao (ax I n0)];exact I
 have a1:∀{o},SD.Sub M (az M1 px o):=fun{o}=>.new n0 m0;refine⟨_,rfl,_,U,oj (fun i=>Mf (MU t (l:Int) X 1 (fa ws ((r[i]?).getD 0)).1) (MU t (l:Int) Y 1 (fa ws ((r[i]?).getD 0)).2)) (fun i=>Mf (MU t (l:Int) X 1 (fb ws ((r[i]?).getD 0)).1) (MU t (l:Int) Y 1 (fb ws ((r[i]?).getD 0)).2)) (fun i=>Mg (MU t (l:Int) Y 1 (fa ws ((r[i]?).getD 0)).2)) (fun i=>Mg (MU t (l:Int) Y 1 (fb ws ((r[i]?).getD 0)).2)) (by show(r.map fun g=>Mq t (l:Int) X Y (fw ws g)).length<=1000;omega) (fun q ys hq=>by show(az _ q _) O=_;rw[ao (ax U hq)];exact U) (fun i d J hd=>?_) (fun i M R J h=>⟨_,rfl,_,rfl,h⟩) (fun i M K J h=>⟨_,rfl,_,rfl,h⟩) (fun i M K J h=>⟨_,rfl,_,rfl,h⟩) (fun py r0=>?_)⟩
 ·have hd:(r.map fun g=>Mq t (l:Int) X Y (fw ws g))[i]?=LZ d:=hd;rw[IX]at hd;cases C:r[i]? with
  |none=>rw[C]at hd;cases hd
  |some g=>
   rw[C]at hd
   cases hd
   rfl
 refine⟨py,_,l,rfl,(by rw[ag];dsimp only;rw[e0];exact congrArg (fun z=>LZ (MO.lst z)) (eX Y (fun v=>v.2) r.length)),a0,o0,c0 Y (fun v=>v.2) _,fun N j1 c1 d1=>?_⟩;have ux:=d0 X (fun v=>v.1) L z0;have uy:=d0 Y (fun v=>v.2) N d1;have s0:∀{o o'},py≠O->(az (az M1 px o) py o') O=LZ (.lst (r.map fun g=>Mq t (l:Int) X Y (fw ws g))):=fun ne=>by rw[ao ne.symm];exact U
 have t0:py≠O:=(ax U r0).symm;refine⟨_,rfl,_,s0 t0,?_⟩;have f0:=SD.Sub.new (o:=MO.lst ((J8 (r.map fun g=>Mq t (l:Int) X Y (fw ws g)).length).flatMap fun i=>[Mg (MU t (l:Int) Y 1 (fa ws ((r[i]?).getD 0)).2),Mg (MU t (l:Int) Y 1 (fb ws ((r[i]?).getD 0)).2)])) r0 a1;dsimp only at f0 ⊢;have u0:=s0 (o:=MO.lst ((J8 (r.map fun g=>Mq t (l:Int) X Y (fw ws g)).length).flatMap fun i=>[Mg (MU t (l:Int) X 1 (fa ws ((r[i]?).getD 0)).1),Mg (MU t (l:Int) X 1 (fb ws ((r[i]?).getD 0)).1)])) (o':=MO.lst ((J8 (r.map fun g=>Mq t (l:Int) X Y (fw ws g)).length).flatMap fun i=>[Mg (MU t (l:Int) Y 1 (fa ws ((r[i]?).getD 0)).2),Mg (MU t (l:Int) Y 1 (fb ws ((r[i]?).getD 0)).2)])) t0;generalize az (az M1 px (MO.lst ((J8 (r.map fun g=>Mq t (l:Int) X Y (fw ws g)).length).flatMap fun i=>[Mg (MU t (l:Int) X 1 (fa ws ((r[i]?).getD 0)).1),Mg (MU t (l:Int) X 1 (fb ws ((r[i]?).getD 0)).1)]))) py (MO.lst ((J8 (r.map fun g=>Mq t (l:Int) X Y (fw ws g)).length).flatMap fun i=>[Mg (MU t (l:Int) Y 1 (fa ws ((r[i]?).getD 0)).2),Mg (MU t (l:Int) Y 1 (fb ws ((r[i]?).getD 0)).2)]))=M3 at f0 u0 ⊢;have y:(0:Int)<(L:Int)/\(L:Int)<=10^26:=by have:=Nat.le_of_dvd a0 y0;omega
 have u:(0:Int)<(N:Int)/\(N:Int)<=10^26:=by have:=Nat.le_of_dvd a0 c1;omega
 refine⟨fun i δ M'=>M'=M3/\R8 fun(G:Int) (o6 o7 o8 o9:ry)=>δ=[LZ (.tup (ws.map (Mq t (l:Int) X Y))),r4 p,r4 O,r8 L,r8 N,r8 G,o6,o7,o8,o9]/\(G:Rat)=((r.take i).map (Rc t (l:Int) X Y ws)).sum*(((L:Int)*(N:Int):Int):Rat)/\Bd (600+2*i) G,⟨rfl,0,_,_,_,_,rfl,(by simp),(by show(0:Int).natAbs<2^(600+2*0);decide)⟩,fun i δ M' _ z=>by obtain⟨rfl,_⟩:=z;exact u0,?_,?_⟩
 ·rintro i d δ M' J hd ⟨rfl,G,o6,o7,o8,o9,rfl,et,bt⟩;have hd:(r.map fun g=>Mq t (l:Int) X Y (fw ws g))[i]?=LZ d:=hd;rw[IX]at hd;cases C:r[i]? with
  |none=>rw[C]at hd;cases hd
  |some g=>
   rw[C]at hd
   cases hd
   have hg:=V g (IW C)
   obtain⟨_,_,w3⟩:=aX (ws:=ws) (k:=((g/2:Nat):Int)) () ()
   have W:=hU _ w3
   have W6:∀{z:Int},(0<=z/\z<=20)->(-(10^6)<=z/\z<=10^6):=fun{z} h=>()
   have one:(0:Int)<1/\(1:Int)<=10^6:=⋯
   have rg:((0<=(fa ws g).1/\(fa ws g).1<=20)/\(0<=(fa ws g).2/\(fa ws g).2<=20))/\((0<=(fb ws g).1/\(fb ws g).1<=20)/\(0<=(fb ws g).2/\(fb ws g).2<=20)):=by
    unfold fa fb fw;by_cases h:g%2=0
    ·rw[ME h];exact⟨⟨W.a,W.b⟩,W.c,W.d⟩
    ·rw[MD h];exact⟨⟨W.c,W.d⟩,W.a,W.b⟩
   have g0:MV 200 (MU t (l:Int) X 1 (fa ws g).1):=S.bx one (W6 rg.1.1)
   have i0:MV 200 (MU t (l:Int) Y 1 (fa ws g).2):=S.by' one (W6 rg.1.2)
   have k0:MV 200 (MU t (l:Int) X 1 (fb ws g).1):=S.bx one (W6 rg.2.1)
   have l0:MV 200 (MU t (l:Int) Y 1 (fb ws g).2):=S.by' one (W6 rg.2.2)
   have tb:∀{q:Rat} {B:Int},MV 200 q->0<B->B<=10^26->Bd 300 (q.num*B.fdiv (q.den:Int)):=fun{q B} h h0 h1=>by
    have bB:Bd 100 B:=by show B.natAbs<2^100;omega
    have dB:(B.fdiv (q.den:Int)).natAbs<=B.natAbs:=by rw[JM _ ()];exact Int.natAbs_ediv_le_natAbs _ _
    exact h.1.mul (bB.of_le dB)
   have m6:∀{z:Int},Bd 300 z->Bd 1000000 z:=fun h=>h.mono ⋯
   refine⟨_,rfl,rfl,_,_,rfl,_,rfl,rfl,_,_,rfl,_,_,rfl,rfl,_,_,rfl,_,rfl,rfl,_,_,rfl,_,_,rfl,rfl,rfl,?_⟩
   (try dsimp only[SD.aT])
   refine RE fun B hB=>?_
   refine⟨G,rfl,_,rfl,_,rfl,MU t (l:Int) X 1 (fa ws g).1,(L:Int),rfl,rfl,g0,y.1,y.2,_,rfl,_,rfl,MU t (l:Int) Y 1 (fb ws g).2,(N:Int),rfl,rfl,l0,u.1,u.2,eQ (m6 (tb g0 y.1 y.2)) (m6 (tb l0 u.1 u.2)),_,rfl,?_⟩
   refine⟨_,rfl,_,rfl,_,rfl,MU t (l:Int) X 1 (fb ws g).1,(L:Int),rfl,rfl,k0,y.1,y.2,_,rfl,_,rfl,MU t (l:Int) Y 1 (fa ws g).2,(N:Int),rfl,rfl,i0,u.1,u.2,eQ (m6 (tb k0 y.1 y.2)) (m6 (tb i0 u.1 u.2)),_,rfl,?_⟩
   refine hB _ _ ⟨rfl,_,_,_,_,_,rfl,?_,?_⟩
   ·rw[Kj,C,Option.toList_some,Jg,List.sum_append];have ex:=ux i g C;have ey:=uy i g C;have t1:=uH (MU t (l:Int) X 1 (fa ws g).1) (L:Int) (Int.ofNat_dvd.mpr ex.1);have t2:=uH (MU t (l:Int) Y 1 (fb ws g).2) (N:Int) (Int.ofNat_dvd.mpr ey.2);have t3:=uH (MU t (l:Int) X 1 (fb ws g).1) (L:Int) (Int.ofNat_dvd.mpr ex.2);have t4:=uH (MU t (l:Int) Y 1 (fa ws g).2) (N:Int) (Int.ofNat_dvd.mpr ey.1);dsimp only;rw[Km,Lf,et,JI,JI,t1,t2,JI,t3,t4];simp only[J0,Kh,JH,List.sum_nil];unfold Rc;grind
   ·have p1:=((tb g0 y.1 y.2).mul (tb l0 u.1 u.2)).mono (():300+300<=600+2*i);have p2:=((tb k0 y.1 y.2).mul (tb i0 u.1 u.2)).mono (():300+300<=600+2*i+1);exact((bt.add p1).sub p2).mono ()
 ·rintro δ M' ⟨rfl,G,o6,o7,o8,o9,rfl,et,bt⟩;have e:r.take (r.map fun g=>Mq t (l:Int) X Y (fw ws g)).length=r:=K6 (by simp);rw[e]at et;have v0:Bd 100 (L:Int):=by show(L:Int).natAbs<2^100;omega
  have w0:Bd 100 (N:Int):=by show(N:Int).natAbs<2^100;omega
  have pp:=Jl y.1 u.1
  have pl:(L:Int)*(N:Int)<=10^52:=by
   have h1:=Int.mul_le_mul y.2 u.2 (K5 u.1) (show(0:Int)<=10^26 by decide)
   exact Int.le_trans h1 ⋯
  exact⟨_,rfl,_,rfl,_,rfl,eQ (v0.mono ⋯) (w0.mono ⋯),Mo rfl,⟨M,f0,k G _ pp pl (bt.mono (by rw[e0];first|omega|(dsimp only;omega)|(simp only[IV]at *;omega))) et⟩⟩
theorem cS:Ml ["plot","outers","inners","ring"] ["plot"] (av eU):=⋯
inductive NW:Prop
 |mk (t b X Y:Int) (ws:rr) (_:r_=.tup (ws.map (Mq t b X Y))) (_:N7 t b X Y) (_:ws.length<=40) (_:(∀w∈ws,Mn w)) (_:PF ws) (_:∀(M':MH) (lo li:n7) (ps qs:rb) (rs:pe),SD.Sub M M'->OO ws (2*ws.length) rs->M' lo=LZ (.lst (ps.map D.ref))->M' li=LZ (.lst (qs.map D.ref))->RL M' ps (rs.filter (aI ws))->RL M' qs (rs.filter fun r=>!aI ws r)->M lo=MA->M li=MA->(∀p∈ps++qs,M p=MA)->Q (.tup [.ref lo,.ref li]) M')
theorem jB(T:Tx K mg):Cal P w K mg base 8 "outer_and_inner" (Ox NW):=by
 refine eV (k:=7) T.ka cS fun f cdv A outer s H E hr=>⟨_,(ak (gb 1 2 rfl cS.nd (ae (bw af) (ae (bw af) af))) (ak (bV Jc rfl (aR (aq (so T).m hr (ae (dv 0) af))) (aB 3 cS.nd) (au (bo (aL (fW hr.units) (ay (aq (qc T).m hr (ae (dv 0) (ae (dv 3) af))) aj) aj) (au (cw (bz (dv 1) (ae (dv 3) af)))) (au (cw (bz (dv 2) (ae (dv 3) af))))))) (au (aD (aF (ae (dv 1) (ae (dv 2) af))))))),fun _ M Q h=>?_⟩;obtain⟨t,b,X,Y,ws,rfl,S,I,hU,hF,k⟩:=h;refine⟨Mo rfl,fun x L=>⟨Mo rfl,fun n N=>?_⟩⟩;have q:x≠n:=ax ag N;have J:M n=MA:=by have h:=N;rw[ao q.symm]at h;exact h
 refine⟨_,_,rfl,?_⟩;refine⟨_,rfl,t,b,X,Y,ws,rfl,S,I,hU,hF,fun y lr pr C O F a0 R c0 g0=>?_⟩;have d0:y x=LZ (.lst []):=O _ _ (by rw[ao q,ag]);have e0:y n=LZ (.lst []):=O _ _ ag;have h0:SD.Sub M y:=SD.Sub.trans (.new N (.new L .refl)) O;have i0:lr≠x:=fun z=>by subst z;rw[ao q,ag]at F;cases F
 have k0:lr≠n:=fun z=>by subst z;rw[ag]at F;cases F
 have pn:∀p∈pr,p≠x/\p≠n/\M p=MA:=fun p g=>by
  have h:=(g0 p g).2
  have a:p≠n:=fun z=>by subst z;rw[ag]at h;cases h
  rw[ao a]at h
  have c:p≠x:=fun z=>by subst z;rw[ag]at h;cases h
  rw[ao c]at h
  exact⟨c,a,h⟩
 have l0:=kY R;have m0:=c0.len;have f0:=jc hU hF (IY _) R;refine⟨_,a0,?_⟩;refine⟨fun i δ G=>Qu fun(ps qs:rb) (o3:ry)=>Y6 (δ=[LZ (.tup (ws.map (Mq t b X Y))),r4 x,r4 n,o3]) (∀c,c≠x->c≠n->G c=y c) (G x=LZ (.lst (ps.map D.ref))) (G n=LZ (.lst (qs.map D.ref))) (RL y ps ((C.take i).filter (aI ws))) (RL y qs ((C.take i).filter fun r=>!aI ws r)) (ps.length<=i) (qs.length<=i) (∀p∈ps++qs,p∈pr),⟨[],[],_,rfl,fun _ _ _=>rfl,d0,e0,.nil,.nil,IY _,IY _,fun p g=>by cases g⟩,fun i δ G _ z=>by obtain⟨_,_,_,_,z,_⟩:=z;show G lr=_;rw[z lr i0 k0];exact a0,?_,?_⟩
 ·rintro i d δ G hi hd ⟨ps,qs,o3,rfl,l,u,v,U,R2,l1,l2,j⟩;have hi:i<pr.length:=by have:i<(pr.map D.ref).length:=hi;simpa using this
  have hd:(pr.map D.ref)[i]?=LZ d:=hd;rw[IX,IT hi]at hd;cases hd;obtain⟨r,er,V⟩:=c0.get hi;have W:pr[i]∈pr:=JQ hi;obtain⟨p1,p2,p3⟩:=pn _ W;have A:=f0 r (IW er);refine⟨_,rfl,_,rfl,t,b,X,Y,ws,pr[i],r,rfl,rfl,(by rw[l _ p1 p2];exact V),S,hU,I,by have:=A.len;omega,A.lt,fun n0 B hB o0 bt et=>?_⟩;refine⟨_,rfl,trivial,_,rfl,?_⟩;have sg:=yF hU hF A.rng S.t0 S.b0 hB et;have Z:=gN (aI ws) C er;have f2:=gN (fun r=>!aI ws r) C er;refine bP (fun h=>?_) (fun h=>?_)
  ·have o:aI ws r=MB:=by rw[<-sg];exact h
   rw[o]at Z f2;rw[ME rfl]at Z;rw[MD ⋯,JX]at f2;refine⟨_,rfl,x,_,rfl,u,_,rfl,_,_,rfl,u,(by rw[IV];omega),?_⟩;refine⟨ps++[pr[i]],qs,_,rfl,fun c a c2=>by rw[ao a];exact l c a c2,by rw[ag,Jg];rfl,by rw[ao q.symm];exact v,by rw[Z];exact U.snoc V,by rw[f2];exact R2,by simp;omega,(),fun p g=>?_⟩;rcases Jn.mp g with z|z
   ·rcases Jn.mp z with z|z
    ·exact j p (Jn.mpr (.inl z))
    ·rw[show p=pr[i] by simpa using z];exact W
   ·exact j p (Jn.mpr (.inr z))
  ·have o:aI ws r=MC:=by rw[<-sg];simpa using h
   rw[o]at Z f2;rw[MD ⋯,JX]at Z;rw[ME (show(!MC)=MB from rfl)]at f2;refine⟨_,rfl,n,_,rfl,v,_,rfl,_,_,rfl,v,(by rw[IV];omega),?_⟩;refine⟨ps,qs++[pr[i]],_,rfl,fun c a c2=>by rw[ao c2];exact l c a c2,by rw[ao q];exact u,by rw[ag,Jg];rfl,by rw[Z];exact U,by rw[f2];exact R2.snoc V,(),by simp;omega,fun p g=>?_⟩;rcases Jn.mp g with z|z
   ·exact j p (Jn.mpr (.inl z))
   ·rcases Jn.mp z with z|z
    ·exact j p (Jn.mpr (.inr z))
    ·rw[show p=pr[i] by simpa using z];exact W
 ·rintro δ G ⟨ps,qs,o3,rfl,l,u,v,U,R2,l1,l2,j⟩;have et:C.take (pr.map D.ref).length=C:=K6 (by rw[IV];omega);have U:RL y ps ((C.take (pr.map D.ref).length).filter (aI ws)):=U;have R2:RL y qs ((C.take (pr.map D.ref).length).filter fun r=>!aI ws r):=R2;rw[et]at U R2;have kp:∀p∈ps++qs,G p=y p:=fun p g=>let z:=pn p (j p g);l p z.1 z.2.1
  refine⟨_,rfl,_,rfl,Mo rfl,NA (k G x n ps qs C (fun a o h=>?_) R u v (U.mono fun p g o e=>by rw[kp p (Jn.mpr (.inl g))];exact e) (R2.mono fun p g o e=>by rw[kp p (Jn.mpr (.inr g))];exact e) L J fun p g=>(pn p (j p g)).2.2)⟩;rw[l a (fun z=>by subst z;rw[L]at h;cases h) (fun z=>by subst z;rw[J]at h;cases h)];exact h0 _ _ h
theorem cR:Ml ["plot","ring","first","face"] ["plot","ring"] (av gC):=⋯
inductive Nn:Prop
 |mk (t b X Y:Int) (ws:rr) (p:n7) (r:pq) (_:r_=.tup (ws.map (Mq t b X Y))) (_:sj=.ref p) (_:M p=LZ (.lst (r.map r3))) (_:N7 t b X Y) (_:(∀w∈ws,Mn w)) (_:ws.length<=40) (_:0<r.length) (_:(∀g∈r,g<2*ws.length)) (_:Q (Nf t b X Y (fc ws r)) M)
theorem mf(T:Tx K mg):Cal P w K mg base 4 "first_corner" (NO Nn):=by
 refine bE (k:=3) T.kc cR fun f _ _ _ s H _ j=>⟨_,(ak (aA 2 cR.nd (ay (aq (cF T).m j (ae (dv 0) (ae (ay (dv 1) aj) af))) aj)) (ak (bV Jc rfl (aR (dv 1)) (aB 3 cR.nd) (au (aA 2 cR.nd (aq (jF T).m j (ae (dv 2) (ae (ay (aq (cF T).m j (ae (dv 0) (ae (dv 3) af))) aj) af)))))) (au (aD (dv 2))))),fun _ _ M Q h=>?_⟩;obtain⟨t,b,X,Y,ws,p,r,rfl,rfl,v,S,F,G,c,j,k⟩:=h
 obtain⟨n,I,x⟩:∃n I,r=n::I:=by
  cases r with
  |nil=>simp at c
  |cons a l=>exact⟨a,l,rfl⟩
 have q:∀{z:Vc},NY z->MV 100000 (MU t b X 1 z.1)/\MV 100000 (MU t b Y 1 z.2):=fun{z} h=>by
  have one:(0:Int)<1/\(1:Int)<=10^6:=⋯
  exact⟨(S.bx one (by have:=h.1;omega)).mono ⋯,(S.by' one (by have:=h.2;omega)).mono ⋯⟩
 refine⟨_,rfl,_,rfl,_,_,v,(show atI _ ((0:Nat):Int)=LZ (.int (n:Int))from cM (by rw[x];rfl)),t,b,X,Y,ws,n,rfl,rfl,j n (by rw[x];simp),(),_,rfl,?_⟩;refine⟨_,rfl,_,v,?_⟩;refine⟨fun i δ u=>u=M/\∃y:ry,δ=[LZ (.tup (ws.map (Mq t b X Y))),r4 p,LZ (Nf t b X Y (Qx ws r i)),y],⟨rfl,_,by rw[x];rfl⟩,fun i δ u _ z=>by obtain⟨rfl,_⟩:=z;exact v,?_,?_⟩
 ·rintro i d δ u o hd ⟨rfl,y,rfl⟩;have o:i<r.length:=by have:i<(r.map r3).length:=o;simpa using this
  have hd:(r.map r3)[i]?=LZ d:=hd;rw[IX,IT o]at hd;cases hd;have J:=j r[i] (JQ o);have b1:=pF F j c i ();have B:=pf F J;refine⟨_,rfl,_,rfl,_,rfl,t,b,X,Y,ws,r[i],rfl,rfl,J,(),_,rfl,?_⟩;refine⟨_,_,_,_,rfl,rfl,(q b1).1,(q b1).2,(q B).1,(q B).2,fun s C=>?_⟩;have C:=C.trans (F4 (X:=X) (Y:=Y) S.t0 S.b0 b1 B);subst C;exact⟨rfl,_,by rw[rT (IT o)];rfl⟩
 ·rintro δ u ⟨rfl,y,rfl⟩;have e:Qx ws r (r.map r3).length=fc ws r:=by rw[IV];rfl
  refine⟨_,rfl,NA ?_⟩;dsimp only;rw[e];exact k
theorem iG:Ml ["plot","lands","corner","wall"] ["plot","lands","corner"] (av je):=⋯
inductive OL:Prop
 |mk (t b X Y:Int) (ws:rr) (l:n7) (L:pw) (c:Vc) (_:r_=.tup (ws.map (Mq t b X Y))) (_:sj=.ref l) (_:sk=Nf t b X Y c) (_:M l=LZ (.lst (L.map D.int))) (_:L.length=2*ws.length) (_:N7 t b X Y) (_:(∀w∈ws,Mn w)) (_:PF ws) (_:ws.length<=40) (_:NY c) (_:Q (.int (Oy ws L c)) M)
theorem pY(T:Tx K mg):Cal P w K mg base 7 "land_about" (Q9 OL):=by
 refine iC (k:=6) T.ke iG fun f _ _ _ s H _ x=>⟨_,(ak (aA 3 iG.nd (aq (iE T).m x (ae (dv 0) (ae (dv 2) af)))) (au (aD (gy (aL vy (dv 3) iR) aj (ay (dv 1) (aw aH aj (mP (kS x) (dv 0) (ae (dv 3) af)))))))),fun _ _ _ M Q h=>?_⟩;obtain⟨t,b,X,Y,ws,l,L,c,rfl,rfl,rfl,C,I,S,j,hF,n,u,k⟩:=h;have J:=u.1;have N:=u.2;have eb:=FC (X:=X) (Y:=Y) S.t0 S.b0 j (p:=c.1) (q:=c.2) ();refine⟨_,rfl,_,rfl,t,b,X,Y,_,_,ws,rfl,rfl,S,j,hF,n,u.bx S,u.by' S,(fun F=>?_),(fun a d o=>?_)⟩<;>rw[eb]at *
 ·have k:Q (.int 0) M:=by unfold Oy at k;rw[ME F]at k;exact k
  exact⟨_,rfl,_,rfl,_,rfl,rY rfl (NA k)⟩
 ·have sp:=jd (jX d);obtain⟨z,O,G⟩:=aX sp.1 sp.2.1;have tn:a.toNat<ws.length:=()
  have k:Q (.int ((L[2*a.toNat]?).getD 0)) M:=by unfold Oy at k;rw[MD (KC d),BE j hF d o]at k;exact k
  have B:2*a.toNat<L.length:=()
  rw[IT B]at k;refine⟨_,rfl,_,rfl,_,rfl,jf rfl ?_⟩;refine⟨_,rfl,_,rfl,_,rfl,_,rfl,_,Qn t b X Y (Mu ws a),a.toNat,rfl,(by simp;omega),Pd.of rfl,rfl,fun i y R r=>?_,?_⟩
  ·rw[IX]at r;cases g:ws[i]? with
   |none=>rw[g]at r;cases r
   |some U=>
    rw[g]at r
    cases r
    refine⟨Qn t b X Y U,Pd.of rfl,rfl,?_⟩
    by_cases e:i=a.toNat
    ·subst e;rw[z]at g;cases g;rw[rE,MG rfl]
    ·rw[MF e];exact xI S.t0 S.b0 (j _ (IW g)) (j _ G) (hF i a.toNat _ _ e g z).ne
  ·refine⟨aQ (bA ⋯),_,_,C,(by rw[show(2:Int)*((a.toNat:Nat):Int)=((2*a.toNat:Nat):Int) by omega];exact cM (v:=D.int L[2*a.toNat]) (by rw[IX,IT B];rfl)),NA k⟩
theorem aN:Ml ["plot","outers","inners","lands","number","ring","face","ring_at","corner","land"] ["plot"] (av fL):=⋯
inductive Nb:Prop
 |mk (t b X Y:Int) (ws:rr) (_:r_=.tup (ws.map (Mq t b X Y))) (_:N7 t b X Y) (_:ws.length<=40) (_:(∀w∈ws,Mn w)) (_:PF ws) (_:∀(M':MH) (z:n7) (L:pw),SD.Sub M M'->M z=MA->M' z=LZ (.lst (L.map D.int))->dW ws L->Q (.ref z) M')
theorem jT(T:Tx K mg):Cal P w K mg base 9 "lands_of_faces" (Ox Nb):=by
 refine eV (k:=8) T.kz aN fun f cdv A outer s H E O=>⟨_,(ak (bZ (aq (jB T).m O (ae (dv 0) af)) (bI rfl (aC (aB 1 aN.nd) (aC (aB 2 aN.nd) a9)))) (ak (aA 3 aN.nd (aw Bp (bw (ae aj af)) (aw aH aj (aP dN rfl T.mA dJ (ae (dv 0) af))))) (ak (bV Jc rfl (zI rfl T.mu (ae (dv 1) af)) (bI rfl (aC (aB 4 aN.nd) (aC (aB 5 aN.nd) a9))) (au (bV Jc rfl (aR (dv 5)) (aB 6 aN.nd) (au (bZ (dv 4) (pb (dv 3) (dv 6))))))) (ak (vW 7 aN.nd (kS O) (Mm.of (xs:=["ring"]) (js:=[0]) rfl) rfl (aR (dv 2)) (fun _ _ _ _=>cG) (fun _ _ _ _=>(aq (mf T).m O (ae (dv 1) (ae (dv 0) af)))) (fun _ _ _ _=>(dv 0))) (ak (bV Jc rfl (aR (aq (iq T).m O (ae (cH (qH rfl) rfl T.mO uA (ae (dv 7) af)) af))) (aB 8 aN.nd) (ak (aA 9 aN.nd (aq (pY T).m O (ae (dv 0) (ae (dv 3) (ae (dv 8) af))))) (au (bV Jc rfl (aR (qi (kS O) (dv 7) (dv 8) (by intro _ _;with_unfolding_all rfl))) (aB 6 aN.nd) (au (bZ (dv 9) (pb (dv 3) (dv 6)))))))) (au (aD (dv 3)))))))),fun _ M Q h=>?_⟩;obtain⟨t,b,X,Y,ws,rfl,S,U,hU,hF,k⟩:=h;have e0:(ws.map (Mq t b X Y)).length=ws.length:=by simp
 refine⟨_,rfl,t,b,X,Y,ws,rfl,S,U,hU,hF,fun M1 lo li ps qs rs m0 R ho hi RO RI m1 n1 o1=>?_⟩;refine⟨_,rfl,rfl,_,_,rfl,_,_,rfl,rfl,?_⟩;have RO:=RO;generalize J:rs.filter (aI ws)=l at RO;generalize N:(rs.filter fun r=>!aI ws r)=ins at RI;have d0:=jc hU hF (IY _) R;have p1:=kY R;have q1:l.length<=80:=by rw[<-J];have:=List.length_filter_le (aI ws) rs;omega
 have r1:ins.length<=80:=by rw[<-N];have:=List.length_filter_le (fun r=>!aI ws r) rs;omega
 have n0:∀r∈l,YI ws r:=fun r O=>d0 r (by rw[<-J]at O;exact(Jb.mp O).1);have V:∀r∈ins,YI ws r:=fun r O=>d0 r (by rw[<-N]at O;exact(Jb.mp O).1);have b1:=RO.len;have c1:=RI.len;refine⟨Mo rfl,fun z0 o0=>⟨_,rfl,aQ (bA ⋯),.int 0,ag,by rw[e0];omega,by rw[e0];omega,fun z hz=>?_⟩⟩;have W:SD.Sub M1 (az (az M1 z0 (.lst [.int 0])) z (.lst (Ju ((2:Int)*((ws.map (Mq t b X Y)).length:Nat)).toNat (.int 0)))):=.new hz (.new o0 .refl);have r0:(az (az M1 z0 (.lst [.int 0])) z (.lst (Ju ((2:Int)*((ws.map (Mq t b X Y)).length:Nat)).toNat (.int 0)))) z=LZ (.lst ((fO (2*ws.length) l 0).map D.int)):=by rw[ag,e0,show((2:Int)*(ws.length:Nat)).toNat=2*ws.length by omega,fO,List.map_replicate]
 have nz:∀{a o},M1 a=LZ o->a≠z:=fun h e=>by
  subst e
  have h0:=SD.Sub.new (o:=.lst [.int 0]) o0 .refl _ _ h
  rw[hz]at h0;cases h0
 have fz:M z=MA:=by
  cases e:M z with
  |none=>rfl
  |some o=>exact absurd rfl (nz (m0 _ _ e))
 generalize az (az M1 z0 (.lst [.int 0])) z (.lst (Ju ((2:Int)*((ws.map (Mq t b X Y)).length:Nat)).toNat (.int 0)))=M2 at W r0 ⊢;(try dsimp only[SD.aT])
 refine bU (fun δ y=>∃o4 o5 I:ry,δ=[LZ (.tup (ws.map (Mq t b X Y))),r4 lo,r4 li,r4 z,o4,o5,I,MA,MA,MA]/\(∀c,c≠z->y c=M2 c)/\y z=LZ (.lst ((fO (2*ws.length) l l.length).map D.int))) ?_ (fun hu=>?_);rotate_left
 ·refine⟨_,rfl,lo,ps.map D.ref,rfl,W _ _ ho,fun i δ y=>∃o4 o5 I:ry,δ=[LZ (.tup (ws.map (Mq t b X Y))),r4 lo,r4 li,r4 z,o4,o5,I,MA,MA,MA]/\(∀c,c≠z->y c=M2 c)/\y z=LZ (.lst ((fO (2*ws.length) l i).map D.int)),⟨_,_,_,rfl,fun _ _=>rfl,r0⟩,fun i δ y _ q=>by obtain⟨_,_,_,_,q,_⟩:=q;show y lo=_;rw[q lo (nz ho)];exact W _ _ ho,?_,?_⟩
  ·rintro i d δ y hi hd ⟨o4,o5,I,rfl,kM,v⟩;have hi:i<ps.length:=by have:i<(ps.map D.ref).length:=hi;simpa using this
   have hd:((ps.map D.ref)[i]?).map (fun d=>D.tup [.int ((i+1:Nat):Int),d])=LZ d:=hd;rw[IX,IT hi]at hd;cases hd;obtain⟨r,er,f0⟩:=RO.get hi;have A:=n0 r (IW er);have Z:M2 ps[i]=LZ (.lst (r.map r3)):=W _ _ f0;refine⟨_,rfl,rfl,_,_,rfl,_,_,rfl,rfl,?_⟩;(try dsimp only[SD.aT])
   refine RE fun B hB=>?_;refine⟨_,rfl,r.map r3,(by show y ps[i]=_;rw[kM _ (nz f0)];exact Z),fun j δ u=>∃I:ry,δ=[LZ (.tup (ws.map (Mq t b X Y))),r4 lo,r4 li,r4 z,r8 ((i+1:Nat):Int),LZ (.ref ps[i]),I,MA,MA,MA]/\(∀c,c≠z->u c=M2 c)/\u z=LZ (.lst ((iH (fO (2*ws.length) l i) r ((i+1:Nat):Int) j).map D.int)),⟨_,rfl,kM,v⟩,fun j δ u _ q=>by obtain⟨_,_,q,_⟩:=q;show u ps[i]=_;rw[q _ (nz f0)];exact Z,?_,?_⟩
   ·rintro j d δ u hj hd ⟨I,rfl,L,n⟩;have hj:j<r.length:=by have:j<(r.map r3).length:=hj;simpa using this
    have hd:(r.map r3)[j]?=LZ d:=hd;rw[IX,IT hj]at hd;cases hd;refine⟨_,rfl,_,rfl,_,rfl,_,r[j],n,u9 (by rw[IV,gY,iM];exact A.lt _ (JQ hj)),?_⟩;exact⟨_,rfl,fun c hc=>by rw[ao hc];exact L c hc,by rw[ag,mK (IT hj),List.map_set]⟩
   ·rintro δ u ⟨I,rfl,L,n⟩;have n:u z=LZ (.lst ((iH (fO (2*ws.length) l i) r ((i+1:Nat):Int) (r.map r3).length).map D.int)):=n;rw[IV]at n;exact hB _ _ ⟨_,_,_,rfl,L,by rw[n,fO,er];rfl⟩
  ·rintro δ y ⟨o4,o5,I,rfl,kM,v⟩;have v:y z=LZ (.lst ((fO (2*ws.length) l (ps.map D.ref).length).map D.int)):=v;rw[IV,b1]at v;exact hu _ _ ⟨_,_,_,rfl,kM,v⟩
 rintro δ M3 ⟨o4,o5,I,rfl,d1,g0⟩;have G:∀{a o},M1 a=LZ o->M3 a=LZ o:=fun{a o} h=>by rw[d1 a (nz h)];exact W _ _ h
 refine⟨_,rfl,qs.map D.ref,G hi,by show(qs.map D.ref).length<=900000;rw[IV];omega,fun p hp=>?_⟩;have np:∀{a o},M3 a=LZ o->a≠p:=fun h=>ax h hp;refine⟨fun i kvs y=>RZ t b X Y ws ins qs i kvs/\y=az M3 p (Ng kvs),⟨RZ.nil ..,rfl⟩,fun i kvs y _ q=>by obtain⟨_,rfl⟩:=q;show(az M3 p _) li=_;rw[ao (np (G hi))];exact G hi,?_,?_⟩
 ·rintro i kvs d y C hd ⟨RD,rfl⟩;have C:i<qs.length:=by have:i<(qs.map D.ref).length:=C;simpa using this
  have hd:(qs.map D.ref)[i]?=LZ d:=hd;rw[IX,IT C]at hd;cases hd;obtain⟨r,er,s0⟩:=RI.get C;have A:=V r (IW er);refine⟨_,rfl,?_⟩;dsimp only[SD.lH];refine DR ?_;refine⟨_,rfl,_,rfl,t,b,X,Y,ws,qs[i],r,rfl,rfl,(by rw[ao (np (G s0))];exact G s0),S,hU,U,A.pos,A.lt,?_⟩;refine⟨_,rfl,gk t b X Y (fc ws r),tE ..,ag,?_,RD.put S.t0 S.b0 er (IT C),by rw[bD]⟩;have:=congrArg List.length RD.ks;rw[IV,IV]at this;have:=jQ ws ins i;omega
 rintro kvs M4 ⟨RD,rfl⟩;have RD:RZ t b X Y ws ins qs (qs.map D.ref).length kvs:=RD;rw[IV,c1]at RD;have a0:(az M3 p (Ng kvs)) z=LZ (.lst ((fO (2*ws.length) l l.length).map D.int)):=by rw[ao (np g0)];exact g0
 have i0:∀{a o},M1 a=LZ o->(az M3 p (Ng kvs)) a=LZ o:=fun{a o} h=>by rw[ao (np (G h))];exact G h
 have k0:(az M3 p (Ng kvs)) p=LZ (Ng kvs):=ag
 have fp:M1 p=MA:=by
  cases e:M1 p with
  |none=>rfl
  |some o=>rw[G e]at hp;cases hp
 generalize az M3 p (Ng kvs)=M4 at a0 i0 k0 ⊢;refine⟨_,rfl,.inr ⟨p,kvs,rfl,k0,fun p2 Z=>?_⟩⟩
 have ek:kvs.map (fun x=>PV x.1)=(cn ws ins ins.length).map (Nf t b X Y):=by
  have:=congrArg (Kt PV) RD.ks
  rw[L7,L7]at this
  exact this
 have kb:∀c∈cn ws ins ins.length,NY c:=fun c hc=>by
  obtain⟨j,_,hj,e⟩:=gX hc
  rw[IT hj]at e
  have A:=V _ (JQ hj)
  rw[<-e]
  exact pF hU A.lt A.pos _ (IY _)
 have kl:=jQ ws ins ins.length;refine⟨p2,t,b,X,Y,cn ws ins ins.length,rfl,(by rw[ag,ek]),S,(),kb,kB ws ins _,fun M5 zc F e1 l0 u0 pm up=>?_⟩;have c0:∀{a o},M4 a=LZ o->M5 a=LZ o:=fun{a o} h=>e1 _ _ (by rw[ao (ax h Z)];exact h);have f1:=c0 a0;have g1:=c0 k0;have i1:zc≠z:=fun e=>by subst e;rw[ao (ax a0 Z)]at l0;rw[a0]at l0;cases l0
 have j1:p≠z:=fun e=>by subst e;rw[g0]at hp;cases hp
 refine⟨_,u0,?_⟩;refine⟨fun i δ y=>∃I o8 o9:ry,δ=[LZ (.tup (ws.map (Mq t b X Y))),r4 lo,r4 li,r4 z,o4,o5,I,r4 p,o8,o9]/\(∀c,c≠z->y c=M5 c)/\y z=LZ (.lst ((fS ws ins (fO (2*ws.length) l l.length) F i).map D.int)),⟨_,_,_,rfl,fun _ _=>rfl,f1⟩,fun i δ y _ q=>by obtain⟨_,_,_,_,q,_⟩:=q;show y zc=_;rw[q zc i1];exact u0,?_,?_⟩
 ·rintro i d δ y C hd ⟨k1,o8,o9,rfl,kM,v⟩;have C:i<F.length:=by have:i<(F.map (Nf t b X Y)).length:=C;simpa using this
  have hd:(F.map (Nf t b X Y))[i]?=LZ d:=hd;rw[IX,IT C]at hd;cases hd;have v0:=pm.mem_iff.mp (JQ C);obtain⟨j,ej,hj,_⟩:=gX v0;have w0:j<qs.length:=()
  obtain⟨r,er,x0⟩:=RI.get w0;have A:=V r (IW er);have y0:M5 qs[j]=LZ (.lst (r.map r3)):=c0 (i0 x0);have a1:=nz x0;have eS:fS ws ins (fO (2*ws.length) l l.length) F (i+1)=fill (fS ws ins (fO (2*ws.length) l l.length) F i) r (Oy ws (fS ws ins (fO (2*ws.length) l l.length) F i) F[i]):=by rw[fS,IT C,Option.getD_some,ej,Option.getD_some,er,Option.getD_some]
  (try dsimp only[SD.aT])
  refine RE fun B hB=>?_;refine⟨_,rfl,_,rfl,_,rfl,t,b,X,Y,ws,z,fS ws ins (fO (2*ws.length) l l.length) F i,F[i],rfl,rfl,rfl,v,by rw[j7,iM],S,hU,hF,U,kb _ v0,?_⟩;refine⟨_,rfl,_,rfl,p,kvs,gk t b X Y F[i],.ref qs[j],rfl,tE ..,(by rw[kM p j1];exact g1),(by rw[RD.vs,ej];show(qs[j]?).map D.ref=_;rw[IT w0];rfl),r.map r3,(by show y qs[j]=_;rw[kM _ a1];exact y0),?_⟩;refine⟨fun a δ u=>∃I:ry,δ=[LZ (.tup (ws.map (Mq t b X Y))),r4 lo,r4 li,r4 z,o4,o5,I,r4 p,LZ (Nf t b X Y F[i]),LZ (.int (Oy ws (fS ws ins (fO (2*ws.length) l l.length) F i) F[i]))]/\(∀c,c≠z->u c=M5 c)/\u z=LZ (.lst ((iH (fS ws ins (fO (2*ws.length) l l.length) F i) r (Oy ws (fS ws ins (fO (2*ws.length) l l.length) F i) F[i]) a).map D.int)),⟨_,rfl,kM,v⟩,fun a δ u _ q=>by obtain⟨_,_,q,_⟩:=q;show u qs[j]=_;rw[q _ a1];exact y0,?_,?_⟩
  ·rintro a d δ u ha hd ⟨I,rfl,L,n⟩;have ha:a<r.length:=by have:a<(r.map r3).length:=ha;simpa using this
   have hd:(r.map r3)[a]?=LZ d:=hd;rw[IX,IT ha]at hd;cases hd;refine⟨_,rfl,_,rfl,_,rfl,_,r[a],n,u9 (by rw[IV,gY,j7,iM];exact A.lt _ (JQ ha)),?_⟩;exact⟨_,rfl,fun c hc=>by rw[ao hc];exact L c hc,by rw[ag,mK (IT ha),List.map_set]⟩
  ·rintro δ u ⟨I,rfl,L,n⟩;have n:u z=LZ (.lst ((iH (fS ws ins (fO (2*ws.length) l l.length) F i) r (Oy ws (fS ws ins (fO (2*ws.length) l l.length) F i) F[i]) (r.map r3).length).map D.int)):=n;rw[IV]at n;exact hB _ _ ⟨_,_,_,rfl,L,by rw[n,eS];rfl⟩
 ·rintro δ y ⟨k1,o8,o9,rfl,kM,v⟩;have v:y z=LZ (.lst ((fS ws ins (fO (2*ws.length) l l.length) F (F.map (Nf t b X Y)).length).map D.int)):=v;rw[IV]at v;refine⟨_,rfl,NA (k y z _ (fun a o h=>?_) fz v ⟨rs,F,R,by rw[N];exact pm,up,by rw[N,J]⟩)⟩;have h1:=m0 _ _ h;rw[kM a (nz h1)];exact c0 (i0 h1)
theorem kQ:Ml ["plot","spot"] ["plot","spot"] (av gw):=⋯
inductive Nl:Prop
 |mk (t b X Y:Int) (ws:rr) (m p q:Int) (_:r_=.tup (ws.map (Mq t b X Y))) (_:sj=Mf (MU t b X m p) (MU t b Y m q)) (_:N7 t b X Y) (_:ws.length<=40) (_:(∀w∈ws,Mn w)) (_:PF ws) (_:(∀k,k<ws.length->¬PJ (wn ws k) m p q)) (_:(0<m/\m<=4)) (_:(-m<=p/\p<=20*m)) (_:(-m<=q/\q<=20*m)) (_:∀M' L v,SD.Sub M M'->dW ws L->LS ws L m p q v->Q (ld v) M')
theorem mH(T:Tx K mg):Cal P w K mg base 10 "look_plainly" (NO Nl):=by refine bE (k:=9) T.k_ kQ fun f _ _ _ s H _ d=>⟨_,(au (aD (aq (jk T).m d (ae (dv 0) (ae (aq (jT T).m d (ae (dv 0) af)) (ae (dv 1) af)))))),fun _ _ M Q h=>?_⟩;obtain⟨t,b,X,Y,ws,m,p,q,rfl,rfl,S,e,a,hF,off,g,r,u,k⟩:=h;refine⟨_,rfl,_,rfl,t,b,X,Y,ws,rfl,S,e,a,hF,fun x z L j nz l c=>?_⟩;obtain⟨v,i⟩:=Gg a hF c g.1 () off;exact⟨_,rfl,t,b,X,Y,ws,z,L,m,p,q,v,rfl,rfl,rfl,l,c.len,S,e,a,hF,i,g,(),(),fun n o=>NA (k n L v (SD.Sub.trans j o) c i)⟩
theorem cW:Ml ["_law_scale_here","_law_told","_law_top","_law_bottom","_law_x","_law_y","_law_many"] ["_law_scale_here","_law_told"] (av mv):=⋯
inductive Oi:Prop
 |mk (t b x y p q m:Int) (_:r_=Qw t b x y) (_:sj=.tup [.int p,.int q,.int m]) (_:N7 t b x y) (_:(-(10^9)<=p/\p<=10^9)) (_:(-(10^9)<=q/\q<=10^9)) (_:(0<m/\m<=10^9)) (_:Q (Mf (MU t b x m p) (MU t b y m q)) M)
theorem sM(T:Tx K mg):Cal P w K mg base 2 "_law_real" (NO Oi):=by
 refine bE (k:=1) T.k' cW fun f _ _ _ s H _ g=>⟨_,(ak (bZ (dv 0) (bI rfl (aC (aB 2 cW.nd) (aC (aB 3 cW.nd) (aC (aB 4 cW.nd) (aC (aB 5 cW.nd) a9)))))) (ak (aA 6 cW.nd (ay (dv 1) aj)) (au (aD (aF (ae (aq (gV T).m g (ae (aw aJ (aw aH (ay (dv 1) aj) (dv 2)) (aw aH (dv 4) (dv 6))) (ae (aw aH (dv 3) (dv 6)) af))) (ae (aq (gV T).m g (ae (aw aJ (aw aH (ay (dv 1) aj) (dv 2)) (aw aH (dv 5) (dv 6))) (ae (aw aH (dv 3) (dv 6)) af))) af))))))),fun _ _ M Q h=>?_⟩;obtain⟨t,b,x,y,p,q,m,rfl,rfl,S,i,j,l,k⟩:=h;have o:Bd 100 t:=by have:=S.t0;have:=S.t1;show t.natAbs<2^100;omega
 have a:Bd 64 m:=by show m.natAbs<2^64;omega
 have e:∀{z:Int},(-(10^9)<=z/\z<=10^9)->Bd 64 z:=fun{z} h=>by show z.natAbs<2^64;omega
 have r:Bd 100 b:=by have:=S.b0;have:=S.b1;show b.natAbs<2^100;omega
 have big:∀{z w:Int},(-(10^9)<=z/\z<=10^9)->(-(10^30)<=w/\w<=10^30)->Bd 8000 (z*t+w*m):=fun{z w} u v=>by
  have e1:Bd 200 (z*t):=((e u).mul o).mono ⋯
  have e2:Bd 200 (w*m):=(Bd.mul (m:=100) (n:=64) (by show w.natAbs<2^100;omega) a).mono ⋯
  exact(e1.add e2).mono ⋯
 have c:b*m≠0:=by have:=Jl S.b0 l.1;omega
 have d:Bd 8000 (b*m):=(r.mul a).mono ⋯;refine⟨_,rfl,_,rfl,rfl,_,_,rfl,_,_,rfl,_,_,rfl,_,_,rfl,rfl,?_⟩;refine⟨_,rfl,_,rfl,?_⟩;refine⟨_,rfl,_,rfl,_,rfl,aQ (e i),_,rfl,_,rfl,dh a,_,rfl,_,rfl,dh a,p*t+x*m,b*m,rfl,rfl,c,big i ⟨S.x0,S.x1⟩,d,?_⟩;refine⟨_,rfl,_,rfl,_,rfl,aQ (e j),_,rfl,_,rfl,dh a,_,rfl,_,rfl,dh a,q*t+y*m,b*m,rfl,rfl,c,big j ⟨S.y0,S.y1⟩,d,Mo rfl,?_⟩;exact NA k
theorem bL:Ml ["_law_shuts","_law_ring","_law_spot_here","_law_many","_law_face","_law_one","_law_other","_law_low_here","_law_high"] ["_law_shuts","_law_ring","_law_spot_here"] (av jx):=⋯
inductive OJ:Prop
 |mk (l p:n7) (ws:rr) (r:pq) (m x y:Int) (_:r_=.ref l) (_:sj=.ref p) (_:sk=.tup [.int x,.int y]) (_:M l=LZ (.lst ((ws.map (Mw m)).map uw))) (_:M p=LZ (.lst (r.map r3))) (_:(∀g∈r,g<2*ws.length)) (_:ws.length<=40) (_:r.length<=80) (_:(∀w∈ws,Mn w)) (_:(0<m/\m<=4)) (_:∀M',SD.Sub M M'->Q (.bl (decide (OC ws m x y r%2=1))) M')
theorem pP(T:Tx K mg):Cal P w K mg base 2 "_law_inside" (Q9 OJ):=by
 refine iC (k:=1) T.lg bL fun f _ _ _ s H _ i=>⟨_,(ak (aA 3 bL.nd aj) (ak (bV Jc rfl (aR (dv 1)) (aB 4 bL.nd) (ak (bZ (aq (d8 T).m i (ae (dv 0) (ae (dv 4) af))) (bI rfl (aC (aB 5 bL.nd) (aC (aB 6 bL.nd) a9)))) (au (bo (aL (fI i.units) (b6 (fW i.units) (ay (dv 5) aj) (ay (dv 2) aj)) (b6 (fW i.units) (ay (dv 6) aj) (ay (dv 2) aj))) (ak (bZ (ay (bw (ae (aF (ae (dv 5) (ae (dv 6) af))) (ae (aF (ae (dv 6) (ae (dv 5) af))) af))) (cH lP rfl T.mx mM (ae (b6 (fW i.units) (ay (dv 5) aj) (ay (dv 6) aj)) af))) (bI rfl (aC (aB 7 bL.nd) (aC (aB 8 bL.nd) a9)))) (au (aA 3 bL.nd (aw aJ (dv 3) (cH lP rfl T.mx mM (ae (b6 (fW i.units) (aq (du T).m i (ae (dv 7) (ae (dv 8) (ae (dv 2) af)))) aj) af)))))) aO)))) (au (aD (b6 (cu i.units) (aw fu (dv 3) aj) aj))))),fun _ _ _ M Q h=>?_⟩;obtain⟨l,p,ws,r,m,x,y,rfl,rfl,rfl,hl,S,i,hn,a0,hU,U,k⟩:=h;refine⟨_,rfl,_,S,fun j δ v=>SD.Sub M v/\R8 fun(G I J L N:ry)=>δ=[r4 l,r4 p,LZ (.tup [.int x,.int y]),r8 (OC ws m x y (r.take j)),G,I,J,L,N],⟨.refl,_,_,_,_,_,rfl⟩,fun j δ v _ z=>z.1 _ _ S,?_,?_⟩
 ·rintro j d δ v hj hd ⟨B,G,I,J,L,N,rfl⟩;have hd:(r.map r3)[j]?=LZ d:=hd;rw[IX]at hd;cases F:r[j]? with
  |none=>rw[F]at hd;cases hd
  |some g=>
   rw[F]at hd
   cases hd
   have V:=i g (IW F)
   have O:=GL (m:=m) V
   have W:=D7 (aK hU (():g/2<ws.length)) U
   have t:W8 (fw (ws.map (Mw m)) g):=by
    rcases O with e|e<;>rw[e]
    ·exact W
    ·exact⟨W.2.2.1,W.2.2.2,W.1,W.2.1⟩
   clear W
   have ct:OC ws m x y (r.take (j+1))=OC ws m x y (r.take j)+Nr (wn ws (g/2)) m x y:=by unfold OC;rw[Kj,F,Jg,List.sum_append];simp
   refine⟨_,rfl,_,rfl,l,ws.map (Mw m),g,rfl,rfl,B _ _ hl,(by rw[IV];exact V),(by rw[IV];omega),?_⟩
   have R:=sD ws m x y (r.take j)
   rw[ct]
   generalize fw (ws.map (Mw m)) g=W at O t ⊢
   obtain⟨a,b,c,d⟩:=W
   obtain⟨X,Y⟩:=Bj (p:=x) (q:=y) U.1 O
   generalize Nr (wn ws (g/2)) m x y=n at X Y ⊢
   generalize OC ws m x y (r.take j)=cj at R ⊢
   refine⟨_,rfl,rfl,_,_,rfl,_,_,rfl,rfl,?_⟩
   refine⟨_,rfl,_,rfl,_,rfl,_,rfl,trivial,_,rfl,_,rfl,_,rfl,_,rfl,trivial,_,rfl,?_⟩
   refine bP (fun h=>?_) (fun h=>?_)
   ·have h:decide (y<b)≠decide (y<d):=‹h›
    obtain⟨f3,f4⟩:=Y h;have u:∀{z:Int},(0<=z/\z<=80)->Bd 10 z:=fun{z} h=>by show z.natAbs<2^10;omega
    refine⟨_,rfl,_,rfl,Mo rfl,_,rfl,_,rfl,Mo rfl,Mo rfl,fun z hz=>?_⟩;have C:=SD.Sub.trans B (.new (o:=.lst [.tup [.tup [.int a,.int b],.tup [.int c,.int d]],.tup [.tup [.int c,.int d],.tup [.int a,.int b]]]) hz .refl);refine⟨_,rfl,_,rfl,_,rfl,_,rfl,trivial,?_⟩;by_cases g:d<b
    ·rw[f3 g,uT];refine⟨_,.tup [.tup [.int c,.int d],.tup [.int a,.int b]],ag,(by rw[ME (show decide (d<b)=MB from MG g)];rfl),?_⟩;refine⟨_,rfl,rfl,_,_,rfl,_,_,rfl,rfl,?_⟩;refine⟨_,rfl,_,rfl,_,rfl,_,rfl,c,d,a,b,x,y,rfl,rfl,rfl,u t.2.2.1,u t.2.2.2,u t.1,u t.2.1,trivial,?_⟩;exact⟨C,_,_,_,_,_,rfl⟩
    ·rw[f4 g,uT];refine⟨_,.tup [.tup [.int a,.int b],.tup [.int c,.int d]],ag,(by rw[MD (show ¬decide (d<b)=MB from fun z=>g (MI z))];rfl),?_⟩;refine⟨_,rfl,rfl,_,_,rfl,_,_,rfl,rfl,?_⟩;refine⟨_,rfl,_,rfl,_,rfl,_,rfl,a,b,c,d,x,y,rfl,rfl,rfl,u t.1,u t.2.1,u t.2.2.1,u t.2.2.2,trivial,?_⟩;exact⟨C,_,_,_,_,_,rfl⟩
   ·have h:decide (y<b)=decide (y<d):=‹h›
    have n0:=X h;subst n0;rw[Int.add_zero];exact⟨B,_,_,_,_,_,rfl⟩
 ·rintro δ v ⟨B,G,I,J,L,N,rfl⟩;have e:OC ws m x y (r.take (r.map r3).length)=OC ws m x y r:=by rw[IV,List.take_length]
  have R:=sD ws m x y r;have Z:=k v B;dsimp only;rw[e];generalize OC ws m x y r=n at R Z;refine⟨_,rfl,(by show(2:Int)≠0;decide),NA ?_⟩;rw[KO _ ⋯];exact Z
theorem df:Ml ["_law_shuts","_law_outers","_law_spot_here","_law_areas","_law_land","_law_ring"] ["_law_shuts","_law_outers","_law_spot_here"] (av iB):=⋯
inductive Nx:Prop
 |mk (l lo:n7) (ws:rr) (ps:rb) (outs:pe) (m x y a:Int) (_:r_=.ref l) (_:sj=.ref lo) (_:sk=.tup [.int x,.int y]) (_:M l=LZ (.lst ((ws.map (Mw m)).map uw))) (_:M lo=LZ (.lst (ps.map D.ref))) (_:RL M ps outs) (_:(∀S∈outs,(∀g∈S,g<2*ws.length)/\S.length<=80)) (_:ws.length<=40) (_:outs.length<=80) (_:(∀w∈ws,Mn w)) (_:(0<m/\m<=4)) (_:YK ws outs m x y a) (_:∀M',SD.Sub M M'->Q (.int a) M')
theorem nk(T:Tx K mg):Cal P w K mg base 3 "_law_land_at" (Q9 Nx):=by
 refine iC (k:=2) T.lk df fun f _ _ _ s H _ B=>⟨_,(ak (aA 3 df.nd (bw (ae (aF (ae (aw iJ aj aj) (ae aj af))) af))) (ak (bV Jc rfl (A0 rfl T.mu (ae (dv 1) af)) (bI rfl (aC (aB 4 df.nd) (aC (aB 5 df.nd) a9))) (au (bo (de (aq (pP T).m B (ae (dv 0) (ae (dv 5) (ae (dv 2) af))))) (au (cw (bz (dv 3) (ae (aF (ae (aq (kD T).m B (ae (dv 0) (ae (dv 5) af))) (ae (aw aJ (dv 4) aj) af))) af)))) aO))) (au (aD (ay (aP (lF rfl B.units) rfl T.mT pC (ae (dv 3) af)) aj))))),fun _ _ _ M Q h=>?_⟩;obtain⟨l,N,ws,ps,c,m,x,y,a,rfl,rfl,rfl,O,C,R,Z,U,a0,F,G,hL,k⟩:=h;have pl:=R.len;refine⟨⟨⋯,⋯,⋯⟩,Mo rfl,Mo rfl,fun z V=>?_⟩;have nz:∀a o,M a=LZ o->a≠z:=fun a o h=>ax h V;refine⟨_,rfl,N,ps.map D.ref,rfl,(by rw[ao (nz _ _ C)];exact C),fun j δ n=>R9 fun(I J:ry)=>δ=[r4 l,r4 N,LZ (.tup [.int x,.int y]),r4 z,I,J]/\SD.Sub M n/\n z=LZ (.lst ((Qr ws c m x y j).map Ro)),⟨_,_,rfl,.new V .refl,ag⟩,fun j δ n _ q=>by obtain⟨_,_,_,q,_⟩:=q;exact q _ _ C,?_,?_⟩
 ·rintro j d δ n t hd ⟨I,J,rfl,p,g⟩;have t:j<ps.length:=by have:j<(ps.map D.ref).length:=t;rw[IV]at this;exact this
  have hd:((ps.map D.ref)[j]?).map (fun d=>D.tup [.int (j:Int),d])=LZ d:=hd;obtain⟨S,W,X⟩:=R.get t;rw[IX,IT t]at hd;cases hd;obtain⟨lt,Y⟩:=Z S (IW W);have u:RY ws c m x y j=if OC ws m x y S%2=1 then LZ (m*m*(S.map (NL ws)).sum,((j:Nat):Int)+1)else MA:=by unfold RY;rw[W];rfl
  have nx:Qr ws c m x y (j+1)=Qr ws c m x y j++(RY ws c m x y j).toList:=by
   unfold Qr;rw[Kw,List.filterMap_append,List.cons_append]
   congr 2
  refine⟨_,rfl,rfl,_,_,rfl,_,_,rfl,rfl,?_⟩;refine⟨_,rfl,_,rfl,_,rfl,l,ps[j],ws,S,m,x,y,rfl,rfl,rfl,p _ _ O,p _ _ X,lt,U,Y,F,G,fun M2 r=>⟨_,rfl,?_⟩⟩;have v:=SD.Sub.trans p r;have i:=r _ _ g;refine bP (fun h=>?_) (fun h=>?_)
  ·rw[ME (MI h)]at u;have al:=AR ws c m x y j;refine⟨_,rfl,z,_,rfl,i,_,rfl,_,rfl,l,ps[j],ws.map (Mw m),S,rfl,rfl,v _ _ O,v _ _ X,(by rw[IV];exact lt),(by rw[IV];exact U),Y,(fun w hw=>?_),_,rfl,Mo rfl,_,_,rfl,i,by have:1000<=J7:=Mo rfl;rw[IV];omega,?_⟩
   ·obtain⟨w',L,rfl⟩:=JC.mp hw;exact D7 (F w' L) G
   ·refine⟨_,_,rfl,fun a o h=>?_,?_⟩
    ·rw[ao (nz a o h)];exact v a o h
    ·rw[ag,nx,u,B6 lt,Jg];rfl
  ·have h:¬OC ws m x y S%2=1:=fun y=>h (MG y);rw[MD h]at u;refine⟨_,_,rfl,v,?_⟩;rw[nx,u,Option.toList_none,JX];exact i
 ·rintro δ n ⟨I,J,rfl,p,g⟩;have e:(ps.map D.ref).length=c.length:=by rw[IV,pl]
  dsimp only at g;rw[e]at g;refine⟨_,rfl,_,g,(by unfold Qr;exact List.cons_ne_nil _ _),fun b hb mn=>?_⟩;have eb:=Bl F G hL hb mn;refine⟨_,rfl,NA ?_⟩;rw[eb];exact k n p
theorem cT:Ml ["_law_script","_law_k","_law_row","_law_scale_here","_law_shuts","_law_size","_law_plot","_law_outers","_law_turn_here","_law_told","_law_great","_law_found"] ["_law_script"] (av Cq):=⋯
inductive Qj(x:D)(M:MH)(Q:DK):Prop
 |mk (ns:_) (hh0:x=.rol (Kt D.int ns)) (hh1:ns.length<=63) (hh2:∀M',Q (.bl MB) M'):Qj x M Q
def j3:PD:=fun a M Q=>match a with
 |[x]=>Qj x M Q
 |_=>False
theorem D4:∀a M Q,j3 a M Q->a.length=1:=fun a M Q h=>by
 unfold j3 at h;split at h
 ·rfl
 ·exact h.elim
theorem Hr{P:Jk}{w:JJ}{K:I0}{mg:pd}{fa:n7}(T:Tx K mg)(i1:mg "law"=LZ (.ref fa)):∃fd,(∀(s:IS) (u:IQ),BindsTo s fd ⟨[u],[]⟩ [("_law_script",u)])/\∀base:oa,N9 P w K mg base Ow 11 fa fd ["_law_script"] (iO K j3):=by
 refine IJ (k:=10) (N:=["_law_script","_law_k","_law_row","_law_scale_here","_law_shuts","_law_size","_law_plot","_law_outers","_law_turn_here","_law_told","_law_great","_law_found"]) T.lx i1 cT (fun _ _ _ _ _ _ us hl=>by obtain⟨_,rfl⟩:=SD.AA hl;rfl) D4 fun base f cdv A outer s H E y=>⟨_,(ak (dg Jc rfl rfl T.m_ (ae (aP (pA rfl y.units) rfl T.mS ua (ae aj (ae (aP (lF rfl y.units) rfl T.mT pC (ae aj (ae (aP dN rfl T.mA dJ (ae (dv 0) af)) af))) af))) af) (aB 1 cT.nd) (ak (aA 2 cT.nd (bw (ae (aq (m7 T).m y (ae (dv 0) (ae (dv 1) af))) (ae aj af)))) (ak (aA 3 cT.nd (aq (q0 T).m y (ae (dv 2) af))) (ak (aA 4 cT.nd (aq (jS T).m y (ae (dv 2) (ae aj (ae aj af))))) (ak (aA 5 cT.nd aj) (ak (bo (aL (cu y.units) (aq (aE T).m y (ae (dv 2) (ae aj af))) aj) (ak (aA 4 cT.nd (aq (wm T).m y (ae (dv 2) af))) (au (aA 5 cT.nd aj))) aO) (ak (bo (aL (cu y.units) (aq (aE T).m y (ae (dv 2) (ae aj af))) aj) (au (aA 4 cT.nd (aq (m8 T).m y (ae (dv 2) af)))) aO) (ak (aA 6 cT.nd (aq (tD T).m y (ae (dv 3) (ae (dv 4) af)))) (ak (dE 7 cT.nd (Mm.of (xs:=["_law_ring"]) (js:=[4]) rfl) rfl (aR (aq (qV T).m y (ae (dv 4) af))) (fun _ _ _ _=>(kW (aL (fW y.units) (aq (kD T).m y (ae (dv 1) (ae (dv 0) af))) aj))) (fun _ _ _ _=>(dv 0))) (au (dg Jc rfl rfl T.m_ (ae aj af) (aB 8 cT.nd) (ak (aA 9 cT.nd (aq (oZ T).m y (ae (dv 2) (ae (dv 4) (ae (dv 5) af))))) (ak (aA 10 cT.nd (aq (xA T).m y (ae (dv 4) (ae (ay (dv 9) aj) af)))) (au (bo (aL (cu y.units) (gO (Mm.of (xs:=["_law_shut"]) (js:=[9]) rfl) rfl (aR (dv 10)) (fun _ _ _ _=>(kW (de (aq (qM T).m y (ae (dv 0) (ae (jA (dv 1) ly (jb aj)) af)))))) (fun _ _ _ _=>(dv 0))) (bw af)) (ak (aA 11 cT.nd (aq (mH T).m y (ae (dv 6) (ae (aq (sM T).m y (ae (dv 3) (ae (dv 9) af))) af)))) (au (bo (ny (yh (aL (fI y.units) (dv 11) (aF (ae t9 (ae (aq (nk T).m y (ae (dv 10) (ae (dv 7) (ae (jA (dv 9) ly (jb aj)) af)))) af)))) (tF (de (aP wz rfl T.mz nt (ae (ay (dv 11) aj) (ae (Gm rfl T.l_ BQ) af))))))) (au (aD my)) aO))) aO))))))))))))))) (au (aD my))),fun ds M Q h=>?r⟩
 case r=>
  unfold j3 at h
  split at h
  case h_2=>exact h.elim
  obtain⟨ns,rfl,hl,k⟩:=h
  refine⟨_,rfl,(max 1 (min 3 (((Kt D.int ns).length:Nat):Int))).toNat,?_,(),fun i δ M=>∃T:rv,δ=LZ (.rol (Kt D.int ns))::T/\T.length=11,⟨_,rfl,rfl⟩,?_,fun _ _ _=>NA (k _)⟩
  ·rw[Int.toNat_of_nonneg ()]
  rintro i δ M hi ⟨T,rfl,hT⟩
  refine Qc hT fun o1 T hT=>?_
  refine Qc hT fun o2 T hT=>?_
  refine Iq hT fun o3 o4 o5 o6 o7 o8 o9 C F=>?_
  (try dsimp only[SD.aT])
  refine RE fun B hB=>?_
  refine⟨_,rfl,_,rfl,ns,i,rfl,rfl,(),fun z=>⟨Mo rfl,fun n t1=>?_⟩⟩
  refine⟨_,rfl,n,z,0,rfl,ag,⋯,⋯,fun x1 c1 t b sx sy S h1 h2=>?_⟩
  refine⟨_,rfl,n,x1,c1,10,rfl,rfl,⋯,rfl,ag,h1,(),fun M2 x2 c2 l0 j1 Z v0 w0 g0 g1 g2 g3 g4=>?_⟩
  (try dsimp only[SD.aT])
  refine bU (fun δ I=>δ=[LZ (.rol (Kt D.int ns)),r8 i,r4 n,LZ (Qw t b sx sy),r4 l0,r8 5,o6,o7,o8,o9,C,F]/\I=M2) ?_ (fun hu=>hu _ _ ⟨rfl,rfl⟩)
  rintro δ u1 ⟨rfl,rfl⟩
  refine bU (fun δ I=>R8 fun(l:n7) (ws:rr) (x' c' z:Int)=>Ql (δ=[LZ (.rol (Kt D.int ns)),r8 i,r4 n,LZ (Qw t b sx sy),r4 l,r8 z,o6,o7,o8,o9,C,F]) (0<=z/\z<=14) (I n=LZ (.lst [.int x',.int c'])) (I l=LZ (.lst (ws.map uw))) (n≠l) (0<=c') (c'<=400) (ws.length<=40) (∀w∈ws,Mn w) (PF ws)) ?_ (fun hu=>?_)
  rotate_left
  ·refine⟨_,rfl,n,3,x2,c2,rfl,rfl,v0,g0,(),⋯,bA ⋯,fun x3 v3 v1 y1=>⟨_,rfl,?_⟩⟩;refine bP (fun _=>?_) (fun _=>?_)
   ·exact⟨_,rfl,n,x3,c2+1,rfl,ag,(),(),fun M4 x4 c4 l ws J a0 R k1 z1 q1 q2 q3=>hu _ _ ⟨l,ws,x4,c4,14,rfl,⋯,a0,R,J,k1,(),(),q2,q3⟩⟩
   ·exact hu _ _ ⟨l0,j1,x3,c2+1,5,rfl,⋯,ag,(by rw[ao Z.symm];exact w0),Z,(),(),(),g3,g4⟩
  clear v0 w0 g0 g1 g2 g3 g4 Z
  rintro δ M3 ⟨l,ws,x3,c3,zs,rfl,b0,V,O,J,f0,x0,lw,X,hF⟩
  refine bU (fun δ I=>R8 fun(l:n7) (ws:rr) (x' c' z:Int)=>Ql (δ=[LZ (.rol (Kt D.int ns)),r8 i,r4 n,LZ (Qw t b sx sy),r4 l,r8 z,o6,o7,o8,o9,C,F]) (0<=z/\z<=14) (I n=LZ (.lst [.int x',.int c'])) (I l=LZ (.lst (ws.map uw))) (n≠l) (0<=c') (c'<=450) (ws.length<=40) (∀w∈ws,Mn w) (PF ws)) ?_ (fun hu=>?_)
  rotate_left
  ·refine⟨_,rfl,n,10,x3,c3,rfl,rfl,V,f0,(),⋯,bA ⋯,fun x4 v4 a2 b2=>⟨_,rfl,?_⟩⟩;refine bP (fun _=>?_) (fun _=>?_)
   ·exact⟨_,rfl,n,x4,c3+1,rfl,ag,(),(),fun M5 x5 c5 l' m1 y0 h0 c0 n0 n1 q1 q2 q3=>hu _ _ ⟨l',m1,x5,c5,zs,rfl,b0,h0,c0,y0,n0,(),q3,q2,q1⟩⟩
   ·exact hu _ _ ⟨l,ws,x4,c3+1,zs,rfl,b0,ag,(by rw[ao J.symm];exact O),J,(),(),lw,X,hF⟩
  clear V O f0 x0 lw X hF J b0
  clear x3 c3 zs ws l
  rintro δ M3 ⟨l,ws,x3,c3,zs,rfl,b0,V,O,J,f0,x0,lw,X,hF⟩
  have hW:∀w∈ws,YW (10^6) w:=fun w hw=>by
   have h:=X w hw
   have U:∀z:Int,(0<=z/\z<=20)->(-(10^6)<=z/\z<=10^6):=fun z h=>()
   exact⟨U _ h.a,U _ h.b,U _ h.c,U _ h.d⟩
  have h8:∀w∈ws,W8 w:=fun w hw=>by
   have h:=X w hw
   have U:∀z:Int,(0<=z/\z<=20)->(0<=z/\z<=80):=fun z h=>()
   exact⟨U _ h.a,U _ h.b,U _ h.c,U _ h.d⟩
  refine⟨_,rfl,_,rfl,t,b,sx,sy,l,ws,rfl,rfl,O,S,(),hW,?_⟩
  refine⟨_,rfl,l,ws,rfl,O,lw,X,hF,fun M4 lr ps Y o0 i0 G RR fr=>?_⟩
  have R:=o0 _ _ O
  have a0:=o0 _ _ V
  have d0:=jc X hF (IY _) G
  have pl:=RR.len
  have rl:=kY G
  have fr:∀p∈ps,p≠n:=fun p hp z=>by have h:=fr p hp;rw[z,V]at h;cases h
  clear o0 V O hW
  refine⟨_,i0,lq (fun j=>if aI ws ((Y[j]?).getD [])=MB then LZ (D.ref ((ps[j]?).getD 0))else MA) (by show(ps.map D.ref).length<=1000000;rw[IV];omega) (fun p ys hp=>by show(az _ p _) lr=_;rw[ao (ax i0 hp)];exact i0) ?_ (fun lo k0=>?_)⟩
  ·intro j d M6 hj hd sb;have hd:(ps.map D.ref)[j]?=LZ d:=hd;have hj:j<ps.length:=by have:j<(ps.map D.ref).length:=hj;rw[IV]at this;exact this
   obtain⟨r,er,mr⟩:=RR.get hj;rw[IX,IT hj]at hd;cases hd;have A:=d0 r (IW er);refine⟨_,rfl,fun K hK=>?_,fun v hv K hK=>?_⟩
   ·refine⟨_,rfl,_,rfl,l,ps[j],ws,r,rfl,rfl,sb _ _ R,sb _ _ mr,A.lt,lw,by have:=A.len;omega,h8,trivial,_,rfl,?_⟩;have e:(if aI ws ((Y[j]?).getD [])=MB then LZ (D.ref ((ps[j]?).getD 0))else MA).isSome=aI ws r:=by rw[er];show(if aI ws r=MB then _ else MA:ry).isSome=_;cases aI ws r<;>rfl
    rw[e]at hK;exact hK
   ·rw[er,IT hj]at hv;dsimp only[Option.getD]at hv;split at hv
    ·cases hv;exact⟨_,rfl,hK _ .refl⟩
    ·cases hv
  obtain⟨qs,eq,RQ,sub⟩:=vA (aI ws) RR ps.length (IY _)
  rw[show Y.take ps.length=Y by rw[pl,List.take_length]]at RQ
  have e9:(J8 (ps.map D.ref).length).filterMap (fun j=>if aI ws ((Y[j]?).getD [])=MB then LZ (D.ref ((ps[j]?).getD 0))else MA)=qs.map D.ref:=by rw[IV];exact eq
  dsimp only
  rw[e9]
  clear e9 eq
  have hO:∀S∈Y.filter (aI ws),(∀g∈S,g<2*ws.length)/\S.length<=80:=fun S hS=>by
   have A:=d0 S (Jb.mp hS).1
   exact⟨A.lt,by have:=A.len;omega⟩
  have lO:(Y.filter (aI ws)).length<=80:=by have:=List.length_filter_le (aI ws) Y;omega
  have fq:∀q∈qs,q≠n:=fun q hq=>fr q (sub q hq)
  have z0:n≠lo:=ax a0 k0
  have RQ:RL (az M4 lo (.lst (qs.map D.ref))) qs (Y.filter (aI ws)):=RQ.mono fun p _ o h=>by rw[ao (ax h k0)];exact h
  refine⟨5,rfl,⋯,fun j δ I=>WO fun(x c:Int) (o8 o9 C F:ry)=>Rk (δ=[LZ (.rol (Kt D.int ns)),r8 i,r4 n,LZ (Qw t b sx sy),r4 l,r8 zs,LZ (.tup (ws.map (Mq t b sx sy))),r4 lo,o8,o9,C,F]) (I n=LZ (.lst [.int x,.int c])) (0<=c) (c<=450+6*(j:Int)) (I l=LZ (.lst (ws.map uw))) (I lo=LZ (.lst (qs.map D.ref))) (RL I qs (Y.filter (aI ws))),⟨x3,c3,_,_,_,_,rfl,(by rw[ao z0];exact a0),f0,(),(by rw[ao (ax R k0)];exact R),ag,RQ⟩,?_,fun δ I q=>by obtain⟨_,_,_,_,_,_,rfl,_⟩:=q;exact hB _ _ ⟨_,rfl,rfl⟩⟩
  clear RQ RR i0 a0 R k0 fr sub
  rintro j δ M5 hj ⟨x5,c5,o8,o9,C,F,rfl,h0,n0,n1,c0,a1,R5⟩
  (try dsimp only[SD.aT])
  refine RE fun B hB=>?_
  refine⟨_,rfl,_,rfl,_,rfl,n,l,x5,c5,zs,ws,rfl,rfl,rfl,b0,J,h0,n0,(),c0,X,lw,fun x6 c6 p q m p1 d2 bp bq bm=>?_⟩
  have b1:(az M5 n (.lst [.int x6,.int c6])) n=LZ (.lst [.int x6,.int c6]):=ag
  have r0:(az M5 n (.lst [.int x6,.int c6])) l=LZ (.lst (ws.map uw)):=by rw[ao J.symm];exact c0
  have s0:(az M5 n (.lst [.int x6,.int c6])) lo=LZ (.lst (qs.map D.ref)):=by rw[ao z0.symm];exact a1
  have R6:RL (az M5 n (.lst [.int x6,.int c6])) qs (Y.filter (aI ws)):=R5.mono fun p hp o h=>by rw[ao (fq p hp)];exact h
  clear R5 a1 c0 h0
  generalize az M5 n (.lst [.int x6,.int c6])=M6 at b1 r0 s0 R6 ⊢
  refine⟨_,rfl,_,rfl,_,rfl,m,l,ws,rfl,rfl,r0,(by show m.natAbs<2^64;omega),(),fun g hg=>?_⟩
  rw[show(ws.map fun w=>uw (Mw m w))=(ws.map (Mw m)).map uw by rw[L7];rfl]
  have lv:(ws.map (Mw m)).length=ws.length:=IV ..
  have d1:=SD.Sub.new (o:=.lst ((ws.map (Mw m)).map uw)) hg .refl
  have e0:(az M6 g (.lst ((ws.map (Mw m)).map uw))) g=LZ (.lst ((ws.map (Mw m)).map uw)):=ag
  generalize az M6 g (.lst ((ws.map (Mw m)).map uw))=M7 at d1 e0 ⊢
  have nx:∀I,SD.Sub M6 I->∀(o8 o9 C F:ry),B.nx [LZ (.rol (Kt D.int ns)),r8 i,r4 n,LZ (Qw t b sx sy),r4 l,r8 zs,LZ (.tup (ws.map (Mq t b sx sy))),r4 lo,o8,o9,C,F] I:=fun I s' o8 o9 C F=>hB _ _ ⟨x6,c6,_,_,_,_,rfl,s' _ _ b1,p1,(),s' _ _ r0,s' _ _ s0,R6.mono fun p _ o h=>s' _ _ h⟩
  have e7:((ws.map (Mw m)).map uw).length=ws.length:=by rw[IV,lv]
  refine⟨_,rfl,_,e0,lq (fun a=>if Qp (Mw m (wn ws a)) p q=MB then LZ (uw (Mw m (wn ws a)))else MA) (by show((ws.map (Mw m)).map uw).length<=1000000;omega) (fun p ys hp=>by show(az _ p _) g=_;rw[ao (ax e0 hp)];exact e0) ?_ (fun lb r1=>?_)⟩
  ·intro a d M8 ha hd sb;have hd:((ws.map (Mw m)).map uw)[a]?=LZ d:=hd;have ha:a<ws.length:=by have:a<((ws.map (Mw m)).map uw).length:=ha;omega
   obtain⟨w1,_,w3⟩:=aX (ws:=ws) (k:=(a:Int)) () ();have s1:ws[a]?=LZ (wn ws a):=by rw[K7]at w1;exact w1
   rw[IX,IX,s1]at hd;cases hd;have W:=D7 (X _ w3) bm;refine⟨_,rfl,fun K hK=>?_,fun v hv K hK=>?_⟩
   ·refine⟨_,rfl,_,rfl,_,rfl,⟨GK,?_⟩⟩;refine⟨Mw m (wn ws a),p,q,rfl,rfl,W,(),(),_,rfl,?_⟩;show K (Qp (Mw m (wn ws a)) p q) M8;cases z:Qp (Mw m (wn ws a)) p q<;>rw[z]at hK<;>exact hK
   ·split at hv
    ·cases hv;exact⟨_,rfl,hK _ .refl⟩
    ·cases hv
  dsimp only
  rw[e7,wq]
  have e1:=AY (ws:=ws) X (m:=m) (p:=p) (q:=q)
  generalize ((J8 ws.length).filter fun j=>Qp (Mw m (wn ws j)) p q).map (fun j=>Mw m (wn ws j))=vs at e1 ⊢
  refine⟨Mo rfl,fun e he=>⟨_,_,.lst (by rw[ao (ax ag he)];exact ag) (oX vs),.lst ag .nil,kf vs,rfl,_,rfl,?_⟩⟩
  rw[iS]
  have t0:SD.Sub M7 (az (az M7 lb (.lst (vs.map uw))) e (.lst [])):=.new he (.new r1 .refl)
  generalize az (az M7 lb (.lst (vs.map uw))) e (.lst [])=M9 at t0 ⊢
  have s9:=SD.Sub.trans d1 t0
  refine bP (fun h=>?_) (fun h=>nx _ s9 _ _ _ _)
  have off:=e1 h
  refine⟨_,rfl,_,rfl,_,rfl,t,b,sx,sy,p,q,m,rfl,rfl,S,(),(),(),t,b,sx,sy,ws,m,p,q,rfl,rfl,S,lw,X,hF,off,bm,bp,bq,fun e2 L v m0 il hv=>?_⟩
  have u0:=SD.Sub.trans s9 m0
  have Ls:=Eh X hF il G bm.1 () hv (fun S hS=>by have:=(d0 S hS).len;omega)
  refine⟨_,rfl,_,rfl,_,rfl,_,rfl,_,rfl,GK,g,lo,ws,qs,Y.filter (aI ws),m,p,q,v,rfl,rfl,rfl,m0 _ _ (t0 _ _ e0),u0 _ _ s0,(R6.mono fun p _ o h=>u0 _ _ h),hO,lw,lO,X,bm,Ls,fun f2 f1=>⟨Mo rfl,?_⟩⟩
  exact Fn ⟨_,rfl,jf rfl ⟨_,rfl,_,rfl,"int",MC,rfl,rfl,_,rfl,jf rfl (nx _ (SD.Sub.trans u0 f1) _ _ _ _)⟩⟩
theorem CY(ns:pw)(M:MH)(h:ns.length<=63):j3 [.rol (ns.map D.int)] M (fun d _=>d=.bl MB):=⟨ns,rfl,h,fun _=>rfl⟩
noncomputable def kE(P:Jo)(n:String)(k:Nat)(v:IQ):K3:={ hash:=PyData.keyHash P (Kp n),key:=.str (Kp n) k,val:=v }
noncomputable def kF(i:Nat)(n m:String)(k c:Nat):Obj:={ cls:=.type "function",data:=.func { name:=Kp n,qualname:=Kp n,params:=cL (top i),body:=.stmts (br (top i)),scope:=av (top i),globals:=↑3,closure:=[],defaults:=.none,kwdefaults:=.none,pyModule:=.str (Kp m) k,code:=.ref c } }
noncomputable def ZT(P:Jo):List K3:=[kE P "__name__" ↑165 (.str "law_spotlook_k25_lands_looked_at" 570),kE P "__doc__" ↑166 (.none),kE P "__package__" ↑167 (.none),kE P "__loader__" ↑168 (.builtin "__main__.__loader__#opaque"),kE P "__spec__" ↑169 (.none),kE P "__annotations__" ↑170 (.ref ↑6),kE P "__builtins__" ↑171 (.ref ↑4),kE P "__file__" ↑173 (.str "/claim/cut.py" 172)]
noncomputable def ZS(P:Jo):List K3:=[kE P "__cached__" ↑174 (.none),kE P "SpotError" ↑206 (.ref ↑24),kE P "NoFraction" ↑222 (.ref ↑37),kE P "greatest_divisor" ↑232 (.ref ↑46),kE P "fraction" ↑241 (.ref ↑53),kE P "is_less" ↑249 (.ref ↑60),kE P "common_bottom" ↑258 (.ref ↑67),kE P "top_over" ↑266 (.ref ↑74)]
noncomputable def ZR(P:Jo):List K3:=[kE P "is_ahead" ↑276 (.ref ↑81),kE P "later_of" ↑284 (.ref ↑88),kE P "earlier_of" ↑292 (.ref ↑95),kE P "place_among" ↑303 (.ref ↑102),kE P "ahead_first" ↑312 (.ref ↑109),kE P "own_spot" ↑321 (.ref ↑116),kE P "own_wall" ↑328 (.ref ↑123),kE P "gap" ↑336 (.ref ↑130)]
noncomputable def ZQ(P:Jo):List K3:=[kE P "lean" ↑354 (.ref ↑137),kE P "side_of" ↑363 (.ref ↑144),kE P "lies_on" ↑373 (.ref ↑151),kE P "spans" ↑383 (.ref ↑158),kE P "is_above" ↑395 (.ref ↑165),kE P "upper_of" ↑404 (.ref ↑172),kE P "upper_below" ↑410 (.ref ↑177),kE P "face_ends" ↑422 (.ref ↑184)]
noncomputable def ZP(P:Jo):List K3:=[kE P "faces_by_start" ↑431 (.ref ↑191),kE P "is_met_sooner" ↑443 (.ref ↑198),kE P "face_behind" ↑457 (.ref ↑205),kE P "ring_from" ↑468 (.ref ↑212),kE P "rings_of" ↑481 (.ref ↑219),kE P "twice_area" ↑487 (.ref ↑224),kE P "outer_and_inner" ↑499 (.ref ↑231),kE P "first_corner" ↑509 (.ref ↑238)]
noncomputable def ZO(P:Jo):List K3:=[kE P "land_about" ↑519 (.ref ↑245),kE P "lands_of_faces" ↑525 (.ref ↑250),kE P "corners_of" ↑537 (.ref ↑257),kE P "wall_below" ↑548 (.ref ↑264),kE P "look_plainly" ↑556 (.ref ↑271),kE P "look_with_lands" ↑569 (.ref ↑278),kE P "_law_cell_at" ↑579 (.ref ↑285),kE P "_law_take" ↑589 (.ref ↑292)]
noncomputable def ZN(P:Jo):List K3:=[kE P "_law_low" ↑599 (.ref ↑299),kE P "_law_scale" ↑609 (.ref ↑306),kE P "_law_spot" ↑621 (.ref ↑313),kE P "_law_made" ↑627 (.ref ↑318),kE P "_law_turn" ↑639 (.ref ↑325),kE P "_law_on" ↑647 (.ref ↑332),kE P "_law_fair" ↑653 (.ref ↑337),kE P "_law_shuts_here" ↑659 (.ref ↑342)]
noncomputable def ZM(P:Jo):List K3:=[kE P "_law_ends" ↑667 (.ref ↑349),kE P "_law_sooner" ↑673 (.ref ↑354),kE P "_law_behind" ↑679 (.ref ↑359),kE P "_law_rings" ↑690 (.ref ↑366),kE P "_law_twice" ↑696 (.ref ↑371),kE P "_law_inside" ↑711 (.ref ↑378),kE P "_law_land_at" ↑723 (.ref ↑385),kE P "_law_box" ↑729 (.ref ↑390)]
noncomputable def ZL(P:Jo):List K3:=[kE P "_law_order" ↑739 (.ref ↑397),kE P "_law_set" ↑745 (.ref ↑402),kE P "_law_wanted" ↑760 (.ref ↑409),kE P "_law_real" ↑773 (.ref ↑416),kE P "_law_by" ↑779 (.ref ↑421),kE P "_law_squares" ↑791 (.ref ↑428),kE P "law" ↑797 (.ref ↑433)]
noncomputable def kG(P:Jo):Obj:={ cls:=.type "dict",data:=.dict (JZ (ZT P++(ZS P++(ZR P++(ZQ P++(ZP P++(ZO P++(ZN P++(ZM P++(ZL P)))))))))) 71 }
noncomputable def NI(n:String)(h:Nat)(i:Nat)(j:Nat)(k:Nat)(l:Nat)(m:Nat)(a:Nat)(b:Nat)(c:Nat)(d:Nat)(e:Nat)(f:Nat)(g:Nat):Obj:={ cls:=.type "code",data:=.fields #[.str (Kp n) h,.str (Kp n) i,.str "/claim/cut.py" j,.int (LQ k) 0,.int (LQ l) 0,.int 0 0,.int 0 0,.int 3 0,.ref m,.bool MB,.int 181 0,.ref a,.none,.ref b,.ref c,.ref d,.int (LQ e) 0,.int (LQ f) 0,.str "/claim/cut.py" g] }
noncomputable def kN(l:List Obj)(i:Nat):Obj:=l.getD i { cls:=.none,data:=.dict #[] }
noncomputable def N5(n q:Str)(a b c l k f r:Nat)(t:Bool)(s:Nat)(x y z:IQ)(d e:Nat):Obj:={ cls:=.type "code",data:=.fields #[.str n a,.str q b,.str "/claim/cut.py" c,.int l 0,.int k 0,.int 0 0,.int 0 0,.int f 0,.ref r,.bool t,.int 181 0,.ref s,.none,x,y,z,.int d 0,.int l 0,.str "/claim/cut.py" e] }
noncomputable def Y8(n:Str)(s g a i j:Nat):Obj:={ cls:=.type "type",data:=.cls { name:=n,bases:=[.ref 24],mro:=[.ref s,.ref 24,.type "ValueError",.type "Exception",.type "BaseException",.type "object"],ns:=g,qualname:=n,hasDict:=MB,slotNames:=[],subclasses:=[],abstract:=MC,collection:=MA,hasDel:=MC },slots:=#[LZ (.ref a),MA,LZ (.str n i),LZ (.str n j),LZ (.builtin "ValueError.__new__"),LZ (.bool MB)] }
noncomputable def ZY(n:Str)(s g a i j:Nat):Obj:={ cls:=.type "type",data:=.cls { name:=n,bases:=[.ref ↑24],mro:=[.ref s,.ref ↑24,.type "ValueError",.type "Exception",.type "BaseException",.type "object"],ns:=g,qualname:=n,hasDict:=MB,slotNames:=[],subclasses:=[],abstract:=MC,collection:=MA,hasDel:=MC },slots:=#[LZ (.ref a),MA,LZ (.str n i),LZ (.str n j),LZ (.builtin "ValueError.__new__"),LZ (.bool MB)] }
noncomputable def Nd:IQ:=.str "law_spotlook_k25_lands_looked_at" 570
noncomputable def Nk(i:Nat)(n:String)(c:Nat):Obj:=kF i n "law_spotlook_k25_lands_looked_at" ↑570 c
noncomputable def RU:List Obj:=[NI "greatest_divisor" ↑225 ↑226 ↑227 ↑7 ↑2 ↑40 ↑41 ↑42 ↑43 ↑44 ↑230 ↑7 ↑231,kF ↑4 "greatest_divisor" "spotlook.fractions" ↑223 ↑45,NI "fraction" ↑233 ↑234 ↑235 ↑11 ↑2 ↑47 ↑48 ↑49 ↑50 ↑51 ↑239 ↑11 ↑240,kF ↑5 "fraction" "spotlook.fractions" ↑223 ↑52,NI "is_less" ↑242 ↑243 ↑244 ↑18 ↑2 ↑54 ↑55 ↑56 ↑57 ↑58 ↑247 ↑18 ↑248,kF ↑6 "is_less" "spotlook.fractions" ↑223 ↑59,NI "common_bottom" ↑250 ↑251 ↑252 ↑20 ↑1 ↑61 ↑62 ↑63 ↑64 ↑65 ↑256 ↑20 ↑257,kF ↑7 "common_bottom" "spotlook.fractions" ↑223 ↑66]
noncomputable def RT:List Obj:=[NI "top_over" ↑259 ↑260 ↑261 ↑25 ↑2 ↑68 ↑69 ↑70 ↑71 ↑72 ↑264 ↑25 ↑265,kF ↑8 "top_over" "spotlook.fractions" ↑223 ↑73,NI "is_ahead" ↑269 ↑270 ↑271 ↑28 ↑2 ↑75 ↑76 ↑77 ↑78 ↑79 ↑274 ↑28 ↑275,kF ↑10 "is_ahead" "spotlook.spots" ↑267 ↑80,NI "later_of" ↑277 ↑278 ↑279 ↑32 ↑2 ↑82 ↑83 ↑84 ↑85 ↑86 ↑282 ↑32 ↑283,kF ↑11 "later_of" "spotlook.spots" ↑267 ↑87,NI "earlier_of" ↑285 ↑286 ↑287 ↑34 ↑2 ↑89 ↑90 ↑91 ↑92 ↑93 ↑290 ↑34 ↑291,kF ↑12 "earlier_of" "spotlook.spots" ↑267 ↑94]
noncomputable def RS:List Obj:=[NI "place_among" ↑293 ↑294 ↑295 ↑36 ↑2 ↑96 ↑97 ↑98 ↑99 ↑100 ↑301 ↑36 ↑302,kF ↑13 "place_among" "spotlook.spots" ↑267 ↑101,NI "ahead_first" ↑304 ↑305 ↑306 ↑45 ↑1 ↑103 ↑104 ↑105 ↑106 ↑107 ↑310 ↑45 ↑311,kF ↑14 "ahead_first" "spotlook.spots" ↑267 ↑108,NI "own_spot" ↑313 ↑314 ↑315 ↑50 ↑1 ↑110 ↑111 ↑112 ↑113 ↑114 ↑319 ↑50 ↑320,kF ↑15 "own_spot" "spotlook.spots" ↑267 ↑115,NI "own_wall" ↑322 ↑323 ↑324 ↑53 ↑1 ↑117 ↑118 ↑119 ↑120 ↑121 ↑326 ↑53 ↑327,kF ↑16 "own_wall" "spotlook.spots" ↑267 ↑122]
noncomputable def RP:List Obj:=[NI "gap" ↑329 ↑330 ↑331 ↑55 ↑2 ↑124 ↑125 ↑126 ↑127 ↑128 ↑334 ↑55 ↑335,kF ↑17 "gap" "spotlook.spots" ↑267 ↑129,NI "lean" ↑337 ↑338 ↑339 ↑57 ↑2 ↑131 ↑132 ↑133 ↑134 ↑135 ↑352 ↑57 ↑353,kF ↑18 "lean" "spotlook.spots" ↑267 ↑136,NI "side_of" ↑355 ↑356 ↑357 ↑63 ↑2 ↑138 ↑139 ↑140 ↑141 ↑142 ↑361 ↑63 ↑362,kF ↑19 "side_of" "spotlook.spots" ↑267 ↑143,NI "lies_on" ↑364 ↑365 ↑366 ↑70 ↑2 ↑145 ↑146 ↑147 ↑148 ↑149 ↑371 ↑70 ↑372,kF ↑20 "lies_on" "spotlook.spots" ↑267 ↑150]
noncomputable def RN:List Obj:=[NI "spans" ↑376 ↑377 ↑378 ↑74 ↑2 ↑152 ↑153 ↑154 ↑155 ↑156 ↑381 ↑74 ↑382,kF ↑22 "spans" "spotlook.above" ↑374 ↑157,NI "is_above" ↑384 ↑385 ↑386 ↑76 ↑2 ↑159 ↑160 ↑161 ↑162 ↑163 ↑393 ↑76 ↑394,kF ↑23 "is_above" "spotlook.above" ↑374 ↑164,NI "upper_of" ↑396 ↑397 ↑398 ↑84 ↑1 ↑166 ↑167 ↑168 ↑169 ↑170 ↑402 ↑84 ↑403,kF ↑24 "upper_of" "spotlook.above" ↑374 ↑171,(N5 "upper_below" "upper_below" 405 406 407 90 2 3 173 MB 174 .none .none (.ref 175) 408 409),kF ↑25 "upper_below" "spotlook.above" ↑374 ↑176]
noncomputable def RM:List Obj:=[NI "face_ends" ↑413 ↑414 ↑415 ↑94 ↑2 ↑178 ↑179 ↑180 ↑181 ↑182 ↑420 ↑94 ↑421,kF ↑27 "face_ends" "spotlook.rings" ↑411 ↑183,NI "faces_by_start" ↑423 ↑424 ↑425 ↑97 ↑1 ↑185 ↑186 ↑187 ↑188 ↑189 ↑429 ↑97 ↑430,kF ↑28 "faces_by_start" "spotlook.rings" ↑411 ↑190,NI "is_met_sooner" ↑432 ↑433 ↑434 ↑102 ↑4 ↑192 ↑193 ↑194 ↑195 ↑196 ↑441 ↑102 ↑442,kF ↑29 "is_met_sooner" "spotlook.rings" ↑411 ↑197,NI "face_behind" ↑444 ↑445 ↑446 ↑108 ↑3 ↑199 ↑200 ↑201 ↑202 ↑203 ↑455 ↑108 ↑456,kF ↑30 "face_behind" "spotlook.rings" ↑411 ↑204]
noncomputable def RK:List Obj:=[NI "ring_from" ↑458 ↑459 ↑460 ↑116 ↑3 ↑206 ↑207 ↑208 ↑209 ↑210 ↑466 ↑116 ↑467,kF ↑31 "ring_from" "spotlook.rings" ↑411 ↑211,NI "rings_of" ↑469 ↑470 ↑471 ↑123 ↑1 ↑213 ↑214 ↑215 ↑216 ↑217 ↑479 ↑123 ↑480,kF ↑32 "rings_of" "spotlook.rings" ↑411 ↑218,(N5 "twice_area" "twice_area" 482 483 484 134 2 3 220 MB 221 .none .none (.ref 222) 485 486),kF ↑33 "twice_area" "spotlook.rings" ↑411 ↑223,NI "outer_and_inner" ↑490 ↑491 ↑492 ↑144 ↑1 ↑225 ↑226 ↑227 ↑228 ↑229 ↑497 ↑144 ↑498,kF ↑35 "outer_and_inner" "spotlook.lands" ↑488 ↑230]
noncomputable def RJ:List Obj:=[NI "first_corner" ↑500 ↑501 ↑502 ↑152 ↑2 ↑232 ↑233 ↑234 ↑235 ↑236 ↑507 ↑152 ↑508,kF ↑36 "first_corner" "spotlook.lands" ↑488 ↑237,NI "land_about" ↑510 ↑511 ↑512 ↑157 ↑3 ↑239 ↑240 ↑241 ↑242 ↑243 ↑517 ↑157 ↑518,kF ↑37 "land_about" "spotlook.lands" ↑488 ↑244,(N5 "lands_of_faces" "lands_of_faces" 520 521 522 160 1 3 246 MB 247 .none .none (.ref 248) 523 524),kF ↑38 "lands_of_faces" "spotlook.lands" ↑488 ↑249,NI "corners_of" ↑528 ↑529 ↑530 ↑173 ↑1 ↑251 ↑252 ↑253 ↑254 ↑255 ↑535 ↑173 ↑536,kF ↑40 "corners_of" "spotlook.plots" ↑526 ↑256]
noncomputable def RH:List Obj:=[NI "wall_below" ↑540 ↑541 ↑542 ↑180 ↑2 ↑258 ↑259 ↑260 ↑261 ↑262 ↑546 ↑180 ↑547,kF ↑42 "wall_below" "spotlook.plain" ↑538 ↑263,NI "look_plainly" ↑549 ↑550 ↑551 ↑183 ↑2 ↑265 ↑266 ↑267 ↑268 ↑269 ↑554 ↑183 ↑555,kF ↑43 "look_plainly" "spotlook.plain" ↑538 ↑270,NI "look_with_lands" ↑557 ↑558 ↑559 ↑185 ↑3 ↑272 ↑273 ↑274 ↑275 ↑276 ↑567 ↑185 ↑568,kF ↑44 "look_with_lands" "spotlook.plain" ↑538 ↑277,NI "_law_cell_at" ↑572 ↑573 ↑574 ↑195 ↑2 ↑279 ↑280 ↑281 ↑282 ↑283 ↑577 ↑195 ↑578,Nk ↑46 "_law_cell_at" ↑284]
noncomputable def RG:List Obj:=[NI "_law_take" ↑580 ↑581 ↑582 ↑199 ↑2 ↑286 ↑287 ↑288 ↑289 ↑290 ↑587 ↑199 ↑588,Nk ↑47 "_law_take" ↑291,NI "_law_low" ↑590 ↑591 ↑592 ↑208 ↑2 ↑293 ↑294 ↑295 ↑296 ↑297 ↑597 ↑208 ↑598,Nk ↑48 "_law_low" ↑298,NI "_law_scale" ↑600 ↑601 ↑602 ↑216 ↑1 ↑300 ↑301 ↑302 ↑303 ↑304 ↑607 ↑216 ↑608,Nk ↑49 "_law_scale" ↑305,NI "_law_spot" ↑610 ↑611 ↑612 ↑222 ↑2 ↑307 ↑308 ↑309 ↑310 ↑311 ↑619 ↑222 ↑620,Nk ↑50 "_law_spot" ↑312]
noncomputable def O8:List Obj:=[(N5 "_law_made" "_law_made" 622 623 624 225 2 3 314 MB 315 .none .none (.ref 316) 625 626),Nk ↑51 "_law_made" ↑317,NI "_law_turn" ↑628 ↑629 ↑630 ↑227 ↑3 ↑319 ↑320 ↑321 ↑322 ↑323 ↑637 ↑227 ↑638,Nk ↑52 "_law_turn" ↑324,NI "_law_on" ↑640 ↑641 ↑642 ↑232 ↑2 ↑326 ↑327 ↑328 ↑329 ↑330 ↑645 ↑232 ↑646,Nk ↑53 "_law_on" ↑331,(N5 "_law_fair" "_law_fair" 648 649 650 234 2 3 333 MB 334 .none .none (.ref 335) 651 652),Nk ↑54 "_law_fair" ↑336]
noncomputable def O7:List Obj:=[(N5 "_law_shuts_here" "_law_shuts_here" 654 655 656 244 3 3 338 MB 339 .none .none (.ref 340) 657 658),Nk ↑55 "_law_shuts_here" ↑341,NI "_law_ends" ↑660 ↑661 ↑662 ↑255 ↑2 ↑343 ↑344 ↑345 ↑346 ↑347 ↑665 ↑255 ↑666,Nk ↑56 "_law_ends" ↑348,(N5 "_law_sooner" "_law_sooner" 668 669 670 257 3 3 350 MB 351 .none .none (.ref 352) 671 672),Nk ↑57 "_law_sooner" ↑353,(N5 "_law_behind" "_law_behind" 674 675 676 263 2 3 355 MB 356 .none .none (.ref 357) 677 678),Nk ↑58 "_law_behind" ↑358]
noncomputable def O6:List Obj:=[NI "_law_rings" ↑680 ↑681 ↑682 ↑274 ↑1 ↑360 ↑361 ↑362 ↑363 ↑364 ↑688 ↑274 ↑689,Nk ↑59 "_law_rings" ↑365,(N5 "_law_twice" "_law_twice" 691 692 693 285 2 3 367 MB 368 .none .none (.ref 369) 694 695),Nk ↑60 "_law_twice" ↑370,NI "_law_inside" ↑697 ↑698 ↑699 ↑288 ↑3 ↑372 ↑373 ↑374 ↑375 ↑376 ↑709 ↑288 ↑710,Nk ↑61 "_law_inside" ↑377,NI "_law_land_at" ↑712 ↑713 ↑714 ↑296 ↑3 ↑379 ↑380 ↑381 ↑382 ↑383 ↑721 ↑296 ↑722,Nk ↑62 "_law_land_at" ↑384]
noncomputable def O5:List Obj:=[(N5 "_law_box" "_law_box" 724 725 726 302 2 3 386 MB 387 .none .none (.ref 388) 727 728),Nk ↑63 "_law_box" ↑389,NI "_law_order" ↑730 ↑731 ↑732 ↑306 ↑2 ↑391 ↑392 ↑393 ↑394 ↑395 ↑737 ↑306 ↑738,Nk ↑64 "_law_order" ↑396,(N5 "_law_set" "_law_set" 740 741 742 311 1 3 398 MB 399 .none .none (.ref 400) 743 744),Nk ↑65 "_law_set" ↑401,NI "_law_wanted" ↑746 ↑747 ↑748 ↑326 ↑3 ↑403 ↑404 ↑405 ↑406 ↑407 ↑758 ↑326 ↑759,Nk ↑66 "_law_wanted" ↑408]
noncomputable def O4:List Obj:=[NI "_law_real" ↑761 ↑762 ↑763 ↑336 ↑2 ↑410 ↑411 ↑412 ↑413 ↑414 ↑771 ↑336 ↑772,Nk ↑67 "_law_real" ↑415,(N5 "_law_by" "_law_by" 774 775 776 340 2 3 417 MB 418 .none .none (.ref 419) 777 778),Nk ↑68 "_law_by" ↑420,NI "_law_squares" ↑780 ↑781 ↑782 ↑342 ↑1 ↑422 ↑423 ↑424 ↑425 ↑426 ↑789 ↑342 ↑790,Nk ↑69 "_law_squares" ↑427,(N5 "law" "law" 792 793 794 351 1 3 429 MB 430 .none .none (.ref 431) 795 796),Nk ↑70 "law" ↑432]
noncomputable def kK:Jo->I0:=fun P=>(↑3,kG P)::(↑45,kN RU ↑0)::(↑46,kN RU ↑1)::(↑52,kN RU ↑2)::(↑53,kN RU ↑3)::(↑59,kN RU ↑4)::(↑60,kN RU ↑5)::(↑66,kN RU ↑6)::(↑67,kN RU ↑7)::(↑73,kN RT ↑0)::(↑74,kN RT ↑1)::(↑80,kN RT ↑2)::(↑81,kN RT ↑3)::(↑87,kN RT ↑4)::(↑88,kN RT ↑5)::(↑94,kN RT ↑6)::(↑95,kN RT ↑7)::(↑101,kN RS ↑0)::(↑102,kN RS ↑1)::(↑108,kN RS ↑2)::(↑109,kN RS ↑3)::(↑115,kN RS ↑4)::(↑116,kN RS ↑5)::(↑122,kN RS ↑6)::(↑123,kN RS ↑7)::(↑129,kN RP ↑0)::(↑130,kN RP ↑1)::(↑136,kN RP ↑2)::(↑137,kN RP ↑3)::(↑143,kN RP ↑4)::(↑144,kN RP ↑5)::(↑150,kN RP ↑6)::(↑151,kN RP ↑7)::(↑157,kN RN ↑0)::(↑158,kN RN ↑1)::(↑164,kN RN ↑2)::(↑165,kN RN ↑3)::(↑171,kN RN ↑4)::(↑172,kN RN ↑5)::(↑176,kN RN ↑6)::(↑177,kN RN ↑7)::(↑183,kN RM ↑0)::(↑184,kN RM ↑1)::(↑190,kN RM ↑2)::(↑191,kN RM ↑3)::(↑197,kN RM ↑4)::(↑198,kN RM ↑5)::(↑204,kN RM ↑6)::(↑205,kN RM ↑7)::(↑211,kN RK ↑0)::(↑212,kN RK ↑1)::(↑218,kN RK ↑2)::(↑219,kN RK ↑3)::(↑223,kN RK ↑4)::(↑224,kN RK ↑5)::(↑230,kN RK ↑6)::(↑231,kN RK ↑7)::(↑237,kN RJ ↑0)::(↑238,kN RJ ↑1)::(↑244,kN RJ ↑2)::(↑245,kN RJ ↑3)::(↑249,kN RJ ↑4)::(↑250,kN RJ ↑5)::(↑256,kN RJ ↑6)::(↑257,kN RJ ↑7)::(↑263,kN RH ↑0)::(↑264,kN RH ↑1)::(↑270,kN RH ↑2)::(↑271,kN RH ↑3)::(↑277,kN RH ↑4)::(↑278,kN RH ↑5)::(↑284,kN RH ↑6)::(↑285,kN RH ↑7)::(↑291,kN RG ↑0)::(↑292,kN RG ↑1)::(↑298,kN RG ↑2)::(↑299,kN RG ↑3)::(↑305,kN RG ↑4)::(↑306,kN RG ↑5)::(↑312,kN RG ↑6)::(↑313,kN RG ↑7)::(↑317,kN O8 ↑0)::(↑318,kN O8 ↑1)::(↑324,kN O8 ↑2)::(↑325,kN O8 ↑3)::(↑331,kN O8 ↑4)::(↑332,kN O8 ↑5)::(↑336,kN O8 ↑6)::(↑337,kN O8 ↑7)::(↑341,kN O7 ↑0)::(↑342,kN O7 ↑1)::(↑348,kN O7 ↑2)::(↑349,kN O7 ↑3)::(↑353,kN O7 ↑4)::(↑354,kN O7 ↑5)::(↑358,kN O7 ↑6)::(↑359,kN O7 ↑7)::(↑365,kN O6 ↑0)::(↑366,kN O6 ↑1)::(↑370,kN O6 ↑2)::(↑371,kN O6 ↑3)::(↑377,kN O6 ↑4)::(↑378,kN O6 ↑5)::(↑384,kN O6 ↑6)::(↑385,kN O6 ↑7)::(↑389,kN O5 ↑0)::(↑390,kN O5 ↑1)::(↑396,kN O5 ↑2)::(↑397,kN O5 ↑3)::(↑401,kN O5 ↑4)::(↑402,kN O5 ↑5)::(↑408,kN O5 ↑6)::(↑409,kN O5 ↑7)::(↑415,kN O4 ↑0)::(↑416,kN O4 ↑1)::(↑420,kN O4 ↑2)::(↑421,kN O4 ↑3)::(↑427,kN O4 ↑4)::(↑428,kN O4 ↑5)::(↑432,kN O4 ↑6)::(↑433,kN O4 ↑7)::[]
end QQ
section
namespace QQ
open PySem L2
inductive Tg{A:Type}(a:A):Type where|mk:Tg a
noncomputable def pk{A:Type}{a:A}(_:Tg a):A:=a
noncomputable def hE(P:Jo)(n:Str)(k:Nat)(v:IQ):K3:={ hash:=PyData.keyHash P n,key:=.str n k,val:=v }
noncomputable def Pa(k:Nat)(l:List K3):Obj:={ cls:=.type "dict",data:=.dict (JZ l) k }
noncomputable def Ra:IQ:=.str "spotlook.errors" 187
noncomputable def kU(s:n_)(n q:Str)(g:Nat)(m c:IQ):LW:={ name:=n,qualname:=q,params:=cL s,body:=.stmts (br s),scope:=av s,globals:=g,closure:=[],defaults:=.none,kwdefaults:=.none,pyModule:=m,code:=c }
noncomputable def kC(s:n_)(i:Nat):n_:=match s with
 |.ClassDef (body:=b) ..=>b.getD i (.Pass ⟨0,0,0,0⟩)
 |s=>s
noncomputable def NG(l:p4):Obj:={ cls:=.type "tuple",data:=.seq l.toArray 0 }
noncomputable def ZZ(l:p4):Obj:={ cls:=.none,data:=.fields l.toArray }
local macro_rules | `(tactic| walk_at "st") => `(tactic| (intro t; (conv at t => (arg 1; whnf)); exact pk (.mk : type_of% t)))
local macro_rules | `(⇑$n:num) => `((by refine' (?_ : Tg (top $n) → n_) .mk; walk_at "st" : n_))
noncomputable def YQ:n_:=⇑0
noncomputable def WS:n_:=⇑1
noncomputable def SS:n_:=⇑2
noncomputable def SO:n_:=⇑3
noncomputable def PU:n_:=⇑4
noncomputable def OZ:n_:=⇑5
noncomputable def SH:n_:=⇑6
noncomputable def O1:n_:=⇑7
noncomputable def SG:n_:=⇑8
noncomputable def YO:n_:=⇑9
noncomputable def O3:n_:=⇑10
noncomputable def O2:n_:=⇑11
noncomputable def Q6:n_:=⇑12
noncomputable def OQ:n_:=⇑13
noncomputable def Q5:n_:=⇑14
noncomputable def Q4:n_:=⇑15
noncomputable def Q3:n_:=⇑16
noncomputable def Q2:n_:=⇑17
noncomputable def Q1:n_:=⇑18
noncomputable def Q0:n_:=⇑19
noncomputable def QZ:n_:=⇑20
noncomputable def SR:n_:=⇑21
noncomputable def QY:n_:=⇑22
noncomputable def QX:n_:=⇑23
noncomputable def QW:n_:=⇑24
noncomputable def QV:n_:=⇑25
noncomputable def SQ:n_:=⇑26
noncomputable def QU:n_:=⇑27
noncomputable def QT:n_:=⇑28
noncomputable def QS:n_:=⇑29
noncomputable def QR:n_:=⇑30
noncomputable def QP:n_:=⇑31
noncomputable def QO:n_:=⇑32
noncomputable def QN:n_:=⇑33
noncomputable def SN:n_:=⇑34
noncomputable def QM:n_:=⇑35
noncomputable def QL:n_:=⇑36
noncomputable def QK:n_:=⇑37
noncomputable def QJ:n_:=⇑38
noncomputable def SM:n_:=⇑39
noncomputable def QI:n_:=⇑40
noncomputable def SK:n_:=⇑41
noncomputable def QH:n_:=⇑42
noncomputable def QG:n_:=⇑43
noncomputable def QF:n_:=⇑44
noncomputable def SJ:n_:=⇑45
noncomputable def QE:n_:=⇑46
noncomputable def QD:n_:=⇑47
noncomputable def QC:n_:=⇑48
noncomputable def QB:n_:=⇑49
noncomputable def QA:n_:=⇑50
noncomputable def Pz:n_:=⇑51
noncomputable def Py:n_:=⇑52
noncomputable def Px:n_:=⇑53
noncomputable def Pw:n_:=⇑54
noncomputable def Pu:n_:=⇑55
noncomputable def Pt:n_:=⇑56
noncomputable def Pr:n_:=⇑57
noncomputable def Pq:n_:=⇑58
noncomputable def Pp:n_:=⇑59
noncomputable def Po:n_:=⇑60
noncomputable def Pn:n_:=⇑61
noncomputable def Pm:n_:=⇑62
noncomputable def Pl:n_:=⇑63
noncomputable def Pk:n_:=⇑64
noncomputable def Pj:n_:=⇑65
noncomputable def Ph:n_:=⇑66
noncomputable def Pg:n_:=⇑67
noncomputable def Pe:n_:=⇑68
noncomputable def Pc:n_:=⇑69
noncomputable def Pb:n_:=⇑70
noncomputable def Yt:Lp:=by refine'(?_:Tg (JE.main.scope)->Lp) .mk;walk_at "st"
noncomputable def ZV:Str:=by refine'(?_:Tg (JE.main.file)->Str) .mk;walk_at "st"
noncomputable def ZU:Given:=by refine'(?_:Tg (JE.given)->Given) .mk;walk_at "st"
noncomputable def Yu:q_:=Pk::Pj::Ph::Pg::Pe::Pc::Pb::[]
noncomputable def Yv:q_:=QC::QB::QA::Pz::Py::Px::Pw::Pu::Pt::Pr::Pq::Pp::Po::Pn::Pm::Pl::Yu
noncomputable def Yw:q_:=QO::QN::SN::QM::QL::QK::QJ::SM::QI::SK::QH::QG::QF::SJ::QE::QD::Yv
noncomputable def Yx:q_:=Q3::Q2::Q1::Q0::QZ::SR::QY::QX::QW::QV::SQ::QU::QT::QS::QR::QP::Yw
noncomputable def pw2:Jk:={ main:={ body:=YQ::WS::SS::SO::PU::OZ::SH::O1::SG::YO::O3::O2::Q6::OQ::Q5::Q4::Yx,scope:=Yt,futureAnnotations:=MC,file:=ZV,more:=[] },modules:=[],parses:=[],absent:=[],harvested:=[],given:=ZU }
noncomputable def Y9:q_:=Pr::Pq::Pp::Po::Pn::Pm::Pl::Pk::Pj::Ph::Pg::Pe::Pc::Pb::[]
noncomputable def Ya:q_:=QJ::QI::QH::QG::QF::QE::QD::QC::QB::QA::Pz::Py::Px::Pw::Pu::Pt::Y9
noncomputable def Yb:q_:=Q0::QZ::QY::QX::QW::QV::QU::QT::QS::QR::QP::QO::QN::QM::QL::QK::Ya
noncomputable def vw:Jk:={ pw2 with main:={ pw2.main with body:=WS::SS::PU::OZ::SH::O1::SG::O3::O2::Q6::OQ::Q5::Q4::Q3::Q2::Q1::Yb } }
noncomputable def sx0:q_:=[YQ,WS]
noncomputable def sx1:q_:=[SS,SO,PU,OZ,SH,O1,SG,YO]
noncomputable def sx2:q_:=[O3,O2,Q6,OQ,Q5,Q4,Q3,Q2,Q1,Q0,QZ,SR,QY]
noncomputable def sx3:q_:=[QX,QW,QV,SQ,QU,QT,QS,QR,QP,QO,QN,SN,QM,QL]
noncomputable def sx4:q_:=[QK,QJ,SM,QI,SK,QH,QG,QF,SJ,QE,QD,QC,QB,QA,Pz]
noncomputable def sx5:q_:=[Py,Px,Pw,Pu,Pt,Pr,Pq,Pp,Po,Pn,Pm,Pl,Pk]
noncomputable def sx6:q_:=[Pj,Ph,Pg,Pe,Pc,Pb]
noncomputable def Vt(P:Jo):List K3:=[hE P "__doc__" 166 .none,hE P "__package__" 167 .none,hE P "__loader__" 168 (.builtin "__main__.__loader__#opaque"),hE P "__spec__" 169 .none,hE P "__annotations__" 170 (.ref 6),hE P "__builtins__" 171 (.ref 4),hE P "__file__" 173 (.str "/claim/cut.py" 172),hE P "__cached__" 174 .none]
noncomputable def Vr(P:Jo):List K3:=[hE P "SpotError" 206 (.ref 24),hE P "NoFraction" 222 (.ref 37),hE P "greatest_divisor" 232 (.ref 46),hE P "fraction" 241 (.ref 53),hE P "is_less" 249 (.ref 60),hE P "common_bottom" 258 (.ref 67),hE P "top_over" 266 (.ref 74),hE P "is_ahead" 276 (.ref 81)]
noncomputable def Vq(P:Jo):List K3:=[hE P "later_of" 284 (.ref 88),hE P "earlier_of" 292 (.ref 95),hE P "place_among" 303 (.ref 102),hE P "ahead_first" 312 (.ref 109),hE P "own_spot" 321 (.ref 116),hE P "own_wall" 328 (.ref 123),hE P "gap" 336 (.ref 130),hE P "lean" 354 (.ref 137)]
noncomputable def Vp(P:Jo):List K3:=[hE P "side_of" 363 (.ref 144),hE P "lies_on" 373 (.ref 151),hE P "spans" 383 (.ref 158),hE P "is_above" 395 (.ref 165),hE P "upper_of" 404 (.ref 172),hE P "upper_below" 410 (.ref 177),hE P "face_ends" 422 (.ref 184),hE P "faces_by_start" 431 (.ref 191)]
noncomputable def Vo(P:Jo):List K3:=[hE P "is_met_sooner" 443 (.ref 198),hE P "face_behind" 457 (.ref 205),hE P "ring_from" 468 (.ref 212),hE P "rings_of" 481 (.ref 219),hE P "twice_area" 487 (.ref 224),hE P "outer_and_inner" 499 (.ref 231),hE P "first_corner" 509 (.ref 238),hE P "land_about" 519 (.ref 245)]
noncomputable def Vn(P:Jo):List K3:=[hE P "lands_of_faces" 525 (.ref 250),hE P "corners_of" 537 (.ref 257),hE P "wall_below" 548 (.ref 264),hE P "look_plainly" 556 (.ref 271),hE P "look_with_lands" 569 (.ref 278),hE P "_law_cell_at" 579 (.ref 285),hE P "_law_take" 589 (.ref 292),hE P "_law_low" 599 (.ref 299)]
noncomputable def Vm(P:Jo):List K3:=[hE P "_law_scale" 609 (.ref 306),hE P "_law_spot" 621 (.ref 313),hE P "_law_made" 627 (.ref 318),hE P "_law_turn" 639 (.ref 325),hE P "_law_on" 647 (.ref 332),hE P "_law_fair" 653 (.ref 337),hE P "_law_shuts_here" 659 (.ref 342),hE P "_law_ends" 667 (.ref 349)]
noncomputable def Vl(P:Jo):List K3:=[hE P "_law_sooner" 673 (.ref 354),hE P "_law_behind" 679 (.ref 359),hE P "_law_rings" 690 (.ref 366),hE P "_law_twice" 696 (.ref 371),hE P "_law_inside" 711 (.ref 378),hE P "_law_land_at" 723 (.ref 385),hE P "_law_box" 729 (.ref 390),hE P "_law_order" 739 (.ref 397)]
noncomputable def Vk(P:Jo):List K3:=[hE P "_law_set" 745 (.ref 402),hE P "_law_wanted" 760 (.ref 409),hE P "_law_real" 773 (.ref 416),hE P "_law_by" 779 (.ref 421),hE P "_law_squares" 791 (.ref 428),hE P "law" 797 (.ref 433)]
noncomputable def Rb(P:Jo):List K3:=Vt P++(Vr P++(Vq P++(Vp P++(Vo P++(Vn P++(Vm P++(Vl P++(Vk P))))))))
noncomputable def O9:p4:=[(.int 2 0),(.int 0 0),(.ref 20),(.int 4 0),(.int 0 0),(.ref 33),(.int 7 0),(.int 0 0),(.ref 45),(.int 11 0),(.int 0 0),(.ref 52),(.int 18 0),(.int 0 0),(.ref 59),(.int 20 0),(.int 0 0),(.ref 66),(.int 25 0),(.int 0 0),(.ref 73),(.int 28 0),(.int 0 0),(.ref 80),(.int 32 0),(.int 0 0),(.ref 87),(.int 34 0),(.int 0 0),(.ref 94),(.int 36 0),(.int 0 0),(.ref 101),(.int 45 0),(.int 0 0),(.ref 108),(.int 50 0),(.int 0 0),(.ref 115),(.int 53 0),(.int 0 0),(.ref 122),(.int 55 0),(.int 0 0),(.ref 129),(.int 57 0),(.int 0 0),(.ref 136),(.int 63 0),(.int 0 0),(.ref 143),(.int 70 0),(.int 0 0),(.ref 150),(.int 74 0),(.int 0 0),(.ref 157),(.int 76 0),(.int 0 0),(.ref 164),(.int 84 0),(.int 0 0),(.ref 171),(.int 90 0),(.int 0 0),(.ref 176),(.int 94 0),(.int 0 0),(.ref 183),(.int 97 0),(.int 0 0),(.ref 190),(.int 102 0),(.int 0 0),(.ref 197),(.int 108 0),(.int 0 0),(.ref 204),(.int 116 0),(.int 0 0),(.ref 211),(.int 123 0),(.int 0 0),(.ref 218),(.int 134 0),(.int 0 0),(.ref 223),(.int 144 0),(.int 0 0),(.ref 230),(.int 152 0),(.int 0 0),(.ref 237),(.int 157 0),(.int 0 0),(.ref 244),(.int 160 0),(.int 0 0),(.ref 249),(.int 173 0),(.int 0 0),(.ref 256),(.int 180 0),(.int 0 0),(.ref 263),(.int 183 0),(.int 0 0),(.ref 270),(.int 185 0),(.int 0 0),(.ref 277),(.int 195 0),(.int 0 0),(.ref 284),(.int 199 0),(.int 0 0),(.ref 291),(.int 208 0),(.int 0 0),(.ref 298),(.int 216 0),(.int 0 0),(.ref 305),(.int 222 0),(.int 0 0),(.ref 312),(.int 225 0),(.int 0 0),(.ref 317),(.int 227 0),(.int 0 0),(.ref 324),(.int 232 0),(.int 0 0),(.ref 331),(.int 234 0),(.int 0 0),(.ref 336),(.int 244 0),(.int 0 0),(.ref 341),(.int 255 0),(.int 0 0),(.ref 348),(.int 257 0),(.int 0 0),(.ref 353),(.int 263 0),(.int 0 0),(.ref 358),(.int 274 0),(.int 0 0),(.ref 365),(.int 285 0),(.int 0 0),(.ref 370),(.int 288 0),(.int 0 0),(.ref 377),(.int 296 0),(.int 0 0),(.ref 384),(.int 302 0),(.int 0 0),(.ref 389),(.int 306 0),(.int 0 0),(.ref 396),(.int 311 0),(.int 0 0),(.ref 401),(.int 326 0),(.int 0 0),(.ref 408),(.int 336 0),(.int 0 0),(.ref 415),(.int 340 0),(.int 0 0),(.ref 420),(.int 342 0),(.int 0 0),(.ref 427),(.int 351 0),(.int 0 0),(.ref 432)]
noncomputable def hC(n:Str)(i j k a l b c d e m o p q r f g h:Nat)(s:Bool):Obj:={ cls:=.type "code",data:=.fields #[.str n i,.str n j,.str "/claim/cut.py" k,.int (LQ m) 0,.int (LQ o) 0,.int (LQ p) 0,.int (LQ q) 0,.int (LQ r) 0,.ref l,.bool s,.int (LQ f) 0,.ref b,.none,.ref c,.ref d,.ref e,.int (LQ g) 0,.int (LQ h) 0,.str "/claim/cut.py" a] }
noncomputable def hF(t:IQ)(s:n_)(n:Str)(g:Nat)(m c:IQ):Obj:={ cls:=t,data:=.func (kU s n n g m c) }
noncomputable def NC(s:n_)(n:Str)(m:IQ)(r:Nat):Obj:=hF (.type "function") s n 3 m (.ref r)
noncomputable def Xw:Obj:=NG []
noncomputable def Xv:Obj:={ cls:=.none,data:=.fields (JZ (O9.take 0)) }
noncomputable def Xu:Obj:=N5 "<module>" "<module>" 182 183 184 1 0 0 11 MC 12 .none .none .none 185 186
noncomputable def Xt:Obj:={ cls:=(.type "frame"),slots:=#[(LZ (.ref 13)),(LZ (.ref 3)),(LZ (.ref 3)),MA,(LZ (.str "__main__" 164)),MA,(LZ (.ref 0))] }
noncomputable def Xs(P:Jo):Obj:=Pa 10 (hE P "__name__" 165 Ra::(Rb P).take 9)
noncomputable def Xr:Obj:={ cls:=.none,data:=.fields (JZ (O9.take 3)) }
noncomputable def Xq:Obj:=NG [(.type "ValueError")]
noncomputable def Xp:Obj:={ cls:=(.type "builtin_function_or_method"),data:=(.fields #[(.builtin "type.__prepare__"),(.type "type")]) }
noncomputable def Xo(P:Jo):Obj:=Pa 4 [hE P "__module__" 196 Ra,hE P "__qualname__" 198 (.str "SpotError" 197),hE P "__firstlineno__" 200 (.int 2 199),hE P "__static_attributes__" 201 (.ref 22)]
noncomputable def Xn:Obj:=N5 "SpotError" "SpotError" 191 192 193 2 0 0 18 MC 19 .none .none .none 194 195
noncomputable def Xm:Obj:={ cls:=(.type "frame"),slots:=#[(LZ (.ref 20)),(LZ (.ref 3)),(LZ (.ref 17)),MA,(LZ Ra),MA,(LZ (.ref 0))] }
noncomputable def Xl(P:Jo):Obj:=Pa 3 [hE P "__module__" 196 Ra,hE P "__firstlineno__" 200 (.int 2 199),hE P "__static_attributes__" 201 (.ref 22),hE P "__weakref__" 203 (.ref 25),hE P "__doc__" 204 .none]
noncomputable def Xk:Obj:={ cls:=(.type "type"),data:=(.cls { name:="SpotError",bases:=[(.type "ValueError")],mro:=[(.ref 24),(.type "ValueError"),(.type "Exception"),(.type "BaseException"),(.type "object")],ns:=23,qualname:="SpotError",hasDict:=MB,slotNames:=[],subclasses:=[],abstract:=MC,collection:=MA,hasDel:=MC }),slots:=#[(LZ (.ref 15)),MA,(LZ (.str "SpotError" 189)),(LZ (.str "SpotError" 197)),(LZ (.builtin "ValueError.__new__")),(LZ (.bool MB))] }
noncomputable def Xj:Obj:={ cls:=(.type "getset_descriptor"),data:=(.fields #[(.str "__weakref__" 202),(.ref 24),(.builtin "ExceptionGroup.__weakref__"),.none]) }
noncomputable def Xi:Obj:={ cls:=(.type "super"),data:=(.fields #[(.ref 24),(.ref 24),(.ref 24)]) }
noncomputable def Xh:Obj:={ cls:=(.type "builtin_function_or_method"),data:=(.fields #[(.builtin "object.__init_subclass__"),(.ref 24)]) }
noncomputable def Xg(P:Jo):Obj:=Pa 16 (hE P "__name__" 165 (.str "spotlook.spots" 267)::(Rb P).take 15)
noncomputable def Xf:Obj:={ cls:=.none,data:=.fields (JZ (O9.take 21)) }
noncomputable def Xe:Obj:={ cls:=(.type "type"),data:=(.cls { name:="SpotError",bases:=[(.type "ValueError")],mro:=[(.ref 24),(.type "ValueError"),(.type "Exception"),(.type "BaseException"),(.type "object")],ns:=23,qualname:="SpotError",hasDict:=MB,slotNames:=[],subclasses:=[(.ref 37)],abstract:=MC,collection:=MA,hasDel:=MC }),slots:=#[(LZ (.ref 15)),MA,(LZ (.str "SpotError" 189)),(LZ (.str "SpotError" 197)),(LZ (.builtin "ValueError.__new__")),(LZ (.bool MB))] }
noncomputable def Xd:Obj:=NG [(.ref 24)]
noncomputable def Xc(P:Jo):Obj:=Pa 4 [hE P "__module__" 214 Ra,hE P "__qualname__" 216 (.str "NoFraction" 215),hE P "__firstlineno__" 218 (.int 4 217),hE P "__static_attributes__" 219 (.ref 35)]
noncomputable def Xb:Obj:=N5 "NoFraction" "NoFraction" 209 210 211 4 0 0 31 MC 32 .none .none .none 212 213
noncomputable def Xa:Obj:={ cls:=(.type "frame"),slots:=#[(LZ (.ref 33)),(LZ (.ref 3)),(LZ (.ref 30)),MA,(LZ Ra),MA,(LZ (.ref 0))] }
noncomputable def X9(P:Jo):Obj:=Pa 2 [hE P "__module__" 214 Ra,hE P "__firstlineno__" 218 (.int 4 217),hE P "__static_attributes__" 219 (.ref 35),hE P "__doc__" 220 .none]
noncomputable def X8:Obj:=Y8 "NoFraction" 37 36 28 207 215
noncomputable def X7:Obj:={ cls:=(.type "super"),data:=(.fields #[(.ref 37),(.ref 37),(.ref 37)]) }
noncomputable def X6:Obj:={ cls:=(.type "builtin_function_or_method"),data:=(.fields #[(.builtin "object.__init_subclass__"),(.ref 37)]) }
noncomputable def X5:Obj:=NG [(.str "one" 228),(.str "other" 229)]
noncomputable def X4:Obj:=hF .none PU "greatest_divisor" 0 .none .none
noncomputable def X3:Obj:=hC "greatest_divisor" 225 226 227 231 40 41 42 43 44 7 2 0 0 3 181 230 7 MB
noncomputable def X2:Obj:=NC PU "greatest_divisor" (.str "spotlook.fractions" 223) 45
noncomputable def X1:Obj:=NG [(.str "top" 236),(.str "bottom" 237),(.str "divisor" 238)]
noncomputable def X0:Obj:=hF .none OZ "fraction" 0 .none .none
noncomputable def XZ:Obj:=hC "fraction" 233 234 235 240 47 48 49 50 51 11 2 0 0 3 181 239 11 MB
noncomputable def XY:Obj:=NC OZ "fraction" (.str "spotlook.fractions" 223) 52
noncomputable def XX:Obj:=NG [(.str "one" 245),(.str "other" 246)]
noncomputable def XW:Obj:=hF .none SH "is_less" 0 .none .none
noncomputable def XU:Obj:=hC "is_less" 242 243 244 248 54 55 56 57 58 18 2 0 0 3 181 247 18 MB
noncomputable def XT:Obj:=NC SH "is_less" (.str "spotlook.fractions" 223) 59
noncomputable def XS:Obj:=NG [(.str "parts" 253),(.str "common" 254),(.str "part" 255)]
noncomputable def XR:Obj:=hF .none O1 "common_bottom" 0 .none .none
noncomputable def XQ:Obj:=hC "common_bottom" 250 251 252 257 61 62 63 64 65 20 1 0 0 3 181 256 20 MB
noncomputable def XO:Obj:=NC O1 "common_bottom" (.str "spotlook.fractions" 223) 66
noncomputable def XN:Obj:=NG [(.str "part" 262),(.str "bottom" 263)]
noncomputable def XM:Obj:=hF .none SG "top_over" 0 .none .none
noncomputable def XJ:Obj:=hC "top_over" 259 260 261 265 68 69 70 71 72 25 2 0 0 3 181 264 25 MB
noncomputable def XI:Obj:=NC SG "top_over" (.str "spotlook.fractions" 223) 73
noncomputable def XH(P:Jo):Obj:=Pa 28 (hE P "__name__" 165 (.str "spotlook.above" 374)::(Rb P).take 27)
noncomputable def XG:Obj:={ cls:=.none,data:=.fields (JZ (O9.take 57)) }
noncomputable def XF:Obj:=NG [(.str "one" 272),(.str "other" 273)]
noncomputable def XE:Obj:=hF .none O3 "is_ahead" 0 .none .none
noncomputable def XD:Obj:=hC "is_ahead" 269 270 271 275 75 76 77 78 79 28 2 0 0 3 181 274 28 MB
noncomputable def XC:Obj:=NC O3 "is_ahead" (.str "spotlook.spots" 267) 80
noncomputable def XB:Obj:=NG [(.str "one" 280),(.str "other" 281)]
noncomputable def XA:Obj:=hF .none O2 "later_of" 0 .none .none
noncomputable def Wz:Obj:=hC "later_of" 277 278 279 283 82 83 84 85 86 32 2 0 0 3 181 282 32 MB
noncomputable def Wy:Obj:=NC O2 "later_of" (.str "spotlook.spots" 267) 87
noncomputable def Wx:Obj:=NG [(.str "one" 288),(.str "other" 289)]
noncomputable def Ww:Obj:=hF .none Q6 "earlier_of" 0 .none .none
noncomputable def Wv:Obj:=hC "earlier_of" 285 286 287 291 89 90 91 92 93 34 2 0 0 3 181 290 34 MB
noncomputable def Wu:Obj:=NC Q6 "earlier_of" (.str "spotlook.spots" 267) 94
noncomputable def Wt:Obj:=NG [(.str "row" 296),(.str "spot" 297),(.str "low" 298),(.str "high" 299),(.str "middle" 300)]
noncomputable def Ws:Obj:=hF .none OQ "place_among" 0 .none .none
noncomputable def Wr:Obj:=hC "place_among" 293 294 295 302 96 97 98 99 100 36 2 0 0 3 181 301 36 MB
noncomputable def Wq:Obj:=NC OQ "place_among" (.str "spotlook.spots" 267) 101
noncomputable def Wo:Obj:=NG [(.str "spots" 307),(.str "row" 308),(.str "spot" 309)]
noncomputable def Wn:Obj:=hF .none Q5 "ahead_first" 0 .none .none
noncomputable def Wm:Obj:=hC "ahead_first" 304 305 306 311 103 104 105 106 107 45 1 0 0 3 181 310 45 MB
noncomputable def Wk:Obj:=NC Q5 "ahead_first" (.str "spotlook.spots" 267) 108
noncomputable def Wj:Obj:=NG [(.str "spot" 316),(.str "x" 317),(.str "y" 318)]
noncomputable def Wi:Obj:=hF .none Q4 "own_spot" 0 .none .none
noncomputable def Wh:Obj:=hC "own_spot" 313 314 315 320 110 111 112 113 114 50 1 0 0 3 181 319 50 MB
noncomputable def Wg:Obj:=NC Q4 "own_spot" (.str "spotlook.spots" 267) 115
noncomputable def Wf:Obj:=NG [(.str "wall" 325)]
noncomputable def We:Obj:=hF .none Q3 "own_wall" 0 .none .none
noncomputable def Wd:Obj:=hC "own_wall" 322 323 324 327 117 118 119 120 121 53 1 0 0 3 181 326 53 MB
noncomputable def Wc:Obj:=NC Q3 "own_wall" (.str "spotlook.spots" 267) 122
noncomputable def Wb:Obj:=NG [(.str "one" 332),(.str "other" 333)]
noncomputable def Wa:Obj:=hF .none Q2 "gap" 0 .none .none
noncomputable def W9:Obj:=hC "gap" 329 330 331 335 124 125 126 127 128 55 2 0 0 3 181 334 55 MB
noncomputable def W7:Obj:=NC Q2 "gap" (.str "spotlook.spots" 267) 129
noncomputable def W5:Obj:=NG [(.str "wall" 340),(.str "spot" 341),(.str "a" 342),(.str "b" 343),(.str "c" 344),(.str "d" 345),(.str "x" 346),(.str "y" 347),(.str "across" 348),(.str "up" 349),(.str "along" 350),(.str "high" 351)]
noncomputable def W4:Obj:=hF .none Q1 "lean" 0 .none .none
noncomputable def W3:Obj:=hC "lean" 337 338 339 353 131 132 133 134 135 57 2 0 0 3 181 352 57 MB
noncomputable def W2:Obj:=NC Q1 "lean" (.str "spotlook.spots" 267) 136
noncomputable def W0:Obj:=NG [(.str "wall" 358),(.str "spot" 359),(.str "top" 360)]
noncomputable def WZ:Obj:=hF .none Q0 "side_of" 0 .none .none
noncomputable def WY:Obj:=hC "side_of" 355 356 357 362 138 139 140 141 142 63 2 0 0 3 181 361 63 MB
noncomputable def WX:Obj:=NC Q0 "side_of" (.str "spotlook.spots" 267) 143
noncomputable def Vj:Obj:=NG [(.str "wall" 367),(.str "spot" 368),(.str "first" 369),(.str "second" 370)]
noncomputable def Vi:Obj:=hF .none QZ "lies_on" 0 .none .none
noncomputable def Vh:Obj:=hC "lies_on" 364 365 366 372 145 146 147 148 149 70 2 0 0 3 181 371 70 MB
noncomputable def Vg:Obj:=NC QZ "lies_on" (.str "spotlook.spots" 267) 150
noncomputable def Vf:Obj:=NG [(.str "wall" 379),(.str "spot" 380)]
noncomputable def Ve:Obj:=hF .none QY "spans" 0 .none .none
noncomputable def Vd:Obj:=hC "spans" 376 377 378 382 152 153 154 155 156 74 2 0 0 3 181 381 74 MB
noncomputable def Vb:Obj:=NC QY "spans" (.str "spotlook.above" 374) 157
noncomputable def Va(P:Jo):Obj:=Pa 40 (hE P "__name__" 165 (.str "spotlook.lands" 488)::(Rb P).take 39)
noncomputable def V9:Obj:={ cls:=.none,data:=.fields (JZ (O9.take 93)) }
noncomputable def V7:Obj:=NG [(.str "one" 387),(.str "other" 388),(.str "start" 389),(.str "end" 390),(.str "place" 391),(.str "deciding" 392)]
noncomputable def V6:Obj:=hF .none QX "is_above" 0 .none .none
noncomputable def V5:Obj:=hC "is_above" 384 385 386 394 159 160 161 162 163 76 2 0 0 3 181 393 76 MB
noncomputable def V4:Obj:=NC QX "is_above" (.str "spotlook.above" 374) 164
noncomputable def V3:Obj:=NG [(.str "walls" 399),(.str "upper" 400),(.str "wall" 401)]
noncomputable def V2:Obj:=hF .none QW "upper_of" 0 .none .none
noncomputable def V0:Obj:=hC "upper_of" 396 397 398 403 166 167 168 169 170 84 1 0 0 3 181 402 84 MB
noncomputable def VZ:Obj:=NC QW "upper_of" (.str "spotlook.above" 374) 171
noncomputable def VY:Obj:=hF .none QV "upper_below" 0 .none .none
noncomputable def VX:Obj:=N5 "upper_below" "upper_below" 405 406 407 90 2 3 173 MB 174 .none .none (.ref 175) 408 409
noncomputable def VW:Obj:=NC QV "upper_below" (.str "spotlook.above" 374) 176
noncomputable def VU:Obj:=NG [(.str "plot" 416),(.str "face" 417),(.str "first" 418),(.str "second" 419)]
noncomputable def VT:Obj:=hF .none QU "face_ends" 0 .none .none
noncomputable def VS:Obj:=hC "face_ends" 413 414 415 421 178 179 180 181 182 94 2 0 0 3 181 420 94 MB
noncomputable def VR:Obj:=NC QU "face_ends" (.str "spotlook.rings" 411) 183
noncomputable def VQ:Obj:=NG [(.str "plot" 426),(.str "leaving" 427),(.str "face" 428)]
noncomputable def VP:Obj:=hF .none QT "faces_by_start" 0 .none .none
noncomputable def VO:Obj:=hC "faces_by_start" 423 424 425 430 185 186 187 188 189 97 1 0 0 3 181 429 97 MB
noncomputable def VN:Obj:=NC QT "faces_by_start" (.str "spotlook.rings" 411) 190
noncomputable def VM:Obj:=NG [(.str "corner" 435),(.str "came_from" 436),(.str "one" 437),(.str "other" 438),(.str "turn" 439),(.str "other_turn" 440)]
noncomputable def VL:Obj:=hF .none QS "is_met_sooner" 0 .none .none
noncomputable def VJ:Obj:=hC "is_met_sooner" 432 433 434 442 192 193 194 195 196 102 4 0 0 3 181 441 102 MB
noncomputable def VI:Obj:=NC QS "is_met_sooner" (.str "spotlook.rings" 411) 197
noncomputable def VG:Obj:=NG [(.str "plot" 447),(.str "leaving" 448),(.str "face" 449),(.str "came_from" 450),(.str "corner" 451),(.str "back" 452),(.str "best" 453),(.str "rival" 454)]
noncomputable def VF:Obj:=hF .none QR "face_behind" 0 .none .none
noncomputable def VE:Obj:=hC "face_behind" 444 445 446 456 199 200 201 202 203 108 3 0 0 3 181 455 108 MB
noncomputable def VD:Obj:=NC QR "face_behind" (.str "spotlook.rings" 411) 204
noncomputable def VC:Obj:=NG [(.str "plot" 461),(.str "leaving" 462),(.str "face" 463),(.str "ring" 464),(.str "at" 465)]
noncomputable def VB:Obj:=hF .none QP "ring_from" 0 .none .none
noncomputable def VA:Obj:=hC "ring_from" 458 459 460 467 206 207 208 209 210 116 3 0 0 3 181 466 116 MB
noncomputable def Uz:Obj:=NC QP "ring_from" (.str "spotlook.rings" 411) 211
noncomputable def Uy:Obj:=NG [(.str "plot" 472),(.str "leaving" 473),(.str "rings" 474),(.str "gone_along" 475),(.str "face" 476),(.str "ring" 477),(.str "part" 478)]
noncomputable def Ux:Obj:=hF .none QO "rings_of" 0 .none .none
noncomputable def Uw:Obj:=hC "rings_of" 469 470 471 480 213 214 215 216 217 123 1 0 0 3 181 479 123 MB
noncomputable def Uv:Obj:=NC QO "rings_of" (.str "spotlook.rings" 411) 218
noncomputable def Uu:Obj:=hF .none QN "twice_area" 0 .none .none
noncomputable def Ut:Obj:=N5 "twice_area" "twice_area" 482 483 484 134 2 3 220 MB 221 .none .none (.ref 222) 485 486
noncomputable def Us:Obj:=NC QN "twice_area" (.str "spotlook.rings" 411) 223
noncomputable def Ur:Obj:=NG [(.str "plot" 493),(.str "outers" 494),(.str "inners" 495),(.str "ring" 496)]
noncomputable def Uq:Obj:=hF .none QM "outer_and_inner" 0 .none .none
noncomputable def Up:Obj:=hC "outer_and_inner" 490 491 492 498 225 226 227 228 229 144 1 0 0 3 181 497 144 MB
noncomputable def Uo:Obj:=NC QM "outer_and_inner" (.str "spotlook.lands" 488) 230
noncomputable def Um:Obj:=NG [(.str "plot" 503),(.str "ring" 504),(.str "first" 505),(.str "face" 506)]
noncomputable def Ul:Obj:=hF .none QL "first_corner" 0 .none .none
noncomputable def Uk:Obj:=hC "first_corner" 500 501 502 508 232 233 234 235 236 152 2 0 0 3 181 507 152 MB
noncomputable def Uj:Obj:=NC QL "first_corner" (.str "spotlook.lands" 488) 237
noncomputable def Ui(P:Jo):Obj:=Pa 52 (hE P "__name__" 165 Nd::(Rb P).take 51)
noncomputable def Uh:Obj:={ cls:=.none,data:=.fields (JZ (O9.take 129)) }
noncomputable def Ug:Obj:=NG [(.str "plot" 513),(.str "lands" 514),(.str "corner" 515),(.str "wall" 516)]
noncomputable def Ue:Obj:=hF .none QK "land_about" 0 .none .none
noncomputable def Ud:Obj:=hC "land_about" 510 511 512 518 239 240 241 242 243 157 3 0 0 3 181 517 157 MB
noncomputable def Uc:Obj:=NC QK "land_about" (.str "spotlook.lands" 488) 244
noncomputable def Ub:Obj:=hF .none QJ "lands_of_faces" 0 .none .none
noncomputable def Ua:Obj:=N5 "lands_of_faces" "lands_of_faces" 520 521 522 160 1 3 246 MB 247 .none .none (.ref 248) 523 524
noncomputable def U9:Obj:=NC QJ "lands_of_faces" (.str "spotlook.lands" 488) 249
noncomputable def U8:Obj:=NG [(.str "plot" 531),(.str "corners" 532),(.str "wall" 533),(.str "end" 534)]
noncomputable def U7:Obj:=hF .none QI "corners_of" 0 .none .none
noncomputable def U6:Obj:=hC "corners_of" 528 529 530 536 251 252 253 254 255 173 1 0 0 3 181 535 173 MB
noncomputable def U5:Obj:=NC QI "corners_of" (.str "spotlook.plots" 526) 256
noncomputable def U4:Obj:=NG [(.str "plot" 543),(.str "spot" 544),(.str "wall" 545)]
noncomputable def U3:Obj:=hF .none QH "wall_below" 0 .none .none
noncomputable def U2:Obj:=hC "wall_below" 540 541 542 547 258 259 260 261 262 180 2 0 0 3 181 546 180 MB
noncomputable def U1:Obj:=NC QH "wall_below" (.str "spotlook.plain" 538) 263
noncomputable def U0:Obj:=NG [(.str "plot" 552),(.str "spot" 553)]
noncomputable def UZ:Obj:=hF .none QG "look_plainly" 0 .none .none
noncomputable def UY:Obj:=hC "look_plainly" 549 550 551 555 265 266 267 268 269 183 2 0 0 3 181 554 183 MB
noncomputable def UX:Obj:=NC QG "look_plainly" (.str "spotlook.plain" 538) 270
noncomputable def UW:Obj:=NG [(.str "plot" 560),(.str "lands" 561),(.str "spot" 562),(.str "corners" 563),(.str "number" 564),(.str "wall" 565),(.str "below" 566)]
noncomputable def UU:Obj:=hF .none QF "look_with_lands" 0 .none .none
noncomputable def UT:Obj:=hC "look_with_lands" 557 558 559 568 272 273 274 275 276 185 3 0 0 3 181 567 185 MB
noncomputable def US:Obj:=NC QF "look_with_lands" (.str "spotlook.plain" 538) 277
noncomputable def UR:Obj:=NG [(.str "_law_script" 575),(.str "_law_k" 576)]
noncomputable def UQ:Obj:=hF .none QE "_law_cell_at" 0 .none .none
noncomputable def UP:Obj:=hC "_law_cell_at" 572 573 574 578 279 280 281 282 283 195 2 0 0 3 181 577 195 MB
noncomputable def UO:Obj:=NC QE "_law_cell_at" Nd 284
noncomputable def UN:Obj:=NG [(.str "_law_row" 583),(.str "_law_base" 584),(.str "_law_rest" 585),(.str "_law_number" 586)]
noncomputable def UM:Obj:=hF .none QD "_law_take" 0 .none .none
noncomputable def UL:Obj:=hC "_law_take" 580 581 582 588 286 287 288 289 290 199 2 0 0 3 181 587 199 MB
noncomputable def UK:Obj:=NC QD "_law_take" Nd 291
noncomputable def UJ:Obj:=NG [(.str "_law_top" 593),(.str "_law_bottom" 594),(.str "_law_one" 595),(.str "_law_other" 596)]
noncomputable def UI:Obj:=hF .none QC "_law_low" 0 .none .none
noncomputable def UH:Obj:=hC "_law_low" 590 591 592 598 293 294 295 296 297 208 2 0 0 3 181 597 208 MB
noncomputable def UG:Obj:=NC QC "_law_low" Nd 298
noncomputable def UE:Obj:=NG [(.str "_law_row" 603),(.str "_law_top" 604),(.str "_law_bottom" 605),(.str "_law_far" 606)]
noncomputable def UD:Obj:=hF .none QB "_law_scale" 0 .none .none
noncomputable def UC:Obj:=hC "_law_scale" 600 601 602 608 300 301 302 303 304 216 1 0 0 3 181 607 216 MB
noncomputable def UB:Obj:=NC QB "_law_scale" Nd 305
noncomputable def UA:Obj:=NG [(.str "_law_scale_here" 613),(.str "_law_unit" 614),(.str "_law_top" 615),(.str "_law_bottom" 616),(.str "_law_x" 617),(.str "_law_y" 618)]
noncomputable def Tz:Obj:=hF .none QA "_law_spot" 0 .none .none
noncomputable def Tw:Obj:=hC "_law_spot" 610 611 612 620 307 308 309 310 311 222 2 0 0 3 181 619 222 MB
noncomputable def Tv:Obj:=NC QA "_law_spot" Nd 312
noncomputable def Tu:Obj:=hF .none Pz "_law_made" 0 .none .none
noncomputable def Tt:Obj:=N5 "_law_made" "_law_made" 622 623 624 225 2 3 314 MB 315 .none .none (.ref 316) 625 626
noncomputable def Ts:Obj:=NC Pz "_law_made" Nd 317
noncomputable def Tr(P:Jo):Obj:=Pa 65 (hE P "__name__" 165 Nd::(Rb P).take 64)
noncomputable def Tq:Obj:={ cls:=.none,data:=.fields (JZ (O9.take 168)) }
noncomputable def Tp:Obj:=NG [(.str "_law_one" 631),(.str "_law_two" 632),(.str "_law_three" 633),(.str "_law_far" 634),(.str "_law_beside" 635),(.str "_law_found" 636)]
noncomputable def To:Obj:=hF .none Py "_law_turn" 0 .none .none
noncomputable def Tn:Obj:=hC "_law_turn" 628 629 630 638 319 320 321 322 323 227 3 0 0 3 181 637 227 MB
noncomputable def Tj:Obj:=NC Py "_law_turn" Nd 324
noncomputable def Ti:Obj:=NG [(.str "_law_shut" 643),(.str "_law_spot_here" 644)]
noncomputable def Th:Obj:=hF .none Px "_law_on" 0 .none .none
noncomputable def Tf:Obj:=hC "_law_on" 640 641 642 646 326 327 328 329 330 232 2 0 0 3 181 645 232 MB
noncomputable def Te:Obj:=NC Px "_law_on" Nd 331
noncomputable def Td:Obj:=hF .none Pw "_law_fair" 0 .none .none
noncomputable def Tc:Obj:=N5 "_law_fair" "_law_fair" 648 649 650 234 2 3 333 MB 334 .none .none (.ref 335) 651 652
noncomputable def Tb:Obj:=NC Pw "_law_fair" Nd 336
noncomputable def Ta:Obj:=hF .none Pu "_law_shuts_here" 0 .none .none
noncomputable def T9:Obj:=N5 "_law_shuts_here" "_law_shuts_here" 654 655 656 244 3 3 338 MB 339 .none .none (.ref 340) 657 658
noncomputable def T8:Obj:=NC Pu "_law_shuts_here" Nd 341
noncomputable def T7:Obj:=NG [(.str "_law_shuts" 663),(.str "_law_face" 664)]
noncomputable def T6:Obj:=hF .none Pt "_law_ends" 0 .none .none
noncomputable def T5:Obj:=hC "_law_ends" 660 661 662 666 343 344 345 346 347 255 2 0 0 3 181 665 255 MB
noncomputable def T4:Obj:=NC Pt "_law_ends" Nd 348
noncomputable def TZ:Obj:=hF .none Pr "_law_sooner" 0 .none .none
noncomputable def TY:Obj:=N5 "_law_sooner" "_law_sooner" 668 669 670 257 3 3 350 MB 351 .none .none (.ref 352) 671 672
noncomputable def TX:Obj:=NC Pr "_law_sooner" Nd 353
noncomputable def TV:Obj:=hF .none Pq "_law_behind" 0 .none .none
noncomputable def TU:Obj:=N5 "_law_behind" "_law_behind" 674 675 676 263 2 3 355 MB 356 .none .none (.ref 357) 677 678
noncomputable def TR:Obj:=NC Pq "_law_behind" Nd 358
noncomputable def TQ:Obj:=NG [(.str "_law_shuts" 683),(.str "_law_rings_here" 684),(.str "_law_gone" 685),(.str "_law_face" 686),(.str "_law_ring" 687)]
noncomputable def TN:Obj:=hF .none Pp "_law_rings" 0 .none .none
noncomputable def TM:Obj:=hC "_law_rings" 680 681 682 689 360 361 362 363 364 274 1 0 0 3 181 688 274 MB
noncomputable def TL:Obj:=NC Pp "_law_rings" Nd 365
noncomputable def TK:Obj:=hF .none Po "_law_twice" 0 .none .none
noncomputable def TJ:Obj:=N5 "_law_twice" "_law_twice" 691 692 693 285 2 3 367 MB 368 .none .none (.ref 369) 694 695
noncomputable def TH:Obj:=NC Po "_law_twice" Nd 370
noncomputable def TF:Obj:=NG [(.str "_law_shuts" 700),(.str "_law_ring" 701),(.str "_law_spot_here" 702),(.str "_law_many" 703),(.str "_law_face" 704),(.str "_law_one" 705),(.str "_law_other" 706),(.str "_law_low_here" 707),(.str "_law_high" 708)]
noncomputable def TC:Obj:=hF .none Pn "_law_inside" 0 .none .none
noncomputable def TB:Obj:=hC "_law_inside" 697 698 699 710 372 373 374 375 376 288 3 0 0 3 181 709 288 MB
noncomputable def Sz:Obj:=NC Pn "_law_inside" Nd 377
noncomputable def Sy:Obj:=NG [(.str "_law_shuts" 715),(.str "_law_outers" 716),(.str "_law_spot_here" 717),(.str "_law_areas" 718),(.str "_law_land" 719),(.str "_law_ring" 720)]
noncomputable def Sx:Obj:=hF .none Pm "_law_land_at" 0 .none .none
noncomputable def Sw:Obj:=hC "_law_land_at" 712 713 714 722 379 380 381 382 383 296 3 0 0 3 181 721 296 MB
noncomputable def Sv:Obj:=NC Pm "_law_land_at" Nd 384
noncomputable def Su:Obj:=hF .none Pl "_law_box" 0 .none .none
noncomputable def Ss:Obj:=N5 "_law_box" "_law_box" 724 725 726 302 2 3 386 MB 387 .none .none (.ref 388) 727 728
noncomputable def Sr:Obj:=NC Pl "_law_box" Nd 389
noncomputable def Sq:Obj:=NG [(.str "_law_row" 733),(.str "_law_many" 734),(.str "_law_found" 735),(.str "_law_number" 736)]
noncomputable def So:Obj:=hF .none Pk "_law_order" 0 .none .none
noncomputable def Sn:Obj:=hC "_law_order" 730 731 732 738 391 392 393 394 395 306 2 0 0 3 181 737 306 MB
noncomputable def Sm:Obj:=NC Pk "_law_order" Nd 396
noncomputable def Sl(P:Jo):Obj:=Pa 71 (hE P "__name__" 165 Nd::(Rb P).take 70)
noncomputable def Sk:Obj:={ cls:=.none,data:=.fields (JZ (O9.take 186)) }
noncomputable def Sj:Obj:=hF .none Pj "_law_set" 0 .none .none
noncomputable def Si:Obj:=N5 "_law_set" "_law_set" 740 741 742 311 1 3 398 MB 399 .none .none (.ref 400) 743 744
noncomputable def Sh:Obj:=NC Pj "_law_set" Nd 401
noncomputable def Sf:Obj:=NG [(.str "_law_row" 749),(.str "_law_shuts" 750),(.str "_law_size" 751),(.str "_law_way" 752),(.str "_law_first" 753),(.str "_law_second" 754),(.str "_law_below" 755),(.str "_law_part" 756),(.str "_law_x" 757)]
noncomputable def Se:Obj:=hF .none Ph "_law_wanted" 0 .none .none
noncomputable def Sd:Obj:=hC "_law_wanted" 746 747 748 759 403 404 405 406 407 326 3 0 0 3 181 758 326 MB
noncomputable def Sb:Obj:=NC Ph "_law_wanted" Nd 408
noncomputable def Sa:Obj:=NG [(.str "_law_scale_here" 764),(.str "_law_told" 765),(.str "_law_top" 766),(.str "_law_bottom" 767),(.str "_law_x" 768),(.str "_law_y" 769),(.str "_law_many" 770)]
noncomputable def S9:Obj:=hF .none Pg "_law_real" 0 .none .none
noncomputable def S8:Obj:=hC "_law_real" 761 762 763 772 410 411 412 413 414 336 2 0 0 3 181 771 336 MB
noncomputable def S7:Obj:=NC Pg "_law_real" Nd 415
noncomputable def S6:Obj:=hF .none Pe "_law_by" 0 .none .none
noncomputable def S5:Obj:=N5 "_law_by" "_law_by" 774 775 776 340 2 3 417 MB 418 .none .none (.ref 419) 777 778
noncomputable def S4:Obj:=NC Pe "_law_by" Nd 420
noncomputable def S3:Obj:=NG [(.str "_law_row" 783),(.str "_law_many" 784),(.str "_law_shuts" 785),(.str "_law_k" 786),(.str "_law_found" 787),(.str "_law_number" 788)]
noncomputable def S2:Obj:=hF .none Pc "_law_squares" 0 .none .none
noncomputable def S1:Obj:=hC "_law_squares" 780 781 782 790 422 423 424 425 426 342 1 0 0 3 181 789 342 MB
noncomputable def S0:Obj:=NC Pc "_law_squares" Nd 427
noncomputable def SY:Obj:=hF .none Pb "law" 0 .none .none
noncomputable def SX:Obj:=N5 "law" "law" 792 793 794 351 1 3 429 MB 430 .none .none (.ref 431) 795 796
noncomputable def SW:Obj:=NC Pb "law" Nd 432
noncomputable def ZJ(P:Jo):List Obj:=[PySem.W.boot_o_0 P,PySem.W.boot_o_1 P,PySem.W.boot_o_2 P,PySem.W.boot_o_3 P,PySem.W.boot_o_4 P,PySem.W.boot_o_5 P,PySem.W.boot_o_6 P,PySem.W.boot_o_7 P,PySem.W.boot_o_8 P,PySem.W.boot_o_9 P,PySem.W.boot_o_10 P,Xw,Xv,Xu,Xt,Xs P]
noncomputable def ZI(P:Jo):List Obj:=[Xr,Xq,Xp,Xo P,Xn,Xm,Xl P,Xk,Xj,Xi,Xh,Xg P,Xf,Xe,Xd,Xc P]
noncomputable def ZH(P:Jo):List Obj:=[Xb,Xa,X9 P,X8,X7,X6,X5,X4,X3,X2,X1,X0,XZ,XY,XX,XW]
noncomputable def ZG(P:Jo):List Obj:=[XU,XT,XS,XR,XQ,XO,XN,XM,XJ,XI,XH P,XG,XF,XE,XD,XC]
noncomputable def ZF(P:Jo):List Obj:=[XB,XA,Wz,Wy,Wx,Ww,Wv,Wu,Wt,Ws,Wr,Wq,Wo,Wn,Wm,Wk]
noncomputable def ZE(P:Jo):List Obj:=[Wj,Wi,Wh,Wg,Wf,We,Wd,Wc,Wb,Wa,W9,W7,W5,W4,W3,W2]
noncomputable def ZD(P:Jo):List Obj:=[W0,WZ,WY,WX,Vj,Vi,Vh,Vg,Vf,Ve,Vd,Vb,Va P,V9,V7,V6]
noncomputable def ZC(P:Jo):List Obj:=[V5,V4,V3,V2,V0,VZ,VY,VX,VW,VU,VT,VS,VR,VQ,VP,VO]
noncomputable def ZA(P:Jo):List Obj:=[VN,VM,VL,VJ,VI,VG,VF,VE,VD,VC,VB,VA,Uz,Uy,Ux,Uw]
noncomputable def Yz(P:Jo):List Obj:=[Uv,Uu,Ut,Us,Ur,Uq,Up,Uo,Um,Ul,Uk,Uj,Ui P,Uh,Ug,Ue]
noncomputable def YE(P:Jo):List Obj:=[Ud,Uc,Ub,Ua,U9,U8,U7,U6,U5,U4,U3,U2,U1,U0,UZ,UY]
noncomputable def YD(P:Jo):List Obj:=[UX,UW,UU,UT,US,UR,UQ,UP,UO,UN,UM,UL,UK,UJ,UI,UH]
noncomputable def YC(P:Jo):List Obj:=[UG,UE,UD,UC,UB,UA,Tz,Tw,Tv,Tu,Tt,Ts,Tr P,Tq,Tp,To]
noncomputable def YB(P:Jo):List Obj:=[Tn,Tj,Ti,Th,Tf,Te,Td,Tc,Tb,Ta,T9,T8,T7,T6,T5,T4]
noncomputable def YA(P:Jo):List Obj:=[TZ,TY,TX,TV,TU,TR,TQ,TN,TM,TL,TK,TJ,TH,TF,TC,TB]
noncomputable def Xz(P:Jo):List Obj:=[Sz,Sy,Sx,Sw,Sv,Su,Ss,Sr,Sq,So,Sn,Sm,Sl P,Sk,Sj,Si]
noncomputable def Xy(P:Jo):List Obj:=[Sh,Sf,Se,Sd,Sb,Sa,S9,S8,S7,S6,S5,S4,S3,S2,S1,S0]
noncomputable def Xx(P:Jo):List Obj:=[SY,SX,SW]
noncomputable def fA(c i:Nat)(P:Jo):Obj:=(([ZJ P,ZI P,ZH P,ZG P,ZF P,ZE P,ZD P,ZC P,ZA P,Yz P,YE P,YD P,YC P,YB P,YA P,Xz P,Xy P,Xx P]:List (List Obj)).getD c []).getD i { cls:=.none }
noncomputable def Ym(n:Nat->Jj->Jj->Jj)(e:Jj):Jj:=(fun m:Nat->Jj=>(n 0 (n 1 (n 3 (m 7) (m 11)) (n 5 (m 9) (m 13))) (n 2 (n 4 (m 8) (m 12)) (n 6 (m 10) (m 14))))) fun a=>n a e e
noncomputable def tX0(f:Nat->Nat->Jo->Obj)(P:Jo):Jj:=Ym (fun k=>.node (f (k/16) (k%16) P)) .nil
noncomputable def Yl(n:Nat->Jj->Jj->Jj)(e:Jj):Jj:=(fun m:Nat->Jj=>(n 0 (n 1 (n 15 (n 7 (m 17) (m 22)) (n 11 (m 12) (m 26))) (n 5 (n 9 (m 19) (m 24)) (n 13 (m 21) e))) (n 2 (n 4 (n 8 (m 18) (m 23)) (n 16 (m 20) e)) (n 6 (n 10 (m 11) (m 25)) (n 14 (m 11) e))))) fun a=>n a e e
noncomputable def tX1(f:Nat->Nat->Jo->Obj)(P:Jo):Jj:=Yl (fun k=>.node (f (k/16) (k%16) P)) .nil
noncomputable def Yk(n:Nat->Jj->Jj->Jj)(e:Jj):Jj:=(fun m:Nat->Jj=>(n 0 (n 1 (n 27 (n 7 (n 17 (n 11 (m 50) e) (m 11)) (n 22 (n 37 (m 11) e) (m 12))) (n 11 (n 12 (n 11 (m 53) e) (m 43)) (n 26 (m 11) (m 48)))) (n 5 (n 9 (n 19 (n 32 (m 51) e) (m 42)) (n 24 (n 12 (m 56) e) (m 11))) (n 13 (n 21 (n 35 (m 12) e) (m 45)) (n 18 (m 40) (m 11))))) (n 2 (n 4 (n 8 (n 18 (n 12 (m 11) e) (m 12)) (n 29 (n 11 (m 55) e) (m 46))) (n 28 (n 20 (n 34 (m 11) e) (m 44)) (n 30 (m 39) (m 49)))) (n 6 (n 10 (n 11 (n 33 (m 52) e) (m 11)) (n 25 (n 38 (m 57) e) (m 47))) (n 14 (n 11 (n 36 (m 54) e) (m 11)) (n 31 (m 41) (m 12))))))) fun a=>n a e e
noncomputable def tX2(f:Nat->Nat->Jo->Obj)(P:Jo):Jj:=Yk (fun k=>.node (f (k/16) (k%16) P)) .nil
noncomputable def Yj(n:Nat->Jj->Jj->Jj)(e:Jj):Jj:=(fun m:Nat->Jj=>(n 0 (n 1 (n 58 (n 7 (n 17 (n 11 (n 50 (m 11) e) (m 71)) (n 11 (n 61 (m 98) e) (m 12))) (n 22 (n 37 (n 11 (m 93) e) (m 11)) (n 12 (n 66 (m 103) e) (m 84)))) (n 11 (n 12 (n 11 (n 53 (m 11) e) (m 11)) (n 43 (n 12 (m 100) e) (m 82))) (n 26 (n 11 (n 11 (m 12) e) (m 77)) (n 48 (n 68 (m 11) e) (m 87))))) (n 5 (n 9 (n 19 (n 32 (n 51 (m 90) e) (m 12)) (n 42 (n 63 (m 11) e) (m 11))) (n 24 (n 12 (n 56 (m 95) e) (m 76)) (n 11 (n 11 (m 12) e) (m 85)))) (n 13 (n 21 (n 35 (n 12 (m 92) e) (m 74)) (n 45 (n 11 (m 101) e) (m 11))) (n 18 (n 40 (n 60 (m 11) e) (m 79)) (n 11 (n 69 (m 106) e) (m 12)))))) (n 2 (n 4 (n 8 (n 18 (n 12 (n 11 (m 89) e) (m 11)) (n 12 (n 62 (m 99) e) (m 80))) (n 29 (n 11 (n 55 (m 94) e) (m 12)) (n 46 (n 67 (m 11) e) (m 11)))) (n 59 (n 20 (n 34 (n 11 (m 12) e) (m 73)) (n 44 (n 64 (m 11) e) (m 83))) (n 30 (n 39 (n 12 (m 96) e) (m 78)) (n 49 (n 11 (m 105) e) (m 11))))) (n 6 (n 10 (n 11 (n 33 (n 52 (m 91) e) (m 72)) (n 11 (n 11 (m 12) e) (m 81))) (n 25 (n 38 (n 57 (m 11) e) (m 11)) (n 47 (n 12 (m 104) e) (m 86)))) (n 14 (n 11 (n 36 (n 54 (m 11) e) (m 75)) (n 11 (n 65 (m 102) e) (m 12))) (n 31 (n 41 (n 11 (m 97) e) (m 11)) (n 12 (n 70 (m 107) e) (m 88)))))))) fun a=>n a e e
noncomputable def tX3(f:Nat->Nat->Jo->Obj)(P:Jo):Jj:=Yj (fun k=>.node (f (k/16) (k%16) P)) .nil
noncomputable def Yi(n:Nat->Jj->Jj->Jj)(e:Jj):Jj:=(fun m:Nat->Jj=>(n 0 (n 1 (n 108 (n 7 (n 17 (n 11 (n 50 (m 11) (m 128)) (n 71 (m 11) (m 146))) (n 11 (n 61 (m 98) (m 12)) (n 12 (m 118) e))) (n 22 (n 37 (n 11 (m 93) (m 11)) (n 11 (m 12) (m 151))) (n 12 (n 66 (m 103) (m 141)) (n 84 (m 123) e)))) (n 11 (n 12 (n 11 (n 53 (m 11) (m 11)) (n 11 (m 111) (m 148))) (n 43 (n 12 (m 100) (m 139)) (n 82 (m 12) e))) (n 26 (n 11 (n 11 (m 12) (m 134)) (n 77 (m 116) (m 11))) (n 48 (n 68 (m 11) (m 144)) (n 87 (m 125) e))))) (n 5 (n 9 (n 19 (n 32 (n 51 (m 90) (m 12)) (n 12 (m 110) (m 11))) (n 42 (n 63 (m 11) (m 11)) (n 11 (m 120) e))) (n 24 (n 12 (n 56 (m 95) (m 133)) (n 76 (m 11) (m 12))) (n 11 (n 11 (m 12) (m 142)) (n 85 (m 11) e)))) (n 13 (n 21 (n 35 (n 12 (m 92) (m 131)) (n 74 (m 113) (m 149))) (n 45 (n 11 (m 101) (m 11)) (n 11 (m 11) e))) (n 18 (n 40 (n 60 (m 11) (m 136)) (n 79 (m 11) (m 154))) (n 11 (n 69 (m 106) (m 12)) (n 12 (m 126) e)))))) (n 2 (n 4 (n 8 (n 18 (n 12 (n 11 (m 89) (m 11)) (n 11 (m 12) (m 147))) (n 12 (n 62 (m 99) (m 137)) (n 80 (m 119) e))) (n 29 (n 11 (n 55 (m 94) (m 12)) (n 12 (m 114) (m 11))) (n 46 (n 67 (m 11) (m 11)) (n 11 (m 124) e)))) (n 109 (n 20 (n 34 (n 11 (m 12) (m 130)) (n 73 (m 112) (m 11))) (n 44 (n 64 (m 11) (m 140)) (n 83 (m 121) e))) (n 30 (n 39 (n 12 (m 96) (m 135)) (n 78 (m 117) (m 153))) (n 49 (n 11 (m 105) (m 11)) (n 11 (m 11) e))))) (n 6 (n 10 (n 11 (n 33 (n 52 (m 91) (m 129)) (n 72 (m 11) (m 12))) (n 11 (n 11 (m 12) (m 138)) (n 81 (m 11) e))) (n 25 (n 38 (n 57 (m 11) (m 11)) (n 11 (m 115) (m 152))) (n 47 (n 12 (m 104) (m 143)) (n 86 (m 12) e)))) (n 14 (n 11 (n 36 (n 54 (m 11) (m 132)) (n 75 (m 11) (m 150))) (n 11 (n 65 (m 102) (m 12)) (n 12 (m 122) e))) (n 31 (n 41 (n 11 (m 97) (m 11)) (n 11 (m 12) (m 155))) (n 12 (n 70 (m 107) (m 145)) (n 88 (m 127) e)))))))) fun a=>n a e e
noncomputable def tX4(f:Nat->Nat->Jo->Obj)(P:Jo):Jj:=Yi (fun k=>.node (f (k/16) (k%16) P)) .nil
noncomputable def Yh(n:Nat->Jj->Jj->Jj)(e:Jj):Jj:=(fun m:Nat->Jj=>(n 0 (n 1 (n 156 (n 7 (n 17 (n 11 (n 50 (n 11 (m 166) e) (m 128)) (n 71 (n 11 (m 12) e) (m 146))) (n 11 (n 61 (n 98 (m 176) e) (m 12)) (n 12 (n 118 (m 11) e) (m 11)))) (n 22 (n 37 (n 11 (n 93 (m 171) e) (m 11)) (n 11 (n 12 (m 189) e) (m 151))) (n 12 (n 66 (n 103 (m 11) e) (m 141)) (n 84 (n 123 (m 198) e) (m 12))))) (n 11 (n 12 (n 11 (n 53 (n 11 (m 12) e) (m 11)) (n 11 (n 111 (m 187) e) (m 148))) (n 43 (n 12 (n 100 (m 11) e) (m 139)) (n 82 (n 12 (m 11) e) (m 159)))) (n 26 (n 11 (n 11 (n 12 (m 173) e) (m 134)) (n 77 (n 116 (m 192) e) (m 11))) (n 48 (n 68 (n 11 (m 182) e) (m 144)) (n 87 (n 125 (m 12) e) (m 11)))))) (n 5 (n 9 (n 19 (n 32 (n 51 (n 90 (m 168) e) (m 12)) (n 12 (n 110 (m 11) e) (m 11))) (n 42 (n 63 (n 11 (m 12) e) (m 11)) (n 11 (n 120 (m 195) e) (m 158)))) (n 24 (n 12 (n 56 (n 95 (m 11) e) (m 133)) (n 76 (n 11 (m 190) e) (m 12))) (n 11 (n 11 (n 12 (m 181) e) (m 142)) (n 85 (n 11 (m 200) e) (m 163))))) (n 13 (n 21 (n 35 (n 12 (n 92 (m 11) e) (m 131)) (n 74 (n 113 (m 11) e) (m 149))) (n 45 (n 11 (n 101 (m 179) e) (m 11)) (n 11 (n 11 (m 197) e) (m 161)))) (n 18 (n 40 (n 60 (n 11 (m 174) e) (m 136)) (n 79 (n 11 (m 12) e) (m 154))) (n 11 (n 69 (n 106 (m 184) e) (m 12)) (n 12 (n 126 (m 202) e) (m 165))))))) (n 2 (n 4 (n 8 (n 18 (n 12 (n 11 (n 89 (m 167) e) (m 11)) (n 11 (n 12 (m 185) e) (m 147))) (n 12 (n 62 (n 99 (m 11) e) (m 137)) (n 80 (n 119 (m 194) e) (m 12)))) (n 29 (n 11 (n 55 (n 94 (m 172) e) (m 12)) (n 12 (n 114 (m 11) e) (m 11))) (n 46 (n 67 (n 11 (m 12) e) (m 11)) (n 11 (n 124 (m 199) e) (m 162))))) (n 157 (n 20 (n 34 (n 11 (n 12 (m 169) e) (m 130)) (n 73 (n 112 (m 188) e) (m 11))) (n 44 (n 64 (n 11 (m 178) e) (m 140)) (n 83 (n 121 (m 12) e) (m 160)))) (n 30 (n 39 (n 12 (n 96 (m 11) e) (m 135)) (n 78 (n 117 (m 11) e) (m 153))) (n 49 (n 11 (n 105 (m 183) e) (m 11)) (n 11 (n 11 (m 201) e) (m 12)))))) (n 6 (n 10 (n 11 (n 33 (n 52 (n 91 (m 11) e) (m 129)) (n 72 (n 11 (m 186) e) (m 12))) (n 11 (n 11 (n 12 (m 177) e) (m 138)) (n 81 (n 11 (m 196) e) (m 11)))) (n 25 (n 38 (n 57 (n 11 (m 12) e) (m 11)) (n 11 (n 115 (m 191) e) (m 152))) (n 47 (n 12 (n 104 (m 11) e) (m 143)) (n 86 (n 12 (m 11) e) (m 164))))) (n 14 (n 11 (n 36 (n 54 (n 11 (m 170) e) (m 132)) (n 75 (n 11 (m 12) e) (m 150))) (n 11 (n 65 (n 102 (m 180) e) (m 12)) (n 12 (n 122 (m 11) e) (m 11)))) (n 31 (n 41 (n 11 (n 97 (m 175) e) (m 11)) (n 11 (n 12 (m 193) e) (m 155))) (n 12 (n 70 (n 107 (m 11) e) (m 145)) (n 88 (n 127 (m 203) e) (m 11))))))))) fun a=>n a e e
noncomputable def tX5(f:Nat->Nat->Jo->Obj)(P:Jo):Jj:=Yh (fun k=>.node (f (k/16) (k%16) P)) .nil
noncomputable def Yg(n:Nat->Jj->Jj->Jj)(e:Jj):Jj:=(fun m:Nat->Jj=>(n 0 (n 1 (n 204 (n 7 (n 17 (n 11 (n 50 (n 11 (m 166) (m 242)) (n 128 (m 11) e)) (n 71 (n 11 (m 12) e) (n 146 (m 12) e))) (n 11 (n 61 (n 98 (m 176) e) (n 12 (m 214) e)) (n 12 (n 118 (m 11) e) (n 11 (m 11) e)))) (n 22 (n 37 (n 11 (n 93 (m 171) (m 11)) (n 11 (m 12) e)) (n 11 (n 12 (m 189) e) (n 151 (m 229) e))) (n 12 (n 66 (n 103 (m 11) e) (n 141 (m 11) e)) (n 84 (n 123 (m 198) e) (n 12 (m 11) e))))) (n 11 (n 12 (n 11 (n 53 (n 11 (m 12) (m 12)) (n 11 (m 207) e)) (n 11 (n 111 (m 187) e) (n 148 (m 11) e))) (n 43 (n 12 (n 100 (m 11) e) (n 139 (m 12) e)) (n 82 (n 12 (m 11) e) (n 159 (m 236) e)))) (n 26 (n 11 (n 11 (n 12 (m 173) (m 249)) (n 134 (m 212) e)) (n 77 (n 116 (m 192) e) (n 11 (m 11) e))) (n 48 (n 68 (n 11 (m 182) e) (n 144 (m 221) e)) (n 87 (n 125 (m 12) e) (n 11 (m 11) e)))))) (n 5 (n 9 (n 19 (n 32 (n 51 (n 90 (m 168) (m 244)) (n 12 (m 206) e)) (n 12 (n 110 (m 11) e) (n 11 (m 225) e))) (n 42 (n 63 (n 11 (m 12) e) (n 11 (m 216) e)) (n 11 (n 120 (m 195) e) (n 158 (m 234) e)))) (n 24 (n 12 (n 56 (n 95 (m 11) (m 248)) (n 133 (m 11) e)) (n 76 (n 11 (m 190) e) (n 12 (m 12) e))) (n 11 (n 11 (n 12 (m 181) e) (n 142 (m 220) e)) (n 85 (n 11 (m 200) e) (n 163 (m 239) e))))) (n 13 (n 21 (n 35 (n 12 (n 92 (m 11) (m 246)) (n 131 (m 209) e)) (n 74 (n 113 (m 11) e) (n 149 (m 227) e))) (n 45 (n 11 (n 101 (m 179) e) (n 11 (m 218) e)) (n 11 (n 11 (m 197) e) (n 161 (m 12) e)))) (n 18 (n 40 (n 60 (n 11 (m 174) (m 251)) (n 136 (m 11) e)) (n 79 (n 11 (m 12) e) (n 154 (m 232) e))) (n 11 (n 69 (n 106 (m 184) e) (n 12 (m 223) e)) (n 12 (n 126 (m 202) e) (n 165 (m 241) e))))))) (n 2 (n 4 (n 8 (n 18 (n 12 (n 11 (n 89 (m 167) (m 243)) (n 11 (m 12) e)) (n 11 (n 12 (m 185) e) (n 147 (m 224) e))) (n 12 (n 62 (n 99 (m 11) e) (n 137 (m 215) e)) (n 80 (n 119 (m 194) e) (n 12 (m 12) e)))) (n 29 (n 11 (n 55 (n 94 (m 172) (m 12)) (n 12 (m 210) e)) (n 12 (n 114 (m 11) e) (n 11 (m 11) e))) (n 46 (n 67 (n 11 (m 12) e) (n 11 (m 12) e)) (n 11 (n 124 (m 199) e) (n 162 (m 238) e))))) (n 205 (n 20 (n 34 (n 11 (n 12 (m 169) (m 245)) (n 130 (m 208) e)) (n 73 (n 112 (m 188) e) (n 11 (m 12) e))) (n 44 (n 64 (n 11 (m 178) e) (n 140 (m 217) e)) (n 83 (n 121 (m 12) e) (n 160 (m 11) e)))) (n 30 (n 39 (n 12 (n 96 (m 11) (m 250)) (n 135 (m 213) e)) (n 78 (n 117 (m 11) e) (n 153 (m 231) e))) (n 49 (n 11 (n 105 (m 183) e) (n 11 (m 222) e)) (n 11 (n 11 (m 201) e) (n 12 (m 12) e)))))) (n 6 (n 10 (n 11 (n 33 (n 52 (n 91 (m 11) (m 11)) (n 129 (m 11) e)) (n 72 (n 11 (m 186) e) (n 12 (m 226) e))) (n 11 (n 11 (n 12 (m 177) e) (n 138 (m 11) e)) (n 81 (n 11 (m 196) e) (n 11 (m 235) e)))) (n 25 (n 38 (n 57 (n 11 (m 12) (m 11)) (n 11 (m 211) e)) (n 11 (n 115 (m 191) e) (n 152 (m 230) e))) (n 47 (n 12 (n 104 (m 11) e) (n 143 (m 11) e)) (n 86 (n 12 (m 11) e) (n 164 (m 240) e))))) (n 14 (n 11 (n 36 (n 54 (n 11 (m 170) (m 247)) (n 132 (m 11) e)) (n 75 (n 11 (m 12) e) (n 150 (m 228) e))) (n 11 (n 65 (n 102 (m 180) e) (n 12 (m 219) e)) (n 12 (n 122 (m 11) e) (n 11 (m 237) e)))) (n 31 (n 41 (n 11 (n 97 (m 175) e) (n 11 (m 12) e)) (n 11 (n 12 (m 193) e) (n 155 (m 233) e))) (n 12 (n 70 (n 107 (m 11) e) (n 145 (m 11) e)) (n 88 (n 127 (m 203) e) (n 11 (m 11) e))))))))) fun a=>n a e e
noncomputable def tX6(f:Nat->Nat->Jo->Obj)(P:Jo):Jj:=Yg (fun k=>.node (f (k/16) (k%16) P)) .nil
noncomputable def Yf(n:Nat->Jj->Jj->Jj)(e:Jj):Jj:=(fun m:Nat->Jj=>(n 0 (n 1 (n 252 (n 7 (n 17 (n 11 (n 50 (n 11 (m 166) (m 242)) (n 128 (m 11) e)) (n 71 (n 11 (m 12) (m 263)) (n 146 (m 12) e))) (n 11 (n 61 (n 98 (m 176) (m 12)) (n 12 (m 214) e)) (n 12 (n 118 (m 11) (m 272)) (n 11 (m 11) e)))) (n 22 (n 37 (n 11 (n 93 (m 171) (m 11)) (n 11 (m 12) e)) (n 11 (n 12 (m 189) (m 12)) (n 151 (m 229) e))) (n 12 (n 66 (n 103 (m 11) (m 258)) (n 141 (m 11) e)) (n 84 (n 123 (m 198) e) (n 12 (m 11) e))))) (n 11 (n 12 (n 11 (n 53 (n 11 (m 12) (m 12)) (n 11 (m 207) e)) (n 11 (n 111 (m 187) (m 265)) (n 148 (m 11) e))) (n 43 (n 12 (n 100 (m 11) (m 11)) (n 139 (m 12) e)) (n 82 (n 12 (m 11) e) (n 159 (m 236) e)))) (n 26 (n 11 (n 11 (n 12 (m 173) (m 249)) (n 134 (m 212) e)) (n 77 (n 116 (m 192) (m 270)) (n 11 (m 11) e))) (n 48 (n 68 (n 11 (m 182) (m 12)) (n 144 (m 221) e)) (n 87 (n 125 (m 12) e) (n 11 (m 11) e)))))) (n 5 (n 9 (n 19 (n 32 (n 51 (n 90 (m 168) (m 244)) (n 12 (m 206) e)) (n 12 (n 110 (m 11) (m 11)) (n 11 (m 225) e))) (n 42 (n 63 (n 11 (m 12) (m 255)) (n 11 (m 216) e)) (n 11 (n 120 (m 195) (m 274)) (n 158 (m 234) e)))) (n 24 (n 12 (n 56 (n 95 (m 11) (m 248)) (n 133 (m 11) e)) (n 76 (n 11 (m 190) (m 11)) (n 12 (m 12) e))) (n 11 (n 11 (n 12 (m 181) (m 260)) (n 142 (m 220) e)) (n 85 (n 11 (m 200) e) (n 163 (m 239) e))))) (n 13 (n 21 (n 35 (n 12 (n 92 (m 11) (m 246)) (n 131 (m 209) e)) (n 74 (n 113 (m 11) (m 267)) (n 149 (m 227) e))) (n 45 (n 11 (n 101 (m 179) (m 257)) (n 11 (m 218) e)) (n 11 (n 11 (m 197) e) (n 161 (m 12) e)))) (n 18 (n 40 (n 60 (n 11 (m 174) (m 251)) (n 136 (m 11) e)) (n 79 (n 11 (m 12) (m 11)) (n 154 (m 232) e))) (n 11 (n 69 (n 106 (m 184) (m 11)) (n 12 (m 223) e)) (n 12 (n 126 (m 202) e) (n 165 (m 241) e))))))) (n 2 (n 4 (n 8 (n 18 (n 12 (n 11 (n 89 (m 167) (m 243)) (n 11 (m 12) e)) (n 11 (n 12 (m 185) (m 264)) (n 147 (m 224) e))) (n 12 (n 62 (n 99 (m 11) (m 254)) (n 137 (m 215) e)) (n 80 (n 119 (m 194) (m 273)) (n 12 (m 12) e)))) (n 29 (n 11 (n 55 (n 94 (m 172) (m 12)) (n 12 (m 210) e)) (n 12 (n 114 (m 11) (m 268)) (n 11 (m 11) e))) (n 46 (n 67 (n 11 (m 12) (m 259)) (n 11 (m 12) e)) (n 11 (n 124 (m 199) e) (n 162 (m 238) e))))) (n 253 (n 20 (n 34 (n 11 (n 12 (m 169) (m 245)) (n 130 (m 208) e)) (n 73 (n 112 (m 188) (m 266)) (n 11 (m 12) e))) (n 44 (n 64 (n 11 (m 178) (m 12)) (n 140 (m 217) e)) (n 83 (n 121 (m 12) e) (n 160 (m 11) e)))) (n 30 (n 39 (n 12 (n 96 (m 11) (m 250)) (n 135 (m 213) e)) (n 78 (n 117 (m 11) (m 271)) (n 153 (m 231) e))) (n 49 (n 11 (n 105 (m 183) (m 261)) (n 11 (m 222) e)) (n 11 (n 11 (m 201) e) (n 12 (m 12) e)))))) (n 6 (n 10 (n 11 (n 33 (n 52 (n 91 (m 11) (m 11)) (n 129 (m 11) e)) (n 72 (n 11 (m 186) (m 12)) (n 12 (m 226) e))) (n 11 (n 11 (n 12 (m 177) (m 256)) (n 138 (m 11) e)) (n 81 (n 11 (m 196) e) (n 11 (m 235) e)))) (n 25 (n 38 (n 57 (n 11 (m 12) (m 11)) (n 11 (m 211) e)) (n 11 (n 115 (m 191) (m 269)) (n 152 (m 230) e))) (n 47 (n 12 (n 104 (m 11) (m 11)) (n 143 (m 11) e)) (n 86 (n 12 (m 11) e) (n 164 (m 240) e))))) (n 14 (n 11 (n 36 (n 54 (n 11 (m 170) (m 247)) (n 132 (m 11) e)) (n 75 (n 11 (m 12) (m 11)) (n 150 (m 228) e))) (n 11 (n 65 (n 102 (m 180) (m 11)) (n 12 (m 219) e)) (n 12 (n 122 (m 11) e) (n 11 (m 237) e)))) (n 31 (n 41 (n 11 (n 97 (m 175) (m 11)) (n 11 (m 12) e)) (n 11 (n 12 (m 193) (m 12)) (n 155 (m 233) e))) (n 12 (n 70 (n 107 (m 11) (m 262)) (n 145 (m 11) e)) (n 88 (n 127 (m 203) e) (n 11 (m 11) e))))))))) fun a=>n a e e
noncomputable def tX7(f:Nat->Nat->Jo->Obj)(P:Jo):Jj:=Yf (fun k=>.node (f (k/16) (k%16) P)) .nil
noncomputable def hX0(f:Nat->Nat->Jo->Obj)(P:Jo):oa:=(fun g:Nat->Obj=>(⟨⟨[g 0,g 1,g 2,g 3,g 4,g 5,g 6,g 7,g 8,g 9,g 10,g 11,g 12,g 13,g 14]⟩,{}⟩:oa)) fun k=>f (k/16) (k%16) P
noncomputable def hX1(f:Nat->Nat->Jo->Obj)(P:Jo):oa:=(fun g:Nat->Obj=>(⟨⟨[g 0,g 1,g 2,g 252,g 4,g 5,g 6,g 7,g 8,g 9,g 10,g 11,g 253,g 13,g 14,g 17,g 18,g 19,g 11,g 12,g 20,g 21,g 11,g 22,g 29,g 24,g 25,g 26,g 30,g 18,g 31,g 11,g 12,g 32,g 33,g 11,g 34,g 35,g 36,g 37,g 11,g 12,g 38,g 11,g 39,g 40,g 41,g 11,g 12,g 42,g 11,g 43,g 44,g 45,g 11,g 12,g 46,g 11,g 47,g 48,g 49,g 11,g 12,g 50,g 11,g 51,g 52,g 53,g 11,g 12,g 54,g 11,g 55,g 56,g 57,g 11,g 12,g 60,g 11,g 61,g 62,g 63,g 11,g 12,g 64,g 11,g 65,g 66,g 67,g 11,g 12,g 68,g 11,g 69,g 70,g 71,g 11,g 12,g 72,g 11,g 73,g 74,g 75,g 11,g 12,g 76,g 11,g 77,g 78,g 79,g 11,g 12,g 80,g 11,g 81,g 82,g 83,g 11,g 12,g 84,g 11,g 85,g 86,g 87,g 11,g 12,g 88,g 11,g 89,g 90,g 91,g 11,g 12,g 92,g 11,g 93,g 94,g 95,g 11,g 12,g 96,g 11,g 97,g 98,g 99,g 11,g 12,g 100,g 11,g 101,g 102,g 103,g 11,g 12,g 104,g 11,g 105,g 106,g 107,g 11,g 12,g 110,g 11,g 111,g 112,g 113,g 11,g 12,g 114,g 11,g 115,g 116,g 117,g 11,g 12,g 118,g 119,g 120,g 11,g 12,g 121,g 11,g 122,g 123,g 124,g 11,g 12,g 125,g 11,g 126,g 127,g 128,g 11,g 12,g 129,g 11,g 130,g 131,g 132,g 11,g 12,g 133,g 11,g 134,g 135,g 136,g 11,g 12,g 137,g 11,g 138,g 139,g 140,g 11,g 12,g 141,g 11,g 142,g 143,g 144,g 11,g 12,g 145,g 146,g 147,g 11,g 12,g 148,g 11,g 149,g 150,g 151,g 11,g 12,g 152,g 11,g 153,g 154,g 155,g 11,g 12,g 158,g 11,g 159,g 160,g 161,g 11,g 12,g 162,g 163,g 164,g 11,g 12,g 165,g 11,g 166,g 167,g 168,g 11,g 12,g 169,g 11,g 170,g 171,g 172,g 11,g 12,g 173,g 11,g 174,g 175,g 176,g 11,g 12,g 177,g 11,g 178,g 179,g 180,g 11,g 12,g 181,g 11,g 182,g 183,g 184,g 11,g 12,g 185,g 11,g 186,g 187,g 188,g 11,g 12,g 189,g 11,g 190,g 191,g 192,g 11,g 12,g 193,g 11,g 194,g 195,g 196,g 11,g 12,g 197,g 11,g 198,g 199,g 200,g 11,g 12,g 201,g 202,g 203,g 11,g 12,g 206,g 11,g 207,g 208,g 209,g 11,g 12,g 210,g 11,g 211,g 212,g 213,g 11,g 12,g 214,g 215,g 216,g 11,g 12,g 217,g 218,g 219,g 11,g 12,g 220,g 11,g 221,g 222,g 223,g 11,g 12,g 224,g 225,g 226,g 11,g 12,g 227,g 228,g 229,g 11,g 12,g 230,g 11,g 231,g 232,g 233,g 11,g 12,g 234,g 235,g 236,g 11,g 12,g 237,g 11,g 238,g 239,g 240,g 11,g 12,g 241,g 11,g 242,g 243,g 244,g 11,g 12,g 245,g 246,g 247,g 11,g 12,g 248,g 11,g 249,g 250,g 251,g 11,g 12,g 254,g 255,g 256,g 11,g 12,g 257,g 11,g 258,g 259,g 260,g 11,g 12,g 261,g 11,g 262,g 263,g 264,g 11,g 12,g 265,g 266,g 267,g 11,g 12,g 268,g 11,g 269,g 270,g 271,g 11,g 12,g 272,g 273,g 274]⟩,{}⟩:oa)) fun k=>f (k/16) (k%16) P
theorem laid:(fun(_:Jk) (_:Jk) (_:Nat->Nat->Jo->Obj) (_:q_) (_:q_) (_:q_) (_:q_) (_:q_) (_:q_) (_:q_)=>MB) pw2 vw fA sx0 sx1 sx2 sx3 sx4 sx5 sx6=MB:=by k_qdec
end QQ
namespace PySem.W.Fast
noncomputable def tw18215963062070938245:Jk:=tw4061903402435717205
theorem te18215963062070938245:JE=tw18215963062070938245:=Eq.trans (by kernel_rfl:JE=QQ.pw2) te4061903402435717205
noncomputable def tw15890747667097110147:Jk:=tw2543460329597916322
theorem te15890747667097110147:QQ.vw=tw15890747667097110147:=te2543460329597916322
noncomputable def tw9824663247742023231:q_:=tw4220349153739756805
theorem te9824663247742023231:QQ.sx0=tw9824663247742023231:=te4220349153739756805
noncomputable def tw1674146612056848814:q_:=tw11397161696757032129
theorem te1674146612056848814:QQ.sx1=tw1674146612056848814:=te11397161696757032129
noncomputable def tw367336719904117957:q_:=tw10303515436491237874
theorem te367336719904117957:QQ.sx2=tw367336719904117957:=te10303515436491237874
noncomputable def tw2346592686992231719:q_:=tw12358083906500975388
theorem te2346592686992231719:QQ.sx3=tw2346592686992231719:=te12358083906500975388
noncomputable def tw11045159049077844441:q_:=tw2861187580803015100
theorem te11045159049077844441:QQ.sx4=tw11045159049077844441:=te2861187580803015100
noncomputable def tw1925692493158204310:q_:=tw9932084693255007381
theorem te1925692493158204310:QQ.sx5=tw1925692493158204310:=te9932084693255007381
noncomputable def tw10502227172535400616:q_:=tw1890974291257386441
theorem te10502227172535400616:QQ.sx6=tw10502227172535400616:=te1890974291257386441
noncomputable def tw15793572851139973172:Jo->BT:=QQ.tX0 tw16523235828492288951
theorem te15793572851139973172:QQ.tX0 QQ.fA=tw15793572851139973172:=congrArg QQ.tX0 te16523235828492288951
noncomputable def tw10252048951991175977:Jo->BT:=QQ.tX1 tw16523235828492288951
theorem te10252048951991175977:QQ.tX1 QQ.fA=tw10252048951991175977:=congrArg QQ.tX1 te16523235828492288951
noncomputable def tw12897421279949330345:Jo->BT:=QQ.tX2 tw16523235828492288951
theorem te12897421279949330345:QQ.tX2 QQ.fA=tw12897421279949330345:=congrArg QQ.tX2 te16523235828492288951
noncomputable def tw3622163761575408992:Jo->BT:=QQ.tX3 tw16523235828492288951
theorem te3622163761575408992:QQ.tX3 QQ.fA=tw3622163761575408992:=congrArg QQ.tX3 te16523235828492288951
noncomputable def tw4633328202540728236:Jo->BT:=QQ.tX4 tw16523235828492288951
theorem te4633328202540728236:QQ.tX4 QQ.fA=tw4633328202540728236:=congrArg QQ.tX4 te16523235828492288951
noncomputable def tw12779805425406941210:Jo->BT:=QQ.tX5 tw16523235828492288951
theorem te12779805425406941210:QQ.tX5 QQ.fA=tw12779805425406941210:=congrArg QQ.tX5 te16523235828492288951
noncomputable def tw4963470267206342213:Jo->BT:=QQ.tX6 tw16523235828492288951
theorem te4963470267206342213:QQ.tX6 QQ.fA=tw4963470267206342213:=congrArg QQ.tX6 te16523235828492288951
noncomputable def tw1246551687078407722:Jo->BT:=QQ.tX7 tw16523235828492288951
theorem te1246551687078407722:QQ.tX7 QQ.fA=tw1246551687078407722:=congrArg QQ.tX7 te16523235828492288951
noncomputable def tw13973220343450828598:Jo->PySem.Heap:=QQ.hX0 tw16523235828492288951
theorem te13973220343450828598:QQ.hX0 QQ.fA=tw13973220343450828598:=congrArg QQ.hX0 te16523235828492288951
noncomputable def tw14518059810845957989:Jo->PySem.Heap:=QQ.hX1 tw16523235828492288951
theorem te14518059810845957989:QQ.hX1 QQ.fA=tw14518059810845957989:=congrArg QQ.hX1 te16523235828492288951
end PySem.W.Fast
end
open PySem PySem.W PyProof.Rows
set_option maxRecDepth 100000 in
set_option maxHeartbeats 0 in
theorem PySem.Challenge.cw_spotlook_k25_lands_looked_at_holds : PySem.Challenge.rw_spotlook_k25_lands_looked_at.Holds := by
 w_on;o_law;o_head (PySem.W.kHook QQ.kK [↑3,↑45,↑46,↑52,↑53,↑59,↑60,↑66,↑67,↑73,↑74,↑80,↑81,↑87,↑88,↑94,↑95,↑101,↑102,↑108,↑109,↑115,↑116,↑122,↑123,↑129,↑130,↑136,↑137,↑143,↑144,↑150,↑151,↑157,↑158,↑164,↑165,↑171,↑172,↑176,↑177,↑183,↑184,↑190,↑191,↑197,↑198,↑204,↑205,↑211,↑212,↑218,↑219,↑223,↑224,↑230,↑231,↑237,↑238,↑244,↑245,↑249,↑250,↑256,↑257,↑263,↑264,↑270,↑271,↑277,↑278,↑284,↑285,↑291,↑292,↑298,↑299,↑305,↑306,↑312,↑313,↑317,↑318,↑324,↑325,↑331,↑332,↑336,↑337,↑341,↑342,↑348,↑349,↑353,↑354,↑358,↑359,↑365,↑366,↑370,↑371,↑377,↑378,↑384,↑385,↑389,↑390,↑396,↑397,↑401,↑402,↑408,↑409,↑415,↑416,↑420,↑421,↑427,↑428,↑432,↑433] (fun _=>by kernel_rfl));(case hw=>w_witness2)
 k_fill
 refine SD.yO (k:=11) (x:="_law_script") (sp:=QQ.j3) (l:=PySem.Challenge.rw_spotlook_k25_lands_looked_at) rfl rfl ⟨rfl,⋯,⋯,rfl⟩ (fun w h Y=>PySem.W.kIn_of Y) ?F QQ.CY
 case F=>
  intro w mg fa h KX G hmg
  have T:QQ.Tx (L2.KOf KX) mg:=by
   dsimp only[L2.KOf]
   constructor
   all_goals first
    |(refine' PySem.W.mg_none_of KX G ?a;(case a=>k_is))
    |(refine' SD.Txt.mk KX G ?a ?l ?c ?k;(case a=>k_is);(case l=>k_is);(case c=>k_is);(case k=>k_is))
  exact QQ.Hr T hmg
