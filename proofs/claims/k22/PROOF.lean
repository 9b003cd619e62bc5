import PyProof.Rows.All
import Wide.All
import OpenK.AllK
import Wide.FinOn
import Lean
import PyProof.EqAt
import PyProof.EqKinds
import PyProof.TupleCall
import PySem.Challenge.RW_spotlook_k22_lands_and_their_rings
noncomputable section
local macro_rules|`(def $n $s:optDeclSig $v:declVal)=>`(noncomputable def $n $s:optDeclSig $v)
open Option renaming some->MA
open Option renaming none->MB
open Bool renaming true->MC
open Bool renaming false->MD
theorem ME{c:Prop}{d:Decidable c}(h:¬c){a:Sort _}{x y:a}:(if c then x else y)=y:=if_neg h
theorem MI{c:Prop}{d:Decidable c}(h:c){a:Sort _}{x y:a}:(if c then x else y)=x:=if_pos h
theorem MJ{p:Prop}[Decidable p](h:¬p):decide p=false:=decide_eq_false h
theorem MK{p:Prop}[Decidable p](h:p):decide p=true:=decide_eq_true h
theorem ML{p:Prop}[Decidable p](h:decide p=true):p:=of_decide_eq_true h
theorem MM{p q:Prop}{_:Decidable p}{_:Decidable q}:(decide p=decide q)=(p↔q):=propext decide_eq_decide
theorem MN{p:Prop}[Decidable p]:(decide p=true)=p:=decide_eq_true_eq
local macro_rules|`(())=>`(by omega)
local macro_rules|`(‹$x›)=>`(by simpa using $x)
local macro_rules|`(⋯)=>`(by first|decide|walk_at "sc")
local macro_rules | `(tactic| omega) => `(tactic| lia)
open Bool renaming false_ne_true->JD,and_eq_true->JN,false_and->Ko,eq_iff_iff->Ks,true_and->L4,false_eq_true->Lj,and_true->LJ,and_false->Me
open Classical renaming byContradiction->K0
open False renaming elim->JR
open ForInStep renaming yield->LR
open Int renaming lt_trichotomy->Jt,sign->JG,mul_neg_of_neg_of_pos->JP,sign_eq_neg_one_of_neg->JS,mul_neg_of_pos_of_neg->JV,mul_pos->JW,sign_eq_one_of_pos->K9,mul_pos_of_neg_of_neg->Kb,fdiv_eq_ediv_of_nonneg->Ke,le_of_lt->Kv,toNat_natCast->L9,le_refl->Ln,fmod_eq_emod_of_nonneg->Lu,one_mul->Mk,mul_nonneg->Mq,ofNat->Mr
open List renaming getElem?_eq_getElem->J0,length_map->J4,getElem?_map->J6,mem_of_getElem?->J8,map_cons->Jn,range->Jp,getElem?_eq_some_iff->Jq,mem_filter->Jr,mem_append_right->Jw,map_append->Jx,size_toArray->JA,mem_append->JE,mem_singleton->JH,mem_cons->JI,replicate->JJ,mem_range->JK,getElem?_append_left->JO,mem_map->JQ,find?_cons->JX,getElem_mem->K1,mem_cons_of_mem->K6,append_nil->K8,length_append->Ka,getElem?_append_right->Kc,sum_cons->Ki,length_cons->Kk,all_eq_true->Kl,mem_cons_self->Kq,mem_append_left->Kt,take_of_length_le->Kw,take_succ->Kx,map_map->Ky,mem_iff_getElem->Kz,toArray->KA,length_filter_le->KI,range_succ->KJ,map_nil->KP,lookup_cons->KR,append_assoc->KS,ne_nil_of_mem->L0,replicate_succ->L7,map_congr_left->L8,map->Lm,take_length->Lo,flatten_cons->Lr,nodup_cons->Lx,pairwise_iff_getElem->LA,length_take->LC,any_cons->LI,nodup_append->LP,foldl_cons->LQ
open List.Pairwise renaming filter->Lp
open Nat renaming le_refl->J9,lt_of_lt_of_le->JM,ne_of_lt->K5,zero_le->Kj,le_trans->Kr,mod_two_eq_zero_or_one->KL,gcd->Mf
open PyProof.Rows renaming slot_tuple_getitem->KH,IntsAre->LN,callWith_type1->LV
open PySem renaming wpAny_bind->cc,Value->J3,Shared->J5,wpAny_pure->J7,wpAny->Js,sizeLine->Jv,wpAny_mono->JB,starEach->JC,model->JF,Program->JL,Params->JU,foldedSetIterable->JZ,compareOp->K4,wpAny_newObj_type->K7,mem_of_lookup->Kf,World->Kg,Around->Kn,bootBuiltins->Kp,cLine->Ku,wpAny_holding->KC,DictEntry->KG,wpAny_truthy_bool->KN,wpAny_loadPart'->KQ,backTo->L5,wpAny_standAt->Lc,sysModules->Li,cellsFrom->Lk,Spec->Lq,letOwnedTupleGo->Lv,codeAny_builtin->Ly,PyData->Lz,binaryOp->LB,attributeBase->LH,plainId_quiet->LK,wpAny_typeNameOfWhole_keyiter->LL,codeAny->LM,NameKind->LU,keywordEach->LW,Scope->LY,wpAny_seqItems->Mb,wpAny_tryCatch->Mc,wpAny_passesOwn->Mg,mainGlobals->Mi,wpAny_pyIter_list->Ml,behindInMarks->Mm,assignEach->Mn,swapsWith->Mo,assign->Mp,Keyword->Mt,FuncData->Mv,Paired->Mw,Builtin->Mx,Addr->n_,Stmt->oa,Heap->oT,Expr->o_
open PySem.Around renaming under_plainId->KZ
open PySem.Builtin.Slice renaming sliceApplied->LZ
open PySem.Builtin.Tuple renaming tupleExact->KD
open PySem.Challenge renaming pw_spotlook_k22_lands_and_their_rings->JY
open PySem.F renaming slot_dict_keyiterator_next->Lh,plain_min_loop->LD
open PySem.Heap renaming get?_push_of_some->Jo,get?_push_size->Jy,lt_size->Jz,get?_update_other->Kd,size_push->KY,get?_update_self->Lb,SameBut->Mj
open PySem.NameKind renaming free->LX
open PySem.PassesOwn renaming never->Ju
open PySem.PyData renaming eqv->K3,eqvAll->Km,canLayAll0->KO,depthAll->L3,canLay0->Ld,int->Md
open PySem.SeqAt renaming shaped->KU,canLay_of_shaped->L6
open PySem.Str renaming ofString->LG
open PySem.Value renaming ref->KW,none->Ms
open PySem.W renaming Frag->J1,BT->JT,fnOf->Le,kia_one->Mh
open Rat renaming intCast_mul->Kh,intCast_sub->Lf,intCast_add->LS
open True renaming intro->Mu
local macro_rules | `(↑$n:num) => `(nat_lit $n)
set_option Elab.async false
set_option linter.all false
set_option maxRecDepth 100000
set_option maxHeartbeats 4000000
set_option allowUnsafeReducibility true
abbrev PySem.Shared.z(s:PySem.Shared):=s.heap.objs.size
abbrev _root_.rb:=Nat->Int
abbrev _root_.ra:=List PySem.Str
abbrev _root_.q_:=List n_
abbrev _root_.qb:=List o_
abbrev _root_.p_:=List oa
abbrev _root_.pw:=Option Int
abbrev _root_.pq:=List Int
abbrev _root_.pe:=List Nat
abbrev _root_.pd:=List (pe)
abbrev _root_.pa:=List (n_×PySem.Obj)
theorem NL{n m:Nat}(h:Nat.ble n m=MC):n<=m:=Nat.le_of_ble_eq_true h
namespace L2
open PySem PySem.Spec PyProof.Rows
abbrev Key:=Sum Int Str
def nJ:Key->J3->Bool
 |.inl k,v=>Value.isInt k v
 |.inr x,v=>Value.isStrOf x v
def Im(w:Kg):Key->Int
 |.inl k=>hashInt k
 |.inr x=>hashStr w x
theorem bY:∀{k:Key} {v:J3},nJ k v=MC->(∃i t,k=Sum.inl i/\v=Value.int i t)\/(∃x t,k=Sum.inr x/\v=Value.str x t)
 |.inl i,v,h=>by
  obtain⟨t,e⟩:=Value.isInt_shape (k:=i) (v:=v) h
  exact .inl ⟨i,t,rfl,e⟩
 |.inr x,v,h=>by
  obtain⟨t,e⟩:=Value.isStrOf_shape (x:=x) (v:=v) h
  exact .inr ⟨x,t,rfl,e⟩
theorem wZ(i:Int)(t:Tok):nJ (.inl i) (.int i t)=MC:=by simp[nJ,Value.isInt]
theorem wu(x:Str)(t:Tok):nJ (.inr x) (.str x t)=MC:=by simp[nJ,Value.isStrOf]
theorem C6(a b:Int):decide ((Sum.inl a:Key)=Sum.inl b)=(a==b):=by
 by_cases e:a=b
 ·subst e;simp
 ·have h:¬(Sum.inl a:Key)=Sum.inl b:=fun q=>e (Sum.inl.inj q);rw[MJ h];exact(beq_eq_false_iff_ne.mpr e).symm
theorem EZ(a b:Str):decide ((Sum.inr a:Key)=Sum.inr b)=decide (a=b):=by
 by_cases e:a=b
 ·subst e;simp
 ·have h:¬(Sum.inr a:Key)=Sum.inr b:=fun q=>e (Sum.inr.inj q);rw[MJ h,MJ e]
theorem EU(a:Int)(b:Str):decide ((Sum.inl a:Key)=Sum.inr b)=MD:=MJ (fun q=>nomatch q)
theorem Ef(a:Str)(b:Int):decide ((Sum.inr a:Key)=Sum.inl b)=MD:=MJ (fun q=>nomatch q)
def cC(prog:JL)(w:Kg):PySem.KeyKind prog w Key where
 is:=nJ
 hash:=Im w
 inj:=fun v a b f d=>by
  rcases bY f with⟨i,t,rfl,rfl⟩|⟨x,t,rfl,rfl⟩
  ·rcases bY d with⟨j,u,rfl,e⟩|⟨y,u,rfl,e⟩
   ·injection e with e1 _;rw[e1]
   ·exact nomatch e
  ·rcases bY d with⟨j,u,rfl,e⟩|⟨y,u,rfl,e⟩
   ·exact nomatch e
   ·injection e with e1 _;rw[e1]
 byValue:=fun k v h=>by
  rcases bY h with⟨i,t,rfl,rfl⟩|⟨x,t,rfl,rfl⟩<;>rfl
 pyHash:=fun c h=>by
  rcases bY c with⟨i,t,rfl,rfl⟩|⟨x,t,rfl,rfl⟩
  ·exact wpAny_pyHash_int h
  ·exact wpAny_pyHash_str h
 eqBool:=fun g c h=>by
  rcases bY g with⟨i,t,rfl,rfl⟩|⟨x,t,rfl,rfl⟩
  ·rcases bY c with⟨j,u,rfl,rfl⟩|⟨y,u,rfl,rfl⟩
   ·rw[C6]at h;exact wpAny_eqBool_int h
   ·rw[EU]at h;exact SeqAt.EqAt.int_str i t y u _ _ _ _ h
  ·rcases bY c with⟨j,u,rfl,rfl⟩|⟨y,u,rfl,rfl⟩
   ·rw[Ef]at h;exact SeqAt.EqAt.str_int x t j u _ _ _ _ h
   ·rw[EZ]at h;exact wpAny_eqBool_str h
 «strs»:=fun k x t v h=>by
  rcases bY h with⟨i,u,rfl,e⟩|⟨y,u,rfl,e⟩
  ·exact nomatch e
  ·injection e with e1 _
   subst e1
   cases v<;>rfl
theorem qd(prog:JL)(w:Kg)(i:Int)(t:Tok):(cC prog w).is (.inl i) (.int i t)=MC:=wZ i t
theorem rz(prog:JL)(w:Kg)(x:Str)(t:Tok):(cC prog w).is (.inr x) (.str x t)=MC:=wu x t
inductive V where
 |non|bl (b:Bool)|int (i:Int)|str (x:Str)|byt (b:Array UInt8)|flt (b:UInt64)|ref (a:n_)|ty (n:String)
 deriving DecidableEq
abbrev _root_.ri:=List V
def RelV:V->J3->Prop
 |.non,u=>u=Ms
 |.bl b,u=>u=Value.bool b
 |.int i,u=>∃t,u=Value.int i t
 |.str x,u=>∃t,u=Value.str x t
 |.byt b,u=>∃t,u=Value.bytes b t
 |.flt b,u=>∃t,u=Value.float b t
 |.ref a,u=>u=KW a
 |.ty n,u=>u=Value.type n
abbrev Vals:ri->List J3->Prop:=Mw RelV
theorem Vals.length{xs:ri}{us:List J3}(r:Vals xs us):xs.length=us.length:=Paired.length r
theorem Vals.get:∀{xs:ri} {us:List J3} {i:Nat} {x:V},Vals xs us->xs[i]?=MA x->∃u,us[i]?=MA u/\RelV x u
 |_,_,_,_,.nil,e=>by simp at e
 |_,_,0,_,.cons r _,e=>by simp at e;subst e;exact⟨_,rfl,r⟩
 |_,_,i+1,x,.cons _ t,e=>by
  obtain⟨u,a,b⟩:=Vals.get (i:=i) (x:=x) t ‹e›
  exact⟨u,‹a›,b⟩
theorem Vals.set{x:V}{u:J3}(r:RelV x u):∀{xs:ri} {us:List J3} (i:Nat),Vals xs us->Vals (xs.set i x) (us.set i u)
 |_,_,_,.nil=>.nil
 |_,_,0,.cons _ t=>.cons r t
 |_,_,i+1,.cons q t=>.cons q (Vals.set r i t)
theorem Vals.append:∀{xs ys:ri} {us ws:List J3},Vals xs us->Vals ys ws->Vals (xs++ys) (us++ws):=by
 intro xs ys us ws h s
 induction h with
 |nil=>exact s
 |cons r t a=>exact .cons r a
theorem Vals.take:∀{xs:ri} {us:List J3} (n:Nat),Vals xs us->Vals (xs.take n) (us.take n)
 |_,_,0,_=>.nil
 |_,_,_+1,.nil=>.nil
 |_,_,n+1,.cons r t=>.cons r (Vals.take n t)
theorem Vals.drop:∀{xs:ri} {us:List J3} (n:Nat),Vals xs us->Vals (xs.drop n) (us.drop n)
 |_,_,0,r=>r
 |_,_,_+1,.nil=>.nil
 |_,_,n+1,.cons _ t=>Vals.drop n t
def wX:Option V->Option J3->Prop
 |some v,MA u=>RelV v u
 |none,MB=>True
 |_,_=>False
def KV{a:Type}:List (a×V)->List (a×J3)->Prop:=Mw fun(p:a×V) (q:a×J3)=>p.1=q.1/\RelV p.2 q.2
def kV:Key->V
 |.inl i=>.int i
 |.inr x=>.str x
inductive HO where
 |lst (xs:ri)
 |tup (xs:ri)
 |dK (kvs:List (Key×V))|dT (kvs:List (List Key×V))
 |set (S:Int->Bool) (n:Nat)
 |ins (C dx:n_) (fs:List (Str×V))
 |own (x:n_)
 |xd (fs:List (Str×V))
 |met (f x:n_)
 |rng (lo hi:Int)
 |frz (o:Obj) (u:HO)
 |tbl (ps:Array J3)
 |ext (φ:oT->Prop)
abbrev Hp:=n_->Option HO
def upd(H:Hp)(a:n_)(o:HO):Hp:=fun b=>if b=a then MA o else H b
theorem bD{H:Hp}{a:n_}{o:HO}:upd H a o a=MA o:=by unfold upd;rw[MI rfl]
theorem bo{H:Hp}{a b:n_}{o:HO}(h:b≠a):upd H a o b=H b:=by unfold upd;rw[ME h]
theorem Gm{H:Hp}{a b:n_}{o u:HO}(h:H a=MA o)(h':H b=MA u)(d:o≠u):a≠b:=by intro e;subst e;rw[h]at h';exact d (Option.some.inj h')
theorem d9{H:Hp}{a b:n_}{o:HO}(h:H a=MA o)(h':H b=MB):a≠b:=by intro e;subst e;rw[h]at h';cases h'
section
variable(P:JL)(w:Kg)
def Rm(h:oT)(a:n_):Prop:=∃o,h.get? a=MA o/\o.dict=MB
theorem Rm.new(h:oT)(u:Array J3):Rm (h.push { cls:=.type "tuple",data:=.seq u }) h.objs.size:=⟨_,Jy _ rfl,rfl⟩
def cR(H:Hp)(h:oT)(a:n_):HO->Prop
 |.lst xs=>xs.length<=Jv/\∃(b:List J3) (n:Nat),Vals xs b/\h.get? a=MA { cls:=.type "list",data:=.seq b.toArray n }
 |.tup xs=>xs.length<=Jv/\∃b:List J3,Vals xs b/\IsTup h a b.toArray/\Rm h a
 |.dK kvs=>kvs.length<=Jv/\(a==Li)=MD/\∃vs,KV kvs vs/\h.DictOf (cC P w) a vs
 |.dT kvs=>kvs.length<=Jv/\(a==Li)=MD/\∃xs:List (List Key×n_×J3),
  Mw (fun(p:List Key×V) (q:List Key×n_×J3)=>p.1=q.1/\H q.2.1=MA (.tup (p.1.map kV))/\RelV p.2 q.2.2) kvs xs/\
  ∃o g k,h.get? a=MA o/\o.ExactDict/\o.data=.dict g k/\g.toList=xs.map (entryOfKey (tupleKind (cC P w)))/\(xs.map (·.1)).Nodup
 |.set S n=>h.SetOf (intKind P w) a S n
 |.ins C d fs=>H d=MA (.own a)/\fs.length<=1000/\d≠a/\h.get? a=MA (PySem.W.instObj C d)/\
  ∃c,h.Ns1 d c/\(∀f,wX (fs.lookup f) (c f))/\PySem.Within c (fs.map (·.1))
 |.own _=>∃o,h.get? a=MA o
 |.xd fs=>∃c,h.Ns1 a c/\∀f,wX (fs.lookup f) (c f)
 |.rng l m=>∃t u v,h.get? a=MA { cls:=.type "range",data:=.fields #[.int l t,.int m u,.int 1 v] }
 |.frz o u=>h.get? a=MA o/\cR H h a u
 |.tbl ps=>h.get? a=MA { cls:=.none,data:=.fields ps }
 |.met f x=>h.get? a=MA (PySem.W.methodObj (.ref f) (.ref x))
 |.ext e=>e h/\(∃o,h.get? a=MA o)/\∀i j:oT,e i->(∀o,i.get? a=MA o->j.get? a=MA o)->e j
def Nv(H:Hp)(h:oT):Prop:=∀a o,H a=MA o->cR P w H h a o
end
section
variable{P:JL}{w:Kg}{H H':Hp}{h h':oT}{a:n_}{o:HO}
theorem cR.lt(x:cR P w H h a o):a<h.objs.size:=by
 cases o with
 |lst xs=>obtain⟨_,_,_,_,e⟩:=x;exact Jz e
 |tup xs=>obtain⟨_,_,_,p,_⟩:=x;exact p.lt
 |dK kvs=>obtain⟨_,_,_,_,o,_,_,e,_⟩:=x;exact Jz e
 |dT kvs=>obtain⟨_,_,_,_,o,_,_,e,_⟩:=x;exact Jz e
 |set S n=>obtain⟨o,_,_,_,e,_⟩:=x;exact Jz e
 |ins C b fs=>obtain⟨_,_,_,e,_⟩:=x;exact Jz e
 |own y=>obtain⟨_,e⟩:=x;exact Jz e
 |xd fs=>obtain⟨_,⟨_,_,_,e,_⟩,_⟩:=x;exact Jz e
 |rng c d=>obtain⟨_,_,_,e⟩:=x;exact Jz e
 |frz g u=>obtain⟨e,_⟩:=x;exact Jz e
 |tbl ps=>exact Jz (show h.get? a=MA _ from x)
 |met f y=>exact Jz (show h.get? a=MA _ from x)
 |ext i=>obtain⟨_,⟨_,e⟩,_⟩:=x;exact Jz e
theorem Paired.HI{c d:Type}{F G:c->d->Prop}:∀{l₁:List c} {l₂:List d},Mw F l₁ l₂->(∀a b,F a b->G a b)->Mw G l₁ l₂:=by
 intro l₁ l₂ h f
 induction h with
 |nil=>exact .nil
 |cons r t e=>exact .cons (f _ _ r) e
theorem cR.iP(x:cR P w H h a o)(k:∀b u,(b=a\/H b=MA (.own a))->h.get? b=MA u->h'.get? b=MA u) (s:∀b,H b=MA (.own a)->H' b=MA (.own a)) (A:∀b xs,H b=MA (.tup xs)->H' b=MA (.tup xs)):cR P w H' h' a o:=by
 induction o with
 |lst xs=>obtain⟨z,l,n,r,e⟩:=x;exact⟨z,l,n,r,k _ _ (.inl rfl) e⟩
 |tup xs=>obtain⟨z,l,r,⟨g,e,c⟩,B,e2,D⟩:=x;exact⟨z,l,r,⟨g,k _ _ (.inl rfl) e,c⟩,B,k _ _ (.inl rfl) e2,D⟩
 |dK kvs=>obtain⟨z,y,vs,r,g,i,j,e,c⟩:=x;exact⟨z,y,vs,r,g,i,j,k _ _ (.inl rfl) e,c⟩
 |dT kvs=>
  obtain⟨z,y,xs,r,g,i,j,e,c⟩:=x
  exact⟨z,y,xs,Paired.HI r fun p q z=>⟨z.1,A _ _ z.2.1,z.2.2⟩,g,i,j,k _ _ (.inl rfl) e,c⟩
 |set S n=>obtain⟨g,i,j,t,e,c⟩:=x;exact⟨g,i,j,t,k _ _ (.inl rfl) e,c⟩
 |ins C F fs=>
  obtain⟨d,z,ne,e,m,⟨od,i,j,e2,c⟩,r⟩:=x
  exact⟨s _ d,z,ne,k _ _ (.inl rfl) e,m,⟨od,i,j,k _ _ (.inr d) e2,c⟩,r⟩
 |own y=>obtain⟨g,e⟩:=x;exact⟨g,k _ _ (.inl rfl) e⟩
 |xd fs=>obtain⟨m,⟨od,i,j,e,c⟩,r⟩:=x;exact⟨m,⟨od,i,j,k _ _ (.inl rfl) e,c⟩,r⟩
 |rng G I=>obtain⟨t,u,v,e⟩:=x;exact⟨t,u,v,k _ _ (.inl rfl) e⟩
 |frz g u E=>obtain⟨e,q⟩:=x;exact⟨k _ _ (.inl rfl) e,E q⟩
 |tbl ps=>
  have e:h.get? a=MA { cls:=.none,data:=.fields ps }:=x
  show h'.get? a=MA { cls:=.none,data:=.fields ps }
  exact k a _ (.inl rfl) e
 |met f y=>
  have e:h.get? a=MA (PySem.W.methodObj (.ref f) (.ref y)):=x
  show h'.get? a=MA (PySem.W.methodObj (.ref f) (.ref y))
  exact k a _ (.inl rfl) e
 |ext J=>obtain⟨p,⟨o,e⟩,st⟩:=x;exact⟨st _ _ p fun o q=>k _ _ (.inl rfl) q,⟨o,k _ _ (.inl rfl) e⟩,st⟩
theorem Nv.lt(x:Nv P w H h)(e:H a=MA o):a<h.objs.size:=(x a o e).lt
theorem Nv.fresh(x:Nv P w H h)(e:h.objs.size<=a):H a=MB:=by
 cases q:H a with
 |none=>rfl
 |some u=>exact absurd (JM (x.lt q) e) (Nat.lt_irrefl _)
theorem Nv.kept(x:Nv P w H h)(k:∀b u,h.get? b=MA u->h'.get? b=MA u):Nv P w H h':=fun a o e=>(x a o e).iP (fun b u _ q=>k b u q) (fun _ q=>q) fun _ _ q=>q
theorem Nv.laid(x:Nv P w H h)(k:∀b u,h.get? b=MA u->h'.get? b=MA u)(g:h.objs.size<=a)(new:cR P w (upd H a o) h' a o):Nv P w (upd H a o) h':=fun b u e=>by
 have d:=x.fresh g;by_cases f:b=a
 ·subst f;rw[bD]at e;cases e;exact new
 ·rw[bo f]at e;exact(x b u e).iP (fun c v _ q=>k c v q) (fun c q=>by rw[bo (d9 q d)];exact q) fun c xs q=>by rw[bo (d9 q d)];exact q
end
def Rd(H:Hp)(a:n_)(u:HO):Prop:=H a=MA u\/∃o,H a=MA (.frz o u)
theorem Rd.ok{P:JL}{w:Kg}{H:Hp}{h:oT}{a:n_}{u:HO}(r:Rd H a u)(x:Nv P w H h):cR P w H h a u:=by
 rcases r with r|⟨o,r⟩
 ·exact x a u r
 ·obtain⟨_,q⟩:=x a _ r;exact q
def Vl:Option HO->Prop
 |some (.lst _)=>True
 |some (.dK _)=>True
 |some (.dT _)=>True
 |some (.set _ _)=>True
 |some (.ins _ _ _)=>True
 |some (.ext _)=>True
 |_=>False
section
variable{P:JL}{w:Kg}{H:Hp}{h h':oT}{x e:n_}{o':HO}
theorem Nv.write(ok:Nv P w H h)(g:Vl (H x))(m:e=x\/H e=MA (.own x))(k:∀b u,b≠e->h.get? b=MA u->h'.get? b=MA u)(l:∃u,h'.get? e=MA u)
 (new:cR P w (upd H x o') h' x o'):Nv P w (upd H x o') h':=fun b u q=>by
 have d:∀c y,H c=MA (.own y)->c≠x:=fun c y r z=>by subst z;rw[r]at g;exact g
 have f:∀c xs,H c=MA (.tup xs)->c≠x:=fun c xs r z=>by subst z;rw[r]at g;exact g
 by_cases i:b=x
 ·subst i;rw[bD]at q;cases q;exact new
 ·rw[bo i]at q
  by_cases a:b=e
  ·have n:H b=MA (.own x):=by
    rcases m with z|z
    ·exact absurd (a.trans z) i
    ·rw[a];exact z
   rw[q]at n;cases n
   obtain⟨v,o⟩:=l
   exact⟨v,by rw[a];exact o⟩
  ·refine(ok b u q).iP (fun c v j r=>k c v ?_ r) (fun c r=>by rw[bo (d c b r)];exact r) fun c xs r=>by rw[bo (f c xs r)];exact r
   rcases j with rfl|j
   ·exact a
   ·rintro rfl
    rcases m with z|z
    ·exact d c b j z
    ·rw[j]at z;cases z;exact i rfl
end
structure Un(fs ex:q_)(H H':Hp)(h h':oT):Prop where
 keep:∀b o,h.get? b=MA o->H b=MB->b∉fs->b∉ex->h'.get? b=MA o
 slot:∀b o,h.get? b=MA o->H b=MB->b∈fs->b∉ex->∃sl,h'.get? b=MA { o with slots:=sl }
 free:∀b o,h.get? b=MA o->H b=MB->b∉ex->H' b=MB
 there:∀b o,h.get? b=MA o->b∉ex->∃o',h'.get? b=MA o'
 tups:∀b xs,H b=MA (.tup xs)->H' b=MA (.tup xs)
 frzs:∀b o u,H b=MA (.frz o u)->H' b=MA (.frz o u)
 tbls:∀b ps,H b=MA (.tbl ps)->∃more,H' b=MA (.tbl (ps++more))
section
variable{fs MP ex MQ:q_}{H H1 H2:Hp}{h h1 h2 h':oT}{a x e:n_}{o:HO}
theorem Un.any(u:Un fs ex H H1 h h1){b:n_}{c:Obj}(q:h.get? b=MA c)(n:H b=MB)(d:b∉ex):∃g,h1.get? b=MA { c with slots:=g }:=by
 by_cases f:b∈fs
 ·exact u.slot b c q n f d
 ·exact⟨c.slots,u.keep b c q n f d⟩
theorem Un.kept(k:∀b u,h.get? b=MA u->h'.get? b=MA u):Un fs ex H H h h':=⟨fun b c q _ _ _=>k b c q,fun b c q _ _ _=>⟨c.slots,k b c q⟩,fun _ _ _ n _=>n,fun b c q _=>⟨c,k b c q⟩,fun _ _ q=>q,fun _ _ _ q=>q,fun _ ps q=>⟨#[],by rw[q];simp⟩⟩
theorem Un.refl:Un fs ex H H h h:=Un.kept fun _ _ q=>q
theorem Un.laid(k:∀b u,h.get? b=MA u->h'.get? b=MA u)(d:h.objs.size<=a)(c:H a=MB):Un fs ex H (upd H a o) h h' where
 keep:=fun b u q _ _ _=>k b u q
 slot:=fun b u q _ _ _=>⟨u.slots,k b u q⟩
 free:=fun b u q n _=>by rw[bo (K5 (JM (Jz q) d))];exact n
 there:=fun b u q _=>⟨u,k b u q⟩
 tups:=fun b xs q=>by rw[bo (d9 q c)];exact q
 frzs:=fun b u xs q=>by rw[bo (d9 q c)];exact q
 tbls:=fun b ps q=>⟨#[],by rw[bo (d9 q c),q];simp⟩
theorem Un.write(d:Vl (H x))(l:e=x\/H e=MA (.own x))(k:∀b u,b≠e->h.get? b=MA u->h'.get? b=MA u)(f:∃u,h'.get? e=MA u):Un fs ex H (upd H x o) h h':=by
 have i:∀b,H b=MB->b≠x:=fun b n z=>by subst z;rw[n]at d;exact d
 have j:∀b,H b=MB->b≠e:=fun b n z=>by
  subst z;rcases l with r|r
  ·exact i b n r
  ·rw[n]at r;cases r
 have g:∀b u,H b=MA u->¬Vl (MA u)->b≠x:=fun b u q m z=>by subst z;rw[q]at d;exact m d
 refine⟨fun b u q n _ _=>k b u (j b n) q,fun b u q n _ _=>⟨u.slots,k b u (j b n) q⟩,fun b u q n _=>by rw[bo (i b n)];exact n,fun b u q _=>?_,fun b xs q=>by rw[bo (g b _ q fun z=>z)];exact q,fun b u xs q=>by rw[bo (g b _ q fun z=>z)];exact q,fun b ps q=>⟨#[],by rw[bo (g b _ q fun z=>z),q];simp⟩⟩;by_cases c:b=e
 ·subst c;exact f
 ·exact⟨u,k b u c q⟩
end
def Vv(h:oT)(H:Hp):q_:=(Jp h.objs.size).filter fun a=>(H a).isSome
def pL(h:oT)(H:Hp):oT:=PySem.W.hideAll h (Vv h H)
theorem wm(h:oT)(H:Hp):(pL h H).objs.size=h.objs.size:=PySem.W.hideAll_size _ _
theorem zU{h:oT}{H:Hp}{b:n_}{o:Obj}(e:h.get? b=MA o)(n:H b=MB):(pL h H).get? b=MA o:=
 PySem.W.hideAll_get _ e fun a=>by
  have q:(H b).isSome=MC:=(Jr.mp a).2
  rw[n]at q;simp at q
theorem AA{h:oT}{H:Hp}{b:n_}{o:Obj}(e:(pL h H).get? b=MA o):h.get? b=MA o/\H b=MB:=by
 have a:h.get? b=MA o:=PySem.W.of_hideAll (Vv h H) e;refine⟨a,?_⟩;cases q:H b with
 |none=>rfl
 |some x=>
  have c:b∈Vv h H:=Jr.mpr ⟨JK.mpr (Jz a),by simp[q]⟩
  have z:(pL h H).get? b=MB:=PySem.W.hideAll_none (Vv h H) c
  rw[z]at e;cases e
structure Mod(K:J1)(mg:Str->Option J3)(base:oT):Prop where
 kin:K.In base
 glob:base.Ns Mi mg
 blt:∃mb,base.Ns builtinsNs mb/\∀x:Str,x≠"__name__"->mb x=Kp x
 nolimit:base.NoLimit
structure Cx where
 prog:JL
 w:Kg
 K:J1
 mg:Str->Option J3
 base:oT
 A:Kn
 N:ra
 s₀:J5
 H₀:Hp
 env:Env
 outer:List Env
 stack:List Env
 ex:q_
 fn:Str->Bool
 calm:Bool
 pn:pa
 xe:J3->J5->Prop
def Qt(l:List Env):q_:=l.filterMap (·.frame)
abbrev Cx.fs(X:Cx):q_:=Qt X.outer
def Vj(sc:LY)(x:Str):Prop:=sc.names.lookup x=MA .local\/sc.names.lookup x=MA .cell\/sc.names.lookup x=MA .free
def Loc(sc:LY)(x:Str):Prop:=sc.names.lookup x=MA .local\/sc.names.lookup x=MA .cell
def Look(env:Env)(h:oT)(m:Str->Option J3)(x:Str)(u:J3):Prop:=
 (env.kindOf x=MA .local/\m x=MA u)\/((env.kindOf x=MA .cell\/env.kindOf x=MA .free)/\∃c,env.cells.lookup x=MA c/\h.IsCell c (MA u))
structure Cx.Ok(X:Cx):Prop where
 mod:Mod X.K X.mg X.base
 kind:X.env.scope.kind=.function
 glob:X.env.globals=Mi
 blt:X.env.builtins=builtinsNs
 above:X.s₀.z<=X.env.locals
 inj:∀x y c,X.env.cells.lookup x=MA c->X.env.cells.lookup y=MA c->x=y
 has:∀x,(X.env.kindOf x=MA .cell\/X.env.kindOf x=MA .free)->∃c,X.env.cells.lookup x=MA c
 cab:∀x c,X.fn x=MC->X.env.cells.lookup x=MA c->X.s₀.z<=c
 hd:X.calm=MC->X.A.handled=MB
 frames:X.A.frames=MA X.stack
 stk:X.stack=X.outer\/(X.stack=X.env::X.outer/\X.env.frame=MA X.env.locals)
 exf:∀b∈X.ex,b≠X.env.locals/\∀x c,X.env.cells.lookup x=MA c->c≠b
 bs:∀b o,X.base.get? b=MA o->X.s₀.heap.get? b=MA o/\X.H₀ b=MB
 bsz:X.base.objs.size<=X.s₀.z
 noex:∀b o,X.base.get? b=MA o->b∉X.ex
 exfs:∀b∈X.ex,b∉X.fs
 mQ:X.s₀.heap.FunFrames X.base X.outer
 frf:∀b∈X.fs,X.H₀ b=MB
structure Inv(X:Cx)(MR:pa)(σ:List (Option V))(H:Hp)(s:J5):Prop where
 ok:X.Ok
 os:s.os=X.s₀.os
 bare:AllBare s.gens
 base:Un X.fs X.ex X.H₀ H X.s₀.heap s.heap
 loc:∃m,s.heap.Ns X.env.locals m/\∀(i:Nat) (x:Str) (v:V),X.N[i]?=MA x->σ[i]?=MA (MA v)->Vj X.env.scope x->∃u,RelV v u/\Look X.env s.heap m x u
 cell:∀x c,X.env.cells.lookup x=MA c->∃v,s.heap.IsCell c v
 free:H X.env.locals=MB
 freeC:∀x c,X.env.cells.lookup x=MA c->H c=MB
 pin:∀p∈X.pn++MR,s.heap.get? p.1=MA p.2/\H p.1=MB/\p.1≠X.env.locals/\p.1∉X.fs/\∀v,p.2.data≠.cell v
 hok:Nv X.prog X.w H s.heap
 len:σ.length=X.N.length
section
variable{X:Cx}{MR:pa}{σ:List (Option V)}{H H':Hp}{s:J5}{h':oT}
theorem Cx.Ok.Il(ok:X.Ok){b:n_}{o:Obj}(e:X.base.get? b=MA o):b∉X.fs:=fun a=>by have:=(ok.mQ.mem a).1;rw[e]at this;cases this
theorem Inv.bs(I:Inv X MR σ H s):∀b o,X.base.get? b=MA o->s.heap.get? b=MA o/\H b=MB:=fun b o e=>⟨I.base.keep b o (I.ok.bs b o e).1 (I.ok.bs b o e).2 (I.ok.Il e) (I.ok.noex b o e),I.base.free b o (I.ok.bs b o e).1 (I.ok.bs b o e).2 (I.ok.noex b o e)⟩
theorem Inv.bk(I:Inv X MR σ H s):∀b o,X.base.get? b=MA o->s.heap.get? b=MA o:=fun b o e=>(I.bs b o e).1
theorem Inv.mod(I:Inv X MR σ H s):Mod X.K X.mg X.base:=I.ok.mod
theorem Inv.kIn(I:Inv X MR σ H s):X.K.In s.heap:=I.ok.mod.kin.keeps I.bk
theorem Inv.lt(I:Inv X MR σ H s):X.env.locals<s.z:=let⟨_,a,_⟩:=I.loc;a.lt
theorem Inv.sz(I:Inv X MR σ H s):X.s₀.z<=s.z:=Kr I.ok.above (Nat.le_of_lt I.lt)
theorem Inv.Io(I:Inv X MR σ H s){a:n_}(h:s.z<=a):a∉X.fs:=fun b=>by obtain⟨_,o,c,_⟩:=I.ok.mQ.mem b;exact absurd (JM (Jz c) (Kr I.sz h)) (Nat.lt_irrefl _)
theorem Inv.cne(I:Inv X MR σ H s):∀x c,X.env.cells.lookup x=MA c->c≠X.env.locals:=fun x c e z=>by obtain⟨v,o,d,hd⟩:=I.cell x c e;obtain⟨m,⟨f,g,h,a,b,_⟩,_⟩:=I.loc;rw[z,a]at d;cases d;rw[b]at hd;cases hd
theorem Inv.mQ(I:Inv X MR σ H s):s.heap.FunFrames X.base X.outer:=by
 have all:∀(l:List Env),(∀b∈Qt l,b∈X.fs)->X.s₀.heap.FunFrames X.base l->s.heap.FunFrames X.base l:=by
  intro l
  induction l with
  |nil=>intro _ _;trivial
  |cons env r f=>
   intro d g
   obtain⟨h,⟨L,o,hf,i,j,hd⟩,k⟩:=g
   have a:L∈X.fs:=d L (by unfold Qt;rw[List.filterMap_cons,hf];exact Kq)
   obtain⟨m,e⟩:=I.base.slot L o j (I.ok.frf L a) a fun z=>I.ok.exfs L z a
   exact⟨h,⟨L,_,hf,i,e,hd⟩,f (fun b c=>d b (by unfold Qt;rw[List.filterMap_cons,hf];exact K6 _ c)) k⟩
 exact all X.outer (fun _ c=>c) I.ok.mQ
theorem Inv.stack(I:Inv X MR σ H s):s.heap.FunFrames X.base X.stack:=by
 rcases I.ok.stk with e|⟨e,hf⟩
 ·rw[e];exact I.mQ
 ·rw[e];obtain⟨m,a,_⟩:=I.loc;refine .cons (by rw[I.ok.kind];decide) hf a ?_ I.mQ;exact Heap.get?_none_of_le (Kr I.ok.bsz I.ok.above)
theorem Inv.tj(I:Inv X MR σ H s):∀b∈Qt X.stack,b∈X.env.locals::X.fs:=fun b a=>by
 rcases I.ok.stk with e|⟨e,hf⟩
 ·rw[e]at a;exact K6 _ a
 ·rw[e]at a;unfold Qt at a;rw[List.filterMap_cons,hf]at a;exact a
theorem Inv.uM(I:Inv X MR σ H s):∀b∈Qt X.stack,H b=MB:=fun b a=>by
 rcases JI.mp (I.tj b a)with e|a
 ·rw[e];exact I.free
 ·obtain⟨_,o,c,_⟩:=I.ok.mQ.mem a;exact I.base.free b o c (I.ok.frf b a) fun z=>I.ok.exfs b z a
theorem Inv.step{g':Array GenState}{t':Nat}{d':Drawn}{ch:q_}(I:Inv X MR σ H s)
 (f:∀b∈ch,(b∈X.ex\/X.s₀.z<=b)/\b≠X.env.locals/\(∀x c,X.env.cells.lookup x=MA c->c≠b)/\∀p∈X.pn++MR,p.1≠b)
 (keep:∀b o,b≠X.env.locals->b∉X.fs->b∉ch->s.heap.get? b=MA o->H b=MB->h'.get? b=MA o)
 (slot:∀b o,b≠X.env.locals->b∈X.fs->b∉ch->s.heap.get? b=MA o->H b=MB->∃C,h'.get? b=MA { o with slots:=C }) (free:∀b o,b∉ch->s.heap.get? b=MA o->H b=MB->H' b=MB)
 (there:∀b o,b∉ch->s.heap.get? b=MA o->∃o',h'.get? b=MA o')
 (tups:∀b xs,H b=MA (.tup xs)->H' b=MA (.tup xs)) (frzs:∀b o u,H b=MA (.frz o u)->H' b=MA (.frz o u)) (tbls:∀b ps,H b=MA (.tbl ps)->∃more,H' b=MA (.tbl (ps++more)))
 (ns:∀m,s.heap.Ns X.env.locals m->h'.Ns X.env.locals m) (hok:Nv X.prog X.w H' h') (J:AllBare g') :
 Inv X MR σ H' { s with heap:=h',gens:=g',drawn:=d',toks:=t' }:=by
 have B:∀b o,X.s₀.heap.get? b=MA o->b≠X.env.locals:=fun b o e=>K5 (JM (Jz e) I.ok.above)
 have j:∀b o,X.s₀.heap.get? b=MA o->b∉X.ex->b∉ch:=fun b o e a t=>by
  rcases(f b t).1 with z|z
  ·exact a z
  ·exact absurd (JM (Jz e) z) (Nat.lt_irrefl _)
 have g:∀x c,X.env.cells.lookup x=MA c->∀v,s.heap.IsCell c v->h'.IsCell c v:=fun x c e v y=>by
  obtain⟨o,A,hd⟩:=y
  have h:c∉ch:=fun z=>(f c z).2.2.1 x c e rfl
  by_cases E:c∈X.fs
  ·obtain⟨C,q⟩:=slot c o (I.cne x c e) E h A (I.freeC x c e)
   exact⟨_,q,hd⟩
  ·exact⟨o,keep c o (I.cne x c e) E h A (I.freeC x c e),hd⟩
 refine⟨I.ok,I.os,J,⟨fun b o e n t a=>?_,fun b o e n t a=>?_,fun b o e n a=>?_,fun b o e a=>?_,fun b xs e=>tups b xs (I.base.tups b xs e),fun b o xs e=>frzs b o xs (I.base.frzs b o xs e),fun b ps e=>?_⟩,?_,fun x c e=>?_,?_,fun x c e=>?_,fun p F=>?_,hok,I.len⟩
 ·exact keep b o (B b o e) t (j b o e a) (I.base.keep b o e n t a) (I.base.free b o e n a)
 ·obtain⟨C,e1⟩:=I.base.slot b o e n t a
  obtain⟨D,e2⟩:=slot b _ (B b o e) t (j b o e a) e1 (I.base.free b o e n a)
  exact⟨D,e2⟩
 ·obtain⟨o',e1⟩:=I.base.there b o e a
  exact free b o' (j b o e a) e1 (I.base.free b o e n a)
 ·obtain⟨o',e1⟩:=I.base.there b o e a
  exact there b o' (j b o e a) e1
 ·obtain⟨K,e1⟩:=I.base.tbls b ps e
  obtain⟨L,e2⟩:=tbls b _ e1
  exact⟨K++L,by rw[e2,Array.append_assoc]⟩
 ·obtain⟨m,M,N⟩:=I.loc
  refine⟨m,ns m M,fun i x v e1 e2 e3=>?_⟩
  obtain⟨u,r,l⟩:=N i x v e1 e2 e3
  refine⟨u,r,?_⟩
  rcases l with l|⟨k,c,e,z⟩
  ·exact .inl l
  ·exact .inr ⟨k,c,e,g x c e _ z⟩
 ·obtain⟨v,z⟩:=I.cell x c e
  exact⟨v,g x c e v z⟩
 ·obtain⟨m,⟨o,_,_,A,_⟩,_⟩:=I.loc
  exact free _ o (fun z=>(f _ z).2.1 rfl) A I.free
 ·obtain⟨v,o,A,hd⟩:=I.cell x c e
  exact free c o (fun z=>(f c z).2.2.1 x c e rfl) A (I.freeC x c e)
 ·obtain⟨e,n,ne,G,d⟩:=I.pin p F
  have h:p.1∉ch:=fun z=>(f p.1 z).2.2.2 p F rfl
  exact⟨keep p.1 p.2 ne G h e n,free p.1 p.2 h e n,ne,G,d⟩
theorem Inv.un{t':Nat}(I:Inv X MR σ H s)(u:Un X.fs [] H H' s.heap h')(hok:Nv X.prog X.w H' h'):Inv X MR σ H' { s with heap:=h',toks:=t' }:=by
 obtain⟨m,⟨o,k,l,g,r⟩,_⟩:=id I.loc;obtain⟨p,h⟩:=u.any g I.free (by simp)
 exact I.step (g':=s.gens) (d':=s.drawn) (ch:=[]) (fun _ z=>nomatch z) (fun b o _ c _ e n=>u.keep b o e n c (by simp)) (fun b o _ c _ e n=>u.slot b o e n c (by simp)) (fun b o _ e n=>u.free b o e n (by simp)) (fun b o _ e=>u.there b o e (by simp)) u.tups u.frzs u.tbls (fun q i=>by
  obtain⟨t,d,f,a,j⟩:=i
  rw[g]at a;cases a
  exact⟨_,d,f,h,j⟩) hok I.bare
theorem Inv.call{g':Array GenState}{t':Nat}{d':Drawn}{ch:q_}(I:Inv X MR σ H s)(u:Un (Qt X.stack) ch H H' s.heap h')(hok:Nv X.prog X.w H' h')(k:AllBare g') (d:∀b∈ch,(b∈X.ex\/X.s₀.z<=b)/\b≠X.env.locals/\(∀x c,X.env.cells.lookup x=MA c->c≠b)/\∀p∈X.pn++MR,p.1≠b) : Inv X MR σ H' { s with heap:=h',gens:=g',drawn:=d',toks:=t' }:=by
 obtain⟨m,⟨o,v,y,j,r⟩,_⟩:=id I.loc;obtain⟨A,g⟩:=u.any j I.free fun z=>(d _ z).2.1 rfl
 exact I.step (ch:=ch) d (fun b o g l a e n=>u.keep b o e n (fun z=>(JI.mp (I.tj b z)).elim g l) a) (fun b o _ _ a e n=>u.any e n a) (fun b o a e n=>u.free b o e n a) (fun b o a e=>u.there b o e a) u.tups u.frzs u.tbls (fun B q=>by
  obtain⟨C,h,i,f,t⟩:=q
  rw[j]at f;cases f
  exact⟨_,h,i,g,t⟩) hok k
theorem Inv.turned{t':Nat}{it:n_}(I:Inv X MR σ H s)(k:∀b o,b≠it->s.heap.get? b=MA o->h'.get? b=MA o)(g:H it=MB)(f:it≠X.env.locals)
 (h:it∈X.ex\/X.s₀.z<=it) (i:∀x c,X.env.cells.lookup x=MA c->c≠it) (j:∀p∈X.pn++MR,p.1≠it):Inv X MR σ H { s with heap:=h',toks:=t' }:=by
 have d:∀b u,H b=MA u->b≠it:=fun b u e z=>by rw[z,g]at e;cases e
 refine I.step (g':=s.gens) (d':=s.drawn) (ch:=[it]) (fun b l=>?_) (fun b o _ _ a e _=>k b o (fun z=>a (by simp[z])) e) (fun b o _ _ a e _=>⟨o.slots,k b o (fun z=>a (by simp[z])) e⟩) (fun _ _ _ _ n=>n)
  (fun b o a e=>⟨o,k b o (fun z=>a (by simp[z])) e⟩) (fun _ _ e=>e) (fun _ _ _ e=>e) (fun b ps e=>⟨#[],by rw[e];simp⟩) (fun m t=>?_) (fun b u e=>?_) I.bare
 ·have e:b=it:=‹l›
  subst e
  exact⟨h,f,i,j⟩
 ·obtain⟨o,w,y,A,r⟩:=t
  exact⟨o,w,y,k _ o (Ne.symm f) A,r⟩
 ·refine(I.hok b u e).iP (fun c v a q=>k c v ?_ q) (fun _ q=>q) fun _ _ q=>q
  rcases a with z|z
  ·rw[z];exact d b u e
  ·exact d c _ z
theorem Inv.tok(I:Inv X MR σ H s)(t:Nat):Inv X MR σ H { s with toks:=t }:=I.un (h':=s.heap) (t':=t) Un.refl I.hok
theorem Inv.kept{t':Nat}(I:Inv X MR σ H s)(k:∀b u,s.heap.get? b=MA u->h'.get? b=MA u):Inv X MR σ H { s with heap:=h',toks:=t' }:=I.un (Un.kept k) (I.hok.kept k)
theorem Inv.laid{a:n_}{o:HO}{t':Nat}(I:Inv X MR σ H s)(k:∀b u,s.heap.get? b=MA u->h'.get? b=MA u)(c:s.z<=a)(new:cR X.prog X.w (upd H a o) h' a o) : Inv X MR σ (upd H a o) { s with heap:=h',toks:=t' }:=I.un (Un.laid k c (I.hok.fresh c)) (I.hok.laid k c new)
theorem Inv.write{x e:n_}{o:HO}{t':Nat}(I:Inv X MR σ H s)(c:Vl (H x))(d:e=x\/H e=MA (.own x))(k:∀b u,b≠e->s.heap.get? b=MA u->h'.get? b=MA u)(a:∃u,h'.get? e=MA u) (new:cR X.prog X.w (upd H x o) h' x o):Inv X MR σ (upd H x o) { s with heap:=h',toks:=t' }:=I.un (Un.write c d k a) (I.hok.write c d k a new)
theorem Inv.ue{pins':pa}(I:Inv X MR σ H s)(h:∀p∈pins',s.heap.get? p.1=MA p.2/\H p.1=MB/\p.1≠X.env.locals/\p.1∉X.fs/\∀v,p.2.data≠.cell v):Inv X pins' σ H s:=⟨I.ok,I.os,I.bare,I.base,I.loc,I.cell,I.free,I.freeC,fun p a=>(JE.mp a).elim (fun z=>I.pin p (Kt _ z)) (h p),I.hok,I.len⟩
theorem qA{N:ra}(c:N.Nodup){i j:Nat}{x:Str}(a:N[i]?=MA x)(b:N[j]?=MA x):i=j:=by obtain⟨d,e1⟩:=Jq.mp a;obtain⟨e,e2⟩:=Jq.mp b;exact(List.getElem_inj c).mp (e1.trans e2.symm)
theorem jH{M:Model}{A:Kn}{E:J3->J5->Prop}{i:Nat}{x:Str}{v:V}{u:J3}{Q:Unit->J5->Prop}(I:Inv X MR σ H s)(hN:X.N.Nodup)(K:X.N[i]?=MA x)(t:Loc X.env.scope x)(r:RelV v u)
 (h:∀W,Inv X MR (σ.set i (MA v)) H W->(∃a,Mj a s.heap W.heap/\(a=X.env.locals\/X.env.cells.lookup x=MA a))->Q .unit W) (hf:X.fn x=MC\/X.env.scope.names.lookup x=MA .local:=by first|exact .inl rfl|exact .inr rfl|assumption):Js M A (storeName X.env x u) Q E s:=by
 obtain⟨m,Y,hl⟩:=id I.loc
 have L:(X.env.scope.kind==.class||(X.env.scope.kind==.module&&X.env.locals != X.env.globals))=MD:=by rw[I.ok.kind];rfl
 have C:i<σ.length:=by rw[I.len];exact(Jq.mp K).1
 have cne:=I.cne
 have g:∀{a:n_} {h':oT},(∃o,s.heap.get? a=MA o/\H a=MB)->Mj a s.heap h'->Nv X.prog X.w H h':=fun{a h'} ha f b ob e=>by
  obtain⟨_,_,B⟩:=ha
  refine(I.hok b ob e).iP (fun c T l q=>(f.2 c ?_).trans q) (fun _ q=>q) fun _ _ q=>q
  rintro rfl
  rcases l with rfl|l
  ·rw[B]at e;cases e
  ·rw[B]at l;cases l
 rcases t with D|D
 ·refine wpAny_storeName_local D Y (fun h' Z f=>?_) L
  obtain⟨oL,_,_,a0,_⟩:=id Y
  refine h _ ⟨I.ok,I.os,I.bare,⟨fun b o e n F t=>?_,fun b o e n F t=>?_,I.base.free,fun b o e t=>?_,I.base.tups,I.base.frzs,I.base.tbls⟩,⟨_,Z,fun j y v' e1 e2 e3=>?_⟩,fun y c e=>?_,I.free,I.freeC,fun p hp=>?_,g ⟨oL,a0,I.free⟩ f,‹I.len›⟩ ⟨_,f,.inl rfl⟩
  ·exact(f.2 b (K5 (JM (Jz e) I.ok.above))).trans (I.base.keep b o e n F t)
  ·obtain⟨sl,e1⟩:=I.base.slot b o e n F t
   exact⟨sl,(f.2 b (K5 (JM (Jz e) I.ok.above))).trans e1⟩
  ·obtain⟨o',e1⟩:=I.base.there b o e t
   exact⟨o',(f.2 b (K5 (JM (Jz e) I.ok.above))).trans e1⟩
  ·by_cases G:j=i
   ·subst G
    rw[K]at e1;cases e1
    rw[List.getElem?_set_self C]at e2
    cases e2
    exact⟨u,r,.inl ⟨D,by simp⟩⟩
   ·rw[List.getElem?_set_ne (Ne.symm G)]at e2
    obtain⟨u',r',q⟩:=hl j y v' e1 e2 e3
    refine⟨u',r',?_⟩
    rcases q with⟨k,e⟩|⟨k,c,e,z⟩
    ·refine .inl ⟨k,?_⟩
     have:y≠x:=fun e=>G (qA hN e1 (e▸K))
     simp[this,e]
    ·exact .inr ⟨k,c,e,z.sameBut f (cne y c e)⟩
  ·obtain⟨T,z⟩:=I.cell y c e
   exact⟨T,z.sameBut f (cne y c e)⟩
  ·obtain⟨e,n,ne,nf,d⟩:=I.pin p hp
   exact⟨(f.2 p.1 ne).trans e,n,ne,nf,d⟩
 ·have J:X.fn x=MC:=by
   rcases hf with z|z
   ·exact z
   ·rw[z]at D;cases D
  obtain⟨c,l⟩:=I.ok.has x (.inl D)
  obtain⟨T,z⟩:=I.cell x c l
  refine wpAny_storeName_cell I.ok.kind D l z (fun h' O f=>?_)
  obtain⟨oc,P,R⟩:=id z
  refine h { s with heap:=h' } ⟨I.ok,I.os,I.bare,⟨fun b o e n F t=>?_,fun b o e n F t=>?_,I.base.free,fun b o e t=>?_,I.base.tups,I.base.frzs,I.base.tbls⟩,⟨m,Y.sameBut f (Ne.symm (cne x c l)),fun j y v' e1 e2 e3=>?_⟩,fun y U e=>?_,I.free,I.freeC,fun p hp=>?_,g ⟨oc,P,I.freeC x c l⟩ f,‹I.len›⟩ ⟨c,f,.inr l⟩
  ·exact(f.2 b (K5 (JM (Jz e) (I.ok.cab x c J l)))).trans (I.base.keep b o e n F t)
  ·obtain⟨sl,e1⟩:=I.base.slot b o e n F t
   exact⟨sl,(f.2 b (K5 (JM (Jz e) (I.ok.cab x c J l)))).trans e1⟩
  ·obtain⟨o',e1⟩:=I.base.there b o e t
   exact⟨o',(f.2 b (K5 (JM (Jz e) (I.ok.cab x c J l)))).trans e1⟩
  ·by_cases G:j=i
   ·subst G
    rw[K]at e1;cases e1
    rw[List.getElem?_set_self C]at e2
    cases e2
    exact⟨u,r,.inr ⟨.inl D,c,l,O⟩⟩
   ·rw[List.getElem?_set_ne (Ne.symm G)]at e2
    obtain⟨u',r',q⟩:=hl j y v' e1 e2 e3
    refine⟨u',r',?_⟩
    rcases q with q|⟨k,U,e,z'⟩
    ·exact .inl q
    ·refine .inr ⟨k,U,e,z'.sameBut f ?_⟩
     rintro rfl
     exact G (qA hN e1 (I.ok.inj _ _ _ e l▸K))
  ·by_cases S:U=c
   ·subst S;exact⟨_,O⟩
   ·obtain⟨w2,z2⟩:=I.cell y U e
    exact⟨w2,z2.sameBut f S⟩
  ·obtain⟨e,n,ne,nf,d⟩:=I.pin p hp
   refine⟨(f.2 p.1 ?_).trans e,n,ne,nf,d⟩
   intro q
   rw[q,P]at e
   have q':oc=p.2:=Option.some.inj e
   exact d T (by rw[<-q'];exact R)
theorem gF{M:Model}{A:Kn}{E:J3->J5->Prop}{i:Nat}{x:Str}{v:V}{u:J3}{Q:Unit->J5->Prop}(I:Inv X MR σ H s)(b:X.N.Nodup)(c:X.N[i]?=MA x)(d:Loc X.env.scope x)(r:RelV v u) (h:∀a,Inv X MR (σ.set i (MA v)) H a->Q .unit a) (hf:X.fn x=MC\/X.env.scope.names.lookup x=MA .local:=by first|exact .inl rfl|exact .inr rfl|assumption):Js M A (storeName X.env x u) Q E s:=jH I b c d r (fun a e _=>h a e) hf
theorem Inv.xD{a:J5}{ch:q_}(I:Inv X MR σ H s)(f:a.os=s.os)(u:Un (Qt X.stack) ch H H' s.heap a.heap)(hok:Nv X.prog X.w H' a.heap)(g:AllBare a.gens)
 (d:∀b∈ch,(b∈X.ex\/X.s₀.z<=b)/\b≠X.env.locals/\(∀x c,X.env.cells.lookup x=MA c->c≠b)/\∀p∈X.pn++MR,p.1≠b):Inv X MR σ H' a:=by
 obtain⟨h',g',d',t',h⟩:=a
 have e:h=s.os:=f
 subst e
 exact I.call (g':=g') (t':=t') (d':=d') u hok g d
end
abbrev XK:=J3->Option n_->Hp->Prop
abbrev St:=List (Option V)
abbrev VK:=V->Hp->Prop
abbrev TE:=St->Hp->VK->Prop
abbrev TT:=St->Hp->(Bool->Hp->Prop)->Prop
abbrev TA:=St->Hp->(ri->Hp->Prop)->Prop
structure Ends where
 nx:St->Hp->Prop
 rt:VK
 bk:St->Hp->Prop:=fun _ _=>False
 ct:St->Hp->Prop:=fun _ _=>False
abbrev TS:=Ends->St->Hp->Prop
def EP(X:Cx)(MR:pa)(σ:St)(Q:VK)(u:J3)(b:J5):Prop:=∃v a,Inv X MR σ a b/\RelV v u/\Q v a
def TP(X:Cx)(MR:pa)(σ:St)(Q:Bool->Hp->Prop)(b:Bool)(c:J5):Prop:=∃a,Inv X MR σ a c/\Q b a
def AP(X:Cx)(MR:pa)(σ:St)(Q:ri->Hp->Prop)(us:List J3)(b:J5):Prop:=∃vs a,Inv X MR σ a b/\Vals vs us/\Q vs a
def SP(X:Cx)(MR:pa)(D:Ends)(f:Flow)(c:J5):Prop:=
 match f with
 |.next=>∃a b,Inv X MR a b c/\D.nx a b
 |.brk=>∃a b,Inv X MR a b c/\D.bk a b
 |.cont=>∃a b,Inv X MR a b c/\D.ct a b
 |.ret u=>∃v a b,Inv X MR a b c/\RelV v u/\D.rt v b
def PE(X:Cx)(e:o_)(t:TE):Prop:=
 ∀(MR:pa) (s:J5) (σ:St) (H:Hp) (Q:VK),Inv X MR σ H s->t σ H Q->Js (JF X.prog X.w) X.A (eval e X.env) (EP X MR σ Q) X.xe s
def PT(X:Cx)(e:o_)(t:TT):Prop:=
 ∀(MR:pa) (s:J5) (σ:St) (H:Hp) (Q:Bool->Hp->Prop),Inv X MR σ H s->t σ H Q->Js (JF X.prog X.w) X.A (isTrue e X.env (eval e X.env)) (TP X MR σ Q) X.xe s
def PW(X:Cx)(e:o_)(t:TT):Prop:=
 ∀(a:Sem J3) (MR:pa) (s:J5) (σ:St) (H:Hp) (Q:Bool->Hp->Prop),Inv X MR σ H s->t σ H Q->Js (JF X.prog X.w) X.A (isTrue e X.env a) (TP X MR σ Q) X.xe s
theorem PW.pt{X:Cx}{e:o_}{t:TT}(h:PW X e t):PT X e t:=h _
def PA(X:Cx)(es:qb)(t:TA):Prop:=
 ∀(pos:Pos) (MR:pa) (s:J5) (σ:St) (H:Hp) (Q:ri->Hp->Prop),Inv X MR σ H s->t σ H Q->Js (JF X.prog X.w) X.A (spliced (L5 pos (JC es X.env))) (AP X MR σ Q) X.xe s
def PS(X:Cx)(st:oa)(t:TS):Prop:=
 ∀(MR:pa) (s:J5) (σ:St) (H:Hp) (D:Ends),Inv X MR σ H s->t D σ H->Js (JF X.prog X.w) X.A (exec st X.env) (SP X MR D) X.xe s
def P7(X:Cx)(st:p_)(t:TS):Prop:=
 ∀(MR:pa) (s:J5) (σ:St) (H:Hp) (D:Ends),Inv X MR σ H s->t D σ H->Js (JF X.prog X.w) X.A (execs st X.env) (SP X MR D) X.xe s
theorem NO{b:Type}{t:Sem b}{Q c:b->J5->Prop}{M:Model}{A:Kn}{E:J3->J5->Prop}{s:J5}(h:Js M A t Q E s)(d:∀a s,Q a s->c a s):Js M A t c E s:=JB h d fun _ _ x=>x
section
variable{X:Cx}
def Iu(i:Nat):TE:=fun σ H Q=>∃v,σ[i]?=MA (MA v)/\Q v H
def tC(v:V):TE:=fun _ H Q=>Q v H
theorem DM{i:Nat}{x:Str}{pos:Pos}(j:X.N[i]?=MA x)(k:Vj X.env.scope x)(hd:(x==("__debug__":Str))=MD:=by decide)(f:(x==("__classdict__":Str))=MD:=by decide):PE X (.Name x pos) (Iu i):=by
 intro MR s σ H Q I h;obtain⟨v,e,h⟩:=h;obtain⟨m,n,o⟩:=I.loc;obtain⟨u,r,l⟩:=o i x v j e k;have b:EP X MR σ Q u s:=⟨v,H,I,r,h⟩;rcases l with⟨d,p⟩|⟨d,c,g,a⟩
 ·exact wpAny_Name (wpAny_loadName_local I.ok.kind d n p b) hd
 ·rcases d with d|d
  ·exact wpAny_Name (wpAny_loadName_cell I.ok.kind d g a b) hd
  ·exact wpAny_Name (wpAny_loadName_free I.ok.kind d g a b f) hd
theorem yY{i j pos}:PE X (.Constant (.int i) j pos) (tC (.int i)):=fun _ _ _ H _ I h=>wpAny_Constant_int ⟨.int i,H,I.tok _,⟨_,rfl⟩,h⟩
theorem FP{b j pos}:PE X (.Constant (.bool b) j pos) (tC (.bl b)):=fun _ _ _ H _ I h=>Constant_bool ⟨.bl b,H,I,rfl,h⟩
theorem DU{j pos}:PE X (.Constant .none j pos) (tC .non):=fun _ _ _ H _ I h=>Constant_none ⟨.non,H,I,rfl,h⟩
def Gl(X:Cx)(x:Str):Prop:=X.env.kindOf x=MA .globalImplicit
theorem Ao{E:J3->J5->Prop}{MR:pa}{s:J5}{σ:St}{H:Hp}{x:Str}{u:J3}{pos:Pos}{Q:J3->J5->Prop}(I:Inv X MR σ H s)(a:Gl X x)(b:X.mg x=MA u)(h:Q u s) (hd:(x==("__debug__":Str))=MD:=by decide):Js (JF X.prog X.w) X.A (eval (.Name x pos) X.env) Q E s:=Calls.Name_function_global I.ok.kind a (Calls.loadGlobal_global (by rw[I.ok.glob];exact I.mod.glob.keeps I.bk) b h) hd
theorem iL{E:J3->J5->Prop}{MR:pa}{s:J5}{σ:St}{H:Hp}{x:Str}{u:J3}{pos:Pos}{Q:J3->J5->Prop}(I:Inv X MR σ H s)(a:Gl X x)(b:X.mg x=MB)(c:Kp x=MA u)(h:Q u s) (d:x≠"__name__":=by decide) (hd:(x==("__debug__":Str))=MD:=by decide):Js (JF X.prog X.w) X.A (eval (.Name x pos) X.env) Q E s:=by obtain⟨g,e,f⟩:=I.mod.blt;exact Calls.Name_function_global I.ok.kind a (Calls.loadGlobal_builtin (by rw[I.ok.glob];exact I.mod.glob.keeps I.bk) b (by rw[I.ok.blt];exact e.keeps I.bk) ((f x d).trans c) h) hd
theorem Am{x:Str}{v:V}{u:J3}{pos:Pos}(a:Gl X x)(b:X.mg x=MB)(c:Kp x=MA u)(r:RelV v u)(d:x≠"__name__":=by decide)(hd:(x==("__debug__":Str))=MD:=by decide):PE X (.Name x pos) (tC v):=fun _ _ _ H _ I h=>iL I a b c ⟨v,H,I,r,h⟩ d hd
variable{a b:o_}{ta tb:TE}{pos:Pos}
def PC(X:Cx)(op:CmpOp)(a b:o_)(t:TE):Prop:=
 ∀(MR:pa) (s:J5) (σ:St) (H:Hp) (Q:VK),Inv X MR σ H s->t σ H Q->
  Js (JF X.prog X.w) X.A (eval a X.env) (fun v c=>Js (JF X.prog X.w) X.A (eval b X.env) (fun u d=>Js (JF X.prog X.w) X.A (K4 op v u) (EP X MR σ Q) X.xe d) X.xe c) X.xe s
def tB(t:TE):TT:=fun σ H Q=>t σ H fun x H1=>∃c,x=.bl c/\Q c H1
theorem Dr{op:CmpOp}{t:TE}(h:PC X op a b t)(f:Mm op b=MD:=by first|exact nobehind _ ⋯ ⋯|rfl):PT X (.Compare a [op] [b] pos) (tB t):=by intro MR s σ H Q I g;refine wpAny_isTrue_Compare1 (NO (h MR s σ H _ I g) fun v m f=>NO f fun u n i=>NO i fun c o e=>?_) f;obtain⟨x,H1,j,k,l⟩:=e;obtain⟨d,rfl,q⟩:=l;cases k;exact KN ⟨H1,j,q⟩
theorem C7{e:o_}{t:TE}(h:PE X e t)(g:∀c,isTrue e X.env c=(do let v <-c;standAt e.pos;holding [v] (truthy v)):=by intro _;rfl):PT X e (tB t):=by intro MR s σ H Q I i;refine isTrue_plain (NO (h MR s σ H _ I i) fun v m f=>?_) (g _);obtain⟨x,H1,j,k,l⟩:=f;obtain⟨d,rfl,q⟩:=l;cases k;exact KN ⟨H1,j,q⟩
variable{tA MS:TT}{rest:qb}
def Iy(t u:TT):TT:=fun σ H Q=>t σ H fun c H1=>if c=MC then u σ H1 Q else Q MD H1
def Ye(t u:TT):TT:=fun σ H Q=>t σ H fun c H1=>if c=MC then Q MC H1 else u σ H1 Q
def Jc(t:TT):TT:=fun σ H Q=>t σ H fun c H1=>Q (!c) H1
theorem Aw(d:PT X a tA):PW X (.BoolOp .And [a] pos) tA:=by
 intro f MR s σ H Q I h;refine isTrue_and (NO (d MR s σ H Q I h) fun c g e=>?_);cases c with
 |true=>exact isTrue_and_nil e
 |false=>exact e
theorem Dc(d:PT X a tA):PW X (.BoolOp .Or [a] pos) tA:=by
 intro f MR s σ H Q I h;refine isTrue_or (NO (d MR s σ H Q I h) fun c g e=>?_);cases c with
 |false=>exact isTrue_or_nil e
 |true=>exact e
theorem EF(g:PT X a tA)(i:PW X (.BoolOp .And (b::rest) pos) MS):PW X (.BoolOp .And (a::b::rest) pos) (Iy tA MS):=by
 intro j MR s σ H Q I h;refine isTrue_and (NO (g MR s σ H _ I h) fun c k d=>?_);obtain⟨H1,e,f⟩:=d;cases c with
 |true=>exact i j MR k σ H1 Q e f
 |false=>exact⟨H1,e,f⟩
theorem Gw(g:PT X a tA)(i:PW X (.BoolOp .Or (b::rest) pos) MS):PW X (.BoolOp .Or (a::b::rest) pos) (Ye tA MS):=by
 intro j MR s σ H Q I h;refine isTrue_or (NO (g MR s σ H _ I h) fun c k d=>?_);obtain⟨H1,e,f⟩:=d;cases c with
 |true=>exact⟨H1,e,f⟩
 |false=>exact i j MR k σ H1 Q e f
theorem EX(d:PT X a tA):PT X (.UnaryOp .Not a pos) (Jc tA):=by intro MR s σ H Q I h;exact isTrue_not (d MR s σ H (fun c H1=>Q (!c) H1) I h)
def GY(ta tb:TE):TE:=fun σ H Q=>ta σ H fun x H1=>∃c,x=.bl c/\if c=MC then tb σ H1 Q else Q (.bl MD) H1
def IG(ta tb:TE):TE:=fun σ H Q=>ta σ H fun x H1=>∃c,x=.bl c/\if c=MC then Q (.bl MC) H1 else tb σ H1 Q
def F8(ta:TE):TE:=fun σ H Q=>ta σ H fun x H1=>∃c,x=.bl c/\Q (.bl (!c)) H1
theorem Eb{op}{t:TE}(h:PE X a t):PE X (.BoolOp op [a] pos) t:=fun MR s σ H Q I c=>BoolOp_one (h MR s σ H Q I c)
theorem Dx(g:PE X a ta)(i:PE X (.BoolOp .And (b::rest) pos) tb):PE X (.BoolOp .And (a::b::rest) pos) (GY ta tb):=by
 intro MR s σ H Q I h;refine BoolOp_and (NO (g MR s σ H _ I h) fun v j d=>?_);obtain⟨x,H1,f,k,e⟩:=d;obtain⟨c,rfl,e⟩:=e;cases k;refine KN ?_;cases c with
 |true=>exact i MR j σ H1 Q f e
 |false=>exact⟨.bl MD,H1,f,rfl,e⟩
theorem FR(g:PE X a ta)(i:PE X (.BoolOp .Or (b::rest) pos) tb):PE X (.BoolOp .Or (a::b::rest) pos) (IG ta tb):=by
 intro MR s σ H Q I h;refine BoolOp_or (NO (g MR s σ H _ I h) fun v j d=>?_);obtain⟨x,H1,f,k,e⟩:=d;obtain⟨c,rfl,e⟩:=e;cases k;refine KN ?_;cases c with
 |false=>exact i MR j σ H1 Q f e
 |true=>exact⟨.bl MC,H1,f,rfl,e⟩
theorem DD(f:PE X a ta):PE X (.UnaryOp .Not a pos) (F8 ta):=by intro MR s σ H Q I h;refine UnaryOp_ (NO (f MR s σ H _ I h) fun v j d=>?_);obtain⟨x,H1,g,i,e⟩:=d;obtain⟨c,rfl,e⟩:=e;cases i;exact not_of (KN ⟨.bl (!c),H1,g,rfl,e⟩)
def Yf(t:TT)(ta tb:TE):TE:=fun σ H Q=>t σ H fun c H1=>if c=MC then ta σ H1 Q else tb σ H1 Q
theorem Ai{c:o_}(j:PT X c tA)(k:PE X a ta)(l:PE X b tb):PE X (.IfExp c a b pos) (Yf tA ta tb):=by
 intro MR s σ H Q I h;refine wpAny_IfExp (NO (j MR s σ H _ I h) fun d f e=>?_);obtain⟨H1,g,i⟩:=e;cases d with
 |true=>exact k MR f σ H1 Q g i
 |false=>exact l MR f σ H1 Q g i
end
def NX(K:J1)(H:Hp)(a:n_)(xs:ri):Prop:=
 Rd H a (.lst xs)\/
  ∃(o:Obj) (b:Array J3) (n:Nat),K.lookup a=MA o/\o.cls=.type "list"/\o.dict=MB/\o.data=.seq b n/\b.size<=Jv/\Vals xs b.toList
def N0(K:J1)(H:Hp)(a:n_)(xs:ri):Prop:=
 Rd H a (.tup xs)\/
  ∃(o:Obj) (b:Array J3) (n:Nat),K.lookup a=MA o/\(o.cls=.type "tuple"/\o.dict=MB)/\o.data=.seq b n/\b.size<=Jv/\Vals xs b.toList
def Ja:J3->Option V
 |.none=>MA .non
 |.bool b=>MA (.bl b)
 |.int i _=>MA (.int i)
 |.str x _=>MA (.str x)
 |.bytes b _=>MA (.byt b)
 |.float b _=>MA (.flt b)
 |.ref a=>MA (.ref a)
 |.type n=>MA (.ty n)
 |_=>MB
theorem RelV.abs{x:V}{u:J3}(r:RelV x u):Ja u=MA x:=by
 cases x with
 |non=>cases r;rfl
 |bl _=>cases r;rfl
 |int _=>obtain⟨t,rfl⟩:=r;rfl
 |str _=>obtain⟨t,rfl⟩:=r;rfl
 |byt _=>obtain⟨t,rfl⟩:=r;rfl
 |flt _=>obtain⟨t,rfl⟩:=r;rfl
 |ref _=>cases r;rfl
 |ty _=>cases r;rfl
theorem RelV.inj{x y:V}{u:J3}(r:RelV x u)(q:RelV y u):x=y:=Option.some.inj (r.abs.symm.trans q.abs)
theorem Vals.inj:∀{xs ys:ri} {us:List J3},Vals xs us->Vals ys us->xs=ys:=by
 intro xs ys us h
 induction h generalizing ys with
 |nil=>intro k;cases k;rfl
 |cons r t a=>
  intro k
  cases k with
  |cons b c=>rw[r.inj b,a c]
section
variable{X:Cx}{MR:pa}{σ:St}{H:Hp}{s:J5}{a:n_}{xs ys:ri}
theorem NX.of{K:J1}(h:H a=MA (.lst xs)):NX K H a xs:=.inl (.inl h)
theorem N0.of{K:J1}(h:H a=MA (.tup xs)):N0 K H a xs:=.inl (.inl h)
theorem Inv.list(I:Inv X MR σ H s)(h:NX X.K H a xs):∃b:List J3,Vals xs b/\PlainL s.heap a b.toArray/\xs.length<=Jv:=by
 rcases h with h|⟨o,b,n,c,d,hd,f,g,r⟩
 ·obtain⟨z,b,n,r,e⟩:=h.ok I.hok;exact⟨b,r,⟨_,n,e,rfl,rfl,rfl⟩,z⟩
 ·refine⟨b.toList,r,⟨o,n,I.kIn a o c,d,hd,‹f›⟩,?_⟩;have e:=r.length;simp only[Array.length_toList]at e;omega
theorem Inv.tuple(I:Inv X MR σ H s)(h:N0 X.K H a xs):∃b:List J3,Vals xs b/\IsTup s.heap a b.toArray/\xs.length<=Jv:=by
 rcases h with h|⟨o,b,n,c,d,f,g,r⟩
 ·obtain⟨z,b,r,p,_⟩:=h.ok I.hok;exact⟨b,r,p,z⟩
 ·refine⟨b.toList,r,⟨o,I.kIn a o c,d.1,n,‹f›⟩,?_⟩;have e:=r.length;simp only[Array.length_toList]at e;omega
theorem Inv.Fp(I:Inv X MR σ H s)(h:N0 X.K H a xs):Rm s.heap a:=by
 rcases h with h|⟨o,b,n,c,d,e,f,r⟩
 ·obtain⟨z,b,r,_,p⟩:=h.ok I.hok;exact p
 ·exact⟨o,I.kIn a o c,d.2⟩
theorem Inv.i8(I:Inv X MR σ H s)(h:NX X.K H a xs)(h':NX X.K H a ys):xs=ys:=by
 obtain⟨c,r,⟨o,n,e,_,_,d⟩,_⟩:=I.list h;obtain⟨b,i,⟨k,l,f,_,_,g⟩,_⟩:=I.list h';rw[e]at f;cases f;rw[d]at g;injection g with j _;have:c=b:=‹congrArg Array.toList j›
 subst this;exact r.inj i
theorem Inv.wI(I:Inv X MR σ H s)(h:N0 X.K H a xs)(h':N0 X.K H a ys):xs=ys:=by
 obtain⟨c,r,⟨o,e,_,n,d⟩,_⟩:=I.tuple h;obtain⟨b,i,⟨k,f,_,l,g⟩,_⟩:=I.tuple h';rw[e]at f;cases f;rw[d]at g;injection g with j _;have:c=b:=‹congrArg Array.toList j›
 subst this;exact r.inj i
end
abbrev Cx.nC(X:Cx)(E:J3->J5->Prop):Cx:={ X with xe:=E }
abbrev Cx.nox(X:Cx):Cx:=X.nC fun _ _=>False
theorem Cx.Ok.nC{X:Cx}(ok:X.Ok)(E:J3->J5->Prop):(X.nC E).Ok:=⟨ok.mod,ok.kind,ok.glob,ok.blt,ok.above,ok.inj,ok.has,ok.cab,ok.hd,ok.frames,ok.stk,ok.exf,ok.bs,ok.bsz,ok.noex,ok.exfs,ok.mQ,ok.frf⟩
theorem Cx.Ok.gH{X:Cx}{E:J3->J5->Prop}(ok:(X.nC E).Ok):X.Ok:=⟨ok.mod,ok.kind,ok.glob,ok.blt,ok.above,ok.inj,ok.has,ok.cab,ok.hd,ok.frames,ok.stk,ok.exf,ok.bs,ok.bsz,ok.noex,ok.exfs,ok.mQ,ok.frf⟩
section
variable{X:Cx}{MR:pa}{σ:St}{H:Hp}{s:J5}{E:J3->J5->Prop}
theorem Inv.nC(I:Inv X MR σ H s)(E:J3->J5->Prop):Inv (X.nC E) MR σ H s:=⟨I.ok.nC E,I.os,I.bare,I.base,I.loc,I.cell,I.free,I.freeC,I.pin,I.hok,I.len⟩
theorem Inv.gH(I:Inv (X.nC E) MR σ H s):Inv X MR σ H s:=⟨I.ok.gH,I.os,I.bare,I.base,I.loc,I.cell,I.free,I.freeC,I.pin,I.hok,I.len⟩
theorem SP.gH{D:Ends}{f:Flow}{c:J5}(h:SP (X.nC E) MR D f c):SP X MR D f c:=by
 cases f with
 |next=>obtain⟨a,b,I,q⟩:=h;exact⟨a,b,I.gH,q⟩
 |brk=>obtain⟨a,b,I,q⟩:=h;exact⟨a,b,I.gH,q⟩
 |cont=>obtain⟨a,b,I,q⟩:=h;exact⟨a,b,I.gH,q⟩
 |ret u=>obtain⟨v,a,b,I,r,q⟩:=h;exact⟨v,a,b,I.gH,r,q⟩
theorem P7.nox{st:p_}{t:TS}(h:P7 X.nox st t):P7 X st t:=fun MR s σ H D I a=>JB (h MR s σ H D (I.nC _) a) (fun _ _ q=>q.gH) fun _ _ z=>JR z
end
section
variable{X:Cx}{st:oa}{rest:p_}{t u:TS}{e:o_}{te:TE}{pos:Pos}
def Hb:TS:=fun D σ H=>D.nx σ H
def Ir(t u:TS):TS:=fun D σ H=>t { D with nx:=u D } σ H
theorem BU:P7 X [] Hb:=fun _ _ σ H _ I h=>wpAny_execs_nil ⟨σ,H,I,h⟩
theorem Ad(b:PS X st t)(c:P7 X rest u):P7 X (st::rest) (Ir t u):=by
 intro MR s σ H D I h;refine wpAny_execs_cons (NO (b MR s σ H { D with nx:=u D } I h) fun f d q=>?_);cases f with
 |next=>
  obtain⟨a,g,i,q⟩:=q
  exact c MR d a g D i q
 |ret v=>exact q
 |brk=>exact q
 |cont=>exact q
theorem Az(a:PS X st t):P7 X [st] t:=by
 intro MR s σ H D I h;refine wpAny_execs_cons (NO (a MR s σ H D I h) fun f b q=>?_);cases f with
 |next=>exact wpAny_execs_nil q
 |ret v=>exact q
 |brk=>exact q
 |cont=>exact q
theorem Inv.quiet{MR:pa}{σ:St}{H:Hp}{s:J5}(I:Inv X MR σ H s):interactive X.env=MD:=by simp[interactive,I.ok.kind]
def Hx(te:TE):TS:=fun D σ H=>te σ H fun _ H1=>D.nx σ H1
theorem Bl(b:PE X e te)(c:Mo e MB pos.line X.env=pure MD:=by rfl):PS X (.Expr e pos) (Hx te):=by intro MR s σ H D I h;exact wpAny_Expr_any (NO (b MR s σ H _ I h) fun v g a=>by obtain⟨x,H1,d,i,f⟩:=a;exact(⟨σ,H1,d,f⟩)) I.quiet c
def Ib(te:TE):TS:=fun D σ H=>te σ H D.rt
theorem Em(b:PE X e te):PS X (.Return (MA e) pos) (Ib te):=by intro MR s σ H D I h;exact wpAny_Return_some (NO (b MR s σ H _ I h) fun v g a=>by obtain⟨x,H1,c,d,f⟩:=a;exact(⟨x,σ,H1,c,d,f⟩))
def IV(c:TT)(t u:TS):TS:=fun D σ H=>c σ H fun b H1=>if b=MC then t D σ H1 else u D σ H1
theorem Gn{c:o_}{a b:p_}{tc:TT}(k:PT X c tc)(l:P7 X a t)(m:P7 X b u):PS X (.If c a b pos) (IV tc t u):=by
 intro MR s σ H D I h;refine wpAny_If (NO (k MR s σ H _ I h) fun d g f=>?_);obtain⟨H1,i,j⟩:=f;cases d with
 |true=>exact l MR g σ H1 D i j
 |false=>exact m MR g σ H1 D i j
def Dq:TS:=fun _ _ _=>False
theorem zm:PS X st Dq:=fun _ _ _ _ _ _ h=>h.elim
end
abbrev TG:=V->St->Hp->(St->Hp->Prop)->Prop
abbrev RN:=ri->St->Hp->(St->Hp->Prop)->Prop
def PG(X:Cx)(a:o_)(t:TG):Prop:=
 ∀(MR:pa) (s:J5) (σ:St) (H:Hp) (v:V) (u:J3) (Q:St->Hp->Prop),Inv X MR σ H s->RelV v u->t v σ H Q->
  Js (JF X.prog X.w) X.A (Mp a X.env u) (fun _ d=>∃b c,Inv X MR b c d/\Q b c) X.xe s
def Ry(X:Cx)(c:qb)(t:RN):Prop:=
 ∀(MR:pa) (s:J5) (σ:St) (H:Hp) (vs:ri) (us:List J3) (Q:St->Hp->Prop),Inv X MR σ H s->Vals vs us->t vs σ H Q->
  Js (JF X.prog X.w) X.A (assignInOrder ((Mn c X.env).map (·.2)) us) (fun _ d=>∃a b,Inv X MR a b d/\Q a b) X.xe s
abbrev Ec:=V->V->V->Hp->(Hp->Prop)->Prop
def FC(X:Cx)(t:Ec):Prop:=
 ∀(MR:pa) (s:J5) (σ:St) (H:Hp) (o i v:V) (a b u:J3) (Q:Hp->Prop),Inv X MR σ H s->RelV o a->RelV i b->RelV v u->t o i v H Q->
  Js (JF X.prog X.w) X.A (setItem a b u) (fun _ d=>∃c,Inv X MR σ c d/\Q c) X.xe s
abbrev WD:=V->V->Hp->VK->Prop
def WE(X:Cx)(op:Operator)(t:WD):Prop:=
 ∀(MR:pa) (s:J5) (σ:St) (H:Hp) (x y:V) (v u:J3) (Q:VK),Inv X MR σ H s->RelV x v->RelV y u->t x y H Q->
  Js (JF X.prog X.w) X.A (inplaceOp op v u) (EP X MR σ Q) X.xe s
section
variable{X:Cx}{pos:Pos}
def gv(i:Nat):TG:=fun v σ H Q=>Q (σ.set i (MA v)) H
theorem vm{i:Nat}{x:Str}(a:X.N.Nodup)(b:X.N[i]?=MA x)(c:Loc X.env.scope x)(hf:X.fn x=MC\/X.env.scope.names.lookup x=MA .local:=by first|exact .inl rfl|exact .inr rfl|assumption):PG X (.Name x pos) (gv i):=by intro MR s σ H v u Q I r h;exact wpAny_assign_Name (gF I a b c r (fun e d=>⟨_,H,d,h⟩) hf)
def Fb:RN:=fun vs σ H Q=>vs=[]/\Q σ H
def qN(t:TG)(u:RN):RN:=fun vs σ H Q=>∃v r,vs=v::r/\t v σ H fun a b=>u r a b Q
theorem uK:Ry X [] Fb:=by intro MR s σ H vs us Q I r h;obtain⟨e,h⟩:=h;subst e;cases r;exact assignInOrder_nil ⟨σ,H,I,h⟩
theorem mE{e:o_}{es:qb}{t:TG}{u:RN}(c:PG X e t)(d:Ry X es u) (f:(Mn (e::es) X.env).map (·.2)=Mp e X.env::(Mn es X.env).map (·.2):=by rfl):Ry X (e::es) (qN t u):=by
 intro MR s σ H vs us Q I r h;obtain⟨v,l,e1,h⟩:=h;subst e1;cases r with
 |cons r g=>
  rw[f]
  refine assignInOrder_cons (NO (c MR s σ H _ _ _ I r h) fun _ i a=>?_)
  obtain⟨b,H1,j,k⟩:=a
  exact d MR i b H1 _ _ Q j g k
def D9(K:J1)(n:Nat)(t:RN):TG:=fun v σ H Q=>∃a xs,v=.ref a/\N0 K H a xs/\xs.length=n/\t xs σ H Q
theorem z5{es:qb}{k:Nat}{t:RN}{n:Nat}(g:X.calm=MC)(h:Ry X es t)
 (i:(Mn es X.env).length=n:=by rfl) (c:(Mn es X.env).findIdx? (·.1)=MB:=by rfl):PG X (.Tuple es k pos) (D9 X.K n t):=by
 intro MR s σ H v u Q I r d
 obtain⟨a,xs,e1,j,l,d⟩:=d
 subst e1
 cases r
 obtain⟨m,f,p,y⟩:=I.tuple j
 refine assign_Tuple_tuple (I.ok.hd g) p (by simp[i,<-l,f.length]) c fun q w=>?_
 have x:Inv X MR σ H { s with heap:=q }:=I.kept (t':=s.toks) fun b o e=>w b o (K5 (Jz e)) e
 exact h MR _ σ H xs _ Q x ‹f› d
def Jf(a b:TE)(t:Ec):TG:=fun v σ H Q=>a σ H fun o H1=>b σ H1 fun i c=>t o i v c fun d=>Q σ d
theorem E8{o i:o_}{f g:TE}{t:Ec}(j:PE X o f)(k:PE X i g)(l:FC X t)
 (m:∀v,Mp (.Subscript o i pos) X.env v=(do
  let d <-holding [v] (eval o X.env)
  let e <-holding [v,d] (eval i X.env)
  standAt pos
  holding [v,d,e] (setItem d e v)
  release [v,d,e] []):=by intro _;rfl):PG X (.Subscript o i pos) (Jf f g t):=by
 intro MR s σ H v u Q I r h
 rw[m]
 refine cc (KC (NO (j MR s σ H _ I h) fun d n a=>?_))
 obtain⟨x,H1,p,q,w⟩:=a
 refine cc (KC (NO (k MR n σ H1 _ p w) fun e z b=>?_))
 obtain⟨y,A,B,C,D⟩:=b
 refine cc (Lc (cc (KC (NO (l MR z σ A x y v d e u _ B q C r D) fun _ J c=>?_))))
 obtain⟨E,F,G⟩:=c
 exact wpAny_release ⟨σ,E,F,G⟩
def AI(te:TE)(g:TG):TS:=fun D σ H=>te σ H fun x H1=>g x σ H1 D.nx
theorem C4{tg e:o_}{te:TE}{g:TG}(b:PE X e te)(c:PG X tg g)(d:swapsWithSole [tg] e pos.line X.env=pure MD:=by rfl)(hw:swappedStores [tg] e X.env=pure MB:=by rfl) (f:(Mn [tg] X.env).map (·.2)=[Mp tg X.env]:=by rfl):PS X (.Assign [tg] e pos) (AI te g):=by intro MR s σ H D I h;refine wpAny_Assign_stores (NO (b MR s σ H _ I h) fun v i a=>?_) d hw;obtain⟨x,H1,j,k,l⟩:=a;rw[f];exact NO (c MR i σ H1 x v _ j k l) fun _ m q=>q
theorem Dd{i:Nat}{x:Str}{e:o_}{te:TE}{b:Pos}(c:X.N.Nodup)(d:X.N[i]?=MA x)(f:Loc X.env.scope x)(g:PE X e te)(j:Mo e (MA (.Name x b)) pos.line X.env=pure MD:=by rfl)(hf:X.fn x=MC\/X.env.scope.names.lookup x=MA .local:=by first|exact .inl rfl|exact .inr rfl|assumption) : PS X (.Assign [.Name x b] e pos) (AI te (gv i)):=by intro MR s σ H D I h;refine wpAny_Assign_Name (NO (g MR s σ H _ I h) fun v o a=>?_) j;obtain⟨y,H1,k,l,m⟩:=a;exact gF k c d f l (fun p n=>⟨_,H1,n,m⟩) hf
def Iv(i j:Nat)(a:TA):TS:=fun D σ H=>a σ H fun vs H1=>∃v w,vs=[v,w]/\D.nx ((σ.set i (MA v)).set j (MA w)) H1
theorem Ew{i j:Nat}{x y:Str}{a b:o_}{C:TA}{l m pt:Pos}{n r d}(K:X.calm=MC)(E:X.N.Nodup)(L:X.N[i]?=MA x)(M:X.N[j]?=MA y)(t:i≠j)
 (F:X.env.scope.names.lookup x=MA .local) (G:X.env.scope.names.lookup y=MA .local) (O:PA X [a,b] C)
 (hw:swappedStores [.Tuple [.Name x l,.Name y m] n pt] (.Tuple [a,b] r d) X.env=pure (MA [x,y]))
 (P:swapsWithSole [.Tuple [.Name x l,.Name y m] n pt] (.Tuple [a,b] r d) pos.line X.env=pure MD:=by rfl) :
 PS X (.Assign [.Tuple [.Name x l,.Name y m] n pt] (.Tuple [a,b] r d) pos) (Iv i j C):=by
 intro MR s σ H D I h
 rw[exec_Assign_arm]
 refine cc (Lc ?_)
 rw[P]
 refine cc (J7 ?_)
 rw[ME ⋯]
 refine cc (Tuple_ (NO (O _ MR s σ H _ I h) fun us f c=>?_))
 obtain⟨vs,H1,Q,R,u⟩:=c
 obtain⟨v,w,e1,u⟩:=u
 subst e1
 obtain⟨g,k,rfl,S,z⟩:∃g k,us=[g,k]/\RelV v g/\RelV w k:=by
  cases R with
  |cons p q=>
   cases q with
   |cons T U=>
    cases U
    exact⟨_,_,rfl,p,T⟩
 refine K7 ?_ (by show 2<=Jv;decide)
 have V:Inv X MR σ H1 { f with heap:=f.heap.push { cls:=.type "tuple",data:=.seq [g,k].toArray } }:=Q.kept (t':=f.toks) fun b o e=>Jo _ e
 rw[hw]
 refine cc (J7 ?_)
 show Js (JF X.prog X.w) X.A (do rule "assign.swapped-stores";let items <-unpackItems (.ref f.z) 2 MB;assignInOrder [fun v=>bindName X.env y v,fun v=>bindName X.env x v] items.reverse;pure Flow.next) _ _ _
 refine cc (wpAny_rule (cc (unpackItems_tuple (items:=#[g,k]) (I.ok.hd K) (IsTup.new f.heap _) fun h' B=>?_)))
 have W:=V.kept (h':=h') (t':=f.toks) fun b o e=>B b o (K5 (Jz e)) e
 show Js _ _ (assignInOrder [fun v=>bindName X.env y v,fun v=>bindName X.env x v] [k,g] >>= fun _=>pure Flow.next) _ _ _
 refine cc (assignInOrder_cons (wpAny_bindName (gF W E M (.inl G) z (fun Z Y=>?_) (.inr G))))
 refine assignInOrder_cons (wpAny_bindName (gF Y E L (.inl F) S (fun s3 J=>assignInOrder_nil (J7 ?_)) (.inr F)))
 rw[List.set_comm _ _ (Ne.symm t)]at J
 exact⟨_,H1,J,u⟩
def IM(i:Nat)(te:TE)(a:WD):TS:=fun D σ H=>∃x,σ[i]?=MA (MA x)/\te σ H fun y H1=>a x y H1 fun z b=>D.nx (σ.set i (MA z)) b
theorem C2{i:Nat}{x:Str}{e:o_}{te:TE}{op:Operator}{q:WD}{g:Pos}(B:X.N.Nodup)(t:X.N[i]?=MA x)(o:Loc X.env.scope x)(C:PE X e te)(E:WE X op q)(hf:X.fn x=MC\/X.env.scope.names.lookup x=MA .local:=by first|exact .inl rfl|exact .inr rfl|assumption) :
 PS X (.AugAssign (.Name x g) op e pos) (IM i te q):=by
 intro MR s σ H D I h
 obtain⟨v,e1,h⟩:=h
 obtain⟨m,F,G⟩:=I.loc
 have p:Vj X.env.scope x:=by rcases o with k|k;exact .inl k;exact .inr (.inl k)
 obtain⟨u,r,l⟩:=G i x v t e1 p
 refine wpAny_AugAssign_Name ?_
 have go:Js (JF X.prog X.w) X.A (eval e X.env) (fun w j=>Js (JF X.prog X.w) X.A (inplaceOp op u w) (fun r n=>Js (JF X.prog X.w) X.A (storeName X.env x r) (fun _=>SP X MR D .next) X.xe n) X.xe j) X.xe s:=by
  refine NO (C MR s σ H _ I h) fun w J a=>?_
  obtain⟨y,H1,K,L,M⟩:=a
  refine NO (E MR J σ H1 v y u w _ K r L M) fun z V b=>?_
  obtain⟨W,O,P,Q,R⟩:=b
  exact gF P B t o Q (fun Y S=>⟨_,O,S,R⟩) hf
 rcases l with⟨d,T⟩|⟨d,c,U,f⟩
 ·exact wpAny_loadName_local I.ok.kind d F T go
 ·rcases d with d|d
  ·exact wpAny_loadName_cell I.ok.kind d U f go
  ·rcases o with k|k
   ·have:X.env.scope.names.lookup x=MA .free:=d
    rw[k]at this;cases this
   ·have:X.env.scope.names.lookup x=MA .free:=d
    rw[k]at this;cases this
def Xz(f:Int->Int->Int):WD:=fun x y H Q=>∃i j,x=.int i/\y=.int j/\Q (.int (f i j)) H
theorem D8:WE X .Add (Xz fun i j=>i+j):=by intro MR s σ H x y v u Q I a b h;obtain⟨i,j,e1,e2,q⟩:=h;subst e1;subst e2;obtain⟨t,rfl⟩:=a;obtain⟨c,rfl⟩:=b;exact iadd_int ⟨.int _,H,I.tok _,⟨_,rfl⟩,q⟩
theorem DQ:WE X .Sub (Xz fun i j=>i-j):=by intro MR s σ H x y v u Q I a b h;obtain⟨i,j,e1,e2,q⟩:=h;subst e1;subst e2;obtain⟨t,rfl⟩:=a;obtain⟨c,rfl⟩:=b;exact isub_int ⟨.int _,H,I.tok _,⟨_,rfl⟩,q⟩
end
section
variable{X:Cx}{pos:Pos}
def C9(c:TT)(f:TS):TS:=fun D σ H=>∃W:Nat->St->Hp->Prop,(∃m,W m σ H)/\∀m σ H,W m σ H->
 c σ H fun b H1=>if b=MC then ∃N:St->Hp->Prop,(∀a d,N a d->∃e,e<m/\W e a d)/\f { D with nx:=N,ct:=N,bk:=D.nx } σ H1 else D.nx σ H1
theorem xH{c:o_}{body:p_}{tc:TT}{t:TS}(u:PassesOwn (JF X.prog X.w) X.A X.env X.xe)(C:PT X c tc)(E:P7 X body t):PS X (.While c body [] pos) (C9 tc t):=by
 intro MR s σ H D I h;obtain⟨W,⟨F,G⟩,g⟩:=h;refine wpAny_While (codeAny_whileLoop (fun n J=>∃i x,Inv X MR i x J/\W n i x) ?_ F ⟨σ,H,I,G⟩);rintro n K ⟨d,H1,L,M⟩;refine Mg u (NO (C MR K d H1 _ L (g n d H1 M)) fun b O e=>?_);obtain⟨y,z,k⟩:=e;cases b with
 |true=>
  obtain⟨N,B,k⟩:=k
  rw[MI rfl]
  refine Mg u (NO (E MR O d y _ z k) fun f P l=>?_)
  cases f with
  |next=>
   obtain⟨a,j,m,o⟩:=l
   obtain⟨p,q,r⟩:=B a j o
   exact⟨p,q,a,j,m,r⟩
  |cont=>
   obtain⟨a,j,m,o⟩:=l
   obtain⟨p,q,r⟩:=B a j o
   exact⟨p,q,a,j,m,r⟩
  |brk=>exact l
  |ret v=>exact l
 |false=>
  rw[ME JD]
  exact wpAny_execs_nil ⟨d,y,z,k⟩
end
structure It where
 go:Nat->Hp->Prop
 yld:Nat->Hp->V->Hp->Prop
 stop:Nat->Hp->Prop
def dn(X:Cx)(MR:pa)(H:Hp)(b:n_):Prop:=
 H b=MB/\b≠X.env.locals/\b∉X.fs/\(b∈X.ex\/X.s₀.z<=b)/\(∀x c,X.env.cells.lookup x=MA c->c≠b)/\∀p∈X.pn++MR,p.1≠b
theorem Inv.qg{X:Cx}{MR:pa}{σ:St}{H d:Hp}{s:J5}{b:n_}(I:Inv X MR σ H s)(a:s.z<=b)(f:d b=MB):dn X MR d b:=by
 refine⟨f,Nat.ne_of_gt (JM I.lt a),I.Io a,.inr (Kr I.sz a),fun x c e z=>?_,fun p g z=>?_⟩
 ·obtain⟨v,q⟩:=I.cell x c e;exact absurd (JM q.lt (by rw[z];exact a)) (Nat.lt_irrefl _)
 ·exact absurd (JM (Jz (I.pin p g).1) (by rw[z];exact a)) (Nat.lt_irrefl _)
structure Turn(P:JL)(w:Kg)(K:J1)(tg:o_)(J:It)(fp:q_)(it:n_)(tn:Nat->oT->Prop):Prop where
 mem:it∈fp
 obj:∀i h,tn i h->∀b∈fp,∃o,h.get? b=MA o/\∀v,o.data≠.cell v
 keep:∀i h h',tn i h->(∀b∈fp,∀o,h.get? b=MA o->h'.get? b=MA o)->tn i h'
 item:∀(X:Cx),X.prog=P->X.w=w->X.K=K->X.calm=MC->∀(i:Nat) (MR:pa) (s:J5) (σ:St) (H:Hp) (E:J3->J5->Prop),Inv X MR σ H s->(∀b∈fp,dn X MR H b)->tn i s.heap->J.go i H->
  Js (JF P w) X.A (pyNext (.ref it)) (fun r s1=>∃u,r=MA u/\
   Js (JF P w) X.A (Lv tg (.ref it) u) (fun _ s2=>∃x H',Inv X MR σ H' s2/\RelV x u/\J.yld i H x H'/\tn (i+1) s2.heap/\∀b∈fp,H' b=MB) E s1) E s
 done:∀(X:Cx),X.prog=P->X.w=w->X.K=K->X.calm=MC->∀(i:Nat) (MR:pa) (s:J5) (σ:St) (H:Hp) (E:J3->J5->Prop),Inv X MR σ H s->(∀b∈fp,dn X MR H b)->tn i s.heap->J.stop i H->
  Js (JF P w) X.A (pyNext (.ref it)) (fun r s1=>r=MB/\Inv X MR σ H s1) E s
 self:∀(A:Kn) (i:Nat) (s:J5) (Q:J3->J5->Prop) (E:J3->J5->Prop),tn i s.heap->Q (.ref it) s->Js (JF P w) A (pyIter (.ref it)) Q E s
abbrev TI:=St->Hp->(It->Hp->Prop)->Prop
def YR(X:Cx)(MR:pa)(σ:St)(tg:o_)(R:It->Hp->Prop)(a:J3)(d:J5):Prop:=
 ∃(it:n_) (fp:q_) (tn:Nat->oT->Prop) (J:It) (c:Hp),a=.ref it/\Inv X MR σ c d/\Turn X.prog X.w X.K tg J fp it tn/\tn 0 d.heap/\(∀b∈fp,dn X MR c b)/\R J c
def PI(X:Cx)(tg a:o_)(b:TI):Prop:=
 ∀(MR:pa) (s:J5) (σ:St) (H:Hp) (R:It->Hp->Prop),Inv X MR σ H s->b σ H R->
  Js (JF X.prog X.w) X.A (eval a X.env) (fun v c=>Js (JF X.prog X.w) X.A (pyIter v) (YR X MR σ tg R) X.xe c) X.xe s
theorem yj{M:Model}{A:Kn}{E:J3->J5->Prop}{s:J5}{tg:o_}{it:n_}{u:J3}{o:Obj}{n:String}{vs:Array J3}{Q:Unit->J5->Prop}(b:s.heap.get? it=MA o)(c:o.cls=.type n)(hd:o.data=.fields vs) (d:["enumerate","zip","dict_itemiterator","dict_reverseitemiterator","odict_iterator","itertools.zip_longest","itertools.pairwise"].contains n=MD) (a:Q .unit s):Js M A (Lv tg (.ref it) u) Q E s:=by
 unfold Lv
 cases tg<;>first
  |exact J7 a
  |(cases u<;>first
   |exact J7 a
   |(refine cc (wpAny_load b ?_)
     rw[c,hd]
     show Js M A (if(["enumerate","zip","dict_itemiterator","dict_reverseitemiterator","odict_iterator","itertools.zip_longest","itertools.pairwise"].contains n&&vs[0]?==MA (rawInt _))=MC then _ else _) Q E s
     rw[ME (by intro h;rw[d,Ko]at h;cases h)]
     exact J7 a))
def YU(K:J1)(a:n_):It:=
 ⟨fun i H=>∃xs x,NX K H a xs/\xs[i]?=MA x,fun i H x b=>b=H/\∀xs,NX K H a xs->xs[i]?=MA x,fun i H=>∃xs,NX K H a xs/\xs.length<=i⟩
def YT(K:J1)(a:n_):It:=
 ⟨fun i H=>∃xs x,N0 K H a xs/\xs[i]?=MA x,fun i H x b=>b=H/\∀xs,N0 K H a xs->xs[i]?=MA x,fun i H=>∃xs,N0 K H a xs/\xs.length<=i⟩
def SX(a:Int)(n:Nat):It:=⟨fun i _=>i<n,fun i H x b=>b=H/\x=.int (a+i),fun i _=>n<=i⟩
theorem wL{P:JL}{w:Kg}{K:J1}{tg:o_}(a it:n_):Turn P w K tg (YU K a) [it] it (fun i h=>h.IsListIter it a i) where
 mem:=by simp
 obj:=fun i h st b f=>by
  have e:b=it:=‹f›
  subst e
  obtain⟨o,e,c,d⟩:=st
  exact⟨o,e,fun v z=>by rw[d]at z;cases z⟩
 keep:=fun i h j st k=>st.at fun o e=>k it (by simp) o e
 item:=by
  intro X m n q J i MR s σ H E I hf st r
  subst m n q
  obtain⟨xs,x,l,t⟩:=r
  obtain⟨y,A,p,L⟩:=I.list l
  obtain⟨u,M,N⟩:=A.get t
  obtain⟨B,C,O,D,F,G⟩:=hf it (by simp)
  refine wpAny_pyNext_list_item st p.isList (x:=u) ‹M› fun j g Q=>?_
  have R:Inv X MR σ H { s with heap:=j }:=I.turned (t':=s.toks) (fun b o f e=>(Q.2 b f).trans e) B C D F G
  obtain⟨o,e,c,d⟩:=id g
  exact⟨u,rfl,yj (s:={ s with heap:=j }) e c d ⋯ ⟨x,H,R,N,⟨rfl,fun U S=>by rw[I.i8 S l];exact t⟩,g,fun b f=>(hf b f).1⟩⟩
 done:=by
  intro X m n q J i MR s σ H E I hf st r
  subst m n q
  obtain⟨xs,l,t⟩:=r
  obtain⟨y,A,p,L⟩:=I.list l
  obtain⟨B,C,O,D,F,G⟩:=hf it (by simp)
  have V:=A.length
  exact wpAny_pyNext_list_end (I.ok.hd J) st p.isList (by simp;omega) fun j T=>⟨rfl,I.turned (t':=s.toks) (fun b o f e=>T b o f e) B C D F G⟩
 self:=fun _ _ _ _ _ st h=>wpAny_pyIter_listiter st h
theorem t9{P:JL}{w:Kg}{K:J1}{tg:o_}(a it:n_):Turn P w K tg (YT K a) [it] it (fun i h=>h.IsTupleIter it a i) where
 mem:=by simp
 obj:=fun i h st b f=>by
  have e:b=it:=‹f›
  subst e
  obtain⟨o,e,c,d⟩:=st
  exact⟨o,e,fun v z=>by rw[d]at z;cases z⟩
 keep:=fun i h l st k=>st.at fun o e=>k it (by simp) o e
 item:=by
  intro X n q r J i MR s σ H E I hf st t
  subst n q r
  obtain⟨xs,x,m,y⟩:=t
  obtain⟨g,A,p,L⟩:=I.tuple m
  obtain⟨u,M,N⟩:=A.get y
  obtain⟨B,C,O,D,F,G⟩:=hf it (by simp)
  refine wpAny_pyNext_tuple_item st (show s.heap.IsTuple a g.toArray from p) (x:=u) ‹M› fun l j Q=>?_
  have R:Inv X MR σ H { s with heap:=l }:=I.turned (t':=s.toks) (fun b o f e=>(Q.2 b f).trans e) B C D F G
  obtain⟨o,e,c,d⟩:=id j
  exact⟨u,rfl,yj (s:={ s with heap:=l }) e c d ⋯ ⟨x,H,R,N,⟨rfl,fun U S=>by rw[I.wI S m];exact y⟩,j,fun b f=>(hf b f).1⟩⟩
 done:=by
  intro X n q r J i MR s σ H E I hf st t
  subst n q r
  obtain⟨xs,m,y⟩:=t
  obtain⟨g,A,p,L⟩:=I.tuple m
  obtain⟨B,C,O,D,F,G⟩:=hf it (by simp)
  have V:=A.length
  exact wpAny_pyNext_tuple_end (I.ok.hd J) st (show s.heap.IsTuple a g.toArray from p) (by simp;omega) fun l T=>⟨rfl,I.turned (t':=s.toks) (fun b o f e=>T b o f e) B C D F G⟩
 self:=fun _ _ _ _ _ st h=>wpAny_pyIter_tupleiter st h
theorem tS{P:JL}{w:Kg}{K:J1}{tg:o_}(it:n_)(d:Int)(n:Nat):Turn P w K tg (SX d n) [it] it (fun i h=>IsRangeIter h it (d+(i:Nat)*1) ((n:Int)-(i:Nat)) 1) where
 mem:=by simp
 obj:=fun i h st b a=>by
  have e:b=it:=‹a›
  subst e
  exact⟨_,st,fun v z=>by
   have B:Data.fields _=Data.cell v:=z
   cases B⟩
 keep:=fun i h f st k=>k it (by simp) _ st
 item:=by
  intro X g j l m i MR s σ H E I hf st p
  subst g j l
  obtain⟨q,r,C,u,x,y⟩:=hf it (by simp)
  have W:=Walks.range (prog:=X.prog) (w:=X.w) (I.ok.hd m) it d 1 n
  refine W.item i s _ _ p st fun v f A D c F=>?_
  obtain⟨t,rfl⟩:=D
  have G:Inv X MR σ H { s with heap:=f,toks:=A }:=I.turned (fun b o a e=>F b o ‹a› e) q r u x y
  refine⟨_,rfl,yj (s:={ s with heap:=f,toks:=A }) (n:="range_iterator") c rfl rfl ⋯ ⟨.int (d+i),H,G,⟨t,?_⟩,⟨rfl,rfl⟩,c,fun b a=>(hf b a).1⟩⟩
  rw[Int.mul_one]
 done:=by
  intro X g j l m i MR s σ H E I hf st p
  subst g j l
  obtain⟨q,r,C,u,x,y⟩:=hf it (by simp)
  exact wpAny_pyNext_range_end (I.ok.hd m) st (by have:n<=i:=p;omega) fun f J=>⟨rfl,I.turned (t':=s.toks) (fun b o a e=>J b o a e) q r u x y⟩
 self:=fun _ _ _ _ _ st h=>wpAny_pyIter_rangeiter st h
section
variable{X:Cx}{tg:o_}
theorem yd{MR:pa}{σ:St}{H:Hp}{s:J5}{R:It->Hp->Prop}{E:J3->J5->Prop}{a c:Int}{t u v:Tok}{tk:Nat}(I:Inv X MR σ H s)(f:-(2^62)<=a)(g:a<2^62)(h:-(2^62)<=c)(i:c<2^62)
 (q:R (SX a (c-a).toNat) H):Js (JF X.prog X.w) X.A (pyIter (.ref s.z)) (YR X MR σ tg R) E { s with heap:=s.heap.push { cls:=.type "range",data:=.fields #[.int a t,.int c u,.int 1 v] },toks:=tk }:=by
 refine wpAny_pyIter_range (IsRange.new ..) (small_one f g h i) ?_
 have d:Inv X MR σ H { s with heap:=s.heap.push { cls:=.type "range",data:=.fields #[.int a t,.int c u,.int 1 v] },toks:=tk }:=I.kept fun b o e=>Jo _ e
 refine⟨(s.heap.push { cls:=.type "range",data:=.fields #[.int a t,.int c u,.int 1 v] }).objs.size,[(s.heap.push { cls:=.type "range",data:=.fields #[.int a t,.int c u,.int 1 v] }).objs.size],_,_,H,rfl,
  d.kept (t':=tk) fun b o e=>Jo _ e,tS _ a (c-a).toNat,?_,fun b j=>?_,q⟩
 ·have e1:a+((0:Nat):Int)*1=a:=by simp
  have e2:(((c-a).toNat:Nat):Int)-((0:Nat):Int)=Builtin.Range.rangeSize a c 1:=by rw[rangeSize_one];split<;>omega
  show IsRangeIter _ _ (a+((0:Nat):Int)*1) ((((c-a).toNat:Nat):Int)-((0:Nat):Int)) 1
  rw[e1,e2]
  exact Jy _ rfl
 ·have e:b=(s.heap.push { cls:=.type "range",data:=.fields #[.int a t,.int c u,.int 1 v] }).objs.size:=‹j›
  subst e
  exact d.qg (J9 _) (d.hok.fresh (J9 _))
def HQ(a:TA):TI:=fun σ H R=>a σ H fun vs H1=>∃j:Int,vs=[.int j]/\-(2^62)<=j/\j<2^62/\R (SX 0 j.toNat) H1
theorem oB{a:o_}{d:TA}{p pos:Pos}(f:Gl X "range")(g:X.mg "range"=MB)(i:PA X [a] d)(k:JC [a] X.env=[(MD,eval a X.env)]:=by rfl):PI X tg (.Call (.Name "range" p) [a] [] pos) (HQ d):=by
 intro MR s σ H R I h;refine Call_ (iL I f g boot_range (LV (NO (i pos MR s σ H _ I h) fun us u b=>?_) k rfl));obtain⟨vs,H1,l,m,c⟩:=b;obtain⟨j,e,c,n,q⟩:=c;subst e;cases m with
 |cons r o=>
  cases o
  obtain⟨t,rfl⟩:=r
  exact call_range_1 (yd l () () c n ‹q›)
def IX(e:TI)(g:TG)(f:TS):TS:=fun D σ H=>e σ H fun J H1=>∃W:Nat->Nat->St->Hp->Prop,(∃m,W 0 m σ H1)/\∀i m σ H,W i m σ H->
 (J.stop i H/\D.nx σ H)\/(J.go i H/\∃N:St->Hp->Prop,(∀a b,N a b->∃d,d<m/\W (i+1) d a b)/\∀x b,J.yld i H x b->g x σ b fun c h=>f { D with nx:=N,ct:=N,bk:=D.nx } c h)
def gQ(fp:q_)(h:oT):pa:=fp.filterMap fun b=>(h.get? b).map fun o=>(b,o)
theorem b6{fp:q_}{h:oT}{b:n_}{o:Obj}(a:b∈fp)(e:h.get? b=MA o):(b,o)∈gQ fp h:=List.mem_filterMap.mpr ⟨b,a,by rw[e];rfl⟩
theorem wq{fp:q_}{h:oT}{p:n_×Obj}(a:p∈gQ fp h):p.1∈fp/\h.get? p.1=MA p.2:=by
 obtain⟨b,c,e⟩:=List.mem_filterMap.mp a;cases q:h.get? b with
 |none=>rw[q]at e;cases e
 |some o=>
  rw[q]at e
  have d:(b,o)=p:=Option.some.inj e
  subst d
  exact⟨c,q⟩
theorem Inv.pinned{MR:pa}{σ:St}{H:Hp}{s:J5}{fp:q_}(I:Inv X MR σ H s)(hf:∀b∈fp,dn X MR H b)(f:∀b∈fp,∃o,s.heap.get? b=MA o/\∀v,o.data≠.cell v):Inv X (MR++gQ fp s.heap) σ H s:=
 I.ue fun p g=>(JE.mp g).elim (fun z=>I.pin p (Jw _ z)) fun z=>by
  obtain⟨a,e⟩:=wq z
  obtain⟨h,i,j,_⟩:=hf p.1 a
  obtain⟨o,c,d⟩:=f p.1 a
  rw[e]at c;cases c
  exact⟨e,h,i,j,d⟩
theorem Inv.eJ{MR a:pa}{σ:St}{H:Hp}{s:J5}(I:Inv X (MR++a) σ H s):Inv X MR σ H s:=I.ue fun p b=>I.pin p (Jw _ (Kt _ b))
theorem zH{c:o_}{body:p_}{Y:TI}{g:TG}{Z:TS}{pos:Pos}(K:PassesOwn (JF X.prog X.w) X.A X.env X.xe)(hc:X.calm=MC)(hi:PI X tg c Y)(hg:PG X tg g)(j:P7 X body Z)
 (hs:∀x,JZ c X.env x=pure x:=by intro _;rfl):PS X (.For tg c body [] pos) (IX Y g Z):=by
 intro MR s σ H D I h
 refine wpAny_For (NO (hi MR s σ H _ I h) fun v s1 h1=>NO h1 fun a0 s2 h2=>?_) hs
 obtain⟨it,fp,tn,J,H2,e,I2,T,Sd,f2,W,⟨m0,w0⟩,L⟩:=h2
 subst e
 have k:∀{z:Hp},(∀b∈fp,z b=MB)->∀b∈fp,dn X MR z b:=fun hn b j=>⟨hn b j,(f2 b j).2⟩
 refine codeAny_forLoop_any (fun n s'=>∃i l z,Inv X MR l z s'/\tn i s'.heap/\(∀b∈fp,z b=MB)/\W i n l z) ?_ m0 ⟨0,σ,H2,I2,Sd,fun b j=>(f2 b j).1,w0⟩
 rintro n s3 ⟨i,p,P,I3,S9,M,w3⟩
 rcases L i n p P w3 with⟨stop,qn⟩|⟨go,N,hN,step⟩
 ·refine Mg K (NO (T.done X rfl rfl rfl hc i MR s3 p P X.xe I3 (k M) S9 stop) fun r s4 B=>?_)
  obtain⟨Q,I4⟩:=B
  subst Q
  exact wpAny_execs_nil ⟨p,P,I4,qn⟩
 ·refine Mg K (NO (T.item X rfl rfl rfl hc i MR s3 p P X.xe I3 (k M) S9 go) fun r s4 C=>?_)
  obtain⟨u,Q,h4⟩:=C
  subst Q
  refine Mg K (NO h4 fun _ s5 E=>?_)
  obtain⟨x,H5,I5,r5,y5,Ol,R⟩:=E
  have S:=I5.pinned (k R) (T.obj _ _ Ol)
  refine Mg K (NO (hg _ s5 p H5 x u _ S r5 (step x H5 y5)) fun _ s6 F=>?_)
  obtain⟨U,H6,I6,q6⟩:=F
  refine Mg K (NO (j _ s6 U H6 _ I6 q6) fun f V G=>?_)
  have q:∀{a:St} {t:Hp},Inv X (MR++gQ fp s5.heap) a t V->N a t->∃m,m<n/\∃i l z,Inv X MR l z V/\tn i V.heap/\(∀b∈fp,z b=MB)/\W i m l z:=fun{a t} y O=>by
   obtain⟨m',hm,w7⟩:=hN a t O
   refine⟨m',hm,i+1,a,t,y.eJ,T.keep _ _ _ Ol fun b j o e=>(y.pin (b,o) (Jw _ (Jw _ (b6 j e)))).1,fun b j=>?_,w7⟩
   obtain⟨o,e,d⟩:=T.obj _ _ Ol b j
   exact(y.pin (b,o) (Jw _ (Jw _ (b6 j e)))).2.1
  cases f with
  |next=>obtain⟨a,t,y,O⟩:=G;exact q y O
  |cont=>obtain⟨a,t,y,O⟩:=G;exact q y O
  |brk=>obtain⟨a,t,y,G⟩:=G;exact⟨a,t,y.eJ,G⟩
  |ret v=>obtain⟨x7,a,t,y,r7,G⟩:=G;exact⟨x7,a,t,y.eJ,r7,G⟩
end
theorem wt{h:Int}{n:Nat}{g:TG}{k:TS}{D:Ends}{σ:St}{H:Hp}(a:Nat->St->Hp->Prop)(o:a 0 σ H)
 (q:∀i σ H,i<n->a i σ H->g (.int (h+i)) σ H fun b j=>k { D with nx:=a (i+1),ct:=a (i+1),bk:=D.nx } b j) (hd:∀σ H,a n σ H->D.nx σ H) :
 ∃W:Nat->Nat->St->Hp->Prop,(∃m,W 0 m σ H)/\∀i m σ H,W i m σ H->
  ((SX h n).stop i H/\D.nx σ H)\/((SX h n).go i H/\∃N:St->Hp->Prop,(∀c d,N c d->∃l,l<m/\W (i+1) l c d)/\∀x d,(SX h n).yld i H x d->g x σ d fun b j=>k { D with nx:=N,ct:=N,bk:=D.nx } b j):=by
 refine⟨fun i m σ H=>m=n-i/\i<=n/\a i σ H,⟨n,by simp,Kj _,o⟩,?_⟩
 rintro i m σ H ⟨rfl,s,p⟩
 by_cases f:i<n
 ·refine .inr ⟨f,a (i+1),fun c d r=>⟨n-(i+1),(),rfl,f,r⟩,fun x d y=>?_⟩
  obtain⟨e,y⟩:=y
  subst e y
  exact q i σ _ f p
 ·have e:i=n:=()
  subst e
  exact .inl ⟨J9 _,hd σ H p⟩
abbrev R2:=V->V->Hp->VK->Prop
def Nd(X:Cx)(f:J3->J3->Sem J3)(r:R2):Prop:=
 ∀(MR:pa) (s:J5) (σ:St) (H:Hp) (x y:V) (v u:J3) (Q:VK),Inv X MR σ H s->RelV x v->RelV y u->r x y H Q->
  Js (JF X.prog X.w) X.A (f v u) (EP X MR σ Q) X.xe s
def Vk(X:Cx)(f:J3->Sem J3)(r:V->Hp->VK->Prop):Prop:=
 ∀(MR:pa) (s:J5) (σ:St) (H:Hp) (x:V) (v:J3) (Q:VK),Inv X MR σ H s->RelV x v->r x H Q->
  Js (JF X.prog X.w) X.A (f v) (EP X MR σ Q) X.xe s
def cv(X:Cx)(f:J3)(r:ri->Hp->VK->Prop):Prop:=
 ∀(MR:pa) (s:J5) (σ:St) (H:Hp) (xs:ri) (us:List J3) (Q:VK),Inv X MR σ H s->Vals xs us->r xs H Q->
  Js (JF X.prog X.w) X.A (call f us) (EP X MR σ Q) X.xe s
def Jd(X:Cx)(r:V->Hp->(Bool->Hp->Prop)->Prop):Prop:=
 ∀(MR:pa) (s:J5) (σ:St) (H:Hp) (x:V) (v:J3) (Q:Bool->Hp->Prop),Inv X MR σ H s->RelV x v->r x H Q->
  Js (JF X.prog X.w) X.A (truthy v) (TP X MR σ Q) X.xe s
def S3(r:R2)(a b:TE):TE:=fun σ H Q=>a σ H fun x H1=>b σ H1 fun y c=>r x y c Q
def Yc(r:V->Hp->VK->Prop)(a:TE):TE:=fun σ H Q=>a σ H fun x H1=>r x H1 Q
def rI(C:Int->Int->Prop)(g:Int->Int->V):R2:=fun x y H Q=>∃i j,x=.int i/\y=.int j/\C i j/\Q (g i j) H
def RE(g:Int->Int->V):R2:=fun x y H Q=>∃i j,x=.int i/\y=.int j/\Q (g i j) H
def rU(g:Int->V):V->Hp->VK->Prop:=fun x H Q=>∃i,x=.int i/\Q (g i) H
section
variable{X:Cx}{a b c:o_}{ta tb tc:TE}{pos:Pos}
theorem Dk(l:PE X a ta)(m:PE X b tb){MR:pa}{s:J5}{σ:St}{H:Hp}{R:V->V->Hp->Prop}(I:Inv X MR σ H s) (h:ta σ H fun x H1=>tb σ H1 fun y g=>R x y g) {Q:J3->J5->Prop} {f:J3->J3->Sem J3} (hf:∀v u k x y g,Inv X MR σ g k->RelV x v->RelV y u->R x y g->Js (JF X.prog X.w) X.A (f v u) Q X.xe k) : Js (JF X.prog X.w) X.A (eval a X.env) (fun v i=>Js (JF X.prog X.w) X.A (eval b X.env) (fun u j=>Js (JF X.prog X.w) X.A (f v u) Q X.xe j) X.xe i) X.xe s:=by refine NO (l MR s σ H _ I h) fun v n d=>?_;obtain⟨x,H1,o,p,q⟩:=d;refine NO (m MR n σ H1 _ o q) fun u k e=>?_;obtain⟨y,g,r,t,z⟩:=e;exact hf v u k x y g r p t z
theorem GI{op:Operator}{r:R2}(d:Nd X (LB op) r)(e:PE X a ta)(f:PE X b tb):PE X (.BinOp a op b pos) (S3 r ta tb):=by intro MR s σ H Q I h;exact wpAny_BinOp (Dk e f I h fun v u g x y i j k l q=>d MR g σ i x y v u Q j k l q)
theorem FU{op:UnaryOp}{r:V->Hp->VK->Prop}(e:Vk X (unaryOp op) r)(f:PE X a ta):PE X (.UnaryOp op a pos) (Yc r ta):=by intro MR s σ H Q I h;exact UnaryOp_ (NO (f MR s σ H _ I h) fun v g d=>by obtain⟨x,H1,i,j,k⟩:=d;exact(e MR g σ H1 x v Q i j k))
theorem WA{f:J3->J3->Sem J3}{C:Int->Int->Prop}{g:Int->Int->Int} (d:∀(i j:Int) (t u:Tok) (s:J5) (Q:J3->J5->Prop) (E:J3->J5->Prop),C i j->Q (.int (g i j) s.toks) { s with toks:=s.toks+1 }->Js (JF X.prog X.w) X.A (f (.int i t) (.int j u)) Q E s) : Nd X f (rI C fun i j=>.int (g i j)):=by intro MR s σ H x y v u Q I e k h;obtain⟨i,j,rfl,rfl,l,q⟩:=h;obtain⟨t,rfl⟩:=e;obtain⟨m,rfl⟩:=k;exact d i j t m s _ _ l ⟨.int (g i j),H,I.tok _,⟨_,rfl⟩,q⟩
theorem Ee{f:J3->J3->Sem J3}{g:Int->Int->Int} (d:∀(i j:Int) (t u:Tok) (s:J5) (Q:J3->J5->Prop) (E:J3->J5->Prop),Q (.int (g i j) s.toks) { s with toks:=s.toks+1 }->Js (JF X.prog X.w) X.A (f (.int i t) (.int j u)) Q E s) : Nd X f (RE fun i j=>.int (g i j)):=by intro MR s σ H x y v u Q I e k h;obtain⟨i,j,rfl,rfl,q⟩:=h;obtain⟨t,rfl⟩:=e;obtain⟨l,rfl⟩:=k;exact d i j t l s _ _ ⟨.int (g i j),H,I.tok _,⟨_,rfl⟩,q⟩
theorem A4{f:J3->J3->Sem J3}{g:Int->Int->Bool} (d:∀(i j:Int) (t u:Tok) (s:J5) (Q:J3->J5->Prop) (E:J3->J5->Prop),Q (.bool (g i j)) s->Js (JF X.prog X.w) X.A (f (.int i t) (.int j u)) Q E s) : Nd X f (RE fun i j=>.bl (g i j)):=by intro MR s σ H x y v u Q I e k h;obtain⟨i,j,rfl,rfl,q⟩:=h;obtain⟨t,rfl⟩:=e;obtain⟨l,rfl⟩:=k;exact d i j t l s _ _ ⟨.bl (g i j),H,I,rfl,q⟩
def FD(i j:Int):Prop:=0<=j/\j<=1000000/\i.natAbs<2^64
theorem DJ:Nd X (LB .Add) (RE fun i j=>.int (i+j)):=Ee fun _ _ _ _ _ _ _ q=>add_int q
theorem DP:Nd X (LB .Sub) (RE fun i j=>.int (i-j)):=Ee fun _ _ _ _ _ _ _ q=>sub_int q
theorem AK:Nd X (LB .Mod) (rI (fun _ j=>j≠0) fun i j=>.int (i.fmod j)):=WA fun _ _ _ _ _ _ _ d q=>mod_int' d q
theorem Fe:Nd X (LB .Pow) (rI FD fun i j=>.int (i^j.toNat)):=WA fun _ _ _ _ _ _ _ d q=>pow_int_small d.1 d.2.1 d.2.2 q
theorem D2:Nd X (LB .BitXor) (RE fun i j=>.int (Builtin.bitXor i j)):=Ee fun _ _ _ _ _ _ _ q=>xor_int q
theorem Y3{f:J3->Sem J3}{g:Int->Int} (d:∀(i:Int) (t:Tok) (s:J5) (Q:J3->J5->Prop) (E:J3->J5->Prop),Q (.int (g i) s.toks) { s with toks:=s.toks+1 }->Js (JF X.prog X.w) X.A (f (.int i t)) Q E s) : Vk X f (rU fun i=>.int (g i)):=by intro MR s σ H x v Q I e h;obtain⟨i,rfl,q⟩:=h;obtain⟨t,rfl⟩:=e;exact d i t s _ _ ⟨.int (g i),H,I.tok _,⟨_,rfl⟩,q⟩
theorem Dw:Vk X (unaryOp .USub) (rU fun i=>.int (-i)):=Y3 fun _ _ _ _ _ q=>neg_int q
end
section
variable{X:Cx}{a b c:o_}{ta tb tc:TE}{pos:Pos}
theorem HJ:Nd X (K4 .Lt) (RE fun i j=>.bl (decide (i<j))):=A4 fun _ _ _ _ _ _ _ q=>lt_int q
theorem F9:Nd X (K4 .LtE) (RE fun i j=>.bl (decide (i<=j))):=A4 fun _ _ _ _ _ _ _ q=>le_int q
theorem FL:Nd X (K4 .Gt) (RE fun i j=>.bl (decide (j<i))):=A4 fun _ _ _ _ _ _ _ q=>gt_int q
theorem GA:Nd X (K4 .GtE) (RE fun i j=>.bl (decide (j<=i))):=A4 fun _ _ _ _ _ _ _ q=>ge_int q
theorem Nd.or{f:J3->J3->Sem J3}{r d:R2}(h:Nd X f r)(h':Nd X f d):Nd X f (fun x y H Q=>r x y H Q\/d x y H Q):=by
 intro MR s σ H x y v u Q I e g q;rcases q with q|q
 ·exact h MR s σ H x y v u Q I e g q
 ·exact h' MR s σ H x y v u Q I e g q
theorem zS(b:o_){op:CmpOp}(h:op≠.In:=by decide)(d:op≠.NotIn:=by decide):Mm op b=MD:=by
 have e1:(op==CmpOp.In)=MD:=by cases op<;>first|rfl|exact absurd rfl h
 have e2:(op==CmpOp.NotIn)=MD:=by cases op<;>first|rfl|exact absurd rfl d
 cases b<;>simp[Mm,e1,e2]
theorem BO{op:CmpOp}{r:R2}(d:Nd X (K4 op) r)(e:PE X a ta)(f:PE X b tb)(g:Mm op b=MD):PE X (.Compare a [op] [b] pos) (S3 r ta tb):=by intro MR s σ H Q I h;exact wpAny_Compare1 (Dk e f I h fun v u i x y j k l m q=>d MR i σ j x y v u Q k l m q) g
def CI(t:TE):TT:=fun σ H Q=>t σ H fun x d=>∃k,x=.bl k/\Q k d
theorem As{op:CmpOp}{r:R2}(d:Nd X (K4 op) r)(f:PE X a ta)(g:PE X b tb)(i:Mm op b=MD):PT X (.Compare a [op] [b] pos) (CI (S3 r ta tb)):=by intro MR s σ H Q I h;refine wpAny_isTrue_Compare1 (NO (f MR s σ H _ I h) fun v j ⟨x,H1,l,m,n⟩=>NO (g MR j σ H1 _ l n) fun u o ⟨y,p,q,t,w⟩=>NO (d MR o σ p x y v u _ q m t w) fun c E ⟨z,A,B,C,k,e,D⟩=>?_) i;subst e;cases C;exact KN ⟨A,B,D⟩
def Er(r e:R2)(ta tb tc:TE):TE:=fun σ H Q=>ta σ H fun x H1=>tb σ H1 fun y f=>r x y f fun z d=>∃k,z=.bl k/\
 (if k=MC then tc σ d fun g h=>e y g h Q else Q (.bl MD) d)
theorem yP{op g:CmpOp}{r j:R2}(p:Nd X (K4 op) r)(i:Nd X (K4 g) j)(q:PE X a ta)(t:PE X b tb)(w:PE X c tc) (A:lastMarks [op,g] [b,c]=MD:=by with_unfolding_all rfl):PE X (.Compare a [op,g] [b,c] pos) (Er r j ta tb tc):=by
 intro MR s σ H Q I h;refine Compare_chain (NO (q MR s σ H _ I h) fun v B ⟨x,H1,C,D,E⟩=>chain_link (NO (t MR B σ H1 _ C E) fun u F ⟨y,G,J,l,K⟩=>NO (p MR F σ G x y v u _ J D l K) fun d L ⟨z,m,n,M,k,e,o⟩=>?_)) A;subst e;cases M;refine KN ?_;cases k with
 |false=>exact ite_ff ⟨.bl MD,m,n,rfl,o⟩
 |true=>exact ite_tt (chain_last (NO (w MR L σ m _ n o) fun N O f=>by obtain⟨P,R,S,T,U⟩:=f;exact(i MR O σ R y P u N Q S l T U)))
def Hh(K:J1)(x:V)(H:Hp)(k:Bool):Prop:=
 match x with
 |.non=>k=MD
 |.bl b=>k=b
 |.int i=>k=(i != 0)
 |.str y=>y.length<=Jv/\k=((y.length:Int) != 0)
 |.byt y=>y.size<=Jv/\k=((y.size:Int) != 0)
 |.ref p=>(∃xs,NX K H p xs/\k=!xs.isEmpty)\/(∃xs,N0 K H p xs/\k=!xs.isEmpty)\/∃kvs,H p=MA (.dK kvs)/\k=!kvs.isEmpty
 |_=>False
theorem sr{d:Type}{kvs:List (d×V)}{vs:List (d×J3)}(r:KV kvs vs):(!vs.isEmpty)=!kvs.isEmpty:=by cases r<;>rfl
theorem mH{xs:ri}{d:List J3}(r:Vals xs d):(!d.toArray.isEmpty)=!xs.isEmpty:=by cases r<;>simp
theorem j5:(Jv:Nat)<2^63:=by rw[sizeLine_eq];decide
theorem EW:Jd X (fun x H Q=>∃k,Hh X.K x H k/\Q k H):=by
 intro MR s σ H x v Q I g h;obtain⟨k,e,q⟩:=h;have A:=j5;have B:Jv=16777216:=sizeLine_eq;cases x with
 |non=>
  cases g
  have d:k=MD:=e
  subst d
  exact truthy_none ⟨H,I,q⟩
 |bl b=>
  cases g
  have d:k=b:=e
  subst d
  exact KN ⟨H,I,q⟩
 |int i=>
  obtain⟨t,rfl⟩:=g
  have d:k=(i != 0):=e
  subst d
  exact PySem.P.truthy_int ⟨H,I,q⟩
 |str y=>
  obtain⟨t,rfl⟩:=g
  obtain⟨u,d⟩:y.length<=Jv/\k=((y.length:Int) != 0):=e
  subst d
  exact PySem.P.truthy_str () ⟨H,I.tok _,q⟩
 |byt y=>
  obtain⟨t,rfl⟩:=g
  obtain⟨u,d⟩:y.size<=Jv/\k=((y.size:Int) != 0):=e
  subst d
  exact PySem.W.truthy_bytes () ⟨H,I.tok _,q⟩
 |ref p=>
  cases g
  have d:(∃xs,NX X.K H p xs/\k=!xs.isEmpty)\/(∃xs,N0 X.K H p xs/\k=!xs.isEmpty)\/∃kvs,H p=MA (.dK kvs)/\k=!kvs.isEmpty:=e
  rcases d with⟨xs,j,d⟩|⟨xs,j,d⟩|⟨kvs,j,d⟩
  ·subst d;obtain⟨l,r,n,o⟩:=I.list j;have f:=r.length;exact wpAny_truthy_list n.isList (by simp only[JA];omega) ⟨H,I.tok _,by rw[mH r];exact q⟩
  ·subst d;obtain⟨l,r,n,o⟩:=I.tuple j;have f:=r.length;exact truthy_tuple n (by simp only[JA];omega) ⟨H,I.tok _,by rw[mH r];exact q⟩
  ·subst d;obtain⟨o,z,vs,r,m⟩:kvs.length<=Jv/\(p==Li)=MD/\∃vs,KV kvs vs/\s.heap.DictOf (cC X.prog X.w) p vs:=I.hok p _ j;have f:kvs.length=vs.length:=Paired.length r;exact wpAny_truthy_dict z m () ⟨H,I.tok _,by rw[sr r];exact q⟩
 |_=>exact(show False from e).elim
theorem yn(g:PE X a ta)(i:∀d,isTrue a X.env d=(do let v <-d;standAt a.pos;holding [v] (truthy v))) :
 PT X a (fun σ H Q=>ta σ H fun x f=>∃k,Hh X.K x f k/\Q k f):=by
 intro MR s σ H Q I h
 exact isTrue_plain (NO (g MR s σ H _ I h) fun v j e=>by obtain⟨x,H1,l,m,n⟩:=e;exact(EW MR j σ H1 x v Q l m n)) (i _)
theorem vals1{x:V}{us:List J3}(r:Vals [x] us):∃u,us=[u]/\RelV x u:=by
 cases r with
 |cons d e=>cases e;exact⟨_,rfl,d⟩
theorem vals2{x y:V}{us:List J3}(r:Vals [x,y] us):∃u d,us=[u,d]/\RelV x u/\RelV y d:=by
 cases r with
 |cons e f=>
  cases f with
  |cons g h=>cases h;exact⟨_,_,rfl,e,g⟩
theorem xV:cv X (.builtin "abs") (fun xs H Q=>∃i,xs=[.int i]/\Q (.int (if i<0 then -i else i)) H):=by intro MR s σ H xs us Q I r h;obtain⟨i,rfl,q⟩:=h;obtain⟨u,rfl,t,rfl⟩:=vals1 r;exact call_abs_int fun u d=>⟨.int (if i<0 then -i else i),H,I.tok _,⟨_,rfl⟩,q⟩
theorem wk(e:X.calm=MC):cv X (.builtin "max") (fun xs H Q=>∃i j,xs=[.int i,.int j]/\Q (.int (if j>i then j else i)) H):=by
 intro MR s σ H xs us Q I r h;obtain⟨i,j,rfl,q⟩:=h;obtain⟨u,f,rfl,⟨t,rfl⟩,⟨g,rfl⟩⟩:=vals2 r;refine max_two_ints (I.ok.hd e) fun l m k=>⟨_,H,I.kept k,?_,q⟩;by_cases d:j>i
 ·rw[MI d,MI d];exact⟨_,rfl⟩
 ·rw[ME d,ME d];exact⟨_,rfl⟩
theorem we(e:X.calm=MC):cv X (.builtin "min") (fun xs H Q=>∃i j,xs=[.int i,.int j]/\Q (.int (if j<i then j else i)) H):=by
 intro MR s σ H xs us Q I r h;obtain⟨i,j,rfl,q⟩:=h;obtain⟨u,f,rfl,⟨t,rfl⟩,⟨g,rfl⟩⟩:=vals2 r;refine min_two_ints (I.ok.hd e) fun l m k=>⟨_,H,I.kept k,?_,q⟩;by_cases d:j<i
 ·rw[MI d,MI d];exact⟨_,rfl⟩
 ·rw[ME d,ME d];exact⟨_,rfl⟩
theorem vT:cv X (.type "int") (fun xs H Q=>(∃i,xs=[.int i]/\Q (.int i) H)\/∃k,xs=[.bl k]/\Q (.int (if k then 1 else 0)) H):=by
 intro MR s σ H xs us Q I r h;rcases h with⟨i,rfl,q⟩|⟨k,rfl,q⟩
 ·obtain⟨u,rfl,t,rfl⟩:=vals1 r;exact call_int_int ⟨.int i,H,I,⟨_,rfl⟩,q⟩
 ·obtain⟨u,rfl,d⟩:=vals1 r;cases d;exact call_int_bool ⟨.int (if k then 1 else 0),H,I.tok _,⟨_,rfl⟩,q⟩
end
structure N1(k:Nat)(A:Kn):Prop where
 hd:A.handled=MB
 dp:A.depth+3*k+5<recursionLimit
 un:A.units+16*k+200<Ku
 gd:A.guards=MA []
theorem N1.mono{j k:Nat}{A:Kn}(r:N1 k A)(h:j<=k):N1 j A:=⟨r.hd,by have:=r.dp;omega,by have:=r.un;omega,r.gd⟩
theorem N1.deeper{k:Nat}{A:Kn}(r:N1 (k+1) A)(env:Env):N1 k (A.deeper env):=⟨r.hd,by have:=r.dp;show A.depth+1+3*k+5<_;omega,by have:=r.un;show A.units+3+16*k+200<_;omega,r.gd⟩
theorem N1.depth{k:Nat}{A:Kn}(r:N1 k A):A.depth<recursionLimit:=by have:=r.dp;omega
theorem N1.units{k:Nat}{A:Kn}(r:N1 k A):A.units+64<Ku:=by have:=r.un;omega
def IZ:TA:=fun _ H Q=>Q [] H
def F5(a:TE)(b:TA):TA:=fun σ H Q=>a σ H fun x H1=>b σ H1 fun xs c=>Q (x::xs) c
section
variable{X:Cx}{e:o_}{es:qb}{te:TE}{t:TA}{pos:Pos}
theorem EG:PA X [] IZ:=fun _ _ _ _ H Q I h=>Calls.spliced_nil ⟨[],H,I,.nil,h⟩
theorem BK(c:PE X e te)(d:PA X es t)(f:JC (e::es) X.env=(MD,eval e X.env)::JC es X.env:=by rfl):PA X (e::es) (F5 te t):=by intro pos MR s σ H Q I h;rw[f];show Js _ _ (spliced ((MD,eval e X.env)::L5 pos (JC es X.env))) _ _ s;refine Calls.spliced_cons (NO (c MR s σ H _ I h) fun u g a=>?_);obtain⟨x,H1,i,j,k⟩:=a;exact NO (d pos MR g σ H1 _ i k) fun us p b=>by obtain⟨xs,l,m,n,o⟩:=b;exact(⟨x::xs,l,m,.cons j n,o⟩)
def IE(t:TA):TE:=fun σ H Q=>t σ H fun xs H1=>xs.length<=Jv/\∀p,H1 p=MB->Q (.ref p) (upd H1 p (.tup xs))
def IK(t:TA):TE:=fun σ H Q=>t σ H fun xs H1=>xs.length<=Jv/\∀p,H1 p=MB->Q (.ref p) (upd H1 p (.lst xs))
theorem Ex{x1}(h:PA X es t):PE X (.Tuple es x1 pos) (IE t):=by intro MR s σ H Q I d;refine wpAny_Tuple_spliced (NO (h pos MR s σ H _ I d) fun us a ⟨xs,H1,c,r,z,q⟩=>⟨by rw[<-r.length];exact z,?_⟩);have hf:H1 a.z=MB:=c.hok.fresh (J9 _);refine⟨.ref a.z,upd H1 a.z (.tup xs),c.laid (t':=a.toks) (fun b u e=>Jo _ e) (J9 _) ?_,rfl,q _ hf⟩;exact⟨z,us,r,⟨_,Jy _ rfl,rfl,_,rfl⟩,⟨_,Jy _ rfl,rfl⟩⟩
theorem En(h:PA X es t):PE X (.List es pos) (IK t):=by intro MR s σ H Q I d;refine wpAny_List_spliced (NO (h pos MR s σ H _ I d) fun us a ⟨xs,H1,c,r,z,q⟩=>⟨by rw[<-r.length];exact z,?_⟩);have hf:H1 a.z=MB:=c.hok.fresh (J9 _);refine⟨.ref a.z,upd H1 a.z (.lst xs),c.laid (t':=a.toks) (fun b u e=>Jo _ e) (J9 _) ?_,rfl,q _ hf⟩;exact⟨z,us,0,r,Jy _ rfl⟩
end
abbrev Sp:=ri->Hp->VK->XK->Prop
abbrev Qz:=List Env->Hp->J5->XK->J3->J5->Prop
structure RU(P:JL)(w:Kg)(K:J1)(mg:Str->Option J3)(base:oT)(A:Kn)(outer:List Env)(s:J5)(H:Hp):Prop where
 frames:A.frames=MA outer
 mod:Mod K mg base
 bs:∀b o,base.get? b=MA o->s.heap.get? b=MA o/\H b=MB
 bsz:base.objs.size<=s.z
 mQ:s.heap.FunFrames base outer
 frf:∀b∈Qt outer,H b=MB
 hok:Nv P w H s.heap
 bare:AllBare s.gens
def CE(outer:List Env)(P:JL)(w:Kg)(H:Hp)(s:J5)(Q:VK)(u:J3)(a:J5):Prop:=
 ∃v b,a.os=s.os/\AllBare a.gens/\Un (Qt outer) [] H b s.heap a.heap/\Nv P w b a.heap/\RelV v u/\Q v b
def CR(CX:Qz)(outer:List Env)(P:JL)(w:Kg)(H:Hp)(s:J5)(Q:VK)(E:XK)(r:Result)(a:J5):Prop:=
 match r with
 |.ok (.ret u)=>CE outer P w H s Q u a
 |.ok _=>False
 |.error e=>CX outer H s E e a
structure Nw(P:JL)(w:Kg)(K:J1)(mg:Str->Option J3)(base:oT)(CX:Qz)(k:Nat)(f:n_)(fd:Mv)(ps:ra)(sp:Sp):Prop where
 len:∀vs H Q E,sp vs H Q E->vs.length=ps.length
 run:∀(A:Kn) (outer:List Env) (s:J5) (H:Hp) (args:Args) (us:List J3) (vs:ri) (Q:VK) (E:XK),N1 k A->RU P w K mg base A outer s H->BindsTo s fd args (ps.zip us)->Vals vs us->sp vs H Q E->
  LM (JF P w) A (.call (.ref f) args) (CR CX outer P w H s Q E) s
theorem Nw.mono{P:JL}{w:Kg}{K:J1}{mg:Str->Option J3}{base:oT}{CX:Qz}{j k:Nat}{f:n_}{fd:Mv}{ps:ra}{sp:Sp}(F:Nw P w K mg base CX j f fd ps sp)(h:j<=k) : Nw P w K mg base CX k f fd ps sp:=⟨F.len,fun A outer s H args us vs Q E a=>F.run A outer s H args us vs Q E (a.mono h)⟩
section
variable{X:Cx}{MR:pa}{σ:St}{H:Hp}{s s':J5}
theorem Inv.Jb(I:Inv X MR σ H s):RU X.prog X.w X.K X.mg X.base X.A X.stack s H:=⟨I.ok.frames,I.ok.mod,I.bs,Kr I.ok.bsz I.sz,I.stack,I.uM,I.hok,I.bare⟩
theorem Inv.after{Q:VK}{u:J3}(I:Inv X MR σ H s)(h:CE X.stack X.prog X.w H s Q u s'):EP X MR σ Q u s':=by obtain⟨v,c,os,bare,un,hok,r,q⟩:=h;obtain⟨e,g,d,t,a⟩:=s';obtain rfl:a=s.os:=os;exact⟨v,c,I.call (h':=e) (g':=g) (d':=d) (t':=t) (ch:=[]) un hok bare (fun b z=>absurd z (by simp)),r,q⟩
end
def Ht(sp:Sp)(a:ri)(E:XK)(t:TA):TE:=fun σ H Q=>t σ H fun vs H1=>sp (vs++a) H1 Q E
def Binds(K:J1)(fd:Mv)(ps:ra)(a:List J3):Prop:=
 ∀(s:J5) (us:List J3),K.In s.heap->(us++a).length=ps.length->BindsTo s fd ⟨us,[]⟩ (ps.zip (us++a))
theorem Binds.all{K:J1}{fd:Mv}{ps:ra}(h:∀us:List J3,us.length=ps.length->bindArgs fd ⟨us,[]⟩=pure (ps.zip us)):Binds K fd ps []:=fun s us _ a=>by rw[K8]at a ⊢;exact .of_eq (h us a)
def Passes(CX:Qz)(X:Cx)(E:XK):Prop:=∀(MR:pa) (σ:St) (H:Hp) (s:J5) (e:J3) (a:J5),Inv X MR σ H s->CX X.stack H s E e a->X.xe e a
section
variable{X:Cx}{CX:Qz}{k:Nat}{f C:n_}{fd:Mv}{ps:ra}{sp:Sp}{MT:ri}{ds:List J3}{E:XK}{x m:Str}{p pos apos:Pos}{e o:o_}{es:qb}{ta:TE}{t:TA}
theorem Ed{MR:pa}{σ:St}{H:Hp}{s:J5}{Q:VK}{us:List J3}{vs:ri}(F:Nw X.prog X.w X.K X.mg X.base CX k f fd ps sp)(c:N1 k X.A)(d:Binds X.K fd ps ds)(hd:Vals MT ds)(g:Passes CX X E)
 (I:Inv X MR σ H s) (r:Vals vs us) (h:sp (vs++MT) H Q E):Js (JF X.prog X.w) X.A (call (.ref f) us) (EP X MR σ Q) X.xe s:=by
 have b:Vals (vs++MT) (us++ds):=r.append hd
 have i:(us++ds).length=ps.length:=by rw[<-b.length];exact F.len _ _ _ _ h
 refine wpAny_call (codeAny_mono (F.run X.A X.stack s H ⟨us,[]⟩ (us++ds) (vs++MT) Q E c I.Jb (d s us I.kIn i) b h) fun r j a=>?_)
 cases r with
 |error e=>exact g MR σ H s e j I a
 |ok l=>
  cases l with
  |ret u=>exact I.after a
  |next=>exact JR a
  |brk=>exact JR a
  |cont=>exact JR a
theorem Bs(F:Nw X.prog X.w X.K X.mg X.base CX k f fd ps sp)(d:N1 k X.A)(g:Gl X x)(i:X.mg x=MA (.ref f))(j:PySem.W.keepIn X.K (.ref f)=MC)(l:Binds X.K fd ps ds)(hd:Vals MT ds)(n:Passes CX X E) (u:PA X (e::es) t) (a:(x==("__debug__":Str))=MD:=by decide) (v:JC (e::es) X.env=(MD,eval e X.env)::JC es X.env:=by rfl) (b:(L5 pos (JC es X.env)).any (·.1)=MD:=by rfl) : PE X (.Call (.Name x p) (e::es) [] pos) (Ht sp MT E t):=by intro MR s σ H Q I h;refine wpAny_Call_Name_kw (Ao I g i ?_ a);refine PySem.W.callWith_K (h₀:=X.base) I.ok.mod.kin j (NO (u pos MR s σ H _ I h) fun us y ⟨vs,H1,c,r,q⟩=>⟨c.kIn,?_⟩) v b;exact Ed F d l hd n c r q
end
structure NJ(N P:ra)(sc:LY):Prop where
 kind:sc.kind=.function
 co:sc.isCoroutine=MD
 gen:sc.isGenerator=MD
 nd:N.Nodup
 pre:N.take P.length=P
 par:∀x∈P,sc.names.lookup x=MA .local\/sc.names.lookup x=MA .cell
 nofree:∀y∈sc.names,y.2≠.free
theorem oj{kindOf:Str->Option LU}{x:Str}:∀{binds:List (Str×J3)} {m:Str->Option J3},(∀v,(x,v)∉binds)->bindL kindOf binds m x=m x
 |[],_,_=>rfl
 |(n,v)::r,m,h=>by
  unfold bindL
  rw[oj fun w a=>h w (K6 _ a)]
  split
  ·have:x≠n:=by rintro rfl;exact h v Kq
   simp[this]
  ·rfl
theorem nX{kindOf:Str->Option LU}{x:Str}:∀{binds:List (Str×J3)} {m:Str->Option J3},(∀v,(x,v)∉binds)->bindC kindOf binds m x=m x
 |[],_,_=>rfl
 |(n,v)::r,m,h=>by
  unfold bindC
  rw[nX fun w a=>h w (K6 _ a)]
  split
  ·rfl
  ·have:x≠n:=by rintro rfl;exact h v Kq
   simp[this]
theorem oi{kindOf:Str->Option LU}{x:Str}{v:J3}:∀{P:ra} {vs:List J3} {i:Nat} {m:Str->Option J3},P.Nodup->P[i]?=MA x->vs[i]?=MA v->kindOf x=MA .local->
 bindL kindOf (P.zip vs) m x=MA v
 |[],_,_,_,_,h,_,_=>by simp at h
 |_::_,[],_,_,_,_,h,_=>by simp at h
 |p::P,w::vs,0,m,nd,h1,h2,hk=>by
  simp at h1 h2;subst h1;subst h2
  show bindL kindOf ((p,w)::P.zip vs) m p=_
  unfold bindL
  rw[oj fun v a=>(Lx.mp nd).1 (List.of_mem_zip a).1,MI hk]
  simp
 |p::P,w::vs,i+1,m,nd,h1,h2,hk=>by
  show bindL kindOf ((p,w)::P.zip vs) m x=_
  unfold bindL
  exact oi (i:=i) (Lx.mp nd).2 ‹h1› ‹h2› hk
theorem nY{kindOf:Str->Option LU}{x:Str}{v:J3}:∀{P:ra} {vs:List J3} {i:Nat} {m:Str->Option J3},P.Nodup->P[i]?=MA x->vs[i]?=MA v->kindOf x≠MA .local->
 bindC kindOf (P.zip vs) m x=MA v
 |[],_,_,_,_,h,_,_=>by simp at h
 |_::_,[],_,_,_,_,h,_=>by simp at h
 |p::P,w::vs,0,m,nd,h1,h2,hk=>by
  simp at h1 h2;subst h1;subst h2
  show bindC kindOf ((p,w)::P.zip vs) m p=_
  unfold bindC
  rw[nX fun v a=>(Lx.mp nd).1 (List.of_mem_zip a).1,ME hk]
  simp
 |p::P,w::vs,i+1,m,nd,h1,h2,hk=>by
  show bindC kindOf ((p,w)::P.zip vs) m x=_
  unfold bindC
  exact nY (i:=i) (Lx.mp nd).2 ‹h1› ‹h2› hk
def start(N:ra)(vs:ri):St:=vs.map MA++JJ (N.length-vs.length) MB
def jQ(CX:Qz)(P:JL)(w:Kg)(K:J1)(mg:Str->Option J3)(base:oT)(N:ra)(qual:Str)(scope:LY)(f:n_)(b:J3)(A:Kn)(outer:List Env)(s:J5)(H:Hp)(E:XK):Cx where
 prog:=P
 w:=w
 K:=K
 mg:=mg
 base:=base
 A:=A.deeper (envOfC qual scope s.z f b)
 N:=N
 s₀:=s
 H₀:=H
 env:=envOfC qual scope s.z f b
 outer:=outer
 stack:=envOfC qual scope s.z f b::outer
 ex:=[]
 calm:=MC
 fn:=fun _=>MC
 pn:=[]
 xe:=fun e c=>Js (JF P w) (A.deeper (envOfC qual scope s.z f b)) (leaving (envOfC qual scope s.z f b) e) (fun _ a=>CX outer H s E e a) (fun d a=>CX outer H s E d a) c
theorem lD{sc:LY}{n:Nat}{x:Str}(h:sc.names.lookup x=MA .cell):∃c,(Lk n sc.names []).lookup x=MA c:=by have q:=PySem.W.cellsFrom_some sc.names n [] (.inl h);exact Option.isSome_iff_exists.mp q
theorem v9{CX:Qz}{P:JL}{w:Kg}{K:J1}{mg:Str->Option J3}{base:oT}{N ps:ra}{qual:Str}{scope:LY}{f:n_}{t:J3}{A:Kn}{outer:List Env}{s D:J5}{H:Hp}{E:XK}{us:List J3}{vs:ri}
 (S:NJ N ps scope) (hd:A.handled=MB) (g:RU P w K mg base A outer s H) (M:vs.length=ps.length) (r:Vals vs us)
 (x:InCallC s s.z (bindL (envOfC qual scope s.z f t).kindOf (ps.zip us) fun _=>MB) (Lk (s.z+1) scope.names []) (bindC (envOfC qual scope s.z f t).kindOf (ps.zip us) fun _=>MB) D) :
 Inv (jQ CX P w K mg base N qual scope f t A outer s H E) [] (start N vs) H D:=by
 have I:ps.length<=N.length:=by have:=congrArg List.length S.pre;rw[LC]at this;omega
 obtain⟨B,O,rfl,F⟩:=x.done
 have j:∀b:n_,b∉(jQ CX P w K mg base N qual scope f t A outer s H E).ex:=fun b z=>absurd (show b∈([]:q_)from z) (by simp)
 refine⟨⟨g.mod,S.kind,rfl,rfl,J9 _,fun y z c B d=>?_,fun y l=>?_,fun y c _ h=>?_,fun _=>hd,Around.frames_deeper g.frames,.inr ⟨rfl,rfl⟩,fun b z=>absurd z (j b),g.bs,g.bsz,fun b _ _=>j b,fun b z=>absurd z (j b),g.mQ,g.frf⟩,
  rfl,g.bare,Un.kept F,⟨_,x.toInCall.ns,fun i y v B d Q=>?_⟩,fun y c h=>⟨_,x.cell y c h⟩,g.hok.fresh (J9 _),fun y c h=>?_,fun p m=>absurd (show p∈([]:pa)from m) (by simp),g.hok.kept F,?_⟩
 ·exact name_of_addr x.apart (Kf B) (Kf d)
 ·have l:scope.names.lookup y=MA .cell\/scope.names.lookup y=MA .free:=l
  rcases l with l|l
  ·exact lD l
  ·exact absurd rfl (S.nofree _ (Kf l))
 ·exact Nat.le_of_lt (x.above y c (Kf h))
 ·have C:i<vs.length:=by
   unfold start at d
   by_cases C:i<vs.length
   ·exact C
   ·rw[Kc ‹C›]at d
    rw[List.getElem?_replicate]at d
    split at d<;>cases d
  have J:vs[i]?=MA v:=by
   unfold start at d
   rw[JO ‹C›,J6]at d
   cases e:vs[i]? with
   |none=>rw[e]at d;cases d
   |some a=>rw[e]at d;cases d;rfl
  obtain⟨u,G,L⟩:=r.get J
  have m:ps[i]?=MA y:=by
   rw[<-S.pre,List.getElem?_take_of_lt ()];exact B
  have o:ps.Nodup:=by rw[<-S.pre];exact S.nd.sublist (List.take_sublist _ _)
  refine⟨u,L,?_⟩
  rcases S.par y (J8 m)with k|k
  ·exact .inl ⟨k,oi o m G k⟩
  ·obtain⟨c,e⟩:=lD (n:=s.z+1) k
   refine .inr ⟨.inl k,c,e,?_⟩
   have q:=x.cell y c e
   rw[nY o m G (by show scope.names.lookup y≠_;rw[k];decide)]at q
   exact q
 ·exact g.hok.fresh (Nat.le_of_lt (x.above y c (Kf h)))
 ·unfold start
  show _=N.length
  rw[Ka,J4,List.length_replicate]
  omega
theorem HP{CX:Qz}{P:JL}{w:Kg}{K:J1}{mg:Str->Option J3}{base:oT}{k:Nat}{f:n_}{name qual:Str}{params:Arguments}{body:p_}{scope:LY}{G kV j L cdv ct oc:J3}{an od:Option n_}
 {osl:Array (Option J3)} {N ps:ra} {sp:Sp} (R:K.lookup f=MA ⟨oc,od,.func (Le name qual params body scope G kV j L an cdv ct),osl⟩) (z:PySem.W.codeIn K cdv qual=MC) (S:NJ N ps scope)
 (len:∀vs H Q E,sp vs H Q E->vs.length=ps.length)
 (g:∀(A:Kn) (outer:List Env) (s:J5) (H:Hp) (vs:ri) (Q:VK) (E:XK),N1 k (A.deeper (envOfC qual scope s.z f cdv))->sp vs H Q E->
  ∃t,P7 (jQ CX P w K mg base N qual scope f cdv A outer s H E) body t/\t { nx:=fun _ d=>Q .non d,rt:=Q } (start N vs) H) :
 Nw P w K mg base CX (k+1) f (Le name qual params body scope G kV j L an cdv ct) ps sp:=by
 refine⟨len,fun A outer s H args us vs Q E B l T r m=>?_⟩
 have U:=len _ _ _ _ m
 have M:K.In s.heap:=l.mod.kin.keeps fun b o e=>(l.bs b o e).1
 have C:s.heap.NoLimit:=l.mod.nolimit.keeps fun b o e=>(l.bs b o e).1
 have h:∀y∈ps.zip us,scope.names.lookup y.1=MA .local\/(scope.names.lookup y.1=MA .cell/\((Lk (s.z+1) scope.names []).lookup y.1).isSome=MC):=fun a X=>by
  obtain⟨n,v⟩:=a
  rcases S.par n (List.of_mem_zip X).1 with q|q
  ·exact .inl q
  ·exact .inr ⟨q,PySem.W.cellsFrom_some _ _ _ (.inl q)⟩
 refine codeAny_call_function B.depth (M _ _ R) rfl S.co S.gen rfl (PySem.W.codeRec_of M z) (T _ _ _ _ ?_)
 refine wpAny_newFunctionEnv_cells S.kind h fun env Y O x=>?_
 subst Y
 refine⟨C.keeps x.toInCall.keep,codeAny_func ?_⟩
 obtain⟨t,Z,hq⟩:=g A outer s H vs Q E (B.deeper _) m
 have I:Inv (jQ CX P w K mg base N qual scope f cdv A outer s H E) [] (start N vs) H O:=v9 S B.hd l U r x
 refine JB (Z [] O (start N vs) H _ I hq) (fun fl D i=>?_) fun e D i=>i
 have p:∀{c:St} {d:Hp} {v:V} {u:J3},Inv (jQ CX P w K mg base N qual scope f cdv A outer s H E) [] c d D->RelV v u->Q v d->CE outer P w H s Q u D:=
  fun{c d v u} J F q=>⟨v,d,J.os,J.bare,J.base,J.hok,F,q⟩
 cases fl with
 |ret u=>
  obtain⟨v,c,d,J,F,q⟩:=i
  exact p J F q
 |next=>
  obtain⟨c,d,J,q⟩:=i
  exact p (v:=V.non) (u:=Ms) J rfl q
 |brk=>
  obtain⟨_,_,_,q⟩:=i
  exact JR q
 |cont=>
  obtain⟨_,_,_,q⟩:=i
  exact JR q
section
variable{X:Cx}{x:Str}{p pos:Pos}{e:o_}{es:qb}{t:TA}{id T:String}{r:ri->Hp->VK->Prop}
def WM(r:ri->Hp->VK->Prop)(t:TA):TE:=fun σ H Q=>t σ H fun vs H1=>r vs H1 Q
theorem zT(d:cv X (.builtin id) r)(f:Gl X x)(g:X.mg x=MB)(i:Kp x=MA (.builtin id))(j:PA X (e::es) t)(k:x≠"__name__":=by decide)(b:(x==("__debug__":Str))=MD:=by decide) (l:JC (e::es) X.env=(MD,eval e X.env)::JC es X.env:=by rfl) (c:(L5 pos (JC es X.env)).any (·.1)=MD:=by rfl):PE X (.Call (.Name x p) (e::es) [] pos) (WM r t):=by intro MR s σ H Q I h;refine wpAny_Call_Name_kw (iL I f g i ?_ k b);exact PyProof.Rows.callWith_builtin1 (NO (j pos MR s σ H _ I h) fun us m a=>by obtain⟨vs,H1,n,o,q⟩:=a;exact(d MR m σ H1 vs us Q n o q)) l c
theorem vW(d:cv X (.type T) r)(f:Gl X x)(g:X.mg x=MB)(i:Kp x=MA (.type T))(j:PA X (e::es) t)(k:x≠"__name__":=by decide)(b:(x==("__debug__":Str))=MD:=by decide) (l:JC (e::es) X.env=(MD,eval e X.env)::JC es X.env:=by rfl) (c:(L5 pos (JC es X.env)).any (·.1)=MD:=by rfl):PE X (.Call (.Name x p) (e::es) [] pos) (WM r t):=by intro MR s σ H Q I h;refine wpAny_Call_Name_kw (iL I f g i ?_ k b);exact LV (NO (j pos MR s σ H _ I h) fun us m a=>by obtain⟨vs,H1,n,o,q⟩:=a;exact(d MR m σ H1 vs us Q n o q)) l c
end
end L2
namespace HT
open PySem PyProof.Rows
def lexLt:pq->pq->Bool
 |[],[]=>MD
 |[],_::_=>MC
 |_::_,[]=>MD
 |x::xs,y::ys=>if x=y then lexLt xs ys else decide (x<y)
theorem tM(x y:Int)(xs ys:pq):lexLt (x::xs) (y::ys)=if x=y then lexLt xs ys else decide (x<y):=rfl
theorem m8:lexLt [] []=MD:=rfl
theorem mB(y:Int)(ys:pq):lexLt [] (y::ys)=MC:=rfl
theorem lP(x:Int)(xs:pq):lexLt (x::xs) []=MD:=rfl
theorem rH(A:Kn)(s:J5)(a:Int)(t:Tok)(c:Int)(u:Tok):∃e,SeqAt.EqAt A s (.int a t) (.int c u) e/\(e=MC↔a=c):=⟨(a==c),SeqAt.EqAt.int_int a t c u,by simp⟩
theorem xE(A:Kn)(s:J5)(a:Int)(t:Tok)(c:Int)(u:Tok)(prog:JL)(w:Kg)(E:J3->J5->Prop)(Q:J3->J5->Prop)(h:Q (.bool (decide (a<c))) s) : Js (JF prog w) A (richCompare .Lt (.int a t) (.int c u)) Q E s:=(PyProof.Rows.lt_int h:Js (JF prog w) A (K4 .Lt (.int a t) (.int c u)) Q E s)
section
open PySem.SeqAt
open PySem.AutoSeq1 (wpAny_loadPart')
open PySem.MeetsSeq PySem.MeetsSeq2 PySem.MeetsSeq3
theorem nI(l b:n_)(items f:Array J3)(n P:Nat)(Q H:Option n_)(S I:Array (Option J3))(ns ms:pq)(M:LN items.toList ns)(N:LN f.toList ms) :
 Meets (Mx.«tuple.__lt__» ⟨[.ref l,.ref b],[]⟩)
  (fun _ R s=>s.heap.get? l=MA { cls:=.type "tuple",dict:=Q,data:=.seq items n,slots:=S }/\s.heap.get? b=MA { cls:=.type "tuple",dict:=H,data:=.seq f P,slots:=I }/\
   R (.ok (.ret (.bool (lexLt ns ms)))) s):=
 .of_wp fun prog w A R s h=>by
  obtain⟨F,g,d,G,os⟩:=s;obtain⟨T,U,h⟩:=h
  have Z:=AutoSeq1.sub_tuple_tuple
  have z1:items.size=ns.length:=by rw[<-M.length];simp
  have z2:f.size=ms.length:=by rw[<-N.length];simp
  wp_walk using KQ T,KQ U,wpAny_forIn_list _ (fun p b J=>b.1=MB/\J=⟨F,g,d,G,os⟩/\∃(vs ws:List J3) (j k:pq),p=vs.zip ws/\
   LN vs j/\LN ws k/\j.length+f.size=k.length+items.size/\R (.ok (.ret (.bool (lexLt j k)))) ⟨F,g,d,G,os⟩) _
  case turn=>
   rintro⟨y,x⟩ p b J ⟨z,rfl,vs,ws,j,k,m,B,o,i,r⟩
   cases B with
   |nil=>rw[List.zip_nil_left]at m;cases m
   |cons a t D=>
    cases o with
    |nil=>rw[List.zip_nil_right]at m;cases m
    |cons c u E=>
     rw[List.zip_cons_cons]at m
     injection m with K C
     injection K with V W
     subst V W
     rw[tM]at r
     simp only[Kk]at i
     obtain⟨e,X,v⟩:=rH A.in1 ⟨F,g,d,G,os⟩ a t c u
     refine cc (X prog w _ _ ?_)
     cases e with
     |true=>
      rw[MI (v.mp rfl)]at r
      wp_walk
      exact⟨rfl,rfl,_,_,_,_,C,D,E,(),r⟩
     |false=>
      rw[ME (fun q=>absurd (v.mpr q) JD)]at r
      have L:=xE A.in1 ⟨F,g,d,G,os⟩ a t c u prog w
      wp_walk using L
      exact⟨_,rfl,‹r›⟩
  case fin=>
   rintro⟨b1,b2⟩ J ⟨z,rfl,vs,ws,j,k,m,B,o,i,r⟩
   simp only at z
   subst z
   have O:lexLt j k=decide (items.size<f.size):=by
    cases B with
    |nil=>
     cases o with
     |nil=>
      simp only[List.length_nil]at i
      rw[m8]
      exact(MJ ()).symm
     |cons c u Y=>
      simp only[List.length_nil,Kk]at i
      rw[mB]
      exact(MK ()).symm
    |cons a t O=>
     cases o with
     |nil=>
      simp only[List.length_nil,Kk]at i
      rw[lP]
      exact(MJ ()).symm
     |cons c u Y=>
      rw[List.zip_cons_cons]at m
      cases m
   rw[O]at r
   wp_walk
   exact⟨_,rfl,by simpa[Builtin.Tuple.tupleCompareSizes]using r⟩
  case h=>
   exact⟨rfl,rfl,items.toList,f.toList,ns,ms,rfl,M,N,(),h⟩
end
section
variable{prog:JL}{w:Kg}{A:Kn}{E:J3->J5->Prop}{s:J5}
theorem iK{l b:n_}{items a:Array J3}{ns ms:pq}{Q:J3->J5->Prop}(o:IsTup s.heap l items)(p:IsTup s.heap b a)(q:LN items.toList ns)(r:LN a.toList ms) (t:A.units<Ku) (h:Q (.bool (lexLt ns ms)) s):Js (JF prog w) A (K4 .Lt (.ref l) (.ref b)) Q E s:=by obtain⟨⟨cls,u,data,v⟩,j,k,n,hd⟩:=id o;obtain⟨⟨m,f,g,i⟩,c,d,y,e⟩:=id p;simp only at k hd d e;subst k hd d e;exact richCompare_meets_room (op:=.Lt) ⟨_,j,rfl⟩ ⟨_,c,rfl⟩ PySem.F.slot_tuple_lt PySem.F.entry_tuple_lt (PySem.F.args_tuple_lt_2 _ _) (nI l b items a n y u f v i ns ms q r) ⟨j,c,show Value.bool (lexLt ns ms)≠Value.notImplemented/\Q (.bool (lexLt ns ms)) s from⟨(fun x=>nomatch x),h⟩⟩ t
theorem An{t b:n_}{vs ws:List J3}{Q:J3->J5->Prop}(r:IsTup s.heap t vs.toArray)(u:IsTup s.heap b ws.toArray)(k:vs≠[])
 (v:ws=[]->Q (.ref t) s) (x:ws≠[]->Q (.ref s.z) { s with heap:=s.heap.push { cls:=.type "tuple",data:=.seq (vs++ws).toArray } })
 (hsz:vs.length+ws.length<=Jv):Js (JF prog w) A (LB .Add (.ref t) (.ref b)) Q E s:=by
 obtain⟨⟨cls,l,data,m⟩,h,o,n,hd⟩:=id r
 obtain⟨⟨p,c,j,d⟩,a,f,q,g⟩:=id u
 simp only at o hd f g
 subst o hd f g
 have e:vs.toArray++ws.toArray=(vs++ws).toArray:=by simp
 by_cases i:ws=[]
 ·exact concat_meets ⟨_,h,rfl⟩ ⟨_,a,rfl⟩ noFill_tuple_add seq_tuple_add PySem.F.slot_tuple_add PySem.F.entry_tuple_add (PySem.F.args_tuple_add_2 _ _)
   (tuple_addW1 t b vs.toArray ws.toArray n q l c m d ‹k› (by simp[i])) ⟨h,a,v i⟩
 ·refine concat_meets ⟨_,h,rfl⟩ ⟨_,a,rfl⟩ noFill_tuple_add seq_tuple_add PySem.F.slot_tuple_add PySem.F.entry_tuple_add (PySem.F.args_tuple_add_2 _ _)
   (tuple_addW2 t b vs.toArray ws.toArray n q l c m d ‹k› ‹i› (by rw[JA,JA];exact hsz)) ⟨h,a,?_⟩
  rw[e]
  exact x i
def sIx(n d:Nat):pw->Nat
 |none=>d
 |some v=>if v<0 then(v+(n:Int)).toNat else min v.toNat n
theorem Fg(n d:Nat)(hd:d<=n)(o:pw):sIx n d o<=n:=by
 cases o with
 |none=>exact hd
 |some v=>
  show(if v<0 then(v+(n:Int)).toNat else min v.toNat n)<=n
  by_cases a:v<0
  ·rw[MI a];omega
  ·rw[ME a];exact Nat.min_le_right _ _
theorem uj(v:Int)(n d:Nat):(if v<0 then max (v+(n:Int)) 0 else min v (n:Int))=((sIx n d (MA v):Nat):Int):=by
 show(if v<0 then max (v+(n:Int)) 0 else min v (n:Int))=(((if v<0 then(v+(n:Int)).toNat else min v.toNat n):Nat):Int);by_cases a:v<0
 ·simp only[MI a];omega
 ·simp only[ME a];omega
theorem sJ(a b:pw)(n:Nat):Builtin.Slice.sliceAdjust a b 1 (n:Int)=(((sIx n 0 a:Nat):Int),((sIx n n b:Nat):Int)):=by
 have c:¬((1:Int)<0):=()
 unfold Builtin.Slice.sliceAdjust;simp only[c,if_false];refine Prod.ext ?_ ?_
 ·cases a with
  |none=>rfl
  |some v=>exact uj v n 0
 ·cases b with
  |none=>rfl
  |some v=>exact uj v n n
theorem so(i j:Nat):Builtin.Slice.slicePlaces (i:Int) (j:Int) 1=j-i:=by
 unfold Builtin.Slice.slicePlaces;have a:(1:Int)>0:=()
 simp only[a,if_true,Int.ediv_one];split<;>omega
theorem eO{v:J3}{o:pw}{Q:pw->J5->Prop}(p:IsPart v o)(h:Q o s):Js (JF prog w) A (Builtin.Slice.slicePartIndex v) Q E s:=by
 cases p with
 |none=>exact slicePart_none h
 |int i t=>exact slicePart_int h
theorem jF{f:n_}{vl e:J3}{a b:pw}{n:Nat}{Q:Int×Int×Nat->J5->Prop}(g:s.heap.IsSliceOf f vl e .none)(i:IsPart vl a)(j:IsPart e b)
 (h:Q (((sIx n 0 a:Nat):Int),1,sIx n n b-sIx n 0 a) s):Js (JF prog w) A (LZ (.ref f) (pure (n:Int))) Q E s:=by
 obtain⟨os,c,k,d⟩:=id g
 unfold LZ Builtin.Slice.sliceFields
 refine cc (cc (wpAny_field c d (x:=vl) rfl (cc (wpAny_field c d (x:=e) rfl (cc (wpAny_field c d (x:=.none) rfl (J7 ?_)))))))
 refine cc (slicePart_none ?_)
 show Js _ _ (if((1:Int)==0)=MC then _ else _) _ _ s
 rw[ME ⋯]
 refine cc (eO i (cc (eO j (cc (J7 ?_)))))
 show Js _ _ (match Builtin.Slice.sliceAdjust a b 1 (n:Int)with|(a,b)=>pure (a,(1:Int),Builtin.Slice.slicePlaces a b 1)) _ _ s
 rw[sJ a b n]
 show Js _ _ (pure (((sIx n 0 a:Nat):Int),(1:Int),Builtin.Slice.slicePlaces ((sIx n 0 a:Nat):Int) ((sIx n n b:Nat):Int) 1)) _ _ s
 rw[so]
 exact J7 h
theorem zW(xs:Array J3)(i k:Nat):((Jp k).filterMap fun(m:Nat)=>xs[((i:Int)+(m:Int)*1).toNat]?).toArray=((xs.toList.drop i).take k).toArray:=by
 have e:(fun(m:Nat)=>xs[((i:Int)+(m:Int)*1).toNat]?)=fun m=>xs[i+m]?:=by
  funext m
  have:((i:Int)+(m:Int)*1).toNat=i+m:=()
  rw[this]
 rw[e];have:=pick_run xs i k;rw[List.filterMap_map]at this;have e2:((fun x=>xs[x]?)∘fun x=>i+x)=fun m=>xs[i+m]?:=rfl;rw[e2]at this;rw[this]
theorem jw{t e:n_}{items:Array J3}{vl k:J3}{b c:pw}{Q:J3->J5->Prop}(d:IsTup s.heap t items)(l:s.heap.IsSliceOf e vl k .none)(n:IsPart vl b)(o:IsPart k c)
 (hw:¬(sIx items.size 0 b=0/\sIx items.size items.size c=items.size))
 (h:Q (.ref s.z) { s with heap:=s.heap.push { cls:=.type "tuple",data:=.seq ((items.toList.drop (sIx items.size 0 b)).take (sIx items.size items.size c-sIx items.size 0 b)).toArray } })
 (hsz:items.size<=Jv):Js (JF prog w) A (getItem (.ref t) (.ref e)) Q E s:=by
 have a:sizeOk (.seq ((items.toList.drop (sIx items.size 0 b)).take (sIx items.size items.size c-sIx items.size 0 b)).toArray):=by
  show((items.toList.drop (sIx items.size 0 b)).take (sIx items.size items.size c-sIx items.size 0 b)).toArray.size<=Jv
  rw[JA,LC,List.length_drop,Array.length_toList]
  omega
 have r:sIx items.size items.size c<=items.size:=Fg _ _ (J9 _) c
 obtain⟨os,f,g,p⟩:=id l
 have i:s.TypeIs (.ref e) "slice":=⟨os,f,g⟩
 unfold getItem
 try with_reducible refine KC ?_
 first|refine cc (J7 ?_)|skip
 refine cc (wpAny_sequenceKey d.typeIs ⋯ ?_)
 refine cc (wpAny_callSpecial?_slot (name:=LG "__getitem__") d.typeIs KH
  (wpAny_call_entry KH d.typeIs entry_tuple_getitem ?_ (args_tuple_getitem _ _)))
 show Js _ _ (Builtin.Tuple.tupleItemsOf (.ref t) >>= _) _ _ s
 refine cc (tupleItemsOf_ d ?_)
 refine cc (wpAny_typeOf i ?_)
 rw[MI ⋯]
 refine cc (jF l n o ?_)
 have j:¬((((sIx items.size 0 b:Nat):Int)==0&&(1:Int)==1&&(sIx items.size items.size c-sIx items.size 0 b)==items.size)=MC):=by
  intro q
  rw[JN,JN]at q
  have u:((sIx items.size 0 b:Nat):Int)=0:=eq_of_beq q.1.1
  have v:sIx items.size items.size c-sIx items.size 0 b=items.size:=eq_of_beq q.2
  exact hw ⟨(),()⟩
 show Js _ _ (if(((sIx items.size 0 b:Nat):Int)==0&&(1:Int)==1&&(sIx items.size items.size c-sIx items.size 0 b)==items.size)=MC then _ else _) _ _ s
 rw[ME j,zW]
 first
  |exact cc (m:=KD _) (K7 (J7 ⟨_,rfl,J7 h⟩) a)
  |exact cc (m:=KD _) (K7 (cc (J7 (J7 ⟨_,rfl,J7 h⟩))) a)
  |exact cc (cc (m:=KD _) (K7 (J7 (J7 ⟨_,rfl,J7 h⟩)) a))
  |exact cc (cc (m:=KD _) (K7 (J7 ⟨_,rfl,J7 h⟩) a))
end
end HT
namespace L2
open PySem PySem.Spec PyProof.Rows
abbrev TO:=St->Hp->(pw->Hp->Prop)->Prop
def PO(X:Cx)(e:Option o_)(t:TO):Prop:=
 ∀(MR:pa) (s:J5) (σ:St) (H:Hp) (Q:pw->Hp->Prop),Inv X MR σ H s->t σ H Q->
  Js (JF X.prog X.w) X.A (evalPart e X.env) (fun u b=>∃o a,Inv X MR σ a b/\IsPart u o/\Q o a) X.xe s
def AR:TO:=fun _ H Q=>Q MB H
def Gp(t:TE):TO:=fun σ H Q=>t σ H fun x H1=>∃i,x=.int i/\Q (MA i) H1
theorem intsAre_of{ns:pq}:∀{us:List J3},Vals (ns.map V.int) us->LN us ns:=by
 induction ns with
 |nil=>intro us r;rw[KP]at r;cases r;exact .nil
 |cons n ns a=>
  intro us r
  rw[Jn]at r
  cases r with
  |cons b c=>
   obtain⟨t,e⟩:=b
   subst e
   exact .cons n t (a c)
section
variable{X:Cx}{e:o_}{te:TE}{lo hi:Option o_}{tl th:TO}{pos p2:Pos}
theorem Br:PO X MB AR:=by intro MR s σ H Q I h;rw[evalPart_none];exact J7 ⟨MB,H,I,.none,h⟩
theorem AB(h:PE X e te):PO X (MA e) (Gp te):=by intro MR s σ H Q I b;rw[evalPart_some];refine NO (h MR s σ H _ I b) fun u g a=>?_;obtain⟨x,H1,c,d,f⟩:=a;obtain⟨i,rfl,q⟩:=f;obtain⟨t,rfl⟩:=d;exact⟨MA i,H1,c,.int i t,q⟩
def Rx(X:Cx)(r:V->pw->pw->Hp->VK->Prop):Prop:=
 ∀(MR:pa) (s:J5) (σ:St) (H:Hp) (x:V) (v vl a:J3) (lo hi:pw) (b:n_) (Q:VK),Inv X MR σ H s->RelV x v->s.heap.IsSliceOf b vl a .none->IsPart vl lo->IsPart a hi->r x lo hi H Q->
  ∃T id,typeLookup (.type T) "__getitem__"=pure (MA (.builtin id))/\s.TypeIs v T/\Js (JF X.prog X.w) X.A (getItem v (.ref b)) (EP X MR σ Q) X.xe s
theorem Rx.or{r a:V->pw->pw->Hp->VK->Prop}(h:Rx X r)(h':Rx X a):Rx X (fun x lo hi H Q=>r x lo hi H Q\/a x lo hi H Q):=by
 intro MR s σ H x v vl b lo hi c Q I d f g i q;rcases q with q|q
 ·exact h MR s σ H x v vl b lo hi c Q I d f g i q
 ·exact h' MR s σ H x v vl b lo hi c Q I d f g i q
def Yd(r:V->pw->pw->Hp->VK->Prop)(te:TE)(tl th:TO):TE:=fun σ H Q=>te σ H fun x H1=>tl σ H1 fun l a=>th σ a fun u b=>r x l u b Q
theorem yo{r:V->pw->pw->Hp->VK->Prop}(i:Rx X r)(j:PE X e te)(k:PO X lo tl)(m:PO X hi th):PE X (.Subscript e (.Slice lo hi MB p2) pos) (Yd r te tl th):=by intro MR s σ H Q I h;refine Subscript_ (NO (j MR s σ H _ I h) fun v n c=>?_);obtain⟨x,H1,o,p,t⟩:=c;refine wpAny_Slice (NO (k MR n σ H1 _ o t) fun vl y ⟨l,z,B,C,D⟩=>NO (m MR y σ z _ B D) fun f a d=>?_);obtain⟨u,g,E,F,G⟩:=d;rw[evalPart_none];refine J7 ?_;have J:Inv X MR σ g { a with heap:=a.heap.push { cls:=.type "slice",data:=.fields #[vl,f,.none] } }:=E.kept (t':=a.toks) fun b N q=>Jo _ q;obtain⟨T,id,K,L,M⟩:=i MR { a with heap:=a.heap.push { cls:=.type "slice",data:=.fields #[vl,f,.none] } } σ g x v vl f l u a.z Q J p (Heap.IsSliceOf.new ..) C F G;show Js (JF X.prog X.w) X.A (subscriptTail e (.Slice lo hi MB p2) v (.ref a.z)) (EP X MR σ Q) X.xe { a with heap:=a.heap.push { cls:=.type "slice",data:=.fields #[vl,f,.none] } };exact tail_any (ops:=[.ref a.z,v]) L K M (by with_unfolding_all rfl)
def rA(xs:ri)(lo hi:pw):ri:=(xs.drop (HT.sIx xs.length 0 lo)).take (HT.sIx xs.length xs.length hi-HT.sIx xs.length 0 lo)
theorem kn(xs:ri)(lo hi:pw):(rA xs lo hi).length<=xs.length:=by unfold rA;rw[LC,List.length_drop];omega
def IB(K:J1):V->pw->pw->Hp->VK->Prop:=fun x lo hi H Q=>∃a xs,x=.ref a/\N0 K H a xs/\
 ¬(HT.sIx xs.length 0 lo=0/\HT.sIx xs.length xs.length hi=xs.length)/\∀p,H p=MB->Q (.ref p) (upd H p (.tup (rA xs lo hi)))
theorem Ej:Rx X (IB X.K):=by
 intro MR s σ H x v vl p lo hi t Q I i j k l h;obtain⟨a,xs,rfl,m,n,q⟩:=h;cases i;obtain⟨d,r,f,g⟩:=I.tuple m;have c:d.toArray.size=xs.length:=by rw[JA];exact r.length.symm
 refine⟨"tuple",_,KH.lookup,f.typeIs,?_⟩;refine HT.jw f j k l (by rw[c];exact n) ?_ (by rw[c];exact g);rw[c];refine⟨.ref s.z,_,I.laid (t':=s.toks) (o:=.tup (rA xs lo hi)) (fun b u q=>Jo _ q) (J9 _) ?_,rfl,q _ (I.hok.fresh (J9 _))⟩;exact⟨Kr (kn xs lo hi) g,_,(r.drop (HT.sIx xs.length 0 lo)).take (HT.sIx xs.length xs.length hi-HT.sIx xs.length 0 lo),IsTup.new _ _,Rm.new _ _⟩
def II(K:J1):R2:=fun x y H Q=>∃a b ns c,x=.ref a/\y=.ref b/\N0 K H a (ns.map V.int)/\N0 K H b (c.map V.int)/\Q (.bl (HT.lexLt ns c)) H
theorem DH(g:X.A.units<Ku):Nd X (K4 .Lt) (II X.K):=by intro MR s σ H x y v u Q I i j h;obtain⟨a,b,ns,f,rfl,rfl,k,l,q⟩:=h;cases i;cases j;obtain⟨d,m,n,_⟩:=I.tuple k;obtain⟨c,o,p2,_⟩:=I.tuple l;have p:LN d.toArray.toList ns:=intsAre_of m;have r:LN c.toArray.toList f:=intsAre_of o;exact HT.iK n p2 p r g ⟨.bl (HT.lexLt ns f),H,I,rfl,q⟩
def HD(K:J1):R2:=fun x y H Q=>∃a b xs c,x=.ref a/\y=.ref b/\N0 K H a xs/\N0 K H b c/\xs≠[]/\xs.length+c.length<=Jv/\
 (c=[]->Q (.ref a) H)/\(c≠[]->∀p,H p=MB->Q (.ref p) (upd H p (.tup (xs++c))))
theorem Vals.pU{xs:ri}{us:List J3}(r:Vals xs us):us=[]↔xs=[]:=by
 cases r with
 |nil=>simp
 |cons _ _=>simp
theorem AH:Nd X (LB .Add) (HD X.K):=by intro MR s σ H x y v u Q I i j h;obtain⟨a,b,xs,k,rfl,rfl,l,m,n,f,p,r⟩:=h;cases i;cases j;obtain⟨t,d,A,_⟩:=I.tuple l;obtain⟨g,c,p2,_⟩:=I.tuple m;refine HT.An A p2 (fun z=>n (d.pU.mp z)) (fun z=>⟨.ref a,H,I,rfl,p (c.pU.mp z)⟩) (fun z=>?_) (by rw[<-d.length,<-c.length];exact f);refine⟨.ref s.z,_,I.laid (t':=s.toks) (o:=.tup (xs++k)) (fun b B q=>Jo _ q) (J9 _) ?_,rfl,r (fun w=>z (c.pU.mpr w)) _ (I.hok.fresh (J9 _))⟩;exact⟨by rw[Ka];exact f,_,d.append c,IsTup.new _ _,Rm.new _ _⟩
end
def ixN(n:Nat)(i:Int):Option Nat:=if 0<=i then(if i<n then MA i.toNat else MB)else if -(n:Int)<=i then MA (i+n).toNat else MB
def atI{a:Type}(xs:List a)(i:Int):Option a:=(ixN xs.length i).bind fun j=>xs[j]?
theorem uz{n:Nat}{i:Int}{j:Nat}(h:ixN n i=MA j):seqIndex? i n=MA j/\j<n/\-(n:Int)<=i/\i<n:=by
 unfold ixN at h;by_cases b:0<=i
 ·rw[MI b]at h;by_cases a:i<n
  ·rw[MI a]at h;have e:i.toNat=j:=Option.some.inj h;exact⟨by rw[seqIndex_of b a,e],(),(),a⟩
  ·rw[ME a]at h;cases h
 ·rw[ME b]at h;by_cases a:-(n:Int)<=i
  ·rw[MI a]at h;have e:(i+n).toNat=j:=Option.some.inj h;exact⟨by rw[seqIndex_neg () a,e],(),a,()⟩
  ·rw[ME a]at h;cases h
theorem pf{a:Type}{xs:List a}{i:Int}{v:a}(h:atI xs i=MA v):∃j,seqIndex? i xs.length=MA j/\xs[j]?=MA v/\j<xs.length/\-(xs.length:Int)<=i/\i<xs.length:=by
 unfold atI at h;cases e:ixN xs.length i with
 |none=>rw[e]at h;cases h
 |some j=>
  rw[e]at h
  obtain⟨b,c,d,f⟩:=uz e
  exact⟨j,b,h,c,d,f⟩
theorem bH{a:Type}{xs:List a}{j:Nat}{v:a}(h:xs[j]?=MA v):atI xs (j:Int)=MA v:=by
 have b:j<xs.length:=(Jq.mp h).1;have e:ixN xs.length (j:Int)=MA j:=by unfold ixN;rw[MI (),MI ()];simp
 unfold atI;rw[e];exact h
def pO(b:o_):Prop:=∀o i,subscripted b MD o i=operate [o,i] (getItem o i)
def QC(X:Cx)(r:R2):Prop:=
 ∀(b a:o_) (MR:pa) (s:J5) (σ:St) (H:Hp) (x y:V) (v u:J3) (Q:VK),Inv X MR σ H s->RelV x v->RelV y u->r x y H Q->
  subscripted a MD v u=operate [v,u] (getItem v u)->Js (JF X.prog X.w) X.A (subscriptTail b a v u) (EP X MR σ Q) X.xe s
def WG(X:Cx)(id:String)(r:V->ri->Hp->VK->Prop):Prop:=
 ∀(MR:pa) (s:J5) (σ:St) (H:Hp) (x:V) (xs:ri) (v:J3) (us:List J3) (Q:VK),Inv X MR σ H s->RelV x v->Vals xs us->r x xs H Q->
  Js (JF X.prog X.w) X.A (call (.builtin id) (v::us)) (EP X MR σ Q) X.xe s
section
variable{X:Cx}{a b:o_}{ta tb:TE}{pos:Pos}
theorem QC.or{r e:R2}(h:QC X r)(h':QC X e):QC X (fun x y H Q=>r x y H Q\/e x y H Q):=by
 intro c d MR s σ H x y v u Q I f g q i;rcases q with q|q
 ·exact h c d MR s σ H x y v u Q I f g q i
 ·exact h' c d MR s σ H x y v u Q I f g q i
theorem Fw{r:R2}(c:QC X r)(d:PE X a ta)(e:PE X b tb)(f:pO b):PE X (.Subscript a b pos) (S3 r ta tb):=by intro MR s σ H Q I h;exact Subscript_ (Dk d e I h fun v u g x y i j k l q=>c a b MR g σ i x y v u Q j k l q (f _ _))
def HL(K:J1):R2:=fun x y H Q=>∃p xs i v,x=.ref p/\y=.int i/\NX K H p xs/\atI xs i=MA v/\Q v H
def HN(K:J1):R2:=fun x y H Q=>∃p xs i v,x=.ref p/\y=.int i/\N0 K H p xs/\atI xs i=MA v/\Q v H
def GL:R2:=fun x y H Q=>∃z i c,x=.str z/\y=.int i/\z.length<=Jv/\atI z.cps.toList i=MA c/\Q (.str ⟨#[c]⟩) H
theorem BH:QC X (HL X.K):=by
 intro e f MR s σ H x y v u Q I B C h n;obtain⟨p,xs,i,z,rfl,rfl,D,E,q⟩:=h;cases B;obtain⟨t,rfl⟩:=C;obtain⟨g,r,k,N⟩:=I.list D;obtain⟨j,d,F,O,G,J⟩:=pf E;obtain⟨w,o,l⟩:=r.get F;have L:=r.length;have P:=j5;have c:EP X MR σ Q w s:=⟨z,H,I,l,q⟩;by_cases A:0<=i
 ·have m:i.toNat=j:=by rw[seqIndex_of A J]at d;exact Option.some.inj d
  exact item_listR k.isList A () (by rw[m];simpa using o) c n
 ·have m:(i+(g.toArray.size:Int)).toNat=j:=by rw[seqIndex_neg () G]at d;rw[JA,<-L];exact Option.some.inj d
  exact subscriptTail_builtinR (x:=w) k.isList.typeIs slot_list_getitem.lookup (wpAny_getItem_list_neg (Q:=fun r M=>r=w/\EP X MR σ Q r M) k.isList () (by rw[JA]<;>omega) () (by rw[m];simpa using o) ⟨rfl,c⟩) n
theorem DZ:QC X (HN X.K):=by intro c d MR s σ H x y v u Q I k l h m;obtain⟨p,xs,i,z,rfl,rfl,n,o,q⟩:=h;cases k;obtain⟨t,rfl⟩:=l;obtain⟨A,r,g,G⟩:=I.tuple n;obtain⟨j,B,C,J,L,M⟩:=pf o;obtain⟨w,D,e⟩:=r.get C;have E:=r.length;have N:=j5;have f:EP X MR σ Q w s:=⟨z,H,I,e,q⟩;exact subscriptTail_builtinR (x:=w) g.typeIs slot_tuple_getitem.lookup (getItem_tuple (j:=j) (Q:=fun r F=>r=w/\EP X MR σ Q r F) g () () (by rw[JA,<-E];exact B) ‹D› ⟨rfl,f⟩) m
theorem EJ:QC X GL:=by
 intro d e MR s σ H x y v u Q I g k h l;obtain⟨z,i,c,rfl,rfl,w,m,q⟩:=h;obtain⟨t,rfl⟩:=g;obtain⟨A,rfl⟩:=k;obtain⟨j,f,n,B,o,p⟩:=pf m;have r:z.cps.toList.length=z.length:=by simp[Str.length]
 rw[r]at f o p;have C:=j5
 exact tail_any (typeIs_str s z t) slot_str_getitem.lookup (getItem_str (c:=c) (by
  have e1:decide (i < -(2^63:Int))=MD:=MJ ()
  have e2:decide (i≥2^63)=MD:=MJ ()
  rw[e1,e2,Bool.or_false]) (by rw[f];simpa using n) ⟨.str ⟨#[c]⟩,H,I.tok _,⟨_,rfl⟩,q⟩) l
def YJ(K:J1):R2:=fun x y H Q=>HL K x y H Q\/HN K x y H Q\/GL x y H Q
theorem E7:QC X (YJ X.K):=BH.or (DZ.or EJ)
theorem tW(c:List J3)(n j:Nat)(u:J3):Obj.mapSeq (·.setIfInBounds j u) { cls:=.type "list",data:=.seq c.toArray n }={ cls:=.type "list",data:=.seq (c.set j u).toArray n }:=by simp[Obj.mapSeq]
theorem Inv.lst{MR:pa}{σ:St}{H:Hp}{s:J5}{p:n_}{xs:ri}(I:Inv X MR σ H s)(h:H p=MA (.lst xs)) : ∃(c:List J3) (n:Nat),Vals xs c/\s.heap.get? p=MA { cls:=.type "list",data:=.seq c.toArray n }/\xs.length<=Jv:=by obtain⟨z,c,n,r,e⟩:=I.hok p _ h;exact⟨c,n,r,e,z⟩
theorem Inv.DL{MR:pa}{σ:St}{H:Hp}{s:J5}{p:n_}{xs ys:ri}{c its':List J3}{n d:Nat}{f:Obj->Obj}(I:Inv X MR σ H s)(h:H p=MA (.lst xs))
 (g:s.heap.get? p=MA { cls:=.type "list",data:=.seq c.toArray n }) (hf:f { cls:=.type "list",data:=.seq c.toArray n }={ cls:=.type "list",data:=.seq its'.toArray d }) (r:Vals ys its') (hz:ys.length<=Jv) (t:Nat) :
 Inv X MR σ (upd H p (.lst ys)) { s with heap:=s.heap.update p f,toks:=t }:=by
 have e:(s.heap.update p f).get? p=MA { cls:=.type "list",data:=.seq its'.toArray d }:=by
  rw[Lb f g (by rw[hf]<;>rfl),hf]
 refine I.write (x:=p) (e:=p) (by rw[h];trivial) (.inl rfl) (fun b u i q=>(Kd _ _ (Ne.symm i)).trans q) ⟨_,e⟩ ?_
 exact⟨hz,its',d,r,e⟩
def Fy:V->V->V->Hp->(Hp->Prop)->Prop:=fun o i v H Q=>∃p xs k j,o=.ref p/\i=.int k/\H p=MA (.lst xs)/\ixN xs.length k=MA j/\Q (upd H p (.lst (xs.set j v)))
theorem set_list:FC X Fy:=by
 intro MR s σ H o i v E F u Q I z A B h;obtain⟨p,xs,k,j,rfl,rfl,l,C,q⟩:=h;cases z;obtain⟨t,rfl⟩:=A;obtain⟨c,n,r,e,D⟩:=I.lst l;obtain⟨d,G,m,w⟩:=uz C;have f:=r.length;have J:=j5;have x:Inv X MR σ (upd H p (.lst (xs.set j v))) { s with heap:=s.heap.update p (Obj.mapSeq (·.setIfInBounds j u)) }:=I.DL l e (tW c n j u) (r.set B j) (by rw[List.length_set];exact D) s.toks;by_cases y:0<=k
 ·have g:k.toNat=j:=by rw[seqIndex_of y w]at d;exact Option.some.inj d
  exact PySem.W.ki_setAt e y () (by rw[JA,<-f];exact w) (by rw[g];exact⟨_,x,q⟩)
 ·have g:(k+(c.toArray.size:Int)).toNat=j:=by rw[seqIndex_neg () m]at d;rw[JA,<-f];exact Option.some.inj d
  exact PySem.W.ki_setBack e () (by rw[JA,<-f];exact m) () (by rw[g];exact⟨_,x,q⟩)
theorem pV(c d:pw)(n:Nat):(sliceBounds c d MB n).1=((HT.sIx n 0 c:Nat):Int)/\(sliceBounds c d MB n).2.1=((HT.sIx n n d:Nat):Int)/\(sliceBounds c d MB n).2.2=1:=by
 refine⟨?_,?_,rfl⟩
 ·cases c with
  |none=>simp[sliceBounds,HT.sIx]
  |some i=>
   simp only[sliceBounds,HT.sIx,Option.getD_none,show(1:Int)>0 by decide,if_true]
   by_cases h:i<0
   ·simp only[h,if_true]<;>omega
   ·simp only[h,if_false]<;>omega
 ·cases d with
  |none=>simp[sliceBounds,HT.sIx]
  |some i=>
   simp only[sliceBounds,HT.sIx,Option.getD_none,show(1:Int)>0 by decide,if_true]
   by_cases h:i<0
   ·simp only[h,if_true]<;>omega
   ·simp only[h,if_false]<;>omega
theorem ny(c:List J3)(d e:pw):slicePick c.toArray d e MB=((c.drop (HT.sIx c.length 0 d)).take (HT.sIx c.length c.length e-HT.sIx c.length 0 d)).toArray:=by obtain⟨f,g,h⟩:=pV d e c.toArray.size;unfold slicePick;rw[f,g,h];simp only[sliceRange_one,pick_run,JA]<;>rfl
def Ig(K:J1):V->pw->pw->Hp->VK->Prop:=fun x c d H Q=>∃a xs,x=.ref a/\NX K H a xs/\∀p,H p=MB->Q (.ref p) (upd H p (.lst (rA xs c d)))
theorem A5:Rx X (Ig X.K):=by intro MR s σ H x v vl p d e t Q I g i j k h;obtain⟨a,xs,rfl,l,q⟩:=h;cases g;obtain⟨m,r,f,n⟩:=I.list l;have c:=r.length;refine⟨"list",_,slot_list_getitem.lookup,f.isList.typeIs,?_⟩;refine wpAny_getItem_list_slice f.isList i j k .none (by simp) ?_ (by rw[JA]<;>omega);rw[ny,<-c];refine⟨.ref s.z,_,I.laid (t':=s.toks) (o:=.lst (rA xs d e)) (fun b u q=>Jo _ q) (J9 _) ?_,rfl,q _ (I.hok.fresh (J9 _))⟩;exact⟨Kr (kn xs d e) n,_,0,(r.drop (HT.sIx xs.length 0 d)).take (HT.sIx xs.length xs.length e-HT.sIx xs.length 0 d),Jy _ rfl⟩
theorem oK:cv X (.builtin "len") (fun xs H Q=>∃p ys,xs=[.ref p]/\(NX X.K H p ys\/N0 X.K H p ys)/\Q (.int ys.length) H):=by
 intro MR s σ H xs us Q I r h;obtain⟨p,ys,rfl,d,q⟩:=h;obtain⟨u,rfl,i⟩:=vals1 r;cases i;have k:=j5;rcases d with d|d
 ·obtain⟨e,f,g,j⟩:=I.list d;have c:=f.length;exact Calls.call_len_list g.isList (by simp only[JA]<;>omega) ⟨.int ys.length,H,I.tok _,⟨s.toks+1,by rw[JA,c]⟩,q⟩
 ·obtain⟨e,f,g,j⟩:=I.tuple d;have c:=f.length;exact len_tuple g (by simp only[JA]<;>omega) ⟨.int ys.length,H,I.tok _,⟨s.toks+1,by rw[JA,c]⟩,q⟩
theorem cv.or{f:J3}{r c:ri->Hp->VK->Prop}(h:cv X f r)(h':cv X f c):cv X f (fun xs H Q=>r xs H Q\/c xs H Q):=by
 intro MR s σ H xs us Q I d q;rcases q with q|q
 ·exact h MR s σ H xs us Q I d q
 ·exact h' MR s σ H xs us Q I d q
theorem pB:cv X (.type "list") (fun xs H Q=>∃p ys,xs=[.ref p]/\(NX X.K H p ys\/N0 X.K H p ys)/\∀l,H l=MB->Q (.ref l) (upd H l (.lst ys))):=by
 intro MR s σ H xs us Q I r h;obtain⟨p,ys,rfl,i,q⟩:=h;obtain⟨u,rfl,z⟩:=vals1 r;cases z;have j:∀(c:List J3),Vals ys c->ys.length<=Jv->∀(d:oT) (f:Nat),(∀b y,s.heap.get? b=MA y->d.get? b=MA y)->d.get? s.z=MA { cls:=.type "list",dict:=MB,data:=.seq c.toArray f,slots:=#[] }->EP X MR σ Q (.ref s.z) { s with heap:=d }:=fun c g k d f kp e=>⟨.ref s.z,_,I.laid (t':=s.toks) kp (J9 _) (show cR X.prog X.w _ d _ (.lst ys)from⟨k,c,f,g,e⟩),rfl,q _ (I.hok.fresh (J9 _))⟩;rcases i with i|i
 ·obtain⟨c,g,t,k⟩:=I.list i;have m:=g.length;obtain⟨o,v,x,n,hd⟩:=t.isList;exact call_list_seq p (.inl rfl) v x hd (fun d f kp e=>j c g k d f kp e) (by simp only[JA]<;>omega)
 ·obtain⟨c,g,t,k⟩:=I.tuple i;have m:=g.length;obtain⟨o,v,x,n,hd⟩:=t;exact call_list_seq p (.inr rfl) v x hd (fun d f kp e=>j c g k d f kp e) (by simp only[JA]<;>omega)
theorem nH:cv X (.type "tuple") (fun xs H Q=>∃p ys,xs=[.ref p]/\((NX X.K H p ys/\∀l,H l=MB->Q (.ref l) (upd H l (.tup ys)))\/(N0 X.K H p ys/\Q (.ref p) H))):=by
 intro MR s σ H xs us Q I r h;obtain⟨p,ys,rfl,h⟩:=h;obtain⟨u,rfl,n⟩:=vals1 r;cases n;rcases h with⟨f,q⟩|⟨f,q⟩
 ·obtain⟨c,g,i,j⟩:=I.list f;have k:=g.length;refine call_tuple_list i.isList (fun d kp=>?_) (by simp only[JA]<;>omega);have m:Inv X MR σ H { s with heap:=d }:=I.kept (t':=s.toks) kp;have t:Inv X MR σ (upd H d.objs.size (.tup ys)) { s with heap:=d.push { cls:=.type "tuple",data:=.seq c.toArray } }:=m.laid (t':=s.toks) (fun b o e=>Jo _ e) (J9 _) (show cR X.prog X.w _ _ _ (.tup ys)from⟨j,c,g,IsTup.new _ _,Rm.new _ _⟩);exact⟨.ref d.objs.size,_,t,rfl,q _ (m.hok.fresh (J9 _))⟩
 ·obtain⟨c,g,i,j⟩:=I.tuple f;exact call_tuple_same i ⟨.ref p,H,I,rfl,q⟩
def WL(K:J1)(T:String)(x:V)(H:Hp):Prop:=match x with
 |.str _=>T="str"
 |.int _=>T="int"
 |.ref p=>(T="list"/\∃xs,NX K H p xs)\/(T="tuple"/\∃o,K.lookup p=MA o/\o.cls=.type "tuple"/\o.dict=MB)\/
  (T="dict"/\((∃kvs,H p=MA (.dK kvs))\/∃kvs,H p=MA (.dT kvs)))\/(T="set"/\∃S n,H p=MA (.set S n))
 |_=>False
theorem yB{MR:pa}{σ:St}{H:Hp}{s:J5}{T:String}{x:V}{v:J3}(I:Inv X MR σ H s)(r:RelV x v)(ty:WL X.K T x H) : s.TypeIs v T/\∀a,v=.ref a->∃f,s.heap.get? a=MA f/\f.dict=MB:=by
 cases x with
 |str z=>
  obtain⟨t,rfl⟩:=r
  cases (show T="str" from ty)
  exact⟨typeIs_str s z t,fun _ e=>nomatch e⟩
 |int i=>
  obtain⟨t,rfl⟩:=r
  cases (show T="int" from ty)
  exact⟨typeIs_int s i t,fun _ e=>nomatch e⟩
 |ref p=>
  cases r
  rcases ty with⟨rfl,xs,h⟩|⟨rfl,o,d,j,hd⟩|⟨rfl,d⟩|⟨rfl,S,n,d⟩
  ·obtain⟨k,_,g,_⟩:=I.list h;refine⟨g.isList.typeIs,fun a e=>?_⟩;cases e;obtain⟨o,n,e,c,hd,_⟩:=g;exact⟨o,e,hd⟩
  ·refine⟨⟨o,I.kIn p o d,j⟩,fun a e=>?_⟩;cases e;exact⟨o,I.kIn _ o d,hd⟩
  ·have z:∃o,s.heap.get? p=MA o/\o.ExactDict:=by
    rcases d with⟨kvs,d⟩|⟨kvs,d⟩
    ·obtain⟨_,_,_,_,o,_,_,e,ex,_⟩:=I.hok p _ d;exact⟨o,e,ex⟩
    ·obtain⟨_,_,_,_,o,_,_,e,ex,_⟩:=I.hok p _ d;exact⟨o,e,ex⟩
   obtain⟨o,e,ex⟩:=z;refine⟨⟨o,e,ex.1⟩,fun a e2=>?_⟩;cases e2;exact⟨o,e,ex.2.1⟩
  ·obtain⟨o,_,_,_,e,ex,_⟩:=I.hok p _ d;refine⟨⟨o,e,ex.1⟩,fun a e2=>?_⟩;cases e2;exact⟨o,e,ex.2.1⟩
 |_=>exact JR ty
def H0(K:J1)(T:String)(r:V->ri->Hp->VK->Prop)(c:TE):TE:=fun σ H Q=>c σ H fun x H1=>WL K T x H1/\r x [] H1 Q
def Yg(K:J1)(T:String)(r:V->ri->Hp->VK->Prop)(c:TE)(t:TA):TE:=fun σ H Q=>c σ H fun x H1=>WL K T x H1/\t σ H1 fun xs d=>r x xs d Q
variable{o e:o_}{es:qb}{to:TE}{t:TA}{name:Str}{apos bg:Pos}{T id:String}{r:V->ri->Hp->VK->Prop}
theorem Ea(k:PlainAttrs T)(slot:Slot T name id)(g:typeOf (.builtin id)=pure (.type "method_descriptor"))(l:WG X id r)(m:PE X o to) (d:LH o name X.env (eval o X.env)=eval o X.env:=by rfl) (f:(apos.endLine==bg.line)=MC:=by rfl):PE X (.Call (.Attribute o name apos) [] [] bg) (H0 X.K T r to):=by intro MR s σ H Q I h;refine wpAny_Call_method0_late d f (NO (m MR s σ H _ I h) fun v n c=>?_);obtain⟨x,H1,i,j,ty,p⟩:=c;obtain⟨q,u⟩:=yB i j ty;exact⟨T,id,k,slot,g,q,u,Calls.callWith_builtin rfl (PySem.evalArgs_none (l MR n σ H1 x [] v [] Q i j .nil p))⟩
theorem xn(p:PlainAttrs T)(slot:Slot T name id)(k:typeOf (.builtin id)=pure (.type "method_descriptor"))(q:WG X id r)(u:PE X o to)(w:PA X (e::es) t)
 (g:LH o name X.env (eval o X.env)=eval o X.env:=by rfl)
 (j:((L5 bg (JC (e::es) X.env)).all (fun x=>!x.1)&&(backToKw bg (LW [] X.env)).all (fun x=>x.1.isSome)
  && decide ((e::es).length+([]:List Mt).length+(if([]:List Mt).isEmpty then 0 else 1)<30))=MC:=by rfl)
 (i:(apos.endLine==bg.line)=MC:=by rfl) (y:JC (e::es) X.env=(MD,eval e X.env)::JC es X.env:=by rfl) (c:(L5 bg (JC es X.env)).any (·.1)=MD:=by rfl) :
 PE X (.Call (.Attribute o name apos) (e::es) [] bg) (Yg X.K T r to t):=by
 intro MR s σ H Q I h
 refine wpAny_Call_method_late g j i rfl (NO (u MR s σ H _ I h) fun v z d=>?_)
 obtain⟨x,H1,l,m,ty,A⟩:=d
 obtain⟨B,C⟩:=yB l m ty
 refine⟨T,id,p,slot,k,B,C,?_⟩
 have n:=w bg MR z σ H1 _ l A
 rw[y]at n ⊢
 refine Calls.callWith_builtin (by show(MD||(L5 bg (JC es X.env)).any (·.1))=MD;rw[c]<;>rfl) (Calls.evalArgs_plain ?_)
 exact NO n fun us D f=>by obtain⟨vs,E,F,G,J⟩:=f;exact(q MR D σ E x vs v us Q F m G J)
/- xs.append(e),list.index on a module's tuple .. are WG facts of 06m -/
end
def WH(X:Cx)(id:String)(r:V->ri->Hp->VK->Prop):Prop:=
 ∀(MR:pa) (s:J5) (σ:St) (H:Hp) (x:V) (xs:ri) (v:J3) (us:List J3) (Q:VK),Inv X MR σ H s->RelV x v->Vals xs us->r x xs H Q->
  Js (JF X.prog X.w) X.A (call (.builtin id) (v::us)) (EP X MR σ Q) X.xe s
theorem Vals.one:∀{x:V} {us:List J3},Vals [x] us->∃u,us=[u]/\RelV x u:=by
 intro x us h;cases h with
 |cons r t=>cases t;exact⟨_,rfl,r⟩
theorem Vals.two:∀{x y:V} {us:List J3},Vals [x,y] us->∃u v,us=[u,v]/\RelV x u/\RelV y v:=by
 intro x y us h;cases h with
 |cons r t=>
  cases t with
  |cons q n=>cases n;exact⟨_,_,rfl,r,q⟩
theorem Vals.zero:∀{us:List J3},Vals [] us->us=[]
 |_,.nil=>rfl
theorem Vals.rep{xs:ri}{us:List J3}(h:Vals xs us):∀k:Nat,Vals (JJ k xs).flatten (JJ k us).flatten
 |0=>.nil
 |k+1=>by
  rw[L7,L7,Lr,Lr]
  exact Vals.append h (Vals.rep h k)
theorem foldl_rep(a:List J3):∀(k:Nat) (b:List J3),
 List.foldl (fun x1 c=>x1++c) b.toArray (JJ k a.toArray)=(b++(JJ k a).flatten).toArray
 |0,b=>by simp
 |k+1,b=>by
  have e:b.toArray++a.toArray=(b++a).toArray:=by simp
  have e2:(b++a)++(JJ k a).flatten=b++(JJ (k+1) a).flatten:=by
   rw[L7,Lr,KS]
  rw[<-e2,<-foldl_rep a k (b++a),<-e,L7,LQ]
section
variable{X:Cx}{MR:pa}{σ:St}{H:Hp}{s:J5}{l b:n_}{xs ys zs:ri}
theorem Inv.EH{a its':List J3}{n:Nat}{f:Array J3->Array J3}{t':Nat}(I:Inv X MR σ H s)(c:H l=MA (.lst xs))
 (e:s.heap.get? l=MA { cls:=.type "list",data:=.seq a.toArray n }) (hf:f a.toArray=its'.toArray) (d:Vals ys its') (hz:ys.length<=Jv) :
 Inv X MR σ (upd H l (.lst ys)) { s with heap:=s.heap.update l (Obj.mapSeq f),toks:=t' }:=by
 have q:=PySem.IsL.update e f
 rw[hf]at q
 refine I.write (x:=l) (e:=l) (by rw[c];exact trivial) (.inl rfl) (fun i u g h=>(Kd s.heap (Obj.mapSeq f) (Ne.symm g)).trans h) ⟨_,q⟩ ?_
 exact⟨hz,its',_,d,q⟩
theorem Inv.GD{a:List J3}{t':Nat}(I:Inv X MR σ H s)(c:Vals ys a)(hz:ys.length<=Jv) : Inv X MR σ (upd H s.z (.lst ys)) { s with heap:=s.heap.push { cls:=.type "list",data:=.seq a.toArray },toks:=t' }:=I.laid (fun _ _ q=>Jo _ q) (J9 _) ⟨hz,a,0,c,Jy _ rfl⟩
theorem Inv.fresh(I:Inv X MR σ H s):H s.z=MB:=I.hok.fresh (J9 _)
theorem Inv.nD(I:Inv X MR σ H s)(c:H l=MA (.lst xs)):xs.length<=Jv/\∃(a:List J3) (n:Nat),Vals xs a/\xs.length=a.length/\s.heap.get? l=MA { cls:=.type "list",data:=.seq a.toArray n }:=by obtain⟨z,a,n,r,e⟩:=I.hok l _ c;exact⟨z,a,n,r,r.length,e⟩
theorem ya{n:Nat}(h:n<=Jv):Builtin.List.listTooLong n=MD:=by unfold Builtin.List.listTooLong;exact MJ ()
end
section
variable{X:Cx}
def BS:V->ri->Hp->VK->Prop:=fun x vs H Q=>∃l xs y,x=.ref l/\vs=[y]/\H l=MA (.lst xs)/\xs.length<Jv/\Q .non (upd H l (.lst (xs++[y])))
theorem jA:WH X "list.append" BS:=by intro MR s σ H x vs v us Q I c d h;obtain⟨l,xs,y,rfl,rfl,b,g,q⟩:=h;cases c;obtain⟨u,rfl,f⟩:=d.one;obtain⟨z,a,n,r,i,e⟩:=I.nD b;refine call_meets F.slot_list_append ⟨_,e,rfl⟩ F.entry_list_append (F.args_list_append_2 _ _) (PySem.list_append l a.toArray n u (by rw[JA];omega)) ⟨e,?_⟩;refine⟨.non,_,I.EH (its':=a++[u]) b e (by simp) (r.append (.cons f .nil)) ?_,rfl,q⟩;rw[Ka,List.length_singleton];omega
def Ft:V->ri->Hp->VK->Prop:=fun x vs H Q=>∃l xs,x=.ref l/\vs=[]/\H l=MA (.lst xs)/\Q .non (upd H l (.lst []))
theorem xj:WH X "list.clear" Ft:=by intro MR s σ H x vs v us Q I d f h;obtain⟨l,xs,rfl,rfl,c,q⟩:=h;cases d;have a:=f.zero;subst a;obtain⟨z,b,n,r,g,e⟩:=I.nD c;refine call_meets F.slot_list_clear ⟨_,e,rfl⟩ F.entry_list_clear (F.args_list_clear_1 _) (AutoSeq1.list_clear_list_0 l b.toArray n (by rw[JA];omega)) ⟨e,?_⟩;exact⟨.non,_,I.EH (its':=[]) (ys:=[]) c e rfl .nil (Kj _),rfl,q⟩
def Ic:R2:=fun x y H Q=>∃l b xs a,x=.ref l/\y=.ref b/\H l=MA (.lst xs)/\H b=MA (.lst a)/\xs.length+a.length<=Jv/\∀p,H p=MB->Q (.ref p) (upd H p (.lst (xs++a)))
theorem CZ:Nd X (LB .Add) Ic:=by
 intro MR s σ H x y v u Q I d f h;obtain⟨l,b,xs,o,rfl,rfl,g,i,p,q⟩:=h;cases d;cases f;obtain⟨z,c,n,r,t,e⟩:=I.nD g;obtain⟨w,a,A,j,k,e2⟩:=I.nD i;refine PySem.P.add_list e e2 ?_ (by rw[JA,JA];omega);have m:c.toArray++a.toArray=(c++a).toArray:=by simp
 rw[m];exact⟨.ref _,_,I.GD (t':=s.toks) (r.append j) (by rw[Ka];omega),rfl,q _ I.fresh⟩
def Jk:R2:=fun x y H Q=>∃l k xs,x=.ref l/\y=.int k/\H l=MA (.lst xs)/\-(2^63)<=k/\k<2^63/\xs.length*k.toNat<=Jv/\
 ∀p,H p=MB->Q (.ref p) (upd H p (.lst (JJ k.toNat xs).flatten))
theorem len_rep{a:Type}(xs:List a)(k:Nat):(JJ k xs).flatten.length=k*xs.length:=by
 induction k with
 |zero=>simp
 |succ k b=>rw[L7,Lr,Ka,b,Nat.succ_mul,Nat.add_comm]
theorem E3:Nd X (LB .Mult) Jk:=by
 intro MR s σ H x y v u Q I p w h;obtain⟨l,k,xs,rfl,rfl,A,B,C,o,q⟩:=h;cases p;obtain⟨t,rfl⟩:=w;obtain⟨z,b,n,r,D,e⟩:=I.nD A;have d:b.toArray.size*k.toNat<=Jv:=by rw[JA,<-D];exact o
 have f:¬b.toArray.size*k.toNat>(2^63-1)/8:=by
  have:(Jv:Nat)<=(2^63-1)/8:=⋯
  omega
 have g:¬(!Builtin.List.listFitsIndex k)=MC:=by rw[fitsIndex_both B C];exact JD
 have c:¬Builtin.List.listTooLong (b.toArray.size*k.toNat)=MC:=by rw[ya d];exact JD
 have i:List.foldl (fun x1 j=>x1++j) #[] (JJ (if b.toArray.isEmpty=MC then 0 else k.toNat) b.toArray)=(JJ k.toNat b).flatten.toArray:=by
  have E:∀m:Nat,List.foldl (fun x1 j=>x1++j) #[] (JJ m b.toArray)=(JJ m b).flatten.toArray:=fun m=>by
   have:=foldl_rep b m []
   rw[List.nil_append]at this
   exact this
  rw[E]
  cases b with
  |nil=>simp
  |cons a J=>rw[ME (by simp)]
 refine wpAny_binaryOp_repeat_ref (T:="list") (U:="int") ⋯ ⟨_,e,rfl⟩ (fun G=>typeIs_int G k t) noFill_list_mul F.fills_int_mul F.slot_int_rmul repeat_list F.slot_int_index.lookup
  (call_meets F.slot_int_rmul (typeIs_int s k t) F.entry_int_rmul (F.args_int_rmul_2 _ _) (int___rmul___int_list k t l b.toArray n)
   ⟨e,rfl,⟨_,e,rfl⟩,call_meets F.slot_list_mul ⟨_,e,rfl⟩ F.entry_list_mul (F.args_list_mul_2 _ _) (AutoListH.list___mul___list_int_3 l b.toArray n k t g f c) ⟨e,?_⟩⟩)
 rw[i];exact⟨.ref _,_,I.GD (t':=s.toks) (r.rep k.toNat) (by rw[len_rep,Nat.mul_comm];exact o),rfl,q _ I.fresh⟩
end
end L2
namespace Att
open PySem PySem.W PySem.Calls PyProof.Rows
theorem kP{P:JU}{h:oT}:∀(ns:pq) (vs:List J3),WellAll P h vs (ns.map WData.int)->LN vs ns:=by
 intro ns
 induction ns with
 |nil=>
  intro vs w
  rw[KP]at w
  cases w
  exact .nil
 |cons n ns c=>
  intro vs w
  rw[Jn]at w
  cases w with
  |cons a b=>
   cases a
   exact .cons _ _ (c _ b)
theorem wo{l:OpenLaw}{n:Nat}(o:l.most=MA n){P:JU}{h:oT}{args:List WData}{b:List J3}
 (c:l.row.toRowW.claim.pre args=MC) (j:WellAll P h b args) :
 ∃a vs ns,b=[KW a]/\args=[WData.list (ns.map WData.int)]/\h.get? a=MA { cls:=.type "list",data:=.seq vs.toArray }/\LN vs ns/\ns.length<=n:=by
 have k:WShape.hasAll [] args [.list .int]=MC:=(pre_splitW c).1
 have m:l.pre.holds [] { args:=args }=MC:=(pre_splitW c).2
 obtain⟨d,r,rfl,p,s⟩:=hasAllW_cons k
 obtain rfl:=hasAllW_nil s
 obtain⟨xs,rfl,t⟩:=hasW_list p
 obtain⟨ns,rfl⟩:=items_int t
 have e:ns.length<=n:=by
  unfold OpenLaw.pre at m
  have g:(WTm.not (.lt (.lit (.int (n:Int))) (.len (.arg 0)))).holds [] { args:=[.list (ns.map .int)] }=MC:=by
   have g:=(holds_andW m).1
   rw[o]at g
   exact g
  have i:=condW_of g (w_not (w_lt w_lit (w_len_list (w_arg rfl))))
  rw[J4]at i
  refine Nat.le_of_not_lt fun q=>?_
  have u:(n:Int)<((ns.length:Nat):Int):=()
  first
   |(rw[MK u]at i;exact absurd i ⋯)
   |(simp at i;omega)
 cases j with
 |cons v w=>
  cases w
  cases v with
  |list x f=>exact⟨_,_,ns,rfl,rfl,x,kP ns _ f,e⟩
theorem vV(l:OpenLaw)(args:List WData):l.row.toRowW.claim.post args (.bool MC) args=MC:=
 postW_of (r:=l.row.toRowW) (X:=(MC==MC))
  (show WShape.has [] (.bool MC) .bool=MC by first|rfl|decide|simp[WShape.has,WShape.arms,WShape.armsAll])
  (show(WTm.eq .res (.lit (.bool MC))).value [] { args:=args,res:=MA (.bool MC),after:=args }=MA (.bool (MC==MC))from w_eq_bool (w_res rfl) w_lit) rfl
theorem rQ{l:OpenLaw}{n:Nat}{q:JL}{c:ra}{y:(Str->Option J3)->oT->Prop}{z:Kg->oT->Prop}{d:DefRec}
 (D:l.most=MA n) (p:d.params.defaults=[])
 (call:∀(w:Kg) (s₀ b:J5) (mg s:Str->Option J3) (fa:n_) (o:Obj) (t k e:J3) (a:n_) (vs:List J3) (ns:pq),
  Ground q c [] y w s₀ mg s b.heap->z w b.heap->
  b.heap.get? fa=MA o->o.data=.func (docDef d.name d.params d.body d.scope t k e)->b.heap.CodeRec k d.name->mg d.name=MA (.ref fa)->
  b.heap.get? a=MA { cls:=.type "list",data:=.seq vs.toArray }->LN vs ns->ns.length<=n->b.gens=#[]->
  LM (JF l.prog w) callerA (.call (.ref fa) ⟨[.ref a],[]⟩) (fun r m=>r=.ok (.ret (.bool MC))/\OldK b.heap m.heap/\m.os=b.os/\AllBare m.gens) b) :
 WalkO q c y z l.row.toRowW d [] (fun f vs=>PySem.call f vs):=by
 intro w s₀ b mg s G Y fa o t k e E kV F hd u A v H args B P h C I x J
 obtain rfl:E=.none:=Dflts.none A p
 obtain rfl:kV=.none:=Dflts.noKw A
 obtain⟨a,vs,ns,rfl,rfl,i,g,j⟩:=wo D h x
 refine enter_call (codeAny_mono (call w s₀ b mg s fa o t k e a vs ns G Y F (fd_plain hd) u v i g j H) fun r m K=>?_)
 obtain⟨rfl,L,M,N⟩:=K
 exact⟨.inl ⟨.bool MC,.bool MC,[],rfl,fun _=>rfl,.bool MC,vV l _,fun _=>⟨List.Pairwise.nil,fun _ O=>(nomatch O)⟩⟩,L,M,N⟩
section
variable{prog:JL}{w:Kg}{A:Kn}{E:J3->J5->Prop}{s:J5}{K:Frag}
end
end Att
namespace L2
open PySem PySem.Spec PyProof.Rows
theorem nS:∀{vs:List J3} {ns:pq},LN vs ns->Vals (ns.map V.int) vs
 |_,_,.nil=>.nil
 |_,_,.cons n t h=>.cons ⟨t,rfl⟩ (nS h)
def E5(H:Hp):Prop:=∀b,H b=MB\/∃o xs,H b=MA (.frz o (.lst xs))
theorem zR{P:JL}{w:Kg}{K:J1}{mg L:Str->Option J3}{CX:Qz}{k:Nat}{fa a:n_}{fd:Mv}{x:Str}{sp:Sp}{c:J5}{vs:List J3}{ns:pq}
 (T:K.In c.heap) (y:c.heap.Ns Mi mg) (g:c.heap.Ns builtinsNs L) (M:∀x:Str,x≠"__name__"->L x=Kp x) (A:c.heap.NoLimit) (hg:c.gens=#[])
 (J:c.heap.get? a=MA { cls:=.type "list",data:=.seq vs.toArray }) (U:LN vs ns) (W:ns.length<=Jv) (hr:N1 k callerA)
 (F:∀base:oT,K.In base->base.Ns Mi mg->Nw P w K mg base CX k fa fd [x] sp) (t:∀(s:J5) (u:J3),BindsTo s fd ⟨[u],[]⟩ [(x,u)])
 (N:∀H:Hp,E5 H->NX K H a (ns.map V.int)->sp [.ref a] H (fun v _=>v=.bl MC) fun _ _ _=>False)
 (O:∀H e i,CX [] H c (fun _ _ _=>False) e i->False) :
 LM (JF P w) callerA (.call (.ref fa) ⟨[.ref a],[]⟩) (fun r i=>r=.ok (.ret (.bool MC))/\OldK c.heap i.heap/\i.os=c.os/\AllBare i.gens) c:=by
 have X:=nS U
 have B:=U.length
 have p:∀H:Hp,E5 H->NX K H a (ns.map V.int)->Nv P w H c.heap->(∀b,H b≠MB->b=a)->(H a≠MB->K.lookup a=MB)->
  LM (JF P w) callerA (.call (.ref fa) ⟨[.ref a],[]⟩) (fun r i=>r=.ok (.ret (.bool MC))/\OldK c.heap i.heap/\i.os=c.os/\AllBare i.gens) c:=by
  intro H Y hS hok Z hK
  have f:∀{b:n_} {o:Obj},c.heap.get? b=MA o->H b=MB->(pL c.heap H).get? b=MA o:=fun e n=>zU e n
  have Q:∀{b:n_} {o:Obj} {C:Array KG} {D:Nat},c.heap.get? b=MA o->o.data=.dict C D->H b=MB:=fun{b o C D} e d=>by
   cases q:H b with
   |none=>rfl
   |some u=>
    have R:b=a:=Z b (by rw[q];simp)
    subst R
    rw[J]at e;cases e
    have d':Data.seq vs.toArray _=Data.dict C D:=d
    cases d'
  have j:∀{b:n_} {m:Str->Option J3},c.heap.Ns b m->(pL c.heap H).Ns b m:=fun{b m} l=>by obtain⟨o,C,D,e,d,r⟩:=l;exact(⟨o,C,D,f e (Q e d),d,r⟩)
  have E:K.In (pL c.heap H):=fun b o e=>f (T b o e) (by
   cases q:H b with
   |none=>rfl
   |some u=>
    have R:b=a:=Z b (by rw[q];simp)
    subst R
    rw[hK (by rw[q];simp)]at e;cases e)
  have hM:Mod K mg (pL c.heap H):=⟨E,j y,⟨L,j g,M⟩,let⟨mc,h1,h2⟩:=A;⟨mc,j h1,h2⟩⟩
  have e0:RU P w K mg (pL c.heap H) callerA [] c H:=⟨rfl,hM,fun b o e=>AA e,Nat.le_of_eq (wm _ _),trivial,fun b g=>absurd (show b∈([]:q_)from g) (by simp),hok,.of_eq hg⟩
  refine codeAny_mono ((F _ E (j y)).run callerA [] c H ⟨[.ref a],[]⟩ [.ref a] [.ref a] _ _ hr e0 (t c (.ref a)) (.cons rfl .nil) (N H Y hS)) fun r i h=>?_
  cases r with
  |error e=>exact(O H e i h).elim
  |ok fl=>
   cases fl with
   |next=>exact JR h
   |brk=>exact JR h
   |cont=>exact JR h
   |ret u=>
    obtain⟨v,H',os,bare,un,G,r',q⟩:=h
    have q':v=.bl MC:=q
    subst q'
    obtain rfl:u=Value.bool MC:=r'
    refine⟨rfl,OldK.of_keep fun b o e=>?_,os,bare⟩
    cases q:H b with
    |none=>exact un.keep b o e q (by intro z;exact absurd (show b∈([]:q_)from z) (by simp)) (by simp)
    |some u=>
     rcases Y b with z|⟨ob,xs,z⟩
     ·rw[q]at z;cases z
     ·have z2:=un.frzs b ob _ z
      obtain⟨e1,_⟩:=hok b _ z
      obtain⟨e2,_⟩:=G b _ z2
      rw[e]at e1;cases e1
      exact e2
 cases S:K.lookup a with
 |some o=>
  have e:=T a o S
  rw[J]at e
  cases e
  refine p (fun _=>MB) (fun _=>.inl rfl) (.inr ⟨_,vs.toArray,_,S,rfl,rfl,rfl,by rw[JA,B];exact W,‹X›⟩) (fun b u z=>by have I:(MB:Option HO)=MA u:=z;cases I) (fun b z=>absurd rfl z) fun z=>absurd rfl z
 |none=>
  refine p (fun b=>if b=a then MA (.frz { cls:=.type "list",data:=.seq vs.toArray } (.lst (ns.map V.int)))else MB) (fun b=>?_) (.inl (.inr ⟨{ cls:=.type "list",data:=.seq vs.toArray },MI rfl⟩)) (fun b u z=>?_) (fun b z=>?_) fun _=>S
  ·by_cases g:b=a
   ·exact .inr ⟨_,_,MI g⟩
   ·exact .inl (ME g)
  ·by_cases g:b=a
   ·have I:=(MI g).symm.trans z
    cases I
    subst g
    exact⟨J,by rw[J4];exact W,vs,_,X,J⟩
   ·have I:=(ME g).symm.trans z
    cases I
  ·by_cases g:b=a
   ·exact g
   ·exact absurd (ME g) z
abbrev KOf{K:J1}{h:oT}(_:K.In h):J1:=K
theorem Bf{l:PySem.W.OpenLaw}{n k:Nat}{q:JL}{i:ra}{E:(Str->Option J3)->oT->Prop}{C:Kg->oT->Prop}{d:DefRec}{K:JU->J1}{CX:Kg->Qz}{sp:Kg->Sp}{x:Str}
 (I:l.most=MA n) (r:n<=Jv) (t:d.params.defaults=[]) (J:N1 k callerA)
 (L:∀(w:Kg) (h:oT),C w h->(K w.params).In h)
 (F:∀(w:Kg) (mg:Str->Option J3) (fa:n_) (h:oT),(K w.params).In h->h.Ns Mi mg->mg d.name=MA (.ref fa)->
  ∃fd:Mv,(∀(s:J5) (u:J3),BindsTo s fd ⟨[u],[]⟩ [(x,u)])/\
   ∀base:oT,(K w.params).In base->base.Ns Mi mg->Nw l.prog w (K w.params) mg base (CX w) k fa fd [x] (sp w))
 (y:∀(w:Kg) (H:Hp) (a:n_) (ns:pq),ns.length<=n->E5 H->NX (K w.params) H a (ns.map V.int)->sp w [.ref a] H (fun v _=>v=.bl MC) fun _ _ _=>False)
 (z:∀(w:Kg) (H:Hp) (s:J5) (e:J3) (A:J5),CX w [] H s (fun _ _ _=>False) e A->False) :
 PySem.W.WalkO q i E C l.row.toRowW d [] (fun f vs=>PySem.call f vs):=by
 refine Att.rQ I t fun w s₀ m mg S fa o U X M a vs ns G Y Z hd N B p j c O=>?_
 have D:=L w _ Y
 obtain⟨fd,P,hF⟩:=F w mg fa _ D G.T.g B
 exact zR D G.T.g G.T.b G.T.builtins G.T.nolimit O p j (Kr c r) J hF P (fun H Q R=>y w H a ns c Q R) fun H e A=>z w H m e A
def cL(s:oa):Arguments:=match s with
 |.FunctionDef _ a _ _ _ _ _ _ _ _=>a
 |_=>{ posonlyargs:=[],args:=[],vararg:=MB,kwonlyargs:=[],kw_defaults:=[],kwarg:=MB,defaults:=[] }
def bG(s:oa):p_:=match s with
 |.FunctionDef _ _ b _ _ _ _ _ _ _=>b
 |_=>[]
def ay(s:oa):LY:=match s with
 |.FunctionDef _ _ _ _ _ _ sc _ _ _=>sc
 |_=>{ kind:=.function,names:=[],isGenerator:=MD,isCoroutine:=MD }
abbrev P8:Qz:=fun _ _ _ _ _ _=>False
abbrev E0:XK:=fun _ _ _=>False
theorem GZ{X:Cx}:Passes P8 X E0:=fun _ _ _ _ _ _ _ h=>h.elim
structure Rz(K:J1)(x qual:Str)(st:oa)(f:n_)(fd:Mv):Prop where
 ex:∃(oc:J3) (od:Option n_) (kV doc pm:J3) (an:Option n_) (cdv ct:J3) (osl:Array (Option J3)),
  fd=Le x qual (cL st) (bG st) (ay st) .none kV doc pm an cdv ct/\K.lookup f=MA ⟨oc,od,.func fd,osl⟩/\PySem.W.codeIn K cdv qual=MC
 kp:PySem.W.keepIn K (.ref f)=MC
section
variable{P:JL}{w:Kg}{K:J1}{mg:Str->Option J3}{base:oT}
theorem Rz.ok{x qual:Str}{st:oa}{f:n_}{fd:Mv}{N ps:ra}{k:Nat}{sp:Sp}(F:Rz K x qual st f fd)(S:NJ N ps (ay st))(len:∀vs H Q E,sp vs H Q E->vs.length=ps.length)
 (a:∀(cdv:J3) (A:Kn) (outer:List Env) (s:J5) (H:Hp) (vs:ri) (Q:VK) (E:XK),N1 k (A.deeper (envOfC qual (ay st) s.z f cdv))->sp vs H Q E->
  ∃t,P7 (jQ P8 P w K mg base N qual (ay st) f cdv A outer s H E).nox (bG st) t/\t { nx:=fun _ d=>Q .non d,rt:=Q } (start N vs) H):Nw P w K mg base P8 (k+1) f fd ps sp:=by
 obtain⟨oc,od,kV,e,j,an,cdv,ct,osl,rfl,g,b⟩:=F.ex
 refine HP g b S len fun A outer s H vs Q E i c=>?_
 obtain⟨t,h,q⟩:=a cdv A outer s H vs Q E i c
 exact⟨t,h.nox,q⟩
theorem Rz.binds{x qual:Str}{st:oa}{f:n_}{fd:Mv}{ps:ra}(F:Rz K x qual st f fd) (h:∀(kV a b:J3) (an:Option n_) (cdv ct:J3) (us:List J3),us.length=ps.length->bindArgs (Le x qual (cL st) (bG st) (ay st) .none kV a b an cdv ct) ⟨us,[]⟩=pure (ps.zip us)):Binds K fd ps []:=by obtain⟨oc,od,kV,a,b,an,cdv,ct,osl,rfl,d,c⟩:=F.ex;exact .all (h kV a b an cdv ct)
theorem EA{x qual:Str}{st:oa}{f:n_}{oc:J3}{od an:Option n_}{osl:Array (Option J3)}{kV a b cdv ct:J3}(l:K.lookup f=MA ⟨oc,od,.func (Le x qual (cL st) (bG st) (ay st) .none kV a b an cdv ct),osl⟩) (c:PySem.W.codeIn K cdv qual=MC) (k:PySem.W.keepIn K (.ref f)=MC):Rz K x qual st f (Le x qual (cL st) (bG st) (ay st) .none kV a b an cdv ct):=⟨⟨oc,od,kV,a,b,an,cdv,ct,osl,rfl,l,c⟩,k⟩
end
theorem zF{A B:Prop}(h:A):if MC=MC then A else B:=by rw[MI rfl];exact h
theorem bQ{c A B:Prop}[Decidable c](a:c->A)(b:¬c->B):if c then A else B:=by
 by_cases h:c
 ·rw[MI h];exact a h
 ·rw[ME h];exact b h
section
variable{κ:Type}[DecidableEq κ]
def fG(kvs:List (κ×V))(k:κ):Option V:=(kvs.find? fun a=>decide (a.1=k)).map (·.2)
def putK(kvs:List (κ×V))(k:κ)(v:V):List (κ×V):=
 if(kvs.any fun a=>decide (a.1=k))=MC then kvs.map (fun a=>if a.1=k then(a.1,v)else a)else kvs++[(k,v)]
theorem cG{p:κ×V}{r:List (κ×V)}{k:κ}(e:p.1=k):fG (p::r) k=MA p.2:=by simp[fG,JX,e]
theorem cE{p:κ×V}{r:List (κ×V)}{k:κ}(e:¬p.1=k):fG (p::r) k=fG r k:=by simp[fG,JX,e]
theorem eE(k:κ):∀kvs:List (κ×V),(kvs.any fun a=>decide (a.1=k))=(fG kvs k).isSome
 |[]=>rfl
 |p::r=>by
  rw[LI]
  by_cases e:p.1=k
  ·simp only[cG e,MK e,Bool.true_or,Option.isSome_some]
  ·rw[cE e,MJ e,Bool.false_or];exact eE k r
theorem rp(k j:κ)(y:V):∀kvs:List (κ×V),fG (kvs.map fun a=>if a.1=k then(a.1,y)else a) j=(fG kvs j).map fun x=>if j=k then y else x
 |[]=>rfl
 |p::r=>by
  have b:=rp k j y r
  rw[Jn]
  by_cases h:p.1=k
  ·rw[MI h]
   by_cases e:p.1=j
   ·rw[cG (p:=(p.1,y)) e,cG e,Option.map_some,MI (e.symm.trans h)]
   ·rw[cE (p:=(p.1,y)) e,cE e,b]
  ·rw[ME h]
   by_cases e:p.1=j
   ·rw[cG (p:=p) e,cG e,Option.map_some,ME (fun z=>h (e.trans z))]
   ·rw[cE (p:=p) e,cE e,b]
theorem oy(k j:κ)(y:V):∀kvs:List (κ×V),fG kvs k=MB->fG (kvs++[(k,y)]) j=if j=k then MA y else fG kvs j
 |[],_=>by
  by_cases e:k=j
  ·rw[MI e.symm];exact cG (p:=(k,y)) e
  ·rw[ME (fun z=>e z.symm)];exact cE (p:=(k,y)) e
 |p::r,hn=>by
  rw[List.cons_append]
  have a:¬p.1=k:=fun z=>by rw[cG z]at hn;cases hn
  rw[cE a]at hn
  have b:=oy k j y r hn
  by_cases e:p.1=j
  ·rw[cG e,cG e,ME (fun z=>a (e.trans z))]
  ·rw[cE e,cE e,b]
theorem xS(kvs:List (κ×V))(k j:κ)(y:V):fG (putK kvs k y) j=if j=k then MA y else fG kvs j:=by
 unfold putK;by_cases a:(kvs.any fun b=>decide (b.1=k))=MC
 ·rw[MI a,rp];rw[eE]at a;by_cases e:j=k
  ·obtain⟨x,c⟩:=Option.isSome_iff_exists.mp a;rw[MI e,e,c,Option.map_some,MI rfl]
  ·rw[ME e];cases fG kvs j with
   |none=>rfl
   |some x=>rw[Option.map_some,ME e]
 ·rw[ME a];refine oy k j y kvs ?_;rw[eE]at a;cases q:fG kvs k with
  |none=>rfl
  |some x=>rw[q]at a;exact(a rfl).elim
theorem gE(kvs:List (κ×V))(k:κ)(v:V):(putK kvs k v).length<=kvs.length+1:=by
 unfold putK;split
 ·rw[J4];omega
 ·rw[Ka,Kk,List.length_nil];omega
theorem wX.jX{o:Option V}{u:Option J3}(r:wX o u):o.isSome=u.isSome:=by
 cases o with
 |none=>cases u with
  |none=>rfl
  |some _=>exact(show False from r).elim
 |some _=>cases u with
  |none=>exact(show False from r).elim
  |some _=>rfl
theorem KV.val{kvs:List (κ×V)}{vs:List (κ×J3)}(r:KV kvs vs)(k:κ):wX (fG kvs k) (valueAt vs k):=by
 unfold KV at r
 induction r with
 |nil=>exact Mu
 |@cons p q ps qs h t ih=>
  obtain⟨c,d⟩:=h
  by_cases e:p.1=k
  ·have a:q.1=k:=c.symm.trans e;have b:valueAt (q::qs) k=MA q.2:=by simp[valueAt,JX,a]
   rw[cG e,b];exact d
  ·have a:¬q.1=k:=fun z=>e (c.trans z);have b:valueAt (q::qs) k=valueAt qs k:=by simp[valueAt,JX,a]
   rw[cE e,b];exact ih
theorem KV.any{kvs:List (κ×V)}{vs:List (κ×J3)}(r:KV kvs vs)(k:κ):(kvs.any fun a=>decide (a.1=k))=vs.any fun a=>decide (a.1=k):=by
 unfold KV at r
 induction r with
 |nil=>rfl
 |cons h t b=>rw[LI,LI,b,h.1]
theorem KV.Fu{kvs:List (κ×V)}{vs:List (κ×J3)}(r:KV kvs vs)(k:κ){y:V}{u:J3}(c:RelV y u) :
 KV (kvs.map fun a=>if a.1=k then(a.1,y)else a) (vs.map fun a=>if a.1=k then(a.1,u)else a):=by
 unfold KV at r ⊢
 induction r with
 |nil=>exact .nil
 |@cons p q ps qs h t ih=>
  rw[Jn,Jn]
  refine .cons ?_ ih
  obtain⟨b,d⟩:=h
  by_cases e:p.1=k
  ·rw[MI e,MI (b.symm.trans e)];exact⟨b,c⟩
  ·rw[ME e,ME (fun z=>e (b.trans z))];exact⟨b,d⟩
theorem KV.put{kvs:List (κ×V)}{vs:List (κ×J3)}(r:KV kvs vs)(k:κ){y:V}{u:J3}(a:RelV y u):KV (putK kvs k y) (stored vs k u):=by
 unfold putK stored;rw[r.any k];by_cases e:(vs.any fun b=>decide (b.1=k))=MC
 ·rw[MI e,MI e];exact r.Fu k a
 ·rw[ME e,ME e];exact Paired.snoc r ⟨rfl,a⟩
theorem KV.length{kvs:List (κ×V)}{vs:List (κ×J3)}(r:KV kvs vs):kvs.length=vs.length:=Paired.length r
end
theorem yX{P:JL}{w:Kg}{k:Key}{u:J3}(r:RelV (kV k) u):(cC P w).is k u=MC:=by
 cases k with
 |inl i=>obtain⟨t,e⟩:=(show ∃t,u=Value.int i t from r);subst e;exact qd P w i t
 |inr x=>obtain⟨t,e⟩:=(show ∃t,u=Value.str x t from r);subst e;exact rz P w x t
theorem nV{P:JL}{w:Kg}:∀{ks:List Key} {us:List J3},Vals (ks.map kV) us->ItemsAre (cC P w) ks us
 |[],_,r=>by rw[KP]at r;cases r;exact .nil
 |k::ks,_,r=>by
  rw[Jn]at r
  cases r with
  |cons h t=>exact .cons (yX h) (nV t)
abbrev KT(H:Hp):List (List Key×V)->List (List Key×n_×J3)->Prop:=Mw fun p q=>p.1=q.1/\H q.2.1=MA (.tup (p.1.map kV))/\RelV p.2 q.2.2
theorem KT.val{H:Hp}{kvs:List (List Key×V)}{xs:List (List Key×n_×J3)}(r:KT H kvs xs)(k:List Key):wX (fG kvs k) ((atKey xs k).map (·.2)):=by
 induction r with
 |nil=>exact Mu
 |@cons p q ps qs h t ih=>
  obtain⟨c,_,d⟩:=h
  by_cases e:p.1=k
  ·have a:q.1=k:=c.symm.trans e;have b:atKey (q::qs) k=MA q.2:=by simp[atKey,JX,a]
   rw[cG e,b];exact d
  ·have a:¬q.1=k:=fun z=>e (c.trans z);have b:atKey (q::qs) k=atKey qs k:=by simp[atKey,JX,a]
   rw[cE e,b];exact ih
theorem KT.Fu{H:Hp}{kvs:List (List Key×V)}{xs:List (List Key×n_×J3)}(r:KT H kvs xs)(k:List Key){y:V}{u:J3}(d:RelV y u) :
 KT H (kvs.map fun b=>if b.1=k then(b.1,y)else b) (xs.map (putAt k u)):=by
 induction r with
 |nil=>exact .nil
 |@cons p q ps qs h t ih=>
  rw[Jn,Jn]
  refine .cons ?_ ih
  obtain⟨a,c,f⟩:=h
  unfold putAt
  by_cases e:p.1=k
  ·rw[MI e,MI (a.symm.trans e)];exact⟨a,c,d⟩
  ·rw[ME e,ME (fun z=>e (a.trans z))];exact⟨a,c,f⟩
theorem KT.put{H:Hp}{kvs:List (List Key×V)}{xs:List (List Key×n_×J3)}(r:KT H kvs xs)(k:List Key){b:n_}{y:V}{u:J3}(c:H b=MA (.tup (k.map kV)))(a:RelV y u) :
 KT H (putK kvs k y) (storedH xs k b u):=by
 have e:(kvs.any fun d=>decide (d.1=k))=(atKey xs k).isSome:=by
  rw[eE,(r.val k).jX,Option.isSome_map]
 unfold putK storedH
 rw[e]
 by_cases q:(atKey xs k).isSome=MC
 ·rw[MI q,MI q];exact r.Fu k a
 ·rw[ME q,ME q];exact Paired.snoc r ⟨rfl,c,a⟩
theorem KT.keeps{H a:Hp}{kvs:List (List Key×V)}{xs:List (List Key×n_×J3)}(r:KT H kvs xs)(c:∀b ys,H b=MA (.tup ys)->a b=MA (.tup ys)):KT a kvs xs:=Paired.HI r fun _ _ z=>⟨z.1,c _ _ z.2.1,z.2.2⟩
section
variable{P:JL}{w:Kg}{H:Hp}{h:oT}{a:n_}
theorem CL{u:HO}(ok:Nv P w H h)(e:Rd H a u):cR P w H h a u:=e.ok ok
theorem CO{kvs:List (Key×V)}(ok:Nv P w H h)(e:Rd H a (.dK kvs)):kvs.length<=Jv/\(a==Li)=MD/\∃vs,KV kvs vs/\h.DictOf (cC P w) a vs:=show cR P w H h a (.dK kvs)from CL ok e
theorem G7{kvs:List (Key×V)}(ok:Nv P w H h)(e:H a=MA (.dK kvs)):kvs.length<=Jv/\(a==Li)=MD/\∃vs,KV kvs vs/\h.DictOf (cC P w) a vs:=CO ok (.inl e)
theorem tU{ks:List Key}(ok:Nv P w H h)(e:H a=MA (.tup (ks.map kV))):(tupleKind (cC P w)).is h ks a:=by obtain⟨_,b,r,⟨o,c,d,n,f⟩,_⟩:=(show cR P w H h a (.tup (ks.map kV))from ok a _ e);exact⟨o,b.toArray,n,c,d,f,‹nV r›⟩
theorem B7{kvs:List (List Key×V)}(ok:Nv P w H h)(e:Rd H a (.dT kvs)):kvs.length<=Jv/\(a==Li)=MD/\
 ∃xs,KT H kvs xs/\h.DictOfH (tupleKind (cC P w)) a xs:=by
 obtain⟨z,y,xs,r,o,c,d,f,g,i,j,k⟩:=(show cR P w H h a (.dT kvs)from CL ok e)
 refine⟨z,y,xs,r,o,c,d,f,g,i,j,fun x b=>?_,k⟩
 have all:∀{l:List (List Key×V)} {m:List (List Key×n_×J3)},KT H l m->∀x∈m,(tupleKind (cC P w)).is h x.1 x.2.1:=by
  intro l m q
  induction q with
  |nil=>intro x b;exact nomatch b
  |@cons p q ps qs hq t ih=>
   intro x b
   rcases JI.mp b with e|b
   ·subst e
    exact tU ok (by rw[<-hq.1];exact hq.2.1)
   ·exact ih x b
 exact all r x b
theorem G8{kvs:List (List Key×V)}(ok:Nv P w H h)(e:H a=MA (.dT kvs)):kvs.length<=Jv/\(a==Li)=MD/\∃xs,KT H kvs xs/\h.DictOfH (tupleKind (cC P w)) a xs:=B7 ok (.inl e)
end
def DO(H:Hp)(a:n_)(y:V)(r:Option V):Prop:=
 (∃kvs k,Rd H a (.dK kvs)/\y=kV k/\r=fG kvs k)\/∃kvs k b,Rd H a (.dT kvs)/\y=.ref b/\H b=MA (.tup (k.map kV))/\r=fG kvs k
def Ga(H:Hp)(a:n_)(y v:V)(c:Hp):Prop:=
 (∃kvs k,H a=MA (.dK kvs)/\y=kV k/\kvs.length<Jv/\c=upd H a (.dK (putK kvs k v)))\/
 ∃kvs k b,H a=MA (.dT kvs)/\y=.ref b/\H b=MA (.tup (k.map kV))/\kvs.length<Jv/\c=upd H a (.dT (putK kvs k v))
section
variable{X:Cx}{MR:pa}{σ:St}{H:Hp}{s:J5}{a:n_}{y v:V}{u r:J3}{o:Option V}{A:Kn}{E:J3->J5->Prop}
theorem Inv.big(I:Inv X MR σ H s):Li<s.z:=by have h:Mi<s.z:=(I.mod.glob.keeps I.bk).lt;exact Nat.lt_trans ⋯ h
theorem By{Q:J3->J5->Prop}(m:A.units+1<Ku)(I:Inv X MR σ H s)(g:DO H a y o)(i:RelV y u)(h:∀j,Inv X MR σ H j->Q (.bool (!o.isSome)) j) : Js (JF X.prog X.w) A (K4 .NotIn u (.ref a)) Q E s:=by
 rcases g with⟨kvs,k,e,d,l⟩|⟨kvs,k,b,e,d,n,l⟩
 ·subst d;obtain⟨z,hd,vs,c,f⟩:=CO I.hok e;refine wpAny_notIn_of (yX i) hd f.mapOf ?_;rw[<-(c.val k).jX,<-l];exact h _ (I.tok _)
 ·subst d;cases (show u=KW b from i);obtain⟨z,hd,xs,c,f⟩:=B7 I.hok e;refine wpAny_notIn_heap (tupleKind_room_in1 m) (tU I.hok n) hd f ?_;have q:=(c.val k).jX;rw[Option.isSome_map]at q;rw[<-q,<-l];exact h _ (I.tok _)
theorem ly{h':oT}{t':Nat}{c:HO}(I:Inv X MR σ H s)(d:Vl (H a))(f:Mj a s.heap h')(g:∃q,h'.get? a=MA q)(new:cR X.prog X.w (upd H a c) h' a c) : Inv X MR σ (upd H a c) { s with heap:=h',toks:=t' }:=I.write (x:=a) (e:=a) d (.inl rfl) (fun b q h z=>(f.2 b h).trans z) g new
theorem Ep{P:JL}{w:Kg}{c:Hp}{h':oT}{kvs:List (Key×V)}{vs:List (Key×J3)}(z:kvs.length<=Jv)(hd:(a==Li)=MD)(b:KV kvs vs)(d:h'.DictOf (cC P w) a vs) : cR P w c h' a (.dK kvs):=⟨z,hd,vs,b,d⟩
theorem wy{B:Hp}{Q:Unit->J5->Prop}(L:A.units+1<Ku)(I:Inv X MR σ H s)(g:Ga H a y v B)(C:RelV y u)(D:RelV v r)(h:∀F,Inv X MR σ B F->Q .unit F) : Js (JF X.prog X.w) A (setItem (.ref a) u r) Q E s:=by
 rcases g with⟨kvs,k,e,j,l,m⟩|⟨kvs,k,b,e,j,G,l,m⟩
 ·subst j m;obtain⟨z,hd,vs,d,n⟩:=G7 I.hok e;have p:vs.length<=Jv:=by rw[<-d.length];exact z
  have t:(putK kvs k v).length<=Jv:=by have:=gE kvs k v;omega
  refine wpAny_setItem_pairs (hsz:=p) (yX C) n fun J f x=>h _ ?_;have M:∃q,J.get? a=MA q:=let⟨q,_,_,i,_⟩:=f;⟨q,i⟩
  exact ly I (by rw[e];exact Mu) x M (Ep t hd (d.put k D) f)
 ·subst j m;cases (show u=KW b from C);obtain⟨z,hd,xs,d,n⟩:=G8 I.hok e;have p:xs.length<=Jv:=by rw[<-Paired.length d];exact z
  have t:(putK kvs k v).length<=Jv:=by have:=gE kvs k v;omega
  refine wpAny_setItem_heap (hsz:=p) (tupleKind_room_in1 L) (tU I.hok G) n fun J f x=>h _ ?_;obtain⟨q,N,O,i,P,R,S,_,T⟩:=f;refine ly I (by rw[e];exact Mu) x ⟨q,i⟩ ⟨t,hd,_,(d.put k G D).keeps fun c U K=>?_,q,N,O,i,P,R,S,T⟩;rw[bo (Gm K e (fun z=>nomatch z))];exact K
end
def Hl(i:o_):Prop:=∀a b,subscripted i MD a b=operate [a,b] (getItem a b)
def B3(ty c:TE):TE:=fun σ H Q=>ty σ H fun y H1=>c σ H1 fun x b=>∃a o,x=.ref a/\DO b a y o/\Q (.bl (!o.isSome)) b
def G0(c ty d:TE):TS:=fun D σ H=>d σ H fun v H1=>c σ H1 fun x e=>ty σ e fun y f=>∃a b,x=.ref a/\Ga f a y v b/\D.nx σ b
section
variable{X:Cx}{o i e value:o_}{pos pos' MU:Pos}{td ty tv:TE}
theorem wO(b:X.A.units+1<Ku)(c:PE X i ty)(d:PE X o td):PC X .NotIn i o (B3 ty td):=by intro MR s σ H Q I h;refine NO (c MR s σ H _ I h) fun v f ⟨y,H1,j,k,l⟩=>NO (d MR f σ H1 _ j l) fun u w ⟨x,m,n,p,a,q,ex,g,r⟩=>?_;subst ex;obtain rfl:u=KW a:=p;exact By b n g k fun z t=>⟨.bl (!q.isSome),m,t,rfl,r⟩
theorem BN(b:X.A.units+1<Ku)(c:PE X o td)(d:PE X i ty)(f:PE X value tv)(j:Mo value (MA (.Subscript o i pos')) pos.line X.env=pure MD) : PS X (.Assign [.Subscript o i pos'] value pos) (G0 td ty tv):=by intro MR s σ H D I h;refine wpAny_Assign_Subscript (NO (f MR s σ H _ I h) fun r k ⟨v,H1,l,m,n⟩=>NO (c MR k σ H1 _ l n) fun u p ⟨x,q,t,w,z⟩=>NO (d MR p σ q _ t z) fun J K ⟨y,L,B,C,a,E,ex,g,F⟩=>?_) j;subst ex;obtain rfl:u=KW a:=w;exact wy b B g C m fun M G=>⟨σ,E,G,F⟩
end
theorem yg{P:JL}{w:Kg}{H:Hp}(h:oT)(a:Li<h.objs.size):cR P w H (h.push { cls:=.type "dict",data:=.dict #[] }) h.objs.size (.dK []):=⟨Kj _,beq_eq_false_iff_ne.mpr (Ne.symm (K5 a)),[],.nil,Heap.DictOf.new h⟩
def C5:TE:=fun _ H Q=>∀p,H p=MB->Q (.ref p) (upd H p (.dK []))
section
variable{X:Cx}{pos:Pos}
theorem zb:PE X (.Dict [] [] pos) C5:=fun MR s σ H Q I h=>wpAny_Dict_empty ⟨.ref s.z,_,I.laid (a:=s.z) (o:=.dK []) (t':=s.toks) (fun _ _ q=>Jo _ q) (J9 _) (yg s.heap I.big),rfl,h _ (I.hok.fresh (J9 _))⟩
end
end L2
namespace SD
theorem BI{c:Type}{l:List c}(h:l.length=1):∃a,l=[a]:=by
 cases l with
 |nil=>cases h
 |cons a l=>
  cases l with
  |nil=>exact⟨a,rfl⟩
  |cons b l=>cases h
theorem Ey{b:Type}{n:Nat}{l:List b}(h:l.length=n+1):∃a r,l=a::r/\r.length=n:=by
 cases l with
 |nil=>cases h
 |cons a l=>exact⟨a,l,rfl,Nat.succ.inj h⟩
theorem yU{c:Type}{l:List c}(h:l.length=2):∃a b,l=[a,b]:=by obtain⟨a,r,rfl,d⟩:=Ey h;obtain⟨b,rfl⟩:=BI d;exact⟨a,b,rfl⟩
theorem Hy{d:Type}{l:List d}(h:l.length=3):∃a b c,l=[a,b,c]:=by obtain⟨a,r,rfl,e⟩:=Ey h;obtain⟨b,c,rfl⟩:=yU e;exact⟨a,b,c,rfl⟩
theorem IU{e:Type}{l:List e}(h:l.length=4):∃a b c d,l=[a,b,c,d]:=by obtain⟨a,r,rfl,f⟩:=Ey h;obtain⟨b,c,d,rfl⟩:=Hy f;exact⟨a,b,c,d,rfl⟩
open PySem PySem.Spec PyProof.Rows L2
inductive D where
 |non|bl (b:Bool)|int (i:Int)|str (x:Str)|ty (n:String)|ref (a:n_)|rol (ds:List D)|tup (ds:List D)
abbrev _root_.ry(g:Nat):SD.D:=.int (g:Int)
abbrev _root_.rx:=Option D
abbrev _root_.rv:=List D
abbrev _root_.rr:=List (rx)
def SU(K:J1)(H:Hp)(a:n_)(xs:ri):Prop:=
 (∃o,H a=MA (.frz o (.lst xs)))\/
  ∃(o:Obj) (b:Array J3) (n:Nat),K.lookup a=MA o/\o.cls=.type "list"/\o.dict=MB/\o.data=.seq b n/\b.size<=Jv/\Vals xs b.toList
theorem SU.sql{K:J1}{H:Hp}{a:n_}{xs:ri}(h:SU K H a xs):NX K H a xs:=by
 rcases h with h|h
 ·exact .inl (.inr h)
 ·exact .inr h
mutual
def Rep(K:J1)(H:Hp):D->V->Prop
 |.non,v=>v=.non
 |.bl b,v=>v=.bl b
 |.int i,v=>v=.int i
 |.str x,v=>v=.str x
 |.ty n,v=>v=.ty n
 |.ref a,v=>v=.ref a
 |.rol ds,v=>∃a xs,v=.ref a/\SU K H a xs/\aK K H ds xs
 |.tup ds,v=>∃a xs,v=.ref a/\N0 K H a xs/\aK K H ds xs
def aK(K:J1)(H:Hp):rv->ri->Prop
 |[],xs=>xs=[]
 |d::ds,xs=>∃x r,xs=x::r/\Rep K H d x/\aK K H ds r
end
structure NN(K:J1)(H H':Hp):Prop where
 t:∀a xs,N0 K H a xs->N0 K H' a xs
 f:∀a xs,SU K H a xs->SU K H' a xs
theorem NN.refl{K:J1}{H:Hp}:NN K H H:=⟨fun _ _ h=>h,fun _ _ h=>h⟩
theorem NN.trans{K:J1}{H H1 c:Hp}(a:NN K H H1)(b:NN K H1 c):NN K H c:=⟨fun x y h=>b.t x y (a.t x y h),fun x y h=>b.f x y (a.f x y h)⟩
theorem NN.put{K:J1}{H:Hp}{p:n_}{o:HO}(c:∀xs,H p≠MA (.tup xs))(b:∀u xs,H p≠MA (.frz u xs)):NN K H (upd H p o):=by
 refine⟨fun a xs h=>?_,fun a xs h=>?_⟩
 ·rcases h with(h|⟨u,h⟩)|h
  ·exact .inl (.inl (by rw[bo (by intro e;subst e;exact c _ h)];exact h))
  ·exact .inl (.inr ⟨u,by rw[bo (by intro e;subst e;exact b _ _ h)];exact h⟩)
  ·exact .inr h
 ·rcases h with⟨u,h⟩|h
  ·exact .inl ⟨u,by rw[bo (by intro e;subst e;exact b _ _ h)];exact h⟩
  ·exact .inr h
theorem NN.new{K:J1}{H:Hp}{p:n_}{o:HO}(h:H p=MB):NN K H (upd H p o):=.put (fun xs e=>by rw[h]at e;cases e) (fun u xs e=>by rw[h]at e;cases e)
theorem NN.lst{K:J1}{H:Hp}{p:n_}{o:HO}{xs:ri}(h:H p=MA (.lst xs)):NN K H (upd H p o):=.put (fun a e=>by rw[h]at e;cases e) (fun u a e=>by rw[h]at e;cases e)
mutual
theorem Rep.mono{K:J1}{H i:Hp}(g:NN K H i):∀{d:D} {v:V},Rep K H d v->Rep K i d v
 |.non,_,h=>h
 |.bl _,_,h=>h
 |.int _,_,h=>h
 |.str _,_,h=>h
 |.ty _,_,h=>h
 |.ref _,_,h=>h
 |.rol ds,_,h=>by
  rw[Rep]at h ⊢
  obtain⟨a,xs,e,b,c⟩:=h
  exact⟨a,xs,e,g.f _ _ b,aK.mono g c⟩
 |.tup ds,_,h=>by
  rw[Rep]at h ⊢
  obtain⟨a,xs,e,b,c⟩:=h
  exact⟨a,xs,e,g.t _ _ b,aK.mono g c⟩
theorem aK.mono{K:J1}{H b:Hp}(g:NN K H b):∀{a:rv} {xs:ri},aK K H a xs->aK K b a xs
 |[],_,h=>h
 |d::a,_,h=>by
  rw[aK]at h ⊢
  obtain⟨x,r,e,c,f⟩:=h
  exact⟨x,r,e,Rep.mono g c,aK.mono g f⟩
end
section
variable{K:J1}{H H':Hp}
theorem aK.nil:aK K H [] []:=by rw[aK]
theorem aK.cons{d:D}{c:rv}{x:V}{r:ri}(a:Rep K H d x)(b:aK K H c r):aK K H (d::c) (x::r):=by rw[aK];exact⟨x,r,rfl,a,b⟩
theorem aK.length:∀{a:rv} {xs:ri},aK K H a xs->a.length=xs.length
 |[],xs,h=>by rw[aK]at h;subst h;rfl
 |d::a,xs,h=>by
  rw[aK]at h
  obtain⟨x,r,rfl,_,b⟩:=h
  simp[aK.length b]
theorem aK.get:∀{a:rv} {xs:ri} {i:Nat} {d:D},aK K H a xs->a[i]?=MA d->∃x,xs[i]?=MA x/\Rep K H d x
 |[],_,_,_,_,e=>by simp at e
 |_::_,xs,0,_,h,e=>by
  rw[aK]at h
  obtain⟨x,r,rfl,b,_⟩:=h
  simp at e;subst e
  exact⟨x,rfl,b⟩
 |_::a,xs,i+1,d,h,e=>by
  rw[aK]at h
  obtain⟨x,r,rfl,_,c⟩:=h
  simpa using aK.get (i:=i) (d:=d) c ‹e›
theorem aK.set{d:D}{x:V}(a:Rep K H d x):∀{b:rv} {xs:ri} (i:Nat),aK K H b xs->aK K H (b.set i d) (xs.set i x)
 |[],_,_,h=>by rw[aK]at h;subst h;simp[aK.nil]
 |_::_,_,0,h=>by
  rw[aK]at h
  obtain⟨y,r,rfl,_,c⟩:=h
  exact .cons a c
 |_::b,_,i+1,h=>by
  rw[aK]at h
  obtain⟨y,r,rfl,e,c⟩:=h
  exact .cons e (aK.set a i c)
theorem aK.append:∀{a es:rv} {xs ys:ri},aK K H a xs->aK K H es ys->aK K H (a++es) (xs++ys)
 |[],_,_,_,h,k=>by rw[aK]at h;subst h;exact k
 |_::a,_,_,_,h,k=>by
  rw[aK]at h
  obtain⟨y,r,rfl,b,c⟩:=h
  exact .cons b (aK.append c k)
theorem aK.of_get:∀{c:rv} {xs:ri},c.length=xs.length->(∀(i:Nat) d x,c[i]?=MA d->xs[i]?=MA x->Rep K H d x)->aK K H c xs
 |[],[],_,_=>.nil
 |[],_::_,h,_=>by simp at h
 |_::_,[],h,_=>by simp at h
 |d::c,x::xs,h,k=>.cons (k 0 d x rfl rfl) (aK.of_get ‹h› fun i d x a b=>k (i+1) d x ‹a› ‹b›)
theorem aK.take{c:rv}{xs:ri}(n:Nat)(h:aK K H c xs):aK K H (c.take n) (xs.take n):=by
 refine .of_get (by simp[h.length]) fun i d x a b=>?_
 have f:i<n:=by
  rw[List.getElem?_take]at a;split at a
  ·assumption
  ·cases a
 rw[List.getElem?_take_of_lt f]at a b;obtain⟨y,e,r⟩:=h.get a;rw[e]at b;cases b;exact r
theorem aK.drop{c:rv}{xs:ri}(n:Nat)(h:aK K H c xs):aK K H (c.drop n) (xs.drop n):=by refine .of_get (by simp[h.length]) fun i d x a b=>?_;rw[List.getElem?_drop]at a b;obtain⟨y,e,r⟩:=h.get a;rw[e]at b;cases b;exact r
theorem jC:∀(ns:pq),aK K H (ns.map D.int) (ns.map V.int)
 |[]=>.nil
 |n::ns=>.cons (by rw[Rep]) (jC ns)
end
def Iq(a C:n_):oT->Prop:=fun h=>∃o,h.get? a=MA o/\o.cls=.ref C
inductive MO where
 |lst (ds:rv)|err (C:n_)
 |dct (n:Nat) (P:pq->Bool)
 |gen (A:J1->Hp->n_->Prop)
abbrev MH:=n_->Option MO
def rL(K:J1)(H:Hp)(a:n_):MO->Prop
 |.lst c=>∃xs,H a=MA (.lst xs)/\aK K H c xs
 |.err C=>H a=MA (.ext (Iq a C))
 |.dct n P=>∃kvs:List (List Key×V),H a=MA (.dT kvs)/\kvs.length<=n/\∀k:pq,(kvs.any fun d=>decide (d.1=k.map Sum.inl))=P k
 |.gen A=>A K H a/\H a≠MB/\∀b,NN K H b->b a=H a->A K b a
def NW(K:J1)(H:Hp)(M:MH):Prop:=∀a o,M a=MA o->rL K H a o
def az(M:MH)(a:n_)(o:MO):MH:=fun b=>if b=a then MA o else M b
theorem ag{M:MH}{a:n_}{o:MO}:az M a o a=MA o:=by unfold az;rw[MI rfl]
theorem au{M:MH}{a b:n_}{o:MO}(h:b≠a):az M a o b=M b:=by unfold az;rw[ME h]
theorem bW{M:MH}{a:n_}{o u:MO}:az (az M a o) a u=az M a u:=by funext b;unfold az;split<;>rfl
section
variable{K:J1}{H H':Hp}{M:MH}
theorem rL.some{a:n_}{o:MO}(h:rL K H a o):H a≠MB:=by
 cases o with
 |lst c=>
  obtain⟨xs,b,_⟩:=h
  rw[b];simp
 |err C=>rw[show H a=_ from h];simp
 |dct n P=>
  obtain⟨kvs,b,_⟩:=h
  rw[b];simp
 |gen A=>exact h.2.1
theorem NW.fresh(h:NW K H M){p:n_}(a:H p=MB):M p=MB:=by
 cases e:M p with
 |none=>rfl
 |some o=>exact absurd a (h p o e).some
theorem rL.iP{a:n_}{o:MO}(g:NN K H H')(e:H' a=H a)(h:rL K H a o):rL K H' a o:=by
 cases o with
 |lst i=>
  obtain⟨xs,b,c⟩:=h
  exact⟨xs,e.trans b,c.mono g⟩
 |err C=>exact e.trans h
 |dct n P=>
  obtain⟨kvs,b,c⟩:=h
  exact⟨kvs,e.trans b,c⟩
 |gen A=>exact⟨h.2.2 H' g e,fun z=>h.2.1 (by rw[<-e];exact z),fun d f e2=>h.2.2 d (g.trans f) (e2.trans e)⟩
theorem NW.new{p:n_}{o:HO}(h:NW K H M)(b:H p=MB):NW K (upd H p o) M:=fun a u e=>by
 have ne:a≠p:=fun z=>by subst z;rw[h.fresh b]at e;cases e
 exact(h a u e).iP (.new b) (bo ne)
theorem NW.nt{p:n_}{xs:ri}{b:rv}(h:NW K H M)(c:H p=MB)(r:aK K H b xs):NW K (upd H p (.lst xs)) (az M p (.lst b)):=fun a u e=>by
 by_cases ne:a=p
 ·subst ne;rw[ag]at e;cases e;exact⟨xs,bD,r.mono (.new c)⟩
 ·rw[au ne]at e;exact(h a u e).iP (.new c) (bo ne)
theorem NW.xf{p:n_}{xs ys:ri}{b:rv}(h:NW K H M)(c:H p=MA (.lst xs))(r:aK K H b ys):NW K (upd H p (.lst ys)) (az M p (.lst b)):=fun a u e=>by
 by_cases ne:a=p
 ·subst ne;rw[ag]at e;cases e;exact⟨ys,bD,r.mono (.lst c)⟩
 ·rw[au ne]at e;exact(h a u e).iP (.lst c) (bo ne)
theorem NW.sub{b:MH}(h:NW K H M)(s:∀a o,b a=MA o->M a=MA o):NW K H b:=fun a o e=>h a o (s a o e)
end
abbrev DS:=rr
structure Slots(K:J1)(H:Hp)(δ:DS)(σ:L2.St):Prop where
 len:δ.length=σ.length
 at':∀(i:Nat) d,δ[i]?=MA (MA d)->∃v,σ[i]?=MA (MA v)/\Rep K H d v
section
variable{K:J1}{H H':Hp}{δ:DS}{σ:L2.St}
theorem Slots.mono(g:NN K H H')(h:Slots K H δ σ):Slots K H' δ σ:=⟨h.len,fun i d e=>let⟨v,a,b⟩:=h.at' i d e;⟨v,a,b.mono g⟩⟩
theorem Slots.set{d:D}{v:V}(r:Rep K H d v)(i:Nat)(h:Slots K H δ σ):Slots K H (δ.set i (MA d)) (σ.set i (MA v)):=by
 refine⟨by simp[h.len],fun j e q=>?_⟩;rw[List.getElem?_set]at q;by_cases a:i=j
 ·subst a;rw[MI rfl]at q;by_cases b:i<δ.length
  ·rw[MI b]at q;cases q;exact⟨v,by rw[List.getElem?_set,MI rfl,MI (by rw[<-h.len];exact b)],r⟩
  ·rw[ME b]at q;cases q
 ·rw[ME a]at q;obtain⟨c,e1,e2⟩:=h.at' j e q;exact⟨c,by rw[List.getElem?_set,ME a];exact e1,e2⟩
theorem rP{N:ra}{a:rv}{vs:ri}(r:aK K H a vs):Slots K H (a.map MA++JJ (N.length-a.length) MB) (L2.start N vs):=by
 have c:=r.length;refine⟨by unfold L2.start;simp[c],fun i d e=>?_⟩;unfold L2.start;by_cases b:i<a.length
 ·rw[JO ‹b›,J6]at e;cases q:a[i]? with
  |none=>rw[q]at e;cases e
  |some f=>
   rw[q]at e;cases e
   obtain⟨x,e1,e2⟩:=r.get q
   refine⟨x,?_,e2⟩
   rw[JO (by simp;omega),J6,e1];rfl
 ·rw[Kc ‹b›,List.getElem?_replicate]at e;split at e<;>cases e
end
abbrev DK:=D->MH->Prop
abbrev TD:=DS->MH->DK->Prop
abbrev Nh:=DS->MH->(Bool->MH->Prop)->Prop
abbrev Nb:=DS->MH->(rv->MH->Prop)->Prop
structure EndsD where
 nx:DS->MH->Prop
 rt:DK
 bk:DS->MH->Prop:=fun _ _=>False
 ct:DS->MH->Prop:=fun _ _=>False
@[reducible] def EndsD.nxt(B:EndsD)(n:DS->MH->Prop):EndsD:={ B with nx:=n }
@[reducible] def EndsD.lp(B:EndsD)(w:DS->MH->Prop):EndsD:={ B with nx:=w,ct:=w,bk:=B.nx }
abbrev Nr:=EndsD->DS->MH->Prop
section
variable(K:J1)
def Fin(H:Hp)(R:DK)(Q:VK):Prop:=∀d b v a,NN K H a->Rep K a d v->NW K a b->R d b->Q v a
def BV(H:Hp)(R:Bool->MH->Prop)(Q:Bool->Hp->Prop):Prop:=∀b c a,NN K H a->NW K a c->R b c->Q b a
def FinA(H:Hp)(R:rv->MH->Prop)(Q:ri->Hp->Prop):Prop:=∀b c vs a,NN K H a->aK K a b vs->NW K a c->R b c->Q vs a
def lift(t:TD):TE:=fun σ H Q=>∃δ M R,Slots K H δ σ/\NW K H M/\t δ M R/\Fin K H R Q
def liftT(t:Nh):TT:=fun σ H Q=>∃δ M R,Slots K H δ σ/\NW K H M/\t δ M R/\BV K H R Q
def yA(t:Nb):TA:=fun σ H Q=>∃δ M R,Slots K H δ σ/\NW K H M/\t δ M R/\FinA K H R Q
structure Ob(H:Hp)(B:EndsD)(E:Ends):Prop where
 nx:∀δ M σ H',NN K H H'->Slots K H' δ σ->NW K H' M->B.nx δ M->E.nx σ H'
 rt:∀d M v H',NN K H H'->Rep K H' d v->NW K H' M->B.rt d M->E.rt v H'
 bk:∀δ M σ H',NN K H H'->Slots K H' δ σ->NW K H' M->B.bk δ M->E.bk σ H'
 ct:∀δ M σ H',NN K H H'->Slots K H' δ σ->NW K H' M->B.ct δ M->E.ct σ H'
def CF(t:Nr):TS:=fun E σ H=>∃δ M,Slots K H δ σ/\NW K H M/\∃B,Ob K H B E/\t B δ M
end
namespace Zq
@[scoped irreducible]def _root_.SD.DE(X:Cx)(e:o_)(t:TD):Prop:=PE X e (lift X.K t)
@[scoped irreducible]def _root_.SD.DT(X:Cx)(e:o_)(t:Nh):Prop:=PT X e (liftT X.K t)
@[scoped irreducible]def _root_.SD.DW(X:Cx)(e:o_)(t:Nh):Prop:=PW X e (liftT X.K t)
@[scoped irreducible]def _root_.SD.DA(X:Cx)(es:qb)(t:Nb):Prop:=PA X es (yA X.K t)
@[scoped irreducible]def _root_.SD.DSt(X:Cx)(st:oa)(t:Nr):Prop:=PS X st (CF X.K t)
@[scoped irreducible]def _root_.SD.DSs(X:Cx)(st:p_)(t:Nr):Prop:=P7 X st (CF X.K t)
end Zq
theorem bw{X:Cx}{e:o_}{t t':TE}(h:PE X e t)(k:∀σ H Q,t' σ H Q->t σ H Q):PE X e t':=fun MR s σ H Q I q=>h MR s σ H Q I (k σ H Q q)
theorem lV{X:Cx}{e:o_}{t t':TT}(h:PT X e t)(k:∀σ H Q,t' σ H Q->t σ H Q):PT X e t':=fun MR s σ H Q I q=>h MR s σ H Q I (k σ H Q q)
theorem yE{X:Cx}{e:o_}{t t':TT}(h:PW X e t)(k:∀σ H Q,t' σ H Q->t σ H Q):PW X e t':=fun a MR s σ H Q I q=>h a MR s σ H Q I (k σ H Q q)
theorem zM{X:Cx}{e:qb}{t t':TA}(h:PA X e t)(k:∀σ H Q,t' σ H Q->t σ H Q):PA X e t':=fun pos MR s σ H Q I q=>h pos MR s σ H Q I (k σ H Q q)
theorem dh{X:Cx}{e:oa}{t t':TS}(h:PS X e t)(k:∀D σ H,t' D σ H->t D σ H):PS X e t':=fun MR s σ H D I q=>h MR s σ H D I (k D σ H q)
theorem ui{X:Cx}{e:p_}{t t':TS}(h:P7 X e t)(k:∀D σ H,t' D σ H->t D σ H):P7 X e t':=fun MR s σ H D I q=>h MR s σ H D I (k D σ H q)
section
variable{K:J1}{H H1 H':Hp}
theorem Fin.go{R:DK}{Q:VK}(g:NN K H H1)(h:Fin K H R Q):Fin K H1 R Q:=fun d M v H' a=>h d M v H' (g.trans a)
theorem BV.go{R:Bool->MH->Prop}{Q:Bool->Hp->Prop}(g:NN K H H1)(h:BV K H R Q):BV K H1 R Q:=fun b M H' a=>h b M H' (g.trans a)
theorem Ob.go{B:EndsD}{E:Ends}(g:NN K H H1)(h:Ob K H B E):Ob K H1 B E:=⟨fun d M v H' a=>h.nx d M v H' (g.trans a),fun d M v H' a=>h.rt d M v H' (g.trans a),fun d M v H' a=>h.bk d M v H' (g.trans a),fun d M v H' a=>h.ct d M v H' (g.trans a)⟩
end
section
variable{X:Cx}
inductive RY(i:Nat)(δ:DS)(M:MH)(Q:DK):Prop
 |mk (d:D) (h:δ[i]?=MA (MA d)) (q:Q d M):RY i δ M Q
def S4(d:D):TD:=fun _ M Q=>Q d M
theorem dv(i:Nat){x:Str}{pos:Pos}(c:X.N[i]?=MA x:=by rfl)(f:Vj X.env.scope x:=by first|exact Or.inl rfl|exact Or.inr (Or.inl rfl)|exact Or.inr (Or.inr rfl))(hd:(x==("__debug__":Str))=MD:=by decide)
 (a:(x==("__classdict__":Str))=MD:=by decide):DE X (.Name x pos) (RY i):=
 bw (DM c f hd a) fun σ H Q g=>by
  obtain⟨δ,M,R,h,j,⟨d,e,r⟩,b⟩:=g
  obtain⟨v,e1,e2⟩:=h.at' i d e
  exact⟨v,e1,b d M v H .refl e2 j r⟩
theorem dc{e:o_}{v:V}{d:D}(h:PE X e (tC v))(r:∀H,Rep X.K H d v):DE X e (S4 d):=bw h fun σ H Q a=>by obtain⟨δ,M,R,f,c,q,b⟩:=a;exact(b d M v H .refl (r H) c q)
theorem ao{i j pos}:DE X (.Constant (.int i) j pos) (S4 (.int i)):=dc yY fun _=>by rw[Rep]
theorem mX{i j pos}:DE X (.Constant (.bool i) j pos) (S4 (.bl i)):=dc FP fun _=>by rw[Rep]
theorem gL{j pos}:DE X (.Constant .none j pos) (S4 .non):=dc DU fun _=>by rw[Rep]
theorem CN{x:Str}{n:String}{pos:Pos}(a:Gl X x)(b:X.mg x=MB)(c:Kp x=MA (.type n))(d:x≠"__name__":=by decide)(hd:(x==("__debug__":Str))=MD:=by decide):DE X (.Name x pos) (S4 (.ty n)):=dc (Am (v:=.ty n) a b c rfl d hd) fun _=>by rw[Rep]
end
abbrev Nl:=D->D->MH->DK->Prop
def oR(K:J1)(r:Nl):R2:=fun v u H Q=>∃x y M R,Rep K H x v/\Rep K H y u/\NW K H M/\r x y M R/\Fin K H R Q
def Nn(X:Cx)(f:J3->J3->Sem J3)(r:Nl):Prop:=Nd X f (oR X.K r)
def wH(r:Nl)(a b:TD):TD:=fun δ M Q=>a δ M fun x c=>b δ c fun y d=>r x y d Q
theorem iM{X:Cx}{f:J3->J3->Sem J3}{r c:R2}(h:Nd X f r)(k:∀x y H Q,c x y H Q->r x y H Q):Nd X f c:=fun MR s σ H x y v u Q I a b q=>h MR s σ H x y v u Q I a b (k _ _ _ _ q)
theorem kZ{K:J1}{r:Nl}{b c:TD}{σ:L2.St}{H:Hp}{Q:VK}(h:lift K (wH r b c) σ H Q):S3 (oR K r) (lift K b) (lift K c) σ H Q:=by obtain⟨δ,M,R,d,g,q,a⟩:=h;refine⟨δ,M,_,d,g,q,fun x i v H1 e j k l=>?_⟩;exact⟨δ,i,_,d.mono e,k,l,fun y m u s f n o p=>⟨x,y,m,R,j.mono f,n,o,p,a.go (e.trans f)⟩⟩
section
variable{X:Cx}{a b:o_}{ta tb:TD}{pos:Pos}
theorem aC{op:Operator}{r:Nl}(c:Nn X (LB op) r)(d:DE X a ta)(e:DE X b tb):DE X (.BinOp a op b pos) (wH r ta tb):=bw (GI c d e) fun _ _ _ h=>kZ h
theorem cg{op:CmpOp}{r:Nl}(c:Nn X (K4 op) r)(d:DE X a ta)(e:DE X b tb)(f:Mm op b=MD:=by exact zS _):DE X (.Compare a [op] [b] pos) (wH r ta tb):=bw (BO c d e f) fun _ _ _ h=>kZ h
inductive Qv(x:D)(M:MH)(Q:Bool->MH->Prop):Prop
 |mk (c:Bool) (h:x=.bl c) (q:Q c M):Qv x M Q
def tBD(t:TD):Nh:=fun δ M Q=>t δ M fun x c=>Qv x c Q
theorem oA{K:J1}{t:TD}{t':TE}(i:∀σ H Q,lift K t σ H Q->t' σ H Q){σ:L2.St}{H:Hp}{Q:Bool->Hp->Prop}(h:liftT K (tBD t) σ H Q):CI t' σ H Q:=by obtain⟨δ,M,R,j,k,q,f⟩:=h;refine i _ _ _ ⟨δ,M,_,j,k,q,fun x l v H1 m g n d=>?_⟩;obtain⟨c,e,o⟩:=d;subst e;rw[Rep]at g;exact⟨c,g,f c l H1 m n o⟩
theorem aL{op:CmpOp}{r:Nl}(c:Nn X (K4 op) r)(d:DE X a ta)(e:DE X b tb)(f:Mm op b=MD:=by exact zS _):DT X (.Compare a [op] [b] pos) (tBD (wH r ta tb)):=lV (As c d e f) fun _ _ _ h=>oA (fun _ _ _ h=>kZ h) h
theorem dC{e:o_}{t:TD}(h:DE X e t)(d:∀c,isTrue e X.env c=(do let v <-c;standAt e.pos;holding [v] (truthy v)):=by intro _;rfl):DT X e (tBD t):=
 lV (C7 h d) fun _ _ _ h=>oA (t':=lift X.K t) (fun _ _ _ h=>h) h
end
section
variable{X:Cx}{a b c:o_}{ta tb:TD}{tA MS:Nh}{rest:qb}{pos:Pos}
def Co(t u:Nh):Nh:=fun δ M Q=>t δ M fun c d=>if c=MC then u δ d Q else Q MD d
def GB(t u:Nh):Nh:=fun δ M Q=>t δ M fun c d=>if c=MC then Q MC d else u δ d Q
def iw(t:Nh):Nh:=fun δ M Q=>t δ M fun c d=>Q (!c) d
theorem eV(d:DT X a tA):DW X (.BoolOp .And [a] pos) tA:=Aw d
theorem tF(d:DT X a tA):DW X (.BoolOp .Or [a] pos) tA:=Dc d
theorem gG(j:DT X a tA)(k:DW X (.BoolOp .And (b::rest) pos) MS):DW X (.BoolOp .And (a::b::rest) pos) (Co tA MS):=
 yE (EF j k) fun σ H Q d=>by obtain⟨δ,M,R,h,l,q,e⟩:=d;exact(⟨δ,M,_,h,l,q,fun c m H1 g i f=>by
  cases c with
  |true=>rw[MI rfl]at f ⊢;exact⟨δ,m,R,h.mono g,i,f,e.go g⟩
  |false=>rw[ME JD]at f ⊢;exact e _ _ _ g i f⟩)
theorem uf(j:DT X a tA)(k:DW X (.BoolOp .Or (b::rest) pos) MS):DW X (.BoolOp .Or (a::b::rest) pos) (GB tA MS):=
 yE (Gw j k) fun σ H Q d=>by obtain⟨δ,M,R,h,l,q,e⟩:=d;exact(⟨δ,M,_,h,l,q,fun c m H1 g i f=>by
  cases c with
  |true=>rw[MI rfl]at f ⊢;exact e _ _ _ g i f
  |false=>rw[ME JD]at f ⊢;exact⟨δ,m,R,h.mono g,i,f,e.go g⟩⟩)
theorem mz{e:o_}{t:Nh}(h:DW X e t):DT X e t:=PW.pt h
theorem sf(f:DT X a tA):DT X (.UnaryOp .Not a pos) (iw tA):=lV (EX f) fun σ H Q d=>by obtain⟨δ,M,R,g,h,q,e⟩:=d;exact(⟨δ,M,_,g,h,q,fun c l H1 i j k=>e _ _ _ i j k⟩)
def xB(ta tb:TD):TD:=fun δ M Q=>ta δ M fun x d=>Qv x d fun c d=>if c=MC then tb δ d Q else Q (.bl MD) d
def Cd(ta tb:TD):TD:=fun δ M Q=>ta δ M fun x d=>Qv x d fun c d=>if c=MC then Q (.bl MC) d else tb δ d Q
def Fq(ta:TD):TD:=fun δ M Q=>ta δ M fun x d=>Qv x d fun c d=>Q (.bl (!c)) d
theorem sU{op}{t:TD}(h:DE X a t):DE X (.BoolOp op [a] pos) t:=Eb h
theorem xt(k:DE X a ta)(l:DE X (.BoolOp .And (b::rest) pos) tb):DE X (.BoolOp .And (a::b::rest) pos) (xB ta tb):=
 bw (Dx k l) fun σ H Q ⟨δ,M,R,h,m,q,d⟩=>⟨δ,M,_,h,m,q,fun x n v H1 g i j o=>by
  obtain⟨c,e,f⟩:=o
  subst e
  rw[Rep]at i
  refine⟨c,i,?_⟩
  cases c with
  |true=>rw[MI rfl]at f ⊢;exact⟨δ,n,R,h.mono g,j,f,d.go g⟩
  |false=>rw[ME JD]at f ⊢;exact d _ _ _ _ g (by rw[Rep]) j f⟩
theorem F6(k:DE X a ta)(l:DE X (.BoolOp .Or (b::rest) pos) tb):DE X (.BoolOp .Or (a::b::rest) pos) (Cd ta tb):=
 bw (FR k l) fun σ H Q ⟨δ,M,R,h,m,q,d⟩=>⟨δ,M,_,h,m,q,fun x n v H1 g i j o=>by
  obtain⟨c,e,f⟩:=o
  subst e
  rw[Rep]at i
  refine⟨c,i,?_⟩
  cases c with
  |true=>rw[MI rfl]at f ⊢;exact d _ _ _ _ g (by rw[Rep]) j f
  |false=>rw[ME JD]at f ⊢;exact⟨δ,n,R,h.mono g,j,f,d.go g⟩⟩
theorem Ek(h:DE X a ta):DE X (.UnaryOp .Not a pos) (Fq ta):=
 bw (DD h) fun σ H Q d=>by obtain⟨δ,M,R,i,j,q,f⟩:=d;exact(⟨δ,M,_,i,j,q,fun x o v H1 k g l m=>by
  obtain⟨c,e,n⟩:=m
  subst e
  rw[Rep]at g
  exact⟨c,g,f _ _ _ _ k (by rw[Rep]) l n⟩⟩)
def Ih(t:Nh)(ta tb:TD):TD:=fun δ M Q=>t δ M fun c d=>if c=MC then ta δ d Q else tb δ d Q
theorem j8(k:DT X c tA)(l:DE X a ta)(m:DE X b tb):DE X (.IfExp c a b pos) (Ih tA ta tb):=
 bw (Ai k l m) fun σ H Q d=>by obtain⟨δ,M,R,h,n,q,e⟩:=d;exact(⟨δ,M,_,h,n,q,fun c i H1 f j g=>by
  cases c with
  |true=>rw[MI rfl]at g ⊢;exact⟨δ,i,R,h.mono f,j,g,e.go f⟩
  |false=>rw[ME JD]at g ⊢;exact⟨δ,i,R,h.mono f,j,g,e.go f⟩⟩)
end
def HY(r:D->MH->DK->Prop)(a:TD):TD:=fun δ M Q=>a δ M fun x b=>r x b Q
def Cb(K:J1)(r:D->MH->DK->Prop):V->Hp->VK->Prop:=fun v H Q=>∃x M R,Rep K H x v/\NW K H M/\r x M R/\Fin K H R Q
theorem ko{X:Cx}{a:o_}{d:TD}{pos:Pos}{op:UnaryOp}{r:D->MH->DK->Prop}(e:Vk X (unaryOp op) (Cb X.K r))(f:DE X a d):DE X (.UnaryOp op a pos) (HY r d):=bw (FU e f) fun σ H Q b=>by obtain⟨δ,M,R,g,h,q,c⟩:=b;exact(⟨δ,M,_,g,h,q,fun x i v H1 j k l m=>⟨x,i,R,k,l,m,c.go j⟩⟩)
def CD:Nb:=fun _ M Q=>Q [] M
def EM(a:TD)(b:Nb):Nb:=fun δ M Q=>a δ M fun x c=>b δ c fun xs d=>Q (x::xs) d
section
variable{X:Cx}{e:o_}{es:qb}{te:TD}{t:Nb}{pos:Pos}
theorem ak:DA X [] CD:=zM EG fun σ H Q a=>by obtain⟨δ,M,R,d,c,q,b⟩:=a;exact(b _ _ _ _ .refl .nil c q)
theorem ae(g:DE X e te)(h:DA X es t)(b:JC (e::es) X.env=(MD,eval e X.env)::JC es X.env:=by rfl):DA X (e::es) (EM te t):=
 zM (BK g h b) fun σ H Q a=>by obtain⟨δ,M,R,b,i,q,c⟩:=a;exact(⟨δ,M,_,b,i,q,fun x j v H1 d k l m=>
  ⟨δ,j,_,b.mono d,l,m,fun xs r vs s f n o p=>c _ _ _ _ (d.trans f) (.cons (k.mono f) n) o p⟩⟩)
def GO(t:Nb):TD:=fun δ M Q=>t δ M fun xs a=>xs.length<=Jv/\Q (.tup xs) a
def GK(t:Nb):TD:=fun δ M Q=>t δ M fun xs a=>xs.length<=Jv/\∀p,a p=MB->Q (.ref p) (az a p (.lst xs))
theorem aI{x1}(h:DA X es t):DE X (.Tuple es x1 pos) (GO t):=bw (Ex h) fun σ H Q a=>by obtain⟨δ,M,R,g,i,q,c⟩:=a;exact(⟨δ,M,_,g,i,q,fun xs m vs H1 j f k b=>by obtain⟨z,l⟩:=b;exact(⟨by rw[<-f.length];exact z,fun p d=>c _ _ _ _ (j.trans (.new d)) (by rw[Rep];exact⟨p,vs,rfl,N0.of bD,f.mono (.new d)⟩) (k.new d) l⟩)⟩)
theorem aY(h:DA X es t):DE X (.List es pos) (GK t):=bw (En h) fun σ H Q a=>by obtain⟨δ,M,R,i,j,q,c⟩:=a;exact(⟨δ,M,_,i,j,q,fun xs m vs H1 k f g b=>by obtain⟨z,l⟩:=b;exact(⟨by rw[<-f.length];exact z,fun p d=>c _ _ _ _ (k.trans (.new d)) (by rw[Rep]) (g.nt d f) (l p (g.fresh d))⟩)⟩)
end
def ZL(X:Cx)(r:Nl):Prop:=QC X (oR X.K r)
theorem Dm{X:Cx}{r c:R2}(h:QC X r)(k:∀x y H Q,c x y H Q->r x y H Q):QC X c:=fun e1 e2 MR s σ H x y v u Q I a b q=>h e1 e2 MR s σ H x y v u Q I a b (k _ _ _ _ q)
theorem Fm{X:Cx}{a b:o_}{c d:TD}{pos:Pos}{r:Nl}(e:ZL X r)(f:DE X a c)(g:DE X b d)(i:pO b):DE X (.Subscript a b pos) (wH r c d):=bw (Fw e f g i) fun _ _ _ h=>kZ h
inductive YD(ds:rv)(i:Int)(M:MH)(Q:DK):Prop
 |mk (d:D) (h:atI ds i=MA d) (q:Q d M):YD ds i M Q
inductive YX(a:n_)(i:Int)(M:MH)(Q:DK):Prop
 |mk (ds:rv) (d:D) (h:M a=MA (.lst ds)) (q:atI ds i=MA d/\Q d M):YX a i M Q
def Dn:Nl:=fun x y M Q=>match x,y with
 |.tup ds,.int i=>YD ds i M Q
 |.rol ds,.int i=>YD ds i M Q
 |.ref a,.int i=>YX a i M Q
 |_,_=>False
theorem aK.atI{K:J1}{H:Hp}{a:rv}{xs:ri}{i:Int}{d:D}(h:aK K H a xs)(e:L2.atI a i=MA d):∃x,L2.atI xs i=MA x/\Rep K H d x:=by
 unfold L2.atI at e ⊢;rw[<-h.length];cases q:ixN a.length i with
 |none=>rw[q]at e;cases e
 |some j=>
  rw[q]at e
  exact h.get e
theorem vX{K:J1}{v u:V}{H:Hp}{Q:VK}(h:oR K Dn v u H Q):YJ K v u H Q:=by
 obtain⟨x,y,M,R,c,g,a,q,b⟩:=h;unfold Dn at q;split at q
 ·obtain⟨d,e,q⟩:=q;obtain rfl:u=.int _:=g;rw[Rep]at c;obtain⟨p,xs,rfl,i,f⟩:=c;obtain⟨x,e1,e2⟩:=f.atI e;exact .inr (.inl ⟨p,xs,_,x,rfl,rfl,i,e1,b _ _ _ _ .refl e2 a q⟩)
 ·obtain⟨d,e,q⟩:=q;obtain rfl:u=.int _:=g;rw[Rep]at c;obtain⟨p,xs,rfl,i,f⟩:=c;obtain⟨x,e1,e2⟩:=f.atI e;exact .inl ⟨p,xs,_,x,rfl,rfl,i.sql,e1,b _ _ _ _ .refl e2 a q⟩
 ·obtain⟨l,d,j,e,q⟩:=q;obtain rfl:u=.int _:=g;obtain rfl:v=.ref _:=c;obtain⟨xs,k,f⟩:=a _ _ j;obtain⟨x,e1,e2⟩:=f.atI e;exact .inl ⟨_,xs,_,x,rfl,rfl,NX.of k,e1,b _ _ _ _ .refl e2 a q⟩
 ·exact q.elim
theorem aB{X:Cx}{a b:o_}{c d:TD}{pos:Pos}(e:DE X a c)(f:DE X b d)(g:pO b:=by exact fun _ _=>rfl):DE X (.Subscript a b pos) (wH Dn c d):=Fm (Dm E7 fun _ _ _ _ h=>vX h) e f g
def Bd(n:Nat)(i:Int):Prop:=i.natAbs<2^n
instance(n:Nat)(i:Int):Decidable (Bd n i):=inferInstanceAs (Decidable (i.natAbs<2^n))
theorem Bd.mono{m n:Nat}{i:Int}(h:Bd m i)(l:m<=n):Bd n i:=JM h (Nat.pow_le_pow_right ⋯ l)
theorem Bd.bits{n:Nat}{i:Int}(h:Bd n i):Builtin.Int.intBits i<=n:=by
 unfold Builtin.Int.intBits;split
 ·exact Kj _
 ·rename_i hz;have a:i.natAbs≠0:=fun e=>hz ‹Int.natAbs_eq_zero.mp e›;exact(Nat.log2_lt a).mpr h
theorem Bd.log2{n:Nat}{i:Int}(h:Bd n i)(b:0<n):i.natAbs.log2<n:=by
 by_cases a:i.natAbs=0
 ·rw[a];simpa using b
 ·exact(Nat.log2_lt a).mpr h
theorem Bd.mul{m n:Nat}{i j:Int}(a:Bd m i)(b:Bd n j):Bd (m+n) (i*j):=by unfold Bd at *;rw[Int.natAbs_mul,Nat.pow_add];exact Nat.mul_lt_mul'' a b
theorem Bd.add{n:Nat}{i j:Int}(a:Bd n i)(b:Bd n j):Bd (n+1) (i+j):=by unfold Bd at *;rw[Nat.pow_succ];have:=Int.natAbs_add_le i j;omega
theorem Bd.sub{n:Nat}{i j:Int}(a:Bd n i)(b:Bd n j):Bd (n+1) (i-j):=by unfold Bd at *;rw[Nat.pow_succ];have:=Int.natAbs_sub_le i j;omega
theorem Bd.neg{n:Nat}{i:Int}(a:Bd n i):Bd n (-i):=by unfold Bd at *;rw[Int.natAbs_neg];exact a
theorem Bd.of_le{n:Nat}{i j:Int}(a:Bd n i)(b:j.natAbs<=i.natAbs):Bd n j:=Nat.lt_of_le_of_lt b a
theorem bS{n:Nat}{i:Int}(h:i.natAbs<2^64)(l:64<=n:=by decide):Bd n i:=Bd.mono (m:=64) h l
theorem fj{i j:Int}(a:Bd 1000000 i)(b:Bd 1000000 j):IntMulOk i j:=.of_bits (Kr a.bits ⋯) (Kr b.bits ⋯)
theorem bC{i j:Int}(a:Bd 64 i):IntMulOk i j:=.of_left a.bits
theorem pS{i j:Int}(a:Bd 64 j):IntMulOk i j:=.of_right a.bits
def Pr(C:Int->Int->Prop)(g:Int->Int->D):Nl:=fun x y M Q=>match x,y with
 |.int i,.int j=>C i j/\Q (g i j) M
 |_,_=>False
section
variable{X:Cx}
theorem dJ{f:J3->J3->Sem J3}{C:Int->Int->Prop}{g:Int->Int->V}{g':Int->Int->D}(h:Nd X f (rI C g))(e:∀i j H,Rep X.K H (g' i j) (g i j)):Nn X f (Pr C g'):=
 iM h fun v u H Q c=>by
  obtain⟨x,y,M,R,d,k,a,q,b⟩:=c
  unfold Pr at q
  split at q
  ·obtain rfl:v=.int _:=d
   obtain rfl:u=.int _:=k
   exact⟨_,_,rfl,rfl,q.1,b _ _ _ _ .refl (e _ _ _) a q.2⟩
  ·exact q.elim
theorem SH{f:J3->J3->Sem J3}{g:Int->Int->V}(h:Nd X f (RE g)):Nd X f (rI (fun _ _=>True) g):=iM h fun x y H Q c=>by obtain⟨i,j,a,b,_,q⟩:=c;exact(⟨i,j,a,b,q⟩)
def HC:Nl:=Pr (fun _ _=>True) fun i j=>.int (i-j)
def Ha:Nl:=Pr IntMulOk fun i j=>.int (i*j)
def ZM(i j:Int):Prop:=j≠0/\Bd 8000 j
def Jh:Nl:=Pr ZM fun i j=>.int (i.fdiv j)
def F4:Nl:=Pr (fun _ j=>j≠0) fun i j=>.int (i.fmod j)
def Hs:Nl:=Pr FD fun i j=>.int (i^j.toNat)
def IL:Nl:=Pr (fun _ _=>True) fun i j=>.bl (decide (i<j))
def I0:Nl:=Pr (fun _ _=>True) fun i j=>.bl (decide (i<=j))
def Ia:Nl:=Pr (fun _ _=>True) fun i j=>.bl (decide (j<i))
def IF:Nl:=Pr (fun _ _=>True) fun i j=>.bl (decide (j<=i))
theorem dF:Nn X (LB .Sub) HC:=dJ (SH DP) fun _ _ _=>by rw[Rep]
theorem aU:Nn X (LB .Mult) Ha:=dJ (WA fun _ _ _ _ _ _ _ a q=>mul_int q a) fun _ _ _=>by rw[Rep]
theorem fm:Nn X (LB .FloorDiv) Jh:=dJ (WA fun _ _ _ _ _ _ _ a q=>floordiv_int a.1 q (.inl (PyProof.noPylong_of_log2 (Nat.lt_trans (a.2.log2 ⋯) ⋯)))) fun _ _ _=>by rw[Rep]
theorem ft:Nn X (LB .Mod) F4:=dJ AK fun _ _ _=>by rw[Rep]
theorem iO:Nn X (LB .Pow) Hs:=dJ Fe fun _ _ _=>by rw[Rep]
theorem GX:Nn X (K4 .Lt) IL:=dJ (SH HJ) fun _ _ _=>by rw[Rep]
theorem Hv:Nn X (K4 .LtE) I0:=dJ (SH F9) fun _ _ _=>by rw[Rep]
theorem GR:Nn X (K4 .Gt) Ia:=dJ (SH FL) fun _ _ _=>by rw[Rep]
theorem xw:Nn X (K4 .GtE) IF:=dJ (SH GA) fun _ _ _=>by rw[Rep]
def Cz:D->MH->DK->Prop:=fun x M Q=>match x with
 |.int i=>Q (.int (-i)) M
 |_=>False
theorem eZ:Vk X (unaryOp .USub) (Cb X.K Cz):=fun MR s σ H x v Q I r b=>by obtain⟨d,M,R,e,a,q,c⟩:=b;exact(Dw MR s σ H x v Q I r (by
 unfold Cz at q
 split at q
 ·obtain rfl:x=.int _:=e;exact⟨_,rfl,c _ _ _ _ .refl (by rw[Rep]) a q⟩
 ·exact q.elim))
def Cu:Nl:=fun x y M Q=>match x,y with
 |.int i,.int j=>Q (.int (i+j)) M
 |.tup a,.tup b=>a≠[]/\a.length+b.length<=Jv/\Q (.tup (a++b)) M
 |.ref a,.ref b=>∃xs c,M a=MA (.lst xs)/\M b=MA (.lst c)/\xs.length+c.length<=Jv/\∀p,M p=MB->Q (.ref p) (az M p (.lst (xs++c)))
 |_,_=>False
theorem aO:Nn X (LB .Add) Cu:=iM (DJ.or (AH.or CZ)) fun v u H Q l=>by
 obtain⟨x,y,M,R,g,h,a,q,b⟩:=l;unfold Cu at q;split at q
 ·obtain rfl:v=.int _:=g;obtain rfl:u=.int _:=h;exact .inl ⟨_,_,rfl,rfl,b _ _ _ _ .refl (by rw[Rep]) a q⟩
 ·rename_i da db;obtain⟨m,n,q⟩:=q;rw[Rep]at g;obtain⟨p,xs,rfl,i,d⟩:=g;obtain⟨o,j,rfl,k,f⟩:∃a xs,u=V.ref a/\N0 X.K H a xs/\aK X.K H db xs:=by rw[Rep]at h;exact h
  have l1:=d.length;have l2:=f.length;refine .inr (.inl ⟨p,o,xs,j,rfl,rfl,i,k,?_,(),fun e=>?_,fun _ z c=>?_⟩)
  ·intro e;subst e;exact m (List.length_eq_zero_iff.mp ‹l1›)
  ·subst e;obtain rfl:db=[]:=List.length_eq_zero_iff.mp ‹l2›;exact b _ _ _ _ .refl (by rw[Rep,K8];exact⟨p,xs,rfl,i,d⟩) a q
  ·exact b _ _ _ _ (.new c) (by rw[Rep];exact⟨z,_,rfl,N0.of bD,(d.append f).mono (.new c)⟩) (a.new c) q
 ·obtain⟨r,s,e1,e2,n,q⟩:=q;obtain rfl:v=.ref _:=g;obtain rfl:u=.ref _:=h;obtain⟨xs,i,d⟩:=a _ _ e1;obtain⟨j,k,f⟩:=a _ _ e2;have l1:=d.length;have l2:=f.length;exact .inr (.inr ⟨_,_,xs,j,rfl,rfl,i,k,(),fun z c=>b _ _ _ _ (.new c) (by rw[Rep]) (a.nt c (d.append f)) (q z (a.fresh c))⟩)
 ·exact q.elim
end
mutual
inductive Pd(M:MH):D->Lz->Prop
 |non:Pd M .non .none
 |bl (b:Bool):Pd M (.bl b) (.bool b)
 |int (i:Int):Pd M (.int i) (.int i)
 |str (x:Str):Pd M (.str x) (.str x)
 |tup {ds:rv} {ps:List Lz}:Pg M ds ps->Pd M (.tup ds) (.tuple ps)
 |rol {ds:rv} {ps:List Lz}:Pg M ds ps->Pd M (.rol ds) (.list ps)
 |lst {a:n_} {ds:rv} {ps:List Lz}:M a=MA (.lst ds)->Pg M ds ps->Pd M (.ref a) (.list ps)
inductive Pg(M:MH):rv->List Lz->Prop
 |nil:Pg M [] []
 |cons {d:D} {ds:rv} {p:Lz} {ps:List Lz}:Pd M d p->Pg M ds ps->Pg M (d::ds) (p::ps)
end
mutual
def Qr:D->Option Lz
 |.non=>MA .none
 |.bl b=>MA (.bool b)
 |.int i=>MA (.int i)
 |.str x=>MA (.str x)
 |.tup a=>match sZ a with
  |some ps=>MA (.tuple ps)
  |none=>MB
 |_=>MB
def sZ:rv->Option (List Lz)
 |[]=>MA []
 |d::ds=>match Qr d,sZ ds with
  |some p,MA ps=>MA (p::ps)
  |_,_=>MB
end
mutual
theorem Pd.of{M:MH}:∀{d:D} {p:Lz},Qr d=MA p->Pd M d p
 |.non,p,h=>by rw[Qr]at h;cases h;exact .non
 |.bl b,p,h=>by rw[Qr]at h;cases h;exact .bl b
 |.int i,p,h=>by rw[Qr]at h;cases h;exact .int i
 |.str x,p,h=>by rw[Qr]at h;cases h;exact .str x
 |.ty _,p,h=>by simp[Qr]at h
 |.ref _,p,h=>by simp[Qr]at h
 |.rol _,p,h=>by simp[Qr]at h
 |.tup ds,p,h=>by
  rw[Qr]at h
  cases e:sZ ds with
  |none=>rw[e]at h;cases h
  |some ps=>rw[e]at h;cases h;exact .tup (Pg.of e)
theorem Pg.of{M:MH}:∀{a:rv} {ps:List Lz},sZ a=MA ps->Pg M a ps
 |[],ps,h=>by rw[sZ]at h;cases h;exact .nil
 |d::a,ps,h=>by
  rw[sZ]at h
  cases e1:Qr d with
  |none=>rw[e1]at h;cases h
  |some p=>
   cases e2:sZ a with
   |none=>rw[e1,e2]at h;cases h
   |some qs=>rw[e1,e2]at h;cases h;exact .cons (Pd.of e1) (Pg.of e2)
end
section
variable{X:Cx}{MR:pa}{σ:L2.St}{H:Hp}{s:J5}{M:MH}
mutual
theorem bP(I:Inv X MR σ H s)(q:NW X.K H M):∀{d:D} {p:Lz} {v:V} {u:J3},Pd M d p->Rep X.K H d v->L2.RelV v u->∃c,Reads s.heap u p c
 |_,_,_,_,.non,r,e=>by rw[Rep]at r;subst r;cases e;exact⟨_,.none⟩
 |_,_,_,_,.bl b,r,e=>by rw[Rep]at r;subst r;cases e;exact⟨_,.bool b⟩
 |_,_,_,_,.int i,r,e=>by rw[Rep]at r;subst r;obtain⟨t,rfl⟩:=e;exact⟨_,.int i t⟩
 |_,_,_,_,.str x,r,e=>by rw[Rep]at r;subst r;obtain⟨t,rfl⟩:=e;exact⟨_,.str x t⟩
 |_,_,_,_,.tup hp,r,e=>by
  rw[Rep]at r
  obtain⟨a,xs,rfl,w,f⟩:=r
  cases e
  obtain⟨g,h,⟨o,j,k,n,l⟩,_⟩:=I.tuple w
  obtain⟨c,m⟩:=gW I q hp f h
  exact⟨c,reads_tuple_at j k l ‹m›⟩
 |_,_,_,_,.rol hp,r,e=>by
  rw[Rep]at r
  obtain⟨a,xs,rfl,w,f⟩:=r
  cases e
  obtain⟨g,h,⟨o,n,j,k,_,l⟩,_⟩:=I.list w.sql
  obtain⟨c,m⟩:=gW I q hp f h
  exact⟨_,reads_list_at j k l ‹m›⟩
 |_,_,_,_,.lst ha hp,r,e=>by
  rw[Rep]at r
  subst r
  cases e
  obtain⟨xs,y,f⟩:=q _ _ ha
  obtain⟨g,h,⟨o,n,j,k,_,l⟩,_⟩:=I.list (NX.of y)
  obtain⟨c,m⟩:=gW I q hp f h
  exact⟨_,reads_list_at j k l ‹m›⟩
theorem gW(I:Inv X MR σ H s)(a:NW X.K H M):∀{b:rv} {ps:List Lz} {vs:ri} {us:List J3},Pg M b ps->aK X.K H b vs->Vals vs us->∃c,ReadsAll s.heap us ps c
 |_,_,_,_,.nil,r,e=>by rw[aK]at r;subst r;cases e;exact⟨_,.nil⟩
 |_,_,_,_,.cons h1 h2,r,e=>by
  rw[aK]at r
  obtain⟨x,r,rfl,d,f⟩:=r
  cases e with
  |cons e1 e2=>
   obtain⟨c,g⟩:=bP I a h1 d e1
   obtain⟨bs,h⟩:=gW I a h2 f e2
   exact⟨_,.cons g h⟩
end
end
inductive Qq(g:Bool->Bool)(x y:D)(M:MH)(Q:DK):Prop
 |mk (p q:Lz) (h1:Pd M x p) (h2:Pd M y q) (h3:KU p=MC) (h4:KU q=MC) (hq:Q (.bl (g (K3 p q))) M):Qq g x y M Q
def Gs:Nl:=fun x y M Q=>match x,y with
 |.int i,.int j=>Q (.bl (decide (i=j))) M
 |.bl i,.bl j=>Q (.bl (decide (i=j))) M
 |x,y=>Qq (fun b=>b) x y M Q
def BZ:Nl:=fun x y M Q=>match x,y with
 |.int i,.int j=>Q (.bl (!decide (i=j))) M
 |.bl i,.bl j=>Q (.bl (!decide (i=j))) M
 |x,y=>Qq (fun b=>!b) x y M Q
section
variable{X:Cx}
theorem Fo(d:X.A.units+64<Ku):Nn X (K4 .Eq) (Qq fun b=>b):=by intro MR s σ H v u t w Q I e f h;obtain⟨x,y,M,R,g,i,a,⟨p,q,j,k,l,m,n⟩,c⟩:=h;obtain⟨z,o⟩:=bP I a j g e;obtain⟨bs,r⟩:=bP I a k i f;exact eq_dataH o r l m d ⟨.bl _,H,I,rfl,c _ _ _ _ .refl (by rw[Rep]) a n⟩
theorem DY(d:X.A.units+64<Ku):Nn X (K4 .NotEq) (Qq fun b=>!b):=by intro MR s σ H v u t w Q I e f h;obtain⟨x,y,M,R,g,i,a,⟨p,q,j,k,l,m,n⟩,c⟩:=h;obtain⟨z,o⟩:=bP I a j g e;obtain⟨bs,r⟩:=bP I a k i f;exact ne_dataH o r l m d ⟨.bl _,H,I,rfl,c _ _ _ _ .refl (by rw[Rep]) a n⟩
theorem gZ{i j:Int}:(i==j)=decide (i=j):=by by_cases h:i=j<;>simp[h]
theorem qR{i j:Bool}:(i==j)=decide (i=j):=by cases i<;>cases j<;>rfl
theorem cQ(c:X.A.units+64<Ku):Nn X (K4 .Eq) Gs:=iM (Fo c) fun v u H Q d=>by
 obtain⟨x,y,M,R,e,f,a,q,b⟩:=d;refine⟨x,y,M,R,e,f,a,?_,b⟩;unfold Gs at q;split at q
 ·exact⟨_,_,.int _,.int _,rfl,rfl,by simpa[K3,gZ]using q⟩
 ·exact⟨_,_,.bl _,.bl _,rfl,rfl,by simpa[K3,qR]using q⟩
 ·exact q
theorem fh(c:X.A.units+64<Ku):Nn X (K4 .NotEq) BZ:=iM (DY c) fun v u H Q d=>by
 obtain⟨x,y,M,R,e,f,a,q,b⟩:=d;refine⟨x,y,M,R,e,f,a,?_,b⟩;unfold BZ at q;split at q
 ·exact⟨_,_,.int _,.int _,rfl,rfl,by simpa[K3,gZ]using q⟩
 ·exact⟨_,_,.bl _,.bl _,rfl,rfl,by simpa[K3,qR]using q⟩
 ·exact q
def YL(x y:D):Option Bool:=match y with
 |.non=>MA (match x with
  |.non=>MC
  |_=>MD)
 |.bl b=>MA (match x with
  |.bl a=>decide (a=b)
  |_=>MD)
 |_=>MB
inductive Rv(g:Bool->Bool)(x y:D)(M:MH)(Q:DK):Prop
 |mk (b:Bool) (h:YL x y=MA b) (q:Q (.bl (g b)) M):Rv g x y M Q
def IY:Nl:=Rv fun b=>b
def BQ:Nl:=Rv fun b=>!b
theorem ou{K:J1}{H:Hp}{x y:D}{b:Bool}{v u:V}{k l:J3}(h:YL x y=MA b)(g:Rep K H x v)(m:Rep K H y u)(i:L2.RelV v k)(j:L2.RelV u l):plainIs k l=MC/\(k==l)=b:=by
 have f:∀{c:J3} {d:Bool},l=c->MA d=MA b->plainIs k c=MC->(k==c)=d->plainIs k l=MC/\(k==l)=b:=fun e h p q=>by cases h;subst e;exact⟨p,q⟩
 cases y with
 |non=>
  rw[Rep]at m;subst m
  cases x<;>rw[Rep]at g
  case non=>subst g;cases (show k=Ms from i);exact f j h rfl rfl
  case bl=>subst g;cases (show k=Value.bool _ from i);exact f j h rfl rfl
  case int=>subst g;obtain⟨t,rfl⟩:=i;exact f j h rfl rfl
  case str=>subst g;obtain⟨t,rfl⟩:=i;exact f j h rfl rfl
  case ty=>subst g;cases i;exact f j h rfl rfl
  case ref=>subst g;cases i;exact f j h rfl rfl
  all_goals (obtain⟨a,xs,rfl,_⟩:=g;cases i;exact f j h rfl rfl)
 |bl c=>
  rw[Rep]at m;subst m
  cases x<;>rw[Rep]at g
  case non=>subst g;cases (show k=Ms from i);exact f j h rfl rfl
  case bl c'=>subst g;cases (show k=Value.bool _ from i);exact f j h rfl (by cases c<;>cases c'<;>rfl)
  case int=>subst g;obtain⟨t,rfl⟩:=i;exact f j h rfl rfl
  case str=>subst g;obtain⟨t,rfl⟩:=i;exact f j h rfl rfl
  case ty=>subst g;cases i;exact f j h rfl rfl
  case ref=>subst g;cases i;exact f j h rfl rfl
  all_goals (obtain⟨a,xs,rfl,_⟩:=g;cases i;exact f j h rfl rfl)
 |_=>cases h
theorem Ca:Nn X (K4 .Is) IY:=by intro MR s σ H v u j k Q I d f h;obtain⟨x,y,M,R,g,i,a,⟨b,e,q⟩,c⟩:=h;obtain⟨e1,e2⟩:=ou e g i d f;exact wpAny_is_plain e1 ⟨.bl b,H,I,by rw[e2];rfl,c _ _ _ _ .refl (by rw[Rep]) a q⟩
theorem zE:Nn X (K4 .IsNot) BQ:=by intro MR s σ H v u j k Q I d f h;obtain⟨x,y,M,R,g,i,a,⟨b,e,q⟩,c⟩:=h;obtain⟨e1,e2⟩:=ou e g i d f;exact wpAny_isNot_plain e1 ⟨.bl (!b),H,I,by rw[e2];rfl,c _ _ _ _ .refl (by rw[Rep]) a q⟩
end
abbrev RC:=rv->MH->DK->Prop
def Cq(K:J1)(r:RC):ri->Hp->VK->Prop:=fun vs H Q=>∃a M R,aK K H a vs/\NW K H M/\r a M R/\Fin K H R Q
def dO(X:Cx)(f:J3)(r:RC):Prop:=cv X f (Cq X.K r)
theorem cw{X:Cx}{f:J3}{r b:ri->Hp->VK->Prop}(h:cv X f r)(k:∀xs H Q,b xs H Q->r xs H Q):cv X f b:=fun MR s σ H xs us Q I a q=>h MR s σ H xs us Q I a (k _ _ _ q)
def Aq(r:RC)(t:Nb):TD:=fun δ M Q=>t δ M fun a b=>r a b Q
theorem uR{K:J1}{r:RC}{t:Nb}{σ:L2.St}{H:Hp}{Q:VK}(h:lift K (Aq r t) σ H Q):WM (Cq K r) (yA K t) σ H Q:=by obtain⟨δ,M,R,b,c,q,a⟩:=h;exact⟨δ,M,_,b,c,q,fun d e vs H1 f g i j=>⟨d,e,R,g,i,j,a.go f⟩⟩
section
variable{X:Cx}{x:Str}{p pos:Pos}{e:o_}{es:qb}{t:Nb}{id T:String}{r:RC}
theorem aN(c:dO X (.builtin id) r)(d:Gl X x)(f:X.mg x=MB)(g:Kp x=MA (.builtin id))(i:DA X (e::es) t)(j:x≠"__name__":=by decide)(a:(x==("__debug__":Str))=MD:=by decide) (k:JC (e::es) X.env=(MD,eval e X.env)::JC es X.env:=by rfl) (b:(L5 pos (JC es X.env)).any (·.1)=MD:=by rfl):DE X (.Call (.Name x p) (e::es) [] pos) (Aq r t):=bw (zT c d f g i j a k b) fun _ _ _ h=>uR h
theorem c9(c:dO X (.type T) r)(d:Gl X x)(f:X.mg x=MB)(g:Kp x=MA (.type T))(i:DA X (e::es) t)(j:x≠"__name__":=by decide)(a:(x==("__debug__":Str))=MD:=by decide) (k:JC (e::es) X.env=(MD,eval e X.env)::JC es X.env:=by rfl) (b:(L5 pos (JC es X.env)).any (·.1)=MD:=by rfl):DE X (.Call (.Name x p) (e::es) [] pos) (Aq r t):=bw (vW c d f g i j a k b) fun _ _ _ h=>uR h
theorem cA{K:J1}{H:Hp}{d:D}{vs:ri}(h:aK K H [d] vs):∃v,vs=[v]/\Rep K H d v:=by rw[aK]at h;obtain⟨x,r,rfl,b,a⟩:=h;rw[aK]at a;subst a;exact⟨x,rfl,b⟩
theorem eU{K:J1}{H:Hp}{d e:D}{vs:ri}(h:aK K H [d,e] vs):∃v u,vs=[v,u]/\Rep K H d v/\Rep K H e u:=by rw[aK]at h;obtain⟨x,r,rfl,a,b⟩:=h;obtain⟨u,rfl,c⟩:=cA b;exact⟨x,u,rfl,a,c⟩
def HW:RC:=fun a M Q=>match a with
 |[.int i]=>Q (.int (i.natAbs:Int)) M
 |_=>False
theorem pE:dO X (.builtin "abs") HW:=cw xV fun vs H Q f=>by
 obtain⟨b,M,R,g,a,q,c⟩:=f;rcases b with _|⟨d,b⟩
 ·exact JR q
 cases d<;>rcases b with _|⟨e,b⟩<;>try exact JR q
 ·rename_i i;obtain⟨v,rfl,r⟩:=cA g;rw[Rep]at r;subst r;have e:(if i<0 then -i else i)=(i.natAbs:Int):=by split<;>omega
  exact⟨_,rfl,c _ _ _ _ .refl (by rw[Rep,e]) a q⟩
def IA:RC:=fun a M Q=>match a with
 |[.int i,.int j]=>Q (.int (max i j)) M
 |_=>False
def Ji:RC:=fun a M Q=>match a with
 |[.int i,.int j]=>Q (.int (min i j)) M
 |_=>False
theorem EY(h:X.calm=MC):dO X (.builtin "max") IA:=cw (wk h) fun vs H Q k=>by
 obtain⟨b,M,R,l,a,q,c⟩:=k;rcases b with _|⟨d,b⟩
 ·exact JR q
 cases d<;>rcases b with _|⟨e,b⟩<;>try exact JR q
 all_goals (cases e<;>rcases b with _|⟨f,b⟩<;>try exact JR q)
 ·rename_i i j;obtain⟨v,u,rfl,r,g⟩:=eU l;rw[Rep]at r;subst r;have m:u=.int j:=by rw[Rep]at g;exact g
  subst m;have e:(if j>i then j else i)=max i j:=by split<;>omega
  exact⟨_,_,rfl,c _ _ _ _ .refl (by rw[Rep,e]) a q⟩
theorem C3(h:X.calm=MC):dO X (.builtin "min") Ji:=cw (we h) fun vs H Q k=>by
 obtain⟨b,M,R,l,a,q,c⟩:=k;rcases b with _|⟨d,b⟩
 ·exact JR q
 cases d<;>rcases b with _|⟨e,b⟩<;>try exact JR q
 all_goals (cases e<;>rcases b with _|⟨f,b⟩<;>try exact JR q)
 ·rename_i i j;obtain⟨v,u,rfl,r,g⟩:=eU l;rw[Rep]at r;subst r;have m:u=.int j:=by rw[Rep]at g;exact g
  subst m;have e:(if j<i then j else i)=min i j:=by split<;>omega
  exact⟨_,_,rfl,c _ _ _ _ .refl (by rw[Rep,e]) a q⟩
def Je:RC:=fun a M Q=>match a with
 |[.tup xs]=>Q (.int (xs.length:Int)) M
 |[.rol xs]=>Q (.int (xs.length:Int)) M
 |[.ref l]=>∃xs,M l=MA (.lst xs)/\Q (.int (xs.length:Int)) M
 |_=>False
theorem cS:dO X (.builtin "len") Je:=cw oK fun vs H Q i=>by
 obtain⟨g,M,R,h,a,q,b⟩:=i;rcases g with _|⟨d,g⟩
 ·exact JR q
 cases d<;>rcases g with _|⟨e,g⟩<;>try exact JR q
 ·obtain⟨v,rfl,r⟩:=cA h;rw[Rep]at r;subst r;obtain⟨xs,e,q⟩:=q;obtain⟨j,c,f⟩:=a _ _ e;exact⟨_,j,rfl,.inl (NX.of c),b _ _ _ _ .refl (by rw[Rep,f.length]) a q⟩
 ·obtain⟨v,rfl,r⟩:=cA h;rw[Rep]at r;obtain⟨l,xs,rfl,c,f⟩:=r;exact⟨l,xs,rfl,.inl c.sql,b _ _ _ _ .refl (by rw[Rep,f.length]) a q⟩
 ·obtain⟨v,rfl,r⟩:=cA h;rw[Rep]at r;obtain⟨l,xs,rfl,c,f⟩:=r;exact⟨l,xs,rfl,.inr c,b _ _ _ _ .refl (by rw[Rep,f.length]) a q⟩
def C8:RC:=fun a M Q=>match a with
 |[.tup xs]=>Q (.tup xs) M
 |[.rol xs]=>Q (.tup xs) M
 |[.ref l]=>∃xs,M l=MA (.lst xs)/\Q (.tup xs) M
 |_=>False
theorem ze:dO X (.type "tuple") C8:=cw nH fun vs H Q k=>by
 obtain⟨h,M,R,i,a,q,b⟩:=k;rcases h with _|⟨d,h⟩
 ·exact JR q
 cases d<;>rcases h with _|⟨e,h⟩<;>try exact JR q
 ·obtain⟨v,rfl,r⟩:=cA i;rw[Rep]at r;subst r;obtain⟨xs,e,q⟩:=q;obtain⟨j,f,g⟩:=a _ _ e;exact⟨_,j,rfl,.inl ⟨NX.of f,fun p c=>b _ _ _ _ (.new c) (by rw[Rep];exact⟨p,j,rfl,N0.of bD,g.mono (.new c)⟩) (a.new c) q⟩⟩
 ·obtain⟨v,rfl,r⟩:=cA i;rw[Rep]at r;obtain⟨l,xs,rfl,f,g⟩:=r;exact⟨l,xs,rfl,.inl ⟨f.sql,fun p c=>b _ _ _ _ (.new c) (by rw[Rep];exact⟨p,xs,rfl,N0.of bD,g.mono (.new c)⟩) (a.new c) q⟩⟩
 ·obtain⟨v,rfl,r⟩:=cA i;rw[Rep]at r;obtain⟨l,xs,rfl,f,g⟩:=r;exact⟨l,xs,rfl,.inr ⟨f,b _ _ _ _ .refl (by rw[Rep];exact⟨l,xs,rfl,f,g⟩) a q⟩⟩
def Hu:RC:=fun a M Q=>match a with
 |[.int i]=>Q (.int i) M
 |[.bl k]=>Q (.int (if k=MC then 1 else 0)) M
 |_=>False
theorem j6:dO X (.type "int") Hu:=cw vT fun vs H Q g=>by
 obtain⟨c,M,R,f,a,q,b⟩:=g;rcases c with _|⟨d,c⟩
 ·exact JR q
 cases d<;>rcases c with _|⟨e,c⟩<;>try exact JR q
 ·obtain⟨v,rfl,r⟩:=cA f;rw[Rep]at r;subst r;exact .inr ⟨_,rfl,b _ _ _ _ .refl (by rw[Rep]) a q⟩
 ·obtain⟨v,rfl,r⟩:=cA f;rw[Rep]at r;subst r;exact .inl ⟨_,rfl,b _ _ _ _ .refl (by rw[Rep]) a q⟩
def Y4:D->Option String
 |.non=>MA "NoneType"
 |.bl _=>MA "bool"
 |.int _=>MA "int"
 |.str _=>MA "str"
 |.tup _=>MA "tuple"
 |.rol _=>MA "list"
 |_=>MB
def pI(K:J1):RC:=fun a M Q=>match a with
 |[x,.ty n]=>∃t b,Y4 x=MA t/\PySem.W.kitOne K (.type t) (.type n)=MA b/\Q (.bl b) M
 |_=>False
theorem vS:dO X (.builtin "isinstance") (pI X.K):=by
 intro MR s σ H vs us Q I A B;obtain⟨F,M,R,C,a,q,g⟩:=B;unfold pI at q;split at q
 ·rename_i x n;obtain⟨v,u,rfl,r,w⟩:=eU C;rw[Rep]at w;subst w;obtain⟨f,D,rfl,c,E⟩:=vals2 A;cases (show D=Value.type n from E);obtain⟨t,b,d,e,q⟩:=q;have h:∀i,EP X MR σ Q (.bool b) { s with toks:=i }:=fun i=>⟨.bl b,H,I.tok i,rfl,g _ _ _ _ .refl (by rw[Rep]) a q⟩;cases x with
  |non=>cases d;rw[Rep]at r;subst r;cases (show f=Ms from c);exact Mh PySem.W.kitx_none I.kIn Mu e (fun z=>nomatch z) h
  |bl y=>cases d;rw[Rep]at r;subst r;cases (show f=Value.bool y from c);exact Mh PySem.W.kitx_bool I.kIn Mu e (fun z=>nomatch z) h
  |int y=>cases d;rw[Rep]at r;subst r;obtain⟨t,q⟩:=(show ∃t,f=Value.int y t from c);cases q;exact Mh PySem.W.kitx_int I.kIn Mu e (fun z=>nomatch z) h
  |str y=>cases d;rw[Rep]at r;subst r;obtain⟨t,q⟩:=(show ∃t,f=Value.str y t from c);cases q;exact Mh PySem.W.kitx_str I.kIn Mu e (fun z=>nomatch z) h
  |tup y=>
   cases d;rw[Rep]at r
   obtain⟨p,xs,rfl,j,_⟩:=r
   cases (show f=KW p from c)
   obtain⟨k,_,⟨o,l,m,_⟩,_⟩:=I.tuple j
   exact Mh PySem.W.kitx_tuple I.kIn ⟨o,l,m⟩ e (fun z=>nomatch z) h
  |rol y=>
   cases d;rw[Rep]at r
   obtain⟨p,xs,rfl,j,_⟩:=r
   cases (show f=KW p from c)
   obtain⟨k,_,⟨o,n,l,m,_⟩,_⟩:=I.list j.sql
   exact Mh PySem.W.kitx_list I.kIn ⟨o,l,m⟩ e (fun z=>nomatch z) h
  |_=>cases d
 ·exact q.elim
end
abbrev Pc:=D->DS->MH->(DS->MH->Prop)->Prop
abbrev tX:=rv->DS->MH->(DS->MH->Prop)->Prop
section
variable(K:J1)
def zi(H:Hp)(R:DS->MH->Prop)(Q:L2.St->Hp->Prop):Prop:=∀a d b c,NN K H c->Slots K c a b->NW K c d->R a d->Q b c
def FV(t:Pc):TG:=fun v σ H Q=>∃d δ M R,Rep K H d v/\Slots K H δ σ/\NW K H M/\t d δ M R/\zi K H R Q
def Dt(t:tX):RN:=fun vs σ H Q=>∃a δ M R,aK K H a vs/\Slots K H δ σ/\NW K H M/\t a δ M R/\zi K H R Q
end
theorem zi.go{K:J1}{H H1:Hp}{R:DS->MH->Prop}{Q:L2.St->Hp->Prop}(g:NN K H H1)(h:zi K H R Q):zi K H1 R Q:=fun d M v a b=>h d M v a (g.trans b)
namespace Zq
@[scoped irreducible]def _root_.SD.DG(X:Cx)(e:o_)(t:Pc):Prop:=PG X e (FV X.K t)
@[scoped irreducible]def _root_.SD.DGs(X:Cx)(es:qb)(t:tX):Prop:=Ry X es (Dt X.K t)
end Zq
theorem sI{X:Cx}{e:o_}{t t':TG}(h:PG X e t)(k:∀v σ H Q,t' v σ H Q->t v σ H Q):PG X e t':=fun MR s σ H v u Q I r q=>h MR s σ H v u Q I r (k _ _ _ _ q)
theorem vh{X:Cx}{e:qb}{t t':RN}(h:Ry X e t)(k:∀v σ H Q,t' v σ H Q->t v σ H Q):Ry X e t':=fun MR s σ H v u Q I r q=>h MR s σ H v u Q I r (k _ _ _ _ q)
section
variable{X:Cx}{pos:Pos}
def aR(i:Nat):Pc:=fun d δ M Q=>Q (δ.set i (MA d)) M
theorem aE(i:Nat){x:Str}(e:X.N.Nodup)(f:X.N[i]?=MA x:=by rfl)(g:Loc X.env.scope x:=by first|exact Or.inl rfl|exact Or.inr rfl)(hf:X.fn x=MC\/X.env.scope.names.lookup x=MA .local:=by first|exact .inl rfl|exact .inr rfl|assumption):DG X (.Name x pos) (aR i):=sI (vm e f g hf) fun v σ H Q b=>by obtain⟨d,δ,M,R,r,h,a,q,c⟩:=b;exact(c _ _ _ _ .refl (h.set r i) a q)
def Ho:tX:=fun a δ M Q=>a=[]/\Q δ M
inductive Qs(t:Pc)(u:tX)(ds:rv)(δ:DS)(M:MH)(Q:DS->MH->Prop):Prop
 |mk (d:D) (r:rv) (h:ds=d::r) (q:t d δ M fun δ' M'=>u r δ' M' Q):Qs t u ds δ M Q
theorem bj:DGs X [] Ho:=vh uK fun vs σ H Q d=>by obtain⟨g,δ,M,R,c,f,a,⟨e,q⟩,b⟩:=d;subst e;rw[aK]at c;exact⟨c,b _ _ _ _ .refl f a q⟩
theorem aF{e:o_}{es:qb}{t:Pc}{u:tX}(i:DG X e t)(j:DGs X es u) (b:(Mn (e::es) X.env).map (·.2)=Mp e X.env::(Mn es X.env).map (·.2):=by rfl):DGs X (e::es) (Qs t u):=vh (mE i j b) fun vs σ H Q k=>by obtain⟨w,δ,M,R,g,b,a,⟨d,r,e,q⟩,c⟩:=k;subst e;rw[aK]at g;obtain⟨x,xs,rfl,l,m⟩:=g;exact⟨x,xs,rfl,d,δ,M,_,l,b,a,q,fun f n o y h p s v=>⟨r,f,n,R,m.mono h,p,s,v,c.go h⟩⟩
inductive Ri(n:Nat)(t:tX)(d:D)(δ:DS)(M:MH)(Q:DS->MH->Prop):Prop
 |mk (ds:rv) (h:d=.tup ds) (q:ds.length=n/\t ds δ M Q):Ri n t d δ M Q
theorem bM{es:qb}{k:Nat}{t:tX}{n:Nat}(g:X.calm=MC)(h:DGs X es t) (i:(Mn es X.env).length=n:=by rfl) (b:(Mn es X.env).findIdx? (·.1)=MB:=by rfl):DG X (.Tuple es k pos) (Ri n t):=sI (z5 g h i b) fun v σ H Q j=>by obtain⟨d,δ,M,R,r,l,a,⟨m,e,o,q⟩,c⟩:=j;subst e;rw[Rep]at r;obtain⟨p,xs,rfl,s,f⟩:=r;exact⟨p,xs,rfl,s,by rw[<-f.length];exact o,m,δ,M,R,f,l,a,q,c⟩
def Cy:D->D->D->MH->(MH->Prop)->Prop:=fun o i v M Q=>match o,i with
 |.ref p,.int k=>∃a j,M p=MA (.lst a)/\ixN a.length k=MA j/\Q (az M p (.lst (a.set j v)))
 |_,_=>False
def Hn(a b:TD):Pc:=fun v δ M Q=>a δ M fun o c=>b δ c fun i d=>Cy o i v d fun e=>Q δ e
theorem l6{o i:o_}{k l:TD}(t:DE X o k)(u:DE X i l)
 (w:∀v,Mp (.Subscript o i pos) X.env v=(do
  let ov <-holding [v] (eval o X.env)
  let iv <-holding [v,ov] (eval i X.env)
  standAt pos
  holding [v,ov,iv] (setItem ov iv v)
  release [v,ov,iv] []):=by intro _;rfl):DG X (.Subscript o i pos) (Hn k l):=
 sI (E8 t u set_list w) fun v σ H Q x=>by
  obtain⟨d,δ,M,R,r,e,a,q,f⟩:=x
  exact⟨δ,M,_,e,a,q,fun o y z H1 c A B C=>⟨δ,y,_,e.mono c,B,C,fun i F D m g E n b=>by
   unfold Cy at b
   split at b
   ·obtain⟨G,j,e1,e2,b⟩:=b
    obtain rfl:z=.ref _:=A
    obtain rfl:D=.int _:=E
    obtain⟨xs,h,p⟩:=n _ _ e1
    refine⟨_,xs,_,j,rfl,rfl,h,by rw[<-p.length];exact e2,?_⟩
    have s:NN X.K m (upd m _ (.lst (xs.set j v))):=.lst h
    exact f _ _ _ _ ((c.trans g).trans s) (e.mono ((c.trans g).trans s)) (n.xf h (p.set (r.mono (c.trans g)) j)) b
   ·exact b.elim⟩⟩
end
section
variable{X:Cx}{pos:Pos}{st:oa}{rest:p_}{t u:Nr}
def dG:Nr:=fun B δ M=>B.nx δ M
def gP(t u:Nr):Nr:=fun B δ M=>t (B.nxt (u B)) δ M
theorem aS:DSs X [] dG:=ui BU fun E σ H b=>by obtain⟨δ,M,c,a,B,ok,q⟩:=b;exact(ok.nx _ _ _ _ .refl c a q)
theorem aq(d:DSt X st t)(e:DSs X rest u):DSs X (st::rest) (gP t u):=ui (Ad d e) fun E σ H b=>by obtain⟨δ,M,f,a,B,ok,q⟩:=b;exact(⟨δ,M,f,a,B.nxt (u B),⟨fun c h i m g j k l=>⟨c,h,j,k,B,ok.go g,l⟩,ok.rt,ok.bk,ok.ct⟩,q⟩)
theorem av(a:DSt X st t):DSs X [st] t:=Az a
def Bp:Nr:=fun _ _ _=>False
theorem yw:DSt X st Bp:=dh zm fun E σ H b=>by obtain⟨δ,M,c,a,B,ok,q⟩:=b;exact(q.elim)
def fu(te:TD):Nr:=fun B δ M=>te δ M fun _ a=>B.nx δ a
theorem bI{e:o_}{te:TD}(g:DE X e te)(c:Mo e MB pos.line X.env=pure MD:=by rfl):DSt X (.Expr e pos) (fu te):=dh (Bl g c) fun E σ H b=>by obtain⟨δ,M,c,a,B,ok,q⟩:=b;exact(⟨δ,M,_,c,a,q,fun d j v H1 f k h i=>ok.nx _ _ _ _ f (c.mono f) h i⟩)
def iF(te:TD):Nr:=fun B δ M=>te δ M B.rt
theorem aH{e:o_}{te:TD}(c:DE X e te):DSt X (.Return (MA e) pos) (iF te):=dh (Em c) fun E σ H b=>by obtain⟨δ,M,f,a,B,ok,q⟩:=b;exact(⟨δ,M,_,f,a,q,fun d k v H1 g h i j=>ok.rt _ _ _ _ g h i j⟩)
def iG(c:Nh)(t u:Nr):Nr:=fun B δ M=>c δ M fun b a=>if b=MC then t B δ a else u B δ a
theorem bF{c:o_}{a b:p_}{tc:Nh}(j:DT X c tc)(k:DSs X a t)(l:DSs X b u):DSt X (.If c a b pos) (iG tc t u):=
 dh (Gn j k l) fun E σ H d=>by obtain⟨δ,M,g,a,B,ok,q⟩:=d;exact(⟨δ,M,_,g,a,q,fun c h H1 e i f=>by
  cases c with
  |true=>rw[MI rfl]at f ⊢;exact⟨δ,h,g.mono e,i,B,ok.go e,f⟩
  |false=>rw[ME JD]at f ⊢;exact⟨δ,h,g.mono e,i,B,ok.go e,f⟩⟩)
def eD(te:TD)(g:Pc):Nr:=fun B δ M=>te δ M fun d a=>g d δ a B.nx
theorem cu{tg e:o_}{te:TD}{g:Pc}(h:DE X e te)(i:DG X tg g)(c:swapsWithSole [tg] e pos.line X.env=pure MD:=by rfl)(hw:swappedStores [tg] e X.env=pure MB:=by rfl)
 (j:(Mn [tg] X.env).map (·.2)=[Mp tg X.env]:=by rfl):DSt X (.Assign [tg] e pos) (eD te g):=
 dh (C4 h i c hw j) fun E σ H b=>by obtain⟨δ,M,c,a,B,ok,q⟩:=b;exact(⟨δ,M,_,c,a,q,fun d k v H1 f l m n=>
  ⟨d,δ,k,B.nx,l,c.mono f,m,n,fun o y p z r s w x=>ok.nx _ _ _ _ (f.trans r) s w x⟩⟩)
theorem aD(i:Nat){x:Str}{e:o_}{te:TD}{c:Pos}(h:X.N.Nodup)(j:DE X e te)(k:X.N[i]?=MA x:=by rfl)(l:Loc X.env.scope x:=by first|exact Or.inl rfl|exact Or.inr rfl)(f:Mo e (MA (.Name x c)) pos.line X.env=pure MD:=by rfl) (hf:X.fn x=MC\/X.env.scope.names.lookup x=MA .local:=by first|exact .inl rfl|exact .inr rfl|assumption):DSt X (.Assign [.Name x c] e pos) (eD te (aR i)):=dh (Dd h k l j f hf) fun E σ H b=>by obtain⟨δ,M,f,a,B,ok,q⟩:=b;exact(⟨δ,M,_,f,a,q,fun d p v H1 g m n o=>ok.nx _ _ _ _ g ((f.mono g).set m i) n o⟩)
def FQ(i j:Nat)(a:Nb):Nr:=fun B δ M=>a δ M fun b c=>∃d e,b=[d,e]/\B.nx ((δ.set i (MA d)).set j (MA e)) c
theorem gg(i j:Nat){x y:Str}{a b:o_}{o:Nb}{h k pt:Pos}{l m f}(r:X.calm=MC)(s:X.N.Nodup)(w:DA X [a,b] o)(n:i≠j:=by decide)(A:X.N[i]?=MA x:=by rfl)(C:X.N[j]?=MA y:=by rfl)
 (D:X.env.scope.names.lookup x=MA .local:=by rfl) (F:X.env.scope.names.lookup y=MA .local:=by rfl)
 (hw:swappedStores [.Tuple [.Name x h,.Name y k] l pt] (.Tuple [a,b] m f) X.env=pure (MA [x,y]):=by rfl)
 (g:swapsWithSole [.Tuple [.Name x h,.Name y k] l pt] (.Tuple [a,b] m f) pos.line X.env=pure MD:=by rfl) :
 DSt X (.Assign [.Tuple [.Name x h,.Name y k] l pt] (.Tuple [a,b] m f) pos) (FQ i j o):=
 dh (Ew r s A C n D F w hw g) fun E σ H c=>by obtain⟨δ,M,g,a,B,ok,q⟩:=c;exact(⟨δ,M,_,g,a,q,fun P Q vs H1 p G I J=>by
  obtain⟨d,e,z,K⟩:=J
  subst z
  obtain⟨v,u,rfl,L,O⟩:=eU G
  exact⟨v,u,rfl,ok.nx _ _ _ _ p (((g.mono p).set L i).set O j) I K⟩⟩)
def B5(c:Nh)(f:Nr):Nr:=fun B δ M=>∃W:Nat->DS->MH->Prop,(∃m,W m δ M)/\∀m δ M,W m δ M->
 c δ M fun b d=>if b=MC then f (B.lp fun a g=>∃e,e<m/\W e a g) δ d else B.nx δ d
theorem fL{c:o_}{body:p_}{tc:Nh}{I:Nr}(L:PassesOwn (JF X.prog X.w) X.A X.env X.xe)(N:DT X c tc)(O:DSs X body I):DSt X (.While c body [] pos) (B5 tc I):=
 dh (xH L N O) fun E σ H P=>by
  obtain⟨δ,M,q,a,B,ok,W,⟨m,C⟩,r⟩:=P
  refine⟨fun m σ e=>NN X.K H e/\∃δ M,Slots X.K e δ σ/\NW X.K e M/\W m δ M,⟨m,.refl,δ,M,q,a,C⟩,?_⟩
  rintro m σ e ⟨g,δ,M,q,a,C⟩
  refine⟨δ,M,_,q,a,r m δ M C,fun b Q H1 k J y=>?_⟩
  cases b with
  |true=>
   rw[MI rfl]at y ⊢
   refine⟨fun D F=>∃p,p<m/\(NN X.K H F/\∃δ M,Slots X.K F δ D/\NW X.K F M/\W p δ M),fun n e h=>h,δ,Q,q.mono k,J,_,?_,y⟩
   refine⟨fun f z n e o s x i=>by obtain⟨p,l,G⟩:=i;exact(⟨p,l,(g.trans k).trans o,f,z,s,x,G⟩),fun d M v e o=>ok.rt d M v e ((g.trans k).trans o),fun f z n e o s x R=>ok.nx _ _ _ _ ((g.trans k).trans o) s x R,fun f z n e o s x j=>by obtain⟨p,l,G⟩:=j;exact(⟨p,l,(g.trans k).trans o,f,z,s,x,G⟩)⟩
  |false=>
   rw[ME JD]at y ⊢
   exact ok.nx _ _ _ _ (g.trans k) (q.mono k) J y
inductive Vn(g:Pc)(tb:Nr)(B:EndsD)(n:Nat)(δ0:DS)(M0:MH):Prop
 |mk (W:Nat->DS->MH->Prop) (w0:W 0 δ0 M0) (turn:∀i δ M,i<n->W i δ M->g (.int (i:Int)) δ M fun δ2 M2=>tb (B.lp (W (i+1))) δ2 M2) (done:∀δ M,W n δ M->B.nx δ M):Vn g tb B n δ0 M0
inductive Vo(g:Pc)(tb:Nr)(B:EndsD)(ds:rv)(δ0:DS)(M0:MH):Prop
 |mk (n:Nat) (e:ds=[.int (n:Int)]) (q:n<2^60/\Vn g tb B n δ0 M0):Vo g tb B ds δ0 M0
def Ei(a:Nb)(g:Pc)(b:Nr):Nr:=fun B δ M=>a δ M fun c d=>Vo g b B c δ d
theorem dm{tg e:o_}{body:p_}{I:Nb}{g:Pc}{J:Nr}{p L:Pos}(O:PassesOwn (JF X.prog X.w) X.A X.env X.xe)(P:X.calm=MC)(Q:Gl X "range")(R:X.mg "range"=MB)(S:DA X [e] I)(T:DG X tg g)(U:DSs X body J)
 (o:JC [e] X.env=[(MD,eval e X.env)]:=by rfl) (hf:∀x,JZ (.Call (.Name "range" p) [e] [] L) X.env x=pure x:=by intro _;rfl):DSt X (.For tg (.Call (.Name "range" p) [e] [] L) body [] pos) (Ei I g J):=
 dh (zH O P (oB Q R S o) T U hf) fun E σ H ⟨δ,M,o,a,B,ok,q⟩=>⟨δ,M,_,o,a,q,fun ds V vs H1 N Y Z z9=>by
  obtain⟨n,e,hn,W,w0,j,done⟩:=z9
  subst e
  obtain⟨v,rfl,r⟩:=cA Y
  rw[Rep]at r;subst r
  refine⟨(n:Int),rfl,(),(),?_⟩
  rw[show((n:Int)).toNat=n from by simp]
  refine wt (fun i σ c=>NN X.K H c/\∃δ M,Slots X.K c δ σ/\NW X.K c M/\W i δ M) ⟨N,δ,V,o.mono N,Z,w0⟩ ?_ ?_
  ·rintro i σ H2 hi ⟨h,δ,M,z,C,D⟩
   refine⟨.int (i:Int),δ,M,_,by rw[Rep];simp,z,C,j i δ M hi D,fun F M3 a0 H3 s s3 a3 q3=>?_⟩
   refine⟨F,M3,s3,a3,_,?_,q3⟩
   exact⟨fun b y k c f l m G=>⟨(h.trans s).trans f,b,y,l,m,G⟩,fun d M v c f=>ok.rt d M v c ((h.trans s).trans f),fun b y k c f l m q'=>ok.nx _ _ _ _ ((h.trans s).trans f) l m q',fun b y k c f l m G=>⟨(h.trans s).trans f,b,y,l,m,G⟩⟩
  ·rintro σ H2 ⟨h,δ,M,z,C,D⟩
   exact ok.nx _ _ _ _ h z C (done δ M D)⟩
end
theorem xU{b:Bool}{A B:Prop}(e:b=MC)(h:A):if b=MC then A else B:=by rw[MI e];exact h
theorem jn{b:Bool}{A B:Prop}(e:b=MD)(h:B):if b=MC then A else B:=by rw[ME (by rw[e];exact JD)];exact h
theorem Ym{b c:TD}{δ:DS}{M:MH}{Q:DK}(a d:Bool)(f:∀K:DK,K (.bl a) M->b δ M K)(g:a=MD->∀K:DK,K (.bl d) M->c δ M K)(e:Q (.bl (a||d)) M):Cd b c δ M Q:=
 f _ ⟨a,rfl,by
  cases a with
  |true=>rw[MI rfl];exact e
  |false=>rw[ME JD];exact g rfl _ e⟩
theorem GV{b c:TD}{δ:DS}{M:MH}{Q:DK}(a d:Bool)(f:∀K:DK,K (.bl a) M->b δ M K)(g:a=MC->∀K:DK,K (.bl d) M->c δ M K)(e:Q (.bl (a&&d)) M):xB b c δ M Q:=
 f _ ⟨a,rfl,by
  cases a with
  |true=>rw[MI rfl];exact g rfl _ e
  |false=>rw[ME JD];exact e⟩
theorem Vz{b c:Nh}{δ:DS}{M:MH}{Q:Bool->MH->Prop}(a d:Bool)(f:∀K:Bool->MH->Prop,K a M->b δ M K)(g:a=MD->∀K:Bool->MH->Prop,K d M->c δ M K)(e:Q (a||d) M):GB b c δ M Q:=
 f _ (by
  cases a with
  |true=>rw[MI rfl];exact e
  |false=>rw[ME JD];exact g rfl _ e)
theorem xa{b c:Nh}{δ:DS}{M:MH}{Q:Bool->MH->Prop}(a d:Bool)(f:∀K:Bool->MH->Prop,K a M->b δ M K)(g:a=MC->∀K:Bool->MH->Prop,K d M->c δ M K)(e:Q (a&&d) M):Co b c δ M Q:=
 f _ (by
  cases a with
  |true=>rw[MI rfl];exact g rfl _ e
  |false=>rw[ME JD];exact e)
def AJ(r b:Nl)(c d tc:TD):TD:=fun δ M Q=>c δ M fun x e=>d δ e fun y f=>r x y f fun z a=>∃k,z=.bl k/\if k=MC then tc δ a fun u g=>b y u g Q else Q (.bl MD) a
theorem yx{X:Cx}{a b c:o_}{o p tc:TD}{pos:Pos}{op f:CmpOp}{r s:Nl}(D:Nn X (K4 op) r)(m:Nn X (K4 f) s)(E:DE X a o)(F:DE X b p)(G:DE X c tc)
 (I:lastMarks [op,f] [b,c]=MD:=by with_unfolding_all rfl):DE X (.Compare a [op,f] [b,c] pos) (AJ r s o p tc):=
 bw (yP D m E F G I) fun σ H Q J=>by
  obtain⟨δ,M,R,n,K,q,g⟩:=J
  refine⟨δ,M,_,n,K,q,fun x L v H1 h N O P=>?_⟩
  refine⟨δ,L,_,n.mono h,O,P,fun y S u H2 i t T U=>?_⟩
  refine⟨x,y,S,_,N.mono i,t,T,U,fun z V w H3 j A B d=>?_⟩
  obtain⟨k,e,l⟩:=d
  subst e
  rw[Rep]at A
  refine⟨k,A,?_⟩
  cases k with
  |true=>
   rw[MI rfl]at l ⊢
   exact⟨δ,V,_,n.mono ((h.trans i).trans j),B,l,fun W Y w' H4 C Z a4 q4=>⟨y,W,Y,R,t.mono (j.trans C),Z,a4,q4,g.go (((h.trans i).trans j).trans C)⟩⟩
  |false=>
   rw[ME JD]at l ⊢
   exact g _ _ _ _ ((h.trans i).trans j) (by rw[Rep]) B l
theorem bX{t u:Nr}{B:EndsD}{δ:DS}{M:MH}(W:DS->MH->Prop)(c:∀a b,W a b->u B a b)(d:(∀a b,W a b->u B a b)->t (B.nxt (u B)) δ M):gP t u B δ M:=d c
def Sub(b M:MH):Prop:=∀a o,b a=MA o->M a=MA o
def Jg(r:n_)(b M:MH):Prop:=∀a o,a≠r->b a=MA o->M a=MA o
theorem Sub.refl{M:MH}:Sub M M:=fun _ _ h=>h
theorem Sub.trans{M c d:MH}(a:Sub M c)(b:Sub c d):Sub M d:=fun x o h=>b x o (a x o h)
theorem Sub.new{M b:MH}{p:n_}{o:MO}(c:M p=MB)(s:Sub b M):Sub b (az M p o):=fun a u h=>by rw[au (fun e=>by subst e;rw[s _ _ h]at c;cases c)];exact s _ _ h
theorem Sub.Jj{M b:MH}{r:n_}{o:MO}(s:Jg r b M):Sub (az b r o) (az M r o):=fun a u h=>by
 by_cases e:a=r
 ·subst e;rw[ag]at h ⊢;exact h
 ·rw[au e]at h ⊢;exact s _ _ e h
inductive SV(Q:DK)(d:D)(M:MH):Prop
 |mk (M':MH) (s:Sub M' M) (q:Q d M'):SV Q d M
@[reducible] def qT(Q:DK):EndsD:={ nx:=fun _ a=>SV Q .non a,rt:=SV Q }
theorem NZ{Q:DK}{d:D}{M:MH}(q:Q d M):SV Q d M:=⟨M,.refl,q⟩
abbrev Pe:=rv->MH->DK->Prop
def iZ(K:J1)(sp:Pe):Sp:=fun vs H Q _=>∃a M R,aK K H a vs/\NW K H M/\sp a M R/\Fin K H R Q
def Cal(P:JL)(w:Kg)(K:J1)(mg:Str->Option J3)(base:oT)(k:Nat)(x:Str)(sp:Pe):Prop:=
 ∃f fd ps,Nw P w K mg base P8 k f fd ps (iZ K sp)/\mg x=MA (.ref f)/\PySem.W.keepIn K (.ref f)=MC/\Binds K fd ps []
theorem Cal.mono{P:JL}{w:Kg}{K:J1}{mg:Str->Option J3}{base:oT}{j k:Nat}{x:Str}{sp:Pe}(h:Cal P w K mg base j x sp)(l:j<=k):Cal P w K mg base k x sp:=let⟨f,fd,ps,F,r⟩:=h;⟨f,fd,ps,F.mono l,r⟩
section
variable{X:Cx}{k:Nat}{x:Str}{sp:Pe}{p pos:Pos}{e:o_}{es:qb}{t:Nb}
def EO(sp:Pe)(t:Nb):TD:=fun δ M Q=>t δ M fun a b=>sp a b Q
theorem aw(C:Cal X.prog X.w X.K X.mg X.base k x sp)(g:N1 k X.A)(h:DA X (e::es) t)(i:Gl X x:=by rfl)(b:(x==("__debug__":Str))=MD:=by decide)
 (j:JC (e::es) X.env=(MD,eval e X.env)::JC es X.env:=by rfl) (c:(L5 pos (JC es X.env)).any (·.1)=MD:=by rfl):DE X (.Call (.Name x p) (e::es) [] pos) (EO sp t):=by
 obtain⟨f,fd,ps,F,l,m,n⟩:=C
 refine bw (Bs F g i l m n .nil GZ h b j c) fun σ H Q a=>?_
 obtain⟨δ,M,R,o,r,q,d⟩:=a
 refine⟨δ,M,_,o,r,q,fun s u vs H1 v y z B=>?_⟩
 show iZ X.K sp (vs++[]) H1 Q E0
 rw[K8]
 exact⟨s,u,R,y,z,B,d.go v⟩
end
def gR(N:ra)(a:rv):DS:=a.map MA++JJ (N.length-a.length) MB
section
variable{P:JL}{w:Kg}{K:J1}{mg:Str->Option J3}{base:oT}
theorem YM{x qual:Str}{st:oa}{f:n_}{fd:Mv}{N ps:ra}{k:Nat}{sp:Pe}(F:Rz K x qual st f fd)(S:NJ N ps (ay st))(len:∀b M Q,sp b M Q->b.length=ps.length)
 (m:∀X:Cx,X.prog=P->True) (body:∀(cdv:J3) (A:Kn) (outer:List Env) (s:J5) (H:Hp) (E:XK),N1 k (A.deeper (envOfC qual (ay st) s.z f cdv))->
  ∃t,DSs (jQ P8 P w K mg base N qual (ay st) f cdv A outer s H E).nox (bG st) t/\∀b M Q,sp b M Q->t (qT Q) (gR N b) M):Nw P w K mg base P8 (k+1) f fd ps (iZ K sp):=by
 refine F.ok S (fun vs H Q E c=>by obtain⟨b,M,R,n,_,q,_⟩:=c;rw[<-n.length];exact len _ _ _ q) fun cdv A outer s H vs Q E B e=>?_
 obtain⟨b,M,R,n,a,q,j⟩:=e
 obtain⟨t,h,C⟩:=body cdv A outer s H E B
 refine⟨_,h,gR N b,M,rP n,a,(qT R),⟨fun D G I u g J o l=>?_,fun d G v u g r o i=>by obtain⟨y,p,l⟩:=i;exact(j _ _ _ _ g r (o.sub p) l),fun _ _ _ _ _ _ _ z=>z,fun _ _ _ _ _ _ _ z=>z⟩,C b M R q⟩
 obtain⟨y,p,l⟩:=l
 exact j .non y .non u g (by rw[Rep]) (o.sub p) l
def Txt(K:J1)(mg:Str->Option J3)(x:Str)(st:oa):Prop:=∃f fd,Rz K x x st f fd/\mg x=MA (.ref f)
theorem Txt.mk{h:oT}{x:Str}{st:oa}{f:n_}{oc:J3}{od an:Option n_}{osl:Array (Option J3)}{kV b d cdv ct:J3}(X:K.In h)(G:h.Ns Mi mg)(a:PySem.W.nsIn K Mi x=MA (MA (.ref f))) (l:K.lookup f=MA ⟨oc,od,.func (Le x x (cL st) (bG st) (ay st) .none kV b d an cdv ct),osl⟩) (c:PySem.W.codeIn K cdv x=MC) (k:PySem.W.keepIn K (.ref f)=MC):Txt K mg x st:=⟨f,_,EA l c k,PySem.W.mg_of X G a⟩
theorem Bb{x:Str}{st:oa}{N ps:ra}{k:Nat}{sp:Pe}(T:Txt K mg x st)(S:NJ N ps (ay st))
 (c:∀(kV b d:J3) (an:Option n_) (cdv ct:J3) (us:List J3),us.length=ps.length->bindArgs (Le x x (cL st) (bG st) (ay st) .none kV b d an cdv ct) ⟨us,[]⟩=pure (ps.zip us))
 (len:∀a M Q,sp a M Q->a.length=ps.length)
 (body:∀(f:n_) (cdv:J3) (A:Kn) (outer:List Env) (s:J5) (H:Hp) (E:XK),N1 k (A.deeper (envOfC x (ay st) s.z f cdv))->
  ∃t,DSs (jQ P8 P w K mg base N x (ay st) f cdv A outer s H E).nox (bG st) t/\∀a M Q,sp a M Q->t (qT Q) (gR N a) M):Cal P w K mg base (k+1) x sp:=by
 obtain⟨f,fd,F,e⟩:=T
 exact⟨f,fd,ps,YM F S len (fun _ _=>trivial) (body f),e,F.kp,F.binds c⟩
end
theorem oU:Kp "abs"=MA (.builtin "abs"):=by decide +kernel
theorem ud:Kp "max"=MA (.builtin "max"):=by decide +kernel
theorem mm:Kp "min"=MA (.builtin "min"):=by decide +kernel
theorem cU:Kp "len"=MA (.builtin "len"):=by decide +kernel
theorem yr:Kp "all"=MA (.builtin "all"):=by decide +kernel
theorem iz:Kp "isinstance"=MA (.builtin "isinstance"):=by decide +kernel
theorem qI:Kp "tuple"=MA (.type "tuple"):=by decide +kernel
theorem uV:Kp "list"=MA (.type "list"):=by decide +kernel
theorem jO:Kp "int"=MA (.type "int"):=by decide +kernel
section
variable{P:JL}{w:Kg}{K:J1}{mg:Str->Option J3}
theorem Iz{x:Str}{st:oa}{N:ra}{p:Str}{k:Nat}{sp:Pe}{fa:n_}(T:Txt K mg x st)(c:mg x=MA (.ref fa))(S:NJ N [p] (ay st))
 (g:∀(kV a d:J3) (an:Option n_) (cdv ct:J3) (us:List J3),us.length=[p].length->bindArgs (Le x x (cL st) (bG st) (ay st) .none kV a d an cdv ct) ⟨us,[]⟩=pure ([p].zip us))
 (len:∀b M Q,sp b M Q->b.length=[p].length)
 (body:∀(base:oT) (f:n_) (cdv:J3) (A:Kn) (outer:List Env) (s:J5) (H:Hp) (E:XK),N1 k (A.deeper (envOfC x (ay st) s.z f cdv))->
  ∃t,DSs (jQ P8 P w K mg base N x (ay st) f cdv A outer s H E).nox (bG st) t/\∀b M Q,sp b M Q->t (qT Q) (gR N b) M) :
 ∃fd,(∀(s:J5) (u:J3),BindsTo s fd ⟨[u],[]⟩ [(p,u)])/\∀base:oT,Nw P w K mg base P8 (k+1) fa fd [p] (iZ K sp):=by
 obtain⟨f,fd,F,h⟩:=T
 have e:=c.symm.trans h
 cases e
 refine⟨fd,fun s u=>?_,fun base=>YM F S len (fun _ _=>trivial) (body base _)⟩
 obtain⟨oc,od,kV,a,d,an,cdv,ct,osl,rfl,j,i⟩:=F.ex
 exact .of_eq (g kV a d an cdv ct [u] rfl)
end
theorem yS{l:PySem.W.OpenLaw}{k:Nat}{q:JL}{i:ra}{t:(Str->Option J3)->oT->Prop}{p:Kg->oT->Prop}{d:DefRec}{K:JU->J1}{sp:Pe}{x:Str}
 (A:l.most=MA 63) (j:d.params.defaults=[]) (B:N1 k callerA)
 (C:∀(w:Kg) (h:oT),p w h->(K w.params).In h)
 (F:∀(w:Kg) (mg:Str->Option J3) (fa:n_) (h:oT),(K w.params).In h->h.Ns Mi mg->mg d.name=MA (.ref fa)->
  ∃fd:Mv,(∀(s:J5) (u:J3),BindsTo s fd ⟨[u],[]⟩ [(x,u)])/\
   ∀base:oT,Nw l.prog w (K w.params) mg base P8 k fa fd [x] (iZ (K w.params) sp))
 (m:∀(ns:pq) (M:MH),ns.length<=63->sp [.rol (ns.map D.int)] M (fun d _=>d=.bl MC)) :
 PySem.W.WalkO q i t p l.row.toRowW d [] (fun f vs=>PySem.call f vs):=by
 refine Bf (x:=x) (n:=63) (CX:=fun _=>P8) (sp:=fun w=>iZ (K w.params) sp) A ⋯ j B C (fun w mg fa h a b c=>?_) (fun w H a ns E G I=>?_) fun _ _ _ _ _ z=>z
 ·obtain⟨fd,J,L⟩:=F w mg fa h a b c
  exact⟨fd,J,fun base _ _=>L base⟩
 ·have hF:SU (K w.params) H a (ns.map V.int):=by
   rcases I with(z|z)|z
   ·rcases G a with y|⟨o,xs,y⟩
    ·rw[z]at y;cases y
    ·rw[z]at y;cases y
   ·exact .inl z
   ·exact .inr z
  refine⟨[.rol (ns.map D.int)],fun _=>MB,_,.cons (by rw[Rep];exact⟨a,_,rfl,hF,jC ns⟩) .nil,(fun _ _ e=>nomatch e:NW (K w.params) H fun _=>MB),m ns _ E,fun d N v O g r P e=>?_⟩
  subst e
  rw[Rep]at r
  exact r
end SD
namespace Ma
open PySem PySem.Spec PyProof.Rows L2 SD
abbrev fr(q:Rat):D:=.tup [.int q.num,.int (q.den:Int)]
theorem den_pos(q:Rat):(0:Int)<(q.den:Int):=by have:=q.den_pos;omega
def Bq(n:Nat)(q:Rat):Prop:=Bd n q.num/\Bd n (q.den:Int)
theorem Bq.mono{m n:Nat}{q:Rat}(h:Bq m q)(l:m<=n):Bq n q:=⟨h.1.mono l,h.2.mono l⟩
theorem qJ{t b:Int}(a:0<b):t.fdiv b=t/b:=Ke _ ()
theorem fdiv_neg{t b:Int}(hd:b ∣ t)(d:0<b):t.fdiv (-b)=-(t/b):=by
 obtain⟨c,rfl⟩:=hd;have a:b≠0:=()
 rw[Int.mul_ediv_cancel_left _ a];have:b*c=-b * -c:=by rw[Int.neg_mul_neg]
 rw[this];exact Int.mul_fdiv_cancel_left _ ()
theorem vK(t b:Int):((Mf t.natAbs b.natAbs:Nat):Int) ∣ t:=Int.ofNat_dvd_left.mpr (Nat.gcd_dvd_left _ _)
theorem uI(t b:Int):((Mf t.natAbs b.natAbs:Nat):Int) ∣ b:=Int.ofNat_dvd_left.mpr (Nat.gcd_dvd_right _ _)
theorem nN(t b:Int):Int.gcd b t=Mf t.natAbs b.natAbs:=by unfold Int.gcd;exact Nat.gcd_comm _ _
theorem fF{t b:Int}(a:b≠0):0<Mf t.natAbs b.natAbs:=Nat.gcd_pos_of_pos_right _ ()
theorem uC{t b:Int}(a:0<b):t.fdiv (Mf t.natAbs b.natAbs:Nat)=(Rat.divInt t b).num/\b.fdiv (Mf t.natAbs b.natAbs:Nat)=((Rat.divInt t b).den:Int):=by
 have c:=fF (t:=t) (b:=b) ();rw[qJ (),qJ (),Rat.num_divInt,Rat.den_divInt,ME (),K9 a,Mk,nN];refine⟨rfl,?_⟩;rw[Int.natCast_ediv]
 congr 1
 omega
theorem vy{t b:Int}(a:b<0):t.fdiv (-((Mf t.natAbs b.natAbs:Nat):Int))=(Rat.divInt t b).num/\b.fdiv (-((Mf t.natAbs b.natAbs:Nat):Int))=((Rat.divInt t b).den:Int):=by
 have c:=fF (t:=t) (b:=b) ();rw[fdiv_neg (vK t b) (),fdiv_neg (uI t b) (),Rat.num_divInt,Rat.den_divInt,ME (),JS a,nN];constructor
 ·rw[show(-1:Int)*t=-t from by omega,Int.neg_ediv_of_dvd (vK t b)]
 ·rw[Int.natCast_ediv,show((b.natAbs:Nat):Int)=-b from by omega,Int.neg_ediv_of_dvd (uI t b)]
theorem sW{t b:Int}(a:b≠0):(Rat.divInt t b).num.natAbs<=t.natAbs/\(Rat.divInt t b).den<=b.natAbs:=by
 constructor
 ·rw[Rat.num_divInt];refine Kr (Int.natAbs_ediv_le_natAbs _ _) ?_;rw[Int.natAbs_mul];rcases Jt b 0 with h|h|h
  ·rw[JS h];simp
  ·exact absurd h a
  ·rw[K9 h];simp
 ·rw[Rat.den_divInt,ME a];exact Nat.div_le_self _ _
theorem Bq.divInt{n:Nat}{t b:Int}(a:b≠0)(c:Bd n t)(d:Bd n b):Bq n (Rat.divInt t b):=by obtain⟨e,f⟩:=sW (t:=t) a;exact⟨Nat.lt_of_le_of_lt e c,Nat.lt_of_le_of_lt ‹f› d⟩
theorem vd(x y:Nat):Int.fmod (x:Int) (y:Int)=((x%y:Nat):Int):=by rw[Lu _ ()];rfl
theorem rS(q r:Rat):K3 (.tuple [.int q.num,.int (q.den:Int)]) (.tuple [.int r.num,.int (r.den:Int)])=decide (q=r):=by
 simp only[K3,Km,LJ];by_cases h:q=r
 ·subst h;simp
 ·rw[MJ h];rw[Bool.eq_false_iff];intro z;rw[JN,beq_iff_eq,beq_iff_eq]at z;exact h (Rat.ext z.1 (by have:=z.2;omega))
theorem F0(q r:Rat):decide (q.num*(r.den:Int)<r.num*(q.den:Int))=decide (q<r):=by rw[MM,Rat.lt_iff]
abbrev spt(a b:Rat):D:=.tup [fr a,fr b]
theorem lh(a b c d:Rat):K3 (.tuple [.tuple [.int a.num,.int (a.den:Int)],.tuple [.int b.num,.int (b.den:Int)]]) (.tuple [.tuple [.int c.num,.int (c.den:Int)],.tuple [.int d.num,.int (d.den:Int)]])=decide (a=c/\b=d):=by rw[K3,Km,Km,Km,rS,rS,LJ,Bool.decide_and]
theorem iR(q:Rat):(q.den:Int)≠0:=by have:=q.den_pos;omega
theorem sub_eq(q r:Rat):Rat.divInt (q.num*(r.den:Int)-r.num*(q.den:Int)) ((q.den:Int)*(r.den:Int))=q-r:=by rw[<-Rat.divInt_sub_divInt _ _ (iR q) (iR r),Rat.num_divInt_den,Rat.num_divInt_den]
theorem vg(q r:Rat):(q.den:Int)*(r.den:Int)≠0:=Int.mul_ne_zero (iR q) (iR r)
theorem Bq.vt{n:Nat}{q r:Rat}(a:Bq n q)(b:Bq n r):Bd (2*n+1) (q.num*(r.den:Int)-r.num*(q.den:Int)):=((a.1.mul b.2).sub (b.1.mul a.2)).mono ()
def sgn(z:Rat):Int:=if 0<z then 1 else if z<0 then -1 else 0
def cr(a b c d x y:Rat):Rat:=(c-a)*(y-b)-(d-b)*(x-a)
abbrev wll(a b c d:Rat):D:=.tup [spt a b,spt c d]
def ah(a b c d:Rat):Prop:=a<c\/a=c/\b<d
instance(a b c d:Rat):Decidable (ah a b c d):=inferInstanceAs (Decidable (_\/_))
theorem pos_int{i:Int}(h:0<i):(0:Rat)<(i:Rat):=by rw[Rat.lt_iff];simpa using h
end Ma
namespace SD
open PySem PySem.Spec PyProof.Rows L2
def fy(names:List (Str×LU))(env:Env):List (Str×n_):=(names.filter fun y=>y.2==.free).reverse.map fun y=>(y.1,(env.cells.lookup y.1).getD 0)
theorem sX{scope:LY}{env:Env}(h:∀y∈scope.names,y.2=.free->∃c,env.cells.lookup y.1=MA c):closureFor scope env=pure (fy scope.names env):=by
 have key:∀(names:List (Str×LU)) (b:List (Str×n_)),(∀y∈names,y.2=.free->∃c,env.cells.lookup y.1=MA c)->
  (forIn names b (fun(x:Str×LU) (r:List (Str×n_))=>if(x.2==LX)=MC then do let a <-cellOf env x.1;pure (LR ((x.1,a)::r))else pure (LR r)):Sem (List (Str×n_)))=pure (fy names env++b):=by
  intro names
  induction names with
  |nil=>intro b _;rfl
  |cons y l g=>
   intro b e
   obtain⟨n,k⟩:=y
   rw[List.forIn_cons]
   by_cases d:(k==LX)=MC
   ·obtain⟨c,i⟩:=e (n,k) (Kq ..) ‹d›
    have e1:cellOf env n=pure c:=by unfold cellOf;rw[i]
    dsimp only
    rw[MI d,e1]
    simp only[pure_bind]
    rw[g _ fun y f=>e y (K6 _ f)]
    unfold fy
    rw[List.filter_cons_of_pos ‹d›,List.reverse_cons,Jx,KS]
    simp[i]
   ·dsimp only
    rw[ME d]
    simp only[pure_bind]
    rw[g _ fun y f=>e y (K6 _ f)]
    unfold fy
    rw[List.filter_cons_of_neg ‹d›]
 have:=key scope.names [] h;rw[K8]at this;unfold closureFor;exact Eq.trans (congrArg (fun t:Sem (List (Str×n_))=>t >>= fun j=>pure j) this) rfl
theorem qc{env:Env}{y:Str}{c:n_}:∀{names:List (Str×LU)},(∀z∈names,z.2=.free->∃c,env.cells.lookup z.1=MA c)->(fy names env).lookup y=MA c->env.cells.lookup y=MA c:=by intro names h e;have b:=Kf e;unfold fy at b;obtain⟨z,a,e2⟩:=JQ.mp b;rw[List.mem_reverse,Jr]at a;obtain⟨f,d⟩:=h z a.1 ‹a.2›;rw[d]at e2;cases e2;exact d
theorem qk{env:Env}{y:Str}{names:List (Str×LU)}(a:(y,LX)∈names):∃c,(fy names env).lookup y=MA c:=by
 cases e:(fy names env).lookup y with
 |some c=>exact⟨c,rfl⟩
 |none=>
  have:=List.lookup_eq_none_iff.mp e (y,(env.cells.lookup y).getD 0) (JQ.mpr ⟨(y,.free),List.mem_reverse.mpr (Jr.mpr ⟨a,rfl⟩),rfl⟩)
  simp at this
theorem gK{env:Env}(d:env.scope.kind=.function):∀{names:List (Str×LU)} {y:Str} {k:LU},
 (names.map fun(n,k)=>if(k==LX&&env.scope.kind==.function&&env.kindOf n==MA .cell)then(n,NameKind.cell)else(n,k)).lookup y=MA k->
  names.lookup y=MA k\/(k=.cell/\names.lookup y=MA .free)
 |[],_,_,h=>by simp at h
 |(n,q)::r,y,k,h=>by
  have e:=@gK env d r y k
  rw[Jn]at h
  dsimp only at h
  by_cases b:(y==n)=MC
  ·by_cases c:(q==LX&&env.scope.kind==.function&&env.kindOf n==MA .cell)=MC
   ·rw[MI c,KR,b]at h
    have hf:q=.free:=by
     rw[JN,JN]at c
     simpa using c.1.1
    cases h
    right
    exact⟨rfl,by rw[KR,b,hf]⟩
   ·rw[ME c,KR,b]at h
    left
    rw[KR,b];exact h
  ·have a:(y==n)=MD:=‹b›
   have f:(r.map fun(n,k)=>if(k==LX&&env.scope.kind==.function&&env.kindOf n==MA .cell)then(n,NameKind.cell)else(n,k)).lookup y=MA k:=by
    split at h
    ·rw[KR,a]at h;exact h
    ·rw[KR,a]at h;exact h
   rw[KR,a]
   exact e f
theorem lR{X:Cx}{tg a:o_}{c b:TI}(h:PI X tg a c)(k:∀σ H R,b σ H R->c σ H R):PI X tg a b:=fun MR s σ H R I q=>h MR s σ H R I (k _ _ _ q)
def Ie(K:J1)(b:TE):TI:=fun σ H R=>b σ H fun x H1=>∃a,x=.ref a/\(((∃xs,NX K H1 a xs)/\R (YU K a) H1)\/((∃xs,N0 K H1 a xs)/\R (YT K a) H1))
theorem EB{X:Cx}{tg l:o_}{j:TE}(k:PE X l j):PI X tg l (Ie X.K j):=by
 intro MR s σ H R I h;refine NO (k MR s σ H _ I h) fun v c d=>?_;obtain⟨x,H1,f,m,n⟩:=d;obtain⟨a,e,z⟩:=n;subst e;cases m
 have fp:∀b∈[c.z],dn X MR H1 b:=fun b r=>by
  obtain rfl:b=c.z:=‹r›
  exact f.qg (J9 _) (f.hok.fresh (J9 _))
 rcases z with⟨⟨xs,i⟩,q⟩|⟨⟨xs,i⟩,q⟩
 ·obtain⟨g,t,p,u⟩:=f.list i;exact Ml p.isList ⟨_,[c.z],_,_,H1,rfl,f.kept (t':=c.toks) fun b o e=>Jo _ e,wL a _,⟨_,Jy _ rfl,rfl,rfl⟩,fp,q⟩
 ·obtain⟨g,t,p,u⟩:=f.tuple i;exact wpAny_pyIter_tuple (show c.heap.IsTuple a g.toArray from p) ⟨_,[c.z],_,_,H1,rfl,f.kept (t':=c.toks) fun b o e=>Jo _ e,t9 a _,⟨_,Jy _ rfl,rfl,rfl⟩,fp,q⟩
structure Qu where
 n:Nat
 item:Nat->rx
 C:MH->Prop
abbrev OV:=DS->MH->(Qu->MH->Prop)->Prop
structure Vm(K:J1)(H1:Hp)(I:Qu)(J:It):Prop where
 stop:∀H2 M2,NN K H1 H2->NW K H2 M2->I.C M2->J.stop I.n H2
 go:∀i H2 M2,i<I.n->NN K H1 H2->NW K H2 M2->I.C M2->J.go i H2
 yld:∀i H2 M2 v H3,i<I.n->NN K H1 H2->NW K H2 M2->I.C M2->J.yld i H2 v H3->NN K H2 H3/\NW K H3 M2/\∃d,I.item i=MA d/\Rep K H3 d v
def mv(K:J1)(t:OV):TI:=fun σ H R=>∃δ M b,Slots K H δ σ/\NW K H M/\t δ M b/\∀I c a J,NN K H a->NW K a c->b I c->Vm K a I J->R J a
namespace Zq
@[scoped irreducible]def _root_.SD.DI(X:Cx)(tg a:o_)(t:OV):Prop:=PI X tg a (mv X.K t)
end Zq
def De(M:MH):D->rv->Prop
 |.tup ds,es=>es=ds
 |.rol ds,es=>es=ds
 |.ref a,es=>M a=MA (.lst es)
 |_,_=>False
inductive YQ(ds:rv)(M:MH)(R:Qu->MH->Prop):Prop
 |mk (n:Nat) (h:ds=[.int (n:Int)]) (q:n<2^60/\R ⟨n,fun i=>MA (.int (i:Int)),fun _=>True⟩ M):YQ ds M R
inductive YO(d:D)(M:MH)(R:Qu->MH->Prop):Prop
 |mk (ds:rv) (h:De M d ds) (q:R ⟨ds.length,fun i=>ds[i]?,fun M=>De M d ds⟩ M):YO d M R
def Gk(a:Nb):OV:=fun δ M R=>a δ M fun b c=>YQ b c R
def HX(a:TD):OV:=fun δ M R=>a δ M fun d b=>YO d b R
section
variable{X:Cx}{tg:o_}
theorem wJ{a:o_}{d:Nb}{p pos:Pos}(g:Gl X "range")(h:X.mg "range"=MB)(j:DA X [a] d)(b:JC [a] X.env=[(MD,eval a X.env)]:=by rfl):DI X tg (.Call (.Name "range" p) [a] [] pos) (Gk d):=
 lR (oB g h j b) fun σ H R k=>by
  obtain⟨δ,M,y,b,l,q,c⟩:=k
  exact⟨δ,M,_,b,l,q,fun z m vs H1 o s t u=>by
   obtain⟨n,e,A,w⟩:=u
   subst e
   obtain⟨v,rfl,r⟩:=cA s
   rw[Rep]at r;subst r
   refine⟨(n:Int),rfl,(),(),c _ m H1 _ o t w ⟨fun _ _ _ _ _=>by show((n:Int)).toNat<=n;simp,fun i _ _ f _ _ _=>by show i<((n:Int)).toNat;simpa using f,?_⟩⟩
   rintro i B C v D f E x _ ⟨rfl,rfl⟩
   exact⟨.refl,x,_,rfl,by rw[Rep];simp⟩⟩
theorem aT{l:o_}{E:TD}(G:DE X l E):DI X tg l (HX E):=
 lR (EB G) fun σ H R I=>by
  obtain⟨δ,M,O,J,K,q,o⟩:=I
  exact⟨δ,M,_,J,K,q,fun d y v H1 A s z L=>by
   obtain⟨e,sq,B⟩:=L
   cases d with
   |tup C=>
    obtain rfl:e=C:=sq
    rw[Rep]at s
    obtain⟨a,xs,rfl,j,m⟩:=s
    refine⟨a,rfl,.inr ⟨⟨xs,j⟩,o _ y H1 _ A z B ⟨fun n _ c _ _=>⟨xs,c.t _ _ j,by rw[m.length];exact J9 _⟩,fun i n _ b c _ _=>?_,?_⟩⟩⟩
    ·have g:i<xs.length:=by rw[<-m.length];exact b
     exact⟨xs,xs[i],c.t _ _ j,by simp[g]⟩
    ·rintro i n p v F b c h _ ⟨rfl,k⟩
     have b:i<e.length:=b
     obtain⟨x,e1,e2⟩:=(m.mono c).get (show e[i]?=MA e[i] by simp[b])
     have:=k xs (c.t _ _ j)
     rw[e1]at this;cases this
     exact⟨.refl,h,_,by simp[b],e2⟩
   |rol C=>
    obtain rfl:e=C:=sq
    rw[Rep]at s
    obtain⟨a,xs,rfl,j,m⟩:=s
    refine⟨a,rfl,.inl ⟨⟨xs,j.sql⟩,o _ y H1 _ A z B ⟨fun n _ c _ _=>⟨xs,(c.f _ _ j).sql,by rw[m.length];exact J9 _⟩,fun i n _ b c _ _=>?_,?_⟩⟩⟩
    ·have g:i<xs.length:=by rw[<-m.length];exact b
     exact⟨xs,xs[i],(c.f _ _ j).sql,by simp[g]⟩
    ·rintro i n p v F b c h _ ⟨rfl,k⟩
     have b:i<e.length:=b
     obtain⟨x,e1,e2⟩:=(m.mono c).get (show e[i]?=MA e[i] by simp[b])
     have:=k xs (c.f _ _ j).sql
     rw[e1]at this;cases this
     exact⟨.refl,h,_,by simp[b],e2⟩
   |ref a=>
    rw[Rep]at s;subst s
    obtain⟨xs,N,m⟩:=z _ _ (show y a=MA (.lst e)from sq)
    refine⟨a,rfl,.inl ⟨⟨xs,NX.of N⟩,o _ y H1 _ A z B ⟨fun n p c h u=>?_,fun i n p b c h u=>?_,?_⟩⟩⟩
    ·obtain⟨r,k,w⟩:=h _ _ (show p a=MA (.lst e)from u)
     exact⟨r,NX.of k,by rw[w.length];exact J9 _⟩
    ·obtain⟨r,k,w⟩:=h _ _ (show p a=MA (.lst e)from u)
     have g:i<r.length:=by rw[<-w.length];exact b
     exact⟨r,r[i],NX.of k,by simp[g]⟩
    ·rintro i n p v F b c h u ⟨rfl,k⟩
     have b:i<e.length:=b
     obtain⟨r,D,w⟩:=h _ _ (show p a=MA (.lst e)from u)
     obtain⟨x,e1,e2⟩:=w.get (show e[i]?=MA e[i] by simp[b])
     have:=k r (NX.of D)
     rw[e1]at this;cases this
     exact⟨.refl,h,_,by simp[b],e2⟩
   |_=>exact sq.elim⟩
inductive Vp(g:Pc)(tb:Nr)(B:EndsD)(I:Qu)(δ0:DS)(M0:MH):Prop
 |mk (W:Nat->DS->MH->Prop) (w0:W 0 δ0 M0) (hC:∀i δ M,i<=I.n->W i δ M->I.C M) (turn:∀i d δ M,i<I.n->I.item i=MA d->W i δ M->g d δ M fun δ2 M2=>tb (B.lp (W (i+1))) δ2 M2) (done:∀δ M,W I.n δ M->B.nx δ M):Vp g tb B I δ0 M0
def FY(a:OV)(g:Pc)(b:Nr):Nr:=fun B δ M=>a δ M fun I c=>Vp g b B I δ c
theorem bV{b:o_}{body:p_}{R:OV}{g:Pc}{S:Nr}{pos:Pos}(Y:PassesOwn (JF X.prog X.w) X.A X.env X.xe)(Z:X.calm=MC)(p:DI X tg b R)(hG:DG X tg g)(hb:DSs X body S)
 (hf:∀x,JZ b X.env x=pure x:=by intro _;rfl):DSt X (.For tg b body [] pos) (FY R g S):=
 dh (zH Y Z p hG hb hf) fun E σ H ⟨δ,M,T,a,B,ok,q⟩=>⟨δ,M,_,T,a,q,fun I M1 H1 J D a1 z9 O=>by
  obtain⟨W,w0,hC,r,done⟩:=z9
  refine⟨fun i m σ h=>m=I.n-i/\i<=I.n/\NN X.K H1 h/\∃δ M,Slots X.K h δ σ/\NW X.K h M/\W i δ M,⟨I.n,by simp,Kj _,.refl,δ,M1,T.mono D,a1,w0⟩,?_⟩
  rintro i m σ h ⟨rfl,p,s,j,l,U,F,t⟩
  by_cases e:i<I.n
  ·refine .inr ⟨O.go i h l e s F (hC _ _ _ p t),fun c o=>NN X.K H1 o/\∃δ M,Slots X.K o δ c/\NW X.K o M/\W (i+1) δ M,fun c o z=>⟨I.n-(i+1),(),rfl,e,z⟩,fun x o y=>?_⟩
   obtain⟨V,a3,d,ed,rd⟩:=O.yld i h l x o e s F (hC _ _ _ p t) y
   refine⟨d,j,l,_,rd,U.mono V,a3,r i d j l e ed t,fun P M4 a0 H4 g4 s4 a4 q4=>⟨P,M4,s4,a4,_,?_,q4⟩⟩
   have G:NN X.K H1 H4:=(s.trans V).trans g4
   exact⟨fun f L c N k u C Q=>⟨G.trans k,f,L,u,C,Q⟩,fun d M v N k=>ok.rt d M v N ((D.trans G).trans k),fun f L c N k u C q'=>ok.nx _ _ _ _ ((D.trans G).trans k) u C q',fun f L c N k u C Q=>⟨G.trans k,f,L,u,C,Q⟩⟩
  ·obtain rfl:i=I.n:=()
   exact .inl ⟨O.stop h l s F (hC _ _ _ p t),ok.nx _ _ _ _ (D.trans s) U F (done j l t)⟩⟩
def GJ(i:Nat)(te:TD)(f:Int->Int->Int):Nr:=fun B δ M=>∃k,δ[i]?=MA (MA (.int k))/\te δ M fun y a=>∃j,y=.int j/\B.nx (δ.set i (MA (.int (f k j)))) a
theorem zj(i:Nat){x:Str}{e:o_}{te:TD}{op:Operator}{f:Int->Int->Int}{pos c:Pos}(l:X.N.Nodup)(m:WE X op (Xz f))(n:DE X e te)(o:X.N[i]?=MA x:=by rfl)(p:Loc X.env.scope x:=by first|exact Or.inl rfl|exact Or.inr rfl)
 (hf:X.fn x=MC\/X.env.scope.names.lookup x=MA .local:=by first|exact .inl rfl|exact .inr rfl|assumption):DSt X (.AugAssign (.Name x c) op e pos) (GJ i te f):=
 dh (C2 l o p n m hf) fun E σ H s=>by
  obtain⟨δ,M,d,a,B,ok,k,e1,q⟩:=s
  obtain⟨v,e2,r⟩:=d.at' i _ e1
  rw[Rep]at r;subst r
  refine⟨_,e2,δ,M,_,d,a,q,fun y A u H1 g h t b=>?_⟩
  obtain⟨j,w,z⟩:=b
  subst w
  rw[Rep]at h;subst h
  exact⟨k,j,rfl,rfl,ok.nx _ _ _ _ g ((d.mono g).set (by rw[Rep]) i) t z⟩
end
end SD
namespace Ma
open SD
theorem mK{a b:Int}(h:0<b):0<Rat.divInt a b↔0<a:=by
 have c:=Rat.divInt_nonneg_iff_of_pos_right (a:=-a) h;rw[<-Rat.neg_divInt]at c;have:¬(0<=-Rat.divInt a b)↔0<Rat.divInt a b:=by constructor<;>intro z<;>grind
 rw[<-this,c];omega
theorem tN{a b:Int}(h:0<b):Rat.divInt a b<0↔a<0:=by
 have c:=Rat.divInt_nonneg_iff_of_pos_right (a:=a) h;have:¬(0<=Rat.divInt a b)↔Rat.divInt a b<0:=by constructor<;>intro z<;>grind
 rw[<-this,c];omega
theorem Bk{t b:Int}(h:0<b):sgn (Rat.divInt t b)=if 0<t then 1 else if t<0 then -1 else 0:=by unfold sgn;simp only[mK h,tN h]
theorem Ar(a b c d x y:Rat) :
 Rat.divInt ((c.num*(a.den:Int)-a.num*(c.den:Int))*(y.num*(b.den:Int)-b.num*(y.den:Int))*((d.den:Int)*(b.den:Int)*((x.den:Int)*(a.den:Int))) -
  (d.num*(b.den:Int)-b.num*(d.den:Int))*(x.num*(a.den:Int)-a.num*(x.den:Int))*((c.den:Int)*(a.den:Int)*((y.den:Int)*(b.den:Int))))
  ((c.den:Int)*(a.den:Int)*((y.den:Int)*(b.den:Int))*((d.den:Int)*(b.den:Int)*((x.den:Int)*(a.den:Int))))=cr a b c d x y:=by
 rw[<-Rat.divInt_sub_divInt _ _ (Int.mul_ne_zero (vg c a) (vg y b)) (Int.mul_ne_zero (vg d b) (vg x a)),<-Rat.divInt_mul_divInt,<-Rat.divInt_mul_divInt,sub_eq,sub_eq,sub_eq,sub_eq]
 rfl
end Ma
namespace SD
open PySem PySem.Spec PyProof.Rows L2
abbrev Nc:J3->J5->Prop:=fun _ _=>False
def cN(X:Cx)(xs:ra)(js:pe):ra:=xs++js.map fun j=>(X.N[j]?).getD ("":Str)
def cσ(os:L2.St)(js:pe)(σ:L2.St):L2.St:=os++js.map fun j=>(σ[j]?).join
theorem dg:∀(names:List (Str×LU)) (n:Nat) (a:List (Str×n_)),Lk n names a=Lk n names []++a
 |[],_,_=>rfl
 |(x,k)::r,n,a=>by
  unfold Lk
  split
  ·rw[dg r (n+1) ((x,n)::a),dg r (n+1) [(x,n)],KS];rfl
  ·exact dg r n a
theorem jV:∀(names:List (Str×LU)) (n:Nat) {y:Str} {c:n_},(y,c)∈Lk n names []->(y,NameKind.cell)∈names
 |[],_,_,_,h=>by cases h
 |(x,k)::r,n,y,c,h=>by
  unfold Lk at h
  split at h
  ·rename_i hk
   rw[dg]at h
   rcases JE.mp h with h|h
   ·exact K6 _ (jV r _ h)
   ·have e:(y,c)=(x,n):=‹h›
    cases e
    obtain rfl:k=.cell:=‹hk›
    exact Kq
  ·exact K6 _ (jV r _ h)
theorem qp{l r:List (Str×n_)}{y:Str}{c:n_}(h:(l++r).lookup y=MA c):l.lookup y=MA c\/(l.lookup y=MB/\r.lookup y=MA c):=by
 rw[List.lookup_append]at h;cases e:l.lookup y with
 |some a=>rw[e]at h;exact .inl h
 |none=>rw[e]at h;exact .inr ⟨rfl,h⟩
theorem Ae{env:Env}{y:Str}{c:n_}{names:List (Str×LU)}(h:(fy names env).lookup y=MA c):(y,LX)∈names:=by
 have b:=Kf h;unfold fy at b;obtain⟨z,a,e⟩:=JQ.mp b;rw[List.mem_reverse,Jr]at a;obtain⟨n,k⟩:=z;obtain rfl:k=.free:=‹a.2›
 cases e;exact a.1
theorem fU{env:Env}{k:LU}(c:k≠.free):∀{names:List (Str×LU)} {x:Str},names.lookup x=MA k->
 (names.map fun(n,k)=>if(k==LX&&env.scope.kind==.function&&env.kindOf n==MA .cell)then(n,NameKind.cell)else(n,k)).lookup x=MA k
 |[],_,h=>by simp at h
 |(n,q)::r,x,h=>by
  have d:=@fU env k c r x
  rw[Jn]
  dsimp only
  by_cases b:(x==n)=MC
  ·rw[KR,b]at h
   cases h
   rw[ME (by intro z;rw[JN,JN]at z;exact c ‹z.1.1›),KR,b]
  ·have a:(x==n)=MD:=‹b›
   rw[KR,a]at h
   split<;>(rw[KR,a];exact d h)
theorem pZ{M:Model}{A:Kn}{E:J3->J5->Prop}{s:J5}{scope:LY}{globals:n_}{b:List (Str×n_)}{qual:Str}{env:Env}{Q:Env->J5->Prop} (h:Q { scope:=scope,locals:=s.z,globals:=globals,cells:=Lk (s.z+1) scope.names b,qual:=qual,func:=MB,code:=env.code,frame:=env.frame,builtins:=env.builtins } { s with heap:=pushCells (s.heap.push { cls:=.type "dict",data:=.dict #[] }) scope.names }) : Js M A (newFunctionEnv scope globals b [] qual MB .none (MA env)) Q E s:=by simp only[newFunctionEnv,Option.isSome_some,if_true];refine cc (wpAny_alloc ?_);refine cc (wpAny_layCells _ (fun name kind cells=>by cases a:kind==NameKind.cell<;>simp[a]) _ _ _ _ ?_);rw[show({ s with heap:=s.heap.push { cls:=.type "dict",data:=.dict #[] } }:J5).heap.objs.size=s.z+1 from KY ..];refine cc ?_;rw[List.forIn_nil];exact J7 (J7 h)
def kJ(scope:LY)(C:n_)(env:Env):Env:=
 { scope:=relabel scope env,locals:=C,globals:=env.globals,cells:=Lk (C+1) scope.names (fy scope.names env),qual:=env.qual,func:=MB,code:=env.code,frame:=env.frame,builtins:=env.builtins }
def NV(X:Cx)(xs:ra)(js:pe)(scope:LY)(C:n_)(s:J5)(H:Hp)(fp:q_):Cx where
 prog:=X.prog
 w:=X.w
 K:=X.K
 mg:=X.mg
 base:=X.base
 A:=X.A
 N:=cN X xs js
 s₀:=s
 H₀:=H
 env:=kJ scope C X.env
 outer:=X.stack
 stack:=X.stack
 ex:=fp
 fn:=fun y=>xs.contains y
 calm:=X.calm
 pn:=[]
 xe:=fun _ _=>False
structure NK(X:Cx)(xs:ra)(js:pe)(scope:LY):Prop where
 kind:scope.kind=.function
 cell:∀y∈scope.names,y.2=.cell->y.1∈xs
 free':∀y∈scope.names,y.2=.free->y.1∉xs
 names:∀y∈scope.names,y.2=.local->scope.names.lookup y.1=MA .local
 own:∀x∈xs,scope.names.lookup x=MA .local\/scope.names.lookup x=MA .cell
 out:∀y∈scope.names,y.2=.free->X.env.kindOf y.1=MA .cell\/X.env.kindOf y.1=MA .free
 nd:(cN X xs js).Nodup
 js:∀j∈js,scope.names.lookup ((X.N[j]?).getD ("":Str))≠MA .local
section
variable{X:Cx}{xs:ra}{js:pe}{scope:LY}{MR:pa}{σ:L2.St}{H:Hp}{s:J5}{fp:q_}
theorem NK.cells(c:NK X xs js scope)(ok:X.Ok):∀y∈scope.names,y.2=.free->∃a,X.env.cells.lookup y.1=MA a:=fun y b hf=>ok.has _ (c.out y b hf)
theorem NK.A3(c:NK X xs js scope)(ok:X.Ok):closureFor scope X.env=pure (fy scope.names X.env):=sX (c.cells ok)
theorem NK.kindOf(c:NK X xs js scope)(ok:X.Ok){C:n_}{y:Str}{k:LU}(e:(kJ scope C X.env).kindOf y=MA k):scope.names.lookup y=MA k\/(k=.cell/\scope.names.lookup y=MA .free):=gK ok.kind e
theorem mF(c:NK X xs js scope)(I:Inv X MR σ H s)(hf:∀b∈fp,dn X MR H b)(A:∀b∈fp,b<s.z){h':oT}(P:h'=pushCells (s.heap.push { cls:=.type "dict",data:=.dict #[] }) scope.names)(k:∀b o,s.heap.get? b=MA o->h'.get? b=MA o) :
 Inv (NV X xs js scope s.z s H fp) [] (cσ (JJ xs.length MB) js σ) H { s with heap:=h' }:=by
 have ok:=I.ok
 have Y:h'.Ns s.z fun _=>MB:=by rw[P];exact(Heap.Ns.new s.heap (.type "dict")).keeps (pushCells_keeps _ _)
 have t:CellsOk h' (s.z+1) (Lk (s.z+1) scope.names []):=by
  have:=cellsFrom_ok scope.names (s.heap.push { cls:=.type "dict",data:=.dict #[] }) (s.z+1) [] ⟨fun _ _ B=>(nomatch B),List.Pairwise.nil⟩ (by rw[KY];exact J9 _)
  rw[KY]at this
  rw[P];exact this
 have Q:∀{y:Str} {a:n_},(fy scope.names X.env).lookup y=MA a->X.env.cells.lookup y=MA a:=fun e=>qc (c.cells ok) e
 have D:∀{y:Str} {a:n_},X.env.cells.lookup y=MA a->a<s.z:=fun e=>by obtain⟨v,z⟩:=I.cell _ _ e;exact z.lt
 have d:∀{y:Str} {a:n_},(kJ scope s.z X.env).cells.lookup y=MA a->((y,a)∈Lk (s.z+1) scope.names []/\s.z<a)\/X.env.cells.lookup y=MA a:=fun{y a} e=>by
  have e:(Lk (s.z+1) scope.names (fy scope.names X.env)).lookup y=MA a:=e
  rw[dg]at e
  rcases qp e with z|⟨_,z⟩
  ·exact .inl ⟨Kf z,(t.empty _ _ (Kf z)).2⟩
  ·exact .inr (Q z)
 have free:∀{y:Str},(kJ scope s.z X.env).kindOf y=MA .cell\/(kJ scope s.z X.env).kindOf y=MA .free->scope.names.lookup y=MA .cell\/scope.names.lookup y=MA .free:=fun{y} e=>by
  rcases e with e|e
  ·rcases c.kindOf ok e with z|⟨_,z⟩
   ·exact .inl z
   ·exact .inr z
  ·rcases c.kindOf ok e with z|⟨z,_⟩
   ·exact .inr z
   ·cases z
 refine⟨⟨ok.mod,c.kind,ok.glob,ok.blt,J9 _,fun y z a f g=>?_,fun y J=>?_,fun y a h e=>?_,ok.hd,ok.frames,.inl rfl,fun b w=>⟨K5 (A b w),fun y a e=>?_⟩,
  I.bs,Kr ok.bsz I.sz,fun b o e w=>?_,fun b w=>?_,I.stack,I.uM⟩,rfl,I.bare,Un.kept k,?_,fun y a e=>?_,I.hok.fresh (J9 _),fun y a e=>?_,fun p Z=>absurd (show p∈([]:pa)from Z) (by simp),I.hok.kept k,?_⟩
 ·rcases d f with⟨m1,l1⟩|R<;>rcases d g with⟨m2,l2⟩|S
  ·exact name_of_addr t.apart m1 m2
  ·exact absurd (D S) (Nat.not_lt.mpr (Nat.le_of_lt l1))
  ·exact absurd (D R) (Nat.not_lt.mpr (Nat.le_of_lt l2))
  ·exact ok.inj y z a R S
 ·show ∃c,(Lk (s.z+1) scope.names (fy scope.names X.env)).lookup y=MA c
  rw[dg,List.lookup_append]
  rcases free J with z|z
  ·obtain⟨a,e⟩:=lD (n:=s.z+1) z
   exact⟨a,by rw[e];rfl⟩
  ·obtain⟨a,e⟩:=qk (env:=X.env) (Kf z)
   cases q:(Lk (s.z+1) scope.names []).lookup y with
   |none=>exact⟨a,by rw[e];rfl⟩
   |some G=>exact⟨G,rfl⟩
 ·have hx:y∈xs:=by simpa[NV]using h
  have e:(Lk (s.z+1) scope.names (fy scope.names X.env)).lookup y=MA a:=e
  rw[dg]at e
  rcases qp e with z|⟨_,z⟩
  ·exact Nat.le_of_lt (t.empty _ _ (Kf z)).2
  ·exact absurd hx (c.free' _ (Ae z) rfl)
 ·rcases d e with⟨_,l⟩|o
  ·exact Nat.ne_of_gt (Nat.lt_trans (A b w) l)
  ·exact(hf b w).2.2.2.2.1 y a o
 ·rcases(hf b w).2.2.2.1 with z|z
  ·exact ok.noex b o e z
  ·exact absurd (JM (JM (Jz e) ok.bsz) z) (Nat.lt_irrefl _)
 ·intro z
  rcases JI.mp (I.tj b z)with y|y
  ·exact(hf b w).2.1 y
  ·exact(hf b w).2.2.1 y
 ·refine⟨_,Y,fun i y v f g h3=>?_⟩
  have f:(xs++js.map fun j=>(X.N[j]?).getD ("":Str))[i]?=MA y:=f
  have g:(JJ xs.length (MB:Option V)++js.map fun j=>(σ[j]?).join)[i]?=MA (MA v):=g
  by_cases T:i<xs.length
  ·rw[JO ‹T›,List.getElem?_replicate,MI T]at g
   cases g
  ·have x:y∉xs:=fun J=>by
    rw[Kc ()]at f
    have nd:=c.nd
    unfold cN at nd
    exact(LP.mp nd).2.2 y J y (J8 f) rfl
   rw[Kc ()]at f
   rw[Kc (by simp;omega)]at g
   rw[List.length_replicate]at g
   rw[J6]at f g
   cases K:js[i-xs.length]? with
   |none=>rw[K]at f;cases f
   |some j=>
    rw[K]at f g
    have e1:(X.N[j]?).getD ("":Str)=y:=Option.some.inj f
    have e2:(σ[j]?).join=MA v:=Option.some.inj g
    have e3:σ[j]?=MA (MA v):=by
     cases q:σ[j]? with
     |none=>rw[q]at e2;cases e2
     |some o=>rw[q]at e2;exact congrArg MA e2
    have hj:j<X.N.length:=by rw[<-I.len];exact(Jq.mp e3).1
    have e4:X.N[j]?=MA y:=by
     rw[J0 hj]at e1 ⊢
     exact congrArg MA e1
    have nl:scope.names.lookup y≠MA .local:=by
     have:=c.js j (J8 K)
     rw[e1]at this
     exact this
    have U:(kJ scope s.z X.env).kindOf y=MA .cell\/(kJ scope s.z X.env).kindOf y=MA .free:=by
     rcases h3 with z|z|z
     ·rcases c.kindOf (C:=s.z) ok z with q|⟨q,_⟩
      ·exact absurd q nl
      ·cases q
     ·exact .inl z
     ·exact .inr z
    have B:(y,LX)∈scope.names:=by
     rcases free U with z|z
     ·exact absurd (c.cell _ (Kf z) rfl) x
     ·exact Kf z
    obtain⟨a,W⟩:=qk (env:=X.env) B
    have L:(kJ scope s.z X.env).cells.lookup y=MA a:=by
     show(Lk (s.z+1) scope.names (fy scope.names X.env)).lookup y=MA a
     rw[dg,List.lookup_append]
     cases q:(Lk (s.z+1) scope.names []).lookup y with
     |none=>rw[W];rfl
     |some G=>exact absurd (c.cell _ (jV _ _ (Kf q)) rfl) x
    have E:Vj X.env.scope y:=by
     rcases c.out _ B rfl with z|z
     ·exact .inr (.inl z)
     ·exact .inr (.inr z)
    obtain⟨m,_,hl⟩:=I.loc
    obtain⟨u,r,l⟩:=hl j y v e4 e3 E
    refine⟨u,r,?_⟩
    rcases l with⟨z,_⟩|⟨_,G,M,o,O,hd⟩
    ·rcases c.out _ B rfl with q|q
     ·have F:X.env.kindOf y=MA .local:=z
      rw[q]at F;cases F
     ·have F:X.env.kindOf y=MA .local:=z
      rw[q]at F;cases F
    ·refine .inr ⟨U,G,?_,o,k _ _ O,hd⟩
     have:=Q W
     rw[M]at this
     cases this
     exact L
 ·rcases d e with⟨m,_⟩|o
  ·exact⟨_,(t.empty _ _ m).1⟩
  ·obtain⟨v,o,O,hd⟩:=I.cell y a o
   exact⟨v,o,k _ _ O,hd⟩
 ·rcases d e with⟨_,l⟩|o
  ·exact I.hok.fresh (Nat.le_of_lt l)
  ·exact I.freeC y a o
 ·show(cσ (JJ xs.length MB) js σ).length=(cN X xs js).length
  unfold cσ cN
  simp
end
def Rl(X:Cx)(a:qb)(t:TT):Prop:=∀(MR:pa) (s:J5) (σ:L2.St) (H:Hp) (Q:Bool->Hp->Prop),Inv X MR σ H s->t σ H Q->
 Js (JF X.prog X.w) X.A (forIn a MC fun c r=>if r=MC then do let ok <-isTrue c X.env (eval c X.env);pure (LR ok)else pure (LR r)) (TP X MR σ Q) X.xe s
theorem Bn{X:Cx}:Rl X [] (fun _ H Q=>Q MC H):=fun MR s σ H Q I q=>wpAny_tests_nil ⟨H,I,q⟩
theorem Bv{X:Cx}{c:o_}{t:TT}(h:PT X c t):Rl X [c] t:=fun MR s σ H Q I q=>wpAny_tests_one (h MR s σ H Q I q)
theorem wg{prog:JL}{w:Kg}{A:Kn}{R:Result->J5->Prop}{s:J5}{d a b:o_}{f:qb}{scope:LY}{pos:Pos}{it g:J3}{env:Env}(J:Nat->J5->Prop)
 (step:∀n s,J n s->Js (JF prog w) A (pyNext it) (fun r j=>match r with
  |none=>R (.ok .next) j
  |some v=>Js (JF prog w) A (Lv a it v) (fun _ l=>Js (JF prog w) A (Mp a env v) (fun _ o=>
   Js (JF prog w) A (forIn f MC fun c r=>if r=MC then do let ok <-isTrue c env (eval c env);pure (LR ok)else pure (LR r)) (fun ok k=>
    if ok=MC then Js (JF prog w) A (eval d env) (fun x p=>Js (JF prog w) A (call (.builtin "list.append") [g,x]) (fun _ q=>∃m,m<n/\J m q) Nc p) Nc k
    else ∃m,m<n/\J m k) Nc o) Nc l) Nc j) Nc s)
 (n:Nat) (h:J n s):LM (JF prog w) A (.compLoop (.ListComp d [⟨a,b,f,0⟩] scope pos) 0 it g env) R s:=by
 have i:∀{E:J3->J5->Prop} e t,Nc e t->E e t:=fun _ _ z=>z.elim
 refine codeAny_loop rfl J (fun n s B=>?_) n h
 show Js _ _ (Sem.onRaise (compTurn (.ListComp d [⟨a,b,f,0⟩] scope pos) 0 it g env) (fun x=>do noteFrame x env;theTreesLotGoes x)) _ _ s
 refine wpAny_noted ?_
 rw[compTurn_list]
 refine cc (Lc (cc (JB (step n s B) (fun r j u=>?_) i)))
 cases r with
 |none=>exact J7 u
 |some v=>
  refine cc (JB u (fun _ l C=>cc (JB C (fun _ o D=>cc (JB D (fun ok k y=>?_) i)) i)) i)
  cases ok with
  |false=>exact J7 ⟨rfl,y⟩
  |true=>exact cc (cc (JB y (fun x p F=>cc (JB F (fun _ q G=>J7 (J7 ⟨rfl,G⟩)) i)) i))
abbrev Own:=V->Hp->L2.St->Prop
structure OZ(n:Nat)(g:TG)(own:Own):Prop where
 len:∀y H os,own y H os->os.length=n
 run:∀y H os0 tail os (Q:L2.St->Hp->Prop),os0.length=n->own y H os->Q (os++tail) H->g y (os0++tail) H Q
def CQ(js:pe)(own:Own)(tc:TT)(te:TE)(σ:L2.St)(J:It)(H1:Hp)(Q:VK):Prop:=∀D,H1 D=MB->∃W:Nat->Nat->Hp->Prop,(∃m,W 0 m (upd H1 D (.lst [])))/\∀i m H,W i m H->
 (J.stop i H/\Q (.ref D) H)\/(J.go i H/\∀y c,J.yld i H y c->∃os,own y c os/\tc (cσ os js σ) c fun b d=>if b=MC then
  te (cσ os js σ) d fun v e=>∃xs,e D=MA (.lst xs)/\xs.length<Jv/\∃a,a<m/\W (i+1) a (upd e D (.lst (xs++[v])))else ∃a,a<m/\W (i+1) a d)
def rY(js:pe)(own:Own)(a:TI)(tc:TT)(te:TE):TE:=fun σ H Q=>a σ H fun J H1=>CQ js own tc te σ J H1 Q
section
variable{X:Cx}{xs:ra}{tg:o_}{pos:Pos}{js:pe}{scope:LY}{elt iter:o_}{ifs:qb}{te:TE}{tc:TT}{g:TG}{own:Own}{wi:TI}{MR:pa}{σ:L2.St}{H:Hp}{s:J5}{fp:q_}{it:n_}{tn:Nat->oT->Prop}{J:It}
theorem qm(c:NK X xs js scope)(hc:X.calm=MC)(hG:OZ xs.length g own)(hg:∀C s H fp,PG (NV X xs js scope C s H fp) tg g)(ht:∀C s H fp,Rl (NV X xs js scope C s H fp) ifs tc)(he:∀C s H fp,PE (NV X xs js scope C s H fp) elt te)
 {R:J3->n_->Result->J5->Prop} {E:J3->J5->Prop} {Q:VK}
 (I:Inv X MR σ H s) (T:Turn X.prog X.w X.K tg J fp it tn) (st:tn 0 s.heap) (hf:∀b∈fp,dn X MR H b) (wc:CQ js own tc te σ J H Q)
 (hR:∀D C f F,Inv X MR σ f F->dn X MR f C->(∃m,F.heap.Ns C m)->Q (.ref D) f->R (.ref D) C (.ok .next) F) :
 Js (JF X.prog X.w) X.A (newList []) (fun d0 e0=>Js (JF X.prog X.w) X.A (newFunctionEnv scope X.env.globals (fy scope.names X.env) [] X.env.qual MB .none (MA X.env)) (fun N f0=>
  LM (JF X.prog X.w) X.A (.compStart (.ListComp elt [⟨tg,iter,ifs,0⟩] scope pos) 0 (.ref it) d0 { N with scope:=relabel scope X.env }) (R d0 N.locals) f0) E e0) E s:=by
 have g0:∀b∈fp,b<s.z:=fun b a=>let⟨o,e,_⟩:=T.obj 0 _ st b a;Jz e
 have hD:H s.z=MB:=I.hok.fresh (J9 _)
 refine K7 (pZ ?_)
 generalize hh:s.heap.push { cls:=.type "list",dict:=MB,data:=.seq ([]:List J3).toArray }=h
 generalize h0:pushCells (({ s with heap:=h }:J5).heap.push { cls:=.type "dict",data:=.dict #[] }) scope.names=j
 have k3:∀b o,s.heap.get? b=MA o->h.get? b=MA o:=fun b o e=>by rw[<-hh];exact Jo _ e
 have I3:Inv X MR σ (upd H s.z (.lst [])) { s with heap:=h }:=by
  refine I.laid (t':=s.toks) k3 (J9 _) ?_
  refine⟨Kj _,[],0,.nil,?_⟩
  rw[<-hh]
  exact Jy _ rfl
 have k:∀b∈fp,dn X MR (upd H s.z (.lst [])) b:=fun b a=>⟨by rw[bo (K5 (g0 b a))];exact(hf b a).1,(hf b a).2⟩
 have s0:h.objs.size=s.z+1:=by rw[<-hh,KY]
 have i0:∀b∈fp,b<h.objs.size:=fun b a=>by rw[s0];exact Nat.lt_succ_of_lt (g0 b a)
 have k4:∀b o,h.get? b=MA o->j.get? b=MA o:=fun b o e=>by rw[<-h0];exact pushCells_keeps _ _ b o (Jo _ e)
 have I4:=mF c I3 k i0 (h':=j) h0.symm k4
 obtain⟨W,⟨m0,w0⟩,k0⟩:=wc _ hD
 have Pn:tn 0 j:=T.keep 0 _ _ st fun b a o e=>k4 b o (k3 b o e)
 generalize hX:NV X xs js scope h.objs.size { s with heap:=h } (upd H s.z (.lst [])) fp=X' at I4
 have S:∀{pins':pa} {f:Hp} {G:L2.St} {F:J5},Inv X' [] G f F->(∀b∈fp,f b=MB)->∀b∈fp,dn X' [] f b:=fun{pins' f G F} J' hn b a=>by
  subst hX
  obtain⟨a1,a2⟩:=J'.ok.exf b a
  exact⟨hn b a,a1,J'.ok.exfs b a,.inl a,a2,fun p hp=>absurd (show p∈([]:pa)from hp) (by simp)⟩
 have O:LM (JF X.prog X.w) X.A (.compLoop (.ListComp elt [⟨tg,iter,ifs,0⟩] scope pos) 0 (.ref it) (.ref s.z) (kJ scope h.objs.size X.env)) (R (.ref s.z) h.objs.size)
  { s with heap:=j }:=by
  refine wg (fun n F=>∃i os f,os.length=xs.length/\Inv X' [] (cσ os js σ) f F/\tn i F.heap/\(∀b∈fp,f b=MB)/\W i n f) ?_ m0 ⟨0,_,_,by simp,I4,Pn,fun b a=>(k b a).1,w0⟩
  rintro n s5 ⟨i,os,H5,t0,I5,Ol,l0,w5⟩
  rcases k0 i n H5 w5 with⟨stop,q⟩|⟨go,step⟩
  ·subst hX
   refine JB (T.done (NV X xs js scope h.objs.size { s with heap:=h } (upd H s.z (.lst [])) fp) rfl rfl rfl hc i [] s5 _ H5 Nc I5 (S (pins':=[]) I5 l0) Ol stop) (fun r s6 U=>?_) fun _ _ z=>z
   obtain⟨hr,I6⟩:=U
   subst hr
   refine hR _ _ H5 s6 (I3.xD I6.os I6.base I6.hok I6.bare fun b a=>⟨(k b a).2.2.2.1,(k b a).2.1,(k b a).2.2.2.2.1,(k b a).2.2.2.2.2⟩) (I3.qg (J9 _) I6.free) (let⟨m,hm,_⟩:=I6.loc;⟨m,hm⟩) q
  ·subst hX
   refine JB (T.item (NV X xs js scope h.objs.size { s with heap:=h } (upd H s.z (.lst [])) fp) rfl rfl rfl hc i [] s5 _ H5 Nc I5 (S (pins':=[]) I5 l0) Ol go) (fun r s6 V=>?_) fun _ _ z=>z
   obtain⟨u,hr,h6⟩:=V
   subst hr
   refine JB h6 (fun _ s7 Y=>?_) fun _ _ z=>z
   obtain⟨y,H7,I7,r7,y7,Ot,u0⟩:=Y
   have v0:=I7.pinned (S (pins':=[]) I7 u0) (T.obj _ _ Ot)
   obtain⟨L,n0,q8⟩:=step y H7 y7
   have l8:=hG.len _ _ _ n0
   refine JB (hg _ _ _ _ _ s7 _ H7 y u (fun G f=>G=cσ L js σ/\f=H7) v0 r7 (hG.run y H7 os _ L _ t0 n0 ⟨rfl,rfl⟩)) (fun _ s8 Z=>?_) fun _ _ z=>z
   obtain⟨e1,H8,I8,e8,x0⟩:=Z
   subst e8 x0
   refine JB (ht _ _ _ _ _ s8 _ _ _ I8 q8) (fun ok s9 a0=>?_) fun _ _ z=>z
   obtain⟨H9,I9,q9⟩:=a0
   have P:∀{M:Nat} {l:Hp} {t:J5},Inv (NV X xs js scope h.objs.size { s with heap:=h } (upd H s.z (.lst [])) fp) ([]++gQ fp s7.heap) (cσ L js σ) l t->M<n->W (i+1) M l->
    ∃m,m<n/\∃i os f,os.length=xs.length/\Inv (NV X xs js scope h.objs.size { s with heap:=h } (upd H s.z (.lst [])) fp) [] (cσ os js σ) f t/\tn i t.heap/\(∀b∈fp,f b=MB)/\W i m f:=fun{M l t} x B y0=>by
    refine⟨M,B,i+1,L,l,l8,x.eJ,T.keep _ _ _ Ot fun b a o e=>(x.pin (b,o) (Jw _ (Jw _ (b6 a e)))).1,fun b a=>?_,y0⟩
    obtain⟨o',e,d⟩:=T.obj _ _ Ot b a
    exact(x.pin (b,o') (Jw _ (Jw _ (b6 a e)))).2.1
   cases ok with
   |false=>
    rw[ME JD]at q9 ⊢
    obtain⟨M,B,w9⟩:=q9
    exact P I9 B w9
   |true=>
    rw[MI rfl]at q9 ⊢
    refine JB (he _ _ _ _ _ s9 _ _ _ I9 q9) (fun v t b0=>?_) fun _ _ z=>z
    obtain⟨vv,l,x,z0,ys,o0,r0,b1⟩:=b0
    refine JB (jA (X:=(NV X xs js scope h.objs.size { s with heap:=h } (upd H s.z (.lst [])) fp)) _ t _ l (.ref s.z) [vv] (.ref s.z) [v] (fun _ f=>∃M,M<n/\W (i+1) M f) x rfl (.cons z0 .nil) ⟨_,ys,vv,rfl,rfl,o0,r0,b1⟩) (fun _ f1 c0=>?_) fun _ _ z=>z
    obtain⟨_,g1,c1,_,M,B,d1⟩:=c0
    exact P c1 B d1
 exact codeAny_compStart_list O (T.self X.A 0 _ _ _ Pn O)
theorem Bg(c:NK X xs js scope)(k:X.calm=MC)(l:PI X tg iter wi)(n:OZ xs.length g own)(p:∀C s H fp,PG (NV X xs js scope C s H fp) tg g)(r:∀C s H fp,Rl (NV X xs js scope C s H fp) ifs tc)(t:∀C s H fp,PE (NV X xs js scope C s H fp) elt te)(u:∀x,JZ iter X.env x=pure x:=by intro _;rfl) : PE X (.ListComp elt [⟨tg,iter,ifs,0⟩] scope pos) (rY js own wi tc te):=by intro MR s σ H Q I h;rw[eval_ListComp];refine wpAny_comprehension_free (use:=MB) rfl u (c.A3 I.ok) c.kind c.names (NO (l MR s σ H _ I h) fun v M y=>NO y fun z N a=>?_);obtain⟨it,fp,tn,J,O,e,B,T,st,E,w⟩:=a;subst e;refine qm (R:=fun i C=>compPost (JF X.prog X.w) X.A X.xe MB (EP X MR σ Q) i C) c k n p r t B T st E w fun D C F G K f d q=>?_;obtain⟨m,L⟩:=d;exact⟨m,L,fun P j=>⟨.ref D,F,K.turned (t':=G.toks) (fun b o ne e=>j.extBut b o ne e) f.1 f.2.1 f.2.2.2.1 f.2.2.2.2.1 f.2.2.2.2.2,rfl,q⟩⟩
theorem AY{i:Nat}{y:Str}{l j:Pos}(c:NK X xs js scope)(F:X.calm=MC)(G:X.N.Nodup)(K:PI X tg iter wi)(L:OZ xs.length g own)(M:∀C s H fp,PG (NV X xs js scope C s H fp) tg g)(O:∀C s H fp,Rl (NV X xs js scope C s H fp) ifs tc)(P:∀C s H fp,PE (NV X xs js scope C s H fp) elt te)(S:X.N[i]?=MA y)(E:X.env.scope.names.lookup y=MA .local)
 (p:Mo (.ListComp elt [⟨tg,iter,ifs,0⟩] scope pos) (MA (.Name y l)) j.line X.env=pure MC) (U:∀x,JZ iter X.env x=pure x:=by intro _;rfl) :
 PS X (.Assign [.Name y l] (.ListComp elt [⟨tg,iter,ifs,0⟩] scope pos) j) (AI (rY js own wi tc te) (gv i)):=by
 intro MR s σ H B I h
 rw[exec_Assign_Name_used _ _ _ _ p]
 refine cc (Lc (cc ?_))
 show Js _ X.A (do let _ <-comprehension (.ListComp elt [⟨tg,iter,ifs,0⟩] scope pos) scope X.env _ (newList []) MD (eval iter X.env) (MA (Mp (.Name y l) X.env))) _ _ s
 refine cc (JB (wpAny_comprehension_free (use:=MA (Mp (.Name y l) X.env)) (Q:=fun _ n=>SP X MR B .next n) rfl U (c.A3 I.ok) c.kind c.names
  (NO (K MR s σ H _ I h) fun v s1 V=>NO V fun W s2 z=>?_)) (fun _ n Y=>J7 (J7 Y)) fun _ _ e=>e)
 obtain⟨it,fp,tn,J,H2,e,Z,T,st,f2,w⟩:=z
 subst e
 refine qm (R:=fun r C=>compPost (JF X.prog X.w) X.A X.xe (MA (Mp (.Name y l) X.env)) (fun _ n=>SP X MR B .next n) r C) c F L M O P Z T st f2 w fun D C H' n I' k d q=>?_
 obtain⟨m,hm⟩:=d
 show Js _ X.A (Mp (.Name y l) X.env (.ref D)) _ _ _
 refine wpAny_assign_Name (jH I' G S (.inl E) (v:=.ref D) rfl (fun s9 I9 f=>?_) (.inr E))
 obtain⟨a,sb,ha⟩:=f
 have t:C≠a:=by
  rcases ha with z|z
  ·rw[z];exact k.2.1
  ·exact fun e=>k.2.2.2.2.1 y a z e.symm
 refine⟨m,hm.sameBut sb t,fun h' u=>?_⟩
 exact⟨_,H',I9.turned (t':=s9.toks) (fun b o ne e=>u.extBut b o ne e) k.1 k.2.1 k.2.2.2.1 k.2.2.2.2.1 k.2.2.2.2.2,q⟩
end
inductive Py where
 |one|many (n:Nat)
def rC(K:J1):Py->Own
 |.one=>fun y _ os=>os=[MA y]
 |.many n=>fun y H os=>∃a xs,y=.ref a/\N0 K H a xs/\xs.length=n/\os=xs.map MA
theorem sY{K:J1}:OZ 1 (gv 0) (rC K .one):=⟨fun _ _ os h=>by rw[h];rfl,fun y H b a os Q c d q=>by
 obtain⟨o,rfl⟩:=BI c
 rw[show os=[MA y]from d]at q;exact q⟩
theorem Dv{K:J1}:OZ 2 (D9 K 2 (qN (gv 0) (qN (gv 1) Fb))) (rC K (.many 2)):=⟨fun _ _ os z=>by
 obtain⟨a,xs,_,_,b,e⟩:=z
 rw[e];simpa using b,fun y H f c os Q b z q=>by
 obtain⟨a,xs,e,g,d,h⟩:=z
 obtain⟨o,i,rfl⟩:=yU b
 obtain⟨u,v,rfl⟩:=yU d
 rw[h]at q;exact⟨a,_,e,g,d,u,_,rfl,v,_,rfl,rfl,q⟩⟩
def zo:Py->D->DS->Prop
 |.one,d,os=>os=[MA d]
 |.many n,d,os=>∃a,d=.tup a/\a.length=n/\os=a.map MA
def cδ(os:DS)(js:pe)(δ:DS):DS:=os++js.map fun j=>(δ[j]?).join
theorem k8{K:J1}{H:Hp}{δ os:DS}{σ us:L2.St}{js:pe}(c:Slots K H δ σ)(r:Slots K H os us):Slots K H (cδ os js δ) (cσ us js σ):=by
 refine⟨by simp[cδ,cσ,r.len],fun i e q=>?_⟩;unfold cδ at q;unfold cσ;by_cases a:i<os.length
 ·rw[JO a]at q;rw[JO (by rw[<-r.len];exact a)];exact r.at' i e q
 ·rw[Kc ()]at q;rw[Kc (by rw[<-r.len];omega),<-r.len];rw[J6]at q ⊢;cases b:js[i-os.length]? with
  |none=>rw[b]at q;cases q
  |some j=>
   rw[b]at q
   have e2:(δ[j]?).join=MA e:=Option.some.inj q
   have e3:δ[j]?=MA (MA e):=by
    cases z:δ[j]? with
    |none=>rw[z]at e2;cases e2
    |some o=>rw[z]at e2;exact congrArg MA e2
   obtain⟨d,e4,f⟩:=c.at' j e e3
   exact⟨d,by rw[show(MA j).map (fun j=>(σ[j]?).join)=MA ((σ[j]?).join)from rfl,e4];rfl,f⟩
theorem jI{K:J1}{H:Hp}{a:rv}{xs:ri}(r:aK K H a xs):Slots K H (a.map MA) (xs.map MA):=by
 refine⟨by simp[r.length],fun i d e=>?_⟩;rw[J6]at e ⊢;cases q:a[i]? with
 |none=>rw[q]at e;cases e
 |some b=>
  rw[q]at e;cases e
  obtain⟨x,e1,e2⟩:=r.get q
  exact⟨x,by rw[e1];rfl,e2⟩
theorem qX{K:J1}{H:Hp}{tk:Py}{d:D}{v:V}{os:DS}(r:Rep K H d v)(h:zo tk d os):∃us,rC K tk v H us/\Slots K H os us:=by
 cases tk with
 |one=>
  rw[show os=[MA d]from h]
  exact⟨[MA v],rfl,jI (.cons r .nil)⟩
 |many n=>
  obtain⟨f,rfl,c,rfl⟩:=h
  rw[Rep]at r
  obtain⟨a,xs,rfl,e,b⟩:=r
  exact⟨_,⟨a,xs,rfl,e,by rw[<-b.length];exact c,rfl⟩,jI b⟩
def jM:Nh:=fun _ M Q=>Q MC M
def zh(I:Qu)(tk:Py)(js:pe)(tc:Nh)(te:TD)(δ:DS)(f:MH)(Q:DK):Prop:=I.n<=1000000/\∀p,f p=MB->∃W:Nat->rv->MH->Prop,W 0 [] (az f p (.lst []))/\(∀i a M,i<=I.n->W i a M->I.C M)/\
 (∀i a d M,i<I.n->I.item i=MA d->W i a M->∃os,zo tk d os/\tc (cδ os js δ) M fun b g=>if b=MC then te (cδ os js δ) g fun e h=>∃c,Sub c h/\c p=MA (.lst a)/\W (i+1) (a++[e]) (az c p (.lst (a++[e])))else ∃c,Sub c g/\W (i+1) a c)/\∀a M,W I.n a M->Q (.ref p) M
def jK(a:OV)(tk:Py)(js:pe)(tc:Nh)(te:TD):TD:=fun δ M Q=>a δ M fun I b=>zh I tk js tc te δ b Q
section
variable{X:Cx}{K:J1}
theorem oF{D:OV}{tk:Py}{js:pe}{tc:Nh}{te:TD}{σ:L2.St}{H:Hp}{Q:VK}(h:lift K (jK D tk js tc te) σ H Q):rY js (rC K tk) (mv K D) (liftT K tc) (lift K te) σ H Q:=by
 obtain⟨δ,M,R,E,T,q,t⟩:=h;refine⟨δ,M,_,E,T,q,fun I M1 H1 J F G w x p y=>?_⟩;obtain⟨U,w⟩:=w;obtain⟨W,V,hC,l,done⟩:=w p (G.fresh y);refine⟨fun i m j=>m=I.n-i/\i<=I.n/\NN K H1 j/\∃c M,c.length<=i/\NW K j M/\W i c M,⟨I.n,by simp,Kj _,.new y,[],_,J9 _,G.nt y .nil,V⟩,?_⟩;rintro i m j ⟨rfl,z,f,c,k,Y,r,o⟩;by_cases a:i<I.n
 ·refine .inr ⟨x.go i j k a f r (hC _ _ _ z o),fun v Z hy=>?_⟩;obtain⟨A,a3,d,ed,rd⟩:=x.yld i j k v Z a f r (hC _ _ _ z o) hy;obtain⟨os,ow,q3⟩:=l i c d k a ed o;obtain⟨us,uv,su⟩:=qX rd ow;have L:=k8 (js:=js) (E.mono ((F.trans f).trans A)) su;refine⟨us,uv,cδ os js δ,k,_,L,a3,q3,fun b M4 H4 B N s=>?_⟩;cases b with
  |false=>
   rw[ME JD]at s ⊢
   obtain⟨M5,s5,w5⟩:=s
   exact⟨I.n-(i+1),(),rfl,a,(f.trans A).trans B,c,M5,(),N.sub s5,w5⟩
  |true=>
   rw[MI rfl]at s ⊢
   refine⟨cδ os js δ,M4,_,L.mono B,N,s,fun e M' u H5 g5 r5 O g=>?_⟩
   obtain⟨M6,P,e6,w6⟩:=g
   obtain⟨zs,C,S⟩:=(O.sub P) _ _ e6
   refine⟨zs,C,?_,I.n-(i+1),(),rfl,a,(((f.trans A).trans B).trans g5).trans (.lst C),c++[e],_,by simp;omega,(O.sub P).xf C (S.append (.cons r5 .nil)),w6⟩
   rw[<-S.length]
   exact Nat.lt_of_le_of_lt Y (JM a (Kr U ⋯))
 ·obtain rfl:i=I.n:=()
  exact .inl ⟨x.stop j k f r (hC _ _ _ z o),t _ _ _ _ (F.trans f) (by rw[Rep]) r (done c k o)⟩
variable{xs:ra}{tg:o_}{pos:Pos}{js:pe}{scope:LY}{elt iter:o_}{ifs:qb}{te:TD}{tc:Nh}{g:TG}{tk:Py}{wd:OV}
namespace Zq
@[scoped irreducible]def _root_.SD.DTs(X:Cx)(ifs:qb)(t:Nh):Prop:=Rl X ifs (liftT X.K t)
end Zq
theorem cD:DTs X [] jM:=fun MR s σ H Q I a=>by obtain⟨δ,M,R,d,c,q,b⟩:=a;exact(Bn MR s σ H Q I (b _ _ _ .refl c q))
theorem g8{c:o_}{t:Nh}(h:DT X c t):DTs X [c] t:=Bv h
theorem uk(c:NK X xs js scope)(a:X.calm=MC)(b:DI X tg iter wd)(d:OZ xs.length g (rC X.K tk))(e:∀C s H fp,PG (NV X xs js scope C s H fp) tg g)(f:∀C s H fp,DTs (NV X xs js scope C s H fp) ifs tc)(i:∀C s H fp,DE (NV X xs js scope C s H fp) elt te) (j:∀x,JZ iter X.env x=pure x:=by intro _;rfl):DE X (.ListComp elt [⟨tg,iter,ifs,0⟩] scope pos) (jK wd tk js tc te):=bw (Bg (te:=lift X.K te) (tc:=liftT X.K tc) c a b d e f i j) fun _ _ _ h=>oF h
theorem Bx(i:Nat){y:Str}{j b:Pos}(l:X.N.Nodup)(c:NK X xs js scope)(m:X.calm=MC)(n:DI X tg iter wd)(o:OZ xs.length g (rC X.K tk))(p:∀C s H fp,PG (NV X xs js scope C s H fp) tg g)(r:∀C s H fp,DTs (NV X xs js scope C s H fp) ifs tc)(t:∀C s H fp,DE (NV X xs js scope C s H fp) elt te) (u:X.N[i]?=MA y:=by rfl) (w:X.env.scope.names.lookup y=MA .local:=by rfl) (h:Mo (.ListComp elt [⟨tg,iter,ifs,0⟩] scope pos) (MA (.Name y j)) b.line X.env=pure MC:=by rfl) (f:∀x,JZ iter X.env x=pure x:=by intro _;rfl) : DSt X (.Assign [.Name y j] (.ListComp elt [⟨tg,iter,ifs,0⟩] scope pos) b) (eD (jK wd tk js tc te) (aR i)):=dh (AY (te:=lift X.K te) (tc:=liftT X.K tc) c m l n o p r t u w h f) fun E σ H e=>by obtain⟨δ,M,f,a,B,ok,q⟩:=e;exact(oF ⟨δ,M,_,f,a,q,fun d F v H1 k z A D=>ok.nx _ _ _ _ k ((f.mono k).set z i) A D⟩)
theorem comp_map{I:Qu}{tk:Py}{js:pe}{te:TD}{δ:DS}{a:MH}{Q:DK}(f:Nat->D)(e:I.n<=1000000)(hC:∀p ys,a p=MB->I.C (az a p (.lst ys))) (h:∀i d M,i<I.n->I.item i=MA d->Sub a M->∃os,zo tk d os/\∀K:DK,(∀b,Sub M b->K (f i) b)->te (cδ os js δ) M K) (j:∀p,a p=MB->Q (.ref p) (az a p (.lst ((Jp I.n).map f)))):zh I tk js jM te δ a Q:=by
 refine⟨e,fun p c=>⟨fun i ys M=>ys=(Jp i).map f/\M=az a p (.lst ys),⟨rfl,rfl⟩,?_,?_,?_⟩⟩
 ·rintro i ys M _ ⟨_,rfl⟩;exact hC p ys c
 ·rintro i ys d M l hd ⟨rfl,rfl⟩;obtain⟨os,m,k⟩:=h i d _ l hd (.new c .refl);refine⟨os,m,?_⟩;unfold jM;refine zF (k _ ?_);exact fun b o=>⟨_,o,ag,by rw[KJ,Jx];rfl,by rw[bW]⟩
 ·rintro ys M ⟨rfl,rfl⟩;exact j p c
end
def Gf(X:Cx)(xs:ra)(js:pe)(scope:LY):Bool:=
 scope.kind==.function&&scope.names.all (fun y=>(y.2 != .cell||xs.contains y.1)&&(y.2 != .free||!xs.contains y.1))&&scope.names.all (fun y=>y.2 != .local||scope.names.lookup y.1==MA .local)&&xs.all (fun x=>scope.names.lookup x==MA .local||scope.names.lookup x==MA .cell) &&
  scope.names.all (fun y=>y.2 != .free||(X.env.kindOf y.1==MA .cell||X.env.kindOf y.1==MA .free))&&decide (cN X xs js).Nodup&&js.all (fun j=>scope.names.lookup ((X.N[j]?).getD ("":Str)) != MA .local)
theorem NK.of{X:Cx}{xs:ra}{js:pe}{scope:LY}(h:Gf X xs js scope=MC):NK X xs js scope:=by
 unfold Gf at h;simp only[JN]at h;obtain⟨⟨⟨⟨⟨⟨c,b⟩,d⟩,e⟩,f⟩,g⟩,i⟩:=h;refine⟨‹c›,fun y a k=>?_,fun y a hf=>?_,fun y a l=>?_,fun x m=>?_,fun y a hf=>?_,ML g,fun j n=>?_⟩
 ·have:=Kl.mp b y a;rw[k]at this;simpa using this
 ·have:=Kl.mp b y a;rw[hf]at this;simpa using this
 ·have:=Kl.mp d y a;rw[l]at this;simpa using this
 ·have:=Kl.mp e x m;simpa using this
 ·have:=Kl.mp f y a;rw[hf]at this;simpa using this
 ·have:=Kl.mp i j n;simpa using this
abbrev SS:=DS->MH->(pw->MH->Prop)->Prop
def ve(K:J1)(t:SS):TO:=fun σ H Q=>∃δ M R,Slots K H δ σ/\NW K H M/\t δ M R/\∀o b a,NN K H a->NW K a b->R o b->Q o a
def zt:SS:=fun _ M Q=>Q MB M
def yZ(t:TD):SS:=fun δ M Q=>t δ M fun x a=>∃i,x=.int i/\Q (MA i) a
def cutD(xs:rv)(a b:pw):rv:=(xs.drop (HT.sIx xs.length 0 a)).take (HT.sIx xs.length xs.length b-HT.sIx xs.length 0 a)
def Fz:D->pw->pw->MH->DK->Prop:=fun x c d M Q=>match x with
 |.ref a=>∃b,M a=MA (.lst b)/\∀p,M p=MB->Q (.ref p) (az M p (.lst (cutD b c d)))
 |.rol b=>∀p,M p=MB->Q (.ref p) (az M p (.lst (cutD b c d)))
 |.tup b=>¬(HT.sIx b.length 0 c=0/\HT.sIx b.length b.length d=b.length)/\Q (.tup (cutD b c d)) M
 |_=>False
def Ii(te:TD)(a b:SS):TD:=fun δ M Q=>te δ M fun x c=>a δ c fun l d=>b δ d fun u e=>Fz x l u e Q
theorem aK.cut{K:J1}{H:Hp}{a:rv}{xs:ri}(h:aK K H a xs)(b c:pw):aK K H (cutD a b c) (rA xs b c):=by unfold cutD rA;rw[h.length];exact(h.drop _).take _
section
variable{X:Cx}{e a:o_}{te:TD}{tl th:SS}{lo hi:Option o_}{pos p2:Pos}
theorem zw{e:Option o_}{t t':TO}(h:PO X e t)(k:∀σ H Q,t' σ H Q->t σ H Q):PO X e t':=fun MR s σ H Q I q=>h MR s σ H Q I (k _ _ _ q)
theorem vE:PO X MB (ve X.K zt):=zw Br fun σ H Q b=>by obtain⟨δ,M,R,d,a,q,c⟩:=b;exact(c _ _ _ .refl a q)
theorem ph(h:DE X e te):PO X (MA e) (ve X.K (yZ te)):=zw (AB h) fun σ H Q b=>by obtain⟨δ,M,R,g,a,q,c⟩:=b;exact(⟨δ,M,_,g,a,q,fun d o v H1 j f k l=>by
 obtain⟨i,m,n⟩:=l
 subst m
 rw[Rep]at f
 exact⟨i,f,c _ _ _ j k n⟩⟩)
theorem qZ(r:DE X a te)(s:PO X lo (ve X.K tl))(t:PO X hi (ve X.K th)):DE X (.Subscript a (.Slice lo hi MB p2) pos) (Ii te tl th):=
 bw (yo (A5.or Ej) r s t) fun σ H Q f=>by obtain⟨δ,M,R,m,a,q,g⟩:=f;exact(⟨δ,M,_,m,a,q,fun x w v H1 n y A B=>⟨δ,w,_,m.mono n,A,B,fun l C I o D E=>⟨δ,C,_,m.mono (n.trans o),D,E,fun u J L p h d=>by
  have G:=(n.trans o).trans p
  have j:=y.mono (o.trans p)
  unfold Fz at d
  split at d
  ·obtain⟨N,e3,d⟩:=d
   obtain rfl:v=.ref _:=j
   obtain⟨xs,k,i⟩:=h _ _ e3
   exact .inl ⟨_,xs,rfl,NX.of k,fun z c=>g _ _ _ _ (G.trans (.new c)) (by rw[Rep]) (h.nt c (i.cut _ _)) (d z (h.fresh c))⟩
  ·rw[Rep]at j
   obtain⟨b,xs,rfl,k,i⟩:=j
   exact .inl ⟨_,xs,rfl,k.sql,fun z c=>g _ _ _ _ (G.trans (.new c)) (by rw[Rep]) (h.nt c (i.cut _ _)) (d z (h.fresh c))⟩
  ·obtain⟨F,d⟩:=d
   rw[Rep]at j
   obtain⟨b,xs,rfl,k,i⟩:=j
   exact .inr ⟨_,xs,rfl,k,by rw[<-i.length];exact F,fun z c=>g _ _ _ _ (G.trans (.new c)) (by rw[Rep];exact⟨z,_,rfl,N0.of bD,(i.cut _ _).mono (.new c)⟩) (h.new c) d⟩
  ·exact d.elim⟩⟩⟩)
end
section
variable{X:Cx}{x y z:Str}{px py pz pt pos:Pos}{kt:Nat}{js:pe}{scope:LY}{elt iter:o_}{ifs:qb}{te:TD}{tc:Nh}{wd:OV}{xs:ra}
theorem iV(c:NK X xs js scope)(i:Nat)(a:xs[i]?=MA x){C:n_}{s:J5}{H:Hp}{fp:q_}:PG (NV X xs js scope C s H fp) (.Name x px) (gv i):=by
 have d:i<xs.length:=(Jq.mp a).1;have b:=J8 a
 have e:Loc (NV X xs js scope C s H fp).env.scope x:=by
  rcases c.own x b with z|z
  ·exact .inl (fU ⋯ z)
  ·exact .inr (fU ⋯ z)
 refine vm (i:=i) c.nd ?_ e (.inl (by show xs.contains x=MC;simpa using b));show(xs++js.map fun j=>(X.N[j]?).getD ("":Str))[i]?=MA x;rw[JO d];exact a
theorem AQ(c:NK X [x,y] js scope)(a:X.calm=MC){C:n_}{s:J5}{H:Hp}{fp:q_}:PG (NV X [x,y] js scope C s H fp) (.Tuple [.Name x px,.Name y py] kt pt) (D9 X.K 2 (qN (gv 0) (qN (gv 1) Fb))):=z5 (X:=NV X [x,y] js scope C s H fp) a (mE (iV c 0 rfl) (mE (iV c 1 rfl) uK)) rfl rfl
theorem fE(c:NK X [x] js scope)(a:X.calm=MC)(b:DI X (.Name x px) iter wd)(d:∀C s H fp,DTs (NV X [x] js scope C s H fp) ifs tc)(e:∀C s H fp,DE (NV X [x] js scope C s H fp) elt te) (f:∀x,JZ iter X.env x=pure x:=by intro _;rfl):DE X (.ListComp elt [⟨.Name x px,iter,ifs,0⟩] scope pos) (jK wd .one js tc te):=uk c a b sY (fun _ _ _ _=>iV c 0 rfl) d e f
theorem lW(c:NK X [x,y] js scope)(a:X.calm=MC)(b:DI X (.Tuple [.Name x px,.Name y py] kt pt) iter wd)(d:∀C s H fp,DTs (NV X [x,y] js scope C s H fp) ifs tc)(e:∀C s H fp,DE (NV X [x,y] js scope C s H fp) elt te) (f:∀x,JZ iter X.env x=pure x:=by intro _;rfl):DE X (.ListComp elt [⟨.Tuple [.Name x px,.Name y py] kt pt,iter,ifs,0⟩] scope pos) (jK wd (.many 2) js tc te):=uk c a b Dv (fun _ _ _ _=>AQ c a) d e f
theorem cX(i:Nat){v:Str}{d a:Pos}(e:X.N.Nodup)(c:NK X [x] js scope)(f:X.calm=MC)(g:DI X (.Name x px) iter wd)(h:∀C s H fp,DTs (NV X [x] js scope C s H fp) ifs tc)(j:∀C s H fp,DE (NV X [x] js scope C s H fp) elt te) (k:X.N[i]?=MA v:=by rfl) (l:X.env.scope.names.lookup v=MA .local:=by rfl) (b:Mo (.ListComp elt [⟨.Name x px,iter,ifs,0⟩] scope pos) (MA (.Name v d)) a.line X.env=pure MC:=by rfl) (m:∀x,JZ iter X.env x=pure x:=by intro _;rfl) : DSt X (.Assign [.Name v d] (.ListComp elt [⟨.Name x px,iter,ifs,0⟩] scope pos) a) (eD (jK wd .one js tc te) (aR i)):=Bx i e c f g sY (fun _ _ _ _=>iV c 0 rfl) h j k l b m
end
section
variable{prog:JL}{w:Kg}{A:Kn}{E:J3->J5->Prop}{s:J5}
theorem zl{N L:String}{op:CmpOp}{a b:J3}{c:Bool}{Q:J3->J5->Prop}(n:(N="max"/\L="max.loop"/\op=.Gt)\/(N="min"/\L="min.loop"/\op=.Lt))(hh:A.handled=MB)
 (R:∀(t:J5) (Q':J3->J5->Prop) (E':J3->J5->Prop),(∀x o,s.heap.get? x=MA o->t.heap.get? x=MA o)->Q' (.bool c) t->Js (JF prog w) A.in1 (richCompare op b a) Q' E' t)
 (h:∀h' tk,(∀x o,s.heap.get? x=MA o->h'.get? x=MA o)->Q (if c=MC then b else a) { s with heap:=h',toks:=tk }) :
 Js (JF prog w) A (call (.builtin N) [a,b]) Q E s:=by
 rcases n with⟨rfl,P,rfl⟩|⟨rfl,P,rfl⟩
 have D:(toString "max"++toString ".loop":String)=L:=by rw[P];decide
 have i:=F.plain_max_loop
 have G:=F.entry_max_loop
 refine call_function_tree F.kind_max F.plain_max F.entry_max (F.args_max2 _ _) ?_
 rotate_left
 have D:(toString "min"++toString ".loop":String)=L:=by rw[P];decide
 have i:=LD
 have G:=F.entry_min_loop
 refine call_function_tree F.kind_min F.plain_min F.entry_min (F.args_min2 _ _) ?_
 all_goals
  rw[<-P]at i G
  show Js _ A.in1 (Builtin.Builtins.bindParams _ ["key","default"] 0 ⟨[],[]⟩ >>= fun _=>_) _ _ s
  refine cc (wpAny_of_eq (a:=[MB,MB]) rfl ?_)
  show Js _ A.in1 (newTuple [a,b] >>= fun _=>_) _ _ s
  refine cc (K7 ?_)
  generalize e1:s.heap.push { cls:=.type "tuple",dict:=MB,data:=.seq ([a,b]:List J3).toArray }=k
  have k1:∀x o,s.heap.get? x=MA o->k.get? x=MA o:=fun x o q=>by rw[<-e1];exact Jo _ q
  have hT:k.IsTuple s.z #[a,b]:=by rw[<-e1];exact⟨_,Jy _ rfl,rfl,0,rfl⟩
  have z1:k.objs.size=s.z+1:=by rw[<-e1,KY]
  refine cc (wpAny_pyIter_tuple (s:={ s with heap:=k }) hT ?_)
  refine cc (K7 ?_)
  dsimp only
  generalize eI:k.objs.size=I
  generalize e2:k.push _=z
  have k2:∀x o,k.get? x=MA o->z.get? x=MA o:=fun x o q=>by rw[<-e2];exact Jo _ q
  have hI:z.IsTupleIter I s.z 0:=by rw[<-e2,<-eI];exact⟨_,Jy _ rfl,rfl,rfl⟩
  have z2:z.objs.size=I+1:=by rw[<-e2,KY,eI]
  generalize eS:z.objs.size=S
  generalize e3:z.push _=l
  have T:∀x o,z.get? x=MA o->l.get? x=MA o:=fun x o q=>by rw[<-e3];exact Jo _ q
  have hS:l.get? S=MA { cls:=.type "list",dict:=MB,data:=.seq #[] 0,slots:=#[] }:=by rw[<-e3,<-eS];exact Jy _ rfl
  have H:S≠I:=()
  have g:∀x o,s.heap.get? x=MA o->x≠I/\x≠S:=fun x o q=>⟨K5 (JM (Jz q) ()),K5 (JM (Jz q) ())⟩
  have J:l.IsTuple s.z #[a,b]:=by
   obtain⟨o,q,r⟩:=hT
   exact⟨o,T _ _ (k2 _ _ q),r⟩
  have U:l.IsTupleIter I s.z 0:=hI.at fun o q=>T _ _ q
  have TI:s.z≠I:=()
  have TS:s.z≠S:=()
  have m:∀x o,s.heap.get? x=MA o->l.get? x=MA o:=fun x o q=>T _ _ (k2 _ _ (k1 _ _ q))
  rw[D]
  refine J7 ⟨LK i _,?_⟩
  have f:∀(t:J5) (v:J3) (n:Nat),t.heap.IsTupleIter I s.z 2->t.heap.IsTuple s.z #[a,b]->t.heap.get? S=MA { cls:=.type "list",dict:=MB,data:=.seq #[v,v] n,slots:=#[] }->
   (∃h' tk,t={ s with heap:=h',toks:=tk }/\∀x o,s.heap.get? x=MA o->h'.get? x=MA o)->v=(if c=MC then b else a)->LM (JF prog w) A (.builtin L ⟨[.ref I,.none,.ref S],[]⟩) (fun r s'=>match r with|.ok (.ret v)=>Q v s'|.ok _=>False|.error e=>E e s') t:=by
   rintro t v n i2 tT lS ⟨h',tk,rfl,kt⟩ ev
   refine Ly G ?_
   rw[KZ i _]
   show Js _ A.in1 (seqItems? (.ref S) >>= fun _=>_) _ _ _
   refine cc (Mb lS rfl ?_)
   show Js _ A.in1 (tryCatch (pyNext (.ref I)) _ >>= fun _=>_) _ _ _
   refine cc (Mc (wpAny_pyNext_tuple_end (A:=A.in1) hh i2 tT (by simp) fun B C=>?_))
   have V:B.get? S=MA _:=C _ _ H lS
   show Js _ A.in1 (updateSeq S (fun _=>#[]) >>= fun _=>_) _ _ _
   refine cc (wpAny_updateSeq V rfl (cc (wpAny_letGo (J7 ?_))))
   show Q v _
   rw[ev]
   exact h _ _ fun x o q=>(Kd _ _ (g x o q).2.symm).trans (C x o (g x o q).1 (kt x o q))
  refine Ly G ?_
  rw[KZ i _]
  show Js _ A.in1 (seqItems? (.ref S) >>= fun _=>_) _ _ _
  refine cc (Mb (s:={ s with heap:=l }) hS rfl ?_)
  show Js _ A.in1 (tryCatch (pyNext (.ref I)) _ >>= fun _=>_) _ _ _
  refine cc (Mc (wpAny_pyNext_tuple_item (s:={ s with heap:=l }) U J (x:=a) (by simp) fun B i4 C=>?_))
  have K:B.get? S=MA _:=(C.2 _ H).trans hS
  have W:B.IsTuple s.z #[a,b]:=by
   obtain⟨o,q,r⟩:=J
   exact⟨o,(C.2 _ TI).trans q,r⟩
  show Js _ A.in1 (updateSeq S (fun _=>#[a,a]) >>= fun _=>_) _ _ _
  refine cc (wpAny_updateSeq K rfl ?_)
  rw[D]
  refine J7 ⟨LK i _,?_⟩
  generalize e5:B.update S _=p
  have X:∀x,x≠S->p.get? x=B.get? x:=fun x q=>by rw[<-e5];exact Kd _ _ q.symm
  have j:∃n,p.get? S=MA { cls:=.type "list",dict:=MB,data:=.seq #[a,a] n,slots:=#[] }:=⟨_,by rw[<-e5];exact Lb _ K rfl⟩
  obtain⟨n5,j⟩:=j
  have i5:p.IsTupleIter I s.z 1:=i4.at fun o q=>(X _ H.symm).trans q
  have M:p.IsTuple s.z #[a,b]:=by
   obtain⟨o,q,r⟩:=W
   exact⟨o,(X _ TS).trans q,r⟩
  have u:∀x o,s.heap.get? x=MA o->p.get? x=MA o:=fun x o q=>(X _ (g x o q).2).trans ((C.2 _ (g x o q).1).trans (m x o q))
  refine Ly G ?_
  rw[KZ i _]
  show Js _ A.in1 (seqItems? (.ref S) >>= fun _=>_) _ _ _
  refine cc (Mb (s:={ s with heap:=p }) j rfl ?_)
  show Js _ A.in1 (tryCatch (pyNext (.ref I)) _ >>= fun _=>_) _ _ _
  refine cc (Mc (wpAny_pyNext_tuple_item (s:={ s with heap:=p }) i5 M (x:=b) (by simp) fun Y i6 Z=>?_))
  have y:Y.get? S=MA _:=(Z.2 _ H).trans j
  have O:Y.IsTuple s.z #[a,b]:=by
   obtain⟨o,q,r⟩:=M
   exact⟨o,(Z.2 _ TI).trans q,r⟩
  have d:∀x o,s.heap.get? x=MA o->Y.get? x=MA o:=fun x o q=>(Z.2 _ (g x o q).1).trans (u x o q)
  show Js _ A.in1 (tryCatch (holding [b,b] (richCompare _ b a >>= fun _=>_)) _ >>= fun _=>_) _ _ _
  refine cc (Mc (KC (cc (R _ _ _ d ?_))))
  refine cc (KC (KN ?_))
  refine cc (wpAny_letGo (J7 ?_))
  cases c with
  |true=>
   simp only[if_true]at f ⊢
   refine cc (wpAny_updateSeq y rfl (cc (wpAny_letGo ?_)))
   rw[D]
   refine J7 ⟨LK i _,f _ b _ (i6.at fun o q=>(Kd _ _ H).trans q) ?_ (Lb _ y rfl) ⟨_,_,rfl,fun x o q=>(Kd _ _ (g x o q).2.symm).trans (d x o q)⟩ rfl⟩
   obtain⟨o,q,r⟩:=O
   exact⟨o,(Kd _ _ TS.symm).trans q,r⟩
  |false=>
   simp only[Lj,if_false]at f ⊢
   refine cc (wpAny_letGo ?_)
   rw[D]
   exact J7 ⟨LK i _,f _ a _ i6 O y ⟨_,_,rfl,d⟩ rfl⟩
end
end SD
namespace HT
open PySem PyProof.Rows
def lexLe:pq->pq->Bool
 |[],[]=>MC
 |[],_::_=>MC
 |_::_,[]=>MD
 |x::xs,y::ys=>if x=y then lexLe xs ys else decide (x<=y)
def dM:pq->pq->Bool
 |[],[]=>MD
 |[],_::_=>MD
 |_::_,[]=>MC
 |x::xs,y::ys=>if x=y then dM xs ys else decide (y<x)
def ma(k:Bool)(ns ms:pq):Bool:=bif k then dM ns ms else lexLe ns ms
theorem wC(k:Bool)(x y:Int)(xs ys:pq):ma k (x::xs) (y::ys)=if x=y then ma k xs ys else bif k then decide (y<x)else decide (x<=y):=by cases k<;>rfl
theorem AS{k:Bool}{ns ms:pq}{a b:Nat}(z:ns=[]\/ms=[])(h:ns.length+b=ms.length+a):ma k ns ms=bif k then decide (a>b)else decide (a<=b):=by
 have e:ma k ns ms=bif k then decide (ns.length>ms.length)else decide (ns.length<=ms.length):=by
  rcases z with rfl|rfl
  ·cases k<;>cases ms<;>simp[ma,lexLe,dM]
  ·cases k<;>cases ns<;>simp[ma,lexLe,dM]
 rw[e];cases k
 ·exact decide_eq_decide.mpr ()
 ·exact decide_eq_decide.mpr ()
theorem Bm(k:Bool)(A:Kn)(s:J5)(a:Int)(t:Tok)(c:Int)(u:Tok)(prog:JL)(w:Kg)(E:J3->J5->Prop)(Q:J3->J5->Prop)(h:Q (.bool (bif k then decide (c<a)else decide (a<=c))) s) : Js (JF prog w) A (richCompare (bif k then .Gt else .LtE) (.int a t) (.int c u)) Q E s:=by
 cases k
 ·exact(PyProof.Rows.le_int h:Js (JF prog w) A (K4 .LtE (.int a t) (.int c u)) Q E s)
 ·exact(PyProof.Rows.gt_int h:Js (JF prog w) A (K4 .Gt (.int a t) (.int c u)) Q E s)
section
open PySem.SeqAt
open PySem.AutoSeq1 (wpAny_loadPart')
open PySem.MeetsSeq PySem.MeetsSeq2 PySem.MeetsSeq3
theorem xG(k:Bool)(l b:n_)(items i:Array J3)(n U:Nat)(V J:Option n_)(W K:Array (Option J3))(ns ms:pq)(P:LN items.toList ns)(Q:LN i.toList ms) :
 Meets ((bif k then Mx.«tuple.__gt__» else Mx.«tuple.__le__») ⟨[.ref l,.ref b],[]⟩)
  (fun _ R s=>s.heap.get? l=MA { cls:=.type "tuple",dict:=V,data:=.seq items n,slots:=W }/\s.heap.get? b=MA { cls:=.type "tuple",dict:=J,data:=.seq i U,slots:=K }/\
   R (.ok (.ret (.bool (ma k ns ms)))) s):=
 .of_wp fun prog w A R s h=>by
  obtain⟨H,g,d,I,os⟩:=s;obtain⟨X,Y,h⟩:=h
  have f2:=AutoSeq1.sub_tuple_tuple
  have z1:items.size=ns.length:=by rw[<-P.length];simp
  have z2:i.size=ms.length:=by rw[<-Q.length];simp
  have fc:=wC k
  have L:=fun ns ms a b=>AS (k:=k) (ns:=ns) (ms:=ms) (a:=a) (b:=b)
  have S:=fun a t c u=>Bm k A.in1 ⟨H,g,d,I,os⟩ a t c u prog w
  generalize ma k=f at h fc L
  cases k
  all_goals
   dsimp only[cond_true,cond_false]at fc L S ⊢
   wp_walk using KQ X,KQ Y,wpAny_forIn_list _ (fun r b M=>b.1=MB/\M=⟨H,g,d,I,os⟩/\∃(vs ws:List J3) (j m:pq),r=vs.zip ws/\
    LN vs j/\LN ws m/\j.length+i.size=m.length+items.size/\R (.ok (.ret (.bool (f j m)))) ⟨H,g,d,I,os⟩) _
   case turn=>
    rintro⟨y,x⟩ r b M ⟨B,rfl,vs,ws,j,m,p,C,D,o,v⟩
    cases C with
    |nil=>rw[List.zip_nil_left]at p;cases p
    |cons a t F=>
     cases D with
     |nil=>rw[List.zip_nil_right]at p;cases p
     |cons c u G=>
      rw[List.zip_cons_cons]at p
      injection p with N E
      injection N with Z hx
      subst Z hx
      rw[fc]at v
      simp only[Kk]at o
      obtain⟨e,he,z⟩:=rH A.in1 ⟨H,g,d,I,os⟩ a t c u
      refine cc (he prog w _ _ ?_)
      cases e with
      |true=>
       rw[MI (z.mp rfl)]at v
       wp_walk
       exact⟨rfl,rfl,_,_,_,_,E,F,G,(),v⟩
      |false=>
       rw[ME (fun q=>absurd (z.mpr q) JD)]at v
       have O:=S a t c u
       wp_walk using O
       exact⟨_,rfl,‹v›⟩
   case fin=>
    rintro⟨b1,b2⟩ M ⟨B,rfl,vs,ws,j,m,p,C,D,o,v⟩
    simp only at B
    subst B
    have T:=L j m items.size i.size (by
     cases C with
     |nil=>exact .inl rfl
     |cons a t T=>
      cases D with
      |nil=>exact .inr rfl
      |cons c u hw=>
       rw[List.zip_cons_cons]at p
       cases p) o
    rw[T]at v
    wp_walk
    exact⟨_,rfl,by simpa[Builtin.Tuple.tupleCompareSizes]using v⟩
   case h=>
    exact⟨rfl,rfl,items.toList,i.toList,ns,ms,rfl,P,Q,(),h⟩
end
section
variable{prog:JL}{w:Kg}{A:Kn}{E:J3->J5->Prop}{s:J5}
theorem iW(k:Bool){l b:n_}{items a:Array J3}{ns ms:pq}{Q:J3->J5->Prop}(r:IsTup s.heap l items)(t:IsTup s.heap b a)(u:LN items.toList ns)(v:LN a.toList ms)
 (o:A.units<Ku) (h:Q (.bool (ma k ns ms)) s):Js (JF prog w) A (K4 (bif k then .Gt else .LtE) (.ref l) (.ref b)) Q E s:=by
 obtain⟨⟨cls,y,data,z⟩,f,p,n,hd⟩:=id r
 obtain⟨⟨q,g,i,j⟩,c,d,B,e⟩:=id t
 simp only at p hd d e
 subst p hd d e
 have m:=xG k l b items a n B y g z j ns ms u v
 have h:Value.bool (ma k ns ms)≠Value.notImplemented/\Q (.bool (ma k ns ms)) s:=⟨(fun x=>nomatch x),h⟩
 cases k
 ·exact richCompare_meets_room (op:=.LtE) ⟨_,f,rfl⟩ ⟨_,c,rfl⟩ PySem.F.slot_tuple_le PySem.F.entry_tuple_le (PySem.F.args_tuple_le_2 _ _) m ⟨f,c,h⟩ o
 ·exact richCompare_meets_room (op:=.Gt) ⟨_,f,rfl⟩ ⟨_,c,rfl⟩ PySem.F.slot_tuple_gt PySem.F.entry_tuple_gt (PySem.F.args_tuple_gt_2 _ _) m ⟨f,c,h⟩ o
end
end HT
namespace SD
open PySem PySem.Spec PyProof.Rows L2
section
variable{X:Cx}
theorem dW{K:J1}{H:Hp}:∀{ns:pq} {xs:ri},aK K H (ns.map D.int) xs->xs=ns.map V.int
 |[],xs,h=>by rw[KP,aK]at h;exact h
 |n::ns,xs,h=>by
  rw[Jn,aK]at h
  obtain⟨x,r,rfl,a,b⟩:=h
  rw[Rep]at a
  rw[a,dW b];rfl
theorem Dj(d:X.A.units<Ku):Nd X (K4 .LtE) (fun x y H Q=>∃a b ns ms,x=.ref a/\y=.ref b/\N0 X.K H a (ns.map V.int)/\N0 X.K H b (ms.map V.int)/\Q (.bl (HT.lexLe ns ms)) H):=by intro MR s σ H x y v u Q I e f h;obtain⟨a,b,ns,ms,rfl,rfl,g,i,q⟩:=h;cases e;cases f;obtain⟨j,k,l,_⟩:=I.tuple g;obtain⟨c,m,n,_⟩:=I.tuple i;exact HT.iW MD l n (intsAre_of k) (intsAre_of m) d ⟨.bl (HT.lexLe ns ms),H,I,rfl,q⟩
theorem EC(d:X.A.units<Ku):Nd X (K4 .Gt) (fun x y H Q=>∃a b ns ms,x=.ref a/\y=.ref b/\N0 X.K H a (ns.map V.int)/\N0 X.K H b (ms.map V.int)/\Q (.bl (HT.dM ns ms)) H):=by intro MR s σ H x y v u Q I e f h;obtain⟨a,b,ns,ms,rfl,rfl,g,i,q⟩:=h;cases e;cases f;obtain⟨j,k,l,_⟩:=I.tuple g;obtain⟨c,m,n,_⟩:=I.tuple i;exact HT.iW MC l n (intsAre_of k) (intsAre_of m) d ⟨.bl (HT.dM ns ms),H,I,rfl,q⟩
def qt(f:Int->Int->Bool)(g:pq->pq->Bool):Nl:=fun x y M Q=>match x,y with
 |.int i,.int j=>True/\Q (.bl (f i j)) M
 |.tup a,.tup b=>∃ns c,a=Lm D.int ns/\b=Lm D.int c/\Q (.bl (g ns c)) M
 |_,_=>False
theorem yz{op:CmpOp}{f:Int->Int->Bool}{g:pq->pq->Bool}(m:Nn X (K4 op) (Pr (fun _ _=>True) fun i j=>.bl (f i j))) (n:Nd X (K4 op) (fun x y H Q=>∃a b ns ms,x=.ref a/\y=.ref b/\N0 X.K H a (ns.map V.int)/\N0 X.K H b (ms.map V.int)/\Q (.bl (g ns ms)) H)):Nn X (K4 op) (qt f g):=by
 refine iM (m.or n) fun v u H Q c=>?_;obtain⟨x,y,M,R,e,h,a,q,d⟩:=c;unfold qt at q;split at q
 ·exact .inl ⟨_,_,M,R,e,h,a,q,d⟩
 ·obtain⟨ns,ms,rfl,rfl,q⟩:=q;rw[Rep]at e;obtain⟨p,xs,rfl,k,o⟩:=e;obtain⟨r,t,rfl,l,s⟩:∃a xs,u=V.ref a/\N0 X.K H a xs/\aK X.K H (Lm D.int ms) xs:=by rw[Rep]at h;exact h
  rw[dW o]at k;rw[dW s]at l;exact .inr ⟨p,r,ns,ms,rfl,rfl,k,l,d _ _ _ _ .refl (by rw[Rep]) a q⟩
 ·exact q.elim
theorem dQ(a:X.A.units+64<Ku):Nn X (K4 .Lt) (qt (fun i j=>decide (i<j)) HT.lexLt):=yz GX (DH ())
theorem zN(a:X.A.units+64<Ku):Nn X (K4 .LtE) (qt (fun i j=>decide (i<=j)) HT.lexLe):=yz Hv (Dj ())
theorem gh(a:X.A.units+64<Ku):Nn X (K4 .Gt) (qt (fun i j=>decide (j<i)) HT.dM):=yz GR (EC ())
theorem vO(d:X.calm=MC)(E:X.A.units+64<Ku):cv X (.builtin "max") (fun xs H Q=>∃p q ns ms,xs=[.ref p,.ref q]/\N0 X.K H p (ns.map V.int)/\N0 X.K H q (ms.map V.int)/\Q (if HT.dM ms ns=MC then .ref q else .ref p) H):=by
 intro MR s σ H xs us Q I r f;obtain⟨p,q,ns,ms,e,g,h,k⟩:=f;subst e;obtain⟨u,v,rfl,i,j⟩:=vals2 r;cases i;cases j;obtain⟨l,m,n,_⟩:=I.tuple g;obtain⟨b,o,w,_⟩:=I.tuple h;refine zl (.inl ⟨rfl,rfl,rfl⟩) (c:=HT.dM ms ns) (I.ok.hd d) (fun t F G a x=>?_) fun J L a=>⟨_,H,I.kept a,?_,k⟩
 ·obtain⟨y,z,b1⟩:=n;obtain⟨B,C,D⟩:=w;exact HT.iW MC (A:=X.A.in1) (s:=t) ⟨B,a _ _ C,D⟩ ⟨y,a _ _ z,b1⟩ (intsAre_of o) (intsAre_of m) (by show X.A.units+1<Ku;omega) x
 ·cases HT.dM ms ns<;>rfl
theorem wR(d:X.calm=MC)(E:X.A.units+64<Ku):cv X (.builtin "min") (fun xs H Q=>∃p q ns ms,xs=[.ref p,.ref q]/\N0 X.K H p (ns.map V.int)/\N0 X.K H q (ms.map V.int)/\Q (if HT.lexLt ms ns=MC then .ref q else .ref p) H):=by
 intro MR s σ H xs us Q I r f;obtain⟨p,q,ns,ms,e,g,h,k⟩:=f;subst e;obtain⟨u,v,rfl,i,j⟩:=vals2 r;cases i;cases j;obtain⟨l,m,n,_⟩:=I.tuple g;obtain⟨b,o,w,_⟩:=I.tuple h;refine zl (.inr ⟨rfl,rfl,rfl⟩) (c:=HT.lexLt ms ns) (I.ok.hd d) (fun t F G a x=>?_) fun J L a=>⟨_,H,I.kept a,?_,k⟩
 ·obtain⟨y,z,b1⟩:=n;obtain⟨B,C,D⟩:=w;exact HT.iK (A:=X.A.in1) (s:=t) ⟨B,a _ _ C,D⟩ ⟨y,a _ _ z,b1⟩ (intsAre_of o) (intsAre_of m) (by show X.A.units+1<Ku;omega) x
 ·cases HT.lexLt ms ns<;>rfl
def FA:RC:=fun d M Q=>match d with
 |[.int i,.int j]=>Q (.int (max i j)) M
 |[.tup a,.tup b]=>∃ns c,a=Lm D.int ns/\b=Lm D.int c/\Q (.tup (Lm D.int (if HT.dM c ns=MC then c else ns))) M
 |_=>False
def CG:RC:=fun d M Q=>match d with
 |[.int i,.int j]=>Q (.int (min i j)) M
 |[.tup a,.tup b]=>∃ns c,a=Lm D.int ns/\b=Lm D.int c/\Q (.tup (Lm D.int (if HT.lexLt c ns=MC then c else ns))) M
 |_=>False
theorem oV(j:X.calm=MC)(t:X.A.units+64<Ku):dO X (.builtin "max") FA:=cw (cv.or (EY j) (vO j t)) fun vs H Q w=>by
 obtain⟨b,M,R,k,a,q,c⟩:=w;rcases b with _|⟨d,b⟩
 ·exact JR q
 cases d<;>rcases b with _|⟨e,b⟩<;>try exact JR q
 all_goals (cases e<;>rcases b with _|⟨f,b⟩<;>try exact JR q)
 ·exact .inl ⟨_,M,R,k,a,q,c⟩
 ·obtain⟨ns,i,rfl,rfl,q⟩:=q;obtain⟨v,u,rfl,l,m⟩:=eU k;rw[Rep]at l;obtain⟨p,xs,rfl,n,o⟩:=l;obtain⟨x,y,rfl,r,s⟩:∃a xs,u=V.ref a/\N0 X.K H a xs/\aK X.K H (Lm D.int i) xs:=by rw[Rep]at m;exact m
  have g:=n;have h:=r;rw[dW o]at g;rw[dW s]at h;refine .inr ⟨p,x,ns,i,rfl,g,h,c _ _ _ _ .refl ?_ a q⟩;by_cases z:HT.dM i ns=MC
  ·rw[MI z,MI z,Rep];exact⟨_,_,rfl,r,s⟩
  ·rw[ME z,ME z,Rep];exact⟨_,_,rfl,n,o⟩
theorem BP(j:X.calm=MC)(t:X.A.units+64<Ku):dO X (.builtin "min") CG:=cw (cv.or (C3 j) (wR j t)) fun vs H Q w=>by
 obtain⟨b,M,R,k,a,q,c⟩:=w;rcases b with _|⟨d,b⟩
 ·exact JR q
 cases d<;>rcases b with _|⟨e,b⟩<;>try exact JR q
 all_goals (cases e<;>rcases b with _|⟨f,b⟩<;>try exact JR q)
 ·exact .inl ⟨_,M,R,k,a,q,c⟩
 ·obtain⟨ns,i,rfl,rfl,q⟩:=q;obtain⟨v,u,rfl,l,m⟩:=eU k;rw[Rep]at l;obtain⟨p,xs,rfl,n,o⟩:=l;obtain⟨x,y,rfl,r,s⟩:∃a xs,u=V.ref a/\N0 X.K H a xs/\aK X.K H (Lm D.int i) xs:=by rw[Rep]at m;exact m
  have g:=n;have h:=r;rw[dW o]at g;rw[dW s]at h;refine .inr ⟨p,x,ns,i,rfl,g,h,c _ _ _ _ .refl ?_ a q⟩;by_cases z:HT.lexLt i ns=MC
  ·rw[MI z,MI z,Rep];exact⟨_,_,rfl,r,s⟩
  ·rw[ME z,ME z,Rep];exact⟨_,_,rfl,n,o⟩
end
end SD
namespace Ma
open SD
theorem Bc{p z:Int}(h:0<p):0<p*z↔0<z:=by
 constructor
 ·intro q;by_cases a:0<z
  ·exact a
  ·have:p*z<=0:=Int.mul_nonpos_of_nonneg_of_nonpos () ();omega
 ·exact fun q=>JW h q
theorem oE{a b c d:Int}(f:0<b)(hd:0<d):Rat.divInt a b<Rat.divInt c d↔a*d<c*b:=by
 have e:=Rat.divInt_sub_divInt c a (d₁:=d) (d₂:=b) () ();have g:Rat.divInt a b<Rat.divInt c d↔0<Rat.divInt c d-Rat.divInt a b:=by constructor<;>intro z<;>grind
 rw[g,e,mK (JW hd f)];omega
def ut(t b X m x:Int):Rat:=Rat.divInt (x*t+X*m) (b*m)
theorem uS{t b X m n x y:Int}(c:0<t)(a:0<b)(d:0<m)(f:0<n):ut t b X m x<ut t b X n y↔n*x<m*y:=by
 unfold ut;rw[oE (JW a d) (JW a f)];have e:(y*t+X*n)*(b*m)-(x*t+X*m)*(b*n)=(b*t)*(m*y-n*x):=by grind
 have:=Bc (z:=m*y-n*x) (JW a c);omega
theorem kd{t b X m n x y:Int}(d:0<t)(f:0<b)(g:0<m)(h:0<n):ut t b X m x=ut t b X n y↔n*x=m*y:=by
 have i:=uS (X:=X) (x:=x) (y:=y) d f g h;have j:=uS (X:=X) (x:=y) (y:=x) d f h g;constructor
 ·intro e;have a:¬ut t b X m x<ut t b X n y:=by rw[e];exact Rat.lt_irrefl
  have c:¬ut t b X n y<ut t b X m x:=by rw[e];exact Rat.lt_irrefl
  rw[i]at a;rw[j]at c;omega
 ·intro e;have a:¬ut t b X m x<ut t b X n y:=by rw[i];omega
  have c:¬ut t b X n y<ut t b X m x:=by rw[j];omega
  grind
theorem xo{t b X x:Int}:Rat.divInt (x*t+X) b=ut t b X 1 x:=by unfold ut;rw[Int.mul_one,Int.mul_one]
theorem CK{t b X Y m n x y u v:Int}(a:0<t)(c:0<b)(d:0<m)(e:0<n) : ah (ut t b X m x) (ut t b Y m y) (ut t b X n u) (ut t b Y n v)↔HT.lexLt [n*x,n*y] [m*u,m*v]=MC:=by
 unfold ah;rw[uS a c d e,kd a c d e,uS a c d e];simp only[HT.lexLt];by_cases h:n*x=m*u
 ·rw[MI h];by_cases f:n*y=m*v
  ·rw[MI f];simp;omega
  ·rw[ME f];simp;omega
 ·rw[ME h];simp;omega
theorem xg(a b c d:Int):HT.lexLe [a,b] [c,d]=!HT.lexLt [c,d] [a,b]:=by
 simp only[HT.lexLe,HT.lexLt];by_cases h:a=c
 ·subst h;rw[MI rfl,MI rfl];by_cases f:b=d
  ·subst f;rw[MI rfl,MI rfl];rfl
  ·rw[ME f,ME (fun e=>f e.symm)];rw[<-decide_not,MM];omega
 ·rw[ME h,ME (fun e=>h e.symm),<-decide_not,MM];omega
theorem oH(a b c d:Int):HT.dM [a,b] [c,d]=HT.lexLt [c,d] [a,b]:=by
 simp only[HT.dM,HT.lexLt];by_cases h:a=c
 ·subst h;rw[MI rfl,MI rfl];by_cases f:b=d
  ·subst f;simp
  ·rw[ME f,ME (fun e=>f e.symm)]
 ·rw[ME h,ME (fun e=>h e.symm)]
theorem fP{a b c d:Int}:HT.lexLt [a,b] [c,d]=MC↔a<c\/(a=c/\b<d):=by
 simp only[HT.lexLt];by_cases h:a=c
 ·subst h;rw[MI rfl];by_cases e:b=d
  ·subst e;rw[MI rfl];simp
  ·rw[ME e];simp
 ·rw[ME h];simp;omega
end Ma
open Ma renaming wll->MW,ut->MX,Bq->MY,ah->MZ,pos_int->My,cr->Mz,sgn->NA,fP->NB,kd->NC,lh->ND,spt->NF,fr->NG,den_pos->NH,iR->NI
namespace SD
open PySem PySem.Spec PyProof.Rows L2
theorem aA{M:MH}{a p:PySem.Addr}{o:MO}(h:M a=MA o)(b:M p=MB):a≠p:=fun e=>by subst e;rw[h]at b;cases b
def Rr(t b x y:Int):D:=.tup [.int t,.int b,.int x,.int y]
structure OG(t b x y:Int):Prop where
 t0:0<t
 t1:t<=10^24
 b0:0<b
 b1:b<=10^26
 x0:-(10^30)<=x
 x1:x<=10^30
 y0:-(10^30)<=y
 y1:y<=10^30
def uw(w:Int×Int×Int×Int):D:=.tup [.tup [.int w.1,.int w.2.1],.tup [.int w.2.2.1,.int w.2.2.2]]
def NP(t b x y:Int)(w:Int×Int×Int×Int):D:=MW (MX t b x 1 w.1) (MX t b y 1 w.2.1) (MX t b x 1 w.2.2.1) (MX t b y 1 w.2.2.2)
def YN(n:Int)(w:Int×Int×Int×Int):Prop:=(-n<=w.1/\w.1<=n)/\(-n<=w.2.1/\w.2.1<=n)/\(-n<=w.2.2.1/\w.2.2.1<=n)/\(-n<=w.2.2.2/\w.2.2.2<=n)
def OI(m:Int)(w:Int×Int×Int×Int):Int×Int×Int×Int:=(m*w.1,m*w.2.1,m*w.2.2.1,m*w.2.2.2)
theorem range_getD(l:rv):(Jp l.length).map (fun i=>(l[i]?).getD .non)=l:=by refine List.ext_getElem (by simp) fun i b a=>?_;simp[a]
theorem getD_map{b:Type}{f:b->D}{l:List b}{i:Nat}{a:b}(h:l[i]?=MA a):((l.map f)[i]?).getD .non=f a:=by rw[J6,h];rfl
theorem Ci{t b x m p:Int}(h:0<t/\t<=10^24)(c:0<b/\b<=10^26)(i:-(10^30)<=x/\x<=10^30)(d:0<m/\m<=10^6)(j:-(10^6)<=p/\p<=10^6):MY 200 (MX t b x m p):=by
 have e:Bd 80 t:=by show t.natAbs<2^80;omega
 have a:Bd 64 m:=by show m.natAbs<2^64;omega
 have f:Bd 64 p:=by show p.natAbs<2^64;omega
 have g:Bd 90 b:=by show b.natAbs<2^90;omega
 have bx:Bd 100 x:=by show x.natAbs<2^100;omega
 refine Ma.Bq.divInt (by have:=JW c.1 d.1;omega) ?_ ((g.mul a).mono ⋯);exact(((f.mul e).mono (by decide:64+80<=164)).add (bx.mul a)).mono ⋯
theorem OG.bx{t b x y m p:Int}(S:OG t b x y)(a:0<m/\m<=10^6)(c:-(10^6)<=p/\p<=10^6):MY 200 (MX t b x m p):=Ci ⟨S.t0,S.t1⟩ ⟨S.b0,S.b1⟩ ⟨S.x0,S.x1⟩ a c
theorem OG.by'{t b x y m p:Int}(S:OG t b x y)(a:0<m/\m<=10^6)(c:-(10^6)<=p/\p<=10^6):MY 200 (MX t b y m p):=Ci ⟨S.t0,S.t1⟩ ⟨S.b0,S.b1⟩ ⟨S.y0,S.y1⟩ a c
theorem pK(a b c d:Int):K3 (.tuple [.int a,.int b]) (.tuple [.int c,.int d])=decide (a=c/\b=d):=by simp only[K3,Km,gZ,LJ,Bool.decide_and]
open PySem PySem.Spec PyProof.Rows L2 Ma
instance(a b c d:Rat):Decidable (MZ a b c d):=inferInstanceAs (Decidable (_\/_))
def N7(a b c d:Int):Int:=a*d-b*c
theorem Di{t b X m x:Int}(a:0<b)(c:0<m):MX t b X m x=((t:Rat)/b)*((x:Rat)/m)+(X:Rat)/b:=by
 unfold MX;rw[Rat.divInt_eq_div];have d:(b:Rat)≠0:=by have:=My a;grind
 have e:(m:Rat)≠0:=by have:=My c;grind
 rw[LS,Kh,Kh,Kh];grind
theorem dI{t b X x:Int}(a:0<b):MX t b X 1 x=((t:Rat)/b)*(x:Rat)+(X:Rat)/b:=by rw[Di a ⋯];have:((1:Int):Rat)=1:=rfl;rw[this];grind
theorem Ez(k x y p q r s e f:Rat):Mz (k*p+x) (k*q+y) (k*r+x) (k*s+y) (k*e+x) (k*f+y)=k*k*((r-p)*(f-q)-(s-q)*(e-p)):=by unfold Mz;grind
theorem HG{t b X Y p q r s e f:Int}(a:0<b):Mz (MX t b X 1 p) (MX t b Y 1 q) (MX t b X 1 r) (MX t b Y 1 s) (MX t b X 1 e) (MX t b Y 1 f)=((t:Rat)/b)*((t:Rat)/b)*((N7 (r-p) (s-q) (e-p) (f-q):Int):Rat):=by rw[dI a,dI a,dI a,dI a,dI a,dI a,Ez];unfold N7;rw[Lf,Kh,Kh,Lf,Lf,Lf,Lf]
theorem sgn_mul{k:Rat}(a:0<k)(z:Int):NA (k*(z:Rat))=JG z:=by
 unfold NA;by_cases b:0<z
 ·rw[MI (Rat.mul_pos a (My b)),K9 b]
 ·by_cases c:z<0
  ·have d:0<k*((-z:Int):Rat):=Rat.mul_pos a (My ());rw[Rat.intCast_neg]at d;rw[ME (by grind),MI (by grind),JS c]
  ·obtain rfl:z=0:=()
   have:((0:Int):Rat)=0:=rfl;rw[this];simp
theorem Hj{t b X Y p q e f:Int}(a:0<t)(c:0<b):MZ (MX t b X 1 p) (MX t b Y 1 q) (MX t b X 1 e) (MX t b Y 1 f)↔(p<e\/(p=e/\q<f)):=by rw[Ma.CK a c ⋯ ⋯,NB];omega
end SD
namespace HT
open PySem PyProof.Rows
end HT
namespace SD
open PySem PySem.Spec PyProof.Rows L2
section
variable{X:Cx}
def yi(g:Bool->Bool):Nl:=fun x y M Q=>∃p ps,Pd M x p/\(Pd M y (.list ps)\/Pd M y (.tuple ps))/\KU p=MC/\KO ps=MC/\Q (.bl (g (ps.any fun q=>K3 q p))) M
theorem l7{p:Lz}{n:Nat}(h:KU p=MC):min n p.depth<=63+1:=Kr (Nat.min_le_right _ _) (SeqAt.depth_of_shaped h)
theorem CM(r:X.A.units+66<Ku):Nn X (K4 .In) (yi fun b=>b):=by
 intro MR s σ H v u t w Q I m g h;obtain⟨x,y,M,R,o,i,a,⟨p,ps,q,c,e,j,k⟩,d⟩:=h;obtain⟨z,l⟩:=bP I a q o m;have B:=l7 (n:=L3 ps) e;rcases c with c|c
 ·obtain⟨bs,f⟩:=bP I a c i g;exact SeqAt.in_list_reads f l j (L6 e) () ⟨.bl _,H,I,rfl,d _ _ _ _ .refl (by rw[Rep]) a k⟩
 ·obtain⟨bs,f⟩:=bP I a c i g;exact SeqAt.in_tuple_reads f l j (L6 e) () ⟨.bl _,H,I,rfl,d _ _ _ _ .refl (by rw[Rep]) a k⟩
theorem gA(r:X.A.units+66<Ku):Nn X (K4 .NotIn) (yi fun b=>!b):=by
 intro MR s σ H v u t w Q I m g h;obtain⟨x,y,M,R,o,i,a,⟨p,ps,q,c,e,j,k⟩,d⟩:=h;obtain⟨z,l⟩:=bP I a q o m;have B:=l7 (n:=L3 ps) e;rcases c with c|c
 ·obtain⟨bs,f⟩:=bP I a c i g;exact SeqAt.notIn_list_reads f l j (L6 e) () ⟨.bl _,H,I,rfl,d _ _ _ _ .refl (by rw[Rep]) a k⟩
 ·obtain⟨bs,f⟩:=bP I a c i g;exact SeqAt.notIn_tuple_reads f l j (L6 e) () ⟨.bl _,H,I,rfl,d _ _ _ _ .refl (by rw[Rep]) a k⟩
theorem qQ{K:J1}{H:Hp}:∀{bs:List Bool} {xs:ri},aK K H (bs.map D.bl) xs->xs=bs.map V.bl
 |[],xs,h=>by rw[KP,aK]at h;exact h
 |n::ns,xs,h=>by
  rw[Jn,aK]at h
  obtain⟨x,r,rfl,a,b⟩:=h
  rw[Rep]at a
  rw[a,qQ b];rfl
theorem mL:∀{bs:List Bool} {us:List J3},Vals (bs.map V.bl) us->us=bs.map Value.bool
 |[],_,.nil=>rfl
 |b::bs,_,.cons r t=>by
  cases (show _=Value.bool b from r)
  rw[mL t];rfl
def Ip:RC:=fun a M Q=>match a with
 |[.ref l]=>∃bs:List Bool,M l=MA (.lst (Lm D.bl bs))/\Q (.bl (bs.all id)) M
 |_=>False
theorem vZ(j:X.calm=MC):cv X (.builtin "all") (fun xs H Q=>∃(p:n_) (bs:List Bool),xs=[.ref p]/\NX X.K H p (bs.map V.bl)/\Q (.bl (bs.all id)) H):=by
 intro MR s σ H xs us Q I r m;obtain⟨l,bs,e,n,k⟩:=m;subst e;obtain⟨u,rfl,o⟩:=vals1 r;cases o;obtain⟨c,q,t,_⟩:=I.list n;have h:=mL q;have d:=t.isList;have lt:l≠s.z:=K5 (let⟨_,e,_⟩:=d;Jz e);refine call_all_walk (x:=.ref l) (Ml d ⟨s.z,[s.z,l],[s.z],c.toArray.size,_,_,fun i=>(bs[i]?).getD MC,rfl,Walks.list (A:=X.A.in1) (I.ok.hd j) _ l lt c.toArray,⟨⟨_,Jy _ rfl,rfl,rfl⟩,d.push _⟩,fun i v w y D z B=>?_,fun E F C=>?_⟩)
 ·have a:c[i]?=MA v:=‹z›
  rw[h,J6]at a;cases f:bs[i]? with
  |none=>rw[f]at a;cases a
  |some b=>
   rw[f]at a
   cases a
   have g:y b w:=by simpa[f]using B
   exact KN g
 ·rw[show((Jp c.toArray.size).all fun i=>(bs[i]?).getD MC)=bs.all id by rw[JA,h,J4];exact LSm.range_all bs];exact⟨.bl (bs.all id),H,I.kept (LSm.kept_iter C),rfl,k⟩
theorem zk(g:X.calm=MC):dO X (.builtin "all") Ip:=cw (vZ g) fun vs H Q h=>by
 obtain⟨b,M,R,i,a,q,c⟩:=h;rcases b with _|⟨d,b⟩
 ·exact JR q
 cases d<;>rcases b with _|⟨e,b⟩<;>try exact JR q
 ·obtain⟨bs,e,q⟩:=q;obtain⟨v,rfl,r⟩:=cA i;rw[Rep]at r;subst r;obtain⟨xs,f,j⟩:=a _ _ e;rw[qQ j]at f;exact⟨_,bs,rfl,NX.of f,c _ _ _ _ .refl (by rw[Rep]) a q⟩
def Gz(c:TD)(t:Nb):TD:=fun δ M Q=>c δ M fun x a=>∃l e,x=.ref l/\a l=MA (.lst e)/\t δ a fun f b=>∃xs d,f=[d]/\b l=MA (.lst xs)/\xs.length<1000000/\Q .non (az b l (.lst (xs++[d])))
variable{o e:o_}{to:TD}{t:Nb}{apos bg:Pos}
theorem aX(z:DE X o to)(A:DA X [e] t)
 (b:LH o "append" X.env (eval o X.env)=eval o X.env:=by rfl)
 (i:((L5 bg (JC [e] X.env)).all (fun x=>!x.1)&&(backToKw bg (LW [] X.env)).all (fun x=>x.1.isSome)
  && decide ([e].length+([]:List Mt).length+(if([]:List Mt).isEmpty then 0 else 1)<30))=MC:=by rfl)
 (c:(apos.endLine==bg.line)=MC:=by rfl) (B:JC [e] X.env=(MD,eval e X.env)::JC [] X.env:=by rfl) (a:(L5 bg (JC [] X.env)).any (·.1)=MD:=by rfl) :
 DE X (.Call (.Attribute o "append" apos) [e] [] bg) (Gz to t):=
 bw (xn PySem.F.plainAttrs_list PySem.F.slot_list_append PySem.F.type_list_append jA z A b i c B a) fun σ H Q C=>by
  obtain⟨δ,M,R,j,D,q,m⟩:=C
  refine⟨δ,M,_,j,D,q,fun x E v H1 p r s f=>?_⟩
  obtain⟨l,S,ex,G,I⟩:=f
  subst ex
  rw[Rep]at r
  subst r
  obtain⟨vs,n,_⟩:=s _ _ G
  refine⟨.inl ⟨rfl,vs,NX.of n⟩,δ,E,_,j.mono p,s,I,fun T U us V J K w g=>?_⟩
  obtain⟨xs,d,L,N,W,O⟩:=g
  subst L
  obtain⟨u,rfl,P⟩:=cA K
  obtain⟨ws,h,k⟩:=w _ _ N
  have y:=k.length
  refine⟨l,ws,u,rfl,rfl,h,JM () (show 1000000<=Jv from NL rfl),?_⟩
  exact m _ _ _ _ (p.trans (J.trans (.lst h))) (by rw[Rep]) (w.xf h (k.append (.cons P .nil))) O
end
theorem iY{k:Nat}{A:Kn}(r:N1 k A):A.units+66<Ku:=by have:=r.un;omega
abbrev Wl:=Int×Int×Int×Int
abbrev _root_.ro:=List Wl
def la(x y:Int):Int:=100*x+y
def l1(w:Wl):Int:=la w.1 w.2.1
def l2(w:Wl):Int:=la w.2.2.1 w.2.2.2
def sd(w:Wl)(x y:Int):Int:=N7 (w.2.2.1-w.1) (w.2.2.2-w.2.1) (x-w.1) (y-w.2.1)
def NQ(w v:Wl):Int:=sd w v.1 v.2.1
def NT(w v:Wl):Int:=sd w v.2.2.1 v.2.2.2
structure NM(w:Wl):Prop where
 a:0<=w.1/\w.1<=20
 b:0<=w.2.1/\w.2.1<=20
 c:0<=w.2.2.1/\w.2.2.1<=20
 d:0<=w.2.2.2/\w.2.2.2<=20
 lt:l1 w<l2 w
def a9(w:Wl)(l s:Int):Prop:=l=l1 w\/l=l2 w\/l<l1 w\/l2 w<l\/s≠0
structure NY(U V:Wl):Prop where
 ne:¬(l1 U=l1 V/\l2 U=l2 V)
 e1:a9 U (l1 V) (NQ U V)
 e2:a9 U (l2 V) (NT U V)
 e3:a9 V (l1 U) (NQ V U)
 e4:a9 V (l2 U) (NT V U)
 pr:0<=JG (NQ U V)*JG (NT U V)\/0<=JG (NQ V U)*JG (NT V U)
theorem NY.swap{U V:Wl}(h:NY U V):NY V U:=⟨fun z=>h.ne ⟨z.1.symm,z.2.symm⟩,h.e3,h.e4,h.e1,h.e2,h.pr.symm⟩
def NS(U V:Wl):Bool:=
 if max (l1 U) (l1 V)<min (l2 U) (l2 V)then
  if l1 U=l1 V then(if l2 U<l2 V then decide (0<NT V U)else decide (NT U V<0))
  else if l1 V<l1 U then decide (0<NQ V U)else decide (NQ U V<0)
 else MD
theorem YH(z:Int):JG z=1↔0<z:=Int.sign_eq_one_iff_pos
theorem Yh(z:Int):-JG z=1↔z<0:=by
 rcases Jt z 0 with h|h|h
 ·rw[JS h];omega
 ·subst h;simp
 ·rw[K9 h];omega
theorem Vy{x y:Int}(h:0<=JG x*JG y):¬(0<x/\y<0)/\¬(x<0/\0<y):=by
 constructor
 ·rintro⟨a,b⟩;rw[K9 a,JS b]at h;omega
 ·rintro⟨a,b⟩;rw[JS a,K9 b]at h;omega
theorem jT{z k:Int}(a:0<k)(h:0<z*k):0<z:=by
 rcases Jt z 0 with q|q|q
 ·have:=JP q a;omega
 ·subst q;simp at h
 ·exact q
theorem pR{z k:Int}(a:0<k)(h:z*k<0):z<0:=by
 rcases Jt z 0 with q|q|q
 ·exact q
 ·subst q;simp at h
 ·have:=JW q a;omega
theorem within{a b c d g h e f:Int}(p:a*(f-e)=d*(g-e)-c*(h-e))(q:b*(f-e)=d*(g-f)-c*(h-f))
 (r:e<g) (s:e<h) (t:g<f) (u:h<f) (F:(¬(0<c/\d<0)/\¬(c<0/\0<d))\/(¬(0<a/\b<0)/\¬(a<0/\0<b))) (v:c≠0) (w:d≠0):0<c↔0<d:=by
 have k:0<f-e:=()
 have A:¬(0<c/\d<0):=fun i=>by
  obtain⟨x,y⟩:=i
  have j:=JP y (():0<g-e)
  have l:=JW x (():0<h-e)
  have m:=Kb y (():g-f<0)
  have n:=JV x (():h-f<0)
  have o:=pR (z:=a) k ()
  have b1:=jT (z:=b) k ()
  omega
 have B:¬(c<0/\0<d):=fun i=>by
  obtain⟨x,y⟩:=i
  have j:=JW y (():0<g-e)
  have l:=JP x (():0<h-e)
  have m:=JV y (():g-f<0)
  have n:=Kb x (():h-f<0)
  have o:=jT (z:=a) k ()
  have b1:=pR (z:=b) k ()
  omega
 omega
theorem pG{a b c d f h i g:Int}(q:b*(g-i)=d*(f-g)-c*(h-g))(r:c*(h-f)=b*(i-f)-a*(g-f))
 (s:i<f) (t:f<g) (u:g<h) (F:(¬(0<c/\d<0)/\¬(c<0/\0<d))\/(¬(0<a/\b<0)/\¬(a<0/\0<b))) (v:c≠0) (b0:b≠0):0<c↔b<0:=by
 have e:d*(f-g)=-(d*(g-f)):=by rw[<-Int.mul_neg];congr 1;omega
 have w:¬(0<c/\0<b):=fun j=>by
  obtain⟨x,y⟩:=j
  have k:=JW y (():0<g-i)
  have l:=JW x (():0<h-g)
  have m:=JW x (():0<h-f)
  have n:=JV y (():i-f<0)
  have o:=pR (z:=a) (():0<g-f) ()
  have p:=pR (z:=d) (():0<g-f) ()
  omega
 have A:¬(c<0/\b<0):=fun j=>by
  obtain⟨x,y⟩:=j
  have k:=JP y (():0<g-i)
  have l:=JP x (():0<h-g)
  have m:=JP x (():0<h-f)
  have n:=Kb y (():i-f<0)
  have o:=jT (z:=a) (():0<g-f) ()
  have p:=jT (z:=d) (():0<g-f) ()
  omega
 omega
theorem vY(U V:Wl):NQ U V*(l2 V-l1 V)=NT V U*(l1 U-l1 V)-NQ V U*(l2 U-l1 V):=by unfold NQ NT sd l1 l2 la N7;grind
theorem wU(U V:Wl):NT U V*(l2 V-l1 V)=NT V U*(l1 U-l2 V)-NQ V U*(l2 U-l2 V):=by unfold NQ NT sd l1 l2 la N7;grind
theorem gI{x y u v:Int}(a:0<=y/\y<=20)(b:0<=v/\v<=20)(h:la x y=la u v):x=u/\y=v:=by unfold la at h;omega
theorem Cf{U V:Wl}(a:NM U)(c:NM V)(h:l1 U=l1 V):NQ U V=0:=by obtain⟨e1,e2⟩:=gI a.b c.b h;unfold NQ sd N7;rw[e1,e2];simp
theorem qj{U V:Wl}(a:NM U)(b:NM V)(h:l2 U=l2 V):NT U V=0:=by obtain⟨e1,e2⟩:=gI a.d b.d h;unfold NT sd N7;rw[e1,e2];grind
theorem a9.nz{w:Wl}{l s:Int}(h:a9 w l s)(a:l1 w<l)(b:l<l2 w):s≠0:=by
 unfold a9 at h;rcases h with h|h|h|h|h
 ·omega
 ·omega
 ·omega
 ·omega
 ·exact h
theorem cy{a b c d:Int}:max a c<min b d↔a<b/\a<d/\c<b/\c<d:=by rw[Int.max_lt,Int.lt_min,Int.lt_min,and_assoc]
section
variable{U V:Wl}(ap:max (l1 U) (l1 V)<min (l2 U) (l2 V))
include ap
theorem nU(z:l1 U<l1 V):NS U V=decide (NQ U V<0):=by unfold NS;rw[MI ap,ME (Int.ne_of_lt z),ME (Int.not_lt.mpr (Kv z))]
theorem qO(z:l1 V<l1 U):NS U V=decide (0<NQ V U):=by unfold NS;rw[MI ap,ME (fun e=>Int.ne_of_lt z e.symm),MI z]
theorem uZ(z:l1 U=l1 V)(y:l2 U<l2 V):NS U V=decide (0<NT V U):=by unfold NS;rw[MI ap,MI z,MI y]
theorem rE(z:l1 U=l1 V)(y:¬l2 U<l2 V):NS U V=decide (NT U V<0):=by unfold NS;rw[MI ap,MI z,ME y]
end
theorem zB{a:Int}(h:a≠0):decide (0<a)=!decide (a<0):=by rw[<-decide_not,MM];omega
theorem sO{a:Int}(h:a≠0):decide (a<0)=!decide (0<a):=by rw[<-decide_not,MM];omega
theorem gi{U V:Wl}(d:NM U)(e:NM V)(F:NY U V)(b:max (l1 U) (l1 V)<min (l2 U) (l2 V)):NS V U=!NS U V:=by
 have c:=b;rw[Int.max_comm,Int.min_comm]at c;have o:=cy.mp b;rcases Jt (l1 U) (l1 V)with h|h|h
 ·rw[qO c h,nU b h,zB (F.e1.nz h o.2.2.1)]
 ·rcases Jt (l2 U) (l2 V)with a|a|a
  ·rw[rE c h.symm (Int.not_lt.mpr (Kv a)),uZ b h a,sO (F.e4.nz o.2.2.1 a)]
  ·exact absurd ⟨h,a⟩ F.ne
  ·rw[uZ c h.symm a,rE b h (Int.not_lt.mpr (Kv a)),zB (F.e2.nz o.2.1 a)]
 ·rw[nU c h,qO b h,sO (F.e3.nz h o.2.1)]
theorem Cp{a b c d:Int}(e:0<=b/\b<=20)(hd:0<=d/\d<=20):HT.lexLt [a,b] [c,d]=decide (la a b<la c d):=by have h:=NB (a:=a) (b:=b) (c:=c) (d:=d);rw[Ks,h,MN];unfold la;omega
theorem Hq{a b c d:Int}(e:0<=b/\b<=20)(hd:0<=d/\d<=20):HT.dM [a,b] [c,d]=decide (la c d<la a b):=by rw[Ma.oH,Cp hd e]
theorem qE{z:Int}(h:0<=z/\z<=20):Bd 6 z:=by show z.natAbs<2^6;omega
theorem xx{x y u v:Int}(a:0<=y/\y<=20)(b:0<=v/\v<=20):(x=u/\y=v)↔la x y=la u v:=by unfold la;omega
theorem ig{I:Qu}{tk:Py}{js:pe}{tc:Nh}{te:TD}{δ:DS}{a:MH}{Q:DK}(f:Nat->rx)(g:I.n<=1000000)(hC:∀p ys,a p=MB->I.C (az a p (.lst ys))) (h:∀i d M,i<I.n->I.item i=MA d->Sub a M->∃os,zo tk d os/\(∀K:Bool->MH->Prop,K (f i).isSome M->tc (cδ os js δ) M K)/\∀e,f i=MA e->∀K:DK,(∀b,Sub M b->K e b)->te (cδ os js δ) M K) (j:∀p,a p=MB->Q (.ref p) (az a p (.lst ((Jp I.n).filterMap f)))):zh I tk js tc te δ a Q:=by
 refine⟨g,fun p c=>⟨fun i ys M=>ys=(Jp i).filterMap f/\M=az a p (.lst ys),⟨rfl,rfl⟩,?_,?_,?_⟩⟩
 ·rintro i ys M _ ⟨_,rfl⟩;exact hC p ys c
 ·rintro i ys d M k hd ⟨rfl,rfl⟩;obtain⟨os,l,m,o⟩:=h i d _ k hd (.new c .refl);refine⟨os,l,m _ ?_⟩;cases e:f i with
  |none=>
   refine jn rfl ⟨_,.refl,?_,?_⟩
   ·rw[KJ,List.filterMap_append];simp[e]
   ·rfl
  |some v=>
   refine xU rfl (o v e _ fun b q=>⟨_,q,ag,?_,by rw[bW]⟩)
   rw[KJ,List.filterMap_append];simp[e]
 ·rintro ys M ⟨rfl,rfl⟩;exact j p c
theorem ye{A:Wl}{x y:Int}(c:NM A)(e:0<=y/\y<=20)(h:(!(decide (A.1=x/\A.2.1=y)||decide (A.2.2.1=x/\A.2.2.2=y))&&(decide (l1 A<=la x y)&&decide (la x y<=l2 A)&&decide (sd A x y=0)))=MD):a9 A (la x y) (sd A x y):=by
 unfold a9;by_cases f:A.1=x/\A.2.1=y
 ·exact .inl ((xx c.b e).mp f).symm
 ·by_cases g:A.2.2.1=x/\A.2.2.2=y
  ·exact .inr (.inl ((xx c.d e).mp g).symm)
  ·rw[MJ f,MJ g,Bool.or_false,Bool.not_false,L4,<-Bool.decide_and,<-Bool.decide_and,decide_eq_false_iff_not]at h;by_cases i:sd A x y=0
   ·rcases Int.lt_or_le (la x y) (l1 A)with z|z
    ·exact .inr (.inr (.inl z))
    ·rcases Int.lt_or_le (l2 A) (la x y)with a|a
     ·exact .inr (.inr (.inr (.inl a)))
     ·exact absurd ⟨⟨z,a⟩,i⟩ h
   ·exact .inr (.inr (.inr (.inr i)))
theorem E4(M:MH)(A:Wl)(x y:Int)(g:Bool->Bool)(Q:DK)(q:Q (.bl (g (decide (A.1=x/\A.2.1=y)||decide (A.2.2.1=x/\A.2.2.2=y)))) M):yi g (.tup [.int x,.int y]) (uw A) M Q:=by refine⟨_,_,Pd.of rfl,.inr (Pd.of rfl),rfl,rfl,?_⟩;rw[LI,LI,List.any_nil,pK,pK,Bool.or_false];exact q
theorem CB(z:Int):Bd 64 (JG z):=by
 rcases Jt z 0 with h|h|h
 ·rw[JS h];decide
 ·subst h;decide
 ·rw[K9 h];decide
def S2(w:Wl):Lz:=.tuple [.tuple [.int w.1,.int w.2.1],.tuple [.int w.2.2.1,.int w.2.2.2]]
theorem xA{M:MH}:∀ws:ro,Pg M (ws.map uw) (ws.map S2)
 |[]=>.nil
 |w::ws=>.cons (Pd.of rfl) (xA ws)
theorem Af:∀ws:ro,KO (ws.map S2)=MC
 |[]=>rfl
 |w::ws=>by rw[Jn,KO,Af ws];rfl
theorem ym:∀ws:ro,L3 (ws.map S2)<=10
 |[]=>NL rfl
 |w::ws=>by
  rw[Jn,L3]
  exact Nat.max_le.mpr ⟨NL rfl,ym ws⟩
theorem wV(ws:ro):KU (.list (ws.map S2))=MC:=by unfold KU;have a:=Af ws;have b:=ym ws;rw[JN];refine⟨by rw[Ld];exact a,MK ?_⟩;rw[PyData.depth];omega
theorem t6:∀ws:ro,K3 (.list (ws.map S2)) (.list [])=ws.isEmpty
 |[]=>by simp[K3,Km]
 |w::ws=>by simp[K3,Km]
def PF(ws:ro):Prop:=∀(i j:Nat) (U V:Wl),i≠j->ws[i]?=MA U->ws[j]?=MA V->NY U V
theorem D6:PF []:=fun i j U V _ h=>by simp at h
theorem wM{ws:ro}{U:Wl}(h:PF ws)(d:∀(j:Nat) (w:Wl),ws[j]?=MA w->NY U w):PF (ws++[U]):=by
 intro i j A B c f g
 have get:∀{k:Nat} {C:Wl},(ws++[U])[k]?=MA C->ws[k]?=MA C\/(k=ws.length/\C=U):=fun{k C} e=>by
  rcases Nat.lt_trichotomy k ws.length with z|z|z
  ·rw[JO z]at e;exact .inl e
  ·subst z;rw[Kc (J9 _)]at e;simp at e;exact .inr ⟨rfl,e.symm⟩
  ·rw[List.getElem?_eq_none (by simp;omega)]at e;cases e
 rcases get f with a|⟨a,rfl⟩<;>rcases get g with b|⟨b,rfl⟩
 ·exact h i j A B c a b
 ·exact(d _ _ a).swap
 ·exact d _ _ b
 ·omega
theorem zq{w:Wl}(h:NM w){v:Int}(e:0<=v)(f:v<2):∃x y,atI [D.tup [.int w.1,.int w.2.1],.tup [.int w.2.2.1,.int w.2.2.2]] v=MA (.tup [.int x,.int y])/\(0<=x/\x<=20)/\(0<=y/\y<=20):=by
 rcases(():v=0\/v=1)with rfl|rfl
 ·exact⟨_,_,rfl,h.a,h.b⟩
 ·exact⟨_,_,rfl,h.c,h.d⟩
theorem BW{ws:ro}{v:Int}(b:0<=v)(c:v<ws.length):∃w,w∈ws/\atI (ws.map uw) v=MA (uw w):=by
 obtain⟨j,rfl⟩:∃j:Nat,v=(j:Int):=⟨v.toNat,()⟩;have a:j<ws.length:=()
 exact⟨ws[j],K1 a,bH (by simp[a])⟩
theorem wY{p q e f:Int}(b:0<=p/\p<=20)(a:0<=q/\q<=20)(c:0<=e/\e<=20)(hf:0<=f/\f<=20)(ne:¬(p=e/\q=f)) :
 ∃w:Wl,(if HT.lexLt [e,f] [p,q]=MC then[e,f]else[p,q])=[w.1,w.2.1]/\(if HT.dM [e,f] [p,q]=MC then[e,f]else[p,q])=[w.2.2.1,w.2.2.2]/\NM w:=by
 rw[Cp hf a,Hq hf a]
 have g:la p q≠la e f:=fun z=>ne ((xx a hf).mpr z)
 by_cases h:la e f<la p q
 ·exact⟨(e,f,p,q),by rw[MI (MK h)],by rw[ME (by simp;omega)],⟨c,hf,b,a,h⟩⟩
 ·have d:la p q<la e f:=()
  exact⟨(p,q,e,f),by rw[ME ‹h›],by rw[MI (MK d)],⟨b,a,c,hf,d⟩⟩
theorem mw{t b X Y p q e f:Int}(a:0<t)(c:0<b)(d:0<=q/\q<=20)(hf:0<=f/\f<=20):MZ (MX t b X 1 p) (MX t b Y 1 q) (MX t b X 1 e) (MX t b Y 1 f)↔la p q<la e f:=by rw[Hj a c];unfold la;omega
theorem jh{t b X Y p q e f:Int}(a:0<t)(c:0<b)(d:0<=q/\q<=20)(hf:0<=f/\f<=20):(MX t b X 1 p=MX t b X 1 e/\MX t b Y 1 q=MX t b Y 1 f)↔la p q=la e f:=by rw[NC a c ⋯ ⋯,NC a c ⋯ ⋯];unfold la;omega
theorem jP{t b X Y:Int}(c:0<t)(a:0<b)(w:Wl)(x y:Int):NA (Mz (MX t b X 1 w.1) (MX t b Y 1 w.2.1) (MX t b X 1 w.2.2.1) (MX t b Y 1 w.2.2.2) (MX t b X 1 x) (MX t b Y 1 y))=JG (sd w x y):=by
 have k:(0:Rat)<(t:Rat)/b:=by rw[Rat.div_def];exact Rat.mul_pos (My c) (Rat.inv_pos.mpr (My a))
 rw[HG a,sgn_mul (Rat.mul_pos k k)];rfl
theorem IP(z:Int):JG z=-1↔z<0:=by rw[<-Yh];omega
theorem jr{M:MH}:∀ns:pq,Pg M (ns.map D.int) (ns.map Md)
 |[]=>.nil
 |n::ns=>.cons (.int n) (jr ns)
theorem lay_ints:∀ns:pq,KO (ns.map Md)=MC
 |[]=>rfl
 |n::ns=>by rw[Jn,KO,lay_ints ns];rfl
theorem any_ints(k:Int)(ns:pq):(ns.map Md).any (fun q=>K3 q (.int k))=ns.any (fun z=>z==k):=by
 rw[List.any_map]
 congr 1
theorem oM{M:MH}{l:n_}{ns:pq}(k:Int)(g:Bool->Bool)(Q:DK)(h:M l=MA (.lst (ns.map D.int)))(q:Q (.bl (g (ns.any (fun z=>z==k)))) M):yi g (.int k) (.ref l) M Q:=by refine⟨_,_,.int k,.inl (.lst h (jr ns)),rfl,lay_ints ns,?_⟩;rw[any_ints];exact q
section
variable{X:Cx}
def gD{a:Type}(xs:List a)(j:Nat)(y:a):List a:=xs.take j++y::xs.drop j
def AU:V->ri->Hp->VK->Prop:=fun x vs H Q=>∃l xs y,∃(k:Int) (j:Nat),x=.ref l/\vs=[.int k,y]/\k=(j:Int)/\H l=MA (.lst xs)/\j<=xs.length/\xs.length<1000000/\Q .non (upd H l (.lst (gD xs j y)))
theorem Be(a:List J3)(k:Int)(j:Nat)(u:J3)(b:k=(j:Int))(c:j<=a.length) :
 (a.toArray.extract 0 (if k<0 then(k+((a.toArray.size:Nat):Int)).toNat else min k.toNat a.toArray.size)).push u++a.toArray.extract (if k<0 then(k+((a.toArray.size:Nat):Int)).toNat else min k.toNat a.toArray.size)=(gD a j u).toArray:=by
 have e:(if k<0 then(k+((a.toArray.size:Nat):Int)).toNat else min k.toNat a.toArray.size)=j:=by
  rw[ME (),JA];omega
 rw[e]
 apply Array.toList_inj.mp
 simp[gD]
 exact Kw (by simp)
theorem wx:WH X "list.insert" AU:=by
 intro MR s σ H x vs v us Q I g h i;obtain⟨l,xs,y,k,j,ex,m,o,f,A,B,q⟩:=i;subst ex m;cases g;obtain⟨C,c,rfl,p,u⟩:=h.two;obtain⟨t,rfl⟩:=p;obtain⟨z,a,n,r,w,e⟩:=I.nD f;have b:Builtin.List.listFitsIndex k=MC:=by unfold Builtin.List.listFitsIndex;simp;omega
 have d:a.toArray.size<=Jv:=by rw[JA,<-w];exact z
 refine call_meets PySem.F.slot_list_insert ⟨_,e,rfl⟩ PySem.F.entry_list_insert (PySem.F.args_list_insert_3 _ _ _) (PySem.AutoSeq1.list_insert_list_int_val_1 l a.toArray n k t c (by rw[b];decide) d) ⟨e,?_⟩;refine⟨.non,_,I.EH (its':=gD a j c) f e (Be a k j c o ()) ((Vals.take j r).append (.cons u (Vals.drop j r))) ?_,rfl,q⟩;show(xs.take j++y::xs.drop j).length<=Jv;simp only[Ka,LC,Kk,List.length_drop];have:1000000<=Jv:=NL rfl;omega
def FT(c:TD)(t:Nb):TD:=fun δ M Q=>c δ M fun x a=>∃l e,x=.ref l/\a l=MA (.lst e)/\t δ a fun f b=>∃xs d,∃j:Nat,f=[.int (j:Int),d]/\b l=MA (.lst xs)/\j<=xs.length/\xs.length<1000000/\Q .non (az b l (.lst (gD xs j d)))
variable{o e1 e2:o_}{to:TD}{t:Nb}{apos bg:Pos}
theorem gC(A:DE X o to)(B:DA X [e1,e2] t)
 (b:LH o "insert" X.env (eval o X.env)=eval o X.env:=by rfl)
 (i:((L5 bg (JC [e1,e2] X.env)).all (fun x=>!x.1)&&(backToKw bg (LW [] X.env)).all (fun x=>x.1.isSome)
  && decide ([e1,e2].length+([]:List Mt).length+(if([]:List Mt).isEmpty then 0 else 1)<30))=MC:=by rfl)
 (c:(apos.endLine==bg.line)=MC:=by rfl) (C:JC [e1,e2] X.env=(MD,eval e1 X.env)::JC [e2] X.env:=by rfl) (a:(L5 bg (JC [e2] X.env)).any (·.1)=MD:=by rfl) :
 DE X (.Call (.Attribute o "insert" apos) [e1,e2] [] bg) (FT to t):=
 bw (xn PySem.F.plainAttrs_list PySem.F.slot_list_insert PySem.F.type_list_insert wx A B b i c C a) fun σ H Q D=>by
  obtain⟨δ,M,R,k,E,q,n⟩:=D
  refine⟨δ,M,_,k,E,q,fun x G v H1 s u w e=>?_⟩
  obtain⟨l,T,ex,I,J⟩:=e
  subst ex
  rw[Rep]at u
  subst u
  obtain⟨vs,p,_⟩:=w _ _ I
  refine⟨.inl ⟨rfl,vs,NX.of p⟩,δ,G,_,k.mono s,w,J,fun U V us W K L y f=>?_⟩
  obtain⟨xs,d,j,N,O,Y,Z,P⟩:=f
  subst N
  obtain⟨u1,S,rfl,m,r⟩:=eU L
  rw[Rep]at m
  subst m
  obtain⟨ws,g,h⟩:=y _ _ O
  have z:=h.length
  exact⟨l,ws,S,_,j,rfl,rfl,rfl,g,(),(),n _ _ _ _ (s.trans (K.trans (.lst g))) (by rw[Rep]) (y.xf g ((h.take j).append (.cons r (h.drop j)))) P⟩
def xW:RC:=fun a M Q=>match a with
 |[.ref l]=>∃xs,M l=MA (.lst xs)/\∀p,M p=MB->Q (.ref p) (az M p (.lst xs))
 |[.tup xs]=>∀p,M p=MB->Q (.ref p) (az M p (.lst xs))
 |_=>False
theorem Au:dO X (.type "list") xW:=cw pB fun vs H Q h=>by
 obtain⟨i,M,R,g,a,q,c⟩:=h;unfold xW at q;split at q
 ·obtain⟨j,e,q⟩:=q;obtain⟨v,rfl,r⟩:=cA g;rw[Rep]at r;subst r;obtain⟨xs,d,f⟩:=a _ _ e;exact⟨_,xs,rfl,.inl (NX.of d),fun z b=>c _ _ _ _ (.new b) (by rw[Rep]) (a.nt b f) (q z (a.fresh b))⟩
 ·obtain⟨v,rfl,r⟩:=cA g;rw[Rep]at r;obtain⟨p,xs,rfl,d,f⟩:=r;exact⟨_,xs,rfl,.inr d,fun z b=>c _ _ _ _ (.new b) (by rw[Rep]) (a.nt b f) (q z (a.fresh b))⟩
 ·exact q.elim
end
def lam(w:Wl):Int:=l2 w-l1 w
def Nm(w:Wl)(t:Int):Int:=2*w.1*lam w+(t-2*l1 w)*(w.2.2.1-w.1)
def Gh(U V:Wl)(t:Int):Int:=Nm V t*lam U-Nm U t*lam V
theorem Fv(U V:Wl):Gh U V (2*l1 U)=2*(lam U*NQ V U):=by unfold Gh Nm lam NQ sd l1 l2 la N7;grind
theorem HF(U V:Wl):Gh U V (2*l2 U)=2*(lam U*NT V U):=by unfold Gh Nm lam NT sd l1 l2 la N7;grind
theorem uL(U V:Wl)(t:Int):Gh V U t=-Gh U V t:=by unfold Gh;grind
theorem IQ(U V:Wl):Gh U V (2*l1 V)=-(2*(lam V*NQ U V)):=by rw[<-Fv,uL]
theorem IJ(U V:Wl):Gh U V (2*l2 V)=-(2*(lam V*NT U V)):=by rw[<-HF,uL]
theorem He(U V:Wl)(p q t:Int):Gh U V t*(q-p)=Gh U V p*(q-t)+Gh U V q*(t-p):=by unfold Gh Nm;grind
theorem fF{U V:Wl}{p q t:Int}(c:p<t)(d:t<q)(a:0<=Gh U V p)(b:0<=Gh U V q)(g:0<Gh U V p\/0<Gh U V q):0<Gh U V t:=by
 refine jT (k:=q-p) () ?_;rw[He U V p q t];have e:=Mq a (():0<=q-t);have f:=Mq b (():0<=t-p);rcases g with g|g
 ·have:=JW g (():0<q-t);omega
 ·have:=JW g (():0<t-p);omega
theorem SJ{a b t:Int}:2*max a b<t↔2*a<t/\2*b<t:=by rw[Int.max_def];split<;>omega
theorem SK{a b t:Int}:t<2*min a b↔t<2*a/\t<2*b:=by rw[Int.min_def];split<;>omega
theorem yT{a c d b1 e f:Int}(h:a<b1/\a<e/\a<f)(h':c<b1/\c<e/\c<f)(g:d<b1/\d<e/\d<f):∃t,(2*a<t/\2*c<t/\2*d<t)/\t<2*b1/\t<2*e/\t<2*f:=by have k:∀{b},a<b->c<b->d<b->max (max a c) d<b:=fun x y z=>Int.max_lt.mpr ⟨Int.max_lt.mpr ⟨x,y⟩,z⟩;have l:max (max a c) d<min (min b1 e) f:=Int.lt_min.mpr ⟨Int.lt_min.mpr ⟨k h.1 h'.1 g.1,k h.2.1 h'.2.1 g.2.1⟩,k h.2.2 h'.2.2 g.2.2⟩;have i:a<=max (max a c) d:=Int.le_trans (Int.le_max_left ..) (Int.le_max_left ..);have j:c<=max (max a c) d:=Int.le_trans (Int.le_max_right ..) (Int.le_max_left ..);have o:d<=max (max a c) d:=Int.le_max_right ..;have p:min (min b1 e) f<=b1:=Int.le_trans (Int.min_le_left ..) (Int.min_le_left ..);have q:min (min b1 e) f<=e:=Int.le_trans (Int.min_le_left ..) (Int.min_le_right ..);have r:min (min b1 e) f<=f:=Int.min_le_right ..;generalize max (max a c) d=m at *;generalize min (min b1 e) f=n at *;clear h h' g k;refine⟨m+n,⟨?_,?_,?_⟩,?_,?_,?_⟩<;>omega
theorem qK{U V:Wl}{t:Int}(k:NM U)(l:NM V)(F:NY U V)(j:max (l1 U) (l1 V)<min (l2 U) (l2 V))(t1:2*max (l1 U) (l1 V)<t)(B:t<2*min (l2 U) (l2 V))(h:NS U V=MC):0<Gh U V t:=by
 have r:l1 U<l1 V->NQ U V<0:=fun z=>ML ((nU j z).symm.trans h);have hC:l1 V<l1 U->0<NQ V U:=fun z=>ML ((qO j z).symm.trans h);have P:l1 U=l1 V->l2 U<l2 V->0<NT V U:=fun z y=>ML ((uZ j z y).symm.trans h);have Q:l1 U=l1 V->¬l2 U<l2 V->NT U V<0:=fun z y=>ML ((rE j z y).symm.trans h);clear h;obtain⟨o1,m,n,o4⟩:=cy.mp j;clear j;obtain⟨R,S⟩:=SJ.mp t1;obtain⟨T,W⟩:=SK.mp B;clear t1 B;have C:=F.e1.nz;have D:=F.e2.nz;have E:=F.e3.nz;have G:=F.e4.nz;have pr:(¬(0<NQ V U/\NT V U<0)/\¬(NQ V U<0/\0<NT V U))\/(¬(0<NQ U V/\NT U V<0)/\¬(NQ U V<0/\0<NT U V)):=F.pr.elim (fun z=>.inr (Vy z)) (fun z=>.inl (Vy z));have z1:=Cf k l;have z2:=qj k l;have H:=Cf l k;have I:=qj l k;have X:=fun e f g s d i=>within (vY U V) (wU U V) e f g s pr d i;have Y:=fun e f g s d i=>within (vY V U) (wU V U) e f g s pr.symm d i;have Z:=fun e f g d i=>pG (wU U V) (vY V U) e f g pr d i;have s2:=fun e f g d i=>pG (wU V U) (vY U V) e f g pr.symm d i;clear pr;have ne:=F.ne;have J:0<lam U:=by have:=k.lt;unfold lam;omega
 have K:0<lam V:=by have:=l.lt;unfold lam;omega
 have L:=Fv U V;have M:=HF U V;have G3:=IQ U V;have G4:=IJ U V;have u:0<NQ V U->0<Gh U V (2*l1 U):=fun z=>by rw[L];have:=JW J z;omega
 have v:0<NT V U->0<Gh U V (2*l2 U):=fun z=>by rw[M];have:=JW J z;omega
 have w:NQ U V<0->0<Gh U V (2*l1 V):=fun z=>by rw[G3];have:=JV K z;omega
 have x:NT U V<0->0<Gh U V (2*l2 V):=fun z=>by rw[G4];have:=JV K z;omega
 have N:NQ V U=0->Gh U V (2*l1 U)=0:=fun z=>by rw[L,z];simp
 have O:NT V U=0->Gh U V (2*l2 U)=0:=fun z=>by rw[M,z];simp
 rcases Jt (l1 U) (l1 V)with y|y|y<;>rcases Jt (l2 U) (l2 V)with c|c|c
 ·have A:=C y n;have nd:=G n c;have q:=s2 y n c A nd;have o:NQ U V<0:=r y;have b:=w o;have a:=v ();exact fF (p:=2*l1 V) (q:=2*l2 U) (by assumption) (by assumption) (Kv b) (by first|exact Kv a|exact Int.le_of_eq a.symm) (.inl b)
 ·have o:NQ U V<0:=r y;have b:=w o;have a:=O (I c.symm);exact fF (p:=2*l1 V) (q:=2*l2 U) (by assumption) (by assumption) (Kv b) (by first|exact Kv a|exact Int.le_of_eq a.symm) (.inl b)
 ·have A:=C y n;have nb:=D () c;have q:=Y y () n c A nb;have o:NQ U V<0:=r y;have b:=w o;have a:=x ();exact fF (p:=2*l1 V) (q:=2*l2 V) (by assumption) (by assumption) (Kv b) (by first|exact Kv a|exact Int.le_of_eq a.symm) (.inl b)
 ·have b:=N (H y.symm);have a:=v (P y c);exact fF (p:=2*l1 U) (q:=2*l2 U) (by assumption) (by assumption) (Int.le_of_eq b.symm) (Kv a) (.inr a)
 ·exact absurd ⟨y,c⟩ ne
 ·have b:=N (H y.symm);have a:=x (Q y ());exact fF (p:=2*l1 U) (q:=2*l2 V) (by assumption) (by assumption) (Int.le_of_eq b.symm) (Kv a) (.inr a)
 ·have q:=X y () m c (E y m) (G () c);have d:0<NQ V U:=hC y;have b:=u d;have a:=v ();exact fF (p:=2*l1 U) (q:=2*l2 U) (by assumption) (by assumption) (Kv b) (by first|exact Kv a|exact Int.le_of_eq a.symm) (.inl b)
 ·have d:0<NQ V U:=hC y;have b:=u d;have a:=O (I c.symm);exact fF (p:=2*l1 U) (q:=2*l2 U) (by assumption) (by assumption) (Kv b) (by first|exact Kv a|exact Int.le_of_eq a.symm) (.inl b)
 ·have q:=Z y m c (E y m) (D m c);have d:0<NQ V U:=hC y;have b:=u d;have a:=x ();exact fF (p:=2*l1 U) (q:=2*l2 V) (by assumption) (by assumption) (Kv b) (by first|exact Kv a|exact Int.le_of_eq a.symm) (.inl b)
theorem nK{U V W:Wl}(a:NM U)(d:NM V)(b:NM W)(r:NY U V)(s:NY V W)(h:NY U W)(i:max (l1 U) (l1 V)<min (l2 U) (l2 V))(j:max (l1 V) (l1 W)<min (l2 V) (l2 W))(f:max (l1 U) (l1 W)<min (l2 U) (l2 W))
 (u:NS U V=MC) (v:NS V W=MC):NS U W=MC:=by
 have c:=cy.mp i
 have g:=cy.mp j
 have l:=cy.mp f
 obtain⟨t,⟨x1,m,o⟩,y1,p,q⟩:=yT ⟨c.1,c.2.1,l.2.1⟩ ⟨c.2.2.1,c.2.2.2,g.2.1⟩ ⟨l.2.2.1,g.2.2.1,g.2.2.2⟩
 have w:=qK (t:=t) a d r i (SJ.mpr ⟨x1,m⟩) (SK.mpr ⟨y1,p⟩) u
 have x:=qK (t:=t) d b s j (SJ.mpr ⟨m,o⟩) (SK.mpr ⟨p,q⟩) v
 have y:0<lam U:=by have:=a.lt;unfold lam;omega
 have A:0<lam V:=by have:=d.lt;unfold lam;omega
 have lw:0<lam W:=by have:=b.lt;unfold lam;omega
 have C:0<Gh U W t:=by
  refine jT (k:=lam V) A ?_
  have e:Gh U W t*lam V=lam U*Gh V W t+lam W*Gh U V t:=by unfold Gh;grind
  rw[e]
  exact Int.add_pos (JW y x) (JW lw w)
 cases z:NS U W with
 |true=>rfl
 |false=>
  have n:=gi a b h f
  rw[z]at n
  have B:=qK (t:=t) b a h.swap (by rw[Int.max_comm,Int.min_comm];exact f) (SJ.mpr ⟨o,x1⟩) (SK.mpr ⟨q,y1⟩) n
  rw[uL]at B
  omega
theorem cx{U:Wl}(a:NM U):NS U U=MD:=by
 unfold NS;split
 ·rw[MI rfl,ME (),qj a a rfl];rfl
 ·rfl
theorem m5{a b:Type}(f:a->b)(xs:List a)(j:Nat)(y:a):gD (xs.map f) j (f y)=(gD xs j y).map f:=by unfold gD;simp[List.map_take,List.map_drop]
theorem nW{a:Type}(xs:List a)(j:Nat)(y:a):(gD xs j y).Perm (y::xs):=by
 unfold gD;have h:(xs.take j++y::xs.drop j).Perm (y::(xs.take j++xs.drop j)):=List.perm_middle
 rwa [List.take_append_drop]at h
theorem rk:∀ns:pq,L3 (ns.map Md)<=10
 |[]=>NL rfl
 |n::ns=>by
  rw[Jn,L3]
  exact Nat.max_le.mpr ⟨NL rfl,rk ns⟩
theorem kj{ps:List Lz}(a:KO ps=MC)(b:L3 ps<=10):KU (.list ps)=MC:=by unfold KU;rw[JN];refine⟨by rw[Ld];exact a,MK ?_⟩;rw[PyData.depth];omega
theorem shaped_ints(ns:pq):KU (.list (ns.map Md))=MC:=kj (lay_ints ns) (rk ns)
theorem fK{b:Type}(p:b->Bool)(f:b->D):∀l:List b,l.filterMap (fun k=>if p k=MC then MA (f k)else MB)=(l.filter p).map f
 |[]=>rfl
 |a::l=>by
  rw[List.filterMap_cons,List.filter_cons]
  cases h:p a
  ·simp[fK p f l]
  ·simp[fK p f l]
def NU(ws:ro)(k:Int):Wl:=(ws[k.toNat]?).getD (0,0,0,0)
theorem bz{ws:ro}{k:Int}(b:0<=k)(c:k<ws.length):ws[k.toNat]?=MA (NU ws k)/\atI (ws.map uw) k=MA (uw (NU ws k))/\NU ws k∈ws:=by
 obtain⟨j,rfl⟩:∃j:Nat,k=(j:Int):=⟨k.toNat,()⟩;have a:j<ws.length:=()
 have e:NU ws (j:Int)=ws[j]:=by unfold NU;simp[a]
 refine⟨by rw[e];simp[a],?_,by rw[e];exact K1 a⟩;rw[e];exact bH (by simp[a])
theorem yh{R:Int->Int->Bool}:∀fs:pq,fs≠[]->(∀k∈fs,∀j∈fs,k≠j->R j k=!R k j)->(∀k∈fs,∀j∈fs,∀i∈fs,k≠j->j≠i->k≠i->R k j=MC->R j i=MC->R k i=MC)->∃t∈fs,∀k∈fs,k=t\/R t k=MC
 |[],h,_,_=>absurd rfl h
 |[a],_,_,_=>⟨a,by simp,fun k c=>.inl ‹c›⟩
 |a::b::l,_,tot,tr=>by
  obtain⟨t,d,top⟩:=yh (R:=R) (b::l) (by simp) (fun k c j f=>tot k (.tail _ c) j (.tail _ f)) (fun k c j f i p=>tr k (.tail _ c) j (.tail _ f) i (.tail _ p))
  by_cases e:a=t
  ·subst e
   refine⟨a,by simp,fun k c=>?_⟩
   rcases JI.mp c with rfl|c
   ·exact .inl rfl
   ·exact top k c
  ·have m:=tot a (by simp) t (.tail _ d) e
   cases q:R a t with
   |false=>
    rw[q]at m
    refine⟨t,.tail _ d,fun k c=>?_⟩
    rcases JI.mp c with rfl|c
    ·exact .inr m
    ·exact top k c
   |true=>
    refine⟨a,by simp,fun k c=>?_⟩
    rcases JI.mp c with rfl|g
    ·exact .inl rfl
    ·by_cases n:k=a
     ·exact .inl n
     ·rcases top k g with rfl|z
      ·exact .inr q
      ·by_cases o:k=t
       ·subst o;exact .inr q
       ·exact .inr (tr a (by simp) t (.tail _ d) k c e (fun y=>o y.symm) (fun y=>n y.symm) q z)
theorem r9{fs:pq}{t:Int}{p:Int->Bool}(nd:fs.Nodup)(f:t∈fs)(b:∀k∈fs,p k=MC↔k=t):fs.filter p=[t]:=by
 induction fs with
 |nil=>cases f
 |cons a l g=>
  rw[Lx]at nd
  rw[List.filter_cons]
  by_cases e:a=t
  ·subst e;rw[MI ((b a (by simp)).mpr rfl)];have:l.filter p=[]:=List.filter_eq_nil_iff.mpr fun k c d=>nd.1 ((b k (.tail _ c)).mp d▸c);rw[this]
  ·rw[ME (fun z=>e ((b a (by simp)).mp z))];exact g nd.2 ((JI.mp f).resolve_left (fun z=>e z.symm)) fun k c=>b k (.tail _ c)
def SM(q:Rat):Lz:=.tuple [.int q.num,.int (q.den:Int)]
def R0(t b x y:Int)(w:Wl):Lz:=.tuple [.tuple [SM (MX t b x 1 w.1),SM (MX t b y 1 w.2.1)],.tuple [SM (MX t b x 1 w.2.2.1),SM (MX t b y 1 w.2.2.2)]]
theorem xF(t b x y:Int)(w:Wl):K3 (R0 t b x y w) (R0 t b x y w)=MC:=by simp[R0,SM,K3,Km]
theorem BM{a b x y:Int}(e:-10<=b/\b<=85)(f:-10<=y/\y<=85):HT.lexLt [a,b] [x,y]=decide (la a b<la x y):=by have h:=NB (a:=a) (b:=b) (c:=x) (d:=y);rw[Ks,h,MN];unfold la;omega
def Se(ws:ro)(m s:Int)(j:Nat):Bool:=decide (m*l1 (NU ws (j:Int))<=s)&&decide (s<m*l2 (NU ws (j:Int)))
def Vw(ws:ro)(m s:Int):pq:=((Jp ws.length).filter (Se ws m s)).map fun j:Nat=>(j:Int)
theorem i9{ws:ro}{m s k:Int}(h:k∈Vw ws m s):0<=k/\k<ws.length/\m*l1 (NU ws k)<=s/\s<m*l2 (NU ws k):=by unfold Vw at h;obtain⟨j,a,rfl⟩:=JQ.mp h;rw[Jr,JK]at a;have:=a.2;unfold Se at this;rw[JN,MN,MN]at this;exact⟨(),(),this.1,this.2⟩
theorem EV(m a b:Int):la (m*a) (m*b)=m*la a b:=by unfold la;grind
theorem over_of{m s a b c d:Int}(j:0<m)(f:m*a<=s)(g:s<m*b)(h:m*c<=s)(i:s<m*d):max a c<min b d:=by have e:∀{x y:Int},m*x<=s->s<m*y->x<y:=fun{x y} p q=>Int.lt_of_mul_lt_mul_left (Int.lt_of_le_of_lt p q) ();have:=e f g;have:=e f i;have:=e h g;have:=e h i;omega
theorem yH{ws:ro}{fs:pq}{m s:Int}(r:∀w∈ws,NM w)(hF:PF ws)(u:0<m)(v:∀k∈fs,k∈Vw ws m s)(x:fs≠[])(nd:fs.Nodup) :
 ∃t∈fs,(∀w∈fs.map (NU ws),w=NU ws t\/(NS (NU ws t) w=MC/\NS w (NU ws t)=MD))/\(fs.filter fun k=>fs.all fun j=>!NS (NU ws j) (NU ws k))=[t]:=by
 have sp:=fun k d=>i9 (v k d)
 have un:∀k∈fs,NM (NU ws k):=fun k d=>r _ (bz (sp k d).1 (sp k d).2.1).2.2
 have fr:∀k∈fs,∀j∈fs,k≠j->NY (NU ws k) (NU ws j):=fun k d j f ne=>by
  have a:=sp k d
  have b:=sp j f
  exact hF k.toNat j.toNat _ _ () (bz a.1 a.2.1).1 (bz b.1 b.2.1).1
 have n:∀k∈fs,∀j∈fs,max (l1 (NU ws k)) (l1 (NU ws j))<min (l2 (NU ws k)) (l2 (NU ws j)):=fun k d j f=>
  over_of u (sp k d).2.2.1 (sp k d).2.2.2 (sp j f).2.2.1 (sp j f).2.2.2
 have g:∀k∈fs,∀j∈fs,k≠j->NS (NU ws j) (NU ws k)=!NS (NU ws k) (NU ws j):=fun k d j f ne=>gi (un k d) (un j f) (fr k d j f ne) (n k d j f)
 obtain⟨t,o,top⟩:=yh (R:=fun k j=>NS (NU ws k) (NU ws j)) fs x g (fun k d j f i l a b c p q=>nK (un k d) (un j f) (un i l) (fr k d j f a) (fr j f i l b) (fr k d i l c) (n k d j f) (n j f i l) (n k d i l) p q)
 refine⟨t,o,fun w y=>?_,r9 nd o fun k d=>?_⟩
 ·obtain⟨k,d,rfl⟩:=JQ.mp y
  by_cases e:k=t
  ·exact .inl (by rw[e])
  ·have a:=(top k d).resolve_left e
   have b:=g t o k d (fun z=>e z.symm)
   rw[a]at b
   exact .inr ⟨a,b⟩
 ·rw[Kl]
  constructor
  ·intro h
   by_cases e:k=t
   ·exact e
   ·have a:=(top k d).resolve_left e
    have:=h t o
    rw[a]at this
    cases this
  ·rintro rfl j f
   by_cases e:j=k
   ·rw[e,cx (un k d)];rfl
   ·have a:=(top j f).resolve_left e
    have b:=g k d j f (fun z=>e z.symm)
    rw[b,a];rfl
section
variable{X:Cx}{MR:pa}{σ:L2.St}{H:Hp}{s:J5}
theorem tJ{h':oT}{t':Nat}{e it:n_}(I:Inv X MR σ H s)(k:∀b o,b≠e->b≠it->s.heap.get? b=MA o->h'.get? b=MA o)(g:dn X MR H e)(h:dn X MR H it):Inv X MR σ H { s with heap:=h',toks:=t' }:=by
 obtain⟨i,e1,_,e3,e4,j⟩:=g;obtain⟨l,f,_,p,t,w⟩:=h;have ne:∀b u,H b=MA u->b≠e/\b≠it:=fun b u q=>⟨fun z=>(by rw[z,i]at q;cases q),fun z=>(by rw[z,l]at q;cases q)⟩;have d:∀{b:n_},b∉[e,it]->b≠e/\b≠it:=fun{b} a=>⟨fun z=>a (by simp[z]),fun z=>a (by simp[z])⟩;refine I.step (g':=s.gens) (d':=s.drawn) (ch:=[e,it]) (fun b x=>?_) (fun b o _ _ a q _=>k b o (d a).1 (d a).2 q) (fun b o _ _ a q _=>⟨o.slots,k b o (d a).1 (d a).2 q⟩) (fun _ _ _ _ n=>n) (fun b o a q=>⟨o,k b o (d a).1 (d a).2 q⟩) (fun _ _ q=>q) (fun _ _ _ q=>q) (fun b ps q=>⟨#[],by rw[q];simp⟩) (fun m A=>?_) (fun b u q=>?_) I.bare
 ·rcases(show b=e\/b=it by simpa using x)with rfl|rfl
  ·exact⟨e3,e1,e4,j⟩
  ·exact⟨p,f,t,w⟩
 ·obtain⟨o,B,C,D,r⟩:=A;exact⟨o,B,C,k _ o (Ne.symm e1) (Ne.symm f) D,r⟩
 ·refine(I.hok b u q).iP (fun c v a z=>?_) (fun _ z=>z) fun _ _ z=>z;rcases a with y|y
  ·subst y;exact k _ v (ne _ u q).1 (ne _ u q).2 z
  ·exact k c v (ne c _ y).1 (ne c _ y).2 z
end
theorem qD(c:Nat){prog:JL}{w:Kg}{A:Kn}{it:n_}{fp:q_}{n:Nat}{P:Nat->J3->Prop}{St:Nat->oT->Prop}(D:Draws prog w A it fp n P St):Draws prog w A it fp (n+c) (fun j x=>∃i,j=i+c/\P i x) (fun j h=>∃i,j=i+c/\St i h) where
 live:=fun j h a=>by
  obtain⟨i,_,st⟩:=a
  exact D.live i h st
 frame:=fun j h b a k=>by
  obtain⟨i,e,st⟩:=a
  exact⟨i,e,D.frame i h b st k⟩
 item:=fun j s Q E m a f=>by
  obtain⟨i,e,st⟩:=a
  exact D.item i s Q E () st fun x b g p d l=>f x b g ⟨i,e,p⟩ ⟨i+1,(),d⟩ l
 done:=fun s Q E a hE=>by
  obtain⟨i,e,st⟩:=a
  obtain rfl:i=n:=()
  exact D.done s Q E st hE
theorem rW{prog:JL}{w:Kg}{A:Kn}(b:A.handled=MB)(it l:n_)(c:l≠it)(items:Array J3){i:Nat}(d:items[i]?=MB):Draws prog w A it [it,l] i (fun _ _=>False) (fun j h=>j=i/\h.IsListIter it l i/\h.IsList l items) where
 live:=fun _ _ st=>by
  obtain⟨o,f,_⟩:=st.2.1
  exact⟨o,f⟩
 frame:=fun _ _ _ st a=>⟨st.1,st.2.1.at fun o e=>a it (by simp) o e,st.2.2.at fun o e=>a l (by simp) o e⟩
 item:=fun j s Q E g st _=>absurd st.1 ()
 done:=fun s Q E st hE=>wpAny_nextOf_list_end b st.2.1 st.2.2 d hE
def WI(K:J1)(c:Nat)(a:n_):It:=
 ⟨fun i H=>∃xs x,NX K H a xs/\xs[i]?=MA x,fun i H x b=>∃T y,x=.ref T/\H T=MB/\b=upd H T (.tup [.int ((i+c:Nat):Int),y])/\∀xs,NX K H a xs->xs[i]?=MA y,fun i H=>∃xs,NX K H a xs/\xs.length<=i⟩
theorem nQ(c:Nat){P:JL}{w:Kg}{K:J1}{F:qb}{kt}{pt:Pos}(a e it:n_)(r:e≠it):Turn P w K (.Tuple F kt pt) (WI K c a) [e,it] e (fun i h=>(∃g,IsEnum h e it ((i+c:Nat):Int) g)/\h.IsListIter it a i) where
 mem:=by simp
 obj:=fun i h st b G=>by
  rcases(show b=e\/b=it by simpa using G)with rfl|rfl
  ·obtain⟨⟨g,q⟩,_⟩:=st
   exact⟨_,q,fun v z=>by
    have z':Data.fields _=Data.cell v:=z
    cases z'⟩
  ·obtain⟨o,q,_,d⟩:=st.2
   exact⟨o,q,fun v z=>by rw[d]at z;cases z⟩
 keep:=fun i h h' st k=>by
  obtain⟨⟨g,q⟩,st⟩:=st
  exact⟨⟨g,k e (by simp) _ q⟩,st.at fun o z=>k it (by simp) o z⟩
 item:=by
  intro X N O Q R i MR s σ H E I hf st S
  subst N O Q
  obtain⟨xs,x,M,T⟩:=S
  obtain⟨m,U,p,hz⟩:=I.list M
  obtain⟨u,hu,ru⟩:=U.get T
  obtain⟨⟨g,t⟩,j⟩:=st
  have le:e<s.z:=Jz t
  have li:it<s.z:=by obtain⟨o,q,_⟩:=j;exact Jz q
  have y:a≠it:=fun z=>by
   subst z
   obtain⟨o1,V,W,_⟩:=j
   obtain⟨o2,y1,B,_⟩:=p.isList
   rw[V]at y1;cases y1
   rw[W]at B;exact absurd (Value.type.inj B) ⋯
  have Y:e≠a:=fun z=>by
   subst z
   obtain⟨o2,y1,B,_⟩:=p.isList
   rw[show s.heap.get? e=_ from t]at y1;cases y1
   exact absurd (Value.type.inj B) ⋯
  have C:X.A.in1.handled=MB:=I.ok.hd R
  have a0:i<m.length:=(Jq.mp hu).1
  refine wpAny_pyNext_enum_itemD (i:=i+c) (qD c (Draws.list C it a y m.toArray)) t ⟨i,rfl,j,p.isList⟩ (by simp;omega) r (by simp[r,Y]) fun x0 h1 D l ho J hT b0 hk=>?_
  obtain⟨i0,c0,l⟩:=l
  obtain rfl:i=i0:=()
  obtain⟨i1,d0,L⟩:=J
  obtain rfl:i1=i+1:=()
  obtain rfl:u=x0:=by
   have l:m[i]?=MA x0:=‹l›
   rw[hu]at l;cases l;rfl
  refine⟨_,rfl,wpAny_letOwnedTupleGo_enum (s:={ s with heap:=h1,toks:=D+1 }) ho fun h2 Z n=>?_⟩
  have n:Mj e h1 h2:=n
  have fr:=I.fresh
  have I1:Inv X MR σ (upd H s.z (.tup [.int ((i+c:Nat):Int),x])) { s with heap:=s.heap.push { cls:=.type "tuple",data:=.seq #[.int ((i+c:Nat):Int) D,u] },toks:=s.toks }:=
   I.laid (fun b v q=>Jo _ q) (J9 _) ⟨NL rfl,[.int ((i+c:Nat):Int) D,u],.cons ⟨_,rfl⟩ (.cons ru .nil),⟨_,Jy _ rfl,rfl,_,rfl⟩,⟨_,Jy _ rfl,rfl⟩⟩
  have fk:∀{b:n_},b<s.z->dn X MR H b->dn X MR (upd H s.z (.tup [.int ((i+c:Nat):Int),x])) b:=fun{b} lt f=>⟨by rw[bo (K5 lt)];exact f.1,f.2⟩
  have fe:=fk le (hf e (by simp))
  have fi:=fk li (hf it (by simp))
  have I2:Inv X MR σ (upd H s.z (.tup [.int ((i+c:Nat):Int),x])) { s with heap:=h2,toks:=D+1 }:=by
   refine tJ (s:={ s with heap:=s.heap.push { cls:=.type "tuple",data:=.seq #[.int ((i+c:Nat):Int) D,u] },toks:=s.toks }) I1 (fun b o ne ni q=>?_) fe fi
   have q:(s.heap.push { cls:=.type "tuple",data:=.seq #[.int ((i+c:Nat):Int) D,u] }).get? b=MA o:=q
   refine(n.2 b ne).trans ?_
   rcases Heap.get?_push_cases q with⟨rfl,rfl⟩|q
   ·exact hT
   ·exact hk b o ne ni q
  refine⟨.ref s.z,_,I2,rfl,⟨_,x,rfl,fr,rfl,fun ys hy=>by rw[I.i8 hy M];exact T⟩,⟨⟨u,?_⟩,L.1.at fun o z=>(n.2 it r.symm).trans z⟩,fun b G=>?_⟩
  ·rw[show((i+1+c:Nat):Int)=((i+c:Nat):Int)+1 by omega];exact Z
  ·rcases(show b=e\/b=it by simpa using G)with rfl|rfl
   ·exact fe.1
   ·exact fi.1
 done:=by
  intro X N O Q R i MR s σ H E I hf st S
  subst N O Q
  obtain⟨xs,M,T⟩:=S
  obtain⟨m,U,p,hz⟩:=I.list M
  obtain⟨⟨g,t⟩,j⟩:=st
  obtain⟨f0,f1,f2,f3,f4,f5⟩:=hf it (by simp)
  have hl:=U.length
  have y:a≠it:=fun z=>by
   subst z
   obtain⟨o1,V,W,_⟩:=j
   obtain⟨o2,y1,B,_⟩:=p.isList
   rw[V]at y1;cases y1
   rw[W]at B;exact absurd (Value.type.inj B) ⋯
  have C:X.A.in1.handled=MB:=I.ok.hd R
  exact wpAny_pyNext_enum_endD (rW C it a y m.toArray (i:=i) (by simp;omega)) t ⟨rfl,j,p.isList⟩ fun h' eb=>⟨rfl,I.turned (t':=s.toks) (fun b o G q=>eb b o G q) f0 f1 f3 f4 f5⟩
 self:=fun _ _ _ _ _ st h=>let⟨⟨_,t⟩,_⟩:=st;wpAny_pyIter_enum t h
theorem jk:Kp "enumerate"=MA (.type "enumerate"):=by decide +kernel
section
variable{X:Cx}{elts:qb}{kt:Nat}{pt:Pos}
def FO(K:J1)(b:TA):TI:=fun σ H R=>b σ H fun vs H1=>∃a xs,vs=[.ref a]/\H1 a=MA (.lst xs)/\R (WI K 0 a) H1
theorem Ba{a:o_}{j:TA}{p pos:Pos}(m:Gl X "enumerate")(o:X.mg "enumerate"=MB)(t:PA X [a] j)(v:JC [a] X.env=[(MD,eval a X.env)]:=by rfl):PI X (.Tuple elts kt pt) (.Call (.Name "enumerate" p) [a] [] pos) (FO X.K j):=by
 intro MR s σ H R I h;refine Call_ (iL I m o jk (LV (NO (t pos MR s σ H _ I h) fun us c d=>?_) v rfl));obtain⟨vs,H1,g,w,x⟩:=d;obtain⟨l,xs,y,A,q⟩:=x;subst y;obtain⟨u,rfl,B⟩:=w.one;cases B;obtain⟨z,C,n,r,G,e⟩:=g.nD A;refine call_enumerate_1 e fun J k i D E=>wpAny_pyIter_enum k ?_
 have fp:∀b∈[c.z+1,c.z],dn X MR H1 b:=fun b F=>by
  have f:c.z<=b:=by
   rcases(show b=c.z+1\/b=c.z by simpa using F)with rfl|rfl
   ·exact Nat.le_succ _
   ·exact J9 _
  exact g.qg f (g.hok.fresh f)
 exact⟨_,[c.z+1,c.z],_,_,H1,rfl,g.kept (t':=c.toks) E,nQ 0 l _ _ (Nat.succ_ne_self _),⟨⟨_,k⟩,i⟩,fp,q⟩
theorem vM(c:Nat){K:J1}{H1:Hp}{l:n_}{es:rv}:Vm K H1 ⟨es.length,fun i=>(es[i]?).map fun d=>.tup [.int ((i+c:Nat):Int),d],fun M=>M l=MA (.lst es)⟩ (WI K c l):=by
 refine⟨fun o f p b g=>?_,fun i o f e p b g=>?_,?_⟩
 ·obtain⟨a,h,j⟩:=b _ _ (show f l=MA (.lst es)from g);exact⟨a,NX.of h,by rw[<-j.length];exact J9 _⟩
 ·obtain⟨a,h,j⟩:=b _ _ (show f l=MA (.lst es)from g);have k:i<a.length:=by rw[<-j.length];exact e
  exact⟨a,a[i],NX.of h,by simp[k]⟩
 ·rintro i o f v q e p b g ⟨T,y,rfl,m,rfl,h⟩;have e:i<es.length:=e;obtain⟨a,n,j⟩:=b _ _ (show f l=MA (.lst es)from g);obtain⟨x,e1,e2⟩:=j.get (show es[i]?=MA es[i] by simp[e]);have:=h a (NX.of n);rw[e1]at this;cases this;exact⟨.new m,b.new m,.tup [.int ((i+c:Nat):Int),es[i]],by simp[e],by rw[Rep];exact⟨T,_,rfl,N0.of bD,.cons (by rw[Rep]) (.cons (e2.mono (.new m)) .nil)⟩⟩
def Gv(c:Nb):OV:=fun δ M R=>c δ M fun e b=>∃l a,e=[.ref l]/\b l=MA (.lst a)/\R ⟨a.length,fun i=>(a[i]?).map fun d=>.tup [.int (i:Int),d],fun M=>M l=MA (.lst a)⟩ b
theorem vJ{a:o_}{d:Nb}{p pos:Pos}(g:Gl X "enumerate")(h:X.mg "enumerate"=MB)(i:DA X [a] d)(b:JC [a] X.env=[(MD,eval a X.env)]:=by rfl):DI X (.Tuple elts kt pt) (.Call (.Name "enumerate" p) [a] [] pos) (Gv d):=
 lR (Ba g h i b) fun σ H R j=>by
  obtain⟨δ,M,x,b,k,q,c⟩:=j
  exact⟨δ,M,_,b,k,q,fun y m vs H1 n o f s=>by
   obtain⟨l,z,e,t,u⟩:=s
   subst e
   obtain⟨v,rfl,r⟩:=cA o
   rw[Rep]at r;subst r
   obtain⟨xs,w,A⟩:=f _ _ t
   exact⟨l,xs,rfl,w,c _ m H1 _ n f u (vM 0)⟩⟩
end
theorem q0{U V:Wl}(h:NS U V=MC):max (l1 U) (l1 V)<min (l2 U) (l2 V):=by
 unfold NS at h;split at h
 ·assumption
 ·cases h
theorem oo(f:Int->Int):∀fs:pq,fs≠[]->∃w∈fs,∀k∈fs,f w<=f k
 |[],h=>absurd rfl h
 |[a],_=>⟨a,by simp,fun k c=>by rw[JH.mp c];exact Ln _⟩
 |a::b::l,_=>by
  obtain⟨w,d,h⟩:=oo f (b::l) (by simp)
  by_cases e:f a<=f w
  ·refine⟨a,by simp,fun k c=>?_⟩
   rcases JI.mp c with rfl|c
   ·exact Ln _
   ·have:=h k c;omega
  ·refine⟨w,.tail _ d,fun k c=>?_⟩
   rcases JI.mp c with rfl|c
   ·omega
   ·exact h k c
theorem AW{ws:ro}(v:∀w∈ws,NM w)(hF:PF ws):∀(n:Nat) (fs:pq),fs.length=n->fs≠[]->fs.Nodup->(∀k∈fs,0<=k/\k<ws.length)->∃t∈fs,∀k∈fs,NS (NU ws k) (NU ws t)=MD:=by
 intro n
 induction n with
 |zero=>intro fs h l;exact absurd (List.eq_nil_of_length_eq_zero h) l
 |succ n x=>
  intro fs A l nd i
  have un:∀k∈fs,NM (NU ws k):=fun k c=>v _ (bz (i k c).1 (i k c).2).2.2
  have fr:∀k∈fs,∀j∈fs,k≠j->NY (NU ws k) (NU ws j):=fun k c j B ne=>by
   have a:=i k c
   have b:=i j B
   exact hF k.toNat j.toNat _ _ () (bz a.1 a.2).1 (bz b.1 b.2).1
  obtain⟨w,f,g⟩:=oo (fun k=>l2 (NU ws k)) fs l
  by_cases p:fs.erase w=[]
  ·refine⟨w,f,fun k c=>?_⟩
   have:k=w:=by
    by_cases e:k=w
    ·exact e
    ·have:=(List.Nodup.mem_erase_iff nd).mpr ⟨e,c⟩;rw[p]at this;cases this
   subst this;exact cx (un k c)
  ·obtain⟨t,r,top⟩:=x (fs.erase w) (by rw[List.length_erase_of_mem f,A];rfl) p (nd.erase w) (fun k c=>i k (List.mem_of_mem_erase c));have d:t∈fs:=List.mem_of_mem_erase r;have C:t≠w:=((List.Nodup.mem_erase_iff nd).mp r).1;cases q:NS (NU ws w) (NU ws t)with
   |false=>
    refine⟨t,d,fun k c=>?_⟩
    by_cases e:k=w
    ·subst e;exact q
    ·exact top k ((List.Nodup.mem_erase_iff nd).mpr ⟨e,c⟩)
   |true=>
    refine⟨w,f,fun k c=>?_⟩
    cases z:NS (NU ws k) (NU ws w)with
    |false=>rfl
    |true=>
     exfalso
     by_cases e:k=w
     ·subst e;rw[cx (un k c)]at z;cases z
     ·have m:=q0 z;have s:=q0 q;have D:l2 (NU ws w)<=l2 (NU ws k):=g k c;have E:l2 (NU ws w)<=l2 (NU ws t):=g t d;have F:=(un k c).lt;have G:=(un t d).lt;have H:max (l1 (NU ws k)) (l1 (NU ws t))<min (l2 (NU ws k)) (l2 (NU ws t)):=cy.mpr ⟨F,Int.lt_of_lt_of_le (cy.mp m).2.1 E,Int.lt_of_lt_of_le (cy.mp s).2.2.1 D,G⟩;have o:k∈fs.erase w:=(List.Nodup.mem_erase_iff nd).mpr ⟨e,c⟩;by_cases u:k=t
      ·subst u;have:=gi (un k c) (un w f) (fr k c w f e) m;rw[z,q]at this;cases this
      ·have:=nK (un k c) (un w f) (un t d) (fr k c w f e) (fr w f t d (fun y=>C y.symm)) (fr k c t d u) m s H z q;rw[top k o]at this;cases this
end SD
namespace HT
open PySem PyProof.Rows
section
open PySem.SeqAt
open PySem.AutoSeq1 (wpAny_loadPart')
open PySem.MeetsSeq PySem.MeetsSeq2 PySem.MeetsSeq3
theorem nB(l:n_)(items:Array J3)(n:Nat)(r:Option n_)(t:Array (Option J3))(x:J3)(j:Nat)(C:j<items.size) :
 Meets (Mx.«tuple.index» ⟨[.ref l,x],[]⟩) fun A R s=>s.heap.get? l=MA { cls:=.type "tuple",dict:=r,data:=.seq items n,slots:=t }/\(∀(i:Nat) (D:i<items.size),i<=j->EqAt A.in1 s items[i] x (decide (i=j)))/\R (.ok (.ret (.int (j:Int) s.toks))) { s with toks:=s.toks+1 }:=
 .of_wp fun prog w A R s h=>by
  obtain⟨u,g,d,v,os⟩:=s;obtain⟨y,k,h⟩:=h
  unfold Mx.«tuple.index»
  simp only[Std.Legacy.Range.forIn_eq_forIn_range']
  wp_walk using KQ y,wpAny_forIn_list _ (fun c b o=>b=(MB,.unit)/\o=⟨u,g,d,v,os⟩/\∃m,m<=j/\c=List.range' m (items.size-m) 1) _
  case turn=>
   rintro a c b o ⟨rfl,rfl,m,q,e⟩
   have p:items.size-m=(items.size-m-1)+1:=()
   rw[p,List.range'_succ]at e
   injection e with z B
   subst z B
   have f:a<items.size:=()
   rw[Array.getElem?_eq_getElem f]
   refine cc (k a f q prog w _ _ ?_)
   by_cases e1:a=j
   ·subst e1
    rw[MK rfl]
    wp_walk
    exact⟨_,rfl,h⟩
   ·rw[MJ e1]
    wp_walk
    exact⟨rfl,rfl,a+1,(),by rw[show items.size-a-1=items.size-(a+1) by omega]⟩
  case fin=>
   rintro b o ⟨rfl,rfl,m,q,e⟩
   have p:items.size-m=(items.size-m-1)+1:=()
   rw[p,List.range'_succ]at e
   cases e
  exact⟨rfl,rfl,0,(),by simp[Std.Legacy.Range.size]⟩
end
end HT
namespace SD
open PySem PySem.Spec PyProof.Rows L2
section
variable{X:Cx}
def HE(c:TD)(t:Nb):TD:=fun δ M Q=>c δ M fun x e=>∃a,x=.tup a/\t δ e fun f b=>∃d p,∃j:Nat,f=[d]/\j<a.length/\Pd b d p/\KU p=MC/\
 (∀(i:Nat) (y:D),i<=j->a[i]?=MA y->∃q,Pd b y q/\Ld q=MC/\K3 q p=decide (i=j))/\Q (.int (j:Int)) b
def GQ(K:J1):V->ri->Hp->VK->Prop:=fun x vs H Q=>∃a b M v d p,∃j:Nat,x=.ref a/\vs=[v]/\NW K H M/\Rep K H (.tup b) x/\Rep K H d v/\j<b.length/\Pd M d p/\KU p=MC/\
 (∀(i:Nat) (y:D),i<=j->b[i]?=MA y->∃q,Pd M y q/\Ld q=MC/\K3 q p=decide (i=j))/\Q (.int (j:Int)) H
theorem D1(hu:X.A.units+66<Ku):WH X "tuple.index" (GQ X.K):=by
 intro MR s σ H x vs v us Q I B C D;obtain⟨a,l,M,v1,d,p,j,ex,E,u,w,hd,G,J,f,g,q⟩:=D;subst ex E;cases B;obtain⟨L,rfl,N⟩:=C.one;rw[Rep]at w;obtain⟨a',xs,O,P,y⟩:=w;cases O;obtain⟨c,h,⟨o,z,R,n,S⟩,hz⟩:=I.tuple P;obtain⟨as,T⟩:=bP I u J hd N;have b:c.length=l.length:=by rw[<-h.length,y.length]
 obtain⟨oc,od,U,osl⟩:=o;cases R;cases S;refine call_meets PySem.F.slot_tuple_index ⟨_,z,rfl⟩ PySem.F.entry_tuple_index (PySem.F.args_tuple_index_2 _ _) (HT.nB a c.toArray n od osl L j (by simpa[b]using G)) ⟨z,fun i V m=>?_,?_⟩
 ·have k:i<l.length:=by simpa[b]using V
  obtain⟨W,Y,Z,g3⟩:=g i l[i] m (J0 k);obtain⟨x1,e1,r⟩:=y.get (J0 k);obtain⟨u2,e2,t⟩:=h.get e1;obtain⟨bs,q2⟩:=bP I u Y r t
  have e3:c.toArray[i]=u2:=by
   have:=Jq.mp e2
   obtain⟨_,e⟩:=this
   simpa using e
  rw[e3,<-g3];have hm:min W.depth p.depth<=63+1:=Kr (Nat.min_le_right _ _) (SeqAt.depth_of_shaped f);exact PySem.SeqAt.eqAt_reads _ _ _ _ _ _ _ _ q2 T Z (L6 f) (by show X.A.units+1+_<Ku;omega)
 ·exact⟨.int _,H,I.tok _,⟨_,rfl⟩,q⟩
theorem Dz{o e1:o_}{m:TE}{t:TA}{c bg:Pos}(r:X.A.units+66<Ku)(u:PE X o m)(w:PA X [e1] t)
 (d:LH o "index" X.env (eval o X.env)=eval o X.env)
 (j:((L5 bg (JC [e1] X.env)).all (fun x=>!x.1)&&(backToKw bg (LW [] X.env)).all (fun x=>x.1.isSome)
  && decide ([e1].length+([]:List Mt).length+(if([]:List Mt).isEmpty then 0 else 1)<30))=MC)
 (f:(c.endLine==bg.line)=MC) (y:JC [e1] X.env=(MD,eval e1 X.env)::JC [] X.env) (b:(L5 bg (JC [] X.env)).any (·.1)=MD) :
 PE X (.Call (.Attribute o "index" c) [e1] [] bg) (fun σ H Q=>m σ H fun x H1=>(∃p xs,x=.ref p/\N0 X.K H1 p xs)/\t σ H1 fun vs k=>GQ X.K x vs k Q):=by
 intro MR s σ H Q I h
 refine wpAny_Call_method_late d j f rfl (NO (u MR s σ H _ I h) fun v z g=>?_)
 obtain⟨x,H1,l,B,⟨p,xs,ex,n⟩,C⟩:=g
 subst ex
 cases B
 obtain⟨D,_,⟨E,G,J,_⟩,_⟩:=l.tuple n
 obtain⟨L,M,N⟩:=l.Fp n
 refine⟨"tuple","tuple.index",PySem.F.plainAttrs_tuple,PySem.F.slot_tuple_index,PySem.F.type_tuple_index,⟨E,G,J⟩,fun a e=>by cases e;exact⟨L,M,N⟩,?_⟩
 have q:=w bg MR z σ H1 _ l C
 rw[y]at q ⊢
 refine Calls.callWith_builtin (by show(MD||(L5 bg (JC [] X.env)).any (·.1))=MD;rw[b]<;>rfl) (Calls.evalArgs_plain ?_)
 exact NO q fun us O i=>by obtain⟨vs,k,P,R,S⟩:=i;exact(D1 r MR O σ k (.ref p) vs (.ref p) us Q P rfl R S)
variable{o e1:o_}{to:TD}{t:Nb}{apos bg:Pos}
theorem t8(z:X.A.units+66<Ku)(B:DE X o to)(C:DA X [e1] t)
 (c:LH o "index" X.env (eval o X.env)=eval o X.env:=by rfl)
 (h:((L5 bg (JC [e1] X.env)).all (fun x=>!x.1)&&(backToKw bg (LW [] X.env)).all (fun x=>x.1.isSome)
  && decide ([e1].length+([]:List Mt).length+(if([]:List Mt).isEmpty then 0 else 1)<30))=MC:=by rfl)
 (e:(apos.endLine==bg.line)=MC:=by rfl) (D:JC [e1] X.env=(MD,eval e1 X.env)::JC [] X.env:=by rfl) (b:(L5 bg (JC [] X.env)).any (·.1)=MD:=by rfl) :
 DE X (.Call (.Attribute o "index" apos) [e1] [] bg) (HE to t):=
 bw (Dz z B C c h e D b) fun σ H Q ⟨δ,M,R,i,E,q,l⟩=>by
  refine⟨δ,M,_,i,E,q,fun x F v H1 u m G f=>?_⟩
  obtain⟨I,ex,J⟩:=f
  subst ex
  have n:=m
  rw[Rep]at m
  obtain⟨a,xs,rfl,K,V⟩:=m
  refine⟨⟨a,xs,rfl,K⟩,δ,F,_,i.mono u,G,J,fun W L us Y w N y g=>?_⟩
  obtain⟨d,p,j,O,P,S,r,k,T⟩:=g
  subst O
  obtain⟨U,rfl,s⟩:=cA N
  exact⟨a,I,L,U,d,p,j,rfl,rfl,y,n.mono w,s,P,S,r,k,l _ _ _ _ (u.trans w) (by rw[Rep]) y T⟩
def GW(te:TD):Nh:=fun δ M Q=>te δ M fun x a=>∃l xs,x=.ref l/\a l=MA (.lst xs)/\Q (!xs.isEmpty) a
theorem Fn{e:o_}{te:TD}(g:DE X e te)(hw:∀a,isTrue e X.env a=(do let v <-a;standAt e.pos;holding [v] (truthy v)):=by intro _;rfl):DT X e (GW te):=
 lV (yn g hw) fun σ H Q ⟨δ,M,R,h,i,q,b⟩=>⟨δ,M,_,h,i,q,fun x r v H1 j d f ⟨l,xs,ex,k,m⟩=>by
  subst ex
  rw[Rep]at d;subst d
  obtain⟨c,n,p⟩:=f _ _ k
  refine⟨_,.inl ⟨c,NX.of n,rfl⟩,?_⟩
  have e:c.isEmpty=xs.isEmpty:=by
   have:=p.length
   cases xs<;>cases c<;>simp at this ⊢
  rw[e]
  exact b _ _ _ j f m⟩
end
open PySem PySem.W PySem.Spec PySem.Calls PyProof.Rows Builtin Builtin.ObjectAttr Builtin.Getset_descriptor
section
variable{P:JL}{w:Kg}{K:J1}{mg:Str->Option J3}{base:oT}{N:ra}{qual:Str}{scope:LY}{f:n_}{cd:J3}{A:Kn}{outer:List Env}{s:J5}{H:Hp}{E:XK}
end
def two(a t1 b c d:o_)(scope:LY)(pos:Pos):o_:=.ListComp a [⟨t1,b,[],0⟩,⟨c,d,[],0⟩] scope pos
theorem GC(a t1 d e c:o_)(scope:LY)(pos:Pos)(it b:J3)(env:Env):compTurn (two a t1 d e c scope pos) 0 it b env=(do
 standAt d.pos
 match <-pyNext it with
 |none=>pure (.done .next)
 |some v=>
  Lv t1 it v
  Mp t1 env v
  let x <-eval c env
  standAt c.pos
  let x <-JZ c env x
  let _ <-runOwn (.compStart (two a t1 d e c scope pos) 1 (<-holding [x] (pyIter x)) b env) env
  again (.compLoop (two a t1 d e c scope pos) 0 it b env)):=by rfl
theorem G5(a t1 e c d:o_)(scope:LY)(pos:Pos)(it b:J3)(env:Env):compTurn (two a t1 e c d scope pos) 1 it b env=(do
 standAt d.pos
 match <-pyNext it with
 |none=>pure (.done .next)
 |some v=>
  Lv c it v
  Mp c env v
  (do let _ <-call (.builtin "list.append") [b,<-eval a env])
  again (.compLoop (two a t1 e c d scope pos) 1 it b env)):=by rfl
section
variable{prog:JL}{w:Kg}{A:Kn}{R:Result->J5->Prop}{s:J5}{elt t1 i1 t2 i2:o_}{scope:LY}{pos:Pos}{it acc:J3}{env:Env}
theorem Fi(c:LM (JF prog w) A (.compLoop (two elt t1 i1 t2 i2 scope pos) 1 it acc env) R s)
 (h:Js (JF prog w) A (pyIter it) (fun a b=>LM (JF prog w) A (.compLoop (two elt t1 i1 t2 i2 scope pos) 1 a acc env) R b) (notedBy (JF prog w) A env fun x b=>R (.error x) b) s) :
 LM (JF prog w) A (.compStart (two elt t1 i1 t2 i2 scope pos) 1 it acc env) R s:=by
 refine codeAny_of_tree ?_
 show Js _ _ ((compStart (two elt t1 i1 t2 i2 scope pos) 1 it acc env).onRaise (fun x=>do noteFrame x env;standAt theWindowsPlace)) _ _ s
 refine wpAny_notedAt ?_
 unfold compStart
 show Js _ _ (ask >>= _) _ _ s
 refine cc (wpAny_askSetting (wpAny_ite ?_))
 split
 ·first
   |exact cc (J7 (J7 (And.intro rfl c)))
   |exact J7 (And.intro rfl c)
 ·refine cc (wpAny_rule ?_)
  show Js _ _ (standAt i2.pos >>= _) _ _ s
  exact cc (Lc (cc (JB h (fun a b d=>J7 (And.intro rfl d)) fun _ _ x=>x)))
theorem GS(J:Nat->J5->Prop)
 (step:∀n s,J n s->Js (JF prog w) A (pyNext it) (fun r b=>match r with
  |none=>R (.ok .next) b
  |some v=>Js (JF prog w) A (Lv t2 it v) (fun _ c=>Js (JF prog w) A (Mp t2 env v) (fun _ d=>
   Js (JF prog w) A (eval elt env) (fun x f=>Js (JF prog w) A (call (.builtin "list.append") [acc,x]) (fun _ g=>∃m,m<n/\J m g) Nc f) Nc d) Nc c) Nc b) Nc s)
 (n:Nat) (h:J n s):LM (JF prog w) A (.compLoop (two elt t1 i1 t2 i2 scope pos) 1 it acc env) R s:=by
 have a:∀{E:J3->J5->Prop} e i,Nc e i->E e i:=fun _ _ z=>z.elim
 refine codeAny_loop rfl J (fun n s k=>?_) n h
 show Js _ _ (Sem.onRaise (compTurn (two elt t1 i1 t2 i2 scope pos) 1 it acc env) (fun x=>do noteFrame x env;theTreesLotGoes x)) _ _ s
 refine wpAny_noted ?_
 rw[G5]
 refine cc (Lc (cc (JB (step n s k) (fun r b j=>?_) a)))
 cases r with
 |none=>exact J7 j
 |some v=>
  refine cc (JB j (fun _ c l=>cc (JB l (fun _ d o=>?_) a)) a)
  exact cc (cc (JB o (fun x f p=>cc (JB p (fun _ g q=>J7 (J7 ⟨rfl,q⟩)) a)) a))
theorem Hr(J:Nat->J5->Prop)(c:∀x,JZ i2 env x=pure x)
 (step:∀n s,J n s->Js (JF prog w) A (pyNext it) (fun r d=>match r with
  |none=>R (.ok .next) d
  |some v=>Js (JF prog w) A (Lv t1 it v) (fun _ g=>Js (JF prog w) A (Mp t1 env v) (fun _ i=>
   Js (JF prog w) A (eval i2 env) (fun x j=>Js (JF prog w) A (pyIter x) (fun a k=>LM (JF prog w) A (.compStart (two elt t1 i1 t2 i2 scope pos) 1 a acc env) (fun r l=>match r with
    |.ok _=>∃m,m<n/\J m l
    |.error e=>False) k) Nc j) Nc i) Nc g) Nc d) Nc s)
 (n:Nat) (h:J n s):LM (JF prog w) A (.compLoop (two elt t1 i1 t2 i2 scope pos) 0 it acc env) R s:=by
 have b:∀{E:J3->J5->Prop} e o,Nc e o->E e o:=fun _ _ z=>z.elim
 refine codeAny_loop rfl J (fun n s t=>?_) n h
 show Js _ _ (Sem.onRaise (compTurn (two elt t1 i1 t2 i2 scope pos) 0 it acc env) (fun x=>do noteFrame x env;theTreesLotGoes x)) _ _ s
 refine wpAny_noted ?_
 rw[GC]
 refine cc (Lc (cc (JB (step n s t) (fun r d p=>?_) b)))
 cases r with
 |none=>exact J7 p
 |some v=>
  refine cc (JB p (fun _ g u=>cc (JB u (fun _ i y=>cc (JB y (fun x j B=>?_) b)) b)) b)
  refine cc (Lc ?_)
  rw[c]
  refine cc (J7 ?_)
  refine cc (KC (JB B (fun a k C=>?_) b))
  refine cc (wpAny_runOwn (codeAny_mono C (fun r l q=>?_)))
  cases r with
  |ok f=>exact J7 ⟨rfl,q⟩
  |error e=>exact q.elim
end
def Hd(js:pe)(wi2:TI)(te:TE)(σ:L2.St)(J:It)(H1:Hp)(Q:VK):Prop:=∀D,H1 D=MB->∃W:Nat->Nat->Hp->Prop,(∃m,W 0 m (upd H1 D (.lst [])))/\∀i m H,W i m H->
 (J.stop i H/\Q (.ref D) H)\/(J.go i H/\∀y c,J.yld i H y c->∀o,wi2 (cσ [MA y,o] js σ) c fun b h=>∃U:Nat->Nat->Hp->Prop,(∃n,U 0 n h)/\∀j n a,U j n a->
  (b.stop j a/\∃d,d<m/\W (i+1) d a)\/(b.go j a/\∀z e,b.yld j a z e->te (cσ [MA y,MA z] js σ) e fun v f=>∃xs,f D=MA (.lst xs)/\xs.length<Jv/\∃g,g<n/\U (j+1) g (upd f D (.lst (xs++[v])))))
def Cv(js:pe)(a wi2:TI)(te:TE):TE:=fun σ H Q=>a σ H fun J H1=>Hd js wi2 te σ J H1 Q
section
variable{X:Cx}{x y:Str}{px py pos:Pos}{js:pe}{scope:LY}{elt i1 i2:o_}{te:TE}{wi wi2:TI}{MR:pa}{σ:L2.St}{H:Hp}{s:J5}{fp:q_}{it:n_}{tn:Nat->oT->Prop}{J:It}
theorem Ak(c:NK X [x,y] js scope)(hc:X.calm=MC)(p1:∀C s H fp,PI (NV X [x,y] js scope C s H fp) (.Name y py) i2 wi2)(q1:∀(env:Env) x,JZ i2 env x=pure x)(he:∀C s H fp,PE (NV X [x,y] js scope C s H fp) elt te)
 {R:J3->n_->Result->J5->Prop} {E:J3->J5->Prop} {Q:VK}
 (I:Inv X MR σ H s) (T:Turn X.prog X.w X.K (.Name x px) J fp it tn) (st:tn 0 s.heap) (hf:∀b∈fp,dn X MR H b) (wc:Hd js wi2 te σ J H Q)
 (hR:∀D C f F,Inv X MR σ f F->dn X MR f C->(∃m,F.heap.Ns C m)->Q (.ref D) f->R (.ref D) C (.ok .next) F) :
 Js (JF X.prog X.w) X.A (newList []) (fun s0 t0=>Js (JF X.prog X.w) X.A (newFunctionEnv scope X.env.globals (fy scope.names X.env) [] X.env.qual MB .none (MA X.env)) (fun N v0=>
  LM (JF X.prog X.w) X.A (.compStart (two elt (.Name x px) i1 (.Name y py) i2 scope pos) 0 (.ref it) s0 { N with scope:=relabel scope X.env }) (R s0 N.locals) v0) E t0) E s:=by
 have r1:∀C s H fp,PG (NV X [x,y] js scope C s H fp) (.Name x px) (gv 0):=fun _ _ _ _=>iV c 0 rfl
 have s1:∀C s H fp,PG (NV X [x,y] js scope C s H fp) (.Name y py) (gv 1):=fun _ _ _ _=>iV c 1 rfl
 have x0:∀b∈fp,b<s.z:=fun b a=>let⟨o,e,_⟩:=T.obj 0 _ st b a;Jz e
 have hD:H s.z=MB:=I.hok.fresh (J9 _)
 refine K7 (pZ ?_)
 generalize hh:s.heap.push { cls:=.type "list",dict:=MB,data:=.seq ([]:List J3).toArray }=g
 generalize y0:pushCells (({ s with heap:=g }:J5).heap.push { cls:=.type "dict",data:=.dict #[] }) scope.names=h
 have k3:∀b o,s.heap.get? b=MA o->g.get? b=MA o:=fun b o e=>by rw[<-hh];exact Jo _ e
 have I3:Inv X MR σ (upd H s.z (.lst [])) { s with heap:=g }:=by
  refine I.laid (t':=s.toks) k3 (J9 _) ?_
  refine⟨Kj _,[],0,.nil,?_⟩
  rw[<-hh]
  exact Jy _ rfl
 have k:∀b∈fp,dn X MR (upd H s.z (.lst [])) b:=fun b a=>⟨by rw[bo (K5 (x0 b a))];exact(hf b a).1,(hf b a).2⟩
 have t1:g.objs.size=s.z+1:=by rw[<-hh,KY]
 have z0:∀b∈fp,b<g.objs.size:=fun b a=>by rw[t1];exact Nat.lt_succ_of_lt (x0 b a)
 have k4:∀b o,g.get? b=MA o->h.get? b=MA o:=fun b o e=>by rw[<-y0];exact pushCells_keeps _ _ b o (Jo _ e)
 have I4:=mF c I3 k z0 (h':=h) y0.symm k4
 obtain⟨W,⟨m0,w0⟩,b1⟩:=wc _ hD
 have Pn:tn 0 h:=T.keep 0 _ _ st fun b a o e=>k4 b o (k3 b o e)
 generalize hX:NV X [x,y] js scope g.objs.size { s with heap:=g } (upd H s.z (.lst [])) fp=X' at I4
 have S:∀{pins':pa} {f:Hp} {l:L2.St} {F:J5},Inv X' [] l f F->(∀b∈fp,f b=MB)->∀b∈fp,dn X' [] f b:=fun{pins' f l F} J' hn b a=>by
  subst hX
  obtain⟨a1,a2⟩:=J'.ok.exf b a
  exact⟨hn b a,a1,J'.ok.exfs b a,.inl a,a2,fun p hp=>absurd (show p∈([]:pa)from hp) (by simp)⟩
 have O:LM (JF X.prog X.w) X.A (.compLoop (two elt (.Name x px) i1 (.Name y py) i2 scope pos) 0 (.ref it) (.ref s.z) (kJ scope g.objs.size X.env)) (R (.ref s.z) g.objs.size)
  { s with heap:=h }:=by
  refine Hr (fun n F=>∃i os f,os.length=2/\Inv X' [] (cσ os js σ) f F/\tn i F.heap/\(∀b∈fp,f b=MB)/\W i n f) (fun x=>q1 _ x) ?_ m0 ⟨0,_,_,by simp,I4,Pn,fun b a=>(k b a).1,w0⟩
  rintro n s5 ⟨i,os,H5,u1,I5,Ol,c1,w5⟩
  rcases b1 i n H5 w5 with⟨stop,q⟩|⟨go,step⟩
  ·subst hX
   refine JB (T.done (NV X [x,y] js scope g.objs.size { s with heap:=g } (upd H s.z (.lst [])) fp) rfl rfl rfl hc i [] s5 _ H5 Nc I5 (S (pins':=[]) I5 c1) Ol stop) (fun r s6 z6=>?_) fun _ _ z=>z
   obtain⟨Y,I6⟩:=z6
   subst Y
   refine hR _ _ H5 s6 (I3.xD I6.os I6.base I6.hok I6.bare fun b a=>⟨(k b a).2.2.2.1,(k b a).2.1,(k b a).2.2.2.2.1,(k b a).2.2.2.2.2⟩) (I3.qg (J9 _) I6.free) (let⟨m,hm,_⟩:=I6.loc;⟨m,hm⟩) q
  ·subst hX
   refine JB (T.item (NV X [x,y] js scope g.objs.size { s with heap:=g } (upd H s.z (.lst [])) fp) rfl rfl rfl hc i [] s5 _ H5 Nc I5 (S (pins':=[]) I5 c1) Ol go) (fun r s6 z6=>?_) fun _ _ z=>z
   obtain⟨u,Y,h6⟩:=z6
   subst Y
   refine JB h6 (fun _ s7 z7=>?_) fun _ _ z=>z
   obtain⟨yv,H7,I7,r7,y7,Ot,v1⟩:=z7
   have w1:=I7.pinned (S (pins':=[]) I7 v1) (T.obj _ _ Ot)
   obtain⟨o0,o1,rfl⟩:∃o0 o1,os=[o0,o1]:=by
    exact yU u1
   refine JB (r1 _ _ _ _ _ s7 _ H7 yv u (fun l f=>l=cσ [MA yv,o1] js σ/\f=H7) w1 r7 ⟨rfl,rfl⟩) (fun _ s8 Z=>?_) fun _ _ z=>z
   obtain⟨l3,H8,I8,e8,x1⟩:=Z
   subst e8 x1
   have d1:∀{m':Nat} {o2:Option V} {t:Hp} {B:J5},Inv (NV X [x,y] js scope g.objs.size { s with heap:=g } (upd H s.z (.lst [])) fp) ([]++gQ fp s7.heap) (cσ [MA yv,o2] js σ) t B->m'<n->W (i+1) m' t->
    ∃m,m<n/\∃i os f,os.length=2/\Inv (NV X [x,y] js scope g.objs.size { s with heap:=g } (upd H s.z (.lst [])) fp) [] (cσ os js σ) f B/\tn i B.heap/\(∀b∈fp,f b=MB)/\W i m f:=fun{m' o2 t B} G a0 y1=>by
    refine⟨m',a0,i+1,_,t,rfl,G.eJ,T.keep _ _ _ Ot fun b a o e=>(G.pin (b,o) (Jw _ (Jw _ (b6 a e)))).1,fun b a=>?_,y1⟩
    obtain⟨o',e,d⟩:=T.obj _ _ Ot b a
    exact(G.pin (b,o') (Jw _ (Jw _ (b6 a e)))).2.1
   refine JB (p1 _ _ _ _ _ s8 _ _ _ I8 (step yv H8 y7 o1)) (fun v2 s9 h9=>JB h9 (fun m3 B z1=>?_) fun _ _ z=>z) fun _ _ z=>z
   obtain⟨b2,c2,d2,J2,t,e2,G,T2,Ov,M,U,⟨n0,u0⟩,b0⟩:=z1
   subst e2
   have L:LM (JF X.prog X.w) X.A (.compLoop (two elt (.Name x px) i1 (.Name y py) i2 scope pos) 1 (.ref b2) (.ref s.z) (kJ scope g.objs.size X.env)) (fun r s6=>match r with
    |.ok _=>∃m,m<n/\∃i os f,os.length=2/\Inv (NV X [x,y] js scope g.objs.size { s with heap:=g } (upd H s.z (.lst [])) fp) [] (cσ os js σ) f s6/\tn i s6.heap/\(∀b∈fp,f b=MB)/\W i m f
    |.error e=>False) B:=by
    refine GS (fun n2 F=>∃j o2 f,Inv (NV X [x,y] js scope g.objs.size { s with heap:=g } (upd H s.z (.lst [])) fp) ([]++gQ fp s7.heap) (cσ [MA yv,o2] js σ) f F/\d2 j F.heap/\(∀b∈c2,f b=MB)/\U j n2 f) ?_ n0 ⟨0,o1,t,G,Ov,fun b a=>(M b a).1,u0⟩
    rintro n2 e1 ⟨j,o2,c0,f1,Ou,P,f2⟩
    rcases b0 j n2 c0 f2 with⟨d0,m',a0,w'⟩|⟨g2,e0⟩
    ·refine JB (T2.done (NV X [x,y] js scope g.objs.size { s with heap:=g } (upd H s.z (.lst [])) fp) rfl rfl rfl hc j _ e1 _ c0 Nc f1 (fun b a=>⟨P b a,(M b a).2⟩) Ou d0) (fun r h2 f0=>?_) fun _ _ z=>z
     obtain⟨Y,j2⟩:=f0
     subst Y
     exact d1 j2 a0 w'
    ·refine JB (T2.item (NV X [x,y] js scope g.objs.size { s with heap:=g } (upd H s.z (.lst [])) fp) rfl rfl rfl hc j _ e1 _ c0 Nc f1 (fun b a=>⟨P b a,(M b a).2⟩) Ou g2) (fun r h2 g0=>?_) fun _ _ z=>z
     obtain⟨u2,Y,k2⟩:=g0
     subst Y
     refine JB k2 (fun _ m2 h0=>?_) fun _ _ z=>z
     obtain⟨zv,g1,p2,q2,r2,O7,h1⟩:=h0
     have j1:=p2.pinned (fun b a=>⟨h1 b a,(M b a).2⟩) (T2.obj _ _ O7)
     refine JB (s1 _ _ _ _ _ m2 _ g1 zv u2 (fun l f=>l=cσ [MA yv,MA zv] js σ/\f=g1) j1 q2 ⟨rfl,rfl⟩) (fun _ s2 i0=>?_) fun _ _ z=>z
     obtain⟨i3,t2,w2,x2,k1⟩:=i0
     subst x2 k1
     refine JB (he _ _ _ _ _ s2 _ _ _ w2 (e0 zv t2 r2)) (fun v y2 k0=>?_) fun _ _ z=>z
     obtain⟨vv,z2,a3,b3,ys,m1,n1,c3⟩:=k0
     refine JB (jA (X:=(NV X [x,y] js scope g.objs.size { s with heap:=g } (upd H s.z (.lst [])) fp)) _ y2 _ z2 (.ref s.z) [vv] (.ref s.z) [v] (fun _ f=>∃n',n'<n2/\U (j+1) n' f) a3 rfl (.cons b3 .nil) ⟨_,ys,vv,rfl,rfl,m1,n1,c3⟩) (fun _ n3 l0=>?_) fun _ _ z=>z
     obtain⟨_,e3,r0,_,n',f3,g3⟩:=l0
     refine⟨n',f3,j+1,_,e3,r0.eJ,T2.keep _ _ _ O7 fun b a o e=>(r0.pin (b,o) (Jw _ (Jw _ (b6 a e)))).1,fun b a=>?_,g3⟩
     obtain⟨o',e,d⟩:=T2.obj _ _ O7 b a
     exact(r0.pin (b,o') (Jw _ (Jw _ (b6 a e)))).2.1
   exact Fi L (T2.self X.A 0 _ _ _ Ov L)
 exact codeAny_compStart_list O (T.self X.A 0 _ _ _ Pn O)
theorem Dl(c:NK X [x,y] js scope)(l:X.calm=MC)(n:PI X (.Name x px) i1 wi)(g:∀C s H fp,PI (NV X [x,y] js scope C s H fp) (.Name y py) i2 wi2)(p:∀C s H fp,PE (NV X [x,y] js scope C s H fp) elt te) (r:∀x,JZ i1 X.env x=pure x:=by intro _;rfl) (i:∀(env:Env) x,JZ i2 env x=pure x:=by intro _ _;rfl) : PE X (two elt (.Name x px) i1 (.Name y py) i2 scope pos) (Cv js wi wi2 te):=by intro MR s σ H Q I h;unfold two;rw[eval_ListComp];refine wpAny_comprehension_free (use:=MB) rfl r (c.A3 I.ok) c.kind c.names (NO (n MR s σ H _ I h) fun v L t=>NO t fun u M a=>?_);obtain⟨it,fp,tn,J,N,e,z,T,st,B,w⟩:=a;subst e;refine Ak (R:=fun j C=>compPost (JF X.prog X.w) X.A X.xe MB (EP X MR σ Q) j C) c l g i p z T st B w fun D C E F G f d q=>?_;obtain⟨m,K⟩:=d;exact⟨m,K,fun O k=>⟨.ref D,E,G.turned (t':=F.toks) (fun b o ne e=>k.extBut b o ne e) f.1 f.2.1 f.2.2.2.1 f.2.2.2.2.1 f.2.2.2.2.2,rfl,q⟩⟩
end
def Hk(I:Qu)(js:pe)(h:OV)(te:TD)(δ:DS)(g:MH)(Q:DK):Prop:=I.n<=1000/\∀p,g p=MB->∃W:Nat->rv->MH->Prop,W 0 [] (az g p (.lst []))/\(∀i b M,i<=I.n->W i b M->I.C M)/\
 (∀i b d M,i<I.n->I.item i=MA d->W i b M->h (cδ [MA d,MB] js δ) M fun c k=>c.n<=1000/\∃U:Nat->rv->MH->Prop,U 0 b k/\(∀j a M,j<=c.n->U j a M->c.C M)/\
  (∀j a e M,j<c.n->c.item j=MA e->U j a M->te (cδ [MA d,MA e] js δ) M fun v l=>∃f,Sub f l/\f p=MA (.lst a)/\U (j+1) (a++[v]) (az f p (.lst (a++[v]))))/\∀a M,U c.n a M->W (i+1) a M)/\∀b M,W I.n b M->Q (.ref p) M
def Cj(a:OV)(js:pe)(b:OV)(te:TD):TD:=fun δ M Q=>a δ M fun I c=>Hk I js b te δ c Q
theorem tD{K:J1}{H:Hp}{d:D}{v:V}(o:Option V)(r:Rep K H d v):Slots K H [MA d,MB] [MA v,o]:=by
 refine⟨rfl,fun i e h=>?_⟩
 match i,h with
 |0,h=>cases h;exact⟨v,rfl,r⟩
 |1,h=>cases h
theorem t5{K:J1}{H:Hp}{d e:D}{v u:V}(r:Rep K H d v)(q:Rep K H e u):Slots K H [MA d,MA e] [MA v,MA u]:=jI (.cons r (.cons q .nil))
theorem yN{K:J1}{wd MV:OV}{js:pe}{te:TD}{σ:L2.St}{H:Hp}{Q:VK}(h:lift K (Cj wd js MV te) σ H Q):Cv js (mv K wd) (mv K MV) (lift K te) σ H Q:=by
 obtain⟨δ,M,R,L,hM,q,N⟩:=h;refine⟨δ,M,_,L,hM,q,fun I M1 H1 J O a1 P S p T=>?_⟩;obtain⟨hn,P⟩:=P;obtain⟨W,w0,hC,C,done⟩:=P p (a1.fresh T);refine⟨fun i m t=>m=I.n-i/\i<=I.n/\NN K H1 t/\∃w M,w.length<=i*1000/\NW K t M/\W i w M,⟨I.n,by simp,Kj _,.new T,[],_,Kj _,a1.nt T .nil,w0⟩,?_⟩;rintro i m t ⟨rfl,V,f,w,x,hl,F,D⟩;by_cases a:i<I.n
 ·refine .inr ⟨S.go i t x a f F (hC _ _ _ V D),fun v H3 hy o=>?_⟩;obtain⟨X,a3,d,ed,rd⟩:=S.yld i t x v H3 a f F (hC _ _ _ V D) hy;have q3:=C i w d x a ed D;refine⟨cδ [MA d,MB] js δ,x,_,k8 (js:=js) (L.mono ((O.trans f).trans X)) (tD o rd),a3,q3,fun y M4 H4 J2 Y a4 Z g=>?_⟩;obtain⟨b0,U,u0,k,l,r⟩:=Z;refine⟨fun j n z=>n=y.n-j/\j<=y.n/\NN K H4 z/\∃A M,A.length<=i*1000+j/\NW K z M/\U j A M,⟨y.n,by simp,Kj _,.refl,w,M4,(),a4,u0⟩,?_⟩;rintro j n z ⟨rfl,hj,s,A,B,c0,G,E⟩;by_cases b:j<y.n
  ·refine .inr ⟨g.go j z B b s G (k _ _ _ hj E),fun u H6 a0=>?_⟩;obtain⟨g6,a6,e,ee,re⟩:=g.yld j z B u H6 b s G (k _ _ _ hj E) a0;have s6:=k8 (js:=js) (L.mono (((((O.trans f).trans X).trans Y).trans s).trans g6)) (t5 (rd.mono ((Y.trans s).trans g6)) re);refine⟨cδ [MA d,MA e] js δ,B,_,s6,a6,l j A e B b ee E,fun vv M' uu H7 g7 r7 a7 c=>?_⟩;obtain⟨M8,s8,e8,w8⟩:=c;obtain⟨ts,hx,rs⟩:=(a7.sub s8) _ _ e8;refine⟨ts,hx,?_,y.n-(j+1),(),rfl,b,((s.trans g6).trans g7).trans (.lst hx),A++[vv],_,by simp;omega,(a7.sub s8).xf hx (rs.append (.cons r7 .nil)),w8⟩;rw[<-rs.length];have sz:1000000<=Jv:=NL rfl;omega
  ·obtain rfl:j=y.n:=()
   exact .inl ⟨g.stop z B s G (k _ _ _ hj E),I.n-(i+1),(),rfl,a,((f.trans X).trans Y).trans s,A,B,(),G,r _ _ E⟩
 ·obtain rfl:i=I.n:=()
  exact .inl ⟨S.stop t x f F (hC _ _ _ V D),N _ _ _ _ (O.trans f) (by rw[Rep]) F (done w x D)⟩
section
variable{X:Cx}{x y:Str}{px py pos:Pos}{js:pe}{scope:LY}{elt i1 i2:o_}{te:TD}{wd MV:OV}
theorem Ag(c:NK X [x,y] js scope)(d:X.calm=MC)(e:DI X (.Name x px) i1 wd)(a:∀C s H fp,DI (NV X [x,y] js scope C s H fp) (.Name y py) i2 MV)(f:∀C s H fp,DE (NV X [x,y] js scope C s H fp) elt te) (g:∀x,JZ i1 X.env x=pure x:=by intro _;rfl) (b:∀(env:Env) x,JZ i2 env x=pure x:=by intro _ _;rfl) : DE X (.ListComp elt [⟨.Name x px,i1,[],0⟩,⟨.Name y py,i2,[],0⟩] scope pos) (Cj wd js MV te):=bw (Dl (te:=lift X.K te) (wi2:=mv X.K MV) c d e a f g b) fun _ _ _ h=>yN h
end
section
variable{prog:JL}{w:Kg}{A:Kn}{E:J3->J5->Prop}{s:J5}
theorem qV{c:n_}{t:Tok}{Q:Int×Int×Nat->J5->Prop}(d:s.heap.IsSliceOf c .none .none (.int (-1) t))(h:Q (1,-1,2) s):Js (JF prog w) A (LZ (.ref c) (pure ((2:Nat):Int))) Q E s:=by obtain⟨os,a,e,b⟩:=id d;unfold LZ Builtin.Slice.sliceFields;refine cc (cc (wpAny_field a b (x:=.none) rfl (cc (wpAny_field a b (x:=.none) rfl (cc (wpAny_field a b (x:=.int (-1) t) rfl (J7 ?_)))))));refine cc (HT.eO (IsPart.int _ _) ?_);show Js _ _ (if((-1:Int)==0)=MC then _ else _) _ _ s;rw[ME ⋯];refine cc (HT.eO IsPart.none (cc (HT.eO IsPart.none (cc (J7 ?_)))));exact J7 h
theorem qC{t c:n_}{x y:J3}{tk:Tok}{Q:J3->J5->Prop}(b:IsTup s.heap t #[x,y])(g:s.heap.IsSliceOf c .none .none (.int (-1) tk))
 (h:Q (.ref s.z) { s with heap:=s.heap.push { cls:=.type "tuple",data:=.seq #[y,x] } }):Js (JF prog w) A (getItem (.ref t) (.ref c)) Q E s:=by
 obtain⟨os,d,e,i⟩:=id g
 have f:s.TypeIs (.ref c) "slice":=⟨os,d,e⟩
 unfold getItem
 try with_reducible refine KC ?_
 first|refine cc (J7 ?_)|skip
 refine cc (wpAny_sequenceKey b.typeIs ⋯ ?_)
 refine cc (wpAny_callSpecial?_slot (name:=LG "__getitem__") b.typeIs KH
  (wpAny_call_entry KH b.typeIs entry_tuple_getitem ?_ (args_tuple_getitem _ _)))
 show Js _ _ (Builtin.Tuple.tupleItemsOf (.ref t) >>= _) _ _ s
 refine cc (tupleItemsOf_ b ?_)
 refine cc (wpAny_typeOf f ?_)
 rw[MI ⋯]
 refine cc (qV g ?_)
 have a:sizeOk (.seq #[y,x]):=NL rfl
 first
  |exact cc (m:=KD _) (K7 (J7 ⟨_,rfl,J7 h⟩) a)
  |exact cc (m:=KD _) (K7 (cc (J7 (J7 ⟨_,rfl,J7 h⟩))) a)
  |exact cc (cc (m:=KD _) (K7 (J7 (J7 ⟨_,rfl,J7 h⟩)) a))
  |exact cc (cc (m:=KD _) (K7 (J7 ⟨_,rfl,J7 h⟩) a))
end
section
variable{X:Cx}{e st:o_}{pos p2:Pos}
def Ij(K:J1)(te:TE)(c:TO):TE:=fun σ H Q=>te σ H fun x H1=>c σ H1 fun o b=>o=MA (-1)/\∃a u v,x=.ref a/\N0 K b a [u,v]/\∀p,b p=MB->Q (.ref p) (upd b p (.tup [v,u]))
theorem Eg{te:TE}{p:TO}(z:PE X e te)(B:PO X (MA st) p):PE X (.Subscript e (.Slice MB MB (MA st) p2) pos) (Ij X.K te p):=by
 intro MR s σ H Q I h;refine Subscript_ (NO (z MR s σ H _ I h) fun v C d=>?_);obtain⟨x,H1,D,E,F⟩:=d;refine wpAny_Slice ?_;rw[evalPart_none];refine J7 (J7 (NO (B MR C σ H1 _ D F) fun vs c f=>?_));obtain⟨o,G,J,ps,L,a,u,t,ex,M,N⟩:=f;subst L ex;cases E;obtain⟨g,rfl⟩:∃g,vs=Value.int (-1) g:=by cases ps;exact⟨_,rfl⟩
 have k:Inv X MR σ G { c with heap:=c.heap.push { cls:=.type "slice",data:=.fields #[.none,.none,.int (-1) g] } }:=J.kept (t':=c.toks) fun b O q=>Jo _ q;obtain⟨l,r,y,T⟩:=k.tuple M
 obtain⟨i,j,rfl,m,n⟩:∃i j,l=[i,j]/\RelV u i/\RelV t j:=by
  cases r with
  |cons P r=>cases r with
   |cons R r=>cases r;exact⟨_,_,rfl,P,R⟩
 have S:Js (JF X.prog X.w) X.A (getItem (.ref a) (.ref c.z)) (EP X MR σ Q) X.xe { c with heap:=c.heap.push { cls:=.type "slice",data:=.fields #[.none,.none,.int (-1) g] } }:=by refine qC y (Heap.IsSliceOf.new ..) ?_;refine⟨.ref _,_,k.laid (t':=c.toks) (o:=.tup [t,u]) (fun b O q=>Jo _ q) (J9 _) ⟨NL rfl,[j,i],.cons n (.cons m .nil),IsTup.new _ _,Rm.new _ _⟩,rfl,N _ (k.hok.fresh (J9 _))⟩
 show Js (JF X.prog X.w) X.A (subscriptTail e (.Slice MB MB (MA st) p2) (.ref a) (.ref c.z)) (EP X MR σ Q) X.xe { c with heap:=c.heap.push { cls:=.type "slice",data:=.fields #[.none,.none,.int (-1) g] } };exact tail_any (ops:=[.ref a,.ref c.z]) y.typeIs KH.lookup S (by with_unfolding_all rfl)
def Jl(te:TD)(a:SS):TD:=fun δ M Q=>te δ M fun x b=>a δ b fun o c=>o=MA (-1)/\∃d e,x=.tup [d,e]/\Q (.tup [e,d]) c
theorem Fs{te l:TD}(r:DE X e te)(f:DE X st l):DE X (.Subscript e (.Slice MB MB (MA st) p2) pos) (Jl te (yZ l)):=
 bw (Eg r (ph f)) fun σ H Q c=>by obtain⟨δ,M,R,f,a,q,g⟩:=c;exact(⟨δ,M,_,f,a,q,fun x s v H1 m t u w=>⟨δ,s,_,f.mono m,u,w,fun o D E n y h=>by
  obtain⟨A,d,e,ex,h⟩:=h
  subst A ex
  have p:=t.mono n
  rw[Rep]at p
  obtain⟨b,xs,rfl,B,C⟩:=p
  obtain⟨F,G,rfl,i,j⟩:=eU C
  exact⟨rfl,_,_,_,rfl,B,fun z k=>g _ _ _ _ ((m.trans n).trans (.new k)) (by rw[Rep];exact⟨z,_,rfl,N0.of bD,aK.mono (.new k) (by
   rw[aK];exact⟨_,_,rfl,j,by rw[aK];exact⟨_,_,rfl,i,by rw[aK]⟩⟩)⟩) (y.new k) h⟩⟩⟩)
end
section
variable{X:Cx}
def IH:RC:=fun a M Q=>match a with
 |[.ref l]=>∃ns:pq,M l=MA (.lst (ns.map D.int))/\Q (.int ns.sum) M
 |_=>False
theorem kB(ns:pq):∀j,j<=ns.length->preSum (fun i=>(ns[i]?).getD 0) j=(ns.take j).sum
 |0,_=>by simp[preSum]
 |j+1,h=>by
  rw[preSum,kB ns j (),Kx,List.sum_append]
  have:j<ns.length:=()
  simp[this]
theorem wK(m:X.calm=MC):cv X (.builtin "sum") (fun xs H Q=>∃(p:n_) (ns:pq),xs=[.ref p]/\NX X.K H p (ns.map V.int)/\Q (.int ns.sum) H):=by
 intro MR s σ H xs us Q I r o;obtain⟨l,ns,e,w,k⟩:=o;subst e;obtain⟨u,rfl,y⟩:=vals1 r;cases y;obtain⟨a,g,z,_⟩:=I.list w;have d:=z.isList;have c:a.length=ns.length:=by rw[<-g.length,J4]
 have lt:l≠s.z:=K5 (let⟨_,e,_⟩:=d;Jz e);refine call_sum_walkG (x:=.ref l) (Ml d ⟨s.z,[s.z,l],[s.z],a.toArray.size,_,_,fun i=>(ns[i]?).getD 0,rfl,Walks.list (A:=X.A.in1) (I.ok.hd m) _ l lt a.toArray,⟨⟨_,Jy _ rfl,rfl,rfl⟩,d.push _⟩,?_,fun i v B=>?_,fun G J L C=>?_⟩)
 ·intro b j;simp at j;rcases j with rfl|rfl
  ·show _<(s.heap.push _).objs.size;rw[KY];omega
  ·show _<(s.heap.push _).objs.size;rw[KY];exact Nat.lt_succ_of_lt (let⟨_,e,_⟩:=d;Jz e)
 ·have f:a[i]?=MA v:=‹B›
  have D:=intsAre_of g
  obtain⟨n,E,q⟩:∃n,ns[i]?=MA n/\∃t,v=Value.int n t:=by
   have key:∀{us:List J3} {ns:pq},LN us ns->∀(i:Nat) (v:J3),us[i]?=MA v->∃n,ns[i]?=MA n/\∃t,v=Value.int n t:=by
    intro us ns h
    induction h with
    |nil=>intro i v e;simp at e
    |cons n t h F=>
     intro i v e
     cases i with
     |zero=>simp at e;exact⟨n,rfl,t,e.symm⟩
     |succ i=>exact F i v ‹e›
   exact key D i v f
  obtain⟨t,rfl⟩:=q;exact⟨t,by simp[E]⟩
 ·rw[show preSum (fun i=>(ns[i]?).getD 0) a.toArray.size=ns.sum by rw[JA,c,kB ns _ (J9 _),Lo]];exact⟨.int ns.sum,H,I.kept (LSm.kept_iter C),⟨_,rfl⟩,k⟩
theorem D7(g:X.calm=MC):dO X (.builtin "sum") IH:=cw (wK g) fun vs H Q ⟨b,M,R,h,a,q,c⟩=>by
 rcases b with _|⟨d,b⟩
 ·exact JR q
 cases d<;>rcases b with _|⟨e,b⟩<;>try exact JR q
 ·obtain⟨ns,e,q⟩:=q;obtain⟨v,rfl,r⟩:=cA h;rw[Rep]at r;subst r;obtain⟨xs,f,i⟩:=a _ _ e;rw[dW i]at f;exact⟨_,ns,rfl,NX.of f,c _ _ _ _ .refl (by rw[Rep]) a q⟩
theorem D0:Kp "sum"=MA (.builtin "sum"):=boot_sum
end
abbrev N4:=Int×Int×Int×Int
section
variable{P:JL}{w:Kg}
def tq(P:JL)(w:Kg)(h:oT)(n d:Int)(a:n_):Prop:=IsTupleKey (intKind P w) h [n,d] a
def gB(P:JL)(w:Kg)(h:oT)(k:N4)(a:n_):Prop:=∃o b c m,h.get? a=MA o/\o.cls=.type "tuple"/\o.data=.seq #[.ref b,.ref c] m/\tq P w h k.1 k.2.1 b/\tq P w h k.2.2.1 k.2.2.2 c
theorem gB.inj{h:oT}{a:n_}{x y:N4}(p:gB P w h x a)(q:gB P w h y a):x=y:=by
 obtain⟨o,b,c,m,j,v,k,l,n⟩:=p;obtain⟨z,r,s,A,d,B,f,t,u⟩:=q;rw[j]at d;cases d;rw[k]at f;injection f with e _;have e1:b=r/\c=s:=‹e›
 obtain⟨rfl,rfl⟩:=e1;have g:=IsTupleKey.inj l t;have i:=IsTupleKey.inj n u;obtain⟨x1,C,D,E⟩:=x;obtain⟨y1,F,G,H⟩:=y;simp at g i;obtain⟨rfl,rfl⟩:=g;obtain⟨rfl,rfl⟩:=i;rfl
theorem gB.keeps{h h':oT}{k:N4}{a d:n_}{o:Obj}{es:Array KG}{ep:Nat}(p:gB P w h k a)(hd:h.get? d=MA o)(e:o.data=.dict es ep)(f:Mj d h h'):gB P w h' k a:=by
 obtain⟨j,b,c,m,g,l,i,n,q⟩:=p;have ne:a≠d:=fun z=>by rw[z,hd]at g;cases g;rw[e]at i;cases i
 exact⟨j,b,c,m,(f.2 a ne).trans g,l,i,IsTupleKey.keeps n hd e f,IsTupleKey.keeps q hd e f⟩
def zp(P:JL)(w:Kg)(k:N4):Int:=reduceHash (Builtin.Tuple.tupleHashOf [tupleKeyHash (intKind P w) [k.1,k.2.1],tupleKeyHash (intKind P w) [k.2.2.1,k.2.2.2]])
theorem gB.hash{A:Kn}{E:J3->J5->Prop}{s:J5}{k:N4}{a:n_}{Q:Int->J5->Prop}(l:A.units+4<Ku)(p:gB P w s.heap k a)(q:Q (zp P w k) { s with toks:=s.toks+7 }):Js (JF P w) A (pyHash (.ref a)) Q E s:=by
 obtain⟨o,b,c,m,e,f,h,i,j⟩:=p;obtain⟨n,g,d,r,os⟩:=s;show Js _ _ (pyHashByItsType (.ref a)) _ _ _;refine PySem.W.pyHash_slot (T:="tuple") ⟨o,e,f⟩ F.slot_tuple_hash F.entry_tuple_hash (F.args_tuple_hash_1 _) rfl (.inr ()) ?_;unfold Mx.«tuple.__hash__»;simp only[<-Array.forIn_toList]
 iterate 4 wp_step
 refine J7 ?_;refine cc (wpAny_tupleItemsOf e h ?_);refine cc ?_;simp only[List.forIn_cons,List.forIn_nil,pure_bind,bind_assoc];refine cc (wpAny_pyHash_tuple (knd:=intKind P w) (by show A.units+1<Ku;omega) i ?_);refine cc (wpAny_pyHash_tuple (knd:=intKind P w) (by show A.units+1<Ku;omega) j ?_);refine J7 ?_;unfold retInt
 wp_walk
 exact⟨_,_,rfl,q⟩
theorem jo{n:Int}{v:J3}(h:(intKind P w).is n v=MC):∃t,v=.int n t:=by
 have h:Value.isInt n v=MC:=h;cases v with
 |int i t=>
  have:(i==n)=MC:=h
  exact⟨t,by rw[eq_of_beq this]⟩
 |_=>cases h
def Ax(n d:Int):Lz:=.tuple [.int n,.int d]
def rK(k:N4):Lz:=.tuple [Ax k.1 k.2.1,Ax k.2.2.1 k.2.2.2]
theorem tq.reads{h:oT}{n d:Int}{a:n_}(p:tq P w h n d a):∃e,Reads h (.ref a) (Ax n d) e:=by
 obtain⟨o,b,m,f,g,i,c⟩:=p;generalize j:b.toList=l at c;cases c with
 |cons k r=>
  cases r with
  |cons q r=>
   cases r
   obtain⟨t1,rfl⟩:=jo k
   obtain⟨s,rfl⟩:=jo q
   exact⟨_,.tuple f g i (by rw[j];exact .cons (.int _ _) (.cons (.int _ _) .nil))⟩
theorem gB.reads{h:oT}{k:N4}{a:n_}(p:gB P w h k a):∃d,Reads h (.ref a) (rK k) d:=by obtain⟨o,b,c,m,e,f,g,i,j⟩:=p;obtain⟨d,l⟩:=i.reads;obtain⟨bs,n⟩:=j.reads;exact⟨_,.tuple e f g (.cons l (.cons n .nil))⟩
theorem xK(x y:N4):(rK x).eqv (rK y)=decide (x=y):=by obtain⟨x1,a,b,c⟩:=x;obtain⟨y1,d,e,f⟩:=y;simp only[rK,Ax,K3,Km,LJ];rw[Ks];simp[and_assoc]
theorem gB.eq{A:Kn}{E:J3->J5->Prop}{s:J5}{x y:N4}{a b:n_}{Q:Bool->J5->Prop}(g:A.units+4<Ku)(p:gB P w s.heap x a)(c:gB P w s.heap y b)(q:Q (decide (x=y)) s):Js (JF P w) A (eqBool (.ref a) (.ref b)) Q E s:=by obtain⟨d,e⟩:=p.reads;obtain⟨bs,f⟩:=c.reads;have hd:min (rK x).depth (rK y).depth<=3:=Kr (Nat.min_le_left _ _) (NL rfl);have:=SeqAt.eqAt_reads (rK x) (rK y) A s (.ref a) (.ref b) d bs e f rfl rfl ();rw[xK]at this;exact this P w E Q q
theorem tq.quiet{A:Kn}{E:J3->J5->Prop}{s:J5}{n d:Int}{a:n_}{Q:Bool->J5->Prop}(i:Nat)(p:tq P w s.heap n d a)(q:Q MC s):Js (JF P w) A (eqIsQuiet (i+1) (.ref a)) Q E s:=by
 obtain⟨o,b,m,c,e,g,f⟩:=p;rw[eqIsQuiet.eq_2];refine cc (wpAny_specialOf ⟨o,c,e⟩ F.slot_tuple_eq.lookup ?_);refine cc (wpAny_isInstance ⟨o,c,e⟩ isSubtype_tuple_tuple ?_);simp only[Bool.not_true,Lj,if_false];refine cc (Mb c g ?_);simp only[Option.getD_some,<-Array.forIn_toList];generalize t:b.toList=l at f;cases f with
 |cons h r=>
  cases r with
  |cons j r=>
   cases r
   obtain⟨t1,rfl⟩:=jo h
   obtain⟨k,rfl⟩:=jo j
   refine cc ?_
   simp only[List.forIn_cons,List.forIn_nil,pure_bind,bind_assoc,eqIsQuiet_byValue i (show carriedByValue (.int n t1)=MC from rfl),eqIsQuiet_byValue i (show carriedByValue (.int d k)=MC from rfl),Bool.not_true,Lj,if_false]
   refine J7 ?_
   exact J7 q
theorem gB.quiet{A:Kn}{E:J3->J5->Prop}{s:J5}{k:N4}{a:n_}{Q:Bool->J5->Prop}(p:gB P w s.heap k a)(q:Q MC s):Js (JF P w) A (eqIsQuiet 8 (.ref a)) Q E s:=by obtain⟨o,b,c,m,d,e,f,g,h⟩:=p;rw[eqIsQuiet.eq_2];refine cc (wpAny_specialOf ⟨o,d,e⟩ F.slot_tuple_eq.lookup ?_);refine cc (wpAny_isInstance ⟨o,d,e⟩ isSubtype_tuple_tuple ?_);simp only[Bool.not_true,Lj,if_false];refine cc (Mb d f ?_);simp only[Option.getD_some,<-Array.forIn_toList];refine cc ?_;simp only[List.forIn_cons,List.forIn_nil,pure_bind,bind_assoc];refine cc (g.quiet 6 ?_);simp only[Bool.not_true,Lj,if_false,pure_bind];refine cc (h.quiet 6 ?_);simp only[Bool.not_true,Lj,if_false,pure_bind];refine J7 ?_;exact J7 q
def fJ(P:JL)(w:Kg):HeapKind P w N4 where
 is:=gB P w
 hash:=zp P w
 draws:=fun _=>7
 room:=fun A=>A.units+4<Ku
 inj:=fun p q=>p.inj q
 keeps:=fun p hd b c=>p.keeps hd b c
 pyHash:=fun a p q=>p.hash a q
 eqBool:=fun a p d q=>p.eq a d q
 quiet:=fun p q=>p.quiet q
end
section
variable{X:Cx}{MR:pa}{σ:L2.St}{H:Hp}{s:J5}{a b:n_}{k:N4}
def dZ(K:J1)(H:Hp)(b:n_)(k:N4):Prop:=∃f g,N0 K H b [.ref f,.ref g]/\N0 K H f [.int k.1,.int k.2.1]/\N0 K H g [.int k.2.2.1,.int k.2.2.2]
theorem B6{n d:Int}{f:n_}(I:L2.Inv X MR σ H s)(h:N0 X.K H f [.int n,.int d]):tq X.prog X.w s.heap n d f:=by
 obtain⟨c,r,e,_⟩:=I.tuple h;cases r with
 |cons g r=>cases r with
  |cons i r=>
   cases r
   obtain⟨t1,rfl⟩:=g
   obtain⟨q,rfl⟩:=i
   obtain⟨o,j,l,m,p⟩:=e
   exact⟨o,_,m,j,l,p,.cons (by show((n==n)=MC);simp) (.cons (by show((d==d)=MC);simp) .nil)⟩
theorem u9(I:L2.Inv X MR σ H s)(h:dZ X.K H b k):gB X.prog X.w s.heap k b:=by
 obtain⟨f,g,c,d,e⟩:=h;obtain⟨i,r,j,_⟩:=I.tuple c;cases r with
 |cons l r=>cases r with
  |cons n r=>
   cases r
   cases l
   cases n
   obtain⟨o,p,q,m,t⟩:=j
   exact⟨o,f,g,m,p,q,t,B6 I d,B6 I e⟩
abbrev Nu:=N4×n_×V
def cT(P:JL)(w:Kg)(a:n_)(xs:List Nu):oT->Prop:=fun h=>(a==Li)=MD/\xs.length<=Jv/\(xs.map (·.1)).Nodup/\∃c:List (N4×n_×J3),
 Mw (fun(p:Nu) (q:N4×n_×J3)=>p.1=q.1/\p.2.1=q.2.1/\RelV p.2.2 q.2.2) xs c/\∃o d e,h.get? a=MA o/\o.ExactDict/\o.data=.dict d e/\d.toList=c.map (entryOfKey (fJ P w))
def ik(xs:List Nu)(k:N4)(b:n_)(v:V):List Nu:=if(xs.any fun x=>decide (x.1=k))=MC then xs.map (fun x=>if x.1=k then(x.1,x.2.1,v)else x)else xs++[(k,b,v)]
abbrev RG:=fun(p:Nu) (q:N4×n_×J3)=>p.1=q.1/\p.2.1=q.2.1/\RelV p.2.2 q.2.2
theorem mR{xs:List Nu}{ys:List (N4×n_×J3)}(r:Mw RG xs ys):ys.map (·.1)=xs.map (·.1):=by
 induction r with
 |nil=>rfl
 |cons h t c=>rw[Jn,Jn,c,h.1]
theorem BB{xs:List Nu}{ys:List (N4×n_×J3)}(r:Mw RG xs ys)(k:N4):(xs.any fun x=>decide (x.1=k))=(atKey ys k).isSome:=by
 induction r with
 |nil=>rfl
 |@cons p q ps qs h t ih=>
  rw[LI]
  by_cases e:p.1=k
  ·have c:q.1=k:=h.1.symm.trans e;simp[atKey,JX,e,c]
  ·have c:¬q.1=k:=fun z=>e (h.1.trans z);rw[MJ e,Bool.false_or,ih];simp[atKey,JX,c]
theorem kX{xs:List Nu}{ys:List (N4×n_×J3)}(r:Mw RG xs ys)(k:N4)(b:n_){v:V}{u:J3}(c:RelV v u):Mw RG (ik xs k b v) (storedH ys k b u):=by
 unfold ik storedH;rw[BB r k];by_cases e:(atKey ys k).isSome=MC
 ·rw[MI e,MI e];clear e
  induction r with
  |nil=>exact .nil
  |@cons p q ps qs h t ih=>
   rw[Jn,Jn]
   refine .cons ?_ ih
   unfold putAt
   by_cases e:p.1=k
   ·rw[MI e,MI (h.1.symm.trans e)];exact⟨h.1,h.2.1,c⟩
   ·rw[ME e,ME (fun z=>e (h.1.trans z))];exact h
 ·rw[ME e,ME e];exact Paired.snoc r ⟨rfl,rfl,c⟩
theorem pF{xs:List Nu}{ys:List (N4×n_×J3)}(r:Mw RG xs ys):xs.length=ys.length:=by
 induction r with
 |nil=>rfl
 |cons h t c=>rw[Kk,Kk,c]
theorem AO{xs:List Nu}{ys:List (N4×n_×J3)}(r:Mw RG xs ys){q:N4×n_×J3}(h:q∈ys):∃p∈xs,p.1=q.1/\p.2.1=q.2.1:=by
 induction r with
 |nil=>cases h
 |cons c t d=>
  rcases JI.mp h with z|z
  ·subst z;exact⟨_,by simp,c.1,c.2.1⟩
  ·obtain⟨p,f,e⟩:=d z;exact⟨p,by simp[f],e⟩
theorem rB(xs:List Nu)(k:N4)(b:n_)(v:V):(ik xs k b v).length<=xs.length+1:=by
 unfold ik;split
 ·rw[J4];omega
 ·simp
theorem tK{xs:List Nu}(I:L2.Inv X MR σ H s)(e:H a=MA (.ext (cT X.prog X.w a xs)))(c:∀x∈xs,dZ X.K H x.2.1 x.1):(a==Li)=MD/\xs.length<=Jv/\∃ys,Mw RG xs ys/\s.heap.DictOfH (fJ X.prog X.w) a ys:=by obtain⟨⟨d,f,g,ys,r,o,h,i,j,l,m,n⟩,_⟩:=I.hok a _ e;refine⟨d,f,ys,r,o,h,i,j,l,m,n,fun x q=>?_,by rw[mR r];exact g⟩;obtain⟨p,t,e1,e2⟩:=AO r q;rw[<-e1,<-e2];exact u9 I (c p t)
theorem pW{P:JL}{w:Kg}{xs:List Nu}(c d:oT)(h:cT P w a xs c)(k:∀o,c.get? a=MA o->d.get? a=MA o):cT P w a xs d:=by obtain⟨e,f,g,i,r,o,j,l,m,q⟩:=h;exact⟨e,f,g,i,r,o,j,l,k o m,q⟩
theorem uh(I:L2.Inv X MR σ H s):L2.Inv X MR σ (upd H s.z (.ext (cT X.prog X.w s.z []))) { s with heap:=s.heap.push { cls:=.type "dict",data:=.dict #[] } }:=
 I.laid (a:=s.z) (t':=s.toks) (fun _ _ q=>Jo _ q) (J9 _)
  ⟨⟨beq_eq_false_iff_ne.mpr (Ne.symm (K5 I.big)),Kj _,List.nodup_nil,[],.nil,_,#[],0,Jy _ rfl,⟨rfl,rfl,rfl⟩,rfl,rfl⟩,⟨_,Jy _ rfl⟩,fun c d x y=>pW c d x y⟩
def eQ(xs:List Nu)(k:N4):Option V:=(xs.find? fun x=>decide (x.1=k)).map (·.2.2)
theorem pQ{xs:List Nu}{ys:List (N4×n_×J3)}(r:Mw RG xs ys){v:V}(h:eQ xs k=MA v):∃p:n_×J3,atKey ys k=MA p/\RelV v p.2:=by
 induction r with
 |nil=>cases h
 |@cons p q ps qs h' t ih=>
  by_cases e:p.1=k
  ·have c:q.1=k:=h'.1.symm.trans e;simp[eQ,JX,e]at h;subst h;exact⟨q.2,by simp[atKey,JX,c],h'.2.2⟩
  ·have c:¬q.1=k:=fun z=>e (h'.1.trans z);have d:eQ ps k=MA v:=by simpa[eQ,JX,e]using h
   obtain⟨f,g,i⟩:=ih d;exact⟨f,by simpa[atKey,JX,c]using g,i⟩
theorem BY{A:Kn}{E:J3->J5->Prop}{Q:J3->J5->Prop}{xs:List Nu}{v:V}(m:A.units+8<Ku)(I:L2.Inv X MR σ H s)(e:H a=MA (.ext (cT X.prog X.w a xs)))(d:∀x∈xs,dZ X.K H x.2.1 x.1)(f:dZ X.K H b k)(g:eQ xs k=MA v) (h:∀u c,L2.Inv X MR σ H c->RelV v u->Q u c):Js (JF X.prog X.w) A (getItem (.ref a) (.ref b)) Q E s:=by obtain⟨hd,n,o,r,i⟩:=tK I e d;obtain⟨p,j,l⟩:=pQ r g;exact wpAny_getItem_heap (knd:=fJ X.prog X.w) (show A.in1.units+4<Ku by show A.units+1+4<Ku;omega) (u9 I f) i j (h _ _ (I.tok _) l)
end
section
variable{prog:JL}{w:Kg}{K:Type}[DecidableEq K]{knd:HeapKind prog w K}{A:Kn}{E:J3->J5->Prop}{s:J5}
theorem rO{d a:n_}{xs:List (K×n_×J3)}{k:K}{v:J3}{Q:J3->J5->Prop}(q:knd.room A)(b:knd.is s.heap k a)(t:s.heap.DictOfH knd d xs) (u:∀p,atKey xs k=MA p->Q p.2 { s with toks:=s.toks+knd.draws k }) (z:atKey xs k=MB->∀h',h'.DictOfH knd d (storedH xs k a v)->Mj d s.heap h'->Q v { s with heap:=h',toks:=s.toks+knd.draws k }) (hsz:xs.length<=Jv) : Js (JF prog w) A (dictSetDefault d (.ref a) v) Q E s:=by
 obtain⟨o,F,B,f,C,hd,m,h,n⟩:=t;unfold dictSetDefault
 try with_reducible refine KC ?_
 refine cc (knd.pyHash q b ?_);refine cc (wpAny_dictFind_heap (s:={ s with toks:=s.toks+knd.draws k }) q b f hd m h n ?_ ?_)
 ·intro i;have l:k∉xs.map (·.1):=not_mem_keys_of_get i;have g:=atKey_none_of_get i
  refine cc (wpAny_rule (cc (wpAny_updateDictKeys (hz:=by have e:=size_of_entries m;omega) (s:={ s with toks:=s.toks+knd.draws k }) f hd (J7 (z g _ ⟨_,_,B+1,Lb _ f (Obj.isFreed_of_dict (Obj.data_mapDictKeys hd _)),
   C.mapDictKeys _,Obj.data_mapDictKeys hd _,?_,?_,?_⟩ (Heap.SameBut.update ..))))))
  ·rw[storedH_new g];simp[m,entryOfKey]
  ·rw[storedH_new g];intro x c;rcases JE.mp c with c|c
   ·exact knd.keeps (h x c) f hd (Heap.SameBut.update ..)
   ·have:x=(k,a,v):=‹c›
    subst this;exact knd.keeps b f hd (Heap.SameBut.update ..)
  ·rw[storedH_new g,Jx,LP];refine⟨n,by simp,?_⟩;intro x c y D;have:y=k:=‹D›
   subst this;exact fun e=>l (e▸c)
 ·intro j p r;have g:=atKey_of_get n r;refine cc (wpAny_dictEntries (s:={ s with toks:=s.toks+knd.draws k }) f hd ?_);rw[entry_at m j,r];exact cc (wpAny_rule (J7 (u p g)))
theorem qy{d a:n_}{xs:List (K×n_×J3)}{k:K}{v:J3}{Q:J3->J5->Prop}(g:knd.room A.in1)(b:knd.is s.heap k a)(c:s.heap.DictOfH knd d xs)(hd:(d==Li)=MD)
 (h:∀p,atKey xs k=MA p->Q p.2 { s with toks:=s.toks+knd.draws k })
 (i:atKey xs k=MB->∀h',h'.DictOfH knd d (storedH xs k a v)->Mj d s.heap h'->Q v { s with heap:=h',toks:=s.toks+knd.draws k }) (hsz:xs.length<=Jv) :
 Js (JF prog w) A (call (.builtin "dict.setdefault") [.ref d,.ref a,v]) Q E s:=by
 refine wpAny_call_entry PySem.F.slot_dict_setdefault c.typeIs PySem.F.entry_dict_setdefault ?_ (PySem.F.args_dict_setdefault_3 _ _ _)
 unfold Mx.«dict.setdefault»
 refine cc ?_
 unfold Builtin.Dict.keyAndDefault
 refine cc (wpAny_notOrdered_dict c.typeIs ?_)
 show Js _ _ (pure (d,KW a,MA v)) _ _ s
 refine J7 ?_
 show Js _ _ (if(d==Li)=MC then _ else(dictSetDefault d (.ref a) v >>= _)) _ _ s
 rw[ME (by rw[hd];exact JD)]
 exact cc (rO g b c (fun p j=>J7 ⟨p.2,rfl,h p j⟩) (fun l h' e f=>J7 ⟨v,rfl,i l h' e f⟩) hsz)
end
section
variable{X:Cx}{MR:pa}{σ:L2.St}{H:Hp}{s:J5}{a b:n_}{k:N4}
theorem zf{xs:List Nu}{ys:List (N4×n_×J3)}(r:Mw RG xs ys)(h:eQ xs k=MB):atKey ys k=MB:=by
 induction r with
 |nil=>rfl
 |@cons p q ps qs h' t ih=>
  by_cases e:p.1=k
  ·simp[eQ,JX,e]at h
  ·have c:¬q.1=k:=fun z=>e (h'.1.trans z);have d:eQ ps k=MB:=by simpa[eQ,JX,e]using h
   have:=ih d;simpa[atKey,JX,c]using this
theorem tZ{A:Kn}{E:J3->J5->Prop}{Q:J3->J5->Prop}{xs:List Nu}{v:V}{u:J3}(S:A.units+8<Ku)(I:L2.Inv X MR σ H s)(e:H a=MA (.ext (cT X.prog X.w a xs)))(t:∀x∈xs,dZ X.K H x.2.1 x.1)(z:dZ X.K H b k)(n:RelV v u)(T:xs.length<Jv)
 (h:∀d o f,eQ xs k=MA d->L2.Inv X MR σ H f->RelV d o->Q o f)
 (i:eQ xs k=MB->∀f,L2.Inv X MR σ (upd H a (.ext (cT X.prog X.w a (ik xs k b v)))) f->Q u f):Js (JF X.prog X.w) A (call (.builtin "dict.setdefault") [.ref a,.ref b,u]) Q E s:=by
 obtain⟨hd,B,U,r,C⟩:=tK I e t
 refine qy (knd:=fJ X.prog X.w) (show A.in1.units+4<Ku by show A.units+1+4<Ku;omega) (u9 I z) C hd (fun p j=>?_) (fun D W l F=>?_) (by rw[<-pF r];exact B)
 ·cases c:eQ xs k with
  |none=>rw[zf r c]at j;cases j
  |some d=>
   obtain⟨G,g,J⟩:=pQ r c
   rw[j]at g
   cases g
   exact h d _ _ c (I.tok _) J
 ·have c:eQ xs k=MB:=by
   cases c:eQ xs k with
   |none=>rfl
   |some d=>
    obtain⟨G,g,_⟩:=pQ r c
    rw[D]at g;cases g
  refine i c _ ?_
  obtain⟨q,L,M,m,N,O,P,_,R⟩:=l
  refine ly I (by rw[e];exact Mu) F ⟨q,m⟩ ⟨⟨hd,?_,?_,_,kX r k b n,q,L,M,m,N,O,P⟩,⟨q,m⟩,fun h i x y=>pW h i x y⟩
  ·have:=rB xs k b v;omega
  ·rw[<-mR (kX r k b n)];exact R
end
section
variable{X:Cx}
def E6(X:Cx):TE:=fun _ H Q=>∀p,H p=MB->Q (.ref p) (upd H p (.ext (cT X.prog X.w p [])))
theorem yy{pos:Pos}:PE X (.Dict [] [] pos) (E6 X):=fun MR s σ H Q I h=>wpAny_Dict_empty ⟨.ref s.z,_,uh I,rfl,h _ (I.hok.fresh (J9 _))⟩
structure Vq(X:Cx)(H:Hp)(a b:n_)(xs:List Nu)(k:N4):Prop where
 d:H a=MA (.ext (cT X.prog X.w a xs))
 ks:∀x∈xs,dZ X.K H x.2.1 x.1
 key:dZ X.K H b k
def DX(X:Cx)(d ty:TE):TE:=fun σ H Q=>d σ H fun x H1=>ty σ H1 fun y c=>∃a b xs k v,x=.ref a/\y=.ref b/\Vq X c a b xs k/\eQ xs k=MA v/\Q v c
theorem xp{MR:pa}{σ:L2.St}{H:Hp}{s:J5}{a:n_}{xs:List Nu}(I:L2.Inv X MR σ H s)(e:H a=MA (.ext (cT X.prog X.w a xs))):s.TypeIs (.ref a) "dict"/\∀b,KW a=.ref b->∃o,s.heap.get? b=MA o/\o.dict=MB:=by obtain⟨⟨_,_,_,_,_,o,_,_,c,d,_⟩,_⟩:=I.hok a _ e;exact⟨⟨o,c,d.1⟩,fun b z=>by cases z;exact⟨o,c,d.2.1⟩⟩
theorem yM{o i:o_}{e ty:TE}{pos:Pos}(g:X.A.units+8<Ku)(j:PE X o e)(l:PE X i ty)(m:Hl i):PE X (.Subscript o i pos) (DX X e ty):=by intro MR s σ H Q I h;refine Subscript_ (NO (j MR s σ H _ I h) fun v n ⟨x,H1,p,r,t⟩=>NO (l MR n σ H1 _ p t) fun u K c=>?_);obtain⟨y,w,f,z,a,b,xs,k,B,ex,C,D,E,q⟩:=c;subst ex C;cases r;cases z;exact tail_any (xp f D.d).1 PySem.F.slot_dict_getitem.lookup (BY g f D.d D.ks D.key E fun L M G J=>⟨B,w,G,J,q⟩) (m _ _)
def HR(X:Cx)(f:TE)(t:TA):TE:=fun σ H Q=>f σ H fun x H1=>∃a c,x=.ref a/\H1 a=MA (.ext (cT X.prog X.w a c))/\t σ H1 fun vs d=>∃b v xs k,vs=[.ref b,v]/\Vq X d a b xs k/\xs.length<Jv/\
 (∀e,eQ xs k=MA e->Q e d)/\(eQ xs k=MB->Q v (upd d a (.ext (cT X.prog X.w a (ik xs k b v)))))
theorem AZ{o e1 e2:o_}{r:TE}{t:TA}{e bg:Pos}(z:X.A.units+8<Ku)(B:PE X o r)(C:PA X [e1,e2] t)
 (f:LH o "setdefault" X.env (eval o X.env)=eval o X.env:=by rfl)
 (l:((L5 bg (JC [e1,e2] X.env)).all (fun x=>!x.1)&&(backToKw bg (LW [] X.env)).all (fun x=>x.1.isSome)
  && decide ([e1,e2].length+([]:List Mt).length+(if([]:List Mt).isEmpty then 0 else 1)<30))=MC:=by rfl)
 (g:(e.endLine==bg.line)=MC:=by rfl) (E:JC [e1,e2] X.env=(MD,eval e1 X.env)::JC [e2] X.env:=by rfl) (c:(L5 bg (JC [e2] X.env)).any (·.1)=MD:=by rfl) :
 PE X (.Call (.Attribute o "setdefault" e) [e1,e2] [] bg) (HR X r t):=by
 intro MR s σ H Q I h
 refine wpAny_Call_method_late f l g rfl (NO (B MR s σ H _ I h) fun v G i=>?_)
 obtain⟨x,H1,u,J,a,K,ex,L,M⟩:=i
 subst ex
 cases J
 obtain⟨N,O⟩:=xp u L
 refine⟨"dict","dict.setdefault",PySem.F.plainAttrs_dict,PySem.F.slot_dict_setdefault,PySem.F.type_dict_setdefault,N,O,?_⟩
 have w:=C bg MR G σ H1 _ u M
 rw[E]at w ⊢
 refine Calls.callWith_builtin (by show(MD||(L5 bg (JC [e2] X.env)).any (·.1))=MD;rw[c]<;>rfl) (Calls.evalArgs_plain ?_)
 refine NO w fun us s2 j=>?_
 obtain⟨vs,P,R,S,b,T,xs,k,n,D,U,k1,V⟩:=j
 subst n
 obtain⟨u1,u2,rfl,p,m⟩:=S.two
 cases p
 exact tZ z R D.d D.ks D.key m U (fun y u' W n q Y=>⟨y,P,q,Y,k1 y n⟩) (fun Z W q=>⟨T,_,q,m,V Z⟩)
end
def QB(k:N4):D:=.tup [.tup [.int k.1,.int k.2.1],.tup [.int k.2.2.1,.int k.2.2.2]]
section
variable{K:J1}{H H':Hp}{M:MH}{a b:n_}{k:N4}
theorem vL{v:V}(r:Rep K H (QB k) v):∃b,v=.ref b/\dZ K H b k:=by unfold QB at r;rw[Rep]at r;obtain⟨b,xs,rfl,l,m⟩:=r;obtain⟨q,s,rfl,c,d⟩:=eU m;rw[Rep]at c d;obtain⟨f,fs,rfl,hf,n⟩:=c;obtain⟨g,t,rfl,o,p⟩:=d;obtain⟨u,w,rfl,e,h⟩:=eU n;obtain⟨x,y,rfl,i,j⟩:=eU p;rw[Rep]at e h i j;subst e h i j;exact⟨b,rfl,f,g,l,hf,o⟩
theorem xQ(h:dZ K H b k):Rep K H (QB k) (.ref b):=by
 obtain⟨f,g,d,hf,e⟩:=h;unfold QB;rw[Rep];refine⟨b,_,rfl,d,?_⟩;have c:∀(m n:Int),aK K H [D.int m,D.int n] [V.int m,V.int n]:=fun m n=>jC [m,n];rw[aK];refine⟨_,_,rfl,?_,?_⟩
 ·rw[Rep];exact⟨f,_,rfl,hf,c _ _⟩
 ·rw[aK];refine⟨_,_,rfl,?_,?_⟩
  ·rw[Rep];exact⟨g,_,rfl,e,c _ _⟩
  ·rw[aK]
theorem dZ.mono(g:NN K H H')(h:dZ K H b k):dZ K H' b k:=by obtain⟨c,e,r⟩:=vL ((xQ h).mono g);cases e;exact r
abbrev OA:=List (N4×D)
def Rj(kvs:OA):J1->Hp->n_->Prop:=fun K H a=>∃xs:List Nu,(∀P w,H a=MA (.ext (cT P w a xs)))/\xs.map (·.1)=kvs.map (·.1)/\(∀x∈xs,dZ K H x.2.1 x.1)/\aK K H (kvs.map (·.2)) (xs.map (·.2.2))
theorem xO{kvs:OA}(h:Rj kvs K H a)(g:NN K H H')(e:H' a=H a):Rj kvs K H' a:=by obtain⟨xs,c,d,f,i⟩:=h;exact⟨xs,fun P w=>e.trans (c P w),d,fun x j=>(f x j).mono g,i.mono g⟩
def OU(kvs:OA):MO:=.gen (Rj kvs)
theorem NW.dsp{kvs:OA}(h:NW K H M)(e:M a=MA (OU kvs)):Rj kvs K H a:=(h a _ e).1
theorem Rj.yt{kvs:OA}(h:Rj kvs K H a)(ne:H a≠MB):rL K H a (OU kvs):=⟨h,ne,fun H' g e=>xO h g e⟩
theorem NW.Ck{p:n_}(P:JL)(w:Kg)(h:NW K H M)(c:H p=MB):NW K (upd H p (.ext (cT P w p []))) (az M p (OU [])):=fun a u e=>by
 by_cases ne:a=p
 ·subst ne;rw[ag]at e;cases e;exact Rj.yt ⟨[],(fun P w=>bD),rfl,(fun x d=>by simp at d),(by simp[aK])⟩ (by rw[bD];simp)
 ·rw[au ne]at e;exact(h a u e).iP (.new c) (bo ne)
def d4(kvs:OA)(k:N4):rx:=(kvs.find? fun x=>decide (x.1=k)).map (·.2)
def putD(kvs:OA)(k:N4)(d:D):OA:=if(kvs.any fun x=>decide (x.1=k))=MC then kvs.map (fun x=>if x.1=k then(x.1,d)else x)else kvs++[(k,d)]
theorem pb(k:N4):∀{kvs:OA} {xs:List Nu},xs.map (·.1)=kvs.map (·.1)->aK K H (kvs.map (·.2)) (xs.map (·.2.2))->(∀d,d4 kvs k=MA d->∃v,eQ xs k=MA v/\Rep K H d v)/\(d4 kvs k=MB->eQ xs k=MB)/\((xs.any fun x=>decide (x.1=k))=kvs.any fun x=>decide (x.1=k))
 |[],[],_,_=>⟨(fun d h=>by simp[d4]at h),(fun _=>rfl),rfl⟩
 |[],x::xs,h,_=>by cases h
 |y::kvs,[],h,_=>by cases h
 |y::kvs,x::xs,h,r=>by
  rw[Jn,Jn]at h
  injection h with g i
  rw[Jn,Jn,aK]at r
  obtain⟨v,vs,e,j,l⟩:=r
  injection e with e1 e2
  subst e1 e2
  obtain⟨m,n,o⟩:=pb k i l
  by_cases e:y.1=k
  ·have c:x.1=k:=g.trans e
   refine⟨fun d hd=>?_,fun f=>?_,?_⟩
   ·simp[d4,JX,e]at hd
    subst hd
    exact⟨x.2.2,by simp[eQ,JX,c],j⟩
   ·simp[d4,JX,e]at f
   ·simp[e,c]
  ·have c:¬x.1=k:=fun z=>e (g.symm.trans z)
   refine⟨fun d hd=>?_,fun f=>?_,?_⟩
   ·obtain⟨v,p,q⟩:=m d (by simpa[d4,JX,e]using hd)
    exact⟨v,by simpa[eQ,JX,c]using p,q⟩
   ·have:=n (by simpa[d4,JX,e]using f)
    simpa[eQ,JX,c]using this
   ·rw[LI,LI,o,MJ e,MJ c]
theorem uG(k:N4){d:D}{v:V}(r:Rep K H d v):∀{kvs:OA} {xs:List Nu},xs.map (·.1)=kvs.map (·.1)->aK K H (kvs.map (·.2)) (xs.map (·.2.2))->
 (xs.map fun x=>if x.1=k then(x.1,x.2.1,v)else x).map (·.1)=(kvs.map fun x=>if x.1=k then(x.1,d)else x).map (·.1)/\aK K H ((kvs.map fun x=>if x.1=k then(x.1,d)else x).map (·.2)) ((xs.map fun x=>if x.1=k then(x.1,x.2.1,v)else x).map (·.2.2))
 |[],[],_,h=>⟨rfl,h⟩
 |[],x::xs,h,_=>by cases h
 |y::kvs,[],h,_=>by cases h
 |y::kvs,x::xs,h,q=>by
  rw[Jn,Jn]at h
  injection h with c j
  rw[Jn,Jn,aK]at q
  obtain⟨n,vs,e,l,m⟩:=q
  injection e with e1 e2
  subst e1 e2
  obtain⟨g,i⟩:=uG k r j m
  by_cases e:y.1=k
  ·have f:x.1=k:=c.trans e
   simp only[Jn,MI e,MI f]
   exact⟨by rw[g];exact congrArg (·::_) c,by rw[aK];exact⟨_,_,rfl,r,i⟩⟩
  ·have f:¬x.1=k:=fun z=>e (c.symm.trans z)
   simp only[Jn,ME e,ME f]
   exact⟨by rw[g];exact congrArg (·::_) c,by rw[aK];exact⟨_,_,rfl,l,i⟩⟩
theorem ET{kvs:OA}{xs:List Nu}{d:D}{v:V}(c:xs.map (·.1)=kvs.map (·.1))(f:aK K H (kvs.map (·.2)) (xs.map (·.2.2)))(h:∀x∈xs,dZ K H x.2.1 x.1)(i:dZ K H b k)(r:Rep K H d v) : (ik xs k b v).map (·.1)=(putD kvs k d).map (·.1)/\aK K H ((putD kvs k d).map (·.2)) ((ik xs k b v).map (·.2.2))/\∀x∈ik xs k b v,dZ K H x.2.1 x.1:=by
 unfold ik putD;rw[(pb k c f).2.2];by_cases e:(kvs.any fun x=>decide (x.1=k))=MC
 ·rw[MI e,MI e];obtain⟨j,l⟩:=uG k r c f;refine⟨j,l,fun x g=>?_⟩;obtain⟨y,m,rfl⟩:=JQ.mp g;have:=h y m;by_cases e:y.1=k
  ·rw[MI e];exact this
  ·rw[ME e];exact this
 ·rw[ME e,ME e];refine⟨by rw[Jx,Jx,c];rfl,?_,fun x g=>?_⟩
  ·rw[Jx,Jx];exact f.append (by rw[Jn,Jn,KP,KP,aK];exact⟨_,_,rfl,r,by rw[aK]⟩)
  ·rcases JE.mp g with z|z
   ·exact h x z
   ·have:x=(k,b,v):=‹z›
    subst this;exact i
theorem NN.ext{c:oT->Prop}{o:HO}(h:H a=MA (.ext c)):NN K H (upd H a o):=.put (fun xs e=>by rw[h]at e;cases e) (fun u xs e=>by rw[h]at e;cases e)
theorem NW.CU{kvs:OA}{xs:List Nu}{d:D}{v:V}(P:JL)(w:Kg)(h:NW K H M)(f:∀P w,H a=MA (.ext (cT P w a xs)))(i:xs.map (·.1)=kvs.map (·.1))(j:aK K H (kvs.map (·.2)) (xs.map (·.2.2)))(l:∀x∈xs,dZ K H x.2.1 x.1)(m:dZ K H b k)(r:Rep K H d v) :
 NW K (upd H a (.ext (cT P w a (ik xs k b v)))) (az M a (OU (putD kvs k d))):=fun c u e=>by
 have g:NN K H (upd H a (.ext (cT P w a (ik xs k b v)))):=.ext (f P w)
 by_cases ne:c=a
 ·subst ne
  rw[ag]at e;cases e
  obtain⟨n,o,p⟩:=ET i j l m r
  exact Rj.yt ⟨_,fun P w=>bD,n,fun x f=>(p x f).mono g,o.mono g⟩ (by rw[bD];simp)
 ·rw[au ne]at e
  exact(h c u e).iP g (bo ne)
end
section
variable{X:Cx}
def Av:TD:=fun _ M Q=>∀p,M p=MB->Q (.ref p) (az M p (OU []))
theorem x9{pos:Pos}:DE X (.Dict [] [] pos) Av:=bw yy fun σ H Q a=>by obtain⟨δ,M,R,e,d,q,b⟩:=a;exact(fun p c=>b _ _ _ _ (.new c) (by rw[Rep]) (d.Ck _ _ c) (q p (d.fresh c)))
def BX(b ty:TD):TD:=fun δ M Q=>b δ M fun x c=>ty δ c fun y a=>∃l kvs k d,x=.ref l/\y=QB k/\a l=MA (OU kvs)/\d4 kvs k=MA d/\Q d a
theorem qq{o i:o_}{g ty:TD}{pos:Pos}(P:X.A.units+66<Ku)(n:DE X o g)(p:DE X i ty)(e:Hl i):DE X (.Subscript o i pos) (BX g ty):=
 bw (yM () n p e) fun σ H Q a=>by obtain⟨δ,M,R,e,r,q,f⟩:=a;exact(⟨δ,M,_,e,r,q,fun x s v H1 h j t w=>⟨δ,s,_,e.mono h,t,w,fun y S u T z B m c=>by
  obtain⟨l,kvs,k,d,ex,C,D,E,F⟩:=c
  subst ex C
  rw[Rep]at j;subst j
  obtain⟨b,rfl,sp⟩:=vL B
  obtain⟨xs,G,I,J,K⟩:=m.dsp D
  obtain⟨L,N,O⟩:=(pb k I K).1 d E
  exact⟨l,b,xs,k,L,rfl,rfl,⟨G _ _,J,sp⟩,N,f _ _ _ _ (h.trans z) O m F⟩⟩⟩)
def D4(f:TD)(t:Nb):TD:=fun δ M Q=>f δ M fun x c=>∃l a,x=.ref l/\c l=MA (OU a)/\t δ c fun g b=>∃kvs k d,g=[QB k,d]/\b l=MA (OU kvs)/\kvs.length<1000000/\(∀e,d4 kvs k=MA e->Q e b)/\(d4 kvs k=MB->Q d (az b l (OU (putD kvs k d))))
theorem Bz{o e1 e2:o_}{G:TD}{t:Nb}{f bg:Pos}(hu:X.A.units+66<Ku)(W:DE X o G)(Y:DA X [e1,e2] t)
 (g:LH o "setdefault" X.env (eval o X.env)=eval o X.env:=by rfl)
 (j:((L5 bg (JC [e1,e2] X.env)).all (fun x=>!x.1)&&(backToKw bg (LW [] X.env)).all (fun x=>x.1.isSome)
  && decide ([e1,e2].length+([]:List Mt).length+(if([]:List Mt).isEmpty then 0 else 1)<30))=MC:=by rfl)
 (h:(f.endLine==bg.line)=MC:=by rfl) (r:JC [e1,e2] X.env=(MD,eval e1 X.env)::JC [e2] X.env:=by rfl) (c:(L5 bg (JC [e2] X.env)).any (·.1)=MD:=by rfl) :
 DE X (.Call (.Attribute o "setdefault" f) [e1,e2] [] bg) (D4 G t):=
 bw (AZ () W Y g j h r c) fun σ H Q ⟨δ,M,R,r,Z,q,m⟩=>⟨δ,M,_,r,Z,q,fun x M1 v H1 u I J ⟨l,L,ex,y,q1⟩=>by
  subst ex
  rw[Rep]at I;subst I
  obtain⟨z,h0,_⟩:=J.dsp y
  refine⟨l,z,rfl,h0 _ _,δ,M1,_,r.mono u,J,q1,fun ds M2 vs N O r2 B i=>?_⟩
  obtain⟨kvs,k,d,e,hl,hn,k1,k2⟩:=i
  subst e
  obtain⟨v1,P,rfl,C,n⟩:=eU r2
  obtain⟨b,rfl,sp⟩:=vL C
  obtain⟨xs,D,E,S,T⟩:=B.dsp hl
  have U:xs.length=kvs.length:=by have:=congrArg List.length E;simpa using this
  have sz:1000000<=Jv:=NL rfl
  have dv:=pb k E T
  refine⟨b,P,xs,k,rfl,⟨D _ _,S,sp⟩,(),fun v' a=>?_,fun a=>?_⟩
  ·cases e:d4 kvs k with
   |none=>rw[dv.2.1 e]at a;cases a
   |some s=>
    obtain⟨F,p,q4⟩:=dv.1 s e
    rw[a]at p;cases p
    exact m _ _ _ _ (u.trans O) q4 B (k1 s e)
  ·have e:d4 kvs k=MB:=by
    cases e:d4 kvs k with
    |none=>rfl
    |some s=>
     obtain⟨F,p,_⟩:=dv.1 s e
     rw[a]at p;cases p
   have V:NN X.K N (upd N l (.ext (cT X.prog X.w l (ik xs k b P)))):=.ext (D X.prog X.w)
   exact m _ _ _ _ ((u.trans O).trans V) (n.mono V) (B.CU _ _ D E T S sp n) (k2 e)⟩
end
theorem dU{z:Int}(h:0<=z/\z<=20):Bd 10 z:=by show z.natAbs<2^10;omega
theorem DC(t b X m x:Int):MX t b X m x=MX t (b*m) (X*m) 1 x:=by unfold MX;rw[Int.mul_one,Int.mul_one]
theorem uQ{t b X m:Int}(c:0<t)(d:0<b)(e:0<m)(a:Int):MX t b X 1 a=MX t (b*m) (X*m) 1 (m*a):=by rw[<-DC,NC c d ⋯ e];omega
theorem BC{t b X Y m:Int}(a:0<t)(c:0<b)(d:0<m)(w:Wl)(p q:Int):NA (Mz (MX t b X 1 w.1) (MX t b Y 1 w.2.1) (MX t b X 1 w.2.2.1) (MX t b Y 1 w.2.2.2) (MX t b X m p) (MX t b Y m q))=JG (sd (OI m w) p q):=by rw[uQ a c d,uQ a c d,uQ a c d,uQ a c d,DC t b X m p,DC t b Y m q];exact jP a (JW c d) (OI m w) p q
theorem zZ{t b X Y m p q a c:Int}(f:0<t)(g:0<b)(e:0<m/\m<=4)(h:-10<=q/\q<=85)(d:0<=c/\c<=20):MZ (MX t b X m p) (MX t b Y m q) (MX t b X 1 a) (MX t b Y 1 c)↔la p q<m*la a c:=by have e1:=Mq (():0<=m) d.1;have e2:=Int.mul_le_mul e.2 d.2 d.1 (show(0:Int)<=4 by decide);rw[Ma.CK f g e.1 ⋯,Mk,Mk,BM h ⟨(),()⟩,MN,EV]
def Nq(k:Int):Wl:=(k,0,k,1)
def Na(k y:Int):Wl:=(k,y,k+1,y)
def OT(m:Int):Nat->ro
 |0=>[Nq m]
 |i+1=>OT m i++[Na (i:Int) 0,Na (i:Int) 1,Nq (i:Int)]
theorem k7(m:Int):∀i:Nat,(OT m i).length=1+3*i
 |0=>rfl
 |i+1=>by rw[OT,Ka,k7 m i];simp;omega
theorem pg{m:Int}{w:Wl}:∀{i:Nat},w∈OT m i->w=Nq m\/∃k:Nat,k<i/\(w=Na (k:Int) 0\/w=Na (k:Int) 1\/w=Nq (k:Int))
 |0,h=>.inl (JH.mp h)
 |i+1,h=>by
  rw[OT,JE]at h
  rcases h with h|h
  ·rcases pg h with h|⟨k,a,h⟩
   ·exact .inl h
   ·exact .inr ⟨k,(),h⟩
  ·simp only[JI,List.not_mem_nil,or_false]at h
   exact .inr ⟨i,(),h⟩
def xI(w:Wl):Prop:=∃k:Int,0<=k/\k<=13/\(w=Nq k\/w=Na k 0\/w=Na k 1)
theorem Du{m:Nat}{w:Wl}(a:m<=13)(h:w∈OT (m:Int) m):xI w:=by
 rcases pg h with h|⟨k,b,h|h|h⟩
 ·exact⟨m,(),(),.inl h⟩
 ·exact⟨k,(),(),.inr (.inl h)⟩
 ·exact⟨k,(),(),.inr (.inr h)⟩
 ·exact⟨k,(),(),.inl h⟩
theorem Hg{w:Wl}(h:xI w):NM w:=by
 obtain⟨k,a,b,rfl|rfl|rfl⟩:=h
 ·exact⟨by simp only[Nq];omega,by simp only[Nq];omega,by simp only[Nq];omega,by simp only[Nq];omega,by simp only[Nq,l1,l2,la];omega⟩
 ·exact⟨by simp only[Na];omega,by simp only[Na];omega,by simp only[Na];omega,by simp only[Na];omega,by simp only[Na,l1,l2,la];omega⟩
 ·exact⟨by simp only[Na];omega,by simp only[Na];omega,by simp only[Na];omega,by simp only[Na];omega,by simp only[Na,l1,l2,la];omega⟩
theorem nE(k x y:Int):sd (Nq k) x y=k-x:=by unfold sd N7 Nq;simp;omega
theorem oO(k c x y:Int):sd (Na k c) x y=y-c:=by unfold sd N7 Na;simp only;rw[show k+1-k=1 by omega,Int.sub_self,Mk,Int.zero_mul,Int.sub_zero]
theorem qh(z:Int):0<=JG z*JG z:=by
 rcases Jt z 0 with h|h|h
 ·rw[JS h];decide
 ·subst h;decide
 ·rw[K9 h];decide
theorem xM(z:Int):0<=JG z*JG (z-1):=by
 rcases Jt z 0 with h|h|h
 ·rw[JS h,JS ()];decide
 ·subst h;decide
 ·rcases Jt (z-1) 0 with g|g|g
  ·omega
  ·rw[g];simp
  ·rw[K9 h,K9 g];decide
theorem Ap{U V:Wl}(f:xI U)(g:xI V)(ne:U≠V):NY U V:=by
 have h:∀k j:Int,k≠j->NY (Nq k) (Nq j):=fun k j e=>by
  refine⟨?_,?_,?_,?_,?_,.inl ?_⟩
  ·simp only[l1,l2,la,Nq];omega
  ·simp only[a9,NQ,NT,nE];simp only[l1,l2,la,Nq];omega
  ·simp only[a9,NQ,NT,nE];simp only[l1,l2,la,Nq];omega
  ·simp only[a9,NQ,NT,nE];simp only[l1,l2,la,Nq];omega
  ·simp only[a9,NQ,NT,nE];simp only[l1,l2,la,Nq];omega
  ·simp only[NQ,NT,nE];exact qh _
 have c:∀k j y:Int,(y=0\/y=1)->NY (Nq k) (Na j y):=fun k j y i=>by
  refine⟨?_,?_,?_,?_,?_,.inl ?_⟩
  ·simp only[l1,l2,la,Nq,Na];omega
  ·simp only[a9,NQ,NT,nE,oO];simp only[l1,l2,la,Nq,Na];omega
  ·simp only[a9,NQ,NT,nE,oO];simp only[l1,l2,la,Nq,Na];omega
  ·simp only[a9,NQ,NT,nE,oO];simp only[l1,l2,la,Nq,Na];omega
  ·simp only[a9,NQ,NT,nE,oO];simp only[l1,l2,la,Nq,Na];omega
  ·simp only[NQ,NT,nE];have:=xM (k-j);rw[show k-j-1=k-(j+1) by omega]at this;exact this
 have d:∀k y j x:Int,(y=0\/y=1)->(x=0\/x=1)->¬(k=j/\y=x)->NY (Na k y) (Na j x):=fun k y j x i l e=>by
  refine⟨?_,?_,?_,?_,?_,.inl ?_⟩
  ·simp only[l1,l2,la,Na];omega
  ·simp only[a9,NQ,NT,oO];simp only[l1,l2,la,Na];omega
  ·simp only[a9,NQ,NT,oO];simp only[l1,l2,la,Na];omega
  ·simp only[a9,NQ,NT,oO];simp only[l1,l2,la,Na];omega
  ·simp only[a9,NQ,NT,oO];simp only[l1,l2,la,Na];omega
  ·simp only[NQ,NT,oO];exact qh _
 have a:(0:Int)=0\/(0:Int)=1:=.inl rfl;have b:(1:Int)=0\/(1:Int)=1:=.inr rfl;obtain⟨k,m,n,rfl|rfl|rfl⟩:=f<;>obtain⟨j,o,p,rfl|rfl|rfl⟩:=g
 ·exact h k j fun z=>ne (by rw[z])
 ·exact c k j 0 a
 ·exact c k j 1 b
 ·exact(c j k 0 a).swap
 ·exact d k 0 j 0 a a fun z=>ne (by rw[z.1])
 ·exact d k 0 j 1 a b fun z=>()
 ·exact(c j k 1 b).swap
 ·exact d k 1 j 0 b a fun z=>()
 ·exact d k 1 j 1 b b fun z=>ne (by rw[z.1])
theorem oe(m:Nat):∀i:Nat,i<=m->(OT (m:Int) i).Nodup
 |0,_=>Lx.mpr ⟨by simp,List.nodup_nil⟩
 |i+1,h=>by
  rw[OT,LP]
  refine⟨oe m i (),by simp[Na,Nq],fun a c b f e=>?_⟩
  subst e
  have d:a=Na (i:Int) 0\/a=Na (i:Int) 1\/a=Nq (i:Int):=‹f›
  rcases pg c with c|⟨k,g,c⟩
  ·subst c
   rcases d with z|z|z<;>simp only[Nq,Na,Prod.mk.injEq]at z<;>omega
  ·rcases c with rfl|rfl|rfl<;>rcases d with z|z|z<;>simp only[Nq,Na,Prod.mk.injEq]at z<;>omega
theorem Hw{m:Nat}{ws:ro}(f:m<=13)(h:ws.Perm (OT (m:Int) m)):PF ws/\(∀w∈ws,NM w)/\ws.length<=40:=by have is:∀w∈ws,xI w:=fun w a=>Du f (h.mem_iff.mp a);have nd:ws.Nodup:=h.nodup_iff.mpr (oe m m (J9 _));refine⟨fun i j U V b c d=>?_,fun w a=>Hg (is w a),by rw[h.length_eq,k7];omega⟩;refine Ap (is U (J8 c)) (is V (J8 d)) fun e=>?_;subst e;obtain⟨g,e1⟩:=Jq.mp c;obtain⟨k,e2⟩:=Jq.mp d;exact b ((List.getElem_inj nd).mp (e1.trans e2.symm))
def bB(ws:ro)(m p q:Int)(j:Nat):Bool:=Se ws m (la p q) j&&decide (JG (sd (OI m (NU ws (j:Int))) p q)=1)
def bK(ws:ro)(m p q:Int):pq:=((Jp ws.length).filter (bB ws m p q)).map fun j:Nat=>(j:Int)
theorem jY{ws:ro}{m p q k:Int}(h:k∈bK ws m p q):k∈Vw ws m (la p q):=by unfold bK at h;obtain⟨j,a,rfl⟩:=JQ.mp h;rw[Jr]at a;have:=a.2;unfold bB at this;rw[JN]at this;exact JQ.mpr ⟨j,Jr.mpr ⟨a.1,this.1⟩,rfl⟩
theorem qG(ws:ro)(m p q:Int):(bK ws m p q).Nodup:=by unfold bK List.Nodup;rw[List.pairwise_map];have h:List.Pairwise (fun x y:Nat=>x≠y) ((Jp ws.length).filter (bB ws m p q)):=Lp _ List.nodup_range;refine List.Pairwise.imp (R:=fun x y:Nat=>x≠y) ?_ h;intro a b c e;exact c ()
theorem EN{t b X Y:Int}(a:0<t)(c:0<b){U V:Wl}(g:NM U)(h:NM V)(ne:¬(l1 U=l1 V/\l2 U=l2 V)):K3 (R0 t b X Y U) (R0 t b X Y V)=MD:=by have i:=jh (X:=X) (Y:=Y) (p:=U.1) (q:=U.2.1) (e:=V.1) (f:=V.2.1) a c g.b h.b;have j:=jh (X:=X) (Y:=Y) (p:=U.2.2.1) (q:=U.2.2.2) (e:=V.2.2.1) (f:=V.2.2.2) a c g.d h.d;unfold R0 SM;rw[K3,Km,Km,Km,ND,ND,LJ,<-Bool.decide_and,decide_eq_false_iff_not,i,j];exact ne
abbrev Vc:=Int×Int
def vc(a b:Vc):Int:=N7 a.1 a.2 b.1 b.2
def vl(a:Vc):Int:=la a.1 a.2
theorem d8(a b:Vc):vc b a=-vc a b:=by unfold vc N7;grind
theorem GP(b x y z:Vc):vc b y*vc x z=vc b x*vc y z+vc b z*vc x y:=by unfold vc N7;grind
theorem DF(a b c:Vc)(h:vc a b=0):vc b c*vl a=vc a c*vl b:=by unfold vc N7 at *;unfold vl la;grind
def PB(a b:Vc):Prop:=vc a b=0->vl a*vl b<0
theorem fV(z:Int):(z<0/\JG z=-1)\/(z=0/\JG z=0)\/(0<z/\JG z=1):=by
 rcases Jt z 0 with h|h|h
 ·exact .inl ⟨h,JS h⟩
 ·exact .inr (.inl ⟨h,by subst h;rfl⟩)
 ·exact .inr (.inr ⟨h,K9 h⟩)
theorem fN{p q:Int}(h:p*q<0):(p<0/\0<q)\/(0<p/\q<0):=by
 rcases Jt p 0 with a|a|a
 ·rcases Jt q 0 with b|b|b
  ·have:=Kb a b;omega
  ·subst b;simp at h
  ·exact .inl ⟨a,b⟩
 ·subst a;simp at h
 ·rcases Jt q 0 with b|b|b
  ·exact .inr ⟨a,b⟩
  ·subst b;simp at h
  ·have:=JW a b;omega
theorem WQ{a b:Vc}(c:Vc)(z:vc a b=0)(h:vl a*vl b<0):JG (vc b c)=-JG (vc a c):=by
 have e:=DF a b c z;generalize vc b c=p at *;generalize vc a c=q at *;have k:∀{x y:Int},0<x->0<y->0<x*y:=fun d f=>JW d f
 rcases fN h with⟨d,f⟩|⟨d,f⟩<;>rcases fV p with⟨g,e1⟩|⟨g,e1⟩|⟨g,e1⟩<;>rcases fV q with⟨i,e2⟩|⟨i,e2⟩|⟨i,e2⟩<;>rw[e1,e2]<;>first|rfl|(exfalso;subst_vars;first
  |(have k1:=Kb g d;have j:=JP i f;omega)
  |(have k1:=JP g d;have j:=Kb i f;omega)
  |(have k1:=JV g d;have j:=JW i f;omega)
  |(have k1:=JW g d;have j:=JV i f;omega)
  |(have k1:=Kb g d;omega)
  |(have k1:=JP g d;omega)
  |(have k1:=JV g d;omega)
  |(have k1:=JW g d;omega)
  |(have j:=Kb i f;omega)
  |(have j:=JP i f;omega)
  |(have j:=JV i f;omega)
  |(have j:=JW i f;omega))
def O8(b x y:Vc):Bool:=if JG (vc b x)=JG (vc b y)then decide (vc x y<0)else decide (JG (vc b x)<JG (vc b y))
theorem g9(b x y:Vc):O8 b x y=MC↔JG (vc b x)<JG (vc b y)\/(JG (vc b x)=JG (vc b y)/\vc x y<0):=by
 unfold O8;split
 ·rename_i h;simp;omega
 ·rename_i h;simp;omega
theorem oI{b x y:Vc}(a:PB b x)(c:PB b y)(d:PB x y):O8 b x y=MC\/O8 b y x=MC:=by
 rw[g9,g9];rcases Jt (vc x y) 0 with h|h|h
 ·omega
 ·have o:=d h;have e:=WQ b h o;have e1:vc x b=-vc b x:=d8 b x;have e2:vc y b=-vc b y:=d8 b y;rw[e1,e2,Int.sign_neg,Int.sign_neg]at e;by_cases ne:JG (vc b x)=JG (vc b y)
  ·have f:JG (vc b x)=0:=()
   have g:JG (vc b y)=0:=()
   have i:=fN (a (Int.sign_eq_zero_iff_zero.mp f));have j:=fN (c (Int.sign_eq_zero_iff_zero.mp g));have k:=fN o;omega
  ·omega
 ·have:=d8 x y;omega
theorem oD{b x y z:Vc}(h:PB b x)(n:PB b y)(o:PB b z)(d:O8 b x y=MC)(a:O8 b y z=MC):O8 b x z=MC:=by
 rw[g9]at *;rcases d with d|⟨d,b1⟩
 ·left;rcases a with a|⟨a,f⟩<;>omega
 ·rcases a with a|⟨a,f⟩
  ·left;omega
  ·right;refine⟨(),?_⟩;have i:=GP b x y z;rcases fV (vc b y)with⟨k,e⟩|⟨k,e⟩|⟨k,e⟩
   ·have c:vc b x<0:=by rcases fV (vc b x)with q|q|q<;>omega
    have g:vc b z<0:=by rcases fV (vc b z)with q|q|q<;>omega
    have j:=Kb c f;have l:=Kb g b1;rcases Jt (vc x z) 0 with q|q|q
    ·exact q
    ·rw[q]at i;simp at i;omega
    ·have:=JP k q;omega
   ·exfalso;have c:vc b x=0:=by rcases fV (vc b x)with q|q|q<;>omega
    have m:=h c;have e:=WQ y c m;have:JG (vc x y)=-1:=JS b1;rw[k]at e;simp at e;omega
   ·have c:0<vc b x:=by rcases fV (vc b x)with q|q|q<;>omega
    have g:0<vc b z:=by rcases fV (vc b z)with q|q|q<;>omega
    have j:=JV c f;have l:=JV g b1;rcases Jt (vc x z) 0 with q|q|q
    ·exact q
    ·rw[q]at i;simp at i;omega
    ·have:=JW k q;omega
theorem uB{a b c:Vc}(h:PB a b)(e:O8 a c b=MC)(d:O8 b c a=MC):False:=by
 rw[g9]at e d;have e1:vc b a=-vc a b:=d8 a b;have e2:vc c b=-vc b c:=d8 b c;have e3:vc c a=-vc a c:=d8 a c;rw[e1,Int.sign_neg]at d;rw[e2]at e;rw[e3]at d;by_cases z:vc a b=0
 ·have o:=WQ c z (h z);rw[z]at e d;simp at e d;rcases fV (vc a c)with q|q|q<;>rcases fV (vc b c)with r|r|r<;>omega
 ·rcases fV (vc a b)with p|p|p<;>rcases fV (vc a c)with q|q|q<;>rcases fV (vc b c)with r|r|r<;>omega
def rev(w:Wl):Wl:=(w.2.2.1,w.2.2.2,w.1,w.2.1)
def fw(ws:ro)(f:Nat):Wl:=if f%2=0 then NU ws ((f/2:Nat):Int)else rev (NU ws ((f/2:Nat):Int))
def fa(ws:ro)(f:Nat):Vc:=((fw ws f).1,(fw ws f).2.1)
def fb(ws:ro)(f:Nat):Vc:=((fw ws f).2.2.1,(fw ws f).2.2.2)
def fd(ws:ro)(f:Nat):Vc:=((fw ws f).2.2.1-(fw ws f).1,(fw ws f).2.2.2-(fw ws f).2.1)
def fx(f:Nat):Nat:=if f%2=0 then f+1 else f-1
theorem f9(f:Nat):fx f/2=f/2/\(fx f)%2=1-f%2:=by unfold fx;split<;>omega
theorem uE(f:Nat):fx (fx f)=f:=by unfold fx;split<;>split<;>omega
theorem iC{f n:Nat}(h:f<2*n):fx f<2*n:=by unfold fx;split<;>omega
theorem ug(ws:ro)(f:Nat):fw ws (fx f)=rev (fw ws f):=by
 unfold fw;rw[(f9 f).1,(f9 f).2];by_cases h:f%2=0
 ·rw[ME (),MI h]
 ·rw[MI (),ME h];rfl
theorem eB(ws:ro)(f:Nat):fa ws (fx f)=fb ws f:=by unfold fa fb;rw[ug];rfl
theorem qU(ws:ro)(f:Nat):fb ws (fx f)=fa ws f:=by unfold fa fb;rw[ug];rfl
theorem d5{ws:ro}(d:∀w∈ws,NM w)(hF:PF ws){g h:Nat}(y:g<2*ws.length)(A:h<2*ws.length)(ne:g≠h)(e:fa ws g=fa ws h):PB (fd ws g) (fd ws h):=by
 obtain⟨f,_,j⟩:=bz (ws:=ws) (k:=((g/2:Nat):Int)) () ();obtain⟨i,_,l⟩:=bz (ws:=ws) (k:=((h/2:Nat):Int)) () ();have U:=d _ j;have V:=d _ l;rw[L9]at f i;unfold fa at e;have e1:=congrArg Prod.fst e;have e2:=congrArg Prod.snd e;unfold fd;unfold fw at *;by_cases a:g/2=h/2
 ·exfalso;rw[<-a]at e1 e2;have lt:=U.lt;unfold l1 l2 la at lt;by_cases p:g%2=0
  ·rw[MI p,ME (():¬h%2=0)]at e1 e2;unfold rev at e1 e2;dsimp only at e1 e2;omega
  ·rw[ME p,MI (():h%2=0)]at e1 e2;unfold rev at e1 e2;dsimp only at e1 e2;omega
 ·have F:=hF _ _ _ _ a f i;generalize NU ws ((g/2:Nat):Int)=u at *;generalize NU ws ((h/2:Nat):Int)=v at *;intro z;have B:=U.lt;have C:=V.lt;unfold vc N7 at z;have m:=F.e2;have n:=F.e4;have o:=F.e1;have r:=F.e3;have D:=F.ne;unfold a9 at o m r n;unfold vl;by_cases p:g%2=0<;>by_cases q:h%2=0
  ·rw[MI p,MI q]at z e1 e2 ⊢;exfalso;simp only[]at z e1 e2;have s:NT u v=0:=by unfold NT sd N7;grind
   have t:NT v u=0:=by unfold NT sd N7;grind
   have x:l1 u=l1 v:=by unfold l1;rw[e1,e2]
   omega
  ·rw[MI p,ME q]at z e1 e2 ⊢;unfold rev at *;simp only[]at z e1 e2 ⊢;have b:la (u.2.2.1-u.1) (u.2.2.2-u.2.1)=l2 u-l1 u:=by unfold l1 l2 la;omega
   have c:la (v.1-v.2.2.1) (v.2.1-v.2.2.2)=-(l2 v-l1 v):=by unfold l1 l2 la;omega
   rw[b,c];exact JV () ()
  ·rw[ME p,MI q]at z e1 e2 ⊢;unfold rev at *;simp only[]at z e1 e2 ⊢;have b:la (u.1-u.2.2.1) (u.2.1-u.2.2.2)=-(l2 u-l1 u):=by unfold l1 l2 la;omega
   have c:la (v.2.2.1-v.1) (v.2.2.2-v.2.1)=l2 v-l1 v:=by unfold l1 l2 la;omega
   rw[b,c];exact JP () ()
  ·rw[ME p,ME q]at z e1 e2 ⊢;unfold rev at *;exfalso;simp only[]at z e1 e2;have s:NQ u v=0:=by unfold NQ sd N7;grind
   have t:NQ v u=0:=by unfold NQ sd N7;grind
   have x:l2 u=l2 v:=by unfold l2;rw[e1,e2]
   omega
def bZ(R:Nat->Nat->Bool)(o:Option Nat)(g:Nat):Option Nat:=match o with
 |none=>MA g
 |some h=>if R g h=MC then MA g else MA h
theorem fold_min{R:Nat->Nat->Bool}{S:Nat->Prop}(b:∀x y,S x->S y->x≠y->R x y=MC\/R y x=MC)(f:∀x y z,S x->S y->S z->R x y=MC->R y z=MC->R x z=MC) :
 ∀(l:pe) (h:Nat),S h->(∀x∈l,S x)->∃m,l.foldl (bZ R) (MA h)=MA m/\S m/\(m=h\/m∈l)/\(h=m\/R m h=MC)/\∀x∈l,x=m\/R m x=MC
 |[],h,sh,_=>⟨h,rfl,sh,.inl rfl,.inl rfl,fun x a=>by cases a⟩
 |g::l,h,sh,hl=>by
  have sg:=hl g (by simp)
  rw[LQ]
  by_cases r:R g h=MC
  ·obtain⟨m,e,d,mem,c,i⟩:=fold_min b f l g sg (fun x a=>hl x (by simp[a]))
   have j:bZ R (MA h) g=MA g:=by unfold bZ;simp[r]
   rw[j]
   refine⟨m,e,d,?_,?_,?_⟩
   ·rcases mem with z|z
    ·right;simp[z]
    ·right;simp[z]
   ·right
    rcases c with z|z
    ·rw[<-z];exact r
    ·exact f _ _ _ d sg sh z r
   ·intro x a
    rcases JI.mp a with z|z
    ·subst z;exact c
    ·exact i x z
  ·obtain⟨m,e,d,mem,c,i⟩:=fold_min b f l h sh (fun x a=>hl x (by simp[a]))
   have j:bZ R (MA h) g=MA h:=by unfold bZ;simp[r]
   rw[j]
   refine⟨m,e,d,?_,c,?_⟩
   ·rcases mem with z|z
    ·exact .inl z
    ·right;simp[z]
   ·intro x a
    rcases JI.mp a with z|z
    ·subst z
     by_cases ne:x=h
     ·subst ne;exact c
     ·rcases b x h sg sh ne with q|q
      ·exact absurd q r
      ·rcases c with z|z
       ·right;rw[<-z];exact q
       ·right;exact f _ _ _ d sh sg z q
    ·exact i x z
def jz(ws:ro)(f g:Nat):Bool:=decide (fa ws g=fb ws f)&&decide (g≠fx f)
def cW(ws:ro)(f:Nat):pe:=(Jp (2*ws.length)).filter (jz ws f)
def Nj(ws:ro)(f g h:Nat):Bool:=O8 (fd ws (fx f)) (fd ws g) (fd ws h)
def bh(ws:ro)(f:Nat):Nat:=((cW ws f).foldl (bZ (Nj ws f)) MB).getD (fx f)
theorem bE{ws:ro}{f g:Nat}:g∈cW ws f↔g<2*ws.length/\fa ws g=fb ws f/\g≠fx f:=by unfold cW jz;simp[Jr]
theorem gf{ws:ro}(j:∀w∈ws,NM w)(hF:PF ws){f:Nat}(hf:f<2*ws.length):(cW ws f=[]/\bh ws f=fx f)\/(bh ws f∈cW ws f/\∀x∈cW ws f,x=bh ws f\/Nj ws f (bh ws f) x=MC):=by
 unfold bh;cases c:cW ws f with
 |nil=>exact .inl ⟨rfl,rfl⟩
 |cons g l=>
  right
  have sub:∀x∈g::l,x<2*ws.length/\fa ws x=fb ws f/\x≠fx f:=fun x d=>bE.mp (by rw[c];exact d)
  have h:∀x,(x<2*ws.length/\fa ws x=fb ws f/\x≠fx f)->PB (fd ws (fx f)) (fd ws x):=fun x d=>d5 j hF (iC hf) d.1 (fun z=>d.2.2 z.symm) (by rw[eB,d.2.1])
  obtain⟨m,e,q,mem,k,n⟩:=fold_min (R:=Nj ws f) (S:=fun x=>x<2*ws.length/\fa ws x=fb ws f/\x≠fx f) (fun x y d i ne=>oI (h x d) (h y i) (d5 j hF d.1 i.1 ne (by rw[d.2.1,i.2.1]))) (fun x y z d i o a b=>oD (h x d) (h y i) (h z o) a b) l g (sub g (by simp)) (fun x d=>sub x (by simp[d]))
  rw[LQ]
  have p:bZ (Nj ws f) MB g=MA g:=rfl
  rw[p,e]
  simp only[Option.getD_some]
  refine⟨by rcases mem with z|z<;>simp[z],fun x d=>?_⟩
  rcases JI.mp d with z|z
  ·subst z;exact k
  ·exact n x z
theorem Cr{ws:ro}(a:∀w∈ws,NM w)(hF:PF ws){f:Nat}(hf:f<2*ws.length):bh ws f<2*ws.length:=by
 rcases gf a hF hf with⟨_,e⟩|⟨h,_⟩
 ·rw[e];exact iC hf
 ·exact(bE.mp h).1
theorem iE{ws:ro}(a:∀w∈ws,NM w)(hF:PF ws){f:Nat}(hf:f<2*ws.length):fa ws (bh ws f)=fb ws f:=by
 rcases gf a hF hf with⟨_,e⟩|⟨h,_⟩
 ·rw[e,eB]
 ·exact(bE.mp h).2.1
theorem Eo{ws:ro}(a:∀w∈ws,NM w)(hF:PF ws){f g:Nat}(hf:f<2*ws.length)(b:g<2*ws.length)(e:bh ws f=bh ws g):f=g:=by
 by_cases ne:fx f=fx g
 ·rw[<-uE f,ne,uE]
 ·exfalso;have c:fb ws f=fb ws g:=by rw[<-iE a hF hf,<-iE a hF b,e]
  have d:fx g∈cW ws f:=bE.mpr ⟨iC b,by rw[eB,c],fun z=>ne z.symm⟩;have h:fx f∈cW ws g:=bE.mpr ⟨iC hf,by rw[eB,c],ne⟩;rcases gf a hF hf with⟨z,_⟩|⟨k1,j⟩
  ·rw[z]at d;cases d
  ·rcases gf a hF b with⟨z,_⟩|⟨k,l⟩
   ·rw[z]at h;cases h
   ·have m:=(bE.mp k1).2.2;have n:=(bE.mp k).2.2;have o:=(j _ d).resolve_left (fun z=>n (by rw[<-e,<-z]));have i:=(l _ h).resolve_left (fun z=>m (by rw[e,<-z]));rw[<-e]at i;exact uB (d5 a hF (iC hf) (iC b) ne (by rw[eB,eB,c])) o i
def N9(ws:ro)(f:Nat):Nat->Nat
 |0=>f
 |k+1=>bh ws (N9 ws f k)
def rn(ws:ro)(f k:Nat):pe:=(Jp (k+1)).map (N9 ws f)
def NR(ws:ro)(f k:Nat):Prop:=∀i j,i<j->j<=k->N9 ws f i≠N9 ws f j
theorem fv(ws:ro)(f k:Nat):(rn ws f k).length=k+1:=by simp[rn]
theorem kR(ws:ro)(f k:Nat):rn ws f (k+1)=rn ws f k++[N9 ws f (k+1)]:=by unfold rn;rw[KJ,Jx];rfl
theorem vD(ws:ro)(f:Nat):rn ws f 0=[f]:=rfl
theorem pX:∀(m:Nat) (l:pe),l.Nodup->(∀x∈l,x<m)->l.length<=m
 |0,l,_,h=>by
  cases l with
  |nil=>simp
  |cons a l=>exact absurd (h a (by simp)) ()
 |m+1,l,nd,h=>by
  have d:=pX m (l.erase m) (nd.erase m) (fun x b=>by
   have:=h x (List.mem_of_mem_erase b)
   have ne:x≠m:=fun z=>by
    subst z
    exact absurd b (nd.not_mem_erase)
   omega)
  have:=List.length_erase_le (a:=m) (l:=l)
  by_cases c:m∈l
  ·have:=List.length_erase_of_mem c;omega
  ·rw[List.erase_of_not_mem c]at d;omega
section
variable{ws:ro}(hU:∀w∈ws,NM w)(hF:PF ws){f:Nat}(hf:f<2*ws.length)
include hU hF hf
theorem cz:∀k,N9 ws f k<2*ws.length
 |0=>hf
 |k+1=>Cr hU hF (cz k)
theorem uq{k:Nat}(h:NR ws f k)(ne:bh ws (N9 ws f k)≠f):NR ws f (k+1):=fun i j a b e=>by
 by_cases q:j<=k
 ·exact h i j a q e
 ·have:j=k+1:=()
  subst this;cases i with
  |zero=>exact ne e.symm
  |succ i=>exact h i k () (J9 _) (Eo hU hF (cz hU hF hf i) (cz hU hF hf k) e)
theorem ox{k:Nat}(h:NR ws f k):k+1<=2*ws.length:=by
 rw[<-fv ws f k];refine pX _ _ ?_ (fun x d=>?_)
 ·unfold rn;rw[List.nodup_iff_pairwise_ne,List.pairwise_map];refine List.Pairwise.imp_of_mem ?_ (List.pairwise_lt_range (n:=k+1));intro a b g e c;exact h a b c (by have:=JK.mp e;omega)
 ·unfold rn at d;obtain⟨i,_,rfl⟩:=JQ.mp d;exact cz hU hF hf i
end
structure YB(ws:ro)(r:pe):Prop where
 ex:∃f k,f<2*ws.length/\k+1<=2*ws.length/\r=rn ws f k/\bh ws (N9 ws f k)=f
theorem vC(ws:ro)(f:Nat):NR ws f 0:=fun i j a b=>()
theorem round0{ws:ro}(b:∀w∈ws,NM w)(hF:PF ws){f k:Nat}(hf:f<2*ws.length)(c:bh ws (N9 ws f k)=f)(a:Vc->Rat):((rn ws f k).map fun g=>a (fb ws g)-a (fa ws g)).sum=0:=by
 have key:∀k,((rn ws f k).map fun g=>a (fb ws g)-a (fa ws g)).sum=a (fb ws (N9 ws f k))-a (fa ws f):=fun k=>by
  induction k with
  |zero=>rw[vD];simp only[Jn,KP,Ki,List.sum_nil,Rat.add_zero];rfl
  |succ k d=>
   rw[kR,Jx,List.sum_append,d]
   simp only[Jn,KP,Ki,List.sum_nil]
   have:fa ws (N9 ws f (k+1))=fb ws (N9 ws f k):=iE b hF (cz b hF hf k)
   rw[this]
   grind
 rw[key,<-iE b hF (cz b hF hf k),c];grind
def Ng(ws:ro)(g:Nat):Int:=(fa ws g).1*(fb ws g).2-(fb ws g).1*(fa ws g).2
def Rw(t b X Y:Int)(ws:ro)(g:Nat):Rat:=MX t b X 1 (fa ws g).1*MX t b Y 1 (fb ws g).2-MX t b X 1 (fb ws g).1*MX t b Y 1 (fa ws g).2
theorem ur(a c d:Rat)(u v w:Nat->Rat):∀l:pe,(l.map fun g=>a*u g+(c*v g+d*w g)).sum=a*(l.map u).sum+(c*(l.map v).sum+d*(l.map w).sum)
 |[]=>by simp;grind
 |g::l=>by
  rw[Jn,Ki,ur a c d u v w l,Jn,Ki,Jn,Ki,Jn,Ki]
  grind
theorem qS(u:rb):∀l:pe,(l.map fun g=>((u g:Int):Rat)).sum=(((l.map u).sum:Int):Rat)
 |[]=>by simp
 |g::l=>by
  rw[Jn,Ki,qS u l,Jn,Ki,LS]
theorem Fx{ws:ro}(d:∀w∈ws,NM w)(hF:PF ws){r:pe}(h:YB ws r){t b X Y:Int}(a:0<b):(r.map (Rw t b X Y ws)).sum=((t:Rat)/b)*((t:Rat)/b)*(((r.map (Ng ws)).sum:Int):Rat):=by
 obtain⟨f,k,hf,_,rfl,c⟩:=h.ex;have i:=round0 d hF hf c (fun p=>((p.1:Int):Rat));have j:=round0 d hF hf c (fun p=>((p.2:Int):Rat))
 have e:(Rw t b X Y ws)=fun g=>(((t:Rat)/b)*((t:Rat)/b))*((Ng ws g:Int):Rat)+((-(((t:Rat)/b)*((Y:Rat)/b)))*((((fb ws g).1:Int):Rat)-(((fa ws g).1:Int):Rat))+(((t:Rat)/b)*((X:Rat)/b))*((((fb ws g).2:Int):Rat)-(((fa ws g).2:Int):Rat))):=by
  funext g
  unfold Rw Ng;rw[dI a,dI a,dI a,dI a,Lf,Kh,Kh];grind
 rw[e,ur,qS];rw[i,j];grind
theorem um(q:Rat)(B:Int)(h:(q.den:Int) ∣ B):((q.num*B.fdiv (q.den:Int):Int):Rat)=q*(B:Rat):=by
 obtain⟨k,rfl⟩:=h;have hd:(q.den:Int)≠0:=by have:=q.den_nz;omega
 have e:((q.den:Int)*k).fdiv (q.den:Int)=k:=by rw[Ke _ ()];exact Int.mul_ediv_cancel_left k hd
 rw[e,Kh,Kh];have a:((q.den:Int):Rat)≠0:=fun z=>hd (by exact_mod_cast z)
 have m:q*((q.den:Int):Rat)=(q.num:Rat):=by
  have e:=Rat.num_divInt_den q
  rw[Rat.divInt_eq_div]at e
  rw[<-e]
  have e3:((q.num:Rat)/((q.den:Int):Rat))*((q.den:Int):Rat)=(q.num:Rat):=by grind
  rw[e]at e3 ⊢
  exact e3
 rw[<-m];grind
theorem Ay{n d:Int}(hd:0<d):((Rat.divInt n d).den:Int) ∣ d:=by rw[Rat.den_divInt,ME ()];have a:d.natAbs/d.gcd n ∣ d.natAbs:=Nat.div_dvd_of_dvd (Int.ofNat_dvd_left.mp (Int.gcd_dvd_left d n));exact Int.ofNat_dvd_left.mpr a
section
variable{X:Cx}
def GN:Nl:=Pr (fun _ _=>True) fun i j=>.int (Builtin.bitXor i j)
theorem CV:Nn X (LB .BitXor) GN:=dJ (SH D2) fun _ _ _=>by rw[Rep]
variable{o:o_}{to:TD}{apos bg:Pos}
def FZ(to:TD):TD:=fun δ M Q=>to δ M fun x a=>∃l b,x=.ref l/\a l=MA (.lst b)/\Q .non (az a l (.lst []))
theorem j9(i:DE X o to)(b:LH o "clear" X.env (eval o X.env)=eval o X.env:=by rfl)(c:(apos.endLine==bg.line)=MC:=by rfl):DE X (.Call (.Attribute o "clear" apos) [] [] bg) (FZ to):=
 bw (Ea PySem.F.plainAttrs_list PySem.F.slot_list_clear PySem.F.type_list_clear xj i b c) fun σ H Q ⟨δ,M,R,e,j,q,f⟩=>by
  refine⟨δ,M,_,e,j,q,fun x r v H1 k g h d=>?_⟩
  obtain⟨l,s,ex,m,n⟩:=d
  subst ex
  rw[Rep]at g
  subst g
  obtain⟨vs,a,p⟩:=h _ _ m
  exact⟨.inl ⟨rfl,vs,NX.of a⟩,l,vs,rfl,rfl,a,f _ _ _ _ (k.trans (.lst a)) (by rw[Rep]) (h.xf a (by rw[aK])) n⟩
end
theorem DN:∀f:Nat,f<80->Builtin.bitXor (f:Int) 1=((fx f:Nat):Int):=⋯
def SQ(n:Nat)(S:Int->Bool):J1->Hp->n_->Prop:=fun K H a=>∃kvs:List (Key×V),H a=MA (.dK kvs)/\kvs.length<=n/\∀i:Int,(kvs.any fun b=>decide (b.1=Sum.inl i))=S i
def RF(n:Nat)(S:Int->Bool):MO:=.gen (SQ n S)
section
variable{K:J1}{H H':Hp}{M:MH}{a:n_}
theorem SQ.yt{n:Nat}{S:Int->Bool}(h:SQ n S K H a):rL K H a (RF n S):=⟨h,(by obtain⟨kvs,b,_⟩:=h;rw[b];simp),fun H' g e=>let⟨kvs,b,c⟩:=h;⟨kvs,e.trans b,c⟩⟩
theorem NW.di{n:Nat}{S:Int->Bool}(h:NW K H M)(e:M a=MA (RF n S)):SQ n S K H a:=(h a _ e).1
theorem NW.Gq{p:n_}(h:NW K H M)(b:H p=MB):NW K (upd H p (.dK [])) (az M p (RF 0 fun _=>MD)):=fun a u e=>by
 by_cases ne:a=p
 ·subst ne;rw[ag]at e;cases e;exact SQ.yt ⟨[],bD,J9 _,fun _=>rfl⟩
 ·rw[au ne]at e;exact(h a u e).iP (.new b) (bo ne)
theorem NN.dK{kvs:List (Key×V)}{o:HO}(h:H a=MA (.dK kvs)):NN K H (upd H a o):=.put (fun xs e=>by rw[h]at e;cases e) (fun u xs e=>by rw[h]at e;cases e)
theorem NW.FG{n:Nat}{S:Int->Bool}{kvs:List (Key×V)}{i:Int}{v:V}(h:NW K H M)(b:H a=MA (.dK kvs))(g:kvs.length<=n)(d:∀i:Int,(kvs.any fun f=>decide (f.1=Sum.inl i))=S i) : NW K (upd H a (.dK (putK kvs (.inl i) v))) (az M a (RF (n+1) fun j=>decide (j=i)||S j)):=fun c u e=>by
 by_cases ne:c=a
 ·subst ne;rw[ag]at e;cases e;refine SQ.yt ⟨_,bD,by have:=gE kvs (.inl i) v;omega,fun j=>?_⟩;rw[eE,xS];by_cases z:j=i
  ·subst z;rw[MI rfl];simp
  ·rw[ME (fun q=>z (by injection q)),<-eE,d];simp[z]
 ·rw[au ne]at e;exact(h c u e).iP (.dK b) (bo ne)
end
section
variable{X:Cx}{pos:Pos}
def Dp:TD:=fun _ M Q=>∀p,M p=MB->Q (.ref p) (az M p (RF 0 fun _=>MD))
theorem zJ:DE X (.Dict [] [] pos) Dp:=bw zb fun σ H Q a=>by obtain⟨δ,M,R,e,d,q,b⟩:=a;exact(fun p c=>b _ _ _ _ (.new c) (by rw[Rep]) (d.Gq c) (q p (d.fresh c)))
def CT(g:Bool->Bool)(ty b:TD):TD:=fun δ M Q=>ty δ M fun y c=>b δ c fun x a=>∃i l n S,y=.int i/\x=.ref l/\a l=MA (RF n S)/\Q (.bl (g (S i))) a
theorem B2{K:J1}{g:Bool->Bool}{ty e:TD}{σ:L2.St}{H:Hp}{Q:VK}(h:lift K (CT g ty e) σ H Q) : (lift K ty) σ H fun y H1=>(lift K e) σ H1 fun x c=>∃a o,x=.ref a/\DO c a y o/\Q (.bl (g o.isSome)) c:=by obtain⟨δ,M,R,f,r,q,d⟩:=h;refine⟨δ,M,_,f,r,q,fun y s v H1 j k t w=>⟨δ,s,_,f.mono j,t,w,fun x F u c z m p b=>?_⟩⟩;obtain⟨i,l,n,S,A,ex,B,C⟩:=b;subst A ex;rw[Rep]at k;rw[Rep]at m;subst k m;obtain⟨kvs,D,G,E⟩:=p.di B;refine⟨l,fG kvs (.inl i),rfl,.inl ⟨kvs,.inl i,.inl D,rfl,rfl⟩,?_⟩;rw[<-eE,E];exact d _ _ _ _ (j.trans z) (by rw[Rep]) p C
variable{e1 e2:o_}{ty td:TD}
theorem uc(p:X.A.units+66<Ku)(j:DE X e1 ty)(k:DE X e2 td)(l:Mm .NotIn e2=MD:=by rfl):DT X (.Compare e1 [.NotIn] [e2] pos) (tBD (CT (fun b=>!b) ty td)):=
 lV (Dr (wO () j k) l) fun σ H Q e=>by obtain⟨δ,M,R,m,n,q,h⟩:=e;exact(B2 (g:=fun b=>!b) (Q:=fun x i=>∃c,x=.bl c/\Q c i) ⟨δ,M,_,m,n,q,fun d s v i g r a f=>by
  obtain⟨c,o,z⟩:=f
  subst o
  rw[Rep]at r;subst r
  exact⟨c,rfl,h _ _ _ g a z⟩⟩)
def E2(td ty b:TD):Nr:=fun B δ M=>b δ M fun d c=>td δ c fun x e=>ty δ e fun y a=>∃l i n S,x=.ref l/\y=.int i/\a l=MA (RF n S)/\n<1000000/\B.nx δ (az a l (RF (n+1) fun j=>decide (j=i)||S j))
theorem yF{o i a:o_}{k:TD}{b:Pos}(V:X.A.units+66<Ku)(z:DE X o td)(C:DE X i ty)(E:DE X a k)(f:Mo a (MA (.Subscript o i b)) pos.line X.env=pure MD:=by rfl):DSt X (.Assign [.Subscript o i b] a pos) (E2 td ty k):=
 dh (BN () z C E f) fun D σ H c=>by obtain⟨δ,M,f,F,B,ok,q⟩:=c;exact(⟨δ,M,_,f,F,q,fun d G v H1 g W I J=>⟨δ,G,_,f.mono g,I,J,fun x L u Y h m N O=>⟨δ,L,_,(f.mono g).mono h,N,O,fun y Z u3 p r s t e=>by
  obtain⟨l,i,n,S,ex,P,Q,hn,R⟩:=e
  subst ex P
  rw[Rep]at m;rw[Rep]at s;subst m s
  obtain⟨kvs,j,T,U⟩:=t.di Q
  have sz:1000000<=Jv:=NL rfl
  have w:NN X.K p (upd p l (.dK (putK kvs (.inl i) v))):=.dK j
  exact⟨l,_,rfl,.inl ⟨kvs,.inl i,j,rfl,(),rfl⟩,ok.nx _ _ _ _ (((g.trans h).trans r).trans w) (f.mono (((g.trans h).trans r).trans w)) (t.FG j T U) R⟩⟩⟩⟩)
end
def xh(K:J1):RC:=fun c M Q=>pI K c M Q\/∃a xs n b,c=[.ref a,.ty n]/\M a=MA (.lst xs)/\PySem.W.kitOne K (.type "list") (.type n)=MA b/\Q (.bl b) M
section
variable{X:Cx}
theorem lM{K:J1}(j:X.K=K):dO X (.builtin "isinstance") (xh K):=by
 subst j;intro MR s σ H vs us Q I f k;obtain⟨l,M,R,g,a,q,c⟩:=k;rcases q with q|⟨x,xs,n,b,p,t,w,q⟩
 ·exact vS MR s σ H vs us Q I f ⟨l,M,R,g,a,q,c⟩
 ·subst p;obtain⟨v,u,rfl,r,i⟩:=eU g;rw[Rep]at r;subst r;rw[Rep]at i;subst i;obtain⟨y,A,rfl,d,B⟩:=vals2 f;cases (show y=KW x from d);cases (show A=Value.type n from B);obtain⟨G,C,_⟩:=a _ _ t;obtain⟨D,_,⟨o,m,E,F,_⟩,_⟩:=I.list (NX.of C);have h:∀e,EP X MR σ Q (.bool b) { s with toks:=e }:=fun e=>⟨.bl b,H,I.tok e,rfl,c _ _ _ _ .refl (by rw[Rep]) a q⟩;exact Mh PySem.W.kitx_list I.kIn ⟨o,E,F⟩ w (fun z=>nomatch z) h
end
def gw(ws:ro)(f:Nat)(r:pe):Prop:=∃a,NR ws f a/\bh ws (N9 ws f a)=f/\r=rn ws f a
theorem AN{ws:ro}{f:Nat}{r c:pe}(h:gw ws f r)(h':gw ws f c):r=c:=by
 obtain⟨k,n,e,rfl⟩:=h;obtain⟨g,i,j,rfl⟩:=h';have d:∀{a b:Nat},NR ws f b->bh ws (N9 ws f a)=f->¬a<b:=fun{a b} n e l=>n 0 (a+1) () () e.symm;have m:=d i e;have o:=d n j;have:k=g:=()
 rw[this]
def OW(ws:ro):Nat->pd->Prop
 |0,rs=>rs=[]
 |i+1,rs=>∃qs,OW ws i qs/\((i∈qs.flatten/\rs=qs)\/(i∉qs.flatten/\∃r,gw ws i r/\rs=qs++[r]))
theorem jR{ws:ro}:∀{i:Nat} {c b:pd},OW ws i c->OW ws i b->c=b
 |0,c,b,h,h'=>by rw[show c=[]from h,show b=[]from h']
 |i+1,c,b,⟨qs,h1,h2⟩,⟨qs',h1',h2'⟩=>by
  have:=jR h1 h1'
  subst this
  rcases h2 with⟨a,rfl⟩|⟨a,r,f,rfl⟩
  ·rcases h2' with⟨d,rfl⟩|⟨d,_⟩
   ·rfl
   ·exact absurd a d
  ·rcases h2' with⟨d,_⟩|⟨d,g,e,rfl⟩
   ·exact absurd d a
   ·rw[AN f e]
def RL(M:MH)(ps:q_)(a:pd):Prop:=Mw (fun(p:n_) (r:pe)=>M p=MA (.lst (r.map ry))) ps a
theorem RL.len{M:MH}{ps:q_}{a:pd}(h:RL M ps a):ps.length=a.length:=by
 unfold RL at h
 induction h with
 |nil=>rfl
 |cons _ _ b=>rw[Kk,Kk,b]
theorem RL.mono{M b:MH}{ps:q_}{c:pd}(h:RL M ps c)(s:∀p∈ps,∀o,M p=MA o->b p=MA o):RL b ps c:=by
 unfold RL at *
 induction h with
 |nil=>exact .nil
 |cons a _ d=>exact .cons (s _ (by simp) _ a) (d fun p f o e=>s p (by simp[f]) o e)
theorem RL.snoc{M:MH}{ps:q_}{a:pd}{p:n_}{r:pe}(h:RL M ps a)(e:M p=MA (.lst (r.map ry))):RL M (ps++[p]) (a++[r]):=Paired.snoc h e
def Ru(a:pd):List Lz:=a.map fun r=>.list (r.map fun g:Nat=>Md (g:Int))
theorem RL.pds{M:MH}{ps:q_}{b:pd}(h:RL M ps b):Pg M (ps.map D.ref) (Ru b):=by
 unfold RL at h
 induction h with
 |nil=>exact .nil
 |@cons p r _ _ a _ ih=>
  refine .cons (.lst a ?_) ih
  have:=jr (M:=M) (r.map fun g:Nat=>(g:Int))
  rw[Ky,Ky]at this
  exact this
section
variable{X:Cx}
def p0(us:List (Int×Int))(i:Nat):Int×Int:=us.getD i (0,0)
theorem tQ{us:List (Int×Int)}{i:Nat}(h:i<us.length):p0 us i∈us:=by unfold p0;rw[List.getD_eq_getElem?_getD,J0 h];exact K1 h
variable{prog:JL}{w:Kg}{A:Kn}{E:J3->J5->Prop}{s:J5}
end
section
variable{X:Cx}
def OF(u v:Int×Int):Prop:=100*u.1+u.2<100*v.1+v.2
end
def kO(h:oT)(d:n_)(es:Array KG)(ep:Nat):Prop:=∃o,h.get? d=MA o/\o.ExactDict/\o.data=.dict es ep
section
variable{prog:JL}{w:Kg}{A:Kn}{E:J3->J5->Prop}{s:J5}{d it:n_}{es:Array KG}{ep i:Nat}
theorem kO.ty(h:kO s.heap d es ep):s.TypeIs (.ref d) "dict":=let⟨o,a,b,_⟩:=h;⟨o,a,b.1⟩
theorem kO.kept{h h':oT}(q:kO h d es ep)(k:∀o,h.get? d=MA o->h'.get? d=MA o):kO h' d es ep:=let⟨o,a,b⟩:=q;⟨o,k o a,b⟩
theorem kO.lt{h:oT}(q:kO h d es ep):d<h.objs.size:=let⟨_,a,_⟩:=q;Jz a
theorem yp{Q:J3->J5->Prop}(f:(d==Li)=MD)(b:kO s.heap d es ep)
 (q:Q (.ref s.z) { s with heap:=s.heap.push { cls:=.type "dict_keyiterator",data:=.fields #[.ref d,.int 0 0,.int es.size 0,.int ep 0] } }):Js (JF prog w) A (pyIter (.ref d)) Q E s:=by
 have a:=b.ty
 obtain⟨o,c,g,e⟩:=b
 refine wpAny_pyIter_slot a F.slot_dict_iter (wpAny_call_entry F.slot_dict_iter a F.entry_dict_iter ?_ (F.args_dict_iter_1 _))
 unfold Mx.«dict.__iter__»
 refine cc ?_
 unfold Builtin.Dict.dictSlotNone
 refine cc (wpAny_notOrdered_dict a ?_)
 show Js _ _ (pure (KW d)) _ _ s
 refine J7 ?_
 show Js _ _ (Builtin.Dict.showsAll d >>= _) _ _ s
 unfold Builtin.Dict.showsAll
 rw[ME (by rw[f];exact JD)]
 refine cc (J7 (cc (wpAny_dictEntries c e (cc (wpAny_dictEpoch c e ?_)))))
 refine cc (K7 (J7 ⟨_,rfl,"dict_keyiterator",_,⟨_,Jy _ rfl,rfl⟩,Lh.lookup,?_⟩))
 simpa[rawInt]using q
theorem Ah{Q:Option J3->J5->Prop}(b:s.heap.IsKeyIter it d i es.size ep)(h:kO s.heap d es ep)(j:i<es.size)
 (k:∀h':oT,h'.IsKeyIter it d (i+1) es.size ep->Mj it s.heap h'->Q (MA es[i].key) { s with heap:=h' }):Js (JF prog w) A (pyNext (.ref it)) Q E s:=by
 obtain⟨o,c,l,hd⟩:=id b
 obtain⟨od,e,m,f⟩:=h
 have a:=b.typeIs
 unfold pyNext
 refine cc (wpAny_attempt (wpAny_callSpecial?_slot (name:=LG "__next__") a Lh (wpAny_call_entry Lh a F.entry_dict_keyiterator_next ?_ (F.args_dict_keyiterator_next_1 _))))
 refine cc (J7 (cc (cc ?_)))
 first|refine cc (LL a (J7 ?_))|refine cc (wpAny_typeNameOf_keyiter a (J7 ?_))
 refine cc (wpAny_fieldsOf c hd ?_)
 simp only[show Builtin.Dict_items.ownsTuple "dict_keyiterator"=MD by decide,Lj,if_false]
 show Js _ _ (if(KW d==Ms)=MC then _ else _) _ _ s
 rw[ME (show ¬((KW d==Ms)=MC)from JD)]
 refine cc (J7 (cc (wpAny_dictEntries e f ?_)))
 rw[ME (by simp)]
 refine cc (J7 (cc (wpAny_dictEpoch e f ?_)))
 rw[ME (by simp)]
 refine J7 ?_
 simp only[show ¬((i:Int)<0)from by omega,if_false,L9,Array.getElem?_eq_getElem j]
 refine cc ?_
 first|refine cc (LL a (J7 ?_))|refine cc (wpAny_typeNameOf_keyiter a (J7 ?_))
 refine cc (wpAny_isOneOf_keyiter a ?_)
 show Js _ _ (setField (.ref it) 1 (rawInt ((i:Int)+1)) >>= _) _ _ s
 refine cc (wpAny_setField c hd (by simp) ?_)
 have g:(s.heap.update it (Obj.mapFields (·.setIfInBounds 1 (rawInt ((i:Int)+1))))).IsKeyIter it d (i+1) es.size ep:=
  ⟨_,Lb _ c (Obj.isFreed_of_fields (Obj.data_mapFields hd _)),(Obj.cls_mapFields ..).trans l,by rw[Obj.data_mapFields hd];simp[rawInt]⟩
 refine cc (KC (cc (wpAny_isOneOf_keyiter (s:={ s with heap:=s.heap.update it (Obj.mapFields (·.setIfInBounds 1 (rawInt ((i:Int)+1)))) }) g.typeIs ?_)))
 show Js _ _ (pure es[i].key) _ _ _
 exact J7 (J7 ⟨_,rfl,J7 (k _ g (Heap.SameBut.update ..))⟩)
theorem Bi{Q:Option J3->J5->Prop}(j:A.handled=MB)(e:s.heap.IsKeyIter it d es.size es.size ep)(k:kO s.heap d es ep)
 (l:∀h',Heap.ExtBut it s.heap h'->Q MB { s with heap:=h' }):Js (JF prog w) A (pyNext (.ref it)) Q E s:=by
 obtain⟨o,f,n,hd⟩:=id e
 obtain⟨od,g,p,h⟩:=k
 have c:=e.typeIs
 unfold pyNext
 refine cc (wpAny_attempt (wpAny_callSpecial?_slot (name:=LG "__next__") c Lh (wpAny_call_entry Lh c F.entry_dict_keyiterator_next ?_ (F.args_dict_keyiterator_next_1 _))))
 refine cc (J7 (cc (cc ?_)))
 first|refine cc (LL c (J7 ?_))|refine cc (wpAny_typeNameOf_keyiter c (J7 ?_))
 refine cc (wpAny_fieldsOf f hd ?_)
 simp only[show Builtin.Dict_items.ownsTuple "dict_keyiterator"=MD by decide,Lj,if_false]
 show Js _ _ (if(KW d==Ms)=MC then _ else _) _ _ s
 rw[ME (show ¬((KW d==Ms)=MC)from JD)]
 refine cc (J7 (cc (wpAny_dictEntries g h ?_)))
 rw[ME (by simp)]
 refine cc (J7 (cc (wpAny_dictEpoch g h ?_)))
 rw[ME (by simp)]
 refine J7 ?_
 simp only[show ¬((es.size:Int)<0)from by omega,if_false,L9,Array.getElem?_eq_none (J9 es.size)]
 refine cc ?_
 first|refine cc (LL c (J7 ?_))|refine cc (wpAny_typeNameOf_keyiter c (J7 ?_))
 show Js _ _ (setField (.ref it) 0 .none >>= _) _ _ s
 refine cc (wpAny_setField f hd (by simp) ?_)
 show Js _ _ (newExc (.type "StopIteration") [] >>= _) _ _ _
 refine cc ?_
 simp only[newExc,newTuple]
 refine cc (K7 ?_ (by size_fits))
 refine cc (m:=firstArgMember _ _) (wpAny_of_eq (a:=Ms) (by first|rfl|(simp only[firstArgMember];rfl)) ?_)
 refine K7 ?_ (by size_fits)
 simp only[raiseNew]
 refine cc (wpAny_handled ?_)
 rw[show A.in1.handled=MB from j]
 refine cc (J7 (wpAny_throw ?_))
 refine cc (wpAny_isInstance (T:="StopIteration") (b:=MC) ⟨_,Jy _ rfl,rfl⟩ isSubtype_stop ?_)
 exact J7 (l _ (((Heap.SameBut.update ..).extBut.push _).push _))
theorem wN(m:A.handled=MB)(I d:n_)(f:d≠I)(es:Array KG)(ep:Nat):Walks prog w A I [I,d] [I] es.size (fun i v=>∃e,es[i]?=MA e/\v=e.key) (fun i h=>h.IsKeyIter I d i es.size ep/\kO h d es ep) where
 sub:=fun b a=>by simp at a;simp[a]
 frame:=fun _ _ _ st j=>⟨st.1.at fun o e=>j I (by simp) o e,st.2.kept fun o e=>j d (by simp) o e⟩
 item:=fun i s Q E k st c=>Ah st.1 st.2 k fun g n l=>c _ g s.toks ⟨es[i],by simp[k],rfl⟩ ⟨n,st.2.kept fun o e=>(l.2 d f).trans e⟩ fun b o a e=>l.extBut b o (fun h=>a (by simp[h])) e
 done:=fun s Q E st c=>Bi m st.1 st.2 fun g p=>c g s.toks fun b o a e=>p b o (fun h=>a (by simp[h])) e
 self:=fun _ _ _ _ st c=>wpAny_pyIter_keyiter st.1 c
theorem AD(c:(d==Li)=MD):PySem.W.KdlSrc prog w "dict" d d es.size (fun i v=>∃e,es[i]?=MA e/\v=e.key) (fun h=>kO h d es ep) where
 type:=fun _ a=>a.ty
 there:=fun _ a=>⟨a.lt,a.lt⟩
 keep:=fun _ _ a f=>a.kept fun o e=>f d (.inl rfl) o e
 notList:=⋯
 notTuple:=⋯
 hint:=fun _ _ _ _ a b=>PySem.W.kdl_hint_dict a.ty b
 iter:=fun _ _ g a=>⟨_,_,(fun _ _ b=>yp c a b),wN g _ d (K5 a.lt) es ep,⟨⟨_,Jy _ rfl,rfl,rfl⟩,a.kept fun o e=>Jo _ e⟩⟩
end
section
variable{X:Cx}
theorem zG{P:JL}{w:Kg}{xs:List Nu}{ys:List (N4×n_×J3)}(r:Mw RG xs ys):(ys.map (entryOfKey (fJ P w))).map (·.key)=xs.map fun x=>KW x.2.1:=by
 induction r with
 |nil=>rfl
 |cons h t a=>simp only[Jn,a,h.2.1];rfl
theorem nR:∀xs:List Nu,Vals (xs.map fun x=>V.ref x.2.1) (xs.map fun x=>KW x.2.1)
 |[]=>.nil
 |x::xs=>.cons rfl (nR xs)
theorem qo(j:X.calm=MC):cv X (.type "list") (fun vs H Q=>∃p xs,vs=[.ref p]/\H p=MA (.ext (cT X.prog X.w p xs))/\∀l,H l=MB->Q (.ref l) (upd H l (.lst (xs.map fun x=>V.ref x.2.1)))):=by
 intro MR s σ H vs us Q I r k;obtain⟨p,xs,m,n,q⟩:=k;subst m;obtain⟨u,rfl,t⟩:=vals1 r;cases t;obtain⟨⟨v,f,G,J,g,o,es,ep,y,z,A,h⟩,_⟩:=I.hok p _ n;have B:es.size=xs.length:=by rw[<-Array.length_toList,h,J4,pF g]
 refine PySem.W.kdl_call (AD (es:=es) (ep:=ep) v) (I.ok.hd j) ⟨o,y,z,A⟩ (by rw[B];exact f) fun C D a c kp E it=>?_
 have F:a.toList=xs.map fun x=>KW x.2.1:=by
  rw[<-zG (P:=X.prog) (w:=X.w) g,<-h];apply List.ext_getElem?;intro i;by_cases d:i<es.size
  ·have b:i<a.size:=by rw[it.1];exact d
   obtain⟨e,e1,e2⟩:=it.2 i a[i] (by simp[b]);simp[b,d]at e1 ⊢;rw[e2,<-e1]
  ·have b:¬i<a.size:=by rw[it.1];exact d
   simp[d,b]
 refine⟨.ref s.z,_,I.laid (t':=D) kp (J9 _) (show cR X.prog X.w _ C _ (.lst _)from⟨by rw[J4];exact f,_,c,nR xs,?_⟩),rfl,q _ (I.hok.fresh (J9 _))⟩;rw[<-F,Array.toArray_toList];exact E
def Eh:RC:=fun a M Q=>xW a M Q\/∃l kvs,a=[.ref l]/\M l=MA (OU kvs)/\∀p,M p=MB->Q (.ref p) (az M p (.lst (kvs.map fun x=>QB x.1)))
theorem oq{K:J1}{H:Hp}:∀{kvs:OA} {xs:List Nu},xs.map (·.1)=kvs.map (·.1)->(∀x∈xs,dZ K H x.2.1 x.1)->aK K H (kvs.map fun x=>QB x.1) (xs.map fun x=>V.ref x.2.1)
 |[],[],_,_=>by rw[KP,KP];exact aK.nil
 |y::kvs,x::xs,h,k=>by
  rw[Jn,Jn]at h
  injection h with e1 e2
  rw[Jn,Jn]
  exact aK.cons (by rw[<-e1];exact xQ (k x (by simp))) (oq e2 fun z a=>k z (by simp[a]))
 |[],_::_,h,_=>by cases h
 |_::_,[],h,_=>by cases h
theorem zy(f:X.calm=MC):dO X (.type "list") Eh:=by
 intro MR s σ H vs us Q I d g;obtain⟨h,M,R,e,a,q,b⟩:=g;rcases q with q|⟨l,kvs,i,j,q⟩
 ·exact Au MR s σ H vs us Q I d ⟨h,M,R,e,a,q,b⟩
 ·subst i;obtain⟨v,rfl,r⟩:=cA e;rw[Rep]at r;subst r;obtain⟨xs,k,m,n,o⟩:=a.dsp j;exact qo f MR s σ H _ us Q I d ⟨_,xs,rfl,k _ _,fun z c=>b (.ref z) _ _ _ (.new c) (by rw[Rep]) (a.nt c (oq m n)) (q z (a.fresh c))⟩
end
def O9(t b X Y:Int)(u:Vc):D:=NF (MX t b X 1 u.1) (MX t b Y 1 u.2)
def gk(t b X Y:Int)(u:Vc):N4:=((MX t b X 1 u.1).num,((MX t b X 1 u.1).den:Int),(MX t b Y 1 u.2).num,((MX t b Y 1 u.2).den:Int))
theorem y9(t b X Y:Int)(u:Vc):O9 t b X Y u=QB (gk t b X Y u):=rfl
theorem zC{t b X Y:Int}(a:0<t)(c:0<b){p q:Vc}(h:gk t b X Y p=gk t b X Y q):p=q:=by unfold gk at h;injection h with d h;injection h with e h;injection h with f g;have e1:MX t b X 1 p.1=MX t b X 1 q.1:=Rat.ext d (by exact_mod_cast e);have e2:MX t b Y 1 p.2=MX t b Y 1 q.2:=Rat.ext f (by exact_mod_cast g);have i:=(NC a c ⋯ ⋯).mp e1;have j:=(NC a c ⋯ ⋯).mp e2;exact Prod.ext () ()
def OB(u:Vc):Prop:=(0<=u.1/\u.1<=20)/\(0<=u.2/\u.2<=20)
theorem Fh{ps:List Vc}{u:Vc}{j:Nat}(h:ps.Pairwise OF)(m:j<=ps.length)(f:∀i,i<j->OF (p0 ps i) u)(g:∀i,j<=i->i<ps.length->OF u (p0 ps i)):(gD ps j u).Pairwise OF/\(gD ps j u).Perm (u::ps):=by
 constructor
 ·unfold gD;rw[List.pairwise_append]
  have lt:∀x∈ps.take j,OF x u:=fun x b=>by
   obtain⟨i,c,rfl⟩:=List.getElem_of_mem b
   have a:i<j/\i<ps.length:=by rw[LC]at c;omega
   have:=f i a.1
   unfold p0 at this
   simpa[a.2]using this
  have e:∀x∈ps.drop j,OF u x:=fun x b=>by
   obtain⟨i,c,rfl⟩:=List.getElem_of_mem b
   have a:j+i<ps.length:=by rw[List.length_drop]at c;omega
   have:=g (j+i) () a
   unfold p0 at this
   simpa[a]using this
  refine⟨h.sublist (List.take_sublist _ _),List.pairwise_cons.mpr ⟨e,h.sublist (List.drop_sublist _ _)⟩,fun x b y d=>?_⟩;rcases JI.mp d with rfl|d
  ·exact lt x b
  ·have k:=lt x b;have l:=e y d;unfold OF at k l ⊢;omega
 ·unfold gD;have:(ps.take j++u::ps.drop j).Perm (u::(ps.take j++ps.drop j)):=List.perm_middle
  rwa [List.take_append_drop]at this
theorem xv{t b X Y:Int}(a:0<t)(c:0<b){u v:Vc}(d:OB u)(e:OB v):MZ (MX t b X 1 u.1) (MX t b Y 1 u.2) (MX t b X 1 v.1) (MX t b Y 1 v.2)↔OF u v:=mw a c d.2 e.2
theorem OB.bx{t b X Y:Int}(S:OG t b X Y){u:Vc}(h:OB u):MY 200 (MX t b X 1 u.1):=S.bx ⋯ (by have:=h.1;omega)
theorem OB.by'{t b X Y:Int}(S:OG t b X Y){u:Vc}(h:OB u):MY 200 (MX t b Y 1 u.2):=S.by' ⋯ (by have:=h.2;omega)
theorem Bo{u v:Vc}(a:OB u)(b:OB v)(ne:u≠v)(h:¬OF u v):OF v u:=by
 have c:=a.2;have d:=b.2;unfold OF at h ⊢;by_cases e:100*u.1+u.2=100*v.1+v.2
 ·exact absurd (Prod.ext () ()) ne
 ·omega
section
variable{X:Cx}{MR:pa}{σ:L2.St}{H:Hp}{s:J5}{a b:n_}{k:N4}
theorem Aj{A:Kn}{E:J3->J5->Prop}{Q:Unit->J5->Prop}{xs:List Nu}{v:V}{u:J3}(G:A.units+8<Ku)(I:L2.Inv X MR σ H s)(e:H a=MA (.ext (cT X.prog X.w a xs)))(i:∀x∈xs,dZ X.K H x.2.1 x.1)(j:dZ X.K H b k)(f:RelV v u)(J:xs.length<Jv)
 (h:∀g,L2.Inv X MR σ (upd H a (.ext (cT X.prog X.w a (ik xs k b v)))) g->Q .unit g):Js (JF X.prog X.w) A (dictSet a (.ref b) u) Q E s:=by
 obtain⟨hd,l,L,r,m⟩:=tK I e i
 refine wpAny_dictSet_heap (knd:=fJ X.prog X.w) (hsz:=by rw[<-pF r];exact l) (():A.units+4<Ku) (u9 I j) m fun M c n=>h _ ?_
 obtain⟨q,o,p,d,t,z,B,_,C⟩:=c
 refine ly I (by rw[e];exact Mu) n ⟨q,d⟩ ⟨⟨hd,?_,?_,_,kX r k b f,q,o,p,d,t,z,B⟩,⟨q,d⟩,fun D F x y=>pW D F x y⟩
 ·have:=rB xs k b v;omega
 ·rw[<-mR (kX r k b f)];exact C
end
theorem sD{prog:JL}{w:Kg}{A:Kn}{R:Result->J5->Prop}{s:J5}{g i a b:o_}{d:qb}{scope:LY}{pos:Pos}{it:J3}{D:n_}{env:Env}(J:Nat->J5->Prop)
 (step:∀n s,J n s->Js (JF prog w) A (pyNext it) (fun r j=>match r with
  |none=>R (.ok .next) j
  |some v=>Js (JF prog w) A (Lv a it v) (fun _ l=>Js (JF prog w) A (Mp a env v) (fun _ o=>
   Js (JF prog w) A (forIn d MC fun c r=>if r=MC then do let ok <-isTrue c env (eval c env);pure (LR ok)else pure (LR r)) (fun ok k=>
    if ok=MC then Js (JF prog w) A (eval g env) (fun p q=>Js (JF prog w) A (eval i env) (fun t u=>Js (JF prog w) A (dictSet D p t) (fun _ y=>∃m,m<n/\J m y) Nc u) Nc q) Nc k
    else ∃m,m<n/\J m k) Nc o) Nc l) Nc j) Nc s)
 (n:Nat) (h:J n s):LM (JF prog w) A (.compLoop (.DictComp g i [⟨a,b,d,0⟩] scope pos) 0 it (.ref D) env) R s:=by
 have f:∀{E:J3->J5->Prop} e B,Nc e B->E e B:=fun _ _ z=>z.elim
 refine codeAny_loop rfl J (fun n s G=>?_) n h
 show Js _ _ (Sem.onRaise (compTurn (.DictComp g i [⟨a,b,d,0⟩] scope pos) 0 it (.ref D) env) (fun x=>do noteFrame x env;theTreesLotGoes x)) _ _ s
 refine wpAny_noted ?_
 rw[compTurn_dict]
 refine cc (Lc (cc (JB (step n s G) (fun r j C=>?_) f)))
 cases r with
 |none=>exact J7 C
 |some v=>
  refine cc (JB C (fun _ l H=>cc (JB H (fun _ o I=>cc (JB I (fun ok k F=>?_) f)) f)) f)
  cases ok with
  |false=>exact J7 ⟨rfl,F⟩
  |true=>exact cc (cc (JB F (fun p q K=>cc (KC (JB K (fun t u L=>cc (Lc (KC (JB L (fun _ y M=>J7 ⟨rfl,M⟩) f)))) f))) f))
def xR(X:Cx)(js:pe)(own:Own)(tc:TT)(tk te:TE)(σ:L2.St)(J:It)(H1:Hp)(Q:VK):Prop:=∀D,H1 D=MB->∃W:Nat->Nat->Hp->Prop,(∃m,W 0 m (upd H1 D (.ext (cT X.prog X.w D []))))/\∀i m H,W i m H->
 (J.stop i H/\Q (.ref D) H)\/(J.go i H/\∀y d,J.yld i H y d->∃os,own y d os/\tc (cσ os js σ) d fun b e=>if b=MC then
  tk (cσ os js σ) e fun f g=>te (cσ os js σ) g fun v c=>∃b k xs,f=.ref b/\c D=MA (.ext (cT X.prog X.w D xs))/\(∀x∈xs,dZ X.K c x.2.1 x.1)/\dZ X.K c b k/\xs.length<Jv/\∃a,a<m/\W (i+1) a (upd c D (.ext (cT X.prog X.w D (ik xs k b v))))else ∃a,a<m/\W (i+1) a e)
def uX(X:Cx)(js:pe)(own:Own)(a:TI)(tc:TT)(tk te:TE):TE:=fun σ H Q=>a σ H fun J H1=>xR X js own tc tk te σ J H1 Q
section
variable{X:Cx}{xs:ra}{tg:o_}{pos:Pos}{js:pe}{scope:LY}{kx vx iter:o_}{ifs:qb}{tk te:TE}{tc:TT}{g:TG}{own:Own}{wi:TI}{MR:pa}{σ:L2.St}{H:Hp}{s:J5}{fp:q_}{it:n_}{tn:Nat->oT->Prop}{J:It}
theorem wj(c:NK X xs js scope)(hc:X.calm=MC)(hG:OZ xs.length g own)(hg:∀C s H fp,PG (NV X xs js scope C s H fp) tg g)(ht:∀C s H fp,Rl (NV X xs js scope C s H fp) ifs tc)(hk:∀C s H fp,PE (NV X xs js scope C s H fp) kx tk)(he:∀C s H fp,PE (NV X xs js scope C s H fp) vx te)(hu:X.A.units+8<Ku)
 {R:J3->n_->Result->J5->Prop} {E:J3->J5->Prop} {Q:VK}
 (I:Inv X MR σ H s) (T:Turn X.prog X.w X.K tg J fp it tn) (st:tn 0 s.heap) (hf:∀b∈fp,dn X MR H b) (wc:xR X js own tc tk te σ J H Q)
 (hR:∀D C h G,Inv X MR σ h G->dn X MR h C->(∃m,G.heap.Ns C m)->Q (.ref D) h->R (.ref D) C (.ok .next) G) :
 Js (JF X.prog X.w) X.A newDict (fun d0 e0=>Js (JF X.prog X.w) X.A (newFunctionEnv scope X.env.globals (fy scope.names X.env) [] X.env.qual MB .none (MA X.env)) (fun N f0=>
  LM (JF X.prog X.w) X.A (.compStart (.DictComp kx vx [⟨tg,iter,ifs,0⟩] scope pos) 0 (.ref it) d0 { N with scope:=relabel scope X.env }) (R d0 N.locals) f0) E e0) E s:=by
 have g0:∀b∈fp,b<s.z:=fun b a=>let⟨o,e,_⟩:=T.obj 0 _ st b a;Jz e
 have hD:H s.z=MB:=I.hok.fresh (J9 _)
 refine K7 (pZ ?_)
 generalize hh:s.heap.push { cls:=.type "dict",data:=.dict #[] }=f
 generalize h0:pushCells (({ s with heap:=f }:J5).heap.push { cls:=.type "dict",data:=.dict #[] }) scope.names=j
 have k3:∀b o,s.heap.get? b=MA o->f.get? b=MA o:=fun b o e=>by rw[<-hh];exact Jo _ e
 have I3:Inv X MR σ (upd H s.z (.ext (cT X.prog X.w s.z []))) { s with heap:=f }:=by
  rw[<-hh];exact uh I
 have l:∀b∈fp,dn X MR (upd H s.z (.ext (cT X.prog X.w s.z []))) b:=fun b a=>⟨by rw[bo (K5 (g0 b a))];exact(hf b a).1,(hf b a).2⟩
 have s0:f.objs.size=s.z+1:=by rw[<-hh,KY]
 have i0:∀b∈fp,b<f.objs.size:=fun b a=>by rw[s0];exact Nat.lt_succ_of_lt (g0 b a)
 have k4:∀b o,f.get? b=MA o->j.get? b=MA o:=fun b o e=>by rw[<-h0];exact pushCells_keeps _ _ b o (Jo _ e)
 have I4:=mF c I3 l i0 (h':=j) h0.symm k4
 obtain⟨W,⟨m0,w0⟩,k0⟩:=wc _ hD
 have Pn:tn 0 j:=T.keep 0 _ _ st fun b a o e=>k4 b o (k3 b o e)
 generalize hX:NV X xs js scope f.objs.size { s with heap:=f } (upd H s.z (.ext (cT X.prog X.w s.z []))) fp=X' at I4
 have S:∀{pins':pa} {h:Hp} {L:L2.St} {G:J5},Inv X' [] L h G->(∀b∈fp,h b=MB)->∀b∈fp,dn X' [] h b:=fun{pins' h L G} J' hn b a=>by
  subst hX
  obtain⟨a1,a2⟩:=J'.ok.exf b a
  exact⟨hn b a,a1,J'.ok.exfs b a,.inl a,a2,fun p hp=>absurd (show p∈([]:pa)from hp) (by simp)⟩
 have O:LM (JF X.prog X.w) X.A (.compLoop (.DictComp kx vx [⟨tg,iter,ifs,0⟩] scope pos) 0 (.ref it) (.ref s.z) (kJ scope f.objs.size X.env)) (R (.ref s.z) f.objs.size)
  { s with heap:=j }:=by
  refine sD (fun n G=>∃i os h,os.length=xs.length/\Inv X' [] (cσ os js σ) h G/\tn i G.heap/\(∀b∈fp,h b=MB)/\W i n h) ?_ m0 ⟨0,_,_,by simp,I4,Pn,fun b a=>(l b a).1,w0⟩
  rintro n s5 ⟨i,os,H5,t0,I5,Ol,l0,w5⟩
  rcases k0 i n H5 w5 with⟨stop,q⟩|⟨go,step⟩
  ·subst hX
   refine JB (T.done (NV X xs js scope f.objs.size { s with heap:=f } (upd H s.z (.ext (cT X.prog X.w s.z []))) fp) rfl rfl rfl hc i [] s5 _ H5 Nc I5 (S (pins':=[]) I5 l0) Ol stop) (fun r s6 U=>?_) fun _ _ z=>z
   obtain⟨hr,I6⟩:=U
   subst hr
   refine hR _ _ H5 s6 (I3.xD I6.os I6.base I6.hok I6.bare fun b a=>⟨(l b a).2.2.2.1,(l b a).2.1,(l b a).2.2.2.2.1,(l b a).2.2.2.2.2⟩) (I3.qg (J9 _) I6.free) (let⟨m,hm,_⟩:=I6.loc;⟨m,hm⟩) q
  ·subst hX
   refine JB (T.item (NV X xs js scope f.objs.size { s with heap:=f } (upd H s.z (.ext (cT X.prog X.w s.z []))) fp) rfl rfl rfl hc i [] s5 _ H5 Nc I5 (S (pins':=[]) I5 l0) Ol go) (fun r s6 V=>?_) fun _ _ z=>z
   obtain⟨u,hr,h6⟩:=V
   subst hr
   refine JB h6 (fun _ s7 Y=>?_) fun _ _ z=>z
   obtain⟨y,H7,I7,r7,y7,Ot,u0⟩:=Y
   have v0:=I7.pinned (S (pins':=[]) I7 u0) (T.obj _ _ Ot)
   obtain⟨M,n0,q8⟩:=step y H7 y7
   have l8:=hG.len _ _ _ n0
   refine JB (hg _ _ _ _ _ s7 _ H7 y u (fun L h=>L=cσ M js σ/\h=H7) v0 r7 (hG.run y H7 os _ M _ t0 n0 ⟨rfl,rfl⟩)) (fun _ s8 Z=>?_) fun _ _ z=>z
   obtain⟨i1,H8,I8,e8,x0⟩:=Z
   subst e8 x0
   refine JB (ht _ _ _ _ _ s8 _ _ _ I8 q8) (fun ok s9 a0=>?_) fun _ _ z=>z
   obtain⟨H9,I9,q9⟩:=a0
   have P:∀{m':Nat} {x:Hp} {t:J5},Inv (NV X xs js scope f.objs.size { s with heap:=f } (upd H s.z (.ext (cT X.prog X.w s.z []))) fp) ([]++gQ fp s7.heap) (cσ M js σ) x t->m'<n->W (i+1) m' x->
    ∃m,m<n/\∃i os h,os.length=xs.length/\Inv (NV X xs js scope f.objs.size { s with heap:=f } (upd H s.z (.ext (cT X.prog X.w s.z []))) fp) [] (cσ os js σ) h t/\tn i t.heap/\(∀b∈fp,h b=MB)/\W i m h:=fun{m' x t} B F y0=>by
    refine⟨m',F,i+1,M,x,l8,B.eJ,T.keep _ _ _ Ot fun b a o e=>(B.pin (b,o) (Jw _ (Jw _ (b6 a e)))).1,fun b a=>?_,y0⟩
    obtain⟨o',e,d⟩:=T.obj _ _ Ot b a
    exact(B.pin (b,o') (Jw _ (Jw _ (b6 a e)))).2.1
   cases ok with
   |false=>
    rw[ME JD]at q9 ⊢
    obtain⟨m',F,w9⟩:=q9
    exact P I9 F w9
   |true=>
    rw[MI rfl]at q9 ⊢
    refine JB (hk _ _ _ _ _ s9 _ _ _ I9 q9) (fun kv t b0=>?_) fun _ _ z=>z
    obtain⟨kk,x,B,z0,b1⟩:=b0
    refine JB (he _ _ _ _ _ t _ _ _ B b1) (fun v j1 c0=>?_) fun _ _ z=>z
    obtain⟨vv,k1,c1,d1,b,k,ys,ek,o0,e1,f1,r0,m',F,g1⟩:=c0
    subst ek
    cases z0
    exact Aj (X:=NV X xs js scope f.objs.size { s with heap:=f } (upd H s.z (.ext (cT X.prog X.w s.z []))) fp) hu c1 o0 e1 f1 d1 r0 fun m1 h1=>P h1 F g1
 exact codeAny_compStart_dict O (T.self X.A 0 _ _ _ Pn O)
theorem xX{i:Nat}{y:Str}{l j:Pos}(c:NK X xs js scope)(F:X.calm=MC)(G:X.N.Nodup)(K:PI X tg iter wi)(L:OZ xs.length g own)(M:∀C s H fp,PG (NV X xs js scope C s H fp) tg g)(O:∀C s H fp,Rl (NV X xs js scope C s H fp) ifs tc)(P:∀C s H fp,PE (NV X xs js scope C s H fp) kx tk)(S:∀C s H fp,PE (NV X xs js scope C s H fp) vx te)(U:X.A.units+8<Ku)(V:X.N[i]?=MA y)(E:X.env.scope.names.lookup y=MA .local)
 (p:Mo (.DictComp kx vx [⟨tg,iter,ifs,0⟩] scope pos) (MA (.Name y l)) j.line X.env=pure MC) (W:∀x,JZ iter X.env x=pure x:=by intro _;rfl) :
 PS X (.Assign [.Name y l] (.DictComp kx vx [⟨tg,iter,ifs,0⟩] scope pos) j) (AI (uX X js own wi tc tk te) (gv i)):=by
 intro MR s σ H B I h
 rw[exec_Assign_Name_used _ _ _ _ p]
 refine cc (Lc (cc ?_))
 show Js _ X.A (do let _ <-comprehension (.DictComp kx vx [⟨tg,iter,ifs,0⟩] scope pos) scope X.env _ newDict MD (eval iter X.env) (MA (Mp (.Name y l) X.env))) _ _ s
 refine cc (JB (wpAny_comprehension_free (use:=MA (Mp (.Name y l) X.env)) (Q:=fun _ n=>SP X MR B .next n) rfl W (c.A3 I.ok) c.kind c.names
  (NO (K MR s σ H _ I h) fun v s1 Y=>NO Y fun Z s2 z9=>?_)) (fun _ n hq=>J7 (J7 hq)) fun _ _ e=>e)
 obtain⟨it,fp,tn,J,H2,e,I2,T,st,f2,w⟩:=z9
 subst e
 refine wj (R:=fun r C=>compPost (JF X.prog X.w) X.A X.xe (MA (Mp (.Name y l) X.env)) (fun _ n=>SP X MR B .next n) r C) c F L M O P S U I2 T st f2 w fun D C H' n I' k d q=>?_
 obtain⟨m,hm⟩:=d
 show Js _ X.A (Mp (.Name y l) X.env (.ref D)) _ _ _
 refine wpAny_assign_Name (jH I' G V (.inl E) (v:=.ref D) rfl (fun s9 I9 f=>?_) (.inr E))
 obtain⟨a,sb,ha⟩:=f
 have t:C≠a:=by
  rcases ha with z|z
  ·rw[z];exact k.2.1
  ·exact fun e=>k.2.2.2.2.1 y a z e.symm
 refine⟨m,hm.sameBut sb t,fun h' u=>?_⟩
 exact⟨_,H',I9.turned (t':=s9.toks) (fun b o ne e=>u.extBut b o ne e) k.1 k.2.1 k.2.2.2.1 k.2.2.2.2.1 k.2.2.2.2.2,q⟩
end
def El(I:Qu)(tk:Py)(js:pe)(tc:Nh)(g te:TD)(δ:DS)(a:MH)(Q:DK):Prop:=I.n<=900000/\∀p,a p=MB->∃W:Nat->OA->MH->Prop,W 0 [] (az a p (OU []))/\(∀i kvs M,i<=I.n->W i kvs M->I.C M)/\
 (∀i kvs d M,i<I.n->I.item i=MA d->W i kvs M->∃os,zo tk d os/\tc (cδ os js δ) M fun b c=>if b=MC then g (cδ os js δ) c fun y h=>te (cδ os js δ) h fun e f=>∃k,y=QB k/\f p=MA (OU kvs)/\kvs.length<=i/\W (i+1) (putD kvs k e) (az f p (OU (putD kvs k e)))else W (i+1) kvs c)/\∀kvs M,W I.n kvs M->Q (.ref p) M
def pA(a:OV)(tk:Py)(js:pe)(tc:Nh)(b te:TD):TD:=fun δ M Q=>a δ M fun I c=>El I tk js tc b te δ c Q
section
variable{X:Cx}
theorem tO{G:OV}{tk:Py}{js:pe}{tc:Nh}{L te:TD}{σ:L2.St}{H:Hp}{Q:VK}(h:lift X.K (pA G tk js tc L te) σ H Q):uX X js (rC X.K tk) (mv X.K G) (liftT X.K tc) (lift X.K L) (lift X.K te) σ H Q:=by
 obtain⟨δ,M,R,N,hM,q,x⟩:=h;refine⟨δ,M,_,N,hM,q,fun I M1 H1 J O P z A p B=>?_⟩;obtain⟨hn,z⟩:=z;obtain⟨W,w0,hC,l,done⟩:=z p (P.fresh B);refine⟨fun i m g=>m=I.n-i/\i<=I.n/\NN X.K H1 g/\∃kvs M,NW X.K g M/\W i kvs M,⟨I.n,by simp,Kj _,.new B,[],_,P.Ck _ _ B,w0⟩,?_⟩;rintro i m g ⟨rfl,C,f,kvs,j,r,o⟩;by_cases a:i<I.n
 ·refine .inr ⟨A.go i g j a f r (hC _ _ _ C o),fun v H3 hy=>?_⟩;obtain⟨D,a3,d,ed,rd⟩:=A.yld i g j v H3 a f r (hC _ _ _ C o) hy;obtain⟨os,ow,q3⟩:=l i kvs d j a ed o;obtain⟨us,uv,su⟩:=qX rd ow;have E:=k8 (js:=js) (N.mono ((O.trans f).trans D)) su;refine⟨us,uv,cδ os js δ,j,_,E,a3,q3,fun b S H4 s T t=>?_⟩;cases b with
  |false=>
   rw[ME JD]at t ⊢
   exact⟨I.n-(i+1),(),rfl,a,(f.trans D).trans s,kvs,S,T,t⟩
  |true=>
   rw[MI rfl]at t ⊢
   refine⟨cδ os js δ,S,_,E.mono s,T,t,fun y M5 u H5 U r5 a5 q5=>⟨cδ os js δ,M5,_,(E.mono s).mono U,a5,q5,fun e M6 u6 V Y r6 Z c=>?_⟩⟩
   obtain⟨k,ey,e6,b0,w6⟩:=c
   subst ey
   obtain⟨b,rfl,sp⟩:=vL (r5.mono Y)
   obtain⟨xs,F,h2,h3,h4⟩:=Z.dsp e6
   have a0:xs.length=kvs.length:=by have:=congrArg List.length h2;simpa using this
   have sz:1000000<=Jv:=NL rfl
   have g7:NN X.K V (upd V p (.ext (cT X.prog X.w p (ik xs k b u6)))):=.ext (F X.prog X.w)
   exact⟨b,k,xs,rfl,F _ _,h3,sp,(),I.n-(i+1),(),rfl,a,((((f.trans D).trans s).trans U).trans Y).trans g7,putD kvs k e,_,Z.CU _ _ F h2 h4 h3 sp r6,w6⟩
 ·obtain rfl:i=I.n:=()
  exact .inl ⟨A.stop g j f r (hC _ _ _ C o),x _ _ _ _ (O.trans f) (by rw[Rep]) r (done kvs j o)⟩
variable{xs:ra}{tg:o_}{pos:Pos}{js:pe}{scope:LY}{kx vx iter:o_}{ifs:qb}{tx te:TD}{tc:Nh}{g:TG}{tk:Py}{wd:OV}
theorem zK(i:Nat){y:Str}{j e:Pos}(l:X.N.Nodup)(I:X.A.units+66<Ku)(c:NK X xs js scope)(m:X.calm=MC)(n:DI X tg iter wd)(o:OZ xs.length g (rC X.K tk))(p:∀C s H fp,PG (NV X xs js scope C s H fp) tg g)(r:∀C s H fp,DTs (NV X xs js scope C s H fp) ifs tc)(t:∀C s H fp,DE (NV X xs js scope C s H fp) kx tx)(u:∀C s H fp,DE (NV X xs js scope C s H fp) vx te) (w:X.N[i]?=MA y:=by rfl) (z:X.env.scope.names.lookup y=MA .local:=by rfl) (h:Mo (.DictComp kx vx [⟨tg,iter,ifs,0⟩] scope pos) (MA (.Name y j)) e.line X.env=pure MC:=by rfl) (f:∀x,JZ iter X.env x=pure x:=by intro _;rfl) : DSt X (.Assign [.Name y j] (.DictComp kx vx [⟨tg,iter,ifs,0⟩] scope pos) e) (eD (pA wd tk js tc tx te) (aR i)):=dh (xX (tk:=lift X.K tx) (te:=lift X.K te) (tc:=liftT X.K tc) c m l n o p r t u () w z h f) fun E σ H b=>by obtain⟨δ,M,f,a,B,ok,q⟩:=b;exact(tO ⟨δ,M,_,f,a,q,fun d J v H1 k D F G=>ok.nx _ _ _ _ k ((f.mono k).set D i) F G⟩)
theorem wG(i:Nat){x v:Str}{b e a:Pos}(f:X.N.Nodup)(h:X.A.units+66<Ku)(c:NK X [x] js scope)(j:X.calm=MC)(k:DI X (.Name x b) iter wd)(l:∀C s H fp,DTs (NV X [x] js scope C s H fp) ifs tc)(m:∀C s H fp,DE (NV X [x] js scope C s H fp) kx tx)(n:∀C s H fp,DE (NV X [x] js scope C s H fp) vx te) (o:X.N[i]?=MA v:=by rfl) (p:X.env.scope.names.lookup v=MA .local:=by rfl) (d:Mo (.DictComp kx vx [⟨.Name x b,iter,ifs,0⟩] scope pos) (MA (.Name v e)) a.line X.env=pure MC:=by rfl) (q:∀x,JZ iter X.env x=pure x:=by intro _;rfl) : DSt X (.Assign [.Name v e] (.DictComp kx vx [⟨.Name x b,iter,ifs,0⟩] scope pos) a) (eD (pA wd .one js tc tx te) (aR i)):=zK i f h c j k sY (fun _ _ _ _=>iV c 0 rfl) l m n o p d q
end
section
variable{X:Cx}
def Cc:Nl:=fun x y M Q=>match x,y with
 |.ref a,.int k=>∃d,M a=MA (.lst [d])/\0<=k/\k<=1000/\∀z,M z=MB->Q (.ref z) (az M z (.lst (JJ k.toNat d)))
 |_,_=>False
theorem rq{K:J1}{H:Hp}{d:D}{v:V}(r:Rep K H d v):∀n,aK K H (JJ n d) (JJ n v)
 |0=>by rw[List.replicate_zero,List.replicate_zero];exact .nil
 |n+1=>by rw[L7,L7];exact .cons r (rq r n)
theorem p5{a:Type}(v:a):∀n,(JJ n [v]).flatten=JJ n v
 |0=>rfl
 |n+1=>by rw[L7,Lr,p5 v n];rfl
theorem uT:Nn X (LB .Mult) Cc:=iM E3 fun v u H Q f=>by
 obtain⟨x,y,M,R,g,h,a,q,b⟩:=f;unfold Cc at q;split at q
 ·obtain⟨d,hd,k,l,q⟩:=q;obtain rfl:v=.ref _:=g;obtain rfl:u=.int _:=h;obtain⟨xs,i,j⟩:=a _ _ hd;obtain⟨w,rfl,c⟩:=cA j;have sz:1000000<=Jv:=NL rfl;refine⟨_,_,_,rfl,rfl,i,(),(),by simp;omega,fun z e=>?_⟩;rw[p5];exact b _ _ _ _ (.new e) (by rw[Rep]) (a.nt e (rq c _)) (q z (a.fresh e))
 ·exact q.elim
end
section
theorem lX(a u:J3):checkTypeCall "enumerate" ⟨[a],[("start",u)]⟩=pure .unit:=by kernel_rfl
theorem nA(a u:J3):checkBuiltinCall "enumerate.__new__" ⟨[.type "enumerate",a],[("start",u)]⟩=pure .unit:=by kernel_rfl
theorem rV(a b u:J3):argsOk "object.__init__" ⟨[a,b],[("start",u)]⟩:=by unfold argsOk;rw[PySem.signature?_of (id:="object.__init__") (n:=['_','_','t','i','n','i','_','_']) (o:=['t','c','e','j','b','o']) (by kernel_rfl) F.owner_object];kernel_rfl
def l5(l it:n_):Obj×Obj:=({ cls:=.type "list_iterator",data:=.fields #[.ref l,.int 0 0] },{ cls:=.type "enumerate",data:=.fields #[.none,.bool MD,.ref it,rawInt 1,.none,.none] })
variable{prog:JL}{w:Kg}{A:Kn}{E:J3->J5->Prop}{s:J5}{l:n_}{items:Array J3}{n:Nat}{t:Tok}{Q:J3->J5->Prop}
theorem vQ(a:s.heap.get? l=MA { cls:=.type "list",dict:=MB,data:=.seq items n,slots:=#[] })
 (h:Q (.ref (s.heap.push (l5 l 0).1).objs.size) { s with heap:=(s.heap.push (l5 l 0).1).push (l5 l s.z).2 }) :
 Js (JF prog w) A (Mx.«enumerate.__new__» ⟨[.type "enumerate",.ref l],[("start",.int 1 t)]⟩) (fun fin b=>∃v,fin=.done (.ret v)/\Q v b) E s:=by
 obtain⟨e,g,d,f,os⟩:=s
 have e1:=sub_enumerate
 have e2:Heap.IsList (Shared.heap ⟨e,g,d,f,os⟩) l items:=⟨_,a,rfl,n,rfl⟩
 wp_walk using AutoSeq1.wpAny_loadPart' a
 refine wpAny_stack_any fun st=>J7 ?_
 split
 case h_1 c _ _ _ _ _=>cases (c==Value.type "enumerate")<;>(wp_walk using AutoSeq1.wpAny_loadPart' a,Ml e2;exact⟨_,rfl,h⟩)
 all_goals (wp_walk using AutoSeq1.wpAny_loadPart' a,Ml e2;exact⟨_,rfl,h⟩)
theorem tP:Meets (Mx.«enumerate.__new__» ⟨[.type "enumerate",.ref l],[("start",.int 1 t)]⟩) (fun _ R s=>s.heap.get? l=MA { cls:=.type "list",dict:=MB,data:=.seq items n,slots:=#[] }/\R (.ok (.ret (.ref (s.heap.push (l5 l 0).1).objs.size))) { s with heap:=(s.heap.push (l5 l 0).1).push (l5 l s.z).2 }):=.of_wp fun prog w A R s z=>vQ (Q:=fun v a=>R (.ok (.ret v)) a) z.1 z.2
theorem p8{e:J3}{u:J3}:Meets (Mx.«object.__init__» ⟨[e,.ref l],[("start",u)]⟩) (fun _ R s=>s.TypeIs e "enumerate"/\R (.ok (.ret .none)) s):=
 .of_wp fun prog w A R s a=>by
  obtain⟨ty,r⟩:=a
  have e1:=F.called_enumerate.init.lookup
  have e2:=F.called_enumerate.made
  repeat (any_goals (first|assumption|wp_step))
  exact⟨_,rfl,r⟩
theorem rT(p:s.heap.get? l=MA { cls:=.type "list",dict:=MB,data:=.seq items n,slots:=#[] })
 (h:∀h',IsEnum h' (s.z+1) s.z 1 .none->h'.IsListIter s.z l 0->(∀b o,s.heap.get? b=MA o->h'.get? b=MA o)->Q (.ref (s.z+1)) { s with heap:=h' }) :
 Js (JF prog w) A (call (.type "enumerate") [.ref l] [("start",.int 1 t)]) Q E s:=by
 have C:=F.called_enumerate
 obtain⟨c,u,x⟩:=C.mro
 have y:=C.made
 have B:=C.sub
 have D:=C.notType
 have G:=C.canCreate
 have H:=lX (.ref l) (.int 1 t)
 refine wpAny_call (codeAny_of_tree (J7 ⟨Code.quiet_builtin _ (by decide +kernel),Ly F.entry_type_call ?_⟩))
 rw[Around.under_plain rfl rfl]
 repeat (any_goals (first|assumption|wp_step))
 have j:(s.heap.push (l5 l 0).1).objs.size=s.z+1:=KY ..
 have k:IsEnum ((s.heap.push (l5 l 0).1).push (l5 l s.z).2) (s.z+1) s.z 1 .none:=by
  have:=Jy (s.heap.push (l5 l 0).1) (o:=(l5 l s.z).2) rfl
  rw[j]at this;exact this
 have q:=h _ k ⟨_,Jo _ (Jy _ rfl),rfl,rfl⟩ fun b o z=>Jo _ (Jo _ z)
 refine codeAny_mono (codeAny_call_builtin C.plain F.entry_enumerate_new (wpAny_of_eq (nA _ _) (tP prog w A.in1 (wants (fun v m=>v=.ref (s.z+1)/\m.TypeIs v "enumerate"/\Q v m) E) s ⟨p,by rw[j];exact⟨rfl,⟨_,k,rfl⟩,q⟩⟩))) fun r f i=>?_
 match r,i with
 |.error e,i=>exact i
 |.ok (.ret v),⟨ev,ty,qv⟩=>
  have I:=C.init.lookup
  have J:=C.init.bind v
  repeat (any_goals (first|assumption|wp_step))
  refine codeAny_mono (codeAny_call_builtin C.init.plain F.entry_object_init (C.init.check _ _ _ _ _ _ _ _ ty (rV _ _ _) (p8 prog w A.in1 (wants (fun r d=>r=.none/\Q v d) E) f ⟨ty,rfl,qv⟩))) fun g d a=>?_
  match g,a with
  |.error e,a=>exact a
  |.ok (.ret r),⟨er,q2⟩=>
   subst er
   repeat (any_goals (first|assumption|wp_step))
end
section
variable{X:Cx}{elts:qb}{kt:Nat}{pt:Pos}
theorem lT{pos kp:Pos}{T:String}{e k:o_}{name:Str}{env:Env}{M:Model}{A:Kn}{E:J3->J5->Prop}{s:J5}{Q:J3->J5->Prop}
 (h:Js M A (spliced (L5 pos (JC [e] env))) (fun vs b=>Js M A (eval k env) (fun u c=>Js M A (call (.type T) vs [(name,u)]) Q E c) E b) E s)
 (i:L5 pos (JC [e] env)=(MD,eval e env)::L5 pos (JC [] env):=by rfl) (g:(L5 pos (JC [e] env)).any (·.1)=MD:=by rfl) :
 Js M A (callWith pos (.type T) [] (L5 pos (JC [e] env)) (backToKw pos (LW [⟨MA name,k,kp⟩] env))) Q E s:=by
 have j:Js M A (evalArgs (.type T) MC (L5 pos (JC [e] env)) (backToKw pos (LW [⟨MA name,k,kp⟩] env))) (fun a b=>Js M A (call (.type T) a.pos a.kw) Q E b) E s:=by
  rw[i]at h ⊢
  refine evalArgs_kwB rfl (JB h (fun vs b d=>?_) fun _ _ z=>z)
  exact kws_cons (JB d (fun u c f=>kws_nil f) fun _ _ z=>z)
 unfold callWith
 refine cc (KC (JB j (fun a b d=>cc (Lc ?_)) fun _ _ z=>z))
 have l:(backToKw pos (LW [⟨MA name,k,kp⟩] env)).any (·.1.isNone)=MD:=rfl
 simp only[g,l,Bool.or_false]
 exact cc (J7 (cc (JB d (fun r c m=>cc (KC (wpAny_point (J7 m)))) fun _ _ z=>z)))
def Ds(K:J1)(b:TA):TI:=fun σ H R=>b σ H fun vs H1=>∃a xs,vs=[.ref a]/\H1 a=MA (.lst xs)/\R (WI K 1 a) H1
theorem Ab{a k:o_}{j:TA}{p pos kp:Pos}(y:Gl X "enumerate")(B:X.mg "enumerate"=MB)(C:PA X [a] j)(g:∀MR s σ H (Q:VK),Inv X MR σ H s->Q (.int 1) H->Js (JF X.prog X.w) X.A (eval k X.env) (EP X MR σ Q) X.xe s)
 (m:JC [a] X.env=[(MD,eval a X.env)]:=by rfl):PI X (.Tuple elts kt pt) (.Call (.Name "enumerate" p) [a] [⟨MA "start",k,kp⟩] pos) (Ds X.K j):=by
 intro MR s σ H R I h
 refine wpAny_Call_Name_kw (iL I y B jk (lT (NO (C pos MR s σ H _ I h) fun us D ⟨vs,H1,E,F,G⟩=>?_) (by rw[m];rfl) (by rw[m];rfl)))
 obtain⟨l,xs,J,L,q⟩:=G
 subst J
 obtain⟨u,rfl,M⟩:=F.one
 cases M
 refine NO (g MR D σ H1 (fun v N=>v=.int 1/\N=H1) E ⟨rfl,rfl⟩) fun u c ⟨v,o,f,O,e1,e2⟩=>?_
 subst e1 e2
 obtain⟨t,rfl⟩:=O
 obtain⟨z,P,n,r,T,e⟩:=f.nD L
 refine rT e fun U x i g=>wpAny_pyIter_enum x ?_
 have fp:∀b∈[c.z+1,c.z],dn X MR o b:=fun b S=>by
  have d:c.z<=b:=by
   rcases(show b=c.z+1\/b=c.z by simpa using S)with rfl|rfl
   ·exact Nat.le_succ _
   ·exact J9 _
  exact f.qg d (f.hok.fresh d)
 exact⟨_,[c.z+1,c.z],_,_,o,rfl,f.kept (t':=c.toks) g,nQ 1 l _ _ (Nat.succ_ne_self _),⟨⟨_,x⟩,i⟩,fp,q⟩
def D5(c:Nb):OV:=fun δ M R=>c δ M fun e b=>∃l a,e=[.ref l]/\b l=MA (.lst a)/\R ⟨a.length,fun i=>(a[i]?).map fun d=>.tup [.int ((i+1:Nat):Int),d],fun M=>M l=MA (.lst a)⟩ b
theorem zP{a:o_}{d:Nb}{p pos kp g:Pos}{h}(i:Gl X "enumerate")(j:X.mg "enumerate"=MB)(k:DA X [a] d)(b:JC [a] X.env=[(MD,eval a X.env)]:=by rfl):DI X (.Tuple elts kt pt) (.Call (.Name "enumerate" p) [a] [⟨MA "start",.Constant (.int 1) h g,kp⟩] pos) (D5 d):=
 lR (Ab i j k (fun MR s σ H Q I q=>yY MR s σ H Q I q) b) fun σ H R m=>by
  obtain⟨δ,M,z,b,n,q,c⟩:=m
  exact⟨δ,M,_,b,n,q,fun A o vs H1 t u f ⟨l,B,e,w,x⟩=>by
   subst e
   obtain⟨v,rfl,r⟩:=cA u
   rw[Rep]at r;subst r
   obtain⟨xs,y,C⟩:=f _ _ w
   exact⟨l,xs,rfl,y,c _ o H1 _ t f x (vM 1)⟩⟩
end
section
variable{X:Cx}{MR:pa}{σ:L2.St}{H:Hp}{s:J5}
theorem kg{h':oT}{t':Nat}{ch:q_}(I:Inv X MR σ H s)(k:∀b o,b∉ch->s.heap.get? b=MA o->h'.get? b=MA o)(f:∀b∈ch,dn X MR H b):Inv X MR σ H { s with heap:=h',toks:=t' }:=by
 have ne:∀b u,H b=MA u->b∉ch:=fun b u q d=>by rw[(f b d).1]at q;cases q
 refine I.step (g':=s.gens) (d':=s.drawn) (ch:=ch) (fun b d=>?_) (fun b o _ _ a q _=>k b o a q) (fun b o _ _ a q _=>⟨o.slots,k b o a q⟩) (fun _ _ _ _ n=>n) (fun b o a q=>⟨o,k b o a q⟩) (fun _ _ q=>q) (fun _ _ _ q=>q) (fun b ps q=>⟨#[],by rw[q];simp⟩) (fun m e=>?_) (fun b u q=>?_) I.bare
 ·obtain⟨l,e1,_,e3,e4,g⟩:=f b d;exact⟨e3,e1,e4,g⟩
 ·obtain⟨o,h,i,j,r⟩:=e;exact⟨o,h,i,k _ o (fun d=>(f _ d).2.1 rfl) j,r⟩
 ·refine(I.hok b u q).iP (fun c v a z=>?_) (fun _ z=>z) fun _ _ z=>z;rcases a with y|y
  ·subst y;exact k _ v (ne _ u q) z
  ·exact k c v (ne c _ y) z
end
def YS(K:J1)(a b:n_):It:=
 ⟨fun i H=>∃xs c x y,NX K H a xs/\NX K H b c/\xs[i]?=MA x/\c[i]?=MA y,fun i H x d=>∃T y z,x=.ref T/\H T=MB/\d=upd H T (.tup [y,z])/\(∀xs,NX K H a xs->xs[i]?=MA y)/\∀c,NX K H b c->c[i]?=MA z,fun i H=>∃xs c,NX K H a xs/\NX K H b c/\(xs.length<=i\/c.length<=i)⟩
theorem xk{P:JL}{w:Kg}{K:J1}{N:qb}{kt}{pt:Pos}(a b z TI TO j l:n_)(D:ZipApart z TI TO j l a b):Turn P w K (.Tuple N kt pt) (YS K a b) [z,TI,TO,j,l] z (fun i h=>IsZip h z TI TO .none/\IsPair h TI (.ref j) (.ref l)/\(∃p q,IsPair h TO p q)/\h.IsListIter j a i/\h.IsListIter l b i) where
 mem:=by simp
 obj:=fun i h st c f=>by
  obtain⟨u,m,⟨p,q,A⟩,B,C⟩:=st
  rcases(show c=z\/c=TI\/c=TO\/c=j\/c=l by simpa using f)with rfl|rfl|rfl|rfl|rfl
  ·exact⟨_,u,fun v y=>by cases (show Data.fields _=Data.cell v from y)⟩
  ·exact⟨_,m,fun v y=>by cases (show Data.seq _ _=Data.cell v from y)⟩
  ·exact⟨_,A,fun v y=>by cases (show Data.seq _ _=Data.cell v from y)⟩
  ·obtain⟨o,F,_,d⟩:=B
   exact⟨o,F,fun v y=>by rw[d]at y;cases y⟩
  ·obtain⟨o,F,_,d⟩:=C
   exact⟨o,F,fun v y=>by rw[d]at y;cases y⟩
 keep:=fun i h O st k=>by
  obtain⟨u,m,⟨p,q,A⟩,B,C⟩:=st
  exact⟨k z (by simp) _ u,k TI (by simp) _ m,⟨p,q,k TO (by simp) _ A⟩,B.at fun o y=>k j (by simp) o y,C.at fun o y=>k l (by simp) o y⟩
 item:=by
  intro X W Y Z f i MR s σ H E I hf st hg
  subst W Y Z
  obtain⟨xs,ys,x,y,r,t,hx,hy⟩:=hg
  obtain⟨u,m,⟨p,q,A⟩,B,C⟩:=st
  obtain⟨Q,G,p1,a0⟩:=I.list r
  obtain⟨R,J,p2,b0⟩:=I.list t
  obtain⟨S,c0,d0⟩:=G.get hx
  obtain⟨T,e0,f0⟩:=J.get hy
  refine wpAny_pyNext_zip_item D u m A B C p1.isList p2.isList (x:=S) (y:=T) ‹c0› ‹e0› fun O a1 a2 a3 a4 a5 a6 a7=>⟨_,rfl,wpAny_letOwnedTupleGo_zip (s:={ s with heap:=O }) a1 fun L b1 U=>?_⟩
  have U:Mj z O L:=U
  have fr:=I.fresh
  have lt:∀c∈[z,TI,TO,j,l],c<s.z:=fun c f=>by
   rcases(show c=z\/c=TI\/c=TO\/c=j\/c=l by simpa using f)with rfl|rfl|rfl|rfl|rfl
   ·exact Jz u
   ·exact Jz m
   ·exact Jz A
   ·obtain⟨o,F,_⟩:=B;exact Jz F
   ·obtain⟨o,F,_⟩:=C;exact Jz F
  have I1:Inv X MR σ (upd H s.z (.tup [x,y])) { s with heap:=s.heap.push { cls:=.type "tuple",data:=.seq #[S,T] },toks:=s.toks }:=
   I.laid (fun b v q=>Jo _ q) (J9 _) ⟨NL rfl,[S,T],.cons d0 (.cons f0 .nil),⟨_,Jy _ rfl,rfl,_,rfl⟩,⟨_,Jy _ rfl,rfl⟩⟩
  have fk:∀c∈[z,TI,TO,j,l],dn X MR (upd H s.z (.tup [x,y])) c:=fun c f=>⟨by rw[bo (K5 (lt c f))];exact(hf c f).1,(hf c f).2⟩
  have I2:Inv X MR σ (upd H s.z (.tup [x,y])) { s with heap:=L,toks:=s.toks }:=by
   refine kg (ch:=[z,TO,j,l]) (s:={ s with heap:=s.heap.push { cls:=.type "tuple",data:=.seq #[S,T] },toks:=s.toks }) I1 (fun c o g q=>?_) fun c f=>fk c (by simp at f ⊢;rcases f with rfl|rfl|rfl|rfl<;>simp)
   have q:(s.heap.push { cls:=.type "tuple",data:=.seq #[S,T] }).get? c=MA o:=q
   simp at g
   refine(U.2 c g.1).trans ?_
   rcases Heap.get?_push_cases q with⟨rfl,rfl⟩|q
   ·exact a5
   ·exact a7 c o g.1 g.2.1 g.2.2.1 g.2.2.2 q
  have V:∀c o,c≠z->O.get? c=MA o->L.get? c=MA o:=fun c o n e=>(U.2 c n).trans e
  refine⟨.ref s.z,_,I2,rfl,⟨_,x,y,rfl,fr,rfl,fun zs M=>by rw[I.i8 M r];exact hx,fun zs M=>by rw[I.i8 M t];exact hy⟩,⟨b1,V _ _ D.TIz (a7 _ _ D.TIz D.TITO D.TIi1 D.TIi2 m),⟨_,_,V _ _ D.TOz a2⟩,a3.at fun o e=>V _ o D.i1z e,a4.at fun o e=>V _ o D.i2z e⟩,fun c f=>(fk c f).1⟩
 done:=by
  intro X W Y Z f i MR s σ H E I hf st hg
  subst W Y Z
  obtain⟨xs,ys,r,t,he⟩:=hg
  obtain⟨u,m,⟨p,q,A⟩,B,C⟩:=st
  obtain⟨Q,G,p1,a0⟩:=I.list r
  obtain⟨R,J,p2,b0⟩:=I.list t
  have l1:=G.length
  have l2:=J.length
  refine wpAny_pyNext_zip_end (I.ok.hd f) D u m A B C p1.isList p2.isList (he.imp (fun e=>by simp;omega) fun e=>by simp;omega) fun O k=>⟨rfl,?_⟩
  exact kg (t':=s.toks) (ch:=[z,TO,j,l]) I (fun c o g q=>by simp at g;exact k c o g.1 g.2.1 g.2.2.1 g.2.2.2 q) fun c f=>hf c (by simp at f ⊢;rcases f with rfl|rfl|rfl|rfl<;>simp)
 self:=fun _ _ _ _ _ st h=>wpAny_pyIter_zip st.1 h
theorem C1{n l1 l2:Nat}(a:l1<n)(b:l2<n):ZipApart (n+4) (n+2) (n+3) n (n+1) l1 l2:=by constructor<;>exact fun e=>absurd (id e:@Eq Nat _ _) ()
theorem ED:Kp "zip"=MA (.type "zip"):=by decide +kernel
section
variable{X:Cx}{elts:qb}{kt:Nat}{pt:Pos}
def HM(K:J1)(c:TA):TI:=fun σ H R=>c σ H fun vs H1=>∃a b xs d,vs=[.ref a,.ref b]/\H1 a=MA (.lst xs)/\H1 b=MA (.lst d)/\R (YS K a b) H1
theorem Dg{a b:o_}{x:TA}{p pos:Pos}(A:Gl X "zip")(B:X.mg "zip"=MB)(C:PA X [a,b] x)(E:JC [a,b] X.env=(MD,eval a X.env)::JC [b] X.env:=by rfl)(j:(L5 pos (JC [b] X.env)).any (·.1)=MD:=by rfl):PI X (.Tuple elts kt pt) (.Call (.Name "zip" p) [a,b] [] pos) (HM X.K x):=by
 intro MR s σ H R I h;refine Call_ (iL I A B ED (LV (NO (C pos MR s σ H _ I h) fun us c d=>?_) E j));obtain⟨vs,H1,e,F,G⟩:=d;obtain⟨l1,l2,xs,V,J,k,l,q⟩:=G;subst J;obtain⟨W,Y,rfl,m,n⟩:=vals2 F;cases m;cases n;obtain⟨Z,f,L,M,N,e1⟩:=e.nD k;obtain⟨z2,g,O,P,Q,e2⟩:=e.nD l;have S:c.heap.IsList l1 f.toArray:=⟨_,e1,rfl,L,rfl⟩;have L2:c.heap.IsList l2 g.toArray:=⟨_,e2,rfl,O,rfl⟩;have o:=Jz e1;have r:=Jz e2;refine call_zip_2 S L2 fun h' y t u v w T U=>wpAny_pyIter_zip y ?_
 have fp:∀b∈[c.z+4,c.z+2,c.z+3,c.z,c.z+1],dn X MR H1 b:=fun b z=>by
  have i:c.z<=b:=by simp at z;rcases z with rfl|rfl|rfl|rfl|rfl<;>first|exact Nat.le_add_right _ _|exact J9 _
  exact e.qg i (e.hok.fresh i)
 have D:ZipApart (c.z+4) (c.z+2) (c.z+3) c.z (c.z+1) l1 l2:=by exact C1 o r
 exact⟨_,_,_,_,H1,rfl,e.kept (t':=c.toks) U,xk l1 l2 _ _ _ _ _ D,⟨y,t,⟨_,_,u⟩,v,w⟩,fp,q⟩
def Gd(g:Nb):OV:=fun δ M R=>g δ M fun h f=>∃a b c fs,h=[.ref a,.ref b]/\f a=MA (.lst c)/\f b=MA (.lst fs)/\R ⟨min c.length fs.length,fun i=>(c[i]?).bind fun d=>(fs[i]?).map fun e=>.tup [d,e],fun M=>M a=MA (.lst c)/\M b=MA (.lst fs)⟩ f
theorem xy{K:J1}{D:Nb}:∀(σ:L2.St) (H:Hp) R,mv K (Gd D) σ H R->HM K (yA K D) σ H R:=
 fun σ H R L=>by
  obtain⟨δ,M,RD,N,O,q,s⟩:=L
  exact⟨δ,M,_,N,O,q,fun ds P vs H1 Q S t U=>by
   obtain⟨l1,l2,c,fs,e,u,w,V⟩:=U
   subst e
   obtain⟨v1,v2,rfl,r,E⟩:=eU S
   rw[Rep]at r E;subst r E
   obtain⟨xs,W,rs⟩:=t _ _ u
   obtain⟨Y,A,rt⟩:=t _ _ w
   refine⟨l1,l2,xs,Y,rfl,W,A,s _ P H1 _ Q t V ⟨fun F k G j l=>?_,fun i F k m G j l=>?_,?_⟩⟩
   ·obtain⟨n,o⟩:=(show k l1=MA (.lst c)/\k l2=MA (.lst fs)from l)
    obtain⟨a,d,f⟩:=j _ _ n
    obtain⟨b,g,h⟩:=j _ _ o
    refine⟨a,b,NX.of d,NX.of g,?_⟩
    show a.length<=min c.length fs.length\/b.length<=min c.length fs.length
    rw[<-f.length,<-h.length];omega
   ·obtain⟨n,o⟩:=(show k l1=MA (.lst c)/\k l2=MA (.lst fs)from l)
    obtain⟨a,d,f⟩:=j _ _ n
    obtain⟨b,g,h⟩:=j _ _ o
    have m:i<min c.length fs.length:=m
    have Z:i<a.length:=by rw[<-f.length];omega
    have h2:i<b.length:=by rw[<-h.length];omega
    exact⟨a,b,a[i],b[i],NX.of d,NX.of g,by simp[Z],by simp[h2]⟩
   ·rintro i F k v H3 m G j l ⟨T,y,z,rfl,p,rfl,A,hz⟩
    obtain⟨n,o⟩:=(show k l1=MA (.lst c)/\k l2=MA (.lst fs)from l)
    have m:i<min c.length fs.length:=m
    have I:i<c.length:=()
    have hf:i<fs.length:=()
    obtain⟨a,d,f⟩:=j _ _ n
    obtain⟨b,g,h⟩:=j _ _ o
    obtain⟨x,e1,e2⟩:=f.get (show c[i]?=MA c[i] by simp[I])
    obtain⟨x',B,C⟩:=h.get (show fs[i]?=MA fs[i] by simp[hf])
    have t1:=A a (NX.of d)
    have J:=hz b (NX.of g)
    rw[e1]at t1;cases t1
    rw[B]at J;cases J
    exact⟨.new p,j.new p,.tup [c[i],fs[i]],by simp[I,hf],by rw[Rep];exact⟨T,_,rfl,N0.of bD,.cons (e2.mono (.new p)) (.cons (C.mono (.new p)) .nil)⟩⟩⟩
theorem D3{a b:o_}{d:Nb}{p pos:Pos}(e:Gl X "zip")(f:X.mg "zip"=MB)(g:DA X [a,b] d)(h:JC [a,b] X.env=(MD,eval a X.env)::JC [b] X.env:=by rfl)(c:(L5 pos (JC [b] X.env)).any (·.1)=MD:=by rfl):DI X (.Tuple elts kt pt) (.Call (.Name "zip" p) [a,b] [] pos) (Gd d):=lR (Dg e f g h c) xy
end
theorem gX{ws:ro}:∀{i:Nat} {a:pd},OW ws i a->a.length<=i
 |0,a,h=>by rw[show a=[]from h];simp
 |i+1,a,⟨qs,h1,h2⟩=>by
  have:=gX h1
  rcases h2 with⟨_,rfl⟩|⟨_,r,_,rfl⟩
  ·omega
  ·simp;omega
structure YC(ws:ro)(r:pe):Prop where
 rng:YB ws r
 len:r.length<=2*ws.length
 lt:∀g∈r,g<2*ws.length
 pos:0<r.length
theorem f6{ws:ro}(b:∀w∈ws,NM w)(hF:PF ws):∀{i:Nat} {a:pd},i<=2*ws.length->OW ws i a->∀r∈a,YC ws r
 |0,a,_,h,r,hr=>by rw[show a=[]from h]at hr;cases hr
 |i+1,a,hi,⟨qs,h1,h2⟩,r,hr=>by
  rcases h2 with⟨_,rfl⟩|⟨_,k,⟨c,n,e,rfl⟩,rfl⟩
  ·exact f6 b hF () h1 r hr
  ·rcases JE.mp hr with z|z
   ·exact f6 b hF () h1 r z
   ·have:r=rn ws i c:=‹z›
    subst this
    have f:=ox b hF (():i<2*ws.length) n
    refine⟨⟨i,c,(),f,rfl,e⟩,by rw[fv];omega,fun g d=>?_,by rw[fv];omega⟩
    unfold rn at d
    obtain⟨j,_,rfl⟩:=JQ.mp d
    exact cz b hF () j
def aG(ws:ro)(r:pe):Bool:=decide (0<(r.map (Ng ws)).sum)
theorem xT{ws:ro}(i:∀w∈ws,NM w)(hF:PF ws){r:pe}(R:YB ws r){t b X Y a B:Int}(j:0<t)(f:0<b)(k:0<B)(e:(a:Rat)=(r.map (Rw t b X Y ws)).sum*(B:Rat)):decide (0<a)=aG ws r:=by
 have l:∀{z:Int},0<z->(0:Rat)<(z:Rat):=fun{z} h=>by exact_mod_cast h
 have c:(0:Rat)<(t:Rat)/b:=by rw[Rat.div_def];exact Rat.mul_pos (My j) (Rat.inv_pos.mpr (My f))
 have m:(0:Rat)<((t:Rat)/b)*((t:Rat)/b)*(B:Rat):=Rat.mul_pos (Rat.mul_pos c c) (l k);rw[Fx i hF R f]at e;have e1:(a:Rat)=((t:Rat)/b)*((t:Rat)/b)*(B:Rat)*(((r.map (Ng ws)).sum:Int):Rat):=by rw[e];grind
 have d:=sgn_mul m (r.map (Ng ws)).sum;rw[<-e1]at d;have g:=sgn_mul (show(0:Rat)<1 by decide) a;rw[Rat.one_mul]at g;rw[g]at d;unfold aG;rw[MM,<-Int.sign_eq_one_iff_pos,d,Int.sign_eq_one_iff_pos]
theorem RL.get{M:MH}{ps:q_}{b:pd}(h:RL M ps b){i:Nat}(c:i<ps.length):∃r,b[i]?=MA r/\M ps[i]=MA (.lst (r.map ry)):=by
 unfold RL at h
 induction h generalizing i with
 |nil=>simp at c
 |@cons p r ps b a _ ih=>
  cases i with
  |zero=>exact⟨r,rfl,a⟩
  |succ i=>simpa using ih ‹c›
theorem gy{a:Type}(f:a->Bool)(l:List a){i:Nat}{r:a}(e:l[i]?=MA r):(l.take (i+1)).filter f=(l.take i).filter f++(if f r=MC then[r]else[]):=by
 rw[Kx,e,List.filter_append]
 congr 1
 simp[List.filter_cons]
def mn(a c:Vc):Vc:=if la a.1 a.2<la c.1 c.2 then a else c
theorem Ge{t b X Y:Int}(a:0<t)(c:0<b){u v:Vc}(d:OB u)(e:OB v):(if MZ (MX t b X 1 u.1) (MX t b Y 1 u.2) (MX t b X 1 v.1) (MX t b Y 1 v.2)then(MX t b X 1 u.1,MX t b Y 1 u.2)else(MX t b X 1 v.1,MX t b Y 1 v.2))=(MX t b X 1 (mn u v).1,MX t b Y 1 (mn u v).2):=by
 have h:=xv (X:=X) (Y:=Y) a c d e;unfold OF at h;unfold mn;by_cases z:la u.1 u.2<la v.1 v.2
 ·rw[MI (h.mpr z),MI z]
 ·rw[ME (fun q=>z (h.mp q)),ME z]
theorem ER{u v:Vc}(a:OB u)(b:OB v):OB (mn u v):=by
 unfold mn;split
 ·exact a
 ·exact b
theorem pT{ws:ro}(e:∀w∈ws,NM w){g:Nat}(i:g<2*ws.length):OB (fa ws g):=by
 obtain⟨_,_,f⟩:=bz (ws:=ws) (k:=((g/2:Nat):Int)) () ();have W:=e _ f;unfold fa fw;by_cases h:g%2=0
 ·rw[MI h];exact⟨W.a,W.b⟩
 ·rw[ME h];exact⟨W.c,W.d⟩
def RK(ws:ro)(r:pe)(i:Nat):Vc:=(r.take i).foldl (fun a g=>mn a (fa ws g)) (fa ws (r.headD 0))
def fc(ws:ro)(r:pe):Vc:=RK ws r r.length
theorem qB{ws:ro}{r:pe}{i g:Nat}(e:r[i]?=MA g):RK ws r (i+1)=mn (RK ws r i) (fa ws g):=by unfold RK;rw[Kx,e,List.foldl_append];rfl
theorem oX{ws:ro}(a:∀w∈ws,NM w){r:pe}(b:∀g∈r,g<2*ws.length)(c:0<r.length):∀i,i<=r.length->OB (RK ws r i)
 |0,_=>by
  unfold RK
  cases r with
  |nil=>simp at c
  |cons g r=>exact pT a (b g (by simp))
 |i+1,h=>by
  rw[qB (J0 (():i<r.length))]
  exact ER (oX a b c i ()) (pT a (b _ (K1 _)))
def wD(ws:ro)(fs:pq):Int:=(fs.filter fun k=>fs.all fun j=>!NS (NU ws j) (NU ws k)).headD 0
theorem AV{ws:ro}(g:∀w∈ws,NM w)(hF:PF ws){p q b:Int}(d:b∈bK ws 1 p q)(h:∀w∈(bK ws 1 p q).map (NU ws),w=NU ws b\/(NS (NU ws b) w=MC/\NS w (NU ws b)=MD)):wD ws (bK ws 1 p q)=b:=by
 obtain⟨t,f,i,j⟩:=yH g hF (show(0:Int)<1 by decide) (fun k l=>jY l) (L0 d) (qG ws 1 p q);unfold wD;rw[j];show t=b
 have e:NU ws t=NU ws b:=by
  rcases h _ (JQ.mpr ⟨t,f,rfl⟩)with z|z
  ·exact z
  ·rcases i _ (JQ.mpr ⟨b,d,rfl⟩)with y|y
   ·exact y.symm
   ·rw[y.1]at z;exact absurd z.2 ⋯
 have a:=i9 (jY f);have c:=i9 (jY d);by_cases ne:t.toNat=b.toNat
 ·omega
 ·exact absurd ⟨by rw[e],by rw[e]⟩ (hF t.toNat b.toNat _ _ ne (bz a.1 a.2.1).1 (bz c.1 c.2.1).1).ne
def Ow(ws:ro)(L:pq)(u:Vc):Int:=if bK ws 1 u.1 u.2=[]then 0 else(L[2*(wD ws (bK ws 1 u.1 u.2)).toNat]?).getD 0
def iy(L:pq)(r:pe)(v:Int)(i:Nat):pq:=(r.take i).foldl (fun L g=>L.set g v) L
def fill(L:pq)(r:pe)(v:Int):pq:=iy L r v r.length
theorem mJ{L:pq}{r:pe}{v:Int}{i g:Nat}(e:r[i]?=MA g):iy L r v (i+1)=(iy L r v i).set g v:=by unfold iy;rw[Kx,e,List.foldl_append];rfl
theorem jf(v:Int):∀(r:pe) (L:pq),(r.foldl (fun L g=>L.set g v) L).length=L.length
 |[],L=>rfl
 |g::r,L=>by rw[LQ,jf v r,List.length_set]
theorem gV(L:pq)(r:pe)(v:Int)(i:Nat):(iy L r v i).length=L.length:=jf v _ L
theorem vp{n j:Nat}(h:j<n):L2.ixN n (j:Int)=MA j:=by unfold L2.ixN;rw[MI (),MI ()];rfl
def fO(m:Nat)(outs:pd):Nat->pq
 |0=>JJ m 0
 |i+1=>fill (fO m outs i) ((outs[i]?).getD []) ((i+1:Nat):Int)
theorem iT(m:Nat)(outs:pd):∀i,(fO m outs i).length=m
 |0=>by simp[fO]
 |i+1=>by rw[fO,fill,gV,iT m outs i]
def cB(ws:ro)(ins:pd):Nat->List Vc
 |0=>[]
 |i+1=>let c:=fc ws ((ins[i]?).getD []);if c∈cB ws ins i then cB ws ins i else cB ws ins i++[c]
def lI(ws:ro)(ins:pd)(c:Vc):Nat->Option Nat
 |0=>MB
 |i+1=>if fc ws ((ins[i]?).getD [])=c then MA i else lI ws ins c i
theorem kh(ws:ro)(ins:pd):∀i,(cB ws ins i).Nodup
 |0=>List.nodup_nil
 |i+1=>by
  have c:=kh ws ins i
  unfold cB
  dsimp only
  split
  ·exact c
  ·rename_i h
   rw[LP]
   refine⟨c,by simp,fun a d b e=>?_⟩
   have:b=fc ws ((ins[i]?).getD []):=‹e›
   subst this
   exact fun z=>h (z▸d)
theorem jN(ws:ro)(ins:pd):∀i,(cB ws ins i).length<=i
 |0=>J9 _
 |i+1=>by
  have a:=jN ws ins i
  unfold cB
  dsimp only
  split
  ·omega
  ·simp;omega
theorem gU{ws:ro}{ins:pd}{c:Vc}:∀{i},c∈cB ws ins i->∃j,lI ws ins c i=MA j/\j<i/\fc ws ((ins[j]?).getD [])=c
 |0,h=>by cases h
 |i+1,h=>by
  unfold lI
  by_cases e:fc ws ((ins[i]?).getD [])=c
  ·exact⟨i,by rw[MI e],(),e⟩
  ·rw[ME e]
   have f:c∈cB ws ins i:=by
    unfold cB at h
    dsimp only at h
    split at h
    ·exact h
    ·rcases JE.mp h with z|z
     ·exact z
     ·exact absurd (by simpa using z:c=_).symm e
   obtain⟨j,a,b,d⟩:=gU f
   exact⟨j,a,(),d⟩
def fS(ws:ro)(ins:pd)(L:pq)(ps:List Vc):Nat->pq
 |0=>L
 |i+1=>let c:=(ps[i]?).getD (0,0);fill (fS ws ins L ps i) ((ins[(lI ws ins c ins.length).getD 0]?).getD []) (Ow ws (fS ws ins L ps i) c)
theorem jJ(ws:ro)(ins:pd)(L:pq)(ps:List Vc):∀i,(fS ws ins L ps i).length=L.length
 |0=>rfl
 |i+1=>by rw[fS,fill,gV,jJ ws ins L ps i]
def c7(ws:ro)(L:pq):Prop:=∃(a:pd) (ps:List Vc),OW ws (2*ws.length) a/\ps.Perm (cB ws (a.filter fun r=>!aG ws r) (a.filter fun r=>!aG ws r).length)/\ps.Pairwise OF/\
 L=fS ws (a.filter fun r=>!aG ws r) (fO (2*ws.length) (a.filter (aG ws)) (a.filter (aG ws)).length) ps ps.length
theorem c7.len{ws:ro}{L:pq}(h:c7 ws L):L.length=2*ws.length:=by obtain⟨a,ps,R,b,c,rfl⟩:=h;rw[jJ,iT]
theorem jq(k:N4)(d:D)(c:N4):∀kvs:OA,((kvs.map fun x=>if x.1=k then(x.1,d)else x).find? fun x=>decide (x.1=c)).map (·.2)=if c=k/\(kvs.any fun x=>decide (x.1=k))=MC then MA d else(kvs.find? fun x=>decide (x.1=c)).map (·.2)
 |[]=>by simp
 |x::kvs=>by
  have f:=jq k d c kvs
  rw[Jn,JX,JX,LI]
  by_cases a:x.1=k
  ·rw[MI a]
   by_cases b:x.1=c
   ·have e:c=k:=b.symm.trans a
    simp[a,e]
   ·have ne:¬c=k:=fun z=>b (a.trans z.symm)
    rw[ME (fun z=>ne z.1)]
    rw[ME (fun z=>ne z.1)]at f
    simp only[MJ b]
    exact f
  ·rw[ME a]
   by_cases b:x.1=c
   ·have ne:¬c=k:=fun z=>a (b.trans z)
    rw[ME (fun z=>ne z.1)]
    simp[b]
   ·simp only[MJ b,MJ a,Bool.false_or]
    exact f
theorem zY(kvs:OA)(k:N4)(d:D)(a:N4):d4 (putD kvs k d) a=if a=k then MA d else d4 kvs a:=by
 unfold putD d4;by_cases h:(kvs.any fun x=>decide (x.1=k))=MC
 ·rw[MI h,jq];by_cases e:a=k
  ·rw[MI ⟨e,h⟩,MI e]
  ·rw[ME (fun z=>e z.1),ME e]
 ·rw[ME h,List.find?_append];by_cases e:a=k
  ·subst e;have:(kvs.find? fun x=>decide (x.1=a))=MB:=by rw[List.find?_eq_none];intro x b c;exact h (List.any_eq_true.mpr ⟨x,b,c⟩)
   rw[this,MI rfl];simp
  ·rw[ME e];have:([(k,d)]:OA).find? (fun x=>decide (x.1=a))=MB:=by simp;exact fun z=>e z.symm
   rw[this];simp
theorem yV(kvs:OA)(k:N4)(d:D):(putD kvs k d).map (·.1)=if k∈kvs.map (·.1)then kvs.map (·.1)else kvs.map (·.1)++[k]:=by
 unfold putD;have e:((kvs.any fun x=>decide (x.1=k))=MC)↔k∈kvs.map (·.1):=by rw[List.any_eq_true,JQ];exact⟨fun c=>by obtain⟨x,a,b⟩:=c;exact(⟨x,a,‹b›⟩),fun f=>by obtain⟨x,a,b⟩:=f;exact(⟨x,a,‹b›⟩)⟩
 by_cases h:k∈kvs.map (·.1)
 ·rw[MI (e.mpr h),MI h,Ky];apply L8;intro x _;show(if x.1=k then(x.1,d)else x).1=x.1;split<;>rfl
 ·rw[ME (fun z=>h (e.mp z)),ME h,Jx];rfl
structure Rk(t b X Y:Int)(ws:ro)(ins:pd)(qs:q_)(i:Nat)(kvs:OA):Prop where
 ks:kvs.map (·.1)=(cB ws ins i).map (gk t b X Y)
 vs:∀c,d4 kvs (gk t b X Y c)=(lI ws ins c i).bind fun j=>(qs[j]?).map D.ref
theorem Rk.nil(t b X Y:Int)(ws:ro)(ins:pd)(qs:q_):Rk t b X Y ws ins qs 0 []:=⟨rfl,fun c=>rfl⟩
theorem Rk.put{t b X Y:Int}{ws:ro}{ins:pd}{qs:q_}{i:Nat}{kvs:OA}{r:pe}{q:n_}(d:0<t)(e:0<b)(h:Rk t b X Y ws ins qs i kvs)(f:ins[i]?=MA r)(eq:qs[i]?=MA q):Rk t b X Y ws ins qs (i+1) (putD kvs (gk t b X Y (fc ws r)) (.ref q)):=by
 have a:(ins[i]?).getD []=r:=by rw[f];rfl
 refine⟨?_,fun c=>?_⟩
 ·rw[yV,h.ks]
  have g:cB ws ins (i+1)=if fc ws r∈cB ws ins i then cB ws ins i else cB ws ins i++[fc ws r]:=by
   conv=>lhs;unfold cB
   rw[a]
  rw[g];by_cases z:fc ws r∈cB ws ins i
  ·rw[MI z,MI (JQ.mpr ⟨_,z,rfl⟩)]
  ·rw[ME z,ME (fun y=>by
    obtain⟨c,j,k⟩:=JQ.mp y
    exact z ((zC d e k)▸j)),Jx]
   rfl
 ·rw[zY]
  have l:lI ws ins c (i+1)=if fc ws r=c then MA i else lI ws ins c i:=by
   conv=>lhs;unfold lI
   rw[a]
  rw[l];by_cases z:fc ws r=c
  ·rw[MI (by rw[z]),MI z];show _=(qs[i]?).map D.ref;rw[eq];rfl
  ·rw[ME (fun y=>z (zC d e y).symm),ME z];exact h.vs c
def sg:Nat->(rb)->Int
 |0,_=>0
 |n+1,g=>sg n g+g n
theorem aW{g h:rb}:∀{n:Nat},(∀k,k<n->g k=h k)->sg n g=sg n h
 |0,_=>rfl
 |n+1,e=>by rw[sg,sg,aW fun k a=>e k (),e n ()]
theorem dD(g h:rb):∀n,sg n (fun k=>g k+h k)=sg n g+sg n h
 |0=>rfl
 |n+1=>by rw[sg,sg,sg,dD g h n];omega
theorem dP(g h:rb):∀n,sg n (fun k=>g k-h k)=sg n g-sg n h
 |0=>rfl
 |n+1=>by rw[sg,sg,sg,dP g h n];omega
theorem uF:∀n,sg n (fun _=>0)=0
 |0=>rfl
 |n+1=>by rw[sg,uF n];rfl
theorem cO{g:rb}{n:Nat}(h:∀k,k<n->g k=0):sg n g=0:=by rw[aW h,uF]
theorem fX(d:rb)(j:Nat):∀n,sg n (fun k=>if k=j then d k else 0)=if j<n then d j else 0
 |0=>rfl
 |n+1=>by
  rw[sg,fX d j n]
  by_cases e:n=j
  ·subst e;rw[ME (Nat.lt_irrefl _),MI rfl,MI ()];omega
  ·rw[ME e]
   by_cases l:j<n
   ·rw[MI l,MI ()];omega
   ·rw[ME l,ME ()];rfl
def wn(ws:ro)(k:Nat):Wl:=NU ws (k:Int)
section
variable{ws:ro}(hU:∀w∈ws,NM w)(hF:PF ws)
include hU in
theorem aM{k:Nat}(h:k<ws.length):NM (wn ws k):=hU _ (bz (ws:=ws) (k:=(k:Int)) () ()).2.2
include hF in
theorem bc{i j:Nat}(c:i<ws.length)(d:j<ws.length)(ne:i≠j):NY (wn ws i) (wn ws j):=by have a:=(bz (ws:=ws) (k:=(i:Int)) () ()).1;have b:=(bz (ws:=ws) (k:=(j:Int)) () ()).1;rw[L9]at a b;exact hF i j _ _ ne a b
def sp(w:Wl)(t:Int):Bool:=decide (l1 w<=t)&&decide (t<l2 w)
theorem aZ{w:Wl}{t:Int}:sp w t=MC↔l1 w<=t/\t<l2 w:=by unfold sp;simp
def Oa(ws:ro)(d:rb)(q:Nat->Bool)(t:Int):Int:=sg ws.length fun k=>if(sp (wn ws k) t&&q k)=MC then d k else 0
def Flow(ws:ro)(d:rb):Prop:=∀t:Int,sg ws.length (fun k=>if l2 (wn ws k)=t then d k else 0)=sg ws.length (fun k=>if l1 (wn ws k)=t then d k else 0)
include hU in
theorem xY{d:rb}(i:Flow ws d){q:Nat->Bool}{t:Int}(c:Bool)(j:∀k,k<ws.length->l1 (wn ws k)=t\/l2 (wn ws k)=t->q k=c):Oa ws d q t=Oa ws d q (t-1):=by
 unfold Oa
 have e:∀k,k<ws.length->(if(sp (wn ws k) t&&q k)=MC then d k else 0)=(if(sp (wn ws k) (t-1)&&q k)=MC then d k else 0)+(if c=MC then((if l1 (wn ws k)=t then d k else 0)-(if l2 (wn ws k)=t then d k else 0))else 0):=fun k g=>by
  have lt:=(aM hU g).lt
  have h:=j k g
  unfold sp
  generalize l1 (wn ws k)=a at *
  generalize l2 (wn ws k)=b at *
  by_cases x:a=t
  ·have f:=h (.inl x);rw[f,MK (():a<=t),MK (():t<b),MJ (():¬a<=t-1),MI x,ME (():¬b=t)];cases c<;>simp
  ·by_cases y:b=t
   ·have f:=h (.inr y);rw[f,MJ (():¬t<b),MK (():a<=t-1),MK (():t-1<b),ME x,MI y];cases c
    ·simp
    ·simp;omega
   ·rw[ME x,ME y];have e1:decide (a<=t)=decide (a<=t-1):=by rw[MM];omega
    have e2:decide (t<b)=decide (t-1<b):=by rw[MM];omega
    rw[e1,e2];simp
 rw[aW e,dD];cases c with
 |false=>rw[show sg ws.length (fun k=>if MD=MC then((if l1 (wn ws k)=t then d k else 0)-(if l2 (wn ws k)=t then d k else 0))else 0)=0 from cO fun _ _=>rfl];omega
 |true=>
  have z:sg ws.length (fun k=>if MC=MC then((if l1 (wn ws k)=t then d k else 0)-(if l2 (wn ws k)=t then d k else 0))else 0)=0:=by rw[aW (h:=fun k=>(if l1 (wn ws k)=t then d k else 0)-(if l2 (wn ws k)=t then d k else 0)) fun k _=>MI rfl,dP,i t];omega
  rw[z];omega
include hU in
theorem jL{d:rb}(c:Flow ws d){q:Nat->Bool}:∀(n:Nat) (t:Int),(∀s,t<s->s<=t+n->∃a,∀k,k<ws.length->l1 (wn ws k)=s\/l2 (wn ws k)=s->q k=a)->Oa ws d q (t+n)=Oa ws d q t
 |0,t,_=>by rw[show t+((0:Nat):Int)=t by omega]
 |n+1,t,h=>by
  obtain⟨a,b⟩:=h (t+(n+1:Nat)) () ()
  rw[xY hU c a b,show t+((n+1:Nat):Int)-1=t+(n:Int) by omega]
  exact jL c n t fun s e f=>h s e ()
include hU in
theorem oQ{d:rb}(c:Flow ws d)(t:Int):Oa ws d (fun _=>MC) t=0:=by
 have z:∀s:Int,s<0->Oa ws d (fun _=>MC) s=0:=fun s f=>cO fun k e=>by
  have U:=aM hU e
  have:=U.a;have:=U.b
  rw[ME]
  intro q
  rw[LJ,aZ]at q
  unfold l1 la at q
  omega
 by_cases h:t<0
 ·exact z t h
 ·have:=jL hU c (q:=fun _=>MC) (t+1).toNat (-1) fun s _ _=>⟨MC,fun _ _ _=>rfl⟩;rw[show(-1:Int)+((t+1).toNat:Int)=t by omega,z (-1) ()]at this;exact this
end
theorem ID{w:Wl}(h:NM w){t:Int}(e:l1 w=t):w.1=t/100/\w.2.1=t%100:=by
 have:=h.a;have:=h.b
 unfold l1 la at e;omega
theorem Jm{w:Wl}(h:NM w){t:Int}(e:l2 w=t):w.2.2.1=t/100/\w.2.2.2=t%100:=by
 have:=h.c;have:=h.d
 unfold l2 la at e;omega
def OL(w:Wl)(t:Int):Int:=sd w (t/100) (t%100)
theorem Gu{w v:Wl}(h:NM v){t:Int}(e:l1 v=t):OL w t=NQ w v:=by obtain⟨a,b⟩:=ID h e;unfold OL NQ;rw[a,b]
theorem HZ{w v:Wl}(h:NM v){t:Int}(e:l2 v=t):OL w t=NT w v:=by obtain⟨a,b⟩:=Jm h e;unfold OL NT;rw[a,b]
theorem zu{U V:Wl}(d:NM U)(e:NM V)(F:NY U V)(c:l1 U<l2 V)(a:l2 V<l2 U):NS U V=decide (NT U V<0):=by
 have f:=d.lt;have g:=e.lt;have nz:=F.e2.nz c a;have b:max (l1 U) (l1 V)<min (l2 U) (l2 V):=cy.mpr ⟨f,c,(),g⟩;have pr:(¬(0<NQ V U/\NT V U<0)/\¬(NQ V U<0/\0<NT V U))\/(¬(0<NQ U V/\NT U V<0)/\¬(NQ U V<0/\0<NT U V)):=F.pr.elim (fun z=>.inr (Vy z)) (fun z=>.inl (Vy z));rcases Jt (l1 U) (l1 V)with h|h|h
 ·have i:=F.e1.nz h ();have q:=within (vY V U) (wU V U) h () () a pr.symm i nz;rw[nU b h,MM];omega
 ·rw[rE b h ()]
 ·have j:=F.e3.nz h ();have q:=pG (wU U V) (vY V U) h () a pr j nz;rw[qO b h,MM];exact q
theorem dH{U V:Wl}(c:NM U)(a:NM V)(F:NY U V){t:Int}(g:l1 U<t)(h:t<l2 U)(e:l1 V=t\/l2 V=t):NS U V=decide (OL U t<0)/\NS V U=decide (0<OL U t):=by
 have d:=c.lt;have f:=a.lt
 have nz:OL U t≠0/\NS U V=decide (OL U t<0)/\max (l1 U) (l1 V)<min (l2 U) (l2 V):=by
  rcases e with e|e
  ·have b:max (l1 U) (l1 V)<min (l2 U) (l2 V):=cy.mpr ⟨d,(),(),f⟩;rw[Gu a e];exact⟨F.e1.nz () (),nU b (),b⟩
  ·have b:max (l1 U) (l1 V)<min (l2 U) (l2 V):=cy.mpr ⟨d,(),(),f⟩;rw[HZ a e];exact⟨F.e2.nz () (),zu c a F () (),b⟩
 refine⟨nz.2.1,?_⟩;rw[gi c a F nz.2.2,nz.2.1,sO nz.1,Bool.not_not]
section
variable{ws:ro}(hU:∀w∈ws,NM w)(hF:PF ws)
def Bw(ws:ro)(d:rb)(j:Nat):Int:=Oa ws d (fun k=>NS (wn ws j) (wn ws k)) (l1 (wn ws j))
include hU hF in
theorem gS{d:rb}(c:Flow ws d){j:Nat}(a:j<ws.length){t:Int}(h:sp (wn ws j) t=MC):Oa ws d (fun k=>NS (wn ws j) (wn ws k)) t=Bw ws d j:=by
 rw[aZ]at h;have:=jL hU c (q:=fun k=>NS (wn ws j) (wn ws k)) (t-l1 (wn ws j)).toNat (l1 (wn ws j)) fun s f g=>⟨decide (OL (wn ws j) s<0),fun k b e=>?_⟩
 ·rw[show l1 (wn ws j)+((t-l1 (wn ws j)).toNat:Int)=t by omega]at this;exact this
 ·have ne:j≠k:=fun z=>by subst z;omega
  exact(dH (aM hU a) (aM hU b) (bc hF a b ne) f () e).1
end
theorem fY(ws:ro)(k:Nat):fw ws (2*k)=wn ws k:=by unfold fw wn;rw[MI (),show 2*k/2=k by omega]
theorem oY(ws:ro)(k:Nat):fw ws (2*k+1)=rev (wn ws k):=by unfold fw wn;rw[ME (),show(2*k+1)/2=k by omega]
def N5(a b:Vc):Bool:=decide ((vl a<0/\0<vl b)\/(((vl a<0/\vl b<0)\/(0<vl a/\0<vl b))/\vc a b<0))
theorem e7{a b:Vc}:N5 a b=MC↔(vl a<0/\0<vl b)\/(((vl a<0/\vl b<0)\/(0<vl a/\0<vl b))/\vc a b<0):=by unfold N5;rw[MN]
theorem GU(a b x:Vc):vl a*vc b x-vl b*vc a x+vl x*vc a b=0:=by unfold vl la vc N7;grind
def sc(z:Int):_root_.Fin 3:=if z<0 then 0 else if z=0 then 1 else 2
theorem Qp{z:Int}:sc z=0↔z<0:=by
 unfold sc;split
 ·simp[*]
 ·split<;>simp[*]
theorem Pq{z:Int}:sc z=1↔z=0:=by
 unfold sc;split
 ·simp;omega
 ·split<;>simp[*]
theorem Qo{z:Int}:sc z=2↔0<z:=by
 unfold sc;split
 ·simp;omega
 ·split
  ·simp;omega
  ·simp;omega
def BJ(a r:_root_.Fin 3):_root_.Fin 3:=if a=0 then 2-r else if a=1 then 1 else r
theorem yL(z:Int):sc (-z)=2-sc z:=by
 rcases Jt z 0 with h|h|h
 ·rw[Qp.mpr h,Qo.mpr ()];rfl
 ·rw[Pq.mpr h,Pq.mpr ()];rfl
 ·rw[Qo.mpr h,Qp.mpr ()];rfl
theorem sS(a r:Int):sc (a*r)=BJ (sc a) (sc r):=by
 rcases Jt a 0 with h|h|h
 ·rw[Qp.mpr h];rcases Jt r 0 with k|k|k
  ·rw[Qp.mpr k,Qo.mpr (Kb h k)];rfl
  ·rw[Pq.mpr k,Pq.mpr (by rw[k,Int.mul_zero])];rfl
  ·rw[Qo.mpr k,Qp.mpr (JP h k)];rfl
 ·rw[Pq.mpr h,Pq.mpr (by rw[h,Int.zero_mul])];rfl
 ·rw[Qo.mpr h];rcases Jt r 0 with k|k|k
  ·rw[Qp.mpr k,Qp.mpr (JV h k)];rfl
  ·rw[Pq.mpr k,Pq.mpr (by rw[k,Int.mul_zero])];rfl
  ·rw[Qo.mpr k,Qo.mpr (JW h k)];rfl
def YK(a b c:_root_.Fin 3):Bool:=!(a != 0&&b != 0&&c != 0&&(a==2||b==2||c==2))&&!(a != 2&&b != 2&&c != 2&&(a==0||b==0||c==0))
theorem j0(z:Int):(z<0/\sc z=0)\/(z=0/\sc z=1)\/(0<z/\sc z=2):=by
 rcases Jt z 0 with h|h|h
 ·exact .inl ⟨h,Qp.mpr h⟩
 ·exact .inr (.inl ⟨h,Pq.mpr h⟩)
 ·exact .inr (.inr ⟨h,Qo.mpr h⟩)
theorem ES{u v w:Int}(h:u+v+w=0):YK (sc u) (sc v) (sc w)=MC:=by rcases j0 u with x|x|x<;>rcases j0 v with y|y|y<;>rcases j0 w with z|z|z<;>rw[x.2,y.2,z.2]<;>first|rfl|(exfalso;omega)
def Gb(a b p:_root_.Fin 3):Bool:=(a==0&&b==2)||(((a==0&&b==0)||(a==2&&b==2))&&p==0)
theorem oZ(a b:Vc):N5 a b=Gb (sc (vl a)) (sc (vl b)) (sc (vc a b)):=by rw[Ks,e7];unfold Gb;simp[Qp,Qo]
theorem Y2(a b:Vc):sc (vc b a)=2-sc (vc a b):=by rw[d8 a b,yL]
theorem B9(a b x:Vc):YK (BJ (sc (vl a)) (sc (vc b x))) (2-BJ (sc (vl b)) (sc (vc a x))) (BJ (sc (vl x)) (sc (vc a b)))=MC:=by rw[<-sS,<-sS,<-sS,<-yL];exact ES (by have:=GU a b x;omega)
theorem jS{a b c:Vc}(d:N5 a b=MC)(e:N5 b c=MC):N5 a c=MC:=by
 rw[oZ]at *;have id:=B9 a b c
 revert d e id
 generalize sc (vl a)=A;generalize sc (vl b)=B;generalize sc (vl c)=C;generalize sc (vc a b)=p;generalize sc (vc a c)=q;generalize sc (vc b c)=r
 revert A B C p q r
 decide +kernel
theorem bJ{a b:Vc}(c:N5 a b=MC)(d:N5 b a=MC):False:=by rw[e7]at *;have:=d8 a b;omega
theorem vU{a b:Vc}(c:vl a≠0)(d:vl b≠0)(h:PB a b):N5 a b=MC\/N5 b a=MC:=by
 rw[e7,e7];have:=d8 a b;by_cases z:vc a b=0
 ·have:=fN (h z);omega
 ·omega
def Hf(a b p:_root_.Fin 3):Bool:=p != 1||(a==0&&b==2)||(a==2&&b==0)
theorem tY{a b:Vc}(h:PB a b):Hf (sc (vl a)) (sc (vl b)) (sc (vc a b))=MC:=by
 unfold Hf;by_cases z:vc a b=0
 ·rcases fN (h z)with q|q
  ·rw[Qp.mpr q.1,Qo.mpr q.2];simp
  ·rw[Qo.mpr q.1,Qp.mpr q.2];simp
 ·have:sc (vc a b)≠1:=fun e=>z (Pq.mp e);simp[this]
def HS(p q r:_root_.Fin 3):Bool:=decide (p<q)||(p==q&&r==0)
theorem EI{b x y:Vc}(h:O8 b x y=MC):HS (sc (vc b x)) (sc (vc b y)) (sc (vc x y))=MC:=by rw[g9]at h;unfold HS;rcases fV (vc b x)with t|t|t<;>rcases fV (vc b y)with u|u|u<;>rw[t.2,u.2]at h<;>rcases j0 (vc b x)with p|p|p<;>rcases j0 (vc b y)with q|q|q<;>rcases j0 (vc x y)with r|r|r<;>rw[p.2,q.2,r.2]<;>first|rfl|(exfalso;omega)
theorem BD{a b x:Vc}(c:vl a≠0)(d:vl b≠0)(f:vl x≠0)(g:PB a b)(i:PB a x)(j:PB b x)(h:O8 a b x=MC):(N5 a b=MC/\N5 b x=MC)\/(N5 b x=MC/\N5 x a=MC)\/(N5 x a=MC/\N5 a b=MC):=by
 have h:=EI h;have id:=B9 a b x;have g:=tY g;have i:=tY i;have j:=tY j;have c:sc (vl a)≠1:=fun e=>c (Pq.mp e);have d:sc (vl b)≠1:=fun e=>d (Pq.mp e);have f:sc (vl x)≠1:=fun e=>f (Pq.mp e);rw[oZ,oZ,oZ,Y2 a x]
 revert h id g i j c d f
 generalize sc (vl a)=A;generalize sc (vl b)=B;generalize sc (vl x)=X;generalize sc (vc a b)=p;generalize sc (vc a x)=q;generalize sc (vc b x)=r
 revert A B X p q r
 decide +kernel
def dw(w:Wl):Vc:=(w.2.2.1-w.1,w.2.2.2-w.2.1)
def ng(v:Vc):Vc:=(-v.1,-v.2)
theorem gT(ws:ro)(k:Nat):fd ws (2*k)=dw (wn ws k):=by unfold fd dw;rw[fY]
theorem sN(ws:ro)(k:Nat):fd ws (2*k+1)=ng (dw (wn ws k)):=by unfold fd dw ng;rw[oY];unfold rev;exact Prod.ext (by dsimp only;omega) (by dsimp only;omega)
theorem mW(w:Wl):vl (dw w)=l2 w-l1 w:=by unfold vl dw l1 l2 la;dsimp only;omega
theorem vF(v:Vc):vl (ng v)=-vl v:=by unfold vl ng la;dsimp only;omega
theorem HK(a b:Vc):vc (ng a) (ng b)=vc a b:=by unfold vc ng N7;dsimp only;rw[Int.neg_mul_neg,Int.neg_mul_neg]
theorem cf(ws:ro)(k:Nat):la (fa ws (2*k)).1 (fa ws (2*k)).2=l1 (wn ws k):=by unfold fa;rw[fY];rfl
theorem lY(ws:ro)(k:Nat):la (fa ws (2*k+1)).1 (fa ws (2*k+1)).2=l2 (wn ws k):=by unfold fa;rw[oY];rfl
theorem jZ{U V:Wl}(a:NM U)(c:NM V)(F:NY U V)(e:l1 U=l1 V):NS U V=decide (vc (dw U) (dw V)<0)/\vc (dw U) (dw V)≠0:=by
 have i:=a.lt;have j:=c.lt;have d:max (l1 U) (l1 V)<min (l2 U) (l2 V):=cy.mpr ⟨i,(),(),j⟩;obtain⟨f,g⟩:=gI a.b c.b (show la U.1 U.2.1=la V.1 V.2.1 from e);have k:NT U V=vc (dw U) (dw V):=by unfold NT sd vc dw N7;rw[f,g]
 have l:NT V U=-vc (dw U) (dw V):=by unfold NT sd vc dw N7;rw[f,g];grind
 rcases Jt (l2 U) (l2 V)with h|h|h
 ·have nz:=F.e4.nz () h;rw[uZ d e h,l];refine⟨by rw[MM];omega,()⟩
 ·exact absurd ⟨e,h⟩ F.ne
 ·have nz:=F.e2.nz () h;rw[rE d e (),k];exact⟨rfl,()⟩
theorem yQ{U V:Wl}(a:NM U)(b:NM V)(F:NY U V)(e:l2 U=l2 V):NS U V=decide (0<vc (dw U) (dw V))/\vc (dw U) (dw V)≠0:=by
 have i:=a.lt;have j:=b.lt;have c:max (l1 U) (l1 V)<min (l2 U) (l2 V):=cy.mpr ⟨i,(),(),j⟩;obtain⟨f,g⟩:=gI a.d b.d (show la U.2.2.1 U.2.2.2=la V.2.2.1 V.2.2.2 from e);have k:NQ U V=-vc (dw U) (dw V):=by unfold NQ sd vc dw N7;rw[f,g];grind
 have l:NQ V U=vc (dw U) (dw V):=by unfold NQ sd vc dw N7;rw[f,g];grind
 rcases Jt (l1 U) (l1 V)with h|h|h
 ·have nz:=F.e1.nz h ();rw[nU c h,k];refine⟨by rw[MM];omega,()⟩
 ·exact absurd ⟨h,e⟩ F.ne
 ·have nz:=F.e3.nz h ();rw[qO c h,l];exact⟨rfl,()⟩
def Pf(ws:ro)(d:rb)(f:Nat):Int:=if f%2=0 then Bw ws d (f/2)+d (f/2)else Bw ws d (f/2)
theorem fR(ws:ro)(d:rb)(k:Nat):Pf ws d (2*k)=Bw ws d k+d k:=by unfold Pf;rw[MI (),show 2*k/2=k by omega]
theorem iQ(ws:ro)(d:rb)(k:Nat):Pf ws d (2*k+1)=Bw ws d k:=by unfold Pf;rw[ME (),show(2*k+1)/2=k by omega]
def Zc(ws:ro)(d:rb)(t:Int):Int:=sg ws.length fun k=>if l1 (wn ws k)<t/\t<l2 (wn ws k)/\0<OL (wn ws k) t then d k else 0
def Es(ws:ro)(d:rb)(t:Int)(v:Vc):Int:=sg ws.length fun k=>(if l2 (wn ws k)=t/\N5 (ng (dw (wn ws k))) v=MC then d k else 0)-(if l1 (wn ws k)=t/\N5 (dw (wn ws k)) v=MC then d k else 0)
section
variable{ws:ro}(hU:∀w∈ws,NM w)(hF:PF ws){d:rb}(fl:Flow ws d)
include hU hF fl
theorem BG{j:Nat}(a:j<ws.length):Pf ws d (2*j)=Zc ws d (l1 (wn ws j))+Es ws d (l1 (wn ws j)) (dw (wn ws j)):=by
 rw[fR];have one:d j=sg ws.length (fun k=>if k=j then d k else 0):=by rw[fX,MI a]
 have f:=fl (l1 (wn ws j));have J:=aM hU a;have g:=J.lt;have i:=mW (wn ws j);generalize b:l1 (wn ws j)=t at *;rw[one];unfold Bw Oa Zc Es;rw[b,<-dD,<-dD];have z:sg ws.length (fun k=>(if l1 (wn ws k)=t then d k else 0)-(if l2 (wn ws k)=t then d k else 0))=0:=by rw[dP];omega
 refine Eq.trans (aW (h:=fun k=>((if l1 (wn ws k)<t/\t<l2 (wn ws k)/\0<OL (wn ws k) t then d k else 0)+((if l2 (wn ws k)=t/\N5 (ng (dw (wn ws k))) (dw (wn ws j))=MC then d k else 0)-(if l1 (wn ws k)=t/\N5 (dw (wn ws k)) (dw (wn ws j))=MC then d k else 0)))+((if l1 (wn ws k)=t then d k else 0)-(if l2 (wn ws k)=t then d k else 0))) fun k e=>?_) (by rw[dD (fun k=>(if l1 (wn ws k)<t/\t<l2 (wn ws k)/\0<OL (wn ws k) t then d k else 0)+_),z];omega);dsimp only;show(if(sp (wn ws k) t&&NS (wn ws j) (wn ws k))=MC then d k else 0)+(if k=j then d k else 0)=_;have K:=aM hU e;have l:=K.lt;by_cases c:k=j
 ·subst c;rw[MI rfl,cx J,Me,ME ⋯,ME (),ME (fun q=>()),b,MI rfl,ME (():¬l2 (wn ws k)=t)];have:¬(t=t/\N5 (dw (wn ws k)) (dw (wn ws k))=MC):=fun q=>bJ q.2 q.2;rw[ME this];omega
 ·rw[ME c];have F:=bc hF a e (fun q=>c q.symm);have m:=mW (wn ws k);rcases Jt (l1 (wn ws k)) t with x|x|x
  ·rcases Jt (l2 (wn ws k)) t with y|y|y
   ·have s:sp (wn ws k) t=MD:=by unfold sp;rw[MJ (():¬t<l2 (wn ws k)),Me]
    rw[s,Ko,ME ⋯,ME (),ME (),ME (),ME (),ME ()];rfl
   ·have s:sp (wn ws k) t=MD:=by unfold sp;rw[MJ (():¬t<l2 (wn ws k)),Me]
    have p:N5 (ng (dw (wn ws k))) (dw (wn ws j))=MC:=e7.mpr (.inl ⟨by rw[vF];omega,()⟩);rw[s,Ko,ME ⋯,ME (),MI ⟨y,p⟩,ME (),ME (),MI y];omega
   ·have s:sp (wn ws k) t=MC:=aZ.mpr ⟨(),y⟩;have T:=(dH K J F.swap x y (.inl b)).2;rw[s,L4,T,ME (():¬(l2 (wn ws k)=t/\_)),ME (():¬(l1 (wn ws k)=t/\_)),ME (():¬l1 (wn ws k)=t),ME (():¬l2 (wn ws k)=t)];by_cases q:0<OL (wn ws k) t
    ·rw[MI ‹q›,MI ⟨x,y,q⟩];omega
    ·rw[ME ‹q›,ME (fun z=>q z.2.2)];omega
  ·have s:sp (wn ws k) t=MC:=aZ.mpr ⟨(),()⟩;obtain⟨A,nz⟩:=jZ J K F ()
   have P:N5 (dw (wn ws k)) (dw (wn ws j))=decide (0<vc (dw (wn ws j)) (dw (wn ws k))):=by
    rw[Ks,e7,MN]
    have:=d8 (dw (wn ws j)) (dw (wn ws k))
    omega
   rw[s,L4,A,P,ME (():¬(l1 (wn ws k)<t/\_)),ME (():¬(l2 (wn ws k)=t/\_)),MI x,ME (():¬l2 (wn ws k)=t)];by_cases q:vc (dw (wn ws j)) (dw (wn ws k))<0
   ·rw[MI ‹q›,ME (fun z=>by have:=ML z.2;omega)];omega
   ·rw[ME ‹q›,MI ⟨x,MK ()⟩];omega
  ·have s:sp (wn ws k) t=MD:=by unfold sp;rw[MJ (():¬l1 (wn ws k)<=t),Ko]
   rw[s,Ko,ME ⋯,ME (),ME (),ME (),ME (),ME ()];rfl
theorem EK{j:Nat}(a:j<ws.length):Pf ws d (2*j+1)=Zc ws d (l2 (wn ws j))+Es ws d (l2 (wn ws j)) (ng (dw (wn ws j))):=by
 rw[iQ];have J:=aM hU a;have h:=J.lt;have i:=mW (wn ws j);have e:=vF (dw (wn ws j));rw[<-gS hU hF fl a (t:=l2 (wn ws j)-1) (aZ.mpr ⟨(),()⟩)];generalize f:l2 (wn ws j)=t at *;unfold Oa Zc Es;rw[<-dD];refine aW fun k b=>?_;dsimp only;show(if(sp (wn ws k) (t-1)&&NS (wn ws j) (wn ws k))=MC then d k else 0)=_;have K:=aM hU b;have l:=K.lt;by_cases c:k=j
 ·subst c;rw[cx J,Me,ME ⋯,ME (),ME (fun q=>bJ q.2 q.2),ME ()];rfl
 ·have F:=bc hF a b (fun q=>c q.symm);have m:=mW (wn ws k);have g:=vF (dw (wn ws k));rcases Jt (l1 (wn ws k)) t with x|x|x
  ·rcases Jt (l2 (wn ws k)) t with y|y|y
   ·have s:sp (wn ws k) (t-1)=MD:=by unfold sp;rw[MJ (():¬t-1<l2 (wn ws k)),Me]
    rw[s,Ko,ME ⋯,ME (),ME (),ME ()];rfl
   ·have s:sp (wn ws k) (t-1)=MC:=aZ.mpr ⟨(),()⟩;obtain⟨A,nz⟩:=yQ J K F ()
    have P:N5 (ng (dw (wn ws k))) (ng (dw (wn ws j)))=decide (0<vc (dw (wn ws j)) (dw (wn ws k))):=by
     rw[Ks,e7,MN,HK]
     have:=d8 (dw (wn ws j)) (dw (wn ws k))
     omega
    rw[s,L4,A,P,ME (():¬(l1 (wn ws k)<t/\_)),ME (():¬(l1 (wn ws k)=t/\_))];by_cases q:0<vc (dw (wn ws j)) (dw (wn ws k))
    ·rw[MI ‹q›,MI ⟨y,MK q⟩];omega
    ·rw[ME ‹q›,ME (fun z=>q (ML z.2))];rfl
   ·have s:sp (wn ws k) (t-1)=MC:=aZ.mpr ⟨(),()⟩;have T:=(dH K J F.swap x y (.inr f)).2;rw[s,L4,T,ME (():¬(l2 (wn ws k)=t/\_)),ME (():¬(l1 (wn ws k)=t/\_))];by_cases q:0<OL (wn ws k) t
    ·rw[MI ‹q›,MI ⟨x,y,q⟩];omega
    ·rw[ME ‹q›,ME (fun z=>q z.2.2)];omega
  ·have s:sp (wn ws k) (t-1)=MD:=by unfold sp;rw[MJ (():¬l1 (wn ws k)<=t-1),Ko]
   have p:¬(l1 (wn ws k)=t/\N5 (dw (wn ws k)) (ng (dw (wn ws j)))=MC):=fun q=>by
    have:=e7.mp q.2
    omega
   rw[s,Ko,ME ⋯,ME (),ME (),ME p];rfl
  ·have s:sp (wn ws k) (t-1)=MD:=by unfold sp;rw[MJ (():¬l1 (wn ws k)<=t-1),Ko]
   rw[s,Ko,ME ⋯,ME (),ME (),ME ()];rfl
theorem uN{g:Nat}(a:g<2*ws.length):Pf ws d g=Zc ws d (la (fa ws g).1 (fa ws g).2)+Es ws d (la (fa ws g).1 (fa ws g).2) (fd ws g):=by
 rcases KL g with h|h
 ·obtain⟨k,rfl⟩:∃k,g=2*k:=⟨g/2,()⟩;rw[cf,gT];exact BG hU hF fl ()
 ·obtain⟨k,rfl⟩:∃k,g=2*k+1:=⟨g/2,()⟩;rw[lY,sN];exact EK hU hF fl ()
end
def eF(d:rb)(g:Nat):Int:=if g%2=0 then -d (g/2)else d (g/2)
theorem E9(d:rb){n g:Nat}(a:g<2*n):eF d g=sg n fun k=>(if 2*k+1=g then d k else 0)-(if 2*k=g then d k else 0):=by
 rw[dP];unfold eF;by_cases h:g%2=0
 ·rw[MI h,show sg n (fun k=>if 2*k+1=g then d k else 0)=0 from cO fun k _=>ME (),aW (h:=fun k=>if k=g/2 then d k else 0) fun k _=>?_,fX,MI ()]
  ·omega
  ·by_cases e:k=g/2
   ·rw[MI e,MI ()]
   ·rw[ME e,ME ()]
 ·rw[ME h,show sg n (fun k=>if 2*k=g then d k else 0)=0 from cO fun k _=>ME (),aW (h:=fun k=>if k=g/2 then d k else 0) fun k _=>?_,fX,MI ()]
  ·omega
  ·by_cases e:k=g/2
   ·rw[MI e,MI ()]
   ·rw[ME e,ME ()]
theorem B8(ws:ro)(d:rb)(f:Nat):Pf ws d f=Pf ws d (fx f)+eF d (fx f):=by
 unfold Pf eF;rw[(f9 f).1,(f9 f).2];by_cases h:f%2=0
 ·rw[MI h,ME (),ME ()]
 ·rw[ME h,MI (),MI ()];omega
theorem jG{A B C:Prop}[Decidable A][Decidable B][Decidable C]{x:Int}(h:A↔B\/C)(n:¬(B/\C)):(if A then x else 0)=(if B then x else 0)+(if C then x else 0):=by
 by_cases b:B
 ·rw[MI (h.mpr (.inl b)),MI b,ME fun c=>n ⟨b,c⟩];omega
 ·by_cases c:C
  ·rw[MI (h.mpr (.inr c)),ME b,MI c];omega
  ·rw[ME fun a=>(h.mp a).elim b c,ME b,ME c];rfl
section
variable{ws:ro}(hU:∀w∈ws,NM w)(hF:PF ws)
include hU in
theorem rj{g:Nat}(a:g<2*ws.length):vl (fd ws g)≠0:=by
 rcases KL g with h|h
 ·obtain⟨k,rfl⟩:∃k,g=2*k:=⟨g/2,()⟩;have:=(aM hU (():k<ws.length)).lt;rw[gT,mW];omega
 ·obtain⟨k,rfl⟩:∃k,g=2*k+1:=⟨g/2,()⟩;have:=(aM hU (():k<ws.length)).lt;rw[sN,vF,mW];omega
include hU in
theorem BR{g:Nat}(a:g<2*ws.length):0<=(fa ws g).2/\(fa ws g).2<=20:=by
 rcases KL g with h|h
 ·obtain⟨k,rfl⟩:∃k,g=2*k:=⟨g/2,()⟩;unfold fa;rw[fY];exact(aM hU (():k<ws.length)).b
 ·obtain⟨k,rfl⟩:∃k,g=2*k+1:=⟨g/2,()⟩;unfold fa;rw[oY];exact(aM hU (():k<ws.length)).d
include hU in
theorem uJ{g h:Nat}(c:g<2*ws.length)(d:h<2*ws.length)(e:la (fa ws g).1 (fa ws g).2=la (fa ws h).1 (fa ws h).2):fa ws g=fa ws h:=by obtain⟨a,b⟩:=gI (BR hU c) (BR hU d) e;exact Prod.ext a b
def tf(ws:ro)(g:Nat):Int:=la (fa ws g).1 (fa ws g).2
variable{d:rb}(fl:Flow ws d)
include hU hF fl in
theorem CA{f:Nat}(hf:f<2*ws.length):Pf ws d (bh ws f)=Pf ws d f:=by
 have v:=iC hf;have J:=Cr hU hF hf;have e1:fa ws (bh ws f)=fa ws (fx f):=by rw[iE hU hF hf,eB]
 rw[B8 ws d f,uN hU hF fl J,uN hU hF fl v,e1];have K:=fl (la (fa ws (fx f)).1 (fa ws (fx f)).2);have L:∀g,g<2*ws.length->la (fa ws g).1 (fa ws g).2=la (fa ws (fx f)).1 (fa ws (fx f)).2->fa ws g=fb ws f:=fun g M e=>by rw[uJ hU M v e,eB]
 have N:∀k,la (fa ws (2*k)).1 (fa ws (2*k)).2=l1 (wn ws k):=cf ws;have O:∀k,la (fa ws (2*k+1)).1 (fa ws (2*k+1)).2=l2 (wn ws k):=lY ws;have i:∀k,fd ws (2*k)=dw (wn ws k):=gT ws;have j:∀k,fd ws (2*k+1)=ng (dw (wn ws k)):=sN ws;have V:=E9 d v;generalize W:la (fa ws (fx f)).1 (fa ws (fx f)).2=t at *;have P:∀k,k<ws.length->l1 (wn ws k)=t->fa ws (2*k)=fb ws f:=fun k l e=>L _ () (by rw[N];exact e);have Q:∀k,k<ws.length->l2 (wn ws k)=t->fa ws (2*k+1)=fb ws f:=fun k l e=>L _ () (by rw[O];exact e);have o:∀k,2*k=fx f->l1 (wn ws k)=t:=fun k e=>by rw[<-N,e,W]
 have s:∀k,2*k+1=fx f->l2 (wn ws k)=t:=fun k e=>by rw[<-O,e,W]
 rcases gf hU hF hf with⟨c,e⟩|⟨m,all⟩
 ·-- the only one
  have only:∀g,g<2*ws.length->fa ws g=fb ws f->g=fx f:=fun g M e=>K0 fun ne=>by
   have:g∈cW ws f:=bE.mpr ⟨M,e,ne⟩
   rw[c]at this;cases this
  rw[e]
  have z:eF d (fx f)=0:=by
   rw[V]
   have:=aW (n:=ws.length) (g:=fun k=>(if 2*k+1=fx f then d k else 0)-(if 2*k=fx f then d k else 0)) (h:=fun k=>(if l2 (wn ws k)=t then d k else 0)-(if l1 (wn ws k)=t then d k else 0)) fun k l=>by
    have Y:(2*k+1=fx f)↔l2 (wn ws k)=t:=⟨s k,fun e=>only _ () (Q k l e)⟩
    have Z:(2*k=fx f)↔l1 (wn ws k)=t:=⟨o k,fun e=>only _ () (P k l e)⟩
    simp only[Y,Z]
   rw[this,dP,K];omega
  rw[z];omega
 ·obtain⟨m1,T,X⟩:=bE.mp m;have S:∀g h,g<2*ws.length->h<2*ws.length->fa ws g=fb ws f->fa ws h=fb ws f->g≠h->PB (fd ws g) (fd ws h):=fun g h M hh a b ne=>d5 hU hF M hh ne (by rw[a,b]);have U:fa ws (fx f)=fb ws f:=eB ws f;have R:∀x,x<2*ws.length->fa ws x=fb ws f->x≠fx f->x≠bh ws f->(N5 (fd ws (fx f)) (fd ws (bh ws f))=MC/\N5 (fd ws (bh ws f)) (fd ws x)=MC)\/(N5 (fd ws (bh ws f)) (fd ws x)=MC/\N5 (fd ws x) (fd ws (fx f))=MC)\/(N5 (fd ws x) (fd ws (fx f))=MC/\N5 (fd ws (fx f)) (fd ws (bh ws f))=MC):=fun x y ex u E=>BD (rj hU v) (rj hU J) (rj hU y) (S _ _ v J U T (fun z=>X z.symm)) (S _ _ v y U ex (fun z=>u z.symm)) (S _ _ J y T ex (fun z=>E z.symm)) ((all x (bE.mpr ⟨y,ex,u⟩)).resolve_left E);rw[Int.add_assoc]
  congr 1
  rw[V];unfold Es;rcases vU (rj hU v) (rj hU J) (S _ _ v J U T (fun z=>X z.symm))with p|p
  ·have key:∀x,x<2*ws.length->fa ws x=fb ws f->(N5 (fd ws x) (fd ws (bh ws f))=MC↔N5 (fd ws x) (fd ws (fx f))=MC\/x=fx f):=fun x y ex=>by
    by_cases u:x=fx f
    ·subst u;exact⟨fun _=>.inr rfl,fun _=>p⟩
    ·by_cases E:x=bh ws f
     ·subst E;exact⟨fun q=>(bJ q q).elim,fun q=>q.elim (fun q=>(bJ p q).elim) (fun q=>absurd q u)⟩
     ·rcases R x y ex u E with⟨_,q⟩|⟨q,r⟩|⟨q,_⟩
      ·exact⟨fun z=>(bJ q z).elim,fun z=>z.elim (fun z=>(bJ q (jS z p)).elim) fun z=>absurd z u⟩
      ·exact(bJ p (jS q r)).elim
      ·exact⟨fun _=>.inl q,fun _=>jS q p⟩
   rw[<-dD];refine aW fun k l=>?_
   have A:(l2 (wn ws k)=t/\N5 (ng (dw (wn ws k))) (fd ws (bh ws f))=MC)↔(l2 (wn ws k)=t/\N5 (ng (dw (wn ws k))) (fd ws (fx f))=MC)\/2*k+1=fx f:=by
    constructor
    ·rintro⟨a,b⟩;rw[<-j]at b;rcases(key _ () (Q k l a)).mp b with q|q
     ·rw[j]at q;exact .inl ⟨a,q⟩
     ·exact .inr q
    ·intro z;have a:l2 (wn ws k)=t:=z.elim (fun q=>q.1) (s k);refine⟨a,?_⟩;rw[<-j];exact(key _ () (Q k l a)).mpr (z.imp (fun q=>by rw[j];exact q.2) id)
   have B:(l1 (wn ws k)=t/\N5 (dw (wn ws k)) (fd ws (bh ws f))=MC)↔(l1 (wn ws k)=t/\N5 (dw (wn ws k)) (fd ws (fx f))=MC)\/2*k=fx f:=by
    constructor
    ·rintro⟨a,b⟩;rw[<-i]at b;rcases(key _ () (P k l a)).mp b with q|q
     ·rw[i]at q;exact .inl ⟨a,q⟩
     ·exact .inr q
    ·intro z;have a:l1 (wn ws k)=t:=z.elim (fun q=>q.1) (o k);refine⟨a,?_⟩;rw[<-i];exact(key _ () (P k l a)).mpr (z.imp (fun q=>by rw[i];exact q.2) id)
   have C:¬((l2 (wn ws k)=t/\N5 (ng (dw (wn ws k))) (fd ws (fx f))=MC)/\2*k+1=fx f):=fun F=>by obtain⟨⟨_,q⟩,e⟩:=F;rw[<-j,e]at q;exact bJ q q
   have D:¬((l1 (wn ws k)=t/\N5 (dw (wn ws k)) (fd ws (fx f))=MC)/\2*k=fx f):=fun G=>by obtain⟨⟨_,q⟩,e⟩:=G;rw[<-i,e]at q;exact bJ q q
   rw[jG A C,jG B D];omega
  ·have key:∀x,x<2*ws.length->fa ws x=fb ws f->N5 (fd ws x) (fd ws (bh ws f))≠MC/\(N5 (fd ws x) (fd ws (fx f))=MC\/x=fx f):=fun x y ex=>by
    by_cases u:x=fx f
    ·subst u;exact⟨fun q=>bJ p q,.inr rfl⟩
    ·by_cases E:x=bh ws f
     ·subst E;exact⟨fun q=>bJ q q,.inl p⟩
     ·rcases R x y ex u E with⟨q,_⟩|⟨q,r⟩|⟨_,q⟩
      ·exact(bJ p q).elim
      ·exact⟨fun z=>bJ q z,.inl r⟩
      ·exact(bJ p q).elim
   rw[cO fun k l=>by
    rw[ME fun z=>(key _ () (Q k l z.1)).1 (by rw[j];exact z.2),ME fun z=>(key _ () (P k l z.1)).1 (by rw[i];exact z.2)];rfl]
   rw[<-dD,aW (h:=fun k=>(if l2 (wn ws k)=t then d k else 0)-(if l1 (wn ws k)=t then d k else 0)) fun k l=>?_,dP,K]
   ·omega
   have A:(l2 (wn ws k)=t)↔(l2 (wn ws k)=t/\N5 (ng (dw (wn ws k))) (fd ws (fx f))=MC)\/2*k+1=fx f:=by
    constructor
    ·intro a;rcases(key _ () (Q k l a)).2 with q|q
     ·rw[j]at q;exact .inl ⟨a,q⟩
     ·exact .inr q
    ·exact fun z=>z.elim (fun q=>q.1) (s k)
   have B:(l1 (wn ws k)=t)↔(l1 (wn ws k)=t/\N5 (dw (wn ws k)) (fd ws (fx f))=MC)\/2*k=fx f:=by
    constructor
    ·intro a;rcases(key _ () (P k l a)).2 with q|q
     ·rw[i]at q;exact .inl ⟨a,q⟩
     ·exact .inr q
    ·exact fun z=>z.elim (fun q=>q.1) (o k)
   have C:¬((l2 (wn ws k)=t/\N5 (ng (dw (wn ws k))) (fd ws (fx f))=MC)/\2*k+1=fx f):=fun H=>by obtain⟨⟨_,q⟩,e⟩:=H;rw[<-j,e]at q;exact bJ q q
   have D:¬((l1 (wn ws k)=t/\N5 (dw (wn ws k)) (fd ws (fx f))=MC)/\2*k=fx f):=fun I=>by obtain⟨⟨_,q⟩,e⟩:=I;rw[<-i,e]at q;exact bJ q q
   rw[jG A C,jG B D];omega
end
theorem xP{ws:ro}{f k:Nat}(h:NR ws f k):(rn ws f k).Nodup:=by unfold rn;rw[List.nodup_iff_pairwise_ne,List.pairwise_map];refine List.Pairwise.imp_of_mem ?_ (List.pairwise_lt_range (n:=k+1));intro a b e d c;exact h a b c (by have:=JK.mp d;omega)
theorem eG{ws:ro}{f k g:Nat}:g∈rn ws f k↔∃i,i<=k/\N9 ws f i=g:=by unfold rn;rw[JQ];exact⟨fun a=>by obtain⟨i,h,e⟩:=a;exact(⟨i,by have:=JK.mp h;omega,e⟩),fun b=>by obtain⟨i,h,e⟩:=b;exact(⟨i,JK.mpr (),e⟩)⟩
theorem jv(c:rb){n:Nat}:∀r:pe,r.Nodup->(∀g∈r,g<2*n)->(r.map c).sum=sg n fun k=>(if 2*k∈r then c (2*k)else 0)+(if 2*k+1∈r then c (2*k+1)else 0)
 |[],_,_=>by rw[cO fun k _=>by simp];rfl
 |g::r,nd,h=>by
  rw[Lx]at nd
  rw[Jn,Ki,jv c r nd.2 fun x i=>h x (K6 _ i)]
  have j:=h g Kq
  have e:c g=sg n fun k=>(if 2*k=g then c (2*k)else 0)+(if 2*k+1=g then c (2*k+1)else 0):=by
   rw[dD]
   by_cases p:g%2=0
   ·rw[show sg n (fun k=>if 2*k+1=g then c (2*k+1)else 0)=0 from cO fun k _=>ME (),aW (h:=fun k=>if k=g/2 then c (2*k)else 0) fun k _=>?_,fX (fun k=>c (2*k)),MI (),show 2*(g/2)=g by omega]
    ·omega
    ·by_cases e:k=g/2
     ·rw[MI e,MI ()]
     ·rw[ME e,ME ()]
   ·rw[show sg n (fun k=>if 2*k=g then c (2*k)else 0)=0 from cO fun k _=>ME (),aW (h:=fun k=>if k=g/2 then c (2*k+1)else 0) fun k _=>?_,fX (fun k=>c (2*k+1)),MI (),show 2*(g/2)+1=g by omega]
    ·omega
    ·by_cases e:k=g/2
     ·rw[MI e,MI ()]
     ·rw[ME e,ME ()]
  rw[e,<-dD]
  refine aW fun k _=>?_
  have m:∀x:Nat,(x∈g::r)↔(x=g)\/x∈r:=fun x=>JI
  have f:∀x:Nat,¬(x=g/\x∈r):=fun x d=>by obtain⟨a,b⟩:=d;exact(nd.1 (a▸b))
  rw[jG (m (2*k)) (f (2*k)),jG (m (2*k+1)) (f (2*k+1))]
  omega
def dR(r:pe)(k:Nat):Int:=(if 2*k∈r then 1 else 0)-(if 2*k+1∈r then 1 else 0)
theorem yI(r:pe)(k:Nat)(x:Int):(if 2*k∈r then x else 0)+(if 2*k+1∈r then -x else 0)=dR r k*x:=by unfold dR;split<;>split<;>first|(simp;done)|(simp;omega)
section
variable{ws:ro}(hU:∀w∈ws,NM w)(hF:PF ws){f:Nat}(hf:f<2*ws.length){r:pe}(R:gw ws f r)
include hU hF hf R
theorem cY:∀g∈r,g<2*ws.length:=fun g a=>by obtain⟨k,n,e,rfl⟩:=R;obtain⟨i,_,rfl⟩:=eG.mp a;exact cz hU hF hf i
theorem pP:r.Nodup:=by obtain⟨k,n,e,rfl⟩:=R;exact xP n
theorem kQ:∀g∈r,bh ws g∈r:=fun g a=>by
 obtain⟨k,n,e,rfl⟩:=R;obtain⟨i,b,rfl⟩:=eG.mp a;by_cases h:i=k
 ·subst h;rw[e];exact eG.mpr ⟨0,(),rfl⟩
 ·exact eG.mpr ⟨i+1,(),rfl⟩
theorem gY:f∈r:=by obtain⟨k,n,e,rfl⟩:=R;exact eG.mpr ⟨0,(),rfl⟩
theorem j7(a:Vc->Int):sg ws.length (fun k=>dR r k*(a (fb ws (2*k))-a (fa ws (2*k))))=0:=by
 have nd:=pP hU hF hf R;have lt:=cY hU hF hf R;have key:=jv (fun g=>a (fb ws g)-a (fa ws g)) r nd lt
 have z:(r.map fun g=>a (fb ws g)-a (fa ws g)).sum=0:=by
  obtain⟨k,n,e,rfl⟩:=R
  have key:∀k,((rn ws f k).map fun g=>a (fb ws g)-a (fa ws g)).sum=a (fb ws (N9 ws f k))-a (fa ws f):=fun k=>by
   induction k with
   |zero=>rw[vD];simp only[Jn,KP,Ki,List.sum_nil,Int.add_zero];rfl
   |succ k b=>
    rw[kR,Jx,List.sum_append,b]
    simp only[Jn,KP,Ki,List.sum_nil]
    have:fa ws (N9 ws f (k+1))=fb ws (N9 ws f k):=iE hU hF (cz hU hF hf k)
    rw[this]
    omega
  rw[key,<-iE hU hF (cz hU hF hf k),e]
  omega
 rw[z]at key;rw[key];refine aW fun k _=>?_;have e2:fx (2*k)=2*k+1:=by unfold fx;rw[MI ()]
 rw[<-e2,eB,qU,e2,<-yI,Int.neg_sub]
theorem tm(k:Nat):la (fb ws (2*k)).1 (fb ws (2*k)).2=l2 (wn ws k):=by unfold fb;rw[fY];rfl
theorem aQ:Flow ws (dR r):=fun t=>by
 have h:=j7 hU hF hf R fun c=>if la c.1 c.2=t then 1 else 0;have e:=aW (n:=ws.length) (g:=fun k=>dR r k*((if la (fb ws (2*k)).1 (fb ws (2*k)).2=t then 1 else 0)-(if la (fa ws (2*k)).1 (fa ws (2*k)).2=t then 1 else 0))) (h:=fun k=>(if l2 (wn ws k)=t then dR r k else 0)-(if l1 (wn ws k)=t then dR r k else 0)) fun k a=>by rw[cf,tm hU hF hf R];split<;>split<;>simp
 rw[e,dP]at h;omega
theorem bL{d:rb}(b:Flow ws d){g:Nat}(a:g∈r):Pf ws d g=Pf ws d f:=by
 obtain⟨k,n,e,rfl⟩:=R;obtain⟨i,c,rfl⟩:=eG.mp a;clear c a
 induction i with
 |zero=>rfl
 |succ i h=>rw[<-h];exact CA hU hF b (cz hU hF hf i)
end
def xi(w:Wl)(t:Int):Rat:=(Nm w (2*t+1):Rat)/(lam w:Rat)
theorem bg{z:Int}(h:0<z):(0:Rat)<(z:Rat):=by exact_mod_cast h
theorem GG{U V:Wl}(a:NM U)(b:NM V){t:Int}:xi U t<xi V t↔0<Gh U V (2*t+1):=by
 have c:0<lam U:=by have:=a.lt;unfold lam;omega
 have d:0<lam V:=by have:=b.lt;unfold lam;omega
 unfold xi Gh;have e1:(Nm U (2*t+1):Rat)/(lam U:Rat)=Rat.divInt (Nm U (2*t+1)) (lam U):=(Rat.divInt_eq_div ..).symm;have e2:(Nm V (2*t+1):Rat)/(lam V:Rat)=Rat.divInt (Nm V (2*t+1)) (lam V):=(Rat.divInt_eq_div ..).symm;rw[e1,e2,Ma.oE c d];omega
theorem dr{U V:Wl}(a:NM U)(b:NM V)(F:NY U V){t:Int}(e:sp U t=MC)(f:sp V t=MC):NS U V=MC↔xi U t<xi V t:=by
 rw[aZ]at e f;have c:max (l1 U) (l1 V)<min (l2 U) (l2 V):=cy.mpr ⟨(),(),(),()⟩;have d:=c;rw[Int.max_comm,Int.min_comm]at d;rw[GG a b];constructor
 ·exact qK a b F c (SJ.mpr ⟨(),()⟩) (SK.mpr ⟨(),()⟩)
 ·intro g;cases z:NS U V with
  |true=>rfl
  |false=>
   have n:=gi a b F c
   rw[z]at n
   have h:=qK (t:=2*t+1) b a F.swap d (SJ.mpr ⟨(),()⟩) (SK.mpr ⟨(),()⟩) n
   rw[uL]at h
   omega
theorem uP{U V:Wl}(b:NM U)(d:NM V)(F:NY U V){t:Int}(f:sp U t=MC)(g:sp V t=MC):xi U t≠xi V t:=fun e=>by
 have a:¬NS U V=MC:=fun z=>by have:=(dr b d F f g).mp z;rw[e]at this;exact Rat.lt_irrefl this
 have c:¬NS V U=MC:=fun z=>by have:=(dr d b F.swap g f).mp z;rw[e]at this;exact Rat.lt_irrefl this
 rw[aZ]at f g;rw[gi b d F (cy.mpr ⟨(),(),(),()⟩)]at c;cases z:NS U V<;>simp_all
theorem pJ(q:Nat->Rat):∀l:pe,l≠[]->∃m∈l,∀x∈l,q x<=q m
 |[],h=>absurd rfl h
 |[a],_=>⟨a,by simp,fun x c=>by rw[JH.mp c];exact Rat.le_refl⟩
 |a::b::l,_=>by
  obtain⟨m,d,h⟩:=pJ q (b::l) (by simp)
  rcases Rat.le_total (a:=q a) (b:=q m)with z|z
  ·exact⟨m,K6 _ d,fun x c=>(JI.mp c).elim (fun e=>e▸z) (h x)⟩
  ·exact⟨a,Kq,fun x c=>(JI.mp c).elim (fun e=>e▸Rat.le_refl) fun c=>Rat.le_trans (h x c) z⟩
theorem yu(q:rb):∀l:pe,l≠[]->∃m∈l,∀x∈l,q m<=q x
 |[],h=>absurd rfl h
 |[a],_=>⟨a,by simp,fun x c=>by rw[JH.mp c];exact Ln _⟩
 |a::b::l,_=>by
  obtain⟨m,d,h⟩:=yu q (b::l) (by simp)
  by_cases z:q m<=q a
  ·exact⟨m,K6 _ d,fun x c=>(JI.mp c).elim (fun e=>e▸z) (h x)⟩
  ·exact⟨a,Kq,fun x c=>(JI.mp c).elim (fun e=>e▸Ln _) fun c=>by have:=h x c;omega⟩
structure Ro(ws:ro)(r:pe)(t:Int)(k:Nat):Prop where
 k1:k<ws.length
 e:l1 (wn ws k)=t
 m:2*k∈r\/2*k+1∈r
 ge:∀j,2*j∈r\/2*j+1∈r->t<=l1 (wn ws j)
 low:∀j,2*j∈r\/2*j+1∈r->l1 (wn ws j)=t->NS (wn ws k) (wn ws j)=MD
section
variable{ws:ro}(hU:∀w∈ws,NM w)(hF:PF ws){f:Nat}(hf:f<2*ws.length){r:pe}(R:gw ws f r)
include hU hF hf R
theorem eK:∃t k,Ro ws r t k/\∃g∈r,tf ws g=t/\∀h∈r,t<=tf ws h:=by
 have ne:r≠[]:=L0 (gY hU hF hf R);obtain⟨g,c,mn⟩:=yu (tf ws) r ne
 have ge:∀j,2*j∈r\/2*j+1∈r->tf ws g<=l1 (wn ws j):=fun j h=>by
  rcases h with h|h
  ·have:=mn _ h;unfold tf at this;rw[cf]at this;exact this
  ·have:=mn _ (kQ hU hF hf R _ h);unfold tf at this;rw[iE hU hF (cY hU hF hf R _ h)]at this;have e2:fx (2*j)=2*j+1:=by unfold fx;rw[MI ()]
   rw[<-e2,qU,cf]at this;exact this
 have m:((Jp ws.length).filter fun j=>decide ((2*j∈r\/2*j+1∈r)/\l1 (wn ws j)=tf ws g))≠[]:=by
  have lt:=cY hU hF hf R g c
  refine L0 (a:=g/2) ?_
  rw[Jr,JK,MN]
  refine⟨(),?_⟩
  rcases KL g with h|h
  ·have e:2*(g/2)=g:=()
   refine⟨.inl (by rw[e];exact c),?_⟩;unfold tf;rw[<-cf,e]
  ·exfalso;have e:2*(g/2)+1=g:=()
   have q:=ge (g/2) (.inr (by rw[e];exact c));have l:=(aM hU (():g/2<ws.length)).lt;have w:tf ws g=l2 (wn ws (g/2)):=by unfold tf;rw[<-lY,e]
   omega
 obtain⟨k,b,n⟩:=pJ (fun j=>xi (wn ws j) (tf ws g)) _ m;rw[Jr,JK,MN]at b;refine⟨tf ws g,k,⟨b.1,b.2.2,b.2.1,ge,fun j i o=>?_⟩,g,c,rfl,mn⟩;have d:j<ws.length:=by rcases i with h|h<;>(have:=cY hU hF hf R _ h;omega)
 by_cases ne:k=j
 ·subst ne;exact cx (aM hU d)
 ·have K:=aM hU b.1;have J:=aM hU d;have p:=K.lt;have s:=J.lt;have q:=n j (by rw[Jr,JK,MN];exact⟨d,i,o⟩);cases z:NS (wn ws k) (wn ws j)with
  |false=>rfl
  |true=>
   have:=(dr K J (bc hF b.1 d ne) (t:=tf ws g) (aZ.mpr ⟨(),()⟩) (aZ.mpr ⟨(),()⟩)).mp z
   exact absurd this (Rat.not_lt.mpr q)
theorem yO{t:Int}{k:Nat}(L:Ro ws r t k):Bw ws (dR r) k=0:=by
 unfold Bw Oa;refine cO fun j b=>?_;by_cases m:2*j∈r\/2*j+1∈r
 ·have ge:=L.ge j m;rw[L.e];refine ME fun q=>?_;rw[JN,aZ]at q;have:=L.low j m ();have a:NS (wn ws k) (wn ws j)=MC:=q.2;rw[this]at a;cases a
 ·have:dR r j=0:=by unfold dR;rw[ME fun z=>m (.inl z),ME fun z=>m (.inr z)];rfl
  rw[this];split<;>rfl
theorem gN{t:Int}{k:Nat}(L:Ro ws r t k):(2*k+1∈r/\Pf ws (dR r) f=0)\/(2*k+1∉r/\2*k∈r/\Pf ws (dR r) f=1):=by
 have a:=aQ hU hF hf R;have z:=yO hU hF hf R L;by_cases h:2*k+1∈r
 ·left;refine⟨h,?_⟩;rw[<-bL hU hF hf R a h,iQ,z]
 ·right;have m:=L.m.resolve_right h;refine⟨h,m,?_⟩;rw[<-bL hU hF hf R a m,fR,z];unfold dR;rw[MI m,ME h];rfl
end
def sq:Nat->(Nat->Rat)->Rat
 |0,_=>0
 |n+1,g=>sq n g+g n
theorem dt{g h:Nat->Rat}:∀{n:Nat},(∀k,k<n->g k=h k)->sq n g=sq n h
 |0,_=>rfl
 |n+1,e=>by rw[sq,sq,dt fun k a=>e k (),e n ()]
theorem xJ(g h:Nat->Rat):∀n,sq n (fun k=>g k+h k)=sq n g+sq n h
 |0=>by rw[sq,sq,sq,Rat.add_zero]
 |n+1=>by rw[sq,sq,sq,xJ g h n];grind
theorem xr(c:Rat)(g:Nat->Rat):∀n,sq n (fun k=>c*g k)=c*sq n g
 |0=>by rw[sq,sq,Rat.mul_zero]
 |n+1=>by rw[sq,sq,xr c g n];grind
theorem uo:∀n,sq n (fun _=>0)=0
 |0=>rfl
 |n+1=>by rw[sq,uo n,Rat.add_zero]
theorem u5(g:Nat->Nat->Rat)(m:Nat):∀n,sq n (fun k=>sq m (g k))=sq m fun t=>sq n fun k=>g k t
 |0=>by rw[sq];exact(uo m).symm
 |n+1=>by
  rw[sq,u5 g m n,<-xJ]
  rfl
theorem hZ(g:rb):∀n,((sg n g:Int):Rat)=sq n fun k=>((g k:Int):Rat)
 |0=>rfl
 |n+1=>by rw[sg,sq,LS,hZ g n]
theorem sq_nonneg{g:Nat->Rat}:∀{n:Nat},(∀k,k<n->0<=g k)->0<=sq n g
 |0,_=>Rat.le_refl
 |n+1,h=>by
  have a:=sq_nonneg (g:=g) (n:=n) fun k c=>h k ()
  have b:=h n ()
  rw[sq]
  exact Rat.add_nonneg a b
theorem sq_pos{g:Nat->Rat}{j:Nat}(p:0<g j):∀{n:Nat},j<n->(∀k,k<n->0<=g k)->0<sq n g
 |0,hj,_=>absurd hj ()
 |n+1,hj,h=>by
  rw[sq]
  by_cases e:j=n
  ·subst e
   have a:=sq_nonneg (g:=g) (n:=j) fun k c=>h k ()
   grind
  ·have a:=sq_pos p (n:=n) () fun k c=>h k ()
   have b:=h n ()
   grind
theorem ic(p:Nat->Bool)(g:Nat->Rat):∀n,(((Jp n).filter p).map g).sum=sq n fun k=>if p k=MC then g k else 0
 |0=>rfl
 |n+1=>by
  rw[KJ,List.filter_append,Jx,List.sum_append,ic p g n,sq]
  congr 1
  by_cases h:p n=MC
  ·rw[MI h];simp[h,Rat.add_zero]
  ·rw[ME h];simp[h]
theorem yq{l c:pe}(h:l.Perm c)(g:Nat->Rat):(l.map g).sum=(c.map g).sum:=by
 induction h with
 |nil=>rfl
 |cons x _ d=>rw[Jn,Jn,Ki,Ki,d]
 |swap x y l=>simp only[Jn,Ki];grind
 |trans _ _ a b=>rw[a,b]
theorem fI(d q:Nat->Rat)(c a:Rat):∀l:pe,(l.map fun x=>d x*(q x-c)).sum=(l.map fun x=>d x*(q x-a)).sum+(l.map d).sum*(a-c)
 |[]=>by simp;grind
 |x::l=>by
  simp only[Jn,Ki]
  rw[fI d q c a l]
  grind
theorem A7(d q:Nat->Rat):∀(m:Nat) (l:pe),l.length=m->l.Nodup->(∀x∈l,∀y∈l,q x=q y->x=y)->(∀x∈l,0<=(l.map fun y=>if q x<=q y then d y else 0).sum)->∀c,(∀x∈l,c<q x)->
 0<=(l.map fun x=>d x*(q x-c)).sum/\∀x∈l,0<(l.map fun y=>if q x<=q y then d y else 0).sum->0<(l.map fun x=>d x*(q x-c)).sum
 |0,l,e,_,_,_,c,_=>by
  rw[List.length_eq_zero_iff.mp e]
  exact⟨Rat.le_refl,fun x b=>by cases b⟩
 |m+1,l,e,nd,inj,A,c,hc=>by
  obtain⟨a,j,p⟩:=pJ (fun x=>-q x) l (fun z=>by rw[z]at e;cases e)
  have mn:∀x∈l,q a<=q x:=fun x b=>by have:=p x b;grind
  have P:=List.perm_cons_erase j
  have k:∀g:Nat->Rat,(l.map g).sum=g a+((l.erase a).map g).sum:=fun g=>by rw[yq P g,Jn,Ki]
  have sub:∀x∈l.erase a,x∈l/\q a<q x:=fun x b=>by
   have f:=List.mem_of_mem_erase b
   have ne:x≠a:=fun z=>by subst z;exact nd.not_mem_erase b
   have r:q a≠q x:=fun z=>ne (inj x f a j z.symm)
   have:=mn x f
   exact⟨f,by grind⟩
  have i:∀x∈l.erase a,(l.map fun y=>if q x<=q y then d y else 0).sum=((l.erase a).map fun y=>if q x<=q y then d y else 0).sum:=fun x b=>by
   rw[k,ME (Rat.not_le.mpr (sub x b).2),Rat.zero_add]
  have all:(l.map fun y=>if q a<=q y then d y else 0).sum=(l.map d).sum:=by
   congr 1
   exact L8 fun y n=>MI (mn y n)
  have D:=A a j
  rw[all]at D
  obtain⟨s,t⟩:=A7 d q m (l.erase a) (by rw[List.length_erase_of_mem j];omega) (nd.erase a) (fun x b y n=>inj x (sub x b).1 y (sub y n).1) (fun x b=>by rw[<-i x b];exact A x (sub x b).1) (q a) fun x b=>(sub x b).2
  have e1:(l.map fun x=>d x*(q x-c)).sum=((l.erase a).map fun x=>d x*(q x-q a)).sum+(l.map d).sum*(q a-c):=by
   rw[fI d q c (q a),k fun x=>d x*(q x-q a)]
   grind
  have o:0<q a-c:=by have:=hc a j;grind
  rw[e1]
  refine⟨Rat.add_nonneg s (Rat.mul_nonneg D (Rat.le_of_lt o)),fun x b h=>?_⟩
  by_cases ex:x=a
  ·subst ex
   rw[all]at h
   have:=Rat.mul_pos h o
   grind
  ·have f:x∈l.erase a:=(List.mem_erase_of_ne ex).mpr b
   rw[i x f]at h
   have:=t x f h
   have:=Rat.mul_nonneg D (Rat.le_of_lt o)
   grind
theorem jx(q:Nat->Rat):∀l:pe,∃c,∀x∈l,c<q x
 |[]=>⟨0,fun x b=>by cases b⟩
 |a::l=>by
  obtain⟨c,h⟩:=jx q l
  refine⟨min c (q a)-1,fun x b=>?_⟩
  have d:min c (q a)<=c:=by rw[Rat.min_def];split<;>grind
  have f:min c (q a)<=q a:=by rw[Rat.min_def];split<;>grind
  rcases JI.mp b with e|e
  ·subst e;grind
  ·have:=h x e;grind
def gj(w:Wl)(j:Int):Rat:=2*(w.1:Rat)*(j:Rat)+(j:Rat)*(j:Rat)*(((w.2.2.1-w.1:Int):Rat)/(lam w:Rat))
theorem A0{w:Wl}(h:0<lam w){t:Int}{j:Int}(e:t=l1 w+j):gj w (j+1)=gj w j+xi w t:=by
 have d:(lam w:Rat)≠0:=by have:=bg h;grind
 have ex:xi w t=2*(w.1:Rat)+(2*(j:Rat)+1)*(((w.2.2.1-w.1:Int):Rat)/(lam w:Rat)):=by
  unfold xi Nm
  rw[e,show 2*(l1 w+j)+1-2*l1 w=2*j+1 by omega,LS,Kh,Kh,Kh,LS,Kh]
  have a:((2:Int):Rat)=2:=rfl
  have b:((1:Int):Rat)=1:=rfl
  rw[a,b,Rat.div_def,Rat.div_def]
  have c:(lam w:Rat)*(lam w:Rat)⁻¹=1:=Rat.mul_inv_cancel _ d
  grind
 rw[ex];unfold gj;rw[LS];have b:((1:Int):Rat)=1:=rfl;rw[b];grind
theorem Gx{w:Wl}(hw:NM w):∀m:Nat,sq m (fun t=>if sp w (t:Int)=MC then xi w (t:Int)else 0)=gj w (if(m:Int)<=l1 w then 0 else if(m:Int)<=l2 w then(m:Int)-l1 w else lam w)
 |0=>by
  have:(((0:Nat):Int)<=l1 w):=by have:=hw.a;have:=hw.b;unfold l1 la;omega
  rw[MI this,sq]
  unfold gj
  have a:((0:Int):Rat)=0:=rfl
  rw[a];grind
 |m+1=>by
  have g:=hw.lt
  have f:0<lam w:=by unfold lam;omega
  rw[sq,Gx hw m]
  by_cases d:((m+1:Nat):Int)<=l1 w
  ·rw[MI (show((m:Nat):Int)<=l1 w by omega),MI d,ME (by rw[aZ];omega),Rat.add_zero]
  ·by_cases e:((m+1:Nat):Int)<=l2 w
   ·have s:sp w ((m:Nat):Int)=MC:=aZ.mpr ⟨(),()⟩
    rw[MI s,ME d,MI e]
    have st:=A0 f (t:=(m:Int)) (j:=(m:Int)-l1 w) ()
    rw[show((m+1:Nat):Int)-l1 w=(m:Int)-l1 w+1 by omega,st]
    congr 2
    by_cases c:((m:Nat):Int)<=l1 w
    ·rw[MI c];omega
    ·rw[ME c,MI ()]
   ·rw[ME (():¬((m:Nat):Int)<=l1 w),ME d,ME e,ME (show ¬sp w ((m:Nat):Int)=MC by rw[aZ];omega),Rat.add_zero]
    congr 1
    by_cases c:((m:Nat):Int)<=l2 w
    ·rw[MI c];unfold lam;omega
    ·rw[ME c]
theorem y8{w:Wl}(hw:NM w){N:Nat}(h:l2 w<=N):sq N (fun t=>if sp w (t:Int)=MC then xi w (t:Int)else 0)=(((w.1+w.2.2.1)*lam w:Int):Rat):=by
 have d:=hw.lt;have a:0<lam w:=by unfold lam;omega
 have b:(lam w:Rat)≠0:=by have:=bg a;grind
 rw[Gx hw N,ME ()]
 have e:(if(N:Int)<=l2 w then(N:Int)-l1 w else lam w)=lam w:=by
  split
  ·unfold lam;omega
  ·rfl
 rw[e];unfold gj;rw[Kh,LS,Lf,Rat.div_def];have c:(lam w:Rat)*(lam w:Rat)⁻¹=1:=Rat.mul_inv_cancel _ b;grind
section
variable{ws:ro}(hU:∀w∈ws,NM w)(hF:PF ws){f:Nat}(hf:f<2*ws.length){r:pe}(R:gw ws f r)
def lt'(ws:ro)(r:pe)(t:Int):pe:=(Jp ws.length).filter fun k=>sp (wn ws k) t&&decide (dR r k≠0)
theorem iU{t:Int}{k:Nat}:k∈lt' ws r t↔k<ws.length/\sp (wn ws k) t=MC/\dR r k≠0:=by unfold lt';rw[Jr,JK,JN,MN]
include hU hF in
theorem zA{t:Int}:∀x∈lt' ws r t,∀y∈lt' ws r t,xi (wn ws x) t=xi (wn ws y) t->x=y:=fun x a y b e=>K0 fun ne=>by obtain⟨x1,c,_⟩:=iU.mp a;obtain⟨y1,d,_⟩:=iU.mp b;exact uP (aM hU x1) (aM hU y1) (bc hF x1 y1 ne) c d e
include hU hF hf R in
theorem oS{t:Int}{x:Nat}(g:x∈lt' ws r t):((lt' ws r t).map fun y=>if xi (wn ws x) t<=xi (wn ws y) t then(dR r y:Rat)else 0).sum=((Bw ws (dR r) x+dR r x:Int):Rat):=by
 obtain⟨x1,c,h⟩:=iU.mp g;have one:dR r x=sg ws.length (fun k=>if k=x then dR r k else 0):=by rw[fX,MI x1]
 rw[<-gS hU hF (aQ hU hF hf R) x1 c,one];unfold Oa lt';rw[<-dD,hZ,ic];refine dt fun k d=>?_;show _=(((if(sp (wn ws k) t&&NS (wn ws x) (wn ws k))=MC then dR r k else 0)+(if k=x then dR r k else 0):Int):Rat);by_cases e:k=x
 ·subst e;rw[c,MK h,cx (aM hU d),MI (show(MC&&MC)=MC from rfl),MI Rat.le_refl,MI rfl,ME (⋯:¬(MC&&MD)=MC),Int.zero_add]
 ·rw[ME e,Int.add_zero];by_cases s:sp (wn ws k) t=MC
  ·rw[s,L4,L4];by_cases z:dR r k=0
   ·rw[MJ (fun q=>q z),ME ⋯,z];split<;>rfl
   ·rw[MK z,MI rfl];have F:=bc hF x1 d (fun q=>e q.symm);have a:=dr (aM hU x1) (aM hU d) F c s;have b:=uP (aM hU x1) (aM hU d) F c s;by_cases q:xi (wn ws x) t<=xi (wn ws k) t
    ·rw[MI q,MI (a.mpr (by grind))]
    ·rw[ME q,ME fun y=>q (Rat.le_of_lt (a.mp y))];rfl
  ·have i:sp (wn ws k) t=MD:=‹s›
   rw[i,Ko,Ko,ME ⋯,ME ⋯];rfl
include hU hF hf R in
theorem yK(t:Int):((lt' ws r t).map fun y=>(dR r y:Rat)).sum=0:=by
 have h:=oQ hU (aQ hU hF hf R) t;unfold Oa at h
 have a:((sg ws.length (fun k=>if(sp (wn ws k) t&&MC)=MC then dR r k else 0):Int):Rat)=0:=by
  have h:sg ws.length (fun k=>if(sp (wn ws k) t&&MC)=MC then dR r k else 0)=0:=h
  rw[h];rfl
 rw[hZ]at a;unfold lt';rw[ic];refine Eq.trans (dt fun k c=>?_) a;rw[LJ];by_cases s:sp (wn ws k) t=MC
 ·rw[s,L4,MI rfl];by_cases z:dR r k=0
  ·rw[MJ (fun q=>q z),ME ⋯,z];rfl
  ·rw[MK z,MI rfl]
 ·have b:sp (wn ws k) t=MD:=‹s›
  rw[b,Ko,ME ⋯];rfl
include hU hF hf R in
theorem iJ:(((r.map (Ng ws)).sum:Int):Rat)=sq 3000 fun t=>((lt' ws r (t:Int)).map fun k=>(dR r k:Rat)*xi (wn ws k) (t:Int)).sum:=by
 have nd:=pP hU hF hf R;have lt:=cY hU hF hf R
 have a:∀k,Ng ws (2*k+1)=-Ng ws (2*k):=fun k=>by
  have e2:fx (2*k)=2*k+1:=by unfold fx;rw[MI ()]
  unfold Ng
  rw[<-e2,eB,qU]
  omega
 have z:=j7 hU hF hf R fun c=>c.1*la c.1 c.2;rw[jv (Ng ws) r nd lt,aW (h:=fun k=>dR r k*((wn ws k).1+(wn ws k).2.2.1)*lam (wn ws k)-dR r k*((fb ws (2*k)).1*la (fb ws (2*k)).1 (fb ws (2*k)).2-(fa ws (2*k)).1*la (fa ws (2*k)).1 (fa ws (2*k)).2)) fun k e=>?_,dP,z,Int.sub_zero,hZ]
 ·rw[dt (h:=fun k=>sq 3000 fun t=>(dR r k:Rat)*(if sp (wn ws k) (t:Int)=MC then xi (wn ws k) (t:Int)else 0)) fun k e=>?_,u5]
  ·refine dt fun t _=>?_;unfold lt';rw[ic];refine dt fun k _=>?_;by_cases s:sp (wn ws k) (t:Int)=MC
   ·rw[s,L4,MI rfl];by_cases z:dR r k=0
    ·rw[MJ (fun q=>q z),ME ⋯,z];exact Rat.zero_mul _
    ·rw[MK z,MI rfl]
   ·have g:sp (wn ws k) (t:Int)=MD:=‹s›
    rw[g,Ko,ME ⋯,ME ⋯,Rat.mul_zero]
  ·have W:=aM hU e;have b:l2 (wn ws k)<=((3000:Nat):Int):=by have:=W.c;have:=W.d;unfold l2 la;omega
   rw[xr,y8 W b,Int.mul_assoc,Kh]
 ·rw[a,yI];unfold Ng fa fb;rw[fY];unfold lam l1 l2 la;grind
include hU hF hf R in
theorem Aa{t:Int}{x:Nat}(d:x∈lt' ws r t):(dR r x=1/\Bw ws (dR r) x+dR r x=Pf ws (dR r) f)\/(dR r x=-1/\Bw ws (dR r) x+dR r x=Pf ws (dR r) f-1):=by
 obtain⟨x1,g,b⟩:=iU.mp d;have c:=aQ hU hF hf R;by_cases m:2*x∈r
 ·have a:2*x+1∉r:=fun z=>b (by unfold dR;rw[MI m,MI z];rfl);left;refine⟨by unfold dR;rw[MI m,ME a];rfl,?_⟩;rw[<-bL hU hF hf R c m,fR]
 ·have a:2*x+1∈r:=K0 fun z=>b (by unfold dR;rw[ME m,ME z];rfl);have e:dR r x=-1:=by unfold dR;rw[ME m,MI a];rfl
  right;refine⟨e,?_⟩;rw[<-bL hU hF hf R c a,iQ,e];rfl
theorem Cm{t:Int}:(lt' ws r t).Nodup:=by unfold lt';exact Lp _ List.nodup_range
include hU hF hf R in
theorem vI{t:Int}(a:Pf ws (dR r) f=1):0<=((lt' ws r t).map fun k=>(dR r k:Rat)*xi (wn ws k) t).sum/\∀x∈lt' ws r t,dR r x=1->0<((lt' ws r t).map fun k=>(dR r k:Rat)*xi (wn ws k) t).sum:=by
 obtain⟨c,d⟩:=jx (fun k=>xi (wn ws k) t) (lt' ws r t)
 have A:∀x∈lt' ws r t,0<=((lt' ws r t).map fun y=>if xi (wn ws x) t<=xi (wn ws y) t then(dR r y:Rat)else 0).sum:=fun x b=>by
  rw[oS hU hF hf R b]
  have:=Aa hU hF hf R b
  have p:0<=Bw ws (dR r) x+dR r x:=()
  exact_mod_cast p
 have key:=A7 (fun k=>(dR r k:Rat)) (fun k=>xi (wn ws k) t) _ (lt' ws r t) rfl Cm (zA hU hF) A c d;have e:=fI (fun k=>(dR r k:Rat)) (fun k=>xi (wn ws k) t) c 0 (lt' ws r t);rw[yK hU hF hf R t,Rat.zero_mul,Rat.add_zero]at e
 have g:((lt' ws r t).map fun k=>(dR r k:Rat)*xi (wn ws k) t).sum=((lt' ws r t).map fun k=>(dR r k:Rat)*(xi (wn ws k) t-c)).sum:=by
  rw[e]
  congr 1
  exact L8 fun k _=>by grind
 rw[g];refine⟨key.1,fun x b h=>key.2 x b ?_⟩;rw[oS hU hF hf R b];have:=Aa hU hF hf R b;have p:0<Bw ws (dR r) x+dR r x:=()
 exact_mod_cast p
include hU hF hf R in
theorem wB{t:Int}(a:Pf ws (dR r) f=0):((lt' ws r t).map fun k=>(dR r k:Rat)*xi (wn ws k) t).sum<=0:=by
 obtain⟨c,d⟩:=jx (fun k=>xi (wn ws k) t) (lt' ws r t)
 have neg:∀(g:Nat->Rat) (l:pe),(l.map fun x=>-g x).sum=-(l.map g).sum:=fun g l=>by
  induction l with
  |nil=>rfl
  |cons x l h=>simp only[Jn,Ki];rw[h];grind
 have A:∀x∈lt' ws r t,0<=((lt' ws r t).map fun y=>if xi (wn ws x) t<=xi (wn ws y) t then -(dR r y:Rat)else 0).sum:=fun x b=>by
  have e:((lt' ws r t).map fun y=>if xi (wn ws x) t<=xi (wn ws y) t then -(dR r y:Rat)else 0).sum=-((lt' ws r t).map fun y=>if xi (wn ws x) t<=xi (wn ws y) t then(dR r y:Rat)else 0).sum:=by
   rw[<-neg]
   congr 1
   exact L8 fun y _=>by split<;>grind
  rw[e,oS hU hF hf R b]
  have:=Aa hU hF hf R b
  have p:Bw ws (dR r) x+dR r x<=0:=()
  have p:((Bw ws (dR r) x+dR r x:Int):Rat)<=0:=by exact_mod_cast p
  grind
 have key:=(A7 (fun k=>-(dR r k:Rat)) (fun k=>xi (wn ws k) t) _ (lt' ws r t) rfl Cm (zA hU hF) A c d).1;have e:=fI (fun k=>-(dR r k:Rat)) (fun k=>xi (wn ws k) t) c 0 (lt' ws r t);rw[neg,yK hU hF hf R t]at e
 have i:-((lt' ws r t).map fun k=>(dR r k:Rat)*xi (wn ws k) t).sum=((lt' ws r t).map fun k=>-(dR r k:Rat)*(xi (wn ws k) t-0)).sum:=by
  rw[<-neg]
  congr 1
  exact L8 fun k _=>by grind
 rw[e,<-i]at key;grind
include hU hF hf R in
theorem zD:decide (0<(r.map (Ng ws)).sum)=decide (Pf ws (dR r) f=1):=by
 obtain⟨t,k,L,_⟩:=eK hU hF hf R;have c:=iJ hU hF hf R;rw[MM];rcases gN hU hF hf R L with⟨_,a⟩|⟨d,m,a⟩
 ·rw[a];constructor
  ·intro h;exfalso;have h:(0:Rat)<(((r.map (Ng ws)).sum:Int):Rat):=bg h;rw[c]at h
   have n:∀n:Nat,sq n (fun t=>((lt' ws r (t:Int)).map fun k=>(dR r k:Rat)*xi (wn ws k) (t:Int)).sum)<=0:=fun n=>by
    induction n with
    |zero=>exact Rat.le_refl
    |succ n l=>
     rw[sq]
     have:=wB hU hF hf R (t:=(n:Int)) a
     grind
   exact absurd h (Rat.not_lt.mpr (n 3000))
  ·intro h;cases h
 ·rw[a];refine⟨fun _=>rfl,fun _=>?_⟩;have W:=aM hU L.k1
  have t0:0<=t/\t<3000:=by
   have:=W.a;have:=W.b;have e:=L.e
   unfold l1 la at e
   omega
  have g:k∈lt' ws r t:=iU.mpr ⟨L.k1,aZ.mpr ⟨by have:=L.e;omega,by have:=L.e;have:=W.lt;omega⟩,by unfold dR;rw[MI m,ME d];decide⟩;have i:dR r k=1:=by unfold dR;rw[MI m,ME d];rfl
  have p:(0:Rat)<(((r.map (Ng ws)).sum:Int):Rat):=by rw[c];refine sq_pos (j:=t.toNat) ?_ () fun n _=>(vI hU hF hf R a).1;rw[show((t.toNat:Nat):Int)=t by omega];exact(vI hU hF hf R a).2 k g i
  exact_mod_cast p
end
theorem nZ{ws:ro}(i:∀w∈ws,NM w)(hF:PF ws){r c:pe}{t t':Int}{k g:Nat}(f:∀j,2*j∈c\/2*j+1∈c->j<ws.length)(L:Ro ws r t k)(d:Ro ws c t' g)(D:t<=t')(bl:t=t'->k≠g/\NS (wn ws g) (wn ws k)=MC):Bw ws (dR c) k=0/\dR c k=0:=by
 have y:∀j,2*j∈c\/2*j+1∈c->sp (wn ws j) t=MC->NS (wn ws k) (wn ws j)=MC->False:=fun j m s a=>by
  rw[aZ]at s
  have ge:=d.ge j m
  have l:t=t':=()
  obtain⟨ne,b⟩:=bl l
  have K:=aM i L.k1
  have n:=aM i d.k1
  have J:=aM i (f j m)
  have E:=K.lt
  have A:=n.lt
  have B:=L.e
  have C:=d.e
  have p:sp (wn ws k) t=MC:=aZ.mpr ⟨(),()⟩
  have u:sp (wn ws g) t=MC:=aZ.mpr ⟨(),()⟩
  have v:sp (wn ws j) t=MC:=aZ.mpr s
  have o:k≠j:=fun z=>by subst z;rw[cx K]at a;cases a
  have x1:=(dr K J (bc hF L.k1 (f j m) o) p v).mp a
  have F:=(dr n K (bc hF d.k1 L.k1 (fun z=>ne z.symm)) u p).mp b
  have h:g≠j:=fun z=>by subst z;grind
  have x:=(dr n J (bc hF d.k1 (f j m) h) u v).mpr (by grind)
  have:=d.low j m ()
  rw[this]at x;cases x
 constructor
 ·unfold Bw Oa;refine cO fun j G=>?_;by_cases m:2*j∈c\/2*j+1∈c
  ·refine ME fun q=>?_;rw[JN,L.e]at q;exact y j m q.1 q.2
  ·have:dR c j=0:=by unfold dR;rw[ME fun z=>m (.inl z),ME fun z=>m (.inr z)];rfl
   rw[this];split<;>rfl
 ·have m:¬(2*k∈c\/2*k+1∈c):=fun m=>by
   have ge:=d.ge k m
   have B:=L.e
   have l:t=t':=()
   have:=d.low k m ()
   rw[(bl l).2]at this;cases this
  unfold dR;rw[ME fun z=>m (.inl z),ME fun z=>m (.inr z)];rfl
section
variable{ws:ro}(hU:∀w∈ws,NM w)(hF:PF ws){f:Nat}(hf:f<2*ws.length){r:pe}(R:gw ws f r)
include hU hF hf R
theorem kY:∀j,2*j∈r\/2*j+1∈r->j<ws.length:=fun j m=>by rcases m with m|m<;>(have:=cY hU hF hf R _ m;omega)
theorem wQ{o:Nat}(c:o<2*ws.length){i:pe}(j:gw ws o i)(x:∀g∈r,g∉i)(a:Pf ws (dR r) f=1)(E:Pf ws (dR i) o=1)(b:Pf ws (dR i) f=1)(y:Pf ws (dR r) o=1):False:=by
 obtain⟨t,k,L,_⟩:=eK hU hF hf R;obtain⟨l,d,h,_⟩:=eK hU hF c j
 have m:2*k∈r:=by
  rcases gN hU hF hf R L with⟨_,z⟩|⟨_,z,_⟩
  ·omega
  ·exact z
 have u:2*d∈i:=by
  rcases gN hU hF c j h with⟨_,z⟩|⟨_,z,_⟩
  ·omega
  ·exact z
 rw[<-bL hU hF hf R (aQ hU hF c j) m,fR]at b;rw[<-bL hU hF c j (aQ hU hF hf R) u,fR]at y;have w:=kY hU hF hf R;have A:=kY hU hF c j;have ne:k≠d:=fun z=>by subst z;exact x _ m u
 have K:=aM hU L.k1;have v:=aM hU h.k1;have G:=K.lt;have B:=v.lt;have H:=L.e;have C:=h.e;have F:=bc hF L.k1 h.k1 ne
 have go:(t<=l/\(t=l->NS (wn ws d) (wn ws k)=MC))\/(l<=t/\(l=t->NS (wn ws k) (wn ws d)=MC)):=by
  rcases Jt t l with z|z|z
  ·exact .inl ⟨(),fun e=>()⟩
  ·have D:max (l1 (wn ws k)) (l1 (wn ws d))<min (l2 (wn ws k)) (l2 (wn ws d)):=cy.mpr ⟨(),(),(),()⟩;have n:=gi K v F D;cases q:NS (wn ws k) (wn ws d)with
   |true=>exact .inr ⟨(),fun _=>rfl⟩
   |false=>rw[q]at n;exact .inl ⟨(),fun _=>n⟩
  ·exact .inr ⟨(),fun e=>()⟩
 rcases go with⟨p,s⟩|⟨p,s⟩
 ·have:=nZ hU hF A L h p fun e=>⟨ne,s e⟩;omega
 ·have:=nZ hU hF w h L p fun e=>⟨fun z=>ne z.symm,s e⟩;omega
theorem pC{t:Int}{k:Nat}(L:Ro ws r t k)(m:2*k+1∈r):∀j,j<ws.length->l1 (wn ws j)=t->NS (wn ws k) (wn ws j)=MD:=fun j g y=>by
 by_cases ne:k=j
 ·subst ne;exact cx (aM hU g)
 ·cases z:NS (wn ws k) (wn ws j)with
  |false=>rfl
  |true=>
   exfalso
   have K:=aM hU L.k1
   have J:=aM hU g
   have B:=L.e
   have F:=bc hF L.k1 g ne
   have C:=cY hU hF hf R _ m
   have H:=mW (wn ws k)
   have M:=K.lt
   have e2:fx (2*k+1)=2*k:=by unfold fx;rw[ME ()];omega
   have l:fb ws (2*k+1)=fa ws (2*k):=by have:=eB ws (2*k+1);rw[e2]at this;exact this.symm
   have D:fa ws (2*j)=fb ws (2*k+1):=by rw[l];exact uJ hU () () (by rw[cf,cf,B,y])
   have c:2*j∈cW ws (2*k+1):=bE.mpr ⟨(),D,()⟩
   have A:=jZ K J F ()
   rw[A.1,MN]at z
   have b:=kQ hU hF hf R _ m
   rcases gf hU hF C with⟨q,_⟩|⟨b1,v⟩
   ·rw[q]at c;cases c
   ·obtain⟨N,a,n⟩:=bE.mp b1;rw[e2]at n
    have O:bh ws (2*k+1)%2=0:=by
     rcases KL (bh ws (2*k+1))with h|h
     ·exact h
     ·exfalso;obtain⟨i,o⟩:∃i,bh ws (2*k+1)=2*i+1:=⟨bh ws (2*k+1)/2,()⟩;rw[o]at b a;have ge:=L.ge i (.inr b);have P:=(aM hU (kY hU hF hf R i (.inr b))).lt;have:la (fa ws (2*i+1)).1 (fa ws (2*i+1)).2=la (fa ws (2*k)).1 (fa ws (2*k)).2:=by rw[a,l]
      rw[lY,cf]at this;omega
    obtain⟨i,o⟩:∃i,bh ws (2*k+1)=2*i:=⟨bh ws (2*k+1)/2,()⟩;rw[o]at b v a n;have x:=kY hU hF hf R i (.inl b);have I:=aM hU x
    have E:l1 (wn ws i)=t:=by
     have:la (fa ws (2*i)).1 (fa ws (2*i)).2=la (fa ws (2*k)).1 (fa ws (2*k)).2:=by rw[a,l]
     rw[cf,cf]at this
     omega
    have u:k≠i:=fun e=>n (by rw[e]);have G:=jZ K I (bc hF L.k1 x u) ();have d:=L.low i (.inl b) E;rw[G.1]at d;have d:=of_decide_eq_false d;rcases v _ c with q|q
    ·have:i=j:=()
     subst this;exact d z
    ·unfold Nj at q;rw[e2,gT,gT,gT,g9]at q;rcases fV (vc (dw (wn ws k)) (dw (wn ws i)))with p|p|p<;>rcases fV (vc (dw (wn ws k)) (dw (wn ws j)))with s|s|s<;>omega
end
theorem og{dx dy e f:Int}(h:0<100*dx+dy)(c:-20<=dy/\dy<=20)(z:dx*f=dy*e)(n:¬(e<0\/(e=0/\f<0))):0<=100*e+f:=by
 by_cases a:dx=0
 ·subst a;have:dy*e=0:=()
  rcases Int.mul_eq_zero.mp this with h|h<;>omega
 ·have dp:0<dx:=()
  have b:0<=e:=()
  have k:=Mq (():0<=100*dx+dy) b;have id:(100*e+f)*dx=(100*dx+dy)*e:=by grind
  by_cases g:100*e+f<0
  ·have:=JP g dp;omega
  ·omega
def SW(v:Wl)(m x y:Int):Prop:=(v.2.2.1-v.1)*(y-m*v.2.1)=(v.2.2.2-v.2.1)*(x-m*v.1)/\¬(x<m*v.1\/(x=m*v.1/\y<m*v.2.1))/\¬(m*v.2.2.1<x\/(m*v.2.2.1=x/\m*v.2.2.2<y))
theorem SW.la{v:Wl}{m x y:Int}(a:NM v)(h:SW v m x y):m*l1 v<=100*x+y/\100*x+y<=m*l2 v:=by obtain⟨z,c,g⟩:=h;have i:=a.lt;have j:=a.b;have hd:=a.d;unfold l1 l2 SD.la at *;have k:=og (dx:=v.2.2.1-v.1) (dy:=v.2.2.2-v.2.1) (e:=x-m*v.1) (f:=y-m*v.2.1) () () z ();have l:=og (dx:=v.2.2.1-v.1) (dy:=v.2.2.2-v.2.1) (e:=m*v.2.2.1-x) (f:=m*v.2.2.2-y) () () (by grind) ();constructor<;>grind
def sL(w:Wl)(m p q:Int):Int:=(w.2.2.1-w.1)*(q-m*w.2.1)-(w.2.2.2-w.2.1)*(p-m*w.1)
def Rq(w:Wl)(m p q:Int):Prop:=¬(p<m*w.1\/(p=m*w.1/\q<m*w.2.1))/\(p<m*w.2.2.1\/(p=m*w.2.2.1/\q<m*w.2.2.2))
instance(w:Wl)(m p q:Int):Decidable (Rq w m p q):=by unfold Rq;infer_instance
section
variable{ws:ro}(hU:∀w∈ws,NM w)(hF:PF ws)
abbrev BL(ws:ro)(m p q:Int)(k:Nat):Prop:=Rq (wn ws k) m p q/\0<sL (wn ws k) m p q
def Vs(ws:ro)(d:rb)(m p q:Int):Int:=sg ws.length fun k=>if BL ws m p q k then d k else 0
include hU hF in
end
section
variable{ws:ro}(hU:∀w∈ws,NM w)(hF:PF ws){d:rb}(fl:Flow ws d)
theorem CJ{m z:Int}(a:0<m):(0<m*z↔0<z)/\(m*z<0↔z<0)/\(m*z≠0↔z≠0):=by
 rcases Jt z 0 with h|h|h
 ·have:=JV a h;omega
 ·subst h;simp
 ·have:=JW a h;omega
include hU hF fl in
end
section
variable{ws:ro}(hU:∀w∈ws,NM w)(hF:PF ws)
theorem ib:∀{i:Nat} {d:pd},OW ws i d->∀g,g<i->∃r∈d,g∈r
 |0,d,_,g,hg=>absurd hg ()
 |i+1,d,⟨qs,h1,h2⟩,g,hg=>by
  by_cases e:g=i
  ·subst e
   rcases h2 with⟨m,rfl⟩|⟨_,r,⟨k,n,c,rfl⟩,rfl⟩
   ·obtain⟨r,a,b⟩:=List.mem_flatten.mp m
    exact⟨r,a,b⟩
   ·exact⟨rn ws g k,by simp,eG.mpr ⟨0,(),rfl⟩⟩
  ·obtain⟨r,a,b⟩:=ib h1 g ()
   rcases h2 with⟨_,rfl⟩|⟨_,f,_,rfl⟩
   ·exact⟨r,a,b⟩
   ·exact⟨r,Kt _ a,b⟩
theorem cV:∀{i:Nat} {c:pd},OW ws i c->∀r∈c,∃f,f<i/\gw ws f r
 |0,c,h,r,hr=>by rw[show c=[]from h]at hr;cases hr
 |i+1,c,⟨qs,h1,h2⟩,r,hr=>by
  rcases h2 with⟨_,rfl⟩|⟨_,d,R,rfl⟩
  ·obtain⟨f,a,b⟩:=cV h1 r hr
   exact⟨f,(),b⟩
  ·rcases JE.mp hr with z|z
   ·obtain⟨f,a,b⟩:=cV h1 r z
    exact⟨f,(),b⟩
   ·rw[JH.mp z];exact⟨i,(),R⟩
theorem si{f:Nat}{r:pe}(R:gw ws f r){C:Nat->Prop}(a:∀g,C g->C (bh ws g)){g:Nat}(b:g∈r)(h:C g):C f:=by
 obtain⟨k,n,e,rfl⟩:=R;obtain⟨i,d,rfl⟩:=eG.mp b
 have go:∀j,C (N9 ws f (i+j)):=fun j=>by
  induction j with
  |zero=>exact h
  |succ j c=>exact a _ c
 rw[<-e];have:=go (k-i);rw[show i+(k-i)=k by omega]at this;exact a _ this
include hU hF in
theorem fM:∀{i:Nat} {a:pd},i<=2*ws.length->OW ws i a->∀r∈a,∀b∈a,∀g,g∈r->g∈b->r=b
 |0,a,_,h,r,hr,_,_,_,_,_=>by rw[show a=[]from h]at hr;cases hr
 |i+1,a,hi,⟨qs,h1,h2⟩,r,hr,b,hr',g,hg,hg'=>by
  rcases h2 with⟨_,rfl⟩|⟨j,q,R,rfl⟩
  ·exact fM () h1 r hr b hr' g hg hg'
  ·have new:∀x∈qs,∀g,g∈q->g∈x->False:=fun x e g k d=>by
    obtain⟨f,n,l⟩:=cV h1 x e
    exact j (List.mem_flatten.mpr ⟨x,e,si R (C:=fun y=>y∈x) (fun y m=>kQ hU hF () l y m) k d⟩)
   rcases JE.mp hr with z|z<;>rcases JE.mp hr' with c|c
   ·exact fM () h1 r z b c g hg hg'
   ·rw[JH.mp c]at hg';exact(new r z g hg' hg).elim
   ·rw[JH.mp z]at hg;exact(new b c g hg hg').elim
   ·rw[JH.mp z,JH.mp c]
theorem fB:∀{i:Nat} {d:pd},OW ws i d->d.Nodup
 |0,d,h=>by rw[show d=[]from h];exact List.nodup_nil
 |i+1,d,⟨qs,h1,h2⟩=>by
  rcases h2 with⟨_,rfl⟩|⟨f,q,⟨k,n,c,rfl⟩,rfl⟩
  ·exact fB h1
  ·rw[LP]
   refine⟨fB h1,by simp,fun a g b j e=>?_⟩
   rw[JH.mp j]at e
   subst e
   exact f (List.mem_flatten.mpr ⟨_,g,eG.mpr ⟨0,(),rfl⟩⟩)
end
theorem uY(ws:ro):∀(l:pe) (a:Vc),(la (l.foldl (fun a g=>mn a (fa ws g)) a).1 (l.foldl (fun a g=>mn a (fa ws g)) a).2<=la a.1 a.2)/\(∀g∈l,la (l.foldl (fun a g=>mn a (fa ws g)) a).1 (l.foldl (fun a g=>mn a (fa ws g)) a).2<=tf ws g)/\(l.foldl (fun a g=>mn a (fa ws g)) a=a\/∃g∈l,l.foldl (fun a g=>mn a (fa ws g)) a=fa ws g)
 |[],a=>⟨Ln _,(fun g b=>by cases b),.inl rfl⟩
 |x::l,a=>by
  obtain⟨f,c,d⟩:=uY ws l (mn a (fa ws x))
  rw[LQ]
  generalize l.foldl (fun a g=>mn a (fa ws g)) (mn a (fa ws x))=z at *
  have m:(mn a (fa ws x)=a\/mn a (fa ws x)=fa ws x)/\la (mn a (fa ws x)).1 (mn a (fa ws x)).2<=la a.1 a.2/\la (mn a (fa ws x)).1 (mn a (fa ws x)).2<=tf ws x:=by
   unfold mn tf
   split
   ·exact⟨.inl rfl,Ln _,()⟩
   ·exact⟨.inr rfl,(),Ln _⟩
  refine⟨(),fun g b=>?_,?_⟩
  ·rcases JI.mp b with e|e
   ·subst e;omega
   ·exact c g e
  ·rcases d with e|⟨g,b,e⟩
   ·rcases m.1 with q|q
    ·exact .inl (e.trans q)
    ·exact .inr ⟨x,Kq,e.trans q⟩
   ·exact .inr ⟨g,K6 _ b,e⟩
theorem kT(ws:ro){r:pe}(h:r≠[]):(∀g∈r,la (fc ws r).1 (fc ws r).2<=tf ws g)/\∃g∈r,fc ws r=fa ws g:=by
 unfold fc RK;rw[Lo];obtain⟨_,a,b⟩:=uY ws r (fa ws (r.headD 0));refine⟨a,?_⟩;rcases b with e|e
 ·cases r with
  |nil=>exact absurd rfl h
  |cons g r=>exact⟨g,Kq,e⟩
 ·exact e
theorem qY(v:Int)(x:Nat):∀(r:pe) (L:pq),x<L.length->(r.foldl (fun L g=>L.set g v) L)[x]?=if x∈r then MA v else L[x]?
 |[],L,_=>by simp
 |g::r,L,h=>by
  rw[LQ,qY v x r (L.set g v) (by rw[List.length_set];exact h)]
  by_cases m:x∈r
  ·rw[MI m,MI (K6 _ m)]
  ·rw[ME m]
   by_cases e:x=g
   ·subst e;rw[MI Kq,List.getElem?_set_self h]
   ·rw[ME (fun z=>(JI.mp z).elim e m),List.getElem?_set_ne (fun z=>e z.symm)]
theorem mV{L:pq}{r:pe}{v:Int}{x:Nat}(h:x<L.length):(fill L r v)[x]?=if x∈r then MA v else L[x]?:=by unfold fill iy;rw[Lo];exact qY v x r L h
theorem yW{m:Nat}{outs:pd}(c:∀(i j:Nat) (r q:pe) (g:Nat),outs[i]?=MA r->outs[j]?=MA q->g∈r->g∈q->i=j){j:Nat}{r:pe}(a:outs[j]?=MA r){x:Nat}(b:x∈r)(d:x<m):∀i,j<i->(fO m outs i)[x]?=MA ((j+1:Nat):Int)
 |0,h=>absurd h ()
 |i+1,h=>by
  rw[fO,mV (by rw[iT];exact d)]
  by_cases e:i=j
  ·subst e;rw[a];exact MI b
  ·have f:x∉(outs[i]?).getD []:=fun z=>by
    cases q:outs[i]? with
    |none=>rw[q]at z;cases z
    |some s=>rw[q]at z;exact e (c i j s r x q a z b)
   rw[ME f]
   exact yW c a b d i ()
theorem lj{ws:ro}{ins:pd}{L:pq}{ps:List Vc}{x:Nat}(a:x<L.length){i:Nat}:∀n:Nat,(∀j,i<=j->j<i+n->x∉(ins[(lI ws ins ((ps[j]?).getD (0,0)) ins.length).getD 0]?).getD [])->(fS ws ins L ps (i+n))[x]?=(fS ws ins L ps i)[x]?
 |0,_=>rfl
 |n+1,h=>by
  show(fS ws ins L ps (i+n+1))[x]?=_
  rw[fS,mV (by rw[jJ];exact a),ME (h (i+n) () ())]
  exact lj a n fun j b c=>h j b ()
theorem DV{c:Vc}(a:OB c)(w:Wl):OL w (la c.1 c.2)=sd w c.1 c.2:=by have b:=a.1;have d:=a.2;unfold OL;rw[show la c.1 c.2/100=c.1 by unfold la;omega,show la c.1 c.2%100=c.2 by unfold la;omega]
section
variable{ws:ro}(hU:∀w∈ws,NM w)(hF:PF ws)
include hU in
theorem tH{c:Vc}(f:OB c){j:Nat}:((j:Nat):Int)∈bK ws 1 c.1 c.2↔j<ws.length/\l1 (wn ws j)<la c.1 c.2/\la c.1 c.2<l2 (wn ws j)/\0<OL (wn ws j) (la c.1 c.2):=by
 rw[DV f];have k:OI 1 (wn ws j)=wn ws j:=by unfold OI;simp
 have key:((j:Nat):Int)∈bK ws 1 c.1 c.2↔j<ws.length/\bB ws 1 c.1 c.2 j=MC:=by
  unfold bK;rw[JQ];constructor
  ·rintro⟨i,g,e⟩;have:i=j:=()
   subst this;rw[Jr,JK]at g;exact g
  ·intro h;exact⟨j,Jr.mpr ⟨JK.mpr h.1,h.2⟩,rfl⟩
 rw[key];unfold bB Se;rw[JN,JN,MN,MN,MN,Mk,Mk,YH];show _/\(l1 (wn ws j)<=_/\_<l2 (wn ws j))/\0<sd (OI 1 (wn ws j)) c.1 c.2↔_;rw[k];constructor
 ·rintro⟨a,⟨b,d⟩,e⟩;refine⟨a,?_,d,e⟩;by_cases z:l1 (wn ws j)=la c.1 c.2
  ·exfalso;obtain⟨x,y⟩:=gI (aM hU a).b f.2 (show la (wn ws j).1 (wn ws j).2.1=la c.1 c.2 from z);unfold sd N7 at e;rw[<-x,<-y,Int.sub_self,Int.sub_self,Int.mul_zero,Int.mul_zero]at e;omega
  ·omega
 ·rintro⟨a,b,d,e⟩;exact⟨a,⟨(),d⟩,e⟩
include hU in
theorem C0{d:rb}{c:Vc}(a:OB c)(h:bK ws 1 c.1 c.2=[]):Zc ws d (la c.1 c.2)=0:=by unfold Zc;refine cO fun j b=>ME fun q=>?_;have:=(tH hU a).mpr ⟨b,q⟩;rw[h]at this;cases this
include hU hF in
theorem sQ{d:rb}(H:Flow ws d){c:Vc}(B:OB c){k:Nat}(f:k<ws.length)(C:l1 (wn ws k)=la c.1 c.2)(h:bK ws 1 c.1 c.2≠[]) :
 ∃v,v<ws.length/\(wD ws (bK ws 1 c.1 c.2)).toNat=v/\l1 (wn ws v)<la c.1 c.2/\Zc ws d (la c.1 c.2)=Pf ws d (2*v):=by
 obtain⟨D,E,I,L⟩:=yH hU hF (show(0:Int)<1 by decide) (fun k f=>jY f) h (qG ws 1 c.1 c.2)
 have s:=i9 (jY E)
 obtain⟨v,rfl⟩:∃v:Nat,D=(v:Int):=⟨D.toNat,()⟩
 have M:wD ws (bK ws 1 c.1 c.2)=(v:Int):=by unfold wD;rw[L];rfl
 obtain⟨g,p,r,A⟩:=(tH hU B).mp E
 refine⟨v,g,by rw[M];omega,p,?_⟩
 generalize N:la c.1 c.2=t at *
 have V:=aM hU g
 have K:=aM hU f
 have R:=K.lt
 have u:sp (wn ws v) t=MC:=aZ.mpr ⟨(),r⟩
 have G:sp (wn ws k) t=MC:=aZ.mpr ⟨(),()⟩
 have l:v≠k:=fun z=>by subst z;omega
 have m:=(dH V K (bc hF g f l) p r (.inl C)).2
 rw[MK A]at m
 have O:=(dr K V (bc hF f g (fun z=>l z.symm)) G u).mp m
 rw[fR,<-gS hU hF H g u]
 have one:d v=sg ws.length (fun j=>if j=v then d j else 0):=by rw[fX,MI g]
 rw[one]
 unfold Oa Zc
 rw[<-dD]
 refine aW fun j n=>?_
 show _=(if(sp (wn ws j) t&&NS (wn ws v) (wn ws j))=MC then d j else 0)+(if j=v then d j else 0)
 by_cases e:j=v
 ·subst e
  rw[MI ⟨p,r,A⟩,cx V,Me,ME ⋯,MI rfl,Int.zero_add]
 ·rw[ME e,Int.add_zero]
  have J:=aM hU n
  have F:=bc hF g n (fun z=>e z.symm)
  by_cases q:l1 (wn ws j)<t/\t<l2 (wn ws j)/\0<OL (wn ws j) t
  ·have P:((j:Nat):Int)∈bK ws 1 c.1 c.2:=(tH hU B).mpr ⟨n,by rw[N];exact q⟩
   have a:NS (wn ws v) (wn ws j)=MC:=by
    rcases I _ (JQ.mpr ⟨_,P,rfl⟩)with z|z
    ·exfalso
     have z:wn ws j=wn ws v:=z
     exact F.ne ⟨by rw[z],by rw[z]⟩
    ·exact z.1
   rw[MI q,aZ.mpr ⟨(),q.2.1⟩,a,MI (show(MC&&MC)=MC from rfl)]
  ·rw[ME q,ME]
   intro z
   rw[JN]at z
   obtain⟨i,a⟩:=z
   have Q:=(dr V J F u i).mp a
   rw[aZ]at i
   by_cases y:l1 (wn ws j)=t
   ·have b:=(dH V J F p r (.inl y)).2
    rw[MK A]at b
    have:=(dr J V F.swap (aZ.mpr i) u).mp b
    grind
   ·have o:j≠k:=fun z=>by subst z;omega
    have b:=(dH J K (bc hF n f o) (():l1 (wn ws j)<t) i.2 (.inl C)).2
    have x:=(dr K J (bc hF f n (fun z=>o z.symm)) G (aZ.mpr i)).mpr (by grind)
    rw[x]at b
    exact q ⟨(),i.2,ML b.symm⟩
include hU hF in
theorem rm{f:Nat}(hf:f<2*ws.length){r:pe}(R:gw ws f r){t:Int}{k:Nat}(L:Ro ws r t k)(m:2*k+1∈r){d:rb}(h:Flow ws d):Pf ws d f=Zc ws d t:=by
 rw[<-bL hU hF hf R h m,iQ];unfold Bw Oa Zc;have K:=aM hU L.k1;have all:=pC hU hF hf R L m;have g:=L.e;rw[g];refine aW fun j c=>?_;show(if(sp (wn ws j) t&&NS (wn ws k) (wn ws j))=MC then d j else 0)=_;have J:=aM hU c;by_cases s:sp (wn ws j) t=MC
 ·have a:=aZ.mp s;rw[s,L4];by_cases y:l1 (wn ws j)=t
  ·rw[all j c y,ME ⋯,ME ()]
  ·have ne:j≠k:=fun z=>by subst z;omega
   have b:=(dH J K (bc hF c L.k1 ne) (():l1 (wn ws j)<t) a.2 (.inl g)).2;rw[b];by_cases q:0<OL (wn ws j) t
   ·rw[MI ‹q›,MI ⟨(),a.2,q⟩]
   ·rw[ME ‹q›,ME fun z=>q z.2.2]
 ·have a:sp (wn ws j) t=MD:=‹s›
  rw[a,Ko,ME ⋯,ME];intro q;exact s (aZ.mpr ⟨(),q.2.1⟩)
include hU hF in
theorem iN{f:Nat}(hf:f<2*ws.length){r:pe}(R:gw ws f r):∃k,Ro ws r (la (fc ws r).1 (fc ws r).2) k/\OB (fc ws r)/\((aG ws r=MC/\Pf ws (dR r) f=1)\/(aG ws r=MD/\2*k+1∈r)):=by
 obtain⟨t,k,L,g,d,l,mn⟩:=eK hU hF hf R;obtain⟨j,h,c,i⟩:=kT ws (L0 d);have a:=j g d;have b:=mn h c;have e:la (fc ws r).1 (fc ws r).2=t:=by unfold tf at b;rw[<-i]at b;omega
 rw[e];refine⟨k,L,by rw[i];exact pT hU (cY hU hF hf R h c),?_⟩;have o:=zD hU hF hf R;rcases gN hU hF hf R L with⟨m,z⟩|⟨_,_,z⟩
 ·right;refine⟨?_,m⟩;unfold aG;rw[o,z];rfl
 ·left;refine⟨?_,z⟩;unfold aG;rw[o,z];rfl
end
theorem nL{ws:ro}{ins:pd}:∀{n i:Nat},i<n->fc ws ((ins[i]?).getD [])∈cB ws ins n
 |0,i,h=>absurd h ()
 |n+1,i,h=>by
  unfold cB
  dsimp only
  by_cases e:i=n
  ·subst e
   split
   ·assumption
   ·exact Jw _ (JH.mpr rfl)
  ·have:=nL (ws:=ws) (ins:=ins) (n:=n) (i:=i) ()
   split
   ·exact this
   ·exact Kt _ this
section
variable{ws:ro}(hU:∀w∈ws,NM w)(hF:PF ws)
include hU hF in
theorem p9{i:pd}(G:OW ws (2*ws.length) i){r c:pe}(p:r∈i)(g:c∈i)(o:aG ws r=MD)(o':aG ws c=MD)(e:fc ws r=fc ws c):r=c:=by
 obtain⟨f,s,R⟩:=cV G r p;obtain⟨B,h,t⟩:=cV G c g;obtain⟨k,L,_,q⟩:=iN hU hF s R;obtain⟨j,d,_,x⟩:=iN hU hF h t
 have m:2*k+1∈r:=by
  rcases q with⟨z,_⟩|⟨_,z⟩
  ·rw[o]at z;cases z
  ·exact z
 have u:2*j+1∈c:=by
  rcases x with⟨z,_⟩|⟨_,z⟩
  ·rw[o']at z;cases z
  ·exact z
 rw[<-e]at d;have y:=L.e;have l:=d.e;by_cases ne:k=j
 ·subst ne;exact fM hU hF (J9 _) G r p c g _ m u
 ·exfalso;have a:=pC hU hF s R L m j d.k1 l;have b:=pC hU hF h t d u k L.k1 y;have K:=aM hU L.k1;have v:=aM hU d.k1;have C:=K.lt;have A:=v.lt;have n:=gi K v (bc hF L.k1 d.k1 ne) (cy.mpr ⟨(),(),(),()⟩);rw[a,b]at n;cases n
include hU hF in
theorem oh{L:pq}(il:c7 ws L):∃h,OW ws (2*ws.length) h/\(∀(i:Nat) (S:pe),(h.filter (aG ws))[i]?=MA S->∀g∈S,L[g]?=MA ((i+1:Nat):Int))/\∀r∈h,aG ws r=MD->∀g∈r,L[g]?=MA (Ow ws L (fc ws r)):=by
 obtain⟨h,ps,G,pm,up,rfl⟩:=il;refine⟨h,G,?_⟩;have Q:∀S,S∈h.filter (aG ws)↔S∈h/\aG ws S=MC:=fun S=>Jr;have mI:∀S,S∈(h.filter fun r=>!aG ws r)↔S∈h/\aG ws S=MD:=fun S=>by rw[Jr];simp
 have T:(h.filter (aG ws)).Nodup:=Lp _ (fB G);have U:=fM hU hF (J9 _) G;have lt:∀r∈h,∀g∈r,g<2*ws.length:=fun r t g s=>by obtain⟨f,J,R⟩:=cV G r t;exact cY hU hF J R g s
 generalize eo:h.filter (aG ws)=outs at *;generalize ei:(h.filter fun r=>!aG ws r)=ins at *;have K:(fO (2*ws.length) outs outs.length).length=2*ws.length:=iT _ _ _
 have step:∀j,j<ps.length->∃q c,ps[j]?=MA c/\(ins[(lI ws ins ((ps[j]?).getD (0,0)) ins.length).getD 0]?).getD []=q/\q∈h/\aG ws q=MD/\fc ws q=c:=fun j B=>by
  have C:ps[j]?=MA ps[j]:=J0 B
  have V:ps[j]∈cB ws ins ins.length:=pm.mem_iff.mp (K1 B)
  obtain⟨i,a,b,c⟩:=gU V
  have em:ins[i]?=MA ins[i]:=J0 b
  have q:=(mI _).mp (K1 b)
  rw[em]at c
  refine⟨ins[i],ps[j],C,?_,q.1,q.2,c⟩
  rw[C]
  show(ins[(lI ws ins ps[j] ins.length).getD 0]?).getD []=_
  rw[a]
  show(ins[i]?).getD []=_
  rw[em];rfl
 constructor
 ·intro i S W g s;have X:=(Q S).mp (J8 W);have D:=lt S X.1 g s
  have k1:=yW (m:=2*ws.length) (outs:=outs) (fun i j r q g er eq t hq=>by
   have a:=(Q r).mp (J8 er)
   have b:=(Q q).mp (J8 eq)
   have:=U r a.1 q b.1 g t hq
   subst this
   obtain⟨M,e1⟩:=Jq.mp er
   obtain⟨E,e2⟩:=Jq.mp eq
   exact(List.getElem_inj T).mp (e1.trans e2.symm)) W s D outs.length (Jq.mp W).1
  have F:=lj (ws:=ws) (ins:=ins) (L:=fO (2*ws.length) outs outs.length) (ps:=ps) (x:=g) (by rw[K];exact D) (i:=0) ps.length fun j _ E z=>by
   obtain⟨q,c,_,eq,N,O,_⟩:=step j ()
   rw[eq]at z
   have:=U S X.1 q N g s z
   rw[<-this,X.2]at O;cases O
  rw[Nat.zero_add]at F;rw[F];exact k1
 ·intro r t o g s;have D:=lt r t g s;obtain⟨f,J,R⟩:=cV G r t;obtain⟨k,Lw,hc,_⟩:=iN hU hF J R;obtain⟨i,hi,Y⟩:=Kz.mp ((mI r).mpr ⟨t,o⟩)
  have V:fc ws r∈ps:=by
   rw[pm.mem_iff]
   have:=nL (ws:=ws) (ins:=ins) hi
   rw[J0 hi,Y]at this
   exact this
  obtain⟨j,B,Z⟩:=Kz.mp V;obtain⟨q,c,C,eq,N,O,q3⟩:=step j B;have H:ps[j]?=MA (fc ws r):=by rw[J0 B,Z]
  rw[H]at C;cases C;have a0:=p9 hU hF G N t O o q3;subst a0;have P:=LA.mp up
  have n:∀d,j<=d->(hj':d<ps.length)->la (fc ws q).1 (fc ws q).2<=la ps[d].1 ps[d].2/\(ps[d]=fc ws q->d=j):=fun d M E=>by
   by_cases e:j=d
   ·subst e;rw[Z];exact⟨Ln _,fun _=>rfl⟩
   ·have:=P j d B E ();rw[Z]at this;unfold OF at this;unfold la;refine⟨(),fun z=>?_⟩;rw[z]at this;omega
  have k1:(fS ws ins (fO (2*ws.length) outs outs.length) ps (j+1))[g]?=MA (Ow ws (fS ws ins (fO (2*ws.length) outs outs.length) ps j) (fc ws q)):=by rw[fS,mV (by rw[jJ,K];exact D),eq,MI s,H];rfl
  have F:=lj (ws:=ws) (ins:=ins) (L:=fO (2*ws.length) outs outs.length) (ps:=ps) (x:=g) (by rw[K];exact D) (i:=j+1) (ps.length-(j+1)) fun d M E z=>by
   obtain⟨q',c',u,y,I,b0,A⟩:=step d ()
   rw[y]at z
   have:=U q N q' I g s z
   subst this
   have p:ps[d]?=MA ps[d]:=J0 ()
   rw[u]at p
   have:=(n d () ()).2 (by rw[<-Option.some.inj p,A])
   omega
  rw[show j+1+(ps.length-(j+1))=ps.length by omega]at F;rw[F,k1]
  congr 1
  unfold Ow;by_cases b:bK ws 1 (fc ws q).1 (fc ws q).2=[]
  ·rw[MI b,MI b]
  ·rw[ME b,ME b];obtain⟨v,v1,v2,v3,_⟩:=sQ hU hF (aQ hU hF J R) hc Lw.k1 Lw.e b;rw[v2]
   have k3:=lj (ws:=ws) (ins:=ins) (L:=fO (2*ws.length) outs outs.length) (ps:=ps) (x:=2*v) (by rw[K];omega) (i:=j) (ps.length-j) fun d M E z=>by
    obtain⟨q',c',u,y,I,b0,A⟩:=step d ()
    rw[y]at z
    have:=(kT ws (L0 z)).1 _ z
    unfold tf at this
    rw[cf,A]at this
    have p:ps[d]?=MA ps[d]:=J0 ()
    rw[u]at p
    have l:=(n d M ()).1
    rw[<-Option.some.inj p]at l
    omega
   rw[show j+(ps.length-j)=ps.length by omega]at k3;rw[k3]
end
section
variable{ws:ro}(hU:∀w∈ws,NM w)(hF:PF ws)
def Rt(ws:ro)(L:pq)(outs:pd)(g:Nat):Prop:=
 (L[g]?=MA 0/\∀S∈outs,Pf ws (dR S) g=0)\/∃(i:Nat) (S:pe) (a:Nat),outs[i]?=MA S/\a∈S/\L[g]?=MA ((i+1:Nat):Int)/\∀T∈outs,Pf ws (dR T) g=Pf ws (dR T) a
include hU hF in
theorem iX{L:pq}{j:pd}(G:OW ws (2*ws.length) j)(D:∀(i:Nat) (S:pe),(j.filter (aG ws))[i]?=MA S->∀g∈S,L[g]?=MA ((i+1:Nat):Int))(E:∀r∈j,aG ws r=MD->∀g∈r,L[g]?=MA (Ow ws L (fc ws r))) :
 ∀(N:Nat) (r:pe),r∈j->la (fc ws r).1 (fc ws r).2<(N:Int)->∀g∈r,Rt ws L (j.filter (aG ws)) g
 |0,r,hr,hN,g,hg=>by
  exfalso
  obtain⟨f,l,R⟩:=cV G r hr
  obtain⟨k,_,n,_⟩:=iN hU hF l R
  have a:=n.1
  have b:=n.2
  unfold la at hN
  omega
 |N+1,r,hr,hN,g,hg=>by
  obtain⟨f,l,R⟩:=cV G r hr
  obtain⟨k,p,n,q⟩:=iN hU hF l R
  have t:∀T∈j.filter (aG ws),Flow ws (dR T):=fun T h=>by
   obtain⟨M,u,I⟩:=cV G T (Jr.mp h).1
   exact aQ hU hF u I
  rcases q with⟨o,_⟩|⟨o,m⟩
  ·right
   obtain⟨i,J,e⟩:=Kz.mp (Jr.mpr ⟨hr,o⟩)
   have e:(j.filter (aG ws))[i]?=MA r:=by rw[J0 J,e]
   exact⟨i,r,g,e,hg,D i r e g hg,fun _ _=>rfl⟩
  ·have x:=E r hr o g hg
   have P:∀T∈j.filter (aG ws),Pf ws (dR T) g=Zc ws (dR T) (la (fc ws r).1 (fc ws r).2):=fun T h=>by
    rw[bL hU hF l R (t T h) hg]
    exact rm hU hF l R p m (t T h)
   by_cases b:bK ws 1 (fc ws r).1 (fc ws r).2=[]
   ·left
    refine⟨by rw[x];unfold Ow;rw[MI b],fun S s=>?_⟩
    rw[P S s,C0 hU n b]
   ·obtain⟨v,O,F,Q,_⟩:=sQ hU hF (aQ hU hF l R) n p.k1 p.e b
    have Z:∀T∈j.filter (aG ws),Pf ws (dR T) g=Pf ws (dR T) (2*v):=fun T h=>by
     obtain⟨U,_,y,_,e⟩:=sQ hU hF (t T h) n p.k1 p.e b
     rw[P T h,e,<-y,F]
    obtain⟨z,A,B⟩:=ib G (2*v) ()
    have C:la (fc ws z).1 (fc ws z).2<(N:Int):=by
     have:=(kT ws (L0 B)).1 _ B
     unfold tf at this
     rw[cf]at this
     omega
    have H:Ow ws L (fc ws r)=(L[2*v]?).getD 0:=by unfold Ow;rw[ME b,F]
    rcases iX G D E N z A C (2*v) B with⟨a,c⟩|⟨i,S,K,a,c,d,e⟩
    ·left
     refine⟨by rw[x,H,a];rfl,fun S s=>?_⟩
     rw[Z S s,c S s]
    ·right
     refine⟨i,S,K,a,c,by rw[x,H,d];rfl,fun T h=>?_⟩
     rw[Z T h,e T h]
include hU hF in
end
def Bt(t b X Y:Int)(x y:Rat)(w:Wl):Bool:=(!decide (MZ x y (MX t b X 1 w.1) (MX t b Y 1 w.2.1))&&decide (MZ x y (MX t b X 1 w.2.2.1) (MX t b Y 1 w.2.2.2)))&&decide (NA (Mz (MX t b X 1 w.1) (MX t b Y 1 w.2.1) (MX t b X 1 w.2.2.1) (MX t b Y 1 w.2.2.2) x y)=1)
def bT(t b X Y:Int)(ws:ro)(x y:Rat):pq:=((Jp ws.length).filter fun j=>Bt t b X Y x y (wn ws j)).map fun j:Nat=>(j:Int)
theorem yR(t b X Y:Int)(ws:ro)(x y:Rat):(Jp (ws.map (NP t b X Y)).length).filterMap (fun j=>if Bt t b X Y x y (wn ws j)=MC then MA (NP t b X Y (wn ws j))else MB)=((bT t b X Y ws x y).map (NU ws)).map (NP t b X Y):=by rw[J4];unfold bT;rw[Ky,Ky];exact fK (fun j=>Bt t b X Y x y (wn ws j)) (fun j:Nat=>NP t b X Y (wn ws j)) _
theorem pM{t b X Y:Int}{ws:ro}{x y:Rat}{k:Int}:k∈bT t b X Y ws x y↔∃j:Nat,k=(j:Int)/\j<ws.length/\Bt t b X Y x y (wn ws j)=MC:=by
 unfold bT;rw[JQ];constructor
 ·rintro⟨j,h,e⟩;rw[Jr,JK]at h;exact⟨j,e.symm,h⟩
 ·rintro⟨j,e,h⟩;exact⟨j,Jr.mpr ⟨JK.mpr h.1,h.2⟩,e.symm⟩
theorem yD(t b X Y:Int)(ws:ro)(x y:Rat):(bT t b X Y ws x y).Nodup:=by unfold bT List.Nodup;rw[List.pairwise_map];have h:List.Pairwise (fun x y:Nat=>x≠y) ((Jp ws.length).filter fun j=>Bt t b X Y x y (wn ws j)):=Lp _ List.nodup_range;refine List.Pairwise.imp (R:=fun x y:Nat=>x≠y) ?_ h;omega
theorem FH{t b X Y:Int}(c:0<t)(f:0<b){ws:ro}(i:∀w∈ws,NM w){p q:Int}(h:-10<=q/\q<=85):bT t b X Y ws (MX t b X 1 p) (MX t b Y 1 q)=bK ws 1 p q:=by
 unfold bT bK
 congr 1
 refine List.filter_congr fun a j=>?_;have W:=aM i (JK.mp j);have g:(0:Int)<1/\(1:Int)<=4:=⋯
 unfold Bt bB Se;rw[BC c f g.1,decide_eq_decide.mpr (zZ c f g h W.b),decide_eq_decide.mpr (zZ c f g h W.d),<-decide_not];show(decide (¬la p q<1*l1 (wn ws a))&&decide (la p q<1*l2 (wn ws a))&&_)=(decide (1*l1 (wn ws a)<=la p q)&&decide (la p q<1*l2 (wn ws a))&&_);have e:decide (¬la p q<1*l1 (wn ws a))=decide (1*l1 (wn ws a)<=la p q):=by rw[MM];omega
 rw[e];rfl
theorem F7{a b x y c d:Rat}(e:¬MZ x y a b)(f:MZ x y c d):MZ a b c d:=by unfold MZ at *;grind
theorem Fj{t b X Y:Int}(A:0<t)(B:0<b){ws:ro}(h:∀w∈ws,NM w)(hF:PF ws){x y:Rat}(C:bT t b X Y ws x y≠[]):∃f∈bT t b X Y ws x y,∀w∈(bT t b X Y ws x y).map (NU ws),w=NU ws f\/(NS (NU ws f) w=MC/\NS w (NU ws f)=MD):=by
 obtain⟨f,l,D⟩:=AW h hF _ _ rfl C (yD t b X Y ws x y) fun k g=>by obtain⟨j,rfl,a,_⟩:=pM.mp g;omega
 refine⟨f,l,fun w E=>?_⟩;obtain⟨k,g,rfl⟩:=JQ.mp E;by_cases e:k=f
 ·subst e;exact .inl rfl
 ·right;have n:=D k g;obtain⟨i,rfl,m,o⟩:=pM.mp l;obtain⟨j,rfl,p,r⟩:=pM.mp g;have I:=aM h m;have J:=aM h p;have s:∀{u v:Wl},NM u->NM v->Bt t b X Y x y u=MC->Bt t b X Y x y v=MC->l1 u<l2 v:=fun{u v} F G a c=>by unfold Bt at a c;rw[JN,JN,Bool.not_eq_true',decide_eq_false_iff_not,MN]at a c;exact(mw A B F.b G.d).mp (F7 a.1.1 c.1.2)
  have H:max (l1 (wn ws j)) (l1 (wn ws i))<min (l2 (wn ws j)) (l2 (wn ws i)):=cy.mpr ⟨J.lt,s J I r o,s I J o r,I.lt⟩;have q:=gi J I (bc hF p m (fun z=>e (by rw[z]))) H;have n:NS (wn ws j) (wn ws i)=MD:=n;rw[n]at q;exact⟨q,n⟩
def SN(w:Wl)(l s:Int):Bool:=decide (l=l1 w)||decide (l=l2 w)||decide (l<l1 w)||decide (l2 w<l)||decide (s≠0)
theorem pj{w:Wl}{l s:Int}(h:SN w l s=MC):a9 w l s:=by
 unfold SN at h;simp only[Bool.or_eq_true,MN]at h;unfold a9;rcases h with(((h|h)|h)|h)|h
 ·exact .inl h
 ·exact .inr (.inl h)
 ·exact .inr (.inr (.inl h))
 ·exact .inr (.inr (.inr (.inl h)))
 ·exact .inr (.inr (.inr (.inr h)))
def YA(U V:Wl):Bool:=!(decide (l1 U=l1 V)&&decide (l2 U=l2 V))&&(SN U (l1 V) (NQ U V)&&(SN U (l2 V) (NT U V)&&(SN V (l1 U) (NQ V U)&&(SN V (l2 U) (NT V U)&&(decide (0<=JG (NQ U V)*JG (NT U V))||decide (0<=JG (NQ V U)*JG (NT V U)))))))
theorem E1{U V:Wl}(h:YA U V=MC):NY U V:=by unfold YA at h;simp only[JN,Bool.or_eq_true,Bool.not_eq_true',MN]at h;obtain⟨a,b,c,d,e,f⟩:=h;refine⟨fun z=>?_,pj b,pj c,pj d,pj e,f⟩;rw[MK z.1,MK z.2]at a;cases a
def WC:ro->Bool
 |[]=>MC
 |w::l=>l.all (YA w)&&WC l
theorem xq:∀{l:ro},WC l=MC->l.Pairwise NY
 |[],_=>List.Pairwise.nil
 |w::l,h=>by
  rw[WC,JN]at h
  exact List.Pairwise.cons (fun v a=>E1 (Kl.mp h.1 v a)) (xq h.2)
def WK(w:Wl):Bool:=decide ((0<=w.1/\w.1<=20)/\(0<=w.2.1/\w.2.1<=20)/\(0<=w.2.2.1/\w.2.2.1<=20)/\(0<=w.2.2.2/\w.2.2.2<=20)/\l1 w<l2 w)
theorem Et{w:Wl}(h:WK w=MC):NM w:=by unfold WK at h;obtain⟨a,b,c,d,e⟩:=ML h;exact⟨a,b,c,d,e⟩
theorem AM{ws:ro}(h:ws.Pairwise NY):PF ws:=fun i j U V ne e f=>by
 obtain⟨a,b⟩:=Jq.mp e;obtain⟨c,d⟩:=Jq.mp f;have P:=LA.mp h;rcases Nat.lt_or_gt_of_ne ne with z|z
 ·rw[<-b,<-d];exact P i j a c z
 ·rw[<-b,<-d];exact(P j i c a z).swap
def OY(x y w:Int):ro:=[(x,y,x+w,y),(x+w,y,x+w,y+w),(x,y+w,x+w,y+w),(x,y,x,y+w)]
def oW:List (ro×Int):=[(OY 0 0 12,1),(OY 0 0 12,2),(OY 0 0 12++OY 1 1 10,2),(OY 0 0 12++OY 1 1 10,3),(OY 0 0 12++OY 2 2 8,3),(OY 0 0 12++OY 2 2 8,4)]
def R3(us:ro)(a t1 b c:Int):ro:=us++(OY (a+t1) (a+b) (1+c)++([(9,8,9,9)]++([(a,8,a+1,8),(a,9,a+1,9)]++OY 12 12 2)))
theorem AG:(oW.all fun g=>[0,1].all fun t1=>[0,1].all fun a=>[0,1].all fun b=>WC (R3 g.1 g.2 t1 a b)&&(R3 g.1 g.2 t1 a b).all WK)=MC:=by decide +kernel
theorem Df{us:ro}{a t1 b c:Int}(g:(us,a)∈oW)(d:0<=t1/\t1<2)(e:0<=b/\b<2)(f:0<=c/\c<2):(R3 us a t1 b c).Pairwise NY/\∀w∈R3 us a t1 b c,NM w:=by
 have m:∀{t:Int},(0<=t/\t<2)->t∈([0,1]:pq):=fun{t} h=>by rcases(():t=0\/t=1)with rfl|rfl<;>simp
 have:=Kl.mp (Kl.mp (Kl.mp (Kl.mp AG _ g) _ (m d)) _ (m e)) _ (m f);rw[JN]at this;exact⟨xq this.1,fun w i=>Et (Kl.mp this.2 w i)⟩
theorem DR{us vs ws:ro}{a t1 b c:Int}(g:(us,a)∈oW)(d:0<=t1/\t1<2)(e:0<=b/\b<2)(f:0<=c/\c<2)(s:vs.Sublist (R3 us a t1 b c))(p:ws.Perm vs):PF ws/\(∀w∈ws,NM w)/\ws.length<=19:=by
 obtain⟨A,B⟩:=Df g d e f;refine⟨AM ((p.pairwise_iff (fun{x y} h=>NY.swap h)).mpr (A.sublist s)),fun w i=>B w (s.subset (p.mem_iff.mp i)),?_⟩;rw[p.length_eq];refine Kr s.length_le ?_
 have j:us.length<=8:=by
  have:(oW.all fun g=>decide (g.1.length<=8))=MC:=by decide +kernel
  exact ML (Kl.mp this _ g)
 unfold R3;simp only[Ka];show us.length+(4+(1+(2+4)))<=19;omega
def Pw(x y w:Int):rv:=[.tup [.int x,.int y],.tup [.int (x+w),.int y],.tup [.int (x+w),.int (y+w)],.tup [.int x,.int (y+w)]]
abbrev W8(w:Wl):Prop:=(0<=w.1/\w.1<=80)/\(0<=w.2.1/\w.2.1<=80)/\(0<=w.2.2.1/\w.2.2.1<=80)/\(0<=w.2.2.2/\w.2.2.2<=80)
theorem xu{a b c d:Int}(f:-10<=b/\b<=85)(hd:-10<=d/\d<=85):HT.lexLe [a,b] [c,d]=decide (la a b<=la c d):=by
 have e:HT.lexLt [c,d] [a,b]=decide (la c d<la a b):=by rw[Ks,NB,MN];unfold la;omega
 rw[Ma.xg,e,<-decide_not,MM];omega
theorem Hc{ws:ro}{m:Int}{k:Nat}(a:k<ws.length):wn (ws.map (OI m)) k=OI m (wn ws k):=by unfold wn NU;rw[L9,J6,J0 a];rfl
theorem IS{x1 y1 a b p q c:Int}(f:0<c↔0<(x1-p)*(b-q)-(y1-q)*(a-p))(i:c<0↔(x1-p)*(b-q)-(y1-q)*(a-p)<0)(n:x1<a\/(x1=a/\y1<b))(g:¬(p<x1\/(p=x1/\q<y1))->(p<a\/(p=a/\q<b))->c≠0) :
 (if(p<a\/(p=a/\q<b))/\b<=q then(1:Int)else 0)-(if(p<x1\/(p=x1/\q<y1))/\y1<=q then 1 else 0)=(if(¬(p<x1\/(p=x1/\q<y1))/\(p<a\/(p=a/\q<b)))/\0<c then 1 else 0)-(if y1<=q/\¬b<=q then(if 0<c then 1 else 0)else if b<=q/\¬y1<=q then(if c<0 then -1 else 0)else 0):=by
 by_cases j:p<x1\/(p=x1/\q<y1)<;>by_cases k:p<a\/(p=a/\q<b)<;>by_cases l:y1<=q<;>by_cases m:b<=q<;>simp only[j,k,l,m,true_and,and_true,false_and,and_false,not_true,not_false_iff,if_true,if_false]
 all_goals try omega
 ·have d:=JW (():0<x1-p) (():0<b-q)
  have e:=Int.mul_nonpos_of_nonpos_of_nonneg (():y1-q<=0) (():0<=a-p)
  rw[MI (f.mpr ())]
 ·have d:=Int.mul_nonpos_of_nonneg_of_nonpos (():0<=x1-p) (():b-q<=0)
  have e:=JW (():0<y1-q) (():0<a-p)
  rw[MI (i.mpr ())];rfl
 ·have h:=g j k
  have d:=Int.mul_nonneg_of_nonpos_of_nonpos (():x1-p<=0) (():b-q<=0)
  have e:=Int.mul_nonpos_of_nonpos_of_nonneg (():y1-q<=0) (():0<=a-p)
  rw[MI ()]
 ·have d:=JP (():x1-p<0) (():0<b-q)
  have e:=Mq (():0<=y1-q) (():0<=a-p)
  rw[ME (fun z=>by have:=f.mp z;omega)]
 ·have d:=Int.mul_nonpos_of_nonpos_of_nonneg (():x1-p<=0) (():0<=b-q)
  have e:=Int.mul_nonneg_of_nonpos_of_nonpos (():y1-q<=0) (():a-p<=0)
  rw[ME (fun z=>by have:=f.mp z;omega)]
 ·have d:=Int.mul_nonneg_of_nonpos_of_nonpos (():x1-p<=0) (():b-q<=0)
  have e:=Int.mul_nonpos_of_nonneg_of_nonpos (():0<=y1-q) (():a-p<=0)
  rw[ME (fun z=>by have:=i.mp z;omega)]
def Pb(w:Wl)(m p q:Int):Int:=if m*w.2.1<=q/\¬m*w.2.2.2<=q then(if 0<sL w m p q then 1 else 0)else if m*w.2.2.2<=q/\¬m*w.2.1<=q then(if sL w m p q<0 then -1 else 0)else 0
def WO(m p q:Int)(c:Vc):Int:=if(p<m*c.1\/(p=m*c.1/\q<m*c.2))/\m*c.2<=q then 1 else 0
theorem AF{w:Wl}(hw:NM w){m p q:Int}(a:0<m)(c:¬SW w m p q):WO m p q (w.2.2.1,w.2.2.2)-WO m p q (w.1,w.2.1)=(if Rq w m p q/\0<sL w m p q then 1 else 0)-Pb w m p q:=by
 have e:m*sL w m p q=(m*w.1-p)*(m*w.2.2.2-q)-(m*w.2.1-q)*(m*w.2.2.1-p):=by unfold sL;grind
 obtain⟨f,g,_⟩:=CJ (z:=sL w m p q) a;rw[e]at f g;refine IS f.symm g.symm ?_ fun i j z=>c ⟨?_,i,by dsimp only at j;omega⟩
 ·have l:=hw.lt;have n:=hw.b;have hd:=hw.d
  have:w.1<w.2.2.1\/(w.1=w.2.2.1/\w.2.1<w.2.2.2):=by unfold l1 l2 la at l;omega
  rcases this with h|⟨h,k⟩
  ·exact .inl (Int.mul_lt_mul_of_pos_left h a)
  ·exact .inr ⟨by rw[h],Int.mul_lt_mul_of_pos_left k a⟩
 ·unfold sL at z;omega
theorem uA{g:rb}:∀{n:Nat},(∀k,k<n->∃e,g k=2*e)->∃e,sg n g=2*e
 |0,_=>⟨0,rfl⟩
 |n+1,h=>by
  obtain⟨a,c⟩:=uA fun k d=>h k (Nat.lt_succ_of_lt d)
  obtain⟨b,f⟩:=h n (Nat.lt_succ_self n)
  exact⟨a+b,by rw[sg,c,f];omega⟩
def OM(w:Wl)(m p q:Int):Int:=if Pb w m p q=0 then 0 else 1
section
variable{ws:ro}(hU:∀w∈ws,NM w)(hF:PF ws){f:Nat}(hf:f<2*ws.length){r:pe}(R:gw ws f r)
include hU hF hf R
theorem Hi{m p q:Int}(c:0<m)(a:∀k,k<ws.length->dR r k≠0->¬SW (wn ws k) m p q):Vs ws (dR r) m p q=sg ws.length fun k=>dR r k*Pb (wn ws k) m p q:=by
 have z:=j7 hU hF hf R (WO m p q);rw[aW (h:=fun k=>(if BL ws m p q k then dR r k else 0)-dR r k*Pb (wn ws k) m p q) fun k b=>?_,dP]at z
 ·unfold Vs;omega
 ·by_cases z:dR r k=0
  ·rw[z,Int.zero_mul,Int.zero_mul];split<;>rfl
  have h:=AF (aM hU b) c (a k b z);unfold fa fb;rw[fY,h,Int.mul_sub];split
  ·omega
  ·omega
theorem BA{m p q:Int}(i:0<m)(c:∀k,k<ws.length->dR r k≠0->¬SW (wn ws k) m p q):∃e,(r.map fun g=>OM (wn ws (g/2)) m p q).sum=Vs ws (dR r) m p q+2*e:=by
 rw[jv (fun g=>OM (wn ws (g/2)) m p q) r (pP hU hF hf R) (cY hU hF hf R),Hi hU hF hf R i c]
 obtain⟨e,j⟩:=uA (n:=ws.length) (g:=fun k=>((if 2*k∈r then OM (wn ws (2*k/2)) m p q else 0)+(if 2*k+1∈r then OM (wn ws ((2*k+1)/2)) m p q else 0))-dR r k*Pb (wn ws k) m p q) fun k _=>by
  rw[show 2*k/2=k by omega,show(2*k+1)/2=k by omega]
  have l:(Pb (wn ws k) m p q=0/\OM (wn ws k) m p q=0)\/(Pb (wn ws k) m p q=1/\OM (wn ws k) m p q=1)\/(Pb (wn ws k) m p q=-1/\OM (wn ws k) m p q=1):=by
   have:Pb (wn ws k) m p q=0\/Pb (wn ws k) m p q=1\/Pb (wn ws k) m p q=-1:=by
    unfold Pb
    repeat' split
    all_goals omega
   unfold OM
   rcases this with h|h|h<;>rw[h]<;>simp
  unfold dR;rcases l with⟨h,d⟩|⟨h,d⟩|⟨h,d⟩<;>rw[h,d]<;>by_cases a:2*k∈r<;>by_cases b:2*k+1∈r<;>simp only[a,b,if_true,if_false]
  all_goals first|exact⟨0,rfl⟩|exact⟨1,rfl⟩
 rw[dP]at j;exact⟨e,()⟩
end
section
variable{ws:ro}(hU:∀w∈ws,NM w)(hF:PF ws)
def Fa(ws:ro)(d:rb)(x:Nat)(t:Int):Int:=sg ws.length fun k=>if sp (wn ws k) t=MC/\xi (wn ws x) t<=xi (wn ws k) t then d k else 0
include hU hF in
theorem iD{d:rb}(g:Flow ws d){x:Nat}{t:Int}(x1:x<ws.length)(c:sp (wn ws x) t=MC):Fa ws d x t=Bw ws d x+d x:=by
 have one:d x=sg ws.length (fun k=>if k=x then d k else 0):=by rw[fX,MI x1]
 rw[<-gS hU hF g x1 c,one];unfold Oa Fa;rw[<-dD];refine aW fun k f=>?_;show _=(if(sp (wn ws k) t&&NS (wn ws x) (wn ws k))=MC then d k else 0)+(if k=x then d k else 0);by_cases e:k=x
 ·subst e;rw[MI ⟨c,Rat.le_refl⟩,cx (aM hU f),Me,ME ⋯,MI rfl,Int.zero_add]
 ·rw[ME e,Int.add_zero];by_cases s:sp (wn ws k) t=MC
  ·have F:=bc hF x1 f (fun q=>e q.symm);have a:=dr (aM hU x1) (aM hU f) F c s;have b:=uP (aM hU x1) (aM hU f) F c s;rw[s,L4];by_cases q:xi (wn ws x) t<=xi (wn ws k) t
   ·rw[MI ⟨rfl,q⟩,MI (a.mpr (by grind))]
   ·rw[ME fun y=>q y.2,ME fun y=>q (Rat.le_of_lt (a.mp y))]
  ·have h:sp (wn ws k) t=MD:=‹s›
   rw[h,Ko,ME (fun y=>by cases y.1),ME ⋯]
theorem sH(d:rb){x:Nat}{t:Int}:(∀e:rb,(∀k,d k=0->e k=0)->Fa ws e x t=0)\/∃y,y<ws.length/\sp (wn ws y) t=MC/\d y≠0/\xi (wn ws x) t<=xi (wn ws y) t/\∀e:rb,(∀k,d k=0->e k=0)->Fa ws e x t=Fa ws e y t:=by
 by_cases n:((Jp ws.length).filter fun k=>decide (sp (wn ws k) t=MC/\d k≠0/\xi (wn ws x) t<=xi (wn ws k) t))=[]
 ·left;refine fun e z=>cO fun k b=>?_;by_cases h:sp (wn ws k) t=MC/\xi (wn ws x) t<=xi (wn ws k) t
  ·rw[MI h];refine z k (K0 fun z=>?_);have:=List.filter_eq_nil_iff.mp n k (JK.mpr b);exact this (MK ⟨h.1,z,h.2⟩)
  ·rw[ME h]
 ·right;obtain⟨y,a,f⟩:=pJ (fun k=>-xi (wn ws k) t) _ n;rw[Jr,JK,MN]at a;refine⟨y,a.1,a.2.1,a.2.2.1,a.2.2.2,fun e z=>?_⟩;unfold Fa;refine aW fun k b=>?_;by_cases c:d k=0
  ·rw[z k c];split<;>split<;>rfl
  ·have:(sp (wn ws k) t=MC/\xi (wn ws x) t<=xi (wn ws k) t)↔(sp (wn ws k) t=MC/\xi (wn ws y) t<=xi (wn ws k) t):=by
    constructor
    ·intro h;have:=f k (by rw[Jr,JK,MN];exact⟨b,h.1,c,h.2⟩);exact⟨h.1,by grind⟩
    ·exact fun h=>⟨h.1,Rat.le_trans a.2.2.2 h.2⟩
   by_cases h:sp (wn ws k) t=MC/\xi (wn ws x) t<=xi (wn ws k) t
   ·rw[MI h,MI (this.mp h)]
   ·rw[ME h,ME fun q=>h (this.mpr q)]
structure RP(ws:ro)(f:Nat)(r:pe):Prop where
 hf:f<2*ws.length
 R:gw ws f r
 a:Pf ws (dR r) f=1
include hU hF in
theorem rX{f:Nat}{r:pe}(O:RP ws f r){y:Nat}{t:Int}(y1:y<ws.length)(b:sp (wn ws y) t=MC)(c:dR r y≠0):(2*y∈r/\Fa ws (dR r) y t=1)\/(2*y+1∈r/\Fa ws (dR r) y t=0):=by
 have d:=iU.mpr ⟨y1,b,c⟩;rw[iD hU hF (aQ hU hF O.hf O.R) y1 b];have h:=Aa hU hF O.hf O.R d;have a:=O.a;rcases h with⟨h,k⟩|⟨h,k⟩
 ·refine .inl ⟨K0 fun z=>?_,()⟩;unfold dR at h;rw[ME z]at h;split at h<;>omega
 ·refine .inr ⟨K0 fun z=>?_,()⟩;unfold dR at h;rw[ME z]at h;split at h<;>omega
include hU hF in
theorem jW{f:Nat}{r:pe}(O:RP ws f r)(x:Nat)(t:Int):Fa ws (dR r) x t=0\/Fa ws (dR r) x t=1:=by
 rcases sH (ws:=ws) (dR r) (x:=x) (t:=t)with h|⟨y,y1,a,b,_,e⟩
 ·exact .inl (h _ fun _ h=>h)
 ·rw[e (dR r) fun _ h=>h];rcases rX hU hF O y1 a b with h|h
  ·exact .inr h.2
  ·exact .inl h.2
theorem nP{d:rb}(h:∀{x:Nat} {t:Int},x<ws.length->sp (wn ws x) t=MC->Fa ws d x t=Bw ws d x+d x){x:Nat}{t:Int}(x1:x<ws.length)(a:sp (wn ws x) t=MC):Pf ws d (2*x)=Fa ws d x t:=by rw[fR,h x1 a]
variable{f f':Nat}{r r':pe}(O:RP ws f r)(O':RP ws f' r')(dj:∀g∈r,g∉r')(b:Pf ws (dR r') f=1)
include hU hF O O' dj b
theorem qF:Pf ws (dR r) f'=0:=by
 obtain⟨t,k,L,_⟩:=eK hU hF O'.hf O'.R;have c:=aQ hU hF O.hf O.R
 have m:2*k∈r':=by
  rcases gN hU hF O'.hf O'.R L with⟨_,z⟩|⟨_,m,_⟩
  ·rw[O'.a]at z;cases z
  ·exact m
 have d:sp (wn ws k) t=MC:=aZ.mpr ⟨by have:=L.e;omega,by have:=L.e;have:=(aM hU L.k1).lt;omega⟩;rw[<-bL hU hF O'.hf O'.R c m,nP (fun a b=>iD hU hF c a b) L.k1 d];rcases jW hU hF O k t with h|h
 ·exact h
 ·exfalso;refine wQ hU hF O.hf O.R O'.hf O'.R dj O.a O'.a b ?_;rw[<-bL hU hF O'.hf O'.R c m,nP (fun a b=>iD hU hF c a b) L.k1 d,h]
theorem B4(x:Nat)(t:Int):Fa ws (dR r) x t<=Fa ws (dR r') x t:=by
 have l:=aQ hU hF O.hf O.R;have c:=aQ hU hF O'.hf O'.R;have o:=qF hU hF O O' dj b;have u:=jW hU hF O x t;have v:=jW hU hF O' x t;have d:∀k,(if dR r k=0/\dR r' k=0 then(0:Int)else 1)=0->dR r k=0/\dR r' k=0:=fun k h=>by refine K0 fun n=>?_;rw[ME n]at h;cases h
 rcases sH (ws:=ws) (fun k=>if dR r k=0/\dR r' k=0 then 0 else 1) (x:=x) (t:=t)with h|⟨y,y1,i,p,_,e⟩
 ·rw[h _ fun k h=>(d k h).1,h _ fun k h=>(d k h).2];exact Ln _
 ·rw[e _ fun k h=>(d k h).1,e _ fun k h=>(d k h).2];by_cases j:dR r y=0
  ·have s:dR r' y≠0:=fun z=>p (MI ⟨j,z⟩);rcases rX hU hF O' y1 i s with⟨_,h⟩|⟨m,h⟩
   ·have:=jW hU hF O y t;omega
   ·have q:Pf ws (dR r) (2*y+1)=0:=by rw[bL hU hF O'.hf O'.R l m];exact o
    rw[iQ]at q;rw[iD hU hF l y1 i,q,j,h];omega
  ·rcases rX hU hF O y1 i j with⟨m,h⟩|⟨_,h⟩
   ·have q:Pf ws (dR r') (2*y)=1:=by rw[bL hU hF O.hf O.R c m];exact b
    rw[nP (fun a b=>iD hU hF c a b) y1 i]at q;omega
   ·have:=jW hU hF O' y t;omega
end
section
variable{ws:ro}(hU:∀w∈ws,NM w)(hF:PF ws)
def lw(ws:ro)(t:Int):pe:=(Jp ws.length).filter fun k=>sp (wn ws k) t
theorem sP{t:Int}{k:Nat}:k∈lw ws t↔k<ws.length/\sp (wn ws k) t=MC:=by unfold lw;rw[Jr,JK]
theorem rZ(g:Nat->Rat)(t:Int):((lw ws t).map g).sum=sq ws.length fun k=>if sp (wn ws k) t=MC then g k else 0:=by unfold lw;rw[ic]
theorem FK(r:pe)(t:Int):((lt' ws r t).map fun k=>(dR r k:Rat)*xi (wn ws k) t).sum=((lw ws t).map fun k=>(dR r k:Rat)*xi (wn ws k) t).sum:=by
 rw[rZ];unfold lt';rw[ic];refine dt fun k _=>?_;by_cases s:sp (wn ws k) t=MC
 ·rw[s,L4,MI rfl];by_cases z:dR r k=0
  ·rw[MJ (fun q=>q z),ME ⋯,z];exact(Rat.zero_mul _).symm
  ·rw[MK z,MI rfl]
 ·have a:sp (wn ws k) t=MD:=‹s›
  rw[a,Ko]
theorem vG(g h:Nat->Rat):∀l:pe,(l.map fun k=>g k-h k).sum=(l.map g).sum-(l.map h).sum
 |[]=>by simp only[KP,List.sum_nil];grind
 |k::l=>by simp only[Jn,Ki];rw[vG g h l];grind
variable{f f':Nat}{r r':pe}(O:RP ws f r)(O':RP ws f' r')(dj:∀g∈r,g∉r')(b:Pf ws (dR r') f=1)
include hU hF O O' dj b
theorem oJ(t:Int):((lw ws t).map fun k=>(dR r k:Rat)*xi (wn ws k) t).sum<=((lw ws t).map fun k=>(dR r' k:Rat)*xi (wn ws k) t).sum/\∀x∈lw ws t,Fa ws (dR r) x t<Fa ws (dR r') x t->((lw ws t).map fun k=>(dR r k:Rat)*xi (wn ws k) t).sum<((lw ws t).map fun k=>(dR r' k:Rat)*xi (wn ws k) t).sum:=by
 obtain⟨c,l⟩:=jx (fun k=>xi (wn ws k) t) (lw ws t)
 have a:∀x,((lw ws t).map fun y=>if xi (wn ws x) t<=xi (wn ws y) t then((dR r' y:Rat)-(dR r y:Rat))else 0).sum=((Fa ws (dR r') x t-Fa ws (dR r) x t:Int):Rat):=fun x=>by
  unfold Fa;rw[<-dP,hZ,rZ];refine dt fun k _=>?_;by_cases s:sp (wn ws k) t=MC
  ·by_cases q:xi (wn ws x) t<=xi (wn ws k) t
   ·rw[MI s,MI q,MI ⟨s,q⟩,MI ⟨s,q⟩,Lf]
   ·rw[MI s,ME q,ME (fun z=>q z.2),ME (fun z=>q z.2)];rfl
  ·rw[ME s,ME (fun z=>s z.1),ME (fun z=>s z.1)];rfl
 have all:((lw ws t).map fun y=>(dR r' y:Rat)-(dR r y:Rat)).sum=0:=by
  have d:=oQ hU (aQ hU hF O.hf O.R) t
  have i:=oQ hU (aQ hU hF O'.hf O'.R) t
  unfold Oa at d i
  have h:((sg ws.length (fun k=>if sp (wn ws k) t=MC then dR r' k else 0)-sg ws.length (fun k=>if sp (wn ws k) t=MC then dR r k else 0):Int):Rat)=0:=by simp only[LJ]at d i;rw[d,i];rfl
  rw[<-h,<-dP,hZ,rZ]
  refine dt fun k _=>?_
  by_cases s:sp (wn ws k) t=MC
  ·rw[MI s,MI s,MI s,Lf]
  ·rw[ME s,ME s,ME s];rfl
 have A:∀x∈lw ws t,0<=((lw ws t).map fun y=>if xi (wn ws x) t<=xi (wn ws y) t then((dR r' y:Rat)-(dR r y:Rat))else 0).sum:=fun x _=>by
  rw[a x]
  have:=B4 hU hF O O' dj b x t
  have p:0<=Fa ws (dR r') x t-Fa ws (dR r) x t:=()
  exact_mod_cast p
 have nd:(lw ws t).Nodup:=by unfold lw;exact Lp _ List.nodup_range
 have inj:∀x∈lw ws t,∀y∈lw ws t,xi (wn ws x) t=xi (wn ws y) t->x=y:=fun x j y m e=>K0 fun ne=>by obtain⟨x1,n⟩:=sP.mp j;obtain⟨y1,o⟩:=sP.mp m;exact uP (aM hU x1) (aM hU y1) (bc hF x1 y1 ne) n o e
 have key:=A7 (fun k=>(dR r' k:Rat)-(dR r k:Rat)) (fun k=>xi (wn ws k) t) _ (lw ws t) rfl nd inj A c l;have e:=fI (fun k=>(dR r' k:Rat)-(dR r k:Rat)) (fun k=>xi (wn ws k) t) c 0 (lw ws t);rw[all,Rat.zero_mul,Rat.add_zero]at e
 have u:((lw ws t).map fun k=>((dR r' k:Rat)-(dR r k:Rat))*(xi (wn ws k) t-c)).sum=((lw ws t).map fun k=>(dR r' k:Rat)*xi (wn ws k) t).sum-((lw ws t).map fun k=>(dR r k:Rat)*xi (wn ws k) t).sum:=by
  rw[e,<-vG]
  congr 1
  exact L8 fun k _=>by grind
 rw[u]at key;refine⟨by have:=key.1;grind,fun x j h=>?_⟩
 have:=key.2 x j (by
  rw[a x]
  have p:0<Fa ws (dR r') x t-Fa ws (dR r) x t:=()
  exact_mod_cast p)
 grind
theorem wz:(r.map (Ng ws)).sum<(r'.map (Ng ws)).sum:=by
 have e:=iJ hU hF O.hf O.R;have i:=iJ hU hF O'.hf O'.R;obtain⟨t,k,L,_⟩:=eK hU hF O'.hf O'.R;have l:=aQ hU hF O.hf O.R;have c:=aQ hU hF O'.hf O'.R
 have m:2*k∈r':=by
  rcases gN hU hF O'.hf O'.R L with⟨_,z⟩|⟨_,m,_⟩
  ·rw[O'.a]at z;cases z
  ·exact m
 have W:=aM hU L.k1
 have t0:0<=t/\t<3000:=by
  have:=W.a;have:=W.b;have e:=L.e
  unfold l1 la at e
  omega
 have d:sp (wn ws k) t=MC:=aZ.mpr ⟨by have:=L.e;omega,by have:=L.e;have:=W.lt;omega⟩;have q:Fa ws (dR r) k t=0:=by rw[<-nP (fun a b=>iD hU hF l a b) L.k1 d,bL hU hF O'.hf O'.R l m];exact qF hU hF O O' dj b
 have u:Fa ws (dR r') k t=1:=by rw[<-nP (fun a b=>iD hU hF c a b) L.k1 d,bL hU hF O'.hf O'.R c m];exact O'.a
 have p:(0:Rat)<sq 3000 fun t=>((lw ws (t:Int)).map fun k=>(dR r' k:Rat)*xi (wn ws k) (t:Int)).sum-((lw ws (t:Int)).map fun k=>(dR r k:Rat)*xi (wn ws k) (t:Int)).sum:=by
  refine sq_pos (j:=t.toNat) ?_ () fun n _=>by have:=(oJ hU hF O O' dj b (n:Int)).1;grind
  rw[show((t.toNat:Nat):Int)=t by omega]
  have:=(oJ hU hF O O' dj b t).2 k (sP.mpr ⟨L.k1,d⟩) ()
  grind
 have s:∀(g h:Nat->Rat) n,sq n (fun k=>g k-h k)=sq n g-sq n h:=fun g h n=>by
  induction n with
  |zero=>rw[sq,sq,sq];grind
  |succ n o=>rw[sq,sq,sq,o];grind
 rw[s]at p;simp only[FK]at e i;rw[<-e,<-i]at p;have p:(((r.map (Ng ws)).sum:Int):Rat)<(((r'.map (Ng ws)).sum:Int):Rat):=by grind
 exact_mod_cast p
end
section
variable{prog:JL}{w:Kg}{A:Kn}{E:J3->J5->Prop}{s:J5}
theorem Gj{l:n_}{b:Array J3}{bt:Nat->Nat->Bool}{Q:J3->J5->Prop}(hh:A.handled=MB)(O:s.heap.IsList l b)(W:0<b.size)
 (P:∀(i j:Nat) (v u:J3),b[i]?=MA v->b[j]?=MA u->∀(t:J5) (X:J3->J5->Prop) (E':J3->J5->Prop),(∀x o,s.heap.get? x=MA o->t.heap.get? x=MA o)->X (.bool (bt i j)) t->Js (JF prog w) A.in1 (richCompare .Lt v u) X E' t)
 (h:∀v h' tk,b[argBest bt (b.size-1)]?=MA v->(∀x o,s.heap.get? x=MA o->h'.get? x=MA o)->Q v { s with heap:=h',toks:=tk }) :
 Js (JF prog w) A (call (.builtin "min") [.ref l]) Q E s:=by
 have L:(toString "min"++toString ".loop":String)="min.loop":=⋯
 refine call_function_tree F.kind_min F.plain_min F.entry_min (F.args_min1 _) ?_
 show Js _ A.in1 (Builtin.Builtins.bindParams "min" ["key","default"] 0 ⟨[],[]⟩ >>= fun _=>_) _ _ s
 refine cc (wpAny_of_eq (a:=[MB,MB]) rfl ?_)
 refine cc (J7 ?_)
 have R:l<s.heap.objs.size:=by
  obtain⟨o,q,_⟩:=O
  exact Jz q
 refine cc (Ml (s:=s) O ?_)
 refine cc (K7 ?_)
 dsimp only
 generalize T:s.heap.objs.size=I
 generalize e2:s.heap.push _=p
 have k2:∀x o,s.heap.get? x=MA o->p.get? x=MA o:=fun x o q=>by rw[<-e2];exact Jo _ q
 have hI:p.IsListIter I l 0:=by rw[<-e2,<-T];exact⟨_,Jy _ rfl,rfl,rfl⟩
 have z2:p.objs.size=I+1:=by rw[<-e2,KY,T]
 generalize eS:p.objs.size=S
 generalize e3:p.push _=z
 have Y:∀x o,p.get? x=MA o->z.get? x=MA o:=fun x o q=>by rw[<-e3];exact Jo _ q
 have Z:z.get? S=MA { cls:=.type "list",dict:=MB,data:=.seq #[] 0,slots:=#[] }:=by rw[<-e3,<-eS];exact Jy _ rfl
 have B:S≠I:=()
 have f:∀x o,s.heap.get? x=MA o->x≠I/\x≠S:=fun x o q=>⟨K5 (JM (Jz q) ()),K5 (JM (Jz q) ())⟩
 have C:l<I:=T▸R
 have TI:l≠I:=K5 C
 have TS:l≠S:=K5 (Nat.lt_trans C (():I<S))
 have g:∀x o,s.heap.get? x=MA o->z.get? x=MA o:=fun x o q=>Y _ _ (k2 _ _ q)
 have lst:∀{h':oT},(∀x o,s.heap.get? x=MA o->h'.get? x=MA o)->h'.IsList l b:=fun{h'} k=>by
  obtain⟨o,q,r⟩:=O
  exact⟨o,k _ _ q,r⟩
 rw[L]
 refine J7 ⟨LK LD _,?_⟩
 have D:∀(k j:Nat) (h':oT) (tk:Nat) (m:J3) (c:Nat),b.size-(j+1)=k->j+1<=b.size->h'.IsListIter I l (j+1)->b[argBest bt j]?=MA m->h'.get? S=MA { cls:=.type "list",dict:=MB,data:=.seq #[m,m] c,slots:=#[] }->
  (∀x o,s.heap.get? x=MA o->h'.get? x=MA o)->LM (JF prog w) A (.builtin "min.loop" ⟨[.ref I,.none,.ref S],[]⟩) (fun r s'=>match r with|.ok (.ret v)=>Q v s'|.ok _=>False|.error e=>E e s') { s with heap:=h',toks:=tk }:=by
  intro k
  induction k with
  |zero=>
   intro j h' tk m c ek hj U M G H
   have ej:j=b.size-1:=()
   refine Ly F.entry_min_loop ?_
   rw[KZ LD _]
   show Js _ A.in1 (seqItems? (.ref S) >>= fun _=>_) _ _ _
   refine cc (Mb (s:={ s with heap:=h',toks:=tk }) G rfl ?_)
   show Js _ A.in1 (tryCatch (pyNext (.ref I)) _ >>= fun _=>_) _ _ _
   refine cc (Mc (wpAny_pyNext_list_end (A:=A.in1) (s:={ s with heap:=h',toks:=tk }) hh U (lst H) (by simp;omega) fun N J=>?_))
   have V:N.get? S=MA _:=J _ _ B G
   show Js _ A.in1 (updateSeq S (fun _=>#[]) >>= fun _=>_) _ _ _
   refine cc (wpAny_updateSeq (s:={ s with heap:=N,toks:=tk }) V rfl (cc (wpAny_letGo (J7 ?_))))
   show Q m _
   exact h _ _ _ (by rw[<-ej];exact M) fun x o q=>(Kd _ _ (f x o q).2.symm).trans (J x o (f x o q).1 (H x o q))
  |succ k ih=>
   intro j h' tk m c ek hj U M G H
   have y:b[j+1]?=MA b[j+1]:=Array.getElem?_eq_getElem ()
   refine Ly F.entry_min_loop ?_
   rw[KZ LD _]
   show Js _ A.in1 (seqItems? (.ref S) >>= fun _=>_) _ _ _
   refine cc (Mb (s:={ s with heap:=h',toks:=tk }) G rfl ?_)
   show Js _ A.in1 (tryCatch (pyNext (.ref I)) _ >>= fun _=>_) _ _ _
   refine cc (Mc (wpAny_pyNext_list_item (s:={ s with heap:=h',toks:=tk }) U (lst H) (x:=b[j+1]) y fun h6 i6 q6=>?_))
   have n:h6.get? S=MA _:=(q6.2 _ B).trans G
   have d:∀x o,s.heap.get? x=MA o->h6.get? x=MA o:=fun x o q=>(q6.2 _ (f x o q).1).trans (H x o q)
   show Js _ A.in1 (tryCatch (holding [b[j+1],b[j+1]] (richCompare .Lt b[j+1] m >>= fun _=>_)) _ >>= fun _=>_) _ _ _
   refine cc (Mc (KC (cc (P (j+1) (argBest bt j) _ _ y M _ _ _ d ?_))))
   refine cc (KC (KN ?_))
   refine cc (wpAny_letGo (J7 ?_))
   cases c':bt (j+1) (argBest bt j)with
   |true=>
    refine cc (wpAny_updateSeq n rfl (cc (wpAny_letGo ?_)))
    rw[L]
    exact J7 ⟨LK LD _,ih (j+1) _ _ b[j+1] _ () () (i6.at fun o q=>(Kd _ _ B).trans q) (by rw[argBest,MI c'];exact y) (Lb _ n rfl) fun x o q=>(Kd _ _ (f x o q).2.symm).trans (d x o q)⟩
   |false=>
    refine cc (wpAny_letGo ?_)
    rw[L]
    exact J7 ⟨LK LD _,ih (j+1) _ _ m _ () () i6 (by rw[argBest,ME (by rw[c'];decide)];exact M) n d⟩
 have y:b[0]?=MA b[0]:=Array.getElem?_eq_getElem W
 refine Ly F.entry_min_loop ?_
 rw[KZ LD _]
 show Js _ A.in1 (seqItems? (.ref S) >>= fun _=>_) _ _ _
 refine cc (Mb (s:={ s with heap:=z }) Z rfl ?_)
 show Js _ A.in1 (tryCatch (pyNext (.ref I)) _ >>= fun _=>_) _ _ _
 refine cc (Mc (wpAny_pyNext_list_item (s:={ s with heap:=z }) (hI.at fun o q=>Y _ _ q) (lst g) (x:=b[0]) y fun N i4 J=>?_))
 have K:N.get? S=MA _:=(J.2 _ B).trans Z
 show Js _ A.in1 (updateSeq S (fun _=>#[b[0],b[0]]) >>= fun _=>_) _ _ _
 refine cc (wpAny_updateSeq K rfl ?_)
 rw[L]
 exact J7 ⟨LK LD _,D (b.size-1) 0 _ _ b[0] _ () W (i4.at fun o q=>(Kd _ _ B).trans q) (by rw[argBest];exact y) (Lb _ K rfl) fun x o q=>(Kd _ _ (f x o q).2.symm).trans ((J.2 _ (f x o q).1).trans (g x o q))⟩
end
section
variable{X:Cx}
theorem p7:∀{b:List (n_×Int×Int)} {a:List J3},Vals (b.map fun t=>V.ref t.1) a->a=b.map fun t=>KW t.1
 |[],a,h=>by cases h;rfl
 |t::b,a,h=>by
  rw[Jn]at h
  cases h with
  |cons r q=>cases r;rw[p7 q];rfl
def Pu(b c:Int×Int):Prop:=b.1<c.1\/(b.1=c.1/\b.2<=c.2)
theorem zV{b c:Int×Int}:HT.lexLt [b.1,b.2] [c.1,c.2]=MD↔Pu c b:=by
 unfold Pu;simp only[HT.lexLt];by_cases h:b.1=c.1
 ·rw[MI h];by_cases k:b.2=c.2
  ·rw[MI k];constructor
   ·intro _;omega
   ·intro _;rfl
  ·rw[ME k,decide_eq_false_iff_not];omega
 ·rw[ME h,decide_eq_false_iff_not];omega
theorem qP(f:Nat->Int×Int):∀k,(argBest (fun i j=>HT.lexLt [(f i).1,(f i).2] [(f j).1,(f j).2]) k<=k)/\∀i,i<=k->Pu (f (argBest (fun i j=>HT.lexLt [(f i).1,(f i).2] [(f j).1,(f j).2]) k)) (f i)
 |0=>⟨J9 _,fun i c=>by rw[show i=0 by omega];exact .inr ⟨rfl,Ln _⟩⟩
 |k+1=>by
  obtain⟨a,b⟩:=qP f k
  rw[argBest]
  cases e:HT.lexLt [(f (k+1)).1,(f (k+1)).2] [(f (argBest (fun i j=>HT.lexLt [(f i).1,(f i).2] [(f j).1,(f j).2]) k)).1,(f (argBest (fun i j=>HT.lexLt [(f i).1,(f i).2] [(f j).1,(f j).2]) k)).2]with
  |true=>
   rw[MI rfl]
   refine⟨J9 _,fun i c=>?_⟩
   by_cases z:i=k+1
   ·rw[z];exact .inr ⟨rfl,Ln _⟩
   ·have q:=b i ()
    have n:¬Pu (f (argBest (fun i j=>HT.lexLt [(f i).1,(f i).2] [(f j).1,(f j).2]) k)) (f (k+1)):=fun y=>by rw[zV.mpr y]at e;cases e
    unfold Pu at *
    omega
  |false=>
   rw[ME ⋯]
   refine⟨(),fun i c=>?_⟩
   by_cases z:i=k+1
   ·rw[z];exact zV.mp e
   ·exact b i ()
theorem wW(y:X.calm=MC)(Y:X.A.units+64<Ku):cv X (.builtin "min") (fun xs H Q=>∃(l:n_) (d:List (n_×Int×Int)),xs=[.ref l]/\d≠[]/\NX X.K H l (d.map fun t=>.ref t.1)/\(∀t∈d,N0 X.K H t.1 ([t.2.1,t.2.2].map V.int))/\∀b∈d,(∀c∈d,Pu b.2 c.2)->Q (.ref b.1) H):=by
 intro MR s σ H xs us Q I r z;obtain⟨l,d,e,B,C,w,k⟩:=z;subst e;obtain⟨u,rfl,D⟩:=vals1 r;cases D;obtain⟨E,F,p0,_⟩:=I.list C;have G:=p7 F;subst G;have J:0<d.length:=List.length_pos_iff.mpr B;have get:∀i,i<d.length->∃t,d[i]?=MA t/\t∈d/\((d[i]?).map (·.2)).getD (0,0)=t.2:=fun i f=>⟨d[i],J0 f,K1 f,by rw[J0 f];rfl⟩
 have item:∀{i:Nat} {v:J3},(d.map fun t=>KW t.1).toArray[i]?=MA v->∃t,d[i]?=MA t/\t∈d/\v=.ref t.1/\((d[i]?).map (·.2)).getD (0,0)=t.2:=fun{i v} h=>by
  rw[List.getElem?_toArray,J6]at h;cases e:d[i]? with
  |none=>rw[e]at h;cases h
  |some t=>rw[e]at h;exact⟨t,rfl,J8 e,(Option.some.inj h).symm,rfl⟩
 obtain⟨b1,L⟩:=qP (fun i=>((d[i]?).map (·.2)).getD (0,0)) (d.length-1);refine Gj (bt:=fun i j=>HT.lexLt [(((d[i]?).map (·.2)).getD (0,0)).1,(((d[i]?).map (·.2)).getD (0,0)).2] [(((d[j]?).map (·.2)).getD (0,0)).1,(((d[j]?).map (·.2)).getD (0,0)).2]) (I.ok.hd y) p0.isList ‹J› (fun i j v u g n t Z E' m x=>?_) fun v h' tk g m=>?_
 ·obtain⟨a,_,o,rfl,p⟩:=item g;obtain⟨c,_,q,rfl,M⟩:=item n;obtain⟨i1,N,⟨O,P,R⟩,_⟩:=I.tuple (w a o);obtain⟨i2,S,⟨T,U,W⟩,_⟩:=I.tuple (w c q);rw[p,M]at x;exact HT.iK (A:=X.A.in1) (s:=t) ⟨O,m _ _ P,R⟩ ⟨T,m _ _ U,W⟩ (intsAre_of N) (intsAre_of S) (by show X.A.units+1<Ku;omega) x
 ·rw[JA,J4]at g;obtain⟨a,ai,o,rfl,p⟩:=item g;refine⟨.ref a.1,H,I.kept m,rfl,k a o fun c q=>?_⟩;obtain⟨i,f,e⟩:=Kz.mp q;have:=L i ();rw[p,J0 f,e]at this;exact this
def P9(p:Int×Int):D:=.tup [.int p.1,.int p.2]
theorem vB{K:J1}{H:Hp}:∀{ps:List (Int×Int)} {xs:ri},aK K H (ps.map P9) xs->∃b:List (n_×Int×Int),xs=(b.map fun t=>V.ref t.1)/\b.map (·.2)=ps/\∀t∈b,N0 K H t.1 ([t.2.1,t.2.2].map V.int)/\aK K H ([t.2.1,t.2.2].map D.int) ([t.2.1,t.2.2].map V.int)
 |[],xs,h=>by
  rw[KP,aK]at h
  exact⟨[],h,rfl,fun t c=>by cases c⟩
 |p::ps,xs,h=>by
  rw[Jn,aK]at h
  obtain⟨v,vs,rfl,d,g⟩:=h
  obtain⟨b,rfl,e,k⟩:=vB g
  unfold P9 at d
  rw[Rep]at d
  obtain⟨a,l,rfl,i,f⟩:=d
  have j:=dW (ns:=[p.1,p.2]) f
  subst j
  exact⟨(a,p.1,p.2)::b,rfl,by rw[Jn,e],fun t c=>by
   rcases JI.mp c with rfl|c
   ·exact⟨i,f⟩
   ·exact k t c⟩
def CC:RC:=fun a M Q=>match a with
 |[.ref l]=>∃ps,M l=MA (.lst (ps.map P9))/\ps≠[]/\∀b∈ps,(∀c∈ps,Pu b c)->Q (P9 b) M
 |a=>CG a M Q
theorem jd(d:X.calm=MC)(j:X.A.units+64<Ku):dO X (.builtin "min") CC:=cw (cv.or (BP d j) (wW d j)) fun vs H Q m=>by
 obtain⟨y,M,R,l,a,q,f⟩:=m;unfold CC at q;split at q
 ·obtain⟨ps,e,n,q⟩:=q;obtain⟨v,rfl,r⟩:=cA l;rw[Rep]at r;subst r;obtain⟨xs,o,p⟩:=a _ _ e;obtain⟨s,rfl,g,k⟩:=vB p;refine .inr ⟨_,s,rfl,fun z=>n (by rw[<-g,z];rfl),NX.of o,fun t u=>(k t u).1,fun b h w=>f _ _ _ _ .refl ?_ a (q b.2 (by rw[<-g];exact List.mem_map_of_mem h) fun c d=>?_)⟩
  ·unfold P9;rw[Rep];exact⟨_,_,rfl,(k b h).1,(k b h).2⟩
  ·rw[<-g]at d;obtain⟨x,i,rfl⟩:=JQ.mp d;exact w x i
 ·exact .inl ⟨_,M,R,l,a,q,f⟩
end
theorem vf{z:Int}:0<JG z↔0<z:=by
 rcases Jt z 0 with h|h|h
 ·rw[JS h];omega
 ·subst h;simp
 ·rw[K9 h];omega
theorem CS{w:Wl}{m p q:Int}(h:m*w.2.1<=q)(k:¬m*w.2.2.2<=q):OM w m p q=if 0<sL w m p q then 1 else 0:=by
 unfold OM Pb;rw[MI (c:=m*w.2.1<=q/\¬m*w.2.2.2<=q) ⟨h,k⟩];by_cases z:0<sL w m p q
 ·rw[MI z];rfl
 ·rw[ME z];rfl
theorem Cw{w:Wl}{m p q:Int}(h:m*w.2.2.2<=q)(k:¬m*w.2.1<=q):OM w m p q=if sL w m p q<0 then 1 else 0:=by
 unfold OM Pb;rw[ME (c:=m*w.2.1<=q/\¬m*w.2.2.2<=q) (fun z=>k z.1),MI (c:=m*w.2.2.2<=q/\¬m*w.2.1<=q) ⟨h,k⟩];by_cases z:sL w m p q<0
 ·rw[MI z,MI z];rfl
 ·rw[ME z,ME z];rfl
theorem Cs{w:Wl}{m p q:Int}(h:m*w.2.1<=q↔m*w.2.2.2<=q):OM w m p q=0:=by unfold OM Pb;rw[ME (c:=m*w.2.1<=q/\¬m*w.2.2.2<=q) (fun z=>z.2 (h.mp z.1)),ME (c:=m*w.2.2.2<=q/\¬m*w.2.1<=q) (fun z=>z.2 (h.mpr z.1))];rfl
theorem A9{w:Wl}{m p q:Int}(n:0<m){a b c d:Int}(o:(a,b,c,d)=OI m w\/(a,b,c,d)=rev (OI m w)) :
 (decide (q<b)=decide (q<d)->OM w m p q=0)/\(decide (q<b)≠decide (q<d)->(d<b->OM w m p q=if 0<JG (N7 (a-c) (b-d) (p-c) (q-d))then 1 else 0)/\(¬d<b->OM w m p q=if 0<JG (N7 (c-a) (d-b) (p-a) (q-b))then 1 else 0)):=by
 obtain⟨e1,e2,_⟩:=CJ (z:=sL w m p q) n
 have E:(0<JG (N7 (m*w.2.2.1-m*w.1) (m*w.2.2.2-m*w.2.1) (p-m*w.1) (q-m*w.2.1)))=(0<sL w m p q):=by
  rw[vf,<-e1];congr 1;unfold N7 sL;grind
 have l:(0<JG (N7 (m*w.1-m*w.2.2.1) (m*w.2.1-m*w.2.2.2) (p-m*w.2.2.1) (q-m*w.2.2.2)))=(sL w m p q<0):=by
  have:N7 (m*w.1-m*w.2.2.1) (m*w.2.1-m*w.2.2.2) (p-m*w.2.2.1) (q-m*w.2.2.2)=-(m*sL w m p q):=by unfold N7 sL;grind
  rw[vf,this,<-e2]
  exact propext ⟨fun h=>(),fun h=>()⟩
 rcases o with h|h
 ·have e:a=m*w.1:=congrArg (·.1) h
  have f:b=m*w.2.1:=congrArg (·.2.1) h
  have i:c=m*w.2.2.1:=congrArg (·.2.2.1) h
  have j:d=m*w.2.2.2:=congrArg (·.2.2.2) h
  clear h
  subst e f i j
  simp only[E,l]
  refine⟨fun k=>?_,fun k=>?_⟩
  ·rw[MM]at k
   exact Cs ()
  ·have k:¬(q<m*w.2.1↔q<m*w.2.2.2):=fun z=>k (decide_eq_decide.mpr z)
   exact⟨fun g=>Cw () (),fun g=>CS () ()⟩
 ·have e:a=m*w.2.2.1:=congrArg (·.1) h
  have f:b=m*w.2.2.2:=congrArg (·.2.1) h
  have i:c=m*w.1:=congrArg (·.2.2.1) h
  have j:d=m*w.2.1:=congrArg (·.2.2.2) h
  clear h
  subst e f i j
  simp only[E,l]
  refine⟨fun k=>?_,fun k=>?_⟩
  ·rw[MM]at k
   exact Cs ()
  ·have k:¬(q<m*w.2.2.2↔q<m*w.2.1):=fun z=>k (decide_eq_decide.mpr z)
   exact⟨fun g=>CS () (),fun g=>Cw () ()⟩
theorem vq{c:Prop}[Decidable c]:(if c then(1:Int)else 0)=if decide c=MC then 1 else 0:=by
 by_cases h:c
 ·rw[MI h,MI (MK h)]
 ·rw[ME h,ME (fun z=>h (ML z))]
theorem Gr{ws:ro}{m:Int}{g:Nat}(a:g<2*ws.length):fw (ws.map (OI m)) g=OI m (wn ws (g/2))\/fw (ws.map (OI m)) g=rev (OI m (wn ws (g/2))):=by
 have e:NU (ws.map (OI m)) ((g/2:Nat):Int)=OI m (wn ws (g/2)):=Hc (():g/2<ws.length);unfold fw;rw[e];by_cases h:g%2=0
 ·rw[MI h];exact .inl rfl
 ·rw[ME h];exact .inr rfl
theorem CP{ws:ro}(e:∀w∈ws,NM w):∀{r:pe},(∀g∈r,g<2*ws.length)->(r.map (Ng ws)).sum<=400*(r.length:Int)
 |[],_=>by simp
 |g::r,h=>by
  rw[Jn,Ki,Kk]
  have i:=CP e fun x j=>h x (K6 _ j)
  have W:=aM e (show g/2<ws.length by have:=h g Kq;omega)
  have pr:∀{a b c d:Int},(0<=a/\a<=20)->(0<=b/\b<=20)->(0<=c/\c<=20)->(0<=d/\d<=20)->a*b-c*d<=400:=fun{a b c d} k f l hd=>by
   have e1:=Int.mul_le_mul k.2 f.2 f.1 ⋯
   have e2:=Mq l.1 hd.1
   omega
  have t:Ng ws g<=400:=by
   unfold Ng fa fb fw
   by_cases h:g%2=0
   ·rw[MI h];exact pr W.a W.d W.c W.b
   ·rw[ME h];exact pr W.c W.b W.a W.d
  omega
def Oo(ws:ro)(m p q:Int)(r:pe):Int:=(r.map fun g=>OM (wn ws (g/2)) m p q).sum
theorem tL(ws:ro)(m p q:Int):∀r:pe,0<=Oo ws m p q r/\Oo ws m p q r<=(r.length:Int)
 |[]=>⟨Ln _,Ln _⟩
 |g::r=>by
  have i:=tL ws m p q r
  have c:0<=OM (wn ws (g/2)) m p q/\OM (wn ws (g/2)) m p q<=1:=by unfold OM;split<;>omega
  unfold Oo at *
  rw[Jn,Ki,Kk]
  omega
theorem yC{b c:Int×Int}(h:Pu b c)(k:Pu c b):b.2=c.2:=by unfold Pu at *;omega
theorem IW{w:Wl}(h:NM w){m:Int}(e:0<m/\m<=4):W8 (OI m w):=by have p:∀{z:Int},(0<=z/\z<=20)->0<=m*z/\m*z<=80:=fun{z} h=>⟨Mq () h.1,Int.mul_le_mul e.2 h.2 h.1 ⋯⟩;exact⟨p h.a,p h.b,p h.c,p h.d⟩
theorem pY(f:pe->Bool){M:MH}{ps:q_}{a:pd}(h:RL M ps a):∀k,k<=ps.length->∃qs:q_,((Jp k).filterMap fun i=>if f ((a[i]?).getD [])=MC then MA (D.ref ((ps[i]?).getD 0))else MB)=qs.map D.ref/\RL M qs ((a.take k).filter f)/\∀q∈qs,q∈ps
 |0,_=>⟨[],rfl,.nil,fun q c=>by cases c⟩
 |k+1,hk=>by
  obtain⟨qs,e,r,sub⟩:=pY f h k ()
  obtain⟨S,d,g⟩:=h.get (():k<ps.length)
  rw[KJ,List.filterMap_append,e,gy f a d]
  by_cases o:f S=MC
  ·rw[MI o]
   refine⟨qs++[ps[k]],?_,r.snoc g,fun q c=>(JE.mp c).elim (sub q) fun z=>by rw[JH.mp z];exact K1 _⟩
   rw[Jx,List.filterMap_cons_some (b:=D.ref ps[k]) (by rw[d,J0 ()];exact MI o)]
   rfl
  ·rw[ME o,K8]
   refine⟨qs,?_,r,sub⟩
   rw[List.filterMap_cons_none (by rw[d];exact ME o),List.filterMap_nil,K8]
theorem uO{R:Nat->Nat->Bool}:∀l:pe,l≠[]->(∀x∈l,∀y∈l,x≠y->R x y=MC\/R y x=MC)->(∀x∈l,∀y∈l,∀z∈l,R x y=MC->R y z=MC->R x z=MC)->∃m∈l,∀x∈l,x=m\/R x m=MC
 |[],h,_,_=>absurd rfl h
 |a::l,_,tot,tr=>by
  by_cases n:l=[]
  ·subst n;exact⟨a,Kq,fun x b=>.inl (JH.mp b)⟩
  ·obtain⟨m,c,d⟩:=uO l n (fun x b y f=>tot x (.tail _ b) y (.tail _ f)) (fun x b y f z g=>tr x (.tail _ b) y (.tail _ f) z (.tail _ g))
   by_cases e:a=m
   ·subst e;exact⟨a,.head _,fun x b=>(JI.mp b).elim .inl (d x)⟩
   ·rcases tot a (.head _) m (.tail _ c) e with h|h
    ·exact⟨m,.tail _ c,fun x b=>(JI.mp b).elim (fun z=>.inr (z▸h)) (d x)⟩
    ·refine⟨a,.head _,fun x b=>(JI.mp b).elim .inl fun b=>.inr ?_⟩
     rcases d x b with z|z
     ·rw[z];exact h
     ·exact tr x (.tail _ b) m (.tail _ c) a (.head _) z h
section
variable{ws:ro}(hU:∀w∈ws,NM w)(hF:PF ws)
include hU hF in
theorem BE{S:Nat->Prop}{v:Vc}(s:∀g,g<2*ws.length->fa ws g=v->S g->S (bh ws (fx g))){k:Nat}(t:k<2*ws.length)(u:fa ws k=v)(A:S k):∀x,x<2*ws.length->fa ws x=v->S x:=fun x p ex=>K0 fun nx=>by
 have mem:∀{g},g∈(Jp (2*ws.length)).filter (fun g=>@decide (fa ws g=v/\S g) (Classical.propDecidable _))↔g<2*ws.length/\fa ws g=v/\S g:=fun{g}=>by rw[Jr,JK,@MN _ (Classical.propDecidable _)]
 have e:∀{g},g<2*ws.length/\fa ws g=v/\S g->g≠x:=fun h z=>nx (z▸h.2.2);have l:∀{g h},g<2*ws.length/\fa ws g=v/\S g->h<2*ws.length/\fa ws h=v/\S h->g≠h->PB (fd ws g) (fd ws h):=fun a b n=>d5 hU hF a.1 b.1 n (a.2.1.trans b.2.1.symm);have d:∀{g},g<2*ws.length/\fa ws g=v/\S g->PB (fd ws x) (fd ws g):=fun a=>d5 hU hF p a.1 (e a).symm (ex.trans a.2.1.symm);obtain⟨g,B,f⟩:=uO (R:=fun a b=>O8 (fd ws x) (fd ws a) (fd ws b)) _ (L0 (mem.mpr ⟨t,u,A⟩)) (fun a i b j n=>oI (d (mem.mp i)) (d (mem.mp j)) (l (mem.mp i) (mem.mp j) n)) (fun a i b j c C D E=>oD (d (mem.mp i)) (d (mem.mp j)) (d (mem.mp C)) D E);have G:=mem.mp B;have o:x∈cW ws (fx g):=bE.mpr ⟨p,by rw[qU,ex,G.2.1],by rw[uE];exact(e G).symm⟩;have F:=s g G.1 G.2.1 G.2.2;rcases gf hU hF (iC G.1)with⟨z,_⟩|⟨m,first⟩
 ·rw[z]at o;cases o
 ·obtain⟨H,q,r⟩:=bE.mp m;rw[qU]at q;have N:bh ws (fx g)<2*ws.length/\fa ws (bh ws (fx g))=v/\S (bh ws (fx g)):=⟨H,q.trans G.2.1,F⟩;rcases first x o with z|z
  ·exact e N z.symm
  ·unfold Nj at z;rw[uE]at z r;rcases f _ (mem.mpr N)with y|y
   ·exact r y
   ·exact uB (d G) y z
variable{f:Nat}(hf:f<2*ws.length){r:pe}(R:gw ws f r)
include hU hF hf R in
def Wt(ws:ro)(r:pe)(g:Nat):Prop:=g∈r\/Pf ws (dR r) g=-1
variable(a:Pf ws (dR r) f=0)
include hU hF hf R a in
theorem qz{g:Nat}(h:Wt ws r g):Wt ws r (fx g):=by
 by_cases m:fx g∈r
 ·exact .inl m
 ·refine .inr ?_;have e:=B8 ws (dR r) g
  have d:eF (dR r) (fx g)=if g∈r then 1 else 0:=by
   unfold eF dR;obtain⟨b,c⟩:=f9 g;by_cases p:g%2=0
   ·have e1:fx g=2*(g/2)+1:=by unfold fx;rw[MI p];omega
    rw[ME (),b,<-e1,ME m,show 2*(g/2)=g by omega];split<;>rfl
   ·have e1:fx g=2*(g/2):=by unfold fx;rw[ME p];omega
    rw[MI (),b,<-e1,ME m,show fx g+1=g by omega];split<;>rfl
  rw[d]at e;by_cases n:g∈r
  ·rw[MI n,bL hU hF hf R (aQ hU hF hf R) n,a]at e;omega
  ·rw[ME n]at e;have:=h.resolve_left n;omega
include hU hF hf R a in
theorem FI{g:Nat}(b:g<2*ws.length)(h:Wt ws r g):Wt ws r (bh ws g):=by
 rcases h with h|h
 ·exact .inl (kQ hU hF hf R g h)
 ·exact .inr (by rw[CA hU hF (aQ hU hF hf R) b];exact h)
include hU hF hf R a in
theorem vP{g x:Nat}(b:g<2*ws.length)(c:x<2*ws.length)(e:fa ws g=fa ws x)(h:Wt ws r g):Wt ws r x:=BE hU hF (S:=Wt ws r) (v:=fa ws x) (fun y d _ s=>FI hU hF hf R a (iC d) (qz hU hF hf R a s)) b e h x c rfl
def SR(ws:ro)(i j:Nat):Prop:=(∃g h,g/2=i/\h/2=j/\fa ws g=fa ws h)
include hU hF hf R a in
theorem DB{i j:Nat}(d:i<ws.length)(k:j<ws.length)(t:SR ws i j)(h:Wt ws r (2*i)):Wt ws r (2*j):=by
 obtain⟨g,x,rfl,rfl,e⟩:=t
 have b:∀{y:Nat},Wt ws r (2*(y/2))->Wt ws r y:=fun{y} h=>by
  by_cases p:y%2=0
  ·rw[show y=2*(y/2) by omega];exact h
  ·have:fx (2*(y/2))=y:=by unfold fx;rw[MI ()];omega
   rw[<-this];exact qz hU hF hf R a h
 have c:∀{y:Nat},Wt ws r y->Wt ws r (2*(y/2)):=fun{y} h=>by
  by_cases p:y%2=0
  ·rw[show 2*(y/2)=y by omega];exact h
  ·have:fx y=2*(y/2):=by unfold fx;rw[ME p];omega
   rw[<-this];exact qz hU hF hf R a h
 exact c (vP hU hF hf R a () () e (b h))
include hU hF hf R a in
theorem Ac{D:Nat}{c:pe}(O:RP ws D c)(E:∀g∈c,g∉r)(w:∀g∈c,Wt ws r g):Pf ws (dR c) f=0:=by
 have v:=aQ hU hF hf R;have d:=aQ hU hF O.hf O.R;obtain⟨t,k,L,_⟩:=eK hU hF O.hf O.R
 have m:2*k∈c:=by
  rcases gN hU hF O.hf O.R L with⟨_,z⟩|⟨_,m,_⟩
  ·rw[O.a]at z;cases z
  ·exact m
 have A:sp (wn ws k) t=MC:=aZ.mpr ⟨by have:=L.e;omega,by have:=L.e;have:=(aM hU L.k1).lt;omega⟩;have B:Fa ws (dR r) k t=-1:=by rw[<-nP (fun a b=>iD hU hF v a b) L.k1 A];exact(w _ m).resolve_left (E _ m)
 rcases sH (ws:=ws) (dR r) (x:=k) (t:=t)with h|⟨y,y1,l,F,G,e⟩
 ·rw[h _ fun _ h=>h]at B;omega
 ·rw[e (dR r) fun _ h=>h,iD hU hF v y1 l]at B
  have H:2*y+1∈r:=by
   rcases Aa hU hF hf R (iU.mpr ⟨y1,l,F⟩)with⟨_,z⟩|⟨z,_⟩
   ·rw[a]at z;omega
   ·refine K0 fun n=>?_;unfold dR at z;rw[ME n]at z;split at z<;>omega
  rw[<-bL hU hF hf R d H,iQ,<-gS hU hF d y1 l];refine cO fun i j=>?_;by_cases o:2*i∈c\/2*i+1∈c
  ·refine ME fun q=>?_;rw[JN]at q;have J:=aZ.mp q.1;have I:=L.low i o (by have:=L.ge i o;omega);have p:NS (wn ws y) (wn ws i)=MC:=q.2;have s:y≠i:=fun z=>by subst z;rw[cx (aM hU j)]at p;cases p
   have x1:=(dr (aM hU y1) (aM hU j) (bc hF y1 j s) l q.1).mp p;have u:k≠i:=fun z=>by subst z;exact absurd x1 (Rat.not_lt.mpr G)
   have C:=(dr (aM hU L.k1) (aM hU j) (bc hF L.k1 j u) A q.1).mpr (by grind);rw[I]at C;cases C
  ·have:dR c i=0:=by unfold dR;rw[ME fun z=>o (.inl z),ME fun z=>o (.inr z)];rfl
   rw[this];split<;>rfl
end
inductive Cn(ws:ro)(i:Nat):Nat->Prop
 |refl:Cn ws i i
 |step {j k:Nat} (h:Cn ws i j) (hk:k<ws.length) (t:SR ws j k):Cn ws i k
theorem Cn.lt{ws:ro}{i j:Nat}(a:i<ws.length)(h:Cn ws i j):j<ws.length:=by
 induction h with
 |refl=>exact a
 |step _ b _ _=>exact b
section
variable{ws:ro}(hU:∀w∈ws,NM w)(hF:PF ws){f:Nat}(hf:f<2*ws.length){r:pe}(R:gw ws f r)
include hU hF hf R
theorem uD{i g:Nat}(h:Cn ws i (f/2))(a:g∈r):Cn ws i (g/2):=by
 obtain⟨k,n,e,rfl⟩:=R;obtain⟨j,b,rfl⟩:=eG.mp a;clear a b
 induction j with
 |zero=>exact h
 |succ j c=>
  have l:=cz hU hF hf j
  have d:=cz hU hF hf (j+1)
  refine .step c () ⟨fx (N9 ws f j),N9 ws f (j+1),(f9 _).1,rfl,?_⟩
  rw[eB]
  exact(iE hU hF l).symm
theorem AL{i g:Nat}(d:i<ws.length)(a:g∈r)(h:Cn ws i (g/2)):Cn ws i (f/2):=by
 obtain⟨k,n,e,rfl⟩:=R;obtain⟨j,b,rfl⟩:=eG.mp a;clear a b
 induction j with
 |zero=>exact h
 |succ j c=>
  refine c (.step h (by have:=cz hU hF hf j;omega) ⟨N9 ws f (j+1),fx (N9 ws f j),rfl,(f9 _).1,?_⟩)
  rw[eB]
  exact iE hU hF (cz hU hF hf j)
theorem FN(a:Pf ws (dR r) f=0){j:Nat}(h:Cn ws (f/2) j):Wt ws r (2*j):=by
 have base:Wt ws r f:=.inl (gY hU hF hf R)
 have b0:Wt ws r (2*(f/2)):=by
  by_cases p:f%2=0
  ·rw[show 2*(f/2)=f by omega];exact base
  ·have:fx f=2*(f/2):=by unfold fx;rw[ME p];omega
   rw[<-this];exact qz hU hF hf R a base
 induction h with
 |refl=>exact b0
 |step h b t c=>exact DB hU hF hf R a (h.lt ()) b t c
theorem zI(a:Pf ws (dR r) f=0){d:Nat}{b:pe}(O:RP ws d b)(e:∀g∈b,g∉r)(c:Cn ws (f/2) (d/2)):Pf ws (dR b) f=0:=by
 refine Ac hU hF hf R a O e fun g i=>?_;have h:=FN hU hF hf R a (uD hU hF O.hf O.R c i);by_cases p:g%2=0
 ·rw[show g=2*(g/2) by omega];exact h
 ·have:fx (2*(g/2))=g:=by unfold fx;rw[MI ()];omega
  rw[<-this];exact qz hU hF hf R a h
end
section
variable{ws:ro}(hU:∀w∈ws,NM w)(hF:PF ws)
include hU hF in
theorem mC{c:Vc}(f:OB c){j k:Nat}(g:j<ws.length)(h:k<ws.length)(e:l1 (wn ws j)=la c.1 c.2)(m:l1 (wn ws k)≠la c.1 c.2)(p:l2 (wn ws k)≠la c.1 c.2):¬SW (wn ws k) 1 c.1 c.2/\(BL ws 1 c.1 c.2 k↔l1 (wn ws k)<la c.1 c.2/\la c.1 c.2<l2 (wn ws k)/\0<OL (wn ws k) (la c.1 c.2)):=by
 have W:=aM hU h;have ne:k≠j:=fun z=>m (z▸e);have q:=f.1;have hd:=f.2;have r:=W.a;have s:=W.b;have t:=W.c;have u:=W.d
 have i:OL (wn ws k) (la c.1 c.2)=sL (wn ws k) 1 c.1 c.2:=by
  have e1:la c.1 c.2/100=c.1:=by unfold la;omega
  have e2:la c.1 c.2%100=c.2:=by unfold la;omega
  unfold OL sd sL N7
  rw[e1,e2];grind
 have e1:NQ (wn ws k) (wn ws j)=OL (wn ws k) (la c.1 c.2):=(Gu (aM hU g) e).symm;have n:Rq (wn ws k) 1 c.1 c.2↔l1 (wn ws k)<=la c.1 c.2/\la c.1 c.2<l2 (wn ws k):=by unfold Rq l1 l2 la;omega
 constructor
 ·intro o;have z:sL (wn ws k) 1 c.1 c.2=0:=by have:=o.1;unfold sL;omega
  have a:=o.la W;have l:l1 (wn ws k)<la c.1 c.2/\la c.1 c.2<l2 (wn ws k):=by unfold la at *;omega
  have:=(bc hF h g ne).e1.nz (by rw[e];exact l.1) (by rw[e];exact l.2);rw[e1,i]at this;exact this z
 ·show(Rq _ _ _ _/\0<sL _ _ _ _)↔_;rw[n,i];omega
variable{L:pq}{rs:pd}(G:OW ws (2*ws.length) rs)
def FE(ws:ro)(outs:pd)(ok:pe->Prop)(v:Int):Prop:=
 (v=0/\∀S∈outs,¬ok S)\/∃(i:Nat) (S:pe),outs[i]?=MA S/\v=((i+1:Nat):Int)/\ok S/\(∀g∈S,g<2*ws.length)/\∀(j:Nat) (T:pe),outs[j]?=MA T->j≠i->ok T->(S.map (Ng ws)).sum<(T.map (Ng ws)).sum
include hU hF G in
theorem tV(X:∀(i:Nat) (S:pe),(rs.filter (aG ws))[i]?=MA S->∀g∈S,L[g]?=MA ((i+1:Nat):Int))(Y:∀r∈rs,aG ws r=MD->∀g∈r,L[g]?=MA (Ow ws L (fc ws r)))
 {r:pe} (P:r∈rs) (o:aG ws r=MD) {f:Nat} (hf:f<2*ws.length) (R:gw ws f r) {v:Int} (Q:L[f]?=MA v) :
 FE ws (rs.filter (aG ws)) (fun T=>¬Cn ws (f/2) (T.headD 0/2)/\Oo ws 1 (fc ws r).1 (fc ws r).2 T%2=1) v:=by
 obtain⟨k,l,U,q⟩:=iN hU hF hf R
 have mk:2*k+1∈r:=by
  rcases q with⟨z,_⟩|⟨_,z⟩
  ·rw[o]at z;cases z
  ·exact z
 have a:Pf ws (dR r) f=0:=by
  rcases gN hU hF hf R l with⟨_,z⟩|⟨z,_⟩
  ·exact z
  ·exact absurd mk z
 have ring:∀S∈rs.filter (aG ws),∃f,RP ws f S/\S.headD 0=f:=fun S B=>by
  obtain⟨a,o⟩:=Jr.mp B
  obtain⟨f,F,R⟩:=cV G S a
  obtain⟨k,_,_,q⟩:=iN hU hF F R
  rcases q with⟨_,z⟩|⟨z,_⟩
  ·refine⟨f,⟨F,R,z⟩,?_⟩
   obtain⟨kk,_,_,rfl⟩:=R
   unfold rn
   rw[List.range_succ_eq_map];rfl
  ·rw[o]at z;cases z
 have key:∀T∈rs.filter (aG ws),(¬Cn ws (f/2) (T.headD 0/2)/\Oo ws 1 (fc ws r).1 (fc ws r).2 T%2=1)↔Pf ws (dR T) f=1:=fun T u=>by
  obtain⟨Z,O,e0⟩:=ring T u
  rw[e0]
  have nT:∀g∈T,g∉r:=fun g C H=>by
   have:=fM hU hF (J9 _) G T (Jr.mp u).1 r P g C H
   rw[<-this,(Jr.mp u).2]at o;cases o
  by_cases c:Cn ws (f/2) (Z/2)
  ·have z:=zI hU hF hf R a O nT c
   rw[z]
   exact⟨fun h=>absurd c h.1,fun h=>by cases h⟩
  ·have t:=aQ hU hF O.hf O.R
   have n:∀i,i<ws.length->dR T i≠0->l1 (wn ws i)≠la (fc ws r).1 (fc ws r).2/\l2 (wn ws i)≠la (fc ws r).1 (fc ws r).2:=fun i s di=>by
    have mi:∃g∈T,g/2=i:=by
     by_cases m:2*i∈T
     ·exact⟨_,m,()⟩
     ·by_cases V:2*i+1∈T
      ·exact⟨_,V,()⟩
      ·exfalso;apply di;unfold dR;rw[ME m,ME V];rfl
    obtain⟨g,C,rfl⟩:=mi
    have ck:Cn ws (f/2) k:=by
     have:=uD hU hF hf R .refl mk
     rwa [show(2*k+1)/2=k by omega]at this
    have W:∀x,x<2*ws.length->x/2=g/2->la (fa ws x).1 (fa ws x).2=la (fc ws r).1 (fc ws r).2->False:=fun x I ex e=>by
     refine c (AL hU hF O.hf O.R () C (.step ck (by have:=cY hU hF O.hf O.R g C;omega) ⟨2*k,x,(),ex,?_⟩))
     refine uJ hU (show 2*k<2*ws.length by have:=l.k1;omega) I ?_
     rw[cf,l.e,e]
    exact⟨fun z=>W (2*(g/2)) () () (by rw[cf];exact z),fun z=>W (2*(g/2)+1) () () (by rw[lY];exact z)⟩
   obtain⟨e,he⟩:=BA hU hF O.hf O.R (m:=1) (p:=(fc ws r).1) (q:=(fc ws r).2) ⋯ fun i s di=>(mC hU hF U l.k1 s l.e (n i s di).1 (n i s di).2).1
   have vz:Vs ws (dR T) 1 (fc ws r).1 (fc ws r).2=Pf ws (dR T) f:=by
    rw[rm hU hF hf R l mk t]
    unfold Vs Zc
    refine aW fun i s=>?_
    by_cases di:dR T i=0
    ·rw[di];split<;>split<;>rfl
    ·have co:=(mC hU hF U l.k1 s l.e (n i s di).1 (n i s di).2).2
     by_cases b:BL ws 1 (fc ws r).1 (fc ws r).2 i
     ·rw[MI b,MI (co.mp b)]
     ·rw[ME b,ME fun y=>b (co.mpr y)]
   have a0:Pf ws (dR T) f=0\/Pf ws (dR T) f=1:=by
    have A:=l.k1
    have sk:sp (wn ws k) (la (fc ws r).1 (fc ws r).2)=MC:=aZ.mpr ⟨by have:=l.e;omega,by have:=l.e;have:=(aM hU l.k1).lt;omega⟩
    have e2:=iD hU hF t A sk
    have e3:Pf ws (dR T) f=Bw ws (dR T) k:=by rw[<-bL hU hF hf R t mk,iQ]
    have d1:Bw ws (dR T) k+dR T k=0\/Bw ws (dR T) k+dR T k=1:=by rw[<-e2];exact jW hU hF O k _
    have dk:dR T k=0:=K0 fun z=>(n k A z).1 l.e
    rw[e3];omega
   unfold Oo
   rw[he,vz]
   exact⟨fun h=>(),fun h=>⟨c,()⟩⟩
 have mf:=gY hU hF hf R
 rcases iX hU hF G X Y ((la (fc ws r).1 (fc ws r).2).toNat+1) r P () f mf with⟨z,c⟩|⟨i,S,g',J,mg,d,e⟩
 ·rw[Q]at z
  refine .inl ⟨Option.some.inj z,fun S B ok=>?_⟩
  have:=(key S B).mp ok
  rw[c S B]at this;cases this
 ·rw[Q]at d
  have D:=J8 J
  obtain⟨F,O,_⟩:=ring S D
  have own:Pf ws (dR S) g'=1:=by rw[bL hU hF O.hf O.R (aQ hU hF O.hf O.R) mg,O.a]
  refine .inr ⟨i,S,J,Option.some.inj d,(key S D).mpr (by rw[e S D];exact own),cY hU hF O.hf O.R,fun j T u ne ok=>?_⟩
  have E:=J8 u
  obtain⟨f2,K,_⟩:=ring T E
  have M:S≠T:=fun z=>by
   subst z
   have nd:(rs.filter (aG ws)).Nodup:=Lp _ (fB G)
   obtain⟨p1,e1⟩:=Jq.mp J
   obtain⟨p2,e2⟩:=Jq.mp u
   exact ne ((List.getElem_inj nd).mp (e2.trans e1.symm))
  refine wz hU hF O K (fun x I N=>M (fM hU hF (J9 _) G S (Jr.mp D).1 T (Jr.mp E).1 x I N)) ?_
  rw[<-bL hU hF O.hf O.R (aQ hU hF K.hf K.R) mg,<-e T E]
  exact(key T E).mp ok
end
theorem AX(a b c d x y:Int):([PyData.tuple [.int a,.int b],.tuple [.int c,.int d]].any fun q=>K3 q (.tuple [.int x,.int y]))=decide ((a=x/\b=y)\/(c=x/\d=y)):=by simp only[LI,List.any_nil,K3,Km,gZ,Bool.or_false,LJ];rw[Ks];simp
def Om(V:Wl)(x y:Int):Bool:=decide ((V.1=x/\V.2.1=y)\/(V.2.2.1=x/\V.2.2.2=y))
def O6(U V:Wl)(j:Nat):rx:=if j=0 then(if Om V U.1 U.2.1=MC then MA (.tup [.int U.1,.int U.2.1])else MB)else(if Om V U.2.2.1 U.2.2.2=MC then MA (.tup [.int U.2.2.1,.int U.2.2.2])else MB)
def Vx(U V:Wl):Bool:=Om V U.1 U.2.1||Om V U.2.2.1 U.2.2.2
theorem Gi{M:MH}{p q:n_}{U V:Wl}{Q:DK}(c:M p=MA (.lst ((Jp 2).filterMap (O6 U V))))(d:M q=MA (.lst []))(k:Q (.bl (Vx U V)) M):BZ (.ref p) (.ref q) M Q:=by
 have e:(Jp 2).filterMap (O6 U V)=(O6 U V 0).toList++(O6 U V 1).toList:=by show[0,1].filterMap (O6 U V)=_;simp only[List.filterMap_cons,List.filterMap_nil];cases O6 U V 0<;>cases O6 U V 1<;>rfl
 rw[e]at c;have f:O6 U V 0=if Om V U.1 U.2.1=MC then MA (.tup [.int U.1,.int U.2.1])else MB:=rfl;have g:O6 U V 1=if Om V U.2.2.1 U.2.2.2=MC then MA (.tup [.int U.2.2.1,.int U.2.2.2])else MB:=rfl;rw[f,g]at c;unfold Vx at k;cases a:Om V U.1 U.2.1<;>cases b:Om V U.2.2.1 U.2.2.2<;>rw[a,b]at c k
 ·exact .mk _ _ (.lst c .nil) (.lst d .nil) rfl rfl k
 ·exact .mk _ _ (.lst c (.cons (Pd.of rfl) .nil)) (.lst d .nil) rfl rfl k
 ·exact .mk _ _ (.lst c (.cons (Pd.of rfl) .nil)) (.lst d .nil) rfl rfl k
 ·exact .mk _ _ (.lst c (.cons (Pd.of rfl) (.cons (Pd.of rfl) .nil))) (.lst d .nil) rfl rfl k
theorem Dy{ws:ro}{i j:Nat}:Vx (wn ws j) (wn ws i)=MC↔SR ws i j:=by
 have a:∀k,fa ws (2*k)=((wn ws k).1,(wn ws k).2.1):=fun k=>by unfold fa;rw[fY]
 have b:∀k,fa ws (2*k+1)=((wn ws k).2.2.1,(wn ws k).2.2.2):=fun k=>by unfold fa;rw[oY];rfl
 unfold Vx Om;rw[Bool.or_eq_true,MN,MN];constructor
 ·rintro((h|h)|(h|h))
  ·exact⟨2*i,2*j,(),(),by rw[a,a,h.1,h.2]⟩
  ·exact⟨2*i+1,2*j,(),(),by rw[a,b,h.1,h.2]⟩
  ·exact⟨2*i,2*j+1,(),(),by rw[a,b,h.1,h.2]⟩
  ·exact⟨2*i+1,2*j+1,(),(),by rw[b,b,h.1,h.2]⟩
 ·rintro⟨g,h,rfl,rfl,e⟩;rcases KL g with p|p<;>rcases KL h with q|q
  ·rw[show g=2*(g/2) by omega,show h=2*(h/2) by omega,a,a]at e;exact .inl (.inl ⟨congrArg (·.1) e,congrArg (·.2) e⟩)
  ·rw[show g=2*(g/2) by omega,show h=2*(h/2)+1 by omega,a,b]at e;exact .inr (.inl ⟨congrArg (·.1) e,congrArg (·.2) e⟩)
  ·rw[show g=2*(g/2)+1 by omega,show h=2*(h/2) by omega,a,b]at e;exact .inl (.inr ⟨congrArg (·.1) e,congrArg (·.2) e⟩)
  ·rw[show g=2*(g/2)+1 by omega,show h=2*(h/2)+1 by omega,b,b]at e;exact .inr (.inr ⟨congrArg (·.1) e,congrArg (·.2) e⟩)
theorem Bj(U V:Wl):(O6 U V 0).isSome=Om V U.1 U.2.1/\(O6 U V 1).isSome=Om V U.2.2.1 U.2.2.2:=by
 have a:O6 U V 0=if Om V U.1 U.2.1=MC then MA (.tup [.int U.1,.int U.2.1])else MB:=rfl;have b:O6 U V 1=if Om V U.2.2.1 U.2.2.2=MC then MA (.tup [.int U.2.2.1,.int U.2.2.2])else MB:=rfl;rw[a,b];constructor
 ·cases Om V U.1 U.2.1<;>rfl
 ·cases Om V U.2.2.1 U.2.2.2<;>rfl
theorem vA(a:pe)(i:Nat):((a.map fun g:Nat=>(g:Int)).any fun z=>z==(i:Int))=decide (i∈a):=by
 rw[List.any_map,Ks,List.any_eq_true,MN];constructor
 ·rintro⟨x,b,e⟩;have:(x:Int)=(i:Int):=‹e›
  have:x=i:=()
  subst this;exact b
 ·intro h;exact⟨i,h,by simp⟩
def OX(r:pe):Lz:=.list (r.map fun g:Nat=>Md (g:Int))
theorem ie{M:MH}{p:n_}{r:pe}(h:M p=MA (.lst (r.map ry))):Pd M (.ref p) (OX r):=by refine .lst h ?_;have:=jr (M:=M) (r.map fun g:Nat=>(g:Int));rw[Ky,Ky]at this;exact this
theorem yG(r:pe):(r.map fun g:Nat=>Md (g:Int))=(r.map fun g:Nat=>(g:Int)).map Md:=by rw[Ky];rfl
theorem jD(r:pe):KU (OX r)=MC:=by unfold OX;rw[yG];exact shaped_ints _
theorem pD(r:pe):Ld (OX r)=MC:=by unfold OX;rw[yG,Ld];exact lay_ints _
theorem ua:∀a:pd,KO (Ru a)=MC
 |[]=>rfl
 |r::a=>by
  have e:Ru (r::a)=OX r::Ru a:=rfl
  rw[e,KO,pD,ua a];rfl
theorem u7:∀a b:pe,Km (a.map fun g:Nat=>Md (g:Int)) (b.map fun g:Nat=>Md (g:Int))=decide (a=b)
 |[],[]=>by simp[Km]
 |[],y::b=>by simp[Km]
 |x::a,[]=>by simp[Km]
 |x::a,y::b=>by
  rw[Jn,Jn,Km,u7 a b,K3,gZ,Ks]
  simp only[JN,MN,List.cons.injEq]
  constructor<;>rintro⟨d,c⟩<;>exact⟨(),c⟩
theorem tE(a b:pe):K3 (OX a) (OX b)=decide (a=b):=by unfold OX;rw[K3,u7]
theorem yc(a:pd)(r:pe):((Ru a).any fun q=>K3 q (OX r))=decide (r∈a):=by
 rw[Ks,List.any_eq_true,MN];constructor
 ·rintro⟨q,b,e⟩;obtain⟨s,c,rfl⟩:=JQ.mp b;have e:K3 (OX s) (OX r)=MC:=e;rw[tE,MN]at e;exact e▸c
 ·intro h;exact⟨OX r,JQ.mpr ⟨r,h,rfl⟩,by rw[tE];exact MK rfl⟩
def RM(ws:ro)(outs:pd)(ok:pe->Bool)(i:Nat):Option (Int×Int):=if ok ((outs[i]?).getD [])=MC then MA ((((outs[i]?).getD []).map (Ng ws)).sum,((i:Nat):Int)+1)else MB
def Px(ws:ro)(outs:pd)(ok:pe->Bool)(k:Nat):List (Int×Int):=(10^60,0)::(Jp k).filterMap (RM ws outs ok)
theorem Bu(ws:ro)(outs:pd)(ok:pe->Bool)(k:Nat):(Px ws outs ok k).length<=k+1:=by unfold Px;have:=List.length_filterMap_le (RM ws outs ok) (Jp k);rw[List.length_range]at this;rw[Kk];omega
theorem zO(ws:ro)(outs:pd)(ok:pe->Bool)(k:Nat):Px ws outs ok (k+1)=Px ws outs ok k++(RM ws outs ok k).toList:=by
 unfold Px;rw[KJ,List.filterMap_append,List.cons_append]
 congr 2
theorem Bh{ws:ro}(m:∀w∈ws,NM w){outs:pd}(n:∀S∈outs,S.length<=80){ok:pe->Bool}{P:pe->Prop}(op:∀S∈outs,ok S=MC↔P S){v:Int}(L:FE ws outs P v){b:Int×Int}(k:b∈Px ws outs ok outs.length)(mn:∀c∈Px ws outs ok outs.length,Pu b c):b.2=v:=by
 have get:∀{c:Int×Int},c∈(Jp outs.length).filterMap (RM ws outs ok)->∃j T,outs[j]?=MA T/\P T/\c=((T.map (Ng ws)).sum,((j:Nat):Int)+1):=fun{c} p=>by
  obtain⟨j,d,e⟩:=List.mem_filterMap.mp p
  have d:=JK.mp d
  unfold RM at e
  rw[J0 d]at e
  split at e
  ·rename_i o;exact⟨j,outs[j],J0 d,(op _ (K1 d)).mp o,(Option.some.inj e).symm⟩
  ·cases e
 rcases L with⟨rfl,z⟩|⟨i,S,g,rfl,o,lt,a⟩
 ·rcases JI.mp k with h|h
  ·rw[h]
  ·obtain⟨j,T,f,o,_⟩:=get h;exact absurd o (z T (J8 f))
 ·have l:=J8 g;have q:((S.map (Ng ws)).sum,((i:Nat):Int)+1)∈Px ws outs ok outs.length:=by refine K6 _ (List.mem_filterMap.mpr ⟨i,JK.mpr (Jq.mp g).1,?_⟩);unfold RM;rw[g];exact MI ((op S l).mpr o)
  have r:((i+1:Nat):Int)=((i:Nat):Int)+1:=()
  rw[r];refine yC (mn _ q) ?_;rcases JI.mp k with h|h
  ·rw[h];refine .inl ?_;have:=CP m lt;have:=n S l;show(S.map (Ng ws)).sum<10^60;omega
  ·obtain⟨j,T,f,s,rfl⟩:=get h;by_cases e:j=i
   ·subst e;rw[g]at f;cases f;exact .inr ⟨rfl,Ln _⟩
   ·exact .inl (a j T f e s)
theorem ints_list:∀F:rv,(∀g,g<F.length->∃a,F[g]?=MA (.int a))->∃L:pq,F=L.map D.int
 |[],_=>⟨[],rfl⟩
 |d::F,h=>by
  obtain⟨a,c⟩:=h 0 (by simp)
  obtain⟨L,e⟩:=ints_list F fun g f=>by
   obtain⟨b,i⟩:=h (g+1) ‹f›
   exact⟨b,‹i›⟩
  refine⟨a::L,?_⟩
  have:d=.int a:=‹c›
  rw[this,e];rfl
theorem wA{ws:ro}{F:rv}(i:F.length=2*ws.length)(h:∀g,g<2*ws.length->∃a,F[g]?=MA (.int a)/\∀L,c7 ws L->L[g]?=MA a):∃L:pq,F=L.map D.int/\∀c,c7 ws c->c=L:=by
 obtain⟨L,rfl⟩:=ints_list F fun g d=>by obtain⟨a,e,_⟩:=h g ();exact⟨a,e⟩
 refine⟨L,rfl,fun c f=>List.ext_getElem? fun g=>?_⟩;have l1:=f.len;rw[J4]at i;by_cases d:g<2*ws.length
 ·obtain⟨a,e,k⟩:=h g d;rw[k c f];rw[J6]at e;cases z:L[g]? with
  |none=>rw[z]at e;cases e
  |some b=>rw[z]at e;cases e;rfl
 ·rw[List.getElem?_eq_none (),List.getElem?_eq_none ()]
theorem Fd{a:pe}{n:Nat}(nd:a.Nodup)(lt:∀j∈a,j<n)(h:¬a.length<n):∀j,j<n->j∈a:=fun j b=>K0 fun m=>by have:=pX n (j::a) (Lx.mpr ⟨m,nd⟩) fun x c=>(JI.mp c).elim (fun e=>e▸b) (lt x);rw[Kk]at this;omega
theorem CY(ws:ro):ws.map (OI 1)=ws:=by
 have:OI 1=fun w:Wl=>w:=by funext w;unfold OI;rw[Mk,Mk,Mk,Mk]
 rw[this];exact List.map_id' ws
theorem xZ(g:Nat):Int.fdiv (g:Int) 2=((g/2:Nat):Int):=by rw[Ke _ ⋯];omega
theorem EE{ws:ro}(f:∀w∈ws,NM w){r:pe}(lt:∀g∈r,g<2*ws.length){b:Int×Int}(j:b∈r.map (fa ws))(mn:∀c∈r.map (fa ws),Pu b c):b=fc ws r:=by obtain⟨h,d,rfl⟩:=JQ.mp j;obtain⟨k,g,i,e⟩:=kT ws (L0 d);have a:=mn _ (JQ.mpr ⟨g,i,rfl⟩);have b:=k h d;rw[e]at b ⊢;have y1:=BR f (lt g i);have y0:=BR f (lt h d);refine uJ f (lt h d) (lt g i) ?_;unfold tf at b;unfold Pu at a;unfold la at *;omega
theorem vN{ws:ro}{f:Nat}{r:pe}(R:gw ws f r):r[0]?=MA f/\r.headD 0=f:=by obtain⟨a,_,_,rfl⟩:=R;unfold rn;rw[List.range_succ_eq_map];exact⟨rfl,rfl⟩
open Classical in
open Classical in
open Classical in
def Nt(ps es:q_):rv:=(Jp es.length).map fun j=>.tup [if j=0 then .non else .ref ((ps[j-1]?).getD 0),.ref ((es[j]?).getD 0)]
def Pp(L:pq)(ins:pd)(qs:q_)(j n:Nat):q_:=((Jp n).filter fun i=>decide ((L[((ins[i]?).getD []).headD 0]?).getD 0=(j:Int))).map fun i=>(qs[i]?).getD 0
theorem yf(L:pq)(ins:pd)(qs:q_)(j n:Nat):Pp L ins qs j (n+1)=Pp L ins qs j n++(if(L[((ins[n]?).getD []).headD 0]?).getD 0=(j:Int)then[(qs[n]?).getD 0]else[]):=by
 unfold Pp;rw[KJ,List.filter_append,Jx]
 congr 1
 by_cases h:(L[((ins[n]?).getD []).headD 0]?).getD 0=(j:Int)
 ·rw[MI h,List.filter_cons,MI (MK h)];rfl
 ·rw[ME h,List.filter_cons,ME (fun z=>h (ML z))];rfl
theorem vH(L:pq)(ins:pd)(qs:q_)(j n:Nat):(Pp L ins qs j n).length<=n:=by unfold Pp;rw[J4];have:=KI (fun i=>decide ((L[((ins[i]?).getD []).headD 0]?).getD 0=(j:Int))) (Jp n);rw[List.length_range]at this;exact this
theorem kW(ps es:q_):(Nt ps es).length=es.length:=by unfold Nt;simp
theorem lq(ps es:q_){j:Nat}(h:j<es.length):(Nt ps es)[j]?=MA (.tup [if j=0 then .non else .ref ((ps[j-1]?).getD 0),.ref ((es[j]?).getD 0)]):=by unfold Nt;rw[J6,List.getElem?_range h];rfl
def RH(ps es:q_):rv:=(Jp es.length).map fun j=>.tup [.ref ((ps[j]?).getD 0),.ref ((es[j]?).getD 0)]
theorem zX(ps es:q_)(e:n_):RH ps (es++[e])=RH ps es++[.tup [.ref ((ps[es.length]?).getD 0),.ref e]]:=by
 unfold RH;rw[Ka,List.length_singleton,KJ,Jx]
 congr 1
 ·refine L8 fun j a=>?_;rw[JO (JK.mp a)]
 ·simp
theorem xN(ps es:q_)(a:n_):[D.tup [.non,.ref a]]++RH ps es=Nt ps (a::es):=by unfold Nt RH;rw[Kk,List.range_succ_eq_map,Jn,Ky];rfl
theorem AE{ws:ro}(b:∀w∈ws,NM w)(hF:PF ws){d:pd}(G:OW ws (2*ws.length) d){L:pq}(f:c7 ws L){g:Nat}(h:g<2*ws.length):∃v:Nat,L[g]?=MA (v:Int)/\v<=(d.filter (aG ws)).length:=by
 obtain⟨j,k,l,n⟩:=oh b hF f;have e:=jR k G;subst e;obtain⟨r,o,m⟩:=ib G g h;rcases iX b hF G l n ((la (fc ws r).1 (fc ws r).2).toNat+1) r o () g m with⟨a,_⟩|⟨i,S,_,a,_,c,_⟩
 ·exact⟨0,a,Kj _⟩
 ·exact⟨i+1,c,(Jq.mp a).1⟩
theorem lH{a:Type}{M:MH}{f:a->D}{g:a->Lz}:∀l:List a,(∀x∈l,Pd M (f x) (g x))->Pg M (l.map f) (l.map g)
 |[],_=>.nil
 |x::l,h=>.cons (h x (by simp)) (lH l fun y b=>h y (by simp[b]))
theorem ji{n:Nat}:∀l:List Lz,(∀x∈l,PyData.depth x<=n)->L3 l<=n
 |[],_=>by rw[L3];exact Kj _
 |x::l,h=>by rw[L3];exact Nat.max_le.mpr ⟨h x (by simp),ji l fun y a=>h y (by simp[a])⟩
theorem kS:∀l:List Lz,(∀x∈l,Ld x=MC)->KO l=MC
 |[],_=>rfl
 |x::l,h=>by rw[KO,h x (by simp),kS l fun y a=>h y (by simp[a])];rfl
def WB(L:pq)(ins:pd)(j:Nat):List Lz:=((Jp ins.length).filter fun i=>decide ((L[((ins[i]?).getD []).headD 0]?).getD 0=(j:Int))).map fun i=>OX ((ins[i]?).getD [])
def Xy(L:pq)(outs ins:pd)(j:Nat):Lz:=.tuple [if j=0 then .none else OX ((outs[j-1]?).getD []),.list (WB L ins j)]
def V9(L:pq)(outs ins:pd)(n:Nat):Lz:=.list ((Jp n).map (Xy L outs ins))
theorem zx(r:pe):PyData.depth (OX r)<=1:=by
 unfold OX;rw[PyData.depth];have:=ji (n:=0) (r.map fun g:Nat=>Md (g:Int)) fun x a=>by obtain⟨g,_,rfl⟩:=JQ.mp a;rw[PyData.depth];exact J9 _
 omega
theorem Dh(L:pq)(outs ins:pd)(n:Nat):KU (V9 L outs ins n)=MC:=by
 have c:∀j,KO (WB L ins j)=MC:=fun j=>kS _ fun x a=>by obtain⟨i,_,rfl⟩:=JQ.mp a;exact pD _
 have d:∀j,L3 (WB L ins j)<=1:=fun j=>ji _ fun x a=>by obtain⟨i,_,rfl⟩:=JQ.mp a;exact zx _
 refine kj (kS _ fun x a=>?_) (ji _ fun x a=>?_)
 ·obtain⟨j,_,rfl⟩:=JQ.mp a;unfold Xy;rw[Ld];refine kS _ fun y b=>?_;rcases JI.mp b with rfl|b
  ·split
   ·rfl
   ·exact pD _
  ·rw[JH.mp b,Ld];exact c j
 ·obtain⟨j,_,rfl⟩:=JQ.mp a;unfold Xy;rw[PyData.depth];refine Nat.succ_le_succ (ji (n:=9) _ fun y b=>?_);rcases JI.mp b with rfl|b
  ·split
   ·rw[PyData.depth];exact Kj _
   ·exact Kr (zx _) ⋯
  ·rw[JH.mp b,PyData.depth];have:=d j;omega
theorem xC{M:MH}{z:n_}{ps qs es:q_}{L:pq}{outs ins:pd}(hz:M z=MA (.lst (Nt ps es)))(a:RL M ps outs)(b:RL M qs ins)(f:es.length=ps.length+1)(g:∀(j:Nat) e,es[j]?=MA e->M e=MA (.lst ((Pp L ins qs j qs.length).map D.ref))):Pd M (.ref z) (V9 L outs ins (outs.length+1)):=by
 refine .lst hz ?_;unfold Nt;rw[f,a.len];refine lH _ fun j c=>?_;have c:=JK.mp c;have h:=a.len;refine .tup (.cons ?_ (.cons ?_ .nil))
 ·split
  ·exact .non
  ·obtain⟨S,e,m⟩:=a.get (():j-1<ps.length);rw[e,J0 ()];exact ie m
 ·have e:=J0 (():j<es.length);rw[e];refine .lst (g j _ e) ?_;unfold Pp WB;rw[Ky,b.len];refine lH _ fun i d=>?_;have d:=JK.mp (Jr.mp d).1;have k:=b.len;obtain⟨S,e,m⟩:=b.get (():i<qs.length);rw[e];show Pd M (.ref ((qs[i]?).getD 0)) _;rw[J0 ()];exact ie m
theorem zr(ps es:q_)(e:n_):Nt ps (es++[e])=Nt ps es++[.tup [if es.length=0 then .non else .ref ((ps[es.length-1]?).getD 0),.ref e]]:=by
 unfold Nt;rw[Ka,List.length_singleton,KJ,Jx]
 congr 1
 ·refine L8 fun j a=>?_;rw[JO (JK.mp a)]
 ·simp
theorem CH{ps es:q_}(h:es.length=ps.length+1){l:rv}(a:∀d∈l,∀b,d≠.tup b):Nt ps es≠l:=fun e=>by have:=lq ps es (():0<es.length);rw[e]at this;exact a _ (J8 this) _ rfl
theorem Cg{M:MH}{p q:n_}{L:pq}{outs ins:pd}{n:Nat}{Q:DK}(a:Pd M (.ref p) (V9 L outs ins n))(b:Pd M (.ref q) (V9 L outs ins n))(k:Q (.bl MD) M):BZ (.ref p) (.ref q) M Q:=by have s:=Dh L outs ins n;refine .mk _ _ a b s s ?_;rw[SeqAt.eqv_refl _ (L6 s)];exact k
end SD
namespace HT
open PySem PyProof.Rows
section
open PySem.SeqAt
open PySem.AutoSeq1 (wpAny_loadPart')
open PySem.MeetsSeq PySem.MeetsSeq2 PySem.MeetsSeq3 PySem.SeqRoads2
theorem rR(l:n_)(items:Array J3)(n:Nat)(t:Option n_)(u:Array (Option J3))(x:J3)(a:Int)(j:Nat)(r:j<items.size)(b:(j:Int)<a)(k:Nat) :
 ∀i:Nat,j-i=k->i<=j->Meets (Mx.«list.index.loop» ⟨[.ref l,x,rawInt i,rawInt a],[]⟩)
  (fun A R s=>s.heap.get? l=MA { cls:=.type "list",dict:=t,data:=.seq items n,slots:=u }/\(∀(i:Nat) (m:i<items.size),i<=j->EqAt A.in1 s items[i] x (decide (i=j)))/\R (.ok (.ret (.int j s.toks))) { s with toks:=s.toks+1 }):=by
 induction k with
 |zero=>
  intro i v c prog w A R s h
  obtain⟨y,g,d,z,os⟩:=s;obtain⟨o,p,h⟩:=h
  have e:i=j:=()
  subst e
  wp_walk using KQ o
  have m:(if(i:Int)<a then items[((i:Nat):Int).toNat]? else MB)=MA items[i]:=by simp[b,r]
  rw[m]
  refine cc (p i r (J9 _) prog w _ _ ?_)
  rw[MK rfl]
  wp_walk
  exact h
 |succ k B=>
  intro i v c prog w A R s h
  obtain⟨y,g,d,z,os⟩:=s;obtain⟨o,p,h⟩:=h
  have f:i<items.size:=()
  have q:(i:Int)<a:=()
  wp_walk using KQ o
  have m:(if(i:Int)<a then items[((i:Nat):Int).toNat]? else MB)=MA items[i]:=by simp[q,f]
  have C:((i:Int)+1)=((i+1:Nat):Int):=by push_cast;rfl
  rw[m]
  refine cc (p i f c prog w _ _ ?_)
  rw[MJ (():¬i=j)]
  wp_walk
  rw[C]
  exact⟨LK plain_index_loop _,Ly entry_index_loop (by
   rw[KZ plain_index_loop _]
   exact B (i+1) () () prog w A R _ ⟨o,p,h⟩)⟩
theorem qx(l:n_)(items:Array J3)(n:Nat)(b:Option n_)(c:Array (Option J3))(x:J3)(j:Nat)(f:j<items.size)(a:(j:Int)<2^63-1) :
 Meets (Mx.«list.index» ⟨[.ref l,x],[]⟩)
  (fun A R s=>s.heap.get? l=MA { cls:=.type "list",dict:=b,data:=.seq items n,slots:=c }/\(∀(i:Nat) (p:i<items.size),i<=j->EqAt A.in1 s items[i] x (decide (i=j)))/\R (.ok (.ret (.int j s.toks))) { s with toks:=s.toks+1 }):=by
 intro prog w A R s h
 obtain⟨q,g,d,r,os⟩:=s;obtain⟨e,k,h⟩:=h
 wp_walk using KQ e
 have m:((fun i:Int=>if i<0 then max 0 (i+(items.size:Int))else i) ((MB:pw).getD 0))=((0:Nat):Int):=by simp
 have o:((fun i:Int=>if i<0 then max 0 (i+(items.size:Int))else i) ((MB:pw).getD (2^63-1)))=2^63-1:=by simp
 rw[m,o]
 exact⟨LK plain_index_loop _,Ly entry_index_loop (by
  rw[KZ plain_index_loop _]
  exact rR l items n b c x (2^63-1) j f a _ 0 rfl (Kj _) prog w A R _ ⟨e,k,h⟩)⟩
end
end HT
namespace SD
open PySem PySem.Spec PyProof.Rows L2
section
variable{X:Cx}
def FJ(f:TD)(t:Nb):TD:=fun δ M Q=>f δ M fun x e=>∃l b,x=.ref l/\e l=MA (.lst b)/\t δ e fun g a=>∃c d p,∃j:Nat,g=[d]/\a l=MA (.lst c)/\j<c.length/\Pd a d p/\KU p=MC/\
 (∀(i:Nat) (y:D),i<=j->c[i]?=MA y->∃q,Pd a y q/\Ld q=MC/\K3 q p=decide (i=j))/\Q (.int (j:Int)) a
def IT(K:J1):V->ri->Hp->VK->Prop:=fun x vs H Q=>∃a b M v d p,∃j:Nat,x=.ref a/\vs=[v]/\NW K H M/\M a=MA (.lst b)/\Rep K H d v/\j<b.length/\Pd M d p/\KU p=MC/\
 (∀(i:Nat) (y:D),i<=j->b[i]?=MA y->∃q,Pd M y q/\Ld q=MC/\K3 q p=decide (i=j))/\Q (.int (j:Int)) H
theorem Eu(hu:X.A.units+66<Ku):WG X "list.index" (IT X.K):=by
 intro MR s σ H x vs v us Q I z B C;obtain⟨a,l,M,v1,d,p,j,ex,D,m,E,hd,G,J,f,g,q⟩:=C;subst ex D;cases z;obtain⟨L,rfl,N⟩:=B.one;obtain⟨xs,O,r⟩:=m _ _ E;obtain⟨c,h,P,R⟩:=I.list (NX.of O);obtain⟨o,y,S,n,T⟩:=P.isList;obtain⟨as,U⟩:=bP I m J hd N;have b:c.length=l.length:=by rw[<-h.length,r.length]
 obtain⟨oc,od,V,osl⟩:=o;cases S;cases T
 have W:(j:Int)<2^63-1:=by
  rw[sizeLine_eq]at R
  have:=r.length
  omega
 refine call_meets PySem.F.slot_list_index ⟨_,y,rfl⟩ PySem.F.entry_list_index (PySem.F.args_list_index_2 _ _) (HT.qx a c.toArray n od osl L j (by simpa[b]using G) W) ⟨y,fun i Y t=>?_,?_⟩
 ·have k:i<l.length:=by simpa[b]using Y
  obtain⟨Z,g1,g2,g3⟩:=g i l[i] t (J0 k);obtain⟨x1,e1,u⟩:=r.get (J0 k);obtain⟨u2,e2,w⟩:=h.get e1;obtain⟨bs,q2⟩:=bP I m g1 u w
  have e3:c.toArray[i]=u2:=by
   have:=Jq.mp e2
   obtain⟨_,e⟩:=this
   simpa using e
  rw[e3,<-g3];have hm:min Z.depth p.depth<=63+1:=Kr (Nat.min_le_right _ _) (SeqAt.depth_of_shaped f);exact PySem.SeqAt.eqAt_reads _ _ _ _ _ _ _ _ q2 U g2 (L6 f) (by show X.A.units+1+_<Ku;omega)
 ·exact⟨.int _,H,I.tok _,⟨_,rfl⟩,q⟩
variable{o e1:o_}{to:TD}{t:Nb}{apos bg:Pos}
theorem sR(z:X.A.units+66<Ku)(B:DE X o to)(C:DA X [e1] t)
 (b:LH o "index" X.env (eval o X.env)=eval o X.env:=by rfl)
 (g:((L5 bg (JC [e1] X.env)).all (fun x=>!x.1)&&(backToKw bg (LW [] X.env)).all (fun x=>x.1.isSome)
  && decide ([e1].length+([]:List Mt).length+(if([]:List Mt).isEmpty then 0 else 1)<30))=MC:=by rfl)
 (c:(apos.endLine==bg.line)=MC:=by rfl) (D:JC [e1] X.env=(MD,eval e1 X.env)::JC [] X.env:=by rfl) (a:(L5 bg (JC [] X.env)).any (·.1)=MD:=by rfl) :
 DE X (.Call (.Attribute o "index" apos) [e1] [] bg) (FJ to t):=
 bw (xn PySem.F.plainAttrs_list PySem.F.slot_list_index PySem.F.type_list_index (Eu z) B C b g c D a) fun σ H Q E=>by
  obtain⟨δ,M,R,h,G,q,k⟩:=E
  refine⟨δ,M,_,h,G,q,fun x I v H1 r s w e=>?_⟩
  obtain⟨l,J,ex,K,L⟩:=e
  subst ex
  rw[Rep]at s
  subst s
  obtain⟨vs,m,_⟩:=w _ _ K
  refine⟨.inl ⟨rfl,vs,NX.of m⟩,δ,I,_,h.mono r,w,L,fun ds N us H2 O P y f=>?_⟩
  obtain⟨S,d,p,j,T,U,V,W,n,i,Y⟩:=f
  subst T
  obtain⟨u,rfl,Z⟩:=cA P
  exact⟨l,S,N,u,d,p,j,rfl,rfl,y,U,Z,V,W,n,i,k _ _ _ _ (r.trans O) (by rw[Rep]) y Y⟩
end
section
variable{P:JL}{w:Kg}{K:J1}{mg:Str->Option J3}{base:oT}{x:Str}{st:oa}{N:ra}{k:Nat}
def P6(C:D->MH->DK->Prop):Pe:=fun b M Q=>match b with
 |[a]=>C a M Q
 |_=>False
theorem eM{p:Str}{C:D->MH->DK->Prop}(T:Txt K mg x st)(S:NJ N [p] (ay st))
 (body:∀(f:n_) (cdv:J3) (A:Kn) (outer:List Env) (s:J5) (H:Hp) (E:XK),N1 k (A.deeper (envOfC x (ay st) s.z f cdv))->
  ∃t,DSs (jQ P8 P w K mg base N x (ay st) f cdv A outer s H E).nox (bG st) t/\∀a M Q,C a M Q->t (qT Q) (gR N [a]) M)
 (e:∀(kV b d:J3) (an:Option n_) (cdv ct a:J3),bindArgs (Le x x (cL st) (bG st) (ay st) .none kV b d an cdv ct) ⟨[a],[]⟩=pure ([p].zip [a]):=by intros;rfl):Cal P w K mg base (k+1) x (P6 C):=by
 refine Bb T S (fun kV b d an cdv ct us g=>?_) (fun c M Q h=>?_) fun f cdv A outer s H E i=>?_
 ·obtain⟨a,rfl⟩:=BI g
  exact e ..
 ·rcases c with _|⟨a,_|⟨w,c⟩⟩
  all_goals first|exact JR h|rfl
 ·obtain⟨t,h,j⟩:=body f cdv A outer s H E i
  refine⟨t,h,fun c M Q h=>?_⟩
  rcases c with _|⟨a,_|⟨w,c⟩⟩
  all_goals first|exact JR h|exact j _ _ _ h
def Nk(C:D->D->MH->DK->Prop):Pe:=fun c M Q=>match c with
 |[a,b]=>C a b M Q
 |_=>False
theorem bU{p q:Str}{C:D->D->MH->DK->Prop}(T:Txt K mg x st)(S:NJ N [p,q] (ay st))
 (body:∀(f:n_) (cdv:J3) (A:Kn) (outer:List Env) (s:J5) (H:Hp) (E:XK),N1 k (A.deeper (envOfC x (ay st) s.z f cdv))->
  ∃t,DSs (jQ P8 P w K mg base N x (ay st) f cdv A outer s H E).nox (bG st) t/\∀a b M Q,C a b M Q->t (qT Q) (gR N [a,b]) M)
 (g:∀(kV c e:J3) (an:Option n_) (cdv ct a b:J3),bindArgs (Le x x (cL st) (bG st) (ay st) .none kV c e an cdv ct) ⟨[a,b],[]⟩=pure ([p,q].zip [a,b]):=by intros;rfl):Cal P w K mg base (k+1) x (Nk C):=by
 refine Bb T S (fun kV c e an cdv ct us i=>?_) (fun d M Q h=>?_) fun f cdv A outer s H E j=>?_
 ·obtain⟨a,b,rfl⟩:=yU i
  exact g ..
 ·rcases d with _|⟨a,_|⟨b,_|⟨w,d⟩⟩⟩
  all_goals first|exact JR h|rfl
 ·obtain⟨t,h,l⟩:=body f cdv A outer s H E j
  refine⟨t,h,fun d M Q h=>?_⟩
  rcases d with _|⟨a,_|⟨b,_|⟨w,d⟩⟩⟩
  all_goals first|exact JR h|exact l _ _ _ _ h
def RZ(C:D->D->D->MH->DK->Prop):Pe:=fun d M Q=>match d with
 |[a,b,c]=>C a b c M Q
 |_=>False
theorem lG{p q r:Str}{C:D->D->D->MH->DK->Prop}(T:Txt K mg x st)(S:NJ N [p,q,r] (ay st))
 (body:∀(f:n_) (cdv:J3) (A:Kn) (outer:List Env) (s:J5) (H:Hp) (E:XK),N1 k (A.deeper (envOfC x (ay st) s.z f cdv))->
  ∃t,DSs (jQ P8 P w K mg base N x (ay st) f cdv A outer s H E).nox (bG st) t/\∀a b c M Q,C a b c M Q->t (qT Q) (gR N [a,b,c]) M)
 (i:∀(kV d g:J3) (an:Option n_) (cdv ct a b c:J3),bindArgs (Le x x (cL st) (bG st) (ay st) .none kV d g an cdv ct) ⟨[a,b,c],[]⟩=pure ([p,q,r].zip [a,b,c]):=by intros;rfl):Cal P w K mg base (k+1) x (RZ C):=by
 refine Bb T S (fun kV d g an cdv ct us j=>?_) (fun e M Q h=>?_) fun f cdv A outer s H E l=>?_
 ·obtain⟨a,b,c,rfl⟩:=Hy j
  exact i ..
 ·rcases e with _|⟨a,_|⟨b,_|⟨c,_|⟨w,e⟩⟩⟩⟩
  all_goals first|exact JR h|rfl
 ·obtain⟨t,h,m⟩:=body f cdv A outer s H E l
  refine⟨t,h,fun e M Q h=>?_⟩
  rcases e with _|⟨a,_|⟨b,_|⟨c,_|⟨w,e⟩⟩⟩⟩
  all_goals first|exact JR h|exact m _ _ _ _ _ h
def YI(C:D->D->D->D->MH->DK->Prop):Pe:=fun e M Q=>match e with
 |[a,b,c,d]=>C a b c d M Q
 |_=>False
theorem Hz{p q r t:Str}{C:D->D->D->D->MH->DK->Prop}(T:Txt K mg x st)(S:NJ N [p,q,r,t] (ay st))
 (body:∀(f:n_) (cdv:J3) (A:Kn) (outer:List Env) (s:J5) (H:Hp) (E:XK),N1 k (A.deeper (envOfC x (ay st) s.z f cdv))->
  ∃t,DSs (jQ P8 P w K mg base N x (ay st) f cdv A outer s H E).nox (bG st) t/\∀a b c d M Q,C a b c d M Q->t (qT Q) (gR N [a,b,c,d]) M)
 (j:∀(kV e i:J3) (an:Option n_) (cdv ct a b c d:J3),bindArgs (Le x x (cL st) (bG st) (ay st) .none kV e i an cdv ct) ⟨[a,b,c,d],[]⟩=pure ([p,q,r,t].zip [a,b,c,d]):=by intros;rfl):Cal P w K mg base (k+1) x (YI C):=by
 refine Bb T S (fun kV e i an cdv ct us l=>?_) (fun g M Q h=>?_) fun f cdv A outer s H E m=>?_
 ·obtain⟨a,b,c,d,rfl⟩:=IU l
  exact j ..
 ·rcases g with _|⟨a,_|⟨b,_|⟨c,_|⟨d,_|⟨w,g⟩⟩⟩⟩⟩
  all_goals first|exact JR h|rfl
 ·obtain⟨t,h,n⟩:=body f cdv A outer s H E m
  refine⟨t,h,fun g M Q h=>?_⟩
  rcases g with _|⟨a,_|⟨b,_|⟨c,_|⟨d,_|⟨w,g⟩⟩⟩⟩⟩
  all_goals first|exact JR h|exact n _ _ _ _ _ _ h
end
theorem Pt{t:Nr}{B:EndsD}{δ:DS}{M:MH}(h:∀a:EndsD,(∀δ M,B.nx δ M->a.nx δ M)->t a δ M):t B δ M:=h B fun _ _ h=>h
@[elab_as_elim] theorem Po{P:rr->Prop}{n:Nat}{T:rr}(b:T.length=n+1)(h:∀(a:rx) (U:rr),U.length=n->P (a::U)):P T:=by
 cases T with
 |nil=>cases b
 |cons a U=>exact h a U (Nat.succ.inj b)
theorem Yx{P:rr->Prop}{T:rr}(b:T.length=0)(h:P []):P T:=by
 cases T with
 |nil=>exact h
 |cons a U=>cases b
@[elab_as_elim] theorem Iw{P:rr->Prop}{T:rr}(d:T.length=3)(h:∀a b c,P [a,b,c]):P T:=Po (P:=P) d fun a U d=>Po (P:=fun T=>P (a::T)) d fun b U d=>Po (P:=fun T=>P (a::b::T)) d fun c U d=>Yx (P:=fun T=>P (a::b::c::T)) d (h a b c)
@[elab_as_elim] theorem Hm{P:rr->Prop}{T:rr}(g:T.length=6)(h:∀a b c d e f,P [a,b,c,d,e,f]):P T:=Po (P:=P) g fun a U g=>Po (P:=fun T=>P (a::T)) g fun b U g=>Po (P:=fun T=>P (a::b::T)) g fun c U g=>Iw (P:=fun T=>P (a::b::c::T)) g (h a b c)
@[elab_as_elim] theorem IC{P:rr->Prop}{T:rr}(i:T.length=7)(h:∀a b c d e f g,P [a,b,c,d,e,f,g]):P T:=Po (P:=P) i fun a U i=>Hm (P:=fun T=>P (a::T)) i (h a)
@[elab_as_elim] theorem Gg{P:rr->Prop}{T:rr}(k:T.length=9)(h:∀a b c d e f g i j,P [a,b,c,d,e,f,g,i,j]):P T:=Po (P:=P) k fun a U k=>Po (P:=fun T=>P (a::T)) k fun b U k=>Po (P:=fun T=>P (a::b::T)) k fun c U k=>Hm (P:=fun T=>P (a::b::c::T)) k (h a b c)
@[elab_as_elim] theorem G9{P:rr->Prop}{T:rr}(o:T.length=13)(h:∀a b c d e f g i j k l m n,P [a,b,c,d,e,f,g,i,j,k,l,m,n]):P T:=Po (P:=P) o fun a U o=>Po (P:=fun T=>P (a::T)) o fun b U o=>Po (P:=fun T=>P (a::b::T)) o fun c U o=>Po (P:=fun T=>P (a::b::c::T)) o fun d U o=>Gg (P:=fun T=>P (a::b::c::d::T)) o (h a b c d)
theorem ZI{c:Prop}[Decidable c]{a v:D}(h:(if c then MA a else MB)=MA v):a=v:=by
 by_cases b:c
 ·rw[MI b]at h;exact Option.some.inj h
 ·rw[ME b]at h;cases h
theorem G6{a:Type}{f:a->D}{l:List a}{i:Nat}{d:D}(h:(l.map f)[i]?=MA d):∃x,l[i]?=MA x/\d=f x:=by
 rw[J6]at h;cases e:l[i]? with
 |none=>rw[e]at h;cases h
 |some x=>rw[e]at h;cases h;exact⟨x,rfl,rfl⟩
theorem Gy{a:Type}{f:a->D}{l:List a}{i:Nat}(h:i<(l.map f).length):i<l.length:=by rwa [J4]at h
theorem Oq{M:MH}{p a:PySem.Addr}{o u:MO}(h:M a=MA u)(b:M p=MB):(az M p o) a=MA u:=by
 have n:a≠p:=fun e=>by rw[e,b]at h;cases h
 rw[au n];exact h
inductive SF(a b c d:Prop):Prop
 |mk (_:a) (_:b) (_:c) (_:d):SF a b c d
inductive RW(a b c d e:Prop):Prop
 |mk (_:a) (_:b) (_:c) (_:d) (_:e):RW a b c d e
inductive S1(a b c d e f:Prop):Prop
 |mk (_:a) (_:b) (_:c) (_:d) (_:e) (_:f):S1 a b c d e f
inductive Vt(a b c d e f g:Prop):Prop
 |mk (_:a) (_:b) (_:c) (_:d) (_:e) (_:f) (_:g):Vt a b c d e f g
inductive YE(a b c d e f g h:Prop):Prop
 |mk (_:a) (_:b) (_:c) (_:d) (_:e) (_:f) (_:g) (_:h):YE a b c d e f g h
inductive Vr(a b c d e f g h i:Prop):Prop
 |mk (_:a) (_:b) (_:c) (_:d) (_:e) (_:f) (_:g) (_:h) (_:i):Vr a b c d e f g h i
inductive SG(a b c d e f g h i j:Prop):Prop
 |mk (_:a) (_:b) (_:c) (_:d) (_:e) (_:f) (_:g) (_:h) (_:i) (_:j):SG a b c d e f g h i j
inductive Vu(a b c d e f g h i j k:Prop):Prop
 |mk (_:a) (_:b) (_:c) (_:d) (_:e) (_:f) (_:g) (_:h) (_:i) (_:j) (_:k):Vu a b c d e f g h i j k
inductive Qw{a0 a1:Type}(p:a0->a1->Prop):Prop
 |mk (x0:a0) (x1:a1) (h:p x0 x1):Qw p
inductive Pz{a0 a1 a2:Type}(p:a0->a1->a2->Prop):Prop
 |mk (x0:a0) (x1:a1) (x2:a2) (h:p x0 x1 x2):Pz p
inductive SA{a0 a1 a2 a3:Type}(p:a0->a1->a2->a3->Prop):Prop
 |mk (x0:a0) (x1:a1) (x2:a2) (x3:a3) (h:p x0 x1 x2 x3):SA p
inductive SY{a0 a1 a2 a3 a4:Type}(p:a0->a1->a2->a3->a4->Prop):Prop
 |mk (x0:a0) (x1:a1) (x2:a2) (x3:a3) (x4:a4) (h:p x0 x1 x2 x3 x4):SY p
inductive YW{a0 a1 a2 a3 a4 a5:Type}(p:a0->a1->a2->a3->a4->a5->Prop):Prop
 |mk (x0:a0) (x1:a1) (x2:a2) (x3:a3) (x4:a4) (x5:a5) (h:p x0 x1 x2 x3 x4 x5):YW p
inductive WJ{a0 a1 a2 a3 a4 a5 a6:Type}(p:a0->a1->a2->a3->a4->a5->a6->Prop):Prop
 |mk (x0:a0) (x1:a1) (x2:a2) (x3:a3) (x4:a4) (x5:a5) (x6:a6) (h:p x0 x1 x2 x3 x4 x5 x6):WJ p
inductive YV{a0 a1 a2 a3 a4 a5 a6 a7:Type}(p:a0->a1->a2->a3->a4->a5->a6->a7->Prop):Prop
 |mk (x0:a0) (x1:a1) (x2:a2) (x3:a3) (x4:a4) (x5:a5) (x6:a6) (x7:a7) (h:p x0 x1 x2 x3 x4 x5 x6 x7):YV p
end SD
namespace QQ
open PySem PySem.Spec PyProof.Rows L2 SD
def top(i:Nat):oa:=JY.main.body.getD i (.Pass ⟨0,0,0,0⟩)
abbrev iI:oa:=top 40
abbrev md:oa:=top 41
abbrev kH:oa:=top 43
abbrev mU:oa:=top 46
abbrev qH:oa:=top 47
abbrev lz:oa:=top 48
abbrev fD:oa:=top 49
abbrev oC:oa:=top 58
abbrev ki:oa:=top 59
abbrev ot:oa:=top 60
abbrev iB:oa:=top 61
abbrev n6:oa:=top 42
abbrev lK:oa:=top 44
abbrev mN:oa:=top 45
abbrev mP:oa:=top 50
abbrev jt:oa:=top 51
abbrev jc:oa:=top 52
abbrev kI:oa:=top 53
abbrev ku:oa:=top 54
abbrev ky:oa:=top 56
abbrev ja:oa:=top 55
abbrev kD:oa:=top 57
abbrev km:oa:=top 26
abbrev fH:oa:=top 27
abbrev Ce:oa:=top 17
abbrev yk:oa:=top 18
abbrev oz:oa:=top 19
abbrev gr:oa:=top 28
abbrev iq:oa:=top 29
abbrev kr:oa:=top 30
abbrev lJ:oa:=top 31
abbrev eP:oa:=top 4
abbrev gu:oa:=top 7
abbrev mZ:oa:=top 8
abbrev jb:oa:=top 32
abbrev fo:oa:=top 34
abbrev om:oa:=top 6
abbrev lL:oa:=top 10
abbrev jy:oa:=top 12
abbrev gx:oa:=top 35
abbrev ip:oa:=top 13
abbrev ir:oa:=top 14
abbrev uW:oa:=top 21
abbrev mh:oa:=top 11
abbrev my:oa:=top 22
abbrev mG:oa:=top 5
abbrev m7:oa:=top 15
abbrev lU:oa:=top 16
abbrev ml:oa:=top 23
abbrev iA:oa:=top 24
abbrev ju:oa:=top 36
abbrev fQ:oa:=top 37
abbrev lF:oa:=top 38
abbrev Ct:oa:=top 62
local macro_rules | `(tactic| walk_at "sc") => `(tactic| exact ⟨rfl, rfl, rfl, by decide, rfl, by decide, by decide⟩)
theorem _root_.SD.Cal.m{P:JL}{w:Kg}{K:J1}{mg:Str->Option J3}{base:oT}{j k:Nat}{x:Str}{sp:Pe}(h:Cal P w K mg base j x sp)(l:j<=k:=by decide):Cal P w K mg base k x sp:=h.mono l
variable(sj sm sv s_ tw:SD.D)(M:SD.MH)(Q:SD.DK)
open SD.Zq
structure Tx(K:J1)(mg:Str->Option J3):Prop where
 ar:Txt K mg "_law_cell_at" iI
 a8:Txt K mg "_law_take" md
 a_:Txt K mg "_law_scale" kH
 bb:Txt K mg "_law_turn" mU
 bf:Txt K mg "_law_on" qH
 bp:Txt K mg "_law_fair" lz
 bq:Txt K mg "_law_shuts_here" fD
 bu:Txt K mg "_law_box" oC
 b5:Txt K mg "_law_order" ki
 b8:Txt K mg "_law_set" ot
 b9:Txt K mg "_law_squares" iB
 b_:Txt K mg "_law_low" n6
 cb:Txt K mg "_law_spot" lK
 cm:Txt K mg "_law_made" mN
 cp:Txt K mg "_law_ends" mP
 c_:Txt K mg "_law_sooner" jt
 dd:Txt K mg "_law_behind" jc
 dV:Txt K mg "_law_rings" kI
 d_:Txt K mg "_law_twice" ku
 en:Txt K mg "_law_group" ky
 eu:Txt K mg "_law_inside" ja
 eH:Txt K mg "_law_lands" kD
 eL:Txt K mg "face_ends" km
 eT:Txt K mg "faces_by_start" fH
 e_:Txt K mg "gap" Ce
 fC:Txt K mg "lean" yk
 f_:Txt K mg "side_of" oz
 gp:Txt K mg "is_met_sooner" gr
 gq:Txt K mg "face_behind" iq
 gz:Txt K mg "ring_from" kr
 g_:Txt K mg "rings_of" lJ
 hH:Txt K mg "greatest_divisor" eP
 hJ:Txt K mg "common_bottom" gu
 hL:Txt K mg "top_over" mZ
 hP:Txt K mg "twice_area" jb
 hQ:Txt K mg "outer_and_inner" fo
 hV:Txt K mg "is_less" om
 hY:Txt K mg "is_ahead" lL
 h5:Txt K mg "earlier_of" jy
 h7:Txt K mg "first_corner" gx
 h_:Txt K mg "place_among" ip
 ia:Txt K mg "ahead_first" ir
 ij:Txt K mg "spans" uW
 i7:Txt K mg "later_of" mh
 i_:Txt K mg "is_above" my
 jl:Txt K mg "fraction" mG
 jm:Txt K mg "own_spot" m7
 j_:Txt K mg "own_wall" lU
 ka:Txt K mg "upper_of" ml
 kc:Txt K mg "upper_below" iA
 ke:Txt K mg "land_about" ju
 kq:Txt K mg "lands_of_faces" fQ
 kz:Txt K mg "lands_of" lF
 k_:Txt K mg "law" Ct
 k':mg "abs"=MB
 lk:mg "all"=MB
 lu:mg "enumerate"=MB
 lx:mg "int"=MB
 l_:mg "isinstance"=MB
 mu:mg "len"=MB
 mx:mg "list"=MB
 mA:mg "max"=MB
 mO:mg "min"=MB
 mT:mg "range"=MB
 m_:mg "sum"=MB
 nc:mg "tuple"=MB
 n7:mg "zip"=MB
theorem mD:NJ ["_law_script","_law_k"] ["_law_script","_law_k"] (ay iI):=⋯
inductive OQ:Prop
 |mk (ns:_) (k:_) (_:sj=.rol (Lm D.int ns)) (_:sm=.int k) (_:0<=k) (_:∀z,Q (.int z) M)
variable{P:JL}{w:Kg}{K:J1}{mg:Str->Option J3}{base:oT}
theorem nG(T:Tx K mg):Cal P w K mg base 1 "_law_cell_at" (Nk OQ):=by
 refine bU (k:=0) T.ar mD fun f _ _ _ s H _ a=>⟨_,(aq (bF (aL (dQ a.units) (dv 1) (aN cS rfl T.mu cU (ae (dv 0) ak))) (av (aH (aB (dv 0) (dv 1)))) aS) (av (aH ao))),fun _ _ M Q h=>?_⟩;obtain⟨ns,k,rfl,rfl,e,q⟩:=h;(repeat (first|refine⟨_,rfl,?_⟩|refine⟨trivial,?_⟩|refine⟨_,_,rfl,?_⟩|refine⟨rfl,?_⟩|refine⟨NL rfl,?_⟩))
 refine bQ (fun b=>?_) (fun _=>?_)
 ·have c:k<(ns.length:Int):=‹b›
  obtain⟨j,rfl⟩:∃j:Nat,k=(j:Int):=⟨k.toNat,()⟩;have d:j<ns.length:=()
  refine⟨_,rfl,_,rfl,.int ns[j],bH (by simp[d]),NZ (q _)⟩
 ·exact NZ (q 0)
theorem eR:NJ ["_law_row","_law_base","_law_rest","_law_number"] ["_law_row","_law_base"] (ay md):=⋯
inductive PN:Prop
 |mk (r:_) (b:_) (x:_) (c:_) (_:sj=.ref r) (_:sm=.int b) (_:M r=MA (.lst [.int x,.int c])) (_:0<=c) (_:c<1000000) (_:0<b) (_:Bd 8000 b) (_:∀x' v,0<=v->v<b->Q (.int v) (az M r (.lst [.int x',.int (c+1)])))
theorem aJ(T:Tx K mg):Cal P w K mg base 1 "_law_take" (Nk PN):=by
 refine bU (k:=0) T.a8 eR fun f _ _ _ s H _ p=>⟨_,(aq (cu (aC aO (aB (dv 0) ao) ao) (l6 (dv 0) ao)) (aq (bF (aL xw (aB (dv 0) ao) (aC iO ao ao)) (aq (aD 2 eR.nd (aC dF (aB (dv 0) ao) (aC iO ao ao))) (aq (cu (aC aO (aC iO ao ao) (aC fm (dv 2) (dv 1))) (l6 (dv 0) ao)) (av (aH (aC ft (dv 2) (dv 1)))))) aS) (aq (aD 3 eR.nd (aC ft (aC aO (aC aO (aC aO (aC aU (aB (dv 0) ao) ao) (aC aU (aC aU ao (aB (dv 0) ao)) (aB (dv 0) ao))) (aC aU ao (aB (dv 0) ao))) ao) ao)) (aq (aD 3 eR.nd (aC ft (aC aO (aC aO (aC aU (dv 3) (dv 3)) (aC aU ao (dv 3))) (aB (dv 0) ao)) ao)) (av (aH (aC ft (aC fm (dv 3) ao) (dv 1)))))))),fun _ _ M Q h=>?_⟩;obtain⟨r,b,x,c,rfl,rfl,i,l,m,j,g,q⟩:=h;have d:Bd 64 (c+1):=by show(c+1).natAbs<2^64;omega
 have a:b≠0:=()
 have e:∀n:Int,0<=n.fmod b/\n.fmod b<b:=fun n=>⟨Int.fmod_nonneg_of_pos _ j,Int.fmod_lt_of_pos _ j⟩;refine⟨_,rfl,_,_,i,rfl,?_⟩;refine⟨_,rfl,_,_,i,rfl,?_⟩;refine⟨_,rfl,_,_,ag,rfl,⟨⋯,⋯,⋯⟩,trivial,_,rfl,?_⟩;refine bQ (fun h=>?_) (fun h=>?_)
 ·refine⟨_,rfl,_,_,ag,rfl,⟨⋯,⋯,⋯⟩,trivial,?_⟩;refine⟨⟨⋯,⋯,⋯⟩,_,rfl,_,rfl,⟨a,g⟩,_,rfl,_,_,ag,rfl,?_⟩;refine⟨_,rfl,_,rfl,a,?_⟩;rw[bW];exact NZ (q _ _ (e _).1 (e _).2)
 ·refine⟨_,rfl,_,_,ag,rfl,pS ⋯,?_⟩;refine⟨_,rfl,_,_,ag,rfl,bC ⋯,?_⟩;refine⟨_,rfl,_,_,ag,rfl,pS d,?_⟩;refine⟨_,rfl,_,_,ag,rfl,bC ⋯,(show(2147483399:Int)≠0 by decide),?_⟩
  have o:∀n:Int,Bd 64 (n.fmod 2147483399):=fun n=>by
   have t:=Int.fmod_nonneg_of_pos n (show(0:Int)<2147483399 by decide)
   have u:=Int.fmod_lt_of_pos n (show(0:Int)<2147483399 by decide)
   show(n.fmod 2147483399).natAbs<2^64
   omega
  refine⟨_,rfl,_,rfl,bC (o _),_,rfl,bC ⋯,_,rfl,_,_,ag,rfl,(show(2147483647:Int)≠0 by decide),?_⟩;refine⟨_,rfl,⟨⋯,bS ⋯⟩,_,rfl,a,?_⟩;exact NZ (q _ _ (e _).1 (e _).2)
theorem d3:NJ ["_law_row","_law_top","_law_bottom","_law_far"] ["_law_row"] (ay kH):=⋯
inductive Oe:Prop
 |mk (r:n_) (x c:Int) (_:sj=.ref r) (_:M r=MA (.lst [.int x,.int c])) (_:0<=c) (_:c<900000) (_:∀x' c' t b p q,OG t b p q->0<=c'->c'<=c+10->Q (Rr t b p q) (az M r (.lst [.int x',.int c'])))
theorem rN(T:Tx K mg):Cal P w K mg base 2 "_law_scale" (P6 Oe):=by
 refine eM (k:=1) T.a_ d3 fun f _ _ _ s H _ d=>⟨_,(aq (gg 1 2 rfl d3.nd (ae (aC aO ao (aw (aJ T).m d (ae (dv 0) (ae ao ak)))) (ae (aC aO ao (aw (aJ T).m d (ae (dv 0) (ae ao ak)))) ak))) (aq (bF (aL (cQ d.units) (aw (aJ T).m d (ae (dv 0) (ae ao ak))) ao) (av (gg 1 2 rfl d3.nd (ae (aC aO ao (aw (aJ T).m d (ae (dv 0) (ae (aC iO ao ao) ak)))) (ae (aC aO ao (aw (aJ T).m d (ae (dv 0) (ae (aC iO ao ao) ak)))) ak)))) aS) (aq (aD 3 d3.nd (aB (aY (ae ao (ae (aC iO ao ao) ak))) (c9 j6 rfl T.lx jO (ae (cg (cQ d.units) (aw (aJ T).m d (ae (dv 0) (ae ao ak))) ao) ak)))) (av (aH (aI (ae (dv 1) (ae (dv 2) (ae (aC aU (dv 3) (aC dF (aw (aJ T).m d (ae (dv 0) (ae ao ak))) ao)) (ae (aC aU (dv 3) (aC dF (aw (aJ T).m d (ae (dv 0) (ae ao ak))) ao)) ak)))))))))),fun _ M Q h=>?_⟩;obtain⟨r,x,c,rfl,S,l,U,k⟩:=h;refine⟨_,rfl,r,6,x,c,rfl,rfl,S,l,(),⋯,bS ⋯,fun x1 V W X=>?_⟩;refine⟨_,rfl,r,6,x1,c+1,rfl,rfl,ag,(),(),⋯,bS ⋯,fun Y Z a0 b0=>?_⟩;refine⟨_,_,rfl,?_⟩;(try dsimp only[SD.aR])
 refine bX (fun δ C=>∃x g t b F,0<=g/\g<=c+5/\(0<t/\t<=10^9/\0<b/\b<=10^9)/\C=az M r (.lst [.int x,.int g])/\δ=[MA (.ref r),MA (.int t),MA (.int b),F]) ?_ (fun G=>?_);rotate_left
 ·refine⟨_,rfl,r,4,Y,c+1+1,rfl,rfl,ag,(),(),⋯,bS ⋯,fun I v3 c0 d0=>⟨_,rfl,?_⟩⟩;refine bQ (fun _=>?_) (fun _=>?_)
  ·refine⟨_,rfl,⟨⋯,⋯,⋯⟩,r,10^9,I,c+1+1+1,rfl,rfl,ag,(),(),⋯,bS ⋯,fun x4 v4 e0 f0=>?_⟩;refine⟨_,rfl,⟨⋯,⋯,⋯⟩,r,10^9,x4,c+1+1+1+1,rfl,rfl,ag,(),(),⋯,bS ⋯,fun x5 v5 g0 h0=>?_⟩;refine⟨_,_,rfl,G _ _ ⟨x5,c+1+1+1+1+1,1+v4,1+v5,MB,(),(),(),?_,rfl⟩⟩;simp only[bW]
  ·refine G _ _ ⟨I,c+1+1+1,1+V,1+Z,MB,(),(),(),?_,rfl⟩;simp only[bW]
 rintro δ C ⟨x,g,t,b,F,J,L,N,rfl,rfl⟩;refine⟨⟨⋯,⋯,⋯⟩,NL rfl,fun p n=>?_⟩;have i:r≠p:=aA ag n;refine⟨_,rfl,r,6,x,g,rfl,rfl,(by rw[au i,ag]),(),(),⋯,bS ⋯,fun x6 O i0 k0=>?_⟩
 have hf:∃f:Int,atI [D.int 1,D.int (10^15)] (if decide (O=0)=MC then 1 else 0)=MA (.int f)/\1<=f/\f<=10^15:=by
  by_cases z:O=0
  ·exact⟨10^15,by rw[MI ‹z›];rfl,⋯,⋯⟩
  ·exact⟨1,by rw[ME ‹z›];rfl,⋯,⋯⟩
 obtain⟨f,ef,l0,m0⟩:=hf;refine⟨_,_,(by rw[au i.symm,ag];rfl),ef,?_⟩;have R:Bd 64 f:=by show f.natAbs<2^64;omega
 refine⟨_,rfl,_,rfl,_,rfl,_,rfl,r,41,x6,g+1,rfl,rfl,ag,(),(),⋯,bS ⋯,fun x7 v7 q u=>⟨trivial,bC R,?_⟩⟩;refine⟨_,rfl,_,rfl,r,41,x7,g+1+1,rfl,rfl,ag,(),(),⋯,bS ⋯,fun x8 v8 y B=>⟨trivial,bC R,NL rfl,?_⟩⟩
 have j:∀v:Int,0<=v->v<41->-(10^17)<=f*(v-20)/\f*(v-20)<=10^17:=fun v a b=>by
  have h1:f*(v-20)<=f*20:=Int.mul_le_mul_of_nonneg_left () ()
  have h2:f*(-20)<=f*(v-20):=Int.mul_le_mul_of_nonneg_left () ()
  omega
 have q7:=j v7 q u;have q8:=j v8 y B;refine⟨az M r (.lst [.int x8,.int (g+1+1+1)]),?_,k _ _ _ _ _ _ ⟨N.1,(),N.2.2.1,(),(),(),(),()⟩ () ()⟩;simp only[bW];refine .Jj ?_;intro a o ne e;have:a≠p:=fun z=>by subst z;rw[au ne]at n;rw[n]at e;cases e
 rw[au this,au ne];exact e
theorem fg:NJ ["_law_one","_law_two","_law_three","_law_far","_law_beside","_law_found"] ["_law_one","_law_two","_law_three"] (ay mU):=⋯
inductive PM:Prop
 |mk (a b c d e f:Int) (_:sj=.tup [.int a,.int b]) (_:sm=.tup [.int c,.int d]) (_:sv=.tup [.int e,.int f]) (_:Bd 10 a) (_:Bd 10 b) (_:Bd 10 c) (_:Bd 10 d) (_:Q (.int (JG (N7 (c-a) (d-b) (e-a) (f-b)))) M)
theorem dz(T:Tx K mg):Cal P w K mg base 1 "_law_turn" (RZ PM):=by
 refine lG (k:=0) T.bb fg fun f _ _ _ s H _ g=>⟨_,(aq (aD 3 fg.nd (aI (ae (aC dF (aB (dv 1) ao) (aB (dv 0) ao)) (ae (aC dF (aB (dv 1) ao) (aB (dv 0) ao)) ak)))) (aq (aD 4 fg.nd (aI (ae (aC dF (aB (dv 2) ao) (aB (dv 0) ao)) (ae (aC dF (aB (dv 2) ao) (aB (dv 0) ao)) ak)))) (aq (aD 5 fg.nd (aC dF (aC aU (aB (dv 3) ao) (aB (dv 4) ao)) (aC aU (aB (dv 3) ao) (aB (dv 4) ao)))) (av (aH (aC dF (c9 j6 rfl T.lx jO (ae (cg (gh g.units) (dv 5) ao) ak)) (c9 j6 rfl T.lx jO (ae (cg (dQ g.units) (dv 5) ao) ak)))))))),fun _ _ _ M Q h=>?_⟩;obtain⟨a,b,c,d,e,f,rfl,rfl,rfl,i,j,l,hd,k⟩:=h;refine⟨_,rfl,_,rfl,_,rfl,_,rfl,trivial,_,rfl,_,rfl,_,rfl,_,rfl,trivial,NL rfl,?_⟩;refine⟨_,rfl,_,rfl,_,rfl,_,rfl,trivial,_,rfl,_,rfl,_,rfl,_,rfl,trivial,NL rfl,?_⟩;refine⟨_,rfl,_,rfl,_,rfl,_,rfl,bC ((l.sub i).mono ⋯),_,rfl,_,rfl,_,rfl,_,rfl,bC ((hd.sub j).mono ⋯),trivial,?_⟩;refine⟨_,rfl,trivial,_,rfl,trivial,trivial,?_⟩
 have e1:(if decide (0<(c-a)*(f-b)-(d-b)*(e-a))=MC then(1:Int)else 0)-(if decide ((c-a)*(f-b)-(d-b)*(e-a)<0)=MC then(1:Int)else 0)=JG (N7 (c-a) (d-b) (e-a) (f-b)):=by
  unfold N7;generalize (c-a)*(f-b)-(d-b)*(e-a)=z;rcases Jt z 0 with h|h|h
  ·rw[JS h,ME (by simp;omega),MI ‹h›];rfl
  ·subst h;rfl
  ·rw[K9 h,MI ‹h›,ME (by simp;omega)];rfl
 dsimp only;rw[e1];exact NZ k
theorem vR:NJ ["_law_shut","_law_spot_here"] ["_law_shut","_law_spot_here"] (ay qH):=⋯
inductive QA:Prop
 |mk (w:Wl) (x y:Int) (_:sj=uw w) (_:sm=.tup [.int x,.int y]) (_:W8 w) (_:(-10<=x/\x<=85)) (_:(-10<=y/\y<=85)) (_:Q (.bl (decide (l1 w<=la x y)&&decide (la x y<=l2 w)&&decide (sd w x y=0))) M)
theorem yJ(T:Tx K mg):Cal P w K mg base 2 "_law_on" (Nk QA):=by
 refine bU (k:=1) T.bf vR fun f _ _ _ s H _ b=>⟨_,(av (aH (xt (yx (zN b.units) (zN b.units) (aB (dv 0) ao) (dv 1) (aB (dv 0) ao)) (sU (cg (cQ b.units) (aw (dz T).m b (ae (aB (dv 0) ao) (ae (aB (dv 0) ao) (ae (dv 1) ak)))) ao))))),fun _ _ M Q h=>?_⟩;obtain⟨w,x,y,rfl,rfl,W,i,g,k⟩:=h;have c:∀{z:Int},(0<=z/\z<=80)->Bd 10 z:=fun{z} h=>by show z.natAbs<2^10;omega
 (try dsimp only[SD.gP,SD.eD,SD.aR,SD.iG,SD.iF,SD.dG,SD.fu,SD.tBD,SD.iw,SD.EndsD.nxt,SD.EndsD.lp])
 refine GV (decide (l1 w<=la x y)&&decide (la x y<=l2 w)) (decide (sd w x y=0)) (fun K a=>?_) (fun _ K a=>?_) (NZ k)
 ·refine⟨_,rfl,_,rfl,_,rfl,[w.1,w.2.1],[x,y],rfl,rfl,_,rfl,?_⟩;rw[xu () g];refine bQ (fun h=>?_) (fun h=>?_)
  ·refine⟨_,rfl,_,rfl,[x,y],[w.2.2.1,w.2.2.2],rfl,rfl,?_⟩;rw[xu g ()];have d:decide (l1 w<=la x y)=MC:=h;rw[d,L4]at a;exact a
  ·have d:decide (l1 w<=la x y)=MD:=eq_false_of_ne_true h;rw[d,Ko]at a;exact a
 ·refine⟨_,rfl,_,rfl,_,rfl,_,rfl,_,rfl,w.1,w.2.1,w.2.2.1,w.2.2.2,x,y,rfl,rfl,rfl,c W.1,c W.2.1,c W.2.2.1,c W.2.2.2,?_⟩;have e:decide (JG (N7 (w.2.2.1-w.1) (w.2.2.2-w.2.1) (x-w.1) (y-w.2.1))=0)=decide (sd w x y=0):=by rw[MM];exact Int.sign_eq_zero_iff_zero
  try dsimp only
  show K (.bl (decide _)) _;rw[e];exact a
theorem de:NJ ["_law_one","_law_other","_law_shut","_law_beside","_law_spot_here","_law_sides","_law_others"] ["_law_one","_law_other"] (ay lz):=⋯
inductive PU:Prop
 |mk (U V:Wl) (_:sj=uw U) (_:sm=uw V) (_:NM U) (_:NM V) (_:∀b:Bool,(b=MC->NY U V)->Q (.bl b) M)
theorem se(T:Tx K mg):Cal P w K mg base 3 "_law_fair" (Nk PU):=by
 refine bU (k:=2) T.bp de fun f cdv A outer s H E F=>⟨_,(aq (bF (aL (cQ F.units) (dv 0) (dv 1)) (av (aH mX)) aS) (aq (bV Ju rfl (aT (aI (ae (aI (ae (dv 0) (ae (dv 1) ak))) (ae (aI (ae (dv 1) (ae (dv 0) ak))) ak)))) (bM rfl (aF (aE 2 de.nd) (aF (aE 3 de.nd) bj))) (av (bV Ju rfl (aT (dv 3)) (aE 4 de.nd) (av (bF (mz (gG (aL (gA (iY F)) (dv 4) (dv 2) (by with_unfolding_all rfl)) (eV (dC (aw (yJ T).m F (ae (dv 2) (ae (dv 4) ak))))))) (av (aH mX)) aS))))) (aq (cX 5 de.nd (NK.of (xs:=["_law_spot_here"]) (js:=[0]) rfl) rfl (aT (dv 1)) (fun _ _ _ _=>cD) (fun _ _ _ _=>(aw (dz T).m F (ae (aB (dv 1) ao) (ae (aB (dv 1) ao) (ae (dv 0) ak)))))) (aq (cX 6 de.nd (NK.of (xs:=["_law_spot_here"]) (js:=[1]) rfl) rfl (aT (dv 0)) (fun _ _ _ _=>cD) (fun _ _ _ _=>(aw (dz T).m F (ae (aB (dv 1) ao) (ae (aB (dv 1) ao) (ae (dv 0) ak)))))) (av (aH (F6 (cg xw (aC aU (aB (dv 5) ao) (aB (dv 5) ao)) ao) (sU (cg xw (aC aU (aB (dv 6) ao) (aB (dv 6) ao)) ao))))))))),fun _ _ M Q h=>?_⟩;obtain⟨U,V,rfl,rfl,l,n,k⟩:=h;refine⟨_,rfl,_,rfl,_,_,Pd.of rfl,Pd.of rfl,rfl,rfl,_,rfl,?_⟩;refine bQ (fun h=>NZ (k MD (fun z=>absurd z JD))) (fun h=>?_);have O:¬(l1 U=l1 V/\l2 U=l2 V):=fun⟨z1,z2⟩=>by apply h;obtain⟨a1,a2⟩:=gI l.b n.b z1;obtain⟨a3,a4⟩:=gI l.d n.d z2;simp only[K3,Km,gZ,a1,a2,a3,a4];simp
 dsimp only[SD.dG];refine bX (fun δ q=>q=M/\(Pz fun v C o=>δ=[MA (uw U),MA (uw V),v,C,o,MB,MB])/\(a9 U (l1 V) (NQ U V)/\a9 U (l2 V) (NT U V))/\(a9 V (l1 U) (NQ V U)/\a9 V (l2 U) (NT V U))) ?_ (fun hu=>?_);rotate_left
 ·refine⟨_,rfl,_,rfl,NL rfl,_,rfl,_,rfl,NL rfl,NL rfl,[.tup [uw U,uw V],.tup [uw V,uw U]],rfl,?_⟩;refine⟨fun i δ q=>q=M/\(Pz fun v C o=>δ=[MA (uw U),MA (uw V),v,C,o,MB,MB])/\(0<i->a9 U (l1 V) (NQ U V)/\a9 U (l2 V) (NT U V))/\(1<i->a9 V (l1 U) (NQ V U)/\a9 V (l2 U) (NT V U)),⟨rfl,⟨_,_,_,rfl⟩,fun z=>absurd z ⋯,fun z=>absurd z ⋯⟩,fun _ _ _ _ _=>rfl,?_,?_⟩
  ·rintro i d δ q hi hd ⟨rfl,⟨v,C,o,rfl⟩,R,G⟩;have hi:i<2:=hi;have hd:[D.tup [uw U,uw V],.tup [uw V,uw U]][i]?=MA d:=hd
   have I:∃A B,d=.tup [uw A,uw B]/\NM A/\NM B/\((a9 A (l1 B) (NQ A B)/\a9 A (l2 B) (NT A B))->(0<i+1->a9 U (l1 V) (NQ U V)/\a9 U (l2 V) (NT U V))/\(1<i+1->a9 V (l1 U) (NQ V U)/\a9 V (l2 U) (NT V U))):=by
    rcases(():i=0\/i=1)with rfl|rfl
    ·cases hd;exact⟨U,V,rfl,l,n,fun z=>⟨fun _=>z,fun y=>absurd y ⋯⟩⟩
    ·cases hd;exact⟨V,U,rfl,n,l,fun z=>⟨fun _=>R ⋯,fun _=>z⟩⟩
   obtain⟨A,B,rfl,J,N,nxt⟩:=I;refine⟨_,rfl,rfl,_,_,rfl,_,_,rfl,rfl,?_⟩;refine⟨_,rfl,[.tup [.int B.1,.int B.2.1],.tup [.int B.2.2.1,.int B.2.2.2]],rfl,?_⟩;refine⟨fun j δ t=>t=q/\(∃o,δ=[MA (uw U),MA (uw V),MA (uw A),MA (uw B),o,MB,MB])/\(0<j->a9 A (l1 B) (NQ A B))/\(1<j->a9 A (l2 B) (NT A B)),⟨rfl,⟨_,rfl⟩,fun z=>absurd z ⋯,fun z=>absurd z ⋯⟩,fun _ _ _ _ _=>rfl,?_,?_⟩
   ·rintro j d δ t r hd ⟨rfl,⟨o,rfl⟩,S,q2⟩;have r:j<2:=r;have hd:[D.tup [.int B.1,.int B.2.1],.tup [.int B.2.2.1,.int B.2.2.2]][j]?=MA d:=hd
    have pk:∃x y,d=.tup [.int x,.int y]/\(0<=x/\x<=20)/\(0<=y/\y<=20)/\(a9 A (la x y) (sd A x y)->(0<j+1->a9 A (l1 B) (NQ A B))/\(1<j+1->a9 A (l2 B) (NT A B))):=by
     rcases(():j=0\/j=1)with rfl|rfl
     ·cases hd;exact⟨_,_,rfl,N.a,N.b,fun z=>⟨fun _=>z,fun y=>absurd y ⋯⟩⟩
     ·cases hd;exact⟨_,_,rfl,N.c,N.d,fun z=>⟨fun _=>S ⋯,fun _=>z⟩⟩
    obtain⟨x,y,rfl,hx,hy,W⟩:=pk;have aa:=J.a;have ab:=J.b;have ac:=J.c;have ad:=J.d
    (try dsimp only[SD.gP,SD.eD,SD.aR,SD.iG,SD.iF,SD.dG,SD.fu,SD.tBD,SD.iw,SD.EndsD.nxt,SD.EndsD.lp])
    refine xa (!(decide (A.1=x/\A.2.1=y)||decide (A.2.2.1=x/\A.2.2.2=y))) (decide (l1 A<=la x y)&&decide (la x y<=l2 A)&&decide (sd A x y=0)) (fun K u=>⟨_,rfl,_,rfl,E4 _ A x y _ _ ⟨_,rfl,u⟩⟩) (fun _ K u=>⟨_,rfl,_,rfl,A,x,y,rfl,rfl,⟨(),(),(),()⟩,(),(),_,rfl,u⟩) ?_;refine bQ (fun _=>NZ (k MD (fun z=>absurd z JD))) (fun h=>?_);exact⟨rfl,⟨_,rfl⟩,W (ye J hy (eq_false_of_ne_true h))⟩
   ·rintro δ t ⟨rfl,⟨o,rfl⟩,S,q2⟩;exact⟨rfl,⟨_,_,_,rfl⟩,nxt ⟨S (⋯:0<2),q2 (⋯:1<2)⟩⟩
  ·rintro δ q ⟨rfl,⟨v,C,o,rfl⟩,R,G⟩;exact hu _ _ ⟨rfl,⟨_,_,_,rfl⟩,R (⋯:0<2),G (⋯:1<2)⟩
 rintro δ q ⟨rfl,⟨v,C,o,rfl⟩,⟨e1,e2⟩,⟨e3,e4⟩⟩;refine⟨_,rfl,[.tup [.int V.1,.int V.2.1],.tup [.int V.2.2.1,.int V.2.2.2]],rfl,comp_map (fun j=>if j=0 then .int (JG (NQ U V))else .int (JG (NT U V))) (NL rfl) (fun _ _ _=>rfl) ?_ (fun p hp=>?_)⟩
 ·intro j X M2 r e _;have r:j<2:=r;have e:[D.tup [.int V.1,.int V.2.1],.tup [.int V.2.2.1,.int V.2.2.2]][j]?=MA X:=e;rcases(():j=0\/j=1)with rfl|rfl
  ·cases e;exact⟨_,rfl,fun Y g=>⟨_,rfl,_,rfl,_,rfl,_,rfl,_,rfl,U.1,U.2.1,U.2.2.1,U.2.2.2,_,_,rfl,rfl,rfl,dU l.a,dU l.b,dU l.c,dU l.d,g _ .refl⟩⟩
  ·cases e;exact⟨_,rfl,fun Y g=>⟨_,rfl,_,rfl,_,rfl,_,rfl,_,rfl,U.1,U.2.1,U.2.2.1,U.2.2.2,_,_,rfl,rfl,rfl,dU l.a,dU l.b,dU l.c,dU l.d,g _ .refl⟩⟩
 refine⟨_,rfl,[.tup [.int U.1,.int U.2.1],.tup [.int U.2.2.1,.int U.2.2.2]],rfl,comp_map (fun j=>if j=0 then .int (JG (NQ V U))else .int (JG (NT V U))) (NL rfl) (fun _ _ _=>rfl) ?_ (fun G L=>?_)⟩
 ·intro j X M2 r e _;have r:j<2:=r;have e:[D.tup [.int U.1,.int U.2.1],.tup [.int U.2.2.1,.int U.2.2.2]][j]?=MA X:=e;rcases(():j=0\/j=1)with rfl|rfl
  ·cases e;exact⟨_,rfl,fun Y g=>⟨_,rfl,_,rfl,_,rfl,_,rfl,_,rfl,V.1,V.2.1,V.2.2.1,V.2.2.2,_,_,rfl,rfl,rfl,dU n.a,dU n.b,dU n.c,dU n.d,g _ .refl⟩⟩
  ·cases e;exact⟨_,rfl,fun Y g=>⟨_,rfl,_,rfl,_,rfl,_,rfl,_,rfl,V.1,V.2.1,V.2.2.1,V.2.2.2,_,_,rfl,rfl,rfl,dU n.a,dU n.b,dU n.c,dU n.d,g _ .refl⟩⟩
 have Z:p≠G:=aA ag L;have c1:(az (az q p (.lst [.int (JG (NQ U V)),.int (JG (NT U V))])) G (.lst [.int (JG (NQ V U)),.int (JG (NT V U))])) p=MA (.lst [.int (JG (NQ U V)),.int (JG (NT U V))]):=by rw[au Z,ag]
 (try dsimp only[SD.gP,SD.eD,SD.aR,SD.iG,SD.iF,SD.dG,SD.fu,SD.tBD,SD.iw,SD.EndsD.nxt,SD.EndsD.lp])
 refine Ym (decide (0<=JG (NQ U V)*JG (NT U V))) (decide (0<=JG (NQ V U)*JG (NT V U))) (fun K u=>⟨_,rfl,_,_,c1,rfl,_,rfl,_,_,c1,rfl,bC (CB _),trivial,u⟩) (fun _ K u=>⟨_,rfl,_,_,ag,rfl,_,rfl,_,_,ag,rfl,bC (CB _),trivial,u⟩) ?_;refine⟨q,.new L (.new hp .refl),k _ fun z=>⟨O,e1,e2,e3,e4,?_⟩⟩;rw[Bool.or_eq_true,MN,MN]at z;exact z
theorem bA:NJ ["_law_row","_law_most","_law_size","_law_shuts","_law_turn_here","_law_one","_law_other","_law_shut"] ["_law_row","_law_most","_law_size"] (ay fD):=⋯
inductive Nx:Prop
 |mk (r:n_) (x c m':Int) (_:sj=.ref r) (_:sm=.int m') (_:(0<=m'/\m'<=12)) (_:sv=.int 5) (_:M r=MA (.lst [.int x,.int c])) (_:0<=c) (_:c<1000) (_:∀(M'':MH) (x' c':Int) (l:n_) (ws:ro),r≠l->M'' r=MA (.lst [.int x',.int c'])->M'' l=MA (.lst (ws.map uw))->0<=c'->c'<=c+140->(ws.length:Int)<=m'->(∀w∈ws,NM w)->PF ws->Q (.ref l) M'')
theorem jB(T:Tx K mg):Cal P w K mg base 4 "_law_shuts_here" (RZ Nx):=by
 refine lG (k:=3) T.bq bA fun f _ _ _ s H _ C=>⟨_,(aq (aD 3 bA.nd (aY ak)) (aq (dm Ju rfl rfl T.mT (ae (aw (aJ T).m C (ae (dv 0) (ae (aC aO (dv 1) ao) ak))) ak) (aE 4 bA.nd) (aq (aD 5 bA.nd (aI (ae (aw (aJ T).m C (ae (dv 0) (ae (dv 2) ak))) (ae (aw (aJ T).m C (ae (dv 0) (ae (dv 2) ak))) ak)))) (aq (aD 6 bA.nd (aI (ae (aw (aJ T).m C (ae (dv 0) (ae (dv 2) ak))) (ae (aw (aJ T).m C (ae (dv 0) (ae (dv 2) ak))) ak)))) (aq (bF (mz (gG (aL (fh C.units) (dv 3) (aY ak)) (eV (aL (gh C.units) (aw (aJ T).m C (ae (dv 0) (ae ao ak))) ao)))) (av (aD 5 bA.nd (aB (aB (dv 3) (aw (aJ T).m C (ae (dv 0) (ae (aN cS rfl T.mu cU (ae (dv 3) ak)) ak)))) (aw (aJ T).m C (ae (dv 0) (ae ao ak)))))) aS) (aq (aD 7 bA.nd (aI (ae (aN (jd rfl C.units) rfl T.mO mm (ae (dv 5) (ae (dv 6) ak))) (ae (aN (oV rfl C.units) rfl T.mA ud (ae (dv 5) (ae (dv 6) ak))) ak)))) (av (bF (mz (gG (aL (fh C.units) (dv 5) (dv 6)) (eV (dC (aN (zk rfl) rfl T.lk yr (ae (fE (NK.of (xs:=["_law_beside"]) (js:=[7]) rfl) rfl (aT (dv 3)) (fun _ _ _ _=>cD) (fun _ _ _ _=>(aw (se T).m C (ae (dv 1) (ae (dv 0) ak))))) ak)))))) (av (bI (aX (dv 3) (ae (dv 7) ak)))) aS))))))) (av (aH (dv 3))))),fun _ _ _ M Q h=>?_⟩;obtain⟨r,x0,c0,m,rfl,rfl,hm,rfl,hM,e0,s0,k⟩:=h;refine⟨NL rfl,fun l hl=>?_⟩;have g:r≠l:=aA hM hl;refine⟨_,rfl,_,rfl,r,m+1,x0,c0,rfl,rfl,(by rw[au g];exact hM),e0,(),(),bS (),fun x1 v h0 h1=>?_⟩;refine⟨v.toNat,?_,(),fun i δ u=>WJ fun(x c:Int) (ws:ro) (o4 o5 o6 o7:rx)=>YE (δ=[MA (.ref r),MA (.int m),MA (.int 5),MA (.ref l),o4,o5,o6,o7]) (u r=MA (.lst [.int x,.int c])) (u l=MA (.lst (ws.map uw))) (0<=c) (c<=c0+1+10*i) (ws.length<=i) (∀w∈ws,NM w) (PF ws),?_,?_,?_⟩
 ·rw[Int.toNat_of_nonneg h0]
 ·refine⟨x1,c0+1,[],_,_,_,_,rfl,ag,(by rw[au g.symm,ag];rfl),(),(),⋯,fun w hw=>absurd hw (by simp),D6⟩
 rotate_left
 ·rintro δ u ⟨x,c,ws,o4,o5,o6,o7,rfl,N,O,g0,g1,g2,R,g4⟩;exact⟨_,rfl,NZ (k u x c l ws g N O g0 () () R g4)⟩
 rintro i δ u hi ⟨x,c,ws,o4,o5,o6,o7,rfl,N,O,g0,g1,g2,R,g4⟩;have t0:i<=12:=()
 (try dsimp only[SD.aR])
 refine Pt fun B hB=>?_;refine⟨_,rfl,_,rfl,r,5,x,c,rfl,rfl,N,g0,(),⋯,bS ⋯,fun x1 p u0 v0=>?_⟩;refine⟨_,rfl,_,rfl,r,5,x1,c+1,rfl,rfl,ag,(),(),⋯,bS ⋯,fun x2 q w0 y0=>⟨NL rfl,?_⟩⟩;refine⟨_,rfl,_,rfl,r,5,x2,c+1+1,rfl,rfl,ag,(),(),⋯,bS ⋯,fun x3 e z0 a1=>?_⟩;refine⟨_,rfl,_,rfl,r,5,x3,c+1+1+1,rfl,rfl,ag,(),(),⋯,bS ⋯,fun S f b1 c1=>⟨NL rfl,?_⟩⟩;have U:(az (az (az (az u r (.lst [.int x1,.int (c+1)])) r (.lst [.int x2,.int (c+1+1)])) r (.lst [.int x3,.int (c+1+1+1)])) r (.lst [.int S,.int (c+1+1+1+1)])) l=MA (.lst (ws.map uw)):=by rw[au g.symm,au g.symm,au g.symm,au g.symm];exact O
 have V:(az (az (az (az u r (.lst [.int x1,.int (c+1)])) r (.lst [.int x2,.int (c+1+1)])) r (.lst [.int x3,.int (c+1+1+1)])) r (.lst [.int S,.int (c+1+1+1+1)])) r=MA (.lst [.int S,.int (c+1+1+1+1)]):=ag;generalize az (az (az (az u r (.lst [.int x1,.int (c+1)])) r (.lst [.int x2,.int (c+1+1)])) r (.lst [.int x3,.int (c+1+1+1)])) r (.lst [.int S,.int (c+1+1+1+1)])=M4 at U V ⊢;(try dsimp only[SD.aR])
 refine bX (fun δ u=>SY fun(x c' p q:Int) (o7:rx)=>Vt (δ=[MA (.ref r),MA (.int m),MA (.int 5),MA (.ref l),MA (.int (i:Int)),MA (.tup [.int p,.int q]),MA (.tup [.int e,.int f]),o7]) (u r=MA (.lst [.int x,.int c'])) (u l=MA (.lst (ws.map uw))) (0<=c') (c'<=c+10) (0<=p/\p<=20) (0<=q/\q<=20)) ?_ (fun hu=>?_);rotate_left
 ·refine⟨_,rfl,NL rfl,fun z hz=>?_⟩;have W:r≠z:=aA V hz;have I:l≠z:=aA U hz;have n:(az M4 z (.lst [])) l=MA (.lst (ws.map uw)):=by rw[au I];exact U
  have G:(az M4 z (.lst [])) r=MA (.lst [.int S,.int (c+1+1+1+1)]):=by rw[au W];exact V
  refine⟨_,_,.lst n (xA ws),.lst ag .nil,wV ws,rfl,_,rfl,?_⟩;rw[t6];refine bQ (fun X=>?_) (fun r0=>?_)
  ·have a0:0<ws.length:=by
    cases ws with
    |nil=>simp at X
    |cons w ws=>simp
   refine⟨_,rfl,r,3,S,c+1+1+1+1,rfl,rfl,G,(),(),⋯,bS ⋯,fun L v5 d1 f1=>⟨trivial,_,rfl,?_⟩⟩;have o:(az (az M4 z (.lst [])) r (.lst [.int L,.int (c+1+1+1+1+1)])) l=MA (.lst (ws.map uw)):=by rw[au g.symm];exact n
   refine bQ (fun _=>?_) (fun _=>?_)
   ·refine⟨_,rfl,_,rfl,_,rfl,_,o,r,((ws.map uw).length:Int),L,c+1+1+1+1+1,rfl,rfl,ag,(),(),‹a0›,bS (by simp;omega),fun x6 v6 f0 i0=>?_⟩;obtain⟨w,hw,ew⟩:=BW (ws:=ws) f0 ‹i0›;have l0:=R w hw;refine⟨_,_,(by rw[au g.symm];exact o),ew,?_⟩;refine⟨_,rfl,r,2,x6,c+1+1+1+1+1+1,rfl,rfl,ag,(),(),⋯,bS ⋯,fun x7 v7 m0 n0=>?_⟩;obtain⟨a,b,ea,ha,hb⟩:=zq l0 m0 n0;refine⟨_,ea,hu _ _ ⟨x7,_,a,b,_,rfl,ag,(by rw[au g.symm,au g.symm];exact o),(),(),ha,hb⟩⟩
   ·exact hu _ _ ⟨L,_,p,q,_,rfl,ag,o,(),(),(),()⟩
  ·refine jn rfl ?_;exact hu _ _ ⟨S,_,p,q,_,rfl,G,n,(),(),(),()⟩
 rintro δ M5 ⟨L,c5,p,q,o7,rfl,G,n,k0,k1,hp,hq⟩;have he:0<=e/\e<=20:=()
 have hf:0<=f/\f<=20:=()
 refine⟨_,rfl,_,rfl,[p,q],[e,f],rfl,rfl,?_⟩;refine⟨_,rfl,_,rfl,[p,q],[e,f],rfl,rfl,NL rfl,?_⟩;refine⟨_,rfl,_,rfl,_,_,Pd.of rfl,Pd.of rfl,rfl,rfl,_,rfl,?_⟩;rw[pK];refine bQ (fun X=>?_) (fun _=>?_);rotate_left
 ·refine jn rfl ?_;exact hB _ _ ⟨L,c5,ws,_,_,_,_,rfl,G,n,k0,(),(),R,g4⟩
 obtain⟨w,e1,e2,hw⟩:=wY hp hq he hf (fun⟨a,b⟩=>by simp[a,b]at X);rw[e1,e2];refine⟨_,rfl,ws.map uw,n,?_⟩;refine⟨by simp;omega,fun z hz=>?_⟩;have W:r≠z:=aA G hz;have I:l≠z:=aA n hz;refine⟨fun j ys u=>∃bs:List Bool,ys=bs.map D.bl/\bs.length=j/\(∀(t:Nat) (v:Wl),bs[t]?=MA MC->ws[t]?=MA v->NY w v)/\u=az M5 z (.lst ys),⟨[],rfl,rfl,fun t v h=>by simp at h,rfl⟩,?_,?_,?_⟩
 ·rintro j ys u _ ⟨bs,_,_,_,rfl⟩;show(az M5 z _) l=_;rw[au I];exact n
 ·rintro j ys d u hj hd ⟨bs,rfl,F,hf,rfl⟩;have hd:(ws.map uw)[j]?=MA d:=hd;rw[J6]at hd;cases ev:ws[j]? with
  |none=>rw[ev]at hd;cases hd
  |some v=>
   rw[ev]at hd
   cases hd
   refine⟨_,rfl,?_⟩
   dsimp only[SD.jM]
   refine zF ?_
   refine⟨_,rfl,_,rfl,w,v,rfl,rfl,hw,R v (J8 ev),fun b hb=>?_⟩
   refine⟨_,.refl,ag,bs++[b],by simp,by simp[F],fun t v' J Y=>?_,by rw[bW]⟩
   rcases Nat.lt_trichotomy t bs.length with y|y|y
   ·rw[JO y]at J;exact hf t v' J Y
   ·subst y;rw[Kc (J9 _)]at J;have o0:b=MC:=‹J›
    rw[F,ev]at Y;cases Y;exact hb o0
   ·rw[List.getElem?_eq_none (by simp;omega)]at J;cases J
 rintro ys u ⟨bs,rfl,F,hf,rfl⟩;have Z:bs.length=ws.length:=by rw[F];simp
 have o:(az M5 z (.lst (bs.map D.bl))) l=MA (.lst (ws.map uw)):=by rw[au I];exact n
 have b0:(az M5 z (.lst (bs.map D.bl))) r=MA (.lst [.int L,.int c5]):=by rw[au W];exact G
 refine⟨bs,ag,_,rfl,?_⟩;refine bQ (fun d0=>?_) (fun _=>?_)
 ·refine⟨_,rfl,l,_,rfl,o,_,rfl,ws.map uw,_,rfl,o,by simp;omega,?_⟩;refine hB _ _ ⟨L,c5,ws++[w],_,_,_,_,rfl,by rw[au g];exact b0,by rw[ag,Jx];rfl,k0,(),by simp;omega,fun v hv=>?_,wM g4 fun t v hv=>hf t v ?_ hv⟩
  ·rcases JE.mp hv with y|y
   ·exact R v y
   ·rw[JH.mp y];exact hw
  ·have J:t<bs.length:=by rw[Z];exact(Jq.mp hv).1
   rw[J0 J];have:=Kl.mp d0 _ (K1 J);exact congrArg MA this
 ·exact hB _ _ ⟨L,c5,ws,_,_,_,_,rfl,b0,o,k0,(),(),R,g4⟩
theorem fW:NJ ["_law_at","_law_wide","_law_x","_law_y","_law_spots"] ["_law_at","_law_wide"] (ay oC):=⋯
inductive Pl:Prop
 |mk (x y w:Int) (_:sj=.tup [.int x,.int y]) (_:sm=.int w) (_:0<w) (_:∀(M'':MH) (l:n_),SD.Sub M M''->M l=MB->M'' l=MA (.lst ((OY x y w).map uw))->Q (.ref l) M'')
theorem jE(T:Tx K mg):Cal P w K mg base 1 "_law_box" (Nk Pl):=by
 refine bU (k:=0) T.bu fW fun f _ _ _ s H _ D=>⟨_,(aq (cu (dv 0) (bM rfl (aF (aE 2 fW.nd) (aF (aE 3 fW.nd) bj)))) (aq (aD 4 fW.nd (aY (ae (aI (ae (dv 2) (ae (dv 3) ak))) (ae (aI (ae (aC aO (dv 2) (dv 1)) (ae (dv 3) ak))) (ae (aI (ae (aC aO (dv 2) (dv 1)) (ae (aC aO (dv 3) (dv 1)) ak))) (ae (aI (ae (dv 2) (ae (aC aO (dv 3) (dv 1)) ak))) ak)))))) (av (aH (lW (NK.of (xs:=["_law_one","_law_other"]) (js:=[]) rfl) rfl (D3 rfl T.n7 (ae (dv 4) (ae (aC aO (qZ (dv 4) (ph ao) vE) (qZ (dv 4) vE (ph ao))) ak))) (fun _ _ _ _=>cD) (fun _ _ _ _=>(aI (ae (aN (jd rfl D.units) rfl T.mO mm (ae (dv 0) (ae (dv 1) ak))) (ae (aN (oV rfl D.units) rfl T.mA ud (ae (dv 0) (ae (dv 1) ak))) ak))))))))),fun _ _ M Q h=>?_⟩;obtain⟨x,y,w,rfl,rfl,W,k⟩:=h;refine⟨_,rfl,_,rfl,rfl,_,_,rfl,_,_,rfl,rfl,?_⟩;refine⟨_,rfl,_,rfl,NL rfl,_,rfl,_,rfl,_,rfl,NL rfl,_,rfl,_,rfl,_,rfl,_,rfl,NL rfl,_,rfl,_,rfl,_,rfl,NL rfl,NL rfl,fun g B=>?_⟩;refine⟨_,rfl,_,rfl,1,rfl,_,ag,fun t m=>?_⟩;have u:g≠t:=aA ag m;refine⟨_,rfl,1,rfl,_,(by rw[au u,ag]),fun v j=>?_⟩;have S:t≠v:=aA ag j;have F:g≠v:=aA (by rw[au u,ag]) j;refine⟨_,_,(by rw[au S,ag]),ag,NL rfl,fun n r=>?_⟩;have U:g≠n:=aA (by rw[au F,au u,ag]) r;have I:=SD.Sub.new (o:=.lst (cutD (Pw x y w) (MA 1) MB++cutD (Pw x y w) MB (MA 1))) r (.new j (.new m (.new B .refl)));have C:=(show(az (az (az (az M g (.lst (Pw x y w))) t (.lst (cutD (Pw x y w) (MA 1) MB))) v (.lst (cutD (Pw x y w) MB (MA 1)))) n (.lst (cutD (Pw x y w) (MA 1) MB++cutD (Pw x y w) MB (MA 1)))) g=MA (.lst (Pw x y w)) by rw[au U,au F,au u,ag]);refine⟨g,n,_,[.tup [.int (x+w),.int y],.tup [.int (x+w),.int (y+w)],.tup [.int x,.int (y+w)],.tup [.int x,.int y]],rfl,C,ag,?_⟩;have J:=(show(az (az (az (az M g (.lst (Pw x y w))) t (.lst (cutD (Pw x y w) (MA 1) MB))) v (.lst (cutD (Pw x y w) MB (MA 1)))) n (.lst (cutD (Pw x y w) (MA 1) MB++cutD (Pw x y w) MB (MA 1)))) n=MA (.lst [.tup [.int (x+w),.int y],.tup [.int (x+w),.int (y+w)],.tup [.int x,.int (y+w)],.tup [.int x,.int y]])from ag);refine comp_map (fun i=>(((OY x y w).map uw)[i]?).getD .non) (NL rfl) (fun q X N=>⟨by rw[au (aA C N)];exact C,by rw[au (aA J N)];exact J⟩) ?_ (fun p O=>?_)
 ·intro i d z R hd V;have R:i<4:=R;have L:∀a b c e:Int,HT.lexLt [a,b] [c,e]=decide (a<c\/(a=c/\b<e)):=fun a b c e=>by rw[Ks,NB,MN]
  have G:∀a b c e:Int,HT.dM [a,b] [c,e]=decide (c<a\/(c=a/\e<b)):=fun a b c e=>by rw[Ma.oH,L]
  rcases(():i=0\/i=1\/i=2\/i=3)with rfl|rfl|rfl|rfl
  ·cases hd;refine⟨_,⟨_,rfl,rfl,rfl⟩,fun K l=>?_⟩;refine⟨_,rfl,_,rfl,[x,y],[x+w,y],rfl,rfl,_,rfl,_,rfl,[x,y],[x+w,y],rfl,rfl,NL rfl,?_⟩;rw[L,G,ME (by simp;omega),MI (by simp;omega)];exact l z .refl
  ·cases hd;refine⟨_,⟨_,rfl,rfl,rfl⟩,fun K l=>?_⟩;refine⟨_,rfl,_,rfl,[x+w,y],[x+w,y+w],rfl,rfl,_,rfl,_,rfl,[x+w,y],[x+w,y+w],rfl,rfl,NL rfl,?_⟩;rw[L,G,ME (by simp;omega),MI (by simp;omega)];exact l z .refl
  ·cases hd;refine⟨_,⟨_,rfl,rfl,rfl⟩,fun K l=>?_⟩;refine⟨_,rfl,_,rfl,[x+w,y+w],[x,y+w],rfl,rfl,_,rfl,_,rfl,[x+w,y+w],[x,y+w],rfl,rfl,NL rfl,?_⟩;rw[L,G,MI (by simp;omega),ME (by simp;omega)];exact l z .refl
  ·cases hd;refine⟨_,⟨_,rfl,rfl,rfl⟩,fun K l=>?_⟩;refine⟨_,rfl,_,rfl,[x,y+w],[x,y],rfl,rfl,_,rfl,_,rfl,[x,y+w],[x,y],rfl,rfl,NL rfl,?_⟩;rw[L,G,MI (by simp;omega),ME (by simp;omega)];exact l z .refl
 ·refine NZ (k _ p (.new O I) ?_ ?_)
  ·cases e:M p with
   |none=>rfl
   |some o=>exact absurd ((I _ _ e).symm.trans O) (by simp)
  ·rw[ag];rfl
theorem f7:NJ ["_law_row","_law_many","_law_found","_law_number"] ["_law_row","_law_many"] (ay ki):=⋯
inductive Og:Prop
 |mk (r:n_) (x c:Int) (n:Nat) (_:sj=.ref r) (_:sm=.int (n:Int)) (_:n<=40) (_:M r=MA (.lst [.int x,.int c])) (_:0<=c) (_:c<2000) (_:∀(M'':MH) (x':Int) (l:n_) (os:pe),r≠l->M'' r=MA (.lst [.int x',.int (c+n)])->(∀a o,a≠r->M a=MA o->M'' a=MA o)->M l=MB->M'' l=MA (.lst (os.map fun o:Nat=>D.int (o:Int)))->os.Perm (Jp n)->Q (.ref l) M'')
theorem qu(T:Tx K mg):Cal P w K mg base 2 "_law_order" (Nk Og):=by
 refine bU (k:=1) T.b5 f7 fun f _ _ _ s H _ C=>⟨_,(aq (aD 2 f7.nd (aY ak)) (aq (dm Ju rfl rfl T.mT (ae (dv 1) ak) (aE 3 f7.nd) (av (bI (gC (dv 2) (ae (aw (aJ T).m C (ae (dv 0) (ae (aC aO (dv 3) ao) ak))) (ae (dv 3) ak)))))) (av (aH (dv 2))))),fun _ _ M Q h=>?_⟩;obtain⟨r,x,c,n,rfl,rfl,O,v,F,G,k⟩:=h;refine⟨NL rfl,fun l p=>?_⟩;have q:r≠l:=aA v p;refine⟨_,rfl,n,rfl,(),fun i δ e=>Pz fun(g:Int) (os:pe) (u:rx)=>RW (δ=[MA (.ref r),MA (.int (n:Int)),MA (.ref l),u]) (e r=MA (.lst [.int g,.int (c+i)])) (∀a o,a≠r->M a=MA o->e a=MA o) (e l=MA (.lst (os.map fun o:Nat=>D.int (o:Int)))) (os.Perm (Jp i)),⟨x,[],_,rfl,(by rw[au q];simpa using v),(fun a o _ h=>by rw[au (aA h p)];exact h),ag,by simp⟩,?_,?_⟩
 ·rintro i δ R S ⟨g,os,u,rfl,d,kp,b,t⟩;have y:os.length=i:=by rw[t.length_eq,List.length_range]
  refine⟨_,rfl,l,_,rfl,b,?_⟩;refine⟨_,rfl,_,rfl,r,(i:Int)+1,g,c+i,rfl,rfl,d,(),(),(),bS (),fun I z J L=>?_⟩;obtain⟨j,rfl⟩:∃j:Nat,z=(j:Int):=⟨z.toNat,()⟩;refine⟨_,rfl,_,_,j,rfl,(by rw[au q.symm];exact b),by simp;omega,by simp;omega,?_⟩;refine⟨I,gD os j i,_,rfl,(by rw[au q,ag,show c+((i+1:Nat):Int)=c+(i:Int)+1 by omega]),(fun a o B h=>?_),(by rw[ag,m5]),?_⟩
  ·have N:a≠l:=aA h p;rw[au N,au B];exact kp a o B h
  ·rw[KJ];exact(nW os j i).trans ((List.Perm.cons _ t).trans (by simpa using(List.perm_append_comm (l₁:=[i]) (l₂:=Jp i))))
 ·rintro δ e ⟨g,os,u,rfl,d,kp,b,t⟩;exact⟨_,rfl,NZ (k e g l os q d kp p b t)⟩
theorem b7:NJ ["_law_row","_law_shuts","_law_at","_law_turn_here"] ["_law_row"] (ay ot):=⋯
inductive Pj:Prop
 |mk (r:n_) (x c:Int) (_:sj=.ref r) (_:M r=MA (.lst [.int x,.int c])) (_:0<=c) (_:c<1000) (_:∀(M'':MH) (x' c':Int) (l:n_) (ws:ro),r≠l->M'' r=MA (.lst [.int x',.int c'])->M'' l=MA (.lst (ws.map uw))->0<=c'->c'<=c+100->ws.length<=19->(∀w∈ws,NM w)->PF ws->Q (.ref l) M'')
theorem wF(T:Tx K mg):Cal P w K mg base 3 "_law_set" (P6 Pj):=by
 refine eM (k:=2) T.b8 b7 fun f cdv A outer s H E u=>⟨_,(aq (aD 1 b7.nd (aY ak)) (aq (aD 2 b7.nd ao) (aq (dm Ju rfl rfl T.mT (ae (aC aO ao (aw (aJ T).m u (ae (dv 0) (ae ao ak)))) ak) (aE 3 b7.nd) (aq (aD 1 b7.nd (aC aO (dv 1) (aw (jE T).m u (ae (aI (ae (dv 2) (ae (dv 2) ak))) (ae (aC dF ao (aC aU ao (dv 2))) ak))))) (av (aD 2 b7.nd (aC aO (aC aO (dv 2) ao) (aw (aJ T).m u (ae (dv 0) (ae ao ak)))))))) (aq (bF (aL (cQ u.units) (aw (aJ T).m u (ae (dv 0) (ae ao ak))) ao) (av (aD 1 b7.nd (aC aO (dv 1) (aw (jE T).m u (ae (aI (ae (aC aO (dv 2) (aw (aJ T).m u (ae (dv 0) (ae ao ak)))) (ae (aC aO (dv 2) (aw (aJ T).m u (ae (dv 0) (ae ao ak)))) ak))) (ae (aC aO ao (aw (aJ T).m u (ae (dv 0) (ae ao ak)))) ak)))))) aS) (aq (bF (aL (cQ u.units) (aw (aJ T).m u (ae (dv 0) (ae ao ak))) ao) (av (bI (aX (dv 1) (ae (aI (ae (aI (ae ao (ae ao ak))) (ae (aI (ae ao (ae ao ak))) ak))) ak)))) aS) (aq (dm Ju rfl rfl T.mT (ae (aw (aJ T).m u (ae (dv 0) (ae ao ak))) ak) (aE 3 b7.nd) (av (bI (aX (dv 1) (ae (aI (ae (aI (ae (dv 2) (ae (aC aO ao (dv 3)) ak))) (ae (aI (ae (aC aO (dv 2) ao) (ae (aC aO ao (dv 3)) ak))) ak))) ak))))) (aq (bF (aL (cQ u.units) (aw (aJ T).m u (ae (dv 0) (ae ao ak))) ao) (av (aD 1 b7.nd (aC aO (dv 1) (aw (jE T).m u (ae (aI (ae ao (ae ao ak))) (ae ao ak)))))) aS) (av (aH (fE (NK.of (xs:=["_law_number"]) (js:=[1]) rfl) rfl (aT (aw (qu T).m u (ae (dv 0) (ae (aN cS rfl T.mu cU (ae (dv 1) ak)) ak)))) (fun _ _ _ _=>cD) (fun _ _ _ _=>(aB (dv 1) (dv 0))))))))))))),fun _ M Q h=>?_⟩;obtain⟨r,x,c,rfl,hM,x0,k1,k⟩:=h;have sz:1000000<=Jv:=NL rfl;have b4:∀(x y w:Int) (us:ro),us.length<=100->(us.map uw).length+((OY x y w).map uw).length<=Jv:=fun x y w us h=>by rw[J4,J4];show us.length+4<=Jv;omega
 refine⟨NL rfl,fun l0 i0=>?_⟩;have Y:r≠l0:=aA hM i0;have a0:(az M l0 (.lst [])) r=MA (.lst [.int x,.int c]):=by rw[au Y];exact hM
 have b0:(az M l0 (.lst [])) l0=MA (.lst (([]:ro).map uw)):=ag;generalize az M l0 (.lst [])=M1 at a0 b0 ⊢;(try dsimp only[SD.aR])
 refine bX (fun δ j=>δ=[MA (.ref r),MA (.ref l0),MA (.int 0),MB]/\j=M1) ?_ (fun L=>L _ _ ⟨rfl,rfl⟩);rintro δ j ⟨rfl,rfl⟩;refine bX (fun δ j=>YW fun(l:n_) (us:ro) (a F t:Int) (z:rx)=>Vt (δ=[MA (.ref r),MA (.ref l),MA (.int a),z]) (j r=MA (.lst [.int F,.int t])) (j l=MA (.lst (us.map uw))) (r≠l) (0<=t) (t<=c+3) ((us,a)∈oW)) ?_ (fun L=>?_);rotate_left
 ·refine⟨_,rfl,r,2,x,c,rfl,rfl,a0,x0,(),⋯,bS ⋯,fun x1 v h0 h1=>?_⟩;obtain⟨n,rfl⟩:∃n:Nat,v=(n:Int):=⟨v.toNat,()⟩;refine⟨1+n,by simp,(),fun i δ j=>SY fun(l:n_) (us:ro) (a F:Int) (z:rx)=>RW (δ=[MA (.ref r),MA (.ref l),MA (.int a),z]) (j r=MA (.lst [.int F,.int (c+1+i)])) (j l=MA (.lst (us.map uw))) (r≠l) ((i=0/\us=[]/\a=0)\/(i=1/\us=OY 0 0 12/\(a=1\/a=2))\/(i=2/\(us,a)∈oW)),⟨l0,[],0,x1,_,rfl,(by rw[ag];simp),(by rw[au Y.symm];exact b0),Y,.inl ⟨rfl,rfl,rfl⟩⟩,?_,?_⟩
  ·rintro i δ M2 hi ⟨l,us,a,F,z,rfl,G,N,b,st⟩
   have ha:0<=a/\a<=2/\us.length<=4/\i<=1:=by
    rcases st with⟨e1,e2,e3⟩|⟨e1,e2,e3⟩|⟨e1,_⟩
    ·subst e2;simp;omega
    ·subst e2;show _/\_/\4<=4/\_;omega
    ·omega
   have y0:Bd 64 a:=bS ();refine⟨_,rfl,_,rfl,_,rfl,NL rfl,_,rfl,pS y0,trivial,a,a,12-2*a,rfl,rfl,(),fun M3 lb c0 k0 W=>?_⟩;refine⟨_,_,c0 _ _ N,W,b4 _ _ _ us (),fun l3 I=>?_⟩;have d0:r≠l3:=aA (c0 _ _ G) I;refine⟨_,rfl,_,rfl,r,2,F,c+1+i,rfl,rfl,(by rw[au d0];exact c0 _ _ G),(),(),⋯,bS ⋯,fun x2 v2 m1 n1=>?_⟩;refine⟨l3,us++OY a a (12-2*a),a+1+v2,x2,_,rfl,(by rw[ag,show c+1+((i+1:Nat):Int)=c+1+(i:Int)+1 by omega]),(by rw[au d0.symm,ag,Jx]),d0,?_⟩;rcases st with⟨e1,rfl,rfl⟩|⟨e1,rfl,e3⟩|⟨e1,_⟩
   ·exact .inr (.inl ⟨(),rfl,()⟩)
   ·refine .inr (.inr ⟨(),?_⟩);rcases(():v2=0\/v2=1)with rfl|rfl<;>rcases e3 with rfl|rfl<;>simp[oW]
   ·omega
  ·rintro δ j ⟨l,us,a,F,z,rfl,G,N,b,st⟩;refine L _ _ ⟨l,us,a,F,_,_,rfl,G,N,b,(),(),?_⟩;rcases st with⟨e1,_⟩|⟨e1,rfl,e3⟩|⟨e1,g⟩
   ·omega
   ·rcases e3 with rfl|rfl<;>simp[oW]
   ·exact g
 clear a0 b0 i0 Y;rintro δ M2 ⟨l,us,a,x2,c2,z,rfl,G,N,b,z0,o1,gm⟩
 have ga:(1<=a/\a<=4)/\us.length<=8:=by
  have:(oW.all fun g=>decide ((1<=g.2/\g.2<=4)/\g.1.length<=8))=MC:=by decide +kernel
  exact ML (Kl.mp this _ gm)
 (try dsimp only[SD.aR])
 refine bX (fun δ j=>YV fun(l:n_) (A:ro) (t1 Z t3 F t:Int) (z:rx)=>Vu (δ=[MA (.ref r),MA (.ref l),MA (.int a),z]) (j r=MA (.lst [.int F,.int t])) (j l=MA (.lst ((us++A).map uw))) (r≠l) (0<=t) (t<=c+10) (0<=t1/\t1<2) (0<=Z/\Z<2) (0<=t3/\t3<2) (A.Sublist (OY (a+t1) (a+Z) (1+t3))) (A.length<=4)) ?_ (fun L=>?_);rotate_left
 ·refine⟨_,rfl,r,2,x2,c2,rfl,rfl,G,z0,(),⋯,bS ⋯,fun x3 v3 p1 r1=>⟨_,rfl,?_⟩⟩;have I:(az M2 r (.lst [.int x3,.int (c2+1)])) l=MA (.lst (us.map uw)):=by rw[au b.symm];exact N
  refine bQ (fun _=>?_) (fun _=>?_)
  ·refine⟨_,rfl,_,rfl,_,rfl,r,2,x3,c2+1,rfl,rfl,ag,(),(),⋯,bS ⋯,fun x4 t1 m0 n0=>?_⟩;refine⟨_,rfl,_,rfl,r,2,x4,c2+1+1,rfl,rfl,ag,(),(),⋯,bS ⋯,fun x5 Z o0 r0=>⟨NL rfl,?_⟩⟩;refine⟨_,rfl,r,2,x5,c2+1+1+1,rfl,rfl,ag,(),(),⋯,bS ⋯,fun x6 t3 s0 t0=>?_⟩;refine⟨a+t1,a+Z,1+t3,rfl,rfl,(),fun M7 lb O k0 W=>?_⟩;have e0:=O l (.lst (us.map uw)) (by rw[au b.symm,au b.symm,au b.symm];exact I);have R:=O _ _ ag;refine⟨_,_,e0,W,b4 _ _ _ us (),fun l8 f0=>?_⟩;have X:r≠l8:=aA R f0;exact L _ _ ⟨l8,OY (a+t1) (a+Z) (1+t3),t1,Z,t3,x6,_,_,rfl,(by rw[au X];exact R),(by rw[ag,Jx]),X,(),(),⟨m0,n0⟩,⟨o0,r0⟩,⟨s0,t0⟩,List.Sublist.refl _,J9 _⟩
  ·exact L _ _ ⟨l,[],0,0,0,x3,c2+1,_,rfl,ag,(by rw[K8];exact I),b,(),(),⋯,⋯,⋯,List.nil_sublist _,Kj _⟩
 clear G N b;rintro δ M3 ⟨l,A,t1,Z,t3,x3,c3,z,rfl,u0,I,b,a1,s1,T1,T2,T3,sA,lA⟩;(try dsimp only[SD.aR])
 refine bX (fun δ j=>Pz fun(B:ro) (F t:Int)=>Vt (δ=[MA (.ref r),MA (.ref l),MA (.int a),z]) (j r=MA (.lst [.int F,.int t])) (j l=MA (.lst (((us++A)++B).map uw))) (0<=t) (t<=c+11) (B.Sublist [(9,8,9,9)]) (B.length<=1)) ?_ (fun L=>?_);rotate_left
 ·refine⟨_,rfl,r,2,x3,c3,rfl,rfl,u0,a1,(),⋯,bS ⋯,fun x4 v4 m0 n0=>⟨_,rfl,?_⟩⟩;have S:(az M3 r (.lst [.int x4,.int (c3+1)])) l=MA (.lst ((us++A).map uw)):=by rw[au b.symm];exact I
  refine bQ (fun _=>?_) (fun _=>?_)
  ·refine⟨_,rfl,l,_,rfl,S,NL rfl,NL rfl,NL rfl,_,_,rfl,S,by simp;omega,?_⟩;exact L _ _ ⟨[(9,8,9,9)],x4,c3+1,rfl,(by rw[au b,ag]),(by rw[ag,Jx (l₂:=[(9,8,9,9)])];rfl),(),(),List.Sublist.refl _,J9 _⟩
  ·exact L _ _ ⟨[],x4,c3+1,rfl,ag,(by rw[K8];exact S),(),(),List.nil_sublist _,Kj _⟩
 clear u0 I;rintro δ M4 ⟨B,x4,c4,rfl,v0,S,b1,u1,sB,lB⟩;(try dsimp only[SD.aR])
 refine bX (fun δ j=>SA fun(C:ro) (F t:Int) (z:rx)=>Vt (δ=[MA (.ref r),MA (.ref l),MA (.int a),z]) (j r=MA (.lst [.int F,.int t])) (j l=MA (.lst ((((us++A)++B)++C).map uw))) (0<=t) (t<=c+12) (C.Sublist [(a,8,a+1,8),(a,9,a+1,9)]) (C.length<=2)) ?_ (fun L=>?_);rotate_left
 ·refine⟨_,rfl,r,3,x4,c4,rfl,rfl,v0,b1,(),⋯,bS ⋯,fun x5 v5 o0 r0=>?_⟩;obtain⟨n,rfl⟩:∃n:Nat,v5=(n:Int):=⟨v5.toNat,()⟩;refine⟨n,by simp,(),fun i δ j=>∃(z:rx),δ=[MA (.ref r),MA (.ref l),MA (.int a),z]/\j r=MA (.lst [.int x5,.int (c4+1)])/\j l=MA (.lst ((((us++A)++B)++([(a,8,a+1,8),(a,9,a+1,9)]:ro).take i).map uw)),⟨_,rfl,ag,(by rw[au b.symm];simpa using S)⟩,?_,?_⟩
  ·rintro i δ M5 hi ⟨z,rfl,U,J⟩;refine⟨_,rfl,l,_,rfl,J,_,rfl,_,rfl,NL rfl,_,rfl,_,rfl,NL rfl,NL rfl,_,_,rfl,J,by simp;omega,?_⟩;refine⟨_,rfl,(by rw[au b];exact U),?_⟩;rw[ag];rcases(():i=0\/i=1)with rfl|rfl
   ·simp[uw]
   ·simp[uw]
  ·rintro δ M5 ⟨z,rfl,U,J⟩;exact L _ _ ⟨_,x5,c4+1,_,rfl,U,J,(),(),List.take_sublist _ _,by simp;omega⟩
 clear v0 S;rintro δ M5 ⟨C,x5,c5,c1,rfl,U,J,d1,v1,sC,lC⟩;(try dsimp only[SD.aR])
 refine bX (fun δ j=>SA fun(l':n_) (E:ro) (F t:Int)=>YE (δ=[MA (.ref r),MA (.ref l'),MA (.int a),c1]) (j r=MA (.lst [.int F,.int t])) (j l'=MA (.lst (((((us++A)++B)++C)++E).map uw))) (r≠l') (0<=t) (t<=c+13) (E.Sublist (OY 12 12 2)) (E.length<=4)) ?_ (fun L=>?_);rotate_left
 ·refine⟨_,rfl,r,2,x5,c5,rfl,rfl,U,d1,(),⋯,bS ⋯,fun x6 v6 s0 t0=>⟨_,rfl,?_⟩⟩;have V:(az M5 r (.lst [.int x6,.int (c5+1)])) l=MA (.lst ((((us++A)++B)++C).map uw)):=by rw[au b.symm];exact J
  refine bQ (fun _=>?_) (fun _=>?_)
  ·refine⟨_,rfl,NL rfl,12,12,2,rfl,rfl,⋯,fun M7 lb O k0 W=>?_⟩;refine⟨_,_,O _ _ V,W,b4 _ _ _ _ (by simp;omega),fun l8 f0=>?_⟩;have X:r≠l8:=aA (O _ _ ag) f0;exact L _ _ ⟨l8,OY 12 12 2,x6,c5+1,rfl,(by rw[au X];exact O _ _ ag),(by rw[ag];simp only[Jx]),X,(),(),List.Sublist.refl _,J9 _⟩
  ·exact L _ _ ⟨l,[],x6,c5+1,rfl,ag,(by rw[K8];exact V),b,(),(),List.nil_sublist _,Kj _⟩
 clear U J b;rintro δ M6 ⟨l',E,x6,c6,rfl,f1,V,b,g1,w1,sE,lE⟩;have sub:(((((us++A)++B)++C)++E)).Sublist (R3 us a t1 Z t3):=by unfold R3;rw[KS,KS,KS];exact(List.Sublist.refl us).append (sA.append (sB.append (sC.append sE)))
 have lv:(((((us++A)++B)++C)++E)).length<=30:=by simp;omega
 generalize ((((us++A)++B)++C)++E)=vs at V sub lv;refine⟨_,rfl,_,rfl,_,V,r,x6,c6,vs.length,rfl,by simp,(),f1,g1,(),fun M7 x7 lo os y1 R i1 z1 g0 pm=>?_⟩;have e0:=i1 _ _ b.symm V;have ol:os.length=vs.length:=by rw[pm.length_eq,List.length_range]
 refine⟨_,g0,comp_map (fun i=>(((os.map fun o=>(vs[o]?).getD (0,0,0,0)).map uw)[i]?).getD .non) (by show(os.map fun o:Nat=>D.int (o:Int)).length<=1000000;rw[J4];omega) (fun q ys hq=>by show(az M7 q _) lo=_;rw[au (aA g0 hq)];exact g0) ?_ (fun p hp=>?_)⟩
 ·intro i d M8 hi hd j1;have hd:(os.map fun o:Nat=>D.int (o:Int))[i]?=MA d:=hd;rw[J6]at hd;cases eo:os[i]? with
  |none=>rw[eo]at hd;cases hd
  |some o=>
   rw[eo]at hd
   cases hd
   have ov:o<vs.length:=JK.mp (pm.mem_iff.mp (J8 eo))
   refine⟨_,rfl,fun K hK=>?_⟩
   have w0:=hK M8 .refl
   rw[Ky,getD_map eo]at w0
   refine⟨_,rfl,_,rfl,_,_,j1 _ _ e0,bH (v:=uw vs[o]) (by rw[J6,J0 ov];rfl),?_⟩
   have e:(vs[o]?).getD (0,0,0,0)=vs[o]:=by rw[J0 ov];rfl
   rw[<-e]
   exact w0
 have e:(Jp (os.map fun o:Nat=>D.int (o:Int)).length).map (fun i=>(((os.map fun o=>(vs[o]?).getD (0,0,0,0)).map uw)[i]?).getD .non)=(os.map fun o=>(vs[o]?).getD (0,0,0,0)).map uw:=by
  have:=SD.range_getD ((os.map fun o=>(vs[o]?).getD (0,0,0,0)).map uw)
  simpa using this
 dsimp only;rw[e]
 have pv:(os.map fun o=>(vs[o]?).getD (0,0,0,0)).Perm vs:=by
  refine(pm.map _).trans ?_
  have:(Jp vs.length).map (fun o=>(vs[o]?).getD (0,0,0,0))=vs:=by
   apply List.ext_getElem
   ·simp
   ·intro i h1 h2;simp[h2]
  rw[this]
 obtain⟨q1,q2,q3⟩:=DR gm T1 T2 T3 sub pv;exact NZ (k _ x7 _ p _ (aA R hp) (by rw[au (aA R hp)];exact R) ag () () q3 q2 q1)
theorem bR:NJ ["_law_row","_law_many","_law_shuts","_law_k","_law_found","_law_number"] ["_law_row"] (ay iB):=⋯
inductive OP:Prop
 |mk (r:n_) (x c:Int) (_:sj=.ref r) (_:M r=MA (.lst [.int x,.int c])) (_:0<=c) (_:c<1000) (_:∀(M'':MH) (x' c':Int) (l:n_) (ws:ro),r≠l->M'' r=MA (.lst [.int x',.int c'])->M'' l=MA (.lst (ws.map uw))->0<=c'->c'<=c+41->PF ws->(∀w∈ws,NM w)->ws.length<=40->Q (.ref l) M'')
theorem nv(T:Tx K mg):Cal P w K mg base 2 "_law_squares" (P6 OP):=by
 refine eM (k:=1) T.b9 bR fun f _ _ _ s H _ hr=>⟨_,(aq (aD 1 bR.nd (aC aO ao (aw (aJ T).m hr (ae (dv 0) (ae ao ak))))) (aq (aD 2 bR.nd (aY (ae (aI (ae (aI (ae (dv 1) (ae ao ak))) (ae (aI (ae (dv 1) (ae ao ak))) ak))) ak))) (aq (dm Ju rfl rfl T.mT (ae (dv 1) ak) (aE 3 bR.nd) (av (aD 2 bR.nd (aC aO (dv 2) (aY (ae (aI (ae (aI (ae (dv 3) (ae ao ak))) (ae (aI (ae (aC aO (dv 3) ao) (ae ao ak))) ak))) (ae (aI (ae (aI (ae (dv 3) (ae ao ak))) (ae (aI (ae (aC aO (dv 3) ao) (ae ao ak))) ak))) (ae (aI (ae (aI (ae (dv 3) (ae ao ak))) (ae (aI (ae (dv 3) (ae ao ak))) ak))) ak)))))))) (aq (aD 4 bR.nd (aY ak)) (aq (dm Ju rfl rfl T.mT (ae (aN cS rfl T.mu cU (ae (dv 2) ak)) ak) (aE 5 bR.nd) (av (bI (gC (dv 4) (ae (aw (aJ T).m hr (ae (dv 0) (ae (aC aO (dv 5) ao) ak))) (ae (aB (dv 2) (dv 5)) ak)))))) (av (aH (dv 4)))))))),fun _ M Q h=>?_⟩;obtain⟨r,x,c,rfl,hM,W,c0,k⟩:=h;refine⟨_,rfl,r,8,x,c,rfl,rfl,hM,W,(),⋯,bS ⋯,fun x1 v h0 h1=>?_⟩;obtain⟨n,rfl⟩:∃n:Nat,v=(n:Int):=⟨v.toNat,()⟩;refine⟨_,rfl,NL rfl,_,rfl,NL rfl,NL rfl,NL rfl,fun C X=>?_⟩;have I:r≠C:=aA ag X;have J:(az (az M r (.lst [.int x1,.int (c+1)])) C (.lst [.tup [.tup [.int (6+(n:Int)),.int 0],.tup [.int (6+(n:Int)),.int 1]]])) r=MA (.lst [.int x1,.int (c+1)]):=by rw[au I,ag]
 have L:(az (az M r (.lst [.int x1,.int (c+1)])) C (.lst [.tup [.tup [.int (6+(n:Int)),.int 0],.tup [.int (6+(n:Int)),.int 1]]])) C=MA (.lst ((OT ((6+n:Nat):Int) 0).map uw)):=by rw[ag];simp[OT,Nq,uw]
 generalize az (az M r (.lst [.int x1,.int (c+1)])) C _=M1 at J L ⊢;(try dsimp only[SD.aR])
 refine bX (fun δ g=>SA fun(l2:n_) (F N q:rx)=>SF (δ=[MA (.ref r),MA (.int ((6+n:Nat):Int)),MA (.ref l2),F,N,q]) (g r=MA (.lst [.int x1,.int (c+1)])) (g l2=MA (.lst ((OT ((6+n:Nat):Int) (6+n)).map uw))) (r≠l2)) ?_ (fun hu=>?_);rotate_left
 ·refine⟨_,rfl,6+n,by simp,(),fun i δ g=>SA fun(l2:n_) (F N q:rx)=>SF (δ=[MA (.ref r),MA (.int ((6+n:Nat):Int)),MA (.ref l2),F,N,q]) (g r=MA (.lst [.int x1,.int (c+1)])) (g l2=MA (.lst ((OT ((6+n:Nat):Int) i).map uw))) (r≠l2),⟨C,_,_,_,by simp;rfl,J,L,I⟩,?_,fun δ g h=>hu _ _ h⟩;rintro i δ G hi ⟨l2,F,N,q,rfl,l,o,y⟩;have sz:1000000<=Jv:=NL rfl;have b:=k7 ((6+n:Nat):Int) i;refine⟨_,rfl,?_⟩;refine⟨_,rfl,NL rfl,_,rfl,NL rfl,NL rfl,?_⟩;refine⟨_,rfl,NL rfl,_,rfl,NL rfl,NL rfl,?_⟩;refine⟨_,rfl,NL rfl,_,rfl,NL rfl,NL rfl,NL rfl,fun Y e=>?_⟩;have Z:l2≠Y:=aA o e;have a0:r≠Y:=aA l e;refine⟨_,_,(by rw[au Z];exact o),ag,(by rw[J4,b];show 1+3*i+3<=Jv;omega),fun d t=>?_⟩;have p:(az G Y (.lst [.tup [.tup [.int (i:Int),.int 0],.tup [.int ((i:Int)+1),.int 0]],.tup [.tup [.int (i:Int),.int 1],.tup [.int ((i:Int)+1),.int 1]],.tup [.tup [.int (i:Int),.int 0],.tup [.int (i:Int),.int 1]]])) r=MA (.lst [.int x1,.int (c+1)]):=by rw[au a0];exact l
  have a:r≠d:=aA p t;exact⟨d,_,_,_,rfl,by rw[au a];exact p,by rw[ag,OT,Jx];rfl,a⟩
 rintro δ G ⟨l2,F,N,q,rfl,l,o,y⟩;have b:=k7 ((6+n:Nat):Int) (6+n);refine⟨NL rfl,fun d t=>?_⟩;have a:r≠d:=aA l t;have O:l2≠d:=aA o t;have p:(az G d (.lst [])) r=MA (.lst [.int x1,.int (c+1)]):=by rw[au a];exact l
 have e:(az G d (.lst [])) l2=MA (.lst ((OT ((6+n:Nat):Int) (6+n)).map uw)):=by rw[au O];exact o
 have R:(az G d (.lst [])) d=MA (.lst (([]:ro).map uw)):=ag;generalize az G d (.lst [])=M3 at p e R ⊢;refine⟨_,rfl,_,e,1+3*(6+n),by rw[J4,b],(),fun i δ g=>Pz fun(S:Int) (ws:ro) (q:rx)=>RW (δ=[MA (.ref r),MA (.int ((6+n:Nat):Int)),MA (.ref l2),F,MA (.ref d),q]) (g r=MA (.lst [.int S,.int (c+1+i)])) (g l2=MA (.lst ((OT ((6+n:Nat):Int) (6+n)).map uw))) (g d=MA (.lst (ws.map uw))) (ws.Perm ((OT ((6+n:Nat):Int) (6+n)).take i)),⟨x1,[],_,rfl,‹p›,e,R,by simp⟩,?_,?_⟩;rotate_left
 ·rintro δ g ⟨S,ws,q,rfl,z,B,u,U⟩;rw[Kw ()]at U;obtain⟨q1,q2,q3⟩:=Hw (m:=6+n) () U;exact⟨_,rfl,NZ (k g S _ d ws a z u () () q1 q2 q3)⟩
 rintro i δ M4 hi ⟨S,ws,q,rfl,z,B,u,U⟩;have b0:ws.length=i:=by rw[U.length_eq,LC,b];omega
 have V:i<(OT ((6+n:Nat):Int) (6+n)).length:=()
 refine⟨_,rfl,d,_,rfl,u,?_⟩;refine⟨_,rfl,_,rfl,r,(i:Int)+1,S,c+1+i,rfl,rfl,z,(),(),(),bS (),fun x2 v2 d0 e0=>?_⟩;obtain⟨j,rfl⟩:∃j:Nat,v2=(j:Int):=⟨v2.toNat,()⟩;refine⟨_,rfl,_,rfl,_,_,(by rw[au y.symm];exact B),bH (v:=uw (OT ((6+n:Nat):Int) (6+n))[i]) (by rw[J6,J0 V];rfl),?_⟩;refine⟨_,_,j,rfl,(by rw[au a.symm];exact u),by simp;omega,by simp;omega,?_⟩;refine⟨x2,gD ws j (OT ((6+n:Nat):Int) (6+n))[i],_,rfl,(by rw[au a,ag,show c+1+((i+1:Nat):Int)=c+1+(i:Int)+1 by omega]),(by rw[au O,au y.symm];exact B),(by rw[ag,m5]),?_⟩;rw[Kx,J0 V];exact(nW ws j _).trans ((List.Perm.cons _ U).trans (by simpa using(List.perm_append_comm (l₁:=[(OT ((6+n:Nat):Int) (6+n))[i]]) (l₂:=(OT ((6+n:Nat):Int) (6+n)).take i))))
theorem eC:NJ ["_law_top","_law_bottom","_law_one","_law_other"] ["_law_top","_law_bottom"] (ay n6):=⋯
inductive Pk:Prop
 |mk (t:_) (b:_) (_:sj=.int t) (_:sm=.int b) (_:b≠0) (_:Bd 8000 t) (_:Bd 8000 b) (_:Q (NG (Rat.divInt t b)) M)
theorem nM(T:Tx K mg):Cal P w K mg base 1 "_law_low" (Nk Pk):=by
 refine bU (k:=0) T.b_ eC fun f _ _ _ s H _ l=>⟨_,(aq (aD 2 eC.nd (aN pE rfl T.k' oU (ae (dv 0) ak))) (aq (aD 3 eC.nd (aN pE rfl T.k' oU (ae (dv 1) ak))) (aq (fL Ju (aL (fh l.units) (dv 3) ao) (av (gg 2 3 rfl eC.nd (ae (dv 3) (ae (aC ft (dv 2) (dv 3)) ak))))) (aq (bF (aL (dQ l.units) (dv 1) ao) (av (aD 2 eC.nd (ko eZ (dv 2)))) aS) (av (aH (aI (ae (aC fm (dv 0) (dv 2)) (ae (aC fm (dv 1) (dv 2)) ak))))))))),fun _ _ M Q h=>?_⟩;obtain⟨t,b,rfl,rfl,o,r,g,q⟩:=h;refine⟨_,rfl,_,rfl,?_⟩;have u:=Ma.fF (t:=t) o;have a:Bd 8000 ((Mf t.natAbs b.natAbs:Nat):Int):=g.of_le ‹Nat.gcd_le_right t.natAbs (():0<b.natAbs)›;refine⟨fun m δ n=>n=M/\∃x y:Nat,δ=[MA (.int t),MA (.int b),MA (.int x),MA (.int y)]/\Mf x y=Mf t.natAbs b.natAbs/\m=y,⟨_,rfl,_,_,rfl,rfl,rfl⟩,?_⟩;rintro m δ n ⟨rfl,x,y,rfl,c,p⟩;refine⟨_,rfl,_,rfl,?_⟩;refine bQ (fun h=>?_) (fun h=>?_)
 ·have i:(y:Int)≠0:=‹h›
  refine⟨_,rfl,_,rfl,_,rfl,i,_,_,rfl,?_⟩;have j:0<y:=()
  refine⟨x%y,by rw[p];exact Nat.mod_lt _ j,rfl,y,x%y,?_,?_,rfl⟩
  ·rw[<-Ma.vd];rfl
  ·rw[<-c,Nat.gcd_comm x y,Nat.gcd_rec y x,Nat.gcd_comm]
 ·have i:y=0:=‹h›
  subst i;rw[Nat.gcd_zero_right]at c;subst c;(repeat (first|refine⟨_,rfl,?_⟩|refine⟨trivial,?_⟩|refine⟨_,_,rfl,?_⟩|refine⟨rfl,?_⟩|refine⟨NL rfl,?_⟩))
  refine bQ (fun h=>?_) (fun h=>?_)
  ·have d:b<0:=‹h›
   obtain⟨e1,e2⟩:=Ma.vy (t:=t) d;refine⟨_,rfl,_,rfl,_,rfl,⟨(),a.neg⟩,_,rfl,_,rfl,⟨(),a.neg⟩,NL rfl,?_⟩;dsimp only;rw[e1,e2];exact NZ q
  ·have e:0<b:=by
    have:¬b<0:=‹h›
    omega
   obtain⟨e1,e2⟩:=Ma.uC (t:=t) e;refine⟨_,rfl,_,rfl,⟨(),a⟩,_,rfl,_,rfl,⟨(),a⟩,NL rfl,?_⟩;dsimp only;rw[e1,e2];exact NZ q
theorem dN:NJ ["_law_scale_here","_law_unit","_law_top","_law_bottom","_law_x","_law_y"] ["_law_scale_here","_law_unit"] (ay lK):=⋯
inductive PQ:Prop
 |mk (t b x y p q:Int) (_:sj=Rr t b x y) (_:sm=.tup [.int p,.int q]) (_:OG t b x y) (_:(-(10^6)<=p/\p<=10^6)) (_:(-(10^6)<=q/\q<=10^6)) (_:Q (NF (MX t b x 1 p) (MX t b y 1 q)) M)
theorem mM(T:Tx K mg):Cal P w K mg base 2 "_law_spot" (Nk PQ):=by
 refine bU (k:=1) T.cb dN fun f _ _ _ s H _ d=>⟨_,(aq (cu (dv 0) (bM rfl (aF (aE 2 dN.nd) (aF (aE 3 dN.nd) (aF (aE 4 dN.nd) (aF (aE 5 dN.nd) bj)))))) (av (aH (aI (ae (aw (nM T).m d (ae (aC aO (aC aU (aB (dv 1) ao) (dv 2)) (dv 4)) (ae (dv 3) ak))) (ae (aw (nM T).m d (ae (aC aO (aC aU (aB (dv 1) ao) (dv 2)) (dv 5)) (ae (dv 3) ak))) ak)))))),fun _ _ M Q h=>?_⟩;obtain⟨t,b,x,y,p,q,rfl,rfl,S,e,g,k⟩:=h;have j:Bd 100 t:=by have:=S.t0;have:=S.t1;show t.natAbs<2^100;omega
 have c:∀{z:Int},(-(10^6)<=z/\z<=10^6)->Bd 64 z:=fun{z} h=>by show z.natAbs<2^64;omega
 have i:Bd 8000 b:=by have:=S.b0;have:=S.b1;exact Bd.mono (m:=100) (by show b.natAbs<2^100;omega) ⋯
 have big:∀{z w:Int},(-(10^6)<=z/\z<=10^6)->(-(10^30)<=w/\w<=10^30)->Bd 8000 (z*t+w):=fun{z w} l n=>by
  have e1:Bd 164 (z*t):=(c l).mul j
  have e2:Bd 164 w:=by show w.natAbs<2^164;omega
  exact(e1.add e2).mono ⋯
 have a:b≠0:=by have:=S.b0;omega
 refine⟨_,rfl,_,rfl,rfl,_,_,rfl,_,_,rfl,_,_,rfl,_,_,rfl,rfl,?_⟩;refine⟨_,rfl,_,rfl,_,rfl,bC (c e),_,rfl,_,rfl,p*t+x,b,rfl,rfl,a,big e ⟨S.x0,S.x1⟩,i,?_⟩;refine⟨_,rfl,_,rfl,_,rfl,bC (c g),_,rfl,_,rfl,q*t+y,b,rfl,rfl,a,big g ⟨S.y0,S.y1⟩,i,NL rfl,?_⟩;rw[Ma.xo,Ma.xo];exact NZ k
theorem rJ:NJ ["_law_scale_here","_law_shuts"] ["_law_scale_here","_law_shuts"] (ay mN):=⋯
inductive PR:Prop
 |mk (t b x y:Int) (l:n_) (ws:List (Int×Int×Int×Int)) (_:sj=Rr t b x y) (_:sm=.ref l) (_:M l=MA (.lst (ws.map uw))) (_:OG t b x y) (_:ws.length<=1000) (_:(∀w∈ws,YN (10^6) w)) (_:Q (.tup (ws.map (NP t b x y))) M)
theorem sT(T:Tx K mg):Cal P w K mg base 3 "_law_made" (Nk PR):=by
 refine bU (k:=2) T.cm rJ fun f _ _ _ s H _ n=>⟨_,(av (aH (c9 ze rfl T.nc qI (ae (lW (NK.of (xs:=["_law_first","_law_second"]) (js:=[0]) rfl) rfl (aT (dv 1)) (fun _ _ _ _=>cD) (fun _ _ _ _=>(aI (ae (aw (mM T).m n (ae (dv 2) (ae (dv 0) ak))) (ae (aw (mM T).m n (ae (dv 2) (ae (dv 1) ak))) ak))))) ak)))),fun _ _ M Q h=>?_⟩;obtain⟨t,b,x,y,l,ws,rfl,rfl,g,S,C,o,k⟩:=h;refine⟨_,rfl,ws.map uw,g,comp_map (fun i=>((ws.map (NP t b x y))[i]?).getD .non) (by simp;omega) (fun p D j=>?_) ?_ (fun p j=>⟨_,ag,?_⟩)⟩
 ·show(az M p _) l=_;rw[au (aA g j)];exact g
 ·intro i e q F a _;have a:(ws.map uw)[i]?=MA e:=a;rw[J6]at a;cases d:ws[i]? with
  |none=>rw[d]at a;cases a
  |some w=>
   rw[d]at a
   cases a
   obtain⟨r,u,v,z⟩:=o w (J8 d)
   refine⟨_,⟨_,rfl,rfl,rfl⟩,fun K B=>?_⟩
   have c:=B q .refl
   rw[getD_map d]at c
   refine⟨_,rfl,_,rfl,t,b,x,y,w.1,w.2.1,rfl,rfl,S,r,u,?_⟩
   exact⟨_,rfl,_,rfl,t,b,x,y,w.2.2.1,w.2.2.2,rfl,rfl,S,v,z,NL rfl,c⟩
 ·refine⟨_,.new j .refl,?_⟩
  have e:(Jp (ws.map uw).length).map (fun i=>((ws.map (NP t b x y))[i]?).getD .non)=ws.map (NP t b x y):=by
   have:=SD.range_getD (ws.map (NP t b x y))
   rw[J4]at this ⊢
   exact this
  dsimp only;rw[e];exact k
theorem p6:NJ ["_law_shuts","_law_face"] ["_law_shuts","_law_face"] (ay mP):=⋯
inductive PV:Prop
 |mk (l:n_) (ws:ro) (f:Nat) (_:sj=.ref l) (_:sm=.int (f:Int)) (_:M l=MA (.lst (ws.map uw))) (_:f<2*ws.length) (_:ws.length<=1000) (_:Q (uw (fw ws f)) M)
theorem dE(T:Tx K mg):Cal P w K mg base 1 "_law_ends" (Nk PV):=by
 refine bU (k:=0) T.cp p6 fun f _ _ _ s H _ j=>⟨_,(av (aH (aB (aY (ae (aB (dv 0) (aC fm (dv 1) ao)) (ae (Fs (aB (dv 0) (aC fm (dv 1) ao)) (ko eZ ao)) ak))) (aC ft (dv 1) ao)))),fun _ _ M Q h=>?_⟩;obtain⟨l,ws,f,rfl,rfl,a,hf,b,k⟩:=h;obtain⟨m,c,n⟩:=bz (ws:=ws) (k:=((f/2:Nat):Int)) () ();have d:(f:Int).fdiv 2=((f/2:Nat):Int):=by rw[Ke _ ⋯];omega
 have e:(f:Int).fmod 2=((f%2:Nat):Int):=by rw[Lu _ ⋯];omega
 refine⟨_,rfl,_,rfl,⟨⋯,bS ⋯⟩,_,_,a,(by rw[d];exact c),?_⟩;refine⟨_,rfl,_,rfl,⟨⋯,bS ⋯⟩,_,_,a,(by rw[d];exact c),?_⟩;refine⟨_,rfl,rfl,_,_,rfl,?_⟩;refine⟨NL rfl,fun p g=>?_⟩;refine⟨_,rfl,(show(2:Int)≠0 by decide),_,_,ag,?_,⟨M,.new g .refl,k⟩⟩;rw[e];refine bH ?_;unfold fw;by_cases h:f%2=0
 ·rw[h,MI rfl];rfl
 ·have i:f%2=1:=()
  rw[i,ME ⋯];rfl
theorem fq:NJ ["_law_back","_law_one","_law_other","_law_spot_here","_law_quarters"] ["_law_back","_law_one","_law_other"] (ay jt):=⋯
inductive O1:Prop
 |mk (c b x y:Vc) (_:sj=.tup [.tup [.int c.1,.int c.2],.tup [.int b.1,.int b.2]]) (_:sm=.tup [.int x.1,.int x.2]) (_:sv=.tup [.int y.1,.int y.2]) (_:Bd 6 c.1) (_:Bd 6 c.2) (_:Bd 6 b.1) (_:Bd 6 b.2) (_:Bd 6 x.1) (_:Bd 6 x.2) (_:Bd 6 y.1) (_:Bd 6 y.2) (_:Q (.bl (O8 (b.1-c.1,b.2-c.2) (x.1-c.1,x.2-c.2) (y.1-c.1,y.2-c.2))) M)
theorem oN(T:Tx K mg):Cal P w K mg base 2 "_law_sooner" (RZ O1):=by
 refine lG (k:=1) T.c_ fq fun f _ _ _ s H _ i=>⟨_,(aq (aD 3 fq.nd (aB (dv 0) ao)) (aq (cX 4 fq.nd (NK.of (xs:=["_law_way"]) (js:=[3,0]) rfl) rfl (aT (aI (ae (dv 1) (ae (dv 2) ak)))) (fun _ _ _ _=>cD) (fun _ _ _ _=>(aC aO ao (aw (dz T).m i (ae (dv 1) (ae (aB (dv 2) ao) (ae (dv 0) ak))))))) (aq (bF (aL (fh i.units) (aB (dv 4) ao) (aB (dv 4) ao)) (av (aH (cg (dQ i.units) (aB (dv 4) ao) (aB (dv 4) ao)))) aS) (av (aH (cg (dQ i.units) (aw (dz T).m i (ae (dv 3) (ae (dv 1) (ae (dv 2) ak)))) ao)))))),fun _ _ _ M Q h=>?_⟩;obtain⟨c,b,x,y,rfl,rfl,rfl,o,r,b1,t,x1,B,y1,G,k⟩:=h;have a:∀{z:Int},Bd 6 z->Bd 10 z:=fun h=>h.mono ⋯;unfold O8 at k;refine⟨_,rfl,_,rfl,?_⟩;refine⟨_,rfl,_,rfl,NL rfl,[.tup [.int x.1,.int x.2],.tup [.int y.1,.int y.2]],rfl,comp_map (fun j=>if j=0 then .int (1+JG (vc (b.1-c.1,b.2-c.2) (x.1-c.1,x.2-c.2)))else .int (1+JG (vc (b.1-c.1,b.2-c.2) (y.1-c.1,y.2-c.2)))) (NL rfl) (fun _ _ _=>rfl) ?_ (fun p u=>?_)⟩
 ·intro j C I v d _;have v:j<2:=v;have d:[D.tup [.int x.1,.int x.2],.tup [.int y.1,.int y.2]][j]?=MA C:=d;rcases(():j=0\/j=1)with rfl|rfl
  ·cases d;exact⟨_,rfl,fun F g=>⟨_,rfl,_,rfl,_,rfl,_,rfl,c.1,c.2,b.1,b.2,_,_,rfl,rfl,rfl,a o,a r,a b1,a t,g _ .refl⟩⟩
  ·cases d;exact⟨_,rfl,fun F g=>⟨_,rfl,_,rfl,_,rfl,_,rfl,c.1,c.2,b.1,b.2,_,_,rfl,rfl,rfl,a o,a r,a b1,a t,g _ .refl⟩⟩
 generalize vc (b.1-c.1,b.2-c.2) (x.1-c.1,x.2-c.2)=l at k ⊢;generalize vc (b.1-c.1,b.2-c.2) (y.1-c.1,y.2-c.2)=n at k ⊢;refine⟨_,rfl,_,_,ag,rfl,_,rfl,_,_,ag,rfl,?_⟩;refine⟨_,rfl,?_⟩;refine bQ (fun h=>?_) (fun h=>?_)
 ·have ne:¬l.sign=n.sign:=fun z=>by rw[z]at h;simp at h
  rw[ME ne]at k;have e:decide (l.sign<n.sign)=decide (1+l.sign<1+n.sign):=by rw[MM];omega
  rw[e]at k;exact⟨_,rfl,_,_,ag,rfl,_,rfl,_,_,ag,rfl,trivial,⟨M,.new u .refl,k⟩⟩
 ·have eq:l.sign=n.sign:=by simp at h;omega
  rw[MI eq]at k;have e:decide (vc (x.1-c.1,x.2-c.2) (y.1-c.1,y.2-c.2)<0)=decide (JG (N7 (x.1-c.1) (x.2-c.2) (y.1-c.1) (y.2-c.2))<0):=by unfold vc;rw[MM];rcases fV (N7 (x.1-c.1) (x.2-c.2) (y.1-c.1) (y.2-c.2))with q|q|q<;>dsimp only<;>omega
  rw[e]at k;exact⟨_,rfl,_,rfl,_,rfl,c.1,c.2,x.1,x.2,y.1,y.2,rfl,rfl,rfl,a o,a r,a x1,a B,trivial,⟨M,.new u .refl,k⟩⟩
theorem br:NJ ["_law_shuts","_law_face","_law_start","_law_spot_here","_law_found","_law_some","_law_best","_law_one","_law_way"] ["_law_shuts","_law_face"] (ay jc):=⋯
def Ik(ws:ro)(o:Option Nat):D:=match o with
 |none=>.non
 |some h=>.tup [.int (fb ws h).1,.int (fb ws h).2]
theorem B1(ws:ro)(f:Nat):(Jp (2*ws.length)).filterMap (fun j=>if jz ws f j=MC then MA (D.int (j:Int))else MB)=(cW ws f).map fun j:Nat=>D.int (j:Int):=fK _ _ _
theorem qM(R:Nat->Nat->Bool):∀(l:pe) (o:Option Nat) {h:Nat},l.foldl (bZ R) o=MA h->h∈l\/o=MA h
 |[],o,h,e=>.inr e
 |g::l,o,h,e=>by
  rw[LQ]at e
  rcases qM R l _ e with z|z
  ·exact .inl (by simp[z])
  ·cases o with
   |none=>cases z;exact .inl (by simp)
   |some k=>
    unfold bZ at z
    dsimp only at z
    by_cases r:R g k=MC
    ·rw[MI r]at z;cases z;exact .inl (by simp)
    ·rw[ME r]at z;exact .inr z
inductive O3:Prop
 |mk (l:n_) (ws:ro) (f:Nat) (_:sj=.ref l) (_:sm=.int (f:Int)) (_:M l=MA (.lst (ws.map uw))) (_:f<2*ws.length) (_:ws.length<=40) (_:(∀w∈ws,NM w)) (_:Q (.int (bh ws f:Int)) M)
theorem jj(T:Tx K mg):Cal P w K mg base 3 "_law_behind" (Nk O3):=by
 refine bU (k:=2) T.dd br fun f _ _ _ s H _ u=>⟨_,(aq (cu (aw (dE T).m u (ae (dv 0) (ae (dv 1) ak))) (bM rfl (aF (aE 2 br.nd) (aF (aE 3 br.nd) bj)))) (aq (aD 4 br.nd (aC dF (aC aO (dv 1) ao) (aC aU ao (aC ft (dv 1) ao)))) (aq (cX 5 br.nd (NK.of (xs:=["_law_one"]) (js:=[0,3,4]) rfl) rfl (wJ rfl T.mT (ae (aC aU ao (aN cS rfl T.mu cU (ae (dv 0) ak))) ak)) (fun _ _ _ _=>(g8 (mz (gG (aL (cQ u.units) (aB (aw (dE T).m u (ae (dv 1) (ae (dv 0) ak))) ao) (dv 2)) (eV (aL (fh u.units) (dv 0) (dv 3))))))) (fun _ _ _ _=>(dv 0))) (aq (aD 6 br.nd gL) (aq (bV Ju rfl (aT (dv 5)) (aE 7 br.nd) (aq (aD 8 br.nd (aB (aw (dE T).m u (ae (dv 0) (ae (dv 7) ak))) ao)) (av (bF (mz (uf (aL Ca (dv 6) gL) (tF (dC (aw (oN T).m u (ae (aI (ae (dv 3) (ae (dv 2) ak))) (ae (dv 8) (ae (dv 6) ak)))))))) (aq (aD 6 br.nd (dv 8)) (av (aD 4 br.nd (dv 7)))) aS)))) (av (aH (dv 4)))))))),fun _ _ M Q h=>?_⟩;obtain⟨l,ws,f,rfl,rfl,x,hf,Y,hU,k⟩:=h;have em:(f:Int).fmod 2=((f%2:Nat):Int):=by rw[Lu _ ⋯];omega
 have L:(f:Int)+1-2*(f:Int).fmod 2=((fx f:Nat):Int):=by rw[em];unfold fx;split<;>omega
 have hn:(ws.map uw).length=ws.length:=by simp
 refine⟨_,rfl,_,rfl,l,ws,f,rfl,rfl,x,hf,(),?_⟩;refine⟨_,rfl,rfl,_,_,rfl,_,_,rfl,rfl,?_⟩;refine⟨_,rfl,_,rfl,(show(2:Int)≠0 by decide),bC (bS ⋯),trivial,?_⟩;dsimp only;rw[L];refine⟨_,rfl,_,x,bC (bS ⋯),2*ws.length,(by rw[hn];simp),(),?_⟩;have a0:∀j:Nat,fa ws j=((fw ws j).1,(fw ws j).2.1):=fun _=>rfl;refine ig (fun j=>if jz ws f j=MC then MA (D.int (j:Int))else MB) (by show 2*ws.length<=1000000;omega) (fun _ _ _=>trivial) ?_ (fun F y=>?_)
 ·intro a d Z N hd sb;have N:a<2*ws.length:=N;cases hd;have O:Z l=MA (.lst (ws.map uw)):=sb _ _ x;refine⟨_,rfl,fun K p=>?_,fun v G K p=>?_⟩
  ·have B:K (jz ws f a) Z:=by cases z:jz ws f a<;>rw[z]at p<;>exact p
   unfold jz at B;refine xa (decide (fa ws a=fb ws f)) (decide (a≠fx f)) (fun K' r=>⟨_,rfl,_,rfl,l,ws,a,rfl,rfl,O,N,(),?_⟩) (fun _ K' r=>?_) B
   ·have e:K3 (.tuple [.int (fw ws a).1,.int (fw ws a).2.1]) (.tuple [.int (fw ws f).2.2.1,.int (fw ws f).2.2.2])=decide (fa ws a=fb ws f):=by unfold fa fb;simp only[K3,Km,LJ];rw[Ks];simp[Prod.mk.injEq]
    refine⟨_,rfl,_,rfl,_,_,Pd.of rfl,Pd.of rfl,rfl,rfl,_,rfl,?_⟩;rw[e];exact r
   ·have e:(!decide ((a:Int)=((fx f:Nat):Int)))=decide (a≠fx f):=by rw[<-decide_not,MM];omega
    rw[<-e]at r;exact⟨_,rfl,_,rfl,_,rfl,r⟩
  ·cases z:jz ws f a with
   |false=>rw[z]at G;cases G
   |true=>
    rw[z]at G
    cases G
    exact⟨_,rfl,p _ .refl⟩
 dsimp only;rw[B1];have R:l≠F:=aA x y;have S:(az M F (.lst ((cW ws f).map fun j:Nat=>D.int (j:Int)))) l=MA (.lst (ws.map uw)):=by rw[au R];exact x
 have n:∀g:Nat,g<2*ws.length->(Bd 6 (fa ws g).1/\Bd 6 (fa ws g).2)/\(Bd 6 (fb ws g).1/\Bd 6 (fb ws g).2):=fun g C=>by
  obtain⟨_,_,w3⟩:=bz (ws:=ws) (k:=((g/2:Nat):Int)) () ()
  have W:=hU _ w3
  unfold fa fb fw
  by_cases h:g%2=0
  ·rw[MI h];exact⟨⟨qE W.a,qE W.b⟩,qE W.c,qE W.d⟩
  ·rw[ME h];exact⟨⟨qE W.c,qE W.d⟩,qE W.a,qE W.b⟩
 refine⟨_,rfl,(cW ws f).map fun j:Nat=>D.int (j:Int),ag,?_⟩;refine⟨fun i δ I=>I=az M F (.lst ((cW ws f).map fun j:Nat=>D.int (j:Int)))/\Qw fun U V=>δ=[MA (.ref l),MA (.int (f:Int)),MA (.tup [.int (fw ws f).1,.int (fw ws f).2.1]),MA (.tup [.int (fw ws f).2.2.1,.int (fw ws f).2.2.2]),MA (.int (((((cW ws f).take i).foldl (bZ (Nj ws f)) MB).getD (fx f):Nat):Int)),MA (.ref F),MA (Ik ws (((cW ws f).take i).foldl (bZ (Nj ws f)) MB)),U,V],⟨rfl,_,_,rfl⟩,fun i δ I _ z=>by obtain⟨rfl,_⟩:=z;exact ag,?_,?_⟩
 ·rintro i d δ I hi hd ⟨rfl,U,V,rfl⟩;have hd:((cW ws f).map fun j:Nat=>D.int (j:Int))[i]?=MA d:=hd;rw[J6]at hd;cases J:(cW ws f)[i]? with
  |none=>rw[J]at hd;cases hd
  |some g=>
   rw[J]at hd
   cases hd
   have C:=bE.mp (J8 J)
   have nx:((cW ws f).take (i+1)).foldl (bZ (Nj ws f)) MB=bZ (Nj ws f) (((cW ws f).take i).foldl (bZ (Nj ws f)) MB) g:=by rw[Kx,J,List.foldl_append];rfl
   have t:∀h,((cW ws f).take i).foldl (bZ (Nj ws f)) MB=MA h->h∈cW ws f:=fun h e=>by
    rcases qM _ _ _ e with z|z
    ·exact List.mem_of_mem_take z
    ·cases z
   generalize ((cW ws f).take i).foldl (bZ (Nj ws f)) MB=o at t nx ⊢
   refine⟨_,rfl,_,rfl,l,ws,g,rfl,rfl,S,C.1,(),_,rfl,?_⟩
   cases o with
   |none=>
    (try dsimp only[SD.gP,SD.eD,SD.aR,SD.iG,SD.iF,SD.dG,SD.fu,SD.tBD,SD.iw,SD.EndsD.nxt,SD.EndsD.lp])
    refine Vz MC MC (fun K p=>⟨_,rfl,MC,rfl,_,rfl,p⟩) (fun z=>absurd z ⋯) ?_
    refine xU rfl ⟨_,rfl,_,rfl,rfl,MA (.int (g:Int)),MA (.tup [.int (fw ws g).2.2.1,.int (fw ws g).2.2.2]),?_⟩
    rw[nx]
    rfl
   |some h=>
    have X:=bE.mp (t h rfl)
    have d1:fd ws (fx f)=((fa ws f).1-(fb ws f).1,(fa ws f).2-(fb ws f).2):=by unfold fd fa fb;rw[ug];rfl
    have d2:∀g,fa ws g=fb ws f->fd ws g=((fb ws g).1-(fb ws f).1,(fb ws g).2-(fb ws f).2):=fun g e=>by rw[<-e];rfl
    have es:Nj ws f g h=O8 ((fa ws f).1-(fb ws f).1,(fa ws f).2-(fb ws f).2) ((fb ws g).1-(fb ws f).1,(fb ws g).2-(fb ws f).2) ((fb ws h).1-(fb ws f).1,(fb ws h).2-(fb ws f).2):=by unfold Nj;rw[d1,d2 g C.2.1,d2 h X.2.1]
    (try dsimp only[SD.gP,SD.eD,SD.aR,SD.iG,SD.iF,SD.dG,SD.fu,SD.tBD,SD.iw,SD.EndsD.nxt,SD.EndsD.lp])
    refine Vz MD (Nj ws f g h) (fun K p=>⟨_,rfl,MD,rfl,_,rfl,p⟩) (fun _ K p=>?_) ?_
    ·refine⟨_,rfl,_,rfl,NL rfl,_,rfl,_,rfl,fb ws f,fa ws f,fb ws g,fb ws h,rfl,rfl,rfl,(n f hf).2.1,(n f hf).2.2,(n f hf).1.1,(n f hf).1.2,(n g C.1).2.1,(n g C.1).2.2,(n h X.1).2.1,(n h X.1).2.2,_,rfl,?_⟩;rw[<-es];exact p
    ·refine bQ (fun q=>?_) (fun q=>?_)
     ·refine⟨_,rfl,_,rfl,rfl,MA (.int (g:Int)),MA (.tup [.int (fw ws g).2.2.1,.int (fw ws g).2.2.2]),?_⟩;rw[nx];have q:Nj ws f g h=MC:=‹q›
      have e:bZ (Nj ws f) (MA h) g=MA g:=by unfold bZ;simp[q]
      rw[e];rfl
     ·refine⟨rfl,MA (.int (g:Int)),MA (.tup [.int (fw ws g).2.2.1,.int (fw ws g).2.2.2]),?_⟩;rw[nx];have q:¬Nj ws f g h=MC:=‹q›
      have e:bZ (Nj ws f) (MA h) g=MA h:=by unfold bZ;simp[q]
      rw[e];rfl
 ·rintro δ I ⟨rfl,U,V,rfl⟩;have e:(cW ws f).take ((cW ws f).map fun j:Nat=>D.int (j:Int)).length=cW ws f:=Kw (by simp);dsimp only;rw[e];exact⟨_,rfl,⟨M,.new y .refl,k⟩⟩
theorem cK:NJ ["_law_shuts","_law_rings_here","_law_gone","_law_face","_law_ring"] ["_law_shuts"] (ay kI):=⋯
theorem qW(ws:ro)(f k:Nat):atI ((rn ws f k).map ry) (-1)=MA (.int ((N9 ws f k:Nat):Int)):=by
 unfold atI ixN;rw[ME ⋯,J4,fv,MI ()];have e:((-1:Int)+((k+1:Nat):Int)).toNat=k:=()
 rw[e];show((rn ws f k).map ry)[k]?=_;rw[J6];unfold rn;rw[J6,List.getElem?_range ()];rfl
theorem zQ(a:pd)(i:Nat):((a.flatten.map fun g:Nat=>(g:Int)).any fun z=>z==(i:Int))=decide (i∈a.flatten):=by
 rw[List.any_map,Ks,List.any_eq_true,MN];constructor
 ·rintro⟨x,b,e⟩;have:(x:Int)=(i:Int):=‹e›
  have:x=i:=()
  subst this;exact b
 ·intro h;exact⟨i,h,by simp⟩
inductive Of:Prop
 |mk (l:n_) (ws:ro) (_:sj=.ref l) (_:M l=MA (.lst (ws.map uw))) (_:ws.length<=40) (_:(∀w∈ws,NM w)) (_:PF ws) (_:∀(M':MH) (lr:n_) (ps:q_) (rs:pd),SD.Sub M M'->M' lr=MA (.lst (ps.map D.ref))->OW ws (2*ws.length) rs->RL M' ps rs->(∀p∈ps,M p=MB)->Q (.ref lr) M')
theorem kA(T:Tx K mg):Cal P w K mg base 4 "_law_rings" (P6 Of):=by
 refine eM (k:=3) T.dV cK fun f _ _ _ s H _ j=>⟨_,(aq (aD 1 cK.nd (aY ak)) (aq (aD 2 cK.nd (aY ak)) (aq (dm Ju rfl rfl T.mT (ae (aC aU ao (aN cS rfl T.mu cU (ae (dv 0) ak))) ak) (aE 3 cK.nd) (av (bF (aL (gA (iY j)) (dv 3) (dv 2) (by with_unfolding_all rfl)) (aq (aD 4 cK.nd (aY (ae (dv 3) ak))) (aq (fL Ju (aL (fh j.units) (aw (jj T).m j (ae (dv 0) (ae (aB (dv 4) (ko eZ ao)) ak))) (dv 3)) (av (bI (aX (dv 4) (ae (aw (jj T).m j (ae (dv 0) (ae (aB (dv 4) (ko eZ ao)) ak))) ak))))) (aq (bI (aX (dv 1) (ae (dv 4) ak))) (av (aD 2 cK.nd (aC aO (dv 2) (dv 4))))))) aS))) (av (aH (dv 1)))))),fun _ M Q h=>?_⟩;obtain⟨l,ws,rfl,U,y,C,hF,k⟩:=h;have hn:(ws.map uw).length=ws.length:=by simp
 refine⟨NL rfl,fun c t=>⟨NL rfl,fun r u=>?_⟩⟩;have V:r≠c:=fun z=>by subst z;rw[ag]at u;cases u
 refine⟨_,rfl,_,(by rw[au (aA (by rw[au (aA U t)];exact U) u),au (aA U t)];exact U),bC (bS ⋯),2*ws.length,(by rw[hn];simp),(),?_⟩;refine⟨fun i δ b=>SY fun(r:n_) (ps:q_) (d:pd) (o3 o4:rx)=>SG (δ=[MA (.ref l),MA (.ref c),MA (.ref r),o3,o4]) (r≠c) (SD.Sub M b) (b c=MA (.lst (ps.map D.ref))) (b r=MA (.lst ((d.flatten.map fun g:Nat=>(g:Int)).map D.int))) (ps.length<=i) (d.flatten.length<=i*80) (OW ws i d) (RL b ps d) (∀p∈ps,p≠c/\M p=MB),?_,?_,?_⟩
 ·exact⟨r,[],[],_,_,rfl,V,.new u (.new t .refl),(by rw[au V.symm,ag];rfl),ag,J9 _,Kj _,rfl,.nil,fun p F=>by cases F⟩
 ·rintro i δ b W ⟨r,ps,d,o3,o4,rfl,I,S,j,hg,b0,c0,R,v,n⟩;(try dsimp only[SD.aR])
  refine Pt fun B hB=>?_;refine⟨_,rfl,_,rfl,oM (i:Int) _ _ hg ⟨_,rfl,?_⟩⟩;rw[zQ];refine bQ (fun J=>?_) (fun J=>hB _ _ ⟨r,ps,d,_,_,rfl,I,S,j,hg,(),(),⟨d,R,.inl ⟨‹J›,rfl⟩⟩,v,n⟩);have d0:i∉d.flatten:=‹J›
  refine⟨_,rfl,NL rfl,fun p F=>?_⟩;have X:∀{a o},b a=MA o->a≠p:=fun h=>aA h F;have at':∀{a o ys},b a=MA o->(az b p (.lst ys)) a=MA o:=fun h=>by rw[au (X h)];exact h
  have Y:=S _ _ U;refine⟨fun m δ Z=>∃k,SF (δ=[MA (.ref l),MA (.ref c),MA (.ref r),MA (.int (i:Int)),MA (.ref p)]) (Z=az b p (.lst ((rn ws i k).map ry))) (NR ws i k) (m=2*ws.length-k),⟨_,0,rfl,rfl,vC ws i,rfl⟩,?_⟩;rintro m δ Z ⟨k,rfl,rfl,nr,rfl⟩;have kb:=ox C hF W nr;refine⟨_,rfl,_,rfl,_,_,ag,qW ws i k,l,ws,N9 ws i k,rfl,rfl,at' Y,cz C hF W k,y,C,_,rfl,_,rfl,?_⟩;refine bQ (fun h=>?_) (fun h=>?_)
  ·have ne:bh ws (N9 ws i k)≠i:=fun z=>by rw[z]at h;simp at h
   have a0:=uq C hF W nr ne;have e0:=ox C hF W a0;refine⟨_,rfl,p,_,rfl,ag,_,rfl,_,rfl,_,_,ag,qW ws i k,l,ws,N9 ws i k,rfl,rfl,at' Y,cz C hF W k,y,C,_,_,rfl,ag,(by rw[J4,fv];omega),?_⟩;exact⟨2*ws.length-(k+1),(),k+1,rfl,(by rw[bW,kR,Jx];rfl),a0,rfl⟩
  ·have eq:bh ws (N9 ws i k)=i:=by
    have:((bh ws (N9 ws i k):Nat):Int)=(i:Int):=‹h›
    omega
   have L:p≠c:=(X j).symm;refine⟨_,rfl,c,_,rfl,at' j,_,rfl,_,_,rfl,at' j,(by simp;omega),?_⟩;have sz:1000000<=Jv:=NL rfl;have N:∀{a o},b a=MA o->a≠c->(az (az b p (.lst ((rn ws i k).map ry))) c (.lst (ps.map D.ref++[.ref p]))) a=MA o:=fun h ne=>by rw[au ne];exact at' h
   refine⟨_,rfl,_,rfl,(d.flatten.map fun g:Nat=>(g:Int)).map D.int,(rn ws i k).map ry,N hg I,(by rw[au L,ag]),(by rw[J4,J4,J4,fv];omega),fun q hq=>?_⟩;have nq:∀{a o},(az (az b p (.lst ((rn ws i k).map ry))) c (.lst (ps.map D.ref++[.ref p]))) a=MA o->a≠q:=fun h=>aA h hq;have x:∀{a o G},(az (az b p (.lst ((rn ws i k).map ry))) c (.lst (ps.map D.ref++[.ref p]))) a=MA o->(az (az (az b p (.lst ((rn ws i k).map ry))) c (.lst (ps.map D.ref++[.ref p]))) q G) a=MA o:=fun h=>by rw[au (nq h)];exact h
   refine hB _ _ ⟨q,ps++[p],d++[rn ws i k],_,_,rfl,(nq ag).symm,fun a o h=>x (N (S _ _ h) (fun z=>by subst z;rw[t]at h;cases h)),?_,?_,by simp;omega,?_,⟨d,R,.inr ⟨d0,_,⟨k,nr,eq,rfl⟩,rfl⟩⟩,?_,fun p' O=>?_⟩
   ·rw[Jx];exact x ag
   ·rw[ag,List.flatten_append,Jx,Jx];simp only[Lr,List.flatten_nil,K8,Ky];rfl
   ·rw[List.flatten_append,Ka];simp only[Lr,List.flatten_nil,K8,fv];omega
   ·exact(v.mono fun p' O o e=>x (N e (n p' O).1)).snoc (x (by rw[au L,ag]))
   ·rcases JE.mp O with z|z
    ·exact n p' z
    ·have:p'=p:=‹z›
     subst this;refine⟨L,?_⟩;cases e:M p' with
     |none=>rfl
     |some o=>rw[S _ _ e]at F;cases F
 ·rintro δ b ⟨r,ps,d,o3,o4,rfl,I,S,j,hg,b0,c0,R,v,n⟩;exact⟨_,rfl,⟨b,.refl,k b c ps d S j R v fun p F=>(n p F).2⟩⟩
theorem je:NJ ["_law_shuts","_law_ring","_law_ends_here"] ["_law_shuts","_law_ring"] (ay ku):=⋯
inductive Od:Prop
 |mk (l p:n_) (ws:ro) (r:pe) (_:sj=.ref l) (_:sm=.ref p) (_:M l=MA (.lst (ws.map uw))) (_:M p=MA (.lst (r.map ry))) (_:(∀g∈r,g<2*ws.length)) (_:ws.length<=40) (_:r.length<=80) (_:(∀w∈ws,W8 w)) (_:Q (.int (r.map (Ng ws)).sum) M)
theorem kf(T:Tx K mg):Cal P w K mg base 2 "_law_twice" (Nk Od):=by
 refine bU (k:=1) T.d_ je fun f _ _ _ s H _ c=>⟨_,(aq (cX 2 je.nd (NK.of (xs:=["_law_face"]) (js:=[0]) rfl) rfl (aT (dv 1)) (fun _ _ _ _=>cD) (fun _ _ _ _=>(aw (dE T).m c (ae (dv 1) (ae (dv 0) ak))))) (av (aH (aN (D7 rfl) rfl T.m_ D0 (ae (lW (NK.of (xs:=["_law_one","_law_other"]) (js:=[]) rfl) rfl (aT (dv 2)) (fun _ _ _ _=>cD) (fun _ _ _ _=>(aC dF (aC aU (aB (dv 0) ao) (aB (dv 1) ao)) (aC aU (aB (dv 1) ao) (aB (dv 0) ao))))) ak))))),fun _ _ M Q h=>?_⟩;obtain⟨l,p,ws,r,rfl,rfl,B,n,c,x,C,F,k⟩:=h;refine⟨_,rfl,_,n,comp_map (fun j=>uw (fw ws ((r[j]?).getD 0))) (by show(r.map ry).length<=1000000;simp;omega) (fun q G o=>by show(az M q _) p=_;rw[au (aA n o)];exact n) ?_ (fun I t=>?_)⟩
 ·intro j d J L hd y;have hd:(r.map ry)[j]?=MA d:=hd;rw[J6]at hd;cases a:r[j]? with
  |none=>rw[a]at hd;cases hd
  |some g=>
   rw[a]at hd
   cases hd
   exact⟨_,rfl,fun K u=>⟨_,rfl,_,rfl,l,ws,g,rfl,rfl,y _ _ B,c g (J8 a),(),u _ .refl⟩⟩
 have e1:(Jp (r.map ry).length).map (fun j=>uw (fw ws ((r[j]?).getD 0)))=r.map fun g=>uw (fw ws g):=by
  rw[J4];apply List.ext_getElem
  ·simp
  ·intro i b N;simp at b;simp[b]
 dsimp only;rw[e1];refine⟨_,rfl,_,ag,comp_map (fun j=>D.int (Ng ws ((r[j]?).getD 0))) (by show(r.map fun g=>uw (fw ws g)).length<=1000000;simp;omega) (fun q G o=>by show(az _ q _) I=_;rw[au (aA ag o)];exact ag) ?_ (fun pn v=>?_)⟩
 ·intro j d J L hd y;have hd:(r.map fun g=>uw (fw ws g))[j]?=MA d:=hd;rw[J6]at hd;cases a:r[j]? with
  |none=>rw[a]at hd;cases hd
  |some g=>
   rw[a]at hd
   cases hd
   have R:=c g (J8 a)
   obtain⟨_,_,O⟩:=bz (ws:=ws) (k:=((g/2:Nat):Int)) () ()
   have W:=F _ O
   have e:∀{z:Int},(0<=z/\z<=80)->Bd 64 z:=fun{z} h=>by show z.natAbs<2^64;omega
   have b1:Bd 64 (fw ws g).1/\Bd 64 (fw ws g).2.2.1:=by
    unfold fw;by_cases h:g%2=0
    ·rw[MI h];exact⟨e W.1,e W.2.2.1⟩
    ·rw[ME h];exact⟨e W.2.2.1,e W.1⟩
   exact⟨_,⟨_,rfl,rfl,rfl⟩,fun K u=>⟨_,rfl,_,rfl,_,rfl,_,rfl,bC b1.1,_,rfl,_,rfl,_,rfl,_,rfl,bC b1.2,trivial,u _ .refl⟩⟩
 have e2:(Jp (r.map fun g=>uw (fw ws g)).length).map (fun j=>D.int (Ng ws ((r[j]?).getD 0)))=(r.map (Ng ws)).map D.int:=by
  rw[J4];apply List.ext_getElem
  ·simp
  ·intro i b N;simp at b;simp[b]
 dsimp only;rw[e2];exact⟨_,ag,⟨M,.new v (.new t .refl),k⟩⟩
theorem cP:NJ ["_law_shuts","_law_shut","_law_found","_law_at","_law_other","_law_common"] ["_law_shuts","_law_shut"] (ay ky):=⋯
inductive Oi:Prop
 |mk (l:n_) (ws:ro) (i:Nat) (_:sj=.ref l) (_:sm=.int (i:Int)) (_:M l=MA (.lst (ws.map uw))) (_:i<ws.length) (_:ws.length<=40) (_:∀(M':MH) (z:n_) (gs:pe),SD.Sub M M'->M z=MB->M' z=MA (.lst (gs.map ry))->gs.Nodup->gs.length<=ws.length->(∀j,j∈gs↔Cn ws i j)->Q (.ref z) M')
theorem rM(T:Tx K mg):Cal P w K mg base 1 "_law_group" (Nk Oi):=by
 refine bU (k:=0) T.en cP fun f _ _ _ s H _ hr=>⟨_,(aq (aD 2 cP.nd (aY (ae (dv 1) ak))) (aq (aD 3 cP.nd ao) (aq (fL Ju (aL (dQ hr.units) (dv 3) (aN cS rfl T.mu cU (ae (dv 2) ak))) (aq (dm Ju rfl rfl T.mT (ae (aN cS rfl T.mu cU (ae (dv 0) ak)) ak) (aE 4 cP.nd) (aq (cX 5 cP.nd (NK.of (xs:=["_law_spot_here"]) (js:=[0,2,3]) rfl) rfl (aT (aB (dv 0) (dv 4))) (fun _ _ _ _=>(g8 (aL (CM (iY hr)) (dv 0) (aB (dv 1) (aB (dv 2) (dv 3))) (by with_unfolding_all rfl)))) (fun _ _ _ _=>(dv 0))) (av (bF (mz (gG (aL (gA (iY hr)) (dv 4) (dv 2) (by with_unfolding_all rfl)) (eV (aL (fh hr.units) (dv 5) (aY ak))))) (av (bI (aX (dv 2) (ae (dv 4) ak)))) aS)))) (av (aD 3 cP.nd (aC aO (dv 3) ao))))) (av (aH (dv 2)))))),fun _ _ M Q h=>?_⟩;obtain⟨l,ws,i,rfl,rfl,hl,hi,hn,k⟩:=h;refine⟨_,rfl,NL rfl,fun z hz=>?_⟩;have nz:∀a o,M a=MA o->a≠z:=fun a o h=>aA h hz;have c0:∀fs:pe,fs.Nodup->(∀j∈fs,Cn ws i j)->fs.length<=ws.length:=fun fs nd h=>pX _ fs nd fun j hj=>(h j hj).lt hi;refine⟨fun m δ M'=>SA fun(fs:pe) (at':Nat) (I J:rx)=>Vr (δ=[MA (.ref l),MA (.int (i:Int)),MA (.ref z),MA (.int (at':Int)),I,J]) (SD.Sub M M') (M' z=MA (.lst (fs.map ry))) (fs.Nodup) (∀j∈fs,Cn ws i j) (i∈fs) (at'<=fs.length) (∀a x,a<at'->fs[a]?=MA x->∀k,k<ws.length->SR ws x k->k∈fs) (m=ws.length-at'),⟨_,[i],0,_,_,rfl,.new hz .refl,ag,(by simp),(fun j hj=>by rw[JH.mp hj];exact .refl),JH.mpr rfl,Kj _,(fun a x h=>absurd h (Nat.not_lt_zero _)),rfl⟩,?_⟩;rintro m δ M' ⟨fs,at',I,J,rfl,sb,V,nd,cn,im,al,done,rfl⟩;have fl:=c0 fs nd cn;refine⟨_,rfl,_,rfl,_,V,trivial,_,rfl,?_⟩;refine bQ (fun h=>?_) (fun h=>?_)
 ·have lt:at'<fs.length:=by
   have:(at':Int)<(((fs.map ry).length:Nat):Int):=ML h
   rw[J4]at this;omega
  obtain⟨x,ex⟩:∃x,fs[at']?=MA x:=⟨_,J0 lt⟩;have xm:=J8 ex;have xl:=(cn x xm).lt hi;have lm:(ws.map uw).length=ws.length:=J4 ..;refine⟨_,rfl,_,sb _ _ hl,ws.length,(by rw[lm]),(),fun j δ d0=>Pz fun(p:pe) (I J:rx)=>S1 (δ=[MA (.ref l),MA (.int (i:Int)),MA (.ref z),MA (.int (at':Int)),I,J]) (SD.Sub M d0) (d0 z=MA (.lst ((fs++p).map ry))) ((fs++p).Nodup) (∀j∈fs++p,Cn ws i j) (∀k,k<j->SR ws x k->k∈fs++p),⟨[],_,_,rfl,sb,(by rw[K8];exact V),(by rw[K8];exact nd),(by rw[K8];exact cn),fun k h=>absurd h (Nat.not_lt_zero _)⟩,?_,?_⟩
  ·rintro j δ M1 hj ⟨p,I,J,rfl,L,r,u,C,N⟩;(try dsimp only[SD.aR])
   refine Pt fun B hB=>?_;have ew:∀{k:Nat},k<ws.length->ws[k]?=MA (wn ws k):=fun{k} O=>by obtain⟨w1,_,_⟩:=bz (ws:=ws) (k:=(k:Int)) () ();rw[L9]at w1;exact w1
   have W:=L _ _ hl;have cs:=Bj (wn ws j) (wn ws x);have af:atI ((fs++p).map ry) (at':Int)=MA (.int (x:Int)):=bH (by rw[J6,JO lt,ex];rfl);have ax:atI (ws.map uw) (x:Int)=MA (uw (wn ws x)):=bH (by rw[J6,ew xl];rfl);have aj:atI (ws.map uw) (j:Int)=MA (.tup [.tup [.int (wn ws j).1,.int (wn ws j).2.1],.tup [.int (wn ws j).2.2.1,.int (wn ws j).2.2.2]]):=bH (by rw[J6,ew hj];rfl);refine⟨_,rfl,_,rfl,_,_,W,aj,_,rfl,ig (O6 (wn ws j) (wn ws x)) (NL rfl) (fun _ _ _=>rfl) ?_ (fun Z e0=>?_)⟩
   ·intro a d U ha hd R;have ha:a<2:=ha;have T:∀(X Y:Int) (K:Bool->MH->Prop),K (Om (wn ws x) X Y) U->K ([PyData.tuple [.int (wn ws x).1,.int (wn ws x).2.1],.tuple [.int (wn ws x).2.2.1,.int (wn ws x).2.2.2]].any fun q=>K3 q (.tuple [.int X,.int Y])) U:=fun X Y K h=>by rw[AX];exact h
    rcases(():a=0\/a=1)with rfl|rfl
    ·cases hd;refine⟨_,rfl,fun K S=>?_,fun v F K S=>?_⟩
     ·rw[cs.1]at S;exact⟨_,rfl,_,rfl,_,rfl,_,rfl,_,_,R _ _ r,af,_,_,R _ _ W,ax,_,_,Pd.of rfl,.inr (Pd.of rfl),rfl,rfl,_,rfl,T _ _ K S⟩
     ·have F:(if Om (wn ws x) (wn ws j).1 (wn ws j).2.1=MC then MA (D.tup [.int (wn ws j).1,.int (wn ws j).2.1])else MB)=MA v:=F;split at F
      ·cases F;exact⟨_,rfl,S _ .refl⟩
      ·cases F
    ·cases hd;refine⟨_,rfl,fun K S=>?_,fun v F K S=>?_⟩
     ·rw[cs.2]at S;exact⟨_,rfl,_,rfl,_,rfl,_,rfl,_,_,R _ _ r,af,_,_,R _ _ W,ax,_,_,Pd.of rfl,.inr (Pd.of rfl),rfl,rfl,_,rfl,T _ _ K S⟩
     ·have F:(if Om (wn ws x) (wn ws j).2.2.1 (wn ws j).2.2.2=MC then MA (D.tup [.int (wn ws j).2.2.1,.int (wn ws j).2.2.2])else MB)=MA v:=F;split at F
      ·cases F;exact⟨_,rfl,S _ .refl⟩
      ·cases F
   have G:(az M1 Z (.lst ((Jp 2).filterMap (O6 (wn ws j) (wn ws x))))) z=MA (.lst ((fs++p).map ry)):=by rw[au (aA r e0)];exact r
   have a0:(az M1 Z (.lst ((Jp 2).filterMap (O6 (wn ws j) (wn ws x))))) Z=MA (.lst ((Jp 2).filterMap (O6 (wn ws j) (wn ws x)))):=ag;have s2:SD.Sub M (az M1 Z (.lst ((Jp 2).filterMap (O6 (wn ws j) (wn ws x))))):=SD.Sub.trans L (.new e0 .refl);show SD.aR 5 (D.ref Z) _ (az M1 Z (.lst ((Jp 2).filterMap (O6 (wn ws j) (wn ws x))))) _;generalize az M1 Z (.lst ((Jp 2).filterMap (O6 (wn ws j) (wn ws x))))=U at G a0 s2 ⊢;have sh:=Dy (ws:=ws) (i:=x) (j:=j);refine⟨_,rfl,_,rfl,oM (ns:=(fs++p).map fun g:Nat=>(g:Int)) (j:Int) _ _ (by rw[Ky];exact G) ⟨_,rfl,?_⟩⟩;rw[vA]
   have keep:∀M3,SD.Sub U M3->(SR ws x j->j∈fs++p)->∀(I J:rx),B.nx [MA (.ref l),MA (.int (i:Int)),MA (.ref z),MA (.int (at':Int)),I,J] M3:=fun M3 s3 h I J=>hB _ _ ⟨p,_,_,rfl,SD.Sub.trans s2 s3,s3 _ _ G,u,C,fun k O t=>by
    by_cases e:k=j
    ·subst e;exact h t
    ·exact N k () t⟩
   refine bQ (fun h=>?_) (fun h=>jn rfl (keep _ .refl (fun _=>K0 fun n=>h (by rw[MJ n];rfl)) _ _));have nj:j∉fs++p:=‹h›
   refine⟨_,rfl,NL rfl,fun e he=>Gi (by rw[au (aA a0 he)];exact a0) ag ⟨_,rfl,?_⟩⟩;have b0:(az U e (.lst [])) z=MA (.lst ((fs++p).map ry)):=by rw[au (aA G he)];exact G
   have s3:SD.Sub U (az U e (.lst [])):=.new he .refl;generalize az U e (.lst [])=M3 at b0 s3 ⊢;refine bQ (fun y=>?_) (fun y=>keep _ s3 (fun t=>absurd (sh.mpr t) ‹y›) _ _);have t:=sh.mp y;have cj:=Cn.step (cn x xm) hj t;have f0:(fs++p++[j]).Nodup:=by rw[LP];exact⟨u,by simp,fun a ha b hb e=>nj (by rw[JH]at hb;rw[<-hb,<-e];exact ha)⟩
   have l1:=c0 _ u C;refine⟨_,rfl,z,_,rfl,b0,_,rfl,_,_,rfl,b0,by have:1000<=Jv:=NL rfl;rw[J4];omega,?_⟩;refine hB _ _ ⟨p++[j],_,_,rfl,(fun a o h=>by rw[au (nz a o h)];exact s3 _ _ (s2 _ _ h)),(by rw[ag,<-KS,Jx (l₁:=fs++p)];rfl),(by rw[<-KS];exact f0),(fun k O=>?_),fun k O t=>?_⟩
   ·rw[<-KS]at O;rcases JE.mp O with h|h
    ·exact C k h
    ·rw[JH.mp h];exact cj
   ·rw[<-KS];by_cases e:k=j
    ·rw[e];exact Jw _ (JH.mpr rfl)
    ·exact Kt _ (N k () t)
  ·rintro δ M1 ⟨p,I,J,rfl,L,r,u,C,N⟩;refine⟨_,rfl,ws.length-(at'+1),(),fs++p,at'+1,_,_,rfl,L,r,u,C,Kt _ im,(by rw[Ka];omega),fun a y ha hy=>?_,rfl⟩;by_cases e:a=at'
   ·subst e;rw[JO lt,ex]at hy;cases hy;exact N
   ·rw[JO ()]at hy;exact fun k O t=>Kt _ (done a y () hy k O t)
 ·have e:at'=fs.length:=by
   have:¬(at':Int)<(((fs.map ry).length:Nat):Int):=fun y=>h (MK y)
   rw[J4]at this;omega
  refine⟨_,rfl,NZ (k M' z fs sb hz V nd fl fun j=>⟨cn j,fun c=>?_⟩)⟩
  induction c with
  |refl=>exact im
  |step c O t ih=>
   obtain⟨a,ha,ea⟩:=Kz.mp ih
   exact done a _ () (by rw[J0 ha,ea]) _ O t
theorem bN:NJ ["_law_shuts","_law_ring","_law_spot_here","_law_many","_law_face","_law_one","_law_other","_law_low_here","_law_high"] ["_law_shuts","_law_ring","_law_spot_here"] (ay ja):=⋯
inductive O2:Prop
 |mk (l p:n_) (ws:ro) (r:pe) (m x y:Int) (_:sj=.ref l) (_:sm=.ref p) (_:sv=.tup [.int x,.int y]) (_:M l=MA (.lst ((ws.map (OI m)).map uw))) (_:M p=MA (.lst (r.map ry))) (_:(∀g∈r,g<2*ws.length)) (_:ws.length<=40) (_:r.length<=80) (_:(∀w∈ws,NM w)) (_:(0<m/\m<=4)) (_:∀M',SD.Sub M M'->Q (.bl (decide (Oo ws m x y r%2=1))) M')
theorem pH(T:Tx K mg):Cal P w K mg base 2 "_law_inside" (RZ O2):=by
 refine lG (k:=1) T.eu bN fun f _ _ _ s H _ i=>⟨_,(aq (aD 3 bN.nd ao) (aq (bV Ju rfl (aT (dv 1)) (aE 4 bN.nd) (aq (cu (aw (dE T).m i (ae (dv 0) (ae (dv 4) ak))) (bM rfl (aF (aE 5 bN.nd) (aF (aE 6 bN.nd) bj)))) (av (bF (aL (fh i.units) (cg (gh i.units) (aB (dv 5) ao) (aB (dv 2) ao)) (cg (gh i.units) (aB (dv 6) ao) (aB (dv 2) ao))) (aq (cu (aB (aY (ae (aI (ae (dv 5) (ae (dv 6) ak))) (ae (aI (ae (dv 6) (ae (dv 5) ak))) ak))) (c9 j6 rfl T.lx jO (ae (cg (gh i.units) (aB (dv 5) ao) (aB (dv 6) ao)) ak))) (bM rfl (aF (aE 7 bN.nd) (aF (aE 8 bN.nd) bj)))) (av (aD 3 bN.nd (aC aO (dv 3) (c9 j6 rfl T.lx jO (ae (cg (gh i.units) (aw (dz T).m i (ae (dv 7) (ae (dv 8) (ae (dv 2) ak)))) ao) ak)))))) aS)))) (av (aH (cg (cQ i.units) (aC ft (dv 3) ao) ao))))),fun _ _ _ M Q h=>?_⟩;obtain⟨l,p,ws,r,m,x,y,rfl,rfl,rfl,hl,S,i,hn,a0,hU,U,k⟩:=h;refine⟨_,rfl,_,S,fun j δ v=>SD.Sub M v/\SY fun(G I J L N:rx)=>δ=[MA (.ref l),MA (.ref p),MA (.tup [.int x,.int y]),MA (.int (Oo ws m x y (r.take j))),G,I,J,L,N],⟨.refl,_,_,_,_,_,rfl⟩,fun j δ v _ z=>z.1 _ _ S,?_,?_⟩
 ·rintro j d δ v hj hd ⟨B,G,I,J,L,N,rfl⟩;have hd:(r.map ry)[j]?=MA d:=hd;rw[J6]at hd;cases F:r[j]? with
  |none=>rw[F]at hd;cases hd
  |some g=>
   rw[F]at hd
   cases hd
   have V:=i g (J8 F)
   have O:=Gr (m:=m) V
   have W:=IW (aM hU (():g/2<ws.length)) U
   have t:W8 (fw (ws.map (OI m)) g):=by
    rcases O with e|e<;>rw[e]
    ·exact W
    ·exact⟨W.2.2.1,W.2.2.2,W.1,W.2.1⟩
   clear W
   have ct:Oo ws m x y (r.take (j+1))=Oo ws m x y (r.take j)+OM (wn ws (g/2)) m x y:=by unfold Oo;rw[Kx,F,Jx,List.sum_append];simp
   refine⟨_,rfl,_,rfl,l,ws.map (OI m),g,rfl,rfl,B _ _ hl,(by rw[J4];exact V),(by rw[J4];omega),?_⟩
   have R:=tL ws m x y (r.take j)
   rw[ct]
   generalize fw (ws.map (OI m)) g=W at O t ⊢
   obtain⟨a,b,c,d⟩:=W
   obtain⟨X,Y⟩:=A9 (p:=x) (q:=y) U.1 O
   generalize OM (wn ws (g/2)) m x y=n at X Y ⊢
   generalize Oo ws m x y (r.take j)=cj at R ⊢
   refine⟨_,rfl,rfl,_,_,rfl,_,_,rfl,rfl,?_⟩
   refine⟨_,rfl,_,rfl,_,rfl,_,rfl,trivial,_,rfl,_,rfl,_,rfl,_,rfl,trivial,_,rfl,?_⟩
   refine bQ (fun h=>?_) (fun h=>?_)
   ·have h:decide (y<b)≠decide (y<d):=‹h›
    obtain⟨f3,f4⟩:=Y h;have u:∀{z:Int},(0<=z/\z<=80)->Bd 10 z:=fun{z} h=>by show z.natAbs<2^10;omega
    refine⟨_,rfl,_,rfl,NL rfl,_,rfl,_,rfl,NL rfl,NL rfl,fun z hz=>?_⟩;have C:=SD.Sub.trans B (.new (o:=.lst [.tup [.tup [.int a,.int b],.tup [.int c,.int d]],.tup [.tup [.int c,.int d],.tup [.int a,.int b]]]) hz .refl);refine⟨_,rfl,_,rfl,_,rfl,_,rfl,trivial,?_⟩;by_cases g:d<b
    ·rw[f3 g,vq];refine⟨_,.tup [.tup [.int c,.int d],.tup [.int a,.int b]],ag,(by rw[MI (show decide (d<b)=MC from MK g)];rfl),?_⟩;refine⟨_,rfl,rfl,_,_,rfl,_,_,rfl,rfl,?_⟩;refine⟨_,rfl,_,rfl,_,rfl,_,rfl,c,d,a,b,x,y,rfl,rfl,rfl,u t.2.2.1,u t.2.2.2,u t.1,u t.2.1,trivial,?_⟩;exact⟨C,_,_,_,_,_,rfl⟩
    ·rw[f4 g,vq];refine⟨_,.tup [.tup [.int a,.int b],.tup [.int c,.int d]],ag,(by rw[ME (show ¬decide (d<b)=MC from fun z=>g (ML z))];rfl),?_⟩;refine⟨_,rfl,rfl,_,_,rfl,_,_,rfl,rfl,?_⟩;refine⟨_,rfl,_,rfl,_,rfl,_,rfl,a,b,c,d,x,y,rfl,rfl,rfl,u t.1,u t.2.1,u t.2.2.1,u t.2.2.2,trivial,?_⟩;exact⟨C,_,_,_,_,_,rfl⟩
   ·have h:decide (y<b)=decide (y<d):=‹h›
    have n0:=X h;subst n0;rw[Int.add_zero];exact⟨B,_,_,_,_,_,rfl⟩
 ·rintro δ v ⟨B,G,I,J,L,N,rfl⟩;have e:Oo ws m x y (r.take (r.map ry).length)=Oo ws m x y r:=by rw[J4,Lo]
  have R:=tL ws m x y r;have Z:=k v B;dsimp only;rw[e];generalize Oo ws m x y r=n at R Z;refine⟨_,rfl,(by show(2:Int)≠0;decide),NZ ?_⟩;rw[Lu _ ⋯];exact Z
theorem aV:NJ ["_law_shuts","_law_rings_here","_law_outers","_law_found","_law_ring","_law_land","_law_group_here","_law_some","_law_spot_here","_law_areas","_law_number","_law_outer","_law_face"] ["_law_shuts"] (ay kD):=⋯
inductive Oh:Prop
 |mk (l:n_) (ws:ro) (_:sj=.ref l) (_:M l=MA (.lst (ws.map uw))) (_:ws.length<=40) (_:(∀w∈ws,NM w)) (_:PF ws) (_:∀(M':MH) (z lo:n_) (qs:q_) (rs:pd) (L:pq),SD.Sub M M'->M z=MB->M' z=MA (.lst (L.map D.int))->L.length=2*ws.length->(∀L',c7 ws L'->L'=L)->M' lo=MA (.lst (qs.map D.ref))->OW ws (2*ws.length) rs->RL M' qs (rs.filter (aG ws))->Q (.tup [.ref z,.ref lo]) M')
theorem qL(T:Tx K mg):Cal P w K mg base 5 "_law_lands" (P6 Oh):=by
 refine eM (k:=4) T.eH aV fun f cdv A outer s H E n=>⟨_,(aq (aD 1 aV.nd (aw (kA T).m n (ae (dv 0) ak))) (aq (cX 2 aV.nd (NK.of (xs:=["_law_ring"]) (js:=[0]) rfl) rfl (aT (dv 1)) (fun _ _ _ _=>(g8 (aL (gh n.units) (aw (kf T).m n (ae (dv 1) (ae (dv 0) ak))) ao))) (fun _ _ _ _=>(dv 0))) (aq (aD 3 aV.nd (aC uT (aY (ae gL ak)) (aC aU ao (aN cS rfl T.mu cU (ae (dv 0) ak))))) (aq (bV Ju rfl (aT (dv 1)) (aE 4 aV.nd) (aq (aD 5 aV.nd ao) (aq (bF (aL (CM (iY n)) (dv 4) (dv 2) (by with_unfolding_all rfl)) (av (aD 5 aV.nd (aC aO (sR (iY n) (dv 2) (ae (dv 4) ak)) ao))) (aq (aD 6 aV.nd (aw (rM T).m n (ae (dv 0) (ae (aC fm (aB (dv 4) ao) ao) ak)))) (aq (aD 7 aV.nd (aB (aY (ae (aY ak) (ae (dv 2) ak))) (c9 j6 rfl T.lx jO (ae (cg (dQ n.units) (aN cS rfl T.mu cU (ae (dv 6) ak)) (aN cS rfl T.mu cU (ae (dv 0) ak))) ak)))) (aq (aD 8 aV.nd (aN (jd rfl n.units) rfl T.mO mm (ae (fE (NK.of (xs:=["_law_face"]) (js:=[0]) rfl) rfl (aT (dv 4)) (fun _ _ _ _=>cD) (fun _ _ _ _=>(aB (aw (dE T).m n (ae (dv 1) (ae (dv 0) ak))) ao))) ak))) (aq (aD 9 aV.nd (aY (ae (aI (ae (aC iO ao ao) (ae ao ak))) ak))) (aq (bV Ju rfl (vJ rfl T.lu (ae (dv 7) ak)) (bM rfl (aF (aE 10 aV.nd) (aF (aE 11 aV.nd) bj))) (av (bF (mz (gG (aL (gA (iY n)) (aC fm (aB (dv 11) ao) ao) (dv 6) (by with_unfolding_all rfl)) (eV (dC (aw (pH T).m n (ae (dv 0) (ae (dv 11) (ae (dv 8) ak)))))))) (av (bI (aX (dv 9) (ae (aI (ae (aw (kf T).m n (ae (dv 0) (ae (dv 11) ak))) (ae (aC aO (dv 10) ao) ak))) ak)))) aS))) (av (aD 5 aV.nd (aB (aN (jd rfl n.units) rfl T.mO mm (ae (dv 9) ak)) ao))))))))) (av (bV Ju rfl (aT (dv 4)) (aE 12 aV.nd) (av (cu (dv 5) (l6 (dv 3) (dv 12))))))))) (av (aH (aI (ae (dv 3) (ae (dv 2) ak))))))))),fun _ M Q h=>?_⟩;obtain⟨l,ws,rfl,hl,hn,hU,hF,k⟩:=h
 have h8:∀w∈ws,W8 w:=fun w hw=>by
  have h:=hU w hw
  have U:∀z:Int,(0<=z/\z<=20)->(0<=z/\z<=80):=fun z h=>()
  exact⟨U _ h.a,U _ h.b,U _ h.c,U _ h.d⟩
 refine⟨_,rfl,l,ws,rfl,hl,hn,hU,hF,fun M4 lr ps u i1 e0 G RR fr=>?_⟩;have t0:=i1 _ _ hl;have Y:=f6 hU hF (J9 _) G;have pl:=RR.len;have rl:=gX G;refine⟨_,rfl,_,e0,ig (fun j=>if aG ws ((u[j]?).getD [])=MC then MA (D.ref ((ps[j]?).getD 0))else MB) (by show(ps.map D.ref).length<=1000000;rw[J4];omega) (fun p ys hp=>by show(az _ p _) lr=_;rw[au (aA e0 hp)];exact e0) ?_ (fun x j1=>?_)⟩
 ·intro j d M6 R hd O;have hd:(ps.map D.ref)[j]?=MA d:=hd;have R:j<ps.length:=by have:j<(ps.map D.ref).length:=R;rw[J4]at this;exact this
  obtain⟨r,er,mr⟩:=RR.get R;rw[J6,J0 R]at hd;cases hd;have A:=Y r (J8 er);refine⟨_,rfl,fun K hK=>?_,fun v hv K hK=>?_⟩
  ·refine⟨_,rfl,_,rfl,l,ps[j],ws,r,rfl,rfl,O _ _ t0,O _ _ mr,A.lt,hn,by have:=A.len;omega,h8,trivial,_,rfl,?_⟩;have e:(if aG ws ((u[j]?).getD [])=MC then MA (D.ref ((ps[j]?).getD 0))else MB).isSome=aG ws r:=by rw[er];show(if aG ws r=MC then _ else MB:rx).isSome=_;cases aG ws r<;>rfl
   rw[e]at hK;exact hK
  ·rw[er,J0 R]at hv;dsimp only[Option.getD]at hv;split at hv
   ·cases hv;exact⟨_,rfl,hK _ .refl⟩
   ·cases hv
 obtain⟨qs,eq,RQ,sub⟩:=pY (aG ws) RR ps.length (J9 _);rw[show u.take ps.length=u by rw[pl,Lo]]at RQ;have e9:(Jp (ps.map D.ref).length).filterMap (fun j=>if aG ws ((u[j]?).getD [])=MC then MA (D.ref ((ps[j]?).getD 0))else MB)=qs.map D.ref:=by rw[J4];exact eq
 dsimp only;rw[e9];clear e9 eq
 have hO:∀S∈u.filter (aG ws),(∀g∈S,g<2*ws.length)/\S.length<=80:=fun S hS=>by
  have A:=Y S (Jr.mp hS).1
  exact⟨A.lt,by have:=A.len;omega⟩
 have lO:(u.filter (aG ws)).length<=80:=by have:=KI (aG ws) u;omega
 have s5:SD.Sub M4 (az M4 x (.lst (qs.map D.ref))):=.new j1 .refl;have a0:(az M4 x (.lst (qs.map D.ref))) x=MA (.lst (qs.map D.ref)):=ag;generalize az M4 x (.lst (qs.map D.ref))=Z at s5 a0 ⊢;have k1:=SD.Sub.trans i1 s5;have y1:RL Z ps u:=RR.mono fun p _ o h=>s5 _ _ h;have g0:RL Z qs (u.filter (aG ws)):=RQ.mono fun p _ o h=>s5 _ _ h;have W:=s5 _ _ t0;have o0:=s5 _ _ e0;clear RR RQ t0 e0 j1 s5;have lm:(ws.map uw).length=ws.length:=J4 ..;refine⟨NL rfl,fun z0 k0=>⟨_,rfl,_,(by rw[au (aA W k0)];exact W),bC (bS ⋯),.non,ag,by rw[lm];omega,by rw[lm];omega,fun z hz=>?_⟩⟩
 have z1:Z z=MB:=by
  cases e:Z z with
  |none=>rfl
  |some o=>rw[au (aA e k0)]at hz;rw[e]at hz;cases hz
 have nz:∀a o,Z a=MA o->a≠z:=fun a o h=>aA h z1
 have a2:M z=MB:=by
  cases e:M z with
  |none=>rfl
  |some o=>exact absurd rfl (nz _ _ (k1 _ _ e))
 have s6:SD.Sub Z (az (az Z z0 (.lst [.non])) z (.lst (JJ ((2:Int)*((ws.map uw).length:Nat)).toNat .non))):=.new hz (.new k0 .refl);have m1:(az (az Z z0 (.lst [.non])) z (.lst (JJ ((2:Int)*((ws.map uw).length:Nat)).toNat .non))) z=MA (.lst (JJ (2*ws.length) .non)):=by rw[ag,lm,show((2:Int)*(ws.length:Nat)).toNat=2*ws.length by omega]
 show SD.aR 3 (D.ref z) _ (az (az Z z0 (.lst [.non])) z (.lst (JJ ((2:Int)*((ws.map uw).length:Nat)).toNat .non))) _;generalize az (az Z z0 (.lst [.non])) z (.lst (JJ ((2:Int)*((ws.map uw).length:Nat)).toNat .non))=M6 at s6 m1 ⊢;clear hz k0
 have n1:∀L,c7 ws L->(∀(i:Nat) (S:pe),(u.filter (aG ws))[i]?=MA S->∀g∈S,L[g]?=MA ((i+1:Nat):Int))/\∀r∈u,aG ws r=MD->∀g∈r,L[g]?=MA (Ow ws L (fc ws r)):=fun L il=>by
  obtain⟨r2,G',h1,h2⟩:=oh hU hF il
  have e:=jR G' G
  subst e
  exact⟨h1,h2⟩
 refine⟨_,rfl,_,s6 _ _ o0,fun j δ M'=>Qw fun(F:rv) (T:rr)=>S1 (δ=MA (.ref l)::MA (.ref lr)::MA (.ref x)::MA (.ref z)::T) (T.length=9) (SD.Sub Z M') (M' z=MA (.lst F)) (F.length=2*ws.length) (∀g,(∃r∈u.take j,g∈r)->∃a,F[g]?=MA (.int a)/\∀L,c7 ws L->L[g]?=MA a),⟨_,_,rfl,rfl,s6,m1,(by simp),fun g h=>by obtain⟨r,n,_⟩:=h;cases n⟩,(fun j δ M' _ q=>by obtain⟨_,_,_,_,q,_⟩:=q;exact q _ _ o0),?_,?_⟩
 ·rintro j d δ M' R hd ⟨F,T,rfl,hT,O,l0,Fl,FF⟩;refine Gg hT fun o4 o5 o6 o7 o8 o9 C I h0=>?_;have R:j<ps.length:=by have:j<(ps.map D.ref).length:=R;rw[J4]at this;exact this
  have hd:(ps.map D.ref)[j]?=MA d:=hd;obtain⟨r,er,mr⟩:=y1.get R;rw[J6,J0 R]at hd;cases hd;have n:=J8 er;have A:=Y r n;have Al:r.length<=80:=by have:=A.len;omega
  generalize ps[j]=p at mr;(try dsimp only[SD.aR])
  refine Pt fun B hB=>?_;refine bX (fun δ b0=>δ=[MA (.ref l),MA (.ref lr),MA (.ref x),MA (.ref z),MA (.ref p),MA (.int 0),o6,o7,o8,o9,C,I,h0]/\b0=M') ?_ (fun hu=>hu _ _ ⟨rfl,rfl⟩);rintro δ b0 ⟨rfl,rfl⟩;refine bX (fun δ b0=>Qw fun(a:Int) (T:rr)=>RW (δ=MA (.ref l)::MA (.ref lr)::MA (.ref x)::MA (.ref z)::MA (.ref p)::MA (.int a)::T) (T.length=7) (SD.Sub Z b0) (b0 z=MA (.lst F)) (∀g∈r,∀L,c7 ws L->L[g]?=MA a)) ?_ (fun hu=>?_);rotate_left
  ·refine⟨_,rfl,_,rfl,OX r,Ru (u.filter (aG ws)),ie (O _ _ mr),.inl (.lst (O _ _ a0) (g0.mono fun p _ o h=>O _ _ h).pds),jD r,ua _,_,rfl,?_⟩;rw[yc];refine bQ (fun h=>?_) (fun h=>?_)
   ·have mo:r∈u.filter (aG ws):=ML h;obtain⟨i,hi,ei⟩:=Kz.mp mo;have qi:i<qs.length:=by rw[g0.len];exact hi
    have nd:(u.filter (aG ws)).Nodup:=Lp _ (fB G);refine⟨_,rfl,x,_,rfl,O _ _ a0,_,rfl,qs.map D.ref,.ref p,OX r,i,rfl,O _ _ a0,(by rw[J4];exact qi),ie (O _ _ mr),jD r,(fun i' y t2 hy=>?_),?_⟩
    ·have o1:i'<qs.length:=()
     obtain⟨S,eS,mS⟩:=g0.get o1;rw[J6,J0 o1]at hy;cases hy;refine⟨OX S,ie (O _ _ mS),pD S,?_⟩;rw[tE,MM];obtain⟨p2,e2⟩:=Jq.mp eS;constructor
     ·intro z;exact(List.getElem_inj nd).mp (e2.trans (z.trans ei.symm))
     ·intro z;subst z;rw[<-e2,ei]
    ·exact hu _ _ ⟨(i:Int)+1,_,rfl,rfl,O,l0,fun g X L il=>by rw[(n1 L il).1 i r (by rw[J0 hi,ei]) g X];simp⟩
   ·have o:aG ws r=MD:=by
     cases z:aG ws r with
     |false=>rfl
     |true=>exact absurd (MK (Jr.mpr ⟨n,z⟩)) h
    obtain⟨f0,f1,Rf⟩:=cV G r n;obtain⟨r0,rh⟩:=vN Rf;have p1:=O _ _ W;refine⟨_,rfl,_,rfl,_,_,O _ _ mr,bH (v:=D.int (f0:Int)) (by rw[J6,r0];rfl),⟨⋯,bS ⋯⟩,l,ws,f0/2,rfl,congrArg D.int (xZ f0),p1,(),hn,fun M7 zg gs u0 b2 m0 c2 o2 gc=>?_⟩;have s7:=SD.Sub.trans O u0;have v0:=u0 _ _ l0;clear u0 b2 p1;generalize w0:(fun T:pe=>!decide (T.headD 0/2∈gs)&&decide (Oo ws 1 (fc ws r).1 (fc ws r).2 T%2=1))=ok;have x0:∀T,ok T=MC↔¬Cn ws (f0/2) (T.headD 0/2)/\Oo ws 1 (fc ws r).1 (fc ws r).2 T%2=1:=fun T=>by rw[<-w0,JN,Bool.not_eq_true',decide_eq_false_iff_not,MN,gc]
    (try dsimp only[SD.aR])
    refine bX (fun δ M8=>Pz fun(ls:n_) (J:q_) (os:pd)=>Vr (δ=[MA (.ref l),MA (.ref lr),MA (.ref x),MA (.ref z),MA (.ref p),MA (.int 0),MA (.ref zg),MA (.ref ls),o8,o9,C,I,h0]) (SD.Sub Z M8) (M8 z=MA (.lst F)) (M8 zg=MA (.lst (gs.map ry))) (M8 ls=MA (.lst (J.map D.ref))) (RL M8 J os) (os.length<=80) (∀S∈os,S∈u.filter (aG ws)) (Px ws os ok os.length=Px ws (u.filter (aG ws)) ok (u.filter (aG ws)).length)) ?_ (fun r1=>?_);rotate_left
    ·refine⟨NL rfl,fun e1 d2=>⟨_,rfl,NL rfl,fun e2 s1=>?_⟩⟩;have s8:SD.Sub M7 (az (az M7 e1 (.lst [])) e2 (.lst [.ref e1,.ref x])):=.new s1 (.new d2 .refl);have t1:(az (az M7 e1 (.lst [])) e2 (.lst [.ref e1,.ref x])) e1=MA (.lst []):=by rw[au (aA ag s1)];exact ag
     have y0:(az (az M7 e1 (.lst [])) e2 (.lst [.ref e1,.ref x])) e2=MA (.lst [.ref e1,.ref x]):=ag;show SD.Aq _ _ _ (az (az M7 e1 (.lst [])) e2 (.lst [.ref e1,.ref x])) _;generalize az (az M7 e1 (.lst [])) e2 (.lst [.ref e1,.ref x])=M8 at s8 t1 y0 ⊢;have i0:=SD.Sub.trans s7 s8;refine⟨_,rfl,_,s8 _ _ m0,_,rfl,_,i0 _ _ W,trivial,?_⟩;have lg:(gs.map ry).length=gs.length:=J4 ..;by_cases g:gs.length<ws.length
     ·refine⟨_,.ref x,y0,(by rw[MI (show decide ((((gs.map ry).length:Nat):Int)<(((ws.map uw).length:Nat):Int))=MC from MK ())];rfl),?_⟩;exact r1 _ _ ⟨x,qs,_,rfl,i0,s8 _ _ v0,s8 _ _ m0,i0 _ _ a0,g0.mono fun p _ o h=>i0 _ _ h,lO,fun S h=>h,rfl⟩
     ·refine⟨_,.ref e1,y0,(by rw[ME (show ¬decide ((((gs.map ry).length:Nat):Int)<(((ws.map uw).length:Nat):Int))=MC from fun y=>g (by have:=ML y;omega))];rfl),?_⟩;refine r1 _ _ ⟨e1,[],[],rfl,i0,s8 _ _ v0,s8 _ _ m0,t1,.nil,⋯,(fun S h=>by cases h),?_⟩;have al:=Fd c2 (fun j R=>((gc j).mp R).lt ()) g;unfold Px
      congr 1
      refine(List.filterMap_eq_nil_iff.mpr fun j R=>?_).symm;have R:=JK.mp R;unfold RM;rw[J0 R];refine ME fun y=>?_;obtain⟨fT,u2,RT⟩:=cV G _ (Jr.mp (K1 R)).1;have y:=((x0 _).mp y).1;refine y ((gc _).mp (al _ ?_));show((u.filter (aG ws))[j]).headD 0/2<ws.length;rw[(vN RT).2];omega
    clear v0 m0 s7;rintro δ M8 ⟨ls,J,os,rfl,s8,f2,g2,i2,R8,ol,u1,eA⟩;have rc:∀{M9:MH},SD.Sub M8 M9->M9 p=MA (.lst (r.map ry)):=fun s=>s _ _ (s8 _ _ mr);refine⟨_,rfl,_,rc .refl,comp_map (fun i=>P9 (fa ws ((r[i]?).getD 0))) (by show(r.map ry).length<=1000000;rw[J4];omega) (fun q ys hq=>by show(az _ q _) p=_;rw[au (aA (rc .refl) hq)];exact rc .refl) ?_ (fun lc j2=>?_)⟩
    ·intro i d M9 hi hd s9;have hd:(r.map ry)[i]?=MA d:=hd;rw[J6]at hd;cases eg:r[i]? with
     |none=>rw[eg]at hd;cases hd
     |some g=>
      rw[eg]at hd
      cases hd
      exact⟨_,rfl,fun K hK=>⟨_,rfl,_,rfl,l,ws,g,rfl,rfl,s9 _ _ (s8 _ _ W),A.lt g (J8 eg),(),_,rfl,hK _ .refl⟩⟩
    have e1:(Jp (r.map ry).length).map (fun i=>P9 (fa ws ((r[i]?).getD 0)))=(r.map (fa ws)).map P9:=by
     rw[J4];apply List.ext_getElem
     ·simp
     ·intro i h1 h2;simp at h1;simp[h1]
    have s9:SD.Sub M8 (az M8 lc (.lst ((r.map (fa ws)).map P9))):=.new j2 .refl;have h9:(az M8 lc (.lst ((r.map (fa ws)).map P9))) lc=MA (.lst ((r.map (fa ws)).map P9)):=ag;dsimp only;rw[e1];generalize az M8 lc (.lst ((r.map (fa ws)).map P9))=M9 at s9 h9 ⊢;refine⟨_,h9,(by intro z;rw[List.map_eq_nil_iff]at z;rw[z]at r0;cases r0),fun c hc mc=>?_⟩;have ec:=EE hU A.lt hc mc;rw[ec];generalize k2:fc ws r=c0 at ec w0 x0 ⊢;refine⟨⟨⋯,⋯,⋯⟩,NL rfl,NL rfl,fun za v1=>?_⟩;have na:∀a o,M9 a=MA o->a≠za:=fun a o h=>aA h v1;have a1:=s9 _ _ i2;refine⟨_,rfl,ls,J.map D.ref,rfl,(by rw[au (na _ _ a1)];exact a1),fun i δ M'=>Qw fun(C I:rx)=>δ=[MA (.ref l),MA (.ref lr),MA (.ref x),MA (.ref z),MA (.ref p),MA (.int 0),MA (.ref zg),MA (.ref ls),MA (P9 c0),MA (.ref za),C,I,h0]/\SD.Sub M9 M'/\M' za=MA (.lst ((Px ws os ok i).map P9)),⟨_,_,rfl,.new v1 .refl,ag⟩,fun i δ M' _ q=>by obtain⟨_,_,_,q,_⟩:=q;exact q _ _ a1,?_,?_⟩
    ·rintro i d δ M' hi hd ⟨C,I,rfl,sa,N⟩;have hi:i<J.length:=by have:i<(J.map D.ref).length:=hi;rw[J4]at this;exact this
     have hd:((J.map D.ref)[i]?).map (fun d=>D.tup [.int (i:Int),d])=MA d:=hd;obtain⟨S,eS,mS⟩:=R8.get hi;rw[J6,J0 hi]at hd;cases hd;have iS:=u1 S (J8 eS);obtain⟨lt,sl⟩:=hO S iS;obtain⟨fS,v2,RS⟩:=cV G S (Jr.mp iS).1;obtain⟨S0,Sh⟩:=vN RS;have ai:RM ws os ok i=if ok S=MC then MA ((S.map (Ng ws)).sum,((i:Nat):Int)+1)else MB:=by unfold RM;rw[eS];rfl
     have nx:=zO ws os ok i;have b1:ok S=(!decide (fS/2∈gs)&&decide (Oo ws 1 c0.1 c0.2 S%2=1)):=by rw[<-w0];show(!decide (S.headD 0/2∈gs)&&_)=_;rw[Sh]
     have V:=SD.Sub.trans s9 sa;have m2:=SD.Sub.trans s8 V;refine⟨_,rfl,rfl,_,_,rfl,_,_,rfl,rfl,?_⟩;(try dsimp only[SD.aR])
     refine Pt fun B hB=>?_;have s0:ok S=MD->∀M2,SD.Sub M' M2->∀(C I:rx),B.nx [MA (.ref l),MA (.ref lr),MA (.ref x),MA (.ref z),MA (.ref p),MA (.int 0),MA (.ref zg),MA (.ref ls),MA (P9 c0),MA (.ref za),C,I,h0] M2:=fun f M2 s2 C I=>hB _ _ ⟨_,_,rfl,SD.Sub.trans sa s2,by rw[nx,ai,f,ME ⋯,Option.toList_none,K8];exact s2 _ _ N⟩;refine⟨_,rfl,_,_,V _ _ mS,bH (v:=D.int (fS:Int)) (by rw[J6,S0];rfl),⟨⋯,bS ⋯⟩,_,rfl,?_⟩;show SD.yi _ (D.int (Int.fdiv (fS:Int) 2)) _ _ _;rw[xZ];refine oM (ns:=gs.map fun g:Nat=>(g:Int)) ((fS/2:Nat):Int) _ _ (by rw[Ky];exact V _ _ g2) ⟨_,rfl,?_⟩;rw[vA];refine bQ (fun h=>?_) (fun h=>jn rfl (s0 (by rw[b1,eq_false_of_ne_true h];rfl) _ .refl _ _));refine⟨_,rfl,_,rfl,_,rfl,l,J[i],ws,S,1,c0.1,c0.2,rfl,rfl,rfl,(by rw[CY];exact m2 _ _ W),V _ _ mS,lt,hn,sl,hU,⋯,fun M2 s2=>⟨_,rfl,?_⟩⟩;refine bQ (fun y=>?_) (fun y=>s0 (by rw[b1,eq_false_of_ne_true y,Me]) _ s2 _ _);have t:ok S=MC:=by rw[b1,h,y];rfl
     rw[MI t]at ai;have al:=Bu ws os ok i;have n0:=s2 _ _ N;have sM:=SD.Sub.trans V s2;have n2:=SD.Sub.trans s8 sM;refine⟨_,rfl,za,_,rfl,n0,_,rfl,_,rfl,l,J[i],ws,S,rfl,rfl,n2 _ _ W,sM _ _ mS,lt,hn,sl,h8,_,rfl,NL rfl,_,_,rfl,n0,by have:1000<=Jv:=NL rfl;rw[J4];have:=R8.len;omega,?_⟩;refine hB _ _ ⟨_,_,rfl,fun b o h=>?_,?_⟩
     ·rw[au (na b o h)];exact s2 _ _ (sa _ _ h)
     ·rw[ag,nx,ai,Jx];rfl
    ·rintro δ M' ⟨C,I,rfl,sa,N⟩;dsimp only at N;rw[show(J.map D.ref).length=os.length by rw[J4,R8.len],eA]at N;refine⟨_,rfl,_,N,(by unfold Px;exact List.cons_ne_nil _ _),fun b hb mn=>⟨_,rfl,?_⟩⟩;have V:=SD.Sub.trans s9 sa;refine hu _ _ ⟨b.2,_,rfl,rfl,SD.Sub.trans s8 V,V _ _ f2,fun g X L il=>?_⟩;obtain⟨q1,q2⟩:=n1 L il;have lg:=q2 r n o g X;have lf:=q2 r n o f0 (gY hU hF f1 Rf);have Ls:=tV hU hF G q1 q2 n o f1 Rf lf;rw[k2]at Ls lg;rw[lg,Bh hU (fun S hS=>(hO S hS).2) (fun S _=>x0 S) Ls hb mn]
  rintro δ b0 ⟨a,T,rfl,hT,w1,n0,La⟩;refine⟨_,rfl,_,w1 _ _ mr,fun i δ M3=>Qw fun(F':rv) (T:rr)=>S1 (δ=MA (.ref l)::MA (.ref lr)::MA (.ref x)::MA (.ref z)::MA (.ref p)::MA (.int a)::T) (T.length=7) (SD.Sub Z M3) (M3 z=MA (.lst F')) (F'.length=2*ws.length) (∀g,g<2*ws.length->F'[g]?=if g∈r.take i then MA (.int a)else F[g]?),⟨F,_,rfl,hT,w1,n0,Fl,fun g _=>by rw[ME (by simp)]⟩,(fun i δ M3 _ q=>by obtain⟨_,_,_,_,q,_⟩:=q;exact q _ _ mr),?_,?_⟩
  ·rintro i d δ M3 hi hd ⟨F',T,rfl,hT,c1,d1,g1,d0⟩;refine IC hT fun o6 o7 o8 o9 C I h0=>?_;have hd:(r.map ry)[i]?=MA d:=hd;rw[J6]at hd;cases eg:r[i]? with
   |none=>rw[eg]at hd;cases hd
   |some g=>
    rw[eg]at hd
    cases hd
    have gl:=A.lt g (J8 eg)
    refine⟨_,rfl,_,rfl,_,rfl,_,g,d1,(by unfold ixN;rw[MI (),L9,MI ()]),?_⟩
    refine⟨F'.set g (.int a),_,rfl,rfl,(fun b o h=>by rw[au (nz b o h)];exact c1 _ _ h),ag,(by rw[List.length_set];exact g1),fun h hh=>?_⟩
    rw[List.getElem?_set,Kx,eg]
    by_cases e:g=h
    ·subst e;rw[MI rfl,MI (),MI (Jw _ (by simp))]
    ·rw[ME e,d0 h hh];by_cases m:h∈r.take i
     ·rw[MI m,MI (Kt _ m)]
     ·rw[ME m,ME fun y=>(JE.mp y).elim m fun y=>e (Eq.symm ‹y›)]
  ·rintro δ M3 ⟨F',T,rfl,hT,c1,d1,g1,d0⟩;refine hB _ _ ⟨F',_,rfl,congrArg (·+2) hT,c1,d1,g1,fun g X=>?_⟩
   have d0:∀g,g<2*ws.length->F'[g]?=if g∈r then MA (.int a)else F[g]?:=fun g X=>by
    have:=d0 g X
    rwa [show r.take (r.map ry).length=r by rw[J4,Lo]]at this
   obtain⟨r',x1,X⟩:=X;rw[Kx,er]at x1;rcases JE.mp x1 with h|h
   ·have gl:g<2*ws.length:=(Y r' (List.mem_of_mem_take h)).lt g X;rw[d0 g gl];by_cases m:g∈r
    ·rw[MI m];exact⟨a,rfl,La g m⟩
    ·rw[ME m];exact FF g ⟨r',h,X⟩
   ·have e:r'=r:=‹h›
    subst e;rw[d0 g (A.lt g X),MI X];exact⟨a,rfl,La g X⟩
 ·rintro δ M' ⟨F,T,rfl,hT,O,l0,Fl,FF⟩
  obtain⟨L,rfl,al⟩:=wA Fl fun g X=>FF g (by
   obtain⟨r,n,m⟩:=ib G g X
   refine⟨r,?_,m⟩
   show r∈u.take (ps.map D.ref).length
   rw[J4,pl,Lo];exact n)
  refine⟨_,rfl,_,rfl,NL rfl,NZ (k M' z x qs u L (SD.Sub.trans k1 O) a2 l0 (by rw[J4]at Fl;exact Fl) al (O _ _ a0) G (g0.mono fun p _ o h=>O _ _ h))⟩
theorem gb:NJ ["plot","face","first","second"] ["plot","face"] (ay km):=⋯
inductive Oj:Prop
 |mk (t b X Y:Int) (ws:ro) (f:Nat) (_:sj=.tup (ws.map (NP t b X Y))) (_:sm=.int (f:Int)) (_:f<2*ws.length) (_:ws.length<=1000) (_:Q (NP t b X Y (fw ws f)) M)
theorem cF(T:Tx K mg):Cal P w K mg base 1 "face_ends" (Nk Oj):=by
 refine bU (k:=0) T.eL gb fun f _ _ _ s H _ e=>⟨_,(aq (cu (aB (dv 0) (aC fm (dv 1) ao)) (bM rfl (aF (aE 2 gb.nd) (aF (aE 3 gb.nd) bj)))) (av (aH (j8 (aL (cQ e.units) (aC ft (dv 1) ao) ao) (aI (ae (dv 2) (ae (dv 3) ak))) (aI (ae (dv 3) (ae (dv 2) ak))))))),fun _ _ M Q h=>?_⟩;obtain⟨t,b,X,Y,ws,f,rfl,rfl,hf,c,k⟩:=h;obtain⟨d,j,l⟩:=bz (ws:=ws) (k:=((f/2:Nat):Int)) () ();have g:(f:Int).fdiv 2=((f/2:Nat):Int):=by rw[Ke _ ⋯];omega
 have i:(f:Int).fmod 2=((f%2:Nat):Int):=by rw[Lu _ ⋯];omega
 have a:atI (ws.map (NP t b X Y)) ((f:Int).fdiv 2)=MA (NP t b X Y (NU ws ((f/2:Nat):Int))):=by rw[g];refine bH ?_;rw[L9]at d;rw[J6,d];rfl
 refine⟨_,rfl,_,rfl,⟨⋯,bS ⋯⟩,_,a,?_⟩;refine⟨_,rfl,rfl,_,_,rfl,_,_,rfl,rfl,?_⟩;refine⟨_,rfl,(show(2:Int)≠0 by decide),_,rfl,?_⟩;dsimp only;rw[i];refine bQ (fun h=>?_) (fun h=>?_)
 ·have h:f%2=0:=by have:((f%2:Nat):Int)=0:=‹h›
                   omega
  refine⟨_,rfl,_,rfl,NL rfl,NZ ?_⟩;unfold fw at k;rw[MI h]at k;exact k
 ·have h:¬f%2=0:=fun z=>by rw[z]at h;simp at h
  refine⟨_,rfl,_,rfl,NL rfl,NZ ?_⟩;unfold fw at k;rw[ME h]at k;exact k
theorem dq:NJ ["plot","leaving","face"] ["plot"] (ay fH):=⋯
def RB(t b X Y:Int)(p:Vc):N4:=((MX t b X 1 p.1).num,((MX t b X 1 p.1).den:Int),(MX t b Y 1 p.2).num,((MX t b Y 1 p.2).den:Int))
theorem uH{t b X Y:Int}(a:0<t)(c:0<b){p q:Vc}(h:RB t b X Y p=RB t b X Y q):p=q:=by unfold RB at h;injection h with d h;injection h with e h;injection h with f g;have e1:MX t b X 1 p.1=MX t b X 1 q.1:=Rat.ext d (by exact_mod_cast e);have e2:MX t b Y 1 p.2=MX t b Y 1 q.2:=Rat.ext f (by exact_mod_cast g);have i:=(NC a c ⋯ ⋯).mp e1;have j:=(NC a c ⋯ ⋯).mp e2;exact Prod.ext () ()
def OJ(ws:ro)(i:Nat)(p:Vc):pq:=((Jp i).filter fun g=>decide (fa ws g=p)).map fun g:Nat=>(g:Int)
theorem qw(ws:ro)(i:Nat)(p:Vc):OJ ws (i+1) p=OJ ws i p++(if fa ws i=p then[(i:Int)]else[]):=by
 unfold OJ;rw[KJ,List.filter_append,Jx];by_cases h:fa ws i=p
 ·simp[h]
 ·simp[h]
theorem A6(ws:ro)(i:Nat)(p:Vc):(OJ ws i p).length<=i:=by unfold OJ;rw[J4];have:=KI (fun g=>decide (fa ws g=p)) (Jp i);simpa using this
theorem y6{kvs:OA}{k:N4}(d:D)(h:d4 kvs k=MB)(j:N4):d4 (putD kvs k d) j=if j=k then MA d else d4 kvs j:=by
 have a:(kvs.any fun x=>decide (x.1=k))=MD:=by unfold d4 at h;rw[Option.map_eq_none_iff,List.find?_eq_none]at h;rw[List.any_eq_false];exact h
 unfold putD;rw[ME (by rw[a];decide)];unfold d4 at *;rw[List.find?_append];by_cases e:j=k
 ·subst e;rw[MI rfl];rw[Option.map_eq_none_iff]at h;rw[h];simp
 ·rw[ME e];have:¬k=j:=fun z=>e z.symm;cases kvs.find? fun x=>decide (x.1=j)<;>simp[this]
structure Rn(t b X Y:Int)(ws:ro)(i:Nat)(M M':MH)(ld:n_)(kvs:OA)(L:Vc->n_):Prop where
 d:M' ld=MA (OU kvs)
 some:∀p,OJ ws i p≠[]->d4 kvs (RB t b X Y p)=.some (.ref (L p))/\M' (L p)=.some (.lst ((OJ ws i p).map D.int))/\L p≠ld/\M (L p)=MB
 none:∀p,OJ ws i p=[]->d4 kvs (RB t b X Y p)=.none
 inj:∀p q,OJ ws i p≠[]->OJ ws i q≠[]->L p=L q->p=q
inductive Nz:Prop
 |mk (t b X Y:Int) (ws:ro) (_:sj=.tup (ws.map (NP t b X Y))) (_:OG t b X Y) (_:ws.length<=40) (_:∀(M':MH) (ld:n_) (kvs:OA) (L:Vc->n_),SD.Sub M M'->Rn t b X Y ws (2*ws.length) M M' ld kvs L->Q (.ref ld) M')
theorem j4(T:Tx K mg):Cal P w K mg base 2 "faces_by_start" (P6 Nz):=by
 refine eM (k:=1) T.eT dq fun f _ _ _ s H _ hr=>⟨_,(aq (aD 1 dq.nd x9) (aq (dm Ju rfl rfl T.mT (ae (aC aU ao (aN cS rfl T.mu cU (ae (dv 0) ak))) ak) (aE 2 dq.nd) (av (bI (aX (Bz (iY hr) (dv 1) (ae (aB (aw (cF T).m hr (ae (dv 0) (ae (dv 2) ak))) ao) (ae (aY ak) ak))) (ae (dv 2) ak))))) (av (aH (dv 1))))),fun _ M Q h=>?_⟩;obtain⟨t,b,X,Y,ws,rfl,S,a0,k⟩:=h;have R:(ws.map (NP t b X Y)).length=ws.length:=by simp
 refine fun ld J=>?_;refine⟨_,rfl,bC (bS ⋯),2*ws.length,(by rw[R];simp),(),?_⟩;refine⟨fun i δ l=>Pz fun(kvs:OA) (L:Vc->n_) (U:rx)=>SF (δ=[MA (.tup (ws.map (NP t b X Y))),MA (.ref ld),U]) (SD.Sub M l) (kvs.length<=i) (Rn t b X Y ws i M l ld kvs L),?_,?_,?_⟩
 ·exact⟨[],fun _=>0,_,rfl,.new J .refl,J9 _,ag,fun p h=>absurd rfl h,fun p _=>rfl,fun p q h=>absurd rfl h⟩
 ·rintro i δ l hi ⟨kvs,L,U,rfl,N,hk,V⟩;have W:∀{q:n_} {o},l q=MB->(az l q o) ld=MA (OU kvs):=fun u=>by rw[au (aA V.d u)];exact V.d
  have c:∀p,fa ws i≠p->OJ ws (i+1) p=OJ ws i p:=fun p h=>by rw[qw,ME h,K8]
  have r:OJ ws (i+1) (fa ws i)=OJ ws i (fa ws i)++[(i:Int)]:=by rw[qw,MI rfl]
  have ll:=A6 ws i (fa ws i);refine⟨_,rfl,ld,kvs,rfl,V.d,_,rfl,_,rfl,t,b,X,Y,ws,i,rfl,rfl,hi,(),_,rfl,NL rfl,fun q u=>?_⟩;refine⟨kvs,RB t b X Y (fa ws i),.ref q,rfl,W u,(),fun d' hd=>?_,fun hn=>?_⟩
  ·have ne:OJ ws i (fa ws i)≠[]:=fun z=>by rw[V.none _ z]at hd;cases hd
   obtain⟨v1,v2,v3,v4⟩:=V.some _ ne;rw[v1]at hd;cases hd;have Z:∀{a o},l a=MA o->(az l q (.lst [])) a=MA o:=fun h=>by rw[au (aA h u)];exact h
   refine⟨L (fa ws i),_,rfl,Z v2,_,rfl,_,_,rfl,Z v2,(by rw[J4];omega),?_⟩;have C:∀{a o G},l a=MA o->a≠L (fa ws i)->(az (az l q (.lst [])) (L (fa ws i)) G) a=MA o:=fun h n=>by rw[au n];exact Z h
   refine⟨kvs,L,_,rfl,fun a o h=>C (N _ _ h) (fun z=>by subst z;rw[v4]at h;cases h),(),C V.d v3.symm,fun p h=>?_,fun p h=>?_,fun p v h F e=>?_⟩
   ·by_cases z:fa ws i=p
    ·subst z;refine⟨v1,?_,v3,v4⟩;rw[ag,r,Jx];rfl
    ·rw[c p z]at h ⊢;obtain⟨u1,u2,O,u4⟩:=V.some p h;exact⟨u1,C u2 (fun y=>z (V.inj _ _ ne h y.symm)),O,u4⟩
   ·by_cases z:fa ws i=p
    ·subst z;rw[r]at h;simp at h
    ·rw[c p z]at h;exact V.none p h
   ·have g:∀p,OJ ws (i+1) p≠[]->OJ ws i p≠[]:=fun p h=>by
     by_cases z:fa ws i=p
     ·subst z;exact ne
     ·rw[c p z]at h;exact h
    exact V.inj p v (g p h) (g v F) e
  ·have em:OJ ws i (fa ws i)=[]:=by
    cases z:OJ ws i (fa ws i)with
    |nil=>rfl
    |cons x xs=>
     have:=(V.some _ (by rw[z];simp)).1
     rw[hn]at this;cases this
   have B:q≠ld:=(aA V.d u).symm;have cq:(az (az l q (.lst [])) ld (OU (putD kvs (RB t b X Y (fa ws i)) (.ref q)))) q=MA (.lst []):=by rw[au B,ag]
   refine⟨q,[],rfl,cq,_,rfl,_,_,rfl,cq,⋯,?_⟩;have C:∀{a o D' G},l a=MA o->a≠ld->(az (az (az l q (.lst [])) ld D') q G) a=MA o:=fun h n=>by rw[au (aA h u),au n,au (aA h u)];exact h
   have mq:M q=MB:=by
    cases z:M q with
    |none=>rfl
    |some o=>rw[N _ _ z]at u;cases u
   have vn:=fun j=>y6 (.ref q) hn j;refine⟨putD kvs (RB t b X Y (fa ws i)) (.ref q),fun p=>if fa ws i=p then q else L p,_,rfl,fun a o h=>C (N _ _ h) (fun z=>by subst z;rw[J]at h;cases h),?_,(by rw[au B.symm,ag]),fun p h=>?_,fun p h=>?_,fun p v h F e=>?_⟩
   ·have:(putD kvs (RB t b X Y (fa ws i)) (.ref q)).length<=kvs.length+1:=by
     unfold putD;split
     ·rw[J4];omega
     ·simp
    omega
   ·by_cases z:fa ws i=p
    ·subst z;refine⟨by rw[vn,MI rfl,MI rfl],?_,by rw[MI rfl];exact B,by rw[MI rfl];exact mq⟩;rw[MI rfl,ag,r,em];rfl
    ·rw[c p z]at h ⊢;obtain⟨u1,u2,O,u4⟩:=V.some p h;rw[ME z];exact⟨by rw[vn,ME (fun y=>z (uH S.t0 S.b0 y).symm)];exact u1,C u2 O,O,u4⟩
   ·by_cases z:fa ws i=p
    ·subst z;rw[r]at h;simp at h
    ·rw[c p z]at h;rw[vn,ME (fun y=>z (uH S.t0 S.b0 y).symm)];exact V.none p h
   ·by_cases z:fa ws i=p<;>by_cases I:fa ws i=v
    ·rw[<-z,<-I]
    ·rw[c v I]at F;rw[MI z,ME I]at e;have:=(V.some v F).2.1;rw[<-e,u]at this;cases this
    ·rw[c p z]at h;rw[ME z,MI I]at e;have:=(V.some p h).2.1;rw[e,u]at this;cases this
    ·rw[c p z]at h;rw[c v I]at F;rw[ME z,ME I]at e;exact V.inj p v h F e
 ·rintro δ l ⟨kvs,L,U,rfl,N,hk,V⟩;exact⟨_,rfl,⟨l,.refl,k l ld kvs L N V⟩⟩
theorem Fc:NJ ["one","other"] ["one","other"] (ay Ce):=⋯
inductive SE:Prop
 |mk (t1 b1 t2 b2:Int) (_:sj=.tup [.int t1,.int b1]) (_:sm=.tup [.int t2,.int b2]) (_:Bd 1000000 t1) (_:Bd 1000000 b1) (_:Bd 1000000 t2) (_:Bd 1000000 b2) (_:Q (.tup [.int (t1*b2-t2*b1),.int (b1*b2)]) M)
theorem rG(T:Tx K mg):Cal P w K mg base 1 "gap" (Nk SE):=by refine bU (k:=0) T.e_ Fc fun f _ _ _ s H _ e=>⟨_,(av (aH (aI (ae (aC dF (aC aU (aB (dv 0) ao) (aB (dv 1) ao)) (aC aU (aB (dv 1) ao) (aB (dv 0) ao))) (ae (aC aU (aB (dv 0) ao) (aB (dv 1) ao)) ak))))),fun _ _ M Q h=>?_⟩;obtain⟨t1,b1,g,i,rfl,rfl,c,a,d,b,k⟩:=h;refine⟨_,rfl,_,rfl,_,rfl,_,rfl,fj c b,_,rfl,_,rfl,_,rfl,_,rfl,fj d a,trivial,?_⟩;exact⟨_,rfl,_,rfl,_,rfl,_,rfl,fj a b,NL rfl,NZ k⟩
theorem dX:NJ ["wall","spot","a","b","c","d","x","y","across","up","along","high"] ["wall","spot"] (ay yk):=⋯
inductive RV:Prop
 |mk (n:Nat) (a b c d x y:Rat) (_:sj=MW a b c d) (_:sm=NF x y) (_:MY n a) (_:MY n b) (_:MY n c) (_:MY n d) (_:MY n x) (_:MY n y) (_:n<=20000) (_:∀t e:Int,0<e->Rat.divInt t e=Mz a b c d x y->Bd (8*n+3) t->Bd (8*n+3) e->Q (.tup [.int t,.int e]) M)
theorem EL(T:Tx K mg):Cal P w K mg base 2 "lean" (Nk RV):=by
 refine bU (k:=1) T.fC dX fun f _ _ _ s H _ o=>⟨_,(aq (cu (dv 0) (bM rfl (aF (bM rfl (aF (aE 2 dX.nd) (aF (aE 3 dX.nd) bj))) (aF (bM rfl (aF (aE 4 dX.nd) (aF (aE 5 dX.nd) bj))) bj)))) (aq (cu (dv 1) (bM rfl (aF (aE 6 dX.nd) (aF (aE 7 dX.nd) bj)))) (aq (gg 8 9 rfl dX.nd (ae (aw (rG T).m o (ae (dv 4) (ae (dv 2) ak))) (ae (aw (rG T).m o (ae (dv 5) (ae (dv 3) ak))) ak))) (aq (gg 10 11 rfl dX.nd (ae (aw (rG T).m o (ae (dv 6) (ae (dv 2) ak))) (ae (aw (rG T).m o (ae (dv 7) (ae (dv 3) ak))) ak))) (av (aH (aw (rG T).m o (ae (aI (ae (aC aU (aB (dv 8) ao) (aB (dv 11) ao)) (ae (aC aU (aB (dv 8) ao) (aB (dv 11) ao)) ak))) (ae (aI (ae (aC aU (aB (dv 9) ao) (aB (dv 10) ao)) (ae (aC aU (aB (dv 9) ao) (aB (dv 10) ao)) ak))) ak))))))))),fun _ _ M Q h=>?_⟩;obtain⟨n,a,b,c,d,x,y,rfl,rfl,g,j,p,hd,t,u,G,k⟩:=h;have e:∀{m:Nat} {i:Int},Bd m i->m<=1000000->Bd 1000000 i:=fun z l=>z.mono l;have B:=p.vt g;have C:=hd.vt j;have D:=t.vt g;have F:=u.vt j;have e1:=p.2.mul g.2;have e2:=hd.2.mul j.2;have e3:=t.2.mul g.2;have e4:=u.2.mul j.2;refine⟨_,rfl,_,rfl,rfl,_,_,rfl,⟨_,rfl,rfl,_,_,rfl,_,_,rfl,rfl,?_⟩⟩;refine⟨_,_,rfl,⟨_,rfl,rfl,_,_,rfl,_,_,rfl,rfl,?_⟩⟩;refine⟨rfl,_,rfl,_,rfl,rfl,_,_,rfl,_,_,rfl,rfl,?_⟩;refine⟨_,rfl,_,rfl,_,_,_,_,rfl,rfl,e p.1 (),e p.2 (),e g.1 (),e g.2 (),?_⟩;refine⟨_,rfl,_,rfl,_,_,_,_,rfl,rfl,e hd.1 (),e hd.2 (),e j.1 (),e j.2 (),?_⟩;refine⟨_,_,rfl,?_⟩;refine⟨_,rfl,_,rfl,_,_,_,_,rfl,rfl,e t.1 (),e t.2 (),e g.1 (),e g.2 (),?_⟩;refine⟨_,rfl,_,rfl,_,_,_,_,rfl,rfl,e u.1 (),e u.2 (),e j.1 (),e j.2 (),?_⟩;refine⟨_,_,rfl,?_⟩;refine⟨_,rfl,_,rfl,_,rfl,_,rfl,fj (e B ()) (e F ()),?_⟩;refine⟨_,rfl,_,rfl,_,rfl,_,rfl,fj (e e1 ()) (e e4 ()),NL rfl,?_⟩;refine⟨_,rfl,_,rfl,_,rfl,_,rfl,fj (e C ()) (e D ()),?_⟩;refine⟨_,rfl,_,rfl,_,rfl,_,rfl,fj (e e2 ()) (e e3 ()),NL rfl,?_⟩;refine⟨_,_,_,_,rfl,rfl,e (B.mul F) (),e (e1.mul e4) (),e (C.mul D) (),e (e2.mul e3) (),?_⟩;have v:∀q r:Rat,0<(q.den:Int)*(r.den:Int):=fun q r=>JW (NH q) (NH r);refine NZ (k _ _ (JW (JW (v c a) (v y b)) (JW (v d b) (v x a))) (Ma.Ar a b c d x y) ?_ ?_)
 ·exact((((B.mul F).mul (e2.mul e3)).mono (():_<=8*n+2)).sub (((C.mul D).mul (e1.mul e4)).mono (():_<=8*n+2)))
 ·exact((e1.mul e4).mul (e2.mul e3)).mono ()
theorem m4:NJ ["wall","spot","top"] ["wall","spot"] (ay oz):=⋯
inductive Ph:Prop
 |mk (n:Nat) (a b c d x y:Rat) (_:sj=MW a b c d) (_:sm=NF x y) (_:MY n a) (_:MY n b) (_:MY n c) (_:MY n d) (_:MY n x) (_:MY n y) (_:n<=1900) (_:Q (.int (NA (Mz a b c d x y))) M)
theorem d6(T:Tx K mg):Cal P w K mg base 3 "side_of" (Nk Ph):=by
 refine bU (k:=2) T.f_ m4 fun f _ _ _ s H _ g=>⟨_,(aq (aD 2 m4.nd (aB (aw (EL T).m g (ae (dv 0) (ae (dv 1) ak))) ao)) (aq (bF (aL (gh g.units) (dv 2) ao) (av (aH ao)) aS) (aq (bF (aL (dQ g.units) (dv 2) ao) (av (aH (ko eZ ao))) aS) (av (aH ao))))),fun _ _ M Q h=>?_⟩;obtain⟨n,a,b,c,d,x,y,rfl,rfl,j,l,o,hd,p,q,u,k⟩:=h;refine⟨_,rfl,_,rfl,n,a,b,c,d,x,y,rfl,rfl,j,l,o,hd,p,q,(),fun t e r i _ _=>⟨_,rfl,?_⟩⟩;rw[<-i,Ma.Bk r]at k;refine⟨_,rfl,trivial,_,rfl,?_⟩;refine bQ (fun h=>?_) (fun h=>?_)
 ·rw[MI ‹h›]at k;exact NZ k
 rw[ME ‹h›]at k;refine⟨_,rfl,trivial,_,rfl,?_⟩;refine bQ (fun h=>?_) (fun h=>?_)
 ·rw[MI ‹h›]at k;exact NZ k
 ·rw[ME ‹h›]at k;exact NZ k
theorem dA:NJ ["corner","came_from","one","other","turn","other_turn"] ["corner","came_from","one","other"] (ay gr):=⋯
inductive OC:Prop
 |mk (t b X Y:Int) (c p q r:Vc) (_:sj=NF (MX t b X 1 c.1) (MX t b Y 1 c.2)) (_:sm=NF (MX t b X 1 p.1) (MX t b Y 1 p.2)) (_:sv=NF (MX t b X 1 q.1) (MX t b Y 1 q.2)) (_:s_=NF (MX t b X 1 r.1) (MX t b Y 1 r.2)) (_:OG t b X Y) (_:(0<=c.1/\c.1<=20)) (_:(0<=c.2/\c.2<=20)) (_:(0<=p.1/\p.1<=20)) (_:(0<=p.2/\p.2<=20)) (_:(0<=q.1/\q.1<=20)) (_:(0<=q.2/\q.2<=20)) (_:(0<=r.1/\r.1<=20)) (_:(0<=r.2/\r.2<=20)) (_:Q (.bl (O8 (p.1-c.1,p.2-c.2) (q.1-c.1,q.2-c.2) (r.1-c.1,r.2-c.2))) M)
theorem kL(T:Tx K mg):Cal P w K mg base 4 "is_met_sooner" (YI OC):=by
 refine Hz (k:=3) T.gp dA fun f _ _ _ s H _ a=>⟨_,(aq (aD 4 dA.nd (aw (d6 T).m a (ae (aI (ae (dv 0) (ae (dv 1) ak))) (ae (dv 2) ak)))) (aq (aD 5 dA.nd (aw (d6 T).m a (ae (aI (ae (dv 0) (ae (dv 1) ak))) (ae (dv 3) ak)))) (aq (bF (aL (fh a.units) (dv 4) (dv 5)) (av (aH (cg (dQ a.units) (dv 4) (dv 5)))) aS) (av (aH (cg (cQ a.units) (aw (d6 T).m a (ae (aI (ae (dv 0) (ae (dv 2) ak))) (ae (dv 3) ak))) (ko eZ ao))))))),fun _ _ _ _ M Q h=>?_⟩;obtain⟨t,b,X,Y,c,p,q,r,rfl,rfl,rfl,rfl,S,d,g,i,j,l,n,o,u,k⟩:=h;have one:(0:Int)<1/\(1:Int)<=10^6:=⋯
 have v:∀{z:Int},(0<=z/\z<=20)->(-(10^6)<=z/\z<=10^6):=fun{z} h=>()
 have bx:∀{z:Int},(0<=z/\z<=20)->MY 200 (MX t b X 1 z):=fun{z} h=>S.bx one (v h);have by':∀{z:Int},(0<=z/\z<=20)->MY 200 (MX t b Y 1 z):=fun{z} h=>S.by' one (v h)
 have e1:=jP (X:=X) (Y:=Y) S.t0 S.b0 (c.1,c.2,p.1,p.2) q.1 q.2;have e2:=jP (X:=X) (Y:=Y) S.t0 S.b0 (c.1,c.2,p.1,p.2) r.1 r.2;have e3:=jP (X:=X) (Y:=Y) S.t0 S.b0 (c.1,c.2,q.1,q.2) r.1 r.2;have x:sd (c.1,c.2,p.1,p.2) q.1 q.2=vc (p.1-c.1,p.2-c.2) (q.1-c.1,q.2-c.2):=rfl;have y:sd (c.1,c.2,p.1,p.2) r.1 r.2=vc (p.1-c.1,p.2-c.2) (r.1-c.1,r.2-c.2):=rfl;have B:sd (c.1,c.2,q.1,q.2) r.1 r.2=vc (q.1-c.1,q.2-c.2) (r.1-c.1,r.2-c.2):=rfl;rw[x]at e1;rw[y]at e2;rw[B]at e3;dsimp only at e1 e2 e3;refine⟨_,rfl,_,rfl,NL rfl,_,rfl,200,_,_,_,_,_,_,rfl,rfl,bx d,by' g,bx i,by' j,bx l,by' n,⋯,?_⟩;rw[e1];refine⟨_,rfl,_,rfl,NL rfl,_,rfl,200,_,_,_,_,_,_,rfl,rfl,bx d,by' g,bx i,by' j,bx o,by' u,⋯,?_⟩;rw[e2];refine⟨_,rfl,_,rfl,_,rfl,?_⟩;unfold O8 at k;refine bQ (fun h=>?_) (fun h=>?_)
 ·have ne:¬JG (vc (p.1-c.1,p.2-c.2) (q.1-c.1,q.2-c.2))=JG (vc (p.1-c.1,p.2-c.2) (r.1-c.1,r.2-c.2)):=fun z=>by rw[z]at h;simp at h
  rw[ME ne]at k;exact⟨_,rfl,_,rfl,trivial,NZ k⟩
 ·have eq:JG (vc (p.1-c.1,p.2-c.2) (q.1-c.1,q.2-c.2))=JG (vc (p.1-c.1,p.2-c.2) (r.1-c.1,r.2-c.2)):=‹h›
  rw[MI eq]at k;refine⟨_,rfl,_,rfl,NL rfl,_,rfl,200,_,_,_,_,_,_,rfl,rfl,bx d,by' g,bx l,by' n,bx o,by' u,⋯,?_⟩;rw[e3];have e:decide (vc (q.1-c.1,q.2-c.2) (r.1-c.1,r.2-c.2)<0)=decide (JG (vc (q.1-c.1,q.2-c.2) (r.1-c.1,r.2-c.2))=-1):=by rw[MM];rcases fV (vc (q.1-c.1,q.2-c.2) (r.1-c.1,r.2-c.2))with z|z|z<;>omega
  rw[e]at k;exact NZ k
theorem bO:NJ ["plot","leaving","face","came_from","corner","back","best","rival"] ["plot","leaving","face"] (ay iq):=⋯
def eN(ws:ro)(f j:Nat):Option Nat:=((((Jp (2*ws.length)).filter fun g=>decide (fa ws g=fb ws f)).take j).filter fun g=>decide (g≠fx f)).foldl (bZ (Nj ws f)) MB
theorem nO(R:Nat->Nat->Bool):∀(l:pe) (o:Option Nat) {h:Nat},l.foldl (bZ R) o=MA h->h∈l\/o=MA h
 |[],o,h,e=>.inr e
 |g::l,o,h,e=>by
  rw[LQ]at e
  rcases nO R l _ e with z|z
  ·exact .inl (by simp[z])
  ·cases o with
   |none=>cases z;exact .inl (by simp)
   |some k=>
    unfold bZ at z
    dsimp only at z
    by_cases r:R g k=MC
    ·rw[MI r]at z;cases z;exact .inl (by simp)
    ·rw[ME r]at z;exact .inr z
theorem t7(ws:ro)(f j:Nat)(h:((Jp (2*ws.length)).filter fun g=>decide (fa ws g=fb ws f)).length<=j):eN ws f j=(cW ws f).foldl (bZ (Nj ws f)) MB:=by
 unfold eN cW jz;rw[Kw h,List.filter_filter]
 congr 1
 apply List.filter_congr;intro x _;rw[Bool.and_comm]
theorem sF{ws:ro}{f j h:Nat}(e:eN ws f j=MA h):h∈cW ws f:=by
 unfold eN at e;rcases nO _ _ _ e with z|z
 ·have a:=Jr.mp z;have b:=Jr.mp (List.mem_of_mem_take a.1);exact bE.mpr ⟨‹b.1›,‹b.2›,‹a.2›⟩
 ·cases z
inductive OR:Prop
 |mk (t b X Y:Int) (ws:ro) (M0:MH) (ld:n_) (kvs:OA) (L:Vc->n_) (f:Nat) (_:sj=.tup (ws.map (NP t b X Y))) (_:sm=.ref ld) (_:sv=.int (f:Int)) (_:OG t b X Y) (_:ws.length<=40) (_:(∀sv∈ws,NM sv)) (_:f<2*ws.length) (_:Rn t b X Y ws (2*ws.length) M0 M ld kvs L) (_:Q (.int (bh ws f:Int)) M)
theorem iH(T:Tx K mg):Cal P w K mg base 5 "face_behind" (RZ OR):=by
 refine lG (k:=4) T.gq bO fun f _ _ _ s H _ r=>⟨_,(aq (cu (aw (cF T).m r (ae (dv 0) (ae (dv 2) ak))) (bM rfl (aF (aE 3 bO.nd) (aF (aE 4 bO.nd) bj)))) (aq (aD 5 bO.nd (aC CV (dv 2) ao)) (aq (aD 6 bO.nd (dv 5)) (aq (bV Ju rfl (aT (qq (iY r) (dv 1) (dv 4) (by intro _ _;with_unfolding_all rfl))) (aE 7 bO.nd) (av (bF (mz (gG (aL (fh r.units) (dv 7) (dv 5)) (eV (mz (uf (aL (cQ r.units) (dv 6) (dv 5)) (tF (dC (aw (kL T).m r (ae (dv 4) (ae (dv 3) (ae (aB (aw (cF T).m r (ae (dv 0) (ae (dv 7) ak))) ao) (ae (aB (aw (cF T).m r (ae (dv 0) (ae (dv 6) ak))) ao) ak)))))))))))) (av (aD 6 bO.nd (dv 7))) aS))) (av (aH (dv 6))))))),fun _ _ _ M Q h=>?_⟩;obtain⟨t,b,X,Y,ws,M0,ld,kvs,L,f,rfl,rfl,rfl,S,I,U,hf,V,k⟩:=h;have exf:Builtin.bitXor (f:Int) 1=((fx f:Nat):Int):=DN f ()
 have n:∀g:Nat,g<2*ws.length->((0<=(fa ws g).1/\(fa ws g).1<=20)/\(0<=(fa ws g).2/\(fa ws g).2<=20))/\((0<=(fb ws g).1/\(fb ws g).1<=20)/\(0<=(fb ws g).2/\(fb ws g).2<=20)):=fun g x=>by
  obtain⟨_,_,Z⟩:=bz (ws:=ws) (k:=((g/2:Nat):Int)) () ()
  have W:=U _ Z
  unfold fa fb fw
  by_cases h:g%2=0
  ·rw[MI h];exact⟨⟨W.a,W.b⟩,W.c,W.d⟩
  ·rw[ME h];exact⟨⟨W.c,W.d⟩,W.a,W.b⟩
 have ne:OJ ws (2*ws.length) (fb ws f)≠[]:=by
  unfold OJ
  have:fx f∈(Jp (2*ws.length)).filter fun g=>decide (fa ws g=fb ws f):=Jr.mpr ⟨JK.mpr (iC hf),‹eB ws f›⟩
  intro z
  rw[List.map_eq_nil_iff]at z
  rw[z]at this
  cases this
 obtain⟨v1,J,v3,v4⟩:=V.some _ ne;refine⟨_,rfl,_,rfl,t,b,X,Y,ws,f,rfl,rfl,hf,(),?_⟩;refine⟨_,rfl,rfl,_,_,rfl,_,_,rfl,rfl,?_⟩;refine⟨_,rfl,trivial,?_⟩;dsimp only;rw[exf];refine⟨_,rfl,?_⟩;refine⟨_,rfl,_,rfl,ld,kvs,RB t b X Y (fb ws f),_,rfl,rfl,V.d,v1,(OJ ws (2*ws.length) (fb ws f)).map D.int,J,?_⟩;refine⟨fun j δ y=>y=M/\∃C,δ=[MA (.tup (ws.map (NP t b X Y))),MA (.ref ld),MA (.int (f:Int)),MA (NF (MX t b X 1 (fw ws f).1) (MX t b Y 1 (fw ws f).2.1)),MA (NF (MX t b X 1 (fw ws f).2.2.1) (MX t b Y 1 (fw ws f).2.2.2)),MA (.int ((fx f:Nat):Int)),MA (.int (((eN ws f j).getD (fx f):Nat):Int)),C],⟨rfl,_,rfl⟩,fun j δ y _ z=>by obtain⟨rfl,_⟩:=z;exact J,?_,?_⟩
 ·rintro j d δ y hj hd ⟨rfl,C,rfl⟩;have hd:((((Jp (2*ws.length)).filter fun g=>decide (fa ws g=fb ws f)).map fun g:Nat=>(g:Int)).map D.int)[j]?=MA d:=hd;rw[J6,J6]at hd;cases B:((Jp (2*ws.length)).filter fun g=>decide (fa ws g=fb ws f))[j]? with
  |none=>rw[B]at hd;cases hd
  |some g=>
   rw[B]at hd
   cases hd
   have u:=Jr.mp (J8 B)
   have x:g<2*ws.length:=‹u.1›
   have F:fa ws g=fb ws f:=‹u.2›
   have nx:eN ws f (j+1)=if g=fx f then eN ws f j else bZ (Nj ws f) (eN ws f j) g:=by
    unfold eN;rw[Kx,B,Option.toList_some,List.filter_append,List.foldl_append];by_cases z:g=fx f
    ·simp[z]
    ·simp[z]
   have p:∀h,eN ws f j=MA h->h∈cW ws f:=fun h e=>sF e
   generalize eN ws f j=o at nx p ⊢
   by_cases z:g=fx f
   ·(try dsimp only[SD.gP,SD.eD,SD.aR,SD.iG,SD.iF,SD.dG,SD.fu,SD.tBD,SD.iw,SD.EndsD.nxt,SD.EndsD.lp])
    refine xa MD MD (fun K l=>⟨_,rfl,_,rfl,_,rfl,?_⟩) (fun q=>absurd q ⋯) (jn rfl ⟨rfl,MA (.int (g:Int)),?_⟩)
    ·rw[show(!decide ((g:Int)=((fx f:Nat):Int)))=MD by rw[z];simp];exact l
    ·rw[nx,MI z];rfl
   ·rw[ME z]at nx
    have N:(!decide ((g:Int)=((fx f:Nat):Int)))=MC:=by
     have:¬((g:Int)=((fx f:Nat):Int)):=fun q=>z ()
     rw[MJ this];rfl
    cases o with
    |none=>
     (try dsimp only[SD.gP,SD.eD,SD.aR,SD.iG,SD.iF,SD.dG,SD.fu,SD.tBD,SD.iw,SD.EndsD.nxt,SD.EndsD.lp])
     refine xa MC MC (fun K l=>⟨_,rfl,_,rfl,_,rfl,by rw[N];exact l⟩) (fun _ K l=>Vz MC MC (fun O i=>⟨_,rfl,_,rfl,_,rfl,?_⟩) (fun q=>absurd q ⋯) l) (xU rfl ⟨_,rfl,rfl,MA (.int (g:Int)),?_⟩)
     ·rw[show decide ((((MB:Option Nat).getD (fx f):Nat):Int)=((fx f:Nat):Int))=MC by simp];exact i
     ·rw[nx];rfl
    |some h=>
     have v:=bE.mp (p h rfl)
     have d1:fd ws (fx f)=((fa ws f).1-(fb ws f).1,(fa ws f).2-(fb ws f).2):=by unfold fd fa fb;rw[ug];rfl
     have R:∀g,fa ws g=fb ws f->fd ws g=((fb ws g).1-(fb ws f).1,(fb ws g).2-(fb ws f).2):=fun g e=>by rw[<-e];rfl
     have es:Nj ws f g h=O8 ((fa ws f).1-(fb ws f).1,(fa ws f).2-(fb ws f).2) ((fb ws g).1-(fb ws f).1,(fb ws g).2-(fb ws f).2) ((fb ws h).1-(fb ws f).1,(fb ws h).2-(fb ws f).2):=by unfold Nj;rw[d1,R g F,R h v.2.1]
     have G:decide ((((MA h).getD (fx f):Nat):Int)=((fx f:Nat):Int))=MD:=MJ (fun q=>v.2.2 (by have q':((h:Nat):Int)=((fx f:Nat):Int):=q;omega))
     (try dsimp only[SD.gP,SD.eD,SD.aR,SD.iG,SD.iF,SD.dG,SD.fu,SD.tBD,SD.iw,SD.EndsD.nxt,SD.EndsD.lp])
     refine xa MC (MD||Nj ws f g h) (fun K l=>⟨_,rfl,_,rfl,_,rfl,by rw[N];exact l⟩) (fun _ K l=>Vz MD (Nj ws f g h) (fun O i=>⟨_,rfl,_,rfl,_,rfl,by rw[G];exact i⟩) (fun _ O i=>?_) l) ?_
     ·refine⟨_,rfl,_,rfl,_,rfl,_,rfl,t,b,X,Y,ws,g,rfl,rfl,x,(),_,rfl,_,rfl,_,rfl,t,b,X,Y,ws,h,rfl,rfl,v.1,(),_,rfl,t,b,X,Y,fb ws f,fa ws f,fb ws g,fb ws h,rfl,rfl,rfl,rfl,S,(n f hf).2.1,(n f hf).2.2,(n f hf).1.1,(n f hf).1.2,(n g x).2.1,(n g x).2.2,(n h v.1).2.1,(n h v.1).2.2,_,rfl,?_⟩;rw[<-es];exact i
     ·refine bQ (fun q=>?_) (fun q=>?_)
      ·refine⟨_,rfl,rfl,MA (.int (g:Int)),?_⟩;have q:Nj ws f g h=MC:=‹q›
       have e:bZ (Nj ws f) (MA h) g=MA g:=by unfold bZ;simp[q]
       rw[nx,e];rfl
      ·refine⟨rfl,MA (.int (g:Int)),?_⟩;have q:¬Nj ws f g h=MC:=‹q›
       have e:bZ (Nj ws f) (MA h) g=MA h:=by unfold bZ;simp[q]
       rw[nx,e];rfl
 ·rintro δ y ⟨rfl,C,rfl⟩;have e:=t7 ws f ((OJ ws (2*ws.length) (fb ws f)).map D.int).length (by simp[OJ]);dsimp only;rw[e];exact⟨_,rfl,NZ k⟩
theorem dY:NJ ["plot","leaving","face","ring","at"] ["plot","leaving","face"] (ay kr):=⋯
theorem uU{t b X Y:Int}{ws:ro}{i:Nat}{f M:MH}{ld:n_}{kvs:OA}{L:Vc->n_}{p:n_}{o:MO}(V:Rn t b X Y ws i f M ld kvs L)(j:M p=MB):Rn t b X Y ws i f (az M p o) ld kvs L:=⟨by rw[au (aA V.d j)];exact V.d,fun q h=>let⟨a,c,e,g⟩:=V.some q h;⟨a,by rw[au (aA c j)];exact c,e,g⟩,V.none,V.inj⟩
inductive Oc:Prop
 |mk (t b X Y:Int) (ws:ro) (M0:MH) (ld:n_) (kvs:OA) (L:Vc->n_) (f:Nat) (_:sj=.tup (ws.map (NP t b X Y))) (_:sm=.ref ld) (_:sv=.int (f:Int)) (_:OG t b X Y) (_:ws.length<=40) (_:(∀sv∈ws,NM sv)) (_:PF ws) (_:f<2*ws.length) (_:Rn t b X Y ws (2*ws.length) M0 M ld kvs L) (_:∀(p:n_) (kk:Nat),M p=MB->NR ws f kk->bh ws (N9 ws f kk)=f->Q (.ref p) (az M p (.lst ((rn ws f kk).map ry))))
theorem rF(T:Tx K mg):Cal P w K mg base 6 "ring_from" (RZ Oc):=by
 refine lG (k:=5) T.gz dY fun f _ _ _ s H _ l=>⟨_,(aq (aD 3 dY.nd (aY (ae (dv 2) ak))) (aq (aD 4 dY.nd (aw (iH T).m l (ae (dv 0) (ae (dv 1) (ae (dv 2) ak))))) (aq (fL Ju (aL (fh l.units) (dv 4) (dv 2)) (aq (bI (aX (dv 3) (ae (dv 4) ak))) (av (aD 4 dY.nd (aw (iH T).m l (ae (dv 0) (ae (dv 1) (ae (dv 4) ak)))))))) (av (aH (dv 3)))))),fun _ _ _ M Q h=>?_⟩;obtain⟨t,b,X,Y,ws,q,ld,kvs,L,f,rfl,rfl,rfl,S,c,d,hF,hf,V,k⟩:=h;refine⟨_,rfl,NL rfl,fun p n=>?_⟩;refine⟨_,rfl,_,rfl,_,rfl,t,b,X,Y,ws,q,ld,kvs,L,f,rfl,rfl,rfl,S,c,d,hf,uU V n,?_⟩;refine⟨fun m δ i=>∃a,SF (δ=[MA (.tup (ws.map (NP t b X Y))),MA (.ref ld),MA (.int (f:Int)),MA (.ref p),MA (.int ((N9 ws f (a+1):Nat):Int))]) (i=az M p (.lst ((rn ws f a).map ry))) (NR ws f a) (m=2*ws.length-a),⟨_,0,rfl,rfl,vC ws f,rfl⟩,?_⟩;rintro m δ i ⟨a,rfl,rfl,o,rfl⟩;have u:=ox d hF hf o;refine⟨_,rfl,_,rfl,_,rfl,?_⟩;refine bQ (fun h=>?_) (fun h=>?_)
 ·have ne:bh ws (N9 ws f a)≠f:=fun z=>by
   have:N9 ws f (a+1)=f:=z
   rw[this]at h;simp at h
  have j:=uq d hF hf o ne;have r:=ox d hF hf j;refine⟨_,rfl,p,_,rfl,ag,_,rfl,_,_,rfl,ag,(by rw[J4,fv];omega),?_⟩;have e:az (az M p (.lst ((rn ws f a).map ry))) p (.lst (((rn ws f a).map ry)++[.int ((N9 ws f (a+1):Nat):Int)]))=az M p (.lst ((rn ws f (a+1)).map ry)):=by rw[bW,kR,Jx];rfl
  rw[e];refine⟨_,rfl,_,rfl,_,rfl,t,b,X,Y,ws,q,ld,kvs,L,N9 ws f (a+1),rfl,rfl,rfl,S,c,d,cz d hF hf (a+1),uU V n,?_⟩;exact⟨2*ws.length-(a+1),(),a+1,rfl,rfl,j,rfl⟩
 ·have eq:bh ws (N9 ws f a)=f:=by
   have:((N9 ws f (a+1):Nat):Int)=(f:Int):=‹h›
   have e:N9 ws f (a+1)=bh ws (N9 ws f a):=rfl
   omega
  exact⟨_,rfl,⟨_,.refl,k p a n o eq⟩⟩
theorem cH:NJ ["plot","leaving","rings","gone_along","face","ring","part"] ["plot"] (ay lJ):=⋯
theorem BF{t b X Y:Int}{ws:ro}{i:Nat}{f M j:MH}{ld:n_}{kvs:OA}{L:Vc->n_}(V:Rn t b X Y ws i f M ld kvs L)(s:SD.Sub M j):Rn t b X Y ws i f j ld kvs L:=⟨s _ _ V.d,fun q h=>let⟨a,c,e,g⟩:=V.some q h;⟨a,s _ _ c,e,g⟩,V.none,V.inj⟩
theorem lQ{M a:MH}(s:SD.Sub M a){p:n_}(h:a p=MB):M p=MB:=by
 cases z:M p with
 |none=>rfl
 |some o=>rw[s _ _ z]at h;cases h
inductive PJ:Prop
 |mk (t b X Y:Int) (ws:ro) (_:sj=.tup (ws.map (NP t b X Y))) (_:OG t b X Y) (_:ws.length<=40) (_:(∀w∈ws,NM w)) (_:PF ws) (_:∀(M':MH) (lr:n_) (ps:q_) (rs:pd),SD.Sub M M'->M lr=MB->M' lr=MA (.lst (ps.map D.ref))->OW ws (2*ws.length) rs->RL M' ps rs->(∀p∈ps,p≠lr/\M p=MB)->Q (.ref lr) M')
theorem tu(T:Tx K mg):Cal P w K mg base 7 "rings_of" (P6 PJ):=by
 refine eM (k:=6) T.g_ cH fun f _ _ _ s H _ C=>⟨_,(aq (aD 1 cH.nd (aw (j4 T).m C (ae (dv 0) ak))) (aq (aD 2 cH.nd (aY ak)) (aq (aD 3 cH.nd zJ) (aq (dm Ju rfl rfl T.mT (ae (aC aU ao (aN cS rfl T.mu cU (ae (dv 0) ak))) ak) (aE 4 cH.nd) (av (bF (uc (iY C) (dv 4) (dv 3)) (aq (aD 5 cH.nd (aw (rF T).m C (ae (dv 0) (ae (dv 1) (ae (dv 4) ak))))) (aq (bI (aX (dv 2) (ae (dv 5) ak))) (av (bV Ju rfl (aT (dv 5)) (aE 6 cH.nd) (av (yF (iY C) (dv 3) (dv 6) mX)))))) aS))) (av (aH (dv 2))))))),fun _ M Q h=>?_⟩;obtain⟨t,b,X,Y,ws,rfl,S,W,hU,hF,k⟩:=h;have g0:(ws.map (NP t b X Y)).length=ws.length:=by simp
 refine⟨_,rfl,t,b,X,Y,ws,rfl,S,W,fun M1 ld kvs L Z V=>?_⟩;refine⟨NL rfl,fun l a0=>fun y I=>?_⟩;have J:y≠l:=fun z=>by subst z;rw[ag]at I;cases I
 have c0:M1 y=MB:=by have h:=I;rw[au J]at h;exact h
 refine⟨_,rfl,bC (bS ⋯),2*ws.length,(by rw[g0];simp),(),?_⟩;refine⟨fun i δ r=>WJ fun(ps:q_) (x:pd) (n:Nat) (Sg:Int->Bool) (o4 o5 o6:rx)=>SG (δ=[MA (.tup (ws.map (NP t b X Y))),MA (.ref ld),MA (.ref l),MA (.ref y),o4,o5,o6]) (SD.Sub M1 r) (r l=MA (.lst (ps.map D.ref))) (r y=MA (RF n Sg)) (ps.length<=i) (n<=i*80) (∀g:Nat,Sg (g:Int)=decide (g∈x.flatten)) (OW ws i x) (RL r ps x) (∀p∈ps,p≠l/\p≠y/\M1 p=MB),?_,?_,?_⟩
 ·exact⟨[],[],0,fun _=>MD,_,_,_,rfl,.new I (.new a0 .refl),(by rw[au J.symm,ag];rfl),ag,J9 _,Kj _,fun g=>by simp,rfl,.nil,fun p N=>by cases N⟩
 ·rintro i δ r hi ⟨ps,x,n,Sg,o4,o5,o6,rfl,sb,C,hg,h0,i0,hS,R,O,u⟩;(try dsimp only[SD.aR])
  refine Pt fun B hB=>?_;refine⟨_,rfl,_,rfl,(i:Int),y,n,Sg,rfl,rfl,hg,_,rfl,?_⟩;rw[hS];refine bQ (fun h=>?_) (fun h=>hB _ _ ⟨ps,x,n,Sg,_,_,_,rfl,sb,C,hg,(),(),hS,⟨x,R,.inl ⟨‹h›,rfl⟩⟩,O,u⟩);have k0:i∉x.flatten:=‹h›
  refine⟨_,rfl,_,rfl,_,rfl,t,b,X,Y,ws,M,ld,kvs,L,i,rfl,rfl,rfl,S,W,hU,hF,hi,BF V sb,fun p j N nr eq=>?_⟩;have kb:=ox hU hF hi nr;have c1:∀{a o G},r a=MA o->(az r p G) a=MA o:=fun h=>by rw[au (aA h N)];exact h
  have d0:p≠l:=(aA C N).symm;have b0:p≠y:=(aA hg N).symm;refine⟨_,rfl,l,_,rfl,c1 C,_,rfl,_,_,rfl,c1 C,(by simp;omega),?_⟩;have c2:∀{a o G D'},r a=MA o->a≠l->(az (az r p G) l D') a=MA o:=fun h n=>by rw[au n];exact c1 h
  have e0:=c2 (G:=.lst ((rn ws i j).map ry)) (D':=.lst (ps.map D.ref++[.ref p])) hg J;have U:(az (az r p (.lst ((rn ws i j).map ry))) l (.lst (ps.map D.ref++[.ref p]))) p=MA (.lst ((rn ws i j).map ry)):=by rw[au d0,ag]
  have f0:(az (az r p (.lst ((rn ws i j).map ry))) l (.lst (ps.map D.ref++[.ref p]))) l=MA (.lst (ps.map D.ref++[.ref p])):=ag;have c3:∀{a o},r a=MA o->a≠l->(az (az r p (.lst ((rn ws i j).map ry))) l (.lst (ps.map D.ref++[.ref p]))) a=MA o:=fun h n=>c2 h n;clear c2;generalize az (az r p (.lst ((rn ws i j).map ry))) l (.lst (ps.map D.ref++[.ref p]))=N2 at e0 U f0 c3 ⊢;refine⟨_,rfl,(rn ws i j).map ry,U,?_⟩;refine⟨fun a δ v=>Pz fun(F:Nat) (S':Int->Bool) (o6:rx)=>RW (δ=[MA (.tup (ws.map (NP t b X Y))),MA (.ref ld),MA (.ref l),MA (.ref y),MA (.int (i:Int)),MA (.ref p),o6]) (v y=MA (RF F S')) (∀c,c≠y->v c=N2 c) (F<=n+a) (∀g:Nat,S' (g:Int)=(decide (g∈x.flatten)||decide (g∈(rn ws i j).take a))),⟨n,Sg,_,rfl,e0,fun _ _=>rfl,J9 _,fun g=>by rw[hS];simp⟩,fun a δ v _ z=>by obtain⟨_,_,_,_,_,z,_⟩:=z;show v p=_;rw[z p b0];exact U,?_,?_⟩
  ·rintro a d δ v ha hd ⟨F,S',o6,rfl,h1,h2,h3,h4⟩;have m0:a<j+1:=by have:a<((rn ws i j).map ry).length:=ha;simpa[fv]using this
   have hd:((rn ws i j).map ry)[a]?=MA d:=hd;rw[J6]at hd;cases eg:(rn ws i j)[a]? with
   |none=>rw[eg]at hd;cases hd
   |some g=>
    rw[eg]at hd
    cases hd
    refine⟨_,rfl,_,rfl,y,(g:Int),F,S',rfl,rfl,h1,(),?_⟩
    refine⟨F+1,_,_,rfl,ag,fun c hc=>by rw[au hc];exact h2 c hc,(),fun g'=>?_⟩
    rw[h4,Kx,eg]
    have e:decide (((g':Nat):Int)=((g:Nat):Int))=decide (g'=g):=by rw[MM];omega
    rw[e]
    simp only[JE,Option.toList_some,JH,Bool.decide_or]
    cases decide (g'=g)<;>cases decide (g'∈x.flatten)<;>simp
  ·rintro δ v ⟨F,S',o6,rfl,h1,h2,h3,h4⟩;have h3:F<=n+(j+1):=by simpa[fv]using h3
   have h4:∀g:Nat,S' (g:Int)=(decide (g∈x.flatten)||decide (g∈(rn ws i j).take ((rn ws i j).map ry).length)):=h4;have et:(rn ws i j).take ((rn ws i j).map ry).length=rn ws i j:=Kw (by simp);rw[et]at h4;have c4:∀{a o},r a=MA o->a≠l->a≠y->v a=MA o:=fun h n F=>by rw[h2 _ F];exact c3 h n
   refine hB _ _ ⟨ps++[p],x++[rn ws i j],F,S',_,_,_,rfl,fun a o h=>c4 (sb _ _ h) (fun z=>by subst z;rw[a0]at h;cases h) (fun z=>by subst z;rw[c0]at h;cases h),(by rw[h2 l J.symm,Jx];exact f0),h1,by simp;omega,(),fun g=>?_,⟨x,R,.inr ⟨k0,_,⟨j,nr,eq,rfl⟩,rfl⟩⟩,?_,fun p' l0=>?_⟩
   ·rw[h4];simp only[List.flatten_append,JE,Lr,List.flatten_nil,K8,Bool.decide_or]
   ·exact(O.mono fun q hq o e=>c4 e (u q hq).1 (u q hq).2.1).snoc (by rw[h2 p b0];exact U)
   ·rcases JE.mp l0 with z|z
    ·exact u p' z
    ·have:p'=p:=‹z›
     subst this;exact⟨d0,b0,lQ sb N⟩
 ·rintro δ r ⟨ps,x,n,Sg,o4,o5,o6,rfl,sb,C,hg,h0,i0,hS,R,O,u⟩;exact⟨_,rfl,⟨r,.refl,k r l ps x (SD.Sub.trans Z sb) (lQ Z a0) C R O fun p N=>⟨(u p N).1,lQ Z (u p N).2.2⟩⟩⟩
theorem dS:NJ ["one","other"] ["one","other"] (ay eP):=⋯
inductive Ni:Prop
 |mk (a b:Nat) (_:sj=.int (a:Int)) (_:sm=.int (b:Int)) (_:Q (.int ((Mf a b:Nat):Int)) M)
theorem d7(T:Tx K mg):Cal P w K mg base 1 "greatest_divisor" (Nk Ni):=by
 refine bU (k:=0) T.hH dS fun f _ _ _ s H _ i=>⟨_,(aq (fL Ju (aL (fh i.units) (dv 1) ao) (av (gg 0 1 rfl dS.nd (ae (dv 1) (ae (aC ft (dv 0) (dv 1)) ak))))) (av (aH (dv 0)))),fun _ _ M Q h=>?_⟩;obtain⟨a,b,rfl,rfl,q⟩:=h;refine⟨fun m δ g=>g=M/\∃x y:Nat,δ=[MA (.int x),MA (.int y)]/\Mf x y=Mf a b/\m=y,⟨_,rfl,_,_,rfl,rfl,rfl⟩,?_⟩;rintro m δ g ⟨rfl,x,y,rfl,c,j⟩;refine⟨_,rfl,_,rfl,?_⟩;refine bQ (fun h=>?_) (fun h=>?_)
 ·have d:(y:Int)≠0:=‹h›
  refine⟨_,rfl,_,rfl,_,rfl,d,_,_,rfl,?_⟩;have e:0<y:=()
  refine⟨x%y,by rw[j];exact Nat.mod_lt _ e,rfl,y,x%y,?_,?_,rfl⟩
  ·rw[<-Ma.vd];rfl
  ·rw[<-c,Nat.gcd_comm x y,Nat.gcd_rec y x,Nat.gcd_comm]
 ·have d:y=0:=‹h›
  subst d;rw[Nat.gcd_zero_right]at c;subst c;exact⟨_,rfl,NZ q⟩
theorem cM:NJ ["parts","common","part"] ["parts"] (ay gu):=⋯
inductive OD:Prop
 |mk (p:n_) (qs:List Rat) (b:Nat) (_:sj=.ref p) (_:M p=MA (.lst (qs.map NG))) (_:0<b) (_:b<=10^26) (_:(∀q∈qs,q.den ∣ b)) (_:∀c:Nat,0<c->c ∣ b->(∀q∈qs,q.den ∣ c)->Q (.int (c:Int)) M)
theorem gn(T:Tx K mg):Cal P w K mg base 2 "common_bottom" (P6 OD):=by
 refine eM (k:=1) T.hJ cM fun f _ _ _ s H _ I=>⟨_,(aq (aD 1 cM.nd ao) (aq (bV Ju rfl (aT (dv 0)) (aE 2 cM.nd) (av (aD 1 cM.nd (aC aU (aC fm (dv 1) (aw (d7 T).m I (ae (dv 1) (ae (aB (dv 2) ao) ak)))) (aB (dv 2) ao))))) (av (aH (dv 1))))),fun _ M Q h=>?_⟩;obtain⟨p,qs,b,rfl,G,a,v,o,k⟩:=h;refine⟨_,rfl,qs.map NG,G,?_⟩;refine⟨fun i δ r=>r=M/\Qw fun(c:Nat) (x:rx)=>SF (δ=[MA (.ref p),MA (.int (c:Int)),x]) (0<c) (c ∣ b) (∀q∈qs.take i,q.den ∣ c),⟨rfl,1,_,rfl,⋯,Nat.one_dvd _,fun q o=>by simp at o⟩,fun i δ r _ z=>by obtain⟨rfl,_⟩:=z;exact G,?_,?_⟩
 ·rintro i d δ r O hd ⟨rfl,c,x,rfl,g,t,y⟩;have hd:(qs.map NG)[i]?=MA d:=hd;rw[J6]at hd;cases u:qs[i]? with
  |none=>rw[u]at hd;cases hd
  |some q=>
   rw[u]at hd
   cases hd
   have j:=J8 u
   have R:0<Mf c q.den:=Nat.gcd_pos_of_pos_left _ g
   have J:c<=b:=Nat.le_of_dvd a t
   have L:Mf c q.den<=c:=Nat.gcd_le_left _ g
   have B:∀{n:Nat},n<=10^26->Bd 100 (n:Int):=fun{n} h=>by show(n:Int).natAbs<2^100;omega
   have C:Bd 100 ((c:Int).fdiv ((Mf c q.den:Nat):Int)):=(B (n:=c) ()).of_le (by rw[Ke _ ()];exact Int.natAbs_ediv_le_natAbs _ _)
   have N:(c:Int).fdiv ((Mf c q.den:Nat):Int)*(q.den:Int)=((Nat.lcm c q.den:Nat):Int):=by
    rw[Ke _ (),<-Int.natCast_ediv,<-Int.natCast_mul]
    congr 1
    rw[Nat.lcm,Nat.mul_comm c q.den,Nat.mul_div_assoc _ (Nat.gcd_dvd_left c q.den),Nat.mul_comm]
   refine⟨_,rfl,_,rfl,_,rfl,_,rfl,c,q.den,rfl,rfl,⟨(),(B ()).mono ⋯⟩,_,rfl,_,rfl,fj (C.mono ⋯) ((B (Kr (Nat.le_of_dvd a (o q j)) v)).mono ⋯),?_⟩
   dsimp only
   rw[N]
   refine⟨rfl,Nat.lcm c q.den,_,rfl,Nat.lcm_pos g q.den_pos,Nat.lcm_dvd t (o q j),fun F l=>?_⟩
   rw[Kx,u]at l
   rcases JE.mp l with z|z
   ·exact Nat.dvd_trans (y F z) (Nat.dvd_lcm_left c q.den)
   ·have:F=q:=‹z›
    subst this;exact Nat.dvd_lcm_right c F.den
 ·rintro δ r ⟨rfl,c,x,rfl,g,t,y⟩;exact⟨_,rfl,NZ (k c g t (by have e:qs.take (qs.map NG).length=qs:=Kw (by simp);rw[<-e];exact y))⟩
theorem qa:NJ ["part","bottom"] ["part","bottom"] (ay mZ):=⋯
inductive PH:Prop
 |mk (q:Rat) (B:Int) (_:sj=NG q) (_:sm=.int B) (_:MY 200 q) (_:0<B) (_:B<=10^26) (_:Q (.int (q.num*B.fdiv (q.den:Int))) M)
theorem fZ(T:Tx K mg):Cal P w K mg base 1 "top_over" (Nk PH):=by
 refine bU (k:=0) T.hL qa fun f _ _ _ s H _ c=>⟨_,(av (aH (aC aU (aB (dv 0) ao) (aC fm (dv 1) (aB (dv 0) ao))))),fun _ _ M Q h=>?_⟩;obtain⟨q,B,rfl,rfl,a,d,e,k⟩:=h;have bB:Bd 100 B:=by show B.natAbs<2^100;omega
 have b:(B.fdiv (q.den:Int)).natAbs<=B.natAbs:=by rw[Ke _ ()];exact Int.natAbs_ediv_le_natAbs _ _
 exact⟨_,rfl,_,rfl,_,rfl,_,rfl,_,rfl,⟨NI q,a.2.mono ⋯⟩,fj (a.1.mono ⋯) ((bB.of_le b).mono ⋯),NZ k⟩
theorem ba:NJ ["plot","ring","ways","x_bottom","y_bottom","total","x","y","next_x","next_y"] ["plot","ring"] (ay jb):=⋯
theorem oG{I:Qu}{js:pe}{o:OV}{te:TD}{δ:DS}{c:MH}{Q:DK}(a b f g:Nat->D)(s:I.n<=1000)(hC:∀p ys,c p=MB->I.C (az c p (.lst ys)))(m:∀i d,i<I.n->I.item i=MA d->d=.tup [a i,b i]) (hw:∀i M R,i<I.n->R ⟨2,fun j=>[a i,b i][j]?,fun M=>De M (.tup [a i,b i]) [a i,b i]⟩ M->o (cδ [MA (.tup [a i,b i]),MB] js δ) M R) (t:∀i M (K:DK),i<I.n->K (f i) M->te (cδ [MA (.tup [a i,b i]),MA (a i)] js δ) M K) (u:∀i M (K:DK),i<I.n->K (g i) M->te (cδ [MA (.tup [a i,b i]),MA (b i)] js δ) M K) (v:∀p,c p=MB->Q (.ref p) (az c p (.lst ((Jp I.n).flatMap fun i=>[f i,g i])))):Hk I js o te δ c Q:=by
 refine⟨s,fun p q=>⟨fun i ys M=>ys=(Jp i).flatMap (fun i=>[f i,g i])/\M=az c p (.lst ys),⟨rfl,rfl⟩,?_,?_,?_⟩⟩
 ·rintro i ys M _ ⟨_,rfl⟩;exact hC p ys q
 ·rintro i ys d M h hd ⟨rfl,rfl⟩;obtain rfl:=m i d h hd;refine hw i _ _ h ⟨NL rfl,fun j k M=>k=(Jp i).flatMap (fun i=>[f i,g i])++[f i,g i].take j/\M=az c p (.lst k),⟨by simp,rfl⟩,fun _ _ _ _ _=>rfl,?_,?_⟩
  ·rintro j k e M r l ⟨rfl,rfl⟩;have r:j<2:=r;have l:[a i,b i][j]?=MA e:=l;rcases(():j=0\/j=1)with rfl|rfl
   ·cases l;exact t i _ _ h ⟨_,.refl,ag,by simp,by rw[bW]⟩
   ·cases l;exact u i _ _ h ⟨_,.refl,ag,by simp,by rw[bW]⟩
  ·rintro k M ⟨rfl,rfl⟩;refine⟨?_,rfl⟩;rw[KJ,List.flatMap_append];simp
 ·rintro ys M ⟨rfl,rfl⟩;exact v p q
inductive O0:Prop
 |mk (t b X Y:Int) (ws:ro) (p:n_) (r:pe) (_:sj=.tup (ws.map (NP t b X Y))) (_:sm=.ref p) (_:M p=MA (.lst (r.map ry))) (_:OG t b X Y) (_:(∀w∈ws,NM w)) (_:ws.length<=40) (_:r.length<=80) (_:(∀g∈r,g<2*ws.length)) (_:∀tot B:Int,0<B->B<=10^52->Bd 1000 tot->(tot:Rat)=(r.map (Rw t b X Y ws)).sum*(B:Rat)->Q (.tup [.int tot,.int B]) M)
theorem pN(T:Tx K mg):Cal P w K mg base 3 "twice_area" (Nk O0):=by
 refine bU (k:=2) T.hP ba fun f _ _ _ s H _ V=>⟨_,(aq (cX 2 ba.nd (NK.of (xs:=["face"]) (js:=[0]) rfl) rfl (aT (dv 1)) (fun _ _ _ _=>cD) (fun _ _ _ _=>(aw (cF T).m V (ae (dv 1) (ae (dv 0) ak))))) (aq (aD 3 ba.nd (aw (gn T).m V (ae (Ag (NK.of (xs:=["way","corner"]) (js:=[]) rfl) rfl (aT (dv 2)) (fun _ _ _ _=>(aT (dv 0))) (fun _ _ _ _=>(aB (dv 1) ao))) ak))) (aq (aD 4 ba.nd (aw (gn T).m V (ae (Ag (NK.of (xs:=["way","corner"]) (js:=[]) rfl) rfl (aT (dv 2)) (fun _ _ _ _=>(aT (dv 0))) (fun _ _ _ _=>(aB (dv 1) ao))) ak))) (aq (aD 5 ba.nd ao) (aq (bV Ju rfl (aT (dv 2)) (bM rfl (aF (bM rfl (aF (aE 6 ba.nd) (aF (aE 7 ba.nd) bj))) (aF (bM rfl (aF (aE 8 ba.nd) (aF (aE 9 ba.nd) bj))) bj))) (aq (zj 5 ba.nd D8 (aC aU (aw (fZ T).m V (ae (dv 6) (ae (dv 3) ak))) (aw (fZ T).m V (ae (dv 9) (ae (dv 4) ak))))) (av (zj 5 ba.nd DQ (aC aU (aw (fZ T).m V (ae (dv 8) (ae (dv 3) ak))) (aw (fZ T).m V (ae (dv 7) (ae (dv 4) ak)))))))) (av (aH (aI (ae (dv 5) (ae (aC aU (dv 3) (dv 4)) ak)))))))))),fun _ _ M Q h=>?_⟩;obtain⟨t,b,X,Y,ws,p,r,rfl,rfl,hp,S,hU,f1,g1,V,k⟩:=h;refine⟨_,rfl,_,hp,comp_map (fun j=>NP t b X Y (fw ws ((r[j]?).getD 0))) (by show(r.map ry).length<=1000000;simp;omega) (fun q ys hq=>by show(az M q _) p=_;rw[au (aA hp hq)];exact hp) ?_ (fun O x0=>?_)⟩
 ·intro j d M6 hj hd sb;have hd:(r.map ry)[j]?=MA d:=hd;rw[J6]at hd;cases C:r[j]? with
  |none=>rw[C]at hd;cases hd
  |some g=>
   rw[C]at hd
   cases hd
   exact⟨_,rfl,fun K hK=>⟨_,rfl,_,rfl,t,b,X,Y,ws,g,rfl,rfl,V g (J8 C),(),hK _ .refl⟩⟩
 have e1:(Jp (r.map ry).length).map (fun j=>NP t b X Y (fw ws ((r[j]?).getD 0)))=r.map fun g=>NP t b X Y (fw ws g):=by
  rw[J4];apply List.ext_getElem
  ·simp
  ·intro i h1 h2;simp at h1;simp[h1]
 dsimp only;rw[e1];have I:(az M O (.lst (r.map fun g=>NP t b X Y (fw ws g)))) O=MA (.lst (r.map fun g=>NP t b X Y (fw ws g))):=ag;have m0:SD.Sub M (az M O (.lst (r.map fun g=>NP t b X Y (fw ws g)))):=.new x0 .refl;generalize az M O (.lst (r.map fun g=>NP t b X Y (fw ws g)))=M1 at I m0 ⊢;have e0:(r.map fun g=>NP t b X Y (fw ws g)).length=r.length:=by simp
 refine⟨_,rfl,_,I,oG (fun i=>NF (MX t b X 1 (fa ws ((r[i]?).getD 0)).1) (MX t b Y 1 (fa ws ((r[i]?).getD 0)).2)) (fun i=>NF (MX t b X 1 (fb ws ((r[i]?).getD 0)).1) (MX t b Y 1 (fb ws ((r[i]?).getD 0)).2)) (fun i=>NG (MX t b X 1 (fa ws ((r[i]?).getD 0)).1)) (fun i=>NG (MX t b X 1 (fb ws ((r[i]?).getD 0)).1)) (by show(r.map fun g=>NP t b X Y (fw ws g)).length<=1000;omega) (fun q ys hq=>by show(az M1 q _) O=_;rw[au (aA I hq)];exact I) (fun i d J hd=>?_) (fun i M R J h=>⟨_,rfl,_,rfl,h⟩) (fun i M K J h=>⟨_,rfl,_,rfl,h⟩) (fun i M K J h=>⟨_,rfl,_,rfl,h⟩) (fun px n0=>?_)⟩
 ·have hd:(r.map fun g=>NP t b X Y (fw ws g))[i]?=MA d:=hd;rw[J6]at hd;cases C:r[i]? with
  |none=>rw[C]at hd;cases hd
  |some g=>
   rw[C]at hd
   cases hd
   rfl
 obtain⟨l,rfl⟩:∃l:Nat,b=(l:Int):=⟨b.toNat,by have:=S.b0;omega⟩;have a0:0<l:=by have:=S.b0;omega
 have dv:∀(Z x:Int),(MX t (l:Int) Z 1 x).den ∣ l:=fun Z x=>by
  have h:=Ay (n:=x*t+Z*1) (d:=(l:Int)*1) ()
  rw[Int.mul_one (l:Int)]at h
  unfold MX
  rw[Int.mul_one (l:Int)]
  exact Int.ofNat_dvd.mp h
 have eX:∀(Z:Int) (F:Vc->Int) (n:Nat),((Jp n).flatMap fun i=>[NG (MX t (l:Int) Z 1 (F (fa ws ((r[i]?).getD 0)))),NG (MX t (l:Int) Z 1 (F (fb ws ((r[i]?).getD 0))))])=((Jp n).flatMap fun i=>[MX t (l:Int) Z 1 (F (fa ws ((r[i]?).getD 0))),MX t (l:Int) Z 1 (F (fb ws ((r[i]?).getD 0)))]).map NG:=fun Z F n=>by rw[List.map_flatMap];rfl
 have c0:∀(Z:Int) (F:Vc->Int) (n:Nat) (q:Rat),q∈((Jp n).flatMap fun i=>[MX t (l:Int) Z 1 (F (fa ws ((r[i]?).getD 0))),MX t (l:Int) Z 1 (F (fb ws ((r[i]?).getD 0)))])->q.den ∣ l:=fun Z F n q hq=>by
  obtain⟨i,_,J⟩:=List.mem_flatMap.mp hq;rcases JI.mp J with z|z
  ·rw[z];exact dv _ _
  ·rw[show q=_ from by simpa using z];exact dv _ _
 have d0:∀(Z:Int) (F:Vc->Int) (c:Nat),(∀q∈((Jp r.length).flatMap fun i=>[MX t (l:Int) Z 1 (F (fa ws ((r[i]?).getD 0))),MX t (l:Int) Z 1 (F (fb ws ((r[i]?).getD 0)))]),q.den ∣ c)->∀(i g:Nat),r[i]?=MA g->(MX t (l:Int) Z 1 (F (fa ws g))).den ∣ c/\(MX t (l:Int) Z 1 (F (fb ws g))).den ∣ c:=fun Z F c h i g C=>by
  have J:i<r.length:=(Jq.mp C).1
  refine⟨h _ (List.mem_flatMap.mpr ⟨i,JK.mpr J,?_⟩),h _ (List.mem_flatMap.mpr ⟨i,JK.mpr J,?_⟩)⟩
  ·rw[C];simp
  ·rw[C];simp
 have o0:l<=10^26:=by have:=S.b1;omega
 refine⟨px,_,l,rfl,(by rw[ag];dsimp only;rw[e0];exact congrArg (fun z=>MA (MO.lst z)) (eX X (fun v=>v.1) r.length)),a0,o0,c0 X (fun v=>v.1) _,fun L i1 y0 z0=>?_⟩;have U:∀{o},(az M1 px o) O=MA (.lst (r.map fun g=>NP t (l:Int) X Y (fw ws g))):=fun{o}=>by rw[au (aA I n0)];exact I
 have a1:∀{o},SD.Sub M (az M1 px o):=fun{o}=>.new n0 m0;refine⟨_,rfl,_,U,oG (fun i=>NF (MX t (l:Int) X 1 (fa ws ((r[i]?).getD 0)).1) (MX t (l:Int) Y 1 (fa ws ((r[i]?).getD 0)).2)) (fun i=>NF (MX t (l:Int) X 1 (fb ws ((r[i]?).getD 0)).1) (MX t (l:Int) Y 1 (fb ws ((r[i]?).getD 0)).2)) (fun i=>NG (MX t (l:Int) Y 1 (fa ws ((r[i]?).getD 0)).2)) (fun i=>NG (MX t (l:Int) Y 1 (fb ws ((r[i]?).getD 0)).2)) (by show(r.map fun g=>NP t (l:Int) X Y (fw ws g)).length<=1000;omega) (fun q ys hq=>by show(az _ q _) O=_;rw[au (aA U hq)];exact U) (fun i d J hd=>?_) (fun i M R J h=>⟨_,rfl,_,rfl,h⟩) (fun i M K J h=>⟨_,rfl,_,rfl,h⟩) (fun i M K J h=>⟨_,rfl,_,rfl,h⟩) (fun py r0=>?_)⟩
 ·have hd:(r.map fun g=>NP t (l:Int) X Y (fw ws g))[i]?=MA d:=hd;rw[J6]at hd;cases C:r[i]? with
  |none=>rw[C]at hd;cases hd
  |some g=>
   rw[C]at hd
   cases hd
   rfl
 refine⟨py,_,l,rfl,(by rw[ag];dsimp only;rw[e0];exact congrArg (fun z=>MA (MO.lst z)) (eX Y (fun v=>v.2) r.length)),a0,o0,c0 Y (fun v=>v.2) _,fun N j1 c1 d1=>?_⟩;have ux:=d0 X (fun v=>v.1) L z0;have uy:=d0 Y (fun v=>v.2) N d1;have s0:∀{o o'},py≠O->(az (az M1 px o) py o') O=MA (.lst (r.map fun g=>NP t (l:Int) X Y (fw ws g))):=fun ne=>by rw[au ne.symm];exact U
 have t0:py≠O:=(aA U r0).symm;refine⟨_,rfl,_,s0 t0,?_⟩;have f0:=SD.Sub.new (o:=MO.lst ((Jp (r.map fun g=>NP t (l:Int) X Y (fw ws g)).length).flatMap fun i=>[NG (MX t (l:Int) Y 1 (fa ws ((r[i]?).getD 0)).2),NG (MX t (l:Int) Y 1 (fb ws ((r[i]?).getD 0)).2)])) r0 a1;dsimp only at f0 ⊢;have u0:=s0 (o:=MO.lst ((Jp (r.map fun g=>NP t (l:Int) X Y (fw ws g)).length).flatMap fun i=>[NG (MX t (l:Int) X 1 (fa ws ((r[i]?).getD 0)).1),NG (MX t (l:Int) X 1 (fb ws ((r[i]?).getD 0)).1)])) (o':=MO.lst ((Jp (r.map fun g=>NP t (l:Int) X Y (fw ws g)).length).flatMap fun i=>[NG (MX t (l:Int) Y 1 (fa ws ((r[i]?).getD 0)).2),NG (MX t (l:Int) Y 1 (fb ws ((r[i]?).getD 0)).2)])) t0;generalize az (az M1 px (MO.lst ((Jp (r.map fun g=>NP t (l:Int) X Y (fw ws g)).length).flatMap fun i=>[NG (MX t (l:Int) X 1 (fa ws ((r[i]?).getD 0)).1),NG (MX t (l:Int) X 1 (fb ws ((r[i]?).getD 0)).1)]))) py (MO.lst ((Jp (r.map fun g=>NP t (l:Int) X Y (fw ws g)).length).flatMap fun i=>[NG (MX t (l:Int) Y 1 (fa ws ((r[i]?).getD 0)).2),NG (MX t (l:Int) Y 1 (fb ws ((r[i]?).getD 0)).2)]))=M3 at f0 u0 ⊢;have y:(0:Int)<(L:Int)/\(L:Int)<=10^26:=by have:=Nat.le_of_dvd a0 y0;omega
 have u:(0:Int)<(N:Int)/\(N:Int)<=10^26:=by have:=Nat.le_of_dvd a0 c1;omega
 refine⟨fun i δ M'=>M'=M3/\SY fun(G:Int) (o6 o7 o8 o9:rx)=>δ=[MA (.tup (ws.map (NP t (l:Int) X Y))),MA (.ref p),MA (.ref O),MA (.int (L:Int)),MA (.int (N:Int)),MA (.int G),o6,o7,o8,o9]/\(G:Rat)=((r.take i).map (Rw t (l:Int) X Y ws)).sum*(((L:Int)*(N:Int):Int):Rat)/\Bd (600+2*i) G,⟨rfl,0,_,_,_,_,rfl,(by simp),(by show(0:Int).natAbs<2^(600+2*0);decide)⟩,fun i δ M' _ z=>by obtain⟨rfl,_⟩:=z;exact u0,?_,?_⟩
 ·rintro i d δ M' J hd ⟨rfl,G,o6,o7,o8,o9,rfl,et,bt⟩;have hd:(r.map fun g=>NP t (l:Int) X Y (fw ws g))[i]?=MA d:=hd;rw[J6]at hd;cases C:r[i]? with
  |none=>rw[C]at hd;cases hd
  |some g=>
   rw[C]at hd
   cases hd
   have hg:=V g (J8 C)
   obtain⟨_,_,w3⟩:=bz (ws:=ws) (k:=((g/2:Nat):Int)) () ()
   have W:=hU _ w3
   have W6:∀{z:Int},(0<=z/\z<=20)->(-(10^6)<=z/\z<=10^6):=fun{z} h=>()
   have one:(0:Int)<1/\(1:Int)<=10^6:=⋯
   have rg:((0<=(fa ws g).1/\(fa ws g).1<=20)/\(0<=(fa ws g).2/\(fa ws g).2<=20))/\((0<=(fb ws g).1/\(fb ws g).1<=20)/\(0<=(fb ws g).2/\(fb ws g).2<=20)):=by
    unfold fa fb fw;by_cases h:g%2=0
    ·rw[MI h];exact⟨⟨W.a,W.b⟩,W.c,W.d⟩
    ·rw[ME h];exact⟨⟨W.c,W.d⟩,W.a,W.b⟩
   have g0:MY 200 (MX t (l:Int) X 1 (fa ws g).1):=S.bx one (W6 rg.1.1)
   have i0:MY 200 (MX t (l:Int) Y 1 (fa ws g).2):=S.by' one (W6 rg.1.2)
   have k0:MY 200 (MX t (l:Int) X 1 (fb ws g).1):=S.bx one (W6 rg.2.1)
   have l0:MY 200 (MX t (l:Int) Y 1 (fb ws g).2):=S.by' one (W6 rg.2.2)
   have tb:∀{q:Rat} {B:Int},MY 200 q->0<B->B<=10^26->Bd 300 (q.num*B.fdiv (q.den:Int)):=fun{q B} h h0 h1=>by
    have bB:Bd 100 B:=by show B.natAbs<2^100;omega
    have dB:(B.fdiv (q.den:Int)).natAbs<=B.natAbs:=by rw[Ke _ ()];exact Int.natAbs_ediv_le_natAbs _ _
    exact h.1.mul (bB.of_le dB)
   have m6:∀{z:Int},Bd 300 z->Bd 1000000 z:=fun h=>h.mono ⋯
   refine⟨_,rfl,rfl,_,_,rfl,_,rfl,rfl,_,_,rfl,_,_,rfl,rfl,_,_,rfl,_,rfl,rfl,_,_,rfl,_,_,rfl,rfl,rfl,?_⟩
   (try dsimp only[SD.aR])
   refine Pt fun B hB=>?_
   refine⟨G,rfl,_,rfl,_,rfl,MX t (l:Int) X 1 (fa ws g).1,(L:Int),rfl,rfl,g0,y.1,y.2,_,rfl,_,rfl,MX t (l:Int) Y 1 (fb ws g).2,(N:Int),rfl,rfl,l0,u.1,u.2,fj (m6 (tb g0 y.1 y.2)) (m6 (tb l0 u.1 u.2)),_,rfl,?_⟩
   refine⟨_,rfl,_,rfl,_,rfl,MX t (l:Int) X 1 (fb ws g).1,(L:Int),rfl,rfl,k0,y.1,y.2,_,rfl,_,rfl,MX t (l:Int) Y 1 (fa ws g).2,(N:Int),rfl,rfl,i0,u.1,u.2,fj (m6 (tb k0 y.1 y.2)) (m6 (tb i0 u.1 u.2)),_,rfl,?_⟩
   refine hB _ _ ⟨rfl,_,_,_,_,_,rfl,?_,?_⟩
   ·rw[Kx,C,Option.toList_some,Jx,List.sum_append];have ex:=ux i g C;have ey:=uy i g C;have t1:=um (MX t (l:Int) X 1 (fa ws g).1) (L:Int) (Int.ofNat_dvd.mpr ex.1);have t2:=um (MX t (l:Int) Y 1 (fb ws g).2) (N:Int) (Int.ofNat_dvd.mpr ey.2);have t3:=um (MX t (l:Int) X 1 (fb ws g).1) (L:Int) (Int.ofNat_dvd.mpr ex.2);have t4:=um (MX t (l:Int) Y 1 (fa ws g).2) (N:Int) (Int.ofNat_dvd.mpr ey.1);dsimp only;rw[Lf,LS,et,Kh,Kh,t1,t2,Kh,t3,t4];simp only[Jn,KP,Ki,List.sum_nil];unfold Rw;grind
   ·have p1:=((tb g0 y.1 y.2).mul (tb l0 u.1 u.2)).mono (():300+300<=600+2*i);have p2:=((tb k0 y.1 y.2).mul (tb i0 u.1 u.2)).mono (():300+300<=600+2*i+1);exact((bt.add p1).sub p2).mono ()
 ·rintro δ M' ⟨rfl,G,o6,o7,o8,o9,rfl,et,bt⟩;have e:r.take (r.map fun g=>NP t (l:Int) X Y (fw ws g)).length=r:=Kw (by simp);rw[e]at et;have v0:Bd 100 (L:Int):=by show(L:Int).natAbs<2^100;omega
  have w0:Bd 100 (N:Int):=by show(N:Int).natAbs<2^100;omega
  have pp:=JW y.1 u.1
  have pl:(L:Int)*(N:Int)<=10^52:=by
   have h1:=Int.mul_le_mul y.2 u.2 (Kv u.1) (show(0:Int)<=10^26 by decide)
   exact Int.le_trans h1 ⋯
  exact⟨_,rfl,_,rfl,_,rfl,fj (v0.mono ⋯) (w0.mono ⋯),NL rfl,⟨M,f0,k G _ pp pl (bt.mono (by rw[e0];first|omega|(dsimp only;omega)|(simp only[J4]at *;omega))) et⟩⟩
theorem c8:NJ ["plot","outers","inners","ring"] ["plot"] (ay fo):=⋯
inductive Np:Prop
 |mk (t b X Y:Int) (ws:ro) (_:sj=.tup (ws.map (NP t b X Y))) (_:OG t b X Y) (_:ws.length<=40) (_:(∀w∈ws,NM w)) (_:PF ws) (_:∀(M':MH) (lo li:n_) (ps qs:q_) (rs:pd),SD.Sub M M'->OW ws (2*ws.length) rs->M' lo=MA (.lst (ps.map D.ref))->M' li=MA (.lst (qs.map D.ref))->RL M' ps (rs.filter (aG ws))->RL M' qs (rs.filter fun r=>!aG ws r)->M lo=MB->M li=MB->(∀p∈ps++qs,M p=MB)->Q (.tup [.ref lo,.ref li]) M')
theorem ff(T:Tx K mg):Cal P w K mg base 8 "outer_and_inner" (P6 Np):=by
 refine eM (k:=7) T.hQ c8 fun f cdv A outer s H E hr=>⟨_,(aq (gg 1 2 rfl c8.nd (ae (aY ak) (ae (aY ak) ak))) (aq (bV Ju rfl (aT (aw (tu T).m hr (ae (dv 0) ak))) (aE 3 c8.nd) (av (bF (aL (gh hr.units) (aB (aw (pN T).m hr (ae (dv 0) (ae (dv 3) ak))) ao) ao) (av (bI (aX (dv 1) (ae (dv 3) ak)))) (av (bI (aX (dv 2) (ae (dv 3) ak))))))) (av (aH (aI (ae (dv 1) (ae (dv 2) ak))))))),fun _ M Q h=>?_⟩;obtain⟨t,b,X,Y,ws,rfl,S,I,hU,hF,k⟩:=h;refine⟨NL rfl,fun x L=>⟨NL rfl,fun n N=>?_⟩⟩;have q:x≠n:=aA ag N;have J:M n=MB:=by have h:=N;rw[au q.symm]at h;exact h
 refine⟨_,_,rfl,?_⟩;refine⟨_,rfl,t,b,X,Y,ws,rfl,S,I,hU,hF,fun y lr pr C O F a0 R c0 g0=>?_⟩;have d0:y x=MA (.lst []):=O _ _ (by rw[au q,ag]);have e0:y n=MA (.lst []):=O _ _ ag;have h0:SD.Sub M y:=SD.Sub.trans (.new N (.new L .refl)) O;have i0:lr≠x:=fun z=>by subst z;rw[au q,ag]at F;cases F
 have k0:lr≠n:=fun z=>by subst z;rw[ag]at F;cases F
 have pn:∀p∈pr,p≠x/\p≠n/\M p=MB:=fun p g=>by
  have h:=(g0 p g).2
  have a:p≠n:=fun z=>by subst z;rw[ag]at h;cases h
  rw[au a]at h
  have c:p≠x:=fun z=>by subst z;rw[ag]at h;cases h
  rw[au c]at h
  exact⟨c,a,h⟩
 have l0:=gX R;have m0:=c0.len;have f0:=f6 hU hF (J9 _) R;refine⟨_,a0,?_⟩;refine⟨fun i δ G=>Pz fun(ps qs:q_) (o3:rx)=>Vr (δ=[MA (.tup (ws.map (NP t b X Y))),MA (.ref x),MA (.ref n),o3]) (∀c,c≠x->c≠n->G c=y c) (G x=MA (.lst (ps.map D.ref))) (G n=MA (.lst (qs.map D.ref))) (RL y ps ((C.take i).filter (aG ws))) (RL y qs ((C.take i).filter fun r=>!aG ws r)) (ps.length<=i) (qs.length<=i) (∀p∈ps++qs,p∈pr),⟨[],[],_,rfl,fun _ _ _=>rfl,d0,e0,.nil,.nil,J9 _,J9 _,fun p g=>by cases g⟩,fun i δ G _ z=>by obtain⟨_,_,_,_,z,_⟩:=z;show G lr=_;rw[z lr i0 k0];exact a0,?_,?_⟩
 ·rintro i d δ G hi hd ⟨ps,qs,o3,rfl,l,u,v,U,R2,l1,l2,j⟩;have hi:i<pr.length:=by have:i<(pr.map D.ref).length:=hi;simpa using this
  have hd:(pr.map D.ref)[i]?=MA d:=hd;rw[J6,J0 hi]at hd;cases hd;obtain⟨r,er,V⟩:=c0.get hi;have W:pr[i]∈pr:=K1 hi;obtain⟨p1,p2,p3⟩:=pn _ W;have A:=f0 r (J8 er);refine⟨_,rfl,_,rfl,t,b,X,Y,ws,pr[i],r,rfl,rfl,(by rw[l _ p1 p2];exact V),S,hU,I,by have:=A.len;omega,A.lt,fun n0 B hB o0 bt et=>?_⟩;refine⟨_,rfl,trivial,_,rfl,?_⟩;have sg:=xT hU hF A.rng S.t0 S.b0 hB et;have Z:=gy (aG ws) C er;have f2:=gy (fun r=>!aG ws r) C er;refine bQ (fun h=>?_) (fun h=>?_)
  ·have o:aG ws r=MC:=by rw[<-sg];exact h
   rw[o]at Z f2;rw[MI rfl]at Z;rw[ME ⋯,K8]at f2;refine⟨_,rfl,x,_,rfl,u,_,rfl,_,_,rfl,u,(by rw[J4];omega),?_⟩;refine⟨ps++[pr[i]],qs,_,rfl,fun c a c2=>by rw[au a];exact l c a c2,by rw[ag,Jx];rfl,by rw[au q.symm];exact v,by rw[Z];exact U.snoc V,by rw[f2];exact R2,by simp;omega,(),fun p g=>?_⟩;rcases JE.mp g with z|z
   ·rcases JE.mp z with z|z
    ·exact j p (JE.mpr (.inl z))
    ·rw[show p=pr[i] by simpa using z];exact W
   ·exact j p (JE.mpr (.inr z))
  ·have o:aG ws r=MD:=by rw[<-sg];simpa using h
   rw[o]at Z f2;rw[ME ⋯,K8]at Z;rw[MI (show(!MD)=MC from rfl)]at f2;refine⟨_,rfl,n,_,rfl,v,_,rfl,_,_,rfl,v,(by rw[J4];omega),?_⟩;refine⟨ps,qs++[pr[i]],_,rfl,fun c a c2=>by rw[au c2];exact l c a c2,by rw[au q];exact u,by rw[ag,Jx];rfl,by rw[Z];exact U,by rw[f2];exact R2.snoc V,(),by simp;omega,fun p g=>?_⟩;rcases JE.mp g with z|z
   ·exact j p (JE.mpr (.inl z))
   ·rcases JE.mp z with z|z
    ·exact j p (JE.mpr (.inr z))
    ·rw[show p=pr[i] by simpa using z];exact W
 ·rintro δ G ⟨ps,qs,o3,rfl,l,u,v,U,R2,l1,l2,j⟩;have et:C.take (pr.map D.ref).length=C:=Kw (by rw[J4];omega);have U:RL y ps ((C.take (pr.map D.ref).length).filter (aG ws)):=U;have R2:RL y qs ((C.take (pr.map D.ref).length).filter fun r=>!aG ws r):=R2;rw[et]at U R2;have kp:∀p∈ps++qs,G p=y p:=fun p g=>let z:=pn p (j p g);l p z.1 z.2.1
  refine⟨_,rfl,_,rfl,NL rfl,NZ (k G x n ps qs C (fun a o h=>?_) R u v (U.mono fun p g o e=>by rw[kp p (JE.mpr (.inl g))];exact e) (R2.mono fun p g o e=>by rw[kp p (JE.mpr (.inr g))];exact e) L J fun p g=>(pn p (j p g)).2.2)⟩;rw[l a (fun z=>by subst z;rw[L]at h;cases h) (fun z=>by subst z;rw[J]at h;cases h)];exact h0 _ _ h
theorem tp:NJ ["one","other"] ["one","other"] (ay om):=⋯
inductive Pm:Prop
 |mk (q r:Rat) (_:sj=NG q) (_:sm=NG r) (_:MY 100000 q) (_:MY 100000 r) (_:Q (.bl (decide (q<r))) M)
theorem n8(T:Tx K mg):Cal P w K mg base 1 "is_less" (Nk Pm):=by refine bU (k:=0) T.hV tp fun f _ _ _ s H _ c=>⟨_,(av (aH (cg (dQ c.units) (aC aU (aB (dv 0) ao) (aB (dv 1) ao)) (aC aU (aB (dv 1) ao) (aB (dv 0) ao))))),fun _ _ M Q h=>?_⟩;obtain⟨q,r,rfl,rfl,a,b,k⟩:=h;refine⟨_,rfl,_,rfl,_,rfl,_,rfl,fj (a.1.mono ⋯) (b.2.mono ⋯),?_⟩;refine⟨_,rfl,_,rfl,_,rfl,_,rfl,fj (b.1.mono ⋯) (a.2.mono ⋯),trivial,?_⟩;dsimp only;rw[Ma.F0];exact NZ k
theorem rD:NJ ["one","other"] ["one","other"] (ay lL):=⋯
inductive PZ:Prop
 |mk (a b c d:Rat) (_:sj=NF a b) (_:sm=NF c d) (_:MY 100000 a) (_:MY 100000 b) (_:MY 100000 c) (_:MY 100000 d) (_:Q (.bl (decide (a<c\/a=c/\b<d))) M)
theorem du(T:Tx K mg):Cal P w K mg base 2 "is_ahead" (Nk PZ):=by
 refine bU (k:=1) T.hY rD fun f _ _ _ s H _ g=>⟨_,(aq (bF (aL (cQ g.units) (aB (dv 0) ao) (aB (dv 1) ao)) (av (aH (aw (n8 T).m g (ae (aB (dv 0) ao) (ae (aB (dv 1) ao) ak))))) aS) (av (aH (aw (n8 T).m g (ae (aB (dv 0) ao) (ae (aB (dv 1) ao) ak)))))),fun _ _ M Q h=>?_⟩;obtain⟨a,b,c,d,rfl,rfl,i,j,l,n,k⟩:=h;refine⟨_,rfl,_,rfl,_,rfl,_,rfl,_,_,Pd.of rfl,Pd.of rfl,rfl,rfl,?_⟩;rw[Ma.rS];refine⟨_,rfl,?_⟩;refine bQ (fun h=>?_) (fun h=>?_)
 ·have e:a=c:=‹h›
  subst e;refine⟨_,rfl,_,rfl,_,rfl,_,rfl,b,d,rfl,rfl,j,n,?_⟩
  have z:(a<a\/a=a/\b<d)↔b<d:=by
   have:=Rat.lt_irrefl (a:=a)
   simp[this]
  rw[decide_eq_decide.mpr z]at k;exact NZ k
 ·have e:¬a=c:=‹h›
  refine⟨_,rfl,_,rfl,_,rfl,_,rfl,a,c,rfl,rfl,i,l,?_⟩;have z:(a<c\/a=c/\b<d)↔a<c:=by simp[e]
  rw[decide_eq_decide.mpr z]at k;exact NZ k
theorem m9:NJ ["one","other"] ["one","other"] (ay jy):=⋯
inductive O5:Prop
 |mk (c d g h:Rat) (_:sj=NF c d) (_:sm=NF g h) (_:MY 100000 c) (_:MY 100000 d) (_:MY 100000 g) (_:MY 100000 h) (_:∀s:Rat×Rat,s=(if MZ c d g h then(c,d)else(g,h))->Q (NF s.1 s.2) M)
theorem jg(T:Tx K mg):Cal P w K mg base 3 "earlier_of" (Nk O5):=by
 refine bU (k:=2) T.h5 m9 fun f _ _ _ s H _ b=>⟨_,(av (aH (j8 (dC (aw (du T).m b (ae (dv 0) (ae (dv 1) ak)))) (dv 0) (dv 1)))),fun _ _ M Q h=>?_⟩;obtain⟨c,d,g,a,rfl,rfl,e,i,j,l,k⟩:=h;refine⟨_,rfl,_,rfl,c,d,g,a,rfl,rfl,e,i,j,l,_,rfl,?_⟩;refine bQ (fun h=>?_) (fun h=>?_)
 ·have z:MZ c d g a:=by simpa[MZ]using h
  have:=k (c,d) (by rw[MI z]);exact⟨_,rfl,NZ this⟩
 ·have z:¬MZ c d g a:=by simpa[MZ]using h
  have:=k (g,a) (by rw[ME z]);exact⟨_,rfl,NZ this⟩
theorem cZ:NJ ["plot","ring","first","face"] ["plot","ring"] (ay gx):=⋯
inductive OH:Prop
 |mk (t b X Y:Int) (ws:ro) (p:n_) (r:pe) (_:sj=.tup (ws.map (NP t b X Y))) (_:sm=.ref p) (_:M p=MA (.lst (r.map ry))) (_:OG t b X Y) (_:(∀w∈ws,NM w)) (_:ws.length<=40) (_:0<r.length) (_:(∀g∈r,g<2*ws.length)) (_:Q (O9 t b X Y (fc ws r)) M)
theorem lZ(T:Tx K mg):Cal P w K mg base 4 "first_corner" (Nk OH):=by
 refine bU (k:=3) T.h7 cZ fun f _ _ _ s H _ j=>⟨_,(aq (aD 2 cZ.nd (aB (aw (cF T).m j (ae (dv 0) (ae (aB (dv 1) ao) ak))) ao)) (aq (bV Ju rfl (aT (dv 1)) (aE 3 cZ.nd) (av (aD 2 cZ.nd (aw (jg T).m j (ae (dv 2) (ae (aB (aw (cF T).m j (ae (dv 0) (ae (dv 3) ak))) ao) ak)))))) (av (aH (dv 2))))),fun _ _ M Q h=>?_⟩;obtain⟨t,b,X,Y,ws,p,r,rfl,rfl,v,S,F,G,c,j,k⟩:=h
 obtain⟨n,I,x⟩:∃n I,r=n::I:=by
  cases r with
  |nil=>simp at c
  |cons a l=>exact⟨a,l,rfl⟩
 have q:∀{z:Vc},OB z->MY 100000 (MX t b X 1 z.1)/\MY 100000 (MX t b Y 1 z.2):=fun{z} h=>by
  have one:(0:Int)<1/\(1:Int)<=10^6:=⋯
  exact⟨(S.bx one (by have:=h.1;omega)).mono ⋯,(S.by' one (by have:=h.2;omega)).mono ⋯⟩
 refine⟨_,rfl,_,rfl,_,_,v,(show atI _ ((0:Nat):Int)=MA (.int (n:Int))from bH (by rw[x];rfl)),t,b,X,Y,ws,n,rfl,rfl,j n (by rw[x];simp),(),_,rfl,?_⟩;refine⟨_,rfl,_,v,?_⟩;refine⟨fun i δ u=>u=M/\∃y:rx,δ=[MA (.tup (ws.map (NP t b X Y))),MA (.ref p),MA (O9 t b X Y (RK ws r i)),y],⟨rfl,_,by rw[x];rfl⟩,fun i δ u _ z=>by obtain⟨rfl,_⟩:=z;exact v,?_,?_⟩
 ·rintro i d δ u o hd ⟨rfl,y,rfl⟩;have o:i<r.length:=by have:i<(r.map ry).length:=o;simpa using this
  have hd:(r.map ry)[i]?=MA d:=hd;rw[J6,J0 o]at hd;cases hd;have J:=j r[i] (K1 o);have b1:=oX F j c i ();have B:=pT F J;refine⟨_,rfl,_,rfl,_,rfl,t,b,X,Y,ws,r[i],rfl,rfl,J,(),_,rfl,?_⟩;refine⟨_,_,_,_,rfl,rfl,(q b1).1,(q b1).2,(q B).1,(q B).2,fun s C=>?_⟩;have C:=C.trans (Ge (X:=X) (Y:=Y) S.t0 S.b0 b1 B);subst C;exact⟨rfl,_,by rw[qB (J0 o)];rfl⟩
 ·rintro δ u ⟨rfl,y,rfl⟩;have e:RK ws r (r.map ry).length=fc ws r:=by rw[J4];rfl
  refine⟨_,rfl,NZ ?_⟩;dsimp only;rw[e];exact k
theorem cJ:NJ ["row","spot","low","high","middle"] ["row","spot"] (ay ip):=⋯
inductive OO:Prop
 |mk (l:n_) (t b X Y:Int) (ps:List Vc) (u:Vc) (_:sj=.ref l) (_:sm=O9 t b X Y u) (_:M l=MA (.lst (ps.map (O9 t b X Y)))) (_:OG t b X Y) (_:ps.length<=200) (_:(∀p∈ps,OB p)) (_:OB u) (_:ps.Pairwise OF) (_:∀j:Nat,j<=ps.length->(∀i,i<j->OF (p0 ps i) u)->(∀i,j<=i->i<ps.length->¬OF (p0 ps i) u)->Q (.int (j:Int)) M)
theorem nF(T:Tx K mg):Cal P w K mg base 3 "place_among" (Nk OO):=by
 refine bU (k:=2) T.h_ cJ fun f _ _ _ s H _ v=>⟨_,(aq (gg 2 3 rfl cJ.nd (ae ao (ae (aN cS rfl T.mu cU (ae (dv 0) ak)) ak))) (aq (fL Ju (aL (dQ v.units) (dv 2) (dv 3)) (aq (aD 4 cJ.nd (aC fm (aC aO (dv 2) (dv 3)) ao)) (av (bF (dC (aw (du T).m v (ae (aB (dv 0) (dv 4)) (ae (dv 1) ak)))) (av (aD 2 cJ.nd (aC aO (dv 4) ao))) (av (aD 3 cJ.nd (dv 4))))))) (av (aH (dv 2))))),fun _ _ M Q h=>?_⟩;obtain⟨l,t,b,X,Y,ps,u,rfl,rfl,x,S,O,F,o,y,k⟩:=h;have G:(ps.map (O9 t b X Y)).length=ps.length:=by simp
 refine⟨_,rfl,_,x,_,_,rfl,?_⟩;refine⟨fun m δ B=>B=M/\Pz fun(g d:Nat) (C:rx)=>S1 (δ=[MA (.ref l),MA (O9 t b X Y u),MA (.int (g:Int)),MA (.int (d:Int)),C]) (g<=d) (d<=ps.length) (∀i,i<g->OF (p0 ps i) u) (∀i,d<=i->i<ps.length->¬OF (p0 ps i) u) (m=d-g),⟨_,rfl,0,ps.length,_,by rw[G];rfl,Kj _,J9 _,fun i d=>(),fun i I p=>(),rfl⟩,?_⟩;rintro m δ B ⟨rfl,g,d,C,rfl,I,p,a,c,R⟩;refine⟨_,rfl,_,rfl,trivial,_,rfl,?_⟩;refine bQ (fun h=>?_) (fun h=>?_)
 ·have J:g<d:=by
   have:(g:Int)<(d:Int):=‹h›
   omega
  have n:Int.fdiv ((g:Int)+(d:Int)) 2=(((g+d)/2:Nat):Int):=by rw[Ke _ ⋯];omega
  have j:(g+d)/2<ps.length:=()
  refine⟨_,rfl,_,rfl,⟨⋯,bS ⋯⟩,?_⟩;dsimp only;rw[n];generalize U:(g+d)/2=q at j ⊢;have L:ps[q]?=MA (p0 ps q):=by unfold p0;simp[j]
  have r:=F _ (tQ j);refine⟨_,rfl,_,rfl,_,_,x,bH (by rw[J6,L];rfl),_,rfl,_,_,_,_,rfl,rfl,(r.bx S).mono ⋯,(r.by' S).mono ⋯,(o.bx S).mono ⋯,(o.by' S).mono ⋯,_,rfl,?_⟩;have ah:=xv (X:=X) (Y:=Y) S.t0 S.b0 r o;refine bQ (fun h=>?_) (fun h=>?_)
  ·have z:OF (p0 ps q) u:=ah.mp (by simpa[MZ]using h);refine⟨_,rfl,d-(q+1),(),rfl,q+1,d,_,rfl,(),p,fun i N=>?_,c,rfl⟩;by_cases e:i=q
   ·subst e;exact z
   ·have:=LA.mp y i q () j ();have e1:p0 ps i=ps[i]:=by unfold p0;simp[show i<ps.length by omega]
    have e2:p0 ps q=ps[q]:=by unfold p0;simp[j]
    rw[e2]at z;rw[e1];unfold OF at z this ⊢;omega
  ·have z:¬OF (p0 ps q) u:=fun w=>by
    have:=ah.mpr w
    simp[MZ]at h this
    exact absurd this ‹h›
   refine⟨_,rfl,q-g,(),rfl,g,q,_,rfl,(),(),a,fun i V W=>?_,rfl⟩;by_cases e:i=q
   ·subst e;exact z
   ·have:=LA.mp y q i j () ();have e1:p0 ps i=ps[i]:=by unfold p0;simp[show i<ps.length by omega]
    have e2:p0 ps q=ps[q]:=by unfold p0;simp[j]
    rw[e2]at z;rw[e1];unfold OF at z this ⊢;omega
 ·have:g=d:=by
   have:¬(g:Int)<(d:Int):=‹h›
   omega
  subst this;(repeat (first|refine⟨_,rfl,?_⟩|refine⟨trivial,?_⟩|refine⟨_,_,rfl,?_⟩|refine⟨rfl,?_⟩|refine⟨NL rfl,?_⟩))
  exact NZ (k g p a c)
theorem ez:NJ ["spots","row","spot"] ["spots"] (ay ir):=⋯
inductive OS:Prop
 |mk (l:n_) (t b X Y:Int) (us:List Vc) (_:sj=.ref l) (_:M l=MA (.lst (us.map (O9 t b X Y)))) (_:OG t b X Y) (_:us.length<=200) (_:(∀p∈us,OB p)) (_:us.Nodup) (_:∀(M':MH) (z:n_) (ps:List Vc),SD.Sub M M'->M z=MB->M' z=MA (.lst (ps.map (O9 t b X Y)))->ps.Perm us->ps.Pairwise OF->Q (.ref z) M')
theorem nk(T:Tx K mg):Cal P w K mg base 4 "ahead_first" (P6 OS):=by
 refine eM (k:=3) T.ia ez fun f _ _ _ s H _ hr=>⟨_,(aq (aD 1 ez.nd (aY ak)) (aq (bV Ju rfl (aT (dv 0)) (aE 2 ez.nd) (av (bI (gC (dv 1) (ae (aw (nF T).m hr (ae (dv 1) (ae (dv 2) ak))) (ae (dv 2) ak)))))) (av (aH (dv 1))))),fun _ M Q h=>?_⟩;obtain⟨l,t,b,X,Y,us,rfl,I,S,hn,V,nd,k⟩:=h;refine⟨NL rfl,fun z C=>?_⟩;have J:l≠z:=aA I C;refine⟨_,rfl,us.map (O9 t b X Y),(by show(az M z _) l=_;rw[au J];exact I),?_⟩;refine⟨fun i δ n=>Qw fun(ps:List Vc) (L:rx)=>RW (δ=[MA (.ref l),MA (.ref z),L]) (SD.Sub M n) (n z=MA (.lst (ps.map (O9 t b X Y)))) (ps.Perm (us.take i)) (ps.Pairwise OF),⟨[],_,rfl,.new C .refl,ag,by simp,List.Pairwise.nil⟩,fun i δ n _ q=>by obtain⟨_,_,_,x,_⟩:=q;exact x _ _ I,?_,?_⟩
 ·rintro i d δ n hi hd ⟨ps,L,rfl,x,g,r,F⟩;have hd:(us.map (O9 t b X Y))[i]?=MA d:=hd;rw[J6]at hd;cases v:us[i]? with
  |none=>rw[v]at hd;cases hd
  |some u=>
   rw[v]at hd
   cases hd
   have iu:i<us.length:=(Jq.mp v).1
   have N:us[i]=u:=(Jq.mp v).2
   have W:=V u (J8 v)
   have O:∀p∈ps,p∈us:=fun p y=>List.mem_of_mem_take (r.mem_iff.mp y)
   have B:∀p∈ps,OB p:=fun p y=>V p (O p y)
   have a0:ps.length=i:=by rw[r.length_eq,LC];omega
   have nu:u∉ps:=fun y=>by
    have:=r.mem_iff.mp y
    obtain⟨j,G,Z⟩:=List.getElem_of_mem this
    have R:j<i:=by rw[LC]at G;omega
    rw[List.getElem_take]at Z
    have:=LA.mp nd j i () iu R
    exact this (Z.trans N.symm)
   refine⟨_,rfl,z,_,rfl,g,_,rfl,_,rfl,z,t,b,X,Y,ps,u,rfl,rfl,g,S,(),B,W,F,fun j G a c=>?_⟩
   obtain⟨i1,i2⟩:=Fh F G a fun i h1 U=>Bo (B _ (tQ U)) W (fun e=>nu (e▸tQ U)) (c i h1 U)
   refine⟨_,rfl,_,_,j,rfl,g,by rw[J4];exact G,by rw[J4];omega,gD ps j u,_,rfl,fun a o h=>?_,by rw[ag,m5],?_,i1⟩
   ·rw[au (aA h C)];exact x _ _ h
   ·rw[Kx,v];exact i2.trans ((List.Perm.cons u r).trans (List.perm_append_singleton u (us.take i)).symm)
 ·rintro δ n ⟨ps,L,rfl,x,g,r,F⟩;have e:us.take (us.map (O9 t b X Y)).length=us:=by rw[J4,Lo]
  exact⟨_,rfl,n,.refl,k n z ps x C g (by rw[<-e];exact r) F⟩
theorem zL:NJ ["wall","spot"] ["wall","spot"] (ay uW):=⋯
inductive Qx:Prop
 |mk (n:Nat) (a b c d x y:Rat) (_:sj=MW a b c d) (_:sm=NF x y) (_:MY n a) (_:MY n b) (_:MY n c) (_:MY n d) (_:MY n x) (_:MY n y) (_:n<=100000) (_:Q (.bl (!decide (MZ x y a b)&&decide (MZ x y c d))) M)
theorem A8(T:Tx K mg):Cal P w K mg base 3 "spans" (Nk Qx):=by
 refine bU (k:=2) T.ij zL fun f _ _ _ s H _ i=>⟨_,(av (aH (xt (Ek (aw (du T).m i (ae (dv 1) (ae (aB (dv 0) ao) ak)))) (sU (aw (du T).m i (ae (dv 1) (ae (aB (dv 0) ao) ak))))))),fun _ _ M Q h=>?_⟩;obtain⟨n,a,b,c,d,x,y,rfl,rfl,o,p,r,hd,j,l,t,k⟩:=h;have e:∀{q:Rat},MY n q->MY 100000 q:=fun z=>z.mono t;(try dsimp only[SD.gP,SD.eD,SD.aR,SD.iG,SD.iF,SD.dG,SD.fu,SD.tBD,SD.iw,SD.EndsD.nxt,SD.EndsD.lp])
 exact GV (!decide (MZ x y a b)) (decide (MZ x y c d)) (fun K g=>⟨_,rfl,_,rfl,_,rfl,x,y,a,b,rfl,rfl,e j,e l,e o,e p,_,rfl,g⟩) (fun _ K g=>⟨_,rfl,_,rfl,_,rfl,x,y,c,d,rfl,rfl,e j,e l,e r,e hd,g⟩) (NZ k)
theorem qe:NJ ["one","other"] ["one","other"] (ay mh):=⋯
inductive PX:Prop
 |mk (a b e f:Rat) (_:sj=NF a b) (_:sm=NF e f) (_:MY 100000 a) (_:MY 100000 b) (_:MY 100000 e) (_:MY 100000 f) (_:∀s:Rat×Rat,s=(if MZ e f a b then(a,b)else(e,f))->Q (NF s.1 s.2) M)
theorem tI(T:Tx K mg):Cal P w K mg base 3 "later_of" (Nk PX):=by
 refine bU (k:=2) T.i7 qe fun f _ _ _ s H _ c=>⟨_,(av (aH (j8 (dC (aw (du T).m c (ae (dv 1) (ae (dv 0) ak)))) (dv 0) (dv 1)))),fun _ _ M Q h=>?_⟩;obtain⟨a,b,e,f,rfl,rfl,d,g,i,j,k⟩:=h;refine⟨_,rfl,_,rfl,e,f,a,b,rfl,rfl,i,j,d,g,_,rfl,?_⟩;refine bQ (fun h=>?_) (fun h=>?_)
 ·have z:MZ e f a b:=by simpa[MZ]using h
  have:=k (a,b) (by rw[MI z]);exact⟨_,rfl,NZ this⟩
 ·have z:¬MZ e f a b:=by simpa[MZ]using h
  have:=k (e,f) (by rw[ME z]);exact⟨_,rfl,NZ this⟩
theorem eW:NJ ["one","other","start","end","place","deciding"] ["one","other"] (ay my):=⋯
inductive P0:Prop
 |mk (t b X Y:Int) (U V:Wl) (_:sj=NP t b X Y U) (_:sm=NP t b X Y V) (_:OG t b X Y) (_:NM U) (_:NM V) (_:Q (.bl (NS U V)) M)
theorem tG(T:Tx K mg):Cal P w K mg base 4 "is_above" (Nk P0):=by
 refine bU (k:=3) T.i_ eW fun f _ _ _ s H _ x=>⟨_,(aq (gg 2 3 rfl eW.nd (ae (aw (tI T).m x (ae (aB (dv 0) ao) (ae (aB (dv 1) ao) ak))) (ae (aw (jg T).m x (ae (aB (dv 0) ao) (ae (aB (dv 1) ao) ak))) ak))) (aq (bF (sf (dC (aw (du T).m x (ae (dv 2) (ae (dv 3) ak))))) (av (aH mX)) aS) (aq (cu (j8 (aL (cQ x.units) (aB (dv 0) ao) (aB (dv 1) ao)) (aI (ae ao (ae (dv 3) ak))) (aI (ae ao (ae (dv 2) ak)))) (bM rfl (aF (aE 4 eW.nd) (aF (aE 5 eW.nd) bj)))) (aq (bF (aL (cQ x.units) (dv 5) (aB (dv 0) (dv 4))) (av (aH (cg (cQ x.units) (aw (d6 T).m x (ae (dv 1) (ae (dv 5) ak))) ao))) aS) (av (aH (cg (cQ x.units) (aw (d6 T).m x (ae (dv 0) (ae (dv 5) ak))) (ko eZ ao)))))))),fun _ _ M Q h=>?_⟩;obtain⟨t,b,X,Y,U,V,rfl,rfl,S,g,i,k⟩:=h;have C:=S.t0;have F:=S.b0;have one:(0:Int)<1/\(1:Int)<=10^6:=⋯
 have W6:∀{z:Int},(0<=z/\z<=20)->(-(10^6)<=z/\z<=10^6):=fun{z} h=>()
 have bx:∀{z:Int},(0<=z/\z<=20)->MY 200 (MX t b X 1 z):=fun{z} h=>S.bx one (W6 h);have by':∀{z:Int},(0<=z/\z<=20)->MY 200 (MX t b Y 1 z):=fun{z} h=>S.by' one (W6 h)
 have n:∀{q:Rat},MY 200 q->MY 100000 q:=fun z=>z.mono ⋯
 have W:∃r u:Int,(if MZ (MX t b X 1 V.1) (MX t b Y 1 V.2.1) (MX t b X 1 U.1) (MX t b Y 1 U.2.1)then(MX t b X 1 U.1,MX t b Y 1 U.2.1)else(MX t b X 1 V.1,MX t b Y 1 V.2.1))=(MX t b X 1 r,MX t b Y 1 u)/\(0<=r/\r<=20)/\(0<=u/\u<=20)/\la r u=max (l1 U) (l1 V)/\((l1 V<l1 U/\r=U.1/\u=U.2.1)\/(¬l1 V<l1 U/\r=V.1/\u=V.2.1)):=by
  have z:=mw (X:=X) (Y:=Y) (p:=V.1) (q:=V.2.1) (e:=U.1) (f:=U.2.1) C F i.b g.b
  by_cases y:la V.1 V.2.1<la U.1 U.2.1
  ·exact⟨U.1,U.2.1,by rw[MI (z.mpr y)],g.a,g.b,by unfold l1;omega,.inl ⟨y,rfl,rfl⟩⟩
  ·exact⟨V.1,V.2.1,by rw[ME (fun q=>y (z.mp q))],i.a,i.b,by unfold l1;omega,.inr ⟨y,rfl,rfl⟩⟩
 have G:∃ex v:Int,(if MZ (MX t b X 1 U.2.2.1) (MX t b Y 1 U.2.2.2) (MX t b X 1 V.2.2.1) (MX t b Y 1 V.2.2.2)then(MX t b X 1 U.2.2.1,MX t b Y 1 U.2.2.2)else(MX t b X 1 V.2.2.1,MX t b Y 1 V.2.2.2))=(MX t b X 1 ex,MX t b Y 1 v)/\(0<=ex/\ex<=20)/\(0<=v/\v<=20)/\la ex v=min (l2 U) (l2 V)/\((l2 U<l2 V/\ex=U.2.2.1/\v=U.2.2.2)\/(¬l2 U<l2 V/\ex=V.2.2.1/\v=V.2.2.2)):=by
  have z:=mw (X:=X) (Y:=Y) (p:=U.2.2.1) (q:=U.2.2.2) (e:=V.2.2.1) (f:=V.2.2.2) C F g.d i.d
  by_cases y:la U.2.2.1 U.2.2.2<la V.2.2.1 V.2.2.2
  ·exact⟨U.2.2.1,U.2.2.2,by rw[MI (z.mpr y)],g.c,g.d,by unfold l2;omega,.inl ⟨y,rfl,rfl⟩⟩
  ·exact⟨V.2.2.1,V.2.2.2,by rw[ME (fun q=>y (z.mp q))],i.c,i.d,by unfold l2;omega,.inr ⟨y,rfl,rfl⟩⟩
 obtain⟨r,u,es,Z,I,ls,cs⟩:=W;obtain⟨ex,v,ee,a0,J,le,ce⟩:=G;refine⟨_,rfl,_,rfl,_,rfl,_,rfl,_,_,_,_,rfl,rfl,n (bx g.a),n (by' g.b),n (bx i.a),n (by' i.b),fun s1 c0=>?_⟩;rw[es]at c0;subst c0;refine⟨_,rfl,_,rfl,_,rfl,_,rfl,_,_,_,_,rfl,rfl,n (bx g.c),n (by' g.d),n (bx i.c),n (by' i.d),fun s2 d0=>?_⟩;rw[ee]at d0;subst d0;refine⟨_,_,rfl,?_⟩;refine⟨_,rfl,_,rfl,MX t b X 1 r,MX t b Y 1 u,MX t b X 1 ex,MX t b Y 1 v,rfl,rfl,n (bx Z),n (by' I),n (bx a0),n (by' J),_,rfl,?_⟩;have L:=mw (X:=X) (Y:=Y) (p:=r) (q:=u) (e:=ex) (f:=v) C F I J;rw[ls,le]at L;refine bQ (fun h=>?_) (fun h=>?_)
 ·have N:¬(max (l1 U) (l1 V)<min (l2 U) (l2 V)):=fun z=>by
   have z':=L.mpr z
   unfold MZ at z'
   simp[z']at h
  have e:NS U V=MD:=by unfold NS;rw[ME N]
  rw[e]at k;exact NZ k
 have N:max (l1 U) (l1 V)<min (l2 U) (l2 V):=L.mp (Decidable.byContradiction fun z=>h ((Bool.not_eq_true' _).mpr (MJ z)));dsimp only[SD.dG];refine bX (fun δ M'=>M'=M/\WJ fun(pl j l O B:Int) (o2 o3:rx)=>δ=[MA (NP t b X Y U),MA (NP t b X Y V),o2,o3,MA (.int pl),MA (NF (MX t b X 1 j) (MX t b Y 1 l))]/\atI [NF (MX t b X 1 U.1) (MX t b Y 1 U.2.1),NF (MX t b X 1 U.2.2.1) (MX t b Y 1 U.2.2.2)] pl=MA (NF (MX t b X 1 O) (MX t b Y 1 B))/\(0<=j/\j<=20)/\(0<=l/\l<=20)/\(0<=B/\B<=20)/\(la j l=la O B->decide (0<sd V j l)=NS U V)/\(la j l≠la O B->decide (sd U j l<0)=NS U V)) ?_ (fun hu=>?_);rotate_left
 ·refine⟨_,rfl,_,rfl,_,rfl,_,rfl,_,_,Pd.of rfl,Pd.of rfl,rfl,rfl,?_⟩;rw[ND];refine⟨_,rfl,?_⟩;have q1:=jh (X:=X) (Y:=Y) (p:=U.1) (q:=U.2.1) (e:=V.1) (f:=V.2.1) C F g.b i.b;refine bQ (fun h=>?_) (fun h=>?_)
  ·have e1:l1 U=l1 V:=q1.mp ‹h›;refine⟨_,rfl,NL rfl,?_⟩;refine⟨_,rfl,rfl,_,_,rfl,_,_,rfl,rfl,?_⟩;refine hu _ _ ⟨rfl,1,ex,v,U.2.2.1,U.2.2.2,_,_,rfl,rfl,a0,J,g.d,fun z=>?_,fun z=>?_⟩
   ·rcases ce with⟨o,rfl,rfl⟩|⟨o,rfl,rfl⟩
    ·unfold NS;rw[MI N,MI e1,MI o];rfl
    ·have y1:NT U V=0:=qj g i z.symm;have y2:sd V V.2.2.1 V.2.2.2=0:=qj i i rfl;unfold NS;rw[MI N,MI e1,ME o,y1,y2]
   ·rcases ce with⟨o,rfl,rfl⟩|⟨o,rfl,rfl⟩
    ·exact absurd rfl z
    ·unfold NS;rw[MI N,MI e1,ME o];rfl
  ·have e1:¬l1 U=l1 V:=fun z=>h ‹q1.mpr z›;refine⟨_,rfl,NL rfl,?_⟩;refine⟨_,rfl,rfl,_,_,rfl,_,_,rfl,rfl,?_⟩;refine hu _ _ ⟨rfl,0,r,u,U.1,U.2.1,_,_,rfl,rfl,Z,I,g.b,fun z=>?_,fun z=>?_⟩
   ·rcases cs with⟨o,rfl,rfl⟩|⟨o,rfl,rfl⟩
    ·unfold NS;rw[MI N,ME e1,MI o];rfl
    ·exact absurd z.symm e1
   ·rcases cs with⟨o,rfl,rfl⟩|⟨o,rfl,rfl⟩
    ·exact absurd rfl z
    ·unfold NS;rw[MI N,ME e1,ME o];rfl
 rintro δ M' ⟨rfl,pl,j,l,O,B,o2,o3,rfl,f0,e0,R,g0,c1,c2⟩;refine⟨_,rfl,_,rfl,_,rfl,_,f0,_,_,Pd.of rfl,Pd.of rfl,rfl,rfl,?_⟩;rw[ND];have q2:=jh (X:=X) (Y:=Y) (p:=j) (q:=l) (e:=O) (f:=B) C F R g0;refine⟨_,rfl,?_⟩;refine bQ (fun h=>?_) (fun h=>?_)
 ·have z:la j l=la O B:=q2.mp ‹h›;refine⟨_,rfl,_,rfl,200,_,_,_,_,_,_,rfl,rfl,bx i.a,by' i.b,bx i.c,by' i.d,bx e0,by' R,⋯,?_⟩;rw[jP C F];have e:decide (JG (sd V j l)=1)=NS U V:=by rw[<-c1 z,MM];exact YH _
  show SV Q (.bl (decide _)) _;rw[e];exact NZ k
 ·have z:la j l≠la O B:=fun q=>h ‹q2.mpr q›;refine⟨_,rfl,_,rfl,200,_,_,_,_,_,_,rfl,rfl,bx g.a,by' g.b,bx g.c,by' g.d,bx e0,by' R,⋯,?_⟩;rw[jP C F];have e:decide (JG (sd U j l)=-1)=NS U V:=by rw[<-c2 z,MM];exact IP _
  show SV Q (.bl (decide _)) _;rw[e];exact NZ k
theorem gO:NJ ["top","bottom","divisor"] ["top","bottom"] (ay mG):=⋯
inductive P5:Prop
 |mk (t:_) (b:_) (_:sj=.int t) (_:sm=.int b) (_:b≠0) (_:Bd 8000 t) (_:Bd 8000 b) (_:Q (NG (Rat.divInt t b)) M)
theorem mY(T:Tx K mg):Cal P w K mg base 2 "fraction" (Nk P5):=by
 refine bU (k:=1) T.jl gO fun f _ _ _ s H _ e=>⟨_,(aq (bF (aL (cQ e.units) (dv 1) ao) (av yw) aS) (aq (aD 2 gO.nd (aw (d7 T).m e (ae (aN pE rfl T.k' oU (ae (dv 0) ak)) (ae (aN pE rfl T.k' oU (ae (dv 1) ak)) ak)))) (aq (bF (aL (dQ e.units) (dv 1) ao) (av (aD 2 gO.nd (ko eZ (dv 2)))) aS) (av (aH (aI (ae (aC fm (dv 0) (dv 2)) (ae (aC fm (dv 1) (dv 2)) ak)))))))),fun _ _ M Q h=>?_⟩;obtain⟨t,b,rfl,rfl,i,j,g,q⟩:=h;have l:=Ma.fF (t:=t) i;have a:Bd 8000 ((Mf t.natAbs b.natAbs:Nat):Int):=g.of_le ‹Nat.gcd_le_right t.natAbs (():0<b.natAbs)›;refine⟨_,rfl,_,rfl,jn (MJ i) ?_⟩;refine⟨_,rfl,_,rfl,t.natAbs,b.natAbs,rfl,rfl,?_⟩;refine⟨_,rfl,trivial,_,rfl,?_⟩;refine bQ (fun h=>?_) (fun h=>?_)
 ·have c:b<0:=‹h›
  obtain⟨e1,e2⟩:=Ma.vy (t:=t) c;refine⟨_,rfl,_,rfl,_,rfl,⟨(),a.neg⟩,_,rfl,_,rfl,⟨(),a.neg⟩,NL rfl,?_⟩;dsimp only;rw[e1,e2];exact NZ q
 ·have d:0<b:=by
   have:¬b<0:=‹h›
   omega
  obtain⟨e1,e2⟩:=Ma.uC (t:=t) d;refine⟨_,rfl,_,rfl,⟨(),a⟩,_,rfl,_,rfl,⟨(),a⟩,NL rfl,?_⟩;dsimp only;rw[e1,e2];exact NZ q
theorem gJ:NJ ["spot","x","y"] ["spot"] (ay m7):=⋯
inductive PL:Prop
 |mk (a b:Rat) (_:sj=NF a b) (_:MY 8000 a) (_:MY 8000 b) (_:Q (NF a b) M)
theorem lN(T:Tx K mg):Cal P w K mg base 3 "own_spot" (P6 PL):=by refine eM (k:=2) T.jm gJ fun f _ _ _ s H _ c=>⟨_,(aq (cu (dv 0) (bM rfl (aF (aE 1 gJ.nd) (aF (aE 2 gJ.nd) bj)))) (av (aH (aI (ae (aw (mY T).m c (ae (aB (dv 1) ao) (ae (aB (dv 1) ao) ak))) (ae (aw (mY T).m c (ae (aB (dv 2) ao) (ae (aB (dv 2) ao) ak))) ak)))))),fun _ M Q h=>?_⟩;obtain⟨a,b,rfl,d,e,k⟩:=h;refine⟨_,rfl,_,rfl,rfl,_,_,rfl,_,_,rfl,rfl,?_⟩;refine⟨_,rfl,_,rfl,_,rfl,_,rfl,a.num,(a.den:Int),rfl,rfl,NI a,d.1,d.2,?_⟩;refine⟨_,rfl,_,rfl,_,rfl,_,rfl,b.num,(b.den:Int),rfl,rfl,NI b,e.1,e.2,NL rfl,?_⟩;rw[Rat.num_divInt_den,Rat.num_divInt_den];exact NZ k
theorem qr:NJ ["wall"] ["wall"] (ay lU):=⋯
inductive PK:Prop
 |mk (a b c d:Rat) (_:sj=MW a b c d) (_:MY 8000 a) (_:MY 8000 b) (_:MY 8000 c) (_:MY 8000 d) (_:Q (MW a b c d) M)
theorem tR(T:Tx K mg):Cal P w K mg base 4 "own_wall" (P6 PK):=by refine eM (k:=3) T.j_ qr fun f _ _ _ s H _ e=>⟨_,(av (aH (aI (ae (aw (lN T).m e (ae (aB (dv 0) ao) ak)) (ae (aw (lN T).m e (ae (aB (dv 0) ao) ak)) ak))))),fun _ M Q h=>?_⟩;obtain⟨a,b,c,d,rfl,g,i,j,l,k⟩:=h;exact⟨_,rfl,_,rfl,a,b,rfl,g,i,_,rfl,_,rfl,c,d,rfl,j,l,NL rfl,NZ k⟩
theorem eY:NJ ["walls","upper","wall"] ["walls"] (ay ml):=⋯
inductive PD:Prop
 |mk (a:n_) (t b X Y:Int) (us:ro) (top:Wl) (_:sj=.ref a) (_:M a=MA (.lst (us.map (NP t b X Y)))) (_:OG t b X Y) (_:(∀w∈us,NM w)) (_:top∈us) (_:(∀w∈us,w=top\/(NS top w=MC/\NS w top=MD))) (_:Q (NP t b X Y top) M)
theorem sV(T:Tx K mg):Cal P w K mg base 5 "upper_of" (P6 PD):=by
 refine eM (k:=4) T.ka eY fun f _ _ _ s H _ C=>⟨_,(aq (aD 1 eY.nd (aB (dv 0) ao)) (aq (bV Ju rfl (aT (dv 0)) (aE 2 eY.nd) (av (bF (dC (aw (tG T).m C (ae (dv 2) (ae (dv 1) ak)))) (av (aD 1 eY.nd (dv 2))) aS))) (av (aH (aw (tR T).m C (ae (dv 1) ak)))))),fun _ M Q h=>?_⟩;obtain⟨a,t,b,X,Y,us,top,rfl,u,S,x,D,F,k⟩:=h;cases us with
 |nil=>cases D
 |cons g us=>
  refine⟨_,rfl,_,_,u,bH (j:=0) (v:=NP t b X Y g) rfl,?_⟩
  refine⟨_,rfl,(g::us).map (NP t b X Y),u,?_⟩
  refine⟨fun i δ p=>p=M/\Qw fun l y=>δ=[MA (.ref a),MA (NP t b X Y l),y]/\l∈g::us/\(top∈(g::us).take i->l=top),⟨rfl,g,_,rfl,by simp,fun z=>by simp at z⟩,fun i δ p _ z=>by obtain⟨rfl,_⟩:=z;exact u,?_,?_⟩
  ·rintro i d δ p L hd ⟨rfl,l,y,rfl,n,o⟩;have hd:((g::us).map (NP t b X Y))[i]?=MA d:=hd;rw[J6]at hd;cases r:(g::us)[i]? with
   |none=>rw[r]at hd;cases hd
   |some w=>
    rw[r]at hd
    cases hd
    have B:w∈g::us:=J8 r
    have G:∀z,z∈(g::us).take (i+1)->z∈(g::us).take i\/z=w:=fun z I=>by rw[Kx,r]at I;simpa using I
    refine⟨_,rfl,_,rfl,t,b,X,Y,w,l,rfl,rfl,S,x w B,x l n,_,rfl,?_⟩
    refine bQ (fun h=>?_) (fun h=>?_)
    ·refine⟨_,rfl,rfl,w,_,rfl,B,fun z=>?_⟩;rcases G _ z with z|z
     ·have:=o z;subst this;rcases F w B with q|q
      ·exact q
      ·rw[q.2]at h;cases h
     ·exact z.symm
    ·refine⟨rfl,l,_,rfl,n,fun z=>?_⟩;rcases G _ z with z|z
     ·exact o z
     ·subst z;rcases F l n with q|q
      ·exact q
      ·exact absurd q.1 h
  ·rintro δ p ⟨rfl,l,y,rfl,n,o⟩;have e:l=top:=o (by show top∈(g::us).take ((g::us).map (NP t b X Y)).length;rw[Kw (by simp)];exact D);subst e;have W:=x l n;have one:(0:Int)<1/\(1:Int)<=10^6:=⋯
   have J:∀{z:Int},(0<=z/\z<=20)->(-(10^6)<=z/\z<=10^6):=fun{z} h=>()
   have bx:∀{z:Int},(0<=z/\z<=20)->MY 8000 (MX t b X 1 z):=fun{z} h=>(S.bx one (J h)).mono ⋯;have by':∀{z:Int},(0<=z/\z<=20)->MY 8000 (MX t b Y 1 z):=fun{z} h=>(S.by' one (J h)).mono ⋯
   exact⟨_,rfl,_,_,_,_,rfl,bx W.a,by' W.b,bx W.c,by' W.d,NZ k⟩
theorem gM:NJ ["walls","spot","below"] ["walls","spot"] (ay iA):=⋯
inductive ON:Prop
 |mk (t b X Y:Int) (x y:Rat) (ws:ro) (_:sj=.tup (ws.map (NP t b X Y))) (_:sm=NF x y) (_:OG t b X Y) (_:(∀w∈ws,NM w)) (_:PF ws) (_:ws.length<=40) (_:MY 200 x) (_:MY 200 y) (_:(bT t b X Y ws x y=[]->Q .non M)) (_:∀tt∈bT t b X Y ws x y,(∀w∈(bT t b X Y ws x y).map (NU ws),w=NU ws tt\/(NS (NU ws tt) w=MC/\NS w (NU ws tt)=MD))->Q (NP t b X Y (NU ws tt)) M)
theorem nh(T:Tx K mg):Cal P w K mg base 6 "upper_below" (Nk ON):=by
 refine bU (k:=5) T.kc gM fun f _ _ _ s H _ p=>⟨_,(aq (cX 2 gM.nd (NK.of (xs:=["wall"]) (js:=[1]) rfl) rfl (aT (dv 0)) (fun _ _ _ _=>(g8 (mz (gG (dC (aw (A8 T).m p (ae (dv 0) (ae (dv 1) ak)))) (eV (aL (cQ p.units) (aw (d6 T).m p (ae (dv 0) (ae (dv 1) ak))) ao)))))) (fun _ _ _ _=>(dv 0))) (av (aH (j8 (Fn (dv 2)) (aw (sV T).m p (ae (dv 2) ak)) gL)))),fun _ _ M Q h=>?_⟩;obtain⟨t,b,X,Y,x,y,ws,rfl,rfl,S,B,hF,G,I,J,U,k1⟩:=h;have C:(ws.map (NP t b X Y)).length=ws.length:=by simp
 have one:(0:Int)<1/\(1:Int)<=10^6:=⋯
 have L:∀{z:Int},(0<=z/\z<=20)->(-(10^6)<=z/\z<=10^6):=fun{z} h=>()
 have bx:∀{z:Int},(0<=z/\z<=20)->MY 200 (MX t b X 1 z):=fun{z} h=>S.bx one (L h);have by':∀{z:Int},(0<=z/\z<=20)->MY 200 (MX t b Y 1 z):=fun{z} h=>S.by' one (L h)
 refine⟨_,rfl,ws.map (NP t b X Y),rfl,ig (fun j=>if Bt t b X Y x y (wn ws j)=MC then MA (NP t b X Y (wn ws j))else MB) (by show(ws.map (NP t b X Y)).length<=1000000;rw[C];omega) (fun _ _ _=>rfl) ?_ (fun N i=>?_)⟩
 ·intro a d V O hd sb;have hd:(ws.map (NP t b X Y))[a]?=MA d:=hd;have O:a<ws.length:=by have:a<(ws.map (NP t b X Y)).length:=O;omega
  obtain⟨R,w2,Z⟩:=bz (ws:=ws) (k:=(a:Int)) () ();have D:ws[a]?=MA (wn ws a):=by rw[L9]at R;exact R
  rw[J6,D]at hd;cases hd;have W:=B _ Z;refine⟨_,rfl,fun K q=>?_,fun v r K q=>?_⟩
  ·have n:K (Bt t b X Y x y (wn ws a)) V:=by cases z:Bt t b X Y x y (wn ws a)<;>rw[z]at q<;>exact q
   unfold Bt at n;exact xa _ _ (fun K' g=>⟨_,rfl,_,rfl,200,_,_,_,_,_,_,rfl,rfl,bx W.a,by' W.b,bx W.c,by' W.d,I,J,⋯,_,rfl,g⟩) (fun _ K' g=>⟨_,rfl,_,rfl,200,_,_,_,_,_,_,rfl,rfl,bx W.a,by' W.b,bx W.c,by' W.d,I,J,⋯,_,rfl,g⟩) n
  ·cases z:Bt t b X Y x y (wn ws a)with
   |false=>rw[z]at r;cases r
   |true=>
    rw[z]at r
    cases r
    exact⟨_,rfl,q _ .refl⟩
 dsimp only;rw[yR];refine⟨_,rfl,N,_,rfl,ag,?_⟩;by_cases u:bT t b X Y ws x y=[]
 ·rw[u];exact jn rfl ⟨_,.new i .refl,U u⟩
 ·obtain⟨F,o,e⟩:=Fj S.t0 S.b0 B hF u
  refine xU (by
   cases z:bT t b X Y ws x y with
   |nil=>exact absurd z u
   |cons a l=>rfl) ?_
  refine⟨_,rfl,N,t,b,X,Y,(bT t b X Y ws x y).map (NU ws),NU ws F,rfl,ag,S,fun w hw=>?_,JQ.mpr ⟨F,o,rfl⟩,e,⟨_,.new i .refl,k1 F o e⟩⟩;obtain⟨kk,hk,rfl⟩:=JQ.mp hw;obtain⟨j,rfl,j1,_⟩:=pM.mp hk;exact aM B j1
theorem ix:NJ ["plot","lands","corner","wall"] ["plot","lands","corner"] (ay ju):=⋯
inductive O4:Prop
 |mk (t b X Y:Int) (ws:ro) (l:n_) (L:pq) (c:Vc) (_:sj=.tup (ws.map (NP t b X Y))) (_:sm=.ref l) (_:sv=O9 t b X Y c) (_:M l=MA (.lst (L.map D.int))) (_:L.length=2*ws.length) (_:OG t b X Y) (_:(∀w∈ws,NM w)) (_:PF ws) (_:ws.length<=40) (_:OB c) (_:Q (.int (Ow ws L c)) M)
theorem oP(T:Tx K mg):Cal P w K mg base 7 "land_about" (RZ O4):=by
 refine lG (k:=6) T.ke ix fun f _ _ _ s H _ x=>⟨_,(aq (aD 3 ix.nd (aw (nh T).m x (ae (dv 0) (ae (dv 2) ak)))) (av (aH (j8 (aL Ca (dv 3) gL) ao (aB (dv 1) (aC aU ao (t8 (iY x) (dv 0) (ae (dv 3) ak)))))))),fun _ _ _ M Q h=>?_⟩;obtain⟨t,b,X,Y,ws,l,L,c,rfl,rfl,rfl,C,J,S,j,hF,n,u,k⟩:=h;have N:=u.1;have O:=u.2;have F:=FH (X:=X) (Y:=Y) S.t0 S.b0 j (p:=c.1) (q:=c.2) ();refine⟨_,rfl,_,rfl,t,b,X,Y,_,_,ws,rfl,rfl,S,j,hF,n,u.bx S,u.by' S,(fun G=>?_),(fun a d o=>?_)⟩<;>rw[F]at *
 ·have k:Q (.int 0) M:=by unfold Ow at k;rw[MI G]at k;exact k
  exact⟨_,rfl,_,rfl,_,rfl,xU rfl (NZ k)⟩
 ·have sp:=i9 (jY d);obtain⟨z,R,I⟩:=bz sp.1 sp.2.1;have tn:a.toNat<ws.length:=()
  have k:Q (.int ((L[2*a.toNat]?).getD 0)) M:=by unfold Ow at k;rw[ME (L0 d),AV j hF d o]at k;exact k
  have B:2*a.toNat<L.length:=()
  rw[J0 B]at k;refine⟨_,rfl,_,rfl,_,rfl,jn rfl ?_⟩;refine⟨_,rfl,_,rfl,_,rfl,_,rfl,_,R0 t b X Y (NU ws a),a.toNat,rfl,(by simp;omega),Pd.of rfl,rfl,fun i y V r=>?_,?_⟩
  ·rw[J6]at r;cases g:ws[i]? with
   |none=>rw[g]at r;cases r
   |some U=>
    rw[g]at r
    cases r
    refine⟨R0 t b X Y U,Pd.of rfl,rfl,?_⟩
    by_cases e:i=a.toNat
    ·subst e;rw[z]at g;cases g;rw[xF,MK rfl]
    ·rw[MJ e];exact EN S.t0 S.b0 (j _ (J8 g)) (j _ I) (hF i a.toNat _ _ e g z).ne
  ·refine⟨bC (bS ⋯),_,_,C,(by rw[show(2:Int)*((a.toNat:Nat):Int)=((2*a.toNat:Nat):Int) by omega];exact bH (v:=D.int L[2*a.toNat]) (by rw[J6,J0 B];rfl)),NZ k⟩
theorem aP:NJ ["plot","outers","inners","lands","number","ring","face","ring_at","corner","land"] ["plot"] (ay fQ):=⋯
inductive Ny:Prop
 |mk (t b X Y:Int) (ws:ro) (_:sj=.tup (ws.map (NP t b X Y))) (_:OG t b X Y) (_:ws.length<=40) (_:(∀w∈ws,NM w)) (_:PF ws) (_:∀(M':MH) (z:n_) (L:pq),SD.Sub M M'->M z=MB->M' z=MA (.lst (L.map D.int))->c7 ws L->Q (.ref z) M')
theorem j3(T:Tx K mg):Cal P w K mg base 9 "lands_of_faces" (P6 Ny):=by
 refine eM (k:=8) T.kq aP fun f cdv A outer s H E O=>⟨_,(aq (cu (aw (ff T).m O (ae (dv 0) ak)) (bM rfl (aF (aE 1 aP.nd) (aF (aE 2 aP.nd) bj)))) (aq (aD 3 aP.nd (aC uT (aY (ae ao ak)) (aC aU ao (aN cS rfl T.mu cU (ae (dv 0) ak))))) (aq (bV Ju rfl (zP rfl T.lu (ae (dv 1) ak)) (bM rfl (aF (aE 4 aP.nd) (aF (aE 5 aP.nd) bj))) (av (bV Ju rfl (aT (dv 5)) (aE 6 aP.nd) (av (cu (dv 4) (l6 (dv 3) (dv 6))))))) (aq (wG 7 aP.nd (iY O) (NK.of (xs:=["ring"]) (js:=[0]) rfl) rfl (aT (dv 2)) (fun _ _ _ _=>cD) (fun _ _ _ _=>(aw (lZ T).m O (ae (dv 1) (ae (dv 0) ak)))) (fun _ _ _ _=>(dv 0))) (aq (bV Ju rfl (aT (aw (nk T).m O (ae (c9 (zy rfl) rfl T.mx uV (ae (dv 7) ak)) ak))) (aE 8 aP.nd) (aq (aD 9 aP.nd (aw (oP T).m O (ae (dv 0) (ae (dv 3) (ae (dv 8) ak))))) (av (bV Ju rfl (aT (qq (iY O) (dv 7) (dv 8) (by intro _ _;with_unfolding_all rfl))) (aE 6 aP.nd) (av (cu (dv 9) (l6 (dv 3) (dv 6)))))))) (av (aH (dv 3)))))))),fun _ M Q h=>?_⟩;obtain⟨t,b,X,Y,ws,rfl,S,U,hU,hF,k⟩:=h;have e0:(ws.map (NP t b X Y)).length=ws.length:=by simp
 refine⟨_,rfl,t,b,X,Y,ws,rfl,S,U,hU,hF,fun M1 lo li ps qs rs m0 R ho hi RO RI m1 n1 o1=>?_⟩;refine⟨_,rfl,rfl,_,_,rfl,_,_,rfl,rfl,?_⟩;have RO:=RO;generalize J:rs.filter (aG ws)=l at RO;generalize N:(rs.filter fun r=>!aG ws r)=ins at RI;have d0:=f6 hU hF (J9 _) R;have p1:=gX R;have q1:l.length<=80:=by rw[<-J];have:=KI (aG ws) rs;omega
 have r1:ins.length<=80:=by rw[<-N];have:=KI (fun r=>!aG ws r) rs;omega
 have n0:∀r∈l,YC ws r:=fun r O=>d0 r (by rw[<-J]at O;exact(Jr.mp O).1);have V:∀r∈ins,YC ws r:=fun r O=>d0 r (by rw[<-N]at O;exact(Jr.mp O).1);have b1:=RO.len;have c1:=RI.len;refine⟨NL rfl,fun z0 o0=>⟨_,rfl,bC (bS ⋯),.int 0,ag,by rw[e0];omega,by rw[e0];omega,fun z hz=>?_⟩⟩;have W:SD.Sub M1 (az (az M1 z0 (.lst [.int 0])) z (.lst (JJ ((2:Int)*((ws.map (NP t b X Y)).length:Nat)).toNat (.int 0)))):=.new hz (.new o0 .refl);have r0:(az (az M1 z0 (.lst [.int 0])) z (.lst (JJ ((2:Int)*((ws.map (NP t b X Y)).length:Nat)).toNat (.int 0)))) z=MA (.lst ((fO (2*ws.length) l 0).map D.int)):=by rw[ag,e0,show((2:Int)*(ws.length:Nat)).toNat=2*ws.length by omega,fO,List.map_replicate]
 have nz:∀{a o},M1 a=MA o->a≠z:=fun h e=>by
  subst e
  have h0:=SD.Sub.new (o:=.lst [.int 0]) o0 .refl _ _ h
  rw[hz]at h0;cases h0
 have fz:M z=MB:=by
  cases e:M z with
  |none=>rfl
  |some o=>exact absurd rfl (nz (m0 _ _ e))
 generalize az (az M1 z0 (.lst [.int 0])) z (.lst (JJ ((2:Int)*((ws.map (NP t b X Y)).length:Nat)).toNat (.int 0)))=M2 at W r0 ⊢;(try dsimp only[SD.aR])
 refine bX (fun δ y=>∃o4 o5 I:rx,δ=[MA (.tup (ws.map (NP t b X Y))),MA (.ref lo),MA (.ref li),MA (.ref z),o4,o5,I,MB,MB,MB]/\(∀c,c≠z->y c=M2 c)/\y z=MA (.lst ((fO (2*ws.length) l l.length).map D.int))) ?_ (fun hu=>?_);rotate_left
 ·refine⟨_,rfl,lo,ps.map D.ref,rfl,W _ _ ho,fun i δ y=>∃o4 o5 I:rx,δ=[MA (.tup (ws.map (NP t b X Y))),MA (.ref lo),MA (.ref li),MA (.ref z),o4,o5,I,MB,MB,MB]/\(∀c,c≠z->y c=M2 c)/\y z=MA (.lst ((fO (2*ws.length) l i).map D.int)),⟨_,_,_,rfl,fun _ _=>rfl,r0⟩,fun i δ y _ q=>by obtain⟨_,_,_,_,q,_⟩:=q;show y lo=_;rw[q lo (nz ho)];exact W _ _ ho,?_,?_⟩
  ·rintro i d δ y hi hd ⟨o4,o5,I,rfl,kM,v⟩;have hi:i<ps.length:=by have:i<(ps.map D.ref).length:=hi;simpa using this
   have hd:((ps.map D.ref)[i]?).map (fun d=>D.tup [.int ((i+1:Nat):Int),d])=MA d:=hd;rw[J6,J0 hi]at hd;cases hd;obtain⟨r,er,f0⟩:=RO.get hi;have A:=n0 r (J8 er);have Z:M2 ps[i]=MA (.lst (r.map ry)):=W _ _ f0;refine⟨_,rfl,rfl,_,_,rfl,_,_,rfl,rfl,?_⟩;(try dsimp only[SD.aR])
   refine Pt fun B hB=>?_;refine⟨_,rfl,r.map ry,(by show y ps[i]=_;rw[kM _ (nz f0)];exact Z),fun j δ u=>∃I:rx,δ=[MA (.tup (ws.map (NP t b X Y))),MA (.ref lo),MA (.ref li),MA (.ref z),MA (.int ((i+1:Nat):Int)),MA (.ref ps[i]),I,MB,MB,MB]/\(∀c,c≠z->u c=M2 c)/\u z=MA (.lst ((iy (fO (2*ws.length) l i) r ((i+1:Nat):Int) j).map D.int)),⟨_,rfl,kM,v⟩,fun j δ u _ q=>by obtain⟨_,_,q,_⟩:=q;show u ps[i]=_;rw[q _ (nz f0)];exact Z,?_,?_⟩
   ·rintro j d δ u hj hd ⟨I,rfl,L,n⟩;have hj:j<r.length:=by have:j<(r.map ry).length:=hj;simpa using this
    have hd:(r.map ry)[j]?=MA d:=hd;rw[J6,J0 hj]at hd;cases hd;refine⟨_,rfl,_,rfl,_,rfl,_,r[j],n,vp (by rw[J4,gV,iT];exact A.lt _ (K1 hj)),?_⟩;exact⟨_,rfl,fun c hc=>by rw[au hc];exact L c hc,by rw[ag,mJ (J0 hj),List.map_set]⟩
   ·rintro δ u ⟨I,rfl,L,n⟩;have n:u z=MA (.lst ((iy (fO (2*ws.length) l i) r ((i+1:Nat):Int) (r.map ry).length).map D.int)):=n;rw[J4]at n;exact hB _ _ ⟨_,_,_,rfl,L,by rw[n,fO,er];rfl⟩
  ·rintro δ y ⟨o4,o5,I,rfl,kM,v⟩;have v:y z=MA (.lst ((fO (2*ws.length) l (ps.map D.ref).length).map D.int)):=v;rw[J4,b1]at v;exact hu _ _ ⟨_,_,_,rfl,kM,v⟩
 rintro δ M3 ⟨o4,o5,I,rfl,d1,g0⟩;have G:∀{a o},M1 a=MA o->M3 a=MA o:=fun{a o} h=>by rw[d1 a (nz h)];exact W _ _ h
 refine⟨_,rfl,qs.map D.ref,G hi,by show(qs.map D.ref).length<=900000;rw[J4];omega,fun p hp=>?_⟩;have np:∀{a o},M3 a=MA o->a≠p:=fun h=>aA h hp;refine⟨fun i kvs y=>Rk t b X Y ws ins qs i kvs/\y=az M3 p (OU kvs),⟨Rk.nil ..,rfl⟩,fun i kvs y _ q=>by obtain⟨_,rfl⟩:=q;show(az M3 p _) li=_;rw[au (np (G hi))];exact G hi,?_,?_⟩
 ·rintro i kvs d y C hd ⟨RD,rfl⟩;have C:i<qs.length:=by have:i<(qs.map D.ref).length:=C;simpa using this
  have hd:(qs.map D.ref)[i]?=MA d:=hd;rw[J6,J0 C]at hd;cases hd;obtain⟨r,er,s0⟩:=RI.get C;have A:=V r (J8 er);refine⟨_,rfl,?_⟩;dsimp only[SD.jM];refine zF ?_;refine⟨_,rfl,_,rfl,t,b,X,Y,ws,qs[i],r,rfl,rfl,(by rw[au (np (G s0))];exact G s0),S,hU,U,A.pos,A.lt,?_⟩;refine⟨_,rfl,gk t b X Y (fc ws r),y9 ..,ag,?_,RD.put S.t0 S.b0 er (J0 C),by rw[bW]⟩;have:=congrArg List.length RD.ks;rw[J4,J4]at this;have:=jN ws ins i;omega
 rintro kvs M4 ⟨RD,rfl⟩;have RD:Rk t b X Y ws ins qs (qs.map D.ref).length kvs:=RD;rw[J4,c1]at RD;have a0:(az M3 p (OU kvs)) z=MA (.lst ((fO (2*ws.length) l l.length).map D.int)):=by rw[au (np g0)];exact g0
 have i0:∀{a o},M1 a=MA o->(az M3 p (OU kvs)) a=MA o:=fun{a o} h=>by rw[au (np (G h))];exact G h
 have k0:(az M3 p (OU kvs)) p=MA (OU kvs):=ag
 have fp:M1 p=MB:=by
  cases e:M1 p with
  |none=>rfl
  |some o=>rw[G e]at hp;cases hp
 generalize az M3 p (OU kvs)=M4 at a0 i0 k0 ⊢;refine⟨_,rfl,.inr ⟨p,kvs,rfl,k0,fun p2 Z=>?_⟩⟩
 have ek:kvs.map (fun x=>QB x.1)=(cB ws ins ins.length).map (O9 t b X Y):=by
  have:=congrArg (Lm QB) RD.ks
  rw[Ky,Ky]at this
  exact this
 have kb:∀c∈cB ws ins ins.length,OB c:=fun c hc=>by
  obtain⟨j,_,hj,e⟩:=gU hc
  rw[J0 hj]at e
  have A:=V _ (K1 hj)
  rw[<-e]
  exact oX hU A.lt A.pos _ (J9 _)
 have kl:=jN ws ins ins.length;refine⟨p2,t,b,X,Y,cB ws ins ins.length,rfl,(by rw[ag,ek]),S,(),kb,kh ws ins _,fun M5 zc F e1 l0 u0 pm up=>?_⟩;have c0:∀{a o},M4 a=MA o->M5 a=MA o:=fun{a o} h=>e1 _ _ (by rw[au (aA h Z)];exact h);have f1:=c0 a0;have g1:=c0 k0;have i1:zc≠z:=fun e=>by subst e;rw[au (aA a0 Z)]at l0;rw[a0]at l0;cases l0
 have j1:p≠z:=fun e=>by subst e;rw[g0]at hp;cases hp
 refine⟨_,u0,?_⟩;refine⟨fun i δ y=>∃I o8 o9:rx,δ=[MA (.tup (ws.map (NP t b X Y))),MA (.ref lo),MA (.ref li),MA (.ref z),o4,o5,I,MA (.ref p),o8,o9]/\(∀c,c≠z->y c=M5 c)/\y z=MA (.lst ((fS ws ins (fO (2*ws.length) l l.length) F i).map D.int)),⟨_,_,_,rfl,fun _ _=>rfl,f1⟩,fun i δ y _ q=>by obtain⟨_,_,_,_,q,_⟩:=q;show y zc=_;rw[q zc i1];exact u0,?_,?_⟩
 ·rintro i d δ y C hd ⟨k1,o8,o9,rfl,kM,v⟩;have C:i<F.length:=by have:i<(F.map (O9 t b X Y)).length:=C;simpa using this
  have hd:(F.map (O9 t b X Y))[i]?=MA d:=hd;rw[J6,J0 C]at hd;cases hd;have v0:=pm.mem_iff.mp (K1 C);obtain⟨j,ej,hj,_⟩:=gU v0;have w0:j<qs.length:=()
  obtain⟨r,er,x0⟩:=RI.get w0;have A:=V r (J8 er);have y0:M5 qs[j]=MA (.lst (r.map ry)):=c0 (i0 x0);have a1:=nz x0;have eS:fS ws ins (fO (2*ws.length) l l.length) F (i+1)=fill (fS ws ins (fO (2*ws.length) l l.length) F i) r (Ow ws (fS ws ins (fO (2*ws.length) l l.length) F i) F[i]):=by rw[fS,J0 C,Option.getD_some,ej,Option.getD_some,er,Option.getD_some]
  (try dsimp only[SD.aR])
  refine Pt fun B hB=>?_;refine⟨_,rfl,_,rfl,_,rfl,t,b,X,Y,ws,z,fS ws ins (fO (2*ws.length) l l.length) F i,F[i],rfl,rfl,rfl,v,by rw[jJ,iT],S,hU,hF,U,kb _ v0,?_⟩;refine⟨_,rfl,_,rfl,p,kvs,gk t b X Y F[i],.ref qs[j],rfl,y9 ..,(by rw[kM p j1];exact g1),(by rw[RD.vs,ej];show(qs[j]?).map D.ref=_;rw[J0 w0];rfl),r.map ry,(by show y qs[j]=_;rw[kM _ a1];exact y0),?_⟩;refine⟨fun a δ u=>∃I:rx,δ=[MA (.tup (ws.map (NP t b X Y))),MA (.ref lo),MA (.ref li),MA (.ref z),o4,o5,I,MA (.ref p),MA (O9 t b X Y F[i]),MA (.int (Ow ws (fS ws ins (fO (2*ws.length) l l.length) F i) F[i]))]/\(∀c,c≠z->u c=M5 c)/\u z=MA (.lst ((iy (fS ws ins (fO (2*ws.length) l l.length) F i) r (Ow ws (fS ws ins (fO (2*ws.length) l l.length) F i) F[i]) a).map D.int)),⟨_,rfl,kM,v⟩,fun a δ u _ q=>by obtain⟨_,_,q,_⟩:=q;show u qs[j]=_;rw[q _ a1];exact y0,?_,?_⟩
  ·rintro a d δ u ha hd ⟨I,rfl,L,n⟩;have ha:a<r.length:=by have:a<(r.map ry).length:=ha;simpa using this
   have hd:(r.map ry)[a]?=MA d:=hd;rw[J6,J0 ha]at hd;cases hd;refine⟨_,rfl,_,rfl,_,rfl,_,r[a],n,vp (by rw[J4,gV,jJ,iT];exact A.lt _ (K1 ha)),?_⟩;exact⟨_,rfl,fun c hc=>by rw[au hc];exact L c hc,by rw[ag,mJ (J0 ha),List.map_set]⟩
  ·rintro δ u ⟨I,rfl,L,n⟩;have n:u z=MA (.lst ((iy (fS ws ins (fO (2*ws.length) l l.length) F i) r (Ow ws (fS ws ins (fO (2*ws.length) l l.length) F i) F[i]) (r.map ry).length).map D.int)):=n;rw[J4]at n;exact hB _ _ ⟨_,_,_,rfl,L,by rw[n,eS];rfl⟩
 ·rintro δ y ⟨k1,o8,o9,rfl,kM,v⟩;have v:y z=MA (.lst ((fS ws ins (fO (2*ws.length) l l.length) F (F.map (O9 t b X Y)).length).map D.int)):=v;rw[J4]at v;refine⟨_,rfl,NZ (k y z _ (fun a o h=>?_) fz v ⟨rs,F,R,by rw[N];exact pm,up,by rw[N,J]⟩)⟩;have h1:=m0 _ _ h;rw[kM a (nz h1)];exact c0 (i0 h1)
theorem df:NJ ["plot","outers","inners","lands","numbers","ring"] ["plot"] (ay lF):=⋯
inductive PY:Prop
 |mk (t b X Y:Int) (ws:ro) (_:sj=.tup (ws.map (NP t b X Y))) (_:OG t b X Y) (_:ws.length<=40) (_:(∀w∈ws,NM w)) (_:PF ws) (_:∀(M':MH) (z:n_) (ps qs es:q_) (rs:pd) (L:pq),SD.Sub M M'->M z=MB->OW ws (2*ws.length) rs->c7 ws L->RL M' ps (rs.filter (aG ws))->RL M' qs (rs.filter fun r=>!aG ws r)->es.length=ps.length+1->M' z=MA (.lst (Nt ps es))->(∀(j:Nat) e,es[j]?=MA e->M' e=MA (.lst ((Pp L (rs.filter fun r=>!aG ws r) qs j qs.length).map D.ref)))->(∀p∈ps++qs++es,M p=MB)->Q (.ref z) M')
theorem mj(T:Tx K mg):Cal P w K mg base 10 "lands_of" (P6 PY):=by
 refine eM (k:=9) T.kz df fun f _ _ _ s H _ hr=>⟨_,(aq (cu (aw (ff T).m hr (ae (dv 0) ak)) (bM rfl (aF (aE 1 df.nd) (aF (aE 2 df.nd) bj)))) (aq (aD 3 df.nd (aC aO (aY (ae (aI (ae gL (ae (aY ak) ak))) ak)) (fE (NK.of (xs:=["ring"]) (js:=[]) rfl) rfl (aT (dv 1)) (fun _ _ _ _=>cD) (fun _ _ _ _=>(aI (ae (dv 0) (ae (aY ak) ak))))))) (aq (aD 4 df.nd (aw (j3 T).m hr (ae (dv 0) ak))) (aq (bV Ju rfl (aT (dv 2)) (aE 5 df.nd) (av (bI (aX (aB (aB (dv 3) (aB (dv 4) (aB (dv 5) ao))) ao) (ae (dv 5) ak))))) (av (aH (dv 3))))))),fun _ M Q h=>?_⟩;obtain⟨t,b,X,Y,ws,rfl,S,W,hU,hF,k⟩:=h;refine⟨_,rfl,t,b,X,Y,ws,rfl,S,W,hU,hF,fun O lo li ps qs rs U R ho hi RO RI e1 g1 t0=>?_⟩;refine⟨_,rfl,rfl,_,_,rfl,_,_,rfl,rfl,?_⟩;generalize F:rs.filter (aG ws)=d0 at RO k;generalize J:(rs.filter fun r=>!aG ws r)=ins at RI k;have d1:=f6 hU hF (J9 _) R;have h1:=gX R;have i1:d0.length<=80:=by rw[<-F];have:=KI (aG ws) rs;omega
 have j1:ins.length<=80:=by rw[<-J];have:=KI (fun r=>!aG ws r) rs;omega
 have k1:=RO.len;have m1:=RI.len;refine⟨NL rfl,fun C g0=>⟨NL rfl,NL rfl,fun a1 h0=>?_⟩⟩;have hE:(az (az O C (.lst [])) a1 (.lst [.tup [.non,.ref C]])) C=MA (.lst []):=by rw[au (aA ag h0)];exact ag
 have hA:(az (az O C (.lst [])) a1 (.lst [.tup [.non,.ref C]])) a1=MA (.lst [.tup [.non,.ref C]]):=ag;have s2:SD.Sub O (az (az O C (.lst [])) a1 (.lst [.tup [.non,.ref C]])):=.new h0 (.new g0 .refl);generalize az (az O C (.lst [])) a1 (.lst [.tup [.non,.ref C]])=M2 at hE hA s2 ⊢;refine⟨_,rfl,ps.map D.ref,s2 _ _ ho,by show(ps.map D.ref).length<=1000000;rw[J4];omega,fun z hz=>?_⟩;refine⟨fun i ys G=>∃u:q_,u.length=i/\ys=RH ps u/\SD.Sub M2 G/\G z=MA (.lst ys)/\(∀e∈u,G e=MA (.lst [])/\M2 e=MB/\e≠z)/\u.Nodup,⟨[],rfl,rfl,.new hz .refl,ag,(by simp),List.nodup_nil⟩,fun i ys G _ q=>by obtain⟨_,_,_,q,_⟩:=q;exact q _ _ (s2 _ _ ho),?_,?_⟩
 ·rintro i ys d G g hd ⟨u,el,rfl,sb,i0,fe,ne⟩;have hd:(ps.map D.ref)[i]?=MA d:=hd;have g:i<ps.length:=by have:i<(ps.map D.ref).length:=g;simpa using this
  rw[J6,J0 g]at hd;cases hd;refine⟨_,rfl,?_⟩;dsimp only[SD.jM];refine zF ?_;refine⟨_,rfl,NL rfl,fun e N=>⟨NL rfl,?_⟩⟩;have a0:z≠e:=aA i0 N;have u0:(az G e (.lst [])) z=MA (.lst (RH ps u)):=by rw[au a0];exact i0
  have ts:=zX ps u e;rw[el,J0 g]at ts;refine⟨_,.refl,u0,u++[e],by simp[el],ts.symm,fun a o h=>?_,ag,fun x hx=>?_,?_⟩
  ·have na:a≠z:=aA h hz;rw[au na,au (aA (sb _ _ h) N)];exact sb _ _ h
  ·rcases JE.mp hx with y|y
   ·obtain⟨f1,f2,f3⟩:=fe x y;exact⟨by rw[au f3,au (aA f1 N)];exact f1,f2,f3⟩
   ·rw[JH.mp y];refine⟨by rw[au a0.symm];exact ag,?_,a0.symm⟩;cases q:M2 e with
    |none=>rfl
    |some o=>rw[sb _ _ q]at N;cases N
  ·rw[LP];exact⟨ne,by simp,fun a ha c hc e'=>by rw[JH]at hc;rw[e',hc]at ha;rw[(fe e ha).1]at N;cases N⟩
 rintro ys M3 ⟨u,el,rfl,V,v0,fe,ne⟩;have el:u.length=ps.length:=by rw[el];show(ps.map D.ref).length=_;rw[J4]
 have tl:(RH ps u).length=u.length:=by unfold RH;simp
 refine⟨_,_,V _ _ hA,v0,(by have:1000<=Jv:=NL rfl;rw[tl];show 1+_<=_;omega),fun l hl=>?_⟩;rw[xN]
 have k0:O l=MB:=by
  cases q:O l with
  |none=>rfl
  |some o=>rw[V _ _ (s2 _ _ q)]at hl;cases hl
 have w0:M l=MB:=by
  cases q:M l with
  |none=>rfl
  |some o=>rw[U _ _ q]at k0;cases k0
 have s4:SD.Sub M3 (az M3 l (.lst (Nt ps (C::u)))):=.new hl .refl;have b0:(az M3 l (.lst (Nt ps (C::u)))) l=MA (.lst (Nt ps (C::u))):=ag;have x0:=V _ _ hE
 have n:∀e∈C::u,M3 e=MA (.lst [])/\O e=MB:=fun e N=>by
  rcases JI.mp N with y|y
  ·subst y;exact⟨x0,g0⟩
  ·obtain⟨f1,f2,_⟩:=fe e y;refine⟨f1,?_⟩;cases q:O e with
   |none=>rfl
   |some o=>rw[s2 _ _ q]at f2;cases f2
 have l0:(C::u).Nodup:=Lx.mpr ⟨(fun m=>by have:=(fe C m).2.1;rw[hE]at this;cases this),ne⟩;generalize ea:C::u=I at n l0 b0 s4;have y0:I.length=ps.length+1:=by rw[<-ea,Kk,el]
 show SD.aR 3 (D.ref l) _ (az M3 l (.lst (Nt ps I))) _;generalize az M3 l (.lst (Nt ps I))=M4 at s4 b0 ⊢;refine⟨_,rfl,t,b,X,Y,ws,rfl,S,W,hU,hF,fun M5 zn L c0 z0 b1 il=>?_⟩;have sM:∀a o,O a=MA o->M5 a=MA o:=fun a o h=>c0 _ _ (s4 _ _ (V _ _ (s2 _ _ h)));have nq:∀a o,O a=MA o->a∉I:=fun a o h m=>by rw[(n a m).2]at h;cases h
 have m0:=c0 _ _ b0;have nl:l∉I:=fun m=>by rw[(n l m).1]at hl;cases hl
 have nn:zn∉I:=fun m=>by
  have:=s4 _ _ (n zn m).1
  rw[z0]at this;cases this
 refine⟨_,rfl,qs.map D.ref,sM _ _ hi,fun i δ G=>∃(o5:rx),δ=[MA (.tup (ws.map (NP t b X Y))),MA (.ref lo),MA (.ref li),MA (.ref l),MA (.ref zn),o5]/\(∀a o,a∉I->M5 a=MA o->G a=MA o)/\∀(j:Nat) e,I[j]?=MA e->G e=MA (.lst ((Pp L ins qs j i).map D.ref)),⟨_,rfl,fun a o _ h=>h,fun j e h=>c0 _ _ (s4 _ _ (n e (J8 h)).1)⟩,fun i δ G _ q=>by obtain⟨_,_,q,_⟩:=q;exact q _ _ (nq _ _ hi) (sM _ _ hi),?_,?_⟩
 ·rintro i d δ G g hd ⟨o5,rfl,Z,kE⟩;have g:i<qs.length:=by have:i<(qs.map D.ref).length:=g;simpa using this
  have hd:(qs.map D.ref)[i]?=MA d:=hd;rw[J6,J0 g]at hd;cases hd;obtain⟨r,er,mr⟩:=RI.get g;have mi:r∈rs:=by have:=J8 er;rw[<-J]at this;exact(Jr.mp this).1
  obtain⟨f0,f1,Rf⟩:=cV R r mi;have r0:r[0]?=MA f0/\r.headD 0=f0:=by obtain⟨kk,_,_,e⟩:=Rf;rw[e,rn,List.range_succ_eq_map];exact⟨rfl,rfl⟩
  obtain⟨v,ev,vl⟩:=AE hU hF R il f1;rw[F]at vl;have va:v<I.length:=()
  have eA:I[v]?=MA I[v]:=J0 va;(try dsimp only[SD.aR])
  refine Pt fun B hB=>?_;refine⟨_,rfl,_,rfl,_,rfl,_,_,Z _ _ (nq _ _ mr) (sM _ _ mr),bH (v:=D.int (f0:Int)) (by rw[J6,r0.1];rfl),_,_,Z _ _ nn b1,bH (v:=D.int (v:Int)) (by rw[J6,ev];rfl),_,_,Z _ _ nl m0,bH (lq ps I va),_,rfl,?_⟩;rw[eA];refine⟨_,_,rfl,kE v _ eA,_,rfl,_,_,rfl,kE v _ eA,(by rw[J4];have:=vH L ins qs v i;omega),?_⟩;refine hB _ _ ⟨_,rfl,fun a o na h=>?_,fun j e N=>?_⟩
  ·rw[au (fun z=>na (by rw[z];exact K1 va))];exact Z a o na h
  ·have n0:e=I[v]↔j=v:=by obtain⟨hj,ej⟩:=Jq.mp N;rw[<-ej];exact List.getElem_inj l0
   have eh:((ins[i]?).getD []).headD 0=f0:=by rw[er];exact r0.2
   have c1:(L[f0]?).getD 0=(v:Int):=by rw[ev];rfl
   have eq:(qs[i]?).getD 0=qs[i]:=by rw[J0 g];rfl
   rw[yf,eh,c1,eq];show(az G I[v] (.lst ((Pp L ins qs v i).map D.ref++[D.ref qs[i]]))) e=_;by_cases c:j=v
   ·subst c;rw[n0.mpr rfl,ag,MI rfl,Jx];rfl
   ·rw[au (fun z=>c (n0.mp z)),kE j e N,ME (fun z=>c ()),K8]
 ·rintro δ G ⟨o5,rfl,Z,kE⟩
  have tf:∀{o0:q_} {s0:pd},RL O o0 s0->RL G o0 s0:=fun h=>by
   induction h with
   |nil=>exact .nil
   |cons a _ ih=>exact .cons (Z _ _ (nq _ _ a) (sM _ _ a)) ih
  refine⟨_,rfl,NZ (k G l ps qs I rs L (fun a o h=>Z _ _ (nq _ _ (U _ _ h)) (sM _ _ (U _ _ h))) w0 R il (by rw[F];exact tf RO) (by rw[J];exact tf RI) y0 (Z _ _ nl m0) (fun j e N=>?_) fun p hp=>?_)⟩
  ·have:=kE j e N;rw[J]
   rwa [show(qs.map D.ref).length=qs.length from J4 ..]at this
  ·rcases JE.mp hp with y|y
   ·exact t0 p y
   ·cases q:M p with
    |none=>rfl
    |some o=>have:=(n p y).2;rw[U _ _ q]at this;cases this
theorem cI:NJ ["_law_script","_law_k","_law_row","_law_scale_here","_law_shuts","_law_plot","_law_faces","_law_outers","_law_rings_here","_law_due","_law_land","_law_outer","_law_found","_law_inners"] ["_law_script"] (ay Ct):=⋯
inductive Qy(x:D)(M:MH)(Q:DK):Prop
 |mk (ns:_) (hh0:x=.rol (Lm D.int ns)) (hh1:ns.length<=63) (hh2:∀M',Q (.bl MC) M'):Qy x M Q
def jU:Pe:=fun a M Q=>match a with
 |[x]=>Qy x M Q
 |_=>False
theorem Ff:∀a M Q,jU a M Q->a.length=1:=fun a M Q h=>by
 unfold jU at h;split at h
 ·rfl
 ·exact h.elim
theorem FX{P:JL}{w:Kg}{K:J1}{mg:Str->Option J3}{fa:n_}(T:Tx K mg)(r2:mg "law"=MA (.ref fa)):∃fd,(∀(s:J5) (u:J3),BindsTo s fd ⟨[u],[]⟩ [("_law_script",u)])/\∀base:oT,Nw P w K mg base P8 11 fa fd ["_law_script"] (iZ K jU):=by
 refine Iz (k:=10) (N:=["_law_script","_law_k","_law_row","_law_scale_here","_law_shuts","_law_plot","_law_faces","_law_outers","_law_rings_here","_law_due","_law_land","_law_outer","_law_found","_law_inners"]) T.k_ r2 cI (fun _ _ _ _ _ _ us hl=>by obtain⟨_,rfl⟩:=SD.BI hl;rfl) Ff fun base f cdv A outer s H E R=>⟨_,(aq (dm Ju rfl rfl T.mT (ae (aN (oV rfl R.units) rfl T.mA ud (ae ao (ae (aN (jd rfl R.units) rfl T.mO mm (ae ao (ae (aN cS rfl T.mu cU (ae (dv 0) ak)) ak))) ak))) ak) (aE 1 cI.nd) (aq (aD 2 cI.nd (aY (ae (aw (nG T).m R (ae (dv 0) (ae (dv 1) ak))) (ae ao ak)))) (aq (aD 3 cI.nd (aw (rN T).m R (ae (dv 2) ak))) (aq (aD 4 cI.nd (aw (jB T).m R (ae (dv 2) (ae ao (ae ao ak))))) (aq (bF (aL (cQ R.units) (aw (aJ T).m R (ae (dv 2) (ae ao ak))) ao) (av (aD 4 cI.nd (aw (wF T).m R (ae (dv 2) ak)))) aS) (aq (bF (aL (cQ R.units) (aw (aJ T).m R (ae (dv 2) (ae ao ak))) ao) (av (aD 4 cI.nd (aw (nv T).m R (ae (dv 2) ak)))) aS) (aq (aD 5 cI.nd (aw (sT T).m R (ae (dv 3) (ae (dv 4) ak)))) (aq (cu (aw (qL T).m R (ae (dv 4) ak)) (bM rfl (aF (aE 6 cI.nd) (aF (aE 7 cI.nd) bj)))) (aq (cX 8 cI.nd (NK.of (xs:=["_law_ring"]) (js:=[7]) rfl) rfl (aT (aw (kA T).m R (ae (dv 4) ak))) (fun _ _ _ _=>(g8 (aL (gA (iY R)) (dv 0) (dv 1) (by with_unfolding_all rfl)))) (fun _ _ _ _=>(dv 0))) (aq (aD 9 cI.nd (aY ak)) (aq (bV Ju rfl (vJ rfl T.lu (ae (aC aO (aY (ae gL ak)) (dv 7)) ak)) (bM rfl (aF (aE 10 cI.nd) (aF (aE 11 cI.nd) bj))) (av (bI (aX (dv 9) (ae (aI (ae (dv 11) (ae (fE (NK.of (xs:=["_law_ring"]) (js:=[6,10]) rfl) rfl (aT (dv 8)) (fun _ _ _ _=>(g8 (aL (cQ R.units) (aB (dv 1) (aB (dv 0) ao)) (dv 2)))) (fun _ _ _ _=>(dv 0))) ak))) ak))))) (aq (aD 12 cI.nd (aw (mj T).m R (ae (dv 5) ak))) (aq (bF (mz (uf (sf (dC (aN (lM (K:=K) rfl) rfl T.l_ iz (ae (dv 12) (ae (CN rfl T.mx uV) ak))))) (uf (aL (fh R.units) (dv 12) (dv 9)) (tF (sf (dC (aN (zk rfl) rfl T.lk yr (ae (fE (NK.of (xs:=["_law_one"]) (js:=[]) rfl) rfl (aT (dv 12)) (fun _ _ _ _=>cD) (fun _ _ _ _=>(aN (lM (K:=K) rfl) rfl T.l_ iz (ae (dv 0) (ae (CN rfl T.nc qI) ak))))) ak)))))))) (av (aH mX)) aS) (aq (bV Ju rfl (aT (dv 12)) (bM rfl (aF (aE 11 cI.nd) (aF (aE 13 cI.nd) bj))) (aq (bI (aX (dv 13) (ae (aY (ae ao ak)) ak))) (av (bF (aL zE (dv 11) gL) (av (bI (j9 (dv 11)))) aS)))) (aq (bI (j9 (dv 12))) (av (bF (aL (fh R.units) (aw (mj T).m R (ae (dv 5) ak)) (dv 9)) (av (aH mX)) aS))))))))))))))))) (av (aH mX))),fun ds M Q h=>?r⟩
 case r=>
  unfold jU at h
  split at h
  case h_2=>exact h.elim
  obtain⟨ns,rfl,hl,k⟩:=h
  refine⟨_,rfl,(max 1 (min 2 (((Lm D.int ns).length:Nat):Int))).toNat,?_,(),fun i δ M=>∃T:rr,δ=MA (.rol (Lm D.int ns))::T/\T.length=13,⟨_,rfl,rfl⟩,?_,fun _ _ _=>NZ (k _)⟩
  ·rw[Int.toNat_of_nonneg ()]
  rintro i δ M hi ⟨T,rfl,hT⟩
  refine G9 hT fun o1 o2 o3 o4 o5 o6 o7 o8 o9 b0 J d1 c0=>?_
  (try dsimp only[SD.aR])
  refine Pt fun B hB=>?_
  refine⟨_,rfl,_,rfl,ns,i,rfl,rfl,(),fun z=>⟨NL rfl,fun I y3=>?_⟩⟩
  refine⟨_,rfl,I,z,0,rfl,ag,⋯,⋯,fun x1 c1 t b sx sy S h1 h2=>?_⟩
  refine⟨_,rfl,I,x1,c1,10,rfl,rfl,⋯,rfl,ag,h1,(),fun O x2 c2 l0 s2 m0 t1 u1 g0 g1 g2 g3 g4=>?_⟩
  (try dsimp only[SD.aR])
  refine bX (fun δ X=>SA fun(l:n_) (ws:ro) (x' c':Int)=>Vr (δ=[MA (.rol (Lm D.int ns)),MA (.int (i:Int)),MA (.ref I),MA (Rr t b sx sy),MA (.ref l),o5,o6,o7,o8,o9,b0,J,d1,c0]) (X I=MA (.lst [.int x',.int c'])) (X l=MA (.lst (ws.map uw))) (I≠l) (0<=c') (c'<=400) (ws.length<=40) (∀w∈ws,NM w) (PF ws)) ?_ (fun hu=>?_)
  rotate_left
  ·refine⟨_,rfl,I,3,x2,c2,rfl,rfl,t1,g0,(),⋯,bS ⋯,fun x3 v3 a4 b4=>⟨_,rfl,?_⟩⟩;refine bQ (fun _=>?_) (fun _=>?_)
   ·exact⟨_,rfl,I,x3,c2+1,rfl,ag,(),(),fun M4 x4 c4 l ws v0 t2 u2 v2 e4 q1 q2 q3=>hu _ _ ⟨l,ws,x4,c4,rfl,t2,u2,v0,v2,(),(),q2,q3⟩⟩
   ·exact hu _ _ ⟨l0,s2,x3,c2+1,rfl,ag,(by rw[au m0.symm];exact u1),m0,(),(),(),g3,g4⟩
  clear t1 u1 g0 g1 g2 g3 g4 m0
  rintro δ M3 ⟨l,ws,x3,c3,rfl,v1,i0,v0,w1,w2,lw,hU,hF⟩
  refine bX (fun δ X=>Qw fun(l:n_) (ws:ro)=>RW (δ=[MA (.rol (Lm D.int ns)),MA (.int (i:Int)),MA (.ref I),MA (Rr t b sx sy),MA (.ref l),o5,o6,o7,o8,o9,b0,J,d1,c0]) (X l=MA (.lst (ws.map uw))) (ws.length<=40) (∀w∈ws,NM w) (PF ws)) ?_ (fun hu=>?_)
  rotate_left
  ·refine⟨_,rfl,I,10,x3,c3,rfl,rfl,v1,w1,(),⋯,bS ⋯,fun x4 v4 f4 h4=>⟨_,rfl,?_⟩⟩;refine bQ (fun _=>?_) (fun _=>?_)
   ·exact⟨_,rfl,I,x4,c3+1,rfl,ag,(),(),fun M5 x5 c5 l' y2 z3 i4 z2 k4 l4 q1 q2 q3=>hu _ _ ⟨l',y2,rfl,z2,q3,q2,q1⟩⟩
   ·exact hu _ _ ⟨l,ws,rfl,(by rw[au v0.symm];exact i0),lw,hU,hF⟩
  clear v1 i0 w1 w2 lw hU hF v0
  clear x3 c3 ws l
  rintro δ M3 ⟨l,ws,rfl,i0,lw,hU,hF⟩
  have hW:∀w∈ws,YN (10^6) w:=fun w hw=>by
   have h:=hU w hw
   have U:∀z:Int,(0<=z/\z<=20)->(-(10^6)<=z/\z<=10^6):=fun z h=>()
   exact⟨U _ h.a,U _ h.b,U _ h.c,U _ h.d⟩
  refine⟨_,rfl,_,rfl,t,b,sx,sy,l,ws,rfl,rfl,i0,S,(),hW,?_⟩
  refine⟨_,rfl,l,ws,rfl,i0,lw,hU,hF,fun M4 zd lo qs rs L a3 n4 b3 Ll al ho G RQ=>⟨_,rfl,rfl,_,_,rfl,_,_,rfl,rfl,?_⟩⟩
  refine⟨_,rfl,l,ws,rfl,a3 _ _ i0,lw,hU,hF,fun M5 lr pr n e1 i1 G' RR fr=>?_⟩
  have e:=jR G' G
  subst e
  clear G'
  have pl:=RR.len
  have rl:=gX G
  have y1:=f6 hU hF (J9 _) G
  have z1:=e1 _ _ ho
  have n0:RL M5 qs (n.filter (aG ws)):=RQ.mono fun p _ o h=>e1 _ _ h
  refine⟨_,i1,ig (fun j=>if(!aG ws ((n[j]?).getD []))=MC then MA (D.ref ((pr[j]?).getD 0))else MB) (by show(pr.map D.ref).length<=1000000;rw[J4];omega) (fun p V Z=>Oq i1 Z) ?_ (fun li e3=>?_)⟩
  ·intro j d M6 C hd sb;have C:=Gy C;obtain⟨p,ep,rfl⟩:=G6 hd;obtain⟨r,er,mr⟩:=RR.get C;rw[J0 C]at ep;cases ep;refine⟨_,rfl,fun K hK=>?_,fun v hv K hK=>?_⟩
   ·refine⟨_,rfl,_,rfl,OX r,Ru (n.filter (aG ws)),ie (sb _ _ mr),.inl (.lst (sb _ _ z1) (n0.mono fun p _ o h=>sb _ _ h).pds),jD r,ua _,_,rfl,?_⟩;rw[yc]
    have e:(if(!aG ws ((n[j]?).getD []))=MC then MA (D.ref ((pr[j]?).getD 0))else MB).isSome=!decide (r∈n.filter (aG ws)):=by
     have m:=J8 er
     rw[er]
     show(if(!aG ws r)=MC then _ else MB:rx).isSome=_
     cases o:aG ws r
     ·rw[MJ fun z=>by rw[(Jr.mp z).2]at o;cases o];rfl
     ·rw[MK (Jr.mpr ⟨m,o⟩)];rfl
    rw[e]at hK;exact hK
   ·rw[er,J0 C]at hv;dsimp only[Option.getD]at hv;split at hv
    ·cases hv;exact⟨_,rfl,hK _ .refl⟩
    ·cases hv
  obtain⟨ti,eq,RI,a2⟩:=pY (fun r=>!aG ws r) RR pr.length (J9 _)
  rw[show n.take pr.length=n by rw[pl,Lo]]at RI
  have e9:(Jp (pr.map D.ref).length).filterMap (fun j=>if(!aG ws ((n[j]?).getD []))=MC then MA (D.ref ((pr[j]?).getD 0))else MB)=ti.map D.ref:=by rw[J4];exact eq
  dsimp only
  rw[e9]
  clear e9 eq a2 fr pl i1 RR
  generalize W:n.filter (aG ws)=a0 at *
  generalize h0:(n.filter fun r=>!aG ws r)=ins at *
  have p4:a0.length<=80:=by rw[<-W];have:=KI (aG ws) n;omega
  have q4:ins.length<=80:=by rw[<-h0];have:=KI (fun r=>!aG ws r) n;omega
  have s6:SD.Sub M5 (az M5 li (.lst (ti.map D.ref))):=.new e3 .refl
  have w0:(az M5 li (.lst (ti.map D.ref))) li=MA (.lst (ti.map D.ref)):=ag
  generalize az M5 li (.lst (ti.map D.ref))=M6 at s6 w0 ⊢
  refine⟨NL rfl,fun Y j1=>?_⟩
  refine⟨NL rfl,fun e0 o0=>?_⟩
  have b2:=s6 _ _ z1
  have b1:=s6 _ _ (e1 _ _ b3)
  have z7:(az M6 Y (.lst [])) Y=MA (.lst []):=ag
  refine⟨_,rfl,_,_,ag,Oq (Oq b2 j1) o0,(by have:1000<=Jv:=NL rfl;have:=n0.len;rw[J4];show 1+_<=_;omega),fun l9 s0=>?_⟩
  have k9:∀a o,M6 a=MA o->(az (az (az M6 Y (.lst [])) e0 (.lst [.non])) l9 (.lst ([.non]++qs.map D.ref))) a=MA o:=fun a o h=>Oq (Oq (Oq h j1) o0) s0
  have h9:(az (az (az M6 Y (.lst [])) e0 (.lst [.non])) l9 (.lst ([.non]++qs.map D.ref))) l9=MA (.lst ([.non]++qs.map D.ref)):=ag
  have z9:(az (az (az M6 Y (.lst [])) e0 (.lst [.non])) l9 (.lst ([.non]++qs.map D.ref))) Y=MA (.lst []):=Oq (Oq z7 o0) s0
  have f3:l9≠Y:=fun z=>by rw[z,Oq z7 o0]at s0;cases s0
  show SD.CD _ (az (az (az M6 Y (.lst [])) e0 (.lst [.non])) l9 (.lst ([.non]++qs.map D.ref))) _
  generalize az (az (az M6 Y (.lst [])) e0 (.lst [.non])) l9 (.lst ([.non]++qs.map D.ref))=M9 at k9 h9 z9 ⊢
  have d2:∀a o,M6 a=MA o->a≠Y:=fun a o h=>aA h j1
  clear o0 s0 z7
  have q9:=n0.len
  have q8:=RI.len
  have e2:([D.non]++qs.map D.ref).length=a0.length+1:=by rw[Ka,J4,q9,Nat.add_comm];rfl
  refine⟨l9,_,rfl,h9,fun j δ X=>Pz fun(es:q_) (b0 J:rx)=>S1 (δ=[MA (.rol (Lm D.int ns)),MA (.int (i:Int)),MA (.ref I),MA (Rr t b sx sy),MA (.ref l),MA (.tup (ws.map (NP t b sx sy))),MA (.ref zd),MA (.ref lo),MA (.ref li),MA (.ref Y),b0,J,d1,c0]) (es.length=j) (∀a o,a≠Y->M9 a=MA o->X a=MA o) (X Y=MA (.lst (Nt qs es))) (∀e∈es,e≠Y) (∀(j:Nat) e,es[j]?=MA e->X e=MA (.lst ((Pp L ins ti j ti.length).map D.ref))),⟨[],_,_,rfl,rfl,fun a o _ h=>h,z9,(by simp),(fun j e h=>by cases h)⟩,(fun j δ X _ q=>by obtain⟨_,_,_,_,_,q,_⟩:=q;exact q _ _ f3 h9),?_,?_⟩
  ·rintro j d δ X C hd ⟨es,b0,J,rfl,el,kM,k0,ne,kE⟩;have C:j<a0.length+1:=by rw[<-e2];exact C
   have hd:(([D.non]++qs.map D.ref)[j]?).map (fun d=>D.tup [.int (j:Int),d])=MA d:=hd
   have h3:d=D.tup [.int (j:Int),if j=0 then .non else .ref ((qs[j-1]?).getD 0)]:=by
    cases j with
    |zero=>cases hd;rfl
    |succ j=>
     have e:([D.non]++qs.map D.ref)[j+1]?=MA (.ref ((qs[j]?).getD 0)):=by show(qs.map D.ref)[j]?=_;rw[J6,J0 ()];rfl
     rw[e]at hd
     cases hd;rfl
   subst h3;refine⟨_,rfl,rfl,_,_,rfl,_,_,rfl,rfl,?_⟩;(try dsimp only[SD.aR])
   refine Pt fun B hB=>?_;have k6:∀a o,M6 a=MA o->X a=MA o:=fun a o h=>kM _ _ (d2 _ _ h) (k9 _ _ h);refine⟨_,rfl,Y,_,rfl,k0,_,rfl,_,rfl,_,k6 _ _ w0,ig (fun i=>if decide ((L[((ins[i]?).getD []).headD 0]?).getD 0=(j:Int))=MC then MA (D.ref ((ti[i]?).getD 0))else MB) (by show(ti.map D.ref).length<=1000000;rw[J4];omega) (fun p V Z=>Oq (k6 _ _ w0) Z) ?_ (fun e he=>?_)⟩
   ·intro i d M8 hi hd sb;have hi:=Gy hi;obtain⟨p,ep,rfl⟩:=G6 hd;obtain⟨r,er,mr⟩:=RI.get hi;rw[J0 hi]at ep;cases ep;have mi:r∈n:=by have:=J8 er;rw[<-h0]at this;exact(Jr.mp this).1
    obtain⟨f0,f1,Rf⟩:=cV G r mi;obtain⟨r0,rh⟩:=vN Rf;have ev:=J0 (():f0<L.length);refine⟨_,rfl,fun K hK=>?_,fun v hv K hK=>?_⟩
    ·refine⟨_,rfl,_,rfl,_,_,sb _ _ (k6 _ _ (s6 _ _ mr)),bH (v:=D.int (f0:Int)) (by rw[J6,r0];rfl),_,_,sb _ _ (k6 _ _ b1),bH (v:=D.int L[f0]) (by rw[J6,ev];rfl),_,rfl,?_⟩;have e:(if decide ((L[((ins[i]?).getD []).headD 0]?).getD 0=(j:Int))=MC then MA (D.ref ((ti[i]?).getD 0))else MB).isSome=decide (L[f0]=(j:Int)):=by rw[er];show(if decide ((L[r.headD 0]?).getD 0=(j:Int))=MC then _ else MB:rx).isSome=_;rw[rh,ev];show(if decide (L[f0]=(j:Int))=MC then _ else MB:rx).isSome=_;cases decide (L[f0]=(j:Int))<;>rfl
     rw[e]at hK;exact⟨_,rfl,hK⟩
    ·cases ZI hv;rw[J0 hi]at hK;exact⟨_,rfl,hK _ .refl⟩
   have e9:(Jp (ti.map D.ref).length).filterMap (fun i=>if decide ((L[((ins[i]?).getD []).headD 0]?).getD 0=(j:Int))=MC then MA (D.ref ((ti[i]?).getD 0))else MB)=(Pp L ins ti j ti.length).map D.ref:=by rw[J4,fK];unfold Pp;rw[Ky];rfl
   dsimp only;rw[e9];have f2:Y≠e:=aA k0 he;refine⟨NL rfl,_,_,rfl,Oq k0 he,(by have:1000<=Jv:=NL rfl;rw[kW];omega),?_⟩;have ts:=zr qs es e;rw[el]at ts;refine hB _ _ ⟨es++[e],_,_,rfl,(by rw[Ka,el];rfl),fun a o na h=>?_,(by rw[ag,ts]),fun x hx=>?_,fun a x hx=>?_⟩
   ·rw[au na];exact Oq (kM _ _ na h) he
   ·rcases JE.mp hx with y|y
    ·exact ne x y
    ·rw[JH.mp y];exact f2.symm
   ·by_cases c:a<es.length
    ·rw[JO c]at hx;rw[au (ne x (J8 hx))];exact Oq (kE a x hx) he
    ·rw[Kc ()]at hx;obtain⟨c1,c2⟩:=Jq.mp hx;have c1:a-es.length<1:=c1;rw[show a=j by omega,<-show e=x by simpa[show a-es.length=0 by omega]using hx,au f2.symm,ag]
  ·rintro δ X ⟨es,b0,J,rfl,el,kM,k0,ne,kE⟩;have el:es.length=qs.length+1:=by rw[el,q9];exact e2
   have k5:∀a o,M5 a=MA o->X a=MA o:=fun a o h=>kM _ _ (d2 _ _ (s6 _ _ h)) (k9 _ _ (s6 _ _ h));have i2:∀O,SD.Sub X O->Pd O (.ref Y) (V9 L a0 ins (a0.length+1)):=fun O s=>xC (s _ _ k0) (n0.mono fun p _ o h=>s _ _ (k5 _ _ h)) (RI.mono fun p _ o h=>s _ _ (k5 _ _ h)) el fun j e h=>s _ _ (kE j e h);clear kM k0 ne kE k5 n0 RI w0 h9 z9 k9 b1 b2;refine⟨_,rfl,t,b,sx,sy,ws,rfl,S,lw,hU,hF,fun MF z ps qf F rf LF j2 i3 GF k3 t0 k1 m1 d0 x0 l3=>?_⟩;cases jR GF G;cases al LF k3;rw[W]at t0;rw[h0]at k1 x0;have pl:=t0.len;have ql:=k1.len;refine⟨_,rfl,.inr ⟨z,_,"list",MC,rfl,d0,rfl,_,rfl,jn rfl ?_⟩⟩;refine⟨_,rfl,_,rfl,Cg (xC d0 t0 k1 m1 x0) (i2 _ j2) ⟨_,rfl,jn rfl ?_⟩⟩;refine⟨_,rfl,_,d0,comp_map (fun _=>.bl MC) (by show(Nt ps F).length<=1000000;rw[kW];omega) (fun q V hq=>Oq d0 hq) ?_ (fun lb m3=>?_)⟩
   ·intro j d M8 C hd sb;have C:j<F.length:=by rw[<-kW ps];exact C
    have hd:(Nt ps F)[j]?=MA d:=hd;rw[lq ps F C]at hd;cases hd;exact⟨_,rfl,fun K hK=>⟨_,rfl,.inl ⟨"tuple",MC,rfl,rfl,hK _ .refl⟩⟩⟩
   refine⟨(Jp (Nt ps F).length).map fun _=>MC,(by rw[ag,Ky];rfl),_,rfl,?_⟩;refine jn (by rw[show((Jp (Nt ps F).length).map fun _=>MC).all id=MC by simp];rfl) ?_;have sG:SD.Sub MF (az MF lb (.lst ((Jp (Nt ps F).length).map fun _=>.bl MC))):=.new m3 .refl;show SD.dG _ _ (az MF lb (.lst ((Jp (Nt ps F).length).map fun _=>.bl MC)));generalize az MF lb (.lst ((Jp (Nt ps F).length).map fun _=>.bl MC))=MG at sG ⊢;have k2:=sG _ _ d0
   have n3:∀e∈F,z≠e:=fun e he h=>by
    obtain⟨j,C,ej⟩:=Kz.mp he
    have:=x0 j e (by rw[J0 C,ej])
    rw[<-h,d0]at this
    exact CH m1 (l:=(Pp L ins qf j qf.length).map D.ref) (fun d hd ds e=>by obtain⟨a,_,rfl⟩:=JQ.mp hd;cases e) (MO.lst.inj (Option.some.inj this))
   have p3:∀p∈ps,z≠p:=fun p Z h=>by obtain⟨j,C,ej⟩:=Kz.mp Z;obtain⟨r,_,m⟩:=t0.get C;rw[ej,<-h,d0]at m;exact CH m1 (l:=r.map ry) (fun d hd ds e=>by obtain⟨a,_,rfl⟩:=JQ.mp hd;cases e) (MO.lst.inj (Option.some.inj m))
   have nf:∀a o,X a=MA o->∀p∈ps++qf++F,a≠p:=fun a o h p Z e=>by rw[e,l3 p Z]at h;cases h
   refine⟨_,rfl,_,k2,fun j δ O=>Qw fun(J c0:rx)=>RW (δ=[MA (.rol (Lm D.int ns)),MA (.int (i:Int)),MA (.ref I),MA (Rr t b sx sy),MA (.ref l),MA (.tup (ws.map (NP t b sx sy))),MA (.ref zd),MA (.ref lo),MA (.ref li),MA (.ref Y),b0,J,MA (.ref z),c0]) (SD.Sub X O) (O z=MA (.lst (Nt ps F))) (∀e∈F,∃xs,O e=MA (.lst xs)/\xs.length<=100+j) (∀p∈ps,∃xs,O p=MA (.lst xs)/\xs.length<=100+j),⟨_,_,rfl,SD.Sub.trans j2 sG,k2,fun e he=>?_,fun p Z=>?_⟩,(fun j δ O _ q=>by obtain⟨_,_,_,_,q,_⟩:=q;exact q),?_,?_⟩
   ·obtain⟨j,C,ej⟩:=Kz.mp he;exact⟨_,sG _ _ (x0 j e (by rw[J0 C,ej])),by rw[J4];have:=vH L ins qf j qf.length;omega⟩
   ·obtain⟨j,C,ej⟩:=Kz.mp Z;obtain⟨r,er,m⟩:=t0.get C;rw[ej]at m;have:=J8 er;rw[<-W]at this;have:=(y1 r (Jr.mp this).1).len;exact⟨_,sG _ _ m,by rw[J4];omega⟩
   ·rintro j d δ O C hd ⟨J,c0,rfl,y0,z0,fe,fp⟩;have C:j<F.length:=by rw[<-kW ps];exact C
    have hd:(Nt ps F)[j]?=MA d:=hd;rw[lq ps F C,J0 C]at hd;cases hd;have me:F[j]∈F:=K1 C;obtain⟨xs,n1,xl⟩:=fe _ me;refine⟨_,rfl,rfl,_,_,rfl,_,_,rfl,rfl,?_⟩;(try dsimp only[SD.aR])
    refine Pt fun B hB=>?_;refine⟨_,rfl,F[j],xs,rfl,n1,NL rfl,fun n9 u0=>⟨_,_,rfl,Oq n1 u0,(by have:1000<=Jv:=NL rfl;omega),?_⟩⟩
    have up:∀a,(∃V,O a=MA (.lst V)/\V.length<=100+j)->∃V,(az (az O n9 (.lst [.int 9])) F[j] (.lst (xs++[.ref n9]))) a=MA (.lst V)/\V.length<=100+(j+1):=fun a q=>by
     obtain⟨V,hy,yl⟩:=q;by_cases e:a=F[j]
     ·exact⟨_,by rw[e];exact ag,by rw[Ka];show _+1<=_;omega⟩
     ·exact⟨V,by rw[au e];exact Oq hy u0,()⟩
    have p1:SD.Sub X (az (az O n9 (.lst [.int 9])) F[j] (.lst (xs++[.ref n9]))):=fun a o h=>by rw[au (nf a o h _ (Jw _ me))];exact Oq (y0 _ _ h) u0
    have r1:(az (az O n9 (.lst [.int 9])) F[j] (.lst (xs++[.ref n9]))) z=MA (.lst (Nt ps F)):=by rw[au (n3 _ me)];exact Oq z0 u0
    have s1:=fun e he=>up e (fe e he);have a1:=fun p Z=>up p (fp p Z);show(SD.EndsD.nxt B _).nx _ (az (az O n9 (.lst [.int 9])) F[j] (.lst (xs++[.ref n9])));clear up n1 u0 z0 y0 fe fp;generalize az (az O n9 (.lst [.int 9])) F[j] (.lst (xs++[.ref n9]))=M3 at p1 r1 s1 a1 ⊢;cases j with
    |zero=>exact⟨_,rfl,_,rfl,_,rfl,jn rfl (hB _ _ ⟨_,_,rfl,p1,r1,s1,a1⟩)⟩
    |succ j=>
     have Z:j<ps.length:=()
     obtain⟨V,hy,yl⟩:=a1 _ (K1 Z)
     have mp:=K1 Z
     have cl:∀a,(∃V,M3 a=MA (.lst V)/\V.length<=100+(j+1+1))->∃V,(az M3 ps[j] (.lst [])) a=MA (.lst V)/\V.length<=100+(j+1+1):=fun a q=>by
      obtain⟨V,hy,yl⟩:=q;by_cases e:a=ps[j]
      ·exact⟨[],by rw[e];exact ag,Kj _⟩
      ·exact⟨V,by rw[au e];exact hy,yl⟩
     refine⟨_,rfl,_,rfl,_,rfl,zF ⟨_,rfl,ps[j],V,(by show D.ref ((ps[j]?).getD 0)=_;rw[J0 Z];rfl),hy,?_⟩⟩
     exact hB _ _ ⟨_,_,rfl,fun a o h=>by rw[au (nf a o h _ (Kt _ (Kt _ mp)))];exact p1 _ _ h,by rw[au (p3 _ mp)];exact r1,fun e he=>cl e (s1 e he),fun p Z=>cl p (a1 p Z)⟩
   ·rintro δ O ⟨J,c0,rfl,y0,z0,_,_⟩;refine⟨_,rfl,z,_,rfl,z0,?_⟩;have s3:SD.Sub X (az O z (.lst [])):=fun a o h=>by rw[au (fun e=>by rw[e,i3]at h;cases h)];exact y0 _ _ h
    show(SD.EndsD.nxt B _).nx _ (az O z (.lst []));generalize az O z (.lst [])=M3 at s3 ⊢;refine⟨_,rfl,t,b,sx,sy,ws,rfl,S,lw,hU,hF,fun MH z' r4 s4 t4 rf LF r3 _ GH t3 m2 n2 u3 w3 p2 _=>?_⟩;cases jR GH G;cases al LF t3;rw[W]at m2;rw[h0]at n2 p2;exact⟨_,rfl,Cg (xC w3 m2 n2 u3 p2) (i2 _ (SD.Sub.trans s3 r3)) ⟨_,rfl,jn rfl (hB _ _ ⟨_,rfl,rfl⟩)⟩⟩
theorem CW(ns:pq)(M:MH)(h:ns.length<=63):jU [.rol (ns.map D.int)] M (fun d _=>d=.bl MC):=⟨ns,rfl,h,fun _=>rfl⟩
def kE(P:JU)(n:String)(k:Nat)(v:J3):KG:={ hash:=PyData.keyHash P (LG n),key:=.str (LG n) k,val:=v }
def kF(i:Nat)(n m:String)(k c:Nat):Obj:={ cls:=.type "function",data:=.func { name:=LG n,qualname:=LG n,params:=cL (top i),body:=.stmts (bG (top i)),scope:=ay (top i),globals:=↑3,closure:=[],defaults:=.none,kwdefaults:=.none,pyModule:=.str (LG m) k,code:=.ref c } }
def ZH(P:JU):List KG:=[kE P "__name__" ↑165 (.str "law_spotlook_k22_lands_and_their_rings" 522),kE P "__doc__" ↑166 (.none),kE P "__package__" ↑167 (.none),kE P "__loader__" ↑168 (.builtin "__main__.__loader__#opaque"),kE P "__spec__" ↑169 (.none),kE P "__annotations__" ↑170 (.ref ↑6),kE P "__builtins__" ↑171 (.ref ↑4),kE P "__file__" ↑173 (.str "/claim/cut.py" 172)]
def ZG(P:JU):List KG:=[kE P "__cached__" ↑174 (.none),kE P "SpotError" ↑206 (.ref ↑24),kE P "NoFraction" ↑222 (.ref ↑37),kE P "greatest_divisor" ↑232 (.ref ↑46),kE P "fraction" ↑241 (.ref ↑53),kE P "is_less" ↑249 (.ref ↑60),kE P "common_bottom" ↑258 (.ref ↑67),kE P "top_over" ↑266 (.ref ↑74)]
def ZF(P:JU):List KG:=[kE P "is_ahead" ↑276 (.ref ↑81),kE P "later_of" ↑284 (.ref ↑88),kE P "earlier_of" ↑292 (.ref ↑95),kE P "place_among" ↑303 (.ref ↑102),kE P "ahead_first" ↑312 (.ref ↑109),kE P "own_spot" ↑321 (.ref ↑116),kE P "own_wall" ↑328 (.ref ↑123),kE P "gap" ↑336 (.ref ↑130)]
def ZE(P:JU):List KG:=[kE P "lean" ↑354 (.ref ↑137),kE P "side_of" ↑363 (.ref ↑144),kE P "spans" ↑373 (.ref ↑151),kE P "is_above" ↑385 (.ref ↑158),kE P "upper_of" ↑394 (.ref ↑165),kE P "upper_below" ↑400 (.ref ↑170),kE P "face_ends" ↑412 (.ref ↑177),kE P "faces_by_start" ↑421 (.ref ↑184)]
def ZD(P:JU):List KG:=[kE P "is_met_sooner" ↑433 (.ref ↑191),kE P "face_behind" ↑447 (.ref ↑198),kE P "ring_from" ↑458 (.ref ↑205),kE P "rings_of" ↑471 (.ref ↑212),kE P "twice_area" ↑477 (.ref ↑217),kE P "outer_and_inner" ↑489 (.ref ↑224),kE P "first_corner" ↑499 (.ref ↑231),kE P "land_about" ↑509 (.ref ↑238)]
def ZC(P:JU):List KG:=[kE P "lands_of_faces" ↑515 (.ref ↑243),kE P "lands_of" ↑521 (.ref ↑248),kE P "_law_cell_at" ↑531 (.ref ↑255),kE P "_law_take" ↑541 (.ref ↑262),kE P "_law_low" ↑551 (.ref ↑269),kE P "_law_scale" ↑561 (.ref ↑276),kE P "_law_spot" ↑573 (.ref ↑283),kE P "_law_made" ↑579 (.ref ↑288)]
def ZA(P:JU):List KG:=[kE P "_law_turn" ↑591 (.ref ↑295),kE P "_law_on" ↑599 (.ref ↑302),kE P "_law_fair" ↑605 (.ref ↑307),kE P "_law_shuts_here" ↑611 (.ref ↑312),kE P "_law_ends" ↑619 (.ref ↑319),kE P "_law_sooner" ↑625 (.ref ↑324),kE P "_law_behind" ↑631 (.ref ↑329),kE P "_law_rings" ↑642 (.ref ↑336)]
def Yz(P:JU):List KG:=[kE P "_law_twice" ↑648 (.ref ↑341),kE P "_law_inside" ↑663 (.ref ↑348),kE P "_law_group" ↑669 (.ref ↑353),kE P "_law_lands" ↑675 (.ref ↑358),kE P "_law_box" ↑681 (.ref ↑363),kE P "_law_order" ↑691 (.ref ↑370),kE P "_law_set" ↑697 (.ref ↑375),kE P "_law_squares" ↑709 (.ref ↑382)]
def Yy(P:JU):List KG:=[kE P "law" ↑715 (.ref ↑387)]
def kG(P:JU):Obj:={ cls:=.type "dict",data:=.dict (KA (ZH P++(ZG P++(ZF P++(ZE P++(ZD P++(ZC P++(ZA P++(Yz P++(Yy P)))))))))) 65 }
def N8(n:String)(h:Nat)(i:Nat)(j:Nat)(k:Nat)(l:Nat)(m:Nat)(a:Nat)(b:Nat)(c:Nat)(d:Nat)(e:Nat)(f:Nat)(g:Nat):Obj:={ cls:=.type "code",data:=.fields #[.str (LG n) h,.str (LG n) i,.str "/claim/cut.py" j,.int (Mr k) 0,.int (Mr l) 0,.int 0 0,.int 0 0,.int 3 0,.ref m,.bool MC,.int 181 0,.ref a,.none,.ref b,.ref c,.ref d,.int (Mr e) 0,.int (Mr f) 0,.str "/claim/cut.py" g] }
def kN(l:List Obj)(i:Nat):Obj:=l.getD i { cls:=.none,data:=.dict #[] }
def Nf(n q:Str)(a b c l k f r:Nat)(t:Bool)(s:Nat)(x y z:J3)(d e:Nat):Obj:={ cls:=.type "code",data:=.fields #[.str n a,.str q b,.str "/claim/cut.py" c,.int l 0,.int k 0,.int 0 0,.int 0 0,.int f 0,.ref r,.bool t,.int 181 0,.ref s,.none,x,y,z,.int d 0,.int l 0,.str "/claim/cut.py" e] }
def YY(n:Str)(s g a i j:Nat):Obj:={ cls:=.type "type",data:=.cls { name:=n,bases:=[.ref 24],mro:=[.ref s,.ref 24,.type "ValueError",.type "Exception",.type "BaseException",.type "object"],ns:=g,qualname:=n,hasDict:=MC,slotNames:=[],subclasses:=[],abstract:=MD,collection:=MB,hasDel:=MD },slots:=#[MA (.ref a),MB,MA (.str n i),MA (.str n j),MA (.builtin "ValueError.__new__"),MA (.bool MC)] }
def ZN(n:Str)(s g a i j:Nat):Obj:={ cls:=.type "type",data:=.cls { name:=n,bases:=[.ref ↑24],mro:=[.ref s,.ref ↑24,.type "ValueError",.type "Exception",.type "BaseException",.type "object"],ns:=g,qualname:=n,hasDict:=MC,slotNames:=[],subclasses:=[],abstract:=MD,collection:=MB,hasDel:=MD },slots:=#[MA (.ref a),MB,MA (.str n i),MA (.str n j),MA (.builtin "ValueError.__new__"),MA (.bool MC)] }
def OE:J3:=.str "law_spotlook_k22_lands_and_their_rings" 522
def OK(i:Nat)(n:String)(c:Nat):Obj:=kF i n "law_spotlook_k22_lands_and_their_rings" ↑522 c
def Rh:List Obj:=[N8 "greatest_divisor" ↑225 ↑226 ↑227 ↑7 ↑2 ↑40 ↑41 ↑42 ↑43 ↑44 ↑230 ↑7 ↑231,kF ↑4 "greatest_divisor" "spotlook.fractions" ↑223 ↑45,N8 "fraction" ↑233 ↑234 ↑235 ↑11 ↑2 ↑47 ↑48 ↑49 ↑50 ↑51 ↑239 ↑11 ↑240,kF ↑5 "fraction" "spotlook.fractions" ↑223 ↑52,N8 "is_less" ↑242 ↑243 ↑244 ↑18 ↑2 ↑54 ↑55 ↑56 ↑57 ↑58 ↑247 ↑18 ↑248,kF ↑6 "is_less" "spotlook.fractions" ↑223 ↑59,N8 "common_bottom" ↑250 ↑251 ↑252 ↑20 ↑1 ↑61 ↑62 ↑63 ↑64 ↑65 ↑256 ↑20 ↑257,kF ↑7 "common_bottom" "spotlook.fractions" ↑223 ↑66]
def Rg:List Obj:=[N8 "top_over" ↑259 ↑260 ↑261 ↑25 ↑2 ↑68 ↑69 ↑70 ↑71 ↑72 ↑264 ↑25 ↑265,kF ↑8 "top_over" "spotlook.fractions" ↑223 ↑73,N8 "is_ahead" ↑269 ↑270 ↑271 ↑28 ↑2 ↑75 ↑76 ↑77 ↑78 ↑79 ↑274 ↑28 ↑275,kF ↑10 "is_ahead" "spotlook.spots" ↑267 ↑80,N8 "later_of" ↑277 ↑278 ↑279 ↑32 ↑2 ↑82 ↑83 ↑84 ↑85 ↑86 ↑282 ↑32 ↑283,kF ↑11 "later_of" "spotlook.spots" ↑267 ↑87,N8 "earlier_of" ↑285 ↑286 ↑287 ↑34 ↑2 ↑89 ↑90 ↑91 ↑92 ↑93 ↑290 ↑34 ↑291,kF ↑12 "earlier_of" "spotlook.spots" ↑267 ↑94]
def Rc:List Obj:=[N8 "place_among" ↑293 ↑294 ↑295 ↑36 ↑2 ↑96 ↑97 ↑98 ↑99 ↑100 ↑301 ↑36 ↑302,kF ↑13 "place_among" "spotlook.spots" ↑267 ↑101,N8 "ahead_first" ↑304 ↑305 ↑306 ↑45 ↑1 ↑103 ↑104 ↑105 ↑106 ↑107 ↑310 ↑45 ↑311,kF ↑14 "ahead_first" "spotlook.spots" ↑267 ↑108,N8 "own_spot" ↑313 ↑314 ↑315 ↑50 ↑1 ↑110 ↑111 ↑112 ↑113 ↑114 ↑319 ↑50 ↑320,kF ↑15 "own_spot" "spotlook.spots" ↑267 ↑115,N8 "own_wall" ↑322 ↑323 ↑324 ↑53 ↑1 ↑117 ↑118 ↑119 ↑120 ↑121 ↑326 ↑53 ↑327,kF ↑16 "own_wall" "spotlook.spots" ↑267 ↑122]
def Rb:List Obj:=[N8 "gap" ↑329 ↑330 ↑331 ↑55 ↑2 ↑124 ↑125 ↑126 ↑127 ↑128 ↑334 ↑55 ↑335,kF ↑17 "gap" "spotlook.spots" ↑267 ↑129,N8 "lean" ↑337 ↑338 ↑339 ↑57 ↑2 ↑131 ↑132 ↑133 ↑134 ↑135 ↑352 ↑57 ↑353,kF ↑18 "lean" "spotlook.spots" ↑267 ↑136,N8 "side_of" ↑355 ↑356 ↑357 ↑63 ↑2 ↑138 ↑139 ↑140 ↑141 ↑142 ↑361 ↑63 ↑362,kF ↑19 "side_of" "spotlook.spots" ↑267 ↑143,N8 "spans" ↑366 ↑367 ↑368 ↑71 ↑2 ↑145 ↑146 ↑147 ↑148 ↑149 ↑371 ↑71 ↑372,kF ↑21 "spans" "spotlook.above" ↑364 ↑150]
def Ra:List Obj:=[N8 "is_above" ↑374 ↑375 ↑376 ↑73 ↑2 ↑152 ↑153 ↑154 ↑155 ↑156 ↑383 ↑73 ↑384,kF ↑22 "is_above" "spotlook.above" ↑364 ↑157,N8 "upper_of" ↑386 ↑387 ↑388 ↑81 ↑1 ↑159 ↑160 ↑161 ↑162 ↑163 ↑392 ↑81 ↑393,kF ↑23 "upper_of" "spotlook.above" ↑364 ↑164,(Nf "upper_below" "upper_below" 395 396 397 87 2 3 166 MC 167 .none .none (.ref 168) 398 399),kF ↑24 "upper_below" "spotlook.above" ↑364 ↑169,N8 "face_ends" ↑403 ↑404 ↑405 ↑91 ↑2 ↑171 ↑172 ↑173 ↑174 ↑175 ↑410 ↑91 ↑411,kF ↑26 "face_ends" "spotlook.rings" ↑401 ↑176]
def R9:List Obj:=[N8 "faces_by_start" ↑413 ↑414 ↑415 ↑94 ↑1 ↑178 ↑179 ↑180 ↑181 ↑182 ↑419 ↑94 ↑420,kF ↑27 "faces_by_start" "spotlook.rings" ↑401 ↑183,N8 "is_met_sooner" ↑422 ↑423 ↑424 ↑99 ↑4 ↑185 ↑186 ↑187 ↑188 ↑189 ↑431 ↑99 ↑432,kF ↑28 "is_met_sooner" "spotlook.rings" ↑401 ↑190,N8 "face_behind" ↑434 ↑435 ↑436 ↑105 ↑3 ↑192 ↑193 ↑194 ↑195 ↑196 ↑445 ↑105 ↑446,kF ↑29 "face_behind" "spotlook.rings" ↑401 ↑197,N8 "ring_from" ↑448 ↑449 ↑450 ↑113 ↑3 ↑199 ↑200 ↑201 ↑202 ↑203 ↑456 ↑113 ↑457,kF ↑30 "ring_from" "spotlook.rings" ↑401 ↑204]
def R7:List Obj:=[N8 "rings_of" ↑459 ↑460 ↑461 ↑120 ↑1 ↑206 ↑207 ↑208 ↑209 ↑210 ↑469 ↑120 ↑470,kF ↑31 "rings_of" "spotlook.rings" ↑401 ↑211,(Nf "twice_area" "twice_area" 472 473 474 131 2 3 213 MC 214 .none .none (.ref 215) 475 476),kF ↑32 "twice_area" "spotlook.rings" ↑401 ↑216,N8 "outer_and_inner" ↑480 ↑481 ↑482 ↑141 ↑1 ↑218 ↑219 ↑220 ↑221 ↑222 ↑487 ↑141 ↑488,kF ↑34 "outer_and_inner" "spotlook.lands" ↑478 ↑223,N8 "first_corner" ↑490 ↑491 ↑492 ↑149 ↑2 ↑225 ↑226 ↑227 ↑228 ↑229 ↑497 ↑149 ↑498,kF ↑35 "first_corner" "spotlook.lands" ↑478 ↑230]
def R6:List Obj:=[N8 "land_about" ↑500 ↑501 ↑502 ↑154 ↑3 ↑232 ↑233 ↑234 ↑235 ↑236 ↑507 ↑154 ↑508,kF ↑36 "land_about" "spotlook.lands" ↑478 ↑237,(Nf "lands_of_faces" "lands_of_faces" 510 511 512 157 1 3 239 MC 240 .none .none (.ref 241) 513 514),kF ↑37 "lands_of_faces" "spotlook.lands" ↑478 ↑242,(Nf "lands_of" "lands_of" 516 517 518 169 1 3 244 MC 245 .none .none (.ref 246) 519 520),kF ↑38 "lands_of" "spotlook.lands" ↑478 ↑247,N8 "_law_cell_at" ↑524 ↑525 ↑526 ↑177 ↑2 ↑249 ↑250 ↑251 ↑252 ↑253 ↑529 ↑177 ↑530,OK ↑40 "_law_cell_at" ↑254]
def R5:List Obj:=[N8 "_law_take" ↑532 ↑533 ↑534 ↑181 ↑2 ↑256 ↑257 ↑258 ↑259 ↑260 ↑539 ↑181 ↑540,OK ↑41 "_law_take" ↑261,N8 "_law_low" ↑542 ↑543 ↑544 ↑190 ↑2 ↑263 ↑264 ↑265 ↑266 ↑267 ↑549 ↑190 ↑550,OK ↑42 "_law_low" ↑268,N8 "_law_scale" ↑552 ↑553 ↑554 ↑198 ↑1 ↑270 ↑271 ↑272 ↑273 ↑274 ↑559 ↑198 ↑560,OK ↑43 "_law_scale" ↑275,N8 "_law_spot" ↑562 ↑563 ↑564 ↑204 ↑2 ↑277 ↑278 ↑279 ↑280 ↑281 ↑571 ↑204 ↑572,OK ↑44 "_law_spot" ↑282]
def R4:List Obj:=[(Nf "_law_made" "_law_made" 574 575 576 207 2 3 284 MC 285 .none .none (.ref 286) 577 578),OK ↑45 "_law_made" ↑287,N8 "_law_turn" ↑580 ↑581 ↑582 ↑209 ↑3 ↑289 ↑290 ↑291 ↑292 ↑293 ↑589 ↑209 ↑590,OK ↑46 "_law_turn" ↑294,N8 "_law_on" ↑592 ↑593 ↑594 ↑214 ↑2 ↑296 ↑297 ↑298 ↑299 ↑300 ↑597 ↑214 ↑598,OK ↑47 "_law_on" ↑301,(Nf "_law_fair" "_law_fair" 600 601 602 216 2 3 303 MC 304 .none .none (.ref 305) 603 604),OK ↑48 "_law_fair" ↑306]
def Oz:List Obj:=[(Nf "_law_shuts_here" "_law_shuts_here" 606 607 608 226 3 3 308 MC 309 .none .none (.ref 310) 609 610),OK ↑49 "_law_shuts_here" ↑311,N8 "_law_ends" ↑612 ↑613 ↑614 ↑237 ↑2 ↑313 ↑314 ↑315 ↑316 ↑317 ↑617 ↑237 ↑618,OK ↑50 "_law_ends" ↑318,(Nf "_law_sooner" "_law_sooner" 620 621 622 239 3 3 320 MC 321 .none .none (.ref 322) 623 624),OK ↑51 "_law_sooner" ↑323,(Nf "_law_behind" "_law_behind" 626 627 628 245 2 3 325 MC 326 .none .none (.ref 327) 629 630),OK ↑52 "_law_behind" ↑328]
def Oy:List Obj:=[N8 "_law_rings" ↑632 ↑633 ↑634 ↑256 ↑1 ↑330 ↑331 ↑332 ↑333 ↑334 ↑640 ↑256 ↑641,OK ↑53 "_law_rings" ↑335,(Nf "_law_twice" "_law_twice" 643 644 645 267 2 3 337 MC 338 .none .none (.ref 339) 646 647),OK ↑54 "_law_twice" ↑340,N8 "_law_inside" ↑649 ↑650 ↑651 ↑270 ↑3 ↑342 ↑343 ↑344 ↑345 ↑346 ↑661 ↑270 ↑662,OK ↑55 "_law_inside" ↑347,(Nf "_law_group" "_law_group" 664 665 666 278 2 3 349 MC 350 .none .none (.ref 351) 667 668),OK ↑56 "_law_group" ↑352]
def Ox:List Obj:=[(Nf "_law_lands" "_law_lands" 670 671 672 288 1 3 354 MC 355 .none .none (.ref 356) 673 674),OK ↑57 "_law_lands" ↑357,(Nf "_law_box" "_law_box" 676 677 678 308 2 3 359 MC 360 .none .none (.ref 361) 679 680),OK ↑58 "_law_box" ↑362,N8 "_law_order" ↑682 ↑683 ↑684 ↑312 ↑2 ↑364 ↑365 ↑366 ↑367 ↑368 ↑689 ↑312 ↑690,OK ↑59 "_law_order" ↑369,(Nf "_law_set" "_law_set" 692 693 694 317 1 3 371 MC 372 .none .none (.ref 373) 695 696),OK ↑60 "_law_set" ↑374]
def RJ:List Obj:=[N8 "_law_squares" ↑698 ↑699 ↑700 ↑332 ↑1 ↑376 ↑377 ↑378 ↑379 ↑380 ↑707 ↑332 ↑708,OK ↑61 "_law_squares" ↑381,(Nf "law" "law" 710 711 712 341 1 3 383 MC 384 .none .none (.ref 385) 713 714),OK ↑62 "law" ↑386]
def kK:JU->J1:=fun P=>(↑3,kG P)::(↑45,kN Rh ↑0)::(↑46,kN Rh ↑1)::(↑52,kN Rh ↑2)::(↑53,kN Rh ↑3)::(↑59,kN Rh ↑4)::(↑60,kN Rh ↑5)::(↑66,kN Rh ↑6)::(↑67,kN Rh ↑7)::(↑73,kN Rg ↑0)::(↑74,kN Rg ↑1)::(↑80,kN Rg ↑2)::(↑81,kN Rg ↑3)::(↑87,kN Rg ↑4)::(↑88,kN Rg ↑5)::(↑94,kN Rg ↑6)::(↑95,kN Rg ↑7)::(↑101,kN Rc ↑0)::(↑102,kN Rc ↑1)::(↑108,kN Rc ↑2)::(↑109,kN Rc ↑3)::(↑115,kN Rc ↑4)::(↑116,kN Rc ↑5)::(↑122,kN Rc ↑6)::(↑123,kN Rc ↑7)::(↑129,kN Rb ↑0)::(↑130,kN Rb ↑1)::(↑136,kN Rb ↑2)::(↑137,kN Rb ↑3)::(↑143,kN Rb ↑4)::(↑144,kN Rb ↑5)::(↑150,kN Rb ↑6)::(↑151,kN Rb ↑7)::(↑157,kN Ra ↑0)::(↑158,kN Ra ↑1)::(↑164,kN Ra ↑2)::(↑165,kN Ra ↑3)::(↑169,kN Ra ↑4)::(↑170,kN Ra ↑5)::(↑176,kN Ra ↑6)::(↑177,kN Ra ↑7)::(↑183,kN R9 ↑0)::(↑184,kN R9 ↑1)::(↑190,kN R9 ↑2)::(↑191,kN R9 ↑3)::(↑197,kN R9 ↑4)::(↑198,kN R9 ↑5)::(↑204,kN R9 ↑6)::(↑205,kN R9 ↑7)::(↑211,kN R7 ↑0)::(↑212,kN R7 ↑1)::(↑216,kN R7 ↑2)::(↑217,kN R7 ↑3)::(↑223,kN R7 ↑4)::(↑224,kN R7 ↑5)::(↑230,kN R7 ↑6)::(↑231,kN R7 ↑7)::(↑237,kN R6 ↑0)::(↑238,kN R6 ↑1)::(↑242,kN R6 ↑2)::(↑243,kN R6 ↑3)::(↑247,kN R6 ↑4)::(↑248,kN R6 ↑5)::(↑254,kN R6 ↑6)::(↑255,kN R6 ↑7)::(↑261,kN R5 ↑0)::(↑262,kN R5 ↑1)::(↑268,kN R5 ↑2)::(↑269,kN R5 ↑3)::(↑275,kN R5 ↑4)::(↑276,kN R5 ↑5)::(↑282,kN R5 ↑6)::(↑283,kN R5 ↑7)::(↑287,kN R4 ↑0)::(↑288,kN R4 ↑1)::(↑294,kN R4 ↑2)::(↑295,kN R4 ↑3)::(↑301,kN R4 ↑4)::(↑302,kN R4 ↑5)::(↑306,kN R4 ↑6)::(↑307,kN R4 ↑7)::(↑311,kN Oz ↑0)::(↑312,kN Oz ↑1)::(↑318,kN Oz ↑2)::(↑319,kN Oz ↑3)::(↑323,kN Oz ↑4)::(↑324,kN Oz ↑5)::(↑328,kN Oz ↑6)::(↑329,kN Oz ↑7)::(↑335,kN Oy ↑0)::(↑336,kN Oy ↑1)::(↑340,kN Oy ↑2)::(↑341,kN Oy ↑3)::(↑347,kN Oy ↑4)::(↑348,kN Oy ↑5)::(↑352,kN Oy ↑6)::(↑353,kN Oy ↑7)::(↑357,kN Ox ↑0)::(↑358,kN Ox ↑1)::(↑362,kN Ox ↑2)::(↑363,kN Ox ↑3)::(↑369,kN Ox ↑4)::(↑370,kN Ox ↑5)::(↑374,kN Ox ↑6)::(↑375,kN Ox ↑7)::(↑381,kN RJ ↑0)::(↑382,kN RJ ↑1)::(↑386,kN RJ ↑2)::(↑387,kN RJ ↑3)::[]
end QQ
section
namespace QQ
open PySem L2
inductive Tg{A:Type}(a:A):Type where|mk:Tg a
def pk{A:Type}{a:A}(_:Tg a):A:=a
def hE(P:JU)(n:Str)(k:Nat)(v:J3):KG:={ hash:=PyData.keyHash P n,key:=.str n k,val:=v }
def RA(k:Nat)(l:List KG):Obj:={ cls:=.type "dict",data:=.dict (KA l) k }
def Rp:J3:=.str "spotlook.errors" 187
def kU(s:oa)(n q:Str)(g:Nat)(m c:J3):Mv:={ name:=n,qualname:=q,params:=cL s,body:=.stmts (bG s),scope:=ay s,globals:=g,closure:=[],defaults:=.none,kwdefaults:=.none,pyModule:=m,code:=c }
def kC(s:oa)(i:Nat):oa:=match s with
 |.ClassDef (body:=b) ..=>b.getD i (.Pass ⟨0,0,0,0⟩)
 |s=>s
def N6(l:List J3):Obj:={ cls:=.type "tuple",data:=.seq l.toArray 0 }
def ZO(l:List J3):Obj:={ cls:=.none,data:=.fields l.toArray }
local macro_rules | `(tactic| walk_at "st") => `(tactic| (intro t; (conv at t => (arg 1; whnf)); exact pk (.mk : type_of% t)))
local macro_rules | `(⇑$n:num) => `((by refine' (?_ : Tg (top $n) → oa) .mk; walk_at "st" : oa))
def YG:oa:=⇑0
def WN:oa:=⇑1
def Sd:oa:=⇑2
def S9:oa:=⇑3
def Pn:oa:=⇑4
def Ol:oa:=⇑5
def S6:oa:=⇑6
def Ot:oa:=⇑7
def S5:oa:=⇑8
def YF:oa:=⇑9
def Ov:oa:=⇑10
def Ou:oa:=⇑11
def Qn:oa:=⇑12
def O7:oa:=⇑13
def Qm:oa:=⇑14
def Ql:oa:=⇑15
def Qk:oa:=⇑16
def Qj:oa:=⇑17
def Qi:oa:=⇑18
def Qh:oa:=⇑19
def Sb:oa:=⇑20
def Qg:oa:=⇑21
def Qf:oa:=⇑22
def Qe:oa:=⇑23
def Qd:oa:=⇑24
def Sa:oa:=⇑25
def Qc:oa:=⇑26
def Qb:oa:=⇑27
def Qa:oa:=⇑28
def Q9:oa:=⇑29
def Q8:oa:=⇑30
def Q7:oa:=⇑31
def Q6:oa:=⇑32
def S8:oa:=⇑33
def Q5:oa:=⇑34
def Q4:oa:=⇑35
def Q3:oa:=⇑36
def Q2:oa:=⇑37
def Q1:oa:=⇑38
def S7:oa:=⇑39
def Q0:oa:=⇑40
def QZ:oa:=⇑41
def QY:oa:=⇑42
def QX:oa:=⇑43
def QW:oa:=⇑44
def QV:oa:=⇑45
def QU:oa:=⇑46
def QT:oa:=⇑47
def QS:oa:=⇑48
def QR:oa:=⇑49
def QP:oa:=⇑50
def QO:oa:=⇑51
def QN:oa:=⇑52
def QM:oa:=⇑53
def QL:oa:=⇑54
def QK:oa:=⇑55
def QJ:oa:=⇑56
def QI:oa:=⇑57
def QH:oa:=⇑58
def QG:oa:=⇑59
def QF:oa:=⇑60
def QE:oa:=⇑61
def QD:oa:=⇑62
def Yi:LY:=by refine'(?_:Tg (JY.main.scope)->LY) .mk;walk_at "st"
def ZK:Str:=by refine'(?_:Tg (JY.main.file)->Str) .mk;walk_at "st"
def ZJ:Given:=by refine'(?_:Tg (JY.given)->Given) .mk;walk_at "st"
def Yj:p_:=QS::QR::QP::QO::QN::QM::QL::QK::QJ::QI::QH::QG::QF::QE::QD::[]
def Yk:p_:=Q6::S8::Q5::Q4::Q3::Q2::Q1::S7::Q0::QZ::QY::QX::QW::QV::QU::QT::Yj
def Yl:p_:=Qk::Qj::Qi::Qh::Sb::Qg::Qf::Qe::Qd::Sa::Qc::Qb::Qa::Q9::Q8::Q7::Yk
def pw2:JL:={ main:={ body:=YG::WN::Sd::S9::Pn::Ol::S6::Ot::S5::YF::Ov::Ou::Qn::O7::Qm::Ql::Yl,scope:=Yi,futureAnnotations:=MD,file:=ZK,more:=[] },modules:=[],parses:=[],absent:=[],harvested:=[],given:=ZJ }
def YZ:p_:=QK::QJ::QI::QH::QG::QF::QE::QD::[]
def Y0:p_:=Q1::Q0::QZ::QY::QX::QW::QV::QU::QT::QS::QR::QP::QO::QN::QM::QL::YZ
def Y1:p_:=Qh::Qg::Qf::Qe::Qd::Qc::Qb::Qa::Q9::Q8::Q7::Q6::Q5::Q4::Q3::Q2::Y0
def vw:JL:={ pw2 with main:={ pw2.main with body:=WN::Sd::Pn::Ol::S6::Ot::S5::Ov::Ou::Qn::O7::Qm::Ql::Qk::Qj::Qi::Y1 } }
def sx0:p_:=[YG,WN]
def sx1:p_:=[Sd,S9,Pn,Ol,S6,Ot,S5,YF]
def sx2:p_:=[Ov,Ou,Qn,O7,Qm,Ql,Qk,Qj,Qi,Qh,Sb,Qg,Qf]
def sx3:p_:=[Qe,Qd,Sa,Qc,Qb,Qa,Q9,Q8,Q7,Q6,S8,Q5,Q4,Q3]
def sx4:p_:=[Q2,Q1,S7,Q0,QZ,QY,QX,QW,QV,QU,QT,QS,QR,QP]
def sx5:p_:=[QO,QN,QM,QL,QK,QJ,QI,QH,QG,QF,QE,QD]
def Vi(P:JU):List KG:=[hE P "__doc__" 166 .none,hE P "__package__" 167 .none,hE P "__loader__" 168 (.builtin "__main__.__loader__#opaque"),hE P "__spec__" 169 .none,hE P "__annotations__" 170 (.ref 6),hE P "__builtins__" 171 (.ref 4),hE P "__file__" 173 (.str "/claim/cut.py" 172),hE P "__cached__" 174 .none]
def Vh(P:JU):List KG:=[hE P "SpotError" 206 (.ref 24),hE P "NoFraction" 222 (.ref 37),hE P "greatest_divisor" 232 (.ref 46),hE P "fraction" 241 (.ref 53),hE P "is_less" 249 (.ref 60),hE P "common_bottom" 258 (.ref 67),hE P "top_over" 266 (.ref 74),hE P "is_ahead" 276 (.ref 81)]
def Vg(P:JU):List KG:=[hE P "later_of" 284 (.ref 88),hE P "earlier_of" 292 (.ref 95),hE P "place_among" 303 (.ref 102),hE P "ahead_first" 312 (.ref 109),hE P "own_spot" 321 (.ref 116),hE P "own_wall" 328 (.ref 123),hE P "gap" 336 (.ref 130),hE P "lean" 354 (.ref 137)]
def Vf(P:JU):List KG:=[hE P "side_of" 363 (.ref 144),hE P "spans" 373 (.ref 151),hE P "is_above" 385 (.ref 158),hE P "upper_of" 394 (.ref 165),hE P "upper_below" 400 (.ref 170),hE P "face_ends" 412 (.ref 177),hE P "faces_by_start" 421 (.ref 184),hE P "is_met_sooner" 433 (.ref 191)]
def Ve(P:JU):List KG:=[hE P "face_behind" 447 (.ref 198),hE P "ring_from" 458 (.ref 205),hE P "rings_of" 471 (.ref 212),hE P "twice_area" 477 (.ref 217),hE P "outer_and_inner" 489 (.ref 224),hE P "first_corner" 499 (.ref 231),hE P "land_about" 509 (.ref 238),hE P "lands_of_faces" 515 (.ref 243)]
def Vd(P:JU):List KG:=[hE P "lands_of" 521 (.ref 248),hE P "_law_cell_at" 531 (.ref 255),hE P "_law_take" 541 (.ref 262),hE P "_law_low" 551 (.ref 269),hE P "_law_scale" 561 (.ref 276),hE P "_law_spot" 573 (.ref 283),hE P "_law_made" 579 (.ref 288),hE P "_law_turn" 591 (.ref 295)]
def Vb(P:JU):List KG:=[hE P "_law_on" 599 (.ref 302),hE P "_law_fair" 605 (.ref 307),hE P "_law_shuts_here" 611 (.ref 312),hE P "_law_ends" 619 (.ref 319),hE P "_law_sooner" 625 (.ref 324),hE P "_law_behind" 631 (.ref 329),hE P "_law_rings" 642 (.ref 336),hE P "_law_twice" 648 (.ref 341)]
def Va(P:JU):List KG:=[hE P "_law_inside" 663 (.ref 348),hE P "_law_group" 669 (.ref 353),hE P "_law_lands" 675 (.ref 358),hE P "_law_box" 681 (.ref 363),hE P "_law_order" 691 (.ref 370),hE P "_law_set" 697 (.ref 375),hE P "_law_squares" 709 (.ref 382),hE P "law" 715 (.ref 387)]
def SO(P:JU):List KG:=Vi P++(Vh P++(Vg P++(Vf P++(Ve P++(Vd P++(Vb P++(Va P)))))))
def Pa:List J3:=[(.int 2 0),(.int 0 0),(.ref 20),(.int 4 0),(.int 0 0),(.ref 33),(.int 7 0),(.int 0 0),(.ref 45),(.int 11 0),(.int 0 0),(.ref 52),(.int 18 0),(.int 0 0),(.ref 59),(.int 20 0),(.int 0 0),(.ref 66),(.int 25 0),(.int 0 0),(.ref 73),(.int 28 0),(.int 0 0),(.ref 80),(.int 32 0),(.int 0 0),(.ref 87),(.int 34 0),(.int 0 0),(.ref 94),(.int 36 0),(.int 0 0),(.ref 101),(.int 45 0),(.int 0 0),(.ref 108),(.int 50 0),(.int 0 0),(.ref 115),(.int 53 0),(.int 0 0),(.ref 122),(.int 55 0),(.int 0 0),(.ref 129),(.int 57 0),(.int 0 0),(.ref 136),(.int 63 0),(.int 0 0),(.ref 143),(.int 71 0),(.int 0 0),(.ref 150),(.int 73 0),(.int 0 0),(.ref 157),(.int 81 0),(.int 0 0),(.ref 164),(.int 87 0),(.int 0 0),(.ref 169),(.int 91 0),(.int 0 0),(.ref 176),(.int 94 0),(.int 0 0),(.ref 183),(.int 99 0),(.int 0 0),(.ref 190),(.int 105 0),(.int 0 0),(.ref 197),(.int 113 0),(.int 0 0),(.ref 204),(.int 120 0),(.int 0 0),(.ref 211),(.int 131 0),(.int 0 0),(.ref 216),(.int 141 0),(.int 0 0),(.ref 223),(.int 149 0),(.int 0 0),(.ref 230),(.int 154 0),(.int 0 0),(.ref 237),(.int 157 0),(.int 0 0),(.ref 242),(.int 169 0),(.int 0 0),(.ref 247),(.int 177 0),(.int 0 0),(.ref 254),(.int 181 0),(.int 0 0),(.ref 261),(.int 190 0),(.int 0 0),(.ref 268),(.int 198 0),(.int 0 0),(.ref 275),(.int 204 0),(.int 0 0),(.ref 282),(.int 207 0),(.int 0 0),(.ref 287),(.int 209 0),(.int 0 0),(.ref 294),(.int 214 0),(.int 0 0),(.ref 301),(.int 216 0),(.int 0 0),(.ref 306),(.int 226 0),(.int 0 0),(.ref 311),(.int 237 0),(.int 0 0),(.ref 318),(.int 239 0),(.int 0 0),(.ref 323),(.int 245 0),(.int 0 0),(.ref 328),(.int 256 0),(.int 0 0),(.ref 335),(.int 267 0),(.int 0 0),(.ref 340),(.int 270 0),(.int 0 0),(.ref 347),(.int 278 0),(.int 0 0),(.ref 352),(.int 288 0),(.int 0 0),(.ref 357),(.int 308 0),(.int 0 0),(.ref 362),(.int 312 0),(.int 0 0),(.ref 369),(.int 317 0),(.int 0 0),(.ref 374),(.int 332 0),(.int 0 0),(.ref 381),(.int 341 0),(.int 0 0),(.ref 386)]
def hC(n:Str)(i j k a l b c d e m o p q r f g h:Nat)(s:Bool):Obj:={ cls:=.type "code",data:=.fields #[.str n i,.str n j,.str "/claim/cut.py" k,.int (Mr m) 0,.int (Mr o) 0,.int (Mr p) 0,.int (Mr q) 0,.int (Mr r) 0,.ref l,.bool s,.int (Mr f) 0,.ref b,.none,.ref c,.ref d,.ref e,.int (Mr g) 0,.int (Mr h) 0,.str "/claim/cut.py" a] }
def hF(t:J3)(s:oa)(n:Str)(g:Nat)(m c:J3):Obj:={ cls:=t,data:=.func (kU s n n g m c) }
def N3(s:oa)(n:Str)(m:J3)(r:Nat):Obj:=hF (.type "function") s n 3 m (.ref r)
def Xr:Obj:=N6 []
def Xq:Obj:={ cls:=.none,data:=.fields (KA (Pa.take 0)) }
def Xp:Obj:=Nf "<module>" "<module>" 182 183 184 1 0 0 11 MD 12 .none .none .none 185 186
def Xo:Obj:={ cls:=(.type "frame"),slots:=#[(MA (.ref 13)),(MA (.ref 3)),(MA (.ref 3)),MB,(MA (.str "__main__" 164)),MB,(MA (.ref 0))] }
def Xn(P:JU):Obj:=RA 10 (hE P "__name__" 165 Rp::(SO P).take 9)
def Xm:Obj:={ cls:=.none,data:=.fields (KA (Pa.take 3)) }
def Xl:Obj:=N6 [(.type "ValueError")]
def Xk:Obj:={ cls:=(.type "builtin_function_or_method"),data:=(.fields #[(.builtin "type.__prepare__"),(.type "type")]) }
def Xj(P:JU):Obj:=RA 4 [hE P "__module__" 196 Rp,hE P "__qualname__" 198 (.str "SpotError" 197),hE P "__firstlineno__" 200 (.int 2 199),hE P "__static_attributes__" 201 (.ref 22)]
def Xi:Obj:=Nf "SpotError" "SpotError" 191 192 193 2 0 0 18 MD 19 .none .none .none 194 195
def Xh:Obj:={ cls:=(.type "frame"),slots:=#[(MA (.ref 20)),(MA (.ref 3)),(MA (.ref 17)),MB,(MA Rp),MB,(MA (.ref 0))] }
def Xg(P:JU):Obj:=RA 3 [hE P "__module__" 196 Rp,hE P "__firstlineno__" 200 (.int 2 199),hE P "__static_attributes__" 201 (.ref 22),hE P "__weakref__" 203 (.ref 25),hE P "__doc__" 204 .none]
def Xf:Obj:={ cls:=(.type "type"),data:=(.cls { name:="SpotError",bases:=[(.type "ValueError")],mro:=[(.ref 24),(.type "ValueError"),(.type "Exception"),(.type "BaseException"),(.type "object")],ns:=23,qualname:="SpotError",hasDict:=MC,slotNames:=[],subclasses:=[],abstract:=MD,collection:=MB,hasDel:=MD }),slots:=#[(MA (.ref 15)),MB,(MA (.str "SpotError" 189)),(MA (.str "SpotError" 197)),(MA (.builtin "ValueError.__new__")),(MA (.bool MC))] }
def Xe:Obj:={ cls:=(.type "getset_descriptor"),data:=(.fields #[(.str "__weakref__" 202),(.ref 24),(.builtin "ExceptionGroup.__weakref__"),.none]) }
def Xd:Obj:={ cls:=(.type "super"),data:=(.fields #[(.ref 24),(.ref 24),(.ref 24)]) }
def Xc:Obj:={ cls:=(.type "builtin_function_or_method"),data:=(.fields #[(.builtin "object.__init_subclass__"),(.ref 24)]) }
def Xb(P:JU):Obj:=RA 16 (hE P "__name__" 165 (.str "spotlook.spots" 267)::(SO P).take 15)
def Xa:Obj:={ cls:=.none,data:=.fields (KA (Pa.take 21)) }
def X9:Obj:={ cls:=(.type "type"),data:=(.cls { name:="SpotError",bases:=[(.type "ValueError")],mro:=[(.ref 24),(.type "ValueError"),(.type "Exception"),(.type "BaseException"),(.type "object")],ns:=23,qualname:="SpotError",hasDict:=MC,slotNames:=[],subclasses:=[(.ref 37)],abstract:=MD,collection:=MB,hasDel:=MD }),slots:=#[(MA (.ref 15)),MB,(MA (.str "SpotError" 189)),(MA (.str "SpotError" 197)),(MA (.builtin "ValueError.__new__")),(MA (.bool MC))] }
def X8:Obj:=N6 [(.ref 24)]
def X7(P:JU):Obj:=RA 4 [hE P "__module__" 214 Rp,hE P "__qualname__" 216 (.str "NoFraction" 215),hE P "__firstlineno__" 218 (.int 4 217),hE P "__static_attributes__" 219 (.ref 35)]
def X6:Obj:=Nf "NoFraction" "NoFraction" 209 210 211 4 0 0 31 MD 32 .none .none .none 212 213
def X5:Obj:={ cls:=(.type "frame"),slots:=#[(MA (.ref 33)),(MA (.ref 3)),(MA (.ref 30)),MB,(MA Rp),MB,(MA (.ref 0))] }
def X4(P:JU):Obj:=RA 2 [hE P "__module__" 214 Rp,hE P "__firstlineno__" 218 (.int 4 217),hE P "__static_attributes__" 219 (.ref 35),hE P "__doc__" 220 .none]
def X3:Obj:=YY "NoFraction" 37 36 28 207 215
def X2:Obj:={ cls:=(.type "super"),data:=(.fields #[(.ref 37),(.ref 37),(.ref 37)]) }
def X1:Obj:={ cls:=(.type "builtin_function_or_method"),data:=(.fields #[(.builtin "object.__init_subclass__"),(.ref 37)]) }
def X0:Obj:=N6 [(.str "one" 228),(.str "other" 229)]
def XZ:Obj:=hF .none Pn "greatest_divisor" 0 .none .none
def XY:Obj:=hC "greatest_divisor" 225 226 227 231 40 41 42 43 44 7 2 0 0 3 181 230 7 MC
def XX:Obj:=N3 Pn "greatest_divisor" (.str "spotlook.fractions" 223) 45
def XW:Obj:=N6 [(.str "top" 236),(.str "bottom" 237),(.str "divisor" 238)]
def XU:Obj:=hF .none Ol "fraction" 0 .none .none
def XT:Obj:=hC "fraction" 233 234 235 240 47 48 49 50 51 11 2 0 0 3 181 239 11 MC
def XS:Obj:=N3 Ol "fraction" (.str "spotlook.fractions" 223) 52
def XR:Obj:=N6 [(.str "one" 245),(.str "other" 246)]
def XQ:Obj:=hF .none S6 "is_less" 0 .none .none
def XO:Obj:=hC "is_less" 242 243 244 248 54 55 56 57 58 18 2 0 0 3 181 247 18 MC
def XN:Obj:=N3 S6 "is_less" (.str "spotlook.fractions" 223) 59
def XM:Obj:=N6 [(.str "parts" 253),(.str "common" 254),(.str "part" 255)]
def XJ:Obj:=hF .none Ot "common_bottom" 0 .none .none
def XI:Obj:=hC "common_bottom" 250 251 252 257 61 62 63 64 65 20 1 0 0 3 181 256 20 MC
def XH:Obj:=N3 Ot "common_bottom" (.str "spotlook.fractions" 223) 66
def XG:Obj:=N6 [(.str "part" 262),(.str "bottom" 263)]
def XF:Obj:=hF .none S5 "top_over" 0 .none .none
def XE:Obj:=hC "top_over" 259 260 261 265 68 69 70 71 72 25 2 0 0 3 181 264 25 MC
def XD:Obj:=N3 S5 "top_over" (.str "spotlook.fractions" 223) 73
def XC(P:JU):Obj:=RA 28 (hE P "__name__" 165 (.str "spotlook.above" 364)::(SO P).take 27)
def XB:Obj:={ cls:=.none,data:=.fields (KA (Pa.take 57)) }
def XA:Obj:=N6 [(.str "one" 272),(.str "other" 273)]
def Wz:Obj:=hF .none Ov "is_ahead" 0 .none .none
def Wy:Obj:=hC "is_ahead" 269 270 271 275 75 76 77 78 79 28 2 0 0 3 181 274 28 MC
def Wx:Obj:=N3 Ov "is_ahead" (.str "spotlook.spots" 267) 80
def Ww:Obj:=N6 [(.str "one" 280),(.str "other" 281)]
def Wv:Obj:=hF .none Ou "later_of" 0 .none .none
def Wu:Obj:=hC "later_of" 277 278 279 283 82 83 84 85 86 32 2 0 0 3 181 282 32 MC
def Ws:Obj:=N3 Ou "later_of" (.str "spotlook.spots" 267) 87
def Wr:Obj:=N6 [(.str "one" 288),(.str "other" 289)]
def Wq:Obj:=hF .none Qn "earlier_of" 0 .none .none
def Wo:Obj:=hC "earlier_of" 285 286 287 291 89 90 91 92 93 34 2 0 0 3 181 290 34 MC
def Wn:Obj:=N3 Qn "earlier_of" (.str "spotlook.spots" 267) 94
def Wm:Obj:=N6 [(.str "row" 296),(.str "spot" 297),(.str "low" 298),(.str "high" 299),(.str "middle" 300)]
def Wk:Obj:=hF .none O7 "place_among" 0 .none .none
def Wj:Obj:=hC "place_among" 293 294 295 302 96 97 98 99 100 36 2 0 0 3 181 301 36 MC
def Wi:Obj:=N3 O7 "place_among" (.str "spotlook.spots" 267) 101
def Wh:Obj:=N6 [(.str "spots" 307),(.str "row" 308),(.str "spot" 309)]
def Wg:Obj:=hF .none Qm "ahead_first" 0 .none .none
def Wf:Obj:=hC "ahead_first" 304 305 306 311 103 104 105 106 107 45 1 0 0 3 181 310 45 MC
def We:Obj:=N3 Qm "ahead_first" (.str "spotlook.spots" 267) 108
def Wd:Obj:=N6 [(.str "spot" 316),(.str "x" 317),(.str "y" 318)]
def Wc:Obj:=hF .none Ql "own_spot" 0 .none .none
def Wb:Obj:=hC "own_spot" 313 314 315 320 110 111 112 113 114 50 1 0 0 3 181 319 50 MC
def Wa:Obj:=N3 Ql "own_spot" (.str "spotlook.spots" 267) 115
def W9:Obj:=N6 [(.str "wall" 325)]
def W7:Obj:=hF .none Qk "own_wall" 0 .none .none
def W5:Obj:=hC "own_wall" 322 323 324 327 117 118 119 120 121 53 1 0 0 3 181 326 53 MC
def W4:Obj:=N3 Qk "own_wall" (.str "spotlook.spots" 267) 122
def W3:Obj:=N6 [(.str "one" 332),(.str "other" 333)]
def W2:Obj:=hF .none Qj "gap" 0 .none .none
def W0:Obj:=hC "gap" 329 330 331 335 124 125 126 127 128 55 2 0 0 3 181 334 55 MC
def WZ:Obj:=N3 Qj "gap" (.str "spotlook.spots" 267) 129
def WY:Obj:=N6 [(.str "wall" 340),(.str "spot" 341),(.str "a" 342),(.str "b" 343),(.str "c" 344),(.str "d" 345),(.str "x" 346),(.str "y" 347),(.str "across" 348),(.str "up" 349),(.str "along" 350),(.str "high" 351)]
def WX:Obj:=hF .none Qi "lean" 0 .none .none
def WW:Obj:=hC "lean" 337 338 339 353 131 132 133 134 135 57 2 0 0 3 181 352 57 MC
def WV:Obj:=N3 Qi "lean" (.str "spotlook.spots" 267) 136
def WU:Obj:=N6 [(.str "wall" 358),(.str "spot" 359),(.str "top" 360)]
def WT:Obj:=hF .none Qh "side_of" 0 .none .none
def WS:Obj:=hC "side_of" 355 356 357 362 138 139 140 141 142 63 2 0 0 3 181 361 63 MC
def WR:Obj:=N3 Qh "side_of" (.str "spotlook.spots" 267) 143
def V7:Obj:=N6 [(.str "wall" 369),(.str "spot" 370)]
def V6:Obj:=hF .none Qg "spans" 0 .none .none
def V5:Obj:=hC "spans" 366 367 368 372 145 146 147 148 149 71 2 0 0 3 181 371 71 MC
def V4:Obj:=N3 Qg "spans" (.str "spotlook.above" 364) 150
def V3:Obj:=N6 [(.str "one" 377),(.str "other" 378),(.str "start" 379),(.str "end" 380),(.str "place" 381),(.str "deciding" 382)]
def V2:Obj:=hF .none Qf "is_above" 0 .none .none
def V1:Obj:=hC "is_above" 374 375 376 384 152 153 154 155 156 73 2 0 0 3 181 383 73 MC
def V0:Obj:=N3 Qf "is_above" (.str "spotlook.above" 364) 157
def VZ(P:JU):Obj:=RA 40 (hE P "__name__" 165 (.str "spotlook.lands" 478)::(SO P).take 39)
def VY:Obj:={ cls:=.none,data:=.fields (KA (Pa.take 93)) }
def VX:Obj:=N6 [(.str "walls" 389),(.str "upper" 390),(.str "wall" 391)]
def VW:Obj:=hF .none Qe "upper_of" 0 .none .none
def VU:Obj:=hC "upper_of" 386 387 388 393 159 160 161 162 163 81 1 0 0 3 181 392 81 MC
def VT:Obj:=N3 Qe "upper_of" (.str "spotlook.above" 364) 164
def VS:Obj:=hF .none Qd "upper_below" 0 .none .none
def VR:Obj:=Nf "upper_below" "upper_below" 395 396 397 87 2 3 166 MC 167 .none .none (.ref 168) 398 399
def VQ:Obj:=N3 Qd "upper_below" (.str "spotlook.above" 364) 169
def VP:Obj:=N6 [(.str "plot" 406),(.str "face" 407),(.str "first" 408),(.str "second" 409)]
def VO:Obj:=hF .none Qc "face_ends" 0 .none .none
def VN:Obj:=hC "face_ends" 403 404 405 411 171 172 173 174 175 91 2 0 0 3 181 410 91 MC
def VM:Obj:=N3 Qc "face_ends" (.str "spotlook.rings" 401) 176
def VL:Obj:=N6 [(.str "plot" 416),(.str "leaving" 417),(.str "face" 418)]
def VJ:Obj:=hF .none Qb "faces_by_start" 0 .none .none
def VI:Obj:=hC "faces_by_start" 413 414 415 420 178 179 180 181 182 94 1 0 0 3 181 419 94 MC
def VG:Obj:=N3 Qb "faces_by_start" (.str "spotlook.rings" 401) 183
def VF:Obj:=N6 [(.str "corner" 425),(.str "came_from" 426),(.str "one" 427),(.str "other" 428),(.str "turn" 429),(.str "other_turn" 430)]
def VE:Obj:=hF .none Qa "is_met_sooner" 0 .none .none
def VD:Obj:=hC "is_met_sooner" 422 423 424 432 185 186 187 188 189 99 4 0 0 3 181 431 99 MC
def VC:Obj:=N3 Qa "is_met_sooner" (.str "spotlook.rings" 401) 190
def VB:Obj:=N6 [(.str "plot" 437),(.str "leaving" 438),(.str "face" 439),(.str "came_from" 440),(.str "corner" 441),(.str "back" 442),(.str "best" 443),(.str "rival" 444)]
def VA:Obj:=hF .none Q9 "face_behind" 0 .none .none
def Uz:Obj:=hC "face_behind" 434 435 436 446 192 193 194 195 196 105 3 0 0 3 181 445 105 MC
def Uy:Obj:=N3 Q9 "face_behind" (.str "spotlook.rings" 401) 197
def Ux:Obj:=N6 [(.str "plot" 451),(.str "leaving" 452),(.str "face" 453),(.str "ring" 454),(.str "at" 455)]
def Uw:Obj:=hF .none Q8 "ring_from" 0 .none .none
def Uv:Obj:=hC "ring_from" 448 449 450 457 199 200 201 202 203 113 3 0 0 3 181 456 113 MC
def Uu:Obj:=N3 Q8 "ring_from" (.str "spotlook.rings" 401) 204
def Ut:Obj:=N6 [(.str "plot" 462),(.str "leaving" 463),(.str "rings" 464),(.str "gone_along" 465),(.str "face" 466),(.str "ring" 467),(.str "part" 468)]
def Us:Obj:=hF .none Q7 "rings_of" 0 .none .none
def Ur:Obj:=hC "rings_of" 459 460 461 470 206 207 208 209 210 120 1 0 0 3 181 469 120 MC
def Uq:Obj:=N3 Q7 "rings_of" (.str "spotlook.rings" 401) 211
def Up:Obj:=hF .none Q6 "twice_area" 0 .none .none
def Uo:Obj:=Nf "twice_area" "twice_area" 472 473 474 131 2 3 213 MC 214 .none .none (.ref 215) 475 476
def Um:Obj:=N3 Q6 "twice_area" (.str "spotlook.rings" 401) 216
def Ul:Obj:=N6 [(.str "plot" 483),(.str "outers" 484),(.str "inners" 485),(.str "ring" 486)]
def Uk:Obj:=hF .none Q5 "outer_and_inner" 0 .none .none
def Uj:Obj:=hC "outer_and_inner" 480 481 482 488 218 219 220 221 222 141 1 0 0 3 181 487 141 MC
def Ui:Obj:=N3 Q5 "outer_and_inner" (.str "spotlook.lands" 478) 223
def Uh:Obj:=N6 [(.str "plot" 493),(.str "ring" 494),(.str "first" 495),(.str "face" 496)]
def Ug:Obj:=hF .none Q4 "first_corner" 0 .none .none
def Ue:Obj:=hC "first_corner" 490 491 492 498 225 226 227 228 229 149 2 0 0 3 181 497 149 MC
def Ud:Obj:=N3 Q4 "first_corner" (.str "spotlook.lands" 478) 230
def Uc:Obj:=N6 [(.str "plot" 503),(.str "lands" 504),(.str "corner" 505),(.str "wall" 506)]
def Ub:Obj:=hF .none Q3 "land_about" 0 .none .none
def Ua:Obj:=hC "land_about" 500 501 502 508 232 233 234 235 236 154 3 0 0 3 181 507 154 MC
def U9:Obj:=N3 Q3 "land_about" (.str "spotlook.lands" 478) 237
def U8(P:JU):Obj:=RA 53 (hE P "__name__" 165 OE::(SO P).take 52)
def U7:Obj:={ cls:=.none,data:=.fields (KA (Pa.take 132)) }
def U6:Obj:=hF .none Q2 "lands_of_faces" 0 .none .none
def U5:Obj:=Nf "lands_of_faces" "lands_of_faces" 510 511 512 157 1 3 239 MC 240 .none .none (.ref 241) 513 514
def U4:Obj:=N3 Q2 "lands_of_faces" (.str "spotlook.lands" 478) 242
def U3:Obj:=hF .none Q1 "lands_of" 0 .none .none
def U2:Obj:=Nf "lands_of" "lands_of" 516 517 518 169 1 3 244 MC 245 .none .none (.ref 246) 519 520
def U1:Obj:=N3 Q1 "lands_of" (.str "spotlook.lands" 478) 247
def U0:Obj:=N6 [(.str "_law_script" 527),(.str "_law_k" 528)]
def UZ:Obj:=hF .none Q0 "_law_cell_at" 0 .none .none
def UY:Obj:=hC "_law_cell_at" 524 525 526 530 249 250 251 252 253 177 2 0 0 3 181 529 177 MC
def UX:Obj:=N3 Q0 "_law_cell_at" OE 254
def UW:Obj:=N6 [(.str "_law_row" 535),(.str "_law_base" 536),(.str "_law_rest" 537),(.str "_law_number" 538)]
def UU:Obj:=hF .none QZ "_law_take" 0 .none .none
def UT:Obj:=hC "_law_take" 532 533 534 540 256 257 258 259 260 181 2 0 0 3 181 539 181 MC
def US:Obj:=N3 QZ "_law_take" OE 261
def UR:Obj:=N6 [(.str "_law_top" 545),(.str "_law_bottom" 546),(.str "_law_one" 547),(.str "_law_other" 548)]
def UQ:Obj:=hF .none QY "_law_low" 0 .none .none
def UP:Obj:=hC "_law_low" 542 543 544 550 263 264 265 266 267 190 2 0 0 3 181 549 190 MC
def UO:Obj:=N3 QY "_law_low" OE 268
def UN:Obj:=N6 [(.str "_law_row" 555),(.str "_law_top" 556),(.str "_law_bottom" 557),(.str "_law_far" 558)]
def UM:Obj:=hF .none QX "_law_scale" 0 .none .none
def UL:Obj:=hC "_law_scale" 552 553 554 560 270 271 272 273 274 198 1 0 0 3 181 559 198 MC
def UK:Obj:=N3 QX "_law_scale" OE 275
def UJ:Obj:=N6 [(.str "_law_scale_here" 565),(.str "_law_unit" 566),(.str "_law_top" 567),(.str "_law_bottom" 568),(.str "_law_x" 569),(.str "_law_y" 570)]
def UI:Obj:=hF .none QW "_law_spot" 0 .none .none
def UH:Obj:=hC "_law_spot" 562 563 564 572 277 278 279 280 281 204 2 0 0 3 181 571 204 MC
def UG:Obj:=N3 QW "_law_spot" OE 282
def UE:Obj:=hF .none QV "_law_made" 0 .none .none
def UD:Obj:=Nf "_law_made" "_law_made" 574 575 576 207 2 3 284 MC 285 .none .none (.ref 286) 577 578
def UC:Obj:=N3 QV "_law_made" OE 287
def UB:Obj:=N6 [(.str "_law_one" 583),(.str "_law_two" 584),(.str "_law_three" 585),(.str "_law_far" 586),(.str "_law_beside" 587),(.str "_law_found" 588)]
def UA:Obj:=hF .none QU "_law_turn" 0 .none .none
def Tz:Obj:=hC "_law_turn" 580 581 582 590 289 290 291 292 293 209 3 0 0 3 181 589 209 MC
def Tw:Obj:=N3 QU "_law_turn" OE 294
def Tv:Obj:=N6 [(.str "_law_shut" 595),(.str "_law_spot_here" 596)]
def Tu:Obj:=hF .none QT "_law_on" 0 .none .none
def Tt:Obj:=hC "_law_on" 592 593 594 598 296 297 298 299 300 214 2 0 0 3 181 597 214 MC
def Ts:Obj:=N3 QT "_law_on" OE 301
def Tr:Obj:=hF .none QS "_law_fair" 0 .none .none
def Tq:Obj:=Nf "_law_fair" "_law_fair" 600 601 602 216 2 3 303 MC 304 .none .none (.ref 305) 603 604
def Tp:Obj:=N3 QS "_law_fair" OE 306
def To:Obj:=hF .none QR "_law_shuts_here" 0 .none .none
def Tn:Obj:=Nf "_law_shuts_here" "_law_shuts_here" 606 607 608 226 3 3 308 MC 309 .none .none (.ref 310) 609 610
def Tj:Obj:=N3 QR "_law_shuts_here" OE 311
def Ti:Obj:=N6 [(.str "_law_shuts" 615),(.str "_law_face" 616)]
def Th:Obj:=hF .none QP "_law_ends" 0 .none .none
def Tf:Obj:=hC "_law_ends" 612 613 614 618 313 314 315 316 317 237 2 0 0 3 181 617 237 MC
def Te:Obj:=N3 QP "_law_ends" OE 318
def Td(P:JU):Obj:=RA 65 (hE P "__name__" 165 OE::(SO P).take 64)
def Tc:Obj:={ cls:=.none,data:=.fields (KA (Pa.take 168)) }
def Tb:Obj:=hF .none QO "_law_sooner" 0 .none .none
def Ta:Obj:=Nf "_law_sooner" "_law_sooner" 620 621 622 239 3 3 320 MC 321 .none .none (.ref 322) 623 624
def T9:Obj:=N3 QO "_law_sooner" OE 323
def T8:Obj:=hF .none QN "_law_behind" 0 .none .none
def T7:Obj:=Nf "_law_behind" "_law_behind" 626 627 628 245 2 3 325 MC 326 .none .none (.ref 327) 629 630
def T6:Obj:=N3 QN "_law_behind" OE 328
def T5:Obj:=N6 [(.str "_law_shuts" 635),(.str "_law_rings_here" 636),(.str "_law_gone" 637),(.str "_law_face" 638),(.str "_law_ring" 639)]
def T4:Obj:=hF .none QM "_law_rings" 0 .none .none
def TZ:Obj:=hC "_law_rings" 632 633 634 641 330 331 332 333 334 256 1 0 0 3 181 640 256 MC
def TY:Obj:=N3 QM "_law_rings" OE 335
def TX:Obj:=hF .none QL "_law_twice" 0 .none .none
def TV:Obj:=Nf "_law_twice" "_law_twice" 643 644 645 267 2 3 337 MC 338 .none .none (.ref 339) 646 647
def TU:Obj:=N3 QL "_law_twice" OE 340
def TR:Obj:=N6 [(.str "_law_shuts" 652),(.str "_law_ring" 653),(.str "_law_spot_here" 654),(.str "_law_many" 655),(.str "_law_face" 656),(.str "_law_one" 657),(.str "_law_other" 658),(.str "_law_low_here" 659),(.str "_law_high" 660)]
def TQ:Obj:=hF .none QK "_law_inside" 0 .none .none
def TN:Obj:=hC "_law_inside" 649 650 651 662 342 343 344 345 346 270 3 0 0 3 181 661 270 MC
def TM:Obj:=N3 QK "_law_inside" OE 347
def TL:Obj:=hF .none QJ "_law_group" 0 .none .none
def TK:Obj:=Nf "_law_group" "_law_group" 664 665 666 278 2 3 349 MC 350 .none .none (.ref 351) 667 668
def TJ:Obj:=N3 QJ "_law_group" OE 352
def TH:Obj:=hF .none QI "_law_lands" 0 .none .none
def TF:Obj:=Nf "_law_lands" "_law_lands" 670 671 672 288 1 3 354 MC 355 .none .none (.ref 356) 673 674
def TC:Obj:=N3 QI "_law_lands" OE 357
def TB:Obj:=hF .none QH "_law_box" 0 .none .none
def Sz:Obj:=Nf "_law_box" "_law_box" 676 677 678 308 2 3 359 MC 360 .none .none (.ref 361) 679 680
def Sy:Obj:=N3 QH "_law_box" OE 362
def Sx:Obj:=N6 [(.str "_law_row" 685),(.str "_law_many" 686),(.str "_law_found" 687),(.str "_law_number" 688)]
def Sw:Obj:=hF .none QG "_law_order" 0 .none .none
def Sv:Obj:=hC "_law_order" 682 683 684 690 364 365 366 367 368 312 2 0 0 3 181 689 312 MC
def Su:Obj:=N3 QG "_law_order" OE 369
def Ss:Obj:=hF .none QF "_law_set" 0 .none .none
def Sr:Obj:=Nf "_law_set" "_law_set" 692 693 694 317 1 3 371 MC 372 .none .none (.ref 373) 695 696
def Sq:Obj:=N3 QF "_law_set" OE 374
def So:Obj:=N6 [(.str "_law_row" 701),(.str "_law_many" 702),(.str "_law_shuts" 703),(.str "_law_k" 704),(.str "_law_found" 705),(.str "_law_number" 706)]
def Sm:Obj:=hF .none QE "_law_squares" 0 .none .none
def Sl:Obj:=hC "_law_squares" 698 699 700 708 376 377 378 379 380 332 1 0 0 3 181 707 332 MC
def Sk:Obj:=N3 QE "_law_squares" OE 381
def Sj:Obj:=hF .none QD "law" 0 .none .none
def Si:Obj:=Nf "law" "law" 710 711 712 341 1 3 383 MC 384 .none .none (.ref 385) 713 714
def Sf:Obj:=N3 QD "law" OE 386
def Yw(P:JU):List Obj:=[PySem.W.boot_o_0 P,PySem.W.boot_o_1 P,PySem.W.boot_o_2 P,PySem.W.boot_o_3 P,PySem.W.boot_o_4 P,PySem.W.boot_o_5 P,PySem.W.boot_o_6 P,PySem.W.boot_o_7 P,PySem.W.boot_o_8 P,PySem.W.boot_o_9 P,PySem.W.boot_o_10 P,Xr,Xq,Xp,Xo,Xn P]
def Yv(P:JU):List Obj:=[Xm,Xl,Xk,Xj P,Xi,Xh,Xg P,Xf,Xe,Xd,Xc,Xb P,Xa,X9,X8,X7 P]
def Yu(P:JU):List Obj:=[X6,X5,X4 P,X3,X2,X1,X0,XZ,XY,XX,XW,XU,XT,XS,XR,XQ]
def Yt(P:JU):List Obj:=[XO,XN,XM,XJ,XI,XH,XG,XF,XE,XD,XC P,XB,XA,Wz,Wy,Wx]
def Ys(P:JU):List Obj:=[Ww,Wv,Wu,Ws,Wr,Wq,Wo,Wn,Wm,Wk,Wj,Wi,Wh,Wg,Wf,We]
def Yr(P:JU):List Obj:=[Wd,Wc,Wb,Wa,W9,W7,W5,W4,W3,W2,W0,WZ,WY,WX,WW,WV]
def Yq(P:JU):List Obj:=[WU,WT,WS,WR,V7,V6,V5,V4,V3,V2,V1,V0,VZ P,VY,VX,VW]
def Yp(P:JU):List Obj:=[VU,VT,VS,VR,VQ,VP,VO,VN,VM,VL,VJ,VI,VG,VF,VE,VD]
def Yo(P:JU):List Obj:=[VC,VB,VA,Uz,Uy,Ux,Uw,Uv,Uu,Ut,Us,Ur,Uq,Up,Uo,Um]
def Yn(P:JU):List Obj:=[Ul,Uk,Uj,Ui,Uh,Ug,Ue,Ud,Uc,Ub,Ua,U9,U8 P,U7,U6,U5]
def Xx(P:JU):List Obj:=[U4,U3,U2,U1,U0,UZ,UY,UX,UW,UU,UT,US,UR,UQ,UP,UO]
def Xw(P:JU):List Obj:=[UN,UM,UL,UK,UJ,UI,UH,UG,UE,UD,UC,UB,UA,Tz,Tw,Tv]
def Xv(P:JU):List Obj:=[Tu,Tt,Ts,Tr,Tq,Tp,To,Tn,Tj,Ti,Th,Tf,Te,Td P,Tc,Tb]
def Xu(P:JU):List Obj:=[Ta,T9,T8,T7,T6,T5,T4,TZ,TY,TX,TV,TU,TR,TQ,TN,TM]
def Xt(P:JU):List Obj:=[TL,TK,TJ,TH,TF,TC,TB,Sz,Sy,Sx,Sw,Sv,Su,Ss,Sr,Sq]
def Xs(P:JU):List Obj:=[So,Sm,Sl,Sk,Sj,Si,Sf]
def fA(c i:Nat)(P:JU):Obj:=(([Yw P,Yv P,Yu P,Yt P,Ys P,Yr P,Yq P,Yp P,Yo P,Yn P,Xx P,Xw P,Xv P,Xu P,Xt P,Xs P]:List (List Obj)).getD c []).getD i { cls:=.none }
def Yb(n:Nat->JT->JT->JT)(e:JT):JT:=(fun m:Nat->JT=>(n 0 (n 1 (n 3 (m 7) (m 11)) (n 5 (m 9) (m 13))) (n 2 (n 4 (m 8) (m 12)) (n 6 (m 10) (m 14))))) fun a=>n a e e
def tX0(f:Nat->Nat->JU->Obj)(P:JU):JT:=Yb (fun k=>.node (f (k/16) (k%16) P)) .nil
def Ya(n:Nat->JT->JT->JT)(e:JT):JT:=(fun m:Nat->JT=>(n 0 (n 1 (n 15 (n 7 (m 17) (m 22)) (n 11 (m 12) (m 26))) (n 5 (n 9 (m 19) (m 24)) (n 13 (m 21) e))) (n 2 (n 4 (n 8 (m 18) (m 23)) (n 16 (m 20) e)) (n 6 (n 10 (m 11) (m 25)) (n 14 (m 11) e))))) fun a=>n a e e
def tX1(f:Nat->Nat->JU->Obj)(P:JU):JT:=Ya (fun k=>.node (f (k/16) (k%16) P)) .nil
def Y9(n:Nat->JT->JT->JT)(e:JT):JT:=(fun m:Nat->JT=>(n 0 (n 1 (n 27 (n 7 (n 17 (n 11 (m 50) e) (m 11)) (n 22 (n 37 (m 11) e) (m 12))) (n 11 (n 12 (n 11 (m 53) e) (m 43)) (n 26 (m 11) (m 48)))) (n 5 (n 9 (n 19 (n 32 (m 51) e) (m 42)) (n 24 (n 12 (m 56) e) (m 11))) (n 13 (n 21 (n 35 (m 12) e) (m 45)) (n 18 (m 40) (m 11))))) (n 2 (n 4 (n 8 (n 18 (n 12 (m 11) e) (m 12)) (n 29 (n 11 (m 55) e) (m 46))) (n 28 (n 20 (n 34 (m 11) e) (m 44)) (n 30 (m 39) (m 49)))) (n 6 (n 10 (n 11 (n 33 (m 52) e) (m 11)) (n 25 (n 38 (m 57) e) (m 47))) (n 14 (n 11 (n 36 (m 54) e) (m 11)) (n 31 (m 41) (m 12))))))) fun a=>n a e e
def tX2(f:Nat->Nat->JU->Obj)(P:JU):JT:=Y9 (fun k=>.node (f (k/16) (k%16) P)) .nil
def Y8(n:Nat->JT->JT->JT)(e:JT):JT:=(fun m:Nat->JT=>(n 0 (n 1 (n 58 (n 7 (n 17 (n 11 (n 50 (m 11) e) (m 71)) (n 11 (n 61 (m 98) e) (m 12))) (n 22 (n 37 (n 11 (m 93) e) (m 11)) (n 12 (n 66 (m 103) e) (m 84)))) (n 11 (n 12 (n 11 (n 53 (m 11) e) (m 11)) (n 43 (n 12 (m 100) e) (m 82))) (n 26 (n 11 (n 11 (m 12) e) (m 77)) (n 48 (n 68 (m 11) e) (m 87))))) (n 5 (n 9 (n 19 (n 32 (n 51 (m 90) e) (m 12)) (n 42 (n 63 (m 11) e) (m 11))) (n 24 (n 12 (n 56 (m 95) e) (m 76)) (n 11 (n 11 (m 12) e) (m 85)))) (n 13 (n 21 (n 35 (n 12 (m 92) e) (m 74)) (n 45 (n 11 (m 101) e) (m 11))) (n 18 (n 40 (n 60 (m 11) e) (m 79)) (n 11 (n 69 (m 106) e) (m 12)))))) (n 2 (n 4 (n 8 (n 18 (n 12 (n 11 (m 89) e) (m 11)) (n 12 (n 62 (m 99) e) (m 80))) (n 29 (n 11 (n 55 (m 94) e) (m 12)) (n 46 (n 67 (m 11) e) (m 11)))) (n 59 (n 20 (n 34 (n 11 (m 12) e) (m 73)) (n 44 (n 64 (m 11) e) (m 83))) (n 30 (n 39 (n 12 (m 96) e) (m 78)) (n 49 (n 11 (m 105) e) (m 11))))) (n 6 (n 10 (n 11 (n 33 (n 52 (m 91) e) (m 72)) (n 11 (n 11 (m 12) e) (m 81))) (n 25 (n 38 (n 57 (m 11) e) (m 11)) (n 47 (n 12 (m 104) e) (m 86)))) (n 14 (n 11 (n 36 (n 54 (m 11) e) (m 75)) (n 11 (n 65 (m 102) e) (m 12))) (n 31 (n 41 (n 11 (m 97) e) (m 11)) (n 12 (n 70 (m 107) e) (m 88)))))))) fun a=>n a e e
def tX3(f:Nat->Nat->JU->Obj)(P:JU):JT:=Y8 (fun k=>.node (f (k/16) (k%16) P)) .nil
def Y7(n:Nat->JT->JT->JT)(e:JT):JT:=(fun m:Nat->JT=>(n 0 (n 1 (n 108 (n 7 (n 17 (n 11 (n 50 (m 11) (m 128)) (n 71 (m 11) (m 146))) (n 11 (n 61 (m 98) (m 12)) (n 12 (m 118) e))) (n 22 (n 37 (n 11 (m 93) (m 11)) (n 11 (m 12) (m 151))) (n 12 (n 66 (m 103) (m 141)) (n 84 (m 123) e)))) (n 11 (n 12 (n 11 (n 53 (m 11) (m 11)) (n 11 (m 111) (m 148))) (n 43 (n 12 (m 100) (m 139)) (n 82 (m 12) e))) (n 26 (n 11 (n 11 (m 12) (m 134)) (n 77 (m 11) (m 11))) (n 48 (n 68 (m 11) (m 12)) (n 87 (m 125) e))))) (n 5 (n 9 (n 19 (n 32 (n 51 (m 90) (m 12)) (n 12 (m 110) (m 11))) (n 42 (n 63 (m 11) (m 11)) (n 11 (m 120) e))) (n 24 (n 12 (n 56 (m 95) (m 133)) (n 76 (m 115) (m 12))) (n 11 (n 11 (m 12) (m 143)) (n 85 (m 11) e)))) (n 13 (n 21 (n 35 (n 12 (m 92) (m 131)) (n 74 (m 113) (m 149))) (n 45 (n 11 (m 101) (m 11)) (n 11 (m 11) e))) (n 18 (n 40 (n 60 (m 11) (m 136)) (n 79 (m 117) (m 154))) (n 11 (n 69 (m 106) (m 11)) (n 12 (m 126) e)))))) (n 2 (n 4 (n 8 (n 18 (n 12 (n 11 (m 89) (m 11)) (n 11 (m 12) (m 147))) (n 12 (n 62 (m 99) (m 137)) (n 80 (m 119) e))) (n 29 (n 11 (n 55 (m 94) (m 12)) (n 12 (m 114) (m 11))) (n 46 (n 67 (m 11) (m 142)) (n 11 (m 124) e)))) (n 109 (n 20 (n 34 (n 11 (m 12) (m 130)) (n 73 (m 112) (m 11))) (n 44 (n 64 (m 11) (m 140)) (n 83 (m 121) e))) (n 30 (n 39 (n 12 (m 96) (m 135)) (n 78 (m 12) (m 153))) (n 49 (n 11 (m 105) (m 144)) (n 11 (m 11) e))))) (n 6 (n 10 (n 11 (n 33 (n 52 (m 91) (m 129)) (n 72 (m 11) (m 12))) (n 11 (n 11 (m 12) (m 138)) (n 81 (m 11) e))) (n 25 (n 38 (n 57 (m 11) (m 11)) (n 11 (m 116) (m 152))) (n 47 (n 12 (m 104) (m 11)) (n 86 (m 12) e)))) (n 14 (n 11 (n 36 (n 54 (m 11) (m 132)) (n 75 (m 11) (m 150))) (n 11 (n 65 (m 102) (m 12)) (n 12 (m 122) e))) (n 31 (n 41 (n 11 (m 97) (m 11)) (n 11 (m 11) (m 155))) (n 12 (n 70 (m 107) (m 145)) (n 88 (m 127) e)))))))) fun a=>n a e e
def tX4(f:Nat->Nat->JU->Obj)(P:JU):JT:=Y7 (fun k=>.node (f (k/16) (k%16) P)) .nil
def Y6(n:Nat->JT->JT->JT)(e:JT):JT:=(fun m:Nat->JT=>(n 0 (n 1 (n 156 (n 7 (n 17 (n 11 (n 50 (n 11 (m 167) e) (n 128 (m 204) e)) (n 71 (n 11 (m 185) e) (m 146))) (n 11 (n 61 (n 98 (m 12) e) (m 12)) (n 12 (n 118 (m 11) e) (m 11)))) (n 22 (n 37 (n 11 (n 93 (m 11) e) (m 11)) (n 11 (n 12 (m 190) e) (m 151))) (n 12 (n 66 (n 103 (m 180) e) (m 141)) (n 84 (n 123 (m 199) e) (m 162))))) (n 11 (n 12 (n 11 (n 53 (n 11 (m 11) e) (m 11)) (n 11 (n 111 (m 187) e) (m 148))) (n 43 (n 12 (n 100 (m 178) e) (m 139)) (n 82 (n 12 (m 197) e) (m 160)))) (n 26 (n 11 (n 11 (n 12 (m 173) e) (m 134)) (n 77 (n 11 (m 11) e) (m 11))) (n 48 (n 68 (n 11 (m 183) e) (m 12)) (n 87 (n 125 (m 201) e) (m 164)))))) (n 5 (n 9 (n 19 (n 32 (n 51 (n 90 (m 12) e) (m 12)) (n 12 (n 110 (m 11) e) (m 11))) (n 42 (n 63 (n 11 (m 11) e) (m 11)) (n 11 (n 120 (m 195) e) (m 158)))) (n 24 (n 12 (n 56 (n 95 (m 172) e) (m 133)) (n 76 (n 115 (m 12) e) (m 12))) (n 11 (n 11 (n 12 (m 181) e) (m 143)) (n 85 (n 11 (m 11) e) (m 11))))) (n 13 (n 21 (n 35 (n 12 (n 92 (m 170) e) (m 131)) (n 74 (n 113 (m 188) e) (m 149))) (n 45 (n 11 (n 101 (m 11) e) (m 11)) (n 11 (n 11 (m 12) e) (m 12)))) (n 18 (n 40 (n 60 (n 11 (m 175) e) (m 136)) (n 79 (n 117 (m 193) e) (m 154))) (n 11 (n 69 (n 106 (m 12) e) (m 11)) (n 12 (n 126 (m 202) e) (m 165))))))) (n 2 (n 4 (n 8 (n 18 (n 12 (n 11 (n 89 (m 11) e) (m 11)) (n 11 (n 12 (m 186) e) (m 147))) (n 12 (n 62 (n 99 (m 176) e) (m 137)) (n 80 (n 119 (m 12) e) (m 12)))) (n 29 (n 11 (n 55 (n 94 (m 12) e) (m 12)) (n 12 (n 114 (m 11) e) (m 11))) (n 46 (n 67 (n 11 (m 11) e) (m 142)) (n 11 (n 124 (m 200) e) (m 163))))) (n 157 (n 20 (n 34 (n 11 (n 12 (m 169) e) (m 130)) (n 73 (n 112 (m 11) e) (m 11))) (n 44 (n 64 (n 11 (m 179) e) (m 140)) (n 83 (n 121 (m 11) e) (m 11)))) (n 30 (n 39 (n 12 (n 96 (m 174) e) (m 135)) (n 78 (n 12 (m 192) e) (m 153))) (n 49 (n 11 (n 105 (m 11) e) (m 144)) (n 11 (n 11 (m 11) e) (m 11)))))) (n 6 (n 10 (n 11 (n 33 (n 52 (n 91 (m 168) e) (m 129)) (n 72 (n 11 (m 12) e) (m 12))) (n 11 (n 11 (n 12 (m 177) e) (m 138)) (n 81 (n 11 (m 196) e) (m 159)))) (n 25 (n 38 (n 57 (n 11 (m 11) e) (m 11)) (n 11 (n 116 (m 191) e) (m 152))) (n 47 (n 12 (n 104 (m 182) e) (m 11)) (n 86 (n 12 (m 12) e) (m 12))))) (n 14 (n 11 (n 36 (n 54 (n 11 (m 171) e) (m 132)) (n 75 (n 11 (m 189) e) (m 150))) (n 11 (n 65 (n 102 (m 12) e) (m 12)) (n 12 (n 122 (m 198) e) (m 161)))) (n 31 (n 41 (n 11 (n 97 (m 11) e) (m 11)) (n 11 (n 11 (m 194) e) (m 155))) (n 12 (n 70 (n 107 (m 184) e) (m 145)) (n 88 (n 127 (m 203) e) (m 166))))))))) fun a=>n a e e
def tX5(f:Nat->Nat->JU->Obj)(P:JU):JT:=Y6 (fun k=>.node (f (k/16) (k%16) P)) .nil
def Y5(n:Nat->JT->JT->JT)(e:JT):JT:=(fun m:Nat->JT=>(n 0 (n 1 (n 205 (n 7 (n 17 (n 11 (n 50 (n 11 (m 167) (m 11)) (n 128 (m 204) e)) (n 71 (n 11 (m 185) e) (n 146 (m 224) e))) (n 11 (n 61 (n 98 (m 12) e) (n 12 (m 215) e)) (n 12 (n 118 (m 11) e) (n 11 (m 11) e)))) (n 22 (n 37 (n 11 (n 93 (m 11) e) (n 11 (m 210) e)) (n 11 (n 12 (m 190) e) (n 151 (m 11) e))) (n 12 (n 66 (n 103 (m 180) e) (n 141 (m 12) e)) (n 84 (n 123 (m 199) e) (n 162 (m 239) e))))) (n 11 (n 12 (n 11 (n 53 (n 11 (m 11) (m 246)) (n 11 (m 208) e)) (n 11 (n 111 (m 187) e) (n 148 (m 12) e))) (n 43 (n 12 (n 100 (m 178) e) (n 139 (m 217) e)) (n 82 (n 12 (m 197) e) (n 160 (m 11) e)))) (n 26 (n 11 (n 11 (n 12 (m 173) e) (n 134 (m 12) e)) (n 77 (n 11 (m 11) e) (n 11 (m 232) e))) (n 48 (n 68 (n 11 (m 183) e) (n 12 (m 222) e)) (n 87 (n 125 (m 201) e) (n 164 (m 11) e)))))) (n 5 (n 9 (n 19 (n 32 (n 51 (n 90 (m 12) (m 244)) (n 12 (m 12) e)) (n 12 (n 110 (m 11) e) (n 11 (m 226) e))) (n 42 (n 63 (n 11 (m 11) e) (n 11 (m 11) e)) (n 11 (n 120 (m 195) e) (n 158 (m 235) e)))) (n 24 (n 12 (n 56 (n 95 (m 172) e) (n 133 (m 212) e)) (n 76 (n 115 (m 12) e) (n 12 (m 230) e))) (n 11 (n 11 (n 12 (m 181) e) (n 143 (m 11) e)) (n 85 (n 11 (m 11) e) (n 11 (m 12) e))))) (n 13 (n 21 (n 35 (n 12 (n 92 (m 170) e) (n 131 (m 11) e)) (n 74 (n 113 (m 188) e) (n 149 (m 228) e))) (n 45 (n 11 (n 101 (m 11) e) (n 11 (m 219) e)) (n 11 (n 11 (m 12) e) (n 12 (m 237) e)))) (n 18 (n 40 (n 60 (n 11 (m 175) e) (n 136 (m 11) e)) (n 79 (n 117 (m 193) e) (n 154 (m 12) e))) (n 11 (n 69 (n 106 (m 12) e) (n 11 (m 11) e)) (n 12 (n 126 (m 202) e) (n 165 (m 242) e))))))) (n 2 (n 4 (n 8 (n 18 (n 12 (n 11 (n 89 (m 11) (m 12)) (n 11 (m 11) e)) (n 11 (n 12 (m 186) e) (n 147 (m 225) e))) (n 12 (n 62 (n 99 (m 176) e) (n 137 (m 216) e)) (n 80 (n 119 (m 12) e) (n 12 (m 234) e)))) (n 29 (n 11 (n 55 (n 94 (m 12) e) (n 12 (m 211) e)) (n 12 (n 114 (m 11) e) (n 11 (m 12) e))) (n 46 (n 67 (n 11 (m 11) e) (n 142 (m 220) e)) (n 11 (n 124 (m 200) e) (n 163 (m 11) e))))) (n 206 (n 20 (n 34 (n 11 (n 12 (m 169) e) (n 130 (m 209) e)) (n 73 (n 112 (m 11) e) (n 11 (m 227) e))) (n 44 (n 64 (n 11 (m 179) e) (n 140 (m 218) e)) (n 83 (n 121 (m 11) e) (n 11 (m 12) e)))) (n 30 (n 39 (n 12 (n 96 (m 174) e) (n 135 (m 213) e)) (n 78 (n 12 (m 192) e) (n 153 (m 11) e))) (n 49 (n 11 (n 105 (m 11) e) (n 144 (m 223) e)) (n 11 (n 11 (m 11) e) (n 11 (m 241) e)))))) (n 6 (n 10 (n 11 (n 33 (n 52 (n 91 (m 168) (m 245)) (n 129 (m 207) e)) (n 72 (n 11 (m 12) e) (n 12 (m 11) e))) (n 11 (n 11 (n 12 (m 177) e) (n 138 (m 12) e)) (n 81 (n 11 (m 196) e) (n 159 (m 236) e)))) (n 25 (n 38 (n 57 (n 11 (m 11) e) (n 11 (m 11) e)) (n 11 (n 116 (m 191) e) (n 152 (m 231) e))) (n 47 (n 12 (n 104 (m 182) e) (n 11 (m 221) e)) (n 86 (n 12 (m 12) e) (n 12 (m 240) e))))) (n 14 (n 11 (n 36 (n 54 (n 11 (m 171) e) (n 132 (m 12) e)) (n 75 (n 11 (m 189) e) (n 150 (m 229) e))) (n 11 (n 65 (n 102 (m 12) e) (n 12 (m 11) e)) (n 12 (n 122 (m 198) e) (n 161 (m 238) e)))) (n 31 (n 41 (n 11 (n 97 (m 11) e) (n 11 (m 214) e)) (n 11 (n 11 (m 194) e) (n 155 (m 233) e))) (n 12 (n 70 (n 107 (m 184) e) (n 145 (m 12) e)) (n 88 (n 127 (m 203) e) (n 166 (m 243) e))))))))) fun a=>n a e e
def tX6(f:Nat->Nat->JU->Obj)(P:JU):JT:=Y5 (fun k=>.node (f (k/16) (k%16) P)) .nil
def hX0(f:Nat->Nat->JU->Obj)(P:JU):oT:=(fun g:Nat->Obj=>(⟨⟨[g 0,g 1,g 2,g 3,g 4,g 5,g 6,g 7,g 8,g 9,g 10,g 11,g 12,g 13,g 14]⟩,{}⟩:oT)) fun k=>f (k/16) (k%16) P
def hX1(f:Nat->Nat->JU->Obj)(P:JU):oT:=(fun g:Nat->Obj=>(⟨⟨[g 0,g 1,g 2,g 205,g 4,g 5,g 6,g 7,g 8,g 9,g 10,g 11,g 206,g 13,g 14,g 17,g 18,g 19,g 11,g 12,g 20,g 21,g 11,g 22,g 29,g 24,g 25,g 26,g 30,g 18,g 31,g 11,g 12,g 32,g 33,g 11,g 34,g 35,g 36,g 37,g 11,g 12,g 38,g 11,g 39,g 40,g 41,g 11,g 12,g 42,g 11,g 43,g 44,g 45,g 11,g 12,g 46,g 11,g 47,g 48,g 49,g 11,g 12,g 50,g 11,g 51,g 52,g 53,g 11,g 12,g 54,g 11,g 55,g 56,g 57,g 11,g 12,g 60,g 11,g 61,g 62,g 63,g 11,g 12,g 64,g 11,g 65,g 66,g 67,g 11,g 12,g 68,g 11,g 69,g 70,g 71,g 11,g 12,g 72,g 11,g 73,g 74,g 75,g 11,g 12,g 76,g 11,g 77,g 78,g 79,g 11,g 12,g 80,g 11,g 81,g 82,g 83,g 11,g 12,g 84,g 11,g 85,g 86,g 87,g 11,g 12,g 88,g 11,g 89,g 90,g 91,g 11,g 12,g 92,g 11,g 93,g 94,g 95,g 11,g 12,g 96,g 11,g 97,g 98,g 99,g 11,g 12,g 100,g 11,g 101,g 102,g 103,g 11,g 12,g 104,g 11,g 105,g 106,g 107,g 11,g 12,g 110,g 11,g 111,g 112,g 113,g 11,g 12,g 114,g 115,g 116,g 11,g 12,g 117,g 11,g 118,g 119,g 120,g 11,g 12,g 121,g 11,g 122,g 123,g 124,g 11,g 12,g 125,g 11,g 126,g 127,g 128,g 11,g 12,g 129,g 11,g 130,g 131,g 132,g 11,g 12,g 133,g 11,g 134,g 135,g 136,g 11,g 12,g 137,g 11,g 138,g 139,g 140,g 11,g 12,g 141,g 142,g 143,g 11,g 12,g 144,g 11,g 145,g 146,g 147,g 11,g 12,g 148,g 11,g 149,g 150,g 151,g 11,g 12,g 152,g 11,g 153,g 154,g 155,g 11,g 12,g 158,g 159,g 160,g 11,g 12,g 161,g 162,g 163,g 11,g 12,g 164,g 11,g 165,g 166,g 167,g 11,g 12,g 168,g 11,g 169,g 170,g 171,g 11,g 12,g 172,g 11,g 173,g 174,g 175,g 11,g 12,g 176,g 11,g 177,g 178,g 179,g 11,g 12,g 180,g 11,g 181,g 182,g 183,g 11,g 12,g 184,g 185,g 186,g 11,g 12,g 187,g 11,g 188,g 189,g 190,g 11,g 12,g 191,g 11,g 192,g 193,g 194,g 11,g 12,g 195,g 196,g 197,g 11,g 12,g 198,g 199,g 200,g 11,g 12,g 201,g 11,g 202,g 203,g 204,g 11,g 12,g 207,g 208,g 209,g 11,g 12,g 210,g 211,g 212,g 11,g 12,g 213,g 11,g 214,g 215,g 216,g 11,g 12,g 217,g 218,g 219,g 11,g 12,g 220,g 11,g 221,g 222,g 223,g 11,g 12,g 224,g 225,g 226,g 11,g 12,g 227,g 228,g 229,g 11,g 12,g 230,g 231,g 232,g 11,g 12,g 233,g 11,g 234,g 235,g 236,g 11,g 12,g 237,g 238,g 239,g 11,g 12,g 240,g 11,g 241,g 242,g 243,g 11,g 12,g 244,g 245,g 246]⟩,{}⟩:oT)) fun k=>f (k/16) (k%16) P
theorem laid:(fun(_:JL) (_:JL) (_:Nat->Nat->JU->Obj) (_:p_) (_:p_) (_:p_) (_:p_) (_:p_) (_:p_)=>MC) pw2 vw fA sx0 sx1 sx2 sx3 sx4 sx5=MC:=by k_qdec
end QQ
namespace PySem.W.Fast
def tw17098319774385619212:JL:=tw4061903402435717205
theorem te17098319774385619212:JY=tw17098319774385619212:=Eq.trans (by kernel_rfl:JY=QQ.pw2) te4061903402435717205
def tw10414462214889354858:JL:=tw2543460329597916322
theorem te10414462214889354858:QQ.vw=tw10414462214889354858:=te2543460329597916322
def tw6919915466013247150:p_:=tw4220349153739756805
theorem te6919915466013247150:QQ.sx0=tw6919915466013247150:=te4220349153739756805
def tw12356310598863258431:p_:=tw11397161696757032129
theorem te12356310598863258431:QQ.sx1=tw12356310598863258431:=te11397161696757032129
def tw2257607740250046932:p_:=tw10303515436491237874
theorem te2257607740250046932:QQ.sx2=tw2257607740250046932:=te10303515436491237874
def tw6678571977134639382:p_:=tw12358083906500975388
theorem te6678571977134639382:QQ.sx3=tw6678571977134639382:=te12358083906500975388
def tw14391124577282190528:p_:=tw2861187580803015100
theorem te14391124577282190528:QQ.sx4=tw14391124577282190528:=te2861187580803015100
def tw15744412210859357931:p_:=tw9932084693255007381
theorem te15744412210859357931:QQ.sx5=tw15744412210859357931:=te9932084693255007381
def tw10038566608965912165:JU->BT:=QQ.tX0 tw16523235828492288951
theorem te10038566608965912165:QQ.tX0 QQ.fA=tw10038566608965912165:=congrArg QQ.tX0 te16523235828492288951
def tw10021175065973230448:JU->BT:=QQ.tX1 tw16523235828492288951
theorem te10021175065973230448:QQ.tX1 QQ.fA=tw10021175065973230448:=congrArg QQ.tX1 te16523235828492288951
def tw15582582024108637936:JU->BT:=QQ.tX2 tw16523235828492288951
theorem te15582582024108637936:QQ.tX2 QQ.fA=tw15582582024108637936:=congrArg QQ.tX2 te16523235828492288951
def tw11154706812202623289:JU->BT:=QQ.tX3 tw16523235828492288951
theorem te11154706812202623289:QQ.tX3 QQ.fA=tw11154706812202623289:=congrArg QQ.tX3 te16523235828492288951
def tw17998895432253026365:JU->BT:=QQ.tX4 tw16523235828492288951
theorem te17998895432253026365:QQ.tX4 QQ.fA=tw17998895432253026365:=congrArg QQ.tX4 te16523235828492288951
def tw7474393136738563672:JU->BT:=QQ.tX5 tw16523235828492288951
theorem te7474393136738563672:QQ.tX5 QQ.fA=tw7474393136738563672:=congrArg QQ.tX5 te16523235828492288951
def tw10712434947951519568:JU->BT:=QQ.tX6 tw16523235828492288951
theorem te10712434947951519568:QQ.tX6 QQ.fA=tw10712434947951519568:=congrArg QQ.tX6 te16523235828492288951
def tw2592259348221384455:JU->PySem.Heap:=QQ.hX0 tw16523235828492288951
theorem te2592259348221384455:QQ.hX0 QQ.fA=tw2592259348221384455:=congrArg QQ.hX0 te16523235828492288951
def tw10495972683726079455:JU->PySem.Heap:=QQ.hX1 tw16523235828492288951
theorem te10495972683726079455:QQ.hX1 QQ.fA=tw10495972683726079455:=congrArg QQ.hX1 te16523235828492288951
end PySem.W.Fast
end
open PySem PySem.W PyProof.Rows
set_option maxRecDepth 100000 in
set_option maxHeartbeats 0 in
theorem PySem.Challenge.cw_spotlook_k22_lands_and_their_rings_holds : PySem.Challenge.rw_spotlook_k22_lands_and_their_rings.Holds := by
 w_on;o_law;o_head (PySem.W.kHook QQ.kK [↑3,↑45,↑46,↑52,↑53,↑59,↑60,↑66,↑67,↑73,↑74,↑80,↑81,↑87,↑88,↑94,↑95,↑101,↑102,↑108,↑109,↑115,↑116,↑122,↑123,↑129,↑130,↑136,↑137,↑143,↑144,↑150,↑151,↑157,↑158,↑164,↑165,↑169,↑170,↑176,↑177,↑183,↑184,↑190,↑191,↑197,↑198,↑204,↑205,↑211,↑212,↑216,↑217,↑223,↑224,↑230,↑231,↑237,↑238,↑242,↑243,↑247,↑248,↑254,↑255,↑261,↑262,↑268,↑269,↑275,↑276,↑282,↑283,↑287,↑288,↑294,↑295,↑301,↑302,↑306,↑307,↑311,↑312,↑318,↑319,↑323,↑324,↑328,↑329,↑335,↑336,↑340,↑341,↑347,↑348,↑352,↑353,↑357,↑358,↑362,↑363,↑369,↑370,↑374,↑375,↑381,↑382,↑386,↑387] (fun _=>by kernel_rfl));(case hw=>w_witness2)
 k_fill
 refine SD.yS (k:=11) (x:="_law_script") (sp:=QQ.jU) (l:=PySem.Challenge.rw_spotlook_k22_lands_and_their_rings) rfl rfl ⟨rfl,⋯,⋯,rfl⟩ (fun w h Y=>PySem.W.kIn_of Y) ?F QQ.CW
 case F=>
  intro w mg fa h KX G hmg
  have T:QQ.Tx (L2.KOf KX) mg:=by
   dsimp only[L2.KOf]
   constructor
   all_goals first
    |(refine' PySem.W.mg_none_of KX G ?a;(case a=>k_is))
    |(refine' SD.Txt.mk KX G ?a ?l ?c ?k;(case a=>k_is);(case l=>k_is);(case c=>k_is);(case k=>k_is))
  exact QQ.FX T hmg
