import PyProof.Rows.All
import Wide.All
import OpenK.AllK
import Wide.FinOn
import Lean
import PyProof.EqAt
import PyProof.EqKinds
import PyProof.TupleCall
import PySem.Challenge.RW_spotlook_k20_whole_rings_of_a_plot
open Option renaming some->MA
open Option renaming none->MB
open Bool renaming true->MC
open Bool renaming false->MD
theorem ME{c:Prop}{d:Decidable c}(h:¬c){a:Sort _}{x y:a}:(if c then x else y)=y:=if_neg h
theorem MF{c:Prop}{d:Decidable c}(h:c){a:Sort _}{x y:a}:(if c then x else y)=x:=if_pos h
theorem MG{p:Prop}[Decidable p](h:¬p):decide p=false:=decide_eq_false h
theorem MI{p:Prop}[Decidable p](h:p):decide p=true:=decide_eq_true h
theorem MJ{p:Prop}[Decidable p](h:decide p=true):p:=of_decide_eq_true h
theorem MK{p q:Prop}{_:Decidable p}{_:Decidable q}:(decide p=decide q)=(p↔q):=propext decide_eq_decide
theorem ML{p:Prop}[Decidable p]:(decide p=true)=p:=decide_eq_true_eq
local macro_rules | `(tactic| omega) => `(tactic| lia)
open Array renaming getElem?_eq_getElem->Jt,length_toList->Jx,getElem?_toList->JM,getElem?_eq_none->LG,getElem?_eq_some_iff->LZ
open Bool renaming false_ne_true->Jf,false_eq_true->JS,and_eq_true->JV,false_and->K5,true_and->L6,not_true->Lo,eq_iff_iff->LA,and_false->LX,and_true->Mr
open Classical renaming byContradiction->K3
open False renaming elim->JB
open ForInStep renaming yield->Ly
open Int renaming lt_trichotomy->Jh,sign->Jw,mul_pos->JE,mul_neg_of_neg_of_pos->JI,mul_neg_of_pos_of_neg->JJ,mul_pos_of_neg_of_neg->JU,fdiv_eq_ediv_of_nonneg->JY,sign_eq_neg_one_of_neg->JZ,sign_eq_one_of_pos->K8,le_of_lt->Kg,toNat_natCast->Kn,mul_zero->Mn,ofNat->Mx
open LawfulMonad renaming pure_bind->LM
open List renaming length_map->IZ,getElem?_eq_getElem->J0,getElem?_map->J4,map_cons->J5,range->J6,mem_of_getElem?->J9,getElem?_eq_some_iff->Ja,mem_append_right->Ji,size_toArray->Jj,map_append->Jk,mem_filter->Jm,mem_cons_of_mem->Jn,mem_append->Jo,mem_map->Jp,mem_range->Jq,length_cons->Jr,mem_cons->Jv,mem_cons_self->Jy,replicate->JA,find?_cons->JC,getElem?_append_left->JO,getElem?_append_right->JP,mem_singleton->JT,getElem_mem->JW,length_append->JX,sum_cons->K7,append_nil->Kc,toArray->Kh,length_nil->Km,pairwise_iff_getElem->Kq,take_of_length_le->Kr,ne_nil_of_mem->Ks,range_succ_eq_map->Kt,nodup_cons->Ku,lookup_cons->Kw,length_filter_le->Ky,map_nil->KA,map_map->KC,pairwise_map->KD,length_take->KJ,map->KN,replicate_succ->KP,take_succ->KR,range_succ->KW,filter_cons->L5,flatten_cons->L8,map_congr_left->La,all_eq_true->Li,mem_flatten->Lj,any_cons->Lm,length_eq_zero_iff->Lu,nodup_append->Lv,foldl_cons->Lx,getElem_of_mem->LC,nodup_range->LN,take_length->LP,zip_cons_cons->LS,filter_append->LW,take_append_drop->Mc,length_range->Mo,nodup_nil->Mw
open List.Pairwise renaming imp_of_mem->Lp,filter->Mm
open Nat renaming le_refl->J1,lt_of_lt_of_le->Ju,ne_of_lt->JK,mod_two_eq_zero_or_one->K6,zero_le->Kb,le_trans->Ke,lt_irrefl->LI,gcd->Mb,lt_succ_of_lt->Mj
open Option renaming getD_some->Kd,map_eq_some_iff->LH,toList_some->LY
open PyProof.Rows renaming slot_tuple_getitem->Kk,IntsAre->KG,callWith_type1->LD
open PySem renaming wpAny_bind->cc,Value->I0,wpAny_pure->IX,Shared->IY,wpAny->J7,sizeLine->Jb,starEach->Jd,wpAny_mono->Je,model->Jg,Program->Jl,Params->JD,wpAny_newObj_type->JG,foldedSetIterable->JH,World->JL,compareOp->JN,Around->JQ,mem_of_lookup->K0,SetTable->K4,wpAny_holding->K9,bootBuiltins->Ka,cLine->Kf,DictEntry->Kp,wpAny_call_entry->Kv,wpAny_truthy_bool->Kz,wpAny_loadPart'->KI,backTo->KO,wpAny_standAt->KQ,codeAny_builtin->KY,sysModules->L0,cellsFrom->L3,wpAny_callSpecial?_slot->L4,Spec->L7,letOwnedTupleGo->Lc,binaryOp->Le,codeAny->Ll,wpAny_typeNameOfWhole_keyiter->Lr,Builtin->Ls,NameKind->LB,swapsWith->LL,Scope->LR,rawInt->Md,wpAny_passesOwn->Me,mainGlobals->Mg,codeAny_mono->Mh,keywordEach->Mi,behindInMarks->Mp,assignEach->Mq,intKind->Ms,assign->Mt,pyNext->Mu,PyData->Mv,FuncData->My,Paired->Mz
open PySem.Around renaming under_plainId->Lq
open PySem.Builtin.Slice renaming sliceApplied->LU
open PySem.Builtin.Tuple renaming tupleExact->Ki
open PySem.Challenge renaming pw_spotlook_k20_whole_rings_of_a_plot->JF
open PySem.F renaming slot_dict_keyiterator_next->KZ
open PySem.Heap renaming get?_push_of_some->J3,get?_push_size->J8,lt_size->Jc,get?_update_self->Kx,size_push->KH,get?_update_other->KL,SameBut->Lk
open PySem.Heap.SameBut renaming update->Kl
open PySem.NameKind renaming free->LJ
open PySem.Obj renaming data_mapFields->LV
open PySem.PassesOwn renaming never->Js
open PySem.PyData renaming eqv->K1,eqvAll->Kj,depthAll->Mf,canLayAll0->Ml
open PySem.SeqAt renaming shaped->Ln,canLay_of_shaped->LF
open PySem.SetTable renaming insertAt->Ko
open PySem.Str renaming ofString->KU
open PySem.Value renaming ref->L9,int->Lf,none->LQ
open PySem.W renaming Frag->IW,BT->Jz,fnOf->KS
open Rat renaming intCast_mul->JR,intCast_add->Ld,num_divInt_den->Lh,intCast_sub->Lz,mul_pos->LK,divInt_eq_div->Mk
local macro_rules | `(↑$n:num) => `(nat_lit $n)
set_option Elab.async false
set_option linter.all false
set_option maxRecDepth 100000
set_option maxHeartbeats 4000000
theorem NS{n m:Nat}(h:Nat.ble n m=MC):n<=m:=Nat.le_of_ble_eq_true h
namespace L2
open PySem PySem.Spec PyProof.Rows
abbrev Key:=Sum Int Str
def nN:Key->I0->Bool
 |.inl k,v=>Value.isInt k v
 |.inr x,v=>Value.isStrOf x v
def IA(w:JL):Key->Int
 |.inl k=>hashInt k
 |.inr x=>hashStr w x
theorem bH:∀{k:Key} {v:I0},nN k v=MC->(∃i t,k=Sum.inl i/\v=Lf i t)\/(∃x t,k=Sum.inr x/\v=Value.str x t)
 |.inl i,v,h=>by
  obtain⟨t,e⟩:=Value.isInt_shape (k:=i) (v:=v) h
  exact .inl ⟨i,t,rfl,e⟩
 |.inr x,v,h=>by
  obtain⟨t,e⟩:=Value.isStrOf_shape (x:=x) (v:=v) h
  exact .inr ⟨x,t,rfl,e⟩
theorem wz(i:Int)(t:Tok):nN (.inl i) (.int i t)=MC:=by simp[nN,Value.isInt]
theorem vO(x:Str)(t:Tok):nN (.inr x) (.str x t)=MC:=by simp[nN,Value.isStrOf]
theorem E6(a b:Int):decide ((Sum.inl a:Key)=Sum.inl b)=(a==b):=by
 by_cases e:a=b
 ·subst e;simp
 ·have h:¬(Sum.inl a:Key)=Sum.inl b:=fun q=>e (Sum.inl.inj q);rw[MG h];exact(beq_eq_false_iff_ne.mpr e).symm
theorem Dq(a b:Str):decide ((Sum.inr a:Key)=Sum.inr b)=decide (a=b):=by
 by_cases e:a=b
 ·subst e;simp
 ·have h:¬(Sum.inr a:Key)=Sum.inr b:=fun q=>e (Sum.inr.inj q);rw[MG h,MG e]
theorem Dc(a:Int)(b:Str):decide ((Sum.inl a:Key)=Sum.inr b)=MD:=MG (fun q=>nomatch q)
theorem C8(a:Str)(b:Int):decide ((Sum.inr a:Key)=Sum.inl b)=MD:=MG (fun q=>nomatch q)
def b6(prog:Jl)(w:JL):PySem.KeyKind prog w Key where
 is:=nN
 hash:=IA w
 inj:=fun v a b f d=>by
  rcases bH f with⟨i,t,rfl,rfl⟩|⟨x,t,rfl,rfl⟩
  ·rcases bH d with⟨j,u,rfl,e⟩|⟨y,u,rfl,e⟩
   ·injection e with e1 _;rw[e1]
   ·exact nomatch e
  ·rcases bH d with⟨j,u,rfl,e⟩|⟨y,u,rfl,e⟩
   ·exact nomatch e
   ·injection e with e1 _;rw[e1]
 byValue:=fun k v h=>by
  rcases bH h with⟨i,t,rfl,rfl⟩|⟨x,t,rfl,rfl⟩<;>rfl
 pyHash:=fun c h=>by
  rcases bH c with⟨i,t,rfl,rfl⟩|⟨x,t,rfl,rfl⟩
  ·exact wpAny_pyHash_int h
  ·exact wpAny_pyHash_str h
 eqBool:=fun g c h=>by
  rcases bH g with⟨i,t,rfl,rfl⟩|⟨x,t,rfl,rfl⟩
  ·rcases bH c with⟨j,u,rfl,rfl⟩|⟨y,u,rfl,rfl⟩
   ·rw[E6]at h;exact wpAny_eqBool_int h
   ·rw[Dc]at h;exact SeqAt.EqAt.int_str i t y u _ _ _ _ h
  ·rcases bH c with⟨j,u,rfl,rfl⟩|⟨y,u,rfl,rfl⟩
   ·rw[C8]at h;exact SeqAt.EqAt.str_int x t j u _ _ _ _ h
   ·rw[Dq]at h;exact wpAny_eqBool_str h
 «strs»:=fun k x t v h=>by
  rcases bH h with⟨i,u,rfl,e⟩|⟨y,u,rfl,e⟩
  ·exact nomatch e
  ·injection e with e1 _
   subst e1
   cases v<;>rfl
theorem qM(prog:Jl)(w:JL)(i:Int)(t:Tok):(b6 prog w).is (.inl i) (.int i t)=MC:=wz i t
theorem p7(prog:Jl)(w:JL)(x:Str)(t:Tok):(b6 prog w).is (.inr x) (.str x t)=MC:=vO x t
inductive V where
 |non|bl (b:Bool)|int (i:Int)|str (x:Str)|byt (b:Array UInt8)|flt (b:UInt64)|ref (a:Addr)|ty (n:String)
 deriving DecidableEq
def RelV:V->I0->Prop
 |.non,u=>u=LQ
 |.bl b,u=>u=Value.bool b
 |.int i,u=>∃t,u=Lf i t
 |.str x,u=>∃t,u=Value.str x t
 |.byt b,u=>∃t,u=Value.bytes b t
 |.flt b,u=>∃t,u=Value.float b t
 |.ref a,u=>u=L9 a
 |.ty n,u=>u=Value.type n
abbrev Vals:List V->List I0->Prop:=Mz RelV
theorem Vals.length{xs:List V}{us:List I0}(r:Vals xs us):xs.length=us.length:=Paired.length r
theorem Vals.get:∀{xs:List V} {us:List I0} {i:Nat} {x:V},Vals xs us->xs[i]?=MA x->∃u,us[i]?=MA u/\RelV x u
 |_,_,_,_,.nil,e=>by simp at e
 |_,_,0,_,.cons r _,e=>by simp at e;subst e;exact⟨_,rfl,r⟩
 |_,_,i+1,x,.cons _ t,e=>by
  obtain⟨u,a,b⟩:=Vals.get (i:=i) (x:=x) t (by simpa using e)
  exact⟨u,by simpa using a,b⟩
theorem Vals.set{x:V}{u:I0}(r:RelV x u):∀{xs:List V} {us:List I0} (i:Nat),Vals xs us->Vals (xs.set i x) (us.set i u)
 |_,_,_,.nil=>.nil
 |_,_,0,.cons _ t=>.cons r t
 |_,_,i+1,.cons q t=>.cons q (Vals.set r i t)
theorem Vals.append:∀{xs a:List V} {us ws:List I0},Vals xs us->Vals a ws->Vals (xs++a) (us++ws):=by
 intro xs a us ws h s
 induction h with
 |nil=>exact s
 |cons r t b=>exact .cons r b
theorem Vals.take:∀{xs:List V} {us:List I0} (n:Nat),Vals xs us->Vals (xs.take n) (us.take n)
 |_,_,0,_=>.nil
 |_,_,_+1,.nil=>.nil
 |_,_,n+1,.cons r t=>.cons r (Vals.take n t)
theorem Vals.drop:∀{xs:List V} {us:List I0} (n:Nat),Vals xs us->Vals (xs.drop n) (us.drop n)
 |_,_,0,r=>r
 |_,_,_+1,.nil=>.nil
 |_,_,n+1,.cons _ t=>Vals.drop n t
def wC:Option V->Option I0->Prop
 |some v,MA u=>RelV v u
 |none,MB=>True
 |_,_=>False
def KV{a:Type}:List (a×V)->List (a×I0)->Prop:=Mz fun(p:a×V) (q:a×I0)=>p.1=q.1/\RelV p.2 q.2
def kV:Key->V
 |.inl i=>.int i
 |.inr x=>.str x
inductive HO where
 |lst (xs:List V)
 |tup (xs:List V)
 |dK (kvs:List (Key×V))|dT (kvs:List (List Key×V))
 |set (S:Int->Bool) (n:Nat)
 |ins (C dx:Addr) (fs:List (Str×V))
 |own (x:Addr)
 |xd (fs:List (Str×V))
 |met (f x:Addr)
 |rng (lo hi:Int)
 |frz (o:Obj) (u:HO)
 |tbl (ps:Array I0)
 |ext (φ:Heap->Prop)
abbrev Hp:=Addr->Option HO
def upd(H:Hp)(a:Addr)(o:HO):Hp:=fun b=>if b=a then MA o else H b
theorem aW{H:Hp}{a:Addr}{o:HO}:upd H a o a=MA o:=by unfold upd;rw[MF rfl]
theorem aX{H:Hp}{a b:Addr}{o:HO}(h:b≠a):upd H a o b=H b:=by unfold upd;rw[ME h]
theorem Hl{H:Hp}{a b:Addr}{o u:HO}(h:H a=MA o)(h':H b=MA u)(d:o≠u):a≠b:=by intro e;subst e;rw[h]at h';exact d (Option.some.inj h')
theorem d8{H:Hp}{a b:Addr}{o:HO}(h:H a=MA o)(h':H b=MB):a≠b:=by intro e;subst e;rw[h]at h';cases h'
section
variable(P:Jl)(w:JL)
def R9(h:Heap)(a:Addr):Prop:=∃o,h.get? a=MA o/\o.dict=MB
theorem R9.new(h:Heap)(u:Array I0):R9 (h.push { cls:=.type "tuple",data:=.seq u }) h.objs.size:=⟨_,J8 _ rfl,rfl⟩
def bT(H:Hp)(h:Heap)(a:Addr):HO->Prop
 |.lst xs=>xs.length<=Jb/\∃(b:List I0) (n:Nat),Vals xs b/\h.get? a=MA { cls:=.type "list",data:=.seq b.toArray n }
 |.tup xs=>xs.length<=Jb/\∃b:List I0,Vals xs b/\IsTup h a b.toArray/\R9 h a
 |.dK kvs=>kvs.length<=Jb/\(a==L0)=MD/\∃vs,KV kvs vs/\h.DictOf (b6 P w) a vs
 |.dT kvs=>kvs.length<=Jb/\(a==L0)=MD/\∃xs:List (List Key×Addr×I0),
  Mz (fun(p:List Key×V) (q:List Key×Addr×I0)=>p.1=q.1/\H q.2.1=MA (.tup (p.1.map kV))/\RelV p.2 q.2.2) kvs xs/\
  ∃o es ep,h.get? a=MA o/\o.ExactDict/\o.data=.dict es ep/\es.toList=xs.map (entryOfKey (tupleKind (b6 P w)))/\(xs.map (·.1)).Nodup
 |.set S n=>h.SetOf (Ms P w) a S n
 |.ins C d fs=>H d=MA (.own a)/\fs.length<=1000/\d≠a/\h.get? a=MA (PySem.W.instObj C d)/\
  ∃c,h.Ns1 d c/\(∀f,wC (fs.lookup f) (c f))/\PySem.Within c (fs.map (·.1))
 |.own _=>∃o,h.get? a=MA o
 |.xd fs=>∃c,h.Ns1 a c/\∀f,wC (fs.lookup f) (c f)
 |.rng lo hi=>∃t u v,h.get? a=MA { cls:=.type "range",data:=.fields #[.int lo t,.int hi u,.int 1 v] }
 |.frz o u=>h.get? a=MA o/\bT H h a u
 |.tbl ps=>h.get? a=MA { cls:=.none,data:=.fields ps }
 |.met f x=>h.get? a=MA (PySem.W.methodObj (.ref f) (.ref x))
 |.ext e=>e h/\(∃o,h.get? a=MA o)/\∀g i:Heap,e g->(∀o,g.get? a=MA o->i.get? a=MA o)->e i
def Nz(H:Hp)(h:Heap):Prop:=∀a o,H a=MA o->bT P w H h a o
end
section
variable{P:Jl}{w:JL}{H H':Hp}{h h':Heap}{a:Addr}{o:HO}
theorem bT.lt(x:bT P w H h a o):a<h.objs.size:=by
 cases o with
 |lst xs=>obtain⟨_,_,_,_,e⟩:=x;exact Jc e
 |tup xs=>obtain⟨_,_,_,p,_⟩:=x;exact p.lt
 |dK kvs=>obtain⟨_,_,_,_,o,_,_,e,_⟩:=x;exact Jc e
 |dT kvs=>obtain⟨_,_,_,_,o,_,_,e,_⟩:=x;exact Jc e
 |set S n=>obtain⟨o,_,_,_,e,_⟩:=x;exact Jc e
 |ins C b fs=>obtain⟨_,_,_,e,_⟩:=x;exact Jc e
 |own y=>obtain⟨_,e⟩:=x;exact Jc e
 |xd fs=>obtain⟨_,⟨_,_,_,e,_⟩,_⟩:=x;exact Jc e
 |rng lo hi=>obtain⟨_,_,_,e⟩:=x;exact Jc e
 |frz c u=>obtain⟨e,_⟩:=x;exact Jc e
 |tbl ps=>exact Jc (show h.get? a=MA _ from x)
 |met f y=>exact Jc (show h.get? a=MA _ from x)
 |ext d=>obtain⟨_,⟨_,e⟩,_⟩:=x;exact Jc e
theorem Paired.FU{c d:Type}{F G:c->d->Prop}:∀{l₁:List c} {l₂:List d},Mz F l₁ l₂->(∀a b,F a b->G a b)->Mz G l₁ l₂:=by
 intro l₁ l₂ h f
 induction h with
 |nil=>exact .nil
 |cons r t e=>exact .cons (f _ _ r) e
theorem bT.ix(x:bT P w H h a o)(k:∀b u,(b=a\/H b=MA (.own a))->h.get? b=MA u->h'.get? b=MA u) (l:∀b,H b=MA (.own a)->H' b=MA (.own a)) (m:∀b xs,H b=MA (.tup xs)->H' b=MA (.tup xs)):bT P w H' h' a o:=by
 induction o with
 |lst xs=>obtain⟨z,i,n,r,e⟩:=x;exact⟨z,i,n,r,k _ _ (.inl rfl) e⟩
 |tup xs=>obtain⟨z,i,r,⟨g,e,c⟩,s,e2,A⟩:=x;exact⟨z,i,r,⟨g,k _ _ (.inl rfl) e,c⟩,s,k _ _ (.inl rfl) e2,A⟩
 |dK kvs=>obtain⟨z,y,vs,r,g,es,ep,e,c⟩:=x;exact⟨z,y,vs,r,g,es,ep,k _ _ (.inl rfl) e,c⟩
 |dT kvs=>
  obtain⟨z,y,xs,r,g,es,ep,e,c⟩:=x
  exact⟨z,y,xs,Paired.FU r fun p q z=>⟨z.1,m _ _ z.2.1,z.2.2⟩,g,es,ep,k _ _ (.inl rfl) e,c⟩
 |set S n=>obtain⟨g,es,ep,t,e,c⟩:=x;exact⟨g,es,ep,t,k _ _ (.inl rfl) e,c⟩
 |ins C D fs=>
  obtain⟨d,z,ne,e,j,⟨od,es,ep,e2,c⟩,r⟩:=x
  exact⟨l _ d,z,ne,k _ _ (.inl rfl) e,j,⟨od,es,ep,k _ _ (.inr d) e2,c⟩,r⟩
 |own y=>obtain⟨g,e⟩:=x;exact⟨g,k _ _ (.inl rfl) e⟩
 |xd fs=>obtain⟨j,⟨od,es,ep,e,c⟩,r⟩:=x;exact⟨j,⟨od,es,ep,k _ _ (.inl rfl) e,c⟩,r⟩
 |rng lo hi=>obtain⟨t,u,v,e⟩:=x;exact⟨t,u,v,k _ _ (.inl rfl) e⟩
 |frz g u B=>obtain⟨e,q⟩:=x;exact⟨k _ _ (.inl rfl) e,B q⟩
 |tbl ps=>
  have e:h.get? a=MA { cls:=.none,data:=.fields ps }:=x
  show h'.get? a=MA { cls:=.none,data:=.fields ps }
  exact k a _ (.inl rfl) e
 |met f y=>
  have e:h.get? a=MA (PySem.W.methodObj (.ref f) (.ref y)):=x
  show h'.get? a=MA (PySem.W.methodObj (.ref f) (.ref y))
  exact k a _ (.inl rfl) e
 |ext E=>obtain⟨p,⟨o,e⟩,st⟩:=x;exact⟨st _ _ p fun o q=>k _ _ (.inl rfl) q,⟨o,k _ _ (.inl rfl) e⟩,st⟩
theorem Nz.lt(x:Nz P w H h)(e:H a=MA o):a<h.objs.size:=(x a o e).lt
theorem Nz.fresh(x:Nz P w H h)(e:h.objs.size<=a):H a=MB:=by
 cases q:H a with
 |none=>rfl
 |some u=>exact absurd (Ju (x.lt q) e) (LI _)
theorem Nz.kept(x:Nz P w H h)(k:∀b u,h.get? b=MA u->h'.get? b=MA u):Nz P w H h':=fun a o e=>(x a o e).ix (fun b u _ q=>k b u q) (fun _ q=>q) fun _ _ q=>q
theorem Nz.laid(x:Nz P w H h)(k:∀b u,h.get? b=MA u->h'.get? b=MA u)(g:h.objs.size<=a)(new:bT P w (upd H a o) h' a o):Nz P w (upd H a o) h':=fun b u e=>by
 have d:=x.fresh g;by_cases f:b=a
 ·subst f;rw[aW]at e;cases e;exact new
 ·rw[aX f]at e;exact(x b u e).ix (fun c v _ q=>k c v q) (fun c q=>by rw[aX (d8 q d)];exact q) fun c xs q=>by rw[aX (d8 q d)];exact q
end
def Rd(H:Hp)(a:Addr)(u:HO):Prop:=H a=MA u\/∃o,H a=MA (.frz o u)
theorem Rd.ok{P:Jl}{w:JL}{H:Hp}{h:Heap}{a:Addr}{u:HO}(r:Rd H a u)(x:Nz P w H h):bT P w H h a u:=by
 rcases r with r|⟨o,r⟩
 ·exact x a u r
 ·obtain⟨_,q⟩:=x a _ r;exact q
def Uy:Option HO->Prop
 |some (.lst _)=>True
 |some (.dK _)=>True
 |some (.dT _)=>True
 |some (.set _ _)=>True
 |some (.ins _ _ _)=>True
 |some (.ext _)=>True
 |_=>False
section
variable{P:Jl}{w:JL}{H:Hp}{h h':Heap}{x e:Addr}{o':HO}
theorem Nz.write(ok:Nz P w H h)(g:Uy (H x))(he:e=x\/H e=MA (.own x))(k:∀b u,b≠e->h.get? b=MA u->h'.get? b=MA u)(l:∃u,h'.get? e=MA u)
 (new:bT P w (upd H x o') h' x o'):Nz P w (upd H x o') h':=fun b u q=>by
 have d:∀c y,H c=MA (.own y)->c≠x:=fun c y r z=>by subst z;rw[r]at g;exact g
 have f:∀c xs,H c=MA (.tup xs)->c≠x:=fun c xs r z=>by subst z;rw[r]at g;exact g
 by_cases i:b=x
 ·subst i;rw[aW]at q;cases q;exact new
 ·rw[aX i]at q
  by_cases a:b=e
  ·have m:H b=MA (.own x):=by
    rcases he with z|z
    ·exact absurd (a.trans z) i
    ·rw[a];exact z
   rw[q]at m;cases m
   obtain⟨v,n⟩:=l
   exact⟨v,by rw[a];exact n⟩
  ·refine(ok b u q).ix (fun c v j r=>k c v ?_ r) (fun c r=>by rw[aX (d c b r)];exact r) fun c xs r=>by rw[aX (f c xs r)];exact r
   rcases j with rfl|j
   ·exact a
   ·rintro rfl
    rcases he with z|z
    ·exact d c b j z
    ·rw[j]at z;cases z;exact i rfl
end
structure Un(fs ex:List Addr)(H H':Hp)(h h':Heap):Prop where
 keep:∀b o,h.get? b=MA o->H b=MB->b∉fs->b∉ex->h'.get? b=MA o
 slot:∀b o,h.get? b=MA o->H b=MB->b∈fs->b∉ex->∃sl,h'.get? b=MA { o with slots:=sl }
 free:∀b o,h.get? b=MA o->H b=MB->b∉ex->H' b=MB
 there:∀b o,h.get? b=MA o->b∉ex->∃o',h'.get? b=MA o'
 tups:∀b xs,H b=MA (.tup xs)->H' b=MA (.tup xs)
 frzs:∀b o u,H b=MA (.frz o u)->H' b=MA (.frz o u)
 tbls:∀b ps,H b=MA (.tbl ps)->∃more,H' b=MA (.tbl (ps++more))
section
variable{fs MM ex MN:List Addr}{H H1 H2:Hp}{h h1 h2 h':Heap}{a x e:Addr}{o:HO}
theorem Un.any(u:Un fs ex H H1 h h1){b:Addr}{c:Obj}(q:h.get? b=MA c)(n:H b=MB)(d:b∉ex):∃g,h1.get? b=MA { c with slots:=g }:=by
 by_cases f:b∈fs
 ·exact u.slot b c q n f d
 ·exact⟨c.slots,u.keep b c q n f d⟩
theorem Un.kept(k:∀b u,h.get? b=MA u->h'.get? b=MA u):Un fs ex H H h h':=⟨fun b c q _ _ _=>k b c q,fun b c q _ _ _=>⟨c.slots,k b c q⟩,fun _ _ _ n _=>n,fun b c q _=>⟨c,k b c q⟩,fun _ _ q=>q,fun _ _ _ q=>q,fun _ ps q=>⟨#[],by rw[q];simp⟩⟩
theorem Un.refl:Un fs ex H H h h:=Un.kept fun _ _ q=>q
theorem Un.laid(k:∀b u,h.get? b=MA u->h'.get? b=MA u)(d:h.objs.size<=a)(c:H a=MB):Un fs ex H (upd H a o) h h' where
 keep:=fun b u q _ _ _=>k b u q
 slot:=fun b u q _ _ _=>⟨u.slots,k b u q⟩
 free:=fun b u q n _=>by rw[aX (JK (Ju (Jc q) d))];exact n
 there:=fun b u q _=>⟨u,k b u q⟩
 tups:=fun b xs q=>by rw[aX (d8 q c)];exact q
 frzs:=fun b u xs q=>by rw[aX (d8 q c)];exact q
 tbls:=fun b ps q=>⟨#[],by rw[aX (d8 q c),q];simp⟩
theorem Un.write(d:Uy (H x))(he:e=x\/H e=MA (.own x))(k:∀b u,b≠e->h.get? b=MA u->h'.get? b=MA u)(f:∃u,h'.get? e=MA u):Un fs ex H (upd H x o) h h':=by
 have i:∀b,H b=MB->b≠x:=fun b n z=>by subst z;rw[n]at d;exact d
 have j:∀b,H b=MB->b≠e:=fun b n z=>by
  subst z;rcases he with r|r
  ·exact i b n r
  ·rw[n]at r;cases r
 have g:∀b u,H b=MA u->¬Uy (MA u)->b≠x:=fun b u q l z=>by subst z;rw[q]at d;exact l d
 refine⟨fun b u q n _ _=>k b u (j b n) q,fun b u q n _ _=>⟨u.slots,k b u (j b n) q⟩,fun b u q n _=>by rw[aX (i b n)];exact n,fun b u q _=>?_,fun b xs q=>by rw[aX (g b _ q fun z=>z)];exact q,fun b u xs q=>by rw[aX (g b _ q fun z=>z)];exact q,fun b ps q=>⟨#[],by rw[aX (g b _ q fun z=>z),q];simp⟩⟩;by_cases c:b=e
 ·subst c;exact f
 ·exact⟨u,k b u c q⟩
end
def VE(h:Heap)(H:Hp):List Addr:=(J6 h.objs.size).filter fun a=>(H a).isSome
def ph(h:Heap)(H:Hp):Heap:=PySem.W.hideAll h (VE h H)
theorem wH(h:Heap)(H:Hp):(ph h H).objs.size=h.objs.size:=PySem.W.hideAll_size _ _
theorem yM{h:Heap}{H:Hp}{b:Addr}{o:Obj}(e:h.get? b=MA o)(n:H b=MB):(ph h H).get? b=MA o:=
 PySem.W.hideAll_get _ e fun a=>by
  have q:(H b).isSome=MC:=(Jm.mp a).2
  rw[n]at q;simp at q
theorem Bo{h:Heap}{H:Hp}{b:Addr}{o:Obj}(e:(ph h H).get? b=MA o):h.get? b=MA o/\H b=MB:=by
 have a:h.get? b=MA o:=PySem.W.of_hideAll (VE h H) e;refine⟨a,?_⟩;cases q:H b with
 |none=>rfl
 |some x=>
  have c:b∈VE h H:=Jm.mpr ⟨Jq.mpr (Jc a),by simp[q]⟩
  have z:(ph h H).get? b=MB:=PySem.W.hideAll_none (VE h H) c
  rw[z]at e;cases e
structure Mod(K:IW)(mg:Str->Option I0)(base:Heap):Prop where
 kin:K.In base
 glob:base.Ns Mg mg
 blt:∃mb,base.Ns builtinsNs mb/\∀x:Str,x≠"__name__"->mb x=Ka x
 nolimit:base.NoLimit
structure Cx where
 prog:Jl
 w:JL
 K:IW
 mg:Str->Option I0
 base:Heap
 A:JQ
 N:List Str
 s₀:IY
 H₀:Hp
 env:Env
 outer:List Env
 stack:List Env
 ex:List Addr
 fn:Str->Bool
 calm:Bool
 pn:List (Addr×Obj)
 xe:I0->IY->Prop
def Qe(l:List Env):List Addr:=l.filterMap (·.frame)
abbrev Cx.fs(X:Cx):List Addr:=Qe X.outer
def Uw(sc:LR)(x:Str):Prop:=sc.names.lookup x=MA .local\/sc.names.lookup x=MA .cell\/sc.names.lookup x=MA .free
def Loc(sc:LR)(x:Str):Prop:=sc.names.lookup x=MA .local\/sc.names.lookup x=MA .cell
def Look(env:Env)(h:Heap)(m:Str->Option I0)(x:Str)(u:I0):Prop:=
 (env.kindOf x=MA .local/\m x=MA u)\/((env.kindOf x=MA .cell\/env.kindOf x=MA .free)/\∃c,env.cells.lookup x=MA c/\h.IsCell c (MA u))
structure Cx.Ok(X:Cx):Prop where
 mod:Mod X.K X.mg X.base
 kind:X.env.scope.kind=.function
 glob:X.env.globals=Mg
 blt:X.env.builtins=builtinsNs
 above:X.s₀.heap.objs.size<=X.env.locals
 inj:∀x y c,X.env.cells.lookup x=MA c->X.env.cells.lookup y=MA c->x=y
 has:∀x,(X.env.kindOf x=MA .cell\/X.env.kindOf x=MA .free)->∃c,X.env.cells.lookup x=MA c
 cab:∀x c,X.fn x=MC->X.env.cells.lookup x=MA c->X.s₀.heap.objs.size<=c
 hd:X.calm=MC->X.A.handled=MB
 frames:X.A.frames=MA X.stack
 stk:X.stack=X.outer\/(X.stack=X.env::X.outer/\X.env.frame=MA X.env.locals)
 exf:∀b∈X.ex,b≠X.env.locals/\∀x c,X.env.cells.lookup x=MA c->c≠b
 bs:∀b o,X.base.get? b=MA o->X.s₀.heap.get? b=MA o/\X.H₀ b=MB
 bsz:X.base.objs.size<=X.s₀.heap.objs.size
 noex:∀b o,X.base.get? b=MA o->b∉X.ex
 exfs:∀b∈X.ex,b∉X.fs
 lA:X.s₀.heap.FunFrames X.base X.outer
 frf:∀b∈X.fs,X.H₀ b=MB
structure Inv(X:Cx)(MP:List (Addr×Obj))(σ:List (Option V))(H:Hp)(s:IY):Prop where
 ok:X.Ok
 os:s.os=X.s₀.os
 bare:AllBare s.gens
 base:Un X.fs X.ex X.H₀ H X.s₀.heap s.heap
 loc:∃m,s.heap.Ns X.env.locals m/\∀(i:Nat) (x:Str) (v:V),X.N[i]?=MA x->σ[i]?=MA (MA v)->Uw X.env.scope x->∃u,RelV v u/\Look X.env s.heap m x u
 cell:∀x c,X.env.cells.lookup x=MA c->∃v,s.heap.IsCell c v
 free:H X.env.locals=MB
 freeC:∀x c,X.env.cells.lookup x=MA c->H c=MB
 pin:∀p∈X.pn++MP,s.heap.get? p.1=MA p.2/\H p.1=MB/\p.1≠X.env.locals/\p.1∉X.fs/\∀v,p.2.data≠.cell v
 hok:Nz X.prog X.w H s.heap
 len:σ.length=X.N.length
section
variable{X:Cx}{MP:List (Addr×Obj)}{σ:List (Option V)}{H H':Hp}{s:IY}{h':Heap}
theorem Cx.Ok.Ij(ok:X.Ok){b:Addr}{o:Obj}(e:X.base.get? b=MA o):b∉X.fs:=fun a=>by have:=(ok.lA.mem a).1;rw[e]at this;cases this
theorem Inv.bs(I:Inv X MP σ H s):∀b o,X.base.get? b=MA o->s.heap.get? b=MA o/\H b=MB:=fun b o e=>⟨I.base.keep b o (I.ok.bs b o e).1 (I.ok.bs b o e).2 (I.ok.Ij e) (I.ok.noex b o e),I.base.free b o (I.ok.bs b o e).1 (I.ok.bs b o e).2 (I.ok.noex b o e)⟩
theorem Inv.bk(I:Inv X MP σ H s):∀b o,X.base.get? b=MA o->s.heap.get? b=MA o:=fun b o e=>(I.bs b o e).1
theorem Inv.mod(I:Inv X MP σ H s):Mod X.K X.mg X.base:=I.ok.mod
theorem Inv.kIn(I:Inv X MP σ H s):X.K.In s.heap:=I.ok.mod.kin.keeps I.bk
theorem Inv.lt(I:Inv X MP σ H s):X.env.locals<s.heap.objs.size:=let⟨_,a,_⟩:=I.loc;a.lt
theorem Inv.sz(I:Inv X MP σ H s):X.s₀.heap.objs.size<=s.heap.objs.size:=Ke I.ok.above (Nat.le_of_lt I.lt)
theorem Inv.HX(I:Inv X MP σ H s){a:Addr}(h:s.heap.objs.size<=a):a∉X.fs:=fun b=>by obtain⟨_,o,c,_⟩:=I.ok.lA.mem b;exact absurd (Ju (Jc c) (Ke I.sz h)) (LI _)
theorem Inv.cne(I:Inv X MP σ H s):∀x c,X.env.cells.lookup x=MA c->c≠X.env.locals:=fun x c e z=>by obtain⟨v,o,d,hd⟩:=I.cell x c e;obtain⟨m,⟨f,es,ep,a,b,_⟩,_⟩:=I.loc;rw[z,a]at d;cases d;rw[b]at hd;cases hd
theorem Inv.lA(I:Inv X MP σ H s):s.heap.FunFrames X.base X.outer:=by
 have all:∀(l:List Env),(∀b∈Qe l,b∈X.fs)->X.s₀.heap.FunFrames X.base l->s.heap.FunFrames X.base l:=by
  intro l
  induction l with
  |nil=>intro _ _;trivial
  |cons env r f=>
   intro hs g
   obtain⟨h,⟨L,o,a,i,j,hd⟩,k⟩:=g
   have c:L∈X.fs:=hs L (by unfold Qe;rw[List.filterMap_cons,a];exact Jy)
   obtain⟨m,e⟩:=I.base.slot L o j (I.ok.frf L c) c fun z=>I.ok.exfs L z c
   exact⟨h,⟨L,_,a,i,e,hd⟩,f (fun b d=>hs b (by unfold Qe;rw[List.filterMap_cons,a];exact Jn _ d)) k⟩
 exact all X.outer (fun _ d=>d) I.ok.lA
theorem Inv.stack(I:Inv X MP σ H s):s.heap.FunFrames X.base X.stack:=by
 rcases I.ok.stk with e|⟨e,a⟩
 ·rw[e];exact I.lA
 ·rw[e];obtain⟨m,b,_⟩:=I.loc;refine .cons (by rw[I.ok.kind];decide) a b ?_ I.lA;exact Heap.get?_none_of_le (Ke I.ok.bsz I.ok.above)
theorem Inv.sC(I:Inv X MP σ H s):∀b∈Qe X.stack,b∈X.env.locals::X.fs:=fun b a=>by
 rcases I.ok.stk with e|⟨e,c⟩
 ·rw[e]at a;exact Jn _ a
 ·rw[e]at a;unfold Qe at a;rw[List.filterMap_cons,c]at a;exact a
theorem Inv.uM(I:Inv X MP σ H s):∀b∈Qe X.stack,H b=MB:=fun b a=>by
 rcases Jv.mp (I.sC b a)with e|a
 ·rw[e];exact I.free
 ·obtain⟨_,o,c,_⟩:=I.ok.lA.mem a;exact I.base.free b o c (I.ok.frf b a) fun z=>I.ok.exfs b z a
theorem Inv.step{g':Array GenState}{t':Nat}{d':Drawn}{ch:List Addr}(I:Inv X MP σ H s)
 (f:∀b∈ch,(b∈X.ex\/X.s₀.heap.objs.size<=b)/\b≠X.env.locals/\(∀x c,X.env.cells.lookup x=MA c->c≠b)/\∀p∈X.pn++MP,p.1≠b)
 (keep:∀b o,b≠X.env.locals->b∉X.fs->b∉ch->s.heap.get? b=MA o->H b=MB->h'.get? b=MA o)
 (slot:∀b o,b≠X.env.locals->b∈X.fs->b∉ch->s.heap.get? b=MA o->H b=MB->∃C,h'.get? b=MA { o with slots:=C }) (free:∀b o,b∉ch->s.heap.get? b=MA o->H b=MB->H' b=MB)
 (there:∀b o,b∉ch->s.heap.get? b=MA o->∃o',h'.get? b=MA o')
 (tups:∀b xs,H b=MA (.tup xs)->H' b=MA (.tup xs)) (frzs:∀b o u,H b=MA (.frz o u)->H' b=MA (.frz o u)) (tbls:∀b ps,H b=MA (.tbl ps)->∃more,H' b=MA (.tbl (ps++more)))
 (ns:∀m,s.heap.Ns X.env.locals m->h'.Ns X.env.locals m) (hok:Nz X.prog X.w H' h') (J:AllBare g') :
 Inv X MP σ H' { s with heap:=h',gens:=g',drawn:=d',toks:=t' }:=by
 have B:∀b o,X.s₀.heap.get? b=MA o->b≠X.env.locals:=fun b o e=>JK (Ju (Jc e) I.ok.above)
 have j:∀b o,X.s₀.heap.get? b=MA o->b∉X.ex->b∉ch:=fun b o e a t=>by
  rcases(f b t).1 with z|z
  ·exact a z
  ·exact absurd (Ju (Jc e) z) (LI _)
 have g:∀x c,X.env.cells.lookup x=MA c->∀v,s.heap.IsCell c v->h'.IsCell c v:=fun x c e v y=>by
  obtain⟨o,A,hd⟩:=y
  have h:c∉ch:=fun z=>(f c z).2.2.1 x c e rfl
  by_cases E:c∈X.fs
  ·obtain⟨C,q⟩:=slot c o (I.cne x c e) E h A (I.freeC x c e)
   exact⟨_,q,hd⟩
  ·exact⟨o,keep c o (I.cne x c e) E h A (I.freeC x c e),hd⟩
 refine⟨I.ok,I.os,J,⟨fun b o e n t a=>?_,fun b o e n t a=>?_,fun b o e n a=>?_,fun b o e a=>?_,fun b xs e=>tups b xs (I.base.tups b xs e),fun b o xs e=>frzs b o xs (I.base.frzs b o xs e),fun b ps e=>?_⟩,?_,fun x c e=>?_,?_,fun x c e=>?_,fun p F=>?_,hok,I.len⟩
 ·exact keep b o (B b o e) t (j b o e a) (I.base.keep b o e n t a) (I.base.free b o e n a)
 ·obtain⟨C,e1⟩:=I.base.slot b o e n t a
  obtain⟨D,e2⟩:=slot b _ (B b o e) t (j b o e a) e1 (I.base.free b o e n a)
  exact⟨D,e2⟩
 ·obtain⟨o',e1⟩:=I.base.there b o e a
  exact free b o' (j b o e a) e1 (I.base.free b o e n a)
 ·obtain⟨o',e1⟩:=I.base.there b o e a
  exact there b o' (j b o e a) e1
 ·obtain⟨K,e1⟩:=I.base.tbls b ps e
  obtain⟨L,e2⟩:=tbls b _ e1
  exact⟨K++L,by rw[e2,Array.append_assoc]⟩
 ·obtain⟨m,M,N⟩:=I.loc
  refine⟨m,ns m M,fun i x v e1 e2 e3=>?_⟩
  obtain⟨u,r,l⟩:=N i x v e1 e2 e3
  refine⟨u,r,?_⟩
  rcases l with l|⟨k,c,e,z⟩
  ·exact .inl l
  ·exact .inr ⟨k,c,e,g x c e _ z⟩
 ·obtain⟨v,z⟩:=I.cell x c e
  exact⟨v,g x c e v z⟩
 ·obtain⟨m,⟨o,_,_,A,_⟩,_⟩:=I.loc
  exact free _ o (fun z=>(f _ z).2.1 rfl) A I.free
 ·obtain⟨v,o,A,hd⟩:=I.cell x c e
  exact free c o (fun z=>(f c z).2.2.1 x c e rfl) A (I.freeC x c e)
 ·obtain⟨e,n,ne,G,d⟩:=I.pin p F
  have h:p.1∉ch:=fun z=>(f p.1 z).2.2.2 p F rfl
  exact⟨keep p.1 p.2 ne G h e n,free p.1 p.2 h e n,ne,G,d⟩
theorem Inv.un{t':Nat}(I:Inv X MP σ H s)(u:Un X.fs [] H H' s.heap h')(hok:Nz X.prog X.w H' h'):Inv X MP σ H' { s with heap:=h',toks:=t' }:=by
 obtain⟨m,⟨o,es,ep,g,r⟩,_⟩:=id I.loc;obtain⟨k,h⟩:=u.any g I.free (by simp)
 exact I.step (g':=s.gens) (d':=s.drawn) (ch:=[]) (fun _ z=>nomatch z) (fun b o _ c _ e n=>u.keep b o e n c (by simp)) (fun b o _ c _ e n=>u.slot b o e n c (by simp)) (fun b o _ e n=>u.free b o e n (by simp)) (fun b o _ e=>u.there b o e (by simp)) u.tups u.frzs u.tbls (fun l i=>by
  obtain⟨p,d,f,a,j⟩:=i
  rw[g]at a;cases a
  exact⟨_,d,f,h,j⟩) hok I.bare
theorem Inv.call{g':Array GenState}{t':Nat}{d':Drawn}{ch:List Addr}(I:Inv X MP σ H s)(u:Un (Qe X.stack) ch H H' s.heap h')(hok:Nz X.prog X.w H' h')(k:AllBare g') (d:∀b∈ch,(b∈X.ex\/X.s₀.heap.objs.size<=b)/\b≠X.env.locals/\(∀x c,X.env.cells.lookup x=MA c->c≠b)/\∀p∈X.pn++MP,p.1≠b) : Inv X MP σ H' { s with heap:=h',gens:=g',drawn:=d',toks:=t' }:=by
 obtain⟨m,⟨o,es,ep,j,r⟩,_⟩:=id I.loc;obtain⟨v,g⟩:=u.any j I.free fun z=>(d _ z).2.1 rfl
 exact I.step (ch:=ch) d (fun b o g l a e n=>u.keep b o e n (fun z=>(Jv.mp (I.sC b z)).elim g l) a) (fun b o _ _ a e n=>u.any e n a) (fun b o a e n=>u.free b o e n a) (fun b o a e=>u.there b o e a) u.tups u.frzs u.tbls (fun y q=>by
  obtain⟨A,h,i,f,t⟩:=q
  rw[j]at f;cases f
  exact⟨_,h,i,g,t⟩) hok k
theorem Inv.turned{t':Nat}{it:Addr}(I:Inv X MP σ H s)(k:∀b o,b≠it->s.heap.get? b=MA o->h'.get? b=MA o)(g:H it=MB)(f:it≠X.env.locals)
 (h:it∈X.ex\/X.s₀.heap.objs.size<=it) (i:∀x c,X.env.cells.lookup x=MA c->c≠it) (j:∀p∈X.pn++MP,p.1≠it):Inv X MP σ H { s with heap:=h',toks:=t' }:=by
 have d:∀b u,H b=MA u->b≠it:=fun b u e z=>by rw[z,g]at e;cases e
 refine I.step (g':=s.gens) (d':=s.drawn) (ch:=[it]) (fun b l=>?_) (fun b o _ _ a e _=>k b o (fun z=>a (by simp[z])) e) (fun b o _ _ a e _=>⟨o.slots,k b o (fun z=>a (by simp[z])) e⟩) (fun _ _ _ _ n=>n)
  (fun b o a e=>⟨o,k b o (fun z=>a (by simp[z])) e⟩) (fun _ _ e=>e) (fun _ _ _ e=>e) (fun b ps e=>⟨#[],by rw[e];simp⟩) (fun m t=>?_) (fun b u e=>?_) I.bare
 ·have e:b=it:=by simpa using l
  subst e
  exact⟨h,f,i,j⟩
 ·obtain⟨o,es,ep,w,r⟩:=t
  exact⟨o,es,ep,k _ o (Ne.symm f) w,r⟩
 ·refine(I.hok b u e).ix (fun c v a q=>k c v ?_ q) (fun _ q=>q) fun _ _ q=>q
  rcases a with z|z
  ·rw[z];exact d b u e
  ·exact d c _ z
theorem Inv.tok(I:Inv X MP σ H s)(t:Nat):Inv X MP σ H { s with toks:=t }:=I.un (h':=s.heap) (t':=t) Un.refl I.hok
theorem Inv.kept{t':Nat}(I:Inv X MP σ H s)(k:∀b u,s.heap.get? b=MA u->h'.get? b=MA u):Inv X MP σ H { s with heap:=h',toks:=t' }:=I.un (Un.kept k) (I.hok.kept k)
theorem Inv.laid{a:Addr}{o:HO}{t':Nat}(I:Inv X MP σ H s)(k:∀b u,s.heap.get? b=MA u->h'.get? b=MA u)(c:s.heap.objs.size<=a)(new:bT X.prog X.w (upd H a o) h' a o) : Inv X MP σ (upd H a o) { s with heap:=h',toks:=t' }:=I.un (Un.laid k c (I.hok.fresh c)) (I.hok.laid k c new)
theorem Inv.write{x e:Addr}{o:HO}{t':Nat}(I:Inv X MP σ H s)(c:Uy (H x))(he:e=x\/H e=MA (.own x))(k:∀b u,b≠e->s.heap.get? b=MA u->h'.get? b=MA u)(a:∃u,h'.get? e=MA u) (new:bT X.prog X.w (upd H x o) h' x o):Inv X MP σ (upd H x o) { s with heap:=h',toks:=t' }:=I.un (Un.write c he k a) (I.hok.write c he k a new)
theorem Inv.t5{pins':List (Addr×Obj)}(I:Inv X MP σ H s)(h:∀p∈pins',s.heap.get? p.1=MA p.2/\H p.1=MB/\p.1≠X.env.locals/\p.1∉X.fs/\∀v,p.2.data≠.cell v):Inv X pins' σ H s:=⟨I.ok,I.os,I.bare,I.base,I.loc,I.cell,I.free,I.freeC,fun p a=>(Jo.mp a).elim (fun z=>I.pin p (List.mem_append_left _ z)) (h p),I.hok,I.len⟩
theorem qX{N:List Str}(c:N.Nodup){i j:Nat}{x:Str}(a:N[i]?=MA x)(b:N[j]?=MA x):i=j:=by obtain⟨d,e1⟩:=Ja.mp a;obtain⟨e,e2⟩:=Ja.mp b;exact(List.getElem_inj c).mp (e1.trans e2.symm)
theorem jw{M:Model}{A:JQ}{E:I0->IY->Prop}{i:Nat}{x:Str}{v:V}{u:I0}{Q:Unit->IY->Prop}(I:Inv X MP σ H s)(hN:X.N.Nodup)(hi:X.N[i]?=MA x)(l:Loc X.env.scope x)(r:RelV v u)
 (h:∀T,Inv X MP (σ.set i (MA v)) H T->(∃a,Lk a s.heap T.heap/\(a=X.env.locals\/X.env.cells.lookup x=MA a))->Q () T) (hf:X.fn x=MC\/X.env.scope.names.lookup x=MA .local:=by first|exact .inl rfl|exact .inr rfl|assumption):J7 M A (storeName X.env x u) Q E s:=by
 obtain⟨m,U,hl⟩:=id I.loc
 have J:(X.env.scope.kind==.class||(X.env.scope.kind==.module&&X.env.locals != X.env.globals))=MD:=by rw[I.ok.kind];rfl
 have B:i<σ.length:=by rw[I.len];exact(Ja.mp hi).1
 have cne:=I.cne
 have f:∀{a:Addr} {h':Heap},(∃o,s.heap.get? a=MA o/\H a=MB)->Lk a s.heap h'->Nz X.prog X.w H h':=fun{a h'} ha hs b ob e=>by
  obtain⟨_,_,t⟩:=ha
  refine(I.hok b ob e).ix (fun c R g q=>(hs.2 c ?_).trans q) (fun _ q=>q) fun _ _ q=>q
  rintro rfl
  rcases g with rfl|g
  ·rw[t]at e;cases e
  ·rw[t]at g;cases g
 rcases l with C|C
 ·refine wpAny_storeName_local C U (fun h' W hs=>?_) J
  obtain⟨oL,_,_,Y,_⟩:=id U
  refine h _ ⟨I.ok,I.os,I.bare,⟨fun b o e n D l=>?_,fun b o e n D l=>?_,I.base.free,fun b o e l=>?_,I.base.tups,I.base.frzs,I.base.tbls⟩,⟨_,W,fun j y Z e1 e2 e3=>?_⟩,fun y c e=>?_,I.free,I.freeC,fun p hp=>?_,f ⟨oL,Y,I.free⟩ hs,by simpa using I.len⟩ ⟨_,hs,.inl rfl⟩
  ·exact(hs.2 b (JK (Ju (Jc e) I.ok.above))).trans (I.base.keep b o e n D l)
  ·obtain⟨sl,e1⟩:=I.base.slot b o e n D l
   exact⟨sl,(hs.2 b (JK (Ju (Jc e) I.ok.above))).trans e1⟩
  ·obtain⟨o',e1⟩:=I.base.there b o e l
   exact⟨o',(hs.2 b (JK (Ju (Jc e) I.ok.above))).trans e1⟩
  ·by_cases F:j=i
   ·subst F
    rw[hi]at e1;cases e1
    rw[List.getElem?_set_self B]at e2
    cases e2
    exact⟨u,r,.inl ⟨C,by simp⟩⟩
   ·rw[List.getElem?_set_ne (Ne.symm F)]at e2
    obtain⟨u',r',q⟩:=hl j y Z e1 e2 e3
    refine⟨u',r',?_⟩
    rcases q with⟨k,e⟩|⟨k,c,e,z⟩
    ·refine .inl ⟨k,?_⟩
     have:y≠x:=fun e=>F (qX hN e1 (e▸hi))
     simp[this,e]
    ·exact .inr ⟨k,c,e,z.sameBut hs (cne y c e)⟩
  ·obtain⟨R,z⟩:=I.cell y c e
   exact⟨R,z.sameBut hs (cne y c e)⟩
  ·obtain⟨e,n,ne,nf,d⟩:=I.pin p hp
   exact⟨(hs.2 p.1 ne).trans e,n,ne,nf,d⟩
 ·have G:X.fn x=MC:=by
   rcases hf with z|z
   ·exact z
   ·rw[z]at C;cases C
  obtain⟨c,g⟩:=I.ok.has x (.inl C)
  obtain⟨R,z⟩:=I.cell x c g
  refine wpAny_storeName_cell I.ok.kind C g z (fun h' K hs=>?_)
  obtain⟨oc,L,O⟩:=id z
  refine h { s with heap:=h' } ⟨I.ok,I.os,I.bare,⟨fun b o e n D l=>?_,fun b o e n D l=>?_,I.base.free,fun b o e l=>?_,I.base.tups,I.base.frzs,I.base.tbls⟩,⟨m,U.sameBut hs (Ne.symm (cne x c g)),fun j y Z e1 e2 e3=>?_⟩,fun y S e=>?_,I.free,I.freeC,fun p hp=>?_,f ⟨oc,L,I.freeC x c g⟩ hs,by simpa using I.len⟩ ⟨c,hs,.inr g⟩
  ·exact(hs.2 b (JK (Ju (Jc e) (I.ok.cab x c G g)))).trans (I.base.keep b o e n D l)
  ·obtain⟨sl,e1⟩:=I.base.slot b o e n D l
   exact⟨sl,(hs.2 b (JK (Ju (Jc e) (I.ok.cab x c G g)))).trans e1⟩
  ·obtain⟨o',e1⟩:=I.base.there b o e l
   exact⟨o',(hs.2 b (JK (Ju (Jc e) (I.ok.cab x c G g)))).trans e1⟩
  ·by_cases F:j=i
   ·subst F
    rw[hi]at e1;cases e1
    rw[List.getElem?_set_self B]at e2
    cases e2
    exact⟨u,r,.inr ⟨.inl C,c,g,K⟩⟩
   ·rw[List.getElem?_set_ne (Ne.symm F)]at e2
    obtain⟨u',r',q⟩:=hl j y Z e1 e2 e3
    refine⟨u',r',?_⟩
    rcases q with q|⟨k,S,e,z'⟩
    ·exact .inl q
    ·refine .inr ⟨k,S,e,z'.sameBut hs ?_⟩
     rintro rfl
     exact F (qX hN e1 (I.ok.inj _ _ _ e g▸hi))
  ·by_cases P:S=c
   ·subst P;exact⟨_,K⟩
   ·obtain⟨w2,z2⟩:=I.cell y S e
    exact⟨w2,z2.sameBut hs P⟩
  ·obtain⟨e,n,ne,nf,d⟩:=I.pin p hp
   refine⟨(hs.2 p.1 ?_).trans e,n,ne,nf,d⟩
   intro q
   rw[q,L]at e
   have q':oc=p.2:=Option.some.inj e
   exact d R (by rw[<-q'];exact O)
theorem gE{M:Model}{A:JQ}{E:I0->IY->Prop}{i:Nat}{x:Str}{v:V}{u:I0}{Q:Unit->IY->Prop}(I:Inv X MP σ H s)(b:X.N.Nodup)(hi:X.N[i]?=MA x)(c:Loc X.env.scope x)(r:RelV v u) (h:∀a,Inv X MP (σ.set i (MA v)) H a->Q () a) (d:X.fn x=MC\/X.env.scope.names.lookup x=MA .local:=by first|exact .inl rfl|exact .inr rfl|assumption):J7 M A (storeName X.env x u) Q E s:=jw I b hi c r (fun a e _=>h a e) d
theorem Inv.yg{a:IY}{ch:List Addr}(I:Inv X MP σ H s)(f:a.os=s.os)(u:Un (Qe X.stack) ch H H' s.heap a.heap)(hok:Nz X.prog X.w H' a.heap)(g:AllBare a.gens)
 (d:∀b∈ch,(b∈X.ex\/X.s₀.heap.objs.size<=b)/\b≠X.env.locals/\(∀x c,X.env.cells.lookup x=MA c->c≠b)/\∀p∈X.pn++MP,p.1≠b):Inv X MP σ H' a:=by
 obtain⟨h',g',d',t',h⟩:=a
 have e:h=s.os:=f
 subst e
 exact I.call (g':=g') (t':=t') (d':=d') u hok g d
end
abbrev XK:=I0->Option Addr->Hp->Prop
abbrev St:=List (Option V)
abbrev VK:=V->Hp->Prop
abbrev TE:=St->Hp->VK->Prop
abbrev TT:=St->Hp->(Bool->Hp->Prop)->Prop
abbrev TA:=St->Hp->(List V->Hp->Prop)->Prop
structure Ends where
 nx:St->Hp->Prop
 rt:VK
 bk:St->Hp->Prop:=fun _ _=>False
 ct:St->Hp->Prop:=fun _ _=>False
abbrev TS:=Ends->St->Hp->Prop
def EP(X:Cx)(MP:List (Addr×Obj))(σ:St)(Q:VK)(u:I0)(b:IY):Prop:=∃v a,Inv X MP σ a b/\RelV v u/\Q v a
def TP(X:Cx)(MP:List (Addr×Obj))(σ:St)(Q:Bool->Hp->Prop)(b:Bool)(c:IY):Prop:=∃a,Inv X MP σ a c/\Q b a
def AP(X:Cx)(MP:List (Addr×Obj))(σ:St)(Q:List V->Hp->Prop)(us:List I0)(b:IY):Prop:=∃vs a,Inv X MP σ a b/\Vals vs us/\Q vs a
def SP(X:Cx)(MP:List (Addr×Obj))(D:Ends)(f:Flow)(c:IY):Prop:=
 match f with
 |.next=>∃a b,Inv X MP a b c/\D.nx a b
 |.brk=>∃a b,Inv X MP a b c/\D.bk a b
 |.cont=>∃a b,Inv X MP a b c/\D.ct a b
 |.ret u=>∃v a b,Inv X MP a b c/\RelV v u/\D.rt v b
def PE(X:Cx)(e:Expr)(t:TE):Prop:=
 ∀(MP:List (Addr×Obj)) (s:IY) (σ:St) (H:Hp) (Q:VK),Inv X MP σ H s->t σ H Q->J7 (Jg X.prog X.w) X.A (eval e X.env) (EP X MP σ Q) X.xe s
def PT(X:Cx)(e:Expr)(t:TT):Prop:=
 ∀(MP:List (Addr×Obj)) (s:IY) (σ:St) (H:Hp) (Q:Bool->Hp->Prop),Inv X MP σ H s->t σ H Q->J7 (Jg X.prog X.w) X.A (isTrue e X.env (eval e X.env)) (TP X MP σ Q) X.xe s
def PW(X:Cx)(e:Expr)(t:TT):Prop:=
 ∀(a:Sem I0) (MP:List (Addr×Obj)) (s:IY) (σ:St) (H:Hp) (Q:Bool->Hp->Prop),Inv X MP σ H s->t σ H Q->J7 (Jg X.prog X.w) X.A (isTrue e X.env a) (TP X MP σ Q) X.xe s
theorem PW.pt{X:Cx}{e:Expr}{t:TT}(h:PW X e t):PT X e t:=h _
def PA(X:Cx)(es:List Expr)(t:TA):Prop:=
 ∀(pos:Pos) (MP:List (Addr×Obj)) (s:IY) (σ:St) (H:Hp) (Q:List V->Hp->Prop),Inv X MP σ H s->t σ H Q->J7 (Jg X.prog X.w) X.A (spliced (KO pos (Jd es X.env))) (AP X MP σ Q) X.xe s
def PS(X:Cx)(st:Stmt)(t:TS):Prop:=
 ∀(MP:List (Addr×Obj)) (s:IY) (σ:St) (H:Hp) (D:Ends),Inv X MP σ H s->t D σ H->J7 (Jg X.prog X.w) X.A (exec st X.env) (SP X MP D) X.xe s
def PR(X:Cx)(st:List Stmt)(t:TS):Prop:=
 ∀(MP:List (Addr×Obj)) (s:IY) (σ:St) (H:Hp) (D:Ends),Inv X MP σ H s->t D σ H->J7 (Jg X.prog X.w) X.A (execs st X.env) (SP X MP D) X.xe s
theorem NQ{b:Type}{t:Sem b}{Q c:b->IY->Prop}{M:Model}{A:JQ}{E:I0->IY->Prop}{s:IY}(h:J7 M A t Q E s)(d:∀a s,Q a s->c a s):J7 M A t c E s:=Je h d fun _ _ x=>x
section
variable{X:Cx}
def IM(i:Nat):TE:=fun σ H Q=>∃v,σ[i]?=MA (MA v)/\Q v H
def tC(v:V):TE:=fun _ H Q=>Q v H
theorem Fp{i:Nat}{x:Str}{pos:Pos}(j:X.N[i]?=MA x)(k:Uw X.env.scope x)(hd:(x==("__debug__":Str))=MD:=by decide)(f:(x==("__classdict__":Str))=MD:=by decide):PE X (.Name x pos) (IM i):=by
 intro MP s σ H Q I h;obtain⟨v,e,h⟩:=h;obtain⟨m,n,o⟩:=I.loc;obtain⟨u,r,l⟩:=o i x v j e k;have b:EP X MP σ Q u s:=⟨v,H,I,r,h⟩;rcases l with⟨d,p⟩|⟨d,c,g,a⟩
 ·exact wpAny_Name (wpAny_loadName_local I.ok.kind d n p b) hd
 ·rcases d with d|d
  ·exact wpAny_Name (wpAny_loadName_cell I.ok.kind d g a b) hd
  ·exact wpAny_Name (wpAny_loadName_free I.ok.kind d g a b f) hd
theorem zB{i j pos}:PE X (.Constant (.int i) j pos) (tC (.int i)):=fun _ _ _ H _ I h=>wpAny_Constant_int ⟨.int i,H,I.tok _,⟨_,rfl⟩,h⟩
theorem FZ{b j pos}:PE X (.Constant (.bool b) j pos) (tC (.bl b)):=fun _ _ _ H _ I h=>Constant_bool ⟨.bl b,H,I,rfl,h⟩
theorem Ex{j pos}:PE X (.Constant .none j pos) (tC .non):=fun _ _ _ H _ I h=>Constant_none ⟨.non,H,I,rfl,h⟩
def Gl(X:Cx)(x:Str):Prop:=X.env.kindOf x=MA .globalImplicit
theorem AV{E:I0->IY->Prop}{MP:List (Addr×Obj)}{s:IY}{σ:St}{H:Hp}{x:Str}{u:I0}{pos:Pos}{Q:I0->IY->Prop}(I:Inv X MP σ H s)(a:Gl X x)(b:X.mg x=MA u)(h:Q u s) (hd:(x==("__debug__":Str))=MD:=by decide):J7 (Jg X.prog X.w) X.A (eval (.Name x pos) X.env) Q E s:=Calls.Name_function_global I.ok.kind a (Calls.loadGlobal_global (by rw[I.ok.glob];exact I.mod.glob.keeps I.bk) b h) hd
theorem jj{E:I0->IY->Prop}{MP:List (Addr×Obj)}{s:IY}{σ:St}{H:Hp}{x:Str}{u:I0}{pos:Pos}{Q:I0->IY->Prop}(I:Inv X MP σ H s)(a:Gl X x)(b:X.mg x=MB)(c:Ka x=MA u)(h:Q u s) (d:x≠"__name__":=by decide) (hd:(x==("__debug__":Str))=MD:=by decide):J7 (Jg X.prog X.w) X.A (eval (.Name x pos) X.env) Q E s:=by obtain⟨g,e,f⟩:=I.mod.blt;exact Calls.Name_function_global I.ok.kind a (Calls.loadGlobal_builtin (by rw[I.ok.glob];exact I.mod.glob.keeps I.bk) b (by rw[I.ok.blt];exact e.keeps I.bk) ((f x d).trans c) h) hd
variable{a b:Expr}{ta tb:TE}{pos:Pos}
def PC(X:Cx)(op:CmpOp)(a b:Expr)(t:TE):Prop:=
 ∀(MP:List (Addr×Obj)) (s:IY) (σ:St) (H:Hp) (Q:VK),Inv X MP σ H s->t σ H Q->
  J7 (Jg X.prog X.w) X.A (eval a X.env) (fun v c=>J7 (Jg X.prog X.w) X.A (eval b X.env) (fun u d=>J7 (Jg X.prog X.w) X.A (JN op v u) (EP X MP σ Q) X.xe d) X.xe c) X.xe s
def tB(t:TE):TT:=fun σ H Q=>t σ H fun x H1=>∃c,x=.bl c/\Q c H1
theorem CT{op:CmpOp}{t:TE}(h:PC X op a b t)(f:Mp op b=MD:=by first|exact nobehind _ (by decide) (by decide)|rfl):PT X (.Compare a [op] [b] pos) (tB t):=by intro MP s σ H Q I g;refine wpAny_isTrue_Compare1 (NQ (h MP s σ H _ I g) fun v m f=>NQ f fun u n i=>NQ i fun c o e=>?_) f;obtain⟨x,H1,j,k,l⟩:=e;obtain⟨d,rfl,q⟩:=l;cases k;exact Kz ⟨H1,j,q⟩
theorem Ew{e:Expr}{t:TE}(h:PE X e t)(he:∀c,isTrue e X.env c=(do let v <-c;standAt e.pos;holding [v] (truthy v)):=by intro _;rfl):PT X e (tB t):=by intro MP s σ H Q I g;refine isTrue_plain (NQ (h MP s σ H _ I g) fun v l f=>?_) (he _);obtain⟨x,H1,i,j,k⟩:=f;obtain⟨d,rfl,q⟩:=k;cases j;exact Kz ⟨H1,i,q⟩
variable{tA MQ:TT}{rest:List Expr}
def Ik(t u:TT):TT:=fun σ H Q=>t σ H fun c H1=>if c=MC then u σ H1 Q else Q MD H1
def Xl(t u:TT):TT:=fun σ H Q=>t σ H fun c H1=>if c=MC then Q MC H1 else u σ H1 Q
def HM(t:TT):TT:=fun σ H Q=>t σ H fun c H1=>Q (!c) H1
theorem BU(d:PT X a tA):PW X (.BoolOp .And [a] pos) tA:=by
 intro f MP s σ H Q I h;refine isTrue_and (NQ (d MP s σ H Q I h) fun c g e=>?_);cases c with
 |true=>exact isTrue_and_nil e
 |false=>exact e
theorem ED(d:PT X a tA):PW X (.BoolOp .Or [a] pos) tA:=by
 intro f MP s σ H Q I h;refine isTrue_or (NQ (d MP s σ H Q I h) fun c g e=>?_);cases c with
 |false=>exact isTrue_or_nil e
 |true=>exact e
theorem CM(g:PT X a tA)(i:PW X (.BoolOp .And (b::rest) pos) MQ):PW X (.BoolOp .And (a::b::rest) pos) (Ik tA MQ):=by
 intro j MP s σ H Q I h;refine isTrue_and (NQ (g MP s σ H _ I h) fun c k d=>?_);obtain⟨H1,e,f⟩:=d;cases c with
 |true=>exact i j MP k σ H1 Q e f
 |false=>exact⟨H1,e,f⟩
theorem Hf(g:PT X a tA)(i:PW X (.BoolOp .Or (b::rest) pos) MQ):PW X (.BoolOp .Or (a::b::rest) pos) (Xl tA MQ):=by
 intro j MP s σ H Q I h;refine isTrue_or (NQ (g MP s σ H _ I h) fun c k d=>?_);obtain⟨H1,e,f⟩:=d;cases c with
 |true=>exact⟨H1,e,f⟩
 |false=>exact i j MP k σ H1 Q e f
theorem Dv(d:PT X a tA):PT X (.UnaryOp .Not a pos) (HM tA):=by intro MP s σ H Q I h;exact isTrue_not (d MP s σ H (fun c H1=>Q (!c) H1) I h)
def F0(ta tb:TE):TE:=fun σ H Q=>ta σ H fun x H1=>∃c,x=.bl c/\if c=MC then tb σ H1 Q else Q (.bl MD) H1
def ID(ta tb:TE):TE:=fun σ H Q=>ta σ H fun x H1=>∃c,x=.bl c/\if c=MC then Q (.bl MC) H1 else tb σ H1 Q
def FF(ta:TE):TE:=fun σ H Q=>ta σ H fun x H1=>∃c,x=.bl c/\Q (.bl (!c)) H1
theorem Fh{op}{t:TE}(h:PE X a t):PE X (.BoolOp op [a] pos) t:=fun MP s σ H Q I c=>BoolOp_one (h MP s σ H Q I c)
theorem Fj(g:PE X a ta)(i:PE X (.BoolOp .And (b::rest) pos) tb):PE X (.BoolOp .And (a::b::rest) pos) (F0 ta tb):=by
 intro MP s σ H Q I h;refine BoolOp_and (NQ (g MP s σ H _ I h) fun v j d=>?_);obtain⟨x,H1,f,k,e⟩:=d;obtain⟨c,rfl,e⟩:=e;cases k;refine Kz ?_;cases c with
 |true=>exact i MP j σ H1 Q f e
 |false=>exact⟨.bl MD,H1,f,rfl,e⟩
theorem GO(g:PE X a ta)(i:PE X (.BoolOp .Or (b::rest) pos) tb):PE X (.BoolOp .Or (a::b::rest) pos) (ID ta tb):=by
 intro MP s σ H Q I h;refine BoolOp_or (NQ (g MP s σ H _ I h) fun v j d=>?_);obtain⟨x,H1,f,k,e⟩:=d;obtain⟨c,rfl,e⟩:=e;cases k;refine Kz ?_;cases c with
 |false=>exact i MP j σ H1 Q f e
 |true=>exact⟨.bl MC,H1,f,rfl,e⟩
theorem DL(f:PE X a ta):PE X (.UnaryOp .Not a pos) (FF ta):=by intro MP s σ H Q I h;refine UnaryOp_ (NQ (f MP s σ H _ I h) fun v j d=>?_);obtain⟨x,H1,g,i,e⟩:=d;obtain⟨c,rfl,e⟩:=e;cases i;exact not_of (Kz ⟨.bl (!c),H1,g,rfl,e⟩)
def Xm(t:TT)(ta tb:TE):TE:=fun σ H Q=>t σ H fun c H1=>if c=MC then ta σ H1 Q else tb σ H1 Q
theorem xn{c:Expr}(j:PT X c tA)(k:PE X a ta)(l:PE X b tb):PE X (.IfExp c a b pos) (Xm tA ta tb):=by
 intro MP s σ H Q I h;refine wpAny_IfExp (NQ (j MP s σ H _ I h) fun d f e=>?_);obtain⟨H1,g,i⟩:=e;cases d with
 |true=>exact k MP f σ H1 Q g i
 |false=>exact l MP f σ H1 Q g i
end
def NZ(K:IW)(H:Hp)(a:Addr)(xs:List V):Prop:=
 Rd H a (.lst xs)\/
  ∃(o:Obj) (b:Array I0) (n:Nat),K.lookup a=MA o/\o.cls=.type "list"/\o.dict=MB/\o.data=.seq b n/\b.size<=Jb/\Vals xs b.toList
def N1(K:IW)(H:Hp)(a:Addr)(xs:List V):Prop:=
 Rd H a (.tup xs)\/
  ∃(o:Obj) (b:Array I0) (n:Nat),K.lookup a=MA o/\(o.cls=.type "tuple"/\o.dict=MB)/\o.data=.seq b n/\b.size<=Jb/\Vals xs b.toList
def IC:I0->Option V
 |.none=>MA .non
 |.bool b=>MA (.bl b)
 |.int i _=>MA (.int i)
 |.str x _=>MA (.str x)
 |.bytes b _=>MA (.byt b)
 |.float b _=>MA (.flt b)
 |.ref a=>MA (.ref a)
 |.type n=>MA (.ty n)
 |_=>MB
theorem RelV.abs{x:V}{u:I0}(r:RelV x u):IC u=MA x:=by
 cases x with
 |non=>cases r;rfl
 |bl _=>cases r;rfl
 |int _=>obtain⟨t,rfl⟩:=r;rfl
 |str _=>obtain⟨t,rfl⟩:=r;rfl
 |byt _=>obtain⟨t,rfl⟩:=r;rfl
 |flt _=>obtain⟨t,rfl⟩:=r;rfl
 |ref _=>cases r;rfl
 |ty _=>cases r;rfl
theorem RelV.inj{x y:V}{u:I0}(r:RelV x u)(q:RelV y u):x=y:=Option.some.inj (r.abs.symm.trans q.abs)
theorem Vals.inj:∀{xs a:List V} {us:List I0},Vals xs us->Vals a us->xs=a:=by
 intro xs a us h
 induction h generalizing a with
 |nil=>intro k;cases k;rfl
 |cons r t b=>
  intro k
  cases k with
  |cons c d=>rw[r.inj c,b d]
section
variable{X:Cx}{MP:List (Addr×Obj)}{σ:St}{H:Hp}{s:IY}{a:Addr}{xs ys:List V}
theorem NZ.of{K:IW}(h:H a=MA (.lst xs)):NZ K H a xs:=.inl (.inl h)
theorem N1.of{K:IW}(h:H a=MA (.tup xs)):N1 K H a xs:=.inl (.inl h)
theorem Inv.list(I:Inv X MP σ H s)(h:NZ X.K H a xs):∃b:List I0,Vals xs b/\PlainL s.heap a b.toArray/\xs.length<=Jb:=by
 rcases h with h|⟨o,b,n,c,d,hd,hs,f,r⟩
 ·obtain⟨z,b,n,r,e⟩:=h.ok I.hok;exact⟨b,r,⟨_,n,e,rfl,rfl,rfl⟩,z⟩
 ·refine⟨b.toList,r,⟨o,n,I.kIn a o c,d,hd,by simpa using hs⟩,?_⟩;have e:=r.length;simp only[Jx]at e;omega
theorem Inv.tuple(I:Inv X MP σ H s)(h:N1 X.K H a xs):∃b:List I0,Vals xs b/\IsTup s.heap a b.toArray/\xs.length<=Jb:=by
 rcases h with h|⟨o,b,n,c,d,hs,f,r⟩
 ·obtain⟨z,b,r,p,_⟩:=h.ok I.hok;exact⟨b,r,p,z⟩
 ·refine⟨b.toList,r,⟨o,I.kIn a o c,d.1,n,by simpa using hs⟩,?_⟩;have e:=r.length;simp only[Jx]at e;omega
theorem Inv.CU(I:Inv X MP σ H s)(h:N1 X.K H a xs):R9 s.heap a:=by
 rcases h with h|⟨o,b,n,c,d,hs,e,r⟩
 ·obtain⟨z,b,r,_,p⟩:=h.ok I.hok;exact p
 ·exact⟨o,I.kIn a o c,d.2⟩
theorem Inv.iW(I:Inv X MP σ H s)(h:NZ X.K H a xs)(h':NZ X.K H a ys):xs=ys:=by
 obtain⟨c,r,⟨o,n,e,_,_,d⟩,_⟩:=I.list h;obtain⟨b,i,⟨k,l,f,_,_,g⟩,_⟩:=I.list h';rw[e]at f;cases f;rw[d]at g;injection g with j _;have:c=b:=by simpa using congrArg Array.toList j
 subst this;exact r.inj i
theorem Inv.vC(I:Inv X MP σ H s)(h:N1 X.K H a xs)(h':N1 X.K H a ys):xs=ys:=by
 obtain⟨c,r,⟨o,e,_,n,d⟩,_⟩:=I.tuple h;obtain⟨b,i,⟨k,f,_,l,g⟩,_⟩:=I.tuple h';rw[e]at f;cases f;rw[d]at g;injection g with j _;have:c=b:=by simpa using congrArg Array.toList j
 subst this;exact r.inj i
end
abbrev Cx.mM(X:Cx)(E:I0->IY->Prop):Cx:={ X with xe:=E }
abbrev Cx.nox(X:Cx):Cx:=X.mM fun _ _=>False
theorem Cx.Ok.mM{X:Cx}(ok:X.Ok)(E:I0->IY->Prop):(X.mM E).Ok:=⟨ok.mod,ok.kind,ok.glob,ok.blt,ok.above,ok.inj,ok.has,ok.cab,ok.hd,ok.frames,ok.stk,ok.exf,ok.bs,ok.bsz,ok.noex,ok.exfs,ok.lA,ok.frf⟩
theorem Cx.Ok.gF{X:Cx}{E:I0->IY->Prop}(ok:(X.mM E).Ok):X.Ok:=⟨ok.mod,ok.kind,ok.glob,ok.blt,ok.above,ok.inj,ok.has,ok.cab,ok.hd,ok.frames,ok.stk,ok.exf,ok.bs,ok.bsz,ok.noex,ok.exfs,ok.lA,ok.frf⟩
section
variable{X:Cx}{MP:List (Addr×Obj)}{σ:St}{H:Hp}{s:IY}{E:I0->IY->Prop}
theorem Inv.mM(I:Inv X MP σ H s)(E:I0->IY->Prop):Inv (X.mM E) MP σ H s:=⟨I.ok.mM E,I.os,I.bare,I.base,I.loc,I.cell,I.free,I.freeC,I.pin,I.hok,I.len⟩
theorem Inv.gF(I:Inv (X.mM E) MP σ H s):Inv X MP σ H s:=⟨I.ok.gF,I.os,I.bare,I.base,I.loc,I.cell,I.free,I.freeC,I.pin,I.hok,I.len⟩
theorem SP.gF{D:Ends}{f:Flow}{c:IY}(h:SP (X.mM E) MP D f c):SP X MP D f c:=by
 cases f with
 |next=>obtain⟨a,b,I,q⟩:=h;exact⟨a,b,I.gF,q⟩
 |brk=>obtain⟨a,b,I,q⟩:=h;exact⟨a,b,I.gF,q⟩
 |cont=>obtain⟨a,b,I,q⟩:=h;exact⟨a,b,I.gF,q⟩
 |ret u=>obtain⟨v,a,b,I,r,q⟩:=h;exact⟨v,a,b,I.gF,r,q⟩
theorem PR.nox{st:List Stmt}{t:TS}(h:PR X.nox st t):PR X st t:=fun MP s σ H D I a=>Je (h MP s σ H D (I.mM _) a) (fun _ _ q=>q.gF) fun _ _ z=>JB z
end
section
variable{X:Cx}{st:Stmt}{rest:List Stmt}{t u:TS}{e:Expr}{te:TE}{pos:Pos}
def Gr:TS:=fun D σ H=>D.nx σ H
def IH(t u:TS):TS:=fun D σ H=>t { D with nx:=u D } σ H
theorem AB:PR X [] Gr:=fun _ _ σ H _ I h=>wpAny_execs_nil ⟨σ,H,I,h⟩
theorem yK(b:PS X st t)(c:PR X rest u):PR X (st::rest) (IH t u):=by
 intro MP s σ H D I h;refine wpAny_execs_cons (NQ (b MP s σ H { D with nx:=u D } I h) fun f d q=>?_);cases f with
 |next=>
  obtain⟨a,g,i,q⟩:=q
  exact c MP d a g D i q
 |ret v=>exact q
 |brk=>exact q
 |cont=>exact q
theorem AQ(a:PS X st t):PR X [st] t:=by
 intro MP s σ H D I h;refine wpAny_execs_cons (NQ (a MP s σ H D I h) fun f b q=>?_);cases f with
 |next=>exact wpAny_execs_nil q
 |ret v=>exact q
 |brk=>exact q
 |cont=>exact q
theorem Inv.quiet{MP:List (Addr×Obj)}{σ:St}{H:Hp}{s:IY}(I:Inv X MP σ H s):interactive X.env=MD:=by simp[interactive,I.ok.kind]
def GP(te:TE):TS:=fun D σ H=>te σ H fun _ H1=>D.nx σ H1
theorem BG(he:PE X e te)(hs:LL e MB pos.line X.env=pure MD:=by rfl):PS X (.Expr e pos) (GP te):=by intro MP s σ H D I h;exact wpAny_Expr_any (NQ (he MP s σ H _ I h) fun v d a=>by obtain⟨x,H1,b,f,c⟩:=a;exact(⟨σ,H1,b,c⟩)) I.quiet hs
def IK(te:TE):TS:=fun D σ H=>te σ H D.rt
theorem Dz(he:PE X e te):PS X (.Return (MA e) pos) (IK te):=by intro MP s σ H D I h;exact wpAny_Return_some (NQ (he MP s σ H _ I h) fun v f a=>by obtain⟨x,H1,b,c,d⟩:=a;exact(⟨x,σ,H1,b,c,d⟩))
def Ia(c:TT)(t u:TS):TS:=fun D σ H=>c σ H fun b H1=>if b=MC then t D σ H1 else u D σ H1
theorem G7{c:Expr}{a b:List Stmt}{tc:TT}(k:PT X c tc)(l:PR X a t)(m:PR X b u):PS X (.If c a b pos) (Ia tc t u):=by
 intro MP s σ H D I h;refine wpAny_If (NQ (k MP s σ H _ I h) fun d g f=>?_);obtain⟨H1,i,j⟩:=f;cases d with
 |true=>exact l MP g σ H1 D i j
 |false=>exact m MP g σ H1 D i j
def D5:TS:=fun _ _ _=>False
theorem yp:PS X st D5:=fun _ _ _ _ _ _ h=>h.elim
end
abbrev TG:=V->St->Hp->(St->Hp->Prop)->Prop
abbrev Qz:=List V->St->Hp->(St->Hp->Prop)->Prop
def PG(X:Cx)(a:Expr)(t:TG):Prop:=
 ∀(MP:List (Addr×Obj)) (s:IY) (σ:St) (H:Hp) (v:V) (u:I0) (Q:St->Hp->Prop),Inv X MP σ H s->RelV v u->t v σ H Q->
  J7 (Jg X.prog X.w) X.A (Mt a X.env u) (fun _ d=>∃b c,Inv X MP b c d/\Q b c) X.xe s
def Rl(X:Cx)(c:List Expr)(t:Qz):Prop:=
 ∀(MP:List (Addr×Obj)) (s:IY) (σ:St) (H:Hp) (vs:List V) (us:List I0) (Q:St->Hp->Prop),Inv X MP σ H s->Vals vs us->t vs σ H Q->
  J7 (Jg X.prog X.w) X.A (assignInOrder ((Mq c X.env).map (·.2)) us) (fun _ d=>∃a b,Inv X MP a b d/\Q a b) X.xe s
abbrev Di:=V->V->V->Hp->(Hp->Prop)->Prop
def FW(X:Cx)(t:Di):Prop:=
 ∀(MP:List (Addr×Obj)) (s:IY) (σ:St) (H:Hp) (o i v:V) (a b u:I0) (Q:Hp->Prop),Inv X MP σ H s->RelV o a->RelV i b->RelV v u->t o i v H Q->
  J7 (Jg X.prog X.w) X.A (setItem a b u) (fun _ d=>∃c,Inv X MP σ c d/\Q c) X.xe s
abbrev VM:=V->V->Hp->VK->Prop
def VO(X:Cx)(op:Operator)(t:VM):Prop:=
 ∀(MP:List (Addr×Obj)) (s:IY) (σ:St) (H:Hp) (x y:V) (v u:I0) (Q:VK),Inv X MP σ H s->RelV x v->RelV y u->t x y H Q->
  J7 (Jg X.prog X.w) X.A (inplaceOp op v u) (EP X MP σ Q) X.xe s
section
variable{X:Cx}{pos:Pos}
def gc(i:Nat):TG:=fun v σ H Q=>Q (σ.set i (MA v)) H
theorem u7{i:Nat}{x:Str}(a:X.N.Nodup)(hi:X.N[i]?=MA x)(b:Loc X.env.scope x)(c:X.fn x=MC\/X.env.scope.names.lookup x=MA .local:=by first|exact .inl rfl|exact .inr rfl|assumption):PG X (.Name x pos) (gc i):=by intro MP s σ H v u Q I r h;exact wpAny_assign_Name (gE I a hi b r (fun e d=>⟨_,H,d,h⟩) c)
def EM:Qz:=fun vs σ H Q=>vs=[]/\Q σ H
def pY(t:TG)(u:Qz):Qz:=fun vs σ H Q=>∃v r,vs=v::r/\t v σ H fun a b=>u r a b Q
theorem vd:Rl X [] EM:=by intro MP s σ H vs us Q I r h;obtain⟨e,h⟩:=h;subst e;cases r;exact assignInOrder_nil ⟨σ,H,I,h⟩
theorem l6{e:Expr}{es:List Expr}{t:TG}{u:Qz}(c:PG X e t)(d:Rl X es u) (hs:(Mq (e::es) X.env).map (·.2)=Mt e X.env::(Mq es X.env).map (·.2):=by rfl):Rl X (e::es) (pY t u):=by
 intro MP s σ H vs us Q I r h;obtain⟨v,k,e1,h⟩:=h;subst e1;cases r with
 |cons r f=>
  rw[hs]
  refine assignInOrder_cons (NQ (c MP s σ H _ _ _ I r h) fun _ g a=>?_)
  obtain⟨b,H1,i,j⟩:=a
  exact d MP g b H1 _ _ Q i f j
def Ez(K:IW)(n:Nat)(t:Qz):TG:=fun v σ H Q=>∃a xs,v=.ref a/\N1 K H a xs/\xs.length=n/\t xs σ H Q
theorem xC{es:List Expr}{k:Nat}{t:Qz}{n:Nat}(g:X.calm=MC)(h:Rl X es t)
 (i:(Mq es X.env).length=n:=by rfl) (c:(Mq es X.env).findIdx? (·.1)=MB:=by rfl):PG X (.Tuple es k pos) (Ez X.K n t):=by
 intro MP s σ H v u Q I r d
 obtain⟨a,xs,e1,j,l,d⟩:=d
 subst e1
 cases r
 obtain⟨m,f,p,y⟩:=I.tuple j
 refine assign_Tuple_tuple (I.ok.hd g) p (by simp[i,<-l,f.length]) c fun q w=>?_
 have x:Inv X MP σ H { s with heap:=q }:=I.kept (t':=s.toks) fun b o e=>w b o (JK (Jc e)) e
 exact h MP _ σ H xs _ Q x (by simpa using f) d
def Iz(a b:TE)(t:Di):TG:=fun v σ H Q=>a σ H fun o H1=>b σ H1 fun i c=>t o i v c fun d=>Q σ d
theorem Ds{o i:Expr}{f g:TE}{t:Di}(j:PE X o f)(hi:PE X i g)(hs:FW X t)
 (k:∀v,Mt (.Subscript o i pos) X.env v=(do
  let d <-holding [v] (eval o X.env)
  let e <-holding [v,d] (eval i X.env)
  standAt pos
  holding [v,d,e] (setItem d e v)
  release [v,d,e] []):=by intro _;rfl):PG X (.Subscript o i pos) (Iz f g t):=by
 intro MP s σ H v u Q I r h
 rw[k]
 refine cc (K9 (NQ (j MP s σ H _ I h) fun d l a=>?_))
 obtain⟨x,H1,m,n,p⟩:=a
 refine cc (K9 (NQ (hi MP l σ H1 _ m p) fun e q b=>?_))
 obtain⟨y,w,z,A,B⟩:=b
 refine cc (KQ (cc (K9 (NQ (hs MP q σ w x y v d e u _ z n A r B) fun _ F c=>?_))))
 obtain⟨C,D,E⟩:=c
 exact wpAny_release ⟨σ,C,D,E⟩
def Bm(te:TE)(g:TG):TS:=fun D σ H=>te σ H fun x H1=>g x σ H1 D.nx
theorem Ei{tg e:Expr}{te:TE}{g:TG}(he:PE X e te)(b:PG X tg g)(hs:swapsWithSole [tg] e pos.line X.env=pure MD:=by rfl)(hw:swappedStores [tg] e X.env=pure MB:=by rfl) (c:(Mq [tg] X.env).map (·.2)=[Mt tg X.env]:=by rfl):PS X (.Assign [tg] e pos) (Bm te g):=by intro MP s σ H D I h;refine wpAny_Assign_stores (NQ (he MP s σ H _ I h) fun v d a=>?_) hs hw;obtain⟨x,H1,f,i,j⟩:=a;rw[c];exact NQ (b MP d σ H1 x v _ f i j) fun _ k q=>q
theorem DH{i:Nat}{x:Str}{e:Expr}{te:TE}{b:Pos}(c:X.N.Nodup)(hi:X.N[i]?=MA x)(d:Loc X.env.scope x)(he:PE X e te)(hs:LL e (MA (.Name x b)) pos.line X.env=pure MD:=by rfl)(f:X.fn x=MC\/X.env.scope.names.lookup x=MA .local:=by first|exact .inl rfl|exact .inr rfl|assumption) : PS X (.Assign [.Name x b] e pos) (Bm te (gc i)):=by intro MP s σ H D I h;refine wpAny_Assign_Name (NQ (he MP s σ H _ I h) fun v m a=>?_) hs;obtain⟨y,H1,g,j,k⟩:=a;exact gE g c hi d j (fun n l=>⟨_,H1,l,k⟩) f
def HW(i j:Nat)(a:TA):TS:=fun D σ H=>a σ H fun vs H1=>∃v w,vs=[v,w]/\D.nx ((σ.set i (MA v)).set j (MA w)) H1
theorem DX{i j:Nat}{x y:Str}{a b:Expr}{C:TA}{l m pt:Pos}{n r d}(K:X.calm=MC)(E:X.N.Nodup)(hi:X.N[i]?=MA x)(L:X.N[j]?=MA y)(t:i≠j)
 (F:X.env.scope.names.lookup x=MA .local) (G:X.env.scope.names.lookup y=MA .local) (M:PA X [a,b] C)
 (hw:swappedStores [.Tuple [.Name x l,.Name y m] n pt] (.Tuple [a,b] r d) X.env=pure (MA [x,y]))
 (hs:swapsWithSole [.Tuple [.Name x l,.Name y m] n pt] (.Tuple [a,b] r d) pos.line X.env=pure MD:=by rfl) :
 PS X (.Assign [.Tuple [.Name x l,.Name y m] n pt] (.Tuple [a,b] r d) pos) (HW i j C):=by
 intro MP s σ H D I h
 rw[exec_Assign_arm]
 refine cc (KQ ?_)
 rw[hs]
 refine cc (IX ?_)
 rw[ME (by decide)]
 refine cc (Tuple_ (NQ (M _ MP s σ H _ I h) fun us f c=>?_))
 obtain⟨vs,H1,O,P,u⟩:=c
 obtain⟨v,w,e1,u⟩:=u
 subst e1
 obtain⟨g,k,rfl,Q,z⟩:∃g k,us=[g,k]/\RelV v g/\RelV w k:=by
  cases P with
  |cons p q=>
   cases q with
   |cons R S=>
    cases S
    exact⟨_,_,rfl,p,R⟩
 refine JG ?_ (by show 2<=Jb;decide)
 have T:Inv X MP σ H1 { f with heap:=f.heap.push { cls:=.type "tuple",data:=.seq [g,k].toArray } }:=O.kept (t':=f.toks) fun b o e=>J3 _ e
 rw[hw]
 refine cc (IX ?_)
 show J7 (Jg X.prog X.w) X.A (do rule "assign.swapped-stores";let items <-unpackItems (.ref f.heap.objs.size) 2 MB;assignInOrder [fun v=>bindName X.env y v,fun v=>bindName X.env x v] items.reverse;pure Flow.next) _ _ _
 refine cc (wpAny_rule (cc (unpackItems_tuple (items:=#[g,k]) (I.ok.hd K) (IsTup.new f.heap _) fun h' B=>?_)))
 have U:=T.kept (h':=h') (t':=f.toks) fun b o e=>B b o (JK (Jc e)) e
 show J7 _ _ (assignInOrder [fun v=>bindName X.env y v,fun v=>bindName X.env x v] [k,g] >>= fun _=>pure Flow.next) _ _ _
 refine cc (assignInOrder_cons (wpAny_bindName (gE U E L (.inl G) z (fun W V=>?_) (.inr G))))
 refine assignInOrder_cons (wpAny_bindName (gE V E hi (.inl F) Q (fun Y J=>assignInOrder_nil (IX ?_)) (.inr F)))
 rw[List.set_comm _ _ (Ne.symm t)]at J
 exact⟨_,H1,J,u⟩
def Ic(i:Nat)(te:TE)(a:VM):TS:=fun D σ H=>∃x,σ[i]?=MA (MA x)/\te σ H fun y H1=>a x y H1 fun z b=>D.nx (σ.set i (MA z)) b
theorem C9{i:Nat}{x:Str}{e:Expr}{te:TE}{op:Operator}{q:VM}{g:Pos}(t:X.N.Nodup)(hi:X.N[i]?=MA x)(o:Loc X.env.scope x)(he:PE X e te)(B:VO X op q)(C:X.fn x=MC\/X.env.scope.names.lookup x=MA .local:=by first|exact .inl rfl|exact .inr rfl|assumption) :
 PS X (.AugAssign (.Name x g) op e pos) (Ic i te q):=by
 intro MP s σ H D I h
 obtain⟨v,e1,h⟩:=h
 obtain⟨m,E,F⟩:=I.loc
 have p:Uw X.env.scope x:=by rcases o with k|k;exact .inl k;exact .inr (.inl k)
 obtain⟨u,r,l⟩:=F i x v hi e1 p
 refine wpAny_AugAssign_Name ?_
 have go:J7 (Jg X.prog X.w) X.A (eval e X.env) (fun w j=>J7 (Jg X.prog X.w) X.A (inplaceOp op u w) (fun r n=>J7 (Jg X.prog X.w) X.A (storeName X.env x r) (fun _=>SP X MP D .next) X.xe n) X.xe j) X.xe s:=by
  refine NQ (he MP s σ H _ I h) fun w G a=>?_
  obtain⟨y,H1,J,K,L⟩:=a
  refine NQ (B MP G σ H1 v y u w _ J r K L) fun z U b=>?_
  obtain⟨V,M,O,P,Q⟩:=b
  exact gE O t hi o P (fun W R=>⟨_,M,R,Q⟩) C
 rcases l with⟨d,S⟩|⟨d,c,T,f⟩
 ·exact wpAny_loadName_local I.ok.kind d E S go
 ·rcases d with d|d
  ·exact wpAny_loadName_cell I.ok.kind d T f go
  ·rcases o with k|k
   ·have:X.env.scope.names.lookup x=MA .free:=d
    rw[k]at this;cases this
   ·have:X.env.scope.names.lookup x=MA .free:=d
    rw[k]at this;cases this
def XA(f:Int->Int->Int):VM:=fun x y H Q=>∃i j,x=.int i/\y=.int j/\Q (.int (f i j)) H
theorem EB:VO X .Add (XA fun i j=>i+j):=by intro MP s σ H x y v u Q I a b h;obtain⟨i,j,e1,e2,q⟩:=h;subst e1;subst e2;obtain⟨t,rfl⟩:=a;obtain⟨c,rfl⟩:=b;exact iadd_int ⟨.int _,H,I.tok _,⟨_,rfl⟩,q⟩
theorem Dp:VO X .Sub (XA fun i j=>i-j):=by intro MP s σ H x y v u Q I a b h;obtain⟨i,j,e1,e2,q⟩:=h;subst e1;subst e2;obtain⟨t,rfl⟩:=a;obtain⟨c,rfl⟩:=b;exact isub_int ⟨.int _,H,I.tok _,⟨_,rfl⟩,q⟩
end
section
variable{X:Cx}{pos:Pos}
def DN(c:TT)(f:TS):TS:=fun D σ H=>∃W:Nat->St->Hp->Prop,(∃m,W m σ H)/\∀m σ H,W m σ H->
 c σ H fun b H1=>if b=MC then ∃N:St->Hp->Prop,(∀a d,N a d->∃e,e<m/\W e a d)/\f { D with nx:=N,ct:=N,bk:=D.nx } σ H1 else D.nx σ H1
theorem xZ{c:Expr}{body:List Stmt}{tc:TT}{t:TS}(u:PassesOwn (Jg X.prog X.w) X.A X.env X.xe)(C:PT X c tc)(E:PR X body t):PS X (.While c body [] pos) (DN tc t):=by
 intro MP s σ H D I h;obtain⟨W,⟨F,G⟩,g⟩:=h;refine wpAny_While (codeAny_whileLoop (fun n J=>∃i x,Inv X MP i x J/\W n i x) ?_ F ⟨σ,H,I,G⟩);rintro n K ⟨d,H1,L,M⟩;refine Me u (NQ (C MP K d H1 _ L (g n d H1 M)) fun b O e=>?_);obtain⟨y,z,k⟩:=e;cases b with
 |true=>
  obtain⟨N,B,k⟩:=k
  rw[MF rfl]
  refine Me u (NQ (E MP O d y _ z k) fun f P l=>?_)
  cases f with
  |next=>
   obtain⟨a,j,m,o⟩:=l
   obtain⟨p,q,r⟩:=B a j o
   exact⟨p,q,a,j,m,r⟩
  |cont=>
   obtain⟨a,j,m,o⟩:=l
   obtain⟨p,q,r⟩:=B a j o
   exact⟨p,q,a,j,m,r⟩
  |brk=>exact l
  |ret v=>exact l
 |false=>
  rw[ME Jf]
  exact wpAny_execs_nil ⟨d,y,z,k⟩
end
structure It where
 go:Nat->Hp->Prop
 yld:Nat->Hp->V->Hp->Prop
 stop:Nat->Hp->Prop
def cX(X:Cx)(MP:List (Addr×Obj))(H:Hp)(b:Addr):Prop:=
 H b=MB/\b≠X.env.locals/\b∉X.fs/\(b∈X.ex\/X.s₀.heap.objs.size<=b)/\(∀x c,X.env.cells.lookup x=MA c->c≠b)/\∀p∈X.pn++MP,p.1≠b
theorem Inv.sU{X:Cx}{MP:List (Addr×Obj)}{σ:St}{H d:Hp}{s:IY}{b:Addr}(I:Inv X MP σ H s)(a:s.heap.objs.size<=b)(f:d b=MB):cX X MP d b:=by
 refine⟨f,Nat.ne_of_gt (Ju I.lt a),I.HX a,.inr (Ke I.sz a),fun x c e z=>?_,fun p g z=>?_⟩
 ·obtain⟨v,q⟩:=I.cell x c e;exact absurd (Ju q.lt (by rw[z];exact a)) (LI _)
 ·exact absurd (Ju (Jc (I.pin p g).1) (by rw[z];exact a)) (LI _)
structure Turn(P:Jl)(w:JL)(K:IW)(tg:Expr)(J:It)(fp:List Addr)(it:Addr)(tn:Nat->Heap->Prop):Prop where
 mem:it∈fp
 obj:∀i h,tn i h->∀b∈fp,∃o,h.get? b=MA o/\∀v,o.data≠.cell v
 keep:∀i h h',tn i h->(∀b∈fp,∀o,h.get? b=MA o->h'.get? b=MA o)->tn i h'
 item:∀(X:Cx),X.prog=P->X.w=w->X.K=K->X.calm=MC->∀(i:Nat) (MP:List (Addr×Obj)) (s:IY) (σ:St) (H:Hp) (E:I0->IY->Prop),Inv X MP σ H s->(∀b∈fp,cX X MP H b)->tn i s.heap->J.go i H->
  J7 (Jg P w) X.A (Mu (.ref it)) (fun r s1=>∃u,r=MA u/\
   J7 (Jg P w) X.A (Lc tg (.ref it) u) (fun _ s2=>∃x H',Inv X MP σ H' s2/\RelV x u/\J.yld i H x H'/\tn (i+1) s2.heap/\∀b∈fp,H' b=MB) E s1) E s
 done:∀(X:Cx),X.prog=P->X.w=w->X.K=K->X.calm=MC->∀(i:Nat) (MP:List (Addr×Obj)) (s:IY) (σ:St) (H:Hp) (E:I0->IY->Prop),Inv X MP σ H s->(∀b∈fp,cX X MP H b)->tn i s.heap->J.stop i H->
  J7 (Jg P w) X.A (Mu (.ref it)) (fun r s1=>r=MB/\Inv X MP σ H s1) E s
 self:∀(A:JQ) (i:Nat) (s:IY) (Q:I0->IY->Prop) (E:I0->IY->Prop),tn i s.heap->Q (.ref it) s->J7 (Jg P w) A (pyIter (.ref it)) Q E s
abbrev TI:=St->Hp->(It->Hp->Prop)->Prop
def XZ(X:Cx)(MP:List (Addr×Obj))(σ:St)(tg:Expr)(R:It->Hp->Prop)(a:I0)(d:IY):Prop:=
 ∃(it:Addr) (fp:List Addr) (tn:Nat->Heap->Prop) (J:It) (c:Hp),a=.ref it/\Inv X MP σ c d/\Turn X.prog X.w X.K tg J fp it tn/\tn 0 d.heap/\(∀b∈fp,cX X MP c b)/\R J c
def PI(X:Cx)(tg a:Expr)(b:TI):Prop:=
 ∀(MP:List (Addr×Obj)) (s:IY) (σ:St) (H:Hp) (R:It->Hp->Prop),Inv X MP σ H s->b σ H R->
  J7 (Jg X.prog X.w) X.A (eval a X.env) (fun v c=>J7 (Jg X.prog X.w) X.A (pyIter v) (XZ X MP σ tg R) X.xe c) X.xe s
theorem xy{M:Model}{A:JQ}{E:I0->IY->Prop}{s:IY}{tg:Expr}{it:Addr}{u:I0}{o:Obj}{n:String}{vs:Array I0}{Q:Unit->IY->Prop}(b:s.heap.get? it=MA o)(c:o.cls=.type n)(hd:o.data=.fields vs) (d:["enumerate","zip","dict_itemiterator","dict_reverseitemiterator","odict_iterator","itertools.zip_longest","itertools.pairwise"].contains n=MD) (a:Q () s):J7 M A (Lc tg (.ref it) u) Q E s:=by
 unfold Lc
 cases tg<;>first
  |exact IX a
  |(cases u<;>first
   |exact IX a
   |(refine cc (wpAny_load b ?_)
     rw[c,hd]
     show J7 M A (if(["enumerate","zip","dict_itemiterator","dict_reverseitemiterator","odict_iterator","itertools.zip_longest","itertools.pairwise"].contains n&&vs[0]?==MA (Md _))=MC then _ else _) Q E s
     rw[ME (by intro h;rw[d,K5]at h;cases h)]
     exact IX a))
def X3(K:IW)(a:Addr):It:=
 ⟨fun i H=>∃xs x,NZ K H a xs/\xs[i]?=MA x,fun i H x b=>b=H/\∀xs,NZ K H a xs->xs[i]?=MA x,fun i H=>∃xs,NZ K H a xs/\xs.length<=i⟩
def X2(K:IW)(a:Addr):It:=
 ⟨fun i H=>∃xs x,N1 K H a xs/\xs[i]?=MA x,fun i H x b=>b=H/\∀xs,N1 K H a xs->xs[i]?=MA x,fun i H=>∃xs,N1 K H a xs/\xs.length<=i⟩
def SG(lo:Int)(n:Nat):It:=⟨fun i _=>i<n,fun i H x a=>a=H/\x=.int (lo+i),fun i _=>n<=i⟩
theorem vV{P:Jl}{w:JL}{K:IW}{tg:Expr}(a it:Addr):Turn P w K tg (X3 K a) [it] it (fun i h=>h.IsListIter it a i) where
 mem:=by simp
 obj:=fun i h st b f=>by
  have e:b=it:=by simpa using f
  subst e
  obtain⟨o,e,c,d⟩:=st
  exact⟨o,e,fun v z=>by rw[d]at z;cases z⟩
 keep:=fun i h j st k=>st.at fun o e=>k it (by simp) o e
 item:=by
  intro X n q r L i MP s σ H E I l st t
  subst n q r
  obtain⟨xs,x,m,y⟩:=t
  obtain⟨A,B,p,M⟩:=I.list m
  obtain⟨u,N,O⟩:=B.get y
  obtain⟨C,D,Q,F,G,J⟩:=l it (by simp)
  refine wpAny_pyNext_list_item st p.isList (x:=u) (by simpa using N) fun j g R=>?_
  have S:Inv X MP σ H { s with heap:=j }:=I.turned (t':=s.toks) (fun b o f e=>(R.2 b f).trans e) C D F G J
  obtain⟨o,e,c,d⟩:=id g
  exact⟨u,rfl,xy (s:={ s with heap:=j }) e c d (by decide) ⟨x,H,S,O,⟨rfl,fun U T=>by rw[I.iW T m];exact y⟩,g,fun b f=>(l b f).1⟩⟩
 done:=by
  intro X n q r L i MP s σ H E I l st t
  subst n q r
  obtain⟨xs,m,y⟩:=t
  obtain⟨A,B,p,M⟩:=I.list m
  obtain⟨C,D,Q,F,G,J⟩:=l it (by simp)
  have V:=B.length
  exact wpAny_pyNext_list_end (I.ok.hd L) st p.isList (by simp;omega) fun j eb=>⟨rfl,I.turned (t':=s.toks) (fun b o f e=>eb b o f e) C D F G J⟩
 self:=fun _ _ _ _ _ st h=>wpAny_pyIter_listiter st h
theorem rX{P:Jl}{w:JL}{K:IW}{tg:Expr}(a it:Addr):Turn P w K tg (X2 K a) [it] it (fun i h=>h.IsTupleIter it a i) where
 mem:=by simp
 obj:=fun i h st b f=>by
  have e:b=it:=by simpa using f
  subst e
  obtain⟨o,e,c,d⟩:=st
  exact⟨o,e,fun v z=>by rw[d]at z;cases z⟩
 keep:=fun i h l st k=>st.at fun o e=>k it (by simp) o e
 item:=by
  intro X q r t L i MP s σ H E I m st y
  subst q r t
  obtain⟨xs,x,n,A⟩:=y
  obtain⟨g,B,p,M⟩:=I.tuple n
  obtain⟨u,N,O⟩:=B.get A
  obtain⟨C,D,Q,F,G,J⟩:=m it (by simp)
  refine wpAny_pyNext_tuple_item st (show s.heap.IsTuple a g.toArray from p) (x:=u) (by simpa using N) fun l j R=>?_
  have S:Inv X MP σ H { s with heap:=l }:=I.turned (t':=s.toks) (fun b o f e=>(R.2 b f).trans e) C D F G J
  obtain⟨o,e,c,d⟩:=id j
  exact⟨u,rfl,xy (s:={ s with heap:=l }) e c d (by decide) ⟨x,H,S,O,⟨rfl,fun U T=>by rw[I.vC T n];exact A⟩,j,fun b f=>(m b f).1⟩⟩
 done:=by
  intro X q r t L i MP s σ H E I m st y
  subst q r t
  obtain⟨xs,n,A⟩:=y
  obtain⟨g,B,p,M⟩:=I.tuple n
  obtain⟨C,D,Q,F,G,J⟩:=m it (by simp)
  have V:=B.length
  exact wpAny_pyNext_tuple_end (I.ok.hd L) st (show s.heap.IsTuple a g.toArray from p) (by simp;omega) fun l eb=>⟨rfl,I.turned (t':=s.toks) (fun b o f e=>eb b o f e) C D F G J⟩
 self:=fun _ _ _ _ _ st h=>wpAny_pyIter_tupleiter st h
theorem tU{P:Jl}{w:JL}{K:IW}{tg:Expr}(it:Addr)(lo:Int)(n:Nat):Turn P w K tg (SG lo n) [it] it (fun i h=>IsRangeIter h it (lo+(i:Nat)*1) ((n:Int)-(i:Nat)) 1) where
 mem:=by simp
 obj:=fun i h st b a=>by
  have e:b=it:=by simpa using a
  subst e
  exact⟨_,st,fun v z=>by
   have B:Data.fields _=Data.cell v:=z
   cases B⟩
 keep:=fun i h d st k=>k it (by simp) _ st
 item:=by
  intro X g j l m i MP s σ H E I f st p
  subst g j l
  obtain⟨q,r,C,u,x,y⟩:=f it (by simp)
  have W:=Walks.range (prog:=X.prog) (w:=X.w) (I.ok.hd m) it lo 1 n
  refine W.item i s _ _ p st fun v d A D c F=>?_
  obtain⟨t,rfl⟩:=D
  have G:Inv X MP σ H { s with heap:=d,toks:=A }:=I.turned (fun b o a e=>F b o (by simpa using a) e) q r u x y
  refine⟨_,rfl,xy (s:={ s with heap:=d,toks:=A }) (n:="range_iterator") c rfl rfl (by decide) ⟨.int (lo+i),H,G,⟨t,?_⟩,⟨rfl,rfl⟩,c,fun b a=>(f b a).1⟩⟩
  rw[Int.mul_one]
 done:=by
  intro X g j l m i MP s σ H E I f st p
  subst g j l
  obtain⟨q,r,C,u,x,y⟩:=f it (by simp)
  exact wpAny_pyNext_range_end (I.ok.hd m) st (by have:n<=i:=p;omega) fun d eb=>⟨rfl,I.turned (t':=s.toks) (fun b o a e=>eb b o a e) q r u x y⟩
 self:=fun _ _ _ _ _ st h=>wpAny_pyIter_rangeiter st h
section
variable{X:Cx}{tg:Expr}
theorem xY{MP:List (Addr×Obj)}{σ:St}{H:Hp}{s:IY}{R:It->Hp->Prop}{E:I0->IY->Prop}{lo hi:Int}{t u v:Tok}{tk:Nat}(I:Inv X MP σ H s)(c:-(2^62)<=lo)(d:lo<2^62)(f:-(2^62)<=hi)(g:hi<2^62)
 (q:R (SG lo (hi-lo).toNat) H):J7 (Jg X.prog X.w) X.A (pyIter (.ref s.heap.objs.size)) (XZ X MP σ tg R) E { s with heap:=s.heap.push { cls:=.type "range",data:=.fields #[.int lo t,.int hi u,.int 1 v] },toks:=tk }:=by
 refine wpAny_pyIter_range (IsRange.new ..) (small_one c d f g) ?_
 have a:Inv X MP σ H { s with heap:=s.heap.push { cls:=.type "range",data:=.fields #[.int lo t,.int hi u,.int 1 v] },toks:=tk }:=I.kept fun b o e=>J3 _ e
 refine⟨(s.heap.push { cls:=.type "range",data:=.fields #[.int lo t,.int hi u,.int 1 v] }).objs.size,[(s.heap.push { cls:=.type "range",data:=.fields #[.int lo t,.int hi u,.int 1 v] }).objs.size],_,_,H,rfl,
  a.kept (t':=tk) fun b o e=>J3 _ e,tU _ lo (hi-lo).toNat,?_,fun b h=>?_,q⟩
 ·have e1:lo+((0:Nat):Int)*1=lo:=by simp
  have e2:(((hi-lo).toNat:Nat):Int)-((0:Nat):Int)=Builtin.Range.rangeSize lo hi 1:=by rw[rangeSize_one];split<;>omega
  show IsRangeIter _ _ (lo+((0:Nat):Int)*1) ((((hi-lo).toNat:Nat):Int)-((0:Nat):Int)) 1
  rw[e1,e2]
  exact J8 _ rfl
 ·have e:b=(s.heap.push { cls:=.type "range",data:=.fields #[.int lo t,.int hi u,.int 1 v] }).objs.size:=by simpa using h
  subst e
  exact a.sU (J1 _) (a.hok.fresh (J1 _))
def Hy(a:TA):TI:=fun σ H R=>a σ H fun vs H1=>∃j:Int,vs=[.int j]/\-(2^62)<=j/\j<2^62/\R (SG 0 j.toNat) H1
theorem wa{a:Expr}{d:TA}{p pos:Pos}(f:Gl X "range")(g:X.mg "range"=MB)(i:PA X [a] d)(hs:Jd [a] X.env=[(MD,eval a X.env)]:=by rfl):PI X tg (.Call (.Name "range" p) [a] [] pos) (Hy d):=by
 intro MP s σ H R I h;refine Call_ (jj I f g boot_range (LD (NQ (i pos MP s σ H _ I h) fun us o b=>?_) hs rfl));obtain⟨vs,H1,k,l,c⟩:=b;obtain⟨j,e,c,m,q⟩:=c;subst e;cases l with
 |cons r n=>
  cases n
  obtain⟨t,rfl⟩:=r
  exact call_range_1 (xY k (by omega) (by omega) c m (by simpa using q))
def Iy(e:TI)(g:TG)(f:TS):TS:=fun D σ H=>e σ H fun J H1=>∃W:Nat->Nat->St->Hp->Prop,(∃m,W 0 m σ H1)/\∀i m σ H,W i m σ H->
 (J.stop i H/\D.nx σ H)\/(J.go i H/\∃N:St->Hp->Prop,(∀a b,N a b->∃d,d<m/\W (i+1) d a b)/\∀x b,J.yld i H x b->g x σ b fun c h=>f { D with nx:=N,ct:=N,bk:=D.nx } c h)
def gH(fp:List Addr)(h:Heap):List (Addr×Obj):=fp.filterMap fun b=>(h.get? b).map fun o=>(b,o)
theorem bI{fp:List Addr}{h:Heap}{b:Addr}{o:Obj}(a:b∈fp)(e:h.get? b=MA o):(b,o)∈gH fp h:=List.mem_filterMap.mpr ⟨b,a,by rw[e];rfl⟩
theorem wA{fp:List Addr}{h:Heap}{p:Addr×Obj}(a:p∈gH fp h):p.1∈fp/\h.get? p.1=MA p.2:=by
 obtain⟨b,c,e⟩:=List.mem_filterMap.mp a;cases q:h.get? b with
 |none=>rw[q]at e;cases e
 |some o=>
  rw[q]at e
  have d:(b,o)=p:=Option.some.inj e
  subst d
  exact⟨c,q⟩
theorem Inv.pinned{MP:List (Addr×Obj)}{σ:St}{H:Hp}{s:IY}{fp:List Addr}(I:Inv X MP σ H s)(f:∀b∈fp,cX X MP H b)(g:∀b∈fp,∃o,s.heap.get? b=MA o/\∀v,o.data≠.cell v):Inv X (MP++gH fp s.heap) σ H s:=
 I.t5 fun p h=>(Jo.mp h).elim (fun z=>I.pin p (Ji _ z)) fun z=>by
  obtain⟨a,e⟩:=wA z
  obtain⟨i,j,k,_⟩:=f p.1 a
  obtain⟨o,c,d⟩:=g p.1 a
  rw[e]at c;cases c
  exact⟨e,i,j,k,d⟩
theorem Inv.d3{MP pl:List (Addr×Obj)}{σ:St}{H:Hp}{s:IY}(I:Inv X (MP++pl) σ H s):Inv X MP σ H s:=I.t5 fun p a=>I.pin p (Ji _ (List.mem_append_left _ a))
theorem zJ{c:Expr}{body:List Stmt}{Y:TI}{g:TG}{Z:TS}{pos:Pos}(K:PassesOwn (Jg X.prog X.w) X.A X.env X.xe)(hc:X.calm=MC)(hi:PI X tg c Y)(hg:PG X tg g)(j:PR X body Z)
 (hs:∀x,JH c X.env x=pure x:=by intro _;rfl):PS X (.For tg c body [] pos) (Iy Y g Z):=by
 intro MP s σ H D I h
 refine wpAny_For (NQ (hi MP s σ H _ I h) fun v s1 h1=>NQ h1 fun a0 s2 h2=>?_) hs
 obtain⟨it,fp,tn,J,H2,e,I2,T,SW,f2,W,⟨m0,w0⟩,L⟩:=h2
 subst e
 have k:∀{z:Hp},(∀b∈fp,z b=MB)->∀b∈fp,cX X MP z b:=fun hn b j=>⟨hn b j,(f2 b j).2⟩
 refine codeAny_forLoop_any (fun n s'=>∃i l z,Inv X MP l z s'/\tn i s'.heap/\(∀b∈fp,z b=MB)/\W i n l z) ?_ m0 ⟨0,σ,H2,I2,SW,fun b j=>(f2 b j).1,w0⟩
 rintro n s3 ⟨i,p,P,I3,SR,M,w3⟩
 rcases L i n p P w3 with⟨stop,qn⟩|⟨go,N,hN,step⟩
 ·refine Me K (NQ (T.done X rfl rfl rfl hc i MP s3 p P X.xe I3 (k M) SR stop) fun r s4 B=>?_)
  obtain⟨Q,I4⟩:=B
  subst Q
  exact wpAny_execs_nil ⟨p,P,I4,qn⟩
 ·refine Me K (NQ (T.item X rfl rfl rfl hc i MP s3 p P X.xe I3 (k M) SR go) fun r s4 C=>?_)
  obtain⟨u,Q,h4⟩:=C
  subst Q
  refine Me K (NQ h4 fun _ s5 E=>?_)
  obtain⟨x,H5,I5,r5,y5,Oc,R⟩:=E
  have S:=I5.pinned (k R) (T.obj _ _ Oc)
  refine Me K (NQ (hg _ s5 p H5 x u _ S r5 (step x H5 y5)) fun _ s6 F=>?_)
  obtain⟨U,H6,I6,q6⟩:=F
  refine Me K (NQ (j _ s6 U H6 _ I6 q6) fun f V G=>?_)
  have q:∀{a:St} {t:Hp},Inv X (MP++gH fp s5.heap) a t V->N a t->∃m,m<n/\∃i l z,Inv X MP l z V/\tn i V.heap/\(∀b∈fp,z b=MB)/\W i m l z:=fun{a t} y O=>by
   obtain⟨m',hm,w7⟩:=hN a t O
   refine⟨m',hm,i+1,a,t,y.d3,T.keep _ _ _ Oc fun b j o e=>(y.pin (b,o) (Ji _ (Ji _ (bI j e)))).1,fun b j=>?_,w7⟩
   obtain⟨o,e,d⟩:=T.obj _ _ Oc b j
   exact(y.pin (b,o) (Ji _ (Ji _ (bI j e)))).2.1
  cases f with
  |next=>obtain⟨a,t,y,O⟩:=G;exact q y O
  |cont=>obtain⟨a,t,y,O⟩:=G;exact q y O
  |brk=>obtain⟨a,t,y,G⟩:=G;exact⟨a,t,y.d3,G⟩
  |ret v=>obtain⟨x7,a,t,y,r7,G⟩:=G;exact⟨x7,a,t,y.d3,r7,G⟩
end
theorem vW{lo:Int}{n:Nat}{g:TG}{j:TS}{D:Ends}{σ:St}{H:Hp}(a:Nat->St->Hp->Prop)(l:a 0 σ H)
 (hs:∀i σ H,i<n->a i σ H->g (.int (lo+i)) σ H fun b h=>j { D with nx:=a (i+1),ct:=a (i+1),bk:=D.nx } b h) (hd:∀σ H,a n σ H->D.nx σ H) :
 ∃W:Nat->Nat->St->Hp->Prop,(∃m,W 0 m σ H)/\∀i m σ H,W i m σ H->
  ((SG lo n).stop i H/\D.nx σ H)\/((SG lo n).go i H/\∃N:St->Hp->Prop,(∀c d,N c d->∃k,k<m/\W (i+1) k c d)/\∀x d,(SG lo n).yld i H x d->g x σ d fun b h=>j { D with nx:=N,ct:=N,bk:=D.nx } b h):=by
 refine⟨fun i m σ H=>m=n-i/\i<=n/\a i σ H,⟨n,by simp,Kb _,l⟩,?_⟩
 rintro i m σ H ⟨rfl,hi,p⟩
 by_cases f:i<n
 ·refine .inr ⟨f,a (i+1),fun c d o=>⟨n-(i+1),by omega,rfl,f,o⟩,fun x d y=>?_⟩
  obtain⟨e,y⟩:=y
  subst e y
  exact hs i σ _ f p
 ·have e:i=n:=by omega
  subst e
  exact .inl ⟨J1 _,hd σ H p⟩
abbrev R2:=V->V->Hp->VK->Prop
def Ni(X:Cx)(f:I0->I0->Sem I0)(r:R2):Prop:=
 ∀(MP:List (Addr×Obj)) (s:IY) (σ:St) (H:Hp) (x y:V) (v u:I0) (Q:VK),Inv X MP σ H s->RelV x v->RelV y u->r x y H Q->
  J7 (Jg X.prog X.w) X.A (f v u) (EP X MP σ Q) X.xe s
def Ux(X:Cx)(f:I0->Sem I0)(r:V->Hp->VK->Prop):Prop:=
 ∀(MP:List (Addr×Obj)) (s:IY) (σ:St) (H:Hp) (x:V) (v:I0) (Q:VK),Inv X MP σ H s->RelV x v->r x H Q->
  J7 (Jg X.prog X.w) X.A (f v) (EP X MP σ Q) X.xe s
def bO(X:Cx)(f:I0)(r:List V->Hp->VK->Prop):Prop:=
 ∀(MP:List (Addr×Obj)) (s:IY) (σ:St) (H:Hp) (xs:List V) (us:List I0) (Q:VK),Inv X MP σ H s->Vals xs us->r xs H Q->
  J7 (Jg X.prog X.w) X.A (call f us) (EP X MP σ Q) X.xe s
def IS(X:Cx)(r:V->Hp->(Bool->Hp->Prop)->Prop):Prop:=
 ∀(MP:List (Addr×Obj)) (s:IY) (σ:St) (H:Hp) (x:V) (v:I0) (Q:Bool->Hp->Prop),Inv X MP σ H s->RelV x v->r x H Q->
  J7 (Jg X.prog X.w) X.A (truthy v) (TP X MP σ Q) X.xe s
def SJ(r:R2)(a b:TE):TE:=fun σ H Q=>a σ H fun x H1=>b σ H1 fun y c=>r x y c Q
def Xj(r:V->Hp->VK->Prop)(a:TE):TE:=fun σ H Q=>a σ H fun x H1=>r x H1 Q
def rI(C:Int->Int->Prop)(g:Int->Int->V):R2:=fun x y H Q=>∃i j,x=.int i/\y=.int j/\C i j/\Q (g i j) H
def Qm(g:Int->Int->V):R2:=fun x y H Q=>∃i j,x=.int i/\y=.int j/\Q (g i j) H
def rU(g:Int->V):V->Hp->VK->Prop:=fun x H Q=>∃i,x=.int i/\Q (g i) H
section
variable{X:Cx}{a b c:Expr}{ta tb tc:TE}{pos:Pos}
theorem EK(l:PE X a ta)(m:PE X b tb){MP:List (Addr×Obj)}{s:IY}{σ:St}{H:Hp}{R:V->V->Hp->Prop}(I:Inv X MP σ H s) (h:ta σ H fun x H1=>tb σ H1 fun y g=>R x y g) {Q:I0->IY->Prop} {f:I0->I0->Sem I0} (n:∀v u k x y g,Inv X MP σ g k->RelV x v->RelV y u->R x y g->J7 (Jg X.prog X.w) X.A (f v u) Q X.xe k) : J7 (Jg X.prog X.w) X.A (eval a X.env) (fun v i=>J7 (Jg X.prog X.w) X.A (eval b X.env) (fun u j=>J7 (Jg X.prog X.w) X.A (f v u) Q X.xe j) X.xe i) X.xe s:=by refine NQ (l MP s σ H _ I h) fun v o d=>?_;obtain⟨x,H1,p,q,r⟩:=d;refine NQ (m MP o σ H1 _ p r) fun u k e=>?_;obtain⟨y,g,t,z,B⟩:=e;exact n v u k x y g t q z B
theorem GH{op:Operator}{r:R2}(d:Ni X (Le op) r)(e:PE X a ta)(f:PE X b tb):PE X (.BinOp a op b pos) (SJ r ta tb):=by intro MP s σ H Q I h;exact wpAny_BinOp (EK e f I h fun v u g x y i j k l q=>d MP g σ i x y v u Q j k l q)
theorem Hz{op:UnaryOp}{r:V->Hp->VK->Prop}(e:Ux X (unaryOp op) r)(f:PE X a ta):PE X (.UnaryOp op a pos) (Xj r ta):=by intro MP s σ H Q I h;exact UnaryOp_ (NQ (f MP s σ H _ I h) fun v g d=>by obtain⟨x,H1,i,j,k⟩:=d;exact(e MP g σ H1 x v Q i j k))
theorem VJ{f:I0->I0->Sem I0}{C:Int->Int->Prop}{g:Int->Int->Int} (d:∀(i j:Int) (t u:Tok) (s:IY) (Q:I0->IY->Prop) (E:I0->IY->Prop),C i j->Q (.int (g i j) s.toks) { s with toks:=s.toks+1 }->J7 (Jg X.prog X.w) X.A (f (.int i t) (.int j u)) Q E s) : Ni X f (rI C fun i j=>.int (g i j)):=by intro MP s σ H x y v u Q I e k h;obtain⟨i,j,rfl,rfl,l,q⟩:=h;obtain⟨t,rfl⟩:=e;obtain⟨m,rfl⟩:=k;exact d i j t m s _ _ l ⟨.int (g i j),H,I.tok _,⟨_,rfl⟩,q⟩
theorem D3{f:I0->I0->Sem I0}{g:Int->Int->Int} (d:∀(i j:Int) (t u:Tok) (s:IY) (Q:I0->IY->Prop) (E:I0->IY->Prop),Q (.int (g i j) s.toks) { s with toks:=s.toks+1 }->J7 (Jg X.prog X.w) X.A (f (.int i t) (.int j u)) Q E s) : Ni X f (Qm fun i j=>.int (g i j)):=by intro MP s σ H x y v u Q I e k h;obtain⟨i,j,rfl,rfl,q⟩:=h;obtain⟨t,rfl⟩:=e;obtain⟨l,rfl⟩:=k;exact d i j t l s _ _ ⟨.int (g i j),H,I.tok _,⟨_,rfl⟩,q⟩
theorem BC{f:I0->I0->Sem I0}{g:Int->Int->Bool} (d:∀(i j:Int) (t u:Tok) (s:IY) (Q:I0->IY->Prop) (E:I0->IY->Prop),Q (.bool (g i j)) s->J7 (Jg X.prog X.w) X.A (f (.int i t) (.int j u)) Q E s) : Ni X f (Qm fun i j=>.bl (g i j)):=by intro MP s σ H x y v u Q I e k h;obtain⟨i,j,rfl,rfl,q⟩:=h;obtain⟨t,rfl⟩:=e;obtain⟨l,rfl⟩:=k;exact d i j t l s _ _ ⟨.bl (g i j),H,I,rfl,q⟩
def FE(i j:Int):Prop:=0<=j/\j<=1000000/\i.natAbs<2^64
theorem CV:Ni X (Le .Add) (Qm fun i j=>.int (i+j)):=D3 fun _ _ _ _ _ _ _ q=>add_int q
theorem Fm:Ni X (Le .Sub) (Qm fun i j=>.int (i-j)):=D3 fun _ _ _ _ _ _ _ q=>sub_int q
theorem AL:Ni X (Le .Mod) (rI (fun _ j=>j≠0) fun i j=>.int (i.fmod j)):=VJ fun _ _ _ _ _ _ _ d q=>mod_int' d q
theorem EO:Ni X (Le .Pow) (rI FE fun i j=>.int (i^j.toNat)):=VJ fun _ _ _ _ _ _ _ d q=>pow_int_small d.1 d.2.1 d.2.2 q
theorem Dj:Ni X (Le .BitXor) (Qm fun i j=>.int (Builtin.bitXor i j)):=D3 fun _ _ _ _ _ _ _ q=>xor_int q
theorem Xb{f:I0->Sem I0}{g:Int->Int} (d:∀(i:Int) (t:Tok) (s:IY) (Q:I0->IY->Prop) (E:I0->IY->Prop),Q (.int (g i) s.toks) { s with toks:=s.toks+1 }->J7 (Jg X.prog X.w) X.A (f (.int i t)) Q E s) : Ux X f (rU fun i=>.int (g i)):=by intro MP s σ H x v Q I e h;obtain⟨i,rfl,q⟩:=h;obtain⟨t,rfl⟩:=e;exact d i t s _ _ ⟨.int (g i),H,I.tok _,⟨_,rfl⟩,q⟩
theorem Fs:Ux X (unaryOp .USub) (rU fun i=>.int (-i)):=Xb fun _ _ _ _ _ q=>neg_int q
end
section
variable{X:Cx}{a b c:Expr}{ta tb tc:TE}{pos:Pos}
theorem GJ:Ni X (JN .Lt) (Qm fun i j=>.bl (decide (i<j))):=BC fun _ _ _ _ _ _ _ q=>lt_int q
theorem FJ:Ni X (JN .LtE) (Qm fun i j=>.bl (decide (i<=j))):=BC fun _ _ _ _ _ _ _ q=>le_int q
theorem F8:Ni X (JN .Gt) (Qm fun i j=>.bl (decide (j<i))):=BC fun _ _ _ _ _ _ _ q=>gt_int q
theorem G6:Ni X (JN .GtE) (Qm fun i j=>.bl (decide (j<=i))):=BC fun _ _ _ _ _ _ _ q=>ge_int q
theorem Ni.or{f:I0->I0->Sem I0}{r d:R2}(h:Ni X f r)(h':Ni X f d):Ni X f (fun x y H Q=>r x y H Q\/d x y H Q):=by
 intro MP s σ H x y v u Q I e g q;rcases q with q|q
 ·exact h MP s σ H x y v u Q I e g q
 ·exact h' MP s σ H x y v u Q I e g q
theorem wU(b:Expr){op:CmpOp}(h:op≠.In:=by decide)(d:op≠.NotIn:=by decide):Mp op b=MD:=by
 have e1:(op==CmpOp.In)=MD:=by cases op<;>first|rfl|exact absurd rfl h
 have e2:(op==CmpOp.NotIn)=MD:=by cases op<;>first|rfl|exact absurd rfl d
 cases b<;>simp[Mp,e1,e2]
theorem Bn{op:CmpOp}{r:R2}(d:Ni X (JN op) r)(e:PE X a ta)(f:PE X b tb)(g:Mp op b=MD):PE X (.Compare a [op] [b] pos) (SJ r ta tb):=by intro MP s σ H Q I h;exact wpAny_Compare1 (EK e f I h fun v u i x y j k l m q=>d MP i σ j x y v u Q k l m q) g
def Cj(t:TE):TT:=fun σ H Q=>t σ H fun x d=>∃k,x=.bl k/\Q k d
theorem BK{op:CmpOp}{r:R2}(d:Ni X (JN op) r)(f:PE X a ta)(g:PE X b tb)(i:Mp op b=MD):PT X (.Compare a [op] [b] pos) (Cj (SJ r ta tb)):=by intro MP s σ H Q I h;refine wpAny_isTrue_Compare1 (NQ (f MP s σ H _ I h) fun v j ⟨x,H1,l,m,n⟩=>NQ (g MP j σ H1 _ l n) fun u o ⟨y,p,q,t,w⟩=>NQ (d MP o σ p x y v u _ q m t w) fun c E ⟨z,A,B,C,k,e,D⟩=>?_) i;subst e;cases C;exact Kz ⟨A,B,D⟩
def Ek(r e:R2)(ta tb tc:TE):TE:=fun σ H Q=>ta σ H fun x H1=>tb σ H1 fun y f=>r x y f fun z d=>∃k,z=.bl k/\
 (if k=MC then tc σ d fun g h=>e y g h Q else Q (.bl MD) d)
theorem yV{op g:CmpOp}{r j:R2}(p:Ni X (JN op) r)(i:Ni X (JN g) j)(q:PE X a ta)(t:PE X b tb)(w:PE X c tc) (A:lastMarks [op,g] [b,c]=MD:=by with_unfolding_all rfl):PE X (.Compare a [op,g] [b,c] pos) (Ek r j ta tb tc):=by
 intro MP s σ H Q I h;refine Compare_chain (NQ (q MP s σ H _ I h) fun v B ⟨x,H1,C,D,E⟩=>chain_link (NQ (t MP B σ H1 _ C E) fun u F ⟨y,G,J,l,K⟩=>NQ (p MP F σ G x y v u _ J D l K) fun d L ⟨z,m,n,M,k,e,o⟩=>?_)) A;subst e;cases M;refine Kz ?_;cases k with
 |false=>exact ite_ff ⟨.bl MD,m,n,rfl,o⟩
 |true=>exact ite_tt (chain_last (NQ (w MP L σ m _ n o) fun N O f=>by obtain⟨P,R,S,T,U⟩:=f;exact(i MP O σ R y P u N Q S l T U)))
def Hq(K:IW)(x:V)(H:Hp)(k:Bool):Prop:=
 match x with
 |.non=>k=MD
 |.bl b=>k=b
 |.int i=>k=(i != 0)
 |.str y=>y.length<=Jb/\k=((y.length:Int) != 0)
 |.byt y=>y.size<=Jb/\k=((y.size:Int) != 0)
 |.ref p=>(∃xs,NZ K H p xs/\k=!xs.isEmpty)\/(∃xs,N1 K H p xs/\k=!xs.isEmpty)\/∃kvs,H p=MA (.dK kvs)/\k=!kvs.isEmpty
 |_=>False
theorem rQ{d:Type}{kvs:List (d×V)}{vs:List (d×I0)}(r:KV kvs vs):(!vs.isEmpty)=!kvs.isEmpty:=by cases r<;>rfl
theorem kR{xs:List V}{d:List I0}(r:Vals xs d):(!d.toArray.isEmpty)=!xs.isEmpty:=by cases r<;>simp
theorem jr:(Jb:Nat)<2^63:=by rw[sizeLine_eq];decide
theorem Fl:IS X (fun x H Q=>∃k,Hq X.K x H k/\Q k H):=by
 intro MP s σ H x v Q I g h;obtain⟨k,e,q⟩:=h;have z:=jr;have hs:Jb=16777216:=sizeLine_eq;cases x with
 |non=>
  cases g
  have d:k=MD:=e
  subst d
  exact truthy_none ⟨H,I,q⟩
 |bl b=>
  cases g
  have d:k=b:=e
  subst d
  exact Kz ⟨H,I,q⟩
 |int i=>
  obtain⟨t,rfl⟩:=g
  have d:k=(i != 0):=e
  subst d
  exact PySem.P.truthy_int ⟨H,I,q⟩
 |str y=>
  obtain⟨t,rfl⟩:=g
  obtain⟨o,d⟩:y.length<=Jb/\k=((y.length:Int) != 0):=e
  subst d
  exact PySem.P.truthy_str (by omega) ⟨H,I.tok _,q⟩
 |byt y=>
  obtain⟨t,rfl⟩:=g
  obtain⟨o,d⟩:y.size<=Jb/\k=((y.size:Int) != 0):=e
  subst d
  exact PySem.W.truthy_bytes (by omega) ⟨H,I.tok _,q⟩
 |ref p=>
  cases g
  have d:(∃xs,NZ X.K H p xs/\k=!xs.isEmpty)\/(∃xs,N1 X.K H p xs/\k=!xs.isEmpty)\/∃kvs,H p=MA (.dK kvs)/\k=!kvs.isEmpty:=e
  rcases d with⟨xs,j,d⟩|⟨xs,j,d⟩|⟨kvs,j,d⟩
  ·subst d;obtain⟨l,r,pl,n⟩:=I.list j;have f:=r.length;exact wpAny_truthy_list pl.isList (by simp only[Jj];omega) ⟨H,I.tok _,by rw[kR r];exact q⟩
  ·subst d;obtain⟨l,r,pl,n⟩:=I.tuple j;have f:=r.length;exact truthy_tuple pl (by simp only[Jj];omega) ⟨H,I.tok _,by rw[kR r];exact q⟩
  ·subst d;obtain⟨n,u,vs,r,m⟩:kvs.length<=Jb/\(p==L0)=MD/\∃vs,KV kvs vs/\s.heap.DictOf (b6 X.prog X.w) p vs:=I.hok p _ j;have f:kvs.length=vs.length:=Paired.length r;exact wpAny_truthy_dict u m (by omega) ⟨H,I.tok _,by rw[rQ r];exact q⟩
 |_=>exact(show False from e).elim
theorem xa(g:PE X a ta)(he:∀d,isTrue a X.env d=(do let v <-d;standAt a.pos;holding [v] (truthy v))) :
 PT X a (fun σ H Q=>ta σ H fun x f=>∃k,Hq X.K x f k/\Q k f):=by
 intro MP s σ H Q I h
 exact isTrue_plain (NQ (g MP s σ H _ I h) fun v i e=>by obtain⟨x,H1,j,l,m⟩:=e;exact(Fl MP i σ H1 x v Q j l m)) (he _)
theorem vals1{x:V}{us:List I0}(r:Vals [x] us):∃u,us=[u]/\RelV x u:=by
 cases r with
 |cons d e=>cases e;exact⟨_,rfl,d⟩
theorem vals2{x y:V}{us:List I0}(r:Vals [x,y] us):∃u d,us=[u,d]/\RelV x u/\RelV y d:=by
 cases r with
 |cons e f=>
  cases f with
  |cons g h=>cases h;exact⟨_,_,rfl,e,g⟩
theorem zI:bO X (.builtin "abs") (fun xs H Q=>∃i,xs=[.int i]/\Q (.int (if i<0 then -i else i)) H):=by intro MP s σ H xs us Q I r h;obtain⟨i,rfl,q⟩:=h;obtain⟨u,rfl,t,rfl⟩:=vals1 r;exact call_abs_int fun u d=>⟨.int (if i<0 then -i else i),H,I.tok _,⟨_,rfl⟩,q⟩
theorem vL(e:X.calm=MC):bO X (.builtin "max") (fun xs H Q=>∃i j,xs=[.int i,.int j]/\Q (.int (if j>i then j else i)) H):=by
 intro MP s σ H xs us Q I r h;obtain⟨i,j,rfl,q⟩:=h;obtain⟨u,f,rfl,⟨t,rfl⟩,⟨g,rfl⟩⟩:=vals2 r;refine max_two_ints (I.ok.hd e) fun l m k=>⟨_,H,I.kept k,?_,q⟩;by_cases d:j>i
 ·rw[MF d,MF d];exact⟨_,rfl⟩
 ·rw[ME d,ME d];exact⟨_,rfl⟩
theorem vT(e:X.calm=MC):bO X (.builtin "min") (fun xs H Q=>∃i j,xs=[.int i,.int j]/\Q (.int (if j<i then j else i)) H):=by
 intro MP s σ H xs us Q I r h;obtain⟨i,j,rfl,q⟩:=h;obtain⟨u,f,rfl,⟨t,rfl⟩,⟨g,rfl⟩⟩:=vals2 r;refine min_two_ints (I.ok.hd e) fun l m k=>⟨_,H,I.kept k,?_,q⟩;by_cases d:j<i
 ·rw[MF d,MF d];exact⟨_,rfl⟩
 ·rw[ME d,ME d];exact⟨_,rfl⟩
theorem vE:bO X (.type "int") (fun xs H Q=>(∃i,xs=[.int i]/\Q (.int i) H)\/∃k,xs=[.bl k]/\Q (.int (if k then 1 else 0)) H):=by
 intro MP s σ H xs us Q I r h;rcases h with⟨i,rfl,q⟩|⟨k,rfl,q⟩
 ·obtain⟨u,rfl,t,rfl⟩:=vals1 r;exact call_int_int ⟨.int i,H,I,⟨_,rfl⟩,q⟩
 ·obtain⟨u,rfl,d⟩:=vals1 r;cases d;exact call_int_bool ⟨.int (if k then 1 else 0),H,I.tok _,⟨_,rfl⟩,q⟩
end
structure N0(k:Nat)(A:JQ):Prop where
 hd:A.handled=MB
 dp:A.depth+3*k+5<recursionLimit
 un:A.units+16*k+200<Kf
 gd:A.guards=MA []
theorem N0.mono{j k:Nat}{A:JQ}(r:N0 k A)(h:j<=k):N0 j A:=⟨r.hd,by have:=r.dp;omega,by have:=r.un;omega,r.gd⟩
theorem N0.deeper{k:Nat}{A:JQ}(r:N0 (k+1) A)(env:Env):N0 k (A.deeper env):=⟨r.hd,by have:=r.dp;show A.depth+1+3*k+5<_;omega,by have:=r.un;show A.units+3+16*k+200<_;omega,r.gd⟩
theorem N0.depth{k:Nat}{A:JQ}(r:N0 k A):A.depth<recursionLimit:=by have:=r.dp;omega
theorem N0.units{k:Nat}{A:JQ}(r:N0 k A):A.units+64<Kf:=by have:=r.un;omega
def Ii:TA:=fun _ H Q=>Q [] H
def Fv(a:TE)(b:TA):TA:=fun σ H Q=>a σ H fun x H1=>b σ H1 fun xs c=>Q (x::xs) c
section
variable{X:Cx}{e:Expr}{es:List Expr}{te:TE}{t:TA}{pos:Pos}
theorem pC:PA X [] Ii:=fun _ _ _ _ H Q I h=>Calls.spliced_nil ⟨[],H,I,.nil,h⟩
theorem kj(c:PE X e te)(d:PA X es t)(hs:Jd (e::es) X.env=(MD,eval e X.env)::Jd es X.env:=by rfl):PA X (e::es) (Fv te t):=by intro pos MP s σ H Q I h;rw[hs];show J7 _ _ (spliced ((MD,eval e X.env)::KO pos (Jd es X.env))) _ _ s;refine Calls.spliced_cons (NQ (c MP s σ H _ I h) fun u f a=>?_);obtain⟨x,H1,g,i,j⟩:=a;exact NQ (d pos MP f σ H1 _ g j) fun us o b=>by obtain⟨xs,k,l,m,n⟩:=b;exact(⟨x::xs,k,l,.cons i m,n⟩)
def Ib(t:TA):TE:=fun σ H Q=>t σ H fun xs H1=>xs.length<=Jb/\∀p,H1 p=MB->Q (.ref p) (upd H1 p (.tup xs))
def IG(t:TA):TE:=fun σ H Q=>t σ H fun xs H1=>xs.length<=Jb/\∀p,H1 p=MB->Q (.ref p) (upd H1 p (.lst xs))
theorem EZ{x1}(h:PA X es t):PE X (.Tuple es x1 pos) (Ib t):=by intro MP s σ H Q I d;refine wpAny_Tuple_spliced (NQ (h pos MP s σ H _ I d) fun us a ⟨xs,H1,c,r,z,q⟩=>⟨by rw[<-r.length];exact z,?_⟩);have f:H1 a.heap.objs.size=MB:=c.hok.fresh (J1 _);refine⟨.ref a.heap.objs.size,upd H1 a.heap.objs.size (.tup xs),c.laid (t':=a.toks) (fun b u e=>J3 _ e) (J1 _) ?_,rfl,q _ f⟩;exact⟨z,us,r,⟨_,J8 _ rfl,rfl,_,rfl⟩,⟨_,J8 _ rfl,rfl⟩⟩
theorem Dm(h:PA X es t):PE X (.List es pos) (IG t):=by intro MP s σ H Q I d;refine wpAny_List_spliced (NQ (h pos MP s σ H _ I d) fun us a ⟨xs,H1,c,r,z,q⟩=>⟨by rw[<-r.length];exact z,?_⟩);have f:H1 a.heap.objs.size=MB:=c.hok.fresh (J1 _);refine⟨.ref a.heap.objs.size,upd H1 a.heap.objs.size (.lst xs),c.laid (t':=a.toks) (fun b u e=>J3 _ e) (J1 _) ?_,rfl,q _ f⟩;exact⟨z,us,0,r,J8 _ rfl⟩
end
abbrev Sp:=List V->Hp->VK->XK->Prop
abbrev Qi:=List Env->Hp->IY->XK->I0->IY->Prop
structure RF(P:Jl)(w:JL)(K:IW)(mg:Str->Option I0)(base:Heap)(A:JQ)(outer:List Env)(s:IY)(H:Hp):Prop where
 frames:A.frames=MA outer
 mod:Mod K mg base
 bs:∀b o,base.get? b=MA o->s.heap.get? b=MA o/\H b=MB
 bsz:base.objs.size<=s.heap.objs.size
 lA:s.heap.FunFrames base outer
 frf:∀b∈Qe outer,H b=MB
 hok:Nz P w H s.heap
 bare:AllBare s.gens
def CE(outer:List Env)(P:Jl)(w:JL)(H:Hp)(s:IY)(Q:VK)(u:I0)(a:IY):Prop:=
 ∃v b,a.os=s.os/\AllBare a.gens/\Un (Qe outer) [] H b s.heap a.heap/\Nz P w b a.heap/\RelV v u/\Q v b
def CR(CX:Qi)(outer:List Env)(P:Jl)(w:JL)(H:Hp)(s:IY)(Q:VK)(E:XK)(r:Result)(a:IY):Prop:=
 match r with
 |.ok (.ret u)=>CE outer P w H s Q u a
 |.ok _=>False
 |.error e=>CX outer H s E e a
structure OA(P:Jl)(w:JL)(K:IW)(mg:Str->Option I0)(base:Heap)(CX:Qi)(k:Nat)(f:Addr)(fd:My)(ps:List Str)(sp:Sp):Prop where
 len:∀vs H Q E,sp vs H Q E->vs.length=ps.length
 run:∀(A:JQ) (outer:List Env) (s:IY) (H:Hp) (args:Args) (us:List I0) (vs:List V) (Q:VK) (E:XK),N0 k A->RF P w K mg base A outer s H->BindsTo s fd args (ps.zip us)->Vals vs us->sp vs H Q E->
  Ll (Jg P w) A (.call (.ref f) args) (CR CX outer P w H s Q E) s
theorem OA.mono{P:Jl}{w:JL}{K:IW}{mg:Str->Option I0}{base:Heap}{CX:Qi}{j k:Nat}{f:Addr}{fd:My}{ps:List Str}{sp:Sp}(F:OA P w K mg base CX j f fd ps sp)(h:j<=k) : OA P w K mg base CX k f fd ps sp:=⟨F.len,fun A outer s H args us vs Q E a=>F.run A outer s H args us vs Q E (a.mono h)⟩
section
variable{X:Cx}{MP:List (Addr×Obj)}{σ:St}{H:Hp}{s s':IY}
theorem Inv.IQ(I:Inv X MP σ H s):RF X.prog X.w X.K X.mg X.base X.A X.stack s H:=⟨I.ok.frames,I.ok.mod,I.bs,Ke I.ok.bsz I.sz,I.stack,I.uM,I.hok,I.bare⟩
theorem Inv.after{Q:VK}{u:I0}(I:Inv X MP σ H s)(h:CE X.stack X.prog X.w H s Q u s'):EP X MP σ Q u s':=by obtain⟨v,c,os,bare,un,hok,r,q⟩:=h;obtain⟨e,g,d,t,a⟩:=s';obtain rfl:a=s.os:=os;exact⟨v,c,I.call (h':=e) (g':=g) (d':=d) (t':=t) (ch:=[]) un hok bare (fun b z=>absurd z (by simp)),r,q⟩
end
def FG(sp:Sp)(a:List V)(E:XK)(t:TA):TE:=fun σ H Q=>t σ H fun vs H1=>sp (vs++a) H1 Q E
def Binds(K:IW)(fd:My)(ps:List Str)(a:List I0):Prop:=
 ∀(s:IY) (us:List I0),K.In s.heap->(us++a).length=ps.length->BindsTo s fd ⟨us,[]⟩ (ps.zip (us++a))
theorem Binds.all{K:IW}{fd:My}{ps:List Str}(h:∀us:List I0,us.length=ps.length->bindArgs fd ⟨us,[]⟩=pure (ps.zip us)):Binds K fd ps []:=fun s us _ a=>by rw[Kc]at a ⊢;exact .of_eq (h us a)
def Passes(CX:Qi)(X:Cx)(E:XK):Prop:=∀(MP:List (Addr×Obj)) (σ:St) (H:Hp) (s:IY) (e:I0) (a:IY),Inv X MP σ H s->CX X.stack H s E e a->X.xe e a
section
variable{X:Cx}{CX:Qi}{k:Nat}{f C:Addr}{fd:My}{ps:List Str}{sp:Sp}{MR:List V}{ds:List I0}{E:XK}{x m:Str}{p pos apos:Pos}{e o:Expr}{es:List Expr}{ta:TE}{t:TA}
theorem DM{MP:List (Addr×Obj)}{σ:St}{H:Hp}{s:IY}{Q:VK}{us:List I0}{vs:List V}(F:OA X.prog X.w X.K X.mg X.base CX k f fd ps sp)(c:N0 k X.A)(d:Binds X.K fd ps ds)(hd:Vals MR ds)(g:Passes CX X E)
 (I:Inv X MP σ H s) (r:Vals vs us) (h:sp (vs++MR) H Q E):J7 (Jg X.prog X.w) X.A (call (.ref f) us) (EP X MP σ Q) X.xe s:=by
 have b:Vals (vs++MR) (us++ds):=r.append hd
 have i:(us++ds).length=ps.length:=by rw[<-b.length];exact F.len _ _ _ _ h
 refine wpAny_call (Mh (F.run X.A X.stack s H ⟨us,[]⟩ (us++ds) (vs++MR) Q E c I.IQ (d s us I.kIn i) b h) fun r j a=>?_)
 cases r with
 |error e=>exact g MP σ H s e j I a
 |ok l=>
  cases l with
  |ret u=>exact I.after a
  |next=>exact JB a
  |brk=>exact JB a
  |cont=>exact JB a
theorem A6(F:OA X.prog X.w X.K X.mg X.base CX k f fd ps sp)(d:N0 k X.A)(g:Gl X x)(i:X.mg x=MA (.ref f))(j:PySem.W.keepIn X.K (.ref f)=MC)(l:Binds X.K fd ps ds)(hd:Vals MR ds)(n:Passes CX X E) (u:PA X (e::es) t) (a:(x==("__debug__":Str))=MD:=by decide) (he:Jd (e::es) X.env=(MD,eval e X.env)::Jd es X.env:=by rfl) (b:(KO pos (Jd es X.env)).any (·.1)=MD:=by rfl) : PE X (.Call (.Name x p) (e::es) [] pos) (FG sp MR E t):=by intro MP s σ H Q I h;refine wpAny_Call_Name_kw (AV I g i ?_ a);refine PySem.W.callWith_K (h₀:=X.base) I.ok.mod.kin j (NQ (u pos MP s σ H _ I h) fun us v ⟨vs,H1,c,r,q⟩=>⟨c.kIn,?_⟩) he b;exact DM F d l hd n c r q
end
structure NL(N P:List Str)(sc:LR):Prop where
 kind:sc.kind=.function
 co:sc.isCoroutine=MD
 gen:sc.isGenerator=MD
 nd:N.Nodup
 pre:N.take P.length=P
 par:∀x∈P,sc.names.lookup x=MA .local\/sc.names.lookup x=MA .cell
 nofree:∀y∈sc.names,y.2≠.free
theorem nF{kindOf:Str->Option LB}{x:Str}:∀{binds:List (Str×I0)} {m:Str->Option I0},(∀v,(x,v)∉binds)->bindL kindOf binds m x=m x
 |[],_,_=>rfl
 |(n,v)::r,m,h=>by
  unfold bindL
  rw[nF fun w a=>h w (Jn _ a)]
  split
  ·have:x≠n:=by rintro rfl;exact h v Jy
   simp[this]
  ·rfl
theorem nJ{kindOf:Str->Option LB}{x:Str}:∀{binds:List (Str×I0)} {m:Str->Option I0},(∀v,(x,v)∉binds)->bindC kindOf binds m x=m x
 |[],_,_=>rfl
 |(n,v)::r,m,h=>by
  unfold bindC
  rw[nJ fun w a=>h w (Jn _ a)]
  split
  ·rfl
  ·have:x≠n:=by rintro rfl;exact h v Jy
   simp[this]
theorem nH{kindOf:Str->Option LB}{x:Str}{v:I0}:∀{P:List Str} {vs:List I0} {i:Nat} {m:Str->Option I0},P.Nodup->P[i]?=MA x->vs[i]?=MA v->kindOf x=MA .local->
 bindL kindOf (P.zip vs) m x=MA v
 |[],_,_,_,_,h,_,_=>by simp at h
 |_::_,[],_,_,_,_,h,_=>by simp at h
 |p::P,w::vs,0,m,nd,h1,h2,hk=>by
  simp at h1 h2;subst h1;subst h2
  show bindL kindOf ((p,w)::P.zip vs) m p=_
  unfold bindL
  rw[nF fun v a=>(Ku.mp nd).1 (List.of_mem_zip a).1,MF hk]
  simp
 |p::P,w::vs,i+1,m,nd,h1,h2,hk=>by
  show bindL kindOf ((p,w)::P.zip vs) m x=_
  unfold bindL
  exact nH (i:=i) (Ku.mp nd).2 (by simpa using h1) (by simpa using h2) hk
theorem nM{kindOf:Str->Option LB}{x:Str}{v:I0}:∀{P:List Str} {vs:List I0} {i:Nat} {m:Str->Option I0},P.Nodup->P[i]?=MA x->vs[i]?=MA v->kindOf x≠MA .local->
 bindC kindOf (P.zip vs) m x=MA v
 |[],_,_,_,_,h,_,_=>by simp at h
 |_::_,[],_,_,_,_,h,_=>by simp at h
 |p::P,w::vs,0,m,nd,h1,h2,hk=>by
  simp at h1 h2;subst h1;subst h2
  show bindC kindOf ((p,w)::P.zip vs) m p=_
  unfold bindC
  rw[nJ fun v a=>(Ku.mp nd).1 (List.of_mem_zip a).1,ME hk]
  simp
 |p::P,w::vs,i+1,m,nd,h1,h2,hk=>by
  show bindC kindOf ((p,w)::P.zip vs) m x=_
  unfold bindC
  exact nM (i:=i) (Ku.mp nd).2 (by simpa using h1) (by simpa using h2) hk
def start(N:List Str)(vs:List V):St:=vs.map MA++JA (N.length-vs.length) MB
def jE(CX:Qi)(P:Jl)(w:JL)(K:IW)(mg:Str->Option I0)(base:Heap)(N:List Str)(qual:Str)(scope:LR)(f:Addr)(b:I0)(A:JQ)(outer:List Env)(s:IY)(H:Hp)(E:XK):Cx where
 prog:=P
 w:=w
 K:=K
 mg:=mg
 base:=base
 A:=A.deeper (envOfC qual scope s.heap.objs.size f b)
 N:=N
 s₀:=s
 H₀:=H
 env:=envOfC qual scope s.heap.objs.size f b
 outer:=outer
 stack:=envOfC qual scope s.heap.objs.size f b::outer
 ex:=[]
 calm:=MC
 fn:=fun _=>MC
 pn:=[]
 xe:=fun e c=>J7 (Jg P w) (A.deeper (envOfC qual scope s.heap.objs.size f b)) (leaving (envOfC qual scope s.heap.objs.size f b) e) (fun _ a=>CX outer H s E e a) (fun d a=>CX outer H s E d a) c
theorem lV{sc:LR}{n:Nat}{x:Str}(h:sc.names.lookup x=MA .cell):∃c,(L3 n sc.names []).lookup x=MA c:=by have q:=PySem.W.cellsFrom_some sc.names n [] (.inl h);exact Option.isSome_iff_exists.mp q
theorem vY{CX:Qi}{P:Jl}{w:JL}{K:IW}{mg:Str->Option I0}{base:Heap}{N ps:List Str}{qual:Str}{scope:LR}{f:Addr}{t:I0}{A:JQ}{outer:List Env}{s C:IY}{H:Hp}{E:XK}{us:List I0}{vs:List V}
 (S:NL N ps scope) (hd:A.handled=MB) (g:RF P w K mg base A outer s H) (L:vs.length=ps.length) (r:Vals vs us)
 (x:InCallC s s.heap.objs.size (bindL (envOfC qual scope s.heap.objs.size f t).kindOf (ps.zip us) fun _=>MB) (L3 (s.heap.objs.size+1) scope.names []) (bindC (envOfC qual scope s.heap.objs.size f t).kindOf (ps.zip us) fun _=>MB) C) :
 Inv (jE CX P w K mg base N qual scope f t A outer s H E) [] (start N vs) H C:=by
 have G:ps.length<=N.length:=by have:=congrArg List.length S.pre;rw[KJ]at this;omega
 obtain⟨B,M,rfl,D⟩:=x.done
 have j:∀b:Addr,b∉(jE CX P w K mg base N qual scope f t A outer s H E).ex:=fun b z=>absurd (show b∈([]:List Addr)from z) (by simp)
 refine⟨⟨g.mod,S.kind,rfl,rfl,J1 _,fun y z c B d=>?_,fun y l=>?_,fun y c _ h=>?_,fun _=>hd,Around.frames_deeper g.frames,.inr ⟨rfl,rfl⟩,fun b z=>absurd z (j b),g.bs,g.bsz,fun b _ _=>j b,fun b z=>absurd z (j b),g.lA,g.frf⟩,
  rfl,g.bare,Un.kept D,⟨_,x.toInCall.ns,fun i y v B d O=>?_⟩,fun y c h=>⟨_,x.cell y c h⟩,g.hok.fresh (J1 _),fun y c h=>?_,fun p m=>absurd (show p∈([]:List (Addr×Obj))from m) (by simp),g.hok.kept D,?_⟩
 ·exact name_of_addr x.apart (K0 B) (K0 d)
 ·have l:scope.names.lookup y=MA .cell\/scope.names.lookup y=MA .free:=l
  rcases l with l|l
  ·exact lV l
  ·exact absurd rfl (S.nofree _ (K0 l))
 ·exact Nat.le_of_lt (x.above y c (K0 h))
 ·have hi:i<vs.length:=by
   unfold start at d
   by_cases hi:i<vs.length
   ·exact hi
   ·rw[JP (by simpa using hi)]at d
    rw[List.getElem?_replicate]at d
    split at d<;>cases d
  have I:vs[i]?=MA v:=by
   unfold start at d
   rw[JO (by simpa using hi),J4]at d
   cases e:vs[i]? with
   |none=>rw[e]at d;cases d
   |some a=>rw[e]at d;cases d;rfl
  obtain⟨u,F,J⟩:=r.get I
  have m:ps[i]?=MA y:=by
   rw[<-S.pre,List.getElem?_take_of_lt (by omega)];exact B
  have o:ps.Nodup:=by rw[<-S.pre];exact S.nd.sublist (List.take_sublist _ _)
  refine⟨u,J,?_⟩
  rcases S.par y (J9 m)with k|k
  ·exact .inl ⟨k,nH o m F k⟩
  ·obtain⟨c,e⟩:=lV (n:=s.heap.objs.size+1) k
   refine .inr ⟨.inl k,c,e,?_⟩
   have q:=x.cell y c e
   rw[nM o m F (by show scope.names.lookup y≠_;rw[k];decide)]at q
   exact q
 ·exact g.hok.fresh (Nat.le_of_lt (x.above y c (K0 h)))
 ·unfold start
  show _=N.length
  rw[JX,IZ,List.length_replicate]
  omega
theorem Hk{CX:Qi}{P:Jl}{w:JL}{K:IW}{mg:Str->Option I0}{base:Heap}{k:Nat}{f:Addr}{name qual:Str}{params:Arguments}{body:List Stmt}{scope:LR}{F kV i G cdv ct oc:I0}{an od:Option Addr}
 {osl:Array (Option I0)} {N ps:List Str} {sp:Sp} (O:K.lookup f=MA ⟨oc,od,.func (KS name qual params body scope F kV i G an cdv ct),osl⟩) (p:PySem.W.codeIn K cdv qual=MC) (S:NL N ps scope)
 (len:∀vs H Q E,sp vs H Q E->vs.length=ps.length)
 (g:∀(A:JQ) (outer:List Env) (s:IY) (H:Hp) (vs:List V) (Q:VK) (E:XK),N0 k (A.deeper (envOfC qual scope s.heap.objs.size f cdv))->sp vs H Q E->
  ∃t,PR (jE CX P w K mg base N qual scope f cdv A outer s H E) body t/\t { nx:=fun _ d=>Q .non d,rt:=Q } (start N vs) H) :
 OA P w K mg base CX (k+1) f (KS name qual params body scope F kV i G an cdv ct) ps sp:=by
 refine⟨len,fun A outer s H args us vs Q E z j R r l=>?_⟩
 have T:=len _ _ _ _ l
 have L:K.In s.heap:=j.mod.kin.keeps fun b o e=>(j.bs b o e).1
 have B:s.heap.NoLimit:=j.mod.nolimit.keeps fun b o e=>(j.bs b o e).1
 have h:∀y∈ps.zip us,scope.names.lookup y.1=MA .local\/(scope.names.lookup y.1=MA .cell/\((L3 (s.heap.objs.size+1) scope.names []).lookup y.1).isSome=MC):=fun a U=>by
  obtain⟨n,v⟩:=a
  rcases S.par n (List.of_mem_zip U).1 with q|q
  ·exact .inl q
  ·exact .inr ⟨q,PySem.W.cellsFrom_some _ _ _ (.inl q)⟩
 refine codeAny_call_function z.depth (L _ _ O) rfl S.co S.gen rfl (PySem.W.codeRec_of L p) (R _ _ _ _ ?_)
 refine wpAny_newFunctionEnv_cells S.kind h fun env X M x=>?_
 subst X
 refine⟨B.keeps x.toInCall.keep,codeAny_func ?_⟩
 obtain⟨t,Y,Z⟩:=g A outer s H vs Q E (z.deeper _) l
 have I:Inv (jE CX P w K mg base N qual scope f cdv A outer s H E) [] (start N vs) H M:=vY S z.hd j T r x
 refine Je (Y [] M (start N vs) H _ I Z) (fun fl C hs=>?_) fun e C hs=>hs
 have m:∀{c:St} {d:Hp} {v:V} {u:I0},Inv (jE CX P w K mg base N qual scope f cdv A outer s H E) [] c d C->RelV v u->Q v d->CE outer P w H s Q u C:=
  fun{c d v u} J D q=>⟨v,d,J.os,J.bare,J.base,J.hok,D,q⟩
 cases fl with
 |ret u=>
  obtain⟨v,c,d,J,D,q⟩:=hs
  exact m J D q
 |next=>
  obtain⟨c,d,J,q⟩:=hs
  exact m (v:=V.non) (u:=LQ) J rfl q
 |brk=>
  obtain⟨_,_,_,q⟩:=hs
  exact JB q
 |cont=>
  obtain⟨_,_,_,q⟩:=hs
  exact JB q
section
variable{X:Cx}{x:Str}{p pos:Pos}{e:Expr}{es:List Expr}{t:TA}{id T:String}{r:List V->Hp->VK->Prop}
def VU(r:List V->Hp->VK->Prop)(t:TA):TE:=fun σ H Q=>t σ H fun vs H1=>r vs H1 Q
theorem qN(d:bO X (.builtin id) r)(f:Gl X x)(g:X.mg x=MB)(i:Ka x=MA (.builtin id))(j:PA X (e::es) t)(k:x≠"__name__":=by decide)(b:(x==("__debug__":Str))=MD:=by decide) (he:Jd (e::es) X.env=(MD,eval e X.env)::Jd es X.env:=by rfl) (c:(KO pos (Jd es X.env)).any (·.1)=MD:=by rfl):PE X (.Call (.Name x p) (e::es) [] pos) (VU r t):=by intro MP s σ H Q I h;refine wpAny_Call_Name_kw (jj I f g i ?_ k b);exact PyProof.Rows.callWith_builtin1 (NQ (j pos MP s σ H _ I h) fun us l a=>by obtain⟨vs,H1,m,n,o⟩:=a;exact(d MP l σ H1 vs us Q m n o)) he c
theorem je(d:bO X (.type T) r)(f:Gl X x)(g:X.mg x=MB)(i:Ka x=MA (.type T))(j:PA X (e::es) t)(k:x≠"__name__":=by decide)(b:(x==("__debug__":Str))=MD:=by decide) (he:Jd (e::es) X.env=(MD,eval e X.env)::Jd es X.env:=by rfl) (c:(KO pos (Jd es X.env)).any (·.1)=MD:=by rfl):PE X (.Call (.Name x p) (e::es) [] pos) (VU r t):=by intro MP s σ H Q I h;refine wpAny_Call_Name_kw (jj I f g i ?_ k b);exact LD (NQ (j pos MP s σ H _ I h) fun us l a=>by obtain⟨vs,H1,m,n,o⟩:=a;exact(d MP l σ H1 vs us Q m n o)) he c
end
end L2
namespace HT
open PySem PyProof.Rows
def lexLt:List Int->List Int->Bool
 |[],[]=>MD
 |[],_::_=>MC
 |_::_,[]=>MD
 |x::xs,y::ys=>if x=y then lexLt xs ys else decide (x<y)
theorem tK(x y:Int)(xs a:List Int):lexLt (x::xs) (y::a)=if x=y then lexLt xs a else decide (x<y):=rfl
theorem mQ:lexLt [] []=MD:=rfl
theorem ly(y:Int)(a:List Int):lexLt [] (y::a)=MC:=rfl
theorem lW(x:Int)(xs:List Int):lexLt (x::xs) []=MD:=rfl
theorem lY(A:JQ)(s:IY)(a:Int)(t:Tok)(c:Int)(u:Tok):∃e,SeqAt.EqAt A s (.int a t) (.int c u) e/\(e=MC↔a=c):=⟨(a==c),SeqAt.EqAt.int_int a t c u,by simp⟩
theorem yP(A:JQ)(s:IY)(a:Int)(t:Tok)(c:Int)(u:Tok)(prog:Jl)(w:JL)(E:I0->IY->Prop)(Q:I0->IY->Prop)(h:Q (.bool (decide (a<c))) s) : J7 (Jg prog w) A (richCompare .Lt (.int a t) (.int c u)) Q E s:=(PyProof.Rows.lt_int h:J7 (Jg prog w) A (JN .Lt (.int a t) (.int c u)) Q E s)
section
open PySem.SeqAt
open PySem.AutoSeq1 (wpAny_loadPart')
open PySem.MeetsSeq PySem.MeetsSeq2 PySem.MeetsSeq3
theorem mF(l b:Addr)(items f:Array I0)(n O:Nat)(P H:Option Addr)(Q I:Array (Option I0))(ns ms:List Int)(hi:KG items.toList ns)(M:KG f.toList ms) :
 Meets (Ls.«tuple.__lt__» ⟨[.ref l,.ref b],[]⟩)
  (fun _ R s=>s.heap.get? l=MA { cls:=.type "tuple",dict:=P,data:=.seq items n,slots:=Q }/\s.heap.get? b=MA { cls:=.type "tuple",dict:=H,data:=.seq f O,slots:=I }/\
   R (.ok (.ret (.bool (lexLt ns ms)))) s):=
 .of_wp fun prog w A R s h=>by
  obtain⟨F,g,d,G,os⟩:=s;obtain⟨S,T,h⟩:=h
  have Y:=AutoSeq1.sub_tuple_tuple
  have Z:items.size=ns.length:=by rw[<-hi.length];simp
  have z2:f.size=ms.length:=by rw[<-M.length];simp
  wp_walk using KI S,KI T,wpAny_forIn_list _ (fun p b J=>b.1=MB/\J=⟨F,g,d,G,os⟩/\∃(vs ws:List I0) (j k:List Int),p=vs.zip ws/\
   KG vs j/\KG ws k/\j.length+f.size=k.length+items.size/\R (.ok (.ret (.bool (lexLt j k)))) ⟨F,g,d,G,os⟩) _
  case turn=>
   rintro⟨y,x⟩ p b J ⟨z,rfl,vs,ws,j,k,m,B,o,i,r⟩
   cases B with
   |nil=>rw[List.zip_nil_left]at m;cases m
   |cons a t D=>
    cases o with
    |nil=>rw[List.zip_nil_right]at m;cases m
    |cons c u E=>
     rw[LS]at m
     injection m with K C
     injection K with U V
     subst U V
     rw[tK]at r
     simp only[Jr]at i
     obtain⟨e,W,v⟩:=lY A.in1 ⟨F,g,d,G,os⟩ a t c u
     refine cc (W prog w _ _ ?_)
     cases e with
     |true=>
      rw[MF (v.mp rfl)]at r
      wp_walk
      exact⟨rfl,rfl,_,_,_,_,C,D,E,by omega,r⟩
     |false=>
      rw[ME (fun q=>absurd (v.mpr q) Jf)]at r
      have L:=yP A.in1 ⟨F,g,d,G,os⟩ a t c u prog w
      wp_walk using L
      exact⟨_,rfl,by simpa using r⟩
  case fin=>
   rintro⟨b1,b2⟩ J ⟨z,rfl,vs,ws,j,k,m,B,o,i,r⟩
   simp only at z
   subst z
   have N:lexLt j k=decide (items.size<f.size):=by
    cases B with
    |nil=>
     cases o with
     |nil=>
      simp only[Km]at i
      rw[mQ]
      exact(MG (by omega)).symm
     |cons c u X=>
      simp only[Km,Jr]at i
      rw[ly]
      exact(MI (by omega)).symm
    |cons a t N=>
     cases o with
     |nil=>
      simp only[Km,Jr]at i
      rw[lW]
      exact(MG (by omega)).symm
     |cons c u X=>
      rw[LS]at m
      cases m
   rw[N]at r
   wp_walk
   exact⟨_,rfl,by simpa[Builtin.Tuple.tupleCompareSizes]using r⟩
  case h=>
   exact⟨rfl,rfl,items.toList,f.toList,ns,ms,rfl,hi,M,by omega,h⟩
end
section
variable{prog:Jl}{w:JL}{A:JQ}{E:I0->IY->Prop}{s:IY}
theorem k5{l b:Addr}{items a:Array I0}{ns ms:List Int}{Q:I0->IY->Prop}(o:IsTup s.heap l items)(p:IsTup s.heap b a)(hi:KG items.toList ns)(q:KG a.toList ms) (r:A.units<Kf) (h:Q (.bool (lexLt ns ms)) s):J7 (Jg prog w) A (JN .Lt (.ref l) (.ref b)) Q E s:=by obtain⟨⟨cls,t,data,u⟩,j,k,n,hd⟩:=id o;obtain⟨⟨m,f,g,i⟩,c,d,v,e⟩:=id p;simp only at k hd d e;subst k hd d e;exact richCompare_meets_room (op:=.Lt) ⟨_,j,rfl⟩ ⟨_,c,rfl⟩ PySem.F.slot_tuple_lt PySem.F.entry_tuple_lt (PySem.F.args_tuple_lt_2 _ _) (mF l b items a n v t f u i ns ms hi q) ⟨j,c,show Value.bool (lexLt ns ms)≠Value.notImplemented/\Q (.bool (lexLt ns ms)) s from⟨(fun x=>nomatch x),h⟩⟩ r
theorem Bb{t b:Addr}{vs ws:List I0}{Q:I0->IY->Prop}(r:IsTup s.heap t vs.toArray)(u:IsTup s.heap b ws.toArray)(k:vs≠[])
 (v:ws=[]->Q (.ref t) s) (x:ws≠[]->Q (.ref s.heap.objs.size) { s with heap:=s.heap.push { cls:=.type "tuple",data:=.seq (vs++ws).toArray } })
 (hsz:vs.length+ws.length<=Jb):J7 (Jg prog w) A (Le .Add (.ref t) (.ref b)) Q E s:=by
 obtain⟨⟨cls,l,data,m⟩,h,o,n,hd⟩:=id r
 obtain⟨⟨p,c,j,d⟩,a,f,q,g⟩:=id u
 simp only at o hd f g
 subst o hd f g
 have e:vs.toArray++ws.toArray=(vs++ws).toArray:=by simp
 by_cases i:ws=[]
 ·exact concat_meets ⟨_,h,rfl⟩ ⟨_,a,rfl⟩ noFill_tuple_add seq_tuple_add PySem.F.slot_tuple_add PySem.F.entry_tuple_add (PySem.F.args_tuple_add_2 _ _)
   (tuple_addW1 t b vs.toArray ws.toArray n q l c m d (by simpa using k) (by simp[i])) ⟨h,a,v i⟩
 ·refine concat_meets ⟨_,h,rfl⟩ ⟨_,a,rfl⟩ noFill_tuple_add seq_tuple_add PySem.F.slot_tuple_add PySem.F.entry_tuple_add (PySem.F.args_tuple_add_2 _ _)
   (tuple_addW2 t b vs.toArray ws.toArray n q l c m d (by simpa using k) (by simpa using i) (by rw[Jj,Jj];exact hsz)) ⟨h,a,?_⟩
  rw[e]
  exact x i
def sIx(n d:Nat):Option Int->Nat
 |none=>d
 |some v=>if v<0 then(v+(n:Int)).toNat else min v.toNat n
theorem pG(n d:Nat):sIx n d MB=d:=rfl
theorem uH(n d k:Nat):sIx n d (MA (k:Int))=min k n:=by show(if(k:Int)<0 then((k:Int)+(n:Int)).toNat else min (k:Int).toNat n)=min k n;rw[ME (by omega),Kn]
theorem CN(n d:Nat)(hd:d<=n)(o:Option Int):sIx n d o<=n:=by
 cases o with
 |none=>exact hd
 |some v=>
  show(if v<0 then(v+(n:Int)).toNat else min v.toNat n)<=n
  by_cases a:v<0
  ·rw[MF a];omega
  ·rw[ME a];exact Nat.min_le_right _ _
theorem uz(v:Int)(n d:Nat):(if v<0 then max (v+(n:Int)) 0 else min v (n:Int))=((sIx n d (MA v):Nat):Int):=by
 show(if v<0 then max (v+(n:Int)) 0 else min v (n:Int))=(((if v<0 then(v+(n:Int)).toNat else min v.toNat n):Nat):Int);by_cases a:v<0
 ·simp only[MF a];omega
 ·simp only[ME a];omega
theorem rW(lo hi:Option Int)(n:Nat):Builtin.Slice.sliceAdjust lo hi 1 (n:Int)=(((sIx n 0 lo:Nat):Int),((sIx n n hi:Nat):Int)):=by
 have a:¬((1:Int)<0):=by omega
 unfold Builtin.Slice.sliceAdjust;simp only[a,if_false];refine Prod.ext ?_ ?_
 ·cases lo with
  |none=>rfl
  |some v=>exact uz v n 0
 ·cases hi with
  |none=>rfl
  |some v=>exact uz v n n
theorem tj(i j:Nat):Builtin.Slice.slicePlaces (i:Int) (j:Int) 1=j-i:=by
 unfold Builtin.Slice.slicePlaces;have a:(1:Int)>0:=by omega
 simp only[a,if_true,Int.ediv_one];split<;>omega
theorem d6{v:I0}{o:Option Int}{Q:Option Int->IY->Prop}(p:IsPart v o)(h:Q o s):J7 (Jg prog w) A (Builtin.Slice.slicePartIndex v) Q E s:=by
 cases p with
 |none=>exact slicePart_none h
 |int i t=>exact slicePart_int h
theorem jB{d:Addr}{vl c:I0}{lo hi:Option Int}{n:Nat}{Q:Int×Int×Nat->IY->Prop}(hs:s.heap.IsSliceOf d vl c .none)(pl:IsPart vl lo)(e:IsPart c hi)
 (h:Q (((sIx n 0 lo:Nat):Int),1,sIx n n hi-sIx n 0 lo) s):J7 (Jg prog w) A (LU (.ref d) (pure (n:Int))) Q E s:=by
 obtain⟨os,a,f,b⟩:=id hs
 unfold LU Builtin.Slice.sliceFields
 refine cc (cc (wpAny_field a b (x:=vl) rfl (cc (wpAny_field a b (x:=c) rfl (cc (wpAny_field a b (x:=.none) rfl (IX ?_)))))))
 refine cc (slicePart_none ?_)
 show J7 _ _ (if((1:Int)==0)=MC then _ else _) _ _ s
 rw[ME (by decide)]
 refine cc (d6 pl (cc (d6 e (cc (IX ?_)))))
 show J7 _ _ (match Builtin.Slice.sliceAdjust lo hi 1 (n:Int)with|(lo,hi)=>pure (lo,(1:Int),Builtin.Slice.slicePlaces lo hi 1)) _ _ s
 rw[rW lo hi n]
 show J7 _ _ (pure (((sIx n 0 lo:Nat):Int),(1:Int),Builtin.Slice.slicePlaces ((sIx n 0 lo:Nat):Int) ((sIx n n hi:Nat):Int) 1)) _ _ s
 rw[tj]
 exact IX h
theorem xu(xs:Array I0)(i k:Nat):((J6 k).filterMap fun(m:Nat)=>xs[((i:Int)+(m:Int)*1).toNat]?).toArray=((xs.toList.drop i).take k).toArray:=by
 have e:(fun(m:Nat)=>xs[((i:Int)+(m:Int)*1).toNat]?)=fun m=>xs[i+m]?:=by
  funext m
  have:((i:Int)+(m:Int)*1).toNat=i+m:=by omega
  rw[this]
 rw[e];have:=pick_run xs i k;rw[List.filterMap_map]at this;have e2:((fun x=>xs[x]?)∘fun x=>i+x)=fun m=>xs[i+m]?:=rfl;rw[e2]at this;rw[this]
theorem iX{t c:Addr}{items:Array I0}{vl i:I0}{lo hi:Option Int}{Q:I0->IY->Prop}(b:IsTup s.heap t items)(hs:s.heap.IsSliceOf c vl i .none)(pl:IsPart vl lo)(j:IsPart i hi)
 (hw:¬(sIx items.size 0 lo=0/\sIx items.size items.size hi=items.size))
 (h:Q (.ref s.heap.objs.size) { s with heap:=s.heap.push { cls:=.type "tuple",data:=.seq ((items.toList.drop (sIx items.size 0 lo)).take (sIx items.size items.size hi-sIx items.size 0 lo)).toArray } })
 (hsz:items.size<=Jb):J7 (Jg prog w) A (getItem (.ref t) (.ref c)) Q E s:=by
 have a:sizeOk (.seq ((items.toList.drop (sIx items.size 0 lo)).take (sIx items.size items.size hi-sIx items.size 0 lo)).toArray):=by
  show((items.toList.drop (sIx items.size 0 lo)).take (sIx items.size items.size hi-sIx items.size 0 lo)).toArray.size<=Jb
  rw[Jj,KJ,List.length_drop,Jx]
  omega
 have l:sIx items.size items.size hi<=items.size:=CN _ _ (J1 _) hi
 obtain⟨os,d,e,k⟩:=id hs
 have f:s.TypeIs (.ref c) "slice":=⟨os,d,e⟩
 unfold getItem
 try with_reducible refine K9 ?_
 first|refine cc (IX ?_)|skip
 refine cc (wpAny_sequenceKey b.typeIs (by decide) ?_)
 refine cc (L4 (name:=KU "__getitem__") b.typeIs Kk
  (Kv Kk b.typeIs entry_tuple_getitem ?_ (args_tuple_getitem _ _)))
 show J7 _ _ (Builtin.Tuple.tupleItemsOf (.ref t) >>= _) _ _ s
 refine cc (tupleItemsOf_ b ?_)
 refine cc (wpAny_typeOf f ?_)
 rw[MF (by decide)]
 refine cc (jB hs pl j ?_)
 have g:¬((((sIx items.size 0 lo:Nat):Int)==0&&(1:Int)==1&&(sIx items.size items.size hi-sIx items.size 0 lo)==items.size)=MC):=by
  intro q
  rw[JV,JV]at q
  have n:((sIx items.size 0 lo:Nat):Int)=0:=eq_of_beq q.1.1
  have o:sIx items.size items.size hi-sIx items.size 0 lo=items.size:=eq_of_beq q.2
  exact hw ⟨by omega,by omega⟩
 show J7 _ _ (if(((sIx items.size 0 lo:Nat):Int)==0&&(1:Int)==1&&(sIx items.size items.size hi-sIx items.size 0 lo)==items.size)=MC then _ else _) _ _ s
 rw[ME g,xu]
 first
  |exact cc (m:=Ki _) (JG (IX ⟨_,rfl,IX h⟩) a)
  |exact cc (m:=Ki _) (JG (cc (IX (IX ⟨_,rfl,IX h⟩))) a)
  |exact cc (cc (m:=Ki _) (JG (IX (IX ⟨_,rfl,IX h⟩)) a))
  |exact cc (cc (m:=Ki _) (JG (IX ⟨_,rfl,IX h⟩) a))
end
end HT
namespace L2
open PySem PySem.Spec PyProof.Rows
abbrev TO:=St->Hp->(Option Int->Hp->Prop)->Prop
def PO(X:Cx)(e:Option Expr)(t:TO):Prop:=
 ∀(MP:List (Addr×Obj)) (s:IY) (σ:St) (H:Hp) (Q:Option Int->Hp->Prop),Inv X MP σ H s->t σ H Q->
  J7 (Jg X.prog X.w) X.A (evalPart e X.env) (fun u b=>∃o a,Inv X MP σ a b/\IsPart u o/\Q o a) X.xe s
def Ad:TO:=fun _ H Q=>Q MB H
def GK(t:TE):TO:=fun σ H Q=>t σ H fun x H1=>∃i,x=.int i/\Q (MA i) H1
theorem intsAre_of{ns:List Int}:∀{us:List I0},Vals (ns.map V.int) us->KG us ns:=by
 induction ns with
 |nil=>intro us r;rw[KA]at r;cases r;exact .nil
 |cons n ns a=>
  intro us r
  rw[J5]at r
  cases r with
  |cons b c=>
   obtain⟨t,e⟩:=b
   subst e
   exact .cons n t (a c)
section
variable{X:Cx}{e:Expr}{te:TE}{lo hi:Option Expr}{tl th:TO}{pos p2:Pos}
theorem Bh:PO X MB Ad:=by intro MP s σ H Q I h;rw[evalPart_none];exact IX ⟨MB,H,I,.none,h⟩
theorem AS(h:PE X e te):PO X (MA e) (GK te):=by intro MP s σ H Q I b;rw[evalPart_some];refine NQ (h MP s σ H _ I b) fun u g a=>?_;obtain⟨x,H1,c,d,f⟩:=a;obtain⟨i,rfl,q⟩:=f;obtain⟨t,rfl⟩:=d;exact⟨MA i,H1,c,.int i t,q⟩
def Rk(X:Cx)(r:V->Option Int->Option Int->Hp->VK->Prop):Prop:=
 ∀(MP:List (Addr×Obj)) (s:IY) (σ:St) (H:Hp) (x:V) (v vl a:I0) (lo hi:Option Int) (b:Addr) (Q:VK),Inv X MP σ H s->RelV x v->s.heap.IsSliceOf b vl a .none->IsPart vl lo->IsPart a hi->r x lo hi H Q->
  ∃T id,typeLookup (.type T) "__getitem__"=pure (MA (.builtin id))/\s.TypeIs v T/\J7 (Jg X.prog X.w) X.A (getItem v (.ref b)) (EP X MP σ Q) X.xe s
theorem Rk.or{r a:V->Option Int->Option Int->Hp->VK->Prop}(h:Rk X r)(h':Rk X a):Rk X (fun x lo hi H Q=>r x lo hi H Q\/a x lo hi H Q):=by
 intro MP s σ H x v vl b lo hi c Q I d hs pl f q;rcases q with q|q
 ·exact h MP s σ H x v vl b lo hi c Q I d hs pl f q
 ·exact h' MP s σ H x v vl b lo hi c Q I d hs pl f q
def Xk(r:V->Option Int->Option Int->Hp->VK->Prop)(te:TE)(tl th:TO):TE:=fun σ H Q=>te σ H fun x H1=>tl σ H1 fun l a=>th σ a fun u b=>r x l u b Q
theorem x9{r:V->Option Int->Option Int->Hp->VK->Prop}(i:Rk X r)(he:PE X e te)(j:PO X lo tl)(k:PO X hi th):PE X (.Subscript e (.Slice lo hi MB p2) pos) (Xk r te tl th):=by intro MP s σ H Q I h;refine Subscript_ (NQ (he MP s σ H _ I h) fun v m c=>?_);obtain⟨x,H1,n,o,p⟩:=c;refine wpAny_Slice (NQ (j MP m σ H1 _ n p) fun vl t ⟨l,y,z,pl,B⟩=>NQ (k MP t σ y _ z B) fun f a d=>?_);obtain⟨u,g,C,D,E⟩:=d;rw[evalPart_none];refine IX ?_;have F:Inv X MP σ g { a with heap:=a.heap.push { cls:=.type "slice",data:=.fields #[vl,f,.none] } }:=C.kept (t':=a.toks) fun b L q=>J3 _ q;obtain⟨T,id,G,J,K⟩:=i MP { a with heap:=a.heap.push { cls:=.type "slice",data:=.fields #[vl,f,.none] } } σ g x v vl f l u a.heap.objs.size Q F o (Heap.IsSliceOf.new ..) pl D E;show J7 (Jg X.prog X.w) X.A (subscriptTail e (.Slice lo hi MB p2) v (.ref a.heap.objs.size)) (EP X MP σ Q) X.xe { a with heap:=a.heap.push { cls:=.type "slice",data:=.fields #[vl,f,.none] } };exact tail_any (ops:=[.ref a.heap.objs.size,v]) J G K (by with_unfolding_all rfl)
def pF(xs:List V)(lo hi:Option Int):List V:=(xs.drop (HT.sIx xs.length 0 lo)).take (HT.sIx xs.length xs.length hi-HT.sIx xs.length 0 lo)
theorem j6(xs:List V)(lo hi:Option Int):(pF xs lo hi).length<=xs.length:=by unfold pF;rw[KJ,List.length_drop];omega
def HP(K:IW):V->Option Int->Option Int->Hp->VK->Prop:=fun x lo hi H Q=>∃a xs,x=.ref a/\N1 K H a xs/\
 ¬(HT.sIx xs.length 0 lo=0/\HT.sIx xs.length xs.length hi=xs.length)/\∀p,H p=MB->Q (.ref p) (upd H p (.tup (pF xs lo hi)))
theorem D7:Rk X (HP X.K):=by
 intro MP s σ H x v vl m lo hi n Q I i hs pl j h;obtain⟨a,xs,rfl,k,l,q⟩:=h;cases i;obtain⟨d,r,f,g⟩:=I.tuple k;have c:d.toArray.size=xs.length:=by rw[Jj];exact r.length.symm
 refine⟨"tuple",_,Kk.lookup,f.typeIs,?_⟩;refine HT.iX f hs pl j (by rw[c];exact l) ?_ (by rw[c];exact g);rw[c];refine⟨.ref s.heap.objs.size,_,I.laid (t':=s.toks) (o:=.tup (pF xs lo hi)) (fun b p q=>J3 _ q) (J1 _) ?_,rfl,q _ (I.hok.fresh (J1 _))⟩;exact⟨Ke (j6 xs lo hi) g,_,(r.drop (HT.sIx xs.length 0 lo)).take (HT.sIx xs.length xs.length hi-HT.sIx xs.length 0 lo),IsTup.new _ _,R9.new _ _⟩
def IV(K:IW):R2:=fun x y H Q=>∃a b ns ms,x=.ref a/\y=.ref b/\N1 K H a (ns.map V.int)/\N1 K H b (ms.map V.int)/\Q (.bl (HT.lexLt ns ms)) H
theorem EA(f:X.A.units<Kf):Ni X (JN .Lt) (IV X.K):=by intro MP s σ H x y v u Q I g i h;obtain⟨a,b,ns,ms,rfl,rfl,j,k,q⟩:=h;cases g;cases i;obtain⟨d,l,m,_⟩:=I.tuple j;obtain⟨c,n,p2,_⟩:=I.tuple k;have o:KG d.toArray.toList ns:=intsAre_of l;have p:KG c.toArray.toList ms:=intsAre_of n;exact HT.k5 m p2 o p f ⟨.bl (HT.lexLt ns ms),H,I,rfl,q⟩
def Ht(K:IW):R2:=fun x y H Q=>∃a b xs c,x=.ref a/\y=.ref b/\N1 K H a xs/\N1 K H b c/\xs≠[]/\xs.length+c.length<=Jb/\
 (c=[]->Q (.ref a) H)/\(c≠[]->∀p,H p=MB->Q (.ref p) (upd H p (.tup (xs++c))))
theorem Vals.pf{xs:List V}{us:List I0}(r:Vals xs us):us=[]↔xs=[]:=by
 cases r with
 |nil=>simp
 |cons _ _=>simp
theorem BE:Ni X (Le .Add) (Ht X.K):=by intro MP s σ H x y v u Q I i j h;obtain⟨a,b,xs,k,rfl,rfl,l,m,n,f,p,r⟩:=h;cases i;cases j;obtain⟨t,d,A,_⟩:=I.tuple l;obtain⟨g,c,p2,_⟩:=I.tuple m;refine HT.Bb A p2 (fun z=>n (d.pf.mp z)) (fun z=>⟨.ref a,H,I,rfl,p (c.pf.mp z)⟩) (fun z=>?_) (by rw[<-d.length,<-c.length];exact f);refine⟨.ref s.heap.objs.size,_,I.laid (t':=s.toks) (o:=.tup (xs++k)) (fun b B q=>J3 _ q) (J1 _) ?_,rfl,r (fun w=>z (c.pf.mpr w)) _ (I.hok.fresh (J1 _))⟩;exact⟨by rw[JX];exact f,_,d.append c,IsTup.new _ _,R9.new _ _⟩
end
def ixN(n:Nat)(i:Int):Option Nat:=if 0<=i then(if i<n then MA i.toNat else MB)else if -(n:Int)<=i then MA (i+n).toNat else MB
def atI{a:Type}(xs:List a)(i:Int):Option a:=(ixN xs.length i).bind fun j=>xs[j]?
theorem uC{n:Nat}{i:Int}{j:Nat}(h:ixN n i=MA j):seqIndex? i n=MA j/\j<n/\-(n:Int)<=i/\i<n:=by
 unfold ixN at h;by_cases b:0<=i
 ·rw[MF b]at h;by_cases a:i<n
  ·rw[MF a]at h;have e:i.toNat=j:=Option.some.inj h;exact⟨by rw[seqIndex_of b a,e],by omega,by omega,a⟩
  ·rw[ME a]at h;cases h
 ·rw[ME b]at h;by_cases a:-(n:Int)<=i
  ·rw[MF a]at h;have e:(i+n).toNat=j:=Option.some.inj h;exact⟨by rw[seqIndex_neg (by omega) a,e],by omega,a,by omega⟩
  ·rw[ME a]at h;cases h
theorem oM{a:Type}{xs:List a}{i:Int}{v:a}(h:atI xs i=MA v):∃j,seqIndex? i xs.length=MA j/\xs[j]?=MA v/\j<xs.length/\-(xs.length:Int)<=i/\i<xs.length:=by
 unfold atI at h;cases e:ixN xs.length i with
 |none=>rw[e]at h;cases h
 |some j=>
  rw[e]at h
  obtain⟨b,c,d,f⟩:=uC e
  exact⟨j,b,h,c,d,f⟩
theorem bz{a:Type}{xs:List a}{j:Nat}{v:a}(h:xs[j]?=MA v):atI xs (j:Int)=MA v:=by
 have b:j<xs.length:=(Ja.mp h).1;have e:ixN xs.length (j:Int)=MA j:=by unfold ixN;rw[MF (by omega),MF (by omega)];simp
 unfold atI;rw[e];exact h
def n6(b:Expr):Prop:=∀o i,subscripted b MD o i=operate [o,i] (getItem o i)
def Pu(X:Cx)(r:R2):Prop:=
 ∀(b a:Expr) (MP:List (Addr×Obj)) (s:IY) (σ:St) (H:Hp) (x y:V) (v u:I0) (Q:VK),Inv X MP σ H s->RelV x v->RelV y u->r x y H Q->
  subscripted a MD v u=operate [v,u] (getItem v u)->J7 (Jg X.prog X.w) X.A (subscriptTail b a v u) (EP X MP σ Q) X.xe s
def X0(X:Cx)(id:String)(r:V->List V->Hp->VK->Prop):Prop:=
 ∀(MP:List (Addr×Obj)) (s:IY) (σ:St) (H:Hp) (x:V) (xs:List V) (v:I0) (us:List I0) (Q:VK),Inv X MP σ H s->RelV x v->Vals xs us->r x xs H Q->
  J7 (Jg X.prog X.w) X.A (call (.builtin id) (v::us)) (EP X MP σ Q) X.xe s
section
variable{X:Cx}{a b:Expr}{ta tb:TE}{pos:Pos}
theorem Pu.or{r e:R2}(h:Pu X r)(h':Pu X e):Pu X (fun x y H Q=>r x y H Q\/e x y H Q):=by
 intro c d MP s σ H x y v u Q I f g q hs;rcases q with q|q
 ·exact h c d MP s σ H x y v u Q I f g q hs
 ·exact h' c d MP s σ H x y v u Q I f g q hs
theorem Hb{r:R2}(c:Pu X r)(d:PE X a ta)(e:PE X b tb)(hs:n6 b):PE X (.Subscript a b pos) (SJ r ta tb):=by intro MP s σ H Q I h;exact Subscript_ (EK d e I h fun v u f x y g i j k q=>c a b MP f σ g x y v u Q i j k q (hs _ _))
def F6(K:IW):R2:=fun x y H Q=>∃p xs i v,x=.ref p/\y=.int i/\NZ K H p xs/\atI xs i=MA v/\Q v H
def Fz(K:IW):R2:=fun x y H Q=>∃p xs i v,x=.ref p/\y=.int i/\N1 K H p xs/\atI xs i=MA v/\Q v H
def GW:R2:=fun x y H Q=>∃z i c,x=.str z/\y=.int i/\z.length<=Jb/\atI z.cps.toList i=MA c/\Q (.str ⟨#[c]⟩) H
theorem Bk:Pu X (F6 X.K):=by
 intro e f MP s σ H x y v u Q I o A h hs;obtain⟨p,xs,i,z,rfl,rfl,B,C,q⟩:=h;cases o;obtain⟨t,rfl⟩:=A;obtain⟨g,r,pl,L⟩:=I.list B;obtain⟨j,d,D,M,E,F⟩:=oM C;obtain⟨w,m,k⟩:=r.get D;have G:=r.length;have N:=jr;have c:EP X MP σ Q w s:=⟨z,H,I,k,q⟩;by_cases n:0<=i
 ·have l:i.toNat=j:=by rw[seqIndex_of n F]at d;exact Option.some.inj d
  exact item_listR pl.isList n (by omega) (by rw[l];simpa using m) c hs
 ·have l:(i+(g.toArray.size:Int)).toNat=j:=by rw[seqIndex_neg (by omega) E]at d;rw[Jj,<-G];exact Option.some.inj d
  exact subscriptTail_builtinR (x:=w) pl.isList.typeIs slot_list_getitem.lookup (wpAny_getItem_list_neg (Q:=fun r J=>r=w/\EP X MP σ Q r J) pl.isList (by omega) (by rw[Jj]<;>omega) (by omega) (by rw[l];simpa using m) ⟨rfl,c⟩) hs
theorem Fc:Pu X (Fz X.K):=by intro c d MP s σ H x y v u Q I g k h hs;obtain⟨p,xs,i,z,rfl,rfl,l,m,q⟩:=h;cases g;obtain⟨t,rfl⟩:=k;obtain⟨n,r,pl,E⟩:=I.tuple l;obtain⟨j,o,A,F,G,J⟩:=oM m;obtain⟨w,B,e⟩:=r.get A;have C:=r.length;have L:=jr;have f:EP X MP σ Q w s:=⟨z,H,I,e,q⟩;exact subscriptTail_builtinR (x:=w) pl.typeIs slot_tuple_getitem.lookup (getItem_tuple (j:=j) (Q:=fun r D=>r=w/\EP X MP σ Q r D) pl (by omega) (by omega) (by rw[Jj,<-C];exact o) (by simpa using B) ⟨rfl,f⟩) hs
theorem DD:Pu X GW:=by
 intro d e MP s σ H x y v u Q I g k h hs;obtain⟨z,i,c,rfl,rfl,r,l,q⟩:=h;obtain⟨t,rfl⟩:=g;obtain⟨w,rfl⟩:=k;obtain⟨j,f,m,A,n,o⟩:=oM l;have p:z.cps.toList.length=z.length:=by simp[Str.length]
 rw[p]at f n o;have B:=jr
 exact tail_any (typeIs_str s z t) slot_str_getitem.lookup (getItem_str (c:=c) (by
  have e1:decide (i < -(2^63:Int))=MD:=MG (by omega)
  have e2:decide (i≥2^63)=MD:=MG (by omega)
  rw[e1,e2,Bool.or_false]) (by rw[f];simpa using m) ⟨.str ⟨#[c]⟩,H,I.tok _,⟨_,rfl⟩,q⟩) hs
def XQ(K:IW):R2:=fun x y H Q=>F6 K x y H Q\/Fz K x y H Q\/GW x y H Q
theorem C4:Pu X (XQ X.K):=Bk.or (Fc.or DD)
theorem rH(c:List I0)(n j:Nat)(u:I0):Obj.mapSeq (·.setIfInBounds j u) { cls:=.type "list",data:=.seq c.toArray n }={ cls:=.type "list",data:=.seq (c.set j u).toArray n }:=by simp[Obj.mapSeq]
theorem Inv.lst{MP:List (Addr×Obj)}{σ:St}{H:Hp}{s:IY}{p:Addr}{xs:List V}(I:Inv X MP σ H s)(h:H p=MA (.lst xs)) : ∃(c:List I0) (n:Nat),Vals xs c/\s.heap.get? p=MA { cls:=.type "list",data:=.seq c.toArray n }/\xs.length<=Jb:=by obtain⟨z,c,n,r,e⟩:=I.hok p _ h;exact⟨c,n,r,e,z⟩
theorem Inv.Ey{MP:List (Addr×Obj)}{σ:St}{H:Hp}{s:IY}{p:Addr}{xs d:List V}{c its':List I0}{n g:Nat}{f:Obj->Obj}(I:Inv X MP σ H s)(h:H p=MA (.lst xs))
 (j:s.heap.get? p=MA { cls:=.type "list",data:=.seq c.toArray n }) (i:f { cls:=.type "list",data:=.seq c.toArray n }={ cls:=.type "list",data:=.seq its'.toArray g }) (r:Vals d its') (hz:d.length<=Jb) (t:Nat) :
 Inv X MP σ (upd H p (.lst d)) { s with heap:=s.heap.update p f,toks:=t }:=by
 have e:(s.heap.update p f).get? p=MA { cls:=.type "list",data:=.seq its'.toArray g }:=by
  rw[Kx f j (by rw[i]<;>rfl),i]
 refine I.write (x:=p) (e:=p) (by rw[h];trivial) (.inl rfl) (fun b u k q=>(KL _ _ (Ne.symm k)).trans q) ⟨_,e⟩ ?_
 exact⟨hz,its',g,r,e⟩
def GL:V->V->V->Hp->(Hp->Prop)->Prop:=fun o i v H Q=>∃p xs k j,o=.ref p/\i=.int k/\H p=MA (.lst xs)/\ixN xs.length k=MA j/\Q (upd H p (.lst (xs.set j v)))
theorem set_list:FW X GL:=by
 intro MP s σ H o i v E F u Q I z A B h;obtain⟨p,xs,k,j,rfl,rfl,l,C,q⟩:=h;cases z;obtain⟨t,rfl⟩:=A;obtain⟨c,n,r,e,D⟩:=I.lst l;obtain⟨d,G,m,w⟩:=uC C;have f:=r.length;have J:=jr;have x:Inv X MP σ (upd H p (.lst (xs.set j v))) { s with heap:=s.heap.update p (Obj.mapSeq (·.setIfInBounds j u)) }:=I.Ey l e (rH c n j u) (r.set B j) (by rw[List.length_set];exact D) s.toks;by_cases y:0<=k
 ·have g:k.toNat=j:=by rw[seqIndex_of y w]at d;exact Option.some.inj d
  exact PySem.W.ki_setAt e y (by omega) (by rw[Jj,<-f];exact w) (by rw[g];exact⟨_,x,q⟩)
 ·have g:(k+(c.toArray.size:Int)).toNat=j:=by rw[seqIndex_neg (by omega) m]at d;rw[Jj,<-f];exact Option.some.inj d
  exact PySem.W.ki_setBack e (by omega) (by rw[Jj,<-f];exact m) (by omega) (by rw[g];exact⟨_,x,q⟩)
theorem oK(lo hi:Option Int)(n:Nat):(sliceBounds lo hi MB n).1=((HT.sIx n 0 lo:Nat):Int)/\(sliceBounds lo hi MB n).2.1=((HT.sIx n n hi:Nat):Int)/\(sliceBounds lo hi MB n).2.2=1:=by
 refine⟨?_,?_,rfl⟩
 ·cases lo with
  |none=>simp[sliceBounds,HT.sIx]
  |some i=>
   simp only[sliceBounds,HT.sIx,Option.getD_none,show(1:Int)>0 by decide,if_true]
   by_cases h:i<0
   ·simp only[h,if_true]<;>omega
   ·simp only[h,if_false]<;>omega
 ·cases hi with
  |none=>simp[sliceBounds,HT.sIx]
  |some i=>
   simp only[sliceBounds,HT.sIx,Option.getD_none,show(1:Int)>0 by decide,if_true]
   by_cases h:i<0
   ·simp only[h,if_true]<;>omega
   ·simp only[h,if_false]<;>omega
theorem mV(c:List I0)(lo hi:Option Int):slicePick c.toArray lo hi MB=((c.drop (HT.sIx c.length 0 lo)).take (HT.sIx c.length c.length hi-HT.sIx c.length 0 lo)).toArray:=by obtain⟨d,e,f⟩:=oK lo hi c.toArray.size;unfold slicePick;rw[d,e,f];simp only[sliceRange_one,pick_run,Jj]<;>rfl
def Ie(K:IW):V->Option Int->Option Int->Hp->VK->Prop:=fun x lo hi H Q=>∃a xs,x=.ref a/\NZ K H a xs/\∀p,H p=MB->Q (.ref p) (upd H p (.lst (pF xs lo hi)))
theorem BN:Rk X (Ie X.K):=by intro MP s σ H x v vl k lo hi l Q I e hs pl f h;obtain⟨a,xs,rfl,g,q⟩:=h;cases e;obtain⟨i,r,d,j⟩:=I.list g;have c:=r.length;refine⟨"list",_,slot_list_getitem.lookup,d.isList.typeIs,?_⟩;refine wpAny_getItem_list_slice d.isList hs pl f .none (by simp) ?_ (by rw[Jj]<;>omega);rw[mV,<-c];refine⟨.ref s.heap.objs.size,_,I.laid (t':=s.toks) (o:=.lst (pF xs lo hi)) (fun b m q=>J3 _ q) (J1 _) ?_,rfl,q _ (I.hok.fresh (J1 _))⟩;exact⟨Ke (j6 xs lo hi) j,_,0,(r.drop (HT.sIx xs.length 0 lo)).take (HT.sIx xs.length xs.length hi-HT.sIx xs.length 0 lo),J8 _ rfl⟩
theorem oE:bO X (.builtin "len") (fun xs H Q=>∃p d,xs=[.ref p]/\(NZ X.K H p d\/N1 X.K H p d)/\Q (.int d.length) H):=by
 intro MP s σ H xs us Q I r h;obtain⟨p,d,rfl,e,q⟩:=h;obtain⟨u,rfl,i⟩:=vals1 r;cases i;have k:=jr;rcases e with e|e
 ·obtain⟨f,g,pl,j⟩:=I.list e;have c:=g.length;exact Calls.call_len_list pl.isList (by simp only[Jj]<;>omega) ⟨.int d.length,H,I.tok _,⟨s.toks+1,by rw[Jj,c]⟩,q⟩
 ·obtain⟨f,g,pl,j⟩:=I.tuple e;have c:=g.length;exact len_tuple pl (by simp only[Jj]<;>omega) ⟨.int d.length,H,I.tok _,⟨s.toks+1,by rw[Jj,c]⟩,q⟩
theorem bO.or{f:I0}{r c:List V->Hp->VK->Prop}(h:bO X f r)(h':bO X f c):bO X f (fun xs H Q=>r xs H Q\/c xs H Q):=by
 intro MP s σ H xs us Q I d q;rcases q with q|q
 ·exact h MP s σ H xs us Q I d q
 ·exact h' MP s σ H xs us Q I d q
theorem ox:bO X (.type "list") (fun xs H Q=>∃p f,xs=[.ref p]/\(NZ X.K H p f\/N1 X.K H p f)/\∀l,H l=MB->Q (.ref l) (upd H l (.lst f))):=by
 intro MP s σ H xs us Q I r h;obtain⟨p,f,rfl,j,q⟩:=h;obtain⟨u,rfl,z⟩:=vals1 r;cases z;have k:∀(c:List I0),Vals f c->f.length<=Jb->∀(d:Heap) (g:Nat),(∀b y,s.heap.get? b=MA y->d.get? b=MA y)->d.get? s.heap.objs.size=MA { cls:=.type "list",dict:=MB,data:=.seq c.toArray g,slots:=#[] }->EP X MP σ Q (.ref s.heap.objs.size) { s with heap:=d }:=fun c i m d g kp e=>⟨.ref s.heap.objs.size,_,I.laid (t':=s.toks) kp (J1 _) (show bT X.prog X.w _ d _ (.lst f)from⟨m,c,g,i,e⟩),rfl,q _ (I.hok.fresh (J1 _))⟩;rcases j with j|j
 ·obtain⟨c,i,pl,m⟩:=I.list j;have t:=i.length;obtain⟨o,v,x,n,hd⟩:=pl.isList;exact call_list_seq p (.inl rfl) v x hd (fun d g kp e=>k c i m d g kp e) (by simp only[Jj]<;>omega)
 ·obtain⟨c,i,pl,m⟩:=I.tuple j;have t:=i.length;obtain⟨o,v,x,n,hd⟩:=pl;exact call_list_seq p (.inr rfl) v x hd (fun d g kp e=>k c i m d g kp e) (by simp only[Jj]<;>omega)
theorem mS:bO X (.type "tuple") (fun xs H Q=>∃p d,xs=[.ref p]/\((NZ X.K H p d/\∀l,H l=MB->Q (.ref l) (upd H l (.tup d)))\/(N1 X.K H p d/\Q (.ref p) H))):=by
 intro MP s σ H xs us Q I r h;obtain⟨p,d,rfl,h⟩:=h;obtain⟨u,rfl,n⟩:=vals1 r;cases n;rcases h with⟨g,q⟩|⟨g,q⟩
 ·obtain⟨c,i,pl,j⟩:=I.list g;have k:=i.length;refine call_tuple_list pl.isList (fun f kp=>?_) (by simp only[Jj]<;>omega);have m:Inv X MP σ H { s with heap:=f }:=I.kept (t':=s.toks) kp;have t:Inv X MP σ (upd H f.objs.size (.tup d)) { s with heap:=f.push { cls:=.type "tuple",data:=.seq c.toArray } }:=m.laid (t':=s.toks) (fun b o e=>J3 _ e) (J1 _) (show bT X.prog X.w _ _ _ (.tup d)from⟨j,c,i,IsTup.new _ _,R9.new _ _⟩);exact⟨.ref f.objs.size,_,t,rfl,q _ (m.hok.fresh (J1 _))⟩
 ·obtain⟨c,i,pl,j⟩:=I.tuple g;exact call_tuple_same pl ⟨.ref p,H,I,rfl,q⟩
def XH(K:IW)(T:String)(x:V)(H:Hp):Prop:=match x with
 |.str _=>T="str"
 |.int _=>T="int"
 |.ref p=>(T="list"/\∃xs,NZ K H p xs)\/(T="tuple"/\∃o,K.lookup p=MA o/\o.cls=.type "tuple"/\o.dict=MB)\/
  (T="dict"/\((∃kvs,H p=MA (.dK kvs))\/∃kvs,H p=MA (.dT kvs)))\/(T="set"/\∃S n,H p=MA (.set S n))
 |_=>False
theorem CK{MP:List (Addr×Obj)}{σ:St}{H:Hp}{s:IY}{T:String}{x:V}{v:I0}(I:Inv X MP σ H s)(r:RelV x v)(ty:XH X.K T x H) : s.TypeIs v T/\∀a,v=.ref a->∃f,s.heap.get? a=MA f/\f.dict=MB:=by
 cases x with
 |str z=>
  obtain⟨t,rfl⟩:=r
  cases (show T="str" from ty)
  exact⟨typeIs_str s z t,fun _ e=>nomatch e⟩
 |int i=>
  obtain⟨t,rfl⟩:=r
  cases (show T="int" from ty)
  exact⟨typeIs_int s i t,fun _ e=>nomatch e⟩
 |ref p=>
  cases r
  rcases ty with⟨rfl,xs,g⟩|⟨rfl,o,d,h,hd⟩|⟨rfl,d⟩|⟨rfl,S,n,d⟩
  ·obtain⟨j,_,pl,_⟩:=I.list g;refine⟨pl.isList.typeIs,fun a e=>?_⟩;cases e;obtain⟨o,n,e,c,hd,_⟩:=pl;exact⟨o,e,hd⟩
  ·refine⟨⟨o,I.kIn p o d,h⟩,fun a e=>?_⟩;cases e;exact⟨o,I.kIn _ o d,hd⟩
  ·have z:∃o,s.heap.get? p=MA o/\o.ExactDict:=by
    rcases d with⟨kvs,d⟩|⟨kvs,d⟩
    ·obtain⟨_,_,_,_,o,_,_,e,ex,_⟩:=I.hok p _ d;exact⟨o,e,ex⟩
    ·obtain⟨_,_,_,_,o,_,_,e,ex,_⟩:=I.hok p _ d;exact⟨o,e,ex⟩
   obtain⟨o,e,ex⟩:=z;refine⟨⟨o,e,ex.1⟩,fun a e2=>?_⟩;cases e2;exact⟨o,e,ex.2.1⟩
  ·obtain⟨o,_,_,_,e,ex,_⟩:=I.hok p _ d;refine⟨⟨o,e,ex.1⟩,fun a e2=>?_⟩;cases e2;exact⟨o,e,ex.2.1⟩
 |_=>exact JB ty
def Xn(K:IW)(T:String)(r:V->List V->Hp->VK->Prop)(c:TE)(t:TA):TE:=fun σ H Q=>c σ H fun x H1=>XH K T x H1/\t σ H1 fun xs d=>r x xs d Q
variable{o e:Expr}{es:List Expr}{to:TE}{t:TA}{name:Str}{apos bj:Pos}{T id:String}{r:V->List V->Hp->VK->Prop}
theorem CG(p:PlainAttrs T)(slot:Slot T name id)(k:typeOf (.builtin id)=pure (.type "method_descriptor"))(q:X0 X id r)(u:PE X o to)(w:PA X (e::es) t)
 (g:attributeBase o name X.env (eval o X.env)=eval o X.env:=by rfl)
 (j:((KO bj (Jd (e::es) X.env)).all (fun x=>!x.1)&&(backToKw bj (Mi [] X.env)).all (fun x=>x.1.isSome)
  && decide ((e::es).length+([]:List Keyword).length+(if([]:List Keyword).isEmpty then 0 else 1)<30))=MC:=by rfl)
 (i:(apos.endLine==bj.line)=MC:=by rfl) (hs:Jd (e::es) X.env=(MD,eval e X.env)::Jd es X.env:=by rfl) (c:(KO bj (Jd es X.env)).any (·.1)=MD:=by rfl) :
 PE X (.Call (.Attribute o name apos) (e::es) [] bj) (Xn X.K T r to t):=by
 intro MP s σ H Q I h
 refine wpAny_Call_method_late g j i rfl (NQ (u MP s σ H _ I h) fun v y d=>?_)
 obtain⟨x,H1,l,m,ty,z⟩:=d
 obtain⟨A,B⟩:=CK l m ty
 refine⟨T,id,p,slot,k,A,B,?_⟩
 have n:=w bj MP y σ H1 _ l z
 rw[hs]at n ⊢
 refine Calls.callWith_builtin (by show(MD||(KO bj (Jd es X.env)).any (·.1))=MD;rw[c]<;>rfl) (Calls.evalArgs_plain ?_)
 exact NQ n fun us C f=>by obtain⟨vs,D,E,F,G⟩:=f;exact(q MP C σ D x vs v us Q E m F G)
/- xs.append(e),list.index on a module's tuple .. are X0 facts of 06m -/
end
def XC(X:Cx)(id:String)(r:V->List V->Hp->VK->Prop):Prop:=
 ∀(MP:List (Addr×Obj)) (s:IY) (σ:St) (H:Hp) (x:V) (xs:List V) (v:I0) (us:List I0) (Q:VK),Inv X MP σ H s->RelV x v->Vals xs us->r x xs H Q->
  J7 (Jg X.prog X.w) X.A (call (.builtin id) (v::us)) (EP X MP σ Q) X.xe s
theorem Vals.one:∀{x:V} {us:List I0},Vals [x] us->∃u,us=[u]/\RelV x u:=by
 intro x us h;cases h with
 |cons r t=>cases t;exact⟨_,rfl,r⟩
theorem Vals.two:∀{x y:V} {us:List I0},Vals [x,y] us->∃u v,us=[u,v]/\RelV x u/\RelV y v:=by
 intro x y us h;cases h with
 |cons r t=>
  cases t with
  |cons q n=>cases n;exact⟨_,_,rfl,r,q⟩
theorem Vals.rep{xs:List V}{us:List I0}(h:Vals xs us):∀k:Nat,Vals (JA k xs).flatten (JA k us).flatten
 |0=>.nil
 |k+1=>by
  rw[KP,KP,L8,L8]
  exact Vals.append h (Vals.rep h k)
theorem foldl_rep(a:List I0):∀(k:Nat) (b:List I0),
 List.foldl (fun x1 c=>x1++c) b.toArray (JA k a.toArray)=(b++(JA k a).flatten).toArray
 |0,b=>by simp
 |k+1,b=>by
  have e:b.toArray++a.toArray=(b++a).toArray:=by simp
  have e2:(b++a)++(JA k a).flatten=b++(JA (k+1) a).flatten:=by
   rw[KP,L8,List.append_assoc]
  rw[<-e2,<-foldl_rep a k (b++a),<-e,KP,Lx]
section
variable{X:Cx}{MP:List (Addr×Obj)}{σ:St}{H:Hp}{s:IY}{l b:Addr}{xs ys zs:List V}
theorem Inv.Hx{a its':List I0}{n:Nat}{f:Array I0->Array I0}{t':Nat}(I:Inv X MP σ H s)(c:H l=MA (.lst xs))
 (e:s.heap.get? l=MA { cls:=.type "list",data:=.seq a.toArray n }) (d:f a.toArray=its'.toArray) (g:Vals ys its') (hz:ys.length<=Jb) :
 Inv X MP σ (upd H l (.lst ys)) { s with heap:=s.heap.update l (Obj.mapSeq f),toks:=t' }:=by
 have q:=PySem.IsL.update e f
 rw[d]at q
 refine I.write (x:=l) (e:=l) (by rw[c];exact trivial) (.inl rfl) (fun j u h i=>(KL s.heap (Obj.mapSeq f) (Ne.symm h)).trans i) ⟨_,q⟩ ?_
 exact⟨hz,its',_,g,q⟩
theorem Inv.GB{a:List I0}{t':Nat}(I:Inv X MP σ H s)(c:Vals ys a)(hz:ys.length<=Jb) : Inv X MP σ (upd H s.heap.objs.size (.lst ys)) { s with heap:=s.heap.push { cls:=.type "list",data:=.seq a.toArray },toks:=t' }:=I.laid (fun _ _ q=>J3 _ q) (J1 _) ⟨hz,a,0,c,J8 _ rfl⟩
theorem Inv.fresh(I:Inv X MP σ H s):H s.heap.objs.size=MB:=I.hok.fresh (J1 _)
theorem Inv.p5(I:Inv X MP σ H s)(c:H l=MA (.lst xs)):xs.length<=Jb/\∃(a:List I0) (n:Nat),Vals xs a/\xs.length=a.length/\s.heap.get? l=MA { cls:=.type "list",data:=.seq a.toArray n }:=by obtain⟨z,a,n,r,e⟩:=I.hok l _ c;exact⟨z,a,n,r,r.length,e⟩
theorem xk{n:Nat}(h:n<=Jb):Builtin.List.listTooLong n=MD:=by unfold Builtin.List.listTooLong;exact MG (by omega)
end
section
variable{X:Cx}
def A4:V->List V->Hp->VK->Prop:=fun x vs H Q=>∃l xs y,x=.ref l/\vs=[y]/\H l=MA (.lst xs)/\xs.length<Jb/\Q .non (upd H l (.lst (xs++[y])))
theorem jN:XC X "list.append" A4:=by intro MP s σ H x vs v us Q I c d h;obtain⟨l,xs,y,rfl,rfl,b,g,q⟩:=h;cases c;obtain⟨u,rfl,f⟩:=d.one;obtain⟨z,a,n,r,i,e⟩:=I.p5 b;refine call_meets F.slot_list_append ⟨_,e,rfl⟩ F.entry_list_append (F.args_list_append_2 _ _) (PySem.list_append l a.toArray n u (by rw[Jj];omega)) ⟨e,?_⟩;refine⟨.non,_,I.Hx (its':=a++[u]) b e (by simp) (r.append (.cons f .nil)) ?_,rfl,q⟩;rw[JX,List.length_singleton];omega
def HZ:R2:=fun x y H Q=>∃l b xs a,x=.ref l/\y=.ref b/\H l=MA (.lst xs)/\H b=MA (.lst a)/\xs.length+a.length<=Jb/\∀p,H p=MB->Q (.ref p) (upd H p (.lst (xs++a)))
theorem Eh:Ni X (Le .Add) HZ:=by
 intro MP s σ H x y v u Q I d f h;obtain⟨l,b,xs,m,rfl,rfl,g,i,o,q⟩:=h;cases d;cases f;obtain⟨z,c,n,r,p,e⟩:=I.p5 g;obtain⟨t,a,w,j,k,e2⟩:=I.p5 i;refine PySem.P.add_list e e2 ?_ (by rw[Jj,Jj];omega);have ea:c.toArray++a.toArray=(c++a).toArray:=by simp
 rw[ea];exact⟨.ref _,_,I.GB (t':=s.toks) (r.append j) (by rw[JX];omega),rfl,q _ I.fresh⟩
def Ir:R2:=fun x y H Q=>∃l k xs,x=.ref l/\y=.int k/\H l=MA (.lst xs)/\-(2^63)<=k/\k<2^63/\xs.length*k.toNat<=Jb/\
 ∀p,H p=MB->Q (.ref p) (upd H p (.lst (JA k.toNat xs).flatten))
theorem len_rep{a:Type}(xs:List a)(k:Nat):(JA k xs).flatten.length=k*xs.length:=by
 induction k with
 |zero=>simp
 |succ k b=>rw[KP,L8,JX,b,Nat.succ_mul,Nat.add_comm]
theorem Fe:Ni X (Le .Mult) Ir:=by
 intro MP s σ H x y v u Q I p w h;obtain⟨l,k,xs,rfl,rfl,A,B,C,o,q⟩:=h;cases p;obtain⟨t,rfl⟩:=w;obtain⟨z,b,n,r,D,e⟩:=I.p5 A;have d:b.toArray.size*k.toNat<=Jb:=by rw[Jj,<-D];exact o
 have f:¬b.toArray.size*k.toNat>(2^63-1)/8:=by
  have:(Jb:Nat)<=(2^63-1)/8:=by decide
  omega
 have g:¬(!Builtin.List.listFitsIndex k)=MC:=by rw[fitsIndex_both B C];exact Jf
 have c:¬Builtin.List.listTooLong (b.toArray.size*k.toNat)=MC:=by rw[xk d];exact Jf
 have i:List.foldl (fun x1 j=>x1++j) #[] (JA (if b.toArray.isEmpty=MC then 0 else k.toNat) b.toArray)=(JA k.toNat b).flatten.toArray:=by
  have E:∀m:Nat,List.foldl (fun x1 j=>x1++j) #[] (JA m b.toArray)=(JA m b).flatten.toArray:=fun m=>by
   have:=foldl_rep b m []
   rw[List.nil_append]at this
   exact this
  rw[E]
  cases b with
  |nil=>simp
  |cons a J=>rw[ME (by simp)]
 refine wpAny_binaryOp_repeat_ref (T:="list") (U:="int") (by decide) ⟨_,e,rfl⟩ (fun G=>typeIs_int G k t) noFill_list_mul F.fills_int_mul F.slot_int_rmul repeat_list F.slot_int_index.lookup
  (call_meets F.slot_int_rmul (typeIs_int s k t) F.entry_int_rmul (F.args_int_rmul_2 _ _) (int___rmul___int_list k t l b.toArray n)
   ⟨e,rfl,⟨_,e,rfl⟩,call_meets F.slot_list_mul ⟨_,e,rfl⟩ F.entry_list_mul (F.args_list_mul_2 _ _) (AutoListH.list___mul___list_int_3 l b.toArray n k t g f c) ⟨e,?_⟩⟩)
 rw[i];exact⟨.ref _,_,I.GB (t':=s.toks) (r.rep k.toNat) (by rw[len_rep,Nat.mul_comm];exact o),rfl,q _ I.fresh⟩
end
end L2
namespace Att
open PySem PySem.W PySem.Calls PyProof.Rows
theorem kg{P:JD}{h:Heap}:∀(ns:List Int) (vs:List I0),WellAll P h vs (ns.map WData.int)->KG vs ns:=by
 intro ns
 induction ns with
 |nil=>
  intro vs w
  rw[KA]at w
  cases w
  exact .nil
 |cons n ns c=>
  intro vs w
  rw[J5]at w
  cases w with
  |cons a b=>
   cases a
   exact .cons _ _ (c _ b)
theorem wD{l:OpenLaw}{n:Nat}(o:l.most=MA n){P:JD}{h:Heap}{args:List WData}{b:List I0}
 (c:l.row.toRowW.claim.pre args=MC) (j:WellAll P h b args) :
 ∃a vs ns,b=[L9 a]/\args=[WData.list (ns.map WData.int)]/\h.get? a=MA { cls:=.type "list",data:=.seq vs.toArray }/\KG vs ns/\ns.length<=n:=by
 have k:WShape.hasAll [] args [.list .int]=MC:=(pre_splitW c).1
 have m:l.pre.holds [] { args:=args }=MC:=(pre_splitW c).2
 obtain⟨d,r,rfl,p,s⟩:=hasAllW_cons k
 obtain rfl:=hasAllW_nil s
 obtain⟨xs,rfl,t⟩:=hasW_list p
 obtain⟨ns,rfl⟩:=items_int t
 have e:ns.length<=n:=by
  unfold OpenLaw.pre at m
  have g:(WTm.not (.lt (.lit (.int (n:Int))) (.len (.arg 0)))).holds [] { args:=[.list (ns.map .int)] }=MC:=by
   have g:=(holds_andW m).1
   rw[o]at g
   exact g
  have i:=condW_of g (w_not (w_lt w_lit (w_len_list (w_arg rfl))))
  rw[IZ]at i
  refine Nat.le_of_not_lt fun q=>?_
  have u:(n:Int)<((ns.length:Nat):Int):=by omega
  first
   |(rw[MI u]at i;exact absurd i (by decide))
   |(simp at i;omega)
 cases j with
 |cons v w=>
  cases w
  cases v with
  |list x f=>exact⟨_,_,ns,rfl,rfl,x,kg ns _ f,e⟩
theorem wL(l:OpenLaw)(args:List WData):l.row.toRowW.claim.post args (.bool MC) args=MC:=
 postW_of (r:=l.row.toRowW) (X:=(MC==MC))
  (show WShape.has [] (.bool MC) .bool=MC by first|rfl|decide|simp[WShape.has,WShape.arms,WShape.armsAll])
  (show(WTm.eq .res (.lit (.bool MC))).value [] { args:=args,res:=MA (.bool MC),after:=args }=MA (.bool (MC==MC))from w_eq_bool (w_res rfl) w_lit) rfl
theorem qY{l:OpenLaw}{n:Nat}{q:Jl}{c:List Str}{y:(Str->Option I0)->Heap->Prop}{z:JL->Heap->Prop}{d:DefRec}
 (D:l.most=MA n) (p:d.params.defaults=[])
 (call:∀(w:JL) (s₀ b:IY) (mg s:Str->Option I0) (fa:Addr) (o:Obj) (t k e:I0) (a:Addr) (vs:List I0) (ns:List Int),
  Ground q c [] y w s₀ mg s b.heap->z w b.heap->
  b.heap.get? fa=MA o->o.data=.func (docDef d.name d.params d.body d.scope t k e)->b.heap.CodeRec k d.name->mg d.name=MA (.ref fa)->
  b.heap.get? a=MA { cls:=.type "list",data:=.seq vs.toArray }->KG vs ns->ns.length<=n->b.gens=#[]->
  Ll (Jg l.prog w) callerA (.call (.ref fa) ⟨[.ref a],[]⟩) (fun r m=>r=.ok (.ret (.bool MC))/\OldK b.heap m.heap/\m.os=b.os/\AllBare m.gens) b) :
 WalkO q c y z l.row.toRowW d [] (fun f vs=>PySem.call f vs):=by
 intro w s₀ b mg s G Y fa o t k e E kV F hd u A v H args B P h C I x J
 obtain rfl:E=.none:=Dflts.none A p
 obtain rfl:kV=.none:=Dflts.noKw A
 obtain⟨a,vs,ns,rfl,rfl,i,g,j⟩:=wD D h x
 refine enter_call (Mh (call w s₀ b mg s fa o t k e a vs ns G Y F (fd_plain hd) u v i g j H) fun r m K=>?_)
 obtain⟨rfl,L,M,N⟩:=K
 exact⟨.inl ⟨.bool MC,.bool MC,[],rfl,fun _=>rfl,.bool MC,wL l _,fun _=>⟨List.Pairwise.nil,fun _ O=>(nomatch O)⟩⟩,L,M,N⟩
section
variable{prog:Jl}{w:JL}{A:JQ}{E:I0->IY->Prop}{s:IY}{K:Frag}
end
end Att
namespace L2
open PySem PySem.Spec PyProof.Rows
theorem gQ:∀{vs:List I0} {ns:List Int},KG vs ns->Vals (ns.map V.int) vs
 |_,_,.nil=>.nil
 |_,_,.cons n t h=>.cons ⟨t,rfl⟩ (gQ h)
def Dy(H:Hp):Prop:=∀b,H b=MB\/∃o xs,H b=MA (.frz o (.lst xs))
theorem xF{P:Jl}{w:JL}{K:IW}{mg I:Str->Option I0}{CX:Qi}{k:Nat}{fa a:Addr}{fd:My}{x:Str}{sp:Sp}{c:IY}{vs:List I0}{ns:List Int}
 (R:K.In c.heap) (y:c.heap.Ns Mg mg) (g:c.heap.Ns builtinsNs I) (J:∀x:Str,x≠"__name__"->I x=Ka x) (A:c.heap.NoLimit) (X:c.gens=#[])
 (G:c.heap.get? a=MA { cls:=.type "list",data:=.seq vs.toArray }) (hi:KG vs ns) (S:ns.length<=Jb) (Y:N0 k callerA)
 (F:∀base:Heap,K.In base->base.Ns Mg mg->OA P w K mg base CX k fa fd [x] sp) (t:∀(s:IY) (u:I0),BindsTo s fd ⟨[u],[]⟩ [(x,u)])
 (L:∀H:Hp,Dy H->NZ K H a (ns.map V.int)->sp [.ref a] H (fun v _=>v=.bl MC) fun _ _ _=>False)
 (M:∀H e i,CX [] H c (fun _ _ _=>False) e i->False) :
 Ll (Jg P w) callerA (.call (.ref fa) ⟨[.ref a],[]⟩) (fun r i=>r=.ok (.ret (.bool MC))/\OldK c.heap i.heap/\i.os=c.os/\AllBare i.gens) c:=by
 have T:=gQ hi
 have B:=hi.length
 have p:∀H:Hp,Dy H->NZ K H a (ns.map V.int)->Nz P w H c.heap->(∀b,H b≠MB->b=a)->(H a≠MB->K.lookup a=MB)->
  Ll (Jg P w) callerA (.call (.ref fa) ⟨[.ref a],[]⟩) (fun r i=>r=.ok (.ret (.bool MC))/\OldK c.heap i.heap/\i.os=c.os/\AllBare i.gens) c:=by
  intro H U Z hok W hK
  have f:∀{b:Addr} {o:Obj},c.heap.get? b=MA o->H b=MB->(ph c.heap H).get? b=MA o:=fun e n=>yM e n
  have N:∀{b:Addr} {o:Obj} {es:Array Kp} {ep:Nat},c.heap.get? b=MA o->o.data=.dict es ep->H b=MB:=fun{b o es ep} e d=>by
   cases q:H b with
   |none=>rfl
   |some u=>
    have O:b=a:=W b (by rw[q];simp)
    subst O
    rw[G]at e;cases e
    have d':Data.seq vs.toArray _=Data.dict es ep:=d
    cases d'
  have j:∀{b:Addr} {m:Str->Option I0},c.heap.Ns b m->(ph c.heap H).Ns b m:=fun{b m} l=>by obtain⟨o,es,ep,e,d,r⟩:=l;exact(⟨o,es,ep,f e (N e d),d,r⟩)
  have C:K.In (ph c.heap H):=fun b o e=>f (R b o e) (by
   cases q:H b with
   |none=>rfl
   |some u=>
    have O:b=a:=W b (by rw[q];simp)
    subst O
    rw[hK (by rw[q];simp)]at e;cases e)
  have hM:Mod K mg (ph c.heap H):=⟨C,j y,⟨I,j g,J⟩,let⟨mc,h1,h2⟩:=A;⟨mc,j h1,h2⟩⟩
  have e0:RF P w K mg (ph c.heap H) callerA [] c H:=⟨rfl,hM,fun b o e=>Bo e,Nat.le_of_eq (wH _ _),trivial,fun b g=>absurd (show b∈([]:List Addr)from g) (by simp),hok,.of_eq X⟩
  refine Mh ((F _ C (j y)).run callerA [] c H ⟨[.ref a],[]⟩ [.ref a] [.ref a] _ _ Y e0 (t c (.ref a)) (.cons rfl .nil) (L H U Z)) fun r i h=>?_
  cases r with
  |error e=>exact(M H e i h).elim
  |ok fl=>
   cases fl with
   |next=>exact JB h
   |brk=>exact JB h
   |cont=>exact JB h
   |ret u=>
    obtain⟨v,H',os,bare,un,D,r',q⟩:=h
    have q':v=.bl MC:=q
    subst q'
    obtain rfl:u=Value.bool MC:=r'
    refine⟨rfl,OldK.of_keep fun b o e=>?_,os,bare⟩
    cases q:H b with
    |none=>exact un.keep b o e q (by intro z;exact absurd (show b∈([]:List Addr)from z) (by simp)) (by simp)
    |some u=>
     rcases U b with z|⟨ob,xs,z⟩
     ·rw[q]at z;cases z
     ·have z2:=un.frzs b ob _ z
      obtain⟨e1,_⟩:=hok b _ z
      obtain⟨e2,_⟩:=D b _ z2
      rw[e]at e1;cases e1
      exact e2
 cases Q:K.lookup a with
 |some o=>
  have e:=R a o Q
  rw[G]at e
  cases e
  refine p (fun _=>MB) (fun _=>.inl rfl) (.inr ⟨_,vs.toArray,_,Q,rfl,rfl,rfl,by rw[Jj,B];exact S,by simpa using T⟩) (fun b u z=>by have E:(MB:Option HO)=MA u:=z;cases E) (fun b z=>absurd rfl z) fun z=>absurd rfl z
 |none=>
  refine p (fun b=>if b=a then MA (.frz { cls:=.type "list",data:=.seq vs.toArray } (.lst (ns.map V.int)))else MB) (fun b=>?_) (.inl (.inr ⟨{ cls:=.type "list",data:=.seq vs.toArray },MF rfl⟩)) (fun b u z=>?_) (fun b z=>?_) fun _=>Q
  ·by_cases g:b=a
   ·exact .inr ⟨_,_,MF g⟩
   ·exact .inl (ME g)
  ·by_cases g:b=a
   ·have E:=(MF g).symm.trans z
    cases E
    subst g
    exact⟨G,by rw[IZ];exact S,vs,_,T,G⟩
   ·have E:=(ME g).symm.trans z
    cases E
  ·by_cases g:b=a
   ·exact g
   ·exact absurd (ME g) z
abbrev KOf{K:IW}{h:Heap}(_:K.In h):IW:=K
theorem BL{l:PySem.W.OpenLaw}{n k:Nat}{q:Jl}{i:List Str}{E:(Str->Option I0)->Heap->Prop}{C:JL->Heap->Prop}{d:DefRec}{K:JD->IW}{CX:JL->Qi}{sp:JL->Sp}{x:Str}
 (I:l.most=MA n) (r:n<=Jb) (t:d.params.defaults=[]) (J:N0 k callerA)
 (L:∀(w:JL) (h:Heap),C w h->(K w.params).In h)
 (F:∀(w:JL) (mg:Str->Option I0) (fa:Addr) (h:Heap),(K w.params).In h->h.Ns Mg mg->mg d.name=MA (.ref fa)->
  ∃fd:My,(∀(s:IY) (u:I0),BindsTo s fd ⟨[u],[]⟩ [(x,u)])/\
   ∀base:Heap,(K w.params).In base->base.Ns Mg mg->OA l.prog w (K w.params) mg base (CX w) k fa fd [x] (sp w))
 (y:∀(w:JL) (H:Hp) (a:Addr) (ns:List Int),ns.length<=n->Dy H->NZ (K w.params) H a (ns.map V.int)->sp w [.ref a] H (fun v _=>v=.bl MC) fun _ _ _=>False)
 (z:∀(w:JL) (H:Hp) (s:IY) (e:I0) (A:IY),CX w [] H s (fun _ _ _=>False) e A->False) :
 PySem.W.WalkO q i E C l.row.toRowW d [] (fun f vs=>PySem.call f vs):=by
 refine Att.qY I t fun w s₀ m mg S fa o U X M a vs ns G Y Z hd N B p j c O=>?_
 have D:=L w _ Y
 obtain⟨fd,P,hF⟩:=F w mg fa _ D G.T.g B
 exact xF D G.T.g G.T.b G.T.builtins G.T.nolimit O p j (Ke c r) J hF P (fun H Q R=>y w H a ns c Q R) fun H e A=>z w H m e A
def cA(s:Stmt):Arguments:=match s with
 |.FunctionDef _ a _ _ _ _ _ _ _ _=>a
 |_=>{ posonlyargs:=[],args:=[],vararg:=MB,kwonlyargs:=[],kw_defaults:=[],kwarg:=MB,defaults:=[] }
def bg(s:Stmt):List Stmt:=match s with
 |.FunctionDef _ _ b _ _ _ _ _ _ _=>b
 |_=>[]
def az(s:Stmt):LR:=match s with
 |.FunctionDef _ _ _ _ _ _ sc _ _ _=>sc
 |_=>{ kind:=.function,names:=[],isGenerator:=MD,isCoroutine:=MD }
abbrev PU:Qi:=fun _ _ _ _ _ _=>False
abbrev E0:XK:=fun _ _ _=>False
theorem G8{X:Cx}:Passes PU X E0:=fun _ _ _ _ _ _ _ h=>h.elim
structure Rn(K:IW)(x qual:Str)(st:Stmt)(f:Addr)(fd:My):Prop where
 ex:∃(oc:I0) (od:Option Addr) (kV doc pm:I0) (an:Option Addr) (cdv ct:I0) (osl:Array (Option I0)),
  fd=KS x qual (cA st) (bg st) (az st) .none kV doc pm an cdv ct/\K.lookup f=MA ⟨oc,od,.func fd,osl⟩/\PySem.W.codeIn K cdv qual=MC
 kp:PySem.W.keepIn K (.ref f)=MC
section
variable{P:Jl}{w:JL}{K:IW}{mg:Str->Option I0}{base:Heap}
theorem Rn.ok{x qual:Str}{st:Stmt}{f:Addr}{fd:My}{N ps:List Str}{k:Nat}{sp:Sp}(F:Rn K x qual st f fd)(S:NL N ps (az st))(len:∀vs H Q E,sp vs H Q E->vs.length=ps.length)
 (a:∀(cdv:I0) (A:JQ) (outer:List Env) (s:IY) (H:Hp) (vs:List V) (Q:VK) (E:XK),N0 k (A.deeper (envOfC qual (az st) s.heap.objs.size f cdv))->sp vs H Q E->
  ∃t,PR (jE PU P w K mg base N qual (az st) f cdv A outer s H E).nox (bg st) t/\t { nx:=fun _ d=>Q .non d,rt:=Q } (start N vs) H):OA P w K mg base PU (k+1) f fd ps sp:=by
 obtain⟨oc,od,kV,e,j,an,cdv,ct,osl,rfl,g,b⟩:=F.ex
 refine Hk g b S len fun A outer s H vs Q E i c=>?_
 obtain⟨t,h,q⟩:=a cdv A outer s H vs Q E i c
 exact⟨t,h.nox,q⟩
theorem Rn.binds{x qual:Str}{st:Stmt}{f:Addr}{fd:My}{ps:List Str}(F:Rn K x qual st f fd) (h:∀(kV a b:I0) (an:Option Addr) (cdv ct:I0) (us:List I0),us.length=ps.length->bindArgs (KS x qual (cA st) (bg st) (az st) .none kV a b an cdv ct) ⟨us,[]⟩=pure (ps.zip us)):Binds K fd ps []:=by obtain⟨oc,od,kV,a,b,an,cdv,ct,osl,rfl,d,c⟩:=F.ex;exact .all (h kV a b an cdv ct)
theorem CL{x qual:Str}{st:Stmt}{f:Addr}{oc:I0}{od an:Option Addr}{osl:Array (Option I0)}{kV a b cdv ct:I0}(l:K.lookup f=MA ⟨oc,od,.func (KS x qual (cA st) (bg st) (az st) .none kV a b an cdv ct),osl⟩) (c:PySem.W.codeIn K cdv qual=MC) (k:PySem.W.keepIn K (.ref f)=MC):Rn K x qual st f (KS x qual (cA st) (bg st) (az st) .none kV a b an cdv ct):=⟨⟨oc,od,kV,a,b,an,cdv,ct,osl,rfl,l,c⟩,k⟩
end
theorem BF{A B:Prop}(h:A):if MC=MC then A else B:=by rw[MF rfl];exact h
theorem cD{c A B:Prop}[Decidable c](a:c->A)(b:¬c->B):if c then A else B:=by
 by_cases h:c
 ·rw[MF h];exact a h
 ·rw[ME h];exact b h
section
variable{κ:Type}[DecidableEq κ]
def fy(kvs:List (κ×V))(k:κ):Option V:=(kvs.find? fun a=>decide (a.1=k)).map (·.2)
def putK(kvs:List (κ×V))(k:κ)(v:V):List (κ×V):=
 if(kvs.any fun a=>decide (a.1=k))=MC then kvs.map (fun a=>if a.1=k then(a.1,v)else a)else kvs++[(k,v)]
theorem cw{p:κ×V}{r:List (κ×V)}{k:κ}(e:p.1=k):fy (p::r) k=MA p.2:=by simp[fy,JC,e]
theorem cz{p:κ×V}{r:List (κ×V)}{k:κ}(e:¬p.1=k):fy (p::r) k=fy r k:=by simp[fy,JC,e]
theorem dY(k:κ):∀kvs:List (κ×V),(kvs.any fun a=>decide (a.1=k))=(fy kvs k).isSome
 |[]=>rfl
 |p::r=>by
  rw[Lm]
  by_cases e:p.1=k
  ·simp only[cw e,MI e,Bool.true_or,Option.isSome_some]
  ·rw[cz e,MG e,Bool.false_or];exact dY k r
theorem qL(k j:κ)(y:V):∀kvs:List (κ×V),fy (kvs.map fun a=>if a.1=k then(a.1,y)else a) j=(fy kvs j).map fun x=>if j=k then y else x
 |[]=>rfl
 |p::r=>by
  have b:=qL k j y r
  rw[J5]
  by_cases h:p.1=k
  ·rw[MF h]
   by_cases e:p.1=j
   ·rw[cw (p:=(p.1,y)) e,cw e,Option.map_some,MF (e.symm.trans h)]
   ·rw[cz (p:=(p.1,y)) e,cz e,b]
  ·rw[ME h]
   by_cases e:p.1=j
   ·rw[cw (p:=p) e,cw e,Option.map_some,ME (fun z=>h (e.trans z))]
   ·rw[cz (p:=p) e,cz e,b]
theorem nh(k j:κ)(y:V):∀kvs:List (κ×V),fy kvs k=MB->fy (kvs++[(k,y)]) j=if j=k then MA y else fy kvs j
 |[],_=>by
  by_cases e:k=j
  ·rw[MF e.symm];exact cw (p:=(k,y)) e
  ·rw[ME (fun z=>e z.symm)];exact cz (p:=(k,y)) e
 |p::r,hn=>by
  rw[List.cons_append]
  have a:¬p.1=k:=fun z=>by rw[cw z]at hn;cases hn
  rw[cz a]at hn
  have b:=nh k j y r hn
  by_cases e:p.1=j
  ·rw[cw e,cw e,ME (fun z=>a (e.trans z))]
  ·rw[cz e,cz e,b]
theorem y8(kvs:List (κ×V))(k j:κ)(y:V):fy (putK kvs k y) j=if j=k then MA y else fy kvs j:=by
 unfold putK;by_cases a:(kvs.any fun b=>decide (b.1=k))=MC
 ·rw[MF a,qL];rw[dY]at a;by_cases e:j=k
  ·obtain⟨x,c⟩:=Option.isSome_iff_exists.mp a;rw[MF e,e,c,Option.map_some,MF rfl]
  ·rw[ME e];cases fy kvs j with
   |none=>rfl
   |some x=>rw[Option.map_some,ME e]
 ·rw[ME a];refine nh k j y kvs ?_;rw[dY]at a;cases q:fy kvs k with
  |none=>rfl
  |some x=>rw[q]at a;exact(a rfl).elim
theorem gB(kvs:List (κ×V))(k:κ)(v:V):(putK kvs k v).length<=kvs.length+1:=by
 unfold putK;split
 ·rw[IZ];omega
 ·rw[JX,Jr,Km];omega
theorem wC.jG{o:Option V}{u:Option I0}(r:wC o u):o.isSome=u.isSome:=by
 cases o with
 |none=>cases u with
  |none=>rfl
  |some _=>exact(show False from r).elim
 |some _=>cases u with
  |none=>exact(show False from r).elim
  |some _=>rfl
theorem KV.val{kvs:List (κ×V)}{vs:List (κ×I0)}(r:KV kvs vs)(k:κ):wC (fy kvs k) (valueAt vs k):=by
 unfold KV at r
 induction r with
 |nil=>exact True.intro
 |@cons p q ps qs h t ih=>
  obtain⟨c,d⟩:=h
  by_cases e:p.1=k
  ·have a:q.1=k:=c.symm.trans e;have b:valueAt (q::qs) k=MA q.2:=by simp[valueAt,JC,a]
   rw[cw e,b];exact d
  ·have a:¬q.1=k:=fun z=>e (c.trans z);have b:valueAt (q::qs) k=valueAt qs k:=by simp[valueAt,JC,a]
   rw[cz e,b];exact ih
theorem KV.any{kvs:List (κ×V)}{vs:List (κ×I0)}(r:KV kvs vs)(k:κ):(kvs.any fun a=>decide (a.1=k))=vs.any fun a=>decide (a.1=k):=by
 unfold KV at r
 induction r with
 |nil=>rfl
 |cons h t b=>rw[Lm,Lm,b,h.1]
theorem KV.DF{kvs:List (κ×V)}{vs:List (κ×I0)}(r:KV kvs vs)(k:κ){y:V}{u:I0}(c:RelV y u) :
 KV (kvs.map fun a=>if a.1=k then(a.1,y)else a) (vs.map fun a=>if a.1=k then(a.1,u)else a):=by
 unfold KV at r ⊢
 induction r with
 |nil=>exact .nil
 |@cons p q ps qs h t ih=>
  rw[J5,J5]
  refine .cons ?_ ih
  obtain⟨b,d⟩:=h
  by_cases e:p.1=k
  ·rw[MF e,MF (b.symm.trans e)];exact⟨b,c⟩
  ·rw[ME e,ME (fun z=>e (b.trans z))];exact⟨b,d⟩
theorem KV.put{kvs:List (κ×V)}{vs:List (κ×I0)}(r:KV kvs vs)(k:κ){y:V}{u:I0}(a:RelV y u):KV (putK kvs k y) (stored vs k u):=by
 unfold putK stored;rw[r.any k];by_cases e:(vs.any fun b=>decide (b.1=k))=MC
 ·rw[MF e,MF e];exact r.DF k a
 ·rw[ME e,ME e];exact Paired.snoc r ⟨rfl,a⟩
theorem KV.length{kvs:List (κ×V)}{vs:List (κ×I0)}(r:KV kvs vs):kvs.length=vs.length:=Paired.length r
end
theorem xI{P:Jl}{w:JL}{k:Key}{u:I0}(r:RelV (kV k) u):(b6 P w).is k u=MC:=by
 cases k with
 |inl i=>obtain⟨t,e⟩:=(show ∃t,u=Lf i t from r);subst e;exact qM P w i t
 |inr x=>obtain⟨t,e⟩:=(show ∃t,u=Value.str x t from r);subst e;exact p7 P w x t
theorem nO{P:Jl}{w:JL}:∀{ks:List Key} {us:List I0},Vals (ks.map kV) us->ItemsAre (b6 P w) ks us
 |[],_,r=>by rw[KA]at r;cases r;exact .nil
 |k::ks,_,r=>by
  rw[J5]at r
  cases r with
  |cons h t=>exact .cons (xI h) (nO t)
abbrev KT(H:Hp):List (List Key×V)->List (List Key×Addr×I0)->Prop:=Mz fun p q=>p.1=q.1/\H q.2.1=MA (.tup (p.1.map kV))/\RelV p.2 q.2.2
theorem KT.val{H:Hp}{kvs:List (List Key×V)}{xs:List (List Key×Addr×I0)}(r:KT H kvs xs)(k:List Key):wC (fy kvs k) ((atKey xs k).map (·.2)):=by
 induction r with
 |nil=>exact True.intro
 |@cons p q ps qs h t ih=>
  obtain⟨c,_,d⟩:=h
  by_cases e:p.1=k
  ·have a:q.1=k:=c.symm.trans e;have b:atKey (q::qs) k=MA q.2:=by simp[atKey,JC,a]
   rw[cw e,b];exact d
  ·have a:¬q.1=k:=fun z=>e (c.trans z);have b:atKey (q::qs) k=atKey qs k:=by simp[atKey,JC,a]
   rw[cz e,b];exact ih
theorem KT.DF{H:Hp}{kvs:List (List Key×V)}{xs:List (List Key×Addr×I0)}(r:KT H kvs xs)(k:List Key){y:V}{u:I0}(d:RelV y u) :
 KT H (kvs.map fun b=>if b.1=k then(b.1,y)else b) (xs.map (putAt k u)):=by
 induction r with
 |nil=>exact .nil
 |@cons p q ps qs h t ih=>
  rw[J5,J5]
  refine .cons ?_ ih
  obtain⟨a,c,f⟩:=h
  unfold putAt
  by_cases e:p.1=k
  ·rw[MF e,MF (a.symm.trans e)];exact⟨a,c,d⟩
  ·rw[ME e,ME (fun z=>e (a.trans z))];exact⟨a,c,f⟩
theorem KT.put{H:Hp}{kvs:List (List Key×V)}{xs:List (List Key×Addr×I0)}(r:KT H kvs xs)(k:List Key){b:Addr}{y:V}{u:I0}(c:H b=MA (.tup (k.map kV)))(a:RelV y u) :
 KT H (putK kvs k y) (storedH xs k b u):=by
 have e:(kvs.any fun d=>decide (d.1=k))=(atKey xs k).isSome:=by
  rw[dY,(r.val k).jG,Option.isSome_map]
 unfold putK storedH
 rw[e]
 by_cases q:(atKey xs k).isSome=MC
 ·rw[MF q,MF q];exact r.DF k a
 ·rw[ME q,ME q];exact Paired.snoc r ⟨rfl,c,a⟩
theorem KT.keeps{H a:Hp}{kvs:List (List Key×V)}{xs:List (List Key×Addr×I0)}(r:KT H kvs xs)(d:∀b c,H b=MA (.tup c)->a b=MA (.tup c)):KT a kvs xs:=Paired.FU r fun _ _ z=>⟨z.1,d _ _ z.2.1,z.2.2⟩
section
variable{P:Jl}{w:JL}{H:Hp}{h:Heap}{a:Addr}
theorem CH{u:HO}(ok:Nz P w H h)(e:Rd H a u):bT P w H h a u:=e.ok ok
theorem CI{kvs:List (Key×V)}(ok:Nz P w H h)(e:Rd H a (.dK kvs)):kvs.length<=Jb/\(a==L0)=MD/\∃vs,KV kvs vs/\h.DictOf (b6 P w) a vs:=show bT P w H h a (.dK kvs)from CH ok e
theorem FH{kvs:List (Key×V)}(ok:Nz P w H h)(e:H a=MA (.dK kvs)):kvs.length<=Jb/\(a==L0)=MD/\∃vs,KV kvs vs/\h.DictOf (b6 P w) a vs:=CI ok (.inl e)
theorem tS{ks:List Key}(ok:Nz P w H h)(e:H a=MA (.tup (ks.map kV))):(tupleKind (b6 P w)).is h ks a:=by obtain⟨_,b,r,⟨o,c,d,n,f⟩,_⟩:=(show bT P w H h a (.tup (ks.map kV))from ok a _ e);exact⟨o,b.toArray,n,c,d,f,by simpa using nO r⟩
theorem Cv{kvs:List (List Key×V)}(ok:Nz P w H h)(e:Rd H a (.dT kvs)):kvs.length<=Jb/\(a==L0)=MD/\
 ∃xs,KT H kvs xs/\h.DictOfH (tupleKind (b6 P w)) a xs:=by
 obtain⟨z,y,xs,r,o,es,ep,c,d,f,g,i⟩:=(show bT P w H h a (.dT kvs)from CH ok e)
 refine⟨z,y,xs,r,o,es,ep,c,d,f,g,fun x b=>?_,i⟩
 have all:∀{l:List (List Key×V)} {m:List (List Key×Addr×I0)},KT H l m->∀x∈m,(tupleKind (b6 P w)).is h x.1 x.2.1:=by
  intro l m q
  induction q with
  |nil=>intro x b;exact nomatch b
  |@cons p q ps qs hq t ih=>
   intro x b
   rcases Jv.mp b with e|b
   ·subst e
    exact tS ok (by rw[<-hq.1];exact hq.2.1)
   ·exact ih x b
 exact all r x b
theorem Hs{kvs:List (List Key×V)}(ok:Nz P w H h)(e:H a=MA (.dT kvs)):kvs.length<=Jb/\(a==L0)=MD/\∃xs,KT H kvs xs/\h.DictOfH (tupleKind (b6 P w)) a xs:=Cv ok (.inl e)
end
def EF(H:Hp)(a:Addr)(y:V)(r:Option V):Prop:=
 (∃kvs k,Rd H a (.dK kvs)/\y=kV k/\r=fy kvs k)\/∃kvs k b,Rd H a (.dT kvs)/\y=.ref b/\H b=MA (.tup (k.map kV))/\r=fy kvs k
def FA(H:Hp)(a:Addr)(y v:V)(c:Hp):Prop:=
 (∃kvs k,H a=MA (.dK kvs)/\y=kV k/\kvs.length<Jb/\c=upd H a (.dK (putK kvs k v)))\/
 ∃kvs k b,H a=MA (.dT kvs)/\y=.ref b/\H b=MA (.tup (k.map kV))/\kvs.length<Jb/\c=upd H a (.dT (putK kvs k v))
section
variable{X:Cx}{MP:List (Addr×Obj)}{σ:St}{H:Hp}{s:IY}{a:Addr}{y v:V}{u r:I0}{o:Option V}{A:JQ}{E:I0->IY->Prop}
theorem Inv.big(I:Inv X MP σ H s):L0<s.heap.objs.size:=by have h:Mg<s.heap.objs.size:=(I.mod.glob.keeps I.bk).lt;exact Nat.lt_trans (by decide) h
theorem A0{Q:I0->IY->Prop}(m:A.units+1<Kf)(I:Inv X MP σ H s)(g:EF H a y o)(i:RelV y u)(h:∀j,Inv X MP σ H j->Q (.bool (!o.isSome)) j) : J7 (Jg X.prog X.w) A (JN .NotIn u (.ref a)) Q E s:=by
 rcases g with⟨kvs,k,e,d,l⟩|⟨kvs,k,b,e,d,eb,l⟩
 ·subst d;obtain⟨z,hd,vs,c,f⟩:=CI I.hok e;refine wpAny_notIn_of (xI i) hd f.mapOf ?_;rw[<-(c.val k).jG,<-l];exact h _ (I.tok _)
 ·subst d;cases (show u=L9 b from i);obtain⟨z,hd,xs,c,f⟩:=Cv I.hok e;refine wpAny_notIn_heap (tupleKind_room_in1 m) (tS I.hok eb) hd f ?_;have q:=(c.val k).jG;rw[Option.isSome_map]at q;rw[<-q,<-l];exact h _ (I.tok _)
theorem jc{h':Heap}{t':Nat}{c:HO}(I:Inv X MP σ H s)(d:Uy (H a))(hs:Lk a s.heap h')(he:∃q,h'.get? a=MA q)(new:bT X.prog X.w (upd H a c) h' a c) : Inv X MP σ (upd H a c) { s with heap:=h',toks:=t' }:=I.write (x:=a) (e:=a) d (.inl rfl) (fun b q f z=>(hs.2 b f).trans z) he new
theorem E4{P:Jl}{w:JL}{c:Hp}{h':Heap}{kvs:List (Key×V)}{vs:List (Key×I0)}(z:kvs.length<=Jb)(hd:(a==L0)=MD)(b:KV kvs vs)(d:h'.DictOf (b6 P w) a vs) : bT P w c h' a (.dK kvs):=⟨z,hd,vs,b,d⟩
theorem vJ{x:Hp}{Q:Unit->IY->Prop}(J:A.units+1<Kf)(I:Inv X MP σ H s)(g:FA H a y v x)(B:RelV y u)(C:RelV v r)(h:∀D,Inv X MP σ x D->Q () D) : J7 (Jg X.prog X.w) A (setItem (.ref a) u r) Q E s:=by
 rcases g with⟨kvs,k,e,j,l,m⟩|⟨kvs,k,b,e,j,eb,l,m⟩
 ·subst j m;obtain⟨z,hd,vs,d,n⟩:=FH I.hok e;have p:vs.length<=Jb:=by rw[<-d.length];exact z
  have t:(putK kvs k v).length<=Jb:=by have:=gB kvs k v;omega
  refine wpAny_setItem_pairs (hsz:=p) (xI B) n fun F f hs=>h _ ?_;have K:∃q,F.get? a=MA q:=let⟨q,_,_,i,_⟩:=f;⟨q,i⟩
  exact jc I (by rw[e];exact True.intro) hs K (E4 t hd (d.put k C) f)
 ·subst j m;cases (show u=L9 b from B);obtain⟨z,hd,xs,d,n⟩:=Hs I.hok e;have p:xs.length<=Jb:=by rw[<-Paired.length d];exact z
  have t:(putK kvs k v).length<=Jb:=by have:=gB kvs k v;omega
  refine wpAny_setItem_heap (hsz:=p) (tupleKind_room_in1 J) (tS I.hok eb) n fun F f hs=>h _ ?_;obtain⟨q,es,ep,i,L,M,N,_,O⟩:=f;refine jc I (by rw[e];exact True.intro) hs ⟨q,i⟩ ⟨t,hd,_,(d.put k eb C).keeps fun c P G=>?_,q,es,ep,i,L,M,N,O⟩;rw[aX (Hl G e (fun z=>nomatch z))];exact G
end
def Fw(i:Expr):Prop:=∀a b,subscripted i MD a b=operate [a,b] (getItem a b)
def Ah(ty c:TE):TE:=fun σ H Q=>ty σ H fun y H1=>c σ H1 fun x b=>∃a o,x=.ref a/\EF b a y o/\Q (.bl (!o.isSome)) b
def HC(c ty d:TE):TS:=fun D σ H=>d σ H fun v H1=>c σ H1 fun x e=>ty σ e fun y f=>∃a b,x=.ref a/\FA f a y v b/\D.nx σ b
section
variable{X:Cx}{o i e value:Expr}{pos pos' MS:Pos}{td ty tv:TE}
theorem vZ(b:X.A.units+1<Kf)(hi:PE X i ty)(c:PE X o td):PC X .NotIn i o (Ah ty td):=by intro MP s σ H Q I h;refine NQ (hi MP s σ H _ I h) fun t d ⟨y,H1,f,j,k⟩=>NQ (c MP d σ H1 _ f k) fun u v ⟨x,l,m,n,a,p,ex,g,q⟩=>?_;subst ex;obtain rfl:u=L9 a:=n;exact A0 b m g j fun w r=>⟨.bl (!p.isSome),l,r,rfl,q⟩
theorem By(b:X.A.units+1<Kf)(c:PE X o td)(hi:PE X i ty)(d:PE X value tv)(hs:LL value (MA (.Subscript o i pos')) pos.line X.env=pure MD) : PS X (.Assign [.Subscript o i pos'] value pos) (HC td ty tv):=by intro MP s σ H D I h;refine wpAny_Assign_Subscript (NQ (d MP s σ H _ I h) fun r f ⟨v,H1,j,k,l⟩=>NQ (c MP f σ H1 _ j l) fun u m ⟨x,n,p,q,t⟩=>NQ (hi MP m σ n _ p t) fun F G ⟨y,J,w,z,a,B,ex,g,C⟩=>?_) hs;subst ex;obtain rfl:u=L9 a:=q;exact vJ b w g z k fun K E=>⟨σ,B,E,C⟩
end
theorem xx{P:Jl}{w:JL}{H:Hp}(h:Heap)(a:L0<h.objs.size):bT P w H (h.push { cls:=.type "dict",data:=.dict #[] }) h.objs.size (.dK []):=⟨Kb _,beq_eq_false_iff_ne.mpr (Ne.symm (JK a)),[],.nil,Heap.DictOf.new h⟩
def EE:TE:=fun _ H Q=>∀p,H p=MB->Q (.ref p) (upd H p (.dK []))
section
variable{X:Cx}{pos:Pos}
theorem zG:PE X (.Dict [] [] pos) EE:=fun MP s σ H Q I h=>wpAny_Dict_empty ⟨.ref s.heap.objs.size,_,I.laid (a:=s.heap.objs.size) (o:=.dK []) (t':=s.toks) (fun _ _ q=>J3 _ q) (J1 _) (xx s.heap I.big),rfl,h _ (I.hok.fresh (J1 _))⟩
end
end L2
namespace SD
theorem BQ{c:Type}{l:List c}(h:l.length=1):∃a,l=[a]:=by
 cases l with
 |nil=>cases h
 |cons a l=>
  cases l with
  |nil=>exact⟨a,rfl⟩
  |cons b l=>cases h
theorem E3{b:Type}{n:Nat}{l:List b}(h:l.length=n+1):∃a r,l=a::r/\r.length=n:=by
 cases l with
 |nil=>cases h
 |cons a l=>exact⟨a,l,rfl,Nat.succ.inj h⟩
theorem yl{c:Type}{l:List c}(h:l.length=2):∃a b,l=[a,b]:=by obtain⟨a,r,rfl,d⟩:=E3 h;obtain⟨b,rfl⟩:=BQ d;exact⟨a,b,rfl⟩
theorem FN{d:Type}{l:List d}(h:l.length=3):∃a b c,l=[a,b,c]:=by obtain⟨a,r,rfl,e⟩:=E3 h;obtain⟨b,c,rfl⟩:=yl e;exact⟨a,b,c,rfl⟩
theorem IU{e:Type}{l:List e}(h:l.length=4):∃a b c d,l=[a,b,c,d]:=by obtain⟨a,r,rfl,f⟩:=E3 h;obtain⟨b,c,d,rfl⟩:=FN f;exact⟨a,b,c,d,rfl⟩
open PySem PySem.Spec PyProof.Rows L2
inductive D where
 |non|bl (b:Bool)|int (i:Int)|str (x:Str)|ty (n:String)|ref (a:Addr)|rol (ds:List D)|tup (ds:List D)
def SE(K:IW)(H:Hp)(a:Addr)(xs:List V):Prop:=
 (∃o,H a=MA (.frz o (.lst xs)))\/
  ∃(o:Obj) (b:Array I0) (n:Nat),K.lookup a=MA o/\o.cls=.type "list"/\o.dict=MB/\o.data=.seq b n/\b.size<=Jb/\Vals xs b.toList
theorem SE.sql{K:IW}{H:Hp}{a:Addr}{xs:List V}(h:SE K H a xs):NZ K H a xs:=by
 rcases h with h|h
 ·exact .inl (.inr h)
 ·exact .inr h
mutual
def Rep(K:IW)(H:Hp):D->V->Prop
 |.non,v=>v=.non
 |.bl b,v=>v=.bl b
 |.int i,v=>v=.int i
 |.str x,v=>v=.str x
 |.ty n,v=>v=.ty n
 |.ref a,v=>v=.ref a
 |.rol ds,v=>∃a xs,v=.ref a/\SE K H a xs/\aK K H ds xs
 |.tup ds,v=>∃a xs,v=.ref a/\N1 K H a xs/\aK K H ds xs
def aK(K:IW)(H:Hp):List D->List V->Prop
 |[],xs=>xs=[]
 |d::ds,xs=>∃x r,xs=x::r/\Rep K H d x/\aK K H ds r
end
structure NN(K:IW)(H H':Hp):Prop where
 t:∀a xs,N1 K H a xs->N1 K H' a xs
 f:∀a xs,SE K H a xs->SE K H' a xs
theorem NN.refl{K:IW}{H:Hp}:NN K H H:=⟨fun _ _ h=>h,fun _ _ h=>h⟩
theorem NN.trans{K:IW}{H H1 c:Hp}(a:NN K H H1)(b:NN K H1 c):NN K H c:=⟨fun x y h=>b.t x y (a.t x y h),fun x y h=>b.f x y (a.f x y h)⟩
theorem NN.put{K:IW}{H:Hp}{p:Addr}{o:HO}(c:∀xs,H p≠MA (.tup xs))(b:∀u xs,H p≠MA (.frz u xs)):NN K H (upd H p o):=by
 refine⟨fun a xs h=>?_,fun a xs h=>?_⟩
 ·rcases h with(h|⟨u,h⟩)|h
  ·exact .inl (.inl (by rw[aX (by intro e;subst e;exact c _ h)];exact h))
  ·exact .inl (.inr ⟨u,by rw[aX (by intro e;subst e;exact b _ _ h)];exact h⟩)
  ·exact .inr h
 ·rcases h with⟨u,h⟩|h
  ·exact .inl ⟨u,by rw[aX (by intro e;subst e;exact b _ _ h)];exact h⟩
  ·exact .inr h
theorem NN.new{K:IW}{H:Hp}{p:Addr}{o:HO}(h:H p=MB):NN K H (upd H p o):=.put (fun xs e=>by rw[h]at e;cases e) (fun u xs e=>by rw[h]at e;cases e)
theorem NN.lst{K:IW}{H:Hp}{p:Addr}{o:HO}{xs:List V}(h:H p=MA (.lst xs)):NN K H (upd H p o):=.put (fun a e=>by rw[h]at e;cases e) (fun u a e=>by rw[h]at e;cases e)
mutual
theorem Rep.mono{K:IW}{H i:Hp}(g:NN K H i):∀{d:D} {v:V},Rep K H d v->Rep K i d v
 |.non,_,h=>h
 |.bl _,_,h=>h
 |.int _,_,h=>h
 |.str _,_,h=>h
 |.ty _,_,h=>h
 |.ref _,_,h=>h
 |.rol ds,_,h=>by
  rw[Rep]at h ⊢
  obtain⟨a,xs,e,b,c⟩:=h
  exact⟨a,xs,e,g.f _ _ b,aK.mono g c⟩
 |.tup ds,_,h=>by
  rw[Rep]at h ⊢
  obtain⟨a,xs,e,b,c⟩:=h
  exact⟨a,xs,e,g.t _ _ b,aK.mono g c⟩
theorem aK.mono{K:IW}{H b:Hp}(g:NN K H b):∀{a:List D} {xs:List V},aK K H a xs->aK K b a xs
 |[],_,h=>h
 |d::a,_,h=>by
  rw[aK]at h ⊢
  obtain⟨x,r,e,c,f⟩:=h
  exact⟨x,r,e,Rep.mono g c,aK.mono g f⟩
end
section
variable{K:IW}{H H':Hp}
theorem aK.nil:aK K H [] []:=by rw[aK]
theorem aK.cons{d:D}{c:List D}{x:V}{r:List V}(a:Rep K H d x)(b:aK K H c r):aK K H (d::c) (x::r):=by rw[aK];exact⟨x,r,rfl,a,b⟩
theorem aK.length:∀{a:List D} {xs:List V},aK K H a xs->a.length=xs.length
 |[],xs,h=>by rw[aK]at h;subst h;rfl
 |d::a,xs,h=>by
  rw[aK]at h
  obtain⟨x,r,rfl,_,b⟩:=h
  simp[aK.length b]
theorem aK.get:∀{a:List D} {xs:List V} {i:Nat} {d:D},aK K H a xs->a[i]?=MA d->∃x,xs[i]?=MA x/\Rep K H d x
 |[],_,_,_,_,e=>by simp at e
 |_::_,xs,0,_,h,e=>by
  rw[aK]at h
  obtain⟨x,r,rfl,b,_⟩:=h
  simp at e;subst e
  exact⟨x,rfl,b⟩
 |_::a,xs,i+1,d,h,e=>by
  rw[aK]at h
  obtain⟨x,r,rfl,_,c⟩:=h
  simpa using aK.get (i:=i) (d:=d) c (by simpa using e)
theorem aK.set{d:D}{x:V}(a:Rep K H d x):∀{b:List D} {xs:List V} (i:Nat),aK K H b xs->aK K H (b.set i d) (xs.set i x)
 |[],_,_,h=>by rw[aK]at h;subst h;simp[aK.nil]
 |_::_,_,0,h=>by
  rw[aK]at h
  obtain⟨y,r,rfl,_,c⟩:=h
  exact .cons a c
 |_::b,_,i+1,h=>by
  rw[aK]at h
  obtain⟨y,r,rfl,e,c⟩:=h
  exact .cons e (aK.set a i c)
theorem aK.append:∀{a es:List D} {xs b:List V},aK K H a xs->aK K H es b->aK K H (a++es) (xs++b)
 |[],_,_,_,h,k=>by rw[aK]at h;subst h;exact k
 |_::a,_,_,_,h,k=>by
  rw[aK]at h
  obtain⟨y,r,rfl,c,d⟩:=h
  exact .cons c (aK.append d k)
theorem aK.of_get:∀{c:List D} {xs:List V},c.length=xs.length->(∀(i:Nat) d x,c[i]?=MA d->xs[i]?=MA x->Rep K H d x)->aK K H c xs
 |[],[],_,_=>.nil
 |[],_::_,h,_=>by simp at h
 |_::_,[],h,_=>by simp at h
 |d::c,x::xs,h,k=>.cons (k 0 d x rfl rfl) (aK.of_get (by simpa using h) fun i d x a b=>k (i+1) d x (by simpa using a) (by simpa using b))
theorem aK.take{c:List D}{xs:List V}(n:Nat)(h:aK K H c xs):aK K H (c.take n) (xs.take n):=by
 refine .of_get (by simp[h.length]) fun i d x a b=>?_
 have hi:i<n:=by
  rw[List.getElem?_take]at a;split at a
  ·assumption
  ·cases a
 rw[List.getElem?_take_of_lt hi]at a b;obtain⟨y,e,r⟩:=h.get a;rw[e]at b;cases b;exact r
theorem aK.drop{c:List D}{xs:List V}(n:Nat)(h:aK K H c xs):aK K H (c.drop n) (xs.drop n):=by refine .of_get (by simp[h.length]) fun i d x a b=>?_;rw[List.getElem?_drop]at a b;obtain⟨y,e,r⟩:=h.get a;rw[e]at b;cases b;exact r
theorem dQ:∀(ns:List Int),aK K H (ns.map D.int) (ns.map V.int)
 |[]=>.nil
 |n::ns=>.cons (by rw[Rep]) (dQ ns)
end
def IJ(a C:Addr):Heap->Prop:=fun h=>∃o,h.get? a=MA o/\o.cls=.ref C
inductive MO where
 |lst (ds:List D)|err (C:Addr)
 |dct (n:Nat) (P:List Int->Bool)
 |gen (A:IW->Hp->Addr->Prop)
abbrev MH:=Addr->Option MO
def qO(K:IW)(H:Hp)(a:Addr):MO->Prop
 |.lst c=>∃xs,H a=MA (.lst xs)/\aK K H c xs
 |.err C=>H a=MA (.ext (IJ a C))
 |.dct n P=>∃kvs:List (List Key×V),H a=MA (.dT kvs)/\kvs.length<=n/\∀k:List Int,(kvs.any fun d=>decide (d.1=k.map Sum.inl))=P k
 |.gen A=>A K H a/\H a≠MB/\∀b,NN K H b->b a=H a->A K b a
def NW(K:IW)(H:Hp)(M:MH):Prop:=∀a o,M a=MA o->qO K H a o
def aC(M:MH)(a:Addr)(o:MO):MH:=fun b=>if b=a then MA o else M b
theorem ag{M:MH}{a:Addr}{o:MO}:aC M a o a=MA o:=by unfold aC;rw[MF rfl]
theorem aA{M:MH}{a b:Addr}{o:MO}(h:b≠a):aC M a o b=M b:=by unfold aC;rw[ME h]
theorem bL{M:MH}{a:Addr}{o u:MO}:aC (aC M a o) a u=aC M a u:=by funext b;unfold aC;split<;>rfl
section
variable{K:IW}{H H':Hp}{M:MH}
theorem qO.some{a:Addr}{o:MO}(h:qO K H a o):H a≠MB:=by
 cases o with
 |lst c=>
  obtain⟨xs,b,_⟩:=h
  rw[b];simp
 |err C=>rw[show H a=_ from h];simp
 |dct n P=>
  obtain⟨kvs,b,_⟩:=h
  rw[b];simp
 |gen A=>exact h.2.1
theorem NW.fresh(h:NW K H M){p:Addr}(a:H p=MB):M p=MB:=by
 cases e:M p with
 |none=>rfl
 |some o=>exact absurd a (h p o e).some
theorem qO.ix{a:Addr}{o:MO}(g:NN K H H')(e:H' a=H a)(h:qO K H a o):qO K H' a o:=by
 cases o with
 |lst i=>
  obtain⟨xs,b,c⟩:=h
  exact⟨xs,e.trans b,c.mono g⟩
 |err C=>exact e.trans h
 |dct n P=>
  obtain⟨kvs,b,c⟩:=h
  exact⟨kvs,e.trans b,c⟩
 |gen A=>exact⟨h.2.2 H' g e,fun z=>h.2.1 (by rw[<-e];exact z),fun d f e2=>h.2.2 d (g.trans f) (e2.trans e)⟩
theorem NW.new{p:Addr}{o:HO}(h:NW K H M)(b:H p=MB):NW K (upd H p o) M:=fun a u e=>by
 have ne:a≠p:=fun z=>by subst z;rw[h.fresh b]at e;cases e
 exact(h a u e).ix (.new b) (aX ne)
theorem NW.jK{p:Addr}{xs:List V}{b:List D}(h:NW K H M)(c:H p=MB)(r:aK K H b xs):NW K (upd H p (.lst xs)) (aC M p (.lst b)):=fun a u e=>by
 by_cases ne:a=p
 ·subst ne;rw[ag]at e;cases e;exact⟨xs,aW,r.mono (.new c)⟩
 ·rw[aA ne]at e;exact(h a u e).ix (.new c) (aX ne)
theorem NW.xJ{p:Addr}{xs b:List V}{c:List D}(h:NW K H M)(d:H p=MA (.lst xs))(r:aK K H c b):NW K (upd H p (.lst b)) (aC M p (.lst c)):=fun a u e=>by
 by_cases ne:a=p
 ·subst ne;rw[ag]at e;cases e;exact⟨b,aW,r.mono (.lst d)⟩
 ·rw[aA ne]at e;exact(h a u e).ix (.lst d) (aX ne)
theorem NW.sub{b:MH}(h:NW K H M)(s:∀a o,b a=MA o->M a=MA o):NW K H b:=fun a o e=>h a o (s a o e)
end
abbrev DS:=List (Option D)
structure Slots(K:IW)(H:Hp)(δ:DS)(σ:L2.St):Prop where
 len:δ.length=σ.length
 at':∀(i:Nat) d,δ[i]?=MA (MA d)->∃v,σ[i]?=MA (MA v)/\Rep K H d v
section
variable{K:IW}{H H':Hp}{δ:DS}{σ:L2.St}
theorem Slots.mono(g:NN K H H')(h:Slots K H δ σ):Slots K H' δ σ:=⟨h.len,fun i d e=>let⟨v,a,b⟩:=h.at' i d e;⟨v,a,b.mono g⟩⟩
theorem Slots.set{d:D}{v:V}(r:Rep K H d v)(i:Nat)(h:Slots K H δ σ):Slots K H (δ.set i (MA d)) (σ.set i (MA v)):=by
 refine⟨by simp[h.len],fun j e q=>?_⟩;rw[List.getElem?_set]at q;by_cases a:i=j
 ·subst a;rw[MF rfl]at q;by_cases b:i<δ.length
  ·rw[MF b]at q;cases q;exact⟨v,by rw[List.getElem?_set,MF rfl,MF (by rw[<-h.len];exact b)],r⟩
  ·rw[ME b]at q;cases q
 ·rw[ME a]at q;obtain⟨c,e1,e2⟩:=h.at' j e q;exact⟨c,by rw[List.getElem?_set,ME a];exact e1,e2⟩
theorem qa{N:List Str}{a:List D}{vs:List V}(r:aK K H a vs):Slots K H (a.map MA++JA (N.length-a.length) MB) (L2.start N vs):=by
 have b:=r.length;refine⟨by unfold L2.start;simp[b],fun i d e=>?_⟩;unfold L2.start;by_cases hi:i<a.length
 ·rw[JO (by simpa using hi),J4]at e;cases q:a[i]? with
  |none=>rw[q]at e;cases e
  |some c=>
   rw[q]at e;cases e
   obtain⟨x,e1,e2⟩:=r.get q
   refine⟨x,?_,e2⟩
   rw[JO (by simp;omega),J4,e1];rfl
 ·rw[JP (by simpa using hi),List.getElem?_replicate]at e;split at e<;>cases e
end
abbrev DK:=D->MH->Prop
abbrev TD:=DS->MH->DK->Prop
abbrev Nj:=DS->MH->(Bool->MH->Prop)->Prop
abbrev Np:=DS->MH->(List D->MH->Prop)->Prop
structure EndsD where
 nx:DS->MH->Prop
 rt:DK
 bk:DS->MH->Prop:=fun _ _=>False
 ct:DS->MH->Prop:=fun _ _=>False
@[reducible] def EndsD.nxt(B:EndsD)(n:DS->MH->Prop):EndsD:={ B with nx:=n }
@[reducible] def EndsD.lp(B:EndsD)(w:DS->MH->Prop):EndsD:={ B with nx:=w,ct:=w,bk:=B.nx }
abbrev Nn:=EndsD->DS->MH->Prop
section
variable(K:IW)
def Fin(H:Hp)(R:DK)(Q:VK):Prop:=∀d b v a,NN K H a->Rep K a d v->NW K a b->R d b->Q v a
def Ay(H:Hp)(R:Bool->MH->Prop)(Q:Bool->Hp->Prop):Prop:=∀b c a,NN K H a->NW K a c->R b c->Q b a
def FinA(H:Hp)(R:List D->MH->Prop)(Q:List V->Hp->Prop):Prop:=∀b c vs a,NN K H a->aK K a b vs->NW K a c->R b c->Q vs a
def lift(t:TD):TE:=fun σ H Q=>∃δ M R,Slots K H δ σ/\NW K H M/\t δ M R/\Fin K H R Q
def liftT(t:Nj):TT:=fun σ H Q=>∃δ M R,Slots K H δ σ/\NW K H M/\t δ M R/\Ay K H R Q
def yi(t:Np):TA:=fun σ H Q=>∃δ M R,Slots K H δ σ/\NW K H M/\t δ M R/\FinA K H R Q
structure O7(H:Hp)(B:EndsD)(E:Ends):Prop where
 nx:∀δ M σ H',NN K H H'->Slots K H' δ σ->NW K H' M->B.nx δ M->E.nx σ H'
 rt:∀d M v H',NN K H H'->Rep K H' d v->NW K H' M->B.rt d M->E.rt v H'
 bk:∀δ M σ H',NN K H H'->Slots K H' δ σ->NW K H' M->B.bk δ M->E.bk σ H'
 ct:∀δ M σ H',NN K H H'->Slots K H' δ σ->NW K H' M->B.ct δ M->E.ct σ H'
def Cr(t:Nn):TS:=fun E σ H=>∃δ M,Slots K H δ σ/\NW K H M/\∃B,O7 K H B E/\t B δ M
end
def DE(X:Cx)(e:Expr)(t:TD):Prop:=PE X e (lift X.K t)
def DT(X:Cx)(e:Expr)(t:Nj):Prop:=PT X e (liftT X.K t)
def DW(X:Cx)(e:Expr)(t:Nj):Prop:=PW X e (liftT X.K t)
def DA(X:Cx)(es:List Expr)(t:Np):Prop:=PA X es (yi X.K t)
def DSt(X:Cx)(st:Stmt)(t:Nn):Prop:=PS X st (Cr X.K t)
def DSs(X:Cx)(st:List Stmt)(t:Nn):Prop:=PR X st (Cr X.K t)
theorem a9{X:Cx}{e:Expr}{t t':TE}(h:PE X e t)(k:∀σ H Q,t' σ H Q->t σ H Q):PE X e t':=fun MP s σ H Q I q=>h MP s σ H Q I (k σ H Q q)
theorem l3{X:Cx}{e:Expr}{t t':TT}(h:PT X e t)(k:∀σ H Q,t' σ H Q->t σ H Q):PT X e t':=fun MP s σ H Q I q=>h MP s σ H Q I (k σ H Q q)
theorem xj{X:Cx}{e:Expr}{t t':TT}(h:PW X e t)(k:∀σ H Q,t' σ H Q->t σ H Q):PW X e t':=fun a MP s σ H Q I q=>h a MP s σ H Q I (k σ H Q q)
theorem zF{X:Cx}{e:List Expr}{t t':TA}(h:PA X e t)(k:∀σ H Q,t' σ H Q->t σ H Q):PA X e t':=fun pos MP s σ H Q I q=>h pos MP s σ H Q I (k σ H Q q)
theorem cI{X:Cx}{e:Stmt}{t t':TS}(h:PS X e t)(k:∀D σ H,t' D σ H->t D σ H):PS X e t':=fun MP s σ H D I q=>h MP s σ H D I (k D σ H q)
theorem uG{X:Cx}{e:List Stmt}{t t':TS}(h:PR X e t)(k:∀D σ H,t' D σ H->t D σ H):PR X e t':=fun MP s σ H D I q=>h MP s σ H D I (k D σ H q)
section
variable{K:IW}{H H1 H':Hp}
theorem Fin.go{R:DK}{Q:VK}(g:NN K H H1)(h:Fin K H R Q):Fin K H1 R Q:=fun d M v H' a=>h d M v H' (g.trans a)
theorem Ay.go{R:Bool->MH->Prop}{Q:Bool->Hp->Prop}(g:NN K H H1)(h:Ay K H R Q):Ay K H1 R Q:=fun b M H' a=>h b M H' (g.trans a)
theorem O7.go{B:EndsD}{E:Ends}(g:NN K H H1)(h:O7 K H B E):O7 K H1 B E:=⟨fun d M v H' a=>h.nx d M v H' (g.trans a),fun d M v H' a=>h.rt d M v H' (g.trans a),fun d M v H' a=>h.bk d M v H' (g.trans a),fun d M v H' a=>h.ct d M v H' (g.trans a)⟩
end
section
variable{X:Cx}
inductive RH(i:Nat)(δ:DS)(M:MH)(Q:DK):Prop
 |mk (d:D) (h:δ[i]?=MA (MA d)) (q:Q d M):RH i δ M Q
def VF(d:D):TD:=fun _ M Q=>Q d M
theorem dv(i:Nat){x:Str}{pos:Pos}(c:X.N[i]?=MA x:=by rfl)(f:Uw X.env.scope x:=by first|exact Or.inl rfl|exact Or.inr (Or.inl rfl)|exact Or.inr (Or.inr rfl))(hd:(x==("__debug__":Str))=MD:=by decide)
 (a:(x==("__classdict__":Str))=MD:=by decide):DE X (.Name x pos) (RH i):=
 a9 (Fp c f hd a) fun σ H Q g=>by
  obtain⟨δ,M,R,hs,h,⟨d,e,r⟩,b⟩:=g
  obtain⟨v,e1,e2⟩:=hs.at' i d e
  exact⟨v,e1,b d M v H .refl e2 h r⟩
theorem dc{e:Expr}{v:V}{d:D}(h:PE X e (tC v))(r:∀H,Rep X.K H d v):DE X e (VF d):=a9 h fun σ H Q a=>by obtain⟨δ,M,R,hs,c,q,b⟩:=a;exact(b d M v H .refl (r H) c q)
theorem aj{i j pos}:DE X (.Constant (.int i) j pos) (VF (.int i)):=dc zB fun _=>by rw[Rep]
theorem g9{i j pos}:DE X (.Constant (.bool i) j pos) (VF (.bl i)):=dc FZ fun _=>by rw[Rep]
theorem r9{j pos}:DE X (.Constant .none j pos) (VF .non):=dc Ex fun _=>by rw[Rep]
end
abbrev Nv:=D->D->MH->DK->Prop
def og(K:IW)(r:Nv):R2:=fun v u H Q=>∃x y M R,Rep K H x v/\Rep K H y u/\NW K H M/\r x y M R/\Fin K H R Q
def Nw(X:Cx)(f:I0->I0->Sem I0)(r:Nv):Prop:=Ni X f (og X.K r)
def v9(r:Nv)(a b:TD):TD:=fun δ M Q=>a δ M fun x c=>b δ c fun y d=>r x y d Q
theorem ip{X:Cx}{f:I0->I0->Sem I0}{r c:R2}(h:Ni X f r)(k:∀x y H Q,c x y H Q->r x y H Q):Ni X f c:=fun MP s σ H x y v u Q I a b q=>h MP s σ H x y v u Q I a b (k _ _ _ _ q)
theorem kq{K:IW}{r:Nv}{b c:TD}{σ:L2.St}{H:Hp}{Q:VK}(h:lift K (v9 r b c) σ H Q):SJ (og K r) (lift K b) (lift K c) σ H Q:=by obtain⟨δ,M,R,hs,f,q,a⟩:=h;refine⟨δ,M,_,hs,f,q,fun x g v H1 d i j k=>?_⟩;exact⟨δ,g,_,hs.mono d,j,k,fun y l u p e m n o=>⟨x,y,l,R,i.mono e,m,n,o,a.go (d.trans e)⟩⟩
section
variable{X:Cx}{a b:Expr}{ta tb:TD}{pos:Pos}
theorem aD{op:Operator}{r:Nv}(c:Nw X (Le op) r)(d:DE X a ta)(e:DE X b tb):DE X (.BinOp a op b pos) (v9 r ta tb):=a9 (GH c d e) fun _ _ _ h=>kq h
theorem dD{op:CmpOp}{r:Nv}(c:Nw X (JN op) r)(d:DE X a ta)(e:DE X b tb)(f:Mp op b=MD:=by exact wU _):DE X (.Compare a [op] [b] pos) (v9 r ta tb):=a9 (Bn c d e f) fun _ _ _ h=>kq h
inductive Qf(x:D)(M:MH)(Q:Bool->MH->Prop):Prop
 |mk (c:Bool) (h:x=.bl c) (q:Q c M):Qf x M Q
def tBD(t:TD):Nj:=fun δ M Q=>t δ M fun x c=>Qf x c Q
theorem m5{K:IW}{t:TD}{t':TE}(i:∀σ H Q,lift K t σ H Q->t' σ H Q){σ:L2.St}{H:Hp}{Q:Bool->Hp->Prop}(h:liftT K (tBD t) σ H Q):Cj t' σ H Q:=by obtain⟨δ,M,R,hs,j,q,f⟩:=h;refine i _ _ _ ⟨δ,M,_,hs,j,q,fun x k v H1 l g m d=>?_⟩;obtain⟨c,e,n⟩:=d;subst e;rw[Rep]at g;exact⟨c,g,f c k H1 l m n⟩
theorem aP{op:CmpOp}{r:Nv}(c:Nw X (JN op) r)(d:DE X a ta)(e:DE X b tb)(f:Mp op b=MD:=by exact wU _):DT X (.Compare a [op] [b] pos) (tBD (v9 r ta tb)):=l3 (BK c d e f) fun _ _ _ h=>m5 (fun _ _ _ h=>kq h) h
theorem fY{e:Expr}{t:TD}(h:DE X e t)(he:∀c,isTrue e X.env c=(do let v <-c;standAt e.pos;holding [v] (truthy v)):=by intro _;rfl):DT X e (tBD t):=
 l3 (Ew h he) fun _ _ _ h=>m5 (t':=lift X.K t) (fun _ _ _ h=>h) h
end
section
variable{X:Cx}{a b c:Expr}{ta tb:TD}{tA MQ:Nj}{rest:List Expr}{pos:Pos}
def B7(t u:Nj):Nj:=fun δ M Q=>t δ M fun c d=>if c=MC then u δ d Q else Q MD d
def Hn(t u:Nj):Nj:=fun δ M Q=>t δ M fun c d=>if c=MC then Q MC d else u δ d Q
def jV(t:Nj):Nj:=fun δ M Q=>t δ M fun c d=>Q (!c) d
theorem ja(d:DT X a tA):DW X (.BoolOp .And [a] pos) tA:=BU d
theorem yH(d:DT X a tA):DW X (.BoolOp .Or [a] pos) tA:=ED d
theorem kX(i:DT X a tA)(j:DW X (.BoolOp .And (b::rest) pos) MQ):DW X (.BoolOp .And (a::b::rest) pos) (B7 tA MQ):=
 xj (CM i j) fun σ H Q d=>by obtain⟨δ,M,R,hs,k,q,e⟩:=d;exact(⟨δ,M,_,hs,k,q,fun c l H1 g h f=>by
  cases c with
  |true=>rw[MF rfl]at f ⊢;exact⟨δ,l,R,hs.mono g,h,f,e.go g⟩
  |false=>rw[ME Jf]at f ⊢;exact e _ _ _ g h f⟩)
theorem CC(i:DT X a tA)(j:DW X (.BoolOp .Or (b::rest) pos) MQ):DW X (.BoolOp .Or (a::b::rest) pos) (Hn tA MQ):=
 xj (Hf i j) fun σ H Q d=>by obtain⟨δ,M,R,hs,k,q,e⟩:=d;exact(⟨δ,M,_,hs,k,q,fun c l H1 g h f=>by
  cases c with
  |true=>rw[MF rfl]at f ⊢;exact e _ _ _ g h f
  |false=>rw[ME Jf]at f ⊢;exact⟨δ,l,R,hs.mono g,h,f,e.go g⟩⟩)
theorem rz{e:Expr}{t:Nj}(h:DW X e t):DT X e t:=PW.pt h
theorem C5(f:DT X a tA):DT X (.UnaryOp .Not a pos) (jV tA):=l3 (Dv f) fun σ H Q d=>by obtain⟨δ,M,R,hs,g,q,e⟩:=d;exact(⟨δ,M,_,hs,g,q,fun c k H1 h i j=>e _ _ _ h i j⟩)
def xG(ta tb:TD):TD:=fun δ M Q=>ta δ M fun x d=>Qf x d fun c d=>if c=MC then tb δ d Q else Q (.bl MD) d
def BW(ta tb:TD):TD:=fun δ M Q=>ta δ M fun x d=>Qf x d fun c d=>if c=MC then Q (.bl MC) d else tb δ d Q
def C7(ta:TD):TD:=fun δ M Q=>ta δ M fun x d=>Qf x d fun c d=>Q (.bl (!c)) d
theorem tR{op}{t:TD}(h:DE X a t):DE X (.BoolOp op [a] pos) t:=Fh h
theorem wR(j:DE X a ta)(k:DE X (.BoolOp .And (b::rest) pos) tb):DE X (.BoolOp .And (a::b::rest) pos) (xG ta tb):=
 a9 (Fj j k) fun σ H Q ⟨δ,M,R,hs,l,q,d⟩=>⟨δ,M,_,hs,l,q,fun x m v H1 g h i n=>by
  obtain⟨c,e,f⟩:=n
  subst e
  rw[Rep]at h
  refine⟨c,h,?_⟩
  cases c with
  |true=>rw[MF rfl]at f ⊢;exact⟨δ,m,R,hs.mono g,i,f,d.go g⟩
  |false=>rw[ME Jf]at f ⊢;exact d _ _ _ _ g (by rw[Rep]) i f⟩
theorem FP(j:DE X a ta)(k:DE X (.BoolOp .Or (b::rest) pos) tb):DE X (.BoolOp .Or (a::b::rest) pos) (BW ta tb):=
 a9 (GO j k) fun σ H Q ⟨δ,M,R,hs,l,q,d⟩=>⟨δ,M,_,hs,l,q,fun x m v H1 g h i n=>by
  obtain⟨c,e,f⟩:=n
  subst e
  rw[Rep]at h
  refine⟨c,h,?_⟩
  cases c with
  |true=>rw[MF rfl]at f ⊢;exact d _ _ _ _ g (by rw[Rep]) i f
  |false=>rw[ME Jf]at f ⊢;exact⟨δ,m,R,hs.mono g,i,f,d.go g⟩⟩
theorem Du(h:DE X a ta):DE X (.UnaryOp .Not a pos) (C7 ta):=
 a9 (DL h) fun σ H Q d=>by obtain⟨δ,M,R,hs,i,q,f⟩:=d;exact(⟨δ,M,_,hs,i,q,fun x n v H1 j g k l=>by
  obtain⟨c,e,m⟩:=l
  subst e
  rw[Rep]at g
  exact⟨c,g,f _ _ _ _ j (by rw[Rep]) k m⟩⟩)
def HH(t:Nj)(ta tb:TD):TD:=fun δ M Q=>t δ M fun c d=>if c=MC then ta δ d Q else tb δ d Q
theorem jq(j:DT X c tA)(k:DE X a ta)(l:DE X b tb):DE X (.IfExp c a b pos) (HH tA ta tb):=
 a9 (xn j k l) fun σ H Q d=>by obtain⟨δ,M,R,hs,m,q,e⟩:=d;exact(⟨δ,M,_,hs,m,q,fun c h H1 f i g=>by
  cases c with
  |true=>rw[MF rfl]at g ⊢;exact⟨δ,h,R,hs.mono f,i,g,e.go f⟩
  |false=>rw[ME Jf]at g ⊢;exact⟨δ,h,R,hs.mono f,i,g,e.go f⟩⟩)
end
def Ig(r:D->MH->DK->Prop)(a:TD):TD:=fun δ M Q=>a δ M fun x b=>r x b Q
def CA(K:IW)(r:D->MH->DK->Prop):V->Hp->VK->Prop:=fun v H Q=>∃x M R,Rep K H x v/\NW K H M/\r x M R/\Fin K H R Q
theorem nD{X:Cx}{a:Expr}{d:TD}{pos:Pos}{op:UnaryOp}{r:D->MH->DK->Prop}(e:Ux X (unaryOp op) (CA X.K r))(f:DE X a d):DE X (.UnaryOp op a pos) (Ig r d):=a9 (Hz e f) fun σ H Q b=>by obtain⟨δ,M,R,hs,g,q,c⟩:=b;exact(⟨δ,M,_,hs,g,q,fun x h v H1 i j k l=>⟨x,h,R,j,k,l,c.go i⟩⟩)
def Fx:Np:=fun _ M Q=>Q [] M
def DU(a:TD)(b:Np):Np:=fun δ M Q=>a δ M fun x c=>b δ c fun xs d=>Q (x::xs) d
section
variable{X:Cx}{e:Expr}{es:List Expr}{te:TD}{t:Np}{pos:Pos}
theorem af:DA X [] Fx:=zF pC fun σ H Q a=>by obtain⟨δ,M,R,hs,c,q,b⟩:=a;exact(b _ _ _ _ .refl .nil c q)
theorem aa(f:DE X e te)(g:DA X es t)(hs:Jd (e::es) X.env=(MD,eval e X.env)::Jd es X.env:=by rfl):DA X (e::es) (DU te t):=
 zF (kj f g hs) fun σ H Q a=>by obtain⟨δ,M,R,hs,h,q,b⟩:=a;exact(⟨δ,M,_,hs,h,q,fun x i v H1 c j k l=>
  ⟨δ,i,_,hs.mono c,k,l,fun xs p vs r d m n o=>b _ _ _ _ (c.trans d) (.cons (j.mono d) m) n o⟩⟩)
def Gz(t:Np):TD:=fun δ M Q=>t δ M fun xs a=>xs.length<=Jb/\Q (.tup xs) a
def F4(t:Np):TD:=fun δ M Q=>t δ M fun xs a=>xs.length<=Jb/\∀p,a p=MB->Q (.ref p) (aC a p (.lst xs))
theorem aV{x1}(h:DA X es t):DE X (.Tuple es x1 pos) (Gz t):=a9 (EZ h) fun σ H Q a=>by obtain⟨δ,M,R,hs,g,q,c⟩:=a;exact(⟨δ,M,_,hs,g,q,fun xs l vs H1 i f j b=>by obtain⟨z,k⟩:=b;exact(⟨by rw[<-f.length];exact z,fun p d=>c _ _ _ _ (i.trans (.new d)) (by rw[Rep];exact⟨p,vs,rfl,N1.of aW,f.mono (.new d)⟩) (j.new d) k⟩)⟩)
theorem bR(h:DA X es t):DE X (.List es pos) (F4 t):=a9 (Dm h) fun σ H Q a=>by obtain⟨δ,M,R,hs,i,q,c⟩:=a;exact(⟨δ,M,_,hs,i,q,fun xs l vs H1 j f g b=>by obtain⟨z,k⟩:=b;exact(⟨by rw[<-f.length];exact z,fun p d=>c _ _ _ _ (j.trans (.new d)) (by rw[Rep]) (g.jK d f) (k p (g.fresh d))⟩)⟩)
end
def YQ(X:Cx)(r:Nv):Prop:=Pu X (og X.K r)
theorem D8{X:Cx}{r c:R2}(h:Pu X r)(k:∀x y H Q,c x y H Q->r x y H Q):Pu X c:=fun e1 e2 MP s σ H x y v u Q I a b q=>h e1 e2 MP s σ H x y v u Q I a b (k _ _ _ _ q)
theorem Fd{X:Cx}{a b:Expr}{c d:TD}{pos:Pos}{r:Nv}(e:YQ X r)(f:DE X a c)(g:DE X b d)(hs:n6 b):DE X (.Subscript a b pos) (v9 r c d):=a9 (Hb e f g hs) fun _ _ _ h=>kq h
inductive XE(ds:List D)(i:Int)(M:MH)(Q:DK):Prop
 |mk (d:D) (h:atI ds i=MA d) (q:Q d M):XE ds i M Q
inductive X4(a:Addr)(i:Int)(M:MH)(Q:DK):Prop
 |mk (ds:List D) (d:D) (h:M a=MA (.lst ds)) (q:atI ds i=MA d/\Q d M):X4 a i M Q
def CZ:Nv:=fun x y M Q=>match x,y with
 |.tup ds,.int i=>XE ds i M Q
 |.rol ds,.int i=>XE ds i M Q
 |.ref a,.int i=>X4 a i M Q
 |_,_=>False
theorem aK.atI{K:IW}{H:Hp}{a:List D}{xs:List V}{i:Int}{d:D}(h:aK K H a xs)(e:L2.atI a i=MA d):∃x,L2.atI xs i=MA x/\Rep K H d x:=by
 unfold L2.atI at e ⊢;rw[<-h.length];cases q:ixN a.length i with
 |none=>rw[q]at e;cases e
 |some j=>
  rw[q]at e
  exact h.get e
theorem vS{K:IW}{v u:V}{H:Hp}{Q:VK}(h:og K CZ v u H Q):XQ K v u H Q:=by
 obtain⟨x,y,M,R,c,g,a,q,b⟩:=h;unfold CZ at q;split at q
 ·obtain⟨d,e,q⟩:=q;obtain rfl:u=.int _:=g;rw[Rep]at c;obtain⟨p,xs,rfl,i,f⟩:=c;obtain⟨x,e1,e2⟩:=f.atI e;exact .inr (.inl ⟨p,xs,_,x,rfl,rfl,i,e1,b _ _ _ _ .refl e2 a q⟩)
 ·obtain⟨d,e,q⟩:=q;obtain rfl:u=.int _:=g;rw[Rep]at c;obtain⟨p,xs,rfl,i,f⟩:=c;obtain⟨x,e1,e2⟩:=f.atI e;exact .inl ⟨p,xs,_,x,rfl,rfl,i.sql,e1,b _ _ _ _ .refl e2 a q⟩
 ·obtain⟨l,d,j,e,q⟩:=q;obtain rfl:u=.int _:=g;obtain rfl:v=.ref _:=c;obtain⟨xs,k,f⟩:=a _ _ j;obtain⟨x,e1,e2⟩:=f.atI e;exact .inl ⟨_,xs,_,x,rfl,rfl,NZ.of k,e1,b _ _ _ _ .refl e2 a q⟩
 ·exact q.elim
theorem aB{X:Cx}{a b:Expr}{c d:TD}{pos:Pos}(e:DE X a c)(f:DE X b d)(hs:n6 b:=by exact fun _ _=>rfl):DE X (.Subscript a b pos) (v9 CZ c d):=Fd (D8 C4 fun _ _ _ _ h=>vS h) e f hs
def Bd(n:Nat)(i:Int):Prop:=i.natAbs<2^n
instance(n:Nat)(i:Int):Decidable (Bd n i):=inferInstanceAs (Decidable (i.natAbs<2^n))
theorem Bd.mono{m n:Nat}{i:Int}(h:Bd m i)(l:m<=n):Bd n i:=Ju h (Nat.pow_le_pow_right (by decide) l)
theorem Bd.bits{n:Nat}{i:Int}(h:Bd n i):Builtin.Int.intBits i<=n:=by
 unfold Builtin.Int.intBits;split
 ·exact Kb _
 ·rename_i hz;have a:i.natAbs≠0:=fun e=>hz (by simpa using Int.natAbs_eq_zero.mp e);exact(Nat.log2_lt a).mpr h
theorem Bd.log2{n:Nat}{i:Int}(h:Bd n i)(b:0<n):i.natAbs.log2<n:=by
 by_cases a:i.natAbs=0
 ·rw[a];simpa using b
 ·exact(Nat.log2_lt a).mpr h
theorem Bd.mul{m n:Nat}{i j:Int}(a:Bd m i)(b:Bd n j):Bd (m+n) (i*j):=by unfold Bd at *;rw[Int.natAbs_mul,Nat.pow_add];exact Nat.mul_lt_mul'' a b
theorem Bd.add{n:Nat}{i j:Int}(a:Bd n i)(b:Bd n j):Bd (n+1) (i+j):=by unfold Bd at *;rw[Nat.pow_succ];have:=Int.natAbs_add_le i j;omega
theorem Bd.sub{n:Nat}{i j:Int}(a:Bd n i)(b:Bd n j):Bd (n+1) (i-j):=by unfold Bd at *;rw[Nat.pow_succ];have:=Int.natAbs_sub_le i j;omega
theorem Bd.neg{n:Nat}{i:Int}(a:Bd n i):Bd n (-i):=by unfold Bd at *;rw[Int.natAbs_neg];exact a
theorem Bd.of_le{n:Nat}{i j:Int}(a:Bd n i)(b:j.natAbs<=i.natAbs):Bd n j:=Nat.lt_of_le_of_lt b a
theorem cY{n:Nat}{i:Int}(h:i.natAbs<2^64)(l:64<=n:=by decide):Bd n i:=Bd.mono (m:=64) h l
theorem dz{i j:Int}(a:Bd 1000000 i)(b:Bd 1000000 j):IntMulOk i j:=.of_bits (Ke a.bits (by decide)) (Ke b.bits (by decide))
theorem bE{i j:Int}(a:Bd 64 i):IntMulOk i j:=.of_left a.bits
theorem t9{i j:Int}(a:Bd 64 j):IntMulOk i j:=.of_right a.bits
def Pn(C:Int->Int->Prop)(g:Int->Int->D):Nv:=fun x y M Q=>match x,y with
 |.int i,.int j=>C i j/\Q (g i j) M
 |_,_=>False
section
variable{X:Cx}
theorem dg{f:I0->I0->Sem I0}{C:Int->Int->Prop}{g:Int->Int->V}{g':Int->Int->D}(h:Ni X f (rI C g))(e:∀i j H,Rep X.K H (g' i j) (g i j)):Nw X f (Pn C g'):=
 ip h fun v u H Q c=>by
  obtain⟨x,y,M,R,d,k,a,q,b⟩:=c
  unfold Pn at q
  split at q
  ·obtain rfl:v=.int _:=d
   obtain rfl:u=.int _:=k
   exact⟨_,_,rfl,rfl,q.1,b _ _ _ _ .refl (e _ _ _) a q.2⟩
  ·exact q.elim
theorem Ru{f:I0->I0->Sem I0}{g:Int->Int->V}(h:Ni X f (Qm g)):Ni X f (rI (fun _ _=>True) g):=ip h fun x y H Q c=>by obtain⟨i,j,a,b,_,q⟩:=c;exact(⟨i,j,a,b,q⟩)
def FC:Nv:=Pn (fun _ _=>True) fun i j=>.int (i-j)
def Gk:Nv:=Pn IntMulOk fun i j=>.int (i*j)
def YR(i j:Int):Prop:=j≠0/\Bd 8000 j
def Iu:Nv:=Pn YR fun i j=>.int (i.fdiv j)
def GS:Nv:=Pn (fun _ j=>j≠0) fun i j=>.int (i.fmod j)
def Gj:Nv:=Pn FE fun i j=>.int (i^j.toNat)
def HS:Nv:=Pn (fun _ _=>True) fun i j=>.bl (decide (i<j))
def Ih:Nv:=Pn (fun _ _=>True) fun i j=>.bl (decide (i<=j))
def Iv:Nv:=Pn (fun _ _=>True) fun i j=>.bl (decide (j<i))
def IL:Nv:=Pn (fun _ _=>True) fun i j=>.bl (decide (j<=i))
theorem dZ:Nw X (Le .Sub) FC:=dg (Ru Fm) fun _ _ _=>by rw[Rep]
theorem aO:Nw X (Le .Mult) Gk:=dg (VJ fun _ _ _ _ _ _ _ a q=>mul_int q a) fun _ _ _=>by rw[Rep]
theorem fE:Nw X (Le .FloorDiv) Iu:=dg (VJ fun _ _ _ _ _ _ _ a q=>floordiv_int a.1 q (.inl (PyProof.noPylong_of_log2 (Nat.lt_trans (a.2.log2 (by decide)) (by decide))))) fun _ _ _=>by rw[Rep]
theorem gi:Nw X (Le .Mod) GS:=dg AL fun _ _ _=>by rw[Rep]
theorem jy:Nw X (Le .Pow) Gj:=dg EO fun _ _ _=>by rw[Rep]
theorem Ft:Nw X (JN .Lt) HS:=dg (Ru GJ) fun _ _ _=>by rw[Rep]
theorem FD:Nw X (JN .LtE) Ih:=dg (Ru FJ) fun _ _ _=>by rw[Rep]
theorem GI:Nw X (JN .Gt) Iv:=dg (Ru F8) fun _ _ _=>by rw[Rep]
theorem zU:Nw X (JN .GtE) IL:=dg (Ru G6) fun _ _ _=>by rw[Rep]
def B1:D->MH->DK->Prop:=fun x M Q=>match x with
 |.int i=>Q (.int (-i)) M
 |_=>False
theorem gY:Ux X (unaryOp .USub) (CA X.K B1):=fun MP s σ H x v Q I r b=>by obtain⟨d,M,R,e,a,q,c⟩:=b;exact(Fs MP s σ H x v Q I r (by
 unfold B1 at q
 split at q
 ·obtain rfl:x=.int _:=e;exact⟨_,rfl,c _ _ _ _ .refl (by rw[Rep]) a q⟩
 ·exact q.elim))
def B8:Nv:=fun x y M Q=>match x,y with
 |.int i,.int j=>Q (.int (i+j)) M
 |.tup a,.tup b=>a≠[]/\a.length+b.length<=Jb/\Q (.tup (a++b)) M
 |.ref a,.ref b=>∃xs c,M a=MA (.lst xs)/\M b=MA (.lst c)/\xs.length+c.length<=Jb/\∀p,M p=MB->Q (.ref p) (aC M p (.lst (xs++c)))
 |_,_=>False
theorem bF:Nw X (Le .Add) B8:=ip (CV.or (BE.or Eh)) fun v u H Q l=>by
 obtain⟨x,y,M,R,g,h,a,q,b⟩:=l;unfold B8 at q;split at q
 ·obtain rfl:v=.int _:=g;obtain rfl:u=.int _:=h;exact .inl ⟨_,_,rfl,rfl,b _ _ _ _ .refl (by rw[Rep]) a q⟩
 ·rename_i da db;obtain⟨m,n,q⟩:=q;rw[Rep]at g;obtain⟨p,xs,rfl,i,d⟩:=g;obtain⟨o,j,rfl,k,f⟩:∃a xs,u=V.ref a/\N1 X.K H a xs/\aK X.K H db xs:=by rw[Rep]at h;exact h
  have l1:=d.length;have l2:=f.length;refine .inr (.inl ⟨p,o,xs,j,rfl,rfl,i,k,?_,by omega,fun e=>?_,fun _ z c=>?_⟩)
  ·intro e;subst e;exact m (Lu.mp (by simpa using l1))
  ·subst e;obtain rfl:db=[]:=Lu.mp (by simpa using l2);exact b _ _ _ _ .refl (by rw[Rep,Kc];exact⟨p,xs,rfl,i,d⟩) a q
  ·exact b _ _ _ _ (.new c) (by rw[Rep];exact⟨z,_,rfl,N1.of aW,(d.append f).mono (.new c)⟩) (a.new c) q
 ·obtain⟨r,es,e1,e2,n,q⟩:=q;obtain rfl:v=.ref _:=g;obtain rfl:u=.ref _:=h;obtain⟨xs,i,d⟩:=a _ _ e1;obtain⟨j,k,f⟩:=a _ _ e2;have l1:=d.length;have l2:=f.length;exact .inr (.inr ⟨_,_,xs,j,rfl,rfl,i,k,by omega,fun z c=>b _ _ _ _ (.new c) (by rw[Rep]) (a.jK c (d.append f)) (q z (a.fresh c))⟩)
 ·exact q.elim
end
mutual
inductive Pd(M:MH):D->Mv->Prop
 |non:Pd M .non .none
 |bl (b:Bool):Pd M (.bl b) (.bool b)
 |int (i:Int):Pd M (.int i) (.int i)
 |str (x:Str):Pd M (.str x) (.str x)
 |tup {ds:List D} {ps:List Mv}:Pp M ds ps->Pd M (.tup ds) (.tuple ps)
 |rol {ds:List D} {ps:List Mv}:Pp M ds ps->Pd M (.rol ds) (.list ps)
 |lst {a:Addr} {ds:List D} {ps:List Mv}:M a=MA (.lst ds)->Pp M ds ps->Pd M (.ref a) (.list ps)
inductive Pp(M:MH):List D->List Mv->Prop
 |nil:Pp M [] []
 |cons {d:D} {ds:List D} {p:Mv} {ps:List Mv}:Pd M d p->Pp M ds ps->Pp M (d::ds) (p::ps)
end
mutual
def Qc:D->Option Mv
 |.non=>MA .none
 |.bl b=>MA (.bool b)
 |.int i=>MA (.int i)
 |.str x=>MA (.str x)
 |.tup a=>match tM a with
  |some ps=>MA (.tuple ps)
  |none=>MB
 |_=>MB
def tM:List D->Option (List Mv)
 |[]=>MA []
 |d::ds=>match Qc d,tM ds with
  |some p,MA ps=>MA (p::ps)
  |_,_=>MB
end
mutual
theorem Pd.of{M:MH}:∀{d:D} {p:Mv},Qc d=MA p->Pd M d p
 |.non,p,h=>by rw[Qc]at h;cases h;exact .non
 |.bl b,p,h=>by rw[Qc]at h;cases h;exact .bl b
 |.int i,p,h=>by rw[Qc]at h;cases h;exact .int i
 |.str x,p,h=>by rw[Qc]at h;cases h;exact .str x
 |.ty _,p,h=>by simp[Qc]at h
 |.ref _,p,h=>by simp[Qc]at h
 |.rol _,p,h=>by simp[Qc]at h
 |.tup ds,p,h=>by
  rw[Qc]at h
  cases e:tM ds with
  |none=>rw[e]at h;cases h
  |some ps=>rw[e]at h;cases h;exact .tup (Pp.of e)
theorem Pp.of{M:MH}:∀{a:List D} {ps:List Mv},tM a=MA ps->Pp M a ps
 |[],ps,h=>by rw[tM]at h;cases h;exact .nil
 |d::a,ps,h=>by
  rw[tM]at h
  cases e1:Qc d with
  |none=>rw[e1]at h;cases h
  |some p=>
   cases e2:tM a with
   |none=>rw[e1,e2]at h;cases h
   |some qs=>rw[e1,e2]at h;cases h;exact .cons (Pd.of e1) (Pp.of e2)
end
section
variable{X:Cx}{MP:List (Addr×Obj)}{σ:L2.St}{H:Hp}{s:IY}{M:MH}
mutual
theorem bN(I:Inv X MP σ H s)(q:NW X.K H M):∀{d:D} {p:Mv} {v:V} {u:I0},Pd M d p->Rep X.K H d v->L2.RelV v u->∃c,Reads s.heap u p c
 |_,_,_,_,.non,r,e=>by rw[Rep]at r;subst r;cases e;exact⟨_,.none⟩
 |_,_,_,_,.bl b,r,e=>by rw[Rep]at r;subst r;cases e;exact⟨_,.bool b⟩
 |_,_,_,_,.int i,r,e=>by rw[Rep]at r;subst r;obtain⟨t,rfl⟩:=e;exact⟨_,.int i t⟩
 |_,_,_,_,.str x,r,e=>by rw[Rep]at r;subst r;obtain⟨t,rfl⟩:=e;exact⟨_,.str x t⟩
 |_,_,_,_,.tup hp,r,e=>by
  rw[Rep]at r
  obtain⟨a,xs,rfl,w,f⟩:=r
  cases e
  obtain⟨g,h,⟨o,j,k,n,l⟩,_⟩:=I.tuple w
  obtain⟨c,m⟩:=gS I q hp f h
  exact⟨c,reads_tuple_at j k l (by simpa using m)⟩
 |_,_,_,_,.rol hp,r,e=>by
  rw[Rep]at r
  obtain⟨a,xs,rfl,w,f⟩:=r
  cases e
  obtain⟨g,h,⟨o,n,j,k,_,l⟩,_⟩:=I.list w.sql
  obtain⟨c,m⟩:=gS I q hp f h
  exact⟨_,reads_list_at j k l (by simpa using m)⟩
 |_,_,_,_,.lst ha hp,r,e=>by
  rw[Rep]at r
  subst r
  cases e
  obtain⟨xs,y,f⟩:=q _ _ ha
  obtain⟨g,h,⟨o,n,j,k,_,l⟩,_⟩:=I.list (NZ.of y)
  obtain⟨c,m⟩:=gS I q hp f h
  exact⟨_,reads_list_at j k l (by simpa using m)⟩
theorem gS(I:Inv X MP σ H s)(a:NW X.K H M):∀{b:List D} {ps:List Mv} {vs:List V} {us:List I0},Pp M b ps->aK X.K H b vs->Vals vs us->∃c,ReadsAll s.heap us ps c
 |_,_,_,_,.nil,r,e=>by rw[aK]at r;subst r;cases e;exact⟨_,.nil⟩
 |_,_,_,_,.cons h1 h2,r,e=>by
  rw[aK]at r
  obtain⟨x,r,rfl,d,f⟩:=r
  cases e with
  |cons e1 e2=>
   obtain⟨c,g⟩:=bN I a h1 d e1
   obtain⟨bs,h⟩:=gS I a h2 f e2
   exact⟨_,.cons g h⟩
end
end
inductive Qb(g:Bool->Bool)(x y:D)(M:MH)(Q:DK):Prop
 |mk (p q:Mv) (h1:Pd M x p) (h2:Pd M y q) (h3:Ln p=MC) (h4:Ln q=MC) (hq:Q (.bl (g (K1 p q))) M):Qb g x y M Q
def Hi:Nv:=fun x y M Q=>match x,y with
 |.int i,.int j=>Q (.bl (decide (i=j))) M
 |.bl i,.bl j=>Q (.bl (decide (i=j))) M
 |x,y=>Qb (fun b=>b) x y M Q
def EJ:Nv:=fun x y M Q=>match x,y with
 |.int i,.int j=>Q (.bl (!decide (i=j))) M
 |.bl i,.bl j=>Q (.bl (!decide (i=j))) M
 |x,y=>Qb (fun b=>!b) x y M Q
section
variable{X:Cx}
theorem CO(d:X.A.units+64<Kf):Nw X (JN .Eq) (Qb fun b=>b):=by intro MP s σ H v u t w Q I e f h;obtain⟨x,y,M,R,g,i,a,⟨p,q,j,k,l,m,n⟩,c⟩:=h;obtain⟨z,o⟩:=bN I a j g e;obtain⟨bs,r⟩:=bN I a k i f;exact eq_dataH o r l m d ⟨.bl _,H,I,rfl,c _ _ _ _ .refl (by rw[Rep]) a n⟩
theorem D0(d:X.A.units+64<Kf):Nw X (JN .NotEq) (Qb fun b=>!b):=by intro MP s σ H v u t w Q I e f h;obtain⟨x,y,M,R,g,i,a,⟨p,q,j,k,l,m,n⟩,c⟩:=h;obtain⟨z,o⟩:=bN I a j g e;obtain⟨bs,r⟩:=bN I a k i f;exact ne_dataH o r l m d ⟨.bl _,H,I,rfl,c _ _ _ _ .refl (by rw[Rep]) a n⟩
theorem gK{i j:Int}:(i==j)=decide (i=j):=by by_cases h:i=j<;>simp[h]
theorem qQ{i j:Bool}:(i==j)=decide (i=j):=by cases i<;>cases j<;>rfl
theorem ez(c:X.A.units+64<Kf):Nw X (JN .Eq) Hi:=ip (CO c) fun v u H Q d=>by
 obtain⟨x,y,M,R,e,f,a,q,b⟩:=d;refine⟨x,y,M,R,e,f,a,?_,b⟩;unfold Hi at q;split at q
 ·exact⟨_,_,.int _,.int _,rfl,rfl,by simpa[K1,gK]using q⟩
 ·exact⟨_,_,.bl _,.bl _,rfl,rfl,by simpa[K1,qQ]using q⟩
 ·exact q
theorem fI(c:X.A.units+64<Kf):Nw X (JN .NotEq) EJ:=ip (D0 c) fun v u H Q d=>by
 obtain⟨x,y,M,R,e,f,a,q,b⟩:=d;refine⟨x,y,M,R,e,f,a,?_,b⟩;unfold EJ at q;split at q
 ·exact⟨_,_,.int _,.int _,rfl,rfl,by simpa[K1,gK]using q⟩
 ·exact⟨_,_,.bl _,.bl _,rfl,rfl,by simpa[K1,qQ]using q⟩
 ·exact q
def XU(x y:D):Option Bool:=match y with
 |.non=>MA (match x with
  |.non=>MC
  |_=>MD)
 |.bl b=>MA (match x with
  |.bl a=>decide (a=b)
  |_=>MD)
 |_=>MB
inductive SX(g:Bool->Bool)(x y:D)(M:MH)(Q:DK):Prop
 |mk (b:Bool) (h:XU x y=MA b) (q:Q (.bl (g b)) M):SX g x y M Q
def HL:Nv:=SX fun b=>b
theorem vU{K:IW}{H:Hp}{x y:D}{b:Bool}{v u:V}{k l:I0}(h:XU x y=MA b)(g:Rep K H x v)(m:Rep K H y u)(i:L2.RelV v k)(j:L2.RelV u l):plainIs k l=MC/\(k==l)=b:=by
 have f:∀{c:I0} {d:Bool},l=c->MA d=MA b->plainIs k c=MC->(k==c)=d->plainIs k l=MC/\(k==l)=b:=fun e h p q=>by cases h;subst e;exact⟨p,q⟩
 cases y with
 |non=>
  rw[Rep]at m;subst m
  cases x<;>rw[Rep]at g
  case non=>subst g;cases (show k=LQ from i);exact f j h rfl rfl
  case bl=>subst g;cases (show k=Value.bool _ from i);exact f j h rfl rfl
  case int=>subst g;obtain⟨t,rfl⟩:=i;exact f j h rfl rfl
  case str=>subst g;obtain⟨t,rfl⟩:=i;exact f j h rfl rfl
  case ty=>subst g;cases i;exact f j h rfl rfl
  case ref=>subst g;cases i;exact f j h rfl rfl
  all_goals (obtain⟨a,xs,rfl,_⟩:=g;cases i;exact f j h rfl rfl)
 |bl c=>
  rw[Rep]at m;subst m
  cases x<;>rw[Rep]at g
  case non=>subst g;cases (show k=LQ from i);exact f j h rfl rfl
  case bl c'=>subst g;cases (show k=Value.bool _ from i);exact f j h rfl (by cases c<;>cases c'<;>rfl)
  case int=>subst g;obtain⟨t,rfl⟩:=i;exact f j h rfl rfl
  case str=>subst g;obtain⟨t,rfl⟩:=i;exact f j h rfl rfl
  case ty=>subst g;cases i;exact f j h rfl rfl
  case ref=>subst g;cases i;exact f j h rfl rfl
  all_goals (obtain⟨a,xs,rfl,_⟩:=g;cases i;exact f j h rfl rfl)
 |_=>cases h
theorem Fy:Nw X (JN .Is) HL:=by intro MP s σ H v u j k Q I d f h;obtain⟨x,y,M,R,g,i,a,⟨b,e,q⟩,c⟩:=h;obtain⟨e1,e2⟩:=vU e g i d f;exact wpAny_is_plain e1 ⟨.bl b,H,I,by rw[e2];rfl,c _ _ _ _ .refl (by rw[Rep]) a q⟩
end
abbrev RC:=List D->MH->DK->Prop
def Cq(K:IW)(r:RC):List V->Hp->VK->Prop:=fun vs H Q=>∃a M R,aK K H a vs/\NW K H M/\r a M R/\Fin K H R Q
def eQ(X:Cx)(f:I0)(r:RC):Prop:=bO X f (Cq X.K r)
theorem cu{X:Cx}{f:I0}{r b:List V->Hp->VK->Prop}(h:bO X f r)(k:∀xs H Q,b xs H Q->r xs H Q):bO X f b:=fun MP s σ H xs us Q I a q=>h MP s σ H xs us Q I a (k _ _ _ q)
def D4(r:RC)(t:Np):TD:=fun δ M Q=>t δ M fun a b=>r a b Q
theorem vB{K:IW}{r:RC}{t:Np}{σ:L2.St}{H:Hp}{Q:VK}(h:lift K (D4 r t) σ H Q):VU (Cq K r) (yi K t) σ H Q:=by obtain⟨δ,M,R,hs,b,q,a⟩:=h;exact⟨δ,M,_,hs,b,q,fun c d vs H1 e f g i=>⟨c,d,R,f,g,i,a.go e⟩⟩
section
variable{X:Cx}{x:Str}{p pos:Pos}{e:Expr}{es:List Expr}{t:Np}{id T:String}{r:RC}
theorem aN(c:eQ X (.builtin id) r)(d:Gl X x)(f:X.mg x=MB)(g:Ka x=MA (.builtin id))(i:DA X (e::es) t)(j:x≠"__name__":=by decide)(a:(x==("__debug__":Str))=MD:=by decide) (he:Jd (e::es) X.env=(MD,eval e X.env)::Jd es X.env:=by rfl) (b:(KO pos (Jd es X.env)).any (·.1)=MD:=by rfl):DE X (.Call (.Name x p) (e::es) [] pos) (D4 r t):=a9 (qN c d f g i j a he b) fun _ _ _ h=>vB h
theorem c8(c:eQ X (.type T) r)(d:Gl X x)(f:X.mg x=MB)(g:Ka x=MA (.type T))(i:DA X (e::es) t)(j:x≠"__name__":=by decide)(a:(x==("__debug__":Str))=MD:=by decide) (he:Jd (e::es) X.env=(MD,eval e X.env)::Jd es X.env:=by rfl) (b:(KO pos (Jd es X.env)).any (·.1)=MD:=by rfl):DE X (.Call (.Name x p) (e::es) [] pos) (D4 r t):=a9 (je c d f g i j a he b) fun _ _ _ h=>vB h
theorem cF{K:IW}{H:Hp}{d:D}{vs:List V}(h:aK K H [d] vs):∃v,vs=[v]/\Rep K H d v:=by rw[aK]at h;obtain⟨x,r,rfl,b,a⟩:=h;rw[aK]at a;subst a;exact⟨x,rfl,b⟩
theorem f6{K:IW}{H:Hp}{d e:D}{vs:List V}(h:aK K H [d,e] vs):∃v u,vs=[v,u]/\Rep K H d v/\Rep K H e u:=by rw[aK]at h;obtain⟨x,r,rfl,a,b⟩:=h;obtain⟨u,rfl,c⟩:=cF b;exact⟨x,u,rfl,a,c⟩
def HJ:RC:=fun a M Q=>match a with
 |[.int i]=>Q (.int (i.natAbs:Int)) M
 |_=>False
theorem oR:eQ X (.builtin "abs") HJ:=cu zI fun vs H Q f=>by
 obtain⟨b,M,R,g,a,q,c⟩:=f;rcases b with _|⟨d,b⟩
 ·exact JB q
 cases d<;>rcases b with _|⟨e,b⟩<;>try exact JB q
 ·rename_i i;obtain⟨v,rfl,r⟩:=cF g;rw[Rep]at r;subst r;have e:(if i<0 then -i else i)=(i.natAbs:Int):=by split<;>omega
  exact⟨_,rfl,c _ _ _ _ .refl (by rw[Rep,e]) a q⟩
def Il:RC:=fun a M Q=>match a with
 |[.int i,.int j]=>Q (.int (max i j)) M
 |_=>False
def Iq:RC:=fun a M Q=>match a with
 |[.int i,.int j]=>Q (.int (min i j)) M
 |_=>False
theorem C6(h:X.calm=MC):eQ X (.builtin "max") Il:=cu (vL h) fun vs H Q k=>by
 obtain⟨b,M,R,l,a,q,c⟩:=k;rcases b with _|⟨d,b⟩
 ·exact JB q
 cases d<;>rcases b with _|⟨e,b⟩<;>try exact JB q
 all_goals (cases e<;>rcases b with _|⟨f,b⟩<;>try exact JB q)
 ·rename_i i j;obtain⟨v,u,rfl,r,g⟩:=f6 l;rw[Rep]at r;subst r;have m:u=.int j:=by rw[Rep]at g;exact g
  subst m;have e:(if j>i then j else i)=max i j:=by split<;>omega
  exact⟨_,_,rfl,c _ _ _ _ .refl (by rw[Rep,e]) a q⟩
theorem Df(h:X.calm=MC):eQ X (.builtin "min") Iq:=cu (vT h) fun vs H Q k=>by
 obtain⟨b,M,R,l,a,q,c⟩:=k;rcases b with _|⟨d,b⟩
 ·exact JB q
 cases d<;>rcases b with _|⟨e,b⟩<;>try exact JB q
 all_goals (cases e<;>rcases b with _|⟨f,b⟩<;>try exact JB q)
 ·rename_i i j;obtain⟨v,u,rfl,r,g⟩:=f6 l;rw[Rep]at r;subst r;have m:u=.int j:=by rw[Rep]at g;exact g
  subst m;have e:(if j<i then j else i)=min i j:=by split<;>omega
  exact⟨_,_,rfl,c _ _ _ _ .refl (by rw[Rep,e]) a q⟩
def H0:RC:=fun a M Q=>match a with
 |[.tup xs]=>Q (.int (xs.length:Int)) M
 |[.rol xs]=>Q (.int (xs.length:Int)) M
 |[.ref l]=>∃xs,M l=MA (.lst xs)/\Q (.int (xs.length:Int)) M
 |_=>False
theorem cW:eQ X (.builtin "len") H0:=cu oE fun vs H Q i=>by
 obtain⟨g,M,R,h,a,q,b⟩:=i;rcases g with _|⟨d,g⟩
 ·exact JB q
 cases d<;>rcases g with _|⟨e,g⟩<;>try exact JB q
 ·obtain⟨v,rfl,r⟩:=cF h;rw[Rep]at r;subst r;obtain⟨xs,e,q⟩:=q;obtain⟨j,c,f⟩:=a _ _ e;exact⟨_,j,rfl,.inl (NZ.of c),b _ _ _ _ .refl (by rw[Rep,f.length]) a q⟩
 ·obtain⟨v,rfl,r⟩:=cF h;rw[Rep]at r;obtain⟨l,xs,rfl,c,f⟩:=r;exact⟨l,xs,rfl,.inl c.sql,b _ _ _ _ .refl (by rw[Rep,f.length]) a q⟩
 ·obtain⟨v,rfl,r⟩:=cF h;rw[Rep]at r;obtain⟨l,xs,rfl,c,f⟩:=r;exact⟨l,xs,rfl,.inr c,b _ _ _ _ .refl (by rw[Rep,f.length]) a q⟩
def DO:RC:=fun a M Q=>match a with
 |[.tup xs]=>Q (.tup xs) M
 |[.rol xs]=>Q (.tup xs) M
 |[.ref l]=>∃xs,M l=MA (.lst xs)/\Q (.tup xs) M
 |_=>False
theorem zb:eQ X (.type "tuple") DO:=cu mS fun vs H Q k=>by
 obtain⟨h,M,R,i,a,q,b⟩:=k;rcases h with _|⟨d,h⟩
 ·exact JB q
 cases d<;>rcases h with _|⟨e,h⟩<;>try exact JB q
 ·obtain⟨v,rfl,r⟩:=cF i;rw[Rep]at r;subst r;obtain⟨xs,e,q⟩:=q;obtain⟨j,f,g⟩:=a _ _ e;exact⟨_,j,rfl,.inl ⟨NZ.of f,fun p c=>b _ _ _ _ (.new c) (by rw[Rep];exact⟨p,j,rfl,N1.of aW,g.mono (.new c)⟩) (a.new c) q⟩⟩
 ·obtain⟨v,rfl,r⟩:=cF i;rw[Rep]at r;obtain⟨l,xs,rfl,f,g⟩:=r;exact⟨l,xs,rfl,.inl ⟨f.sql,fun p c=>b _ _ _ _ (.new c) (by rw[Rep];exact⟨p,xs,rfl,N1.of aW,g.mono (.new c)⟩) (a.new c) q⟩⟩
 ·obtain⟨v,rfl,r⟩:=cF i;rw[Rep]at r;obtain⟨l,xs,rfl,f,g⟩:=r;exact⟨l,xs,rfl,.inr ⟨f,b _ _ _ _ .refl (by rw[Rep];exact⟨l,xs,rfl,f,g⟩) a q⟩⟩
def Gn:RC:=fun a M Q=>match a with
 |[.int i]=>Q (.int i) M
 |[.bl k]=>Q (.int (if k=MC then 1 else 0)) M
 |_=>False
theorem oX:eQ X (.type "int") Gn:=cu vE fun vs H Q g=>by
 obtain⟨c,M,R,f,a,q,b⟩:=g;rcases c with _|⟨d,c⟩
 ·exact JB q
 cases d<;>rcases c with _|⟨e,c⟩<;>try exact JB q
 ·obtain⟨v,rfl,r⟩:=cF f;rw[Rep]at r;subst r;exact .inr ⟨_,rfl,b _ _ _ _ .refl (by rw[Rep]) a q⟩
 ·obtain⟨v,rfl,r⟩:=cF f;rw[Rep]at r;subst r;exact .inl ⟨_,rfl,b _ _ _ _ .refl (by rw[Rep]) a q⟩
end
abbrev P0:=D->DS->MH->(DS->MH->Prop)->Prop
abbrev rB:=List D->DS->MH->(DS->MH->Prop)->Prop
section
variable(K:IW)
def yU(H:Hp)(R:DS->MH->Prop)(Q:L2.St->Hp->Prop):Prop:=∀a d b c,NN K H c->Slots K c a b->NW K c d->R a d->Q b c
def Ge(t:P0):TG:=fun v σ H Q=>∃d δ M R,Rep K H d v/\Slots K H δ σ/\NW K H M/\t d δ M R/\yU K H R Q
def D9(t:rB):Qz:=fun vs σ H Q=>∃a δ M R,aK K H a vs/\Slots K H δ σ/\NW K H M/\t a δ M R/\yU K H R Q
end
theorem yU.go{K:IW}{H H1:Hp}{R:DS->MH->Prop}{Q:L2.St->Hp->Prop}(g:NN K H H1)(h:yU K H R Q):yU K H1 R Q:=fun d M v a b=>h d M v a (g.trans b)
def DG(X:Cx)(e:Expr)(t:P0):Prop:=PG X e (Ge X.K t)
def DGs(X:Cx)(es:List Expr)(t:rB):Prop:=Rl X es (D9 X.K t)
theorem sf{X:Cx}{e:Expr}{t t':TG}(h:PG X e t)(k:∀v σ H Q,t' v σ H Q->t v σ H Q):PG X e t':=fun MP s σ H v u Q I r q=>h MP s σ H v u Q I r (k _ _ _ _ q)
theorem t8{X:Cx}{e:List Expr}{t t':Qz}(h:Rl X e t)(k:∀v σ H Q,t' v σ H Q->t v σ H Q):Rl X e t':=fun MP s σ H v u Q I r q=>h MP s σ H v u Q I r (k _ _ _ _ q)
section
variable{X:Cx}{pos:Pos}
def aZ(i:Nat):P0:=fun d δ M Q=>Q (δ.set i (MA d)) M
theorem aF(i:Nat){x:Str}(e:X.N.Nodup)(hi:X.N[i]?=MA x:=by rfl)(f:Loc X.env.scope x:=by first|exact Or.inl rfl|exact Or.inr rfl)(g:X.fn x=MC\/X.env.scope.names.lookup x=MA .local:=by first|exact .inl rfl|exact .inr rfl|assumption):DG X (.Name x pos) (aZ i):=sf (u7 e hi f g) fun v σ H Q b=>by obtain⟨d,δ,M,R,r,hs,a,q,c⟩:=b;exact(c _ _ _ _ .refl (hs.set r i) a q)
def GF:rB:=fun a δ M Q=>a=[]/\Q δ M
inductive Qd(t:P0)(u:rB)(ds:List D)(δ:DS)(M:MH)(Q:DS->MH->Prop):Prop
 |mk (d:D) (r:List D) (h:ds=d::r) (q:t d δ M fun δ' M'=>u r δ' M' Q):Qd t u ds δ M Q
theorem bD:DGs X [] GF:=t8 vd fun vs σ H Q d=>by obtain⟨f,δ,M,R,c,hs,a,⟨e,q⟩,b⟩:=d;subst e;rw[aK]at c;exact⟨c,b _ _ _ _ .refl hs a q⟩
theorem aI{e:Expr}{es:List Expr}{t:P0}{u:rB}(h:DG X e t)(i:DGs X es u) (hs:(Mq (e::es) X.env).map (·.2)=Mt e X.env::(Mq es X.env).map (·.2):=by rfl):DGs X (e::es) (Qd t u):=t8 (l6 h i hs) fun vs σ H Q j=>by obtain⟨v,δ,M,R,f,hs,a,⟨d,r,e,q⟩,b⟩:=j;subst e;rw[aK]at f;obtain⟨x,xs,rfl,k,l⟩:=f;exact⟨x,xs,rfl,d,δ,M,_,k,hs,a,q,fun c m n w g o p s=>⟨r,c,m,R,l.mono g,o,p,s,b.go g⟩⟩
inductive R3(n:Nat)(t:rB)(d:D)(δ:DS)(M:MH)(Q:DS->MH->Prop):Prop
 |mk (ds:List D) (h:d=.tup ds) (q:ds.length=n/\t ds δ M Q):R3 n t d δ M Q
theorem bX{es:List Expr}{k:Nat}{t:rB}{n:Nat}(g:X.calm=MC)(h:DGs X es t) (i:(Mq es X.env).length=n:=by rfl) (b:(Mq es X.env).findIdx? (·.1)=MB:=by rfl):DG X (.Tuple es k pos) (R3 n t):=sf (xC g h i b) fun v σ H Q j=>by obtain⟨d,δ,M,R,r,hs,a,⟨l,e,m,q⟩,c⟩:=j;subst e;rw[Rep]at r;obtain⟨p,xs,rfl,o,f⟩:=r;exact⟨p,xs,rfl,o,by rw[<-f.length];exact m,l,δ,M,R,f,hs,a,q,c⟩
def CB:D->D->D->MH->(MH->Prop)->Prop:=fun o i v M Q=>match o,i with
 |.ref p,.int k=>∃a j,M p=MA (.lst a)/\ixN a.length k=MA j/\Q (aC M p (.lst (a.set j v)))
 |_,_=>False
def FL(a b:TD):P0:=fun v δ M Q=>a δ M fun o c=>b δ c fun i d=>CB o i v d fun e=>Q δ e
theorem oq{o i:Expr}{h k:TD}(s:DE X o h)(hi:DE X i k)
 (t:∀v,Mt (.Subscript o i pos) X.env v=(do
  let ov <-holding [v] (eval o X.env)
  let iv <-holding [v,ov] (eval i X.env)
  standAt pos
  holding [v,ov,iv] (setItem ov iv v)
  release [v,ov,iv] []):=by intro _;rfl):DG X (.Subscript o i pos) (FL h k):=
 sf (Ds s hi set_list t) fun v σ H Q u=>by
  obtain⟨d,δ,M,R,r,hs,a,q,e⟩:=u
  exact⟨δ,M,_,hs,a,q,fun o w x H1 c y z A=>⟨δ,w,_,hs.mono c,z,A,fun i D B l f C m b=>by
   unfold CB at b
   split at b
   ·obtain⟨E,j,e1,e2,b⟩:=b
    obtain rfl:x=.ref _:=y
    obtain rfl:B=.int _:=C
    obtain⟨xs,g,n⟩:=m _ _ e1
    refine⟨_,xs,_,j,rfl,rfl,g,by rw[<-n.length];exact e2,?_⟩
    have p:NN X.K l (upd l _ (.lst (xs.set j v))):=.lst g
    exact e _ _ _ _ ((c.trans f).trans p) (hs.mono ((c.trans f).trans p)) (m.xJ g (n.set (r.mono (c.trans f)) j)) b
   ·exact b.elim⟩⟩
end
section
variable{X:Cx}{pos:Pos}{st:Stmt}{rest:List Stmt}{t u:Nn}
def fh:Nn:=fun B δ M=>B.nx δ M
def jd(t u:Nn):Nn:=fun B δ M=>t (B.nxt (u B)) δ M
theorem aU:DSs X [] fh:=uG AB fun E σ H b=>by obtain⟨δ,M,hs,a,B,ok,q⟩:=b;exact(ok.nx _ _ _ _ .refl hs a q)
theorem ak(d:DSt X st t)(e:DSs X rest u):DSs X (st::rest) (jd t u):=uG (yK d e) fun E σ H b=>by obtain⟨δ,M,hs,a,B,ok,q⟩:=b;exact(⟨δ,M,hs,a,B.nxt (u B),⟨fun c f h l g i j k=>⟨c,f,i,j,B,ok.go g,k⟩,ok.rt,ok.bk,ok.ct⟩,q⟩)
theorem aw(a:DSt X st t):DSs X [st] t:=AQ a
def BJ:Nn:=fun _ _ _=>False
theorem xg:DSt X st BJ:=cI yp fun E σ H b=>by obtain⟨δ,M,hs,a,B,ok,q⟩:=b;exact(q.elim)
def gu(te:TD):Nn:=fun B δ M=>te δ M fun _ a=>B.nx δ a
theorem dM{e:Expr}{te:TD}(he:DE X e te)(hs:LL e MB pos.line X.env=pure MD:=by rfl):DSt X (.Expr e pos) (gu te):=cI (BG he hs) fun E σ H b=>by obtain⟨δ,M,hs,a,B,ok,q⟩:=b;exact(⟨δ,M,_,hs,a,q,fun d h v H1 c i f g=>ok.nx _ _ _ _ c (hs.mono c) f g⟩)
def jT(te:TD):Nn:=fun B δ M=>te δ M B.rt
theorem aH{e:Expr}{te:TD}(he:DE X e te):DSt X (.Return (MA e) pos) (jT te):=cI (Dz he) fun E σ H b=>by obtain⟨δ,M,hs,a,B,ok,q⟩:=b;exact(⟨δ,M,_,hs,a,q,fun d i v H1 c f g h=>ok.rt _ _ _ _ c f g h⟩)
def jX(c:Nj)(t u:Nn):Nn:=fun B δ M=>c δ M fun b a=>if b=MC then t B δ a else u B δ a
theorem bJ{c:Expr}{a b:List Stmt}{tc:Nj}(i:DT X c tc)(j:DSs X a t)(k:DSs X b u):DSt X (.If c a b pos) (jX tc t u):=
 cI (G7 i j k) fun E σ H d=>by obtain⟨δ,M,hs,a,B,ok,q⟩:=d;exact(⟨δ,M,_,hs,a,q,fun c g H1 e h f=>by
  cases c with
  |true=>rw[MF rfl]at f ⊢;exact⟨δ,g,hs.mono e,h,B,ok.go e,f⟩
  |false=>rw[ME Jf]at f ⊢;exact⟨δ,g,hs.mono e,h,B,ok.go e,f⟩⟩)
def fG(te:TD)(g:P0):Nn:=fun B δ M=>te δ M fun d a=>g d δ a B.nx
theorem cR{tg e:Expr}{te:TD}{g:P0}(he:DE X e te)(f:DG X tg g)(hs:swapsWithSole [tg] e pos.line X.env=pure MD:=by rfl)(hw:swappedStores [tg] e X.env=pure MB:=by rfl)
 (h:(Mq [tg] X.env).map (·.2)=[Mt tg X.env]:=by rfl):DSt X (.Assign [tg] e pos) (fG te g):=
 cI (Ei he f hs hw h) fun E σ H b=>by obtain⟨δ,M,hs,a,B,ok,q⟩:=b;exact(⟨δ,M,_,hs,a,q,fun d i v H1 c j k l=>
  ⟨d,δ,i,B.nx,j,hs.mono c,k,l,fun m w n x o p r s=>ok.nx _ _ _ _ (c.trans o) p r s⟩⟩)
theorem aG(i:Nat){x:Str}{e:Expr}{te:TD}{c:Pos}(g:X.N.Nodup)(he:DE X e te)(hi:X.N[i]?=MA x:=by rfl)(h:Loc X.env.scope x:=by first|exact Or.inl rfl|exact Or.inr rfl)(hs:LL e (MA (.Name x c)) pos.line X.env=pure MD:=by rfl) (j:X.fn x=MC\/X.env.scope.names.lookup x=MA .local:=by first|exact .inl rfl|exact .inr rfl|assumption):DSt X (.Assign [.Name x c] e pos) (fG te (aZ i)):=cI (DH g hi h he hs j) fun E σ H b=>by obtain⟨δ,M,hs,a,B,ok,q⟩:=b;exact(⟨δ,M,_,hs,a,q,fun d n v H1 f k l m=>ok.nx _ _ _ _ f ((hs.mono f).set k i) l m⟩)
def Ha(i j:Nat)(a:Np):Nn:=fun B δ M=>a δ M fun b c=>∃d e,b=[d,e]/\B.nx ((δ.set i (MA d)).set j (MA e)) c
theorem fW(i j:Nat){x y:Str}{a b:Expr}{n:Np}{g h pt:Pos}{k l f}(p:X.calm=MC)(r:X.N.Nodup)(s:DA X [a,b] n)(m:i≠j:=by decide)(hi:X.N[i]?=MA x:=by rfl)(w:X.N[j]?=MA y:=by rfl)
 (A:X.env.scope.names.lookup x=MA .local:=by rfl) (C:X.env.scope.names.lookup y=MA .local:=by rfl)
 (hw:swappedStores [.Tuple [.Name x g,.Name y h] k pt] (.Tuple [a,b] l f) X.env=pure (MA [x,y]):=by rfl)
 (hs:swapsWithSole [.Tuple [.Name x g,.Name y h] k pt] (.Tuple [a,b] l f) pos.line X.env=pure MD:=by rfl) :
 DSt X (.Assign [.Tuple [.Name x g,.Name y h] k pt] (.Tuple [a,b] l f) pos) (Ha i j n):=
 cI (DX p r hi w m A C s hw hs) fun E σ H c=>by obtain⟨δ,M,hs,a,B,ok,q⟩:=c;exact(⟨δ,M,_,hs,a,q,fun L O vs H1 o D F G=>by
  obtain⟨d,e,z,I⟩:=G
  subst z
  obtain⟨v,u,rfl,J,K⟩:=f6 D
  exact⟨v,u,rfl,ok.nx _ _ _ _ o (((hs.mono o).set J i).set K j) F I⟩⟩)
def BV(c:Nj)(f:Nn):Nn:=fun B δ M=>∃W:Nat->DS->MH->Prop,(∃m,W m δ M)/\∀m δ M,W m δ M->
 c δ M fun b d=>if b=MC then f (B.lp fun a g=>∃e,e<m/\W e a g) δ d else B.nx δ d
theorem jb{c:Expr}{body:List Stmt}{tc:Nj}{G:Nn}(J:PassesOwn (Jg X.prog X.w) X.A X.env X.xe)(L:DT X c tc)(N:DSs X body G):DSt X (.While c body [] pos) (BV tc G):=
 cI (xZ J L N) fun E σ H O=>by
  obtain⟨δ,M,hs,a,B,ok,W,⟨m,z⟩,q⟩:=O
  refine⟨fun m σ e=>NN X.K H e/\∃δ M,Slots X.K e δ σ/\NW X.K e M/\W m δ M,⟨m,.refl,δ,M,hs,a,z⟩,?_⟩
  rintro m σ e ⟨g,δ,M,hs,a,z⟩
  refine⟨δ,M,_,hs,a,q m δ M z,fun b P H1 k I x=>?_⟩
  cases b with
  |true=>
   rw[MF rfl]at x ⊢
   refine⟨fun C D=>∃p,p<m/\(NN X.K H D/\∃δ M,Slots X.K D δ C/\NW X.K D M/\W p δ M),fun n e h=>h,δ,P,hs.mono k,I,_,?_,x⟩
   refine⟨fun f y n e o r s i=>by obtain⟨p,l,F⟩:=i;exact(⟨p,l,(g.trans k).trans o,f,y,r,s,F⟩),fun d M v e o=>ok.rt d M v e ((g.trans k).trans o),fun f y n e o r s Q=>ok.nx _ _ _ _ ((g.trans k).trans o) r s Q,fun f y n e o r s j=>by obtain⟨p,l,F⟩:=j;exact(⟨p,l,(g.trans k).trans o,f,y,r,s,F⟩)⟩
  |false=>
   rw[ME Jf]at x ⊢
   exact ok.nx _ _ _ _ (g.trans k) (hs.mono k) I x
inductive VA(g:P0)(tb:Nn)(B:EndsD)(n:Nat)(δ0:DS)(M0:MH):Prop
 |mk (W:Nat->DS->MH->Prop) (w0:W 0 δ0 M0) (turn:∀i δ M,i<n->W i δ M->g (.int (i:Int)) δ M fun δ2 M2=>tb (B.lp (W (i+1))) δ2 M2) (done:∀δ M,W n δ M->B.nx δ M):VA g tb B n δ0 M0
inductive VB(g:P0)(tb:Nn)(B:EndsD)(ds:List D)(δ0:DS)(M0:MH):Prop
 |mk (n:Nat) (e:ds=[.int (n:Int)]) (q:n<2^60/\VA g tb B n δ0 M0):VB g tb B ds δ0 M0
def Ef(a:Np)(g:P0)(b:Nn):Nn:=fun B δ M=>a δ M fun c d=>VB g b B c δ d
theorem gX{tg e:Expr}{body:List Stmt}{G:Np}{g:P0}{I:Nn}{p J:Pos}(N:PassesOwn (Jg X.prog X.w) X.A X.env X.xe)(O:X.calm=MC)(P:Gl X "range")(Q:X.mg "range"=MB)(R:DA X [e] G)(S:DG X tg g)(T:DSs X body I)
 (hs:Jd [e] X.env=[(MD,eval e X.env)]:=by rfl) (U:∀x,JH (.Call (.Name "range" p) [e] [] J) X.env x=pure x:=by intro _;rfl):DSt X (.For tg (.Call (.Name "range" p) [e] [] J) body [] pos) (Ef G g I):=
 cI (zJ N O (wa P Q R hs) S T U) fun E σ H ⟨δ,M,hs,a,B,ok,q⟩=>⟨δ,M,_,hs,a,q,fun ds V vs H1 L Y Z z9=>by
  obtain⟨n,e,hn,W,w0,j,done⟩:=z9
  subst e
  obtain⟨v,rfl,r⟩:=cF Y
  rw[Rep]at r;subst r
  refine⟨(n:Int),rfl,by omega,by omega,?_⟩
  rw[show((n:Int)).toNat=n from by simp]
  refine vW (fun i σ c=>NN X.K H c/\∃δ M,Slots X.K c δ σ/\NW X.K c M/\W i δ M) ⟨L,δ,V,hs.mono L,Z,w0⟩ ?_ ?_
  ·rintro i σ H2 hi ⟨h,δ,M,y,z,C⟩
   refine⟨.int (i:Int),δ,M,_,by rw[Rep];simp,y,z,j i δ M hi C,fun D M3 a0 H3 o s3 a3 q3=>?_⟩
   refine⟨D,M3,s3,a3,_,?_,q3⟩
   exact⟨fun b s k c f l m F=>⟨(h.trans o).trans f,b,s,l,m,F⟩,fun d M v c f=>ok.rt d M v c ((h.trans o).trans f),fun b s k c f l m q'=>ok.nx _ _ _ _ ((h.trans o).trans f) l m q',fun b s k c f l m F=>⟨(h.trans o).trans f,b,s,l,m,F⟩⟩
  ·rintro σ H2 ⟨h,δ,M,y,z,C⟩
   exact ok.nx _ _ _ _ h y z (done δ M C)⟩
end
theorem A3{b:Bool}{A B:Prop}(e:b=MC)(h:A):if b=MC then A else B:=by rw[MF e];exact h
theorem j9{b:Bool}{A B:Prop}(e:b=MD)(h:B):if b=MC then A else B:=by rw[ME (by rw[e];exact Jf)];exact h
theorem Xt{b c:TD}{δ:DS}{M:MH}{Q:DK}(a d:Bool)(f:∀K:DK,K (.bl a) M->b δ M K)(g:a=MD->∀K:DK,K (.bl d) M->c δ M K)(e:Q (.bl (a||d)) M):BW b c δ M Q:=
 f _ ⟨a,rfl,by
  cases a with
  |true=>rw[MF rfl];exact e
  |false=>rw[ME Jf];exact g rfl _ e⟩
theorem Gi{b c:TD}{δ:DS}{M:MH}{Q:DK}(a d:Bool)(f:∀K:DK,K (.bl a) M->b δ M K)(g:a=MC->∀K:DK,K (.bl d) M->c δ M K)(e:Q (.bl (a&&d)) M):xG b c δ M Q:=
 f _ ⟨a,rfl,by
  cases a with
  |true=>rw[MF rfl];exact g rfl _ e
  |false=>rw[ME Jf];exact e⟩
theorem XR{b c:Nj}{δ:DS}{M:MH}{Q:Bool->MH->Prop}(a d:Bool)(f:∀K:Bool->MH->Prop,K a M->b δ M K)(g:a=MD->∀K:Bool->MH->Prop,K d M->c δ M K)(e:Q (a||d) M):Hn b c δ M Q:=
 f _ (by
  cases a with
  |true=>rw[MF rfl];exact e
  |false=>rw[ME Jf];exact g rfl _ e)
theorem yQ{b c:Nj}{δ:DS}{M:MH}{Q:Bool->MH->Prop}(a d:Bool)(f:∀K:Bool->MH->Prop,K a M->b δ M K)(g:a=MC->∀K:Bool->MH->Prop,K d M->c δ M K)(e:Q (a&&d) M):B7 b c δ M Q:=
 f _ (by
  cases a with
  |true=>rw[MF rfl];exact g rfl _ e
  |false=>rw[ME Jf];exact e)
def Bf(r b:Nv)(c d tc:TD):TD:=fun δ M Q=>c δ M fun x e=>d δ e fun y f=>r x y f fun z a=>∃k,z=.bl k/\if k=MC then tc δ a fun u g=>b y u g Q else Q (.bl MD) a
theorem zE{X:Cx}{a b c:Expr}{n o tc:TD}{pos:Pos}{op f:CmpOp}{r p:Nv}(C:Nw X (JN op) r)(m:Nw X (JN f) p)(D:DE X a n)(E:DE X b o)(F:DE X c tc)
 (G:lastMarks [op,f] [b,c]=MD:=by with_unfolding_all rfl):DE X (.Compare a [op,f] [b,c] pos) (Bf r p n o tc):=
 a9 (yV C m D E F G) fun σ H Q I=>by
  obtain⟨δ,M,R,hs,J,q,g⟩:=I
  refine⟨δ,M,_,hs,J,q,fun x K v H1 h L N O=>?_⟩
  refine⟨δ,K,_,hs.mono h,N,O,fun y P u H2 i s S T=>?_⟩
  refine⟨x,y,P,_,L.mono i,s,S,T,fun z U w H3 j t A d=>?_⟩
  obtain⟨k,e,l⟩:=d
  subst e
  rw[Rep]at t
  refine⟨k,t,?_⟩
  cases k with
  |true=>
   rw[MF rfl]at l ⊢
   exact⟨δ,U,_,hs.mono ((h.trans i).trans j),A,l,fun V W w' H4 B Y Z q4=>⟨y,V,W,R,s.mono (j.trans B),Y,Z,q4,g.go (((h.trans i).trans j).trans B)⟩⟩
  |false=>
   rw[ME Jf]at l ⊢
   exact g _ _ _ _ ((h.trans i).trans j) (by rw[Rep]) A l
theorem eZ{t u:Nn}{B:EndsD}{δ:DS}{M:MH}(W:DS->MH->Prop)(c:∀a b,W a b->u B a b)(d:(∀a b,W a b->u B a b)->t (B.nxt (u B)) δ M):jd t u B δ M:=d c
def Sub(b M:MH):Prop:=∀a o,b a=MA o->M a=MA o
def HY(r:Addr)(b M:MH):Prop:=∀a o,a≠r->b a=MA o->M a=MA o
theorem Sub.refl{M:MH}:Sub M M:=fun _ _ h=>h
theorem Sub.trans{M c d:MH}(a:Sub M c)(b:Sub c d):Sub M d:=fun x o h=>b x o (a x o h)
theorem Sub.new{M b:MH}{p:Addr}{o:MO}(c:M p=MB)(s:Sub b M):Sub b (aC M p o):=fun a u h=>by rw[aA (fun e=>by subst e;rw[s _ _ h]at c;cases c)];exact s _ _ h
theorem Sub.IF{M b:MH}{r:Addr}{o:MO}(s:HY r b M):Sub (aC b r o) (aC M r o):=fun a u h=>by
 by_cases e:a=r
 ·subst e;rw[ag]at h ⊢;exact h
 ·rw[aA e]at h ⊢;exact s _ _ e h
inductive SF(Q:DK)(d:D)(M:MH):Prop
 |mk (M':MH) (s:Sub M' M) (q:Q d M'):SF Q d M
@[reducible] def qp(Q:DK):EndsD:={ nx:=fun _ a=>SF Q .non a,rt:=SF Q }
theorem N3{Q:DK}{d:D}{M:MH}(q:Q d M):SF Q d M:=⟨M,.refl,q⟩
abbrev P5:=List D->MH->DK->Prop
def iC(K:IW)(sp:P5):Sp:=fun vs H Q _=>∃a M R,aK K H a vs/\NW K H M/\sp a M R/\Fin K H R Q
def Cal(P:Jl)(w:JL)(K:IW)(mg:Str->Option I0)(base:Heap)(k:Nat)(x:Str)(sp:P5):Prop:=
 ∃f fd ps,OA P w K mg base PU k f fd ps (iC K sp)/\mg x=MA (.ref f)/\PySem.W.keepIn K (.ref f)=MC/\Binds K fd ps []
theorem Cal.mono{P:Jl}{w:JL}{K:IW}{mg:Str->Option I0}{base:Heap}{j k:Nat}{x:Str}{sp:P5}(h:Cal P w K mg base j x sp)(l:j<=k):Cal P w K mg base k x sp:=let⟨f,fd,ps,F,r⟩:=h;⟨f,fd,ps,F.mono l,r⟩
section
variable{X:Cx}{k:Nat}{x:Str}{sp:P5}{p pos:Pos}{e:Expr}{es:List Expr}{t:Np}
def D1(sp:P5)(t:Np):TD:=fun δ M Q=>t δ M fun a b=>sp a b Q
theorem ay(C:Cal X.prog X.w X.K X.mg X.base k x sp)(g:N0 k X.A)(h:DA X (e::es) t)(i:Gl X x:=by rfl)(b:(x==("__debug__":Str))=MD:=by decide)
 (he:Jd (e::es) X.env=(MD,eval e X.env)::Jd es X.env:=by rfl) (c:(KO pos (Jd es X.env)).any (·.1)=MD:=by rfl):DE X (.Call (.Name x p) (e::es) [] pos) (D1 sp t):=by
 obtain⟨f,fd,ps,F,j,l,m⟩:=C
 refine a9 (A6 F g i j l m .nil G8 h b he c) fun σ H Q a=>?_
 obtain⟨δ,M,R,hs,n,q,d⟩:=a
 refine⟨δ,M,_,hs,n,q,fun o r vs H1 s u v y=>?_⟩
 show iC X.K sp (vs++[]) H1 Q E0
 rw[Kc]
 exact⟨o,r,R,u,v,y,d.go s⟩
end
def gh(N:List Str)(a:List D):DS:=a.map MA++JA (N.length-a.length) MB
section
variable{P:Jl}{w:JL}{K:IW}{mg:Str->Option I0}{base:Heap}
theorem XW{x qual:Str}{st:Stmt}{f:Addr}{fd:My}{N ps:List Str}{k:Nat}{sp:P5}(F:Rn K x qual st f fd)(S:NL N ps (az st))(len:∀b M Q,sp b M Q->b.length=ps.length)
 (m:∀X:Cx,X.prog=P->True) (body:∀(cdv:I0) (A:JQ) (outer:List Env) (s:IY) (H:Hp) (E:XK),N0 k (A.deeper (envOfC qual (az st) s.heap.objs.size f cdv))->
  ∃t,DSs (jE PU P w K mg base N qual (az st) f cdv A outer s H E).nox (bg st) t/\∀b M Q,sp b M Q->t (qp Q) (gh N b) M):OA P w K mg base PU (k+1) f fd ps (iC K sp):=by
 refine F.ok S (fun vs H Q E c=>by obtain⟨b,M,R,n,_,q,_⟩:=c;rw[<-n.length];exact len _ _ _ q) fun cdv A outer s H vs Q E B e=>?_
 obtain⟨b,M,R,n,a,q,j⟩:=e
 obtain⟨t,h,C⟩:=body cdv A outer s H E B
 refine⟨_,h,gh N b,M,qa n,a,(qp R),⟨fun D G I u g J o l=>?_,fun d G v u g r o i=>by obtain⟨y,p,l⟩:=i;exact(j _ _ _ _ g r (o.sub p) l),fun _ _ _ _ _ _ _ z=>z,fun _ _ _ _ _ _ _ z=>z⟩,C b M R q⟩
 obtain⟨y,p,l⟩:=l
 exact j .non y .non u g (by rw[Rep]) (o.sub p) l
def Txt(K:IW)(mg:Str->Option I0)(x:Str)(st:Stmt):Prop:=∃f fd,Rn K x x st f fd/\mg x=MA (.ref f)
theorem Txt.mk{h:Heap}{x:Str}{st:Stmt}{f:Addr}{oc:I0}{od an:Option Addr}{osl:Array (Option I0)}{kV b d cdv ct:I0}(X:K.In h)(G:h.Ns Mg mg)(a:PySem.W.nsIn K Mg x=MA (MA (.ref f))) (l:K.lookup f=MA ⟨oc,od,.func (KS x x (cA st) (bg st) (az st) .none kV b d an cdv ct),osl⟩) (c:PySem.W.codeIn K cdv x=MC) (k:PySem.W.keepIn K (.ref f)=MC):Txt K mg x st:=⟨f,_,CL l c k,PySem.W.mg_of X G a⟩
theorem BM{x:Str}{st:Stmt}{N ps:List Str}{k:Nat}{sp:P5}(T:Txt K mg x st)(S:NL N ps (az st))
 (c:∀(kV b d:I0) (an:Option Addr) (cdv ct:I0) (us:List I0),us.length=ps.length->bindArgs (KS x x (cA st) (bg st) (az st) .none kV b d an cdv ct) ⟨us,[]⟩=pure (ps.zip us))
 (len:∀a M Q,sp a M Q->a.length=ps.length)
 (body:∀(f:Addr) (cdv:I0) (A:JQ) (outer:List Env) (s:IY) (H:Hp) (E:XK),N0 k (A.deeper (envOfC x (az st) s.heap.objs.size f cdv))->
  ∃t,DSs (jE PU P w K mg base N x (az st) f cdv A outer s H E).nox (bg st) t/\∀a M Q,sp a M Q->t (qp Q) (gh N a) M):Cal P w K mg base (k+1) x sp:=by
 obtain⟨f,fd,F,e⟩:=T
 exact⟨f,fd,ps,XW F S len (fun _ _=>trivial) (body f),e,F.kp,F.binds c⟩
end
theorem oV:Ka "abs"=MA (.builtin "abs"):=by decide +kernel
theorem yO:Ka "max"=MA (.builtin "max"):=by decide +kernel
theorem yS:Ka "min"=MA (.builtin "min"):=by decide +kernel
theorem cT:Ka "len"=MA (.builtin "len"):=by decide +kernel
theorem EU:Ka "all"=MA (.builtin "all"):=by decide +kernel
theorem yG:Ka "tuple"=MA (.type "tuple"):=by decide +kernel
theorem oB:Ka "list"=MA (.type "list"):=by decide +kernel
theorem nY:Ka "int"=MA (.type "int"):=by decide +kernel
section
variable{P:Jl}{w:JL}{K:IW}{mg:Str->Option I0}
theorem II{x:Str}{st:Stmt}{N:List Str}{p:Str}{k:Nat}{sp:P5}{fa:Addr}(T:Txt K mg x st)(c:mg x=MA (.ref fa))(S:NL N [p] (az st))
 (g:∀(kV a d:I0) (an:Option Addr) (cdv ct:I0) (us:List I0),us.length=[p].length->bindArgs (KS x x (cA st) (bg st) (az st) .none kV a d an cdv ct) ⟨us,[]⟩=pure ([p].zip us))
 (len:∀b M Q,sp b M Q->b.length=[p].length)
 (body:∀(base:Heap) (f:Addr) (cdv:I0) (A:JQ) (outer:List Env) (s:IY) (H:Hp) (E:XK),N0 k (A.deeper (envOfC x (az st) s.heap.objs.size f cdv))->
  ∃t,DSs (jE PU P w K mg base N x (az st) f cdv A outer s H E).nox (bg st) t/\∀b M Q,sp b M Q->t (qp Q) (gh N b) M) :
 ∃fd,(∀(s:IY) (u:I0),BindsTo s fd ⟨[u],[]⟩ [(p,u)])/\∀base:Heap,OA P w K mg base PU (k+1) fa fd [p] (iC K sp):=by
 obtain⟨f,fd,F,h⟩:=T
 have e:=c.symm.trans h
 cases e
 refine⟨fd,fun s u=>?_,fun base=>XW F S len (fun _ _=>trivial) (body base _)⟩
 obtain⟨oc,od,kV,a,d,an,cdv,ct,osl,rfl,j,i⟩:=F.ex
 exact .of_eq (g kV a d an cdv ct [u] rfl)
end
theorem wZ{l:PySem.W.OpenLaw}{k:Nat}{q:Jl}{i:List Str}{t:(Str->Option I0)->Heap->Prop}{p:JL->Heap->Prop}{d:DefRec}{K:JD->IW}{sp:P5}{x:Str}
 (A:l.most=MA 63) (j:d.params.defaults=[]) (B:N0 k callerA)
 (C:∀(w:JL) (h:Heap),p w h->(K w.params).In h)
 (F:∀(w:JL) (mg:Str->Option I0) (fa:Addr) (h:Heap),(K w.params).In h->h.Ns Mg mg->mg d.name=MA (.ref fa)->
  ∃fd:My,(∀(s:IY) (u:I0),BindsTo s fd ⟨[u],[]⟩ [(x,u)])/\
   ∀base:Heap,OA l.prog w (K w.params) mg base PU k fa fd [x] (iC (K w.params) sp))
 (m:∀(ns:List Int) (M:MH),ns.length<=63->sp [.rol (ns.map D.int)] M (fun d _=>d=.bl MC)) :
 PySem.W.WalkO q i t p l.row.toRowW d [] (fun f vs=>PySem.call f vs):=by
 refine BL (x:=x) (n:=63) (CX:=fun _=>PU) (sp:=fun w=>iC (K w.params) sp) A (by decide) j B C (fun w mg fa h a b c=>?_) (fun w H a ns E G I=>?_) fun _ _ _ _ _ z=>z
 ·obtain⟨fd,J,L⟩:=F w mg fa h a b c
  exact⟨fd,J,fun base _ _=>L base⟩
 ·have hF:SE (K w.params) H a (ns.map V.int):=by
   rcases I with(z|z)|z
   ·rcases G a with y|⟨o,xs,y⟩
    ·rw[z]at y;cases y
    ·rw[z]at y;cases y
   ·exact .inl z
   ·exact .inr z
  refine⟨[.rol (ns.map D.int)],fun _=>MB,_,.cons (by rw[Rep];exact⟨a,_,rfl,hF,dQ ns⟩) .nil,(fun _ _ e=>nomatch e:NW (K w.params) H fun _=>MB),m ns _ E,fun d N v O g r P e=>?_⟩
  subst e
  rw[Rep]at r
  exact r
end SD
namespace Ma
open PySem PySem.Spec PyProof.Rows L2 SD
abbrev fr(q:Rat):D:=.tup [.int q.num,.int (q.den:Int)]
theorem den_pos(q:Rat):(0:Int)<(q.den:Int):=by have:=q.den_pos;omega
def Bq(n:Nat)(q:Rat):Prop:=Bd n q.num/\Bd n (q.den:Int)
theorem Bq.mono{m n:Nat}{q:Rat}(h:Bq m q)(l:m<=n):Bq n q:=⟨h.1.mono l,h.2.mono l⟩
theorem pH{t b:Int}(a:0<b):t.fdiv b=t/b:=JY _ (by omega)
theorem fdiv_neg{t b:Int}(hd:b ∣ t)(d:0<b):t.fdiv (-b)=-(t/b):=by
 obtain⟨c,rfl⟩:=hd;have a:b≠0:=by omega
 rw[Int.mul_ediv_cancel_left _ a];have:b*c=-b * -c:=by rw[Int.neg_mul_neg]
 rw[this];exact Int.mul_fdiv_cancel_left _ (by omega)
theorem t7(t b:Int):((Mb t.natAbs b.natAbs:Nat):Int) ∣ t:=Int.ofNat_dvd_left.mpr (Nat.gcd_dvd_left _ _)
theorem uD(t b:Int):((Mb t.natAbs b.natAbs:Nat):Int) ∣ b:=Int.ofNat_dvd_left.mpr (Nat.gcd_dvd_right _ _)
theorem nk(t b:Int):Int.gcd b t=Mb t.natAbs b.natAbs:=by unfold Int.gcd;exact Nat.gcd_comm _ _
theorem fu{t b:Int}(a:b≠0):0<Mb t.natAbs b.natAbs:=Nat.gcd_pos_of_pos_right _ (by omega)
theorem uZ{t b:Int}(a:0<b):t.fdiv (Mb t.natAbs b.natAbs:Nat)=(Rat.divInt t b).num/\b.fdiv (Mb t.natAbs b.natAbs:Nat)=((Rat.divInt t b).den:Int):=by
 have c:=fu (t:=t) (b:=b) (by omega);rw[pH (by omega),pH (by omega),Rat.num_divInt,Rat.den_divInt,ME (by omega),K8 a,Int.one_mul,nk];refine⟨rfl,?_⟩;rw[Int.natCast_ediv]
 congr 1
 omega
theorem vq{t b:Int}(a:b<0):t.fdiv (-((Mb t.natAbs b.natAbs:Nat):Int))=(Rat.divInt t b).num/\b.fdiv (-((Mb t.natAbs b.natAbs:Nat):Int))=((Rat.divInt t b).den:Int):=by
 have c:=fu (t:=t) (b:=b) (by omega);rw[fdiv_neg (t7 t b) (by omega),fdiv_neg (uD t b) (by omega),Rat.num_divInt,Rat.den_divInt,ME (by omega),JZ a,nk];constructor
 ·rw[show(-1:Int)*t=-t from by omega,Int.neg_ediv_of_dvd (t7 t b)]
 ·rw[Int.natCast_ediv,show((b.natAbs:Nat):Int)=-b from by omega,Int.neg_ediv_of_dvd (uD t b)]
theorem l4{t b:Int}(a:b≠0):(Rat.divInt t b).num.natAbs<=t.natAbs/\(Rat.divInt t b).den<=b.natAbs:=by
 constructor
 ·rw[Rat.num_divInt];refine Ke (Int.natAbs_ediv_le_natAbs _ _) ?_;rw[Int.natAbs_mul];rcases Jh b 0 with h|h|h
  ·rw[JZ h];simp
  ·exact absurd h a
  ·rw[K8 h];simp
 ·rw[Rat.den_divInt,ME a];exact Nat.div_le_self _ _
theorem Bq.divInt{n:Nat}{t b:Int}(a:b≠0)(c:Bd n t)(d:Bd n b):Bq n (Rat.divInt t b):=by obtain⟨e,f⟩:=l4 (t:=t) a;exact⟨Nat.lt_of_le_of_lt e c,Nat.lt_of_le_of_lt (by simpa using f) d⟩
theorem uY(x y:Nat):Int.fmod (x:Int) (y:Int)=((x%y:Nat):Int):=by rw[Int.fmod_eq_emod_of_nonneg _ (by omega)];rfl
theorem tE(q r:Rat):K1 (.tuple [.int q.num,.int (q.den:Int)]) (.tuple [.int r.num,.int (r.den:Int)])=decide (q=r):=by
 simp only[K1,Kj,Mr];by_cases h:q=r
 ·subst h;simp
 ·rw[MG h];rw[Bool.eq_false_iff];intro z;rw[JV,beq_iff_eq,beq_iff_eq]at z;exact h (Rat.ext z.1 (by have:=z.2;omega))
theorem Cf(q r:Rat):decide (q.num*(r.den:Int)<r.num*(q.den:Int))=decide (q<r):=by rw[MK,Rat.lt_iff]
abbrev spt(a b:Rat):D:=.tup [fr a,fr b]
theorem iE(a b c d:Rat):K1 (.tuple [.tuple [.int a.num,.int (a.den:Int)],.tuple [.int b.num,.int (b.den:Int)]]) (.tuple [.tuple [.int c.num,.int (c.den:Int)],.tuple [.int d.num,.int (d.den:Int)]])=decide (a=c/\b=d):=by rw[K1,Kj,Kj,Kj,tE,tE,Mr,Bool.decide_and]
theorem ir(q:Rat):(q.den:Int)≠0:=by have:=q.den_pos;omega
theorem sub_eq(q r:Rat):Rat.divInt (q.num*(r.den:Int)-r.num*(q.den:Int)) ((q.den:Int)*(r.den:Int))=q-r:=by rw[<-Rat.divInt_sub_divInt _ _ (ir q) (ir r),Lh,Lh]
theorem uW(q r:Rat):(q.den:Int)*(r.den:Int)≠0:=Int.mul_ne_zero (ir q) (ir r)
theorem Bq.uQ{n:Nat}{q r:Rat}(a:Bq n q)(b:Bq n r):Bd (2*n+1) (q.num*(r.den:Int)-r.num*(q.den:Int)):=((a.1.mul b.2).sub (b.1.mul a.2)).mono (by omega)
def sgn(z:Rat):Int:=if 0<z then 1 else if z<0 then -1 else 0
def cr(a b c d x y:Rat):Rat:=(c-a)*(y-b)-(d-b)*(x-a)
abbrev wll(a b c d:Rat):D:=.tup [spt a b,spt c d]
def ah(a b c d:Rat):Prop:=a<c\/a=c/\b<d
instance(a b c d:Rat):Decidable (ah a b c d):=inferInstanceAs (Decidable (_\/_))
theorem pos_int{i:Int}(h:0<i):(0:Rat)<(i:Rat):=by rw[Rat.lt_iff];simpa using h
end Ma
namespace SD
open PySem PySem.Spec PyProof.Rows L2
def fD(names:List (Str×LB))(env:Env):List (Str×Addr):=(names.filter fun y=>y.2==.free).reverse.map fun y=>(y.1,(env.cells.lookup y.1).getD 0)
theorem rK{scope:LR}{env:Env}(h:∀y∈scope.names,y.2=.free->∃c,env.cells.lookup y.1=MA c):closureFor scope env=pure (fD scope.names env):=by
 have key:∀(names:List (Str×LB)) (b:List (Str×Addr)),(∀y∈names,y.2=.free->∃c,env.cells.lookup y.1=MA c)->
  (forIn names b (fun(x:Str×LB) (r:List (Str×Addr))=>if(x.2==LJ)=MC then do let a <-cellOf env x.1;pure (Ly ((x.1,a)::r))else pure (Ly r)):Sem (List (Str×Addr)))=pure (fD names env++b):=by
  intro names
  induction names with
  |nil=>intro b _;rfl
  |cons y l g=>
   intro b e
   obtain⟨n,k⟩:=y
   rw[List.forIn_cons]
   by_cases d:(k==LJ)=MC
   ·obtain⟨c,i⟩:=e (n,k) (Jy ..) (by simpa using d)
    have e1:cellOf env n=pure c:=by unfold cellOf;rw[i]
    dsimp only
    rw[MF d,e1]
    simp only[LM]
    rw[g _ fun y f=>e y (Jn _ f)]
    unfold fD
    rw[List.filter_cons_of_pos (by simpa using d),List.reverse_cons,Jk,List.append_assoc]
    simp[i]
   ·dsimp only
    rw[ME d]
    simp only[LM]
    rw[g _ fun y f=>e y (Jn _ f)]
    unfold fD
    rw[List.filter_cons_of_neg (by simpa using d)]
 have:=key scope.names [] h;rw[Kc]at this;unfold closureFor;exact Eq.trans (congrArg (fun t:Sem (List (Str×Addr))=>t >>= fun j=>pure j) this) rfl
theorem qZ{env:Env}{y:Str}{c:Addr}:∀{names:List (Str×LB)},(∀z∈names,z.2=.free->∃c,env.cells.lookup z.1=MA c)->(fD names env).lookup y=MA c->env.cells.lookup y=MA c:=by intro names h e;have b:=K0 e;unfold fD at b;obtain⟨z,a,e2⟩:=Jp.mp b;rw[List.mem_reverse,Jm]at a;obtain⟨f,d⟩:=h z a.1 (by simpa using a.2);rw[d]at e2;cases e2;exact d
theorem qB{env:Env}{y:Str}{names:List (Str×LB)}(a:(y,LJ)∈names):∃c,(fD names env).lookup y=MA c:=by
 cases e:(fD names env).lookup y with
 |some c=>exact⟨c,rfl⟩
 |none=>
  have:=List.lookup_eq_none_iff.mp e (y,(env.cells.lookup y).getD 0) (Jp.mpr ⟨(y,.free),List.mem_reverse.mpr (Jm.mpr ⟨a,rfl⟩),rfl⟩)
  simp at this
theorem gw{env:Env}(d:env.scope.kind=.function):∀{names:List (Str×LB)} {y:Str} {k:LB},
 (names.map fun(n,k)=>if(k==LJ&&env.scope.kind==.function&&env.kindOf n==MA .cell)then(n,NameKind.cell)else(n,k)).lookup y=MA k->
  names.lookup y=MA k\/(k=.cell/\names.lookup y=MA .free)
 |[],_,_,h=>by simp at h
 |(n,q)::r,y,k,h=>by
  have e:=@gw env d r y k
  rw[J5]at h
  dsimp only at h
  by_cases b:(y==n)=MC
  ·by_cases c:(q==LJ&&env.scope.kind==.function&&env.kindOf n==MA .cell)=MC
   ·rw[MF c,Kw,b]at h
    have f:q=.free:=by
     rw[JV,JV]at c
     simpa using c.1.1
    cases h
    right
    exact⟨rfl,by rw[Kw,b,f]⟩
   ·rw[ME c,Kw,b]at h
    left
    rw[Kw,b];exact h
  ·have a:(y==n)=MD:=by simpa using b
   have g:(r.map fun(n,k)=>if(k==LJ&&env.scope.kind==.function&&env.kindOf n==MA .cell)then(n,NameKind.cell)else(n,k)).lookup y=MA k:=by
    split at h
    ·rw[Kw,a]at h;exact h
    ·rw[Kw,a]at h;exact h
   rw[Kw,a]
   exact e g
theorem rA{X:Cx}{tg a:Expr}{c b:TI}(h:PI X tg a c)(k:∀σ H R,b σ H R->c σ H R):PI X tg a b:=fun MP s σ H R I q=>h MP s σ H R I (k _ _ _ q)
def IP(K:IW)(b:TE):TI:=fun σ H R=>b σ H fun x H1=>∃a,x=.ref a/\(((∃xs,NZ K H1 a xs)/\R (X3 K a) H1)\/((∃xs,N1 K H1 a xs)/\R (X2 K a) H1))
theorem Dr{X:Cx}{tg l:Expr}{j:TE}(k:PE X l j):PI X tg l (IP X.K j):=by
 intro MP s σ H R I h;refine NQ (k MP s σ H _ I h) fun v c d=>?_;obtain⟨x,H1,f,m,n⟩:=d;obtain⟨a,e,z⟩:=n;subst e;cases m
 have fp:∀b∈[c.heap.objs.size],cX X MP H1 b:=fun b r=>by
  obtain rfl:b=c.heap.objs.size:=by simpa using r
  exact f.sU (J1 _) (f.hok.fresh (J1 _))
 rcases z with⟨⟨xs,i⟩,q⟩|⟨⟨xs,i⟩,q⟩
 ·obtain⟨g,t,p,u⟩:=f.list i;exact wpAny_pyIter_list p.isList ⟨_,[c.heap.objs.size],_,_,H1,rfl,f.kept (t':=c.toks) fun b o e=>J3 _ e,vV a _,⟨_,J8 _ rfl,rfl,rfl⟩,fp,q⟩
 ·obtain⟨g,t,p,u⟩:=f.tuple i;exact wpAny_pyIter_tuple (show c.heap.IsTuple a g.toArray from p) ⟨_,[c.heap.objs.size],_,_,H1,rfl,f.kept (t':=c.toks) fun b o e=>J3 _ e,rX a _,⟨_,J8 _ rfl,rfl,rfl⟩,fp,q⟩
structure Qt where
 n:Nat
 item:Nat->Option D
 C:MH->Prop
abbrev O3:=DS->MH->(Qt->MH->Prop)->Prop
structure Uz(K:IW)(H1:Hp)(I:Qt)(J:It):Prop where
 stop:∀H2 M2,NN K H1 H2->NW K H2 M2->I.C M2->J.stop I.n H2
 go:∀i H2 M2,i<I.n->NN K H1 H2->NW K H2 M2->I.C M2->J.go i H2
 yld:∀i H2 M2 v H3,i<I.n->NN K H1 H2->NW K H2 M2->I.C M2->J.yld i H2 v H3->NN K H2 H3/\NW K H3 M2/\∃d,I.item i=MA d/\Rep K H3 d v
def lz(K:IW)(t:O3):TI:=fun σ H R=>∃δ M b,Slots K H δ σ/\NW K H M/\t δ M b/\∀I c a J,NN K H a->NW K a c->b I c->Uz K a I J->R J a
def DI(X:Cx)(tg a:Expr)(t:O3):Prop:=PI X tg a (lz X.K t)
def Em(M:MH):D->List D->Prop
 |.tup ds,es=>es=ds
 |.rol ds,es=>es=ds
 |.ref a,es=>M a=MA (.lst es)
 |_,_=>False
inductive XY(d:D)(M:MH)(R:Qt->MH->Prop):Prop
 |mk (ds:List D) (h:Em M d ds) (q:R ⟨ds.length,fun i=>ds[i]?,fun M=>Em M d ds⟩ M):XY d M R
def HG(a:TD):O3:=fun δ M R=>a δ M fun d b=>XY d b R
section
variable{X:Cx}{tg:Expr}
theorem aT{l:Expr}{C:TD}(E:DE X l C):DI X tg l (HG C):=
 rA (Dr E) fun σ H R F=>by
  obtain⟨δ,M,K,hs,G,q,n⟩:=F
  exact⟨δ,M,_,hs,G,q,fun d w v H1 z r y I=>by
   obtain⟨c,sq,A⟩:=I
   cases d with
   |tup es=>
    obtain rfl:c=es:=sq
    rw[Rep]at r
    obtain⟨a,xs,rfl,h,k⟩:=r
    refine⟨a,rfl,.inr ⟨⟨xs,h⟩,n _ w H1 _ z y A ⟨fun m _ b _ _=>⟨xs,b.t _ _ h,by rw[k.length];exact J1 _⟩,fun i m _ hi b _ _=>?_,?_⟩⟩⟩
    ·have e:i<xs.length:=by rw[<-k.length];exact hi
     exact⟨xs,xs[i],b.t _ _ h,by simp[e]⟩
    ·rintro i m o v D hi b g _ ⟨rfl,j⟩
     have hi:i<c.length:=hi
     obtain⟨x,e1,e2⟩:=(k.mono b).get (show c[i]?=MA c[i] by simp[hi])
     have:=j xs (b.t _ _ h)
     rw[e1]at this;cases this
     exact⟨.refl,g,_,by simp[hi],e2⟩
   |rol es=>
    obtain rfl:c=es:=sq
    rw[Rep]at r
    obtain⟨a,xs,rfl,h,k⟩:=r
    refine⟨a,rfl,.inl ⟨⟨xs,h.sql⟩,n _ w H1 _ z y A ⟨fun m _ b _ _=>⟨xs,(b.f _ _ h).sql,by rw[k.length];exact J1 _⟩,fun i m _ hi b _ _=>?_,?_⟩⟩⟩
    ·have e:i<xs.length:=by rw[<-k.length];exact hi
     exact⟨xs,xs[i],(b.f _ _ h).sql,by simp[e]⟩
    ·rintro i m o v D hi b g _ ⟨rfl,j⟩
     have hi:i<c.length:=hi
     obtain⟨x,e1,e2⟩:=(k.mono b).get (show c[i]?=MA c[i] by simp[hi])
     have:=j xs (b.f _ _ h).sql
     rw[e1]at this;cases this
     exact⟨.refl,g,_,by simp[hi],e2⟩
   |ref a=>
    rw[Rep]at r;subst r
    obtain⟨xs,J,k⟩:=y _ _ (show w a=MA (.lst c)from sq)
    refine⟨a,rfl,.inl ⟨⟨xs,NZ.of J⟩,n _ w H1 _ z y A ⟨fun m o b g s=>?_,fun i m o hi b g s=>?_,?_⟩⟩⟩
    ·obtain⟨p,j,u⟩:=g _ _ (show o a=MA (.lst c)from s)
     exact⟨p,NZ.of j,by rw[u.length];exact J1 _⟩
    ·obtain⟨p,j,u⟩:=g _ _ (show o a=MA (.lst c)from s)
     have e:i<p.length:=by rw[<-u.length];exact hi
     exact⟨p,p[i],NZ.of j,by simp[e]⟩
    ·rintro i m o v D hi b g s ⟨rfl,j⟩
     have hi:i<c.length:=hi
     obtain⟨p,B,u⟩:=g _ _ (show o a=MA (.lst c)from s)
     obtain⟨x,e1,e2⟩:=u.get (show c[i]?=MA c[i] by simp[hi])
     have:=j p (NZ.of B)
     rw[e1]at this;cases this
     exact⟨.refl,g,_,by simp[hi],e2⟩
   |_=>exact sq.elim⟩
inductive VC(g:P0)(tb:Nn)(B:EndsD)(I:Qt)(δ0:DS)(M0:MH):Prop
 |mk (W:Nat->DS->MH->Prop) (w0:W 0 δ0 M0) (hC:∀i δ M,i<=I.n->W i δ M->I.C M) (turn:∀i d δ M,i<I.n->I.item i=MA d->W i δ M->g d δ M fun δ2 M2=>tb (B.lp (W (i+1))) δ2 M2) (done:∀δ M,W I.n δ M->B.nx δ M):VC g tb B I δ0 M0
def Hj(a:O3)(g:P0)(b:Nn):Nn:=fun B δ M=>a δ M fun I c=>VC g b B I δ c
theorem bM{b:Expr}{body:List Stmt}{Q:O3}{g:P0}{R:Nn}{pos:Pos}(U:PassesOwn (Jg X.prog X.w) X.A X.env X.xe)(V:X.calm=MC)(hi:DI X tg b Q)(Y:DG X tg g)(Z:DSs X body R)
 (hf:∀x,JH b X.env x=pure x:=by intro _;rfl):DSt X (.For tg b body [] pos) (Hj Q g R):=
 cI (zJ U V hi Y Z hf) fun E σ H ⟨δ,M,hs,a,B,ok,q⟩=>⟨δ,M,_,hs,a,q,fun I M1 H1 J C a1 z9 N=>by
  obtain⟨W,w0,hC,p,done⟩:=z9
  refine⟨fun i m σ h=>m=I.n-i/\i<=I.n/\NN X.K H1 h/\∃δ M,Slots X.K h δ σ/\NW X.K h M/\W i δ M,⟨I.n,by simp,Kb _,.refl,δ,M1,hs.mono C,a1,w0⟩,?_⟩
  rintro i m σ h ⟨rfl,hi,r,j,l,S,D,s⟩
  by_cases e:i<I.n
  ·refine .inr ⟨N.go i h l e r D (hC _ _ _ hi s),fun c o=>NN X.K H1 o/\∃δ M,Slots X.K o δ c/\NW X.K o M/\W (i+1) δ M,fun c o z=>⟨I.n-(i+1),by omega,rfl,e,z⟩,fun x o y=>?_⟩
   obtain⟨T,a3,d,ed,rd⟩:=N.yld i h l x o e r D (hC _ _ _ hi s) y
   refine⟨d,j,l,_,rd,S.mono T,a3,p i d j l e ed s,fun O M4 a0 H4 g4 s4 a4 q4=>⟨O,M4,s4,a4,_,?_,q4⟩⟩
   have G:NN X.K H1 H4:=(r.trans T).trans g4
   exact⟨fun f F c L k t u P=>⟨G.trans k,f,F,t,u,P⟩,fun d M v L k=>ok.rt d M v L ((C.trans G).trans k),fun f F c L k t u q'=>ok.nx _ _ _ _ ((C.trans G).trans k) t u q',fun f F c L k t u P=>⟨G.trans k,f,F,t,u,P⟩⟩
  ·obtain rfl:i=I.n:=by omega
   exact .inl ⟨N.stop h l r D (hC _ _ _ hi s),ok.nx _ _ _ _ (C.trans r) S D (done j l s)⟩⟩
def HD(i:Nat)(te:TD)(f:Int->Int->Int):Nn:=fun B δ M=>∃k,δ[i]?=MA (MA (.int k))/\te δ M fun y a=>∃j,y=.int j/\B.nx (δ.set i (MA (.int (f k j)))) a
theorem yy(i:Nat){x:Str}{e:Expr}{te:TD}{op:Operator}{f:Int->Int->Int}{pos c:Pos}(h:X.N.Nodup)(l:VO X op (XA f))(he:DE X e te)(hi:X.N[i]?=MA x:=by rfl)(m:Loc X.env.scope x:=by first|exact Or.inl rfl|exact Or.inr rfl)
 (n:X.fn x=MC\/X.env.scope.names.lookup x=MA .local:=by first|exact .inl rfl|exact .inr rfl|assumption):DSt X (.AugAssign (.Name x c) op e pos) (HD i te f):=
 cI (C9 h hi m he l n) fun E σ H o=>by
  obtain⟨δ,M,hs,a,B,ok,k,e1,q⟩:=o
  obtain⟨v,e2,r⟩:=hs.at' i _ e1
  rw[Rep]at r;subst r
  refine⟨_,e2,δ,M,_,hs,a,q,fun y w u H1 d g p b=>?_⟩
  obtain⟨j,s,t⟩:=b
  subst s
  rw[Rep]at g;subst g
  exact⟨k,j,rfl,rfl,ok.nx _ _ _ _ d ((hs.mono d).set (by rw[Rep]) i) p t⟩
end
end SD
namespace Ma
open SD
theorem me{a b:Int}(h:0<b):0<Rat.divInt a b↔0<a:=by
 have c:=Rat.divInt_nonneg_iff_of_pos_right (a:=-a) h;rw[<-Rat.neg_divInt]at c;have:¬(0<=-Rat.divInt a b)↔0<Rat.divInt a b:=by constructor<;>intro z<;>grind
 rw[<-this,c];omega
theorem tL{a b:Int}(h:0<b):Rat.divInt a b<0↔a<0:=by
 have c:=Rat.divInt_nonneg_iff_of_pos_right (a:=a) h;have:¬(0<=Rat.divInt a b)↔Rat.divInt a b<0:=by constructor<;>intro z<;>grind
 rw[<-this,c];omega
theorem BD{t b:Int}(h:0<b):sgn (Rat.divInt t b)=if 0<t then 1 else if t<0 then -1 else 0:=by unfold sgn;simp only[me h,tL h]
theorem A8(a b c d x y:Rat) :
 Rat.divInt ((c.num*(a.den:Int)-a.num*(c.den:Int))*(y.num*(b.den:Int)-b.num*(y.den:Int))*((d.den:Int)*(b.den:Int)*((x.den:Int)*(a.den:Int))) -
  (d.num*(b.den:Int)-b.num*(d.den:Int))*(x.num*(a.den:Int)-a.num*(x.den:Int))*((c.den:Int)*(a.den:Int)*((y.den:Int)*(b.den:Int))))
  ((c.den:Int)*(a.den:Int)*((y.den:Int)*(b.den:Int))*((d.den:Int)*(b.den:Int)*((x.den:Int)*(a.den:Int))))=cr a b c d x y:=by
 rw[<-Rat.divInt_sub_divInt _ _ (Int.mul_ne_zero (uW c a) (uW y b)) (Int.mul_ne_zero (uW d b) (uW x a)),<-Rat.divInt_mul_divInt,<-Rat.divInt_mul_divInt,sub_eq,sub_eq,sub_eq,sub_eq]
 rfl
end Ma
namespace SD
open PySem PySem.Spec PyProof.Rows L2
abbrev Nh:I0->IY->Prop:=fun _ _=>False
def cN(X:Cx)(xs:List Str)(js:List Nat):List Str:=xs++js.map fun j=>(X.N[j]?).getD ("":Str)
def cσ(os:L2.St)(js:List Nat)(σ:L2.St):L2.St:=os++js.map fun j=>(σ[j]?).join
theorem cM:∀(names:List (Str×LB)) (n:Nat) (a:List (Str×Addr)),L3 n names a=L3 n names []++a
 |[],_,_=>rfl
 |(x,k)::r,n,a=>by
  unfold L3
  split
  ·rw[cM r (n+1) ((x,n)::a),cM r (n+1) [(x,n)],List.append_assoc];rfl
  ·exact cM r n a
theorem jx:∀(names:List (Str×LB)) (n:Nat) {y:Str} {c:Addr},(y,c)∈L3 n names []->(y,NameKind.cell)∈names
 |[],_,_,_,h=>by cases h
 |(x,k)::r,n,y,c,h=>by
  unfold L3 at h
  split at h
  ·rename_i hk
   rw[cM]at h
   rcases Jo.mp h with h|h
   ·exact Jn _ (jx r _ h)
   ·have e:(y,c)=(x,n):=by simpa using h
    cases e
    obtain rfl:k=.cell:=by simpa using hk
    exact Jy
  ·exact Jn _ (jx r _ h)
theorem pE{l r:List (Str×Addr)}{y:Str}{c:Addr}(h:(l++r).lookup y=MA c):l.lookup y=MA c\/(l.lookup y=MB/\r.lookup y=MA c):=by
 rw[List.lookup_append]at h;cases e:l.lookup y with
 |some a=>rw[e]at h;exact .inl h
 |none=>rw[e]at h;exact .inr ⟨rfl,h⟩
theorem wQ{env:Env}{y:Str}{c:Addr}{names:List (Str×LB)}(h:(fD names env).lookup y=MA c):(y,LJ)∈names:=by
 have b:=K0 h;unfold fD at b;obtain⟨z,a,e⟩:=Jp.mp b;rw[List.mem_reverse,Jm]at a;obtain⟨n,k⟩:=z;obtain rfl:k=.free:=by simpa using a.2
 cases e;exact a.1
theorem fR{env:Env}{k:LB}(c:k≠.free):∀{names:List (Str×LB)} {x:Str},names.lookup x=MA k->
 (names.map fun(n,k)=>if(k==LJ&&env.scope.kind==.function&&env.kindOf n==MA .cell)then(n,NameKind.cell)else(n,k)).lookup x=MA k
 |[],_,h=>by simp at h
 |(n,q)::r,x,h=>by
  have d:=@fR env k c r x
  rw[J5]
  dsimp only
  by_cases b:(x==n)=MC
  ·rw[Kw,b]at h
   cases h
   rw[ME (by intro z;rw[JV,JV]at z;exact c (by simpa using z.1.1)),Kw,b]
  ·have a:(x==n)=MD:=by simpa using b
   rw[Kw,a]at h
   split<;>(rw[Kw,a];exact d h)
theorem oJ{M:Model}{A:JQ}{E:I0->IY->Prop}{s:IY}{scope:LR}{globals:Addr}{b:List (Str×Addr)}{qual:Str}{env:Env}{Q:Env->IY->Prop} (h:Q { scope:=scope,locals:=s.heap.objs.size,globals:=globals,cells:=L3 (s.heap.objs.size+1) scope.names b,qual:=qual,func:=MB,code:=env.code,frame:=env.frame,builtins:=env.builtins } { s with heap:=pushCells (s.heap.push { cls:=.type "dict",data:=.dict #[] }) scope.names }) : J7 M A (newFunctionEnv scope globals b [] qual MB .none (MA env)) Q E s:=by simp only[newFunctionEnv,Option.isSome_some,if_true];refine cc (wpAny_alloc ?_);refine cc (wpAny_layCells _ (fun name kind cells=>by cases a:kind==NameKind.cell<;>simp[a]) _ _ _ _ ?_);rw[show({ s with heap:=s.heap.push { cls:=.type "dict",data:=.dict #[] } }:IY).heap.objs.size=s.heap.objs.size+1 from KH ..];refine cc ?_;rw[List.forIn_nil];exact IX (IX h)
def j8(scope:LR)(C:Addr)(env:Env):Env:=
 { scope:=relabel scope env,locals:=C,globals:=env.globals,cells:=L3 (C+1) scope.names (fD scope.names env),qual:=env.qual,func:=MB,code:=env.code,frame:=env.frame,builtins:=env.builtins }
def NU(X:Cx)(xs:List Str)(js:List Nat)(scope:LR)(C:Addr)(s:IY)(H:Hp)(fp:List Addr):Cx where
 prog:=X.prog
 w:=X.w
 K:=X.K
 mg:=X.mg
 base:=X.base
 A:=X.A
 N:=cN X xs js
 s₀:=s
 H₀:=H
 env:=j8 scope C X.env
 outer:=X.stack
 stack:=X.stack
 ex:=fp
 fn:=fun y=>xs.contains y
 calm:=X.calm
 pn:=[]
 xe:=fun _ _=>False
structure NM(X:Cx)(xs:List Str)(js:List Nat)(scope:LR):Prop where
 kind:scope.kind=.function
 cell:∀y∈scope.names,y.2=.cell->y.1∈xs
 free':∀y∈scope.names,y.2=.free->y.1∉xs
 names:∀y∈scope.names,y.2=.local->scope.names.lookup y.1=MA .local
 own:∀x∈xs,scope.names.lookup x=MA .local\/scope.names.lookup x=MA .cell
 out:∀y∈scope.names,y.2=.free->X.env.kindOf y.1=MA .cell\/X.env.kindOf y.1=MA .free
 nd:(cN X xs js).Nodup
 js:∀j∈js,scope.names.lookup ((X.N[j]?).getD ("":Str))≠MA .local
section
variable{X:Cx}{xs:List Str}{js:List Nat}{scope:LR}{MP:List (Addr×Obj)}{σ:L2.St}{H:Hp}{s:IY}{fp:List Addr}
theorem NM.cells(c:NM X xs js scope)(ok:X.Ok):∀y∈scope.names,y.2=.free->∃a,X.env.cells.lookup y.1=MA a:=fun y b d=>ok.has _ (c.out y b d)
theorem NM.AY(c:NM X xs js scope)(ok:X.Ok):closureFor scope X.env=pure (fD scope.names X.env):=rK (c.cells ok)
theorem NM.kindOf(c:NM X xs js scope)(ok:X.Ok){C:Addr}{y:Str}{k:LB}(e:(j8 scope C X.env).kindOf y=MA k):scope.names.lookup y=MA k\/(k=.cell/\scope.names.lookup y=MA .free):=gw ok.kind e
theorem lZ(c:NM X xs js scope)(I:Inv X MP σ H s)(G:∀b∈fp,cX X MP H b)(A:∀b∈fp,b<s.heap.objs.size){h':Heap}(Q:h'=pushCells (s.heap.push { cls:=.type "dict",data:=.dict #[] }) scope.names)(k:∀b o,s.heap.get? b=MA o->h'.get? b=MA o) :
 Inv (NU X xs js scope s.heap.objs.size s H fp) [] (cσ (JA xs.length MB) js σ) H { s with heap:=h' }:=by
 have ok:=I.ok
 have Y:h'.Ns s.heap.objs.size fun _=>MB:=by rw[Q];exact(Heap.Ns.new s.heap (.type "dict")).keeps (pushCells_keeps _ _)
 have t:CellsOk h' (s.heap.objs.size+1) (L3 (s.heap.objs.size+1) scope.names []):=by
  have:=cellsFrom_ok scope.names (s.heap.push { cls:=.type "dict",data:=.dict #[] }) (s.heap.objs.size+1) [] ⟨fun _ _ B=>(nomatch B),List.Pairwise.nil⟩ (by rw[KH];exact J1 _)
  rw[KH]at this
  rw[Q];exact this
 have R:∀{y:Str} {a:Addr},(fD scope.names X.env).lookup y=MA a->X.env.cells.lookup y=MA a:=fun e=>qZ (c.cells ok) e
 have D:∀{y:Str} {a:Addr},X.env.cells.lookup y=MA a->a<s.heap.objs.size:=fun e=>by obtain⟨v,z⟩:=I.cell _ _ e;exact z.lt
 have d:∀{y:Str} {a:Addr},(j8 scope s.heap.objs.size X.env).cells.lookup y=MA a->((y,a)∈L3 (s.heap.objs.size+1) scope.names []/\s.heap.objs.size<a)\/X.env.cells.lookup y=MA a:=fun{y a} e=>by
  have e:(L3 (s.heap.objs.size+1) scope.names (fD scope.names X.env)).lookup y=MA a:=e
  rw[cM]at e
  rcases pE e with z|⟨_,z⟩
  ·exact .inl ⟨K0 z,(t.empty _ _ (K0 z)).2⟩
  ·exact .inr (R z)
 have free:∀{y:Str},(j8 scope s.heap.objs.size X.env).kindOf y=MA .cell\/(j8 scope s.heap.objs.size X.env).kindOf y=MA .free->scope.names.lookup y=MA .cell\/scope.names.lookup y=MA .free:=fun{y} e=>by
  rcases e with e|e
  ·rcases c.kindOf ok e with z|⟨_,z⟩
   ·exact .inl z
   ·exact .inr z
  ·rcases c.kindOf ok e with z|⟨z,_⟩
   ·exact .inr z
   ·cases z
 refine⟨⟨ok.mod,c.kind,ok.glob,ok.blt,J1 _,fun y z a f g=>?_,fun y K=>?_,fun y a h e=>?_,ok.hd,ok.frames,.inl rfl,fun b w=>⟨JK (A b w),fun y a e=>?_⟩,
  I.bs,Ke ok.bsz I.sz,fun b o e w=>?_,fun b w=>?_,I.stack,I.uM⟩,rfl,I.bare,Un.kept k,?_,fun y a e=>?_,I.hok.fresh (J1 _),fun y a e=>?_,fun p Z=>absurd (show p∈([]:List (Addr×Obj))from Z) (by simp),I.hok.kept k,?_⟩
 ·rcases d f with⟨m1,l1⟩|S<;>rcases d g with⟨m2,l2⟩|T
  ·exact name_of_addr t.apart m1 m2
  ·exact absurd (D T) (Nat.not_lt.mpr (Nat.le_of_lt l1))
  ·exact absurd (D S) (Nat.not_lt.mpr (Nat.le_of_lt l2))
  ·exact ok.inj y z a S T
 ·show ∃c,(L3 (s.heap.objs.size+1) scope.names (fD scope.names X.env)).lookup y=MA c
  rw[cM,List.lookup_append]
  rcases free K with z|z
  ·obtain⟨a,e⟩:=lV (n:=s.heap.objs.size+1) z
   exact⟨a,by rw[e];rfl⟩
  ·obtain⟨a,e⟩:=qB (env:=X.env) (K0 z)
   cases q:(L3 (s.heap.objs.size+1) scope.names []).lookup y with
   |none=>exact⟨a,by rw[e];rfl⟩
   |some J=>exact⟨J,rfl⟩
 ·have hx:y∈xs:=by simpa[NU]using h
  have e:(L3 (s.heap.objs.size+1) scope.names (fD scope.names X.env)).lookup y=MA a:=e
  rw[cM]at e
  rcases pE e with z|⟨_,z⟩
  ·exact Nat.le_of_lt (t.empty _ _ (K0 z)).2
  ·exact absurd hx (c.free' _ (wQ z) rfl)
 ·rcases d e with⟨_,l⟩|o
  ·exact Nat.ne_of_gt (Nat.lt_trans (A b w) l)
  ·exact(G b w).2.2.2.2.1 y a o
 ·rcases(G b w).2.2.2.1 with z|z
  ·exact ok.noex b o e z
  ·exact absurd (Ju (Ju (Jc e) ok.bsz) z) (LI _)
 ·intro z
  rcases Jv.mp (I.sC b z)with y|y
  ·exact(G b w).2.1 y
  ·exact(G b w).2.2.1 y
 ·refine⟨_,Y,fun i y v f g h3=>?_⟩
  have f:(xs++js.map fun j=>(X.N[j]?).getD ("":Str))[i]?=MA y:=f
  have g:(JA xs.length (MB:Option V)++js.map fun j=>(σ[j]?).join)[i]?=MA (MA v):=g
  by_cases hi:i<xs.length
  ·rw[JO (by simpa using hi),List.getElem?_replicate,MF hi]at g
   cases g
  ·have x:y∉xs:=fun K=>by
    rw[JP (by omega)]at f
    have nd:=c.nd
    unfold cN at nd
    exact(Lv.mp nd).2.2 y K y (J9 f) rfl
   rw[JP (by omega)]at f
   rw[JP (by simp;omega)]at g
   rw[List.length_replicate]at g
   rw[J4]at f g
   cases L:js[i-xs.length]? with
   |none=>rw[L]at f;cases f
   |some j=>
    rw[L]at f g
    have e1:(X.N[j]?).getD ("":Str)=y:=Option.some.inj f
    have e2:(σ[j]?).join=MA v:=Option.some.inj g
    have e3:σ[j]?=MA (MA v):=by
     cases q:σ[j]? with
     |none=>rw[q]at e2;cases e2
     |some o=>rw[q]at e2;exact congrArg MA e2
    have hj:j<X.N.length:=by rw[<-I.len];exact(Ja.mp e3).1
    have e4:X.N[j]?=MA y:=by
     rw[J0 hj]at e1 ⊢
     exact congrArg MA e1
    have nl:scope.names.lookup y≠MA .local:=by
     have:=c.js j (J9 L)
     rw[e1]at this
     exact this
    have U:(j8 scope s.heap.objs.size X.env).kindOf y=MA .cell\/(j8 scope s.heap.objs.size X.env).kindOf y=MA .free:=by
     rcases h3 with z|z|z
     ·rcases c.kindOf (C:=s.heap.objs.size) ok z with q|⟨q,_⟩
      ·exact absurd q nl
      ·cases q
     ·exact .inl z
     ·exact .inr z
    have B:(y,LJ)∈scope.names:=by
     rcases free U with z|z
     ·exact absurd (c.cell _ (K0 z) rfl) x
     ·exact K0 z
    obtain⟨a,W⟩:=qB (env:=X.env) B
    have M:(j8 scope s.heap.objs.size X.env).cells.lookup y=MA a:=by
     show(L3 (s.heap.objs.size+1) scope.names (fD scope.names X.env)).lookup y=MA a
     rw[cM,List.lookup_append]
     cases q:(L3 (s.heap.objs.size+1) scope.names []).lookup y with
     |none=>rw[W];rfl
     |some J=>exact absurd (c.cell _ (jx _ _ (K0 q)) rfl) x
    have E:Uw X.env.scope y:=by
     rcases c.out _ B rfl with z|z
     ·exact .inr (.inl z)
     ·exact .inr (.inr z)
    obtain⟨m,_,hl⟩:=I.loc
    obtain⟨u,r,l⟩:=hl j y v e4 e3 E
    refine⟨u,r,?_⟩
    rcases l with⟨z,_⟩|⟨_,J,O,o,P,hd⟩
    ·rcases c.out _ B rfl with q|q
     ·have F:X.env.kindOf y=MA .local:=z
      rw[q]at F;cases F
     ·have F:X.env.kindOf y=MA .local:=z
      rw[q]at F;cases F
    ·refine .inr ⟨U,J,?_,o,k _ _ P,hd⟩
     have:=R W
     rw[O]at this
     cases this
     exact M
 ·rcases d e with⟨m,_⟩|o
  ·exact⟨_,(t.empty _ _ m).1⟩
  ·obtain⟨v,o,P,hd⟩:=I.cell y a o
   exact⟨v,o,k _ _ P,hd⟩
 ·rcases d e with⟨_,l⟩|o
  ·exact I.hok.fresh (Nat.le_of_lt l)
  ·exact I.freeC y a o
 ·show(cσ (JA xs.length MB) js σ).length=(cN X xs js).length
  unfold cσ cN
  simp
end
def R8(X:Cx)(a:List Expr)(t:TT):Prop:=∀(MP:List (Addr×Obj)) (s:IY) (σ:L2.St) (H:Hp) (Q:Bool->Hp->Prop),Inv X MP σ H s->t σ H Q->
 J7 (Jg X.prog X.w) X.A (forIn a MC fun c r=>if r=MC then do let ok <-isTrue c X.env (eval c X.env);pure (Ly ok)else pure (Ly r)) (TP X MP σ Q) X.xe s
theorem Ai{X:Cx}:R8 X [] (fun _ H Q=>Q MC H):=fun MP s σ H Q I q=>wpAny_tests_nil ⟨H,I,q⟩
theorem Aw{X:Cx}{c:Expr}{t:TT}(h:PT X c t):R8 X [c] t:=fun MP s σ H Q I q=>wpAny_tests_one (h MP s σ H Q I q)
theorem wq{prog:Jl}{w:JL}{A:JQ}{R:Result->IY->Prop}{s:IY}{d a b:Expr}{f:List Expr}{scope:LR}{pos:Pos}{it g:I0}{env:Env}(J:Nat->IY->Prop)
 (step:∀n s,J n s->J7 (Jg prog w) A (Mu it) (fun r j=>match r with
  |none=>R (.ok .next) j
  |some v=>J7 (Jg prog w) A (Lc a it v) (fun _ l=>J7 (Jg prog w) A (Mt a env v) (fun _ o=>
   J7 (Jg prog w) A (forIn f MC fun c r=>if r=MC then do let ok <-isTrue c env (eval c env);pure (Ly ok)else pure (Ly r)) (fun ok k=>
    if ok=MC then J7 (Jg prog w) A (eval d env) (fun x p=>J7 (Jg prog w) A (call (.builtin "list.append") [g,x]) (fun _ q=>∃m,m<n/\J m q) Nh p) Nh k
    else ∃m,m<n/\J m k) Nh o) Nh l) Nh j) Nh s)
 (n:Nat) (h:J n s):Ll (Jg prog w) A (.compLoop (.ListComp d [⟨a,b,f,0⟩] scope pos) 0 it g env) R s:=by
 have i:∀{E:I0->IY->Prop} e t,Nh e t->E e t:=fun _ _ z=>z.elim
 refine codeAny_loop rfl J (fun n s B=>?_) n h
 show J7 _ _ (Sem.onRaise (compTurn (.ListComp d [⟨a,b,f,0⟩] scope pos) 0 it g env) (fun x=>do noteFrame x env;theTreesLotGoes x)) _ _ s
 refine wpAny_noted ?_
 rw[compTurn_list]
 refine cc (KQ (cc (Je (step n s B) (fun r j u=>?_) i)))
 cases r with
 |none=>exact IX u
 |some v=>
  refine cc (Je u (fun _ l C=>cc (Je C (fun _ o D=>cc (Je D (fun ok k y=>?_) i)) i)) i)
  cases ok with
  |false=>exact IX ⟨rfl,y⟩
  |true=>exact cc (cc (Je y (fun x p F=>cc (Je F (fun _ q G=>IX (IX ⟨rfl,G⟩)) i)) i))
abbrev Own:=V->Hp->L2.St->Prop
structure OW(n:Nat)(g:TG)(own:Own):Prop where
 len:∀y H os,own y H os->os.length=n
 run:∀y H os0 tail os (Q:L2.St->Hp->Prop),os0.length=n->own y H os->Q (os++tail) H->g y (os0++tail) H Q
def BX(js:List Nat)(own:Own)(tc:TT)(te:TE)(σ:L2.St)(J:It)(H1:Hp)(Q:VK):Prop:=∀D,H1 D=MB->∃W:Nat->Nat->Hp->Prop,(∃m,W 0 m (upd H1 D (.lst [])))/\∀i m H,W i m H->
 (J.stop i H/\Q (.ref D) H)\/(J.go i H/\∀y c,J.yld i H y c->∃os,own y c os/\tc (cσ os js σ) c fun b d=>if b=MC then
  te (cσ os js σ) d fun v e=>∃xs,e D=MA (.lst xs)/\xs.length<Jb/\∃a,a<m/\W (i+1) a (upd e D (.lst (xs++[v])))else ∃a,a<m/\W (i+1) a d)
def sr(js:List Nat)(own:Own)(a:TI)(tc:TT)(te:TE):TE:=fun σ H Q=>a σ H fun J H1=>BX js own tc te σ J H1 Q
section
variable{X:Cx}{xs:List Str}{tg:Expr}{pos:Pos}{js:List Nat}{scope:LR}{elt iter:Expr}{ifs:List Expr}{te:TE}{tc:TT}{g:TG}{own:Own}{wi:TI}{MP:List (Addr×Obj)}{σ:L2.St}{H:Hp}{s:IY}{fp:List Addr}{it:Addr}{tn:Nat->Heap->Prop}{J:It}
theorem qi(c:NM X xs js scope)(hc:X.calm=MC)(hG:OW xs.length g own)(hg:∀C s H fp,PG (NU X xs js scope C s H fp) tg g)(ht:∀C s H fp,R8 (NU X xs js scope C s H fp) ifs tc)(he:∀C s H fp,PE (NU X xs js scope C s H fp) elt te)
 {R:I0->Addr->Result->IY->Prop} {E:I0->IY->Prop} {Q:VK}
 (I:Inv X MP σ H s) (T:Turn X.prog X.w X.K tg J fp it tn) (st:tn 0 s.heap) (hf:∀b∈fp,cX X MP H b) (wc:BX js own tc te σ J H Q)
 (hR:∀D C f F,Inv X MP σ f F->cX X MP f C->(∃m,F.heap.Ns C m)->Q (.ref D) f->R (.ref D) C (.ok .next) F) :
 J7 (Jg X.prog X.w) X.A (newList []) (fun d0 e0=>J7 (Jg X.prog X.w) X.A (newFunctionEnv scope X.env.globals (fD scope.names X.env) [] X.env.qual MB .none (MA X.env)) (fun N f0=>
  Ll (Jg X.prog X.w) X.A (.compStart (.ListComp elt [⟨tg,iter,ifs,0⟩] scope pos) 0 (.ref it) d0 { N with scope:=relabel scope X.env }) (R d0 N.locals) f0) E e0) E s:=by
 have g0:∀b∈fp,b<s.heap.objs.size:=fun b a=>let⟨o,e,_⟩:=T.obj 0 _ st b a;Jc e
 have hD:H s.heap.objs.size=MB:=I.hok.fresh (J1 _)
 refine JG (oJ ?_)
 generalize hh:s.heap.push { cls:=.type "list",dict:=MB,data:=.seq ([]:List I0).toArray }=h
 generalize h0:pushCells (({ s with heap:=h }:IY).heap.push { cls:=.type "dict",data:=.dict #[] }) scope.names=j
 have k3:∀b o,s.heap.get? b=MA o->h.get? b=MA o:=fun b o e=>by rw[<-hh];exact J3 _ e
 have I3:Inv X MP σ (upd H s.heap.objs.size (.lst [])) { s with heap:=h }:=by
  refine I.laid (t':=s.toks) k3 (J1 _) ?_
  refine⟨Kb _,[],0,.nil,?_⟩
  rw[<-hh]
  exact J8 _ rfl
 have k:∀b∈fp,cX X MP (upd H s.heap.objs.size (.lst [])) b:=fun b a=>⟨by rw[aX (JK (g0 b a))];exact(hf b a).1,(hf b a).2⟩
 have s0:h.objs.size=s.heap.objs.size+1:=by rw[<-hh,KH]
 have i0:∀b∈fp,b<h.objs.size:=fun b a=>by rw[s0];exact Mj (g0 b a)
 have k4:∀b o,h.get? b=MA o->j.get? b=MA o:=fun b o e=>by rw[<-h0];exact pushCells_keeps _ _ b o (J3 _ e)
 have I4:=lZ c I3 k i0 (h':=j) h0.symm k4
 obtain⟨W,⟨m0,w0⟩,k0⟩:=wc _ hD
 have Pa:tn 0 j:=T.keep 0 _ _ st fun b a o e=>k4 b o (k3 b o e)
 generalize hX:NU X xs js scope h.objs.size { s with heap:=h } (upd H s.heap.objs.size (.lst [])) fp=X' at I4
 have S:∀{pins':List (Addr×Obj)} {f:Hp} {G:L2.St} {F:IY},Inv X' [] G f F->(∀b∈fp,f b=MB)->∀b∈fp,cX X' [] f b:=fun{pins' f G F} J' hn b a=>by
  subst hX
  obtain⟨a1,a2⟩:=J'.ok.exf b a
  exact⟨hn b a,a1,J'.ok.exfs b a,.inl a,a2,fun p hp=>absurd (show p∈([]:List (Addr×Obj))from hp) (by simp)⟩
 have O:Ll (Jg X.prog X.w) X.A (.compLoop (.ListComp elt [⟨tg,iter,ifs,0⟩] scope pos) 0 (.ref it) (.ref s.heap.objs.size) (j8 scope h.objs.size X.env)) (R (.ref s.heap.objs.size) h.objs.size)
  { s with heap:=j }:=by
  refine wq (fun n F=>∃i os f,os.length=xs.length/\Inv X' [] (cσ os js σ) f F/\tn i F.heap/\(∀b∈fp,f b=MB)/\W i n f) ?_ m0 ⟨0,_,_,by simp,I4,Pa,fun b a=>(k b a).1,w0⟩
  rintro n s5 ⟨i,os,H5,t0,I5,Oc,l0,w5⟩
  rcases k0 i n H5 w5 with⟨stop,q⟩|⟨go,step⟩
  ·subst hX
   refine Je (T.done (NU X xs js scope h.objs.size { s with heap:=h } (upd H s.heap.objs.size (.lst [])) fp) rfl rfl rfl hc i [] s5 _ H5 Nh I5 (S (pins':=[]) I5 l0) Oc stop) (fun r s6 U=>?_) fun _ _ z=>z
   obtain⟨hr,I6⟩:=U
   subst hr
   refine hR _ _ H5 s6 (I3.yg I6.os I6.base I6.hok I6.bare fun b a=>⟨(k b a).2.2.2.1,(k b a).2.1,(k b a).2.2.2.2.1,(k b a).2.2.2.2.2⟩) (I3.sU (J1 _) I6.free) (let⟨m,hm,_⟩:=I6.loc;⟨m,hm⟩) q
  ·subst hX
   refine Je (T.item (NU X xs js scope h.objs.size { s with heap:=h } (upd H s.heap.objs.size (.lst [])) fp) rfl rfl rfl hc i [] s5 _ H5 Nh I5 (S (pins':=[]) I5 l0) Oc go) (fun r s6 V=>?_) fun _ _ z=>z
   obtain⟨u,hr,h6⟩:=V
   subst hr
   refine Je h6 (fun _ s7 Y=>?_) fun _ _ z=>z
   obtain⟨y,H7,I7,r7,y7,Of,u0⟩:=Y
   have v0:=I7.pinned (S (pins':=[]) I7 u0) (T.obj _ _ Of)
   obtain⟨L,n0,q8⟩:=step y H7 y7
   have l8:=hG.len _ _ _ n0
   refine Je (hg _ _ _ _ _ s7 _ H7 y u (fun G f=>G=cσ L js σ/\f=H7) v0 r7 (hG.run y H7 os _ L _ t0 n0 ⟨rfl,rfl⟩)) (fun _ s8 Z=>?_) fun _ _ z=>z
   obtain⟨e1,H8,I8,e8,x0⟩:=Z
   subst e8 x0
   refine Je (ht _ _ _ _ _ s8 _ _ _ I8 q8) (fun ok s9 a0=>?_) fun _ _ z=>z
   obtain⟨H9,I9,q9⟩:=a0
   have P:∀{M:Nat} {l:Hp} {t:IY},Inv (NU X xs js scope h.objs.size { s with heap:=h } (upd H s.heap.objs.size (.lst [])) fp) ([]++gH fp s7.heap) (cσ L js σ) l t->M<n->W (i+1) M l->
    ∃m,m<n/\∃i os f,os.length=xs.length/\Inv (NU X xs js scope h.objs.size { s with heap:=h } (upd H s.heap.objs.size (.lst [])) fp) [] (cσ os js σ) f t/\tn i t.heap/\(∀b∈fp,f b=MB)/\W i m f:=fun{M l t} x B y0=>by
    refine⟨M,B,i+1,L,l,l8,x.d3,T.keep _ _ _ Of fun b a o e=>(x.pin (b,o) (Ji _ (Ji _ (bI a e)))).1,fun b a=>?_,y0⟩
    obtain⟨o',e,d⟩:=T.obj _ _ Of b a
    exact(x.pin (b,o') (Ji _ (Ji _ (bI a e)))).2.1
   cases ok with
   |false=>
    rw[ME Jf]at q9 ⊢
    obtain⟨M,B,w9⟩:=q9
    exact P I9 B w9
   |true=>
    rw[MF rfl]at q9 ⊢
    refine Je (he _ _ _ _ _ s9 _ _ _ I9 q9) (fun v t b0=>?_) fun _ _ z=>z
    obtain⟨vv,l,x,z0,ys,o0,r0,b1⟩:=b0
    refine Je (jN (X:=(NU X xs js scope h.objs.size { s with heap:=h } (upd H s.heap.objs.size (.lst [])) fp)) _ t _ l (.ref s.heap.objs.size) [vv] (.ref s.heap.objs.size) [v] (fun _ f=>∃M,M<n/\W (i+1) M f) x rfl (.cons z0 .nil) ⟨_,ys,vv,rfl,rfl,o0,r0,b1⟩) (fun _ f1 c0=>?_) fun _ _ z=>z
    obtain⟨_,g1,c1,_,M,B,d1⟩:=c0
    exact P c1 B d1
 exact codeAny_compStart_list O (T.self X.A 0 _ _ _ Pa O)
theorem AI(c:NM X xs js scope)(k:X.calm=MC)(hi:PI X tg iter wi)(l:OW xs.length g own)(n:∀C s H fp,PG (NU X xs js scope C s H fp) tg g)(p:∀C s H fp,R8 (NU X xs js scope C s H fp) ifs tc)(he:∀C s H fp,PE (NU X xs js scope C s H fp) elt te)(hs:∀x,JH iter X.env x=pure x:=by intro _;rfl) : PE X (.ListComp elt [⟨tg,iter,ifs,0⟩] scope pos) (sr js own wi tc te):=by intro MP s σ H Q I h;rw[eval_ListComp];refine wpAny_comprehension_free (use:=MB) rfl hs (c.AY I.ok) c.kind c.names (NQ (hi MP s σ H _ I h) fun v G r=>NQ r fun t K a=>?_);obtain⟨it,fp,tn,J,L,e,u,T,st,y,w⟩:=a;subst e;refine qi (R:=fun i C=>compPost (Jg X.prog X.w) X.A X.xe MB (EP X MP σ Q) i C) c k l n p he u T st y w fun D C z B E f d q=>?_;obtain⟨m,F⟩:=d;exact⟨m,F,fun M j=>⟨.ref D,z,E.turned (t':=B.toks) (fun b o ne e=>j.extBut b o ne e) f.1 f.2.1 f.2.2.2.1 f.2.2.2.2.1 f.2.2.2.2.2,rfl,q⟩⟩
theorem Bl{i:Nat}{y:Str}{l j:Pos}(c:NM X xs js scope)(F:X.calm=MC)(G:X.N.Nodup)(hi:PI X tg iter wi)(K:OW xs.length g own)(L:∀C s H fp,PG (NU X xs js scope C s H fp) tg g)(M:∀C s H fp,R8 (NU X xs js scope C s H fp) ifs tc)(he:∀C s H fp,PE (NU X xs js scope C s H fp) elt te)(O:X.N[i]?=MA y)(E:X.env.scope.names.lookup y=MA .local)
 (p:LL (.ListComp elt [⟨tg,iter,ifs,0⟩] scope pos) (MA (.Name y l)) j.line X.env=pure MC) (hs:∀x,JH iter X.env x=pure x:=by intro _;rfl) :
 PS X (.Assign [.Name y l] (.ListComp elt [⟨tg,iter,ifs,0⟩] scope pos) j) (Bm (sr js own wi tc te) (gc i)):=by
 intro MP s σ H B I h
 rw[exec_Assign_Name_used _ _ _ _ p]
 refine cc (KQ (cc ?_))
 show J7 _ X.A (do let _ <-comprehension (.ListComp elt [⟨tg,iter,ifs,0⟩] scope pos) scope X.env _ (newList []) MD (eval iter X.env) (MA (Mt (.Name y l) X.env))) _ _ s
 refine cc (Je (wpAny_comprehension_free (use:=MA (Mt (.Name y l) X.env)) (Q:=fun _ n=>SP X MP B .next n) rfl hs (c.AY I.ok) c.kind c.names
  (NQ (hi MP s σ H _ I h) fun v s1 P=>NQ P fun S s2 z=>?_)) (fun _ n U=>IX (IX U)) fun _ _ e=>e)
 obtain⟨it,fp,tn,J,H2,e,V,T,st,W,w⟩:=z
 subst e
 refine qi (R:=fun r C=>compPost (Jg X.prog X.w) X.A X.xe (MA (Mt (.Name y l) X.env)) (fun _ n=>SP X MP B .next n) r C) c F K L M he V T st W w fun D C Y n Z k d q=>?_
 obtain⟨m,hm⟩:=d
 show J7 _ X.A (Mt (.Name y l) X.env (.ref D)) _ _ _
 refine wpAny_assign_Name (jw Z G O (.inl E) (v:=.ref D) rfl (fun s9 I9 f=>?_) (.inr E))
 obtain⟨a,sb,ha⟩:=f
 have t:C≠a:=by
  rcases ha with z|z
  ·rw[z];exact k.2.1
  ·exact fun e=>k.2.2.2.2.1 y a z e.symm
 refine⟨m,hm.sameBut sb t,fun h' u=>?_⟩
 exact⟨_,Y,I9.turned (t':=s9.toks) (fun b o ne e=>u.extBut b o ne e) k.1 k.2.1 k.2.2.2.1 k.2.2.2.2.1 k.2.2.2.2.2,q⟩
end
inductive Po where
 |one|many (n:Nat)
def pL(K:IW):Po->Own
 |.one=>fun y _ os=>os=[MA y]
 |.many n=>fun y H os=>∃a xs,y=.ref a/\N1 K H a xs/\xs.length=n/\os=xs.map MA
theorem rY{K:IW}:OW 1 (gc 0) (pL K .one):=⟨fun _ _ os h=>by rw[h];rfl,fun y H b a os Q c d q=>by
 obtain⟨o,rfl⟩:=BQ c
 rw[show os=[MA y]from d]at q;exact q⟩
theorem El{K:IW}:OW 2 (Ez K 2 (pY (gc 0) (pY (gc 1) EM))) (pL K (.many 2)):=⟨fun _ _ os z=>by
 obtain⟨a,xs,_,_,b,e⟩:=z
 rw[e];simpa using b,fun y H f c os Q b z q=>by
 obtain⟨a,xs,e,g,d,h⟩:=z
 obtain⟨o,i,rfl⟩:=yl b
 obtain⟨u,v,rfl⟩:=yl d
 rw[h]at q;exact⟨a,_,e,g,d,u,_,rfl,v,_,rfl,rfl,q⟩⟩
def zi:Po->D->DS->Prop
 |.one,d,os=>os=[MA d]
 |.many n,d,os=>∃a,d=.tup a/\a.length=n/\os=a.map MA
def cδ(os:DS)(js:List Nat)(δ:DS):DS:=os++js.map fun j=>(δ[j]?).join
theorem kn{K:IW}{H:Hp}{δ os:DS}{σ us:L2.St}{js:List Nat}(hs:Slots K H δ σ)(r:Slots K H os us):Slots K H (cδ os js δ) (cσ us js σ):=by
 refine⟨by simp[cδ,cσ,r.len],fun i e q=>?_⟩;unfold cδ at q;unfold cσ;by_cases hi:i<os.length
 ·rw[JO hi]at q;rw[JO (by rw[<-r.len];exact hi)];exact r.at' i e q
 ·rw[JP (by omega)]at q;rw[JP (by rw[<-r.len];omega),<-r.len];rw[J4]at q ⊢;cases a:js[i-os.length]? with
  |none=>rw[a]at q;cases q
  |some j=>
   rw[a]at q
   have e2:(δ[j]?).join=MA e:=Option.some.inj q
   have e3:δ[j]?=MA (MA e):=by
    cases z:δ[j]? with
    |none=>rw[z]at e2;cases e2
    |some o=>rw[z]at e2;exact congrArg MA e2
   obtain⟨b,e4,c⟩:=hs.at' j e e3
   exact⟨b,by rw[show(MA j).map (fun j=>(σ[j]?).join)=MA ((σ[j]?).join)from rfl,e4];rfl,c⟩
theorem jF{K:IW}{H:Hp}{a:List D}{xs:List V}(r:aK K H a xs):Slots K H (a.map MA) (xs.map MA):=by
 refine⟨by simp[r.length],fun i d e=>?_⟩;rw[J4]at e ⊢;cases q:a[i]? with
 |none=>rw[q]at e;cases e
 |some b=>
  rw[q]at e;cases e
  obtain⟨x,e1,e2⟩:=r.get q
  exact⟨x,by rw[e1];rfl,e2⟩
theorem pZ{K:IW}{H:Hp}{tk:Po}{d:D}{v:V}{os:DS}(r:Rep K H d v)(h:zi tk d os):∃us,pL K tk v H us/\Slots K H os us:=by
 cases tk with
 |one=>
  rw[show os=[MA d]from h]
  exact⟨[MA v],rfl,jF (.cons r .nil)⟩
 |many n=>
  obtain⟨f,rfl,c,rfl⟩:=h
  rw[Rep]at r
  obtain⟨a,xs,rfl,e,b⟩:=r
  exact⟨_,⟨a,xs,rfl,e,by rw[<-b.length];exact c,rfl⟩,jF b⟩
def jQ:Nj:=fun _ M Q=>Q MC M
def xS(I:Qt)(tk:Po)(js:List Nat)(tc:Nj)(te:TD)(δ:DS)(f:MH)(Q:DK):Prop:=I.n<=1000000/\∀p,f p=MB->∃W:Nat->List D->MH->Prop,W 0 [] (aC f p (.lst []))/\(∀i a M,i<=I.n->W i a M->I.C M)/\
 (∀i a d M,i<I.n->I.item i=MA d->W i a M->∃os,zi tk d os/\tc (cδ os js δ) M fun b g=>if b=MC then te (cδ os js δ) g fun e h=>∃c,Sub c h/\c p=MA (.lst a)/\W (i+1) (a++[e]) (aC c p (.lst (a++[e])))else ∃c,Sub c g/\W (i+1) a c)/\∀a M,W I.n a M->Q (.ref p) M
def jf(a:O3)(tk:Po)(js:List Nat)(tc:Nj)(te:TD):TD:=fun δ M Q=>a δ M fun I b=>xS I tk js tc te δ b Q
section
variable{X:Cx}{K:IW}
theorem nP{C:O3}{tk:Po}{js:List Nat}{tc:Nj}{te:TD}{σ:L2.St}{H:Hp}{Q:VK}(h:lift K (jf C tk js tc te) σ H Q):sr js (pL K tk) (lz K C) (liftT K tc) (lift K te) σ H Q:=by
 obtain⟨δ,M,R,hs,P,q,t⟩:=h;refine⟨δ,M,_,hs,P,q,fun I M1 H1 J D E w x p y=>?_⟩;obtain⟨S,w⟩:=w;obtain⟨W,T,hC,l,done⟩:=w p (E.fresh y);refine⟨fun i m j=>m=I.n-i/\i<=I.n/\NN K H1 j/\∃c M,c.length<=i/\NW K j M/\W i c M,⟨I.n,by simp,Kb _,.new y,[],_,J1 _,E.jK y .nil,T⟩,?_⟩;rintro i m j ⟨rfl,hi,f,c,k,U,r,o⟩;by_cases a:i<I.n
 ·refine .inr ⟨x.go i j k a f r (hC _ _ _ hi o),fun v V Y=>?_⟩;obtain⟨z,Z,d,ed,rd⟩:=x.yld i j k v V a f r (hC _ _ _ hi o) Y;obtain⟨os,ow,q3⟩:=l i c d k a ed o;obtain⟨us,uv,su⟩:=pZ rd ow;have F:=kn (js:=js) (hs.mono ((D.trans f).trans z)) su;refine⟨us,uv,cδ os js δ,k,_,F,Z,q3,fun b M4 H4 A G s=>?_⟩;cases b with
  |false=>
   rw[ME Jf]at s ⊢
   obtain⟨M5,s5,w5⟩:=s
   exact⟨I.n-(i+1),by omega,rfl,a,(f.trans z).trans A,c,M5,by omega,G.sub s5,w5⟩
  |true=>
   rw[MF rfl]at s ⊢
   refine⟨cδ os js δ,M4,_,F.mono A,G,s,fun e M' u H5 g5 r5 L g=>?_⟩
   obtain⟨M6,N,e6,w6⟩:=g
   obtain⟨zs,B,O⟩:=(L.sub N) _ _ e6
   refine⟨zs,B,?_,I.n-(i+1),by omega,rfl,a,(((f.trans z).trans A).trans g5).trans (.lst B),c++[e],_,by simp;omega,(L.sub N).xJ B (O.append (.cons r5 .nil)),w6⟩
   rw[<-O.length]
   exact Nat.lt_of_le_of_lt U (Ju a (Ke S (by decide)))
 ·obtain rfl:i=I.n:=by omega
  exact .inl ⟨x.stop j k f r (hC _ _ _ hi o),t _ _ _ _ (D.trans f) (by rw[Rep]) r (done c k o)⟩
variable{xs:List Str}{tg:Expr}{pos:Pos}{js:List Nat}{scope:LR}{elt iter:Expr}{ifs:List Expr}{te:TD}{tc:Nj}{g:TG}{tk:Po}{wd:O3}
def DTs(X:Cx)(ifs:List Expr)(t:Nj):Prop:=R8 X ifs (liftT X.K t)
theorem ff:DTs X [] jQ:=fun MP s σ H Q I a=>by obtain⟨δ,M,R,hs,c,q,b⟩:=a;exact(Ai MP s σ H Q I (b _ _ _ .refl c q))
theorem ua{c:Expr}{t:Nj}(h:DT X c t):DTs X [c] t:=Aw h
theorem uF(c:NM X xs js scope)(a:X.calm=MC)(hi:DI X tg iter wd)(b:OW xs.length g (pL X.K tk))(d:∀C s H fp,PG (NU X xs js scope C s H fp) tg g)(e:∀C s H fp,DTs (NU X xs js scope C s H fp) ifs tc)(he:∀C s H fp,DE (NU X xs js scope C s H fp) elt te) (hs:∀x,JH iter X.env x=pure x:=by intro _;rfl):DE X (.ListComp elt [⟨tg,iter,ifs,0⟩] scope pos) (jf wd tk js tc te):=a9 (AI (te:=lift X.K te) (tc:=liftT X.K tc) c a hi b d e he hs) fun _ _ _ h=>nP h
theorem Bc(i:Nat){y:Str}{h b:Pos}(k:X.N.Nodup)(c:NM X xs js scope)(l:X.calm=MC)(hi:DI X tg iter wd)(m:OW xs.length g (pL X.K tk))(n:∀C s H fp,PG (NU X xs js scope C s H fp) tg g)(o:∀C s H fp,DTs (NU X xs js scope C s H fp) ifs tc)(he:∀C s H fp,DE (NU X xs js scope C s H fp) elt te) (p:X.N[i]?=MA y:=by rfl) (r:X.env.scope.names.lookup y=MA .local:=by rfl) (f:LL (.ListComp elt [⟨tg,iter,ifs,0⟩] scope pos) (MA (.Name y h)) b.line X.env=pure MC:=by rfl) (hs:∀x,JH iter X.env x=pure x:=by intro _;rfl) : DSt X (.Assign [.Name y h] (.ListComp elt [⟨tg,iter,ifs,0⟩] scope pos) b) (fG (jf wd tk js tc te) (aZ i)):=cI (Bl (te:=lift X.K te) (tc:=liftT X.K tc) c l k hi m n o he p r f hs) fun E σ H e=>by obtain⟨δ,M,hs,a,B,ok,q⟩:=e;exact(nP ⟨δ,M,_,hs,a,q,fun d z v H1 j t u w=>ok.nx _ _ _ _ j ((hs.mono j).set t i) u w⟩)
theorem comp_map{I:Qt}{tk:Po}{js:List Nat}{te:TD}{δ:DS}{b:MH}{Q:DK}(f:Nat->D)(j:I.n<=1000000)(hC:∀p a,b p=MB->I.C (aC b p (.lst a))) (h:∀i d M,i<I.n->I.item i=MA d->Sub b M->∃os,zi tk d os/\∀K:DK,(∀c,Sub M c->K (f i) c)->te (cδ os js δ) M K) (l:∀p,b p=MB->Q (.ref p) (aC b p (.lst ((J6 I.n).map f)))):xS I tk js jQ te δ b Q:=by
 refine⟨j,fun p e=>⟨fun i a M=>a=(J6 i).map f/\M=aC b p (.lst a),⟨rfl,rfl⟩,?_,?_,?_⟩⟩
 ·rintro i a M _ ⟨_,rfl⟩;exact hC p a e
 ·rintro i a d M hi hd ⟨rfl,rfl⟩;obtain⟨os,m,k⟩:=h i d _ hi hd (.new e .refl);refine⟨os,m,?_⟩;unfold jQ;refine BF (k _ ?_);exact fun c o=>⟨_,o,ag,by rw[KW,Jk];rfl,by rw[bL]⟩
 ·rintro a M ⟨rfl,rfl⟩;exact l p e
end
def Gg(X:Cx)(xs:List Str)(js:List Nat)(scope:LR):Bool:=
 scope.kind==.function&&scope.names.all (fun y=>(y.2 != .cell||xs.contains y.1)&&(y.2 != .free||!xs.contains y.1))&&scope.names.all (fun y=>y.2 != .local||scope.names.lookup y.1==MA .local)&&xs.all (fun x=>scope.names.lookup x==MA .local||scope.names.lookup x==MA .cell) &&
  scope.names.all (fun y=>y.2 != .free||(X.env.kindOf y.1==MA .cell||X.env.kindOf y.1==MA .free))&&decide (cN X xs js).Nodup&&js.all (fun j=>scope.names.lookup ((X.N[j]?).getD ("":Str)) != MA .local)
theorem NM.of{X:Cx}{xs:List Str}{js:List Nat}{scope:LR}(h:Gg X xs js scope=MC):NM X xs js scope:=by
 unfold Gg at h;simp only[JV]at h;obtain⟨⟨⟨⟨⟨⟨d,c⟩,e⟩,f⟩,g⟩,i⟩,k⟩:=h;refine⟨by simpa using d,fun y a l=>?_,fun y a b=>?_,fun y a m=>?_,fun x n=>?_,fun y a b=>?_,MJ i,fun j o=>?_⟩
 ·have:=Li.mp c y a;rw[l]at this;simpa using this
 ·have:=Li.mp c y a;rw[b]at this;simpa using this
 ·have:=Li.mp e y a;rw[m]at this;simpa using this
 ·have:=Li.mp f x n;simpa using this
 ·have:=Li.mp g y a;rw[b]at this;simpa using this
 ·have:=Li.mp k j o;simpa using this
abbrev SA:=DS->MH->(Option Int->MH->Prop)->Prop
def uB(K:IW)(t:SA):TO:=fun σ H Q=>∃δ M R,Slots K H δ σ/\NW K H M/\t δ M R/\∀o b a,NN K H a->NW K a b->R o b->Q o a
def xp:SA:=fun _ M Q=>Q MB M
def zj(t:TD):SA:=fun δ M Q=>t δ M fun x a=>∃i,x=.int i/\Q (MA i) a
def cutD(xs:List D)(lo hi:Option Int):List D:=(xs.drop (HT.sIx xs.length 0 lo)).take (HT.sIx xs.length xs.length hi-HT.sIx xs.length 0 lo)
def GD:D->Option Int->Option Int->MH->DK->Prop:=fun x lo hi M Q=>match x with
 |.ref a=>∃b,M a=MA (.lst b)/\∀p,M p=MB->Q (.ref p) (aC M p (.lst (cutD b lo hi)))
 |.rol b=>∀p,M p=MB->Q (.ref p) (aC M p (.lst (cutD b lo hi)))
 |.tup b=>¬(HT.sIx b.length 0 lo=0/\HT.sIx b.length b.length hi=b.length)/\Q (.tup (cutD b lo hi)) M
 |_=>False
def HQ(te:TD)(a b:SA):TD:=fun δ M Q=>te δ M fun x c=>a δ c fun l d=>b δ d fun u e=>GD x l u e Q
theorem aK.cut{K:IW}{H:Hp}{a:List D}{xs:List V}(h:aK K H a xs)(lo hi:Option Int):aK K H (cutD a lo hi) (pF xs lo hi):=by unfold cutD pF;rw[h.length];exact(h.drop _).take _
section
variable{X:Cx}{e a:Expr}{te:TD}{tl th:SA}{lo hi:Option Expr}{pos p2:Pos}
theorem yt{e:Option Expr}{t t':TO}(h:PO X e t)(k:∀σ H Q,t' σ H Q->t σ H Q):PO X e t':=fun MP s σ H Q I q=>h MP s σ H Q I (k _ _ _ q)
theorem uV:PO X MB (uB X.K xp):=yt Bh fun σ H Q b=>by obtain⟨δ,M,R,hs,a,q,c⟩:=b;exact(c _ _ _ .refl a q)
theorem oD(h:DE X e te):PO X (MA e) (uB X.K (zj te)):=yt (AS h) fun σ H Q b=>by obtain⟨δ,M,R,hs,a,q,c⟩:=b;exact(⟨δ,M,_,hs,a,q,fun d n v H1 g f j k=>by
 obtain⟨i,l,m⟩:=k
 subst l
 rw[Rep]at f
 exact⟨i,f,c _ _ _ g j m⟩⟩)
theorem pU(he:DE X a te)(p:PO X lo (uB X.K tl))(r:PO X hi (uB X.K th)):DE X (.Subscript a (.Slice lo hi MB p2) pos) (HQ te tl th):=
 a9 (x9 (BN.or D7) he p r) fun σ H Q f=>by obtain⟨δ,M,R,hs,a,q,g⟩:=f;exact(⟨δ,M,_,hs,a,q,fun x s v H1 m t w y=>⟨δ,s,_,hs.mono m,w,y,fun l A E n B C=>⟨δ,A,_,hs.mono (m.trans n),B,C,fun u F I o h d=>by
  have G:=(m.trans n).trans o
  have j:=t.mono (n.trans o)
  unfold GD at d
  split at d
  ·obtain⟨J,e3,d⟩:=d
   obtain rfl:v=.ref _:=j
   obtain⟨xs,k,i⟩:=h _ _ e3
   exact .inl ⟨_,xs,rfl,NZ.of k,fun z c=>g _ _ _ _ (G.trans (.new c)) (by rw[Rep]) (h.jK c (i.cut _ _)) (d z (h.fresh c))⟩
  ·rw[Rep]at j
   obtain⟨b,xs,rfl,k,i⟩:=j
   exact .inl ⟨_,xs,rfl,k.sql,fun z c=>g _ _ _ _ (G.trans (.new c)) (by rw[Rep]) (h.jK c (i.cut _ _)) (d z (h.fresh c))⟩
  ·obtain⟨D,d⟩:=d
   rw[Rep]at j
   obtain⟨b,xs,rfl,k,i⟩:=j
   exact .inr ⟨_,xs,rfl,k,by rw[<-i.length];exact D,fun z c=>g _ _ _ _ (G.trans (.new c)) (by rw[Rep];exact⟨z,_,rfl,N1.of aW,(i.cut _ _).mono (.new c)⟩) (h.new c) d⟩
  ·exact d.elim⟩⟩⟩)
end
section
variable{X:Cx}{x y z:Str}{px py pz pt pos:Pos}{kt:Nat}{js:List Nat}{scope:LR}{elt iter:Expr}{ifs:List Expr}{te:TD}{tc:Nj}{wd:O3}{xs:List Str}
theorem iB(c:NM X xs js scope)(i:Nat)(a:xs[i]?=MA x){C:Addr}{s:IY}{H:Hp}{fp:List Addr}:PG (NU X xs js scope C s H fp) (.Name x px) (gc i):=by
 have hi:i<xs.length:=(Ja.mp a).1;have b:=J9 a
 have d:Loc (NU X xs js scope C s H fp).env.scope x:=by
  rcases c.own x b with z|z
  ·exact .inl (fR (by decide) z)
  ·exact .inr (fR (by decide) z)
 refine u7 (i:=i) c.nd ?_ d (.inl (by show xs.contains x=MC;simpa using b));show(xs++js.map fun j=>(X.N[j]?).getD ("":Str))[i]?=MA x;rw[JO hi];exact a
theorem BB(c:NM X [x,y] js scope)(a:X.calm=MC){C:Addr}{s:IY}{H:Hp}{fp:List Addr}:PG (NU X [x,y] js scope C s H fp) (.Tuple [.Name x px,.Name y py] kt pt) (Ez X.K 2 (pY (gc 0) (pY (gc 1) EM))):=xC (X:=NU X [x,y] js scope C s H fp) a (l6 (iB c 0 rfl) (l6 (iB c 1 rfl) vd)) rfl rfl
theorem iJ(c:NM X [x] js scope)(a:X.calm=MC)(hi:DI X (.Name x px) iter wd)(b:∀C s H fp,DTs (NU X [x] js scope C s H fp) ifs tc)(he:∀C s H fp,DE (NU X [x] js scope C s H fp) elt te) (hs:∀x,JH iter X.env x=pure x:=by intro _;rfl):DE X (.ListComp elt [⟨.Name x px,iter,ifs,0⟩] scope pos) (jf wd .one js tc te):=uF c a hi rY (fun _ _ _ _=>iB c 0 rfl) b he hs
theorem xB(c:NM X [x,y] js scope)(a:X.calm=MC)(hi:DI X (.Tuple [.Name x px,.Name y py] kt pt) iter wd)(b:∀C s H fp,DTs (NU X [x,y] js scope C s H fp) ifs tc)(he:∀C s H fp,DE (NU X [x,y] js scope C s H fp) elt te) (hs:∀x,JH iter X.env x=pure x:=by intro _;rfl):DE X (.ListComp elt [⟨.Tuple [.Name x px,.Name y py] kt pt,iter,ifs,0⟩] scope pos) (jf wd (.many 2) js tc te):=uF c a hi El (fun _ _ _ _=>BB c a) b he hs
theorem iH(i:Nat){v:Str}{d a:Pos}(e:X.N.Nodup)(c:NM X [x] js scope)(f:X.calm=MC)(hi:DI X (.Name x px) iter wd)(g:∀C s H fp,DTs (NU X [x] js scope C s H fp) ifs tc)(he:∀C s H fp,DE (NU X [x] js scope C s H fp) elt te) (h:X.N[i]?=MA v:=by rfl) (j:X.env.scope.names.lookup v=MA .local:=by rfl) (b:LL (.ListComp elt [⟨.Name x px,iter,ifs,0⟩] scope pos) (MA (.Name v d)) a.line X.env=pure MC:=by rfl) (hs:∀x,JH iter X.env x=pure x:=by intro _;rfl) : DSt X (.Assign [.Name v d] (.ListComp elt [⟨.Name x px,iter,ifs,0⟩] scope pos) a) (fG (jf wd .one js tc te) (aZ i)):=Bc i e c f hi rY (fun _ _ _ _=>iB c 0 rfl) g he h j b hs
end
section
variable{prog:Jl}{w:JL}{A:JQ}{E:I0->IY->Prop}{s:IY}
theorem yF{N L:String}{op:CmpOp}{a b:I0}{c:Bool}{Q:I0->IY->Prop}(n:(N="max"/\L="max.loop"/\op=.Gt)\/(N="min"/\L="min.loop"/\op=.Lt))(hh:A.handled=MB)
 (P:∀(t:IY) (Z:I0->IY->Prop) (E':I0->IY->Prop),(∀x o,s.heap.get? x=MA o->t.heap.get? x=MA o)->Z (.bool c) t->J7 (Jg prog w) A.in1 (richCompare op b a) Z E' t)
 (h:∀h' tk,(∀x o,s.heap.get? x=MA o->h'.get? x=MA o)->Q (if c=MC then b else a) { s with heap:=h',toks:=tk }) :
 J7 (Jg prog w) A (call (.builtin N) [a,b]) Q E s:=by
 rcases n with⟨rfl,O,rfl⟩|⟨rfl,O,rfl⟩
 have C:(toString "max"++toString ".loop":String)=L:=by rw[O];decide
 have pl:=F.plain_max_loop
 have D:=F.entry_max_loop
 refine call_function_tree F.kind_max F.plain_max F.entry_max (F.args_max2 _ _) ?_
 rotate_left
 have C:(toString "min"++toString ".loop":String)=L:=by rw[O];decide
 have pl:=F.plain_min_loop
 have D:=F.entry_min_loop
 refine call_function_tree F.kind_min F.plain_min F.entry_min (F.args_min2 _ _) ?_
 all_goals
  rw[<-O]at pl D
  show J7 _ A.in1 (Builtin.Builtins.bindParams _ ["key","default"] 0 ⟨[],[]⟩ >>= fun _=>_) _ _ s
  refine cc (wpAny_of_eq (a:=[MB,MB]) rfl ?_)
  show J7 _ A.in1 (newTuple [a,b] >>= fun _=>_) _ _ s
  refine cc (JG ?_)
  generalize e1:s.heap.push { cls:=.type "tuple",dict:=MB,data:=.seq ([a,b]:List I0).toArray }=j
  have k1:∀x o,s.heap.get? x=MA o->j.get? x=MA o:=fun x o q=>by rw[<-e1];exact J3 _ q
  have hT:j.IsTuple s.heap.objs.size #[a,b]:=by rw[<-e1];exact⟨_,J8 _ rfl,rfl,0,rfl⟩
  have z1:j.objs.size=s.heap.objs.size+1:=by rw[<-e1,KH]
  refine cc (wpAny_pyIter_tuple (s:={ s with heap:=j }) hT ?_)
  refine cc (JG ?_)
  dsimp only
  generalize eI:j.objs.size=I
  generalize e2:j.push _=y
  have k2:∀x o,j.get? x=MA o->y.get? x=MA o:=fun x o q=>by rw[<-e2];exact J3 _ q
  have hI:y.IsTupleIter I s.heap.objs.size 0:=by rw[<-e2,<-eI];exact⟨_,J8 _ rfl,rfl,rfl⟩
  have z2:y.objs.size=I+1:=by rw[<-e2,KH,eI]
  generalize eS:y.objs.size=S
  generalize e3:y.push _=k
  have R:∀x o,y.get? x=MA o->k.get? x=MA o:=fun x o q=>by rw[<-e3];exact J3 _ q
  have hS:k.get? S=MA { cls:=.type "list",dict:=MB,data:=.seq #[] 0,slots:=#[] }:=by rw[<-e3,<-eS];exact J8 _ rfl
  have G:S≠I:=by omega
  have g:∀x o,s.heap.get? x=MA o->x≠I/\x≠S:=fun x o q=>⟨JK (Ju (Jc q) (by omega)),JK (Ju (Jc q) (by omega))⟩
  have H:k.IsTuple s.heap.objs.size #[a,b]:=by
   obtain⟨o,q,r⟩:=hT
   exact⟨o,R _ _ (k2 _ _ q),r⟩
  have T:k.IsTupleIter I s.heap.objs.size 0:=hI.at fun o q=>R _ _ q
  have TI:s.heap.objs.size≠I:=by omega
  have TS:s.heap.objs.size≠S:=by omega
  have l:∀x o,s.heap.get? x=MA o->k.get? x=MA o:=fun x o q=>R _ _ (k2 _ _ (k1 _ _ q))
  rw[C]
  refine IX ⟨plainId_quiet pl _,?_⟩
  have f:∀(t:IY) (v:I0) (n:Nat),t.heap.IsTupleIter I s.heap.objs.size 2->t.heap.IsTuple s.heap.objs.size #[a,b]->t.heap.get? S=MA { cls:=.type "list",dict:=MB,data:=.seq #[v,v] n,slots:=#[] }->
   (∃h' tk,t={ s with heap:=h',toks:=tk }/\∀x o,s.heap.get? x=MA o->h'.get? x=MA o)->v=(if c=MC then b else a)->Ll (Jg prog w) A (.builtin L ⟨[.ref I,.none,.ref S],[]⟩) (fun r s'=>match r with|.ok (.ret v)=>Q v s'|.ok _=>False|.error e=>E e s') t:=by
   rintro t v n i2 tT lS ⟨h',tk,rfl,kt⟩ ev
   refine KY D ?_
   rw[Lq pl _]
   show J7 _ A.in1 (seqItems? (.ref S) >>= fun _=>_) _ _ _
   refine cc (wpAny_seqItems lS rfl ?_)
   show J7 _ A.in1 (tryCatch (Mu (.ref I)) _ >>= fun _=>_) _ _ _
   refine cc (wpAny_tryCatch (wpAny_pyNext_tuple_end (A:=A.in1) hh i2 tT (by simp) fun z B=>?_))
   have U:z.get? S=MA _:=B _ _ G lS
   show J7 _ A.in1 (updateSeq S (fun _=>#[]) >>= fun _=>_) _ _ _
   refine cc (wpAny_updateSeq U rfl (cc (wpAny_letGo (IX ?_))))
   show Q v _
   rw[ev]
   exact h _ _ fun x o q=>(KL _ _ (g x o q).2.symm).trans (B x o (g x o q).1 (kt x o q))
  refine KY D ?_
  rw[Lq pl _]
  show J7 _ A.in1 (seqItems? (.ref S) >>= fun _=>_) _ _ _
  refine cc (wpAny_seqItems (s:={ s with heap:=k }) hS rfl ?_)
  show J7 _ A.in1 (tryCatch (Mu (.ref I)) _ >>= fun _=>_) _ _ _
  refine cc (wpAny_tryCatch (wpAny_pyNext_tuple_item (s:={ s with heap:=k }) T H (x:=a) (by simp) fun z i4 B=>?_))
  have J:z.get? S=MA _:=(B.2 _ G).trans hS
  have V:z.IsTuple s.heap.objs.size #[a,b]:=by
   obtain⟨o,q,r⟩:=H
   exact⟨o,(B.2 _ TI).trans q,r⟩
  show J7 _ A.in1 (updateSeq S (fun _=>#[a,a]) >>= fun _=>_) _ _ _
  refine cc (wpAny_updateSeq J rfl ?_)
  rw[C]
  refine IX ⟨plainId_quiet pl _,?_⟩
  generalize e5:z.update S _=m
  have W:∀x,x≠S->m.get? x=z.get? x:=fun x q=>by rw[<-e5];exact KL _ _ q.symm
  have i:∃n,m.get? S=MA { cls:=.type "list",dict:=MB,data:=.seq #[a,a] n,slots:=#[] }:=⟨_,by rw[<-e5];exact Kx _ J rfl⟩
  obtain⟨n5,i⟩:=i
  have i5:m.IsTupleIter I s.heap.objs.size 1:=i4.at fun o q=>(W _ G.symm).trans q
  have K:m.IsTuple s.heap.objs.size #[a,b]:=by
   obtain⟨o,q,r⟩:=V
   exact⟨o,(W _ TS).trans q,r⟩
  have p:∀x o,s.heap.get? x=MA o->m.get? x=MA o:=fun x o q=>(W _ (g x o q).2).trans ((B.2 _ (g x o q).1).trans (l x o q))
  refine KY D ?_
  rw[Lq pl _]
  show J7 _ A.in1 (seqItems? (.ref S) >>= fun _=>_) _ _ _
  refine cc (wpAny_seqItems (s:={ s with heap:=m }) i rfl ?_)
  show J7 _ A.in1 (tryCatch (Mu (.ref I)) _ >>= fun _=>_) _ _ _
  refine cc (wpAny_tryCatch (wpAny_pyNext_tuple_item (s:={ s with heap:=m }) i5 K (x:=b) (by simp) fun X i6 Y=>?_))
  have u:X.get? S=MA _:=(Y.2 _ G).trans i
  have M:X.IsTuple s.heap.objs.size #[a,b]:=by
   obtain⟨o,q,r⟩:=K
   exact⟨o,(Y.2 _ TI).trans q,r⟩
  have d:∀x o,s.heap.get? x=MA o->X.get? x=MA o:=fun x o q=>(Y.2 _ (g x o q).1).trans (p x o q)
  show J7 _ A.in1 (tryCatch (holding [b,b] (richCompare _ b a >>= fun _=>_)) _ >>= fun _=>_) _ _ _
  refine cc (wpAny_tryCatch (K9 (cc (P _ _ _ d ?_))))
  refine cc (K9 (Kz ?_))
  refine cc (wpAny_letGo (IX ?_))
  cases c with
  |true=>
   simp only[if_true]at f ⊢
   refine cc (wpAny_updateSeq u rfl (cc (wpAny_letGo ?_)))
   rw[C]
   refine IX ⟨plainId_quiet pl _,f _ b _ (i6.at fun o q=>(KL _ _ G).trans q) ?_ (Kx _ u rfl) ⟨_,_,rfl,fun x o q=>(KL _ _ (g x o q).2.symm).trans (d x o q)⟩ rfl⟩
   obtain⟨o,q,r⟩:=M
   exact⟨o,(KL _ _ TS.symm).trans q,r⟩
  |false=>
   simp only[JS,if_false]at f ⊢
   refine cc (wpAny_letGo ?_)
   rw[C]
   exact IX ⟨plainId_quiet pl _,f _ a _ i6 M u ⟨_,_,rfl,d⟩ rfl⟩
end
end SD
namespace HT
open PySem PyProof.Rows
def lexLe:List Int->List Int->Bool
 |[],[]=>MC
 |[],_::_=>MC
 |_::_,[]=>MD
 |x::xs,y::ys=>if x=y then lexLe xs ys else decide (x<=y)
theorem rG(x y:Int)(xs a:List Int):lexLe (x::xs) (y::a)=if x=y then lexLe xs a else decide (x<=y):=rfl
theorem mJ:lexLe [] []=MC:=rfl
theorem lI(y:Int)(a:List Int):lexLe [] (y::a)=MC:=rfl
theorem lU(x:Int)(xs:List Int):lexLe (x::xs) []=MD:=rfl
theorem yh(A:JQ)(s:IY)(a:Int)(t:Tok)(c:Int)(u:Tok)(prog:Jl)(w:JL)(E:I0->IY->Prop)(Q:I0->IY->Prop)(h:Q (.bool (decide (a<=c))) s) : J7 (Jg prog w) A (richCompare .LtE (.int a t) (.int c u)) Q E s:=(PyProof.Rows.le_int h:J7 (Jg prog w) A (JN .LtE (.int a t) (.int c u)) Q E s)
section
open PySem.SeqAt
open PySem.AutoSeq1 (wpAny_loadPart')
open PySem.MeetsSeq PySem.MeetsSeq2 PySem.MeetsSeq3
theorem mR(l b:Addr)(items f:Array I0)(n O:Nat)(P H:Option Addr)(Q I:Array (Option I0))(ns ms:List Int)(hi:KG items.toList ns)(M:KG f.toList ms) :
 Meets (Ls.«tuple.__le__» ⟨[.ref l,.ref b],[]⟩)
  (fun _ R s=>s.heap.get? l=MA { cls:=.type "tuple",dict:=P,data:=.seq items n,slots:=Q }/\s.heap.get? b=MA { cls:=.type "tuple",dict:=H,data:=.seq f O,slots:=I }/\
   R (.ok (.ret (.bool (lexLe ns ms)))) s):=
 .of_wp fun prog w A R s h=>by
  obtain⟨F,g,d,G,os⟩:=s;obtain⟨S,T,h⟩:=h
  have Y:=AutoSeq1.sub_tuple_tuple
  have Z:items.size=ns.length:=by rw[<-hi.length];simp
  have z2:f.size=ms.length:=by rw[<-M.length];simp
  wp_walk using KI S,KI T,wpAny_forIn_list _ (fun p b J=>b.1=MB/\J=⟨F,g,d,G,os⟩/\∃(vs ws:List I0) (j k:List Int),p=vs.zip ws/\
   KG vs j/\KG ws k/\j.length+f.size=k.length+items.size/\R (.ok (.ret (.bool (lexLe j k)))) ⟨F,g,d,G,os⟩) _
  case turn=>
   rintro⟨y,x⟩ p b J ⟨z,rfl,vs,ws,j,k,m,B,o,i,r⟩
   cases B with
   |nil=>rw[List.zip_nil_left]at m;cases m
   |cons a t D=>
    cases o with
    |nil=>rw[List.zip_nil_right]at m;cases m
    |cons c u E=>
     rw[LS]at m
     injection m with K C
     injection K with U V
     subst U V
     rw[rG]at r
     simp only[Jr]at i
     obtain⟨e,W,v⟩:=lY A.in1 ⟨F,g,d,G,os⟩ a t c u
     refine cc (W prog w _ _ ?_)
     cases e with
     |true=>
      rw[MF (v.mp rfl)]at r
      wp_walk
      exact⟨rfl,rfl,_,_,_,_,C,D,E,by omega,r⟩
     |false=>
      rw[ME (fun q=>absurd (v.mpr q) Jf)]at r
      have L:=yh A.in1 ⟨F,g,d,G,os⟩ a t c u prog w
      wp_walk using L
      exact⟨_,rfl,by simpa using r⟩
  case fin=>
   rintro⟨b1,b2⟩ J ⟨z,rfl,vs,ws,j,k,m,B,o,i,r⟩
   simp only at z
   subst z
   have N:lexLe j k=decide (items.size<=f.size):=by
    cases B with
    |nil=>
     cases o with
     |nil=>
      simp only[Km]at i
      rw[mJ]
      exact(MI (by omega)).symm
     |cons c u X=>
      simp only[Km,Jr]at i
      rw[lI]
      exact(MI (by omega)).symm
    |cons a t N=>
     cases o with
     |nil=>
      simp only[Km,Jr]at i
      rw[lU]
      exact(MG (by omega)).symm
     |cons c u X=>
      rw[LS]at m
      cases m
   rw[N]at r
   wp_walk
   exact⟨_,rfl,by simpa[Builtin.Tuple.tupleCompareSizes]using r⟩
  case h=>
   exact⟨rfl,rfl,items.toList,f.toList,ns,ms,rfl,hi,M,by omega,h⟩
end
section
variable{prog:Jl}{w:JL}{A:JQ}{E:I0->IY->Prop}{s:IY}
theorem sG{l b:Addr}{items a:Array I0}{ns ms:List Int}{Q:I0->IY->Prop}(o:IsTup s.heap l items)(p:IsTup s.heap b a)(hi:KG items.toList ns)(q:KG a.toList ms) (r:A.units<Kf) (h:Q (.bool (lexLe ns ms)) s):J7 (Jg prog w) A (JN .LtE (.ref l) (.ref b)) Q E s:=by obtain⟨⟨cls,t,data,u⟩,j,k,n,hd⟩:=id o;obtain⟨⟨m,f,g,i⟩,c,d,v,e⟩:=id p;simp only at k hd d e;subst k hd d e;exact richCompare_meets_room (op:=.LtE) ⟨_,j,rfl⟩ ⟨_,c,rfl⟩ PySem.F.slot_tuple_le PySem.F.entry_tuple_le (PySem.F.args_tuple_le_2 _ _) (mR l b items a n v t f u i ns ms hi q) ⟨j,c,show Value.bool (lexLe ns ms)≠Value.notImplemented/\Q (.bool (lexLe ns ms)) s from⟨(fun x=>nomatch x),h⟩⟩ r
end
def bZ:List Int->List Int->Bool
 |[],[]=>MD
 |[],_::_=>MD
 |_::_,[]=>MC
 |x::xs,y::ys=>if x=y then bZ xs ys else decide (y<x)
theorem rC(x y:Int)(xs a:List Int):bZ (x::xs) (y::a)=if x=y then bZ xs a else decide (y<x):=rfl
theorem mW:bZ [] []=MD:=rfl
theorem kH(y:Int)(a:List Int):bZ [] (y::a)=MD:=rfl
theorem k9(x:Int)(xs:List Int):bZ (x::xs) []=MC:=rfl
theorem zH(A:JQ)(s:IY)(a:Int)(t:Tok)(c:Int)(u:Tok)(prog:Jl)(w:JL)(E:I0->IY->Prop)(Q:I0->IY->Prop)(h:Q (.bool (decide (c<a))) s) : J7 (Jg prog w) A (richCompare .Gt (.int a t) (.int c u)) Q E s:=(PyProof.Rows.gt_int h:J7 (Jg prog w) A (JN .Gt (.int a t) (.int c u)) Q E s)
section
open PySem.SeqAt
open PySem.AutoSeq1 (wpAny_loadPart')
open PySem.MeetsSeq PySem.MeetsSeq2 PySem.MeetsSeq3
theorem mP(l b:Addr)(items f:Array I0)(n O:Nat)(P H:Option Addr)(Q I:Array (Option I0))(ns ms:List Int)(hi:KG items.toList ns)(M:KG f.toList ms) :
 Meets (Ls.«tuple.__gt__» ⟨[.ref l,.ref b],[]⟩)
  (fun _ R s=>s.heap.get? l=MA { cls:=.type "tuple",dict:=P,data:=.seq items n,slots:=Q }/\s.heap.get? b=MA { cls:=.type "tuple",dict:=H,data:=.seq f O,slots:=I }/\
   R (.ok (.ret (.bool (bZ ns ms)))) s):=
 .of_wp fun prog w A R s h=>by
  obtain⟨F,g,d,G,os⟩:=s;obtain⟨S,T,h⟩:=h
  have Y:=AutoSeq1.sub_tuple_tuple
  have Z:items.size=ns.length:=by rw[<-hi.length];simp
  have z2:f.size=ms.length:=by rw[<-M.length];simp
  wp_walk using KI S,KI T,wpAny_forIn_list _ (fun p b J=>b.1=MB/\J=⟨F,g,d,G,os⟩/\∃(vs ws:List I0) (j k:List Int),p=vs.zip ws/\
   KG vs j/\KG ws k/\j.length+f.size=k.length+items.size/\R (.ok (.ret (.bool (bZ j k)))) ⟨F,g,d,G,os⟩) _
  case turn=>
   rintro⟨y,x⟩ p b J ⟨z,rfl,vs,ws,j,k,m,B,o,i,r⟩
   cases B with
   |nil=>rw[List.zip_nil_left]at m;cases m
   |cons a t D=>
    cases o with
    |nil=>rw[List.zip_nil_right]at m;cases m
    |cons c u E=>
     rw[LS]at m
     injection m with K C
     injection K with U V
     subst U V
     rw[rC]at r
     simp only[Jr]at i
     obtain⟨e,W,v⟩:=lY A.in1 ⟨F,g,d,G,os⟩ a t c u
     refine cc (W prog w _ _ ?_)
     cases e with
     |true=>
      rw[MF (v.mp rfl)]at r
      wp_walk
      exact⟨rfl,rfl,_,_,_,_,C,D,E,by omega,r⟩
     |false=>
      rw[ME (fun q=>absurd (v.mpr q) Jf)]at r
      have L:=zH A.in1 ⟨F,g,d,G,os⟩ a t c u prog w
      wp_walk using L
      exact⟨_,rfl,by simpa using r⟩
  case fin=>
   rintro⟨b1,b2⟩ J ⟨z,rfl,vs,ws,j,k,m,B,o,i,r⟩
   simp only at z
   subst z
   have N:bZ j k=decide (items.size>f.size):=by
    cases B with
    |nil=>
     cases o with
     |nil=>
      simp only[Km]at i
      rw[mW]
      exact(MG (by omega)).symm
     |cons c u X=>
      simp only[Km,Jr]at i
      rw[kH]
      exact(MG (by omega)).symm
    |cons a t N=>
     cases o with
     |nil=>
      simp only[Km,Jr]at i
      rw[k9]
      exact(MI (by omega)).symm
     |cons c u X=>
      rw[LS]at m
      cases m
   rw[N]at r
   wp_walk
   exact⟨_,rfl,by simpa[Builtin.Tuple.tupleCompareSizes]using r⟩
  case h=>
   exact⟨rfl,rfl,items.toList,f.toList,ns,ms,rfl,hi,M,by omega,h⟩
end
section
variable{prog:Jl}{w:JL}{A:JQ}{E:I0->IY->Prop}{s:IY}
theorem lT{l b:Addr}{items a:Array I0}{ns ms:List Int}{Q:I0->IY->Prop}(o:IsTup s.heap l items)(p:IsTup s.heap b a)(hi:KG items.toList ns)(q:KG a.toList ms) (r:A.units<Kf) (h:Q (.bool (bZ ns ms)) s):J7 (Jg prog w) A (JN .Gt (.ref l) (.ref b)) Q E s:=by obtain⟨⟨cls,t,data,u⟩,j,k,n,hd⟩:=id o;obtain⟨⟨m,f,g,i⟩,c,d,v,e⟩:=id p;simp only at k hd d e;subst k hd d e;exact richCompare_meets_room (op:=.Gt) ⟨_,j,rfl⟩ ⟨_,c,rfl⟩ PySem.F.slot_tuple_gt PySem.F.entry_tuple_gt (PySem.F.args_tuple_gt_2 _ _) (mP l b items a n v t f u i ns ms hi q) ⟨j,c,show Value.bool (bZ ns ms)≠Value.notImplemented/\Q (.bool (bZ ns ms)) s from⟨(fun x=>nomatch x),h⟩⟩ r
end
end HT
namespace SD
open PySem PySem.Spec PyProof.Rows L2
section
variable{X:Cx}
theorem dO{K:IW}{H:Hp}:∀{ns:List Int} {xs:List V},aK K H (ns.map D.int) xs->xs=ns.map V.int
 |[],xs,h=>by rw[KA,aK]at h;exact h
 |n::ns,xs,h=>by
  rw[J5,aK]at h
  obtain⟨x,r,rfl,a,b⟩:=h
  rw[Rep]at a
  rw[a,dO b];rfl
theorem Fn(d:X.A.units<Kf):Ni X (JN .LtE) (fun x y H Q=>∃a b ns ms,x=.ref a/\y=.ref b/\N1 X.K H a (ns.map V.int)/\N1 X.K H b (ms.map V.int)/\Q (.bl (HT.lexLe ns ms)) H):=by intro MP s σ H x y v u Q I e f h;obtain⟨a,b,ns,ms,rfl,rfl,g,i,q⟩:=h;cases e;cases f;obtain⟨j,k,l,_⟩:=I.tuple g;obtain⟨c,m,n,_⟩:=I.tuple i;exact HT.sG l n (intsAre_of k) (intsAre_of m) d ⟨.bl (HT.lexLe ns ms),H,I,rfl,q⟩
theorem Fq(d:X.A.units<Kf):Ni X (JN .Gt) (fun x y H Q=>∃a b ns ms,x=.ref a/\y=.ref b/\N1 X.K H a (ns.map V.int)/\N1 X.K H b (ms.map V.int)/\Q (.bl (HT.bZ ns ms)) H):=by intro MP s σ H x y v u Q I e f h;obtain⟨a,b,ns,ms,rfl,rfl,g,i,q⟩:=h;cases e;cases f;obtain⟨j,k,l,_⟩:=I.tuple g;obtain⟨c,m,n,_⟩:=I.tuple i;exact HT.lT l n (intsAre_of k) (intsAre_of m) d ⟨.bl (HT.bZ ns ms),H,I,rfl,q⟩
def pK(f:Int->Int->Bool)(g:List Int->List Int->Bool):Nv:=fun x y M Q=>match x,y with
 |.int i,.int j=>True/\Q (.bl (f i j)) M
 |.tup a,.tup b=>∃ns ms,a=KN D.int ns/\b=KN D.int ms/\Q (.bl (g ns ms)) M
 |_,_=>False
theorem xo{op:CmpOp}{f:Int->Int->Bool}{g:List Int->List Int->Bool}(m:Nw X (JN op) (Pn (fun _ _=>True) fun i j=>.bl (f i j))) (n:Ni X (JN op) (fun x y H Q=>∃a b ns ms,x=.ref a/\y=.ref b/\N1 X.K H a (ns.map V.int)/\N1 X.K H b (ms.map V.int)/\Q (.bl (g ns ms)) H)):Nw X (JN op) (pK f g):=by
 refine ip (m.or n) fun v u H Q c=>?_;obtain⟨x,y,M,R,e,h,a,q,d⟩:=c;unfold pK at q;split at q
 ·exact .inl ⟨_,_,M,R,e,h,a,q,d⟩
 ·obtain⟨ns,ms,rfl,rfl,q⟩:=q;rw[Rep]at e;obtain⟨p,xs,rfl,k,o⟩:=e;obtain⟨r,t,rfl,l,s⟩:∃a xs,u=V.ref a/\N1 X.K H a xs/\aK X.K H (KN D.int ms) xs:=by rw[Rep]at h;exact h
  rw[dO o]at k;rw[dO s]at l;exact .inr ⟨p,r,ns,ms,rfl,rfl,k,l,d _ _ _ _ .refl (by rw[Rep]) a q⟩
 ·exact q.elim
theorem gx(a:X.A.units+64<Kf):Nw X (JN .Lt) (pK (fun i j=>decide (i<j)) HT.lexLt):=xo Ft (EA (by omega))
theorem rS(a:X.A.units+64<Kf):Nw X (JN .LtE) (pK (fun i j=>decide (i<=j)) HT.lexLe):=xo FD (Fn (by omega))
theorem oZ(a:X.A.units+64<Kf):Nw X (JN .Gt) (pK (fun i j=>decide (j<i)) HT.bZ):=xo GI (Fq (by omega))
theorem wg(d:X.calm=MC)(E:X.A.units+64<Kf):bO X (.builtin "max") (fun xs H Q=>∃p q ns ms,xs=[.ref p,.ref q]/\N1 X.K H p (ns.map V.int)/\N1 X.K H q (ms.map V.int)/\Q (if HT.bZ ms ns=MC then .ref q else .ref p) H):=by
 intro MP s σ H xs us Q I r f;obtain⟨p,q,ns,ms,e,g,h,k⟩:=f;subst e;obtain⟨u,v,rfl,i,j⟩:=vals2 r;cases i;cases j;obtain⟨l,m,n,_⟩:=I.tuple g;obtain⟨b,o,w,_⟩:=I.tuple h;refine yF (.inl ⟨rfl,rfl,rfl⟩) (c:=HT.bZ ms ns) (I.ok.hd d) (fun t F G a x=>?_) fun J L a=>⟨_,H,I.kept a,?_,k⟩
 ·obtain⟨y,z,b1⟩:=n;obtain⟨B,C,D⟩:=w;exact HT.lT (A:=X.A.in1) (s:=t) ⟨B,a _ _ C,D⟩ ⟨y,a _ _ z,b1⟩ (intsAre_of o) (intsAre_of m) (by show X.A.units+1<Kf;omega) x
 ·cases HT.bZ ms ns<;>rfl
theorem wb(d:X.calm=MC)(E:X.A.units+64<Kf):bO X (.builtin "min") (fun xs H Q=>∃p q ns ms,xs=[.ref p,.ref q]/\N1 X.K H p (ns.map V.int)/\N1 X.K H q (ms.map V.int)/\Q (if HT.lexLt ms ns=MC then .ref q else .ref p) H):=by
 intro MP s σ H xs us Q I r f;obtain⟨p,q,ns,ms,e,g,h,k⟩:=f;subst e;obtain⟨u,v,rfl,i,j⟩:=vals2 r;cases i;cases j;obtain⟨l,m,n,_⟩:=I.tuple g;obtain⟨b,o,w,_⟩:=I.tuple h;refine yF (.inr ⟨rfl,rfl,rfl⟩) (c:=HT.lexLt ms ns) (I.ok.hd d) (fun t F G a x=>?_) fun J L a=>⟨_,H,I.kept a,?_,k⟩
 ·obtain⟨y,z,b1⟩:=n;obtain⟨B,C,D⟩:=w;exact HT.k5 (A:=X.A.in1) (s:=t) ⟨B,a _ _ C,D⟩ ⟨y,a _ _ z,b1⟩ (intsAre_of o) (intsAre_of m) (by show X.A.units+1<Kf;omega) x
 ·cases HT.lexLt ms ns<;>rfl
def GY:RC:=fun c M Q=>match c with
 |[.int i,.int j]=>Q (.int (max i j)) M
 |[.tup a,.tup b]=>∃ns ms,a=KN D.int ns/\b=KN D.int ms/\Q (.tup (KN D.int (if HT.bZ ms ns=MC then ms else ns))) M
 |_=>False
def G0:RC:=fun c M Q=>match c with
 |[.int i,.int j]=>Q (.int (min i j)) M
 |[.tup a,.tup b]=>∃ns ms,a=KN D.int ns/\b=KN D.int ms/\Q (.tup (KN D.int (if HT.lexLt ms ns=MC then ms else ns))) M
 |_=>False
theorem uJ(i:X.calm=MC)(s:X.A.units+64<Kf):eQ X (.builtin "max") GY:=cu (bO.or (C6 i) (wg i s)) fun vs H Q t=>by
 obtain⟨b,M,R,j,a,q,c⟩:=t;rcases b with _|⟨d,b⟩
 ·exact JB q
 cases d<;>rcases b with _|⟨e,b⟩<;>try exact JB q
 all_goals (cases e<;>rcases b with _|⟨f,b⟩<;>try exact JB q)
 ·exact .inl ⟨_,M,R,j,a,q,c⟩
 ·obtain⟨ns,ms,rfl,rfl,q⟩:=q;obtain⟨v,u,rfl,k,l⟩:=f6 j;rw[Rep]at k;obtain⟨p,xs,rfl,m,n⟩:=k;obtain⟨w,x,rfl,o,r⟩:∃a xs,u=V.ref a/\N1 X.K H a xs/\aK X.K H (KN D.int ms) xs:=by rw[Rep]at l;exact l
  have g:=m;have h:=o;rw[dO n]at g;rw[dO r]at h;refine .inr ⟨p,w,ns,ms,rfl,g,h,c _ _ _ _ .refl ?_ a q⟩;by_cases z:HT.bZ ms ns=MC
  ·rw[MF z,MF z,Rep];exact⟨_,_,rfl,o,r⟩
  ·rw[ME z,ME z,Rep];exact⟨_,_,rfl,m,n⟩
theorem uP(i:X.calm=MC)(s:X.A.units+64<Kf):eQ X (.builtin "min") G0:=cu (bO.or (Df i) (wb i s)) fun vs H Q t=>by
 obtain⟨b,M,R,j,a,q,c⟩:=t;rcases b with _|⟨d,b⟩
 ·exact JB q
 cases d<;>rcases b with _|⟨e,b⟩<;>try exact JB q
 all_goals (cases e<;>rcases b with _|⟨f,b⟩<;>try exact JB q)
 ·exact .inl ⟨_,M,R,j,a,q,c⟩
 ·obtain⟨ns,ms,rfl,rfl,q⟩:=q;obtain⟨v,u,rfl,k,l⟩:=f6 j;rw[Rep]at k;obtain⟨p,xs,rfl,m,n⟩:=k;obtain⟨w,x,rfl,o,r⟩:∃a xs,u=V.ref a/\N1 X.K H a xs/\aK X.K H (KN D.int ms) xs:=by rw[Rep]at l;exact l
  have g:=m;have h:=o;rw[dO n]at g;rw[dO r]at h;refine .inr ⟨p,w,ns,ms,rfl,g,h,c _ _ _ _ .refl ?_ a q⟩;by_cases z:HT.lexLt ms ns=MC
  ·rw[MF z,MF z,Rep];exact⟨_,_,rfl,o,r⟩
  ·rw[ME z,ME z,Rep];exact⟨_,_,rfl,m,n⟩
end
end SD
namespace Ma
open SD
theorem Bv{p z:Int}(h:0<p):0<p*z↔0<z:=by
 constructor
 ·intro q;by_cases a:0<z
  ·exact a
  ·have:p*z<=0:=Int.mul_nonpos_of_nonneg_of_nonpos (by omega) (by omega);omega
 ·exact fun q=>JE h q
theorem nE{a b c d:Int}(f:0<b)(hd:0<d):Rat.divInt a b<Rat.divInt c d↔a*d<c*b:=by
 have e:=Rat.divInt_sub_divInt c a (d₁:=d) (d₂:=b) (by omega) (by omega);have g:Rat.divInt a b<Rat.divInt c d↔0<Rat.divInt c d-Rat.divInt a b:=by constructor<;>intro z<;>grind
 rw[g,e,me (JE hd f)];omega
def ut(t b X m x:Int):Rat:=Rat.divInt (x*t+X*m) (b*m)
theorem uA{t b X m n x y:Int}(c:0<t)(a:0<b)(d:0<m)(f:0<n):ut t b X m x<ut t b X n y↔n*x<m*y:=by
 unfold ut;rw[nE (JE a d) (JE a f)];have e:(y*t+X*n)*(b*m)-(x*t+X*m)*(b*n)=(b*t)*(m*y-n*x):=by grind
 have:=Bv (z:=m*y-n*x) (JE a c);omega
theorem jW{t b X m n x y:Int}(d:0<t)(f:0<b)(g:0<m)(h:0<n):ut t b X m x=ut t b X n y↔n*x=m*y:=by
 have i:=uA (X:=X) (x:=x) (y:=y) d f g h;have j:=uA (X:=X) (x:=y) (y:=x) d f h g;constructor
 ·intro e;have a:¬ut t b X m x<ut t b X n y:=by rw[e];exact Rat.lt_irrefl
  have c:¬ut t b X n y<ut t b X m x:=by rw[e];exact Rat.lt_irrefl
  rw[i]at a;rw[j]at c;omega
 ·intro e;have a:¬ut t b X m x<ut t b X n y:=by rw[i];omega
  have c:¬ut t b X n y<ut t b X m x:=by rw[j];omega
  grind
theorem wN{t b X x:Int}:Rat.divInt (x*t+X) b=ut t b X 1 x:=by unfold ut;rw[Int.mul_one,Int.mul_one]
theorem CJ{t b X Y m n x y u v:Int}(a:0<t)(c:0<b)(d:0<m)(e:0<n) : ah (ut t b X m x) (ut t b Y m y) (ut t b X n u) (ut t b Y n v)↔HT.lexLt [n*x,n*y] [m*u,m*v]=MC:=by
 unfold ah;rw[uA a c d e,jW a c d e,uA a c d e];simp only[HT.lexLt];by_cases h:n*x=m*u
 ·rw[MF h];by_cases f:n*y=m*v
  ·rw[MF f];simp;omega
  ·rw[ME f];simp;omega
 ·rw[ME h];simp;omega
theorem vH(a b c d:Int):HT.lexLe [a,b] [c,d]=!HT.lexLt [c,d] [a,b]:=by
 simp only[HT.lexLe,HT.lexLt];by_cases h:a=c
 ·subst h;rw[MF rfl,MF rfl];by_cases f:b=d
  ·subst f;rw[MF rfl,MF rfl];rfl
  ·rw[ME f,ME (fun e=>f e.symm)];rw[<-decide_not,MK];omega
 ·rw[ME h,ME (fun e=>h e.symm),<-decide_not,MK];omega
theorem wJ(a b c d:Int):HT.bZ [a,b] [c,d]=HT.lexLt [c,d] [a,b]:=by
 simp only[HT.bZ,HT.lexLt];by_cases h:a=c
 ·subst h;rw[MF rfl,MF rfl];by_cases f:b=d
  ·subst f;simp
  ·rw[ME f,ME (fun e=>f e.symm)]
 ·rw[ME h,ME (fun e=>h e.symm)]
theorem jR{a b c d:Int}:HT.lexLt [a,b] [c,d]=MC↔a<c\/(a=c/\b<d):=by
 simp only[HT.lexLt];by_cases h:a=c
 ·subst h;rw[MF rfl];by_cases e:b=d
  ·subst e;rw[MF rfl];simp
  ·rw[ME e];simp
 ·rw[ME h];simp;omega
end Ma
open Ma renaming wll->MW,ut->MX,Bq->MY,ah->MZ,pos_int->NA,cr->NB,sgn->NC,jR->ND,jW->NF,iE->NG,spt->NH,fr->NI,den_pos->NJ,ir->NK
namespace SD
open PySem PySem.Spec PyProof.Rows L2
theorem aE{M:MH}{a p:PySem.Addr}{o:MO}(h:M a=MA o)(b:M p=MB):a≠p:=fun e=>by subst e;rw[h]at b;cases b
def Qw(t b x y:Int):D:=.tup [.int t,.int b,.int x,.int y]
structure OE(t b x y:Int):Prop where
 t0:0<t
 t1:t<=10^24
 b0:0<b
 b1:b<=10^26
 x0:-(10^30)<=x
 x1:x<=10^30
 y0:-(10^30)<=y
 y1:y<=10^30
def uw(w:Int×Int×Int×Int):D:=.tup [.tup [.int w.1,.int w.2.1],.tup [.int w.2.2.1,.int w.2.2.2]]
def NP(t b x y:Int)(w:Int×Int×Int×Int):D:=MW (MX t b x 1 w.1) (MX t b y 1 w.2.1) (MX t b x 1 w.2.2.1) (MX t b y 1 w.2.2.2)
def XX(n:Int)(w:Int×Int×Int×Int):Prop:=(-n<=w.1/\w.1<=n)/\(-n<=w.2.1/\w.2.1<=n)/\(-n<=w.2.2.1/\w.2.2.1<=n)/\(-n<=w.2.2.2/\w.2.2.2<=n)
def Rc(m:Int)(w:Int×Int×Int×Int):Int×Int×Int×Int:=(m*w.1,m*w.2.1,m*w.2.2.1,m*w.2.2.2)
theorem range_getD(l:List D):(J6 l.length).map (fun i=>(l[i]?).getD .non)=l:=by refine List.ext_getElem (by simp) fun i b a=>?_;simp[a]
theorem getD_map{b:Type}{f:b->D}{l:List b}{i:Nat}{a:b}(h:l[i]?=MA a):((l.map f)[i]?).getD .non=f a:=by rw[J4,h];rfl
theorem CF{t b x m p:Int}(h:0<t/\t<=10^24)(c:0<b/\b<=10^26)(i:-(10^30)<=x/\x<=10^30)(d:0<m/\m<=10^6)(j:-(10^6)<=p/\p<=10^6):MY 200 (MX t b x m p):=by
 have e:Bd 80 t:=by show t.natAbs<2^80;omega
 have a:Bd 64 m:=by show m.natAbs<2^64;omega
 have f:Bd 64 p:=by show p.natAbs<2^64;omega
 have g:Bd 90 b:=by show b.natAbs<2^90;omega
 have bx:Bd 100 x:=by show x.natAbs<2^100;omega
 refine Ma.Bq.divInt (by have:=JE c.1 d.1;omega) ?_ ((g.mul a).mono (by decide));exact(((f.mul e).mono (by decide:64+80<=164)).add (bx.mul a)).mono (by decide)
theorem OE.bx{t b x y m p:Int}(S:OE t b x y)(a:0<m/\m<=10^6)(c:-(10^6)<=p/\p<=10^6):MY 200 (MX t b x m p):=CF ⟨S.t0,S.t1⟩ ⟨S.b0,S.b1⟩ ⟨S.x0,S.x1⟩ a c
theorem OE.by'{t b x y m p:Int}(S:OE t b x y)(a:0<m/\m<=10^6)(c:-(10^6)<=p/\p<=10^6):MY 200 (MX t b y m p):=CF ⟨S.t0,S.t1⟩ ⟨S.b0,S.b1⟩ ⟨S.y0,S.y1⟩ a c
theorem oe(a b c d:Int):K1 (.tuple [.int a,.int b]) (.tuple [.int c,.int d])=decide (a=c/\b=d):=by simp only[K1,Kj,gK,Mr,Bool.decide_and]
open PySem PySem.Spec PyProof.Rows L2 Ma
instance(a b c d:Rat):Decidable (MZ a b c d):=inferInstanceAs (Decidable (_\/_))
def Nx(a b c d:Int):Int:=a*d-b*c
theorem DP{t b X m x:Int}(a:0<b)(c:0<m):MX t b X m x=((t:Rat)/b)*((x:Rat)/m)+(X:Rat)/b:=by
 unfold MX;rw[Mk];have d:(b:Rat)≠0:=by have:=NA a;grind
 have e:(m:Rat)≠0:=by have:=NA c;grind
 rw[Ld,JR,JR,JR];grind
theorem dq{t b X x:Int}(a:0<b):MX t b X 1 x=((t:Rat)/b)*(x:Rat)+(X:Rat)/b:=by rw[DP a (by decide)];have:((1:Int):Rat)=1:=rfl;rw[this];grind
theorem ES(k x y p q r s e f:Rat):NB (k*p+x) (k*q+y) (k*r+x) (k*s+y) (k*e+x) (k*f+y)=k*k*((r-p)*(f-q)-(s-q)*(e-p)):=by unfold NB;grind
theorem Ga{t b X Y p q r s e f:Int}(a:0<b):NB (MX t b X 1 p) (MX t b Y 1 q) (MX t b X 1 r) (MX t b Y 1 s) (MX t b X 1 e) (MX t b Y 1 f)=((t:Rat)/b)*((t:Rat)/b)*((Nx (r-p) (s-q) (e-p) (f-q):Int):Rat):=by rw[dq a,dq a,dq a,dq a,dq a,dq a,ES];unfold Nx;rw[Lz,JR,JR,Lz,Lz,Lz,Lz]
theorem sgn_mul{k:Rat}(a:0<k)(z:Int):NC (k*(z:Rat))=Jw z:=by
 unfold NC;by_cases b:0<z
 ·rw[MF (LK a (NA b)),K8 b]
 ·by_cases c:z<0
  ·have d:0<k*((-z:Int):Rat):=LK a (NA (by omega));rw[Rat.intCast_neg]at d;rw[ME (by grind),MF (by grind),JZ c]
  ·obtain rfl:z=0:=by omega
   have:((0:Int):Rat)=0:=rfl;rw[this];simp
theorem FY{t b X Y p q e f:Int}(a:0<t)(c:0<b):MZ (MX t b X 1 p) (MX t b Y 1 q) (MX t b X 1 e) (MX t b Y 1 f)↔(p<e\/(p=e/\q<f)):=by rw[Ma.CJ a c (by decide) (by decide),ND];omega
end SD
namespace HT
open PySem PyProof.Rows
end HT
namespace SD
open PySem PySem.Spec PyProof.Rows L2
section
variable{X:Cx}
def DB(g:Bool->Bool):Nv:=fun x y M Q=>∃p ps,Pd M x p/\(Pd M y (.list ps)\/Pd M y (.tuple ps))/\Ln p=MC/\Ml ps=MC/\Q (.bl (g (ps.any fun q=>K1 q p))) M
theorem mE{p:Mv}{n:Nat}(h:Ln p=MC):min n p.depth<=63+1:=Ke (Nat.min_le_right _ _) (SeqAt.depth_of_shaped h)
theorem F7(r:X.A.units+66<Kf):Nw X (JN .In) (DB fun b=>b):=by
 intro MP s σ H v u t w Q I m g h;obtain⟨x,y,M,R,o,i,a,⟨p,ps,q,c,e,j,k⟩,d⟩:=h;obtain⟨z,l⟩:=bN I a q o m;have B:=mE (n:=Mf ps) e;rcases c with c|c
 ·obtain⟨bs,f⟩:=bN I a c i g;exact SeqAt.in_list_reads f l j (LF e) (by omega) ⟨.bl _,H,I,rfl,d _ _ _ _ .refl (by rw[Rep]) a k⟩
 ·obtain⟨bs,f⟩:=bN I a c i g;exact SeqAt.in_tuple_reads f l j (LF e) (by omega) ⟨.bl _,H,I,rfl,d _ _ _ _ .refl (by rw[Rep]) a k⟩
theorem zX(r:X.A.units+66<Kf):Nw X (JN .NotIn) (DB fun b=>!b):=by
 intro MP s σ H v u t w Q I m g h;obtain⟨x,y,M,R,o,i,a,⟨p,ps,q,c,e,j,k⟩,d⟩:=h;obtain⟨z,l⟩:=bN I a q o m;have B:=mE (n:=Mf ps) e;rcases c with c|c
 ·obtain⟨bs,f⟩:=bN I a c i g;exact SeqAt.notIn_list_reads f l j (LF e) (by omega) ⟨.bl _,H,I,rfl,d _ _ _ _ .refl (by rw[Rep]) a k⟩
 ·obtain⟨bs,f⟩:=bN I a c i g;exact SeqAt.notIn_tuple_reads f l j (LF e) (by omega) ⟨.bl _,H,I,rfl,d _ _ _ _ .refl (by rw[Rep]) a k⟩
theorem qJ{K:IW}{H:Hp}:∀{bs:List Bool} {xs:List V},aK K H (bs.map D.bl) xs->xs=bs.map V.bl
 |[],xs,h=>by rw[KA,aK]at h;exact h
 |n::ns,xs,h=>by
  rw[J5,aK]at h
  obtain⟨x,r,rfl,a,b⟩:=h
  rw[Rep]at a
  rw[a,qJ b];rfl
theorem lN:∀{bs:List Bool} {us:List I0},Vals (bs.map V.bl) us->us=bs.map Value.bool
 |[],_,.nil=>rfl
 |b::bs,_,.cons r t=>by
  cases (show _=Value.bool b from r)
  rw[lN t];rfl
def HF:RC:=fun a M Q=>match a with
 |[.ref l]=>∃bs:List Bool,M l=MA (.lst (KN D.bl bs))/\Q (.bl (bs.all id)) M
 |_=>False
theorem wj(h:X.calm=MC):bO X (.builtin "all") (fun xs H Q=>∃(p:Addr) (bs:List Bool),xs=[.ref p]/\NZ X.K H p (bs.map V.bl)/\Q (.bl (bs.all id)) H):=by
 intro MP s σ H xs us Q I r j;obtain⟨l,bs,e,m,k⟩:=j;subst e;obtain⟨u,rfl,n⟩:=vals1 r;cases n;obtain⟨c,o,q,_⟩:=I.list m;have g:=lN o;have d:=q.isList;have lt:l≠s.heap.objs.size:=JK (let⟨_,e,_⟩:=d;Jc e);refine call_all_walk (x:=.ref l) (wpAny_pyIter_list d ⟨s.heap.objs.size,[s.heap.objs.size,l],[s.heap.objs.size],c.toArray.size,_,_,fun i=>(bs[i]?).getD MC,rfl,Walks.list (A:=X.A.in1) (I.ok.hd h) _ l lt c.toArray,⟨⟨_,J8 _ rfl,rfl,rfl⟩,d.push _⟩,fun i v t w C y z=>?_,fun D E B=>?_⟩)
 ·have a:c[i]?=MA v:=by simpa using y
  rw[g,J4]at a;cases eb:bs[i]? with
  |none=>rw[eb]at a;cases a
  |some b=>
   rw[eb]at a
   cases a
   have f:w b t:=by simpa[eb]using z
   exact Kz f
 ·rw[show((J6 c.toArray.size).all fun i=>(bs[i]?).getD MC)=bs.all id by rw[Jj,g,IZ];exact LSm.range_all bs];exact⟨.bl (bs.all id),H,I.kept (LSm.kept_iter B),rfl,k⟩
theorem EL(g:X.calm=MC):eQ X (.builtin "all") HF:=cu (wj g) fun vs H Q h=>by
 obtain⟨b,M,R,i,a,q,c⟩:=h;rcases b with _|⟨d,b⟩
 ·exact JB q
 cases d<;>rcases b with _|⟨e,b⟩<;>try exact JB q
 ·obtain⟨bs,e,q⟩:=q;obtain⟨v,rfl,r⟩:=cF i;rw[Rep]at r;subst r;obtain⟨xs,f,j⟩:=a _ _ e;rw[qJ j]at f;exact⟨_,bs,rfl,NZ.of f,c _ _ _ _ .refl (by rw[Rep]) a q⟩
def Hm(c:TD)(t:Np):TD:=fun δ M Q=>c δ M fun x a=>∃l e,x=.ref l/\a l=MA (.lst e)/\t δ a fun f b=>∃xs d,f=[d]/\b l=MA (.lst xs)/\xs.length<1000000/\Q .non (aC b l (.lst (xs++[d])))
variable{o e:Expr}{to:TD}{t:Np}{apos bj:Pos}
theorem bQ(z:DE X o to)(A:DA X [e] t)
 (b:attributeBase o "append" X.env (eval o X.env)=eval o X.env:=by rfl)
 (i:((KO bj (Jd [e] X.env)).all (fun x=>!x.1)&&(backToKw bj (Mi [] X.env)).all (fun x=>x.1.isSome)
  && decide ([e].length+([]:List Keyword).length+(if([]:List Keyword).isEmpty then 0 else 1)<30))=MC:=by rfl)
 (c:(apos.endLine==bj.line)=MC:=by rfl) (hs:Jd [e] X.env=(MD,eval e X.env)::Jd [] X.env:=by rfl) (a:(KO bj (Jd [] X.env)).any (·.1)=MD:=by rfl) :
 DE X (.Call (.Attribute o "append" apos) [e] [] bj) (Hm to t):=
 a9 (CG PySem.F.plainAttrs_list PySem.F.slot_list_append PySem.F.type_list_append jN z A b i c hs a) fun σ H Q B=>by
  obtain⟨δ,M,R,j,C,q,m⟩:=B
  refine⟨δ,M,_,j,C,q,fun x D v H1 p r s f=>?_⟩
  obtain⟨l,P,ex,E,G⟩:=f
  subst ex
  rw[Rep]at r
  subst r
  obtain⟨vs,n,_⟩:=s _ _ E
  refine⟨.inl ⟨rfl,vs,NZ.of n⟩,δ,D,_,j.mono p,s,G,fun S T us U I J w g=>?_⟩
  obtain⟨xs,d,K,L,V,N⟩:=g
  subst K
  obtain⟨u,rfl,O⟩:=cF J
  obtain⟨ws,h,k⟩:=w _ _ L
  have y:=k.length
  refine⟨l,ws,u,rfl,rfl,h,Ju (by omega) (show 1000000<=Jb from NS rfl),?_⟩
  exact m _ _ _ _ (p.trans (I.trans (.lst h))) (by rw[Rep]) (w.xJ h (k.append (.cons O .nil))) N
end
theorem mT{k:Nat}{A:JQ}(r:N0 k A):A.units+66<Kf:=by have:=r.un;omega
abbrev Wl:=Int×Int×Int×Int
def la(x y:Int):Int:=100*x+y
def l1(w:Wl):Int:=la w.1 w.2.1
def l2(w:Wl):Int:=la w.2.2.1 w.2.2.2
def sd(w:Wl)(x y:Int):Int:=Nx (w.2.2.1-w.1) (w.2.2.2-w.2.1) (x-w.1) (y-w.2.1)
def NX(w v:Wl):Int:=sd w v.1 v.2.1
def NY(w v:Wl):Int:=sd w v.2.2.1 v.2.2.2
structure NO(w:Wl):Prop where
 a:0<=w.1/\w.1<=20
 b:0<=w.2.1/\w.2.1<=20
 c:0<=w.2.2.1/\w.2.2.1<=20
 d:0<=w.2.2.2/\w.2.2.2<=20
 lt:l1 w<l2 w
def bG(w:Wl)(l s:Int):Prop:=l=l1 w\/l=l2 w\/l<l1 w\/l2 w<l\/s≠0
structure Na(U V:Wl):Prop where
 ne:¬(l1 U=l1 V/\l2 U=l2 V)
 e1:bG U (l1 V) (NX U V)
 e2:bG U (l2 V) (NY U V)
 e3:bG V (l1 U) (NX V U)
 e4:bG V (l2 U) (NY V U)
 pr:0<=Jw (NX U V)*Jw (NY U V)\/0<=Jw (NX V U)*Jw (NY V U)
theorem Na.swap{U V:Wl}(h:Na U V):Na V U:=⟨fun z=>h.ne ⟨z.1.symm,z.2.symm⟩,h.e3,h.e4,h.e1,h.e2,h.pr.symm⟩
def NT(U V:Wl):Bool:=
 if max (l1 U) (l1 V)<min (l2 U) (l2 V)then
  if l1 U=l1 V then(if l2 U<l2 V then decide (0<NY V U)else decide (NY U V<0))
  else if l1 V<l1 U then decide (0<NX V U)else decide (NX U V<0)
 else MD
theorem XN(z:Int):Jw z=1↔0<z:=Int.sign_eq_one_iff_pos
theorem Xo(z:Int):-Jw z=1↔z<0:=by
 rcases Jh z 0 with h|h|h
 ·rw[JZ h];omega
 ·subst h;simp
 ·rw[K8 h];omega
theorem VI{x y:Int}(h:0<=Jw x*Jw y):¬(0<x/\y<0)/\¬(x<0/\0<y):=by
 constructor
 ·rintro⟨a,b⟩;rw[K8 a,JZ b]at h;omega
 ·rintro⟨a,b⟩;rw[JZ a,K8 b]at h;omega
theorem jA{z k:Int}(a:0<k)(h:0<z*k):0<z:=by
 rcases Jh z 0 with q|q|q
 ·have:=JI q a;omega
 ·subst q;simp at h
 ·exact q
theorem oG{z k:Int}(a:0<k)(h:z*k<0):z<0:=by
 rcases Jh z 0 with q|q|q
 ·exact q
 ·subst q;simp at h
 ·have:=JE q a;omega
theorem within{a b c d g h e f:Int}(p:a*(f-e)=d*(g-e)-c*(h-e))(q:b*(f-e)=d*(g-f)-c*(h-f))
 (r:e<g) (s:e<h) (t:g<f) (u:h<f) (F:(¬(0<c/\d<0)/\¬(c<0/\0<d))\/(¬(0<a/\b<0)/\¬(a<0/\0<b))) (v:c≠0) (w:d≠0):0<c↔0<d:=by
 have k:0<f-e:=by omega
 have A:¬(0<c/\d<0):=fun i=>by
  obtain⟨x,y⟩:=i
  have j:=JI y (show 0<g-e by omega)
  have l:=JE x (show 0<h-e by omega)
  have m:=JU y (show g-f<0 by omega)
  have n:=JJ x (show h-f<0 by omega)
  have o:=oG (z:=a) k (by omega)
  have b1:=jA (z:=b) k (by omega)
  omega
 have B:¬(c<0/\0<d):=fun i=>by
  obtain⟨x,y⟩:=i
  have j:=JE y (show 0<g-e by omega)
  have l:=JI x (show 0<h-e by omega)
  have m:=JJ y (show g-f<0 by omega)
  have n:=JU x (show h-f<0 by omega)
  have o:=jA (z:=a) k (by omega)
  have b1:=oG (z:=b) k (by omega)
  omega
 omega
theorem oF{a b c d f h i g:Int}(q:b*(g-i)=d*(f-g)-c*(h-g))(r:c*(h-f)=b*(i-f)-a*(g-f))
 (s:i<f) (t:f<g) (u:g<h) (F:(¬(0<c/\d<0)/\¬(c<0/\0<d))\/(¬(0<a/\b<0)/\¬(a<0/\0<b))) (v:c≠0) (b0:b≠0):0<c↔b<0:=by
 have e:d*(f-g)=-(d*(g-f)):=by rw[<-Int.mul_neg];congr 1;omega
 have w:¬(0<c/\0<b):=fun j=>by
  obtain⟨x,y⟩:=j
  have k:=JE y (show 0<g-i by omega)
  have l:=JE x (show 0<h-g by omega)
  have m:=JE x (show 0<h-f by omega)
  have n:=JJ y (show i-f<0 by omega)
  have o:=oG (z:=a) (show 0<g-f by omega) (by omega)
  have p:=oG (z:=d) (show 0<g-f by omega) (by omega)
  omega
 have A:¬(c<0/\b<0):=fun j=>by
  obtain⟨x,y⟩:=j
  have k:=JI y (show 0<g-i by omega)
  have l:=JI x (show 0<h-g by omega)
  have m:=JI x (show 0<h-f by omega)
  have n:=JU y (show i-f<0 by omega)
  have o:=jA (z:=a) (show 0<g-f by omega) (by omega)
  have p:=jA (z:=d) (show 0<g-f by omega) (by omega)
  omega
 omega
theorem vX(U V:Wl):NX U V*(l2 V-l1 V)=NY V U*(l1 U-l1 V)-NX V U*(l2 U-l1 V):=by unfold NX NY sd l1 l2 la Nx;grind
theorem wy(U V:Wl):NY U V*(l2 V-l1 V)=NY V U*(l1 U-l2 V)-NX V U*(l2 U-l2 V):=by unfold NX NY sd l1 l2 la Nx;grind
theorem gG{x y u v:Int}(a:0<=y/\y<=20)(b:0<=v/\v<=20)(h:la x y=la u v):x=u/\y=v:=by unfold la at h;omega
theorem Cw{U V:Wl}(a:NO U)(c:NO V)(h:l1 U=l1 V):NX U V=0:=by obtain⟨e1,e2⟩:=gG a.b c.b h;unfold NX sd Nx;rw[e1,e2];simp
theorem qP{U V:Wl}(a:NO U)(b:NO V)(h:l2 U=l2 V):NY U V=0:=by obtain⟨e1,e2⟩:=gG a.d b.d h;unfold NY sd Nx;rw[e1,e2];grind
theorem bG.nz{w:Wl}{l s:Int}(h:bG w l s)(a:l1 w<l)(b:l<l2 w):s≠0:=by
 unfold bG at h;rcases h with h|h|h|h|h
 ·omega
 ·omega
 ·omega
 ·omega
 ·exact h
theorem c9{a b c d:Int}:max a c<min b d↔a<b/\a<d/\c<b/\c<d:=by rw[Int.max_lt,Int.lt_min,Int.lt_min,and_assoc]
section
variable{U V:Wl}(ap:max (l1 U) (l1 V)<min (l2 U) (l2 V))
include ap
theorem nv(z:l1 U<l1 V):NT U V=decide (NX U V<0):=by unfold NT;rw[MF ap,ME (Int.ne_of_lt z),ME (Int.not_lt.mpr (Kg z))]
theorem qE(z:l1 V<l1 U):NT U V=decide (0<NX V U):=by unfold NT;rw[MF ap,ME (fun e=>Int.ne_of_lt z e.symm),MF z]
theorem ui(z:l1 U=l1 V)(y:l2 U<l2 V):NT U V=decide (0<NY V U):=by unfold NT;rw[MF ap,MF z,MF y]
theorem qR(z:l1 U=l1 V)(y:¬l2 U<l2 V):NT U V=decide (NY U V<0):=by unfold NT;rw[MF ap,MF z,ME y]
end
theorem yA{a:Int}(h:a≠0):decide (0<a)=!decide (a<0):=by rw[<-decide_not,MK];omega
theorem rP{a:Int}(h:a≠0):decide (a<0)=!decide (0<a):=by rw[<-decide_not,MK];omega
theorem jh{U V:Wl}(d:NO U)(e:NO V)(F:Na U V)(b:max (l1 U) (l1 V)<min (l2 U) (l2 V)):NT V U=!NT U V:=by
 have c:=b;rw[Int.max_comm,Int.min_comm]at c;have o:=c9.mp b;rcases Jh (l1 U) (l1 V)with h|h|h
 ·rw[qE c h,nv b h,yA (F.e1.nz h o.2.2.1)]
 ·rcases Jh (l2 U) (l2 V)with a|a|a
  ·rw[qR c h.symm (Int.not_lt.mpr (Kg a)),ui b h a,rP (F.e4.nz o.2.2.1 a)]
  ·exact absurd ⟨h,a⟩ F.ne
  ·rw[ui c h.symm a,qR b h (Int.not_lt.mpr (Kg a)),yA (F.e2.nz o.2.1 a)]
 ·rw[nv c h,qE b h,rP (F.e3.nz h o.2.1)]
theorem zV{a b c d:Int}(e:0<=b/\b<=20)(hd:0<=d/\d<=20):HT.lexLt [a,b] [c,d]=decide (la a b<la c d):=by have h:=ND (a:=a) (b:=b) (c:=c) (d:=d);rw[LA,h,ML];unfold la;omega
theorem B9{a b c d:Int}(e:0<=b/\b<=20)(hd:0<=d/\d<=20):HT.lexLe [a,b] [c,d]=decide (la a b<=la c d):=by rw[Ma.vH,zV hd e,<-decide_not,MK];omega
theorem Gd{a b c d:Int}(e:0<=b/\b<=20)(hd:0<=d/\d<=20):HT.bZ [a,b] [c,d]=decide (la c d<la a b):=by rw[Ma.wJ,zV hd e]
theorem zQ{x y u v:Int}(a:0<=y/\y<=20)(b:0<=v/\v<=20):(x=u/\y=v)↔la x y=la u v:=by unfold la;omega
theorem uh{I:Qt}{tk:Po}{js:List Nat}{tc:Nj}{te:TD}{δ:DS}{b:MH}{Q:DK}(f:Nat->Option D)(j:I.n<=1000000)(hC:∀p a,b p=MB->I.C (aC b p (.lst a))) (h:∀i d M,i<I.n->I.item i=MA d->Sub b M->∃os,zi tk d os/\(∀K:Bool->MH->Prop,K (f i).isSome M->tc (cδ os js δ) M K)/\∀e,f i=MA e->∀K:DK,(∀c,Sub M c->K e c)->te (cδ os js δ) M K) (k:∀p,b p=MB->Q (.ref p) (aC b p (.lst ((J6 I.n).filterMap f)))):xS I tk js tc te δ b Q:=by
 refine⟨j,fun p g=>⟨fun i a M=>a=(J6 i).filterMap f/\M=aC b p (.lst a),⟨rfl,rfl⟩,?_,?_,?_⟩⟩
 ·rintro i a M _ ⟨_,rfl⟩;exact hC p a g
 ·rintro i a d M hi hd ⟨rfl,rfl⟩;obtain⟨os,l,m,o⟩:=h i d _ hi hd (.new g .refl);refine⟨os,l,m _ ?_⟩;cases e:f i with
  |none=>
   refine j9 rfl ⟨_,.refl,?_,?_⟩
   ·rw[KW,List.filterMap_append];simp[e]
   ·rfl
  |some v=>
   refine A3 rfl (o v e _ fun c q=>⟨_,q,ag,?_,by rw[bL]⟩)
   rw[KW,List.filterMap_append];simp[e]
 ·rintro a M ⟨rfl,rfl⟩;exact k p g
theorem zt{A:Wl}{x y:Int}(c:NO A)(e:0<=y/\y<=20)(h:(!(decide (A.1=x/\A.2.1=y)||decide (A.2.2.1=x/\A.2.2.2=y))&&(decide (l1 A<=la x y)&&decide (la x y<=l2 A)&&decide (sd A x y=0)))=MD):bG A (la x y) (sd A x y):=by
 unfold bG;by_cases f:A.1=x/\A.2.1=y
 ·exact .inl ((zQ c.b e).mp f).symm
 ·by_cases g:A.2.2.1=x/\A.2.2.2=y
  ·exact .inr (.inl ((zQ c.d e).mp g).symm)
  ·rw[MG f,MG g,Bool.or_false,Bool.not_false,L6,<-Bool.decide_and,<-Bool.decide_and,decide_eq_false_iff_not]at h;by_cases i:sd A x y=0
   ·rcases Int.lt_or_le (la x y) (l1 A)with z|z
    ·exact .inr (.inr (.inl z))
    ·rcases Int.lt_or_le (l2 A) (la x y)with a|a
     ·exact .inr (.inr (.inr (.inl a)))
     ·exact absurd ⟨⟨z,a⟩,i⟩ h
   ·exact .inr (.inr (.inr (.inr i)))
theorem E7(M:MH)(A:Wl)(x y:Int)(g:Bool->Bool)(Q:DK)(q:Q (.bl (g (decide (A.1=x/\A.2.1=y)||decide (A.2.2.1=x/\A.2.2.2=y)))) M):DB g (.tup [.int x,.int y]) (uw A) M Q:=by refine⟨_,_,Pd.of rfl,.inr (Pd.of rfl),rfl,rfl,?_⟩;rw[Lm,Lm,List.any_nil,oe,oe,Bool.or_false];exact q
theorem B5(z:Int):Bd 64 (Jw z):=by
 rcases Jh z 0 with h|h|h
 ·rw[JZ h];decide
 ·subst h;decide
 ·rw[K8 h];decide
def SH(w:Wl):Mv:=.tuple [.tuple [.int w.1,.int w.2.1],.tuple [.int w.2.2.1,.int w.2.2.2]]
theorem yq{M:MH}:∀ws:List Wl,Pp M (ws.map uw) (ws.map SH)
 |[]=>.nil
 |w::ws=>.cons (Pd.of rfl) (yq ws)
theorem yo:∀ws:List Wl,Ml (ws.map SH)=MC
 |[]=>rfl
 |w::ws=>by rw[J5,Ml,yo ws];rfl
theorem yr:∀ws:List Wl,Mf (ws.map SH)<=10
 |[]=>NS rfl
 |w::ws=>by
  rw[J5,Mf]
  exact Nat.max_le.mpr ⟨NS rfl,yr ws⟩
theorem wt(ws:List Wl):Ln (.list (ws.map SH))=MC:=by unfold Ln;have a:=yo ws;have b:=yr ws;rw[JV];refine⟨by rw[PyData.canLay0];exact a,MI ?_⟩;rw[PyData.depth];omega
theorem sS:∀ws:List Wl,K1 (.list (ws.map SH)) (.list [])=ws.isEmpty
 |[]=>by simp[K1,Kj]
 |w::ws=>by simp[K1,Kj]
def PF(ws:List Wl):Prop:=∀(i j:Nat) (U V:Wl),i≠j->ws[i]?=MA U->ws[j]?=MA V->Na U V
theorem EY:PF []:=fun i j U V _ h=>by simp at h
theorem wK{ws:List Wl}{U:Wl}(h:PF ws)(d:∀(j:Nat) (w:Wl),ws[j]?=MA w->Na U w):PF (ws++[U]):=by
 intro i j A B c f g
 have get:∀{k:Nat} {C:Wl},(ws++[U])[k]?=MA C->ws[k]?=MA C\/(k=ws.length/\C=U):=fun{k C} e=>by
  rcases Nat.lt_trichotomy k ws.length with z|z|z
  ·rw[JO z]at e;exact .inl e
  ·subst z;rw[JP (J1 _)]at e;simp at e;exact .inr ⟨rfl,e.symm⟩
  ·rw[List.getElem?_eq_none (by simp;omega)]at e;cases e
 rcases get f with a|⟨a,rfl⟩<;>rcases get g with b|⟨b,rfl⟩
 ·exact h i j A B c a b
 ·exact(d _ _ a).swap
 ·exact d _ _ b
 ·omega
theorem zD{w:Wl}(h:NO w){v:Int}(e:0<=v)(f:v<2):∃x y,atI [D.tup [.int w.1,.int w.2.1],.tup [.int w.2.2.1,.int w.2.2.2]] v=MA (.tup [.int x,.int y])/\(0<=x/\x<=20)/\(0<=y/\y<=20):=by
 rcases(show v=0\/v=1 by omega)with rfl|rfl
 ·exact⟨_,_,rfl,h.a,h.b⟩
 ·exact⟨_,_,rfl,h.c,h.d⟩
theorem Ag{ws:List Wl}{v:Int}(b:0<=v)(c:v<ws.length):∃w,w∈ws/\atI (ws.map uw) v=MA (uw w):=by
 obtain⟨j,rfl⟩:∃j:Nat,v=(j:Int):=⟨v.toNat,by omega⟩;have a:j<ws.length:=by omega
 exact⟨ws[j],JW a,bz (by simp[a])⟩
theorem we{p q e f:Int}(c:0<=p/\p<=20)(a:0<=q/\q<=20)(he:0<=e/\e<=20)(b:0<=f/\f<=20)(ne:¬(p=e/\q=f)) :
 ∃w:Wl,(if HT.lexLt [e,f] [p,q]=MC then[e,f]else[p,q])=[w.1,w.2.1]/\(if HT.bZ [e,f] [p,q]=MC then[e,f]else[p,q])=[w.2.2.1,w.2.2.2]/\NO w:=by
 rw[zV b a,Gd b a]
 have g:la p q≠la e f:=fun z=>ne ((zQ a b).mpr z)
 by_cases h:la e f<la p q
 ·exact⟨(e,f,p,q),by rw[MF (MI h)],by rw[ME (by simp;omega)],⟨he,b,c,a,h⟩⟩
 ·have d:la p q<la e f:=by omega
  exact⟨(p,q,e,f),by rw[ME (by simpa using h)],by rw[MF (MI d)],⟨c,a,he,b,d⟩⟩
theorem nU{t b X Y p q e f:Int}(a:0<t)(c:0<b)(d:0<=q/\q<=20)(g:0<=f/\f<=20):MZ (MX t b X 1 p) (MX t b Y 1 q) (MX t b X 1 e) (MX t b Y 1 f)↔la p q<la e f:=by rw[FY a c];unfold la;omega
theorem iS{t b X Y p q e f:Int}(a:0<t)(c:0<b)(d:0<=q/\q<=20)(g:0<=f/\f<=20):(MX t b X 1 p=MX t b X 1 e/\MX t b Y 1 q=MX t b Y 1 f)↔la p q=la e f:=by rw[NF a c (by decide) (by decide),NF a c (by decide) (by decide)];unfold la;omega
theorem ju{t b X Y:Int}(c:0<t)(a:0<b)(w:Wl)(x y:Int):NC (NB (MX t b X 1 w.1) (MX t b Y 1 w.2.1) (MX t b X 1 w.2.2.1) (MX t b Y 1 w.2.2.2) (MX t b X 1 x) (MX t b Y 1 y))=Jw (sd w x y):=by
 have k:(0:Rat)<(t:Rat)/b:=by rw[Rat.div_def];exact LK (NA c) (Rat.inv_pos.mpr (NA a))
 rw[Ga a,sgn_mul (LK k k)];rfl
theorem Io(z:Int):Jw z=-1↔z<0:=by rw[<-Xo];omega
theorem gn{M:MH}:∀ns:List Int,Pp M (ns.map D.int) (ns.map PyData.int)
 |[]=>.nil
 |n::ns=>.cons (.int n) (gn ns)
theorem lay_ints:∀ns:List Int,Ml (ns.map PyData.int)=MC
 |[]=>rfl
 |n::ns=>by rw[J5,Ml,lay_ints ns];rfl
section
variable{X:Cx}
def cG{a:Type}(xs:List a)(j:Nat)(y:a):List a:=xs.take j++y::xs.drop j
def AK:V->List V->Hp->VK->Prop:=fun x vs H Q=>∃l xs y,∃(k:Int) (j:Nat),x=.ref l/\vs=[.int k,y]/\k=(j:Int)/\H l=MA (.lst xs)/\j<=xs.length/\xs.length<1000000/\Q .non (upd H l (.lst (cG xs j y)))
theorem AX(a:List I0)(k:Int)(j:Nat)(u:I0)(b:k=(j:Int))(c:j<=a.length) :
 (a.toArray.extract 0 (if k<0 then(k+((a.toArray.size:Nat):Int)).toNat else min k.toNat a.toArray.size)).push u++a.toArray.extract (if k<0 then(k+((a.toArray.size:Nat):Int)).toNat else min k.toNat a.toArray.size)=(cG a j u).toArray:=by
 have e:(if k<0 then(k+((a.toArray.size:Nat):Int)).toNat else min k.toNat a.toArray.size)=j:=by
  rw[ME (by omega),Jj];omega
 rw[e]
 apply Array.toList_inj.mp
 simp[cG]
 exact Kr (by simp)
theorem vF:XC X "list.insert" AK:=by
 intro MP s σ H x vs v us Q I f g h;obtain⟨l,xs,y,k,j,ex,i,m,d,w,A,q⟩:=h;subst ex i;cases f;obtain⟨B,b,rfl,o,p⟩:=g.two;obtain⟨t,rfl⟩:=o;obtain⟨z,a,n,r,u,e⟩:=I.p5 d;have fits:Builtin.List.listFitsIndex k=MC:=by unfold Builtin.List.listFitsIndex;simp;omega
 have c:a.toArray.size<=Jb:=by rw[Jj,<-u];exact z
 refine call_meets PySem.F.slot_list_insert ⟨_,e,rfl⟩ PySem.F.entry_list_insert (PySem.F.args_list_insert_3 _ _ _) (PySem.AutoSeq1.list_insert_list_int_val_1 l a.toArray n k t b (by rw[fits];decide) c) ⟨e,?_⟩;refine⟨.non,_,I.Hx (its':=cG a j b) d e (AX a k j b m (by omega)) ((Vals.take j r).append (.cons p (Vals.drop j r))) ?_,rfl,q⟩;show(xs.take j++y::xs.drop j).length<=Jb;simp only[JX,KJ,Jr,List.length_drop];have:1000000<=Jb:=NS rfl;omega
def Hc(c:TD)(t:Np):TD:=fun δ M Q=>c δ M fun x a=>∃l e,x=.ref l/\a l=MA (.lst e)/\t δ a fun f b=>∃xs d,∃j:Nat,f=[.int (j:Int),d]/\b l=MA (.lst xs)/\j<=xs.length/\xs.length<1000000/\Q .non (aC b l (.lst (cG xs j d)))
variable{o e1 e2:Expr}{to:TD}{t:Np}{apos bj:Pos}
theorem qI(A:DE X o to)(B:DA X [e1,e2] t)
 (b:attributeBase o "insert" X.env (eval o X.env)=eval o X.env:=by rfl)
 (i:((KO bj (Jd [e1,e2] X.env)).all (fun x=>!x.1)&&(backToKw bj (Mi [] X.env)).all (fun x=>x.1.isSome)
  && decide ([e1,e2].length+([]:List Keyword).length+(if([]:List Keyword).isEmpty then 0 else 1)<30))=MC:=by rfl)
 (c:(apos.endLine==bj.line)=MC:=by rfl) (hs:Jd [e1,e2] X.env=(MD,eval e1 X.env)::Jd [e2] X.env:=by rfl) (a:(KO bj (Jd [e2] X.env)).any (·.1)=MD:=by rfl) :
 DE X (.Call (.Attribute o "insert" apos) [e1,e2] [] bj) (Hc to t):=
 a9 (CG PySem.F.plainAttrs_list PySem.F.slot_list_insert PySem.F.type_list_insert vF A B b i c hs a) fun σ H Q C=>by
  obtain⟨δ,M,R,k,D,q,n⟩:=C
  refine⟨δ,M,_,k,D,q,fun x E v H1 s u w e=>?_⟩
  obtain⟨l,S,ex,G,I⟩:=e
  subst ex
  rw[Rep]at u
  subst u
  obtain⟨vs,p,_⟩:=w _ _ G
  refine⟨.inl ⟨rfl,vs,NZ.of p⟩,δ,E,_,k.mono s,w,I,fun T U us V J K y f=>?_⟩
  obtain⟨xs,d,j,L,N,W,Y,O⟩:=f
  subst L
  obtain⟨Z,P,rfl,m,r⟩:=f6 K
  rw[Rep]at m
  subst m
  obtain⟨ws,g,h⟩:=y _ _ N
  have z:=h.length
  exact⟨l,ws,P,_,j,rfl,rfl,rfl,g,by omega,by omega,n _ _ _ _ (s.trans (J.trans (.lst g))) (by rw[Rep]) (y.xJ g ((h.take j).append (.cons r (h.drop j)))) O⟩
def wV:RC:=fun a M Q=>match a with
 |[.ref l]=>∃xs,M l=MA (.lst xs)/\∀p,M p=MB->Q (.ref p) (aC M p (.lst xs))
 |[.tup xs]=>∀p,M p=MB->Q (.ref p) (aC M p (.lst xs))
 |_=>False
theorem AR:eQ X (.type "list") wV:=cu ox fun vs H Q h=>by
 obtain⟨i,M,R,g,a,q,c⟩:=h;unfold wV at q;split at q
 ·obtain⟨j,e,q⟩:=q;obtain⟨v,rfl,r⟩:=cF g;rw[Rep]at r;subst r;obtain⟨xs,d,f⟩:=a _ _ e;exact⟨_,xs,rfl,.inl (NZ.of d),fun z b=>c _ _ _ _ (.new b) (by rw[Rep]) (a.jK b f) (q z (a.fresh b))⟩
 ·obtain⟨v,rfl,r⟩:=cF g;rw[Rep]at r;obtain⟨p,xs,rfl,d,f⟩:=r;exact⟨_,xs,rfl,.inr d,fun z b=>c _ _ _ _ (.new b) (by rw[Rep]) (a.jK b f) (q z (a.fresh b))⟩
 ·exact q.elim
end
def lam(w:Wl):Int:=l2 w-l1 w
def Nm(w:Wl)(t:Int):Int:=2*w.1*lam w+(t-2*l1 w)*(w.2.2.1-w.1)
def Gh(U V:Wl)(t:Int):Int:=Nm V t*lam U-Nm U t*lam V
theorem Gy(U V:Wl):Gh U V (2*l1 U)=2*(lam U*NX V U):=by unfold Gh Nm lam NX sd l1 l2 la Nx;grind
theorem FR(U V:Wl):Gh U V (2*l2 U)=2*(lam U*NY V U):=by unfold Gh Nm lam NY sd l1 l2 la Nx;grind
theorem vb(U V:Wl)(t:Int):Gh V U t=-Gh U V t:=by unfold Gh;grind
theorem Im(U V:Wl):Gh U V (2*l1 V)=-(2*(lam V*NX U V)):=by rw[<-Gy,vb]
theorem HN(U V:Wl):Gh U V (2*l2 V)=-(2*(lam V*NY U V)):=by rw[<-FR,vb]
theorem GQ(U V:Wl)(p q t:Int):Gh U V t*(q-p)=Gh U V p*(q-t)+Gh U V q*(t-p):=by unfold Gh Nm;grind
theorem fu{U V:Wl}{p q t:Int}(c:p<t)(d:t<q)(a:0<=Gh U V p)(b:0<=Gh U V q)(g:0<Gh U V p\/0<Gh U V q):0<Gh U V t:=by
 refine jA (k:=q-p) (by omega) ?_;rw[GQ U V p q t];have e:=Int.mul_nonneg a (show 0<=q-t by omega);have f:=Int.mul_nonneg b (show 0<=t-p by omega);rcases g with g|g
 ·have:=JE g (show 0<q-t by omega);omega
 ·have:=JE g (show 0<t-p by omega);omega
theorem Rv{a b t:Int}:2*max a b<t↔2*a<t/\2*b<t:=by rw[Int.max_def];split<;>omega
theorem Rw{a b t:Int}:t<2*min a b↔t<2*a/\t<2*b:=by rw[Int.min_def];split<;>omega
theorem wO{a c d b1 e f:Int}(h:a<b1/\a<e/\a<f)(h':c<b1/\c<e/\c<f)(g:d<b1/\d<e/\d<f):∃t,(2*a<t/\2*c<t/\2*d<t)/\t<2*b1/\t<2*e/\t<2*f:=by have k:∀{b},a<b->c<b->d<b->max (max a c) d<b:=fun x y z=>Int.max_lt.mpr ⟨Int.max_lt.mpr ⟨x,y⟩,z⟩;have l:max (max a c) d<min (min b1 e) f:=Int.lt_min.mpr ⟨Int.lt_min.mpr ⟨k h.1 h'.1 g.1,k h.2.1 h'.2.1 g.2.1⟩,k h.2.2 h'.2.2 g.2.2⟩;have i:a<=max (max a c) d:=Int.le_trans (Int.le_max_left ..) (Int.le_max_left ..);have j:c<=max (max a c) d:=Int.le_trans (Int.le_max_right ..) (Int.le_max_left ..);have o:d<=max (max a c) d:=Int.le_max_right ..;have p:min (min b1 e) f<=b1:=Int.le_trans (Int.min_le_left ..) (Int.min_le_left ..);have q:min (min b1 e) f<=e:=Int.le_trans (Int.min_le_left ..) (Int.min_le_right ..);have r:min (min b1 e) f<=f:=Int.min_le_right ..;generalize max (max a c) d=m at *;generalize min (min b1 e) f=n at *;clear h h' g k;refine⟨m+n,⟨?_,?_,?_⟩,?_,?_,?_⟩<;>omega
theorem qx{U V:Wl}{t:Int}(k:NO U)(l:NO V)(F:Na U V)(j:max (l1 U) (l1 V)<min (l2 U) (l2 V))(t1:2*max (l1 U) (l1 V)<t)(B:t<2*min (l2 U) (l2 V))(h:NT U V=MC):0<Gh U V t:=by
 have r:l1 U<l1 V->NX U V<0:=fun z=>MJ ((nv j z).symm.trans h);have hC:l1 V<l1 U->0<NX V U:=fun z=>MJ ((qE j z).symm.trans h);have P:l1 U=l1 V->l2 U<l2 V->0<NY V U:=fun z y=>MJ ((ui j z y).symm.trans h);have Q:l1 U=l1 V->¬l2 U<l2 V->NY U V<0:=fun z y=>MJ ((qR j z y).symm.trans h);clear h;obtain⟨o1,m,n,o4⟩:=c9.mp j;clear j;obtain⟨R,S⟩:=Rv.mp t1;obtain⟨T,W⟩:=Rw.mp B;clear t1 B;have C:=F.e1.nz;have D:=F.e2.nz;have E:=F.e3.nz;have G:=F.e4.nz;have pr:(¬(0<NX V U/\NY V U<0)/\¬(NX V U<0/\0<NY V U))\/(¬(0<NX U V/\NY U V<0)/\¬(NX U V<0/\0<NY U V)):=F.pr.elim (fun z=>.inr (VI z)) (fun z=>.inl (VI z));have z1:=Cw k l;have z2:=qP k l;have H:=Cw l k;have I:=qP l k;have X:=fun e f g s d i=>within (vX U V) (wy U V) e f g s pr d i;have Y:=fun e f g s d i=>within (vX V U) (wy V U) e f g s pr.symm d i;have Z:=fun e f g d i=>oF (wy U V) (vX V U) e f g pr d i;have s2:=fun e f g d i=>oF (wy V U) (vX U V) e f g pr.symm d i;clear pr;have ne:=F.ne;have J:0<lam U:=by have:=k.lt;unfold lam;omega
 have K:0<lam V:=by have:=l.lt;unfold lam;omega
 have L:=Gy U V;have M:=FR U V;have G3:=Im U V;have G4:=HN U V;have u:0<NX V U->0<Gh U V (2*l1 U):=fun z=>by rw[L];have:=JE J z;omega
 have v:0<NY V U->0<Gh U V (2*l2 U):=fun z=>by rw[M];have:=JE J z;omega
 have w:NX U V<0->0<Gh U V (2*l1 V):=fun z=>by rw[G3];have:=JJ K z;omega
 have x:NY U V<0->0<Gh U V (2*l2 V):=fun z=>by rw[G4];have:=JJ K z;omega
 have N:NX V U=0->Gh U V (2*l1 U)=0:=fun z=>by rw[L,z];simp
 have O:NY V U=0->Gh U V (2*l2 U)=0:=fun z=>by rw[M,z];simp
 rcases Jh (l1 U) (l1 V)with y|y|y<;>rcases Jh (l2 U) (l2 V)with c|c|c
 ·have A:=C y n;have nd:=G n c;have q:=s2 y n c A nd;have o:NX U V<0:=r y;have b:=w o;have a:=v (by omega);exact fu (p:=2*l1 V) (q:=2*l2 U) (by assumption) (by assumption) (Kg b) (by first|exact Kg a|exact Int.le_of_eq a.symm) (.inl b)
 ·have o:NX U V<0:=r y;have b:=w o;have a:=O (I c.symm);exact fu (p:=2*l1 V) (q:=2*l2 U) (by assumption) (by assumption) (Kg b) (by first|exact Kg a|exact Int.le_of_eq a.symm) (.inl b)
 ·have A:=C y n;have nb:=D (by omega) c;have q:=Y y (by omega) n c A nb;have o:NX U V<0:=r y;have b:=w o;have a:=x (by omega);exact fu (p:=2*l1 V) (q:=2*l2 V) (by assumption) (by assumption) (Kg b) (by first|exact Kg a|exact Int.le_of_eq a.symm) (.inl b)
 ·have b:=N (H y.symm);have a:=v (P y c);exact fu (p:=2*l1 U) (q:=2*l2 U) (by assumption) (by assumption) (Int.le_of_eq b.symm) (Kg a) (.inr a)
 ·exact absurd ⟨y,c⟩ ne
 ·have b:=N (H y.symm);have a:=x (Q y (by omega));exact fu (p:=2*l1 U) (q:=2*l2 V) (by assumption) (by assumption) (Int.le_of_eq b.symm) (Kg a) (.inr a)
 ·have q:=X y (by omega) m c (E y m) (G (by omega) c);have d:0<NX V U:=hC y;have b:=u d;have a:=v (by omega);exact fu (p:=2*l1 U) (q:=2*l2 U) (by assumption) (by assumption) (Kg b) (by first|exact Kg a|exact Int.le_of_eq a.symm) (.inl b)
 ·have d:0<NX V U:=hC y;have b:=u d;have a:=O (I c.symm);exact fu (p:=2*l1 U) (q:=2*l2 U) (by assumption) (by assumption) (Kg b) (by first|exact Kg a|exact Int.le_of_eq a.symm) (.inl b)
 ·have q:=Z y m c (E y m) (D m c);have d:0<NX V U:=hC y;have b:=u d;have a:=x (by omega);exact fu (p:=2*l1 U) (q:=2*l2 V) (by assumption) (by assumption) (Kg b) (by first|exact Kg a|exact Int.le_of_eq a.symm) (.inl b)
theorem wo{U V W:Wl}(a:NO U)(d:NO V)(b:NO W)(r:Na U V)(s:Na V W)(h:Na U W)(i:max (l1 U) (l1 V)<min (l2 U) (l2 V))(j:max (l1 V) (l1 W)<min (l2 V) (l2 W))(f:max (l1 U) (l1 W)<min (l2 U) (l2 W))
 (u:NT U V=MC) (v:NT V W=MC):NT U W=MC:=by
 have c:=c9.mp i
 have g:=c9.mp j
 have l:=c9.mp f
 obtain⟨t,⟨x1,m,o⟩,y1,p,q⟩:=wO ⟨c.1,c.2.1,l.2.1⟩ ⟨c.2.2.1,c.2.2.2,g.2.1⟩ ⟨l.2.2.1,g.2.2.1,g.2.2.2⟩
 have w:=qx (t:=t) a d r i (Rv.mpr ⟨x1,m⟩) (Rw.mpr ⟨y1,p⟩) u
 have x:=qx (t:=t) d b s j (Rv.mpr ⟨m,o⟩) (Rw.mpr ⟨p,q⟩) v
 have y:0<lam U:=by have:=a.lt;unfold lam;omega
 have A:0<lam V:=by have:=d.lt;unfold lam;omega
 have B:0<lam W:=by have:=b.lt;unfold lam;omega
 have D:0<Gh U W t:=by
  refine jA (k:=lam V) A ?_
  have e:Gh U W t*lam V=lam U*Gh V W t+lam W*Gh U V t:=by unfold Gh;grind
  rw[e]
  exact Int.add_pos (JE y x) (JE B w)
 cases z:NT U W with
 |true=>rfl
 |false=>
  have n:=jh a b h f
  rw[z]at n
  have C:=qx (t:=t) b a h.swap (by rw[Int.max_comm,Int.min_comm];exact f) (Rv.mpr ⟨o,x1⟩) (Rw.mpr ⟨q,y1⟩) n
  rw[vb]at C
  omega
theorem cV{U:Wl}(a:NO U):NT U U=MD:=by
 unfold NT;split
 ·rw[MF rfl,ME (by omega),qP a a rfl];rfl
 ·rfl
theorem zL{a b:Type}(f:a->b)(xs:List a)(j:Nat)(y:a):cG (xs.map f) j (f y)=(cG xs j y).map f:=by unfold cG;simp[List.map_take,List.map_drop]
theorem qu:∀ns:List Int,Mf (ns.map PyData.int)<=10
 |[]=>NS rfl
 |n::ns=>by
  rw[J5,Mf]
  exact Nat.max_le.mpr ⟨NS rfl,qu ns⟩
theorem pO{ps:List Mv}(a:Ml ps=MC)(b:Mf ps<=10):Ln (.list ps)=MC:=by unfold Ln;rw[JV];refine⟨by rw[PyData.canLay0];exact a,MI ?_⟩;rw[PyData.depth];omega
theorem shaped_ints(ns:List Int):Ln (.list (ns.map PyData.int))=MC:=pO (lay_ints ns) (qu ns)
theorem jH{b:Type}(p:b->Bool)(f:b->D):∀l:List b,l.filterMap (fun k=>if p k=MC then MA (f k)else MB)=(l.filter p).map f
 |[]=>rfl
 |a::l=>by
  rw[List.filterMap_cons,L5]
  cases h:p a
  ·simp[jH p f l]
  ·simp[jH p f l]
def NV(ws:List Wl)(k:Int):Wl:=(ws[k.toNat]?).getD (0,0,0,0)
theorem bo{ws:List Wl}{k:Int}(b:0<=k)(c:k<ws.length):ws[k.toNat]?=MA (NV ws k)/\atI (ws.map uw) k=MA (uw (NV ws k))/\NV ws k∈ws:=by
 obtain⟨j,rfl⟩:∃j:Nat,k=(j:Int):=⟨k.toNat,by omega⟩;have a:j<ws.length:=by omega
 have e:NV ws (j:Int)=ws[j]:=by unfold NV;simp[a]
 refine⟨by rw[e];simp[a],?_,by rw[e];exact JW a⟩;rw[e];exact bz (by simp[a])
theorem xr{R:Int->Int->Bool}:∀fs:List Int,fs≠[]->(∀k∈fs,∀j∈fs,k≠j->R j k=!R k j)->(∀k∈fs,∀j∈fs,∀i∈fs,k≠j->j≠i->k≠i->R k j=MC->R j i=MC->R k i=MC)->∃t∈fs,∀k∈fs,k=t\/R t k=MC
 |[],h,_,_=>absurd rfl h
 |[a],_,_,_=>⟨a,by simp,fun k c=>.inl (by simpa using c)⟩
 |a::b::l,_,tot,tr=>by
  obtain⟨t,d,top⟩:=xr (R:=R) (b::l) (by simp) (fun k c j f=>tot k (.tail _ c) j (.tail _ f)) (fun k c j f i hi=>tr k (.tail _ c) j (.tail _ f) i (.tail _ hi))
  by_cases e:a=t
  ·subst e
   refine⟨a,by simp,fun k c=>?_⟩
   rcases Jv.mp c with rfl|c
   ·exact .inl rfl
   ·exact top k c
  ·have m:=tot a (by simp) t (.tail _ d) e
   cases q:R a t with
   |false=>
    rw[q]at m
    refine⟨t,.tail _ d,fun k c=>?_⟩
    rcases Jv.mp c with rfl|c
    ·exact .inr m
    ·exact top k c
   |true=>
    refine⟨a,by simp,fun k c=>?_⟩
    rcases Jv.mp c with rfl|g
    ·exact .inl rfl
    ·by_cases n:k=a
     ·exact .inl n
     ·rcases top k g with rfl|z
      ·exact .inr q
      ·by_cases o:k=t
       ·subst o;exact .inr q
       ·exact .inr (tr a (by simp) t (.tail _ d) k c e (fun y=>o y.symm) (fun y=>n y.symm) q z)
theorem si{fs:List Int}{t:Int}{p:Int->Bool}(nd:fs.Nodup)(f:t∈fs)(b:∀k∈fs,p k=MC↔k=t):fs.filter p=[t]:=by
 induction fs with
 |nil=>cases f
 |cons a l g=>
  rw[Ku]at nd
  rw[L5]
  by_cases e:a=t
  ·subst e;rw[MF ((b a (by simp)).mpr rfl)];have:l.filter p=[]:=List.filter_eq_nil_iff.mpr fun k c d=>nd.1 ((b k (.tail _ c)).mp d▸c);rw[this]
  ·rw[ME (fun z=>e ((b a (by simp)).mp z))];exact g nd.2 ((Jv.mp f).resolve_left (fun z=>e z.symm)) fun k c=>b k (.tail _ c)
def Rx(q:Rat):Mv:=.tuple [.int q.num,.int (q.den:Int)]
def RJ(t b x y:Int)(w:Wl):Mv:=.tuple [.tuple [Rx (MX t b x 1 w.1),Rx (MX t b y 1 w.2.1)],.tuple [Rx (MX t b x 1 w.2.2.1),Rx (MX t b y 1 w.2.2.2)]]
theorem yj(t b x y:Int)(w:Wl):K1 (RJ t b x y w) (RJ t b x y w)=MC:=by simp[RJ,Rx,K1,Kj]
theorem AH{a b x y:Int}(e:-10<=b/\b<=85)(f:-10<=y/\y<=85):HT.lexLt [a,b] [x,y]=decide (la a b<la x y):=by have h:=ND (a:=a) (b:=b) (c:=x) (d:=y);rw[LA,h,ML];unfold la;omega
def Rg(ws:List Wl)(m s:Int)(j:Nat):Bool:=decide (m*l1 (NV ws (j:Int))<=s)&&decide (s<m*l2 (NV ws (j:Int)))
def VG(ws:List Wl)(m s:Int):List Int:=((J6 ws.length).filter (Rg ws m s)).map fun j:Nat=>(j:Int)
theorem fV{ws:List Wl}{m s k:Int}(h:k∈VG ws m s):0<=k/\k<ws.length/\m*l1 (NV ws k)<=s/\s<m*l2 (NV ws k):=by unfold VG at h;obtain⟨j,a,rfl⟩:=Jp.mp h;rw[Jm,Jq]at a;have:=a.2;unfold Rg at this;rw[JV,ML,ML]at this;exact⟨by omega,by omega,this.1,this.2⟩
theorem Fo(m a b:Int):la (m*a) (m*b)=m*la a b:=by unfold la;grind
theorem over_of{m s a b c d:Int}(j:0<m)(f:m*a<=s)(g:s<m*b)(h:m*c<=s)(i:s<m*d):max a c<min b d:=by have e:∀{x y:Int},m*x<=s->s<m*y->x<y:=fun{x y} p q=>Int.lt_of_mul_lt_mul_left (Int.lt_of_le_of_lt p q) (by omega);have:=e f g;have:=e f i;have:=e h g;have:=e h i;omega
theorem sJ{ws:List Wl}{fs:List Int}{m s:Int}(o:∀w∈ws,NO w)(hF:PF ws)(r:0<m)(hs:∀k∈fs,k∈VG ws m s)(u:fs≠[])(nd:fs.Nodup) :
 ∃t∈fs,(∀w∈fs.map (NV ws),w=NV ws t\/(NT (NV ws t) w=MC/\NT w (NV ws t)=MD))/\(fs.filter fun k=>fs.all fun j=>!NT (NV ws j) (NV ws k))=[t]:=by
 have sp:=fun k d=>fV (hs k d)
 have un:∀k∈fs,NO (NV ws k):=fun k d=>o _ (bo (sp k d).1 (sp k d).2.1).2.2
 have fr:∀k∈fs,∀j∈fs,k≠j->Na (NV ws k) (NV ws j):=fun k d j f ne=>by
  have a:=sp k d
  have b:=sp j f
  exact hF k.toNat j.toNat _ _ (by omega) (bo a.1 a.2.1).1 (bo b.1 b.2.1).1
 have l:∀k∈fs,∀j∈fs,max (l1 (NV ws k)) (l1 (NV ws j))<min (l2 (NV ws k)) (l2 (NV ws j)):=fun k d j f=>
  over_of r (sp k d).2.2.1 (sp k d).2.2.2 (sp j f).2.2.1 (sp j f).2.2.2
 have g:∀k∈fs,∀j∈fs,k≠j->NT (NV ws j) (NV ws k)=!NT (NV ws k) (NV ws j):=fun k d j f ne=>jh (un k d) (un j f) (fr k d j f ne) (l k d j f)
 obtain⟨t,n,top⟩:=xr (R:=fun k j=>NT (NV ws k) (NV ws j)) fs u g (fun k d j f i hi a b c p q=>wo (un k d) (un j f) (un i hi) (fr k d j f a) (fr j f i hi b) (fr k d i hi c) (l k d j f) (l j f i hi) (l k d i hi) p q)
 refine⟨t,n,fun w v=>?_,si nd n fun k d=>?_⟩
 ·obtain⟨k,d,rfl⟩:=Jp.mp v
  by_cases e:k=t
  ·exact .inl (by rw[e])
  ·have a:=(top k d).resolve_left e
   have b:=g t n k d (fun z=>e z.symm)
   rw[a]at b
   exact .inr ⟨a,b⟩
 ·rw[Li]
  constructor
  ·intro h
   by_cases e:k=t
   ·exact e
   ·have a:=(top k d).resolve_left e
    have:=h t n
    rw[a]at this
    cases this
  ·rintro rfl j f
   by_cases e:j=k
   ·rw[e,cV (un k d)];rfl
   ·have a:=(top j f).resolve_left e
    have b:=g k d j f (fun z=>e z.symm)
    rw[b,a];rfl
section
variable{X:Cx}{MP:List (Addr×Obj)}{σ:L2.St}{H:Hp}{s:IY}
theorem tI{h':Heap}{t':Nat}{e it:Addr}(I:Inv X MP σ H s)(k:∀b o,b≠e->b≠it->s.heap.get? b=MA o->h'.get? b=MA o)(g:cX X MP H e)(h:cX X MP H it):Inv X MP σ H { s with heap:=h',toks:=t' }:=by
 obtain⟨i,e1,_,e3,e4,j⟩:=g;obtain⟨l,f,_,p,t,w⟩:=h;have ne:∀b u,H b=MA u->b≠e/\b≠it:=fun b u q=>⟨fun z=>(by rw[z,i]at q;cases q),fun z=>(by rw[z,l]at q;cases q)⟩;have d:∀{b:Addr},b∉[e,it]->b≠e/\b≠it:=fun{b} a=>⟨fun z=>a (by simp[z]),fun z=>a (by simp[z])⟩;refine I.step (g':=s.gens) (d':=s.drawn) (ch:=[e,it]) (fun b x=>?_) (fun b o _ _ a q _=>k b o (d a).1 (d a).2 q) (fun b o _ _ a q _=>⟨o.slots,k b o (d a).1 (d a).2 q⟩) (fun _ _ _ _ n=>n) (fun b o a q=>⟨o,k b o (d a).1 (d a).2 q⟩) (fun _ _ q=>q) (fun _ _ _ q=>q) (fun b ps q=>⟨#[],by rw[q];simp⟩) (fun m A=>?_) (fun b u q=>?_) I.bare
 ·rcases(show b=e\/b=it by simpa using x)with rfl|rfl
  ·exact⟨e3,e1,e4,j⟩
  ·exact⟨p,f,t,w⟩
 ·obtain⟨o,es,ep,B,r⟩:=A;exact⟨o,es,ep,k _ o (Ne.symm e1) (Ne.symm f) B,r⟩
 ·refine(I.hok b u q).ix (fun c v a z=>?_) (fun _ z=>z) fun _ _ z=>z;rcases a with y|y
  ·subst y;exact k _ v (ne _ u q).1 (ne _ u q).2 z
  ·exact k c v (ne c _ y).1 (ne c _ y).2 z
end
theorem pT(c:Nat){prog:Jl}{w:JL}{A:JQ}{it:Addr}{fp:List Addr}{n:Nat}{P:Nat->I0->Prop}{St:Nat->Heap->Prop}(D:Draws prog w A it fp n P St):Draws prog w A it fp (n+c) (fun j x=>∃i,j=i+c/\P i x) (fun j h=>∃i,j=i+c/\St i h) where
 live:=fun j h a=>by
  obtain⟨i,_,st⟩:=a
  exact D.live i h st
 frame:=fun j h b a k=>by
  obtain⟨i,e,st⟩:=a
  exact⟨i,e,D.frame i h b st k⟩
 item:=fun j s Q E m a f=>by
  obtain⟨i,e,st⟩:=a
  exact D.item i s Q E (by omega) st fun x b g p d l=>f x b g ⟨i,e,p⟩ ⟨i+1,by omega,d⟩ l
 done:=fun s Q E a hE=>by
  obtain⟨i,e,st⟩:=a
  obtain rfl:i=n:=by omega
  exact D.done s Q E st hE
theorem rD{prog:Jl}{w:JL}{A:JQ}(b:A.handled=MB)(it l:Addr)(c:l≠it)(items:Array I0){i:Nat}(d:items[i]?=MB):Draws prog w A it [it,l] i (fun _ _=>False) (fun j h=>j=i/\h.IsListIter it l i/\h.IsList l items) where
 live:=fun _ _ st=>by
  obtain⟨o,f,_⟩:=st.2.1
  exact⟨o,f⟩
 frame:=fun _ _ _ st a=>⟨st.1,st.2.1.at fun o e=>a it (by simp) o e,st.2.2.at fun o e=>a l (by simp) o e⟩
 item:=fun j s Q E g st _=>absurd st.1 (by omega)
 done:=fun s Q E st hE=>wpAny_nextOf_list_end b st.2.1 st.2.2 d hE
def XD(K:IW)(c:Nat)(a:Addr):It:=
 ⟨fun i H=>∃xs x,NZ K H a xs/\xs[i]?=MA x,fun i H x b=>∃T y,x=.ref T/\H T=MB/\b=upd H T (.tup [.int ((i+c:Nat):Int),y])/\∀xs,NZ K H a xs->xs[i]?=MA y,fun i H=>∃xs,NZ K H a xs/\xs.length<=i⟩
theorem vK(c:Nat){P:Jl}{w:JL}{K:IW}{F:List Expr}{kt}{pt:Pos}(a e it:Addr)(r:e≠it):Turn P w K (.Tuple F kt pt) (XD K c a) [e,it] e (fun i h=>(∃g,IsEnum h e it ((i+c:Nat):Int) g)/\h.IsListIter it a i) where
 mem:=by simp
 obj:=fun i h st b G=>by
  rcases(show b=e\/b=it by simpa using G)with rfl|rfl
  ·obtain⟨⟨g,q⟩,_⟩:=st
   exact⟨_,q,fun v z=>by
    have z':Data.fields _=Data.cell v:=z
    cases z'⟩
  ·obtain⟨o,q,_,d⟩:=st.2
   exact⟨o,q,fun v z=>by rw[d]at z;cases z⟩
 keep:=fun i h h' st k=>by
  obtain⟨⟨g,q⟩,st⟩:=st
  exact⟨⟨g,k e (by simp) _ q⟩,st.at fun o z=>k it (by simp) o z⟩
 item:=by
  intro X O Q R S i MP s σ H E I M st T
  subst O Q R
  obtain⟨xs,x,N,U⟩:=T
  obtain⟨m,V,p,hz⟩:=I.list N
  obtain⟨u,hu,ru⟩:=V.get U
  obtain⟨⟨g,t⟩,j⟩:=st
  have le:e<s.heap.objs.size:=Jc t
  have li:it<s.heap.objs.size:=by obtain⟨o,q,_⟩:=j;exact Jc q
  have y:a≠it:=fun z=>by
   subst z
   obtain⟨o1,W,Y,_⟩:=j
   obtain⟨o2,y1,B,_⟩:=p.isList
   rw[W]at y1;cases y1
   rw[Y]at B;exact absurd (Value.type.inj B) (by decide)
  have Z:e≠a:=fun z=>by
   subst z
   obtain⟨o2,y1,B,_⟩:=p.isList
   rw[show s.heap.get? e=_ from t]at y1;cases y1
   exact absurd (Value.type.inj B) (by decide)
  have C:X.A.in1.handled=MB:=I.ok.hd S
  have b0:i<m.length:=(Ja.mp hu).1
  refine wpAny_pyNext_enum_itemD (i:=i+c) (pT c (Draws.list C it a y m.toArray)) t ⟨i,rfl,j,p.isList⟩ (by simp;omega) r (by simp[r,Z]) fun x0 h1 D l ho J hT c0 hk=>?_
  obtain⟨i0,d0,l⟩:=l
  obtain rfl:i=i0:=by omega
  obtain⟨i1,e0,L⟩:=J
  obtain rfl:i1=i+1:=by omega
  obtain rfl:u=x0:=by
   have l:m[i]?=MA x0:=by simpa using l
   rw[hu]at l;cases l;rfl
  refine⟨_,rfl,wpAny_letOwnedTupleGo_enum (s:={ s with heap:=h1,toks:=D+1 }) ho fun h2 a0 n=>?_⟩
  have n:Lk e h1 h2:=n
  have fr:=I.fresh
  have I1:Inv X MP σ (upd H s.heap.objs.size (.tup [.int ((i+c:Nat):Int),x])) { s with heap:=s.heap.push { cls:=.type "tuple",data:=.seq #[.int ((i+c:Nat):Int) D,u] },toks:=s.toks }:=
   I.laid (fun b v q=>J3 _ q) (J1 _) ⟨NS rfl,[.int ((i+c:Nat):Int) D,u],.cons ⟨_,rfl⟩ (.cons ru .nil),⟨_,J8 _ rfl,rfl,_,rfl⟩,⟨_,J8 _ rfl,rfl⟩⟩
  have fk:∀{b:Addr},b<s.heap.objs.size->cX X MP H b->cX X MP (upd H s.heap.objs.size (.tup [.int ((i+c:Nat):Int),x])) b:=fun{b} lt f=>⟨by rw[aX (JK lt)];exact f.1,f.2⟩
  have fe:=fk le (M e (by simp))
  have fi:=fk li (M it (by simp))
  have I2:Inv X MP σ (upd H s.heap.objs.size (.tup [.int ((i+c:Nat):Int),x])) { s with heap:=h2,toks:=D+1 }:=by
   refine tI (s:={ s with heap:=s.heap.push { cls:=.type "tuple",data:=.seq #[.int ((i+c:Nat):Int) D,u] },toks:=s.toks }) I1 (fun b o ne ni q=>?_) fe fi
   have q:(s.heap.push { cls:=.type "tuple",data:=.seq #[.int ((i+c:Nat):Int) D,u] }).get? b=MA o:=q
   refine(n.2 b ne).trans ?_
   rcases Heap.get?_push_cases q with⟨rfl,rfl⟩|q
   ·exact hT
   ·exact hk b o ne ni q
  refine⟨.ref s.heap.objs.size,_,I2,rfl,⟨_,x,rfl,fr,rfl,fun ys hy=>by rw[I.iW hy N];exact U⟩,⟨⟨u,?_⟩,L.1.at fun o z=>(n.2 it r.symm).trans z⟩,fun b G=>?_⟩
  ·rw[show((i+1+c:Nat):Int)=((i+c:Nat):Int)+1 by omega];exact a0
  ·rcases(show b=e\/b=it by simpa using G)with rfl|rfl
   ·exact fe.1
   ·exact fi.1
 done:=by
  intro X O Q R S i MP s σ H E I M st T
  subst O Q R
  obtain⟨xs,N,U⟩:=T
  obtain⟨m,V,p,hz⟩:=I.list N
  obtain⟨⟨g,t⟩,j⟩:=st
  obtain⟨f0,f1,f2,f3,f4,f5⟩:=M it (by simp)
  have hl:=V.length
  have y:a≠it:=fun z=>by
   subst z
   obtain⟨o1,W,Y,_⟩:=j
   obtain⟨o2,y1,B,_⟩:=p.isList
   rw[W]at y1;cases y1
   rw[Y]at B;exact absurd (Value.type.inj B) (by decide)
  have C:X.A.in1.handled=MB:=I.ok.hd S
  exact wpAny_pyNext_enum_endD (rD C it a y m.toArray (i:=i) (by simp;omega)) t ⟨rfl,j,p.isList⟩ fun h' eb=>⟨rfl,I.turned (t':=s.toks) (fun b o G q=>eb b o G q) f0 f1 f3 f4 f5⟩
 self:=fun _ _ _ _ _ st h=>let⟨⟨_,t⟩,_⟩:=st;wpAny_pyIter_enum t h
theorem oO:Ka "enumerate"=MA (.type "enumerate"):=by decide +kernel
section
variable{X:Cx}{elts:List Expr}{kt:Nat}{pt:Pos}
theorem Ap(c:Nat){K:IW}{H1:Hp}{l:Addr}{es:List D}:Uz K H1 ⟨es.length,fun i=>(es[i]?).map fun d=>.tup [.int ((i+c:Nat):Int),d],fun M=>M l=MA (.lst es)⟩ (XD K c l):=by
 refine⟨fun n e o b f=>?_,fun i n e hi o b f=>?_,?_⟩
 ·obtain⟨a,g,h⟩:=b _ _ (show e l=MA (.lst es)from f);exact⟨a,NZ.of g,by rw[<-h.length];exact J1 _⟩
 ·obtain⟨a,g,h⟩:=b _ _ (show e l=MA (.lst es)from f);have j:i<a.length:=by rw[<-h.length];exact hi
  exact⟨a,a[i],NZ.of g,by simp[j]⟩
 ·rintro i n e v p hi o b f ⟨T,y,rfl,k,rfl,g⟩;have hi:i<es.length:=hi;obtain⟨a,m,h⟩:=b _ _ (show e l=MA (.lst es)from f);obtain⟨x,e1,e2⟩:=h.get (show es[i]?=MA es[i] by simp[hi]);have:=g a (NZ.of m);rw[e1]at this;cases this;exact⟨.new k,b.new k,.tup [.int ((i+c:Nat):Int),es[i]],by simp[hi],by rw[Rep];exact⟨T,_,rfl,N1.of aW,.cons (by rw[Rep]) (.cons (e2.mono (.new k)) .nil)⟩⟩
end
end SD
namespace HT
open PySem PyProof.Rows
section
open PySem.SeqAt
open PySem.AutoSeq1 (wpAny_loadPart')
open PySem.MeetsSeq PySem.MeetsSeq2 PySem.MeetsSeq3
theorem mG(l:Addr)(items:Array I0)(n:Nat)(q:Option Addr)(r:Array (Option I0))(x:I0)(j:Nat)(B:j<items.size) :
 Meets (Ls.«tuple.index» ⟨[.ref l,x],[]⟩) fun A R s=>s.heap.get? l=MA { cls:=.type "tuple",dict:=q,data:=.seq items n,slots:=r }/\(∀(i:Nat) (hi:i<items.size),i<=j->EqAt A.in1 s items[i] x (decide (i=j)))/\R (.ok (.ret (.int (j:Int) s.toks))) { s with toks:=s.toks+1 }:=
 .of_wp fun prog w A R s h=>by
  obtain⟨t,g,d,u,os⟩:=s;obtain⟨v,k,h⟩:=h
  unfold Ls.«tuple.index»
  simp only[Std.Legacy.Range.forIn_eq_forIn_range']
  wp_walk using KI v,wpAny_forIn_list _ (fun c b o=>b=(MB,())/\o=⟨t,g,d,u,os⟩/\∃m,m<=j/\c=List.range' m (items.size-m) 1) _
  case turn=>
   rintro a c b o ⟨rfl,rfl,m,p,e⟩
   have hs:items.size-m=(items.size-m-1)+1:=by omega
   rw[hs,List.range'_succ]at e
   injection e with y z
   subst y z
   have f:a<items.size:=by omega
   rw[Jt f]
   refine cc (k a f p prog w _ _ ?_)
   by_cases e1:a=j
   ·subst e1
    rw[MI rfl]
    wp_walk
    exact⟨_,rfl,h⟩
   ·rw[MG e1]
    wp_walk
    exact⟨rfl,rfl,a+1,by omega,by rw[show items.size-a-1=items.size-(a+1) by omega]⟩
  case fin=>
   rintro b o ⟨rfl,rfl,m,p,e⟩
   have hs:items.size-m=(items.size-m-1)+1:=by omega
   rw[hs,List.range'_succ]at e
   cases e
  exact⟨rfl,rfl,0,by omega,by simp[Std.Legacy.Range.size]⟩
end
end HT
namespace SD
open PySem PySem.Spec PyProof.Rows L2
section
variable{X:Cx}
def Gp(c:TD)(t:Np):TD:=fun δ M Q=>c δ M fun x e=>∃a,x=.tup a/\t δ e fun f b=>∃d p,∃j:Nat,f=[d]/\j<a.length/\Pd b d p/\Ln p=MC/\
 (∀(i:Nat) (y:D),i<=j->a[i]?=MA y->∃q,Pd b y q/\PyData.canLay0 q=MC/\K1 q p=decide (i=j))/\Q (.int (j:Int)) b
def FI(K:IW):V->List V->Hp->VK->Prop:=fun x vs H Q=>∃a b M v d p,∃j:Nat,x=.ref a/\vs=[v]/\NW K H M/\Rep K H (.tup b) x/\Rep K H d v/\j<b.length/\Pd M d p/\Ln p=MC/\
 (∀(i:Nat) (y:D),i<=j->b[i]?=MA y->∃q,Pd M y q/\PyData.canLay0 q=MC/\K1 q p=decide (i=j))/\Q (.int (j:Int)) H
theorem DZ(hu:X.A.units+66<Kf):XC X "tuple.index" (FI X.K):=by
 intro MP s σ H x vs v us Q I B C D;obtain⟨a,l,M,v1,d,p,j,ex,E,u,w,hd,G,J,f,g,q⟩:=D;subst ex E;cases B;obtain⟨L,rfl,N⟩:=C.one;rw[Rep]at w;obtain⟨a',xs,ea,O,y⟩:=w;cases ea;obtain⟨c,h,⟨o,z,P,n,R⟩,hz⟩:=I.tuple O;obtain⟨as,S⟩:=bN I u J hd N;have b:c.length=l.length:=by rw[<-h.length,y.length]
 obtain⟨oc,od,T,osl⟩:=o;cases P;cases R;refine call_meets PySem.F.slot_tuple_index ⟨_,z,rfl⟩ PySem.F.entry_tuple_index (PySem.F.args_tuple_index_2 _ _) (HT.mG a c.toArray n od osl L j (by simpa[b]using G)) ⟨z,fun i hi m=>?_,?_⟩
 ·have k:i<l.length:=by simpa[b]using hi
  obtain⟨U,V,W,Y⟩:=g i l[i] m (J0 k);obtain⟨x1,e1,r⟩:=y.get (J0 k);obtain⟨Z,e2,t⟩:=h.get e1;obtain⟨bs,q2⟩:=bN I u V r t
  have e3:c.toArray[i]=Z:=by
   have:=Ja.mp e2
   obtain⟨_,e⟩:=this
   simpa using e
  rw[e3,<-Y];have hm:min U.depth p.depth<=63+1:=Ke (Nat.min_le_right _ _) (SeqAt.depth_of_shaped f);exact PySem.SeqAt.eqAt_reads _ _ _ _ _ _ _ _ q2 S W (LF f) (by show X.A.units+1+_<Kf;omega)
 ·exact⟨.int _,H,I.tok _,⟨_,rfl⟩,q⟩
theorem EV{o e1:Expr}{m:TE}{t:TA}{c bj:Pos}(r:X.A.units+66<Kf)(u:PE X o m)(w:PA X [e1] t)
 (d:attributeBase o "index" X.env (eval o X.env)=eval o X.env)
 (j:((KO bj (Jd [e1] X.env)).all (fun x=>!x.1)&&(backToKw bj (Mi [] X.env)).all (fun x=>x.1.isSome)
  && decide ([e1].length+([]:List Keyword).length+(if([]:List Keyword).isEmpty then 0 else 1)<30))=MC)
 (f:(c.endLine==bj.line)=MC) (hs:Jd [e1] X.env=(MD,eval e1 X.env)::Jd [] X.env) (b:(KO bj (Jd [] X.env)).any (·.1)=MD) :
 PE X (.Call (.Attribute o "index" c) [e1] [] bj) (fun σ H Q=>m σ H fun x H1=>(∃p xs,x=.ref p/\N1 X.K H1 p xs)/\t σ H1 fun vs k=>FI X.K x vs k Q):=by
 intro MP s σ H Q I h
 refine wpAny_Call_method_late d j f rfl (NQ (u MP s σ H _ I h) fun v y g=>?_)
 obtain⟨x,H1,l,z,⟨p,xs,ex,n⟩,B⟩:=g
 subst ex
 cases z
 obtain⟨C,_,⟨D,E,G,_⟩,_⟩:=l.tuple n
 obtain⟨J,L,M⟩:=l.CU n
 refine⟨"tuple","tuple.index",PySem.F.plainAttrs_tuple,PySem.F.slot_tuple_index,PySem.F.type_tuple_index,⟨D,E,G⟩,fun a e=>by cases e;exact⟨J,L,M⟩,?_⟩
 have q:=w bj MP y σ H1 _ l B
 rw[hs]at q ⊢
 refine Calls.callWith_builtin (by show(MD||(KO bj (Jd [] X.env)).any (·.1))=MD;rw[b]<;>rfl) (Calls.evalArgs_plain ?_)
 exact NQ q fun us N i=>by obtain⟨vs,k,O,P,R⟩:=i;exact(DZ r MP N σ k (.ref p) vs (.ref p) us Q O rfl P R)
variable{o e1:Expr}{to:TD}{t:Np}{apos bj:Pos}
theorem sR(z:X.A.units+66<Kf)(B:DE X o to)(C:DA X [e1] t)
 (c:attributeBase o "index" X.env (eval o X.env)=eval o X.env:=by rfl)
 (h:((KO bj (Jd [e1] X.env)).all (fun x=>!x.1)&&(backToKw bj (Mi [] X.env)).all (fun x=>x.1.isSome)
  && decide ([e1].length+([]:List Keyword).length+(if([]:List Keyword).isEmpty then 0 else 1)<30))=MC:=by rfl)
 (e:(apos.endLine==bj.line)=MC:=by rfl) (hs:Jd [e1] X.env=(MD,eval e1 X.env)::Jd [] X.env:=by rfl) (b:(KO bj (Jd [] X.env)).any (·.1)=MD:=by rfl) :
 DE X (.Call (.Attribute o "index" apos) [e1] [] bj) (Gp to t):=
 a9 (EV z B C c h e hs b) fun σ H Q ⟨δ,M,R,i,D,q,l⟩=>by
  refine⟨δ,M,_,i,D,q,fun x E v H1 u m F f=>?_⟩
  obtain⟨G,ex,I⟩:=f
  subst ex
  have n:=m
  rw[Rep]at m
  obtain⟨a,xs,rfl,J,U⟩:=m
  refine⟨⟨a,xs,rfl,J⟩,δ,E,_,i.mono u,F,I,fun V K us W w L y g=>?_⟩
  obtain⟨d,p,j,N,O,P,r,k,S⟩:=g
  subst N
  obtain⟨T,rfl,s⟩:=cF L
  exact⟨a,G,K,T,d,p,j,rfl,rfl,y,n.mono w,s,O,P,r,k,l _ _ _ _ (u.trans w) (by rw[Rep]) y S⟩
def Hg(te:TD):Nj:=fun δ M Q=>te δ M fun x a=>∃l xs,x=.ref l/\a l=MA (.lst xs)/\Q (!xs.isEmpty) a
theorem CQ{e:Expr}{te:TD}(he:DE X e te)(hw:∀a,isTrue e X.env a=(do let v <-a;standAt e.pos;holding [v] (truthy v)):=by intro _;rfl):DT X e (Hg te):=
 l3 (xa he hw) fun σ H Q ⟨δ,M,R,hs,g,q,b⟩=>⟨δ,M,_,hs,g,q,fun x n v H1 h d f ⟨l,xs,ex,i,j⟩=>by
  subst ex
  rw[Rep]at d;subst d
  obtain⟨c,k,m⟩:=f _ _ i
  refine⟨_,.inl ⟨c,NZ.of k,rfl⟩,?_⟩
  have e:c.isEmpty=xs.isEmpty:=by
   have:=m.length
   cases xs<;>cases c<;>simp at this ⊢
  rw[e]
  exact b _ _ _ h f j⟩
end
open PySem PySem.W PySem.Spec PySem.Calls PyProof.Rows Builtin Builtin.ObjectAttr Builtin.Getset_descriptor
section
variable{P:Jl}{w:JL}{K:IW}{mg:Str->Option I0}{base:Heap}{N:List Str}{qual:Str}{scope:LR}{f:Addr}{cd:I0}{A:JQ}{outer:List Env}{s:IY}{H:Hp}{E:XK}
end
section
variable{X:Cx}{pos:Pos}
variable{x:Str}{e1 e2:Expr}{kt:Nat}{tp np:Pos}{t:Np}
def FQ(t:TA):TE:=fun σ H Q=>t σ H fun vs H1=>∃n:Nat,vs=[.int (n:Int)]/\∀p,H1 p=MB->Q (.ref p) (upd H1 p (.rng 0 (n:Int)))
theorem CY{a:Expr}{d:TA}{p:Pos}(i:Gl X "range")(j:X.mg "range"=MB)(k:PA X [a] d)(hs:Jd [a] X.env=[(MD,eval a X.env)]:=by rfl):PE X (.Call (.Name "range" p) [a] [] pos) (FQ d):=by intro MP s σ H Q I h;refine wpAny_Call_Name_kw (jj I i j boot_range (LD (NQ (k pos MP s σ H _ I h) fun us f c=>?_) hs rfl));obtain⟨vs,H1,g,l,n,m,q⟩:=c;subst m;obtain⟨u,rfl,t,rfl⟩:=vals1 l;refine call_range_1 ?_;have r:=g.hok.fresh (J1 f.heap.objs.size);exact⟨.ref _,_,g.laid (a:=f.heap.objs.size) (o:=.rng 0 (n:Int)) (fun b u e=>J3 _ e) (J1 _) ⟨_,_,_,J8 _ rfl⟩,rfl,q _ r⟩
theorem tW:∀(n:Nat) (l:List I0),l.length=n->(∀(j:Nat) (v:I0),l[j]?=MA v->∃t,v=Lf (j:Int) t)->Vals ((J6 n).map fun i:Nat=>V.int (i:Int)) l:=by
 intro n l b h
 have key:∀(m:Nat) (l:List I0),(∀(j:Nat) (v:I0),l[j]?=MA v->∃t,v=Lf ((m+j:Nat):Int) t)->Vals ((List.range' m l.length).map fun i:Nat=>V.int (i:Int)) l:=by
  intro m l
  induction l generalizing m with
  |nil=>intro _;exact .nil
  |cons a l c=>
   intro h
   rw[Jr,List.range'_succ,J5]
   refine .cons (h 0 a rfl) (c (m+1) fun j v e=>?_)
   obtain⟨t,q⟩:=h (j+1) v (by simpa using e)
   exact⟨t,by rw[q];congr 1;omega⟩
 have:=key 0 l (fun j v e=>by simpa using h j v e);rw[b,<-List.range_eq_range']at this;exact this
theorem tH(g:X.calm=MC):bO X (.type "list") (fun xs H Q=>∃a,∃n:Nat,xs=[.ref a]/\H a=MA (.rng 0 (n:Int))/\n<=1000000/\∀p,H p=MB->Q (.ref p) (upd H p (.lst ((J6 n).map fun i:Nat=>V.int (i:Int))))):=by
 intro MP s σ H xs us Q I r h;obtain⟨a,n,ex,k,C,q⟩:=h;subst ex;obtain⟨u,rfl,l⟩:=vals1 r;cases (show u=L9 a from l);obtain⟨t,u,v,e⟩:=I.hok a _ k;have m:Builtin.Range.rangeSize 0 (n:Int) 1=(n:Int):=by rw[rangeSize_one];split<;>omega
 refine call_list_range (I.ok.hd g) e (small_one (by omega) (by omega) (by omega) (by omega)) m (by omega) fun D w c y kp z b=>?_;obtain⟨d,f⟩:=b;have A:=I.hok.fresh (J1 s.heap.objs.size);have B:Vals ((J6 n).map fun i:Nat=>V.int (i:Int)) c.toList:=tW n c.toList (by simpa using d) fun j v e=>by obtain⟨t,q⟩:=f j v (by simpa using e);exact⟨t,by rw[q];congr 1;omega⟩
 refine⟨.ref _,_,I.laid (a:=s.heap.objs.size) (o:=.lst ((J6 n).map fun i:Nat=>V.int (i:Int))) (t':=w) kp (J1 _) ⟨?_,c.toList,y,B,by simpa using z⟩,rfl,q _ A⟩;have sz:1000000<=Jb:=NS rfl;simp;omega
def Hu(t:Np):TD:=fun δ M Q=>t δ M fun b a=>∃n:Nat,b=[.int (n:Int)]/\n<=1000000/\∀p,a p=MB->Q (.ref p) (aC a p (.lst ((J6 n).map fun i:Nat=>D.int (i:Int))))
theorem tP{K:IW}{H:Hp}(n:Nat):aK K H ((J6 n).map fun i:Nat=>D.int (i:Int)) ((J6 n).map fun i:Nat=>V.int (i:Int)):=by have:=dQ (K:=K) (H:=H) ((J6 n).map fun i:Nat=>(i:Int));rw[KC,KC]at this;exact this
theorem qm{e:Expr}{f g lp:Pos}(r:X.calm=MC)(s:X.mg "list"=MB)(h:X.mg "range"=MB)(u:DA X [e] t)(i:Gl X "list":=by rfl)(j:Gl X "range":=by rfl)(hs:Jd [e] X.env=[(MD,eval e X.env)]:=by rfl)
 (c:Jd [.Call (.Name "range" f) [e] [] g] X.env=(MD,eval (.Call (.Name "range" f) [e] [] g) X.env)::Jd [] X.env:=by rfl) (d:(KO pos (Jd [] X.env)).any (·.1)=MD:=by rfl) :
 DE X (.Call (.Name "list" lp) [.Call (.Name "range" f) [e] [] g] [] pos) (Hu t):=
 a9 (je (tH r) i s oB (kj (CY j h u hs) pC c) (by decide) (by decide) c d) fun σ H Q ⟨δ,M,R,hs,w,q,k⟩=>by
  refine⟨δ,M,_,hs,w,q,fun E F vs H1 y z m a=>?_⟩
  obtain⟨n,A,B,C⟩:=a
  subst A
  obtain⟨v,rfl,o⟩:=cF z
  rw[Rep]at o;subst o
  refine⟨n,rfl,fun p l=>⟨p,n,rfl,aW,B,fun D b=>?_⟩⟩
  exact k _ _ _ _ ((y.trans (.new l)).trans (.new b)) (by rw[Rep]) ((m.new l).jK b (tP n)) (C D ((m.new l).fresh b))
end
def two(a t1 b c d:Expr)(scope:LR)(pos:Pos):Expr:=.ListComp a [⟨t1,b,[],0⟩,⟨c,d,[],0⟩] scope pos
theorem FT(a t1 d e c:Expr)(scope:LR)(pos:Pos)(it b:I0)(env:Env):compTurn (two a t1 d e c scope pos) 0 it b env=(do
 standAt d.pos
 match <-Mu it with
 |none=>pure (.done .next)
 |some v=>
  Lc t1 it v
  Mt t1 env v
  let x <-eval c env
  standAt c.pos
  let x <-JH c env x
  let _ <-runOwn (.compStart (two a t1 d e c scope pos) 1 (<-holding [x] (pyIter x)) b env) env
  again (.compLoop (two a t1 d e c scope pos) 0 it b env)):=by rfl
theorem GX(a t1 e c d:Expr)(scope:LR)(pos:Pos)(it b:I0)(env:Env):compTurn (two a t1 e c d scope pos) 1 it b env=(do
 standAt d.pos
 match <-Mu it with
 |none=>pure (.done .next)
 |some v=>
  Lc c it v
  Mt c env v
  (do let _ <-call (.builtin "list.append") [b,<-eval a env])
  again (.compLoop (two a t1 e c d scope pos) 1 it b env)):=by rfl
section
variable{prog:Jl}{w:JL}{A:JQ}{R:Result->IY->Prop}{s:IY}{elt t1 i1 t2 i2:Expr}{scope:LR}{pos:Pos}{it acc:I0}{env:Env}
theorem EG(c:Ll (Jg prog w) A (.compLoop (two elt t1 i1 t2 i2 scope pos) 1 it acc env) R s)
 (h:J7 (Jg prog w) A (pyIter it) (fun a b=>Ll (Jg prog w) A (.compLoop (two elt t1 i1 t2 i2 scope pos) 1 a acc env) R b) (notedBy (Jg prog w) A env fun x b=>R (.error x) b) s) :
 Ll (Jg prog w) A (.compStart (two elt t1 i1 t2 i2 scope pos) 1 it acc env) R s:=by
 refine codeAny_of_tree ?_
 show J7 _ _ ((compStart (two elt t1 i1 t2 i2 scope pos) 1 it acc env).onRaise (fun x=>do noteFrame x env;standAt theWindowsPlace)) _ _ s
 refine wpAny_notedAt ?_
 unfold compStart
 show J7 _ _ (ask >>= _) _ _ s
 refine cc (wpAny_askSetting (wpAny_ite ?_))
 split
 ·first
   |exact cc (IX (IX (And.intro rfl c)))
   |exact IX (And.intro rfl c)
 ·refine cc (wpAny_rule ?_)
  show J7 _ _ (standAt i2.pos >>= _) _ _ s
  exact cc (KQ (cc (Je h (fun a b d=>IX (And.intro rfl d)) fun _ _ x=>x)))
theorem Gf(J:Nat->IY->Prop)
 (step:∀n s,J n s->J7 (Jg prog w) A (Mu it) (fun r b=>match r with
  |none=>R (.ok .next) b
  |some v=>J7 (Jg prog w) A (Lc t2 it v) (fun _ c=>J7 (Jg prog w) A (Mt t2 env v) (fun _ d=>
   J7 (Jg prog w) A (eval elt env) (fun x f=>J7 (Jg prog w) A (call (.builtin "list.append") [acc,x]) (fun _ g=>∃m,m<n/\J m g) Nh f) Nh d) Nh c) Nh b) Nh s)
 (n:Nat) (h:J n s):Ll (Jg prog w) A (.compLoop (two elt t1 i1 t2 i2 scope pos) 1 it acc env) R s:=by
 have a:∀{E:I0->IY->Prop} e i,Nh e i->E e i:=fun _ _ z=>z.elim
 refine codeAny_loop rfl J (fun n s k=>?_) n h
 show J7 _ _ (Sem.onRaise (compTurn (two elt t1 i1 t2 i2 scope pos) 1 it acc env) (fun x=>do noteFrame x env;theTreesLotGoes x)) _ _ s
 refine wpAny_noted ?_
 rw[GX]
 refine cc (KQ (cc (Je (step n s k) (fun r b j=>?_) a)))
 cases r with
 |none=>exact IX j
 |some v=>
  refine cc (Je j (fun _ c l=>cc (Je l (fun _ d o=>?_) a)) a)
  exact cc (cc (Je o (fun x f p=>cc (Je p (fun _ g q=>IX (IX ⟨rfl,q⟩)) a)) a))
theorem Gb(J:Nat->IY->Prop)(c:∀x,JH i2 env x=pure x)
 (step:∀n s,J n s->J7 (Jg prog w) A (Mu it) (fun r d=>match r with
  |none=>R (.ok .next) d
  |some v=>J7 (Jg prog w) A (Lc t1 it v) (fun _ g=>J7 (Jg prog w) A (Mt t1 env v) (fun _ i=>
   J7 (Jg prog w) A (eval i2 env) (fun x j=>J7 (Jg prog w) A (pyIter x) (fun a k=>Ll (Jg prog w) A (.compStart (two elt t1 i1 t2 i2 scope pos) 1 a acc env) (fun r l=>match r with
    |.ok _=>∃m,m<n/\J m l
    |.error e=>False) k) Nh j) Nh i) Nh g) Nh d) Nh s)
 (n:Nat) (h:J n s):Ll (Jg prog w) A (.compLoop (two elt t1 i1 t2 i2 scope pos) 0 it acc env) R s:=by
 have b:∀{E:I0->IY->Prop} e o,Nh e o->E e o:=fun _ _ z=>z.elim
 refine codeAny_loop rfl J (fun n s t=>?_) n h
 show J7 _ _ (Sem.onRaise (compTurn (two elt t1 i1 t2 i2 scope pos) 0 it acc env) (fun x=>do noteFrame x env;theTreesLotGoes x)) _ _ s
 refine wpAny_noted ?_
 rw[FT]
 refine cc (KQ (cc (Je (step n s t) (fun r d p=>?_) b)))
 cases r with
 |none=>exact IX p
 |some v=>
  refine cc (Je p (fun _ g u=>cc (Je u (fun _ i y=>cc (Je y (fun x j B=>?_) b)) b)) b)
  refine cc (KQ ?_)
  rw[c]
  refine cc (IX ?_)
  refine cc (K9 (Je B (fun a k C=>?_) b))
  refine cc (wpAny_runOwn (Mh C (fun r l q=>?_)))
  cases r with
  |ok f=>exact IX ⟨rfl,q⟩
  |error e=>exact q.elim
end
def GR(js:List Nat)(wi2:TI)(te:TE)(σ:L2.St)(J:It)(H1:Hp)(Q:VK):Prop:=∀D,H1 D=MB->∃W:Nat->Nat->Hp->Prop,(∃m,W 0 m (upd H1 D (.lst [])))/\∀i m H,W i m H->
 (J.stop i H/\Q (.ref D) H)\/(J.go i H/\∀y c,J.yld i H y c->∀o,wi2 (cσ [MA y,o] js σ) c fun b h=>∃U:Nat->Nat->Hp->Prop,(∃n,U 0 n h)/\∀j n a,U j n a->
  (b.stop j a/\∃d,d<m/\W (i+1) d a)\/(b.go j a/\∀z e,b.yld j a z e->te (cσ [MA y,MA z] js σ) e fun v f=>∃xs,f D=MA (.lst xs)/\xs.length<Jb/\∃g,g<n/\U (j+1) g (upd f D (.lst (xs++[v])))))
def Cg(js:List Nat)(a wi2:TI)(te:TE):TE:=fun σ H Q=>a σ H fun J H1=>GR js wi2 te σ J H1 Q
section
variable{X:Cx}{x y:Str}{px py pos:Pos}{js:List Nat}{scope:LR}{elt i1 i2:Expr}{te:TE}{wi wi2:TI}{MP:List (Addr×Obj)}{σ:L2.St}{H:Hp}{s:IY}{fp:List Addr}{it:Addr}{tn:Nat->Heap->Prop}{J:It}
theorem Ab(c:NM X [x,y] js scope)(hc:X.calm=MC)(p1:∀C s H fp,PI (NU X [x,y] js scope C s H fp) (.Name y py) i2 wi2)(q1:∀(env:Env) x,JH i2 env x=pure x)(he:∀C s H fp,PE (NU X [x,y] js scope C s H fp) elt te)
 {R:I0->Addr->Result->IY->Prop} {E:I0->IY->Prop} {Q:VK}
 (I:Inv X MP σ H s) (T:Turn X.prog X.w X.K (.Name x px) J fp it tn) (st:tn 0 s.heap) (hf:∀b∈fp,cX X MP H b) (wc:GR js wi2 te σ J H Q)
 (hR:∀D C f F,Inv X MP σ f F->cX X MP f C->(∃m,F.heap.Ns C m)->Q (.ref D) f->R (.ref D) C (.ok .next) F) :
 J7 (Jg X.prog X.w) X.A (newList []) (fun s0 t0=>J7 (Jg X.prog X.w) X.A (newFunctionEnv scope X.env.globals (fD scope.names X.env) [] X.env.qual MB .none (MA X.env)) (fun N v0=>
  Ll (Jg X.prog X.w) X.A (.compStart (two elt (.Name x px) i1 (.Name y py) i2 scope pos) 0 (.ref it) s0 { N with scope:=relabel scope X.env }) (R s0 N.locals) v0) E t0) E s:=by
 have r1:∀C s H fp,PG (NU X [x,y] js scope C s H fp) (.Name x px) (gc 0):=fun _ _ _ _=>iB c 0 rfl
 have s1:∀C s H fp,PG (NU X [x,y] js scope C s H fp) (.Name y py) (gc 1):=fun _ _ _ _=>iB c 1 rfl
 have x0:∀b∈fp,b<s.heap.objs.size:=fun b a=>let⟨o,e,_⟩:=T.obj 0 _ st b a;Jc e
 have hD:H s.heap.objs.size=MB:=I.hok.fresh (J1 _)
 refine JG (oJ ?_)
 generalize hh:s.heap.push { cls:=.type "list",dict:=MB,data:=.seq ([]:List I0).toArray }=g
 generalize y0:pushCells (({ s with heap:=g }:IY).heap.push { cls:=.type "dict",data:=.dict #[] }) scope.names=h
 have k3:∀b o,s.heap.get? b=MA o->g.get? b=MA o:=fun b o e=>by rw[<-hh];exact J3 _ e
 have I3:Inv X MP σ (upd H s.heap.objs.size (.lst [])) { s with heap:=g }:=by
  refine I.laid (t':=s.toks) k3 (J1 _) ?_
  refine⟨Kb _,[],0,.nil,?_⟩
  rw[<-hh]
  exact J8 _ rfl
 have k:∀b∈fp,cX X MP (upd H s.heap.objs.size (.lst [])) b:=fun b a=>⟨by rw[aX (JK (x0 b a))];exact(hf b a).1,(hf b a).2⟩
 have t1:g.objs.size=s.heap.objs.size+1:=by rw[<-hh,KH]
 have z0:∀b∈fp,b<g.objs.size:=fun b a=>by rw[t1];exact Mj (x0 b a)
 have k4:∀b o,g.get? b=MA o->h.get? b=MA o:=fun b o e=>by rw[<-y0];exact pushCells_keeps _ _ b o (J3 _ e)
 have I4:=lZ c I3 k z0 (h':=h) y0.symm k4
 obtain⟨W,⟨m0,w0⟩,b1⟩:=wc _ hD
 have Pa:tn 0 h:=T.keep 0 _ _ st fun b a o e=>k4 b o (k3 b o e)
 generalize hX:NU X [x,y] js scope g.objs.size { s with heap:=g } (upd H s.heap.objs.size (.lst [])) fp=X' at I4
 have S:∀{pins':List (Addr×Obj)} {f:Hp} {l:L2.St} {F:IY},Inv X' [] l f F->(∀b∈fp,f b=MB)->∀b∈fp,cX X' [] f b:=fun{pins' f l F} J' hn b a=>by
  subst hX
  obtain⟨a1,a2⟩:=J'.ok.exf b a
  exact⟨hn b a,a1,J'.ok.exfs b a,.inl a,a2,fun p hp=>absurd (show p∈([]:List (Addr×Obj))from hp) (by simp)⟩
 have O:Ll (Jg X.prog X.w) X.A (.compLoop (two elt (.Name x px) i1 (.Name y py) i2 scope pos) 0 (.ref it) (.ref s.heap.objs.size) (j8 scope g.objs.size X.env)) (R (.ref s.heap.objs.size) g.objs.size)
  { s with heap:=h }:=by
  refine Gb (fun n F=>∃i os f,os.length=2/\Inv X' [] (cσ os js σ) f F/\tn i F.heap/\(∀b∈fp,f b=MB)/\W i n f) (fun x=>q1 _ x) ?_ m0 ⟨0,_,_,by simp,I4,Pa,fun b a=>(k b a).1,w0⟩
  rintro n s5 ⟨i,os,H5,u1,I5,Oc,c1,w5⟩
  rcases b1 i n H5 w5 with⟨stop,q⟩|⟨go,step⟩
  ·subst hX
   refine Je (T.done (NU X [x,y] js scope g.objs.size { s with heap:=g } (upd H s.heap.objs.size (.lst [])) fp) rfl rfl rfl hc i [] s5 _ H5 Nh I5 (S (pins':=[]) I5 c1) Oc stop) (fun r s6 z6=>?_) fun _ _ z=>z
   obtain⟨Y,I6⟩:=z6
   subst Y
   refine hR _ _ H5 s6 (I3.yg I6.os I6.base I6.hok I6.bare fun b a=>⟨(k b a).2.2.2.1,(k b a).2.1,(k b a).2.2.2.2.1,(k b a).2.2.2.2.2⟩) (I3.sU (J1 _) I6.free) (let⟨m,hm,_⟩:=I6.loc;⟨m,hm⟩) q
  ·subst hX
   refine Je (T.item (NU X [x,y] js scope g.objs.size { s with heap:=g } (upd H s.heap.objs.size (.lst [])) fp) rfl rfl rfl hc i [] s5 _ H5 Nh I5 (S (pins':=[]) I5 c1) Oc go) (fun r s6 z6=>?_) fun _ _ z=>z
   obtain⟨u,Y,h6⟩:=z6
   subst Y
   refine Je h6 (fun _ s7 z7=>?_) fun _ _ z=>z
   obtain⟨yv,H7,I7,r7,y7,Of,v1⟩:=z7
   have w1:=I7.pinned (S (pins':=[]) I7 v1) (T.obj _ _ Of)
   obtain⟨o0,o1,rfl⟩:∃o0 o1,os=[o0,o1]:=by
    exact yl u1
   refine Je (r1 _ _ _ _ _ s7 _ H7 yv u (fun l f=>l=cσ [MA yv,o1] js σ/\f=H7) w1 r7 ⟨rfl,rfl⟩) (fun _ s8 Z=>?_) fun _ _ z=>z
   obtain⟨m3,H8,I8,e8,x1⟩:=Z
   subst e8 x1
   have d1:∀{m':Nat} {o2:Option V} {t:Hp} {B:IY},Inv (NU X [x,y] js scope g.objs.size { s with heap:=g } (upd H s.heap.objs.size (.lst [])) fp) ([]++gH fp s7.heap) (cσ [MA yv,o2] js σ) t B->m'<n->W (i+1) m' t->
    ∃m,m<n/\∃i os f,os.length=2/\Inv (NU X [x,y] js scope g.objs.size { s with heap:=g } (upd H s.heap.objs.size (.lst [])) fp) [] (cσ os js σ) f B/\tn i B.heap/\(∀b∈fp,f b=MB)/\W i m f:=fun{m' o2 t B} G a0 y1=>by
    refine⟨m',a0,i+1,_,t,rfl,G.d3,T.keep _ _ _ Of fun b a o e=>(G.pin (b,o) (Ji _ (Ji _ (bI a e)))).1,fun b a=>?_,y1⟩
    obtain⟨o',e,d⟩:=T.obj _ _ Of b a
    exact(G.pin (b,o') (Ji _ (Ji _ (bI a e)))).2.1
   refine Je (p1 _ _ _ _ _ s8 _ _ _ I8 (step yv H8 y7 o1)) (fun v2 s9 h9=>Je h9 (fun n3 B z1=>?_) fun _ _ z=>z) fun _ _ z=>z
   obtain⟨b2,c2,d2,J2,t,e2,G,T2,Oh,M,U,⟨n0,u0⟩,b0⟩:=z1
   subst e2
   have L:Ll (Jg X.prog X.w) X.A (.compLoop (two elt (.Name x px) i1 (.Name y py) i2 scope pos) 1 (.ref b2) (.ref s.heap.objs.size) (j8 scope g.objs.size X.env)) (fun r s6=>match r with
    |.ok _=>∃m,m<n/\∃i os f,os.length=2/\Inv (NU X [x,y] js scope g.objs.size { s with heap:=g } (upd H s.heap.objs.size (.lst [])) fp) [] (cσ os js σ) f s6/\tn i s6.heap/\(∀b∈fp,f b=MB)/\W i m f
    |.error e=>False) B:=by
    refine Gf (fun n2 F=>∃j o2 f,Inv (NU X [x,y] js scope g.objs.size { s with heap:=g } (upd H s.heap.objs.size (.lst [])) fp) ([]++gH fp s7.heap) (cσ [MA yv,o2] js σ) f F/\d2 j F.heap/\(∀b∈c2,f b=MB)/\U j n2 f) ?_ n0 ⟨0,o1,t,G,Oh,fun b a=>(M b a).1,u0⟩
    rintro n2 e1 ⟨j,o2,c0,f1,Og,P,f2⟩
    rcases b0 j n2 c0 f2 with⟨d0,m',a0,w'⟩|⟨g2,e0⟩
    ·refine Je (T2.done (NU X [x,y] js scope g.objs.size { s with heap:=g } (upd H s.heap.objs.size (.lst [])) fp) rfl rfl rfl hc j _ e1 _ c0 Nh f1 (fun b a=>⟨P b a,(M b a).2⟩) Og d0) (fun r h2 f0=>?_) fun _ _ z=>z
     obtain⟨Y,j2⟩:=f0
     subst Y
     exact d1 j2 a0 w'
    ·refine Je (T2.item (NU X [x,y] js scope g.objs.size { s with heap:=g } (upd H s.heap.objs.size (.lst [])) fp) rfl rfl rfl hc j _ e1 _ c0 Nh f1 (fun b a=>⟨P b a,(M b a).2⟩) Og g2) (fun r h2 g0=>?_) fun _ _ z=>z
     obtain⟨u2,Y,k2⟩:=g0
     subst Y
     refine Je k2 (fun _ m2 h0=>?_) fun _ _ z=>z
     obtain⟨zv,g1,p2,q2,r2,O5,h1⟩:=h0
     have j1:=p2.pinned (fun b a=>⟨h1 b a,(M b a).2⟩) (T2.obj _ _ O5)
     refine Je (s1 _ _ _ _ _ m2 _ g1 zv u2 (fun l f=>l=cσ [MA yv,MA zv] js σ/\f=g1) j1 q2 ⟨rfl,rfl⟩) (fun _ s2 i0=>?_) fun _ _ z=>z
     obtain⟨i3,t2,w2,x2,k1⟩:=i0
     subst x2 k1
     refine Je (he _ _ _ _ _ s2 _ _ _ w2 (e0 zv t2 r2)) (fun v y2 k0=>?_) fun _ _ z=>z
     obtain⟨vv,z2,a3,b3,ys,m1,n1,c3⟩:=k0
     refine Je (jN (X:=(NU X [x,y] js scope g.objs.size { s with heap:=g } (upd H s.heap.objs.size (.lst [])) fp)) _ y2 _ z2 (.ref s.heap.objs.size) [vv] (.ref s.heap.objs.size) [v] (fun _ f=>∃n',n'<n2/\U (j+1) n' f) a3 rfl (.cons b3 .nil) ⟨_,ys,vv,rfl,rfl,m1,n1,c3⟩) (fun _ o3 l0=>?_) fun _ _ z=>z
     obtain⟨_,e3,r0,_,n',f3,g3⟩:=l0
     refine⟨n',f3,j+1,_,e3,r0.d3,T2.keep _ _ _ O5 fun b a o e=>(r0.pin (b,o) (Ji _ (Ji _ (bI a e)))).1,fun b a=>?_,g3⟩
     obtain⟨o',e,d⟩:=T2.obj _ _ O5 b a
     exact(r0.pin (b,o') (Ji _ (Ji _ (bI a e)))).2.1
   exact EG L (T2.self X.A 0 _ _ _ Oh L)
 exact codeAny_compStart_list O (T.self X.A 0 _ _ _ Pa O)
theorem Et(c:NM X [x,y] js scope)(l:X.calm=MC)(hi:PI X (.Name x px) i1 wi)(g:∀C s H fp,PI (NU X [x,y] js scope C s H fp) (.Name y py) i2 wi2)(he:∀C s H fp,PE (NU X [x,y] js scope C s H fp) elt te) (hs:∀x,JH i1 X.env x=pure x:=by intro _;rfl) (i:∀(env:Env) x,JH i2 env x=pure x:=by intro _ _;rfl) : PE X (two elt (.Name x px) i1 (.Name y py) i2 scope pos) (Cg js wi wi2 te):=by intro MP s σ H Q I h;unfold two;rw[eval_ListComp];refine wpAny_comprehension_free (use:=MB) rfl hs (c.AY I.ok) c.kind c.names (NQ (hi MP s σ H _ I h) fun v F n=>NQ n fun p G a=>?_);obtain⟨it,fp,tn,J,K,e,r,T,st,t,w⟩:=a;subst e;refine Ab (R:=fun j C=>compPost (Jg X.prog X.w) X.A X.xe MB (EP X MP σ Q) j C) c l g i he r T st t w fun D C u z B f d q=>?_;obtain⟨m,E⟩:=d;exact⟨m,E,fun L k=>⟨.ref D,u,B.turned (t':=z.toks) (fun b o ne e=>k.extBut b o ne e) f.1 f.2.1 f.2.2.2.1 f.2.2.2.2.1 f.2.2.2.2.2,rfl,q⟩⟩
end
def Hd(I:Qt)(js:List Nat)(h:O3)(te:TD)(δ:DS)(g:MH)(Q:DK):Prop:=I.n<=1000/\∀p,g p=MB->∃W:Nat->List D->MH->Prop,W 0 [] (aC g p (.lst []))/\(∀i b M,i<=I.n->W i b M->I.C M)/\
 (∀i b d M,i<I.n->I.item i=MA d->W i b M->h (cδ [MA d,MB] js δ) M fun c k=>c.n<=1000/\∃U:Nat->List D->MH->Prop,U 0 b k/\(∀j a M,j<=c.n->U j a M->c.C M)/\
  (∀j a e M,j<c.n->c.item j=MA e->U j a M->te (cδ [MA d,MA e] js δ) M fun v l=>∃f,Sub f l/\f p=MA (.lst a)/\U (j+1) (a++[v]) (aC f p (.lst (a++[v]))))/\∀a M,U c.n a M->W (i+1) a M)/\∀b M,W I.n b M->Q (.ref p) M
def Ci(a:O3)(js:List Nat)(b:O3)(te:TD):TD:=fun δ M Q=>a δ M fun I c=>Hd I js b te δ c Q
theorem sI{K:IW}{H:Hp}{d:D}{v:V}(o:Option V)(r:Rep K H d v):Slots K H [MA d,MB] [MA v,o]:=by
 refine⟨rfl,fun i e h=>?_⟩
 match i,h with
 |0,h=>cases h;exact⟨v,rfl,r⟩
 |1,h=>cases h
theorem tG{K:IW}{H:Hp}{d e:D}{v u:V}(r:Rep K H d v)(q:Rep K H e u):Slots K H [MA d,MA e] [MA v,MA u]:=jF (.cons r (.cons q .nil))
theorem xD{K:IW}{wd MT:O3}{js:List Nat}{te:TD}{σ:L2.St}{H:Hp}{Q:VK}(h:lift K (Ci wd js MT te) σ H Q):Cg js (lz K wd) (lz K MT) (lift K te) σ H Q:=by
 obtain⟨δ,M,R,hs,hM,q,L⟩:=h;refine⟨δ,M,_,hs,hM,q,fun I M1 H1 J N a1 O P p S=>?_⟩;obtain⟨hn,O⟩:=O;obtain⟨W,w0,hC,C,done⟩:=O p (a1.fresh S);refine⟨fun i m t=>m=I.n-i/\i<=I.n/\NN K H1 t/\∃w M,w.length<=i*1000/\NW K t M/\W i w M,⟨I.n,by simp,Kb _,.new S,[],_,Kb _,a1.jK S .nil,w0⟩,?_⟩;rintro i m t ⟨rfl,hi,f,w,x,hl,F,D⟩;by_cases a:i<I.n
 ·refine .inr ⟨P.go i t x a f F (hC _ _ _ hi D),fun v H3 hy o=>?_⟩;obtain⟨T,a3,d,ed,rd⟩:=P.yld i t x v H3 a f F (hC _ _ _ hi D) hy;have q3:=C i w d x a ed D;refine⟨cδ [MA d,MB] js δ,x,_,kn (js:=js) (hs.mono ((N.trans f).trans T)) (sI o rd),a3,q3,fun y M4 H4 J2 V a4 X g=>?_⟩;obtain⟨a0,U,u0,k,l,r⟩:=X;refine⟨fun j n z=>n=y.n-j/\j<=y.n/\NN K H4 z/\∃A M,A.length<=i*1000+j/\NW K z M/\U j A M,⟨y.n,by simp,Kb _,.refl,w,M4,by omega,a4,u0⟩,?_⟩;rintro j n z ⟨rfl,Y,s,A,B,b0,G,E⟩;by_cases b:j<y.n
  ·refine .inr ⟨g.go j z B b s G (k _ _ _ Y E),fun u H6 Z=>?_⟩;obtain⟨g6,a6,e,ee,re⟩:=g.yld j z B u H6 b s G (k _ _ _ Y E) Z;have s6:=kn (js:=js) (hs.mono (((((N.trans f).trans T).trans V).trans s).trans g6)) (tG (rd.mono ((V.trans s).trans g6)) re);refine⟨cδ [MA d,MA e] js δ,B,_,s6,a6,l j A e B b ee E,fun vv M' uu H7 g7 r7 a7 c=>?_⟩;obtain⟨M8,s8,e8,w8⟩:=c;obtain⟨ts,hx,rs⟩:=(a7.sub s8) _ _ e8;refine⟨ts,hx,?_,y.n-(j+1),by omega,rfl,b,((s.trans g6).trans g7).trans (.lst hx),A++[vv],_,by simp;omega,(a7.sub s8).xJ hx (rs.append (.cons r7 .nil)),w8⟩;rw[<-rs.length];have sz:1000000<=Jb:=NS rfl;omega
  ·obtain rfl:j=y.n:=by omega
   exact .inl ⟨g.stop z B s G (k _ _ _ Y E),I.n-(i+1),by omega,rfl,a,((f.trans T).trans V).trans s,A,B,by omega,G,r _ _ E⟩
 ·obtain rfl:i=I.n:=by omega
  exact .inl ⟨P.stop t x f F (hC _ _ _ hi D),L _ _ _ _ (N.trans f) (by rw[Rep]) F (done w x D)⟩
section
variable{X:Cx}{x y:Str}{px py pos:Pos}{js:List Nat}{scope:LR}{elt i1 i2:Expr}{te:TD}{wd MT:O3}
theorem ze(c:NM X [x,y] js scope)(d:X.calm=MC)(hi:DI X (.Name x px) i1 wd)(a:∀C s H fp,DI (NU X [x,y] js scope C s H fp) (.Name y py) i2 MT)(he:∀C s H fp,DE (NU X [x,y] js scope C s H fp) elt te) (hs:∀x,JH i1 X.env x=pure x:=by intro _;rfl) (b:∀(env:Env) x,JH i2 env x=pure x:=by intro _ _;rfl) : DE X (.ListComp elt [⟨.Name x px,i1,[],0⟩,⟨.Name y py,i2,[],0⟩] scope pos) (Ci wd js MT te):=a9 (Et (te:=lift X.K te) (wi2:=lz X.K MT) c d hi a he hs b) fun _ _ _ h=>xD h
end
section
variable{prog:Jl}{w:JL}{A:JQ}{E:I0->IY->Prop}{s:IY}
theorem qG{c:Addr}{t:Tok}{Q:Int×Int×Nat->IY->Prop}(hs:s.heap.IsSliceOf c .none .none (.int (-1) t))(h:Q (1,-1,2) s):J7 (Jg prog w) A (LU (.ref c) (pure ((2:Nat):Int))) Q E s:=by obtain⟨os,a,d,b⟩:=id hs;unfold LU Builtin.Slice.sliceFields;refine cc (cc (wpAny_field a b (x:=.none) rfl (cc (wpAny_field a b (x:=.none) rfl (cc (wpAny_field a b (x:=.int (-1) t) rfl (IX ?_)))))));refine cc (HT.d6 (IsPart.int _ _) ?_);show J7 _ _ (if((-1:Int)==0)=MC then _ else _) _ _ s;rw[ME (by decide)];refine cc (HT.d6 IsPart.none (cc (HT.d6 IsPart.none (cc (IX ?_)))));exact IX h
theorem p9{t c:Addr}{x y:I0}{tk:Tok}{Q:I0->IY->Prop}(b:IsTup s.heap t #[x,y])(hs:s.heap.IsSliceOf c .none .none (.int (-1) tk))
 (h:Q (.ref s.heap.objs.size) { s with heap:=s.heap.push { cls:=.type "tuple",data:=.seq #[y,x] } }):J7 (Jg prog w) A (getItem (.ref t) (.ref c)) Q E s:=by
 obtain⟨os,d,e,g⟩:=id hs
 have f:s.TypeIs (.ref c) "slice":=⟨os,d,e⟩
 unfold getItem
 try with_reducible refine K9 ?_
 first|refine cc (IX ?_)|skip
 refine cc (wpAny_sequenceKey b.typeIs (by decide) ?_)
 refine cc (L4 (name:=KU "__getitem__") b.typeIs Kk
  (Kv Kk b.typeIs entry_tuple_getitem ?_ (args_tuple_getitem _ _)))
 show J7 _ _ (Builtin.Tuple.tupleItemsOf (.ref t) >>= _) _ _ s
 refine cc (tupleItemsOf_ b ?_)
 refine cc (wpAny_typeOf f ?_)
 rw[MF (by decide)]
 refine cc (qG hs ?_)
 have a:sizeOk (.seq #[y,x]):=NS rfl
 first
  |exact cc (m:=Ki _) (JG (IX ⟨_,rfl,IX h⟩) a)
  |exact cc (m:=Ki _) (JG (cc (IX (IX ⟨_,rfl,IX h⟩))) a)
  |exact cc (cc (m:=Ki _) (JG (IX (IX ⟨_,rfl,IX h⟩)) a))
  |exact cc (cc (m:=Ki _) (JG (IX ⟨_,rfl,IX h⟩) a))
end
section
variable{X:Cx}{e st:Expr}{pos p2:Pos}
def Iw(K:IW)(te:TE)(c:TO):TE:=fun σ H Q=>te σ H fun x H1=>c σ H1 fun o b=>o=MA (-1)/\∃a u v,x=.ref a/\N1 K b a [u,v]/\∀p,b p=MB->Q (.ref p) (upd b p (.tup [v,u]))
theorem EN{te:TE}{p:TO}(he:PE X e te)(hs:PO X (MA st) p):PE X (.Subscript e (.Slice MB MB (MA st) p2) pos) (Iw X.K te p):=by
 intro MP s σ H Q I h;refine Subscript_ (NQ (he MP s σ H _ I h) fun v z d=>?_);obtain⟨x,H1,B,C,D⟩:=d;refine wpAny_Slice ?_;rw[evalPart_none];refine IX (IX (NQ (hs MP z σ H1 _ B D) fun vs c f=>?_));obtain⟨o,E,F,ps,G,a,u,t,ex,J,L⟩:=f;subst G ex;cases C;obtain⟨g,rfl⟩:∃g,vs=Lf (-1) g:=by cases ps;exact⟨_,rfl⟩
 have k:Inv X MP σ E { c with heap:=c.heap.push { cls:=.type "slice",data:=.fields #[.none,.none,.int (-1) g] } }:=F.kept (t':=c.toks) fun b M q=>J3 _ q;obtain⟨l,r,y,R⟩:=k.tuple J
 obtain⟨i,j,rfl,m,n⟩:∃i j,l=[i,j]/\RelV u i/\RelV t j:=by
  cases r with
  |cons N r=>cases r with
   |cons O r=>cases r;exact⟨_,_,rfl,N,O⟩
 have P:J7 (Jg X.prog X.w) X.A (getItem (.ref a) (.ref c.heap.objs.size)) (EP X MP σ Q) X.xe { c with heap:=c.heap.push { cls:=.type "slice",data:=.fields #[.none,.none,.int (-1) g] } }:=by refine p9 y (Heap.IsSliceOf.new ..) ?_;refine⟨.ref _,_,k.laid (t':=c.toks) (o:=.tup [t,u]) (fun b M q=>J3 _ q) (J1 _) ⟨NS rfl,[j,i],.cons n (.cons m .nil),IsTup.new _ _,R9.new _ _⟩,rfl,L _ (k.hok.fresh (J1 _))⟩
 show J7 (Jg X.prog X.w) X.A (subscriptTail e (.Slice MB MB (MA st) p2) (.ref a) (.ref c.heap.objs.size)) (EP X MP σ Q) X.xe { c with heap:=c.heap.push { cls:=.type "slice",data:=.fields #[.none,.none,.int (-1) g] } };exact tail_any (ops:=[.ref a,.ref c.heap.objs.size]) y.typeIs Kk.lookup P (by with_unfolding_all rfl)
def HK(te:TD)(a:SA):TD:=fun δ M Q=>te δ M fun x b=>a δ b fun o c=>o=MA (-1)/\∃d e,x=.tup [d,e]/\Q (.tup [e,d]) c
theorem CW{te k:TD}(he:DE X e te)(hs:DE X st k):DE X (.Subscript e (.Slice MB MB (MA st) p2) pos) (HK te (zj k)):=
 a9 (EN he (oD hs)) fun σ H Q c=>by obtain⟨δ,M,R,hs,a,q,f⟩:=c;exact(⟨δ,M,_,hs,a,q,fun x p v H1 l r s t=>⟨δ,p,_,hs.mono l,s,t,fun o B C m u g=>by
  obtain⟨w,d,e,ex,g⟩:=g
  subst w ex
  have n:=r.mono m
  rw[Rep]at n
  obtain⟨b,xs,rfl,y,A⟩:=n
  obtain⟨D,E,rfl,h,i⟩:=f6 A
  exact⟨rfl,_,_,_,rfl,y,fun z j=>f _ _ _ _ ((l.trans m).trans (.new j)) (by rw[Rep];exact⟨z,_,rfl,N1.of aW,aK.mono (.new j) (by
   rw[aK];exact⟨_,_,rfl,i,by rw[aK];exact⟨_,_,rfl,h,by rw[aK]⟩⟩)⟩) (u.new j) g⟩⟩⟩)
end
abbrev N5:=Int×Int×Int×Int
section
variable{P:Jl}{w:JL}
def sZ(P:Jl)(w:JL)(h:Heap)(n d:Int)(a:Addr):Prop:=IsTupleKey (Ms P w) h [n,d] a
def gA(P:Jl)(w:JL)(h:Heap)(k:N5)(a:Addr):Prop:=∃o b c m,h.get? a=MA o/\o.cls=.type "tuple"/\o.data=.seq #[.ref b,.ref c] m/\sZ P w h k.1 k.2.1 b/\sZ P w h k.2.2.1 k.2.2.2 c
theorem gA.inj{h:Heap}{a:Addr}{x y:N5}(p:gA P w h x a)(q:gA P w h y a):x=y:=by
 obtain⟨o,b,c,m,j,v,k,l,n⟩:=p;obtain⟨z,r,s,A,d,B,f,t,u⟩:=q;rw[j]at d;cases d;rw[k]at f;injection f with e _;have e1:b=r/\c=s:=by simpa using e
 obtain⟨rfl,rfl⟩:=e1;have g:=IsTupleKey.inj l t;have i:=IsTupleKey.inj n u;obtain⟨x1,C,D,E⟩:=x;obtain⟨y1,F,G,H⟩:=y;simp at g i;obtain⟨rfl,rfl⟩:=g;obtain⟨rfl,rfl⟩:=i;rfl
theorem gA.keeps{h h':Heap}{k:N5}{a d:Addr}{o:Obj}{es:Array Kp}{ep:Nat}(p:gA P w h k a)(hd:h.get? d=MA o)(he:o.data=.dict es ep)(e:Lk d h h'):gA P w h' k a:=by
 obtain⟨i,b,c,m,f,j,g,l,n⟩:=p;have ne:a≠d:=fun z=>by rw[z,hd]at f;cases f;rw[he]at g;cases g
 exact⟨i,b,c,m,(e.2 a ne).trans f,j,g,IsTupleKey.keeps l hd he e,IsTupleKey.keeps n hd he e⟩
def xT(P:Jl)(w:JL)(k:N5):Int:=reduceHash (Builtin.Tuple.tupleHashOf [tupleKeyHash (Ms P w) [k.1,k.2.1],tupleKeyHash (Ms P w) [k.2.2.1,k.2.2.2]])
theorem gA.hash{A:JQ}{E:I0->IY->Prop}{s:IY}{k:N5}{a:Addr}{Q:Int->IY->Prop}(l:A.units+4<Kf)(p:gA P w s.heap k a)(q:Q (xT P w k) { s with toks:=s.toks+7 }):J7 (Jg P w) A (pyHash (.ref a)) Q E s:=by
 obtain⟨o,b,c,m,e,f,h,i,j⟩:=p;obtain⟨n,g,d,r,os⟩:=s;show J7 _ _ (pyHashByItsType (.ref a)) _ _ _;refine PySem.W.pyHash_slot (T:="tuple") ⟨o,e,f⟩ F.slot_tuple_hash F.entry_tuple_hash (F.args_tuple_hash_1 _) rfl (.inr (by omega)) ?_;unfold Ls.«tuple.__hash__»;simp only[<-Array.forIn_toList]
 iterate 4 wp_step
 refine IX ?_;refine cc (wpAny_tupleItemsOf e h ?_);refine cc ?_;simp only[List.forIn_cons,List.forIn_nil,LM,bind_assoc];refine cc (wpAny_pyHash_tuple (knd:=Ms P w) (by show A.units+1<Kf;omega) i ?_);refine cc (wpAny_pyHash_tuple (knd:=Ms P w) (by show A.units+1<Kf;omega) j ?_);refine IX ?_;unfold retInt
 wp_walk
 exact⟨_,_,rfl,q⟩
theorem iI{n:Int}{v:I0}(h:(Ms P w).is n v=MC):∃t,v=.int n t:=by
 have h:Value.isInt n v=MC:=h;cases v with
 |int i t=>
  have:(i==n)=MC:=h
  exact⟨t,by rw[eq_of_beq this]⟩
 |_=>cases h
def Bs(n d:Int):Mv:=.tuple [.int n,.int d]
def pM(k:N5):Mv:=.tuple [Bs k.1 k.2.1,Bs k.2.2.1 k.2.2.2]
theorem sZ.reads{h:Heap}{n d:Int}{a:Addr}(p:sZ P w h n d a):∃e,Reads h (.ref a) (Bs n d) e:=by
 obtain⟨o,b,m,f,g,i,c⟩:=p;generalize j:b.toList=l at c;cases c with
 |cons k r=>
  cases r with
  |cons q r=>
   cases r
   obtain⟨t1,rfl⟩:=iI k
   obtain⟨s,rfl⟩:=iI q
   exact⟨_,.tuple f g i (by rw[j];exact .cons (.int _ _) (.cons (.int _ _) .nil))⟩
theorem gA.reads{h:Heap}{k:N5}{a:Addr}(p:gA P w h k a):∃d,Reads h (.ref a) (pM k) d:=by obtain⟨o,b,c,m,e,f,g,i,j⟩:=p;obtain⟨d,l⟩:=i.reads;obtain⟨bs,n⟩:=j.reads;exact⟨_,.tuple e f g (.cons l (.cons n .nil))⟩
theorem yJ(x y:N5):(pM x).eqv (pM y)=decide (x=y):=by obtain⟨x1,a,b,c⟩:=x;obtain⟨y1,d,e,f⟩:=y;simp only[pM,Bs,K1,Kj,Mr];rw[LA];simp[and_assoc]
theorem gA.eq{A:JQ}{E:I0->IY->Prop}{s:IY}{x y:N5}{a b:Addr}{Q:Bool->IY->Prop}(g:A.units+4<Kf)(p:gA P w s.heap x a)(c:gA P w s.heap y b)(q:Q (decide (x=y)) s):J7 (Jg P w) A (eqBool (.ref a) (.ref b)) Q E s:=by obtain⟨d,e⟩:=p.reads;obtain⟨bs,f⟩:=c.reads;have hd:min (pM x).depth (pM y).depth<=3:=Ke (Nat.min_le_left _ _) (NS rfl);have:=SeqAt.eqAt_reads (pM x) (pM y) A s (.ref a) (.ref b) d bs e f rfl rfl (by omega);rw[yJ]at this;exact this P w E Q q
theorem sZ.quiet{A:JQ}{E:I0->IY->Prop}{s:IY}{n d:Int}{a:Addr}{Q:Bool->IY->Prop}(i:Nat)(p:sZ P w s.heap n d a)(q:Q MC s):J7 (Jg P w) A (eqIsQuiet (i+1) (.ref a)) Q E s:=by
 obtain⟨o,b,m,c,e,g,f⟩:=p;rw[eqIsQuiet.eq_2];refine cc (wpAny_specialOf ⟨o,c,e⟩ F.slot_tuple_eq.lookup ?_);refine cc (wpAny_isInstance ⟨o,c,e⟩ isSubtype_tuple_tuple ?_);simp only[Lo,JS,if_false];refine cc (wpAny_seqItems c g ?_);simp only[Kd,<-Array.forIn_toList];generalize t:b.toList=l at f;cases f with
 |cons h r=>
  cases r with
  |cons j r=>
   cases r
   obtain⟨t1,rfl⟩:=iI h
   obtain⟨k,rfl⟩:=iI j
   refine cc ?_
   simp only[List.forIn_cons,List.forIn_nil,LM,bind_assoc,eqIsQuiet_byValue i (show carriedByValue (.int n t1)=MC from rfl),eqIsQuiet_byValue i (show carriedByValue (.int d k)=MC from rfl),Lo,JS,if_false]
   refine IX ?_
   exact IX q
theorem gA.quiet{A:JQ}{E:I0->IY->Prop}{s:IY}{k:N5}{a:Addr}{Q:Bool->IY->Prop}(p:gA P w s.heap k a)(q:Q MC s):J7 (Jg P w) A (eqIsQuiet 8 (.ref a)) Q E s:=by obtain⟨o,b,c,m,d,e,f,g,h⟩:=p;rw[eqIsQuiet.eq_2];refine cc (wpAny_specialOf ⟨o,d,e⟩ F.slot_tuple_eq.lookup ?_);refine cc (wpAny_isInstance ⟨o,d,e⟩ isSubtype_tuple_tuple ?_);simp only[Lo,JS,if_false];refine cc (wpAny_seqItems d f ?_);simp only[Kd,<-Array.forIn_toList];refine cc ?_;simp only[List.forIn_cons,List.forIn_nil,LM,bind_assoc];refine cc (g.quiet 6 ?_);simp only[Lo,JS,if_false,LM];refine cc (h.quiet 6 ?_);simp only[Lo,JS,if_false,LM];refine IX ?_;exact IX q
def eE(P:Jl)(w:JL):HeapKind P w N5 where
 is:=gA P w
 hash:=xT P w
 draws:=fun _=>7
 room:=fun A=>A.units+4<Kf
 inj:=fun p q=>p.inj q
 keeps:=fun p hd b c=>p.keeps hd b c
 pyHash:=fun a p q=>p.hash a q
 eqBool:=fun a p d q=>p.eq a d q
 quiet:=fun p q=>p.quiet q
end
section
variable{X:Cx}{MP:List (Addr×Obj)}{σ:L2.St}{H:Hp}{s:IY}{a b:Addr}{k:N5}
def du(K:IW)(H:Hp)(b:Addr)(k:N5):Prop:=∃f g,N1 K H b [.ref f,.ref g]/\N1 K H f [.int k.1,.int k.2.1]/\N1 K H g [.int k.2.2.1,.int k.2.2.2]
theorem B2{n d:Int}{f:Addr}(I:L2.Inv X MP σ H s)(h:N1 X.K H f [.int n,.int d]):sZ X.prog X.w s.heap n d f:=by
 obtain⟨c,r,e,_⟩:=I.tuple h;cases r with
 |cons g r=>cases r with
  |cons i r=>
   cases r
   obtain⟨t1,rfl⟩:=g
   obtain⟨q,rfl⟩:=i
   obtain⟨o,j,l,m,p⟩:=e
   exact⟨o,_,m,j,l,p,.cons (by show((n==n)=MC);simp) (.cons (by show((d==d)=MC);simp) .nil)⟩
theorem qA(I:L2.Inv X MP σ H s)(h:du X.K H b k):gA X.prog X.w s.heap k b:=by
 obtain⟨f,g,c,d,e⟩:=h;obtain⟨i,r,j,_⟩:=I.tuple c;cases r with
 |cons l r=>cases r with
  |cons n r=>
   cases r
   cases l
   cases n
   obtain⟨o,p,q,m,t⟩:=j
   exact⟨o,f,g,m,p,q,t,B2 I d,B2 I e⟩
abbrev Nu:=N5×Addr×V
def bW(P:Jl)(w:JL)(a:Addr)(xs:List Nu):Heap->Prop:=fun h=>(a==L0)=MD/\xs.length<=Jb/\(xs.map (·.1)).Nodup/\∃c:List (N5×Addr×I0),
 Mz (fun(p:Nu) (q:N5×Addr×I0)=>p.1=q.1/\p.2.1=q.2.1/\RelV p.2.2 q.2.2) xs c/\∃o es ep,h.get? a=MA o/\o.ExactDict/\o.data=.dict es ep/\es.toList=c.map (entryOfKey (eE P w))
def fP(xs:List Nu)(k:N5)(b:Addr)(v:V):List Nu:=if(xs.any fun x=>decide (x.1=k))=MC then xs.map (fun x=>if x.1=k then(x.1,x.2.1,v)else x)else xs++[(k,b,v)]
abbrev Qs:=fun(p:Nu) (q:N5×Addr×I0)=>p.1=q.1/\p.2.1=q.2.1/\RelV p.2.2 q.2.2
theorem i9{xs:List Nu}{c:List (N5×Addr×I0)}(r:Mz Qs xs c):c.map (·.1)=xs.map (·.1):=by
 induction r with
 |nil=>rfl
 |cons h t d=>rw[J5,J5,d,h.1]
theorem AM{xs:List Nu}{d:List (N5×Addr×I0)}(r:Mz Qs xs d)(k:N5):(xs.any fun x=>decide (x.1=k))=(atKey d k).isSome:=by
 induction r with
 |nil=>rfl
 |@cons p q ps qs h t ih=>
  rw[Lm]
  by_cases e:p.1=k
  ·have c:q.1=k:=h.1.symm.trans e;simp[atKey,JC,e,c]
  ·have c:¬q.1=k:=fun z=>e (h.1.trans z);rw[MG e,Bool.false_or,ih];simp[atKey,JC,c]
theorem gJ{xs:List Nu}{c:List (N5×Addr×I0)}(r:Mz Qs xs c)(k:N5)(b:Addr){v:V}{u:I0}(d:RelV v u):Mz Qs (fP xs k b v) (storedH c k b u):=by
 unfold fP storedH;rw[AM r k];by_cases e:(atKey c k).isSome=MC
 ·rw[MF e,MF e];clear e
  induction r with
  |nil=>exact .nil
  |@cons p q ps qs h t ih=>
   rw[J5,J5]
   refine .cons ?_ ih
   unfold putAt
   by_cases e:p.1=k
   ·rw[MF e,MF (h.1.symm.trans e)];exact⟨h.1,h.2.1,d⟩
   ·rw[ME e,ME (fun z=>e (h.1.trans z))];exact h
 ·rw[ME e,ME e];exact Paired.snoc r ⟨rfl,rfl,d⟩
theorem kA{xs:List Nu}{c:List (N5×Addr×I0)}(r:Mz Qs xs c):xs.length=c.length:=by
 induction r with
 |nil=>rfl
 |cons h t d=>rw[Jr,Jr,d]
theorem AJ{xs:List Nu}{c:List (N5×Addr×I0)}(r:Mz Qs xs c){q:N5×Addr×I0}(h:q∈c):∃p∈xs,p.1=q.1/\p.2.1=q.2.1:=by
 induction r with
 |nil=>cases h
 |cons d t f=>
  rcases Jv.mp h with z|z
  ·subst z;exact⟨_,by simp,d.1,d.2.1⟩
  ·obtain⟨p,g,e⟩:=f z;exact⟨p,by simp[g],e⟩
theorem l7(xs:List Nu)(k:N5)(b:Addr)(v:V):(fP xs k b v).length<=xs.length+1:=by
 unfold fP;split
 ·rw[IZ];omega
 ·simp
theorem oT{xs:List Nu}(I:L2.Inv X MP σ H s)(e:H a=MA (.ext (bW X.prog X.w a xs)))(d:∀x∈xs,du X.K H x.2.1 x.1):(a==L0)=MD/\xs.length<=Jb/\∃c,Mz Qs xs c/\s.heap.DictOfH (eE X.prog X.w) a c:=by obtain⟨⟨f,g,h,c,r,o,es,ep,i,j,l,m⟩,_⟩:=I.hok a _ e;refine⟨f,g,c,r,o,es,ep,i,j,l,m,fun x n=>?_,by rw[i9 r];exact h⟩;obtain⟨p,q,e1,e2⟩:=AJ r n;rw[<-e1,<-e2];exact qA I (d p q)
theorem km{P:Jl}{w:JL}{xs:List Nu}(c d:Heap)(h:bW P w a xs c)(k:∀o,c.get? a=MA o->d.get? a=MA o):bW P w a xs d:=by obtain⟨e,f,g,i,r,o,es,ep,j,q⟩:=h;exact⟨e,f,g,i,r,o,es,ep,k o j,q⟩
theorem Aq{A:JQ}{E:I0->IY->Prop}{Q:Unit->IY->Prop}{xs:List Nu}{v:V}{u:I0}(C:A.units+8<Kf)(I:L2.Inv X MP σ H s)(e:H a=MA (.ext (bW X.prog X.w a xs)))(i:∀x∈xs,du X.K H x.2.1 x.1)(j:du X.K H b k)(f:RelV v u)(D:xs.length<Jb)
 (h:∀g,L2.Inv X MP σ (upd H a (.ext (bW X.prog X.w a (fP xs k b v)))) g->Q () g):J7 (Jg X.prog X.w) A (setItem (.ref a) (.ref b) u) Q E s:=by
 obtain⟨hd,l,F,r,m⟩:=oT I e i
 refine wpAny_setItem_heap (knd:=eE X.prog X.w) (hsz:=by rw[<-kA r];exact l) (show A.in1.units+4<Kf by show A.units+1+4<Kf;omega) (qA I j) m fun G c hs=>h _ ?_
 obtain⟨q,es,ep,d,n,o,p,_,t⟩:=c
 refine jc I (by rw[e];exact True.intro) hs ⟨q,d⟩ ⟨⟨hd,?_,?_,_,gJ r k b f,q,es,ep,d,n,o,p⟩,⟨q,d⟩,fun z B x y=>km z B x y⟩
 ·have:=l7 xs k b v;omega
 ·rw[<-i9 (gJ r k b f)];exact t
theorem vm(I:L2.Inv X MP σ H s):L2.Inv X MP σ (upd H s.heap.objs.size (.ext (bW X.prog X.w s.heap.objs.size []))) { s with heap:=s.heap.push { cls:=.type "dict",data:=.dict #[] } }:=
 I.laid (a:=s.heap.objs.size) (t':=s.toks) (fun _ _ q=>J3 _ q) (J1 _)
  ⟨⟨beq_eq_false_iff_ne.mpr (Ne.symm (JK I.big)),Kb _,Mw,[],.nil,_,#[],0,J8 _ rfl,⟨rfl,rfl,rfl⟩,rfl,rfl⟩,⟨_,J8 _ rfl⟩,fun c d x y=>km c d x y⟩
def eM(xs:List Nu)(k:N5):Option V:=(xs.find? fun x=>decide (x.1=k)).map (·.2.2)
theorem oU{xs:List Nu}{d:List (N5×Addr×I0)}(r:Mz Qs xs d){v:V}(h:eM xs k=MA v):∃p:Addr×I0,atKey d k=MA p/\RelV v p.2:=by
 induction r with
 |nil=>cases h
 |@cons p q ps qs h' t ih=>
  by_cases e:p.1=k
  ·have c:q.1=k:=h'.1.symm.trans e;simp[eM,JC,e]at h;subst h;exact⟨q.2,by simp[atKey,JC,c],h'.2.2⟩
  ·have c:¬q.1=k:=fun z=>e (h'.1.trans z);have f:eM ps k=MA v:=by simpa[eM,JC,e]using h
   obtain⟨g,i,j⟩:=ih f;exact⟨g,by simpa[atKey,JC,c]using i,j⟩
theorem Be{A:JQ}{E:I0->IY->Prop}{Q:I0->IY->Prop}{xs:List Nu}{v:V}(m:A.units+8<Kf)(I:L2.Inv X MP σ H s)(e:H a=MA (.ext (bW X.prog X.w a xs)))(d:∀x∈xs,du X.K H x.2.1 x.1)(f:du X.K H b k)(g:eM xs k=MA v) (h:∀u c,L2.Inv X MP σ H c->RelV v u->Q u c):J7 (Jg X.prog X.w) A (getItem (.ref a) (.ref b)) Q E s:=by obtain⟨hd,n,o,r,i⟩:=oT I e d;obtain⟨p,j,l⟩:=oU r g;exact wpAny_getItem_heap (knd:=eE X.prog X.w) (show A.in1.units+4<Kf by show A.units+1+4<Kf;omega) (qA I f) i j (h _ _ (I.tok _) l)
end
section
variable{prog:Jl}{w:JL}{K:Type}[DecidableEq K]{knd:HeapKind prog w K}{A:JQ}{E:I0->IY->Prop}{s:IY}
theorem qk{d a:Addr}{xs:List (K×Addr×I0)}{k:K}{v:I0}{Q:I0->IY->Prop}(q:knd.room A)(b:knd.is s.heap k a)(t:s.heap.DictOfH knd d xs) (u:∀p,atKey xs k=MA p->Q p.2 { s with toks:=s.toks+knd.draws k }) (z:atKey xs k=MB->∀h',h'.DictOfH knd d (storedH xs k a v)->Lk d s.heap h'->Q v { s with heap:=h',toks:=s.toks+knd.draws k }) (hsz:xs.length<=Jb) : J7 (Jg prog w) A (dictSetDefault d (.ref a) v) Q E s:=by
 obtain⟨o,es,ep,f,B,hd,m,h,n⟩:=t;unfold dictSetDefault
 try with_reducible refine K9 ?_
 refine cc (knd.pyHash q b ?_);refine cc (wpAny_dictFind_heap (s:={ s with toks:=s.toks+knd.draws k }) q b f hd m h n ?_ ?_)
 ·intro i;have l:k∉xs.map (·.1):=not_mem_keys_of_get i;have g:=atKey_none_of_get i
  refine cc (wpAny_rule (cc (wpAny_updateDictKeys (hz:=by have e:=size_of_entries m;omega) (s:={ s with toks:=s.toks+knd.draws k }) f hd (IX (z g _ ⟨_,_,ep+1,Kx _ f (Obj.isFreed_of_dict (Obj.data_mapDictKeys hd _)),
   B.mapDictKeys _,Obj.data_mapDictKeys hd _,?_,?_,?_⟩ (Kl ..))))))
  ·rw[storedH_new g];simp[m,entryOfKey]
  ·rw[storedH_new g];intro x c;rcases Jo.mp c with c|c
   ·exact knd.keeps (h x c) f hd (Kl ..)
   ·have:x=(k,a,v):=by simpa using c
    subst this;exact knd.keeps b f hd (Kl ..)
  ·rw[storedH_new g,Jk,Lv];refine⟨n,by simp,?_⟩;intro x c y C;have:y=k:=by simpa using C
   subst this;exact fun e=>l (e▸c)
 ·intro j p r;have g:=atKey_of_get n r;refine cc (wpAny_dictEntries (s:={ s with toks:=s.toks+knd.draws k }) f hd ?_);rw[entry_at m j,r];exact cc (wpAny_rule (IX (u p g)))
theorem qc{d a:Addr}{xs:List (K×Addr×I0)}{k:K}{v:I0}{Q:I0->IY->Prop}(g:knd.room A.in1)(b:knd.is s.heap k a)(c:s.heap.DictOfH knd d xs)(hd:(d==L0)=MD)
 (h:∀p,atKey xs k=MA p->Q p.2 { s with toks:=s.toks+knd.draws k })
 (i:atKey xs k=MB->∀h',h'.DictOfH knd d (storedH xs k a v)->Lk d s.heap h'->Q v { s with heap:=h',toks:=s.toks+knd.draws k }) (hsz:xs.length<=Jb) :
 J7 (Jg prog w) A (call (.builtin "dict.setdefault") [.ref d,.ref a,v]) Q E s:=by
 refine Kv PySem.F.slot_dict_setdefault c.typeIs PySem.F.entry_dict_setdefault ?_ (PySem.F.args_dict_setdefault_3 _ _ _)
 unfold Ls.«dict.setdefault»
 refine cc ?_
 unfold Builtin.Dict.keyAndDefault
 refine cc (wpAny_notOrdered_dict c.typeIs ?_)
 show J7 _ _ (pure (d,L9 a,MA v)) _ _ s
 refine IX ?_
 show J7 _ _ (if(d==L0)=MC then _ else(dictSetDefault d (.ref a) v >>= _)) _ _ s
 rw[ME (by rw[hd];exact Jf)]
 exact cc (qk g b c (fun p j=>IX ⟨p.2,rfl,h p j⟩) (fun l h' e f=>IX ⟨v,rfl,i l h' e f⟩) hsz)
end
section
variable{X:Cx}{MP:List (Addr×Obj)}{σ:L2.St}{H:Hp}{s:IY}{a b:Addr}{k:N5}
theorem zq{xs:List Nu}{c:List (N5×Addr×I0)}(r:Mz Qs xs c)(h:eM xs k=MB):atKey c k=MB:=by
 induction r with
 |nil=>rfl
 |@cons p q ps qs h' t ih=>
  by_cases e:p.1=k
  ·simp[eM,JC,e]at h
  ·have d:¬q.1=k:=fun z=>e (h'.1.trans z);have f:eM ps k=MB:=by simpa[eM,JC,e]using h
   have:=ih f;simpa[atKey,JC,d]using this
theorem tm{A:JQ}{E:I0->IY->Prop}{Q:I0->IY->Prop}{xs:List Nu}{v:V}{u:I0}(O:A.units+8<Kf)(I:L2.Inv X MP σ H s)(e:H a=MA (.ext (bW X.prog X.w a xs)))(t:∀x∈xs,du X.K H x.2.1 x.1)(z:du X.K H b k)(n:RelV v u)(P:xs.length<Jb)
 (h:∀d o f,eM xs k=MA d->L2.Inv X MP σ H f->RelV d o->Q o f)
 (i:eM xs k=MB->∀f,L2.Inv X MP σ (upd H a (.ext (bW X.prog X.w a (fP xs k b v)))) f->Q u f):J7 (Jg X.prog X.w) A (call (.builtin "dict.setdefault") [.ref a,.ref b,u]) Q E s:=by
 obtain⟨hd,B,R,r,C⟩:=oT I e t
 refine qc (knd:=eE X.prog X.w) (show A.in1.units+4<Kf by show A.units+1+4<Kf;omega) (qA I z) C hd (fun p j=>?_) (fun D S l hs=>?_) (by rw[<-kA r];exact B)
 ·cases c:eM xs k with
  |none=>rw[zq r c]at j;cases j
  |some d=>
   obtain⟨F,g,G⟩:=oU r c
   rw[j]at g
   cases g
   exact h d _ _ c (I.tok _) G
 ·have c:eM xs k=MB:=by
   cases c:eM xs k with
   |none=>rfl
   |some d=>
    obtain⟨F,g,_⟩:=oU r c
    rw[D]at g;cases g
  refine i c _ ?_
  obtain⟨q,es,ep,m,J,L,M,_,N⟩:=l
  refine jc I (by rw[e];exact True.intro) hs ⟨q,m⟩ ⟨⟨hd,?_,?_,_,gJ r k b n,q,es,ep,m,J,L,M⟩,⟨q,m⟩,fun h i x y=>km h i x y⟩
  ·have:=l7 xs k b v;omega
  ·rw[<-i9 (gJ r k b n)];exact N
end
section
variable{X:Cx}
def Ff(X:Cx):TE:=fun _ H Q=>∀p,H p=MB->Q (.ref p) (upd H p (.ext (bW X.prog X.w p [])))
theorem zP{pos:Pos}:PE X (.Dict [] [] pos) (Ff X):=fun MP s σ H Q I h=>wpAny_Dict_empty ⟨.ref s.heap.objs.size,_,vm I,rfl,h _ (I.hok.fresh (J1 _))⟩
structure Rp(X:Cx)(H:Hp)(a b:Addr)(xs:List Nu)(k:N5):Prop where
 d:H a=MA (.ext (bW X.prog X.w a xs))
 ks:∀x∈xs,du X.K H x.2.1 x.1
 key:du X.K H b k
def EW(X:Cx)(d ty:TE):TE:=fun σ H Q=>d σ H fun x H1=>ty σ H1 fun y c=>∃a b xs k v,x=.ref a/\y=.ref b/\Rp X c a b xs k/\eM xs k=MA v/\Q v c
theorem xM{MP:List (Addr×Obj)}{σ:L2.St}{H:Hp}{s:IY}{a:Addr}{xs:List Nu}(I:L2.Inv X MP σ H s)(e:H a=MA (.ext (bW X.prog X.w a xs))):s.TypeIs (.ref a) "dict"/\∀b,L9 a=.ref b->∃o,s.heap.get? b=MA o/\o.dict=MB:=by obtain⟨⟨_,_,_,_,_,o,_,_,c,d,_⟩,_⟩:=I.hok a _ e;exact⟨⟨o,c,d.1⟩,fun b z=>by cases z;exact⟨o,c,d.2.1⟩⟩
theorem zk{o i:Expr}{e ty:TE}{pos:Pos}(g:X.A.units+8<Kf)(j:PE X o e)(hi:PE X i ty)(hs:Fw i):PE X (.Subscript o i pos) (EW X e ty):=by intro MP s σ H Q I h;refine Subscript_ (NQ (j MP s σ H _ I h) fun v l ⟨x,H1,m,n,p⟩=>NQ (hi MP l σ H1 _ m p) fun u G c=>?_);obtain⟨y,r,f,t,a,b,xs,k,w,ex,z,D,B,q⟩:=c;subst ex z;cases n;cases t;exact tail_any (xM f D.d).1 PySem.F.slot_dict_getitem.lookup (Be g f D.d D.ks D.key B fun J K C E=>⟨w,r,C,E,q⟩) (hs _ _)
def ET(X:Cx)(d ty e:TE):TS:=fun D σ H=>e σ H fun v H1=>d σ H1 fun x f=>ty σ f fun y c=>∃a b xs k,x=.ref a/\y=.ref b/\Rp X c a b xs k/\xs.length<Jb/\D.nx σ (upd c a (.ext (bW X.prog X.w a (fP xs k b v))))
theorem xV{o i c:Expr}{g ty j:TE}{pos e:Pos}(l:X.A.units+8<Kf)(m:PE X o g)(hi:PE X i ty)(n:PE X c j)(hs:LL c (MA (.Subscript o i e)) pos.line X.env=pure MD) : PS X (.Assign [.Subscript o i e] c pos) (ET X g ty j):=by intro MP s σ H D I h;refine wpAny_Assign_Subscript (NQ (n MP s σ H _ I h) fun r p ⟨v,H1,q,t,w⟩=>NQ (m MP p σ H1 _ q w) fun u z ⟨x,B,C,E,F⟩=>NQ (hi MP z σ B _ C F) fun O P f=>?_) hs;obtain⟨y,Q,G,J,a,b,xs,k,ex,K,A,L,M⟩:=f;subst ex K;cases E;cases J;exact Aq l G A.d A.ks A.key t L fun R N=>⟨σ,_,N,M⟩
def Hw(X:Cx)(f:TE)(t:TA):TE:=fun σ H Q=>f σ H fun x H1=>∃a c,x=.ref a/\H1 a=MA (.ext (bW X.prog X.w a c))/\t σ H1 fun vs d=>∃b v xs k,vs=[.ref b,v]/\Rp X d a b xs k/\xs.length<Jb/\
 (∀e,eM xs k=MA e->Q e d)/\(eM xs k=MB->Q v (upd d a (.ext (bW X.prog X.w a (fP xs k b v)))))
theorem AE{o e1 e2:Expr}{r:TE}{t:TA}{e bj:Pos}(z:X.A.units+8<Kf)(B:PE X o r)(C:PA X [e1,e2] t)
 (f:attributeBase o "setdefault" X.env (eval o X.env)=eval o X.env:=by rfl)
 (l:((KO bj (Jd [e1,e2] X.env)).all (fun x=>!x.1)&&(backToKw bj (Mi [] X.env)).all (fun x=>x.1.isSome)
  && decide ([e1,e2].length+([]:List Keyword).length+(if([]:List Keyword).isEmpty then 0 else 1)<30))=MC:=by rfl)
 (g:(e.endLine==bj.line)=MC:=by rfl) (hs:Jd [e1,e2] X.env=(MD,eval e1 X.env)::Jd [e2] X.env:=by rfl) (c:(KO bj (Jd [e2] X.env)).any (·.1)=MD:=by rfl) :
 PE X (.Call (.Attribute o "setdefault" e) [e1,e2] [] bj) (Hw X r t):=by
 intro MP s σ H Q I h
 refine wpAny_Call_method_late f l g rfl (NQ (B MP s σ H _ I h) fun v E i=>?_)
 obtain⟨x,H1,u,G,a,J,ex,K,L⟩:=i
 subst ex
 cases G
 obtain⟨M,N⟩:=xM u K
 refine⟨"dict","dict.setdefault",PySem.F.plainAttrs_dict,PySem.F.slot_dict_setdefault,PySem.F.type_dict_setdefault,M,N,?_⟩
 have w:=C bj MP E σ H1 _ u L
 rw[hs]at w ⊢
 refine Calls.callWith_builtin (by show(MD||(KO bj (Jd [e2] X.env)).any (·.1))=MD;rw[c]<;>rfl) (Calls.evalArgs_plain ?_)
 refine NQ w fun us Z j=>?_
 obtain⟨vs,O,P,R,b,S,xs,k,n,D,T,k1,U⟩:=j
 subst n
 obtain⟨u1,u2,rfl,p,m⟩:=R.two
 cases p
 exact tm z P D.d D.ks D.key m T (fun y u' V n q W=>⟨y,O,q,W,k1 y n⟩) (fun Y V q=>⟨S,_,q,m,U Y⟩)
end
def Pb(k:N5):D:=.tup [.tup [.int k.1,.int k.2.1],.tup [.int k.2.2.1,.int k.2.2.2]]
section
variable{K:IW}{H H':Hp}{M:MH}{a b:Addr}{k:N5}
theorem rk{v:V}(r:Rep K H (Pb k) v):∃b,v=.ref b/\du K H b k:=by unfold Pb at r;rw[Rep]at r;obtain⟨b,xs,rfl,l,m⟩:=r;obtain⟨s,t,rfl,c,d⟩:=f6 m;rw[Rep]at c d;obtain⟨f,fs,rfl,n,o⟩:=c;obtain⟨g,u,rfl,p,q⟩:=d;obtain⟨w,x,rfl,e,h⟩:=f6 o;obtain⟨y,z,rfl,i,j⟩:=f6 q;rw[Rep]at e h i j;subst e h i j;exact⟨b,rfl,f,g,l,n,p⟩
theorem zN(h:du K H b k):Rep K H (Pb k) (.ref b):=by
 obtain⟨f,g,d,e,i⟩:=h;unfold Pb;rw[Rep];refine⟨b,_,rfl,d,?_⟩;have c:∀(m n:Int),aK K H [D.int m,D.int n] [V.int m,V.int n]:=fun m n=>dQ [m,n];rw[aK];refine⟨_,_,rfl,?_,?_⟩
 ·rw[Rep];exact⟨f,_,rfl,e,c _ _⟩
 ·rw[aK];refine⟨_,_,rfl,?_,?_⟩
  ·rw[Rep];exact⟨g,_,rfl,i,c _ _⟩
  ·rw[aK]
theorem du.mono(g:NN K H H')(h:du K H b k):du K H' b k:=by obtain⟨c,e,r⟩:=rk ((zN h).mono g);cases e;exact r
abbrev Ny:=List (N5×D)
def R4(kvs:Ny):IW->Hp->Addr->Prop:=fun K H a=>∃xs:List Nu,(∀P w,H a=MA (.ext (bW P w a xs)))/\xs.map (·.1)=kvs.map (·.1)/\(∀x∈xs,du K H x.2.1 x.1)/\aK K H (kvs.map (·.2)) (xs.map (·.2.2))
theorem y9{kvs:Ny}(h:R4 kvs K H a)(g:NN K H H')(e:H' a=H a):R4 kvs K H' a:=by obtain⟨xs,c,d,f,i⟩:=h;exact⟨xs,fun P w=>e.trans (c P w),d,fun x j=>(f x j).mono g,i.mono g⟩
def OH(kvs:Ny):MO:=.gen (R4 kvs)
theorem NW.dsp{kvs:Ny}(h:NW K H M)(e:M a=MA (OH kvs)):R4 kvs K H a:=(h a _ e).1
theorem R4.zO{kvs:Ny}(h:R4 kvs K H a)(ne:H a≠MB):qO K H a (OH kvs):=⟨h,ne,fun H' g e=>y9 h g e⟩
theorem NW.Cm{p:Addr}(P:Jl)(w:JL)(h:NW K H M)(c:H p=MB):NW K (upd H p (.ext (bW P w p []))) (aC M p (OH [])):=fun a u e=>by
 by_cases ne:a=p
 ·subst ne;rw[ag]at e;cases e;exact R4.zO ⟨[],(fun P w=>aW),rfl,(fun x d=>by simp at d),(by simp[aK])⟩ (by rw[aW];simp)
 ·rw[aA ne]at e;exact(h a u e).ix (.new c) (aX ne)
def dJ(kvs:Ny)(k:N5):Option D:=(kvs.find? fun x=>decide (x.1=k)).map (·.2)
def putD(kvs:Ny)(k:N5)(d:D):Ny:=if(kvs.any fun x=>decide (x.1=k))=MC then kvs.map (fun x=>if x.1=k then(x.1,d)else x)else kvs++[(k,d)]
theorem oH(k:N5):∀{kvs:Ny} {xs:List Nu},xs.map (·.1)=kvs.map (·.1)->aK K H (kvs.map (·.2)) (xs.map (·.2.2))->(∀d,dJ kvs k=MA d->∃v,eM xs k=MA v/\Rep K H d v)/\(dJ kvs k=MB->eM xs k=MB)/\((xs.any fun x=>decide (x.1=k))=kvs.any fun x=>decide (x.1=k))
 |[],[],_,_=>⟨(fun d h=>by simp[dJ]at h),(fun _=>rfl),rfl⟩
 |[],x::xs,h,_=>by cases h
 |y::kvs,[],h,_=>by cases h
 |y::kvs,x::xs,h,r=>by
  rw[J5,J5]at h
  injection h with g i
  rw[J5,J5,aK]at r
  obtain⟨v,vs,e,j,l⟩:=r
  injection e with e1 e2
  subst e1 e2
  obtain⟨m,n,o⟩:=oH k i l
  by_cases e:y.1=k
  ·have c:x.1=k:=g.trans e
   refine⟨fun d hd=>?_,fun f=>?_,?_⟩
   ·simp[dJ,JC,e]at hd
    subst hd
    exact⟨x.2.2,by simp[eM,JC,c],j⟩
   ·simp[dJ,JC,e]at f
   ·simp[e,c]
  ·have c:¬x.1=k:=fun z=>e (g.symm.trans z)
   refine⟨fun d hd=>?_,fun f=>?_,?_⟩
   ·obtain⟨v,p,q⟩:=m d (by simpa[dJ,JC,e]using hd)
    exact⟨v,by simpa[eM,JC,c]using p,q⟩
   ·have:=n (by simpa[dJ,JC,e]using f)
    simpa[eM,JC,c]using this
   ·rw[Lm,Lm,o,MG e,MG c]
theorem uE(k:N5){d:D}{v:V}(r:Rep K H d v):∀{kvs:Ny} {xs:List Nu},xs.map (·.1)=kvs.map (·.1)->aK K H (kvs.map (·.2)) (xs.map (·.2.2))->
 (xs.map fun x=>if x.1=k then(x.1,x.2.1,v)else x).map (·.1)=(kvs.map fun x=>if x.1=k then(x.1,d)else x).map (·.1)/\aK K H ((kvs.map fun x=>if x.1=k then(x.1,d)else x).map (·.2)) ((xs.map fun x=>if x.1=k then(x.1,x.2.1,v)else x).map (·.2.2))
 |[],[],_,h=>⟨rfl,h⟩
 |[],x::xs,h,_=>by cases h
 |y::kvs,[],h,_=>by cases h
 |y::kvs,x::xs,h,q=>by
  rw[J5,J5]at h
  injection h with c j
  rw[J5,J5,aK]at q
  obtain⟨n,vs,e,l,m⟩:=q
  injection e with e1 e2
  subst e1 e2
  obtain⟨g,i⟩:=uE k r j m
  by_cases e:y.1=k
  ·have f:x.1=k:=c.trans e
   simp only[J5,MF e,MF f]
   exact⟨by rw[g];exact congrArg (·::_) c,by rw[aK];exact⟨_,_,rfl,r,i⟩⟩
  ·have f:¬x.1=k:=fun z=>e (c.symm.trans z)
   simp only[J5,ME e,ME f]
   exact⟨by rw[g];exact congrArg (·::_) c,by rw[aK];exact⟨_,_,rfl,l,i⟩⟩
theorem En{kvs:Ny}{xs:List Nu}{d:D}{v:V}(c:xs.map (·.1)=kvs.map (·.1))(f:aK K H (kvs.map (·.2)) (xs.map (·.2.2)))(h:∀x∈xs,du K H x.2.1 x.1)(i:du K H b k)(r:Rep K H d v) : (fP xs k b v).map (·.1)=(putD kvs k d).map (·.1)/\aK K H ((putD kvs k d).map (·.2)) ((fP xs k b v).map (·.2.2))/\∀x∈fP xs k b v,du K H x.2.1 x.1:=by
 unfold fP putD;rw[(oH k c f).2.2];by_cases e:(kvs.any fun x=>decide (x.1=k))=MC
 ·rw[MF e,MF e];obtain⟨j,l⟩:=uE k r c f;refine⟨j,l,fun x g=>?_⟩;obtain⟨y,m,rfl⟩:=Jp.mp g;have:=h y m;by_cases e:y.1=k
  ·rw[MF e];exact this
  ·rw[ME e];exact this
 ·rw[ME e,ME e];refine⟨by rw[Jk,Jk,c];rfl,?_,fun x g=>?_⟩
  ·rw[Jk,Jk];exact f.append (by rw[J5,J5,KA,KA,aK];exact⟨_,_,rfl,r,by rw[aK]⟩)
  ·rcases Jo.mp g with z|z
   ·exact h x z
   ·have:x=(k,b,v):=by simpa using z
    subst this;exact i
theorem NN.ext{φ:Heap->Prop}{o:HO}(h:H a=MA (.ext φ)):NN K H (upd H a o):=.put (fun xs e=>by rw[h]at e;cases e) (fun u xs e=>by rw[h]at e;cases e)
theorem NW.yW{kvs:Ny}{xs:List Nu}{d:D}{v:V}(P:Jl)(w:JL)(h:NW K H M)(f:∀P w,H a=MA (.ext (bW P w a xs)))(i:xs.map (·.1)=kvs.map (·.1))(j:aK K H (kvs.map (·.2)) (xs.map (·.2.2)))(l:∀x∈xs,du K H x.2.1 x.1)(m:du K H b k)(r:Rep K H d v) :
 NW K (upd H a (.ext (bW P w a (fP xs k b v)))) (aC M a (OH (putD kvs k d))):=fun c u e=>by
 have g:NN K H (upd H a (.ext (bW P w a (fP xs k b v)))):=.ext (f P w)
 by_cases ne:c=a
 ·subst ne
  rw[ag]at e;cases e
  obtain⟨n,o,p⟩:=En i j l m r
  exact R4.zO ⟨_,fun P w=>aW,n,fun x f=>(p x f).mono g,o.mono g⟩ (by rw[aW];simp)
 ·rw[aA ne]at e
  exact(h c u e).ix g (aX ne)
end
section
variable{X:Cx}
def Bu:TD:=fun _ M Q=>∀p,M p=MB->Q (.ref p) (aC M p (OH []))
theorem pJ{pos:Pos}:DE X (.Dict [] [] pos) Bu:=a9 zP fun σ H Q a=>by obtain⟨δ,M,R,hs,d,q,b⟩:=a;exact(fun p c=>b _ _ _ _ (.new c) (by rw[Rep]) (d.Cm _ _ c) (q p (d.fresh c)))
def A7(b ty:TD):TD:=fun δ M Q=>b δ M fun x c=>ty δ c fun y a=>∃l kvs k d,x=.ref l/\y=Pb k/\a l=MA (OH kvs)/\dJ kvs k=MA d/\Q d a
theorem pI{o i:Expr}{f ty:TD}{pos:Pos}(N:X.A.units+66<Kf)(m:DE X o f)(hi:DE X i ty)(hs:Fw i):DE X (.Subscript o i pos) (A7 f ty):=
 a9 (zk (by omega) m hi hs) fun σ H Q a=>by obtain⟨δ,M,R,hs,n,q,e⟩:=a;exact(⟨δ,M,_,hs,n,q,fun x p v H1 g h r s=>⟨δ,p,_,hs.mono g,r,s,fun y O u P t w j c=>by
  obtain⟨l,kvs,k,d,ex,z,B,C,D⟩:=c
  subst ex z
  rw[Rep]at h;subst h
  obtain⟨b,rfl,sp⟩:=rk w
  obtain⟨xs,E,F,G,I⟩:=j.dsp B
  obtain⟨J,K,L⟩:=(oH k F I).1 d C
  exact⟨l,b,xs,k,J,rfl,rfl,⟨E _ _,G,sp⟩,K,e _ _ _ _ (g.trans t) L j D⟩⟩⟩)
def Az(b ty c:TD):Nn:=fun B δ M=>c δ M fun d e=>b δ e fun x f=>ty δ f fun y a=>∃l kvs k,x=.ref l/\y=Pb k/\a l=MA (OH kvs)/\kvs.length<1000000/\B.nx δ (aC a l (OH (putD kvs k d)))
theorem zh{o i a:Expr}{j ty m:TD}{pos c:Pos}(W:X.A.units+66<Kf)(E:DE X o j)(hi:DE X i ty)(F:DE X a m)(hs:LL a (MA (.Subscript o i c)) pos.line X.env=pure MD:=by rfl):DSt X (.Assign [.Subscript o i c] a pos) (Az j ty m):=
 cI (xV (by omega) E hi F hs) fun D σ H ⟨δ,M,hs,G,B,ok,q⟩=>⟨δ,M,_,hs,G,q,fun d I v H1 e J L N=>⟨δ,I,_,hs.mono e,L,N,fun x O u Y f n P Q=>⟨δ,O,_,(hs.mono e).mono f,P,Q,fun y Z u3 p g R r ⟨l,kvs,k,ex,S,T,hn,U⟩=>by
  subst ex S
  rw[Rep]at n;subst n
  obtain⟨b,rfl,sp⟩:=rk R
  obtain⟨xs,h,s,t,V⟩:=r.dsp T
  have z:xs.length=kvs.length:=by have:=congrArg List.length s;simpa using this
  have sz:1000000<=Jb:=NS rfl
  refine⟨l,b,xs,k,rfl,rfl,⟨h _ _,t,sp⟩,by omega,?_⟩
  have C:NN X.K p (upd p l (.ext (bW X.prog X.w l (fP xs k b v)))):=.ext (h X.prog X.w)
  exact ok.nx _ _ _ _ (((e.trans f).trans g).trans C) (hs.mono (((e.trans f).trans g).trans C)) (r.yW _ _ h s V t sp (J.mono (f.trans g))) U⟩⟩⟩
def E8(f:TD)(t:Np):TD:=fun δ M Q=>f δ M fun x c=>∃l a,x=.ref l/\c l=MA (OH a)/\t δ c fun g b=>∃kvs k d,g=[Pb k,d]/\b l=MA (OH kvs)/\kvs.length<1000000/\(∀e,dJ kvs k=MA e->Q e b)/\(dJ kvs k=MB->Q d (aC b l (OH (putD kvs k d))))
theorem AG{o e1 e2:Expr}{F:TD}{t:Np}{f bj:Pos}(hu:X.A.units+66<Kf)(V:DE X o F)(W:DA X [e1,e2] t)
 (g:attributeBase o "setdefault" X.env (eval o X.env)=eval o X.env:=by rfl)
 (j:((KO bj (Jd [e1,e2] X.env)).all (fun x=>!x.1)&&(backToKw bj (Mi [] X.env)).all (fun x=>x.1.isSome)
  && decide ([e1,e2].length+([]:List Keyword).length+(if([]:List Keyword).isEmpty then 0 else 1)<30))=MC:=by rfl)
 (h:(f.endLine==bj.line)=MC:=by rfl) (hs:Jd [e1,e2] X.env=(MD,eval e1 X.env)::Jd [e2] X.env:=by rfl) (c:(KO bj (Jd [e2] X.env)).any (·.1)=MD:=by rfl) :
 DE X (.Call (.Attribute o "setdefault" f) [e1,e2] [] bj) (E8 F t):=
 a9 (AE (by omega) V W g j h hs c) fun σ H Q ⟨δ,M,R,hs,Y,q,m⟩=>⟨δ,M,_,hs,Y,q,fun x Z v H1 s G I ⟨l,J,ex,u,q1⟩=>by
  subst ex
  rw[Rep]at G;subst G
  obtain⟨y,h0,_⟩:=I.dsp u
  refine⟨l,y,rfl,h0 _ _,δ,Z,_,hs.mono s,I,q1,fun ds M2 vs L N r2 z i=>?_⟩
  obtain⟨kvs,k,d,e,hl,hn,k1,k2⟩:=i
  subst e
  obtain⟨v1,O,rfl,B,n⟩:=f6 r2
  obtain⟨b,rfl,sp⟩:=rk B
  obtain⟨xs,C,D,P,S⟩:=z.dsp hl
  have T:xs.length=kvs.length:=by have:=congrArg List.length D;simpa using this
  have sz:1000000<=Jb:=NS rfl
  have dv:=oH k D S
  refine⟨b,O,xs,k,rfl,⟨C _ _,P,sp⟩,by omega,fun v' a=>?_,fun a=>?_⟩
  ·cases e:dJ kvs k with
   |none=>rw[dv.2.1 e]at a;cases a
   |some r=>
    obtain⟨E,p,q4⟩:=dv.1 r e
    rw[a]at p;cases p
    exact m _ _ _ _ (s.trans N) q4 z (k1 r e)
  ·have e:dJ kvs k=MB:=by
    cases e:dJ kvs k with
    |none=>rfl
    |some r=>
     obtain⟨E,p,_⟩:=dv.1 r e
     rw[a]at p;cases p
   have U:NN X.K L (upd L l (.ext (bW X.prog X.w l (fP xs k b O)))):=.ext (C X.prog X.w)
   exact m _ _ _ _ ((s.trans N).trans U) (n.mono U) (z.yW _ _ C D S P sp n) (k2 e)⟩
end
theorem cK{z:Int}(h:0<=z/\z<=20):Bd 10 z:=by show z.natAbs<2^10;omega
theorem Dt(t b X m x:Int):MX t b X m x=MX t (b*m) (X*m) 1 x:=by unfold MX;rw[Int.mul_one,Int.mul_one]
theorem ur{t b X m:Int}(c:0<t)(d:0<b)(e:0<m)(a:Int):MX t b X 1 a=MX t (b*m) (X*m) 1 (m*a):=by rw[<-Dt,NF c d (by decide) e];omega
theorem AD{t b X Y m:Int}(a:0<t)(c:0<b)(d:0<m)(w:Wl)(p q:Int):NC (NB (MX t b X 1 w.1) (MX t b Y 1 w.2.1) (MX t b X 1 w.2.2.1) (MX t b Y 1 w.2.2.2) (MX t b X m p) (MX t b Y m q))=Jw (sd (Rc m w) p q):=by rw[ur a c d,ur a c d,ur a c d,ur a c d,Dt t b X m p,Dt t b Y m q];exact ju a (JE c d) (Rc m w) p q
theorem xH{t b X Y m p q a c:Int}(f:0<t)(g:0<b)(e:0<m/\m<=4)(h:-10<=q/\q<=85)(d:0<=c/\c<=20):MZ (MX t b X m p) (MX t b Y m q) (MX t b X 1 a) (MX t b Y 1 c)↔la p q<m*la a c:=by have e1:=Int.mul_nonneg (show 0<=m by omega) d.1;have e2:=Int.mul_le_mul e.2 d.2 d.1 (show(0:Int)<=4 by decide);rw[Ma.CJ f g e.1 (by decide),Int.one_mul,Int.one_mul,AH h ⟨by omega,by omega⟩,ML,Fo]
def bB(ws:List Wl)(m p q:Int)(j:Nat):Bool:=Rg ws m (la p q) j&&decide (Jw (sd (Rc m (NV ws (j:Int))) p q)=1)
def bK(ws:List Wl)(m p q:Int):List Int:=((J6 ws.length).filter (bB ws m p q)).map fun j:Nat=>(j:Int)
theorem fN{ws:List Wl}{m p q k:Int}(h:k∈bK ws m p q):k∈VG ws m (la p q):=by unfold bK at h;obtain⟨j,a,rfl⟩:=Jp.mp h;rw[Jm]at a;have:=a.2;unfold bB at this;rw[JV]at this;exact Jp.mpr ⟨j,Jm.mpr ⟨a.1,this.1⟩,rfl⟩
theorem lX(ws:List Wl)(m p q:Int):(bK ws m p q).Nodup:=by unfold bK List.Nodup;rw[KD];have h:List.Pairwise (fun x y:Nat=>x≠y) ((J6 ws.length).filter (bB ws m p q)):=Mm _ LN;refine List.Pairwise.imp (R:=fun x y:Nat=>x≠y) ?_ h;intro a b c e;exact c (by omega)
theorem xw(ws:List Wl)(m p q t b X Y:Int):(J6 (ws.map (NP t b X Y)).length).filterMap (fun j=>if bB ws m p q j=MC then MA (NP t b X Y (NV ws (j:Int)))else MB)=((bK ws m p q).map (NV ws)).map (NP t b X Y):=by rw[IZ];unfold bK;rw[KC,KC];exact jH (bB ws m p q) (fun j:Nat=>NP t b X Y (NV ws (j:Int))) _
theorem De{t b X Y:Int}(a:0<t)(c:0<b){U V:Wl}(g:NO U)(h:NO V)(ne:¬(l1 U=l1 V/\l2 U=l2 V)):K1 (RJ t b X Y U) (RJ t b X Y V)=MD:=by have i:=iS (X:=X) (Y:=Y) (p:=U.1) (q:=U.2.1) (e:=V.1) (f:=V.2.1) a c g.b h.b;have j:=iS (X:=X) (Y:=Y) (p:=U.2.2.1) (q:=U.2.2.2) (e:=V.2.2.1) (f:=V.2.2.2) a c g.d h.d;unfold RJ Rx;rw[K1,Kj,Kj,Kj,NG,NG,Mr,<-Bool.decide_and,decide_eq_false_iff_not,i,j];exact ne
abbrev Vc:=Int×Int
def vc(a b:Vc):Int:=Nx a.1 a.2 b.1 b.2
def vl(a:Vc):Int:=la a.1 a.2
theorem d5(a b:Vc):vc b a=-vc a b:=by unfold vc Nx;grind
theorem F9(b x y z:Vc):vc b y*vc x z=vc b x*vc y z+vc b z*vc x y:=by unfold vc Nx;grind
theorem DV(a b c:Vc)(h:vc a b=0):vc b c*vl a=vc a c*vl b:=by unfold vc Nx at *;unfold vl la;grind
def Ol(a b:Vc):Prop:=vc a b=0->vl a*vl b<0
theorem gg(z:Int):(z<0/\Jw z=-1)\/(z=0/\Jw z=0)\/(0<z/\Jw z=1):=by
 rcases Jh z 0 with h|h|h
 ·exact .inl ⟨h,JZ h⟩
 ·exact .inr (.inl ⟨h,by subst h;rfl⟩)
 ·exact .inr (.inr ⟨h,K8 h⟩)
theorem fq{p q:Int}(h:p*q<0):(p<0/\0<q)\/(0<p/\q<0):=by
 rcases Jh p 0 with a|a|a
 ·rcases Jh q 0 with b|b|b
  ·have:=JU a b;omega
  ·subst b;simp at h
  ·exact .inl ⟨a,b⟩
 ·subst a;simp at h
 ·rcases Jh q 0 with b|b|b
  ·exact .inr ⟨a,b⟩
  ·subst b;simp at h
  ·have:=JE a b;omega
theorem VW{a b:Vc}(c:Vc)(z:vc a b=0)(h:vl a*vl b<0):Jw (vc b c)=-Jw (vc a c):=by
 have e:=DV a b c z;generalize vc b c=p at *;generalize vc a c=q at *;have k:∀{x y:Int},0<x->0<y->0<x*y:=fun d f=>JE d f
 rcases fq h with⟨d,f⟩|⟨d,f⟩<;>rcases gg p with⟨g,e1⟩|⟨g,e1⟩|⟨g,e1⟩<;>rcases gg q with⟨i,e2⟩|⟨i,e2⟩|⟨i,e2⟩<;>rw[e1,e2]<;>first|rfl|(exfalso;subst_vars;first
  |(have k1:=JU g d;have j:=JI i f;omega)
  |(have k1:=JI g d;have j:=JU i f;omega)
  |(have k1:=JJ g d;have j:=JE i f;omega)
  |(have k1:=JE g d;have j:=JJ i f;omega)
  |(have k1:=JU g d;omega)
  |(have k1:=JI g d;omega)
  |(have k1:=JJ g d;omega)
  |(have k1:=JE g d;omega)
  |(have j:=JU i f;omega)
  |(have j:=JI i f;omega)
  |(have j:=JJ i f;omega)
  |(have j:=JE i f;omega))
def PQ(b x y:Vc):Bool:=if Jw (vc b x)=Jw (vc b y)then decide (vc x y<0)else decide (Jw (vc b x)<Jw (vc b y))
theorem gL(b x y:Vc):PQ b x y=MC↔Jw (vc b x)<Jw (vc b y)\/(Jw (vc b x)=Jw (vc b y)/\vc x y<0):=by
 unfold PQ;split
 ·rename_i h;simp;omega
 ·rename_i h;simp;omega
theorem nR{b x y:Vc}(a:Ol b x)(c:Ol b y)(d:Ol x y):PQ b x y=MC\/PQ b y x=MC:=by
 rw[gL,gL];rcases Jh (vc x y) 0 with h|h|h
 ·omega
 ·have o:=d h;have e:=VW b h o;have e1:vc x b=-vc b x:=d5 b x;have e2:vc y b=-vc b y:=d5 b y;rw[e1,e2,Int.sign_neg,Int.sign_neg]at e;by_cases ne:Jw (vc b x)=Jw (vc b y)
  ·have f:Jw (vc b x)=0:=by omega
   have g:Jw (vc b y)=0:=by omega
   have i:=fq (a (Int.sign_eq_zero_iff_zero.mp f));have j:=fq (c (Int.sign_eq_zero_iff_zero.mp g));have k:=fq o;omega
  ·omega
 ·have:=d5 x y;omega
theorem nI{b x y z:Vc}(h:Ol b x)(n:Ol b y)(o:Ol b z)(d:PQ b x y=MC)(a:PQ b y z=MC):PQ b x z=MC:=by
 rw[gL]at *;rcases d with d|⟨d,b1⟩
 ·left;rcases a with a|⟨a,f⟩<;>omega
 ·rcases a with a|⟨a,f⟩
  ·left;omega
  ·right;refine⟨by omega,?_⟩;have i:=F9 b x y z;rcases gg (vc b y)with⟨k,e⟩|⟨k,e⟩|⟨k,e⟩
   ·have c:vc b x<0:=by rcases gg (vc b x)with q|q|q<;>omega
    have g:vc b z<0:=by rcases gg (vc b z)with q|q|q<;>omega
    have j:=JU c f;have l:=JU g b1;rcases Jh (vc x z) 0 with q|q|q
    ·exact q
    ·rw[q]at i;simp at i;omega
    ·have:=JI k q;omega
   ·exfalso;have c:vc b x=0:=by rcases gg (vc b x)with q|q|q<;>omega
    have m:=h c;have e:=VW y c m;have:Jw (vc x y)=-1:=JZ b1;rw[k]at e;simp at e;omega
   ·have c:0<vc b x:=by rcases gg (vc b x)with q|q|q<;>omega
    have g:0<vc b z:=by rcases gg (vc b z)with q|q|q<;>omega
    have j:=JJ c f;have l:=JJ g b1;rcases Jh (vc x z) 0 with q|q|q
    ·exact q
    ·rw[q]at i;simp at i;omega
    ·have:=JE k q;omega
theorem ue{a b c:Vc}(h:Ol a b)(e:PQ a c b=MC)(d:PQ b c a=MC):False:=by
 rw[gL]at e d;have e1:vc b a=-vc a b:=d5 a b;have e2:vc c b=-vc b c:=d5 b c;have e3:vc c a=-vc a c:=d5 a c;rw[e1,Int.sign_neg]at d;rw[e2]at e;rw[e3]at d;by_cases z:vc a b=0
 ·have o:=VW c z (h z);rw[z]at e d;simp at e d;rcases gg (vc a c)with q|q|q<;>rcases gg (vc b c)with r|r|r<;>omega
 ·rcases gg (vc a b)with p|p|p<;>rcases gg (vc a c)with q|q|q<;>rcases gg (vc b c)with r|r|r<;>omega
def rev(w:Wl):Wl:=(w.2.2.1,w.2.2.2,w.1,w.2.1)
def fw(ws:List Wl)(f:Nat):Wl:=if f%2=0 then NV ws ((f/2:Nat):Int)else rev (NV ws ((f/2:Nat):Int))
def fa(ws:List Wl)(f:Nat):Vc:=((fw ws f).1,(fw ws f).2.1)
def fb(ws:List Wl)(f:Nat):Vc:=((fw ws f).2.2.1,(fw ws f).2.2.2)
def fd(ws:List Wl)(f:Nat):Vc:=((fw ws f).2.2.1-(fw ws f).1,(fw ws f).2.2.2-(fw ws f).2.1)
def fx(f:Nat):Nat:=if f%2=0 then f+1 else f-1
theorem fL(f:Nat):fx f/2=f/2/\(fx f)%2=1-f%2:=by unfold fx;split<;>omega
theorem vy(f:Nat):fx (fx f)=f:=by unfold fx;split<;>split<;>omega
theorem f9{f n:Nat}(h:f<2*n):fx f<2*n:=by unfold fx;split<;>omega
theorem yX(ws:List Wl)(f:Nat):fw ws (fx f)=rev (fw ws f):=by
 unfold fw;rw[(fL f).1,(fL f).2];by_cases h:f%2=0
 ·rw[ME (by omega),MF h]
 ·rw[MF (by omega),ME h];rfl
theorem cZ(ws:List Wl)(f:Nat):fa ws (fx f)=fb ws f:=by unfold fa fb;rw[yX];rfl
theorem nB(ws:List Wl)(f:Nat):fb ws (fx f)=fa ws f:=by unfold fa fb;rw[yX];rfl
theorem dW{ws:List Wl}(d:∀w∈ws,NO w)(hF:PF ws){g h:Nat}(y:g<2*ws.length)(A:h<2*ws.length)(ne:g≠h)(e:fa ws g=fa ws h):Ol (fd ws g) (fd ws h):=by
 obtain⟨f,_,j⟩:=bo (ws:=ws) (k:=((g/2:Nat):Int)) (by omega) (by omega);obtain⟨i,_,l⟩:=bo (ws:=ws) (k:=((h/2:Nat):Int)) (by omega) (by omega);have U:=d _ j;have V:=d _ l;rw[Kn]at f i;unfold fa at e;have e1:=congrArg Prod.fst e;have e2:=congrArg Prod.snd e;unfold fd;unfold fw at *;by_cases a:g/2=h/2
 ·exfalso;rw[<-a]at e1 e2;have lt:=U.lt;unfold l1 l2 la at lt;by_cases p:g%2=0
  ·rw[MF p,ME (show ¬h%2=0 by omega)]at e1 e2;unfold rev at e1 e2;dsimp only at e1 e2;omega
  ·rw[ME p,MF (show h%2=0 by omega)]at e1 e2;unfold rev at e1 e2;dsimp only at e1 e2;omega
 ·have F:=hF _ _ _ _ a f i;generalize NV ws ((g/2:Nat):Int)=u at *;generalize NV ws ((h/2:Nat):Int)=v at *;intro z;have B:=U.lt;have C:=V.lt;unfold vc Nx at z;have m:=F.e2;have n:=F.e4;have o:=F.e1;have r:=F.e3;have D:=F.ne;unfold bG at o m r n;unfold vl;by_cases p:g%2=0<;>by_cases q:h%2=0
  ·rw[MF p,MF q]at z e1 e2 ⊢;exfalso;simp only[]at z e1 e2;have s:NY u v=0:=by unfold NY sd Nx;grind
   have t:NY v u=0:=by unfold NY sd Nx;grind
   have x:l1 u=l1 v:=by unfold l1;rw[e1,e2]
   omega
  ·rw[MF p,ME q]at z e1 e2 ⊢;unfold rev at *;simp only[]at z e1 e2 ⊢;have b:la (u.2.2.1-u.1) (u.2.2.2-u.2.1)=l2 u-l1 u:=by unfold l1 l2 la;omega
   have c:la (v.1-v.2.2.1) (v.2.1-v.2.2.2)=-(l2 v-l1 v):=by unfold l1 l2 la;omega
   rw[b,c];exact JJ (by omega) (by omega)
  ·rw[ME p,MF q]at z e1 e2 ⊢;unfold rev at *;simp only[]at z e1 e2 ⊢;have b:la (u.1-u.2.2.1) (u.2.1-u.2.2.2)=-(l2 u-l1 u):=by unfold l1 l2 la;omega
   have c:la (v.2.2.1-v.1) (v.2.2.2-v.2.1)=l2 v-l1 v:=by unfold l1 l2 la;omega
   rw[b,c];exact JI (by omega) (by omega)
  ·rw[ME p,ME q]at z e1 e2 ⊢;unfold rev at *;exfalso;simp only[]at z e1 e2;have s:NX u v=0:=by unfold NX sd Nx;grind
   have t:NX v u=0:=by unfold NX sd Nx;grind
   have x:l2 u=l2 v:=by unfold l2;rw[e1,e2]
   omega
def dG(R:Nat->Nat->Bool)(o:Option Nat)(g:Nat):Option Nat:=match o with
 |none=>MA g
 |some h=>if R g h=MC then MA g else MA h
theorem fold_min{R:Nat->Nat->Bool}{S:Nat->Prop}(b:∀x y,S x->S y->x≠y->R x y=MC\/R y x=MC)(f:∀x y z,S x->S y->S z->R x y=MC->R y z=MC->R x z=MC) :
 ∀(l:List Nat) (h:Nat),S h->(∀x∈l,S x)->∃m,l.foldl (dG R) (MA h)=MA m/\S m/\(m=h\/m∈l)/\(h=m\/R m h=MC)/\∀x∈l,x=m\/R m x=MC
 |[],h,sh,_=>⟨h,rfl,sh,.inl rfl,.inl rfl,fun x a=>by cases a⟩
 |g::l,h,sh,hl=>by
  have sg:=hl g (by simp)
  rw[Lx]
  by_cases r:R g h=MC
  ·obtain⟨m,e,d,mem,c,i⟩:=fold_min b f l g sg (fun x a=>hl x (by simp[a]))
   have es:dG R (MA h) g=MA g:=by unfold dG;simp[r]
   rw[es]
   refine⟨m,e,d,?_,?_,?_⟩
   ·rcases mem with z|z
    ·right;simp[z]
    ·right;simp[z]
   ·right
    rcases c with z|z
    ·rw[<-z];exact r
    ·exact f _ _ _ d sg sh z r
   ·intro x a
    rcases Jv.mp a with z|z
    ·subst z;exact c
    ·exact i x z
  ·obtain⟨m,e,d,mem,c,i⟩:=fold_min b f l h sh (fun x a=>hl x (by simp[a]))
   have es:dG R (MA h) g=MA h:=by unfold dG;simp[r]
   rw[es]
   refine⟨m,e,d,?_,c,?_⟩
   ·rcases mem with z|z
    ·exact .inl z
    ·right;simp[z]
   ·intro x a
    rcases Jv.mp a with z|z
    ·subst z
     by_cases ne:x=h
     ·subst ne;exact c
     ·rcases b x h sg sh ne with q|q
      ·exact absurd q r
      ·rcases c with z|z
       ·right;rw[<-z];exact q
       ·right;exact f _ _ _ d sh sg z q
    ·exact i x z
def ya(ws:List Wl)(f g:Nat):Bool:=decide (fa ws g=fb ws f)&&decide (g≠fx f)
def gZ(ws:List Wl)(f:Nat):List Nat:=(J6 (2*ws.length)).filter (ya ws f)
def Oi(ws:List Wl)(f g h:Nat):Bool:=PQ (fd ws (fx f)) (fd ws g) (fd ws h)
def bh(ws:List Wl)(f:Nat):Nat:=((gZ ws f).foldl (dG (Oi ws f)) MB).getD (fx f)
theorem bw{ws:List Wl}{f g:Nat}:g∈gZ ws f↔g<2*ws.length/\fa ws g=fb ws f/\g≠fx f:=by unfold gZ ya;simp[Jm]
theorem fX{ws:List Wl}(j:∀w∈ws,NO w)(hF:PF ws){f:Nat}(k:f<2*ws.length):(gZ ws f=[]/\bh ws f=fx f)\/(bh ws f∈gZ ws f/\∀x∈gZ ws f,x=bh ws f\/Oi ws f (bh ws f) x=MC):=by
 unfold bh;cases c:gZ ws f with
 |nil=>exact .inl ⟨rfl,rfl⟩
 |cons g l=>
  right
  have sub:∀x∈g::l,x<2*ws.length/\fa ws x=fb ws f/\x≠fx f:=fun x d=>bw.mp (by rw[c];exact d)
  have h:∀x,(x<2*ws.length/\fa ws x=fb ws f/\x≠fx f)->Ol (fd ws (fx f)) (fd ws x):=fun x d=>dW j hF (f9 k) d.1 (fun z=>d.2.2 z.symm) (by rw[cZ,d.2.1])
  obtain⟨m,e,q,mem,n,o⟩:=fold_min (R:=Oi ws f) (S:=fun x=>x<2*ws.length/\fa ws x=fb ws f/\x≠fx f) (fun x y d i ne=>nR (h x d) (h y i) (dW j hF d.1 i.1 ne (by rw[d.2.1,i.2.1]))) (fun x y z d i p a b=>nI (h x d) (h y i) (h z p) a b) l g (sub g (by simp)) (fun x d=>sub x (by simp[d]))
  rw[Lx]
  have es:dG (Oi ws f) MB g=MA g:=rfl
  rw[es,e]
  simp only[Kd]
  refine⟨by rcases mem with z|z<;>simp[z],fun x d=>?_⟩
  rcases Jv.mp d with z|z
  ·subst z;exact n
  ·exact o x z
theorem zZ{ws:List Wl}(b:∀w∈ws,NO w)(hF:PF ws){f:Nat}(a:f<2*ws.length):bh ws f<2*ws.length:=by
 rcases fX b hF a with⟨_,e⟩|⟨h,_⟩
 ·rw[e];exact f9 a
 ·exact(bw.mp h).1
theorem gv{ws:List Wl}(a:∀w∈ws,NO w)(hF:PF ws){f:Nat}(b:f<2*ws.length):fa ws (bh ws f)=fb ws f:=by
 rcases fX a hF b with⟨_,e⟩|⟨h,_⟩
 ·rw[e,cZ]
 ·exact(bw.mp h).2.1
theorem Dh{ws:List Wl}(a:∀w∈ws,NO w)(hF:PF ws){f g:Nat}(b:f<2*ws.length)(d:g<2*ws.length)(e:bh ws f=bh ws g):f=g:=by
 by_cases ne:fx f=fx g
 ·rw[<-vy f,ne,vy]
 ·exfalso;have c:fb ws f=fb ws g:=by rw[<-gv a hF b,<-gv a hF d,e]
  have h:fx g∈gZ ws f:=bw.mpr ⟨f9 d,by rw[cZ,c],fun z=>ne z.symm⟩;have i:fx f∈gZ ws g:=bw.mpr ⟨f9 b,by rw[cZ,c],ne⟩;rcases fX a hF b with⟨z,_⟩|⟨k1,k⟩
  ·rw[z]at h;cases h
  ·rcases fX a hF d with⟨z,_⟩|⟨l,m⟩
   ·rw[z]at i;cases i
   ·have n:=(bw.mp k1).2.2;have o:=(bw.mp l).2.2;have p:=(k _ h).resolve_left (fun z=>o (by rw[<-e,<-z]));have j:=(m _ i).resolve_left (fun z=>n (by rw[e,<-z]));rw[<-e]at j;exact ue (dW a hF (f9 b) (f9 d) ne (by rw[cZ,cZ,c])) p j
def Nf(ws:List Wl)(f:Nat):Nat->Nat
 |0=>f
 |k+1=>bh ws (Nf ws f k)
def rn(ws:List Wl)(f k:Nat):List Nat:=(J6 (k+1)).map (Nf ws f)
def NR(ws:List Wl)(f k:Nat):Prop:=∀i j,i<j->j<=k->Nf ws f i≠Nf ws f j
theorem jP(ws:List Wl)(f k:Nat):(rn ws f k).length=k+1:=by simp[rn]
theorem n8(ws:List Wl)(f k:Nat):rn ws f (k+1)=rn ws f k++[Nf ws f (k+1)]:=by unfold rn;rw[KW,Jk];rfl
theorem uc(ws:List Wl)(f:Nat):rn ws f 0=[f]:=rfl
theorem tq:∀(m:Nat) (l:List Nat),l.Nodup->(∀x∈l,x<m)->l.length<=m
 |0,l,_,h=>by
  cases l with
  |nil=>simp
  |cons a l=>exact absurd (h a (by simp)) (by omega)
 |m+1,l,nd,h=>by
  have d:=tq m (l.erase m) (nd.erase m) (fun x b=>by
   have:=h x (List.mem_of_mem_erase b)
   have ne:x≠m:=fun z=>by
    subst z
    exact absurd b (nd.not_mem_erase)
   omega)
  have:=List.length_erase_le (a:=m) (l:=l)
  by_cases c:m∈l
  ·have:=List.length_erase_of_mem c;omega
  ·rw[List.erase_of_not_mem c]at d;omega
section
variable{ws:List Wl}(hU:∀w∈ws,NO w)(hF:PF ws){f:Nat}(hf:f<2*ws.length)
include hU hF hf
theorem cE:∀k,Nf ws f k<2*ws.length
 |0=>hf
 |k+1=>zZ hU hF (cE k)
theorem Af{k:Nat}(h:NR ws f k)(ne:bh ws (Nf ws f k)≠f):NR ws f (k+1):=fun i j a b e=>by
 by_cases q:j<=k
 ·exact h i j a q e
 ·have:j=k+1:=by omega
  subst this;cases i with
  |zero=>exact ne e.symm
  |succ i=>exact h i k (by omega) (J1 _) (Dh hU hF (cE hU hF hf i) (cE hU hF hf k) e)
theorem uo{k:Nat}(h:NR ws f k):k+1<=2*ws.length:=by
 rw[<-jP ws f k];refine tq _ _ ?_ (fun x d=>?_)
 ·unfold rn;rw[List.nodup_iff_pairwise_ne,KD];refine Lp ?_ (List.pairwise_lt_range (n:=k+1));intro a b g e c;exact h a b c (by have:=Jq.mp e;omega)
 ·unfold rn at d;obtain⟨i,_,rfl⟩:=Jp.mp d;exact cE hU hF hf i
end
structure VN(ws:List Wl)(r:List Nat):Prop where
 ex:∃f k,f<2*ws.length/\k+1<=2*ws.length/\r=rn ws f k/\bh ws (Nf ws f k)=f
theorem AA(ws:List Wl)(f:Nat):NR ws f 0:=fun i j a b=>by omega
theorem round0{ws:List Wl}(a:∀w∈ws,NO w)(hF:PF ws){f k:Nat}(b:f<2*ws.length)(c:bh ws (Nf ws f k)=f)(φ:Vc->Rat):((rn ws f k).map fun g=>φ (fb ws g)-φ (fa ws g)).sum=0:=by
 have key:∀k,((rn ws f k).map fun g=>φ (fb ws g)-φ (fa ws g)).sum=φ (fb ws (Nf ws f k))-φ (fa ws f):=fun k=>by
  induction k with
  |zero=>rw[uc];simp only[J5,KA,K7,List.sum_nil,Rat.add_zero];rfl
  |succ k d=>
   rw[n8,Jk,List.sum_append,d]
   simp only[J5,KA,K7,List.sum_nil]
   have:fa ws (Nf ws f (k+1))=fb ws (Nf ws f k):=gv a hF (cE a hF b k)
   rw[this]
   grind
 rw[key,<-gv a hF (cE a hF b k),c];grind
def Nc(ws:List Wl)(g:Nat):Int:=(fa ws g).1*(fb ws g).2-(fb ws g).1*(fa ws g).2
def Qq(t b X Y:Int)(ws:List Wl)(g:Nat):Rat:=MX t b X 1 (fa ws g).1*MX t b Y 1 (fb ws g).2-MX t b X 1 (fb ws g).1*MX t b Y 1 (fa ws g).2
theorem vz(a c d:Rat)(u v w:Nat->Rat):∀l:List Nat,(l.map fun g=>a*u g+(c*v g+d*w g)).sum=a*(l.map u).sum+(c*(l.map v).sum+d*(l.map w).sum)
 |[]=>by simp;grind
 |g::l=>by
  rw[J5,K7,vz a c d u v w l,J5,K7,J5,K7,J5,K7]
  grind
theorem qF(u:Nat->Int):∀l:List Nat,(l.map fun g=>((u g:Int):Rat)).sum=(((l.map u).sum:Int):Rat)
 |[]=>by simp
 |g::l=>by
  rw[J5,K7,qF u l,J5,K7,Ld]
theorem Cp{ws:List Wl}(d:∀w∈ws,NO w)(hF:PF ws){r:List Nat}(h:VN ws r){t b X Y:Int}(a:0<b):(r.map (Qq t b X Y ws)).sum=((t:Rat)/b)*((t:Rat)/b)*(((r.map (Nc ws)).sum:Int):Rat):=by
 obtain⟨f,k,i,_,rfl,c⟩:=h.ex;have j:=round0 d hF i c (fun p=>((p.1:Int):Rat));have l:=round0 d hF i c (fun p=>((p.2:Int):Rat))
 have e:(Qq t b X Y ws)=fun g=>(((t:Rat)/b)*((t:Rat)/b))*((Nc ws g:Int):Rat)+((-(((t:Rat)/b)*((Y:Rat)/b)))*((((fb ws g).1:Int):Rat)-(((fa ws g).1:Int):Rat))+(((t:Rat)/b)*((X:Rat)/b))*((((fb ws g).2:Int):Rat)-(((fa ws g).2:Int):Rat))):=by
  funext g
  unfold Qq Nc;rw[dq a,dq a,dq a,dq a,Lz,JR,JR];grind
 rw[e,vz,qF];rw[j,l];grind
theorem uj(q:Rat)(B:Int)(h:(q.den:Int) ∣ B):((q.num*B.fdiv (q.den:Int):Int):Rat)=q*(B:Rat):=by
 obtain⟨k,rfl⟩:=h;have hd:(q.den:Int)≠0:=by have:=q.den_nz;omega
 have e:((q.den:Int)*k).fdiv (q.den:Int)=k:=by rw[JY _ (by omega)];exact Int.mul_ediv_cancel_left k hd
 rw[e,JR,JR];have a:((q.den:Int):Rat)≠0:=fun z=>hd (by exact_mod_cast z)
 have m:q*((q.den:Int):Rat)=(q.num:Rat):=by
  have e:=Lh q
  rw[Mk]at e
  rw[<-e]
  have e3:((q.num:Rat)/((q.den:Int):Rat))*((q.den:Int):Rat)=(q.num:Rat):=by grind
  rw[e]at e3 ⊢
  exact e3
 rw[<-m];grind
theorem Bt{n d:Int}(hd:0<d):((Rat.divInt n d).den:Int) ∣ d:=by rw[Rat.den_divInt,ME (by omega)];have a:d.natAbs/d.gcd n ∣ d.natAbs:=Nat.div_dvd_of_dvd (Int.ofNat_dvd_left.mp (Int.gcd_dvd_left d n));exact Int.ofNat_dvd_left.mpr a
section
variable{X:Cx}
def FX:Nv:=Pn (fun _ _=>True) fun i j=>.int (Builtin.bitXor i j)
theorem Er:Nw X (Le .BitXor) FX:=dg (Ru Dj) fun _ _ _=>by rw[Rep]
variable{o:Expr}{to:TD}{apos bj:Pos}
end
theorem EC:∀f:Nat,f<80->Builtin.bitXor (f:Int) 1=((fx f:Nat):Int):=by decide
def Rz(n:Nat)(S:Int->Bool):IW->Hp->Addr->Prop:=fun K H a=>∃kvs:List (Key×V),H a=MA (.dK kvs)/\kvs.length<=n/\∀i:Int,(kvs.any fun b=>decide (b.1=Sum.inl i))=S i
def Qp(n:Nat)(S:Int->Bool):MO:=.gen (Rz n S)
section
variable{K:IW}{H H':Hp}{M:MH}{a:Addr}
theorem Rz.zO{n:Nat}{S:Int->Bool}(h:Rz n S K H a):qO K H a (Qp n S):=⟨h,(by obtain⟨kvs,b,_⟩:=h;rw[b];simp),fun H' g e=>let⟨kvs,b,c⟩:=h;⟨kvs,e.trans b,c⟩⟩
theorem NW.di{n:Nat}{S:Int->Bool}(h:NW K H M)(e:M a=MA (Qp n S)):Rz n S K H a:=(h a _ e).1
theorem NW.Gm{p:Addr}(h:NW K H M)(b:H p=MB):NW K (upd H p (.dK [])) (aC M p (Qp 0 fun _=>MD)):=fun a u e=>by
 by_cases ne:a=p
 ·subst ne;rw[ag]at e;cases e;exact Rz.zO ⟨[],aW,J1 _,fun _=>rfl⟩
 ·rw[aA ne]at e;exact(h a u e).ix (.new b) (aX ne)
theorem NN.dK{kvs:List (Key×V)}{o:HO}(h:H a=MA (.dK kvs)):NN K H (upd H a o):=.put (fun xs e=>by rw[h]at e;cases e) (fun u xs e=>by rw[h]at e;cases e)
theorem NW.Hh{n:Nat}{S:Int->Bool}{kvs:List (Key×V)}{i:Int}{v:V}(h:NW K H M)(b:H a=MA (.dK kvs))(g:kvs.length<=n)(d:∀i:Int,(kvs.any fun f=>decide (f.1=Sum.inl i))=S i) : NW K (upd H a (.dK (putK kvs (.inl i) v))) (aC M a (Qp (n+1) fun j=>decide (j=i)||S j)):=fun c u e=>by
 by_cases ne:c=a
 ·subst ne;rw[ag]at e;cases e;refine Rz.zO ⟨_,aW,by have:=gB kvs (.inl i) v;omega,fun j=>?_⟩;rw[dY,y8];by_cases z:j=i
  ·subst z;rw[MF rfl];simp
  ·rw[ME (fun q=>z (by injection q)),<-dY,d];simp[z]
 ·rw[aA ne]at e;exact(h c u e).ix (.dK b) (aX ne)
end
section
variable{X:Cx}{pos:Pos}
def D6:TD:=fun _ M Q=>∀p,M p=MB->Q (.ref p) (aC M p (Qp 0 fun _=>MD))
theorem zw:DE X (.Dict [] [] pos) D6:=a9 zG fun σ H Q a=>by obtain⟨δ,M,R,hs,d,q,b⟩:=a;exact(fun p c=>b _ _ _ _ (.new c) (by rw[Rep]) (d.Gm c) (q p (d.fresh c)))
def BY(g:Bool->Bool)(ty b:TD):TD:=fun δ M Q=>ty δ M fun y c=>b δ c fun x a=>∃i l n S,y=.int i/\x=.ref l/\a l=MA (Qp n S)/\Q (.bl (g (S i))) a
theorem BR{K:IW}{g:Bool->Bool}{ty e:TD}{σ:L2.St}{H:Hp}{Q:VK}(h:lift K (BY g ty e) σ H Q) : (lift K ty) σ H fun y H1=>(lift K e) σ H1 fun x c=>∃a o,x=.ref a/\EF c a y o/\Q (.bl (g o.isSome)) c:=by obtain⟨δ,M,R,hs,p,q,d⟩:=h;refine⟨δ,M,_,hs,p,q,fun y r v H1 f j s t=>⟨δ,r,_,hs.mono f,s,t,fun x E u c w k m b=>?_⟩⟩;obtain⟨i,l,n,S,z,ex,A,B⟩:=b;subst z ex;rw[Rep]at j;rw[Rep]at k;subst j k;obtain⟨kvs,C,F,D⟩:=m.di A;refine⟨l,fy kvs (.inl i),rfl,.inl ⟨kvs,.inl i,.inl C,rfl,rfl⟩,?_⟩;rw[<-dY,D];exact d _ _ _ _ (f.trans w) (by rw[Rep]) m B
variable{e1 e2:Expr}{ty td:TD}
theorem sY(o:X.A.units+66<Kf)(j:DE X e1 ty)(k:DE X e2 td)(l:Mp .NotIn e2=MD:=by rfl):DT X (.Compare e1 [.NotIn] [e2] pos) (tBD (BY (fun b=>!b) ty td)):=
 l3 (CT (vZ (by omega) j k) l) fun σ H Q e=>by obtain⟨δ,M,R,hs,m,q,h⟩:=e;exact(BR (g:=fun b=>!b) (Q:=fun x i=>∃c,x=.bl c/\Q c i) ⟨δ,M,_,hs,m,q,fun d p v i g r a f=>by
  obtain⟨c,n,z⟩:=f
  subst n
  rw[Rep]at r;subst r
  exact⟨c,rfl,h _ _ _ g a z⟩⟩)
def EI(td ty b:TD):Nn:=fun B δ M=>b δ M fun d c=>td δ c fun x e=>ty δ e fun y a=>∃l i n S,x=.ref l/\y=.int i/\a l=MA (Qp n S)/\n<1000000/\B.nx δ (aC a l (Qp (n+1) fun j=>decide (j=i)||S j))
theorem zx{o i a:Expr}{j:TD}{b:Pos}(T:X.A.units+66<Kf)(w:DE X o td)(hi:DE X i ty)(z:DE X a j)(hs:LL a (MA (.Subscript o i b)) pos.line X.env=pure MD:=by rfl):DSt X (.Assign [.Subscript o i b] a pos) (EI td ty j):=
 cI (By (by omega) w hi z hs) fun D σ H c=>by obtain⟨δ,M,hs,C,B,ok,q⟩:=c;exact(⟨δ,M,_,hs,C,q,fun d E v H1 f U F G=>⟨δ,E,_,hs.mono f,F,G,fun x I u V g k J L=>⟨δ,I,_,(hs.mono f).mono g,J,L,fun y W Y m p r s e=>by
  obtain⟨l,i,n,S,ex,N,O,Z,P⟩:=e
  subst ex N
  rw[Rep]at k;rw[Rep]at r;subst k r
  obtain⟨kvs,h,Q,R⟩:=s.di O
  have sz:1000000<=Jb:=NS rfl
  have t:NN X.K m (upd m l (.dK (putK kvs (.inl i) v))):=.dK h
  exact⟨l,_,rfl,.inl ⟨kvs,.inl i,h,rfl,by omega,rfl⟩,ok.nx _ _ _ _ (((f.trans g).trans p).trans t) (hs.mono (((f.trans g).trans p).trans t)) (s.Hh h Q R) P⟩⟩⟩⟩)
end
def dE(ws:List Wl)(f:Nat)(r:List Nat):Prop:=∃a,NR ws f a/\bh ws (Nf ws f a)=f/\r=rn ws f a
theorem A9{ws:List Wl}{f:Nat}{r c:List Nat}(h:dE ws f r)(h':dE ws f c):r=c:=by
 obtain⟨k,n,e,rfl⟩:=h;obtain⟨g,i,j,rfl⟩:=h';have d:∀{a b:Nat},NR ws f b->bh ws (Nf ws f a)=f->¬a<b:=fun{a b} n e l=>n 0 (a+1) (by omega) (by omega) e.symm;have m:=d i e;have o:=d n j;have:k=g:=by omega
 rw[this]
def OO(ws:List Wl):Nat->List (List Nat)->Prop
 |0,rs=>rs=[]
 |i+1,rs=>∃qs,OO ws i qs/\((i∈qs.flatten/\rs=qs)\/(i∉qs.flatten/\∃r,dE ws i r/\rs=qs++[r]))
theorem tJ{ws:List Wl}:∀{i:Nat} {c b:List (List Nat)},OO ws i c->OO ws i b->c=b
 |0,c,b,h,h'=>by rw[show c=[]from h,show b=[]from h']
 |i+1,c,b,⟨qs,h1,h2⟩,⟨qs',h1',h2'⟩=>by
  have:=tJ h1 h1'
  subst this
  rcases h2 with⟨a,rfl⟩|⟨a,r,f,rfl⟩
  ·rcases h2' with⟨d,rfl⟩|⟨d,_⟩
   ·rfl
   ·exact absurd a d
  ·rcases h2' with⟨d,_⟩|⟨d,g,e,rfl⟩
   ·exact absurd d a
   ·rw[A9 f e]
def RL(M:MH)(ps:List Addr)(a:List (List Nat)):Prop:=Mz (fun(p:Addr) (r:List Nat)=>M p=MA (.lst (r.map fun g:Nat=>D.int (g:Int)))) ps a
theorem RL.len{M:MH}{ps:List Addr}{a:List (List Nat)}(h:RL M ps a):ps.length=a.length:=by
 unfold RL at h
 induction h with
 |nil=>rfl
 |cons _ _ b=>rw[Jr,Jr,b]
theorem RL.mono{M b:MH}{ps:List Addr}{c:List (List Nat)}(h:RL M ps c)(s:∀p∈ps,∀o,M p=MA o->b p=MA o):RL b ps c:=by
 unfold RL at *
 induction h with
 |nil=>exact .nil
 |cons a _ d=>exact .cons (s _ (by simp) _ a) (d fun p f o e=>s p (by simp[f]) o e)
theorem RL.snoc{M:MH}{ps:List Addr}{a:List (List Nat)}{p:Addr}{r:List Nat}(h:RL M ps a)(e:M p=MA (.lst (r.map fun g:Nat=>D.int (g:Int)))):RL M (ps++[p]) (a++[r]):=Paired.snoc h e
section
variable{X:Cx}
def p0(us:List (Int×Int))(i:Nat):Int×Int:=us.getD i (0,0)
theorem rN{us:List (Int×Int)}{i:Nat}(h:i<us.length):p0 us i∈us:=by unfold p0;rw[List.getD_eq_getElem?_getD,J0 h];exact JW h
variable{prog:Jl}{w:JL}{A:JQ}{E:I0->IY->Prop}{s:IY}
end
section
variable{X:Cx}
def OL(u v:Int×Int):Prop:=100*u.1+u.2<100*v.1+v.2
theorem jz:Ka "sorted"=MA (.builtin "sorted"):=by first|exact boot_sorted|rfl
end
def kd(h:Heap)(d:Addr)(es:Array Kp)(ep:Nat):Prop:=∃o,h.get? d=MA o/\o.ExactDict/\o.data=.dict es ep
section
variable{prog:Jl}{w:JL}{A:JQ}{E:I0->IY->Prop}{s:IY}{d it:Addr}{es:Array Kp}{ep i:Nat}
theorem kd.ty(h:kd s.heap d es ep):s.TypeIs (.ref d) "dict":=let⟨o,a,b,_⟩:=h;⟨o,a,b.1⟩
theorem kd.kept{h h':Heap}(q:kd h d es ep)(k:∀o,h.get? d=MA o->h'.get? d=MA o):kd h' d es ep:=let⟨o,a,b⟩:=q;⟨o,k o a,b⟩
theorem kd.lt{h:Heap}(q:kd h d es ep):d<h.objs.size:=let⟨_,a,_⟩:=q;Jc a
theorem xv{Q:I0->IY->Prop}(lo:(d==L0)=MD)(b:kd s.heap d es ep)
 (q:Q (.ref s.heap.objs.size) { s with heap:=s.heap.push { cls:=.type "dict_keyiterator",data:=.fields #[.ref d,.int 0 0,.int es.size 0,.int ep 0] } }):J7 (Jg prog w) A (pyIter (.ref d)) Q E s:=by
 have a:=b.ty
 obtain⟨o,c,f,e⟩:=b
 refine wpAny_pyIter_slot a F.slot_dict_iter (Kv F.slot_dict_iter a F.entry_dict_iter ?_ (F.args_dict_iter_1 _))
 unfold Ls.«dict.__iter__»
 refine cc ?_
 unfold Builtin.Dict.dictSlotNone
 refine cc (wpAny_notOrdered_dict a ?_)
 show J7 _ _ (pure (L9 d)) _ _ s
 refine IX ?_
 show J7 _ _ (Builtin.Dict.showsAll d >>= _) _ _ s
 unfold Builtin.Dict.showsAll
 rw[ME (by rw[lo];exact Jf)]
 refine cc (IX (cc (wpAny_dictEntries c e (cc (wpAny_dictEpoch c e ?_)))))
 refine cc (JG (IX ⟨_,rfl,"dict_keyiterator",_,⟨_,J8 _ rfl,rfl⟩,KZ.lookup,?_⟩))
 simpa[Md]using q
theorem yc{Q:Option I0->IY->Prop}(b:s.heap.IsKeyIter it d i es.size ep)(h:kd s.heap d es ep)(hi:i<es.size)
 (j:∀h':Heap,h'.IsKeyIter it d (i+1) es.size ep->Lk it s.heap h'->Q (MA es[i].key) { s with heap:=h' }):J7 (Jg prog w) A (Mu (.ref it)) Q E s:=by
 obtain⟨o,c,k,hd⟩:=id b
 obtain⟨od,e,l,f⟩:=h
 have a:=b.typeIs
 unfold Mu
 refine cc (wpAny_attempt (L4 (name:=KU "__next__") a KZ (Kv KZ a F.entry_dict_keyiterator_next ?_ (F.args_dict_keyiterator_next_1 _))))
 refine cc (IX (cc (cc ?_)))
 first|refine cc (Lr a (IX ?_))|refine cc (wpAny_typeNameOf_keyiter a (IX ?_))
 refine cc (wpAny_fieldsOf c hd ?_)
 simp only[show Builtin.Dict_items.ownsTuple "dict_keyiterator"=MD by decide,JS,if_false]
 show J7 _ _ (if(L9 d==LQ)=MC then _ else _) _ _ s
 rw[ME (show ¬((L9 d==LQ)=MC)from Jf)]
 refine cc (IX (cc (wpAny_dictEntries e f ?_)))
 rw[ME (by simp)]
 refine cc (IX (cc (wpAny_dictEpoch e f ?_)))
 rw[ME (by simp)]
 refine IX ?_
 simp only[show ¬((i:Int)<0)from by omega,if_false,Kn,Jt hi]
 refine cc ?_
 first|refine cc (Lr a (IX ?_))|refine cc (wpAny_typeNameOf_keyiter a (IX ?_))
 refine cc (wpAny_isOneOf_keyiter a ?_)
 show J7 _ _ (setField (.ref it) 1 (Md ((i:Int)+1)) >>= _) _ _ s
 refine cc (wpAny_setField c hd (by simp) ?_)
 have g:(s.heap.update it (Obj.mapFields (·.setIfInBounds 1 (Md ((i:Int)+1))))).IsKeyIter it d (i+1) es.size ep:=
  ⟨_,Kx _ c (Obj.isFreed_of_fields (LV hd _)),(Obj.cls_mapFields ..).trans k,by rw[LV hd];simp[Md]⟩
 refine cc (K9 (cc (wpAny_isOneOf_keyiter (s:={ s with heap:=s.heap.update it (Obj.mapFields (·.setIfInBounds 1 (Md ((i:Int)+1)))) }) g.typeIs ?_)))
 show J7 _ _ (pure es[i].key) _ _ _
 exact IX (IX ⟨_,rfl,IX (j _ g (Kl ..))⟩)
theorem Aa{Q:Option I0->IY->Prop}(j:A.handled=MB)(e:s.heap.IsKeyIter it d es.size es.size ep)(k:kd s.heap d es ep)
 (l:∀h',Heap.ExtBut it s.heap h'->Q MB { s with heap:=h' }):J7 (Jg prog w) A (Mu (.ref it)) Q E s:=by
 obtain⟨o,f,n,hd⟩:=id e
 obtain⟨od,g,p,h⟩:=k
 have c:=e.typeIs
 unfold Mu
 refine cc (wpAny_attempt (L4 (name:=KU "__next__") c KZ (Kv KZ c F.entry_dict_keyiterator_next ?_ (F.args_dict_keyiterator_next_1 _))))
 refine cc (IX (cc (cc ?_)))
 first|refine cc (Lr c (IX ?_))|refine cc (wpAny_typeNameOf_keyiter c (IX ?_))
 refine cc (wpAny_fieldsOf f hd ?_)
 simp only[show Builtin.Dict_items.ownsTuple "dict_keyiterator"=MD by decide,JS,if_false]
 show J7 _ _ (if(L9 d==LQ)=MC then _ else _) _ _ s
 rw[ME (show ¬((L9 d==LQ)=MC)from Jf)]
 refine cc (IX (cc (wpAny_dictEntries g h ?_)))
 rw[ME (by simp)]
 refine cc (IX (cc (wpAny_dictEpoch g h ?_)))
 rw[ME (by simp)]
 refine IX ?_
 simp only[show ¬((es.size:Int)<0)from by omega,if_false,Kn,LG (J1 es.size)]
 refine cc ?_
 first|refine cc (Lr c (IX ?_))|refine cc (wpAny_typeNameOf_keyiter c (IX ?_))
 show J7 _ _ (setField (.ref it) 0 .none >>= _) _ _ s
 refine cc (wpAny_setField f hd (by simp) ?_)
 show J7 _ _ (newExc (.type "StopIteration") [] >>= _) _ _ _
 refine cc ?_
 simp only[newExc,newTuple]
 refine cc (JG ?_ (by size_fits))
 refine cc (m:=firstArgMember _ _) (wpAny_of_eq (a:=LQ) (by first|rfl|(simp only[firstArgMember];rfl)) ?_)
 refine JG ?_ (by size_fits)
 simp only[raiseNew]
 refine cc (wpAny_handled ?_)
 rw[show A.in1.handled=MB from j]
 refine cc (IX (wpAny_throw ?_))
 refine cc (wpAny_isInstance (T:="StopIteration") (b:=MC) ⟨_,J8 _ rfl,rfl⟩ isSubtype_stop ?_)
 exact IX (l _ (((Kl ..).extBut.push _).push _))
theorem wB(l:A.handled=MB)(I d:Addr)(f:d≠I)(es:Array Kp)(ep:Nat):Walks prog w A I [I,d] [I] es.size (fun i v=>∃e,es[i]?=MA e/\v=e.key) (fun i h=>h.IsKeyIter I d i es.size ep/\kd h d es ep) where
 sub:=fun b a=>by simp at a;simp[a]
 frame:=fun _ _ _ st j=>⟨st.1.at fun o e=>j I (by simp) o e,st.2.kept fun o e=>j d (by simp) o e⟩
 item:=fun i s Q E hi st c=>yc st.1 st.2 hi fun g m k=>c _ g s.toks ⟨es[i],by simp[hi],rfl⟩ ⟨m,st.2.kept fun o e=>(k.2 d f).trans e⟩ fun b o a e=>k.extBut b o (fun h=>a (by simp[h])) e
 done:=fun s Q E st c=>Aa l st.1 st.2 fun g n=>c g s.toks fun b o a e=>n b o (fun h=>a (by simp[h])) e
 self:=fun _ _ _ _ st c=>wpAny_pyIter_keyiter st.1 c
theorem BO(lo:(d==L0)=MD):PySem.W.KdlSrc prog w "dict" d d es.size (fun i v=>∃e,es[i]?=MA e/\v=e.key) (fun h=>kd h d es ep) where
 type:=fun _ a=>a.ty
 there:=fun _ a=>⟨a.lt,a.lt⟩
 keep:=fun _ _ a c=>a.kept fun o e=>c d (.inl rfl) o e
 notList:=by decide
 notTuple:=by decide
 hint:=fun _ _ _ _ a b=>PySem.W.kdl_hint_dict a.ty b
 iter:=fun _ _ f a=>⟨_,_,(fun _ _ b=>xv lo a b),wB f _ d (JK a.lt) es ep,⟨⟨_,J8 _ rfl,rfl,rfl⟩,a.kept fun o e=>J3 _ e⟩⟩
end
section
variable{X:Cx}
theorem wY{P:Jl}{w:JL}{xs:List Nu}{a:List (N5×Addr×I0)}(r:Mz Qs xs a):(a.map (entryOfKey (eE P w))).map (·.key)=xs.map fun x=>L9 x.2.1:=by
 induction r with
 |nil=>rfl
 |cons h t b=>simp only[J5,b,h.2.1];rfl
theorem nA:∀xs:List Nu,Vals (xs.map fun x=>V.ref x.2.1) (xs.map fun x=>L9 x.2.1)
 |[]=>.nil
 |x::xs=>.cons rfl (nA xs)
theorem pV(h:X.calm=MC):bO X (.type "list") (fun vs H Q=>∃p xs,vs=[.ref p]/\H p=MA (.ext (bW X.prog X.w p xs))/\∀l,H l=MB->Q (.ref l) (upd H l (.lst (xs.map fun x=>V.ref x.2.1)))):=by
 intro MP s σ H vs us Q I r j;obtain⟨p,xs,k,m,q⟩:=j;subst k;obtain⟨u,rfl,n⟩:=vals1 r;cases n;obtain⟨⟨t,d,E,F,f,o,es,ep,v,y,z,g⟩,_⟩:=I.hok p _ m;have A:es.size=xs.length:=by rw[<-Jx,g,IZ,kA f]
 refine PySem.W.kdl_call (BO (es:=es) (ep:=ep) t) (I.ok.hd h) ⟨o,v,y,z⟩ (by rw[A];exact d) fun B C a c kp D it=>?_
 have ea:a.toList=xs.map fun x=>L9 x.2.1:=by
  rw[<-wY (P:=X.prog) (w:=X.w) f,<-g];apply List.ext_getElem?;intro i;by_cases hi:i<es.size
  ·have b:i<a.size:=by rw[it.1];exact hi
   obtain⟨e,e1,e2⟩:=it.2 i a[i] (by simp[b]);simp[b,hi]at e1 ⊢;rw[e2,<-e1]
  ·have b:¬i<a.size:=by rw[it.1];exact hi
   simp[hi,b]
 refine⟨.ref s.heap.objs.size,_,I.laid (t':=C) kp (J1 _) (show bT X.prog X.w _ B _ (.lst _)from⟨by rw[IZ];exact d,_,c,nA xs,?_⟩),rfl,q _ (I.hok.fresh (J1 _))⟩;rw[<-ea,Array.toArray_toList];exact D
def EX:RC:=fun a M Q=>wV a M Q\/∃l kvs,a=[.ref l]/\M l=MA (OH kvs)/\∀p,M p=MB->Q (.ref p) (aC M p (.lst (kvs.map fun x=>Pb x.1)))
theorem nG{K:IW}{H:Hp}:∀{kvs:Ny} {xs:List Nu},xs.map (·.1)=kvs.map (·.1)->(∀x∈xs,du K H x.2.1 x.1)->aK K H (kvs.map fun x=>Pb x.1) (xs.map fun x=>V.ref x.2.1)
 |[],[],_,_=>by rw[KA,KA];exact aK.nil
 |y::kvs,x::xs,h,k=>by
  rw[J5,J5]at h
  injection h with e1 e2
  rw[J5,J5]
  exact aK.cons (by rw[<-e1];exact zN (k x (by simp))) (nG e2 fun z a=>k z (by simp[a]))
 |[],_::_,h,_=>by cases h
 |_::_,[],h,_=>by cases h
theorem qW(f:X.calm=MC):eQ X (.type "list") EX:=by
 intro MP s σ H vs us Q I d g;obtain⟨h,M,R,e,a,q,b⟩:=g;rcases q with q|⟨l,kvs,i,j,q⟩
 ·exact AR MP s σ H vs us Q I d ⟨h,M,R,e,a,q,b⟩
 ·subst i;obtain⟨v,rfl,r⟩:=cF e;rw[Rep]at r;subst r;obtain⟨xs,k,m,n,o⟩:=a.dsp j;exact pV f MP s σ H _ us Q I d ⟨_,xs,rfl,k _ _,fun z c=>b (.ref z) _ _ _ (.new c) (by rw[Rep]) (a.jK c (nG m n)) (q z (a.fresh c))⟩
end
def OG(t b X Y:Int)(u:Vc):D:=NH (MX t b X 1 u.1) (MX t b Y 1 u.2)
def gk(t b X Y:Int)(u:Vc):N5:=((MX t b X 1 u.1).num,((MX t b X 1 u.1).den:Int),(MX t b Y 1 u.2).num,((MX t b Y 1 u.2).den:Int))
theorem sP(t b X Y:Int)(u:Vc):OG t b X Y u=Pb (gk t b X Y u):=rfl
theorem sD{t b X Y:Int}(a:0<t)(c:0<b){p q:Vc}(h:gk t b X Y p=gk t b X Y q):p=q:=by unfold gk at h;injection h with d h;injection h with e h;injection h with f g;have e1:MX t b X 1 p.1=MX t b X 1 q.1:=Rat.ext d (by exact_mod_cast e);have e2:MX t b Y 1 p.2=MX t b Y 1 q.2:=Rat.ext f (by exact_mod_cast g);have i:=(NF a c (by decide) (by decide)).mp e1;have j:=(NF a c (by decide) (by decide)).mp e2;exact Prod.ext (by omega) (by omega)
def Nt(u:Vc):Prop:=(0<=u.1/\u.1<=20)/\(0<=u.2/\u.2<=20)
def ea(w:Wl):Vc:=(w.1,w.2.1)
def eb(w:Wl):Vc:=(w.2.2.1,w.2.2.2)
theorem NO.ea{w:Wl}(h:NO w):Nt (ea w):=⟨h.a,h.b⟩
theorem NO.eb{w:Wl}(h:NO w):Nt (eb w):=⟨h.c,h.d⟩
def fg(us:List Vc)(u:Vc):List Vc:=if u∈us then us else us++[u]
theorem iK{us:List Vc}{u v:Vc}:v∈fg us u↔v∈us\/v=u:=by
 unfold fg;split
 ·constructor
  ·exact .inl
  ·rintro(h|rfl)
   ·exact h
   ·assumption
 ·simp
theorem uN{us:List Vc}{u:Vc}(h:us.Nodup):(fg us u).Nodup:=by
 unfold fg;split
 ·exact h
 ·rename_i hn;rw[Lv];refine⟨h,by simp,fun a c b d e=>?_⟩;have:b=u:=by simpa using d
  subst this;subst e;exact hn c
theorem lC(us:List Vc)(u:Vc):(fg us u).length<=us.length+1:=by
 unfold fg;split
 ·omega
 ·simp
def Nl(ws:List Wl):Nat->List Vc
 |0=>[]
 |i+1=>match ws[i]? with
  |some w=>fg (fg (Nl ws i) (ea w)) (eb w)
  |none=>Nl ws i
theorem ot(ws:List Wl):∀i,(Nl ws i).Nodup
 |0=>Mw
 |i+1=>by
  unfold Nl
  split
  ·exact uN (uN (ot ws i))
  ·exact ot ws i
theorem oI(ws:List Wl):∀i,(Nl ws i).length<=2*i
 |0=>J1 _
 |i+1=>by
  have a:=oI ws i
  unfold Nl
  split
  ·have b:=lC (fg (Nl ws i) (ea ‹_›)) (eb ‹_›)
   have c:=lC (Nl ws i) (ea ‹_›)
   omega
  ·omega
theorem ve{ws:List Wl}{u:Vc}:∀i,u∈Nl ws i↔∃j w,j<i/\ws[j]?=MA w/\(u=ea w\/u=eb w)
 |0=>by simp[Nl]
 |i+1=>by
  have d:=ve (ws:=ws) (u:=u) i
  unfold Nl
  split
  ·rename_i w hw
   rw[iK,iK,d]
   constructor
   ·rintro((⟨j,v,c,b,a⟩|h)|h)
    ·exact⟨j,v,by omega,b,a⟩
    ·exact⟨i,w,by omega,hw,.inl h⟩
    ·exact⟨i,w,by omega,hw,.inr h⟩
   ·rintro⟨j,v,c,b,a⟩
    by_cases e:j=i
    ·subst e
     rw[hw]at b;cases b
     rcases a with a|a
     ·exact .inl (.inr a)
     ·exact .inr a
    ·exact .inl (.inl ⟨j,v,by omega,b,a⟩)
  ·rename_i hw
   rw[d]
   constructor
   ·rintro⟨j,v,c,b,a⟩
    exact⟨j,v,by omega,b,a⟩
   ·rintro⟨j,v,c,b,a⟩
    by_cases e:j=i
    ·subst e;rw[hw]at b;cases b
    ·exact⟨j,v,by omega,b,a⟩
theorem Fu{ws:List Wl}(a:∀w∈ws,NO w){i:Nat}:∀u∈Nl ws i,Nt u:=fun u b=>by
 obtain⟨j,w,_,c,d⟩:=(ve i).mp b;have:=a w (J9 c);rcases d with rfl|rfl
 ·exact this.ea
 ·exact this.eb
def Pt(t b X Y:Int)(us:List Vc):Ny:=us.map fun u=>(gk t b X Y u,D.bl MC)
theorem Bj{t b X Y:Int}(c:0<t)(d:0<b)(us:List Vc)(u:Vc):putD (Pt t b X Y us) (gk t b X Y u) (.bl MC)=Pt t b X Y (fg us u):=by
 have ea:((Pt t b X Y us).any fun x=>decide (x.1=gk t b X Y u))=decide (u∈us):=by
  rw[LA,List.any_eq_true,ML];constructor
  ·rintro⟨x,f,e⟩;obtain⟨v,a,rfl⟩:=Jp.mp f;have:gk t b X Y v=gk t b X Y u:=by simpa using e
   rw[<-sD c d this];exact a
  ·intro h;exact⟨_,Jp.mpr ⟨u,h,rfl⟩,by simp⟩
 unfold putD fg;rw[ea];by_cases h:u∈us
 ·rw[MF (by simpa using h),MF h];unfold Pt;rw[KC];refine La fun v a=>?_;dsimp only[Function.comp];split
  ·rfl
  ·rfl
 ·rw[ME (by simpa using h),ME h];unfold Pt;rw[Jk];rfl
theorem Ej{ps:List Vc}{u:Vc}{j:Nat}(h:ps.Pairwise OL)(l:j<=ps.length)(e:∀i,i<j->OL (p0 ps i) u)(f:∀i,j<=i->i<ps.length->OL u (p0 ps i)):(cG ps j u).Pairwise OL/\(cG ps j u).Perm (u::ps):=by
 constructor
 ·unfold cG;rw[List.pairwise_append]
  have lt:∀x∈ps.take j,OL x u:=fun x b=>by
   obtain⟨i,hi,rfl⟩:=LC b
   have a:i<j/\i<ps.length:=by rw[KJ]at hi;omega
   have:=e i a.1
   unfold p0 at this
   simpa[a.2]using this
  have d:∀x∈ps.drop j,OL u x:=fun x b=>by
   obtain⟨i,hi,rfl⟩:=LC b
   have a:j+i<ps.length:=by rw[List.length_drop]at hi;omega
   have:=f (j+i) (by omega) a
   unfold p0 at this
   simpa[a]using this
  refine⟨h.sublist (List.take_sublist _ _),List.pairwise_cons.mpr ⟨d,h.sublist (List.drop_sublist _ _)⟩,fun x b y c=>?_⟩;rcases Jv.mp c with rfl|c
  ·exact lt x b
  ·have g:=lt x b;have k:=d y c;unfold OL at g k ⊢;omega
 ·unfold cG;have:(ps.take j++u::ps.drop j).Perm (u::(ps.take j++ps.drop j)):=List.perm_middle
  rwa [Mc]at this
theorem zW{t b X Y:Int}(a:0<t)(c:0<b){u v:Vc}(d:Nt u)(e:Nt v):MZ (MX t b X 1 u.1) (MX t b Y 1 u.2) (MX t b X 1 v.1) (MX t b Y 1 v.2)↔OL u v:=nU a c d.2 e.2
theorem Nt.bx{t b X Y:Int}(S:OE t b X Y){u:Vc}(h:Nt u):MY 200 (MX t b X 1 u.1):=S.bx (by decide) (by have:=h.1;omega)
theorem Nt.by'{t b X Y:Int}(S:OE t b X Y){u:Vc}(h:Nt u):MY 200 (MX t b Y 1 u.2):=S.by' (by decide) (by have:=h.2;omega)
theorem AU{u v:Vc}(a:Nt u)(b:Nt v)(ne:u≠v)(h:¬OL u v):OL v u:=by
 have c:=a.2;have d:=b.2;unfold OL at h ⊢;by_cases e:100*u.1+u.2=100*v.1+v.2
 ·exact absurd (Prod.ext (by omega) (by omega)) ne
 ·omega
section
variable{X:Cx}{MP:List (Addr×Obj)}{σ:L2.St}{H:Hp}{s:IY}{a b:Addr}{k:N5}
theorem yR{A:JQ}{E:I0->IY->Prop}{Q:Unit->IY->Prop}{xs:List Nu}{v:V}{u:I0}(C:A.units+8<Kf)(I:L2.Inv X MP σ H s)(e:H a=MA (.ext (bW X.prog X.w a xs)))(i:∀x∈xs,du X.K H x.2.1 x.1)(j:du X.K H b k)(f:RelV v u)(D:xs.length<Jb)
 (h:∀g,L2.Inv X MP σ (upd H a (.ext (bW X.prog X.w a (fP xs k b v)))) g->Q () g):J7 (Jg X.prog X.w) A (dictSet a (.ref b) u) Q E s:=by
 obtain⟨hd,l,F,r,m⟩:=oT I e i
 refine wpAny_dictSet_heap (knd:=eE X.prog X.w) (hsz:=by rw[<-kA r];exact l) (show A.units+4<Kf by omega) (qA I j) m fun G c hs=>h _ ?_
 obtain⟨q,es,ep,d,n,o,p,_,t⟩:=c
 refine jc I (by rw[e];exact True.intro) hs ⟨q,d⟩ ⟨⟨hd,?_,?_,_,gJ r k b f,q,es,ep,d,n,o,p⟩,⟨q,d⟩,fun z B x y=>km z B x y⟩
 ·have:=l7 xs k b v;omega
 ·rw[<-i9 (gJ r k b f)];exact t
end
theorem tw{prog:Jl}{w:JL}{A:JQ}{R:Result->IY->Prop}{s:IY}{g i a b:Expr}{d:List Expr}{scope:LR}{pos:Pos}{it:I0}{D:Addr}{env:Env}(J:Nat->IY->Prop)
 (step:∀n s,J n s->J7 (Jg prog w) A (Mu it) (fun r j=>match r with
  |none=>R (.ok .next) j
  |some v=>J7 (Jg prog w) A (Lc a it v) (fun _ l=>J7 (Jg prog w) A (Mt a env v) (fun _ o=>
   J7 (Jg prog w) A (forIn d MC fun c r=>if r=MC then do let ok <-isTrue c env (eval c env);pure (Ly ok)else pure (Ly r)) (fun ok k=>
    if ok=MC then J7 (Jg prog w) A (eval g env) (fun p q=>J7 (Jg prog w) A (eval i env) (fun t u=>J7 (Jg prog w) A (dictSet D p t) (fun _ y=>∃m,m<n/\J m y) Nh u) Nh q) Nh k
    else ∃m,m<n/\J m k) Nh o) Nh l) Nh j) Nh s)
 (n:Nat) (h:J n s):Ll (Jg prog w) A (.compLoop (.DictComp g i [⟨a,b,d,0⟩] scope pos) 0 it (.ref D) env) R s:=by
 have f:∀{E:I0->IY->Prop} e B,Nh e B->E e B:=fun _ _ z=>z.elim
 refine codeAny_loop rfl J (fun n s G=>?_) n h
 show J7 _ _ (Sem.onRaise (compTurn (.DictComp g i [⟨a,b,d,0⟩] scope pos) 0 it (.ref D) env) (fun x=>do noteFrame x env;theTreesLotGoes x)) _ _ s
 refine wpAny_noted ?_
 rw[compTurn_dict]
 refine cc (KQ (cc (Je (step n s G) (fun r j C=>?_) f)))
 cases r with
 |none=>exact IX C
 |some v=>
  refine cc (Je C (fun _ l H=>cc (Je H (fun _ o I=>cc (Je I (fun ok k F=>?_) f)) f)) f)
  cases ok with
  |false=>exact IX ⟨rfl,F⟩
  |true=>exact cc (cc (Je F (fun p q K=>cc (K9 (Je K (fun t u L=>cc (KQ (K9 (Je L (fun _ y M=>IX ⟨rfl,M⟩) f)))) f))) f))
def zd(X:Cx)(js:List Nat)(own:Own)(tc:TT)(tk te:TE)(σ:L2.St)(J:It)(H1:Hp)(Q:VK):Prop:=∀D,H1 D=MB->∃W:Nat->Nat->Hp->Prop,(∃m,W 0 m (upd H1 D (.ext (bW X.prog X.w D []))))/\∀i m H,W i m H->
 (J.stop i H/\Q (.ref D) H)\/(J.go i H/\∀y d,J.yld i H y d->∃os,own y d os/\tc (cσ os js σ) d fun b e=>if b=MC then
  tk (cσ os js σ) e fun f g=>te (cσ os js σ) g fun v c=>∃b k xs,f=.ref b/\c D=MA (.ext (bW X.prog X.w D xs))/\(∀x∈xs,du X.K c x.2.1 x.1)/\du X.K c b k/\xs.length<Jb/\∃a,a<m/\W (i+1) a (upd c D (.ext (bW X.prog X.w D (fP xs k b v))))else ∃a,a<m/\W (i+1) a e)
def tY(X:Cx)(js:List Nat)(own:Own)(a:TI)(tc:TT)(tk te:TE):TE:=fun σ H Q=>a σ H fun J H1=>zd X js own tc tk te σ J H1 Q
section
variable{X:Cx}{xs:List Str}{tg:Expr}{pos:Pos}{js:List Nat}{scope:LR}{kx vx iter:Expr}{ifs:List Expr}{tk te:TE}{tc:TT}{g:TG}{own:Own}{wi:TI}{MP:List (Addr×Obj)}{σ:L2.St}{H:Hp}{s:IY}{fp:List Addr}{it:Addr}{tn:Nat->Heap->Prop}{J:It}
theorem vG(c:NM X xs js scope)(hc:X.calm=MC)(hG:OW xs.length g own)(hg:∀C s H fp,PG (NU X xs js scope C s H fp) tg g)(ht:∀C s H fp,R8 (NU X xs js scope C s H fp) ifs tc)(hk:∀C s H fp,PE (NU X xs js scope C s H fp) kx tk)(he:∀C s H fp,PE (NU X xs js scope C s H fp) vx te)(hu:X.A.units+8<Kf)
 {R:I0->Addr->Result->IY->Prop} {E:I0->IY->Prop} {Q:VK}
 (I:Inv X MP σ H s) (T:Turn X.prog X.w X.K tg J fp it tn) (st:tn 0 s.heap) (hf:∀b∈fp,cX X MP H b) (wc:zd X js own tc tk te σ J H Q)
 (hR:∀D C h G,Inv X MP σ h G->cX X MP h C->(∃m,G.heap.Ns C m)->Q (.ref D) h->R (.ref D) C (.ok .next) G) :
 J7 (Jg X.prog X.w) X.A newDict (fun d0 e0=>J7 (Jg X.prog X.w) X.A (newFunctionEnv scope X.env.globals (fD scope.names X.env) [] X.env.qual MB .none (MA X.env)) (fun N f0=>
  Ll (Jg X.prog X.w) X.A (.compStart (.DictComp kx vx [⟨tg,iter,ifs,0⟩] scope pos) 0 (.ref it) d0 { N with scope:=relabel scope X.env }) (R d0 N.locals) f0) E e0) E s:=by
 have g0:∀b∈fp,b<s.heap.objs.size:=fun b a=>let⟨o,e,_⟩:=T.obj 0 _ st b a;Jc e
 have hD:H s.heap.objs.size=MB:=I.hok.fresh (J1 _)
 refine JG (oJ ?_)
 generalize hh:s.heap.push { cls:=.type "dict",data:=.dict #[] }=f
 generalize h0:pushCells (({ s with heap:=f }:IY).heap.push { cls:=.type "dict",data:=.dict #[] }) scope.names=j
 have k3:∀b o,s.heap.get? b=MA o->f.get? b=MA o:=fun b o e=>by rw[<-hh];exact J3 _ e
 have I3:Inv X MP σ (upd H s.heap.objs.size (.ext (bW X.prog X.w s.heap.objs.size []))) { s with heap:=f }:=by
  rw[<-hh];exact vm I
 have l:∀b∈fp,cX X MP (upd H s.heap.objs.size (.ext (bW X.prog X.w s.heap.objs.size []))) b:=fun b a=>⟨by rw[aX (JK (g0 b a))];exact(hf b a).1,(hf b a).2⟩
 have s0:f.objs.size=s.heap.objs.size+1:=by rw[<-hh,KH]
 have i0:∀b∈fp,b<f.objs.size:=fun b a=>by rw[s0];exact Mj (g0 b a)
 have k4:∀b o,f.get? b=MA o->j.get? b=MA o:=fun b o e=>by rw[<-h0];exact pushCells_keeps _ _ b o (J3 _ e)
 have I4:=lZ c I3 l i0 (h':=j) h0.symm k4
 obtain⟨W,⟨m0,w0⟩,k0⟩:=wc _ hD
 have Pa:tn 0 j:=T.keep 0 _ _ st fun b a o e=>k4 b o (k3 b o e)
 generalize hX:NU X xs js scope f.objs.size { s with heap:=f } (upd H s.heap.objs.size (.ext (bW X.prog X.w s.heap.objs.size []))) fp=X' at I4
 have S:∀{pins':List (Addr×Obj)} {h:Hp} {L:L2.St} {G:IY},Inv X' [] L h G->(∀b∈fp,h b=MB)->∀b∈fp,cX X' [] h b:=fun{pins' h L G} J' hn b a=>by
  subst hX
  obtain⟨a1,a2⟩:=J'.ok.exf b a
  exact⟨hn b a,a1,J'.ok.exfs b a,.inl a,a2,fun p hp=>absurd (show p∈([]:List (Addr×Obj))from hp) (by simp)⟩
 have O:Ll (Jg X.prog X.w) X.A (.compLoop (.DictComp kx vx [⟨tg,iter,ifs,0⟩] scope pos) 0 (.ref it) (.ref s.heap.objs.size) (j8 scope f.objs.size X.env)) (R (.ref s.heap.objs.size) f.objs.size)
  { s with heap:=j }:=by
  refine tw (fun n G=>∃i os h,os.length=xs.length/\Inv X' [] (cσ os js σ) h G/\tn i G.heap/\(∀b∈fp,h b=MB)/\W i n h) ?_ m0 ⟨0,_,_,by simp,I4,Pa,fun b a=>(l b a).1,w0⟩
  rintro n s5 ⟨i,os,H5,t0,I5,Oc,l0,w5⟩
  rcases k0 i n H5 w5 with⟨stop,q⟩|⟨go,step⟩
  ·subst hX
   refine Je (T.done (NU X xs js scope f.objs.size { s with heap:=f } (upd H s.heap.objs.size (.ext (bW X.prog X.w s.heap.objs.size []))) fp) rfl rfl rfl hc i [] s5 _ H5 Nh I5 (S (pins':=[]) I5 l0) Oc stop) (fun r s6 U=>?_) fun _ _ z=>z
   obtain⟨hr,I6⟩:=U
   subst hr
   refine hR _ _ H5 s6 (I3.yg I6.os I6.base I6.hok I6.bare fun b a=>⟨(l b a).2.2.2.1,(l b a).2.1,(l b a).2.2.2.2.1,(l b a).2.2.2.2.2⟩) (I3.sU (J1 _) I6.free) (let⟨m,hm,_⟩:=I6.loc;⟨m,hm⟩) q
  ·subst hX
   refine Je (T.item (NU X xs js scope f.objs.size { s with heap:=f } (upd H s.heap.objs.size (.ext (bW X.prog X.w s.heap.objs.size []))) fp) rfl rfl rfl hc i [] s5 _ H5 Nh I5 (S (pins':=[]) I5 l0) Oc go) (fun r s6 V=>?_) fun _ _ z=>z
   obtain⟨u,hr,h6⟩:=V
   subst hr
   refine Je h6 (fun _ s7 Y=>?_) fun _ _ z=>z
   obtain⟨y,H7,I7,r7,y7,Of,u0⟩:=Y
   have v0:=I7.pinned (S (pins':=[]) I7 u0) (T.obj _ _ Of)
   obtain⟨M,n0,q8⟩:=step y H7 y7
   have l8:=hG.len _ _ _ n0
   refine Je (hg _ _ _ _ _ s7 _ H7 y u (fun L h=>L=cσ M js σ/\h=H7) v0 r7 (hG.run y H7 os _ M _ t0 n0 ⟨rfl,rfl⟩)) (fun _ s8 Z=>?_) fun _ _ z=>z
   obtain⟨i1,H8,I8,e8,x0⟩:=Z
   subst e8 x0
   refine Je (ht _ _ _ _ _ s8 _ _ _ I8 q8) (fun ok s9 a0=>?_) fun _ _ z=>z
   obtain⟨H9,I9,q9⟩:=a0
   have P:∀{m':Nat} {x:Hp} {t:IY},Inv (NU X xs js scope f.objs.size { s with heap:=f } (upd H s.heap.objs.size (.ext (bW X.prog X.w s.heap.objs.size []))) fp) ([]++gH fp s7.heap) (cσ M js σ) x t->m'<n->W (i+1) m' x->
    ∃m,m<n/\∃i os h,os.length=xs.length/\Inv (NU X xs js scope f.objs.size { s with heap:=f } (upd H s.heap.objs.size (.ext (bW X.prog X.w s.heap.objs.size []))) fp) [] (cσ os js σ) h t/\tn i t.heap/\(∀b∈fp,h b=MB)/\W i m h:=fun{m' x t} B F y0=>by
    refine⟨m',F,i+1,M,x,l8,B.d3,T.keep _ _ _ Of fun b a o e=>(B.pin (b,o) (Ji _ (Ji _ (bI a e)))).1,fun b a=>?_,y0⟩
    obtain⟨o',e,d⟩:=T.obj _ _ Of b a
    exact(B.pin (b,o') (Ji _ (Ji _ (bI a e)))).2.1
   cases ok with
   |false=>
    rw[ME Jf]at q9 ⊢
    obtain⟨m',F,w9⟩:=q9
    exact P I9 F w9
   |true=>
    rw[MF rfl]at q9 ⊢
    refine Je (hk _ _ _ _ _ s9 _ _ _ I9 q9) (fun kv t b0=>?_) fun _ _ z=>z
    obtain⟨kk,x,B,z0,b1⟩:=b0
    refine Je (he _ _ _ _ _ t _ _ _ B b1) (fun v j1 c0=>?_) fun _ _ z=>z
    obtain⟨vv,k1,c1,d1,b,k,ys,ek,o0,e1,f1,r0,m',F,g1⟩:=c0
    subst ek
    cases z0
    exact yR (X:=NU X xs js scope f.objs.size { s with heap:=f } (upd H s.heap.objs.size (.ext (bW X.prog X.w s.heap.objs.size []))) fp) hu c1 o0 e1 f1 d1 r0 fun m1 h1=>P h1 F g1
 exact codeAny_compStart_dict O (T.self X.A 0 _ _ _ Pa O)
theorem xl{i:Nat}{y:Str}{l j:Pos}(c:NM X xs js scope)(F:X.calm=MC)(G:X.N.Nodup)(hi:PI X tg iter wi)(K:OW xs.length g own)(L:∀C s H fp,PG (NU X xs js scope C s H fp) tg g)(M:∀C s H fp,R8 (NU X xs js scope C s H fp) ifs tc)(O:∀C s H fp,PE (NU X xs js scope C s H fp) kx tk)(he:∀C s H fp,PE (NU X xs js scope C s H fp) vx te)(P:X.A.units+8<Kf)(S:X.N[i]?=MA y)(E:X.env.scope.names.lookup y=MA .local)
 (p:LL (.DictComp kx vx [⟨tg,iter,ifs,0⟩] scope pos) (MA (.Name y l)) j.line X.env=pure MC) (hs:∀x,JH iter X.env x=pure x:=by intro _;rfl) :
 PS X (.Assign [.Name y l] (.DictComp kx vx [⟨tg,iter,ifs,0⟩] scope pos) j) (Bm (tY X js own wi tc tk te) (gc i)):=by
 intro MP s σ H B I h
 rw[exec_Assign_Name_used _ _ _ _ p]
 refine cc (KQ (cc ?_))
 show J7 _ X.A (do let _ <-comprehension (.DictComp kx vx [⟨tg,iter,ifs,0⟩] scope pos) scope X.env _ newDict MD (eval iter X.env) (MA (Mt (.Name y l) X.env))) _ _ s
 refine cc (Je (wpAny_comprehension_free (use:=MA (Mt (.Name y l) X.env)) (Q:=fun _ n=>SP X MP B .next n) rfl hs (c.AY I.ok) c.kind c.names
  (NQ (hi MP s σ H _ I h) fun v s1 U=>NQ U fun V s2 W=>?_)) (fun _ n Y=>IX (IX Y)) fun _ _ e=>e)
 obtain⟨it,fp,tn,J,H2,e,Z,T,st,f2,w⟩:=W
 subst e
 refine vG (R:=fun r C=>compPost (Jg X.prog X.w) X.A X.xe (MA (Mt (.Name y l) X.env)) (fun _ n=>SP X MP B .next n) r C) c F K L M O he P Z T st f2 w fun D C H' n I' k d q=>?_
 obtain⟨m,hm⟩:=d
 show J7 _ X.A (Mt (.Name y l) X.env (.ref D)) _ _ _
 refine wpAny_assign_Name (jw I' G S (.inl E) (v:=.ref D) rfl (fun s9 I9 f=>?_) (.inr E))
 obtain⟨a,sb,ha⟩:=f
 have t:C≠a:=by
  rcases ha with z|z
  ·rw[z];exact k.2.1
  ·exact fun e=>k.2.2.2.2.1 y a z e.symm
 refine⟨m,hm.sameBut sb t,fun h' u=>?_⟩
 exact⟨_,H',I9.turned (t':=s9.toks) (fun b o ne e=>u.extBut b o ne e) k.1 k.2.1 k.2.2.2.1 k.2.2.2.2.1 k.2.2.2.2.2,q⟩
end
def Eu(I:Qt)(tk:Po)(js:List Nat)(tc:Nj)(g te:TD)(δ:DS)(a:MH)(Q:DK):Prop:=I.n<=900000/\∀p,a p=MB->∃W:Nat->Ny->MH->Prop,W 0 [] (aC a p (OH []))/\(∀i kvs M,i<=I.n->W i kvs M->I.C M)/\
 (∀i kvs d M,i<I.n->I.item i=MA d->W i kvs M->∃os,zi tk d os/\tc (cδ os js δ) M fun b c=>if b=MC then g (cδ os js δ) c fun y h=>te (cδ os js δ) h fun e f=>∃k,y=Pb k/\f p=MA (OH kvs)/\kvs.length<=i/\W (i+1) (putD kvs k e) (aC f p (OH (putD kvs k e)))else W (i+1) kvs c)/\∀kvs M,W I.n kvs M->Q (.ref p) M
def oz(a:O3)(tk:Po)(js:List Nat)(tc:Nj)(b te:TD):TD:=fun δ M Q=>a δ M fun I c=>Eu I tk js tc b te δ c Q
section
variable{X:Cx}
theorem tF{F:O3}{tk:Po}{js:List Nat}{tc:Nj}{G te:TD}{σ:L2.St}{H:Hp}{Q:VK}(h:lift X.K (oz F tk js tc G te) σ H Q):tY X js (pL X.K tk) (lz X.K F) (liftT X.K tc) (lift X.K G) (lift X.K te) σ H Q:=by
 obtain⟨δ,M,R,hs,hM,q,x⟩:=h;refine⟨δ,M,_,hs,hM,q,fun I M1 H1 J L N z A p B=>?_⟩;obtain⟨hn,z⟩:=z;obtain⟨W,w0,hC,l,done⟩:=z p (N.fresh B);refine⟨fun i m g=>m=I.n-i/\i<=I.n/\NN X.K H1 g/\∃kvs M,NW X.K g M/\W i kvs M,⟨I.n,by simp,Kb _,.new B,[],_,N.Cm _ _ B,w0⟩,?_⟩;rintro i m g ⟨rfl,hi,f,kvs,j,r,o⟩;by_cases a:i<I.n
 ·refine .inr ⟨A.go i g j a f r (hC _ _ _ hi o),fun v H3 hy=>?_⟩;obtain⟨C,a3,d,ed,rd⟩:=A.yld i g j v H3 a f r (hC _ _ _ hi o) hy;obtain⟨os,ow,q3⟩:=l i kvs d j a ed o;obtain⟨us,uv,su⟩:=pZ rd ow;have D:=kn (js:=js) (hs.mono ((L.trans f).trans C)) su;refine⟨us,uv,cδ os js δ,j,_,D,a3,q3,fun b O H4 s P t=>?_⟩;cases b with
  |false=>
   rw[ME Jf]at t ⊢
   exact⟨I.n-(i+1),by omega,rfl,a,(f.trans C).trans s,kvs,O,P,t⟩
  |true=>
   rw[MF rfl]at t ⊢
   refine⟨cδ os js δ,O,_,D.mono s,P,t,fun y M5 u H5 S r5 a5 q5=>⟨cδ os js δ,M5,_,(D.mono s).mono S,a5,q5,fun e M6 u6 T U r6 V c=>?_⟩⟩
   obtain⟨k,ey,e6,b0,w6⟩:=c
   subst ey
   obtain⟨b,rfl,sp⟩:=rk (r5.mono U)
   obtain⟨xs,E,Y,Z,h4⟩:=V.dsp e6
   have a0:xs.length=kvs.length:=by have:=congrArg List.length Y;simpa using this
   have sz:1000000<=Jb:=NS rfl
   have g7:NN X.K T (upd T p (.ext (bW X.prog X.w p (fP xs k b u6)))):=.ext (E X.prog X.w)
   exact⟨b,k,xs,rfl,E _ _,Z,sp,by omega,I.n-(i+1),by omega,rfl,a,((((f.trans C).trans s).trans S).trans U).trans g7,putD kvs k e,_,V.yW _ _ E Y h4 Z sp r6,w6⟩
 ·obtain rfl:i=I.n:=by omega
  exact .inl ⟨A.stop g j f r (hC _ _ _ hi o),x _ _ _ _ (L.trans f) (by rw[Rep]) r (done kvs j o)⟩
variable{xs:List Str}{tg:Expr}{pos:Pos}{js:List Nat}{scope:LR}{kx vx iter:Expr}{ifs:List Expr}{tx te:TD}{tc:Nj}{g:TG}{tk:Po}{wd:O3}
theorem yE(i:Nat){y:Str}{h e:Pos}(k:X.N.Nodup)(D:X.A.units+66<Kf)(c:NM X xs js scope)(l:X.calm=MC)(hi:DI X tg iter wd)(m:OW xs.length g (pL X.K tk))(n:∀C s H fp,PG (NU X xs js scope C s H fp) tg g)(o:∀C s H fp,DTs (NU X xs js scope C s H fp) ifs tc)(p:∀C s H fp,DE (NU X xs js scope C s H fp) kx tx)(he:∀C s H fp,DE (NU X xs js scope C s H fp) vx te) (r:X.N[i]?=MA y:=by rfl) (t:X.env.scope.names.lookup y=MA .local:=by rfl) (f:LL (.DictComp kx vx [⟨tg,iter,ifs,0⟩] scope pos) (MA (.Name y h)) e.line X.env=pure MC:=by rfl) (hs:∀x,JH iter X.env x=pure x:=by intro _;rfl) : DSt X (.Assign [.Name y h] (.DictComp kx vx [⟨tg,iter,ifs,0⟩] scope pos) e) (fG (oz wd tk js tc tx te) (aZ i)):=cI (xl (tk:=lift X.K tx) (te:=lift X.K te) (tc:=liftT X.K tc) c l k hi m n o p he (by omega) r t f hs) fun E σ H b=>by obtain⟨δ,M,hs,a,B,ok,q⟩:=b;exact(tF ⟨δ,M,_,hs,a,q,fun d F v H1 j u w z=>ok.nx _ _ _ _ j ((hs.mono j).set u i) w z⟩)
theorem wF(i:Nat){x v:Str}{b e a:Pos}(f:X.N.Nodup)(h:X.A.units+66<Kf)(c:NM X [x] js scope)(j:X.calm=MC)(hi:DI X (.Name x b) iter wd)(k:∀C s H fp,DTs (NU X [x] js scope C s H fp) ifs tc)(l:∀C s H fp,DE (NU X [x] js scope C s H fp) kx tx)(he:∀C s H fp,DE (NU X [x] js scope C s H fp) vx te) (m:X.N[i]?=MA v:=by rfl) (n:X.env.scope.names.lookup v=MA .local:=by rfl) (d:LL (.DictComp kx vx [⟨.Name x b,iter,ifs,0⟩] scope pos) (MA (.Name v e)) a.line X.env=pure MC:=by rfl) (hs:∀x,JH iter X.env x=pure x:=by intro _;rfl) : DSt X (.Assign [.Name v e] (.DictComp kx vx [⟨.Name x b,iter,ifs,0⟩] scope pos) a) (fG (oz wd .one js tc tx te) (aZ i)):=yE i f h c j hi rY (fun _ _ _ _=>iB c 0 rfl) k l he m n d hs
end
section
variable{X:Cx}
def Ct:Nv:=fun x y M Q=>match x,y with
 |.ref a,.int k=>∃d,M a=MA (.lst [d])/\0<=k/\k<=1000/\∀z,M z=MB->Q (.ref z) (aC M z (.lst (JA k.toNat d)))
 |_,_=>False
theorem qz{K:IW}{H:Hp}{d:D}{v:V}(r:Rep K H d v):∀n,aK K H (JA n d) (JA n v)
 |0=>by rw[List.replicate_zero,List.replicate_zero];exact .nil
 |n+1=>by rw[KP,KP];exact .cons r (qz r n)
theorem pP{a:Type}(v:a):∀n,(JA n [v]).flatten=JA n v
 |0=>rfl
 |n+1=>by rw[KP,L8,pP v n];rfl
theorem Br:Nw X (Le .Mult) Ct:=ip Fe fun v u H Q f=>by
 obtain⟨x,y,M,R,g,h,a,q,b⟩:=f;unfold Ct at q;split at q
 ·obtain⟨d,hd,k,l,q⟩:=q;obtain rfl:v=.ref _:=g;obtain rfl:u=.int _:=h;obtain⟨xs,i,j⟩:=a _ _ hd;obtain⟨w,rfl,c⟩:=cF j;have sz:1000000<=Jb:=NS rfl;refine⟨_,_,_,rfl,rfl,i,by omega,by omega,by simp;omega,fun z e=>?_⟩;rw[pP];exact b _ _ _ _ (.new e) (by rw[Rep]) (a.jK e (qz c _)) (q z (a.fresh e))
 ·exact q.elim
end
section
theorem kW(a u:I0):checkTypeCall "enumerate" ⟨[a],[("start",u)]⟩=pure ():=by kernel_rfl
theorem mZ(a u:I0):checkBuiltinCall "enumerate.__new__" ⟨[.type "enumerate",a],[("start",u)]⟩=pure ():=by kernel_rfl
theorem tD(a b u:I0):argsOk "object.__init__" ⟨[a,b],[("start",u)]⟩:=by unfold argsOk;rw[PySem.signature?_of (id:="object.__init__") (n:=['_','_','t','i','n','i','_','_']) (o:=['t','c','e','j','b','o']) (by kernel_rfl) F.owner_object];kernel_rfl
def kP(l it:Addr):Obj×Obj:=({ cls:=.type "list_iterator",data:=.fields #[.ref l,.int 0 0] },{ cls:=.type "enumerate",data:=.fields #[.none,.bool MD,.ref it,Md 1,.none,.none] })
variable{prog:Jl}{w:JL}{A:JQ}{E:I0->IY->Prop}{s:IY}{l:Addr}{items:Array I0}{n:Nat}{t:Tok}{Q:I0->IY->Prop}
theorem vD(a:s.heap.get? l=MA { cls:=.type "list",dict:=MB,data:=.seq items n,slots:=#[] })
 (h:Q (.ref (s.heap.push (kP l 0).1).objs.size) { s with heap:=(s.heap.push (kP l 0).1).push (kP l s.heap.objs.size).2 }) :
 J7 (Jg prog w) A (Ls.«enumerate.__new__» ⟨[.type "enumerate",.ref l],[("start",.int 1 t)]⟩) (fun fin b=>∃v,fin=.done (.ret v)/\Q v b) E s:=by
 obtain⟨e,g,d,f,os⟩:=s
 have e1:=sub_enumerate
 have e2:Heap.IsList (Shared.heap ⟨e,g,d,f,os⟩) l items:=⟨_,a,rfl,n,rfl⟩
 wp_walk using AutoSeq1.wpAny_loadPart' a
 refine wpAny_stack_any fun st=>IX ?_
 split
 case h_1 c _ _ _ _ _=>cases (c==Value.type "enumerate")<;>(wp_walk using AutoSeq1.wpAny_loadPart' a,wpAny_pyIter_list e2;exact⟨_,rfl,h⟩)
 all_goals (wp_walk using AutoSeq1.wpAny_loadPart' a,wpAny_pyIter_list e2;exact⟨_,rfl,h⟩)
theorem sX:Meets (Ls.«enumerate.__new__» ⟨[.type "enumerate",.ref l],[("start",.int 1 t)]⟩) (fun _ R s=>s.heap.get? l=MA { cls:=.type "list",dict:=MB,data:=.seq items n,slots:=#[] }/\R (.ok (.ret (.ref (s.heap.push (kP l 0).1).objs.size))) { s with heap:=(s.heap.push (kP l 0).1).push (kP l s.heap.objs.size).2 }):=.of_wp fun prog w A R s z=>vD (Q:=fun v a=>R (.ok (.ret v)) a) z.1 z.2
theorem qH{e:I0}{u:I0}:Meets (Ls.«object.__init__» ⟨[e,.ref l],[("start",u)]⟩) (fun _ R s=>s.TypeIs e "enumerate"/\R (.ok (.ret .none)) s):=
 .of_wp fun prog w A R s a=>by
  obtain⟨ty,r⟩:=a
  have e1:=F.called_enumerate.init.lookup
  have e2:=F.called_enumerate.made
  repeat (any_goals (first|assumption|wp_step))
  exact⟨_,rfl,r⟩
theorem tN(p:s.heap.get? l=MA { cls:=.type "list",dict:=MB,data:=.seq items n,slots:=#[] })
 (h:∀h',IsEnum h' (s.heap.objs.size+1) s.heap.objs.size 1 .none->h'.IsListIter s.heap.objs.size l 0->(∀b o,s.heap.get? b=MA o->h'.get? b=MA o)->Q (.ref (s.heap.objs.size+1)) { s with heap:=h' }) :
 J7 (Jg prog w) A (call (.type "enumerate") [.ref l] [("start",.int 1 t)]) Q E s:=by
 have C:=F.called_enumerate
 obtain⟨c,u,x⟩:=C.mro
 have y:=C.made
 have B:=C.sub
 have D:=C.notType
 have G:=C.canCreate
 have H:=kW (.ref l) (.int 1 t)
 refine wpAny_call (codeAny_of_tree (IX ⟨Code.quiet_builtin _ (by decide +kernel),KY F.entry_type_call ?_⟩))
 rw[Around.under_plain rfl rfl]
 repeat (any_goals (first|assumption|wp_step))
 have j:(s.heap.push (kP l 0).1).objs.size=s.heap.objs.size+1:=KH ..
 have k:IsEnum ((s.heap.push (kP l 0).1).push (kP l s.heap.objs.size).2) (s.heap.objs.size+1) s.heap.objs.size 1 .none:=by
  have:=J8 (s.heap.push (kP l 0).1) (o:=(kP l s.heap.objs.size).2) rfl
  rw[j]at this;exact this
 have q:=h _ k ⟨_,J3 _ (J8 _ rfl),rfl,rfl⟩ fun b o z=>J3 _ (J3 _ z)
 refine Mh (codeAny_call_builtin C.plain F.entry_enumerate_new (wpAny_of_eq (mZ _ _) (sX prog w A.in1 (wants (fun v m=>v=.ref (s.heap.objs.size+1)/\m.TypeIs v "enumerate"/\Q v m) E) s ⟨p,by rw[j];exact⟨rfl,⟨_,k,rfl⟩,q⟩⟩))) fun r f i=>?_
 match r,i with
 |.error e,i=>exact i
 |.ok (.ret v),⟨ev,ty,qv⟩=>
  have I:=C.init.lookup
  have J:=C.init.bind v
  repeat (any_goals (first|assumption|wp_step))
  refine Mh (codeAny_call_builtin C.init.plain F.entry_object_init (C.init.check _ _ _ _ _ _ _ _ ty (tD _ _ _) (qH prog w A.in1 (wants (fun r d=>r=.none/\Q v d) E) f ⟨ty,rfl,qv⟩))) fun g d a=>?_
  match g,a with
  |.error e,a=>exact a
  |.ok (.ret r),⟨er,q2⟩=>
   subst er
   repeat (any_goals (first|assumption|wp_step))
end
section
variable{X:Cx}{elts:List Expr}{kt:Nat}{pt:Pos}
theorem lh{pos kp:Pos}{T:String}{e k:Expr}{name:Str}{env:Env}{M:Model}{A:JQ}{E:I0->IY->Prop}{s:IY}{Q:I0->IY->Prop}
 (h:J7 M A (spliced (KO pos (Jd [e] env))) (fun vs b=>J7 M A (eval k env) (fun u c=>J7 M A (call (.type T) vs [(name,u)]) Q E c) E b) E s)
 (he:KO pos (Jd [e] env)=(MD,eval e env)::KO pos (Jd [] env):=by rfl) (g:(KO pos (Jd [e] env)).any (·.1)=MD:=by rfl) :
 J7 M A (callWith pos (.type T) [] (KO pos (Jd [e] env)) (backToKw pos (Mi [⟨MA name,k,kp⟩] env))) Q E s:=by
 have i:J7 M A (evalArgs (.type T) MC (KO pos (Jd [e] env)) (backToKw pos (Mi [⟨MA name,k,kp⟩] env))) (fun a b=>J7 M A (call (.type T) a.pos a.kw) Q E b) E s:=by
  rw[he]at h ⊢
  refine evalArgs_kwB rfl (Je h (fun vs b d=>?_) fun _ _ z=>z)
  exact kws_cons (Je d (fun u c f=>kws_nil f) fun _ _ z=>z)
 unfold callWith
 refine cc (K9 (Je i (fun a b d=>cc (KQ ?_)) fun _ _ z=>z))
 have j:(backToKw pos (Mi [⟨MA name,k,kp⟩] env)).any (·.1.isNone)=MD:=rfl
 simp only[g,j,Bool.or_false]
 exact cc (IX (cc (Je d (fun r c l=>cc (K9 (wpAny_point (IX l)))) fun _ _ z=>z)))
def Fb(K:IW)(b:TA):TI:=fun σ H R=>b σ H fun vs H1=>∃a xs,vs=[.ref a]/\H1 a=MA (.lst xs)/\R (XD K 1 a) H1
theorem yN{a k:Expr}{j:TA}{p pos kp:Pos}(x:Gl X "enumerate")(y:X.mg "enumerate"=MB)(B:PA X [a] j)(g:∀MP s σ H (Q:VK),Inv X MP σ H s->Q (.int 1) H->J7 (Jg X.prog X.w) X.A (eval k X.env) (EP X MP σ Q) X.xe s)
 (hs:Jd [a] X.env=[(MD,eval a X.env)]:=by rfl):PI X (.Tuple elts kt pt) (.Call (.Name "enumerate" p) [a] [⟨MA "start",k,kp⟩] pos) (Fb X.K j):=by
 intro MP s σ H R I h
 refine wpAny_Call_Name_kw (jj I x y oO (lh (NQ (B pos MP s σ H _ I h) fun us C ⟨vs,H1,D,E,F⟩=>?_) (by rw[hs];rfl) (by rw[hs];rfl)))
 obtain⟨l,xs,G,J,q⟩:=F
 subst G
 obtain⟨u,rfl,L⟩:=E.one
 cases L
 refine NQ (g MP C σ H1 (fun v M=>v=.int 1/\M=H1) D ⟨rfl,rfl⟩) fun u c ⟨v,m,f,N,e1,e2⟩=>?_
 subst e1 e2
 obtain⟨t,rfl⟩:=N
 obtain⟨z,O,n,r,S,e⟩:=f.p5 J
 refine tN e fun T o i g=>wpAny_pyIter_enum o ?_
 have fp:∀b∈[c.heap.objs.size+1,c.heap.objs.size],cX X MP m b:=fun b P=>by
  have d:c.heap.objs.size<=b:=by
   rcases(show b=c.heap.objs.size+1\/b=c.heap.objs.size by simpa using P)with rfl|rfl
   ·exact Nat.le_succ _
   ·exact J1 _
  exact f.sU d (f.hok.fresh d)
 exact⟨_,[c.heap.objs.size+1,c.heap.objs.size],_,_,m,rfl,f.kept (t':=c.toks) g,vK 1 l _ _ (Nat.succ_ne_self _),⟨⟨_,o⟩,i⟩,fp,q⟩
def Dx(b:Np):O3:=fun δ M R=>b δ M fun c a=>∃l es,c=[.ref l]/\a l=MA (.lst es)/\R ⟨es.length,fun i=>(es[i]?).map fun d=>.tup [.int ((i+1:Nat):Int),d],fun M=>M l=MA (.lst es)⟩ a
theorem yu{a:Expr}{c:Np}{p pos kp f:Pos}{g}(h:Gl X "enumerate")(i:X.mg "enumerate"=MB)(j:DA X [a] c)(hs:Jd [a] X.env=[(MD,eval a X.env)]:=by rfl):DI X (.Tuple elts kt pt) (.Call (.Name "enumerate" p) [a] [⟨MA "start",.Constant (.int 1) g f,kp⟩] pos) (Dx c):=
 rA (yN h i j (fun MP s σ H Q I q=>zB MP s σ H Q I q) hs) fun σ H R k=>by
  obtain⟨δ,M,y,hs,m,q,b⟩:=k
  exact⟨δ,M,_,hs,m,q,fun z n vs H1 o t d ⟨l,es,e,u,w⟩=>by
   subst e
   obtain⟨v,rfl,r⟩:=cF t
   rw[Rep]at r;subst r
   obtain⟨xs,x,A⟩:=d _ _ u
   exact⟨l,xs,rfl,x,b _ n H1 _ o d w (Ap 1)⟩⟩
end
section
variable{X:Cx}{MP:List (Addr×Obj)}{σ:L2.St}{H:Hp}{s:IY}
theorem j7{h':Heap}{t':Nat}{ch:List Addr}(I:Inv X MP σ H s)(k:∀b o,b∉ch->s.heap.get? b=MA o->h'.get? b=MA o)(f:∀b∈ch,cX X MP H b):Inv X MP σ H { s with heap:=h',toks:=t' }:=by
 have ne:∀b u,H b=MA u->b∉ch:=fun b u q d=>by rw[(f b d).1]at q;cases q
 refine I.step (g':=s.gens) (d':=s.drawn) (ch:=ch) (fun b d=>?_) (fun b o _ _ a q _=>k b o a q) (fun b o _ _ a q _=>⟨o.slots,k b o a q⟩) (fun _ _ _ _ n=>n) (fun b o a q=>⟨o,k b o a q⟩) (fun _ _ q=>q) (fun _ _ _ q=>q) (fun b ps q=>⟨#[],by rw[q];simp⟩) (fun m e=>?_) (fun b u q=>?_) I.bare
 ·obtain⟨i,e1,_,e3,e4,g⟩:=f b d;exact⟨e3,e1,e4,g⟩
 ·obtain⟨o,es,ep,h,r⟩:=e;exact⟨o,es,ep,k _ o (fun d=>(f _ d).2.1 rfl) h,r⟩
 ·refine(I.hok b u q).ix (fun c v a z=>?_) (fun _ z=>z) fun _ _ z=>z;rcases a with y|y
  ·subst y;exact k _ v (ne _ u q) z
  ·exact k c v (ne c _ y) z
end
def X1(K:IW)(a b:Addr):It:=
 ⟨fun i H=>∃xs c x y,NZ K H a xs/\NZ K H b c/\xs[i]?=MA x/\c[i]?=MA y,fun i H x d=>∃T y z,x=.ref T/\H T=MB/\d=upd H T (.tup [y,z])/\(∀xs,NZ K H a xs->xs[i]?=MA y)/\∀c,NZ K H b c->c[i]?=MA z,fun i H=>∃xs c,NZ K H a xs/\NZ K H b c/\(xs.length<=i\/c.length<=i)⟩
theorem zK{P:Jl}{w:JL}{K:IW}{N:List Expr}{kt}{pt:Pos}(a b z TI TO j l:Addr)(D:ZipApart z TI TO j l a b):Turn P w K (.Tuple N kt pt) (X1 K a b) [z,TI,TO,j,l] z (fun i h=>IsZip h z TI TO .none/\IsPair h TI (.ref j) (.ref l)/\(∃p q,IsPair h TO p q)/\h.IsListIter j a i/\h.IsListIter l b i) where
 mem:=by simp
 obj:=fun i h st c f=>by
  obtain⟨u,m,⟨p,q,A⟩,B,C⟩:=st
  rcases(show c=z\/c=TI\/c=TO\/c=j\/c=l by simpa using f)with rfl|rfl|rfl|rfl|rfl
  ·exact⟨_,u,fun v y=>by cases (show Data.fields _=Data.cell v from y)⟩
  ·exact⟨_,m,fun v y=>by cases (show Data.seq _ _=Data.cell v from y)⟩
  ·exact⟨_,A,fun v y=>by cases (show Data.seq _ _=Data.cell v from y)⟩
  ·obtain⟨o,F,_,d⟩:=B
   exact⟨o,F,fun v y=>by rw[d]at y;cases y⟩
  ·obtain⟨o,F,_,d⟩:=C
   exact⟨o,F,fun v y=>by rw[d]at y;cases y⟩
 keep:=fun i h O st k=>by
  obtain⟨u,m,⟨p,q,A⟩,B,C⟩:=st
  exact⟨k z (by simp) _ u,k TI (by simp) _ m,⟨p,q,k TO (by simp) _ A⟩,B.at fun o y=>k j (by simp) o y,C.at fun o y=>k l (by simp) o y⟩
 item:=by
  intro X Y Z hK f i MP s σ H E I U st hg
  subst Y Z hK
  obtain⟨xs,ys,x,y,r,t,hx,hy⟩:=hg
  obtain⟨u,m,⟨p,q,A⟩,B,C⟩:=st
  obtain⟨Q,G,p1,a0⟩:=I.list r
  obtain⟨R,J,p2,b0⟩:=I.list t
  obtain⟨S,c0,d0⟩:=G.get hx
  obtain⟨T,e0,f0⟩:=J.get hy
  refine wpAny_pyNext_zip_item D u m A B C p1.isList p2.isList (x:=S) (y:=T) (by simpa using c0) (by simpa using e0) fun O a1 a2 a3 a4 a5 a6 a7=>⟨_,rfl,wpAny_letOwnedTupleGo_zip (s:={ s with heap:=O }) a1 fun L b1 V=>?_⟩
  have V:Lk z O L:=V
  have fr:=I.fresh
  have lt:∀c∈[z,TI,TO,j,l],c<s.heap.objs.size:=fun c f=>by
   rcases(show c=z\/c=TI\/c=TO\/c=j\/c=l by simpa using f)with rfl|rfl|rfl|rfl|rfl
   ·exact Jc u
   ·exact Jc m
   ·exact Jc A
   ·obtain⟨o,F,_⟩:=B;exact Jc F
   ·obtain⟨o,F,_⟩:=C;exact Jc F
  have I1:Inv X MP σ (upd H s.heap.objs.size (.tup [x,y])) { s with heap:=s.heap.push { cls:=.type "tuple",data:=.seq #[S,T] },toks:=s.toks }:=
   I.laid (fun b v q=>J3 _ q) (J1 _) ⟨NS rfl,[S,T],.cons d0 (.cons f0 .nil),⟨_,J8 _ rfl,rfl,_,rfl⟩,⟨_,J8 _ rfl,rfl⟩⟩
  have fk:∀c∈[z,TI,TO,j,l],cX X MP (upd H s.heap.objs.size (.tup [x,y])) c:=fun c f=>⟨by rw[aX (JK (lt c f))];exact(U c f).1,(U c f).2⟩
  have I2:Inv X MP σ (upd H s.heap.objs.size (.tup [x,y])) { s with heap:=L,toks:=s.toks }:=by
   refine j7 (ch:=[z,TO,j,l]) (s:={ s with heap:=s.heap.push { cls:=.type "tuple",data:=.seq #[S,T] },toks:=s.toks }) I1 (fun c o g q=>?_) fun c f=>fk c (by simp at f ⊢;rcases f with rfl|rfl|rfl|rfl<;>simp)
   have q:(s.heap.push { cls:=.type "tuple",data:=.seq #[S,T] }).get? c=MA o:=q
   simp at g
   refine(V.2 c g.1).trans ?_
   rcases Heap.get?_push_cases q with⟨rfl,rfl⟩|q
   ·exact a5
   ·exact a7 c o g.1 g.2.1 g.2.2.1 g.2.2.2 q
  have W:∀c o,c≠z->O.get? c=MA o->L.get? c=MA o:=fun c o n e=>(V.2 c n).trans e
  refine⟨.ref s.heap.objs.size,_,I2,rfl,⟨_,x,y,rfl,fr,rfl,fun zs M=>by rw[I.iW M r];exact hx,fun zs M=>by rw[I.iW M t];exact hy⟩,⟨b1,W _ _ D.TIz (a7 _ _ D.TIz D.TITO D.TIi1 D.TIi2 m),⟨_,_,W _ _ D.TOz a2⟩,a3.at fun o e=>W _ o D.i1z e,a4.at fun o e=>W _ o D.i2z e⟩,fun c f=>(fk c f).1⟩
 done:=by
  intro X Y Z hK f i MP s σ H E I U st hg
  subst Y Z hK
  obtain⟨xs,ys,r,t,he⟩:=hg
  obtain⟨u,m,⟨p,q,A⟩,B,C⟩:=st
  obtain⟨Q,G,p1,a0⟩:=I.list r
  obtain⟨R,J,p2,b0⟩:=I.list t
  have l1:=G.length
  have l2:=J.length
  refine wpAny_pyNext_zip_end (I.ok.hd f) D u m A B C p1.isList p2.isList (he.imp (fun e=>by simp;omega) fun e=>by simp;omega) fun O k=>⟨rfl,?_⟩
  exact j7 (t':=s.toks) (ch:=[z,TO,j,l]) I (fun c o g q=>by simp at g;exact k c o g.1 g.2.1 g.2.2.1 g.2.2.2 q) fun c f=>U c (by simp at f ⊢;rcases f with rfl|rfl|rfl|rfl<;>simp)
 self:=fun _ _ _ _ _ st h=>wpAny_pyIter_zip st.1 h
theorem Eo{n l1 l2:Nat}(a:l1<n)(b:l2<n):ZipApart (n+4) (n+2) (n+3) n (n+1) l1 l2:=by constructor<;>exact fun e=>absurd (id e:@Eq Nat _ _) (by omega)
theorem C1:Ka "zip"=MA (.type "zip"):=by decide +kernel
section
variable{X:Cx}{elts:List Expr}{kt:Nat}{pt:Pos}
def G9(K:IW)(c:TA):TI:=fun σ H R=>c σ H fun vs H1=>∃a b xs d,vs=[.ref a,.ref b]/\H1 a=MA (.lst xs)/\H1 b=MA (.lst d)/\R (X1 K a b) H1
theorem Dl{a b:Expr}{x:TA}{p pos:Pos}(A:Gl X "zip")(B:X.mg "zip"=MB)(C:PA X [a,b] x)(hs:Jd [a,b] X.env=(MD,eval a X.env)::Jd [b] X.env:=by rfl)(j:(KO pos (Jd [b] X.env)).any (·.1)=MD:=by rfl):PI X (.Tuple elts kt pt) (.Call (.Name "zip" p) [a,b] [] pos) (G9 X.K x):=by
 intro MP s σ H R I h;refine Call_ (jj I A B C1 (LD (NQ (C pos MP s σ H _ I h) fun us c d=>?_) hs j));obtain⟨vs,H1,e,E,F⟩:=d;obtain⟨l1,l2,xs,U,G,k,l,q⟩:=F;subst G;obtain⟨V,W,rfl,m,n⟩:=vals2 E;cases m;cases n;obtain⟨Y,f,J,L,M,e1⟩:=e.p5 k;obtain⟨Z,g,N,O,P,e2⟩:=e.p5 l;have Q:c.heap.IsList l1 f.toArray:=⟨_,e1,rfl,J,rfl⟩;have L2:c.heap.IsList l2 g.toArray:=⟨_,e2,rfl,N,rfl⟩;have o:=Jc e1;have r:=Jc e2;refine call_zip_2 Q L2 fun h' y t u v w S T=>wpAny_pyIter_zip y ?_
 have fp:∀b∈[c.heap.objs.size+4,c.heap.objs.size+2,c.heap.objs.size+3,c.heap.objs.size,c.heap.objs.size+1],cX X MP H1 b:=fun b z=>by
  have i:c.heap.objs.size<=b:=by simp at z;rcases z with rfl|rfl|rfl|rfl|rfl<;>first|exact Nat.le_add_right _ _|exact J1 _
  exact e.sU i (e.hok.fresh i)
 have D:ZipApart (c.heap.objs.size+4) (c.heap.objs.size+2) (c.heap.objs.size+3) c.heap.objs.size (c.heap.objs.size+1) l1 l2:=by exact Eo o r
 exact⟨_,_,_,_,H1,rfl,e.kept (t':=c.toks) T,zK l1 l2 _ _ _ _ _ D,⟨y,t,⟨_,_,u⟩,v,w⟩,fp,q⟩
def Gw(f:Np):O3:=fun δ M R=>f δ M fun g c=>∃a b es fs,g=[.ref a,.ref b]/\c a=MA (.lst es)/\c b=MA (.lst fs)/\R ⟨min es.length fs.length,fun i=>(es[i]?).bind fun d=>(fs[i]?).map fun e=>.tup [d,e],fun M=>M a=MA (.lst es)/\M b=MA (.lst fs)⟩ c
theorem yB{K:IW}{B:Np}:∀(σ:L2.St) (H:Hp) R,lz K (Gw B) σ H R->G9 K (yi K B) σ H R:=
 fun σ H R J=>by
  obtain⟨δ,M,RD,hs,L,q,o⟩:=J
  exact⟨δ,M,_,hs,L,q,fun ds N vs H1 O P p Q=>by
   obtain⟨l1,l2,es,fs,e,s,t,S⟩:=Q
   subst e
   obtain⟨v1,v2,rfl,r,C⟩:=f6 P
   rw[Rep]at r C;subst r C
   obtain⟨xs,U,rs⟩:=p _ _ s
   obtain⟨V,u,rt⟩:=p _ _ t
   refine⟨l1,l2,xs,V,rfl,U,u,o _ N H1 _ O p S ⟨fun D j E h k=>?_,fun i D j hi E h k=>?_,?_⟩⟩
   ·obtain⟨l,m⟩:=(show j l1=MA (.lst es)/\j l2=MA (.lst fs)from k)
    obtain⟨a,c,d⟩:=h _ _ l
    obtain⟨b,f,g⟩:=h _ _ m
    refine⟨a,b,NZ.of c,NZ.of f,?_⟩
    show a.length<=min es.length fs.length\/b.length<=min es.length fs.length
    rw[<-d.length,<-g.length];omega
   ·obtain⟨l,m⟩:=(show j l1=MA (.lst es)/\j l2=MA (.lst fs)from k)
    obtain⟨a,c,d⟩:=h _ _ l
    obtain⟨b,f,g⟩:=h _ _ m
    have hi:i<min es.length fs.length:=hi
    have W:i<a.length:=by rw[<-d.length];omega
    have Y:i<b.length:=by rw[<-g.length];omega
    exact⟨a,b,a[i],b[i],NZ.of c,NZ.of f,by simp[W],by simp[Y]⟩
   ·rintro i D j v H3 hi E h k ⟨T,y,z,rfl,n,rfl,u,Z⟩
    obtain⟨l,m⟩:=(show j l1=MA (.lst es)/\j l2=MA (.lst fs)from k)
    have hi:i<min es.length fs.length:=hi
    have F:i<es.length:=by omega
    have G:i<fs.length:=by omega
    obtain⟨a,c,d⟩:=h _ _ l
    obtain⟨b,f,g⟩:=h _ _ m
    obtain⟨x,e1,e2⟩:=d.get (show es[i]?=MA es[i] by simp[F])
    obtain⟨x',w,A⟩:=g.get (show fs[i]?=MA fs[i] by simp[G])
    have t1:=u a (NZ.of c)
    have I:=Z b (NZ.of f)
    rw[e1]at t1;cases t1
    rw[w]at I;cases I
    exact⟨.new n,h.new n,.tup [es[i],fs[i]],by simp[F,G],by rw[Rep];exact⟨T,_,rfl,N1.of aW,.cons (e2.mono (.new n)) (.cons (A.mono (.new n)) .nil)⟩⟩⟩
theorem Eg{a b:Expr}{d:Np}{p pos:Pos}(e:Gl X "zip")(f:X.mg "zip"=MB)(g:DA X [a,b] d)(hs:Jd [a,b] X.env=(MD,eval a X.env)::Jd [b] X.env:=by rfl)(c:(KO pos (Jd [b] X.env)).any (·.1)=MD:=by rfl):DI X (.Tuple elts kt pt) (.Call (.Name "zip" p) [a,b] [] pos) (Gw d):=rA (Dl e f g hs c) yB
end
theorem gR{ws:List Wl}:∀{i:Nat} {a:List (List Nat)},OO ws i a->a.length<=i
 |0,a,h=>by rw[show a=[]from h];simp
 |i+1,a,⟨qs,h1,h2⟩=>by
  have:=gR h1
  rcases h2 with⟨_,rfl⟩|⟨_,r,_,rfl⟩
  ·omega
  ·simp;omega
structure XB(ws:List Wl)(r:List Nat):Prop where
 rng:VN ws r
 len:r.length<=2*ws.length
 lt:∀g∈r,g<2*ws.length
 pos:0<r.length
theorem gO{ws:List Wl}(b:∀w∈ws,NO w)(hF:PF ws):∀{i:Nat} {a:List (List Nat)},i<=2*ws.length->OO ws i a->∀r∈a,XB ws r
 |0,a,_,h,r,hr=>by rw[show a=[]from h]at hr;cases hr
 |i+1,a,hi,⟨qs,h1,h2⟩,r,hr=>by
  rcases h2 with⟨_,rfl⟩|⟨_,k,⟨c,n,e,rfl⟩,rfl⟩
  ·exact gO b hF (by omega) h1 r hr
  ·rcases Jo.mp hr with z|z
   ·exact gO b hF (by omega) h1 r z
   ·have:r=rn ws i c:=by simpa using z
    subst this
    have f:=uo b hF (show i<2*ws.length by omega) n
    refine⟨⟨i,c,by omega,f,rfl,e⟩,by rw[jP];omega,fun g d=>?_,by rw[jP];omega⟩
    unfold rn at d
    obtain⟨j,_,rfl⟩:=Jp.mp d
    exact cE b hF (by omega) j
def aL(ws:List Wl)(r:List Nat):Bool:=decide (0<(r.map (Nc ws)).sum)
theorem z5{ws:List Wl}(i:∀w∈ws,NO w)(hF:PF ws){r:List Nat}(R:VN ws r){t b X Y a B:Int}(j:0<t)(f:0<b)(k:0<B)(e:(a:Rat)=(r.map (Qq t b X Y ws)).sum*(B:Rat)):decide (0<a)=aL ws r:=by
 have l:∀{z:Int},0<z->(0:Rat)<(z:Rat):=fun{z} h=>by exact_mod_cast h
 have c:(0:Rat)<(t:Rat)/b:=by rw[Rat.div_def];exact LK (NA j) (Rat.inv_pos.mpr (NA f))
 have m:(0:Rat)<((t:Rat)/b)*((t:Rat)/b)*(B:Rat):=LK (LK c c) (l k);rw[Cp i hF R f]at e;have e1:(a:Rat)=((t:Rat)/b)*((t:Rat)/b)*(B:Rat)*(((r.map (Nc ws)).sum:Int):Rat):=by rw[e];grind
 have d:=sgn_mul m (r.map (Nc ws)).sum;rw[<-e1]at d;have g:=sgn_mul (show(0:Rat)<1 by decide) a;rw[Rat.one_mul]at g;rw[g]at d;unfold aL;rw[MK,<-Int.sign_eq_one_iff_pos,d,Int.sign_eq_one_iff_pos]
theorem RL.get{M:MH}{ps:List Addr}{b:List (List Nat)}(h:RL M ps b){i:Nat}(hi:i<ps.length):∃r,b[i]?=MA r/\M ps[i]=MA (.lst (r.map fun g:Nat=>D.int (g:Int))):=by
 unfold RL at h
 induction h generalizing i with
 |nil=>simp at hi
 |@cons p r ps b a _ ih=>
  cases i with
  |zero=>exact⟨r,rfl,a⟩
  |succ i=>simpa using ih (by simpa using hi)
theorem j4{a:Type}(f:a->Bool)(l:List a){i:Nat}{r:a}(e:l[i]?=MA r):(l.take (i+1)).filter f=(l.take i).filter f++(if f r=MC then[r]else[]):=by
 rw[KR,e,LW]
 congr 1
 simp[L5]
def mn(a c:Vc):Vc:=if la a.1 a.2<la c.1 c.2 then a else c
theorem Gs{t b X Y:Int}(a:0<t)(c:0<b){u v:Vc}(d:Nt u)(e:Nt v):(if MZ (MX t b X 1 u.1) (MX t b Y 1 u.2) (MX t b X 1 v.1) (MX t b Y 1 v.2)then(MX t b X 1 u.1,MX t b Y 1 u.2)else(MX t b X 1 v.1,MX t b Y 1 v.2))=(MX t b X 1 (mn u v).1,MX t b Y 1 (mn u v).2):=by
 have h:=zW (X:=X) (Y:=Y) a c d e;unfold OL at h;unfold mn;by_cases z:la u.1 u.2<la v.1 v.2
 ·rw[MF (h.mpr z),MF z]
 ·rw[ME (fun q=>z (h.mp q)),ME z]
theorem DC{u v:Vc}(a:Nt u)(b:Nt v):Nt (mn u v):=by
 unfold mn;split
 ·exact a
 ·exact b
theorem jg{ws:List Wl}(e:∀w∈ws,NO w){g:Nat}(i:g<2*ws.length):Nt (fa ws g):=by
 obtain⟨_,_,f⟩:=bo (ws:=ws) (k:=((g/2:Nat):Int)) (by omega) (by omega);have W:=e _ f;unfold fa fw;by_cases h:g%2=0
 ·rw[MF h];exact⟨W.a,W.b⟩
 ·rw[ME h];exact⟨W.c,W.d⟩
def Qy(ws:List Wl)(r:List Nat)(i:Nat):Vc:=(r.take i).foldl (fun a g=>mn a (fa ws g)) (fa ws (r.headD 0))
def fc(ws:List Wl)(r:List Nat):Vc:=Qy ws r r.length
theorem qw{ws:List Wl}{r:List Nat}{i g:Nat}(e:r[i]?=MA g):Qy ws r (i+1)=mn (Qy ws r i) (fa ws g):=by unfold Qy;rw[KR,e,List.foldl_append];rfl
theorem oW{ws:List Wl}(a:∀w∈ws,NO w){r:List Nat}(b:∀g∈r,g<2*ws.length)(c:0<r.length):∀i,i<=r.length->Nt (Qy ws r i)
 |0,_=>by
  unfold Qy
  cases r with
  |nil=>simp at c
  |cons g r=>exact jg a (b g (by simp))
 |i+1,h=>by
  rw[qw (J0 (show i<r.length by omega))]
  exact DC (oW a b c i (by omega)) (jg a (b _ (JW _)))
def vM(ws:List Wl)(fs:List Int):Int:=(fs.filter fun k=>fs.all fun j=>!NT (NV ws j) (NV ws k)).headD 0
theorem BI{ws:List Wl}(g:∀w∈ws,NO w)(hF:PF ws){p q b:Int}(d:b∈bK ws 1 p q)(h:∀w∈(bK ws 1 p q).map (NV ws),w=NV ws b\/(NT (NV ws b) w=MC/\NT w (NV ws b)=MD)):vM ws (bK ws 1 p q)=b:=by
 obtain⟨t,f,i,j⟩:=sJ g hF (show(0:Int)<1 by decide) (fun k l=>fN l) (Ks d) (lX ws 1 p q);unfold vM;rw[j];show t=b
 have e:NV ws t=NV ws b:=by
  rcases h _ (Jp.mpr ⟨t,f,rfl⟩)with z|z
  ·exact z
  ·rcases i _ (Jp.mpr ⟨b,d,rfl⟩)with y|y
   ·exact y.symm
   ·rw[y.1]at z;exact absurd z.2 (by decide)
 have a:=fV (fN f);have c:=fV (fN d);by_cases ne:t.toNat=b.toNat
 ·omega
 ·exact absurd ⟨by rw[e],by rw[e]⟩ (hF t.toNat b.toNat _ _ ne (bo a.1 a.2.1).1 (bo c.1 c.2.1).1).ne
def PX(ws:List Wl)(L:List Int)(u:Vc):Int:=if bK ws 1 u.1 u.2=[]then 0 else(L[2*(vM ws (bK ws 1 u.1 u.2)).toNat]?).getD 0
def ie(L:List Int)(r:List Nat)(v:Int)(i:Nat):List Int:=(r.take i).foldl (fun L g=>L.set g v) L
def fill(L:List Int)(r:List Nat)(v:Int):List Int:=ie L r v r.length
theorem lL{L:List Int}{r:List Nat}{v:Int}{i g:Nat}(e:r[i]?=MA g):ie L r v (i+1)=(ie L r v i).set g v:=by unfold ie;rw[KR,e,List.foldl_append];rfl
theorem iM(v:Int):∀(r:List Nat) (L:List Int),(r.foldl (fun L g=>L.set g v) L).length=L.length
 |[],L=>rfl
 |g::r,L=>by rw[Lx,iM v r,List.length_set]
theorem gU(L:List Int)(r:List Nat)(v:Int)(i:Nat):(ie L r v i).length=L.length:=iM v _ L
theorem vA{n j:Nat}(h:j<n):L2.ixN n (j:Int)=MA j:=by unfold L2.ixN;rw[MF (by omega),MF (by omega)];rfl
def fO(m:Nat)(outs:List (List Nat)):Nat->List Int
 |0=>JA m 0
 |i+1=>fill (fO m outs i) ((outs[i]?).getD []) ((i+1:Nat):Int)
theorem jC(m:Nat)(outs:List (List Nat)):∀i,(fO m outs i).length=m
 |0=>by simp[fO]
 |i+1=>by rw[fO,fill,gU,jC m outs i]
def b7(ws:List Wl)(ins:List (List Nat)):Nat->List Vc
 |0=>[]
 |i+1=>let c:=fc ws ((ins[i]?).getD []);if c∈b7 ws ins i then b7 ws ins i else b7 ws ins i++[c]
def ma(ws:List Wl)(ins:List (List Nat))(c:Vc):Nat->Option Nat
 |0=>MB
 |i+1=>if fc ws ((ins[i]?).getD [])=c then MA i else ma ws ins c i
theorem jY(ws:List Wl)(ins:List (List Nat)):∀i,(b7 ws ins i).Nodup
 |0=>Mw
 |i+1=>by
  have c:=jY ws ins i
  unfold b7
  dsimp only
  split
  ·exact c
  ·rename_i h
   rw[Lv]
   refine⟨c,by simp,fun a d b e=>?_⟩
   have:b=fc ws ((ins[i]?).getD []):=by simpa using e
   subst this
   exact fun z=>h (z▸d)
theorem jD(ws:List Wl)(ins:List (List Nat)):∀i,(b7 ws ins i).length<=i
 |0=>J1 _
 |i+1=>by
  have a:=jD ws ins i
  unfold b7
  dsimp only
  split
  ·omega
  ·simp;omega
theorem gT{ws:List Wl}{ins:List (List Nat)}{c:Vc}:∀{i},c∈b7 ws ins i->∃j,ma ws ins c i=MA j/\j<i/\fc ws ((ins[j]?).getD [])=c
 |0,h=>by cases h
 |i+1,h=>by
  unfold ma
  by_cases e:fc ws ((ins[i]?).getD [])=c
  ·exact⟨i,by rw[MF e],by omega,e⟩
  ·rw[ME e]
   have f:c∈b7 ws ins i:=by
    unfold b7 at h
    dsimp only at h
    split at h
    ·exact h
    ·rcases Jo.mp h with z|z
     ·exact z
     ·exact absurd (by simpa using z:c=_).symm e
   obtain⟨j,a,b,d⟩:=gT f
   exact⟨j,a,by omega,d⟩
def fS(ws:List Wl)(ins:List (List Nat))(L:List Int)(ps:List Vc):Nat->List Int
 |0=>L
 |i+1=>let c:=(ps[i]?).getD (0,0);fill (fS ws ins L ps i) ((ins[(ma ws ins c ins.length).getD 0]?).getD []) (PX ws (fS ws ins L ps i) c)
theorem kI(ws:List Wl)(ins:List (List Nat))(L:List Int)(ps:List Vc):∀i,(fS ws ins L ps i).length=L.length
 |0=>rfl
 |i+1=>by rw[fS,fill,gU,kI ws ins L ps i]
def ko(ws:List Wl)(L:List Int):Prop:=∃(a:List (List Nat)) (ps:List Vc),OO ws (2*ws.length) a/\ps.Perm (b7 ws (a.filter fun r=>!aL ws r) (a.filter fun r=>!aL ws r).length)/\ps.Pairwise OL/\
 L=fS ws (a.filter fun r=>!aL ws r) (fO (2*ws.length) (a.filter (aL ws)) (a.filter (aL ws)).length) ps ps.length
theorem iU(k:N5)(d:D)(c:N5):∀kvs:Ny,((kvs.map fun x=>if x.1=k then(x.1,d)else x).find? fun x=>decide (x.1=c)).map (·.2)=if c=k/\(kvs.any fun x=>decide (x.1=k))=MC then MA d else(kvs.find? fun x=>decide (x.1=c)).map (·.2)
 |[]=>by simp
 |x::kvs=>by
  have f:=iU k d c kvs
  rw[J5,JC,JC,Lm]
  by_cases a:x.1=k
  ·rw[MF a]
   by_cases b:x.1=c
   ·have e:c=k:=b.symm.trans a
    simp[a,e]
   ·have ne:¬c=k:=fun z=>b (a.trans z.symm)
    rw[ME (fun z=>ne z.1)]
    rw[ME (fun z=>ne z.1)]at f
    simp only[MG b]
    exact f
  ·rw[ME a]
   by_cases b:x.1=c
   ·have ne:¬c=k:=fun z=>a (b.trans z)
    rw[ME (fun z=>ne z.1)]
    simp[b]
   ·simp only[MG b,MG a,Bool.false_or]
    exact f
theorem yn(kvs:Ny)(k:N5)(d:D)(a:N5):dJ (putD kvs k d) a=if a=k then MA d else dJ kvs a:=by
 unfold putD dJ;by_cases h:(kvs.any fun x=>decide (x.1=k))=MC
 ·rw[MF h,iU];by_cases e:a=k
  ·rw[MF ⟨e,h⟩,MF e]
  ·rw[ME (fun z=>e z.1),ME e]
 ·rw[ME h,List.find?_append];by_cases e:a=k
  ·subst e;have:(kvs.find? fun x=>decide (x.1=a))=MB:=by rw[List.find?_eq_none];intro x b c;exact h (List.any_eq_true.mpr ⟨x,b,c⟩)
   rw[this,MF rfl];simp
  ·rw[ME e];have:([(k,d)]:Ny).find? (fun x=>decide (x.1=a))=MB:=by simp;exact fun z=>e z.symm
   rw[this];simp
theorem xE(kvs:Ny)(k:N5)(d:D):(putD kvs k d).map (·.1)=if k∈kvs.map (·.1)then kvs.map (·.1)else kvs.map (·.1)++[k]:=by
 unfold putD;have e:((kvs.any fun x=>decide (x.1=k))=MC)↔k∈kvs.map (·.1):=by rw[List.any_eq_true,Jp];exact⟨fun c=>by obtain⟨x,a,b⟩:=c;exact(⟨x,a,by simpa using b⟩),fun f=>by obtain⟨x,a,b⟩:=f;exact(⟨x,a,by simpa using b⟩)⟩
 by_cases h:k∈kvs.map (·.1)
 ·rw[MF (e.mpr h),MF h,KC];apply La;intro x _;show(if x.1=k then(x.1,d)else x).1=x.1;split<;>rfl
 ·rw[ME (fun z=>h (e.mp z)),ME h,Jk];rfl
structure R7(t b X Y:Int)(ws:List Wl)(ins:List (List Nat))(qs:List Addr)(i:Nat)(kvs:Ny):Prop where
 ks:kvs.map (·.1)=(b7 ws ins i).map (gk t b X Y)
 vs:∀c,dJ kvs (gk t b X Y c)=(ma ws ins c i).bind fun j=>(qs[j]?).map D.ref
theorem R7.nil(t b X Y:Int)(ws:List Wl)(ins:List (List Nat))(qs:List Addr):R7 t b X Y ws ins qs 0 []:=⟨rfl,fun c=>rfl⟩
theorem R7.put{t b X Y:Int}{ws:List Wl}{ins:List (List Nat)}{qs:List Addr}{i:Nat}{kvs:Ny}{r:List Nat}{q:Addr}(d:0<t)(e:0<b)(h:R7 t b X Y ws ins qs i kvs)(f:ins[i]?=MA r)(eq:qs[i]?=MA q):R7 t b X Y ws ins qs (i+1) (putD kvs (gk t b X Y (fc ws r)) (.ref q)):=by
 have a:(ins[i]?).getD []=r:=by rw[f];rfl
 refine⟨?_,fun c=>?_⟩
 ·rw[xE,h.ks]
  have g:b7 ws ins (i+1)=if fc ws r∈b7 ws ins i then b7 ws ins i else b7 ws ins i++[fc ws r]:=by
   conv=>lhs;unfold b7
   rw[a]
  rw[g];by_cases z:fc ws r∈b7 ws ins i
  ·rw[MF z,MF (Jp.mpr ⟨_,z,rfl⟩)]
  ·rw[ME z,ME (fun y=>by
    obtain⟨c,j,k⟩:=Jp.mp y
    exact z ((sD d e k)▸j)),Jk]
   rfl
 ·rw[yn]
  have ea:ma ws ins c (i+1)=if fc ws r=c then MA i else ma ws ins c i:=by
   conv=>lhs;unfold ma
   rw[a]
  rw[ea];by_cases z:fc ws r=c
  ·rw[MF (by rw[z]),MF z];show _=(qs[i]?).map D.ref;rw[eq];rfl
  ·rw[ME (fun y=>z (sD d e y).symm),ME z];exact h.vs c
section
variable{X:Cx}
theorem sT:bO X (.builtin "sorted") (fun vs H Q=>∃(p:Addr) (ns:List Int),vs=[.ref p]/\NZ X.K H p (ns.map V.int)/\ns.length<64/\∀(l:Addr) (a:List Int),H l=MB->a.Perm ns->a.Pairwise (·<=·)->Q (.ref l) (upd H l (.lst (a.map V.int)))):=by
 intro MP s σ H vs h Q I r ⟨l,ns,i,j,x,q⟩;subst i;obtain⟨u,rfl,k⟩:=vals1 r;cases k;obtain⟨c,d,m,y⟩:=I.list j;have f:c.length=ns.length:=by rw[<-d.length,IZ]
 refine sorted_ints m.isList (intsAre_of d) (by omega) fun out a n g t=>?_;obtain⟨e,v⟩:=sortedAll_at s.heap c out;refine⟨.ref (s.heap.objs.size+1),_,I.laid (t':=s.toks) (fun b o q=>sortedAll_old q) (Nat.le_succ _) (show bT X.prog X.w _ _ _ (.lst _)from⟨?_,_,e,gQ n,by rw[Array.toArray_toList];exact v⟩),rfl,q _ a (I.hok.fresh (Nat.le_succ _)) g t⟩;rw[IZ,g.length_eq];have:128<=Jb:=NS rfl;omega
def yz:RC:=fun b M Q=>match b with
 |[.ref l]=>∃ns:List Int,M l=MA (.lst (ns.map D.int))/\ns.length<64/\∀(z:Addr) (a:List Int),M z=MB->a.Perm ns->a.Pairwise (·<=·)->Q (.ref z) (aC M z (.lst (a.map D.int)))
 |_=>False
theorem qC:eQ X (.builtin "sorted") yz:=cu sT fun vs H Q b=>by
 obtain⟨m,M,R,h,a,q,d⟩:=b;unfold yz at q;split at q
 ·obtain⟨ns,e,i,q⟩:=q;obtain⟨v,rfl,r⟩:=cF h;rw[Rep]at r;subst r;obtain⟨xs,g,j⟩:=a _ _ e;rw[dO j]at g;exact⟨_,ns,rfl,NZ.of g,i,fun z c f k l=>d _ _ _ _ (.new f) (by rw[Rep]) (a.jK f (dQ c)) (q z c (a.fresh f) k l)⟩
 ·exact q.elim
end
def sg:Nat->(Nat->Int)->Int
 |0,_=>0
 |n+1,g=>sg n g+g n
theorem aJ{g h:Nat->Int}:∀{n:Nat},(∀k,k<n->g k=h k)->sg n g=sg n h
 |0,_=>rfl
 |n+1,e=>by rw[sg,sg,aJ fun k a=>e k (by omega),e n (by omega)]
theorem cg(g h:Nat->Int):∀n,sg n (fun k=>g k+h k)=sg n g+sg n h
 |0=>rfl
 |n+1=>by rw[sg,sg,sg,cg g h n];omega
theorem eB(g h:Nat->Int):∀n,sg n (fun k=>g k-h k)=sg n g-sg n h
 |0=>rfl
 |n+1=>by rw[sg,sg,sg,eB g h n];omega
theorem pA:∀n,sg n (fun _=>0)=0
 |0=>rfl
 |n+1=>by rw[sg,pA n];rfl
theorem bS{g:Nat->Int}{n:Nat}(h:∀k,k<n->g k=0):sg n g=0:=by rw[aJ h,pA]
theorem cS(d:Nat->Int)(j:Nat):∀n,sg n (fun k=>if k=j then d k else 0)=if j<n then d j else 0
 |0=>rfl
 |n+1=>by
  rw[sg,cS d j n]
  by_cases e:n=j
  ·subst e;rw[ME (LI _),MF rfl,MF (by omega)];omega
  ·rw[ME e]
   by_cases l:j<n
   ·rw[MF l,MF (by omega)];omega
   ·rw[ME l,ME (by omega)];rfl
def wn(ws:List Wl)(k:Nat):Wl:=NV ws (k:Int)
section
variable{ws:List Wl}(hU:∀w∈ws,NO w)(hF:PF ws)
include hU in
theorem aR{k:Nat}(h:k<ws.length):NO (wn ws k):=hU _ (bo (ws:=ws) (k:=(k:Int)) (by omega) (by omega)).2.2
include hF in
theorem bA{i j:Nat}(hi:i<ws.length)(c:j<ws.length)(ne:i≠j):Na (wn ws i) (wn ws j):=by have a:=(bo (ws:=ws) (k:=(i:Int)) (by omega) (by omega)).1;have b:=(bo (ws:=ws) (k:=(j:Int)) (by omega) (by omega)).1;rw[Kn]at a b;exact hF i j _ _ ne a b
def sp(w:Wl)(t:Int):Bool:=decide (l1 w<=t)&&decide (t<l2 w)
theorem aY{w:Wl}{t:Int}:sp w t=MC↔l1 w<=t/\t<l2 w:=by unfold sp;simp
def Om(ws:List Wl)(d:Nat->Int)(q:Nat->Bool)(t:Int):Int:=sg ws.length fun k=>if(sp (wn ws k) t&&q k)=MC then d k else 0
def Flow(ws:List Wl)(d:Nat->Int):Prop:=∀t:Int,sg ws.length (fun k=>if l2 (wn ws k)=t then d k else 0)=sg ws.length (fun k=>if l1 (wn ws k)=t then d k else 0)
include hU in
theorem yD{d:Nat->Int}(i:Flow ws d){q:Nat->Bool}{t:Int}(c:Bool)(j:∀k,k<ws.length->l1 (wn ws k)=t\/l2 (wn ws k)=t->q k=c):Om ws d q t=Om ws d q (t-1):=by
 unfold Om
 have e:∀k,k<ws.length->(if(sp (wn ws k) t&&q k)=MC then d k else 0)=(if(sp (wn ws k) (t-1)&&q k)=MC then d k else 0)+(if c=MC then((if l1 (wn ws k)=t then d k else 0)-(if l2 (wn ws k)=t then d k else 0))else 0):=fun k g=>by
  have lt:=(aR hU g).lt
  have h:=j k g
  unfold sp
  generalize l1 (wn ws k)=a at *
  generalize l2 (wn ws k)=b at *
  by_cases x:a=t
  ·have f:=h (.inl x);rw[f,MI (show a<=t by omega),MI (show t<b by omega),MG (show ¬a<=t-1 by omega),MF x,ME (show ¬b=t by omega)];cases c<;>simp
  ·by_cases y:b=t
   ·have f:=h (.inr y);rw[f,MG (show ¬t<b by omega),MI (show a<=t-1 by omega),MI (show t-1<b by omega),ME x,MF y];cases c
    ·simp
    ·simp;omega
   ·rw[ME x,ME y];have e1:decide (a<=t)=decide (a<=t-1):=by rw[MK];omega
    have e2:decide (t<b)=decide (t-1<b):=by rw[MK];omega
    rw[e1,e2];simp
 rw[aJ e,cg];cases c with
 |false=>rw[show sg ws.length (fun k=>if MD=MC then((if l1 (wn ws k)=t then d k else 0)-(if l2 (wn ws k)=t then d k else 0))else 0)=0 from bS fun _ _=>rfl];omega
 |true=>
  have z:sg ws.length (fun k=>if MC=MC then((if l1 (wn ws k)=t then d k else 0)-(if l2 (wn ws k)=t then d k else 0))else 0)=0:=by rw[aJ (h:=fun k=>(if l1 (wn ws k)=t then d k else 0)-(if l2 (wn ws k)=t then d k else 0)) fun k _=>MF rfl,eB,i t];omega
  rw[z];omega
include hU in
theorem jo{d:Nat->Int}(c:Flow ws d){q:Nat->Bool}:∀(n:Nat) (t:Int),(∀s,t<s->s<=t+n->∃a,∀k,k<ws.length->l1 (wn ws k)=s\/l2 (wn ws k)=s->q k=a)->Om ws d q (t+n)=Om ws d q t
 |0,t,_=>by rw[show t+((0:Nat):Int)=t by omega]
 |n+1,t,h=>by
  obtain⟨a,b⟩:=h (t+(n+1:Nat)) (by omega) (by omega)
  rw[yD hU c a b,show t+((n+1:Nat):Int)-1=t+(n:Int) by omega]
  exact jo c n t fun s e f=>h s e (by omega)
include hU in
theorem Ba{d:Nat->Int}(c:Flow ws d)(t:Int):Om ws d (fun _=>MC) t=0:=by
 have z:∀s:Int,s<0->Om ws d (fun _=>MC) s=0:=fun s hs=>bS fun k e=>by
  have U:=aR hU e
  have:=U.a;have:=U.b
  rw[ME]
  intro q
  rw[Mr,aY]at q
  unfold l1 la at q
  omega
 by_cases h:t<0
 ·exact z t h
 ·have:=jo hU c (q:=fun _=>MC) (t+1).toNat (-1) fun s _ _=>⟨MC,fun _ _ _=>rfl⟩;rw[show(-1:Int)+((t+1).toNat:Int)=t by omega,z (-1) (by omega)]at this;exact this
end
theorem HE{w:Wl}(h:NO w){t:Int}(e:l1 w=t):w.1=t/100/\w.2.1=t%100:=by
 have:=h.a;have:=h.b
 unfold l1 la at e;omega
theorem Ip{w:Wl}(h:NO w){t:Int}(e:l2 w=t):w.2.2.1=t/100/\w.2.2.2=t%100:=by
 have:=h.c;have:=h.d
 unfold l2 la at e;omega
def O6(w:Wl)(t:Int):Int:=sd w (t/100) (t%100)
theorem IE{w v:Wl}(h:NO v){t:Int}(e:l1 v=t):O6 w t=NX w v:=by obtain⟨a,b⟩:=HE h e;unfold O6 NX;rw[a,b]
theorem HI{w v:Wl}(h:NO v){t:Int}(e:l2 v=t):O6 w t=NY w v:=by obtain⟨a,b⟩:=Ip h e;unfold O6 NY;rw[a,b]
theorem wX{U V:Wl}(d:NO U)(e:NO V)(F:Na U V)(c:l1 U<l2 V)(a:l2 V<l2 U):NT U V=decide (NY U V<0):=by
 have f:=d.lt;have g:=e.lt;have nz:=F.e2.nz c a;have b:max (l1 U) (l1 V)<min (l2 U) (l2 V):=c9.mpr ⟨f,c,by omega,g⟩;have pr:(¬(0<NX V U/\NY V U<0)/\¬(NX V U<0/\0<NY V U))\/(¬(0<NX U V/\NY U V<0)/\¬(NX U V<0/\0<NY U V)):=F.pr.elim (fun z=>.inr (VI z)) (fun z=>.inl (VI z));rcases Jh (l1 U) (l1 V)with h|h|h
 ·have i:=F.e1.nz h (by omega);have q:=within (vX V U) (wy V U) h (by omega) (by omega) a pr.symm i nz;rw[nv b h,MK];omega
 ·rw[qR b h (by omega)]
 ·have j:=F.e3.nz h (by omega);have q:=oF (wy U V) (vX V U) h (by omega) a pr j nz;rw[qE b h,MK];exact q
theorem de{U V:Wl}(c:NO U)(a:NO V)(F:Na U V){t:Int}(g:l1 U<t)(h:t<l2 U)(e:l1 V=t\/l2 V=t):NT U V=decide (O6 U t<0)/\NT V U=decide (0<O6 U t):=by
 have d:=c.lt;have f:=a.lt
 have nz:O6 U t≠0/\NT U V=decide (O6 U t<0)/\max (l1 U) (l1 V)<min (l2 U) (l2 V):=by
  rcases e with e|e
  ·have b:max (l1 U) (l1 V)<min (l2 U) (l2 V):=c9.mpr ⟨d,by omega,by omega,f⟩;rw[IE a e];exact⟨F.e1.nz (by omega) (by omega),nv b (by omega),b⟩
  ·have b:max (l1 U) (l1 V)<min (l2 U) (l2 V):=c9.mpr ⟨d,by omega,by omega,f⟩;rw[HI a e];exact⟨F.e2.nz (by omega) (by omega),wX c a F (by omega) (by omega),b⟩
 refine⟨nz.2.1,?_⟩;rw[jh c a F nz.2.2,nz.2.1,rP nz.1,Bool.not_not]
section
variable{ws:List Wl}(hU:∀w∈ws,NO w)(hF:PF ws)
def Bw(ws:List Wl)(d:Nat->Int)(j:Nat):Int:=Om ws d (fun k=>NT (wn ws j) (wn ws k)) (l1 (wn ws j))
include hU hF in
theorem lF{d:Nat->Int}(c:Flow ws d){j:Nat}(a:j<ws.length){t:Int}(h:sp (wn ws j) t=MC):Om ws d (fun k=>NT (wn ws j) (wn ws k)) t=Bw ws d j:=by
 rw[aY]at h;have:=jo hU c (q:=fun k=>NT (wn ws j) (wn ws k)) (t-l1 (wn ws j)).toNat (l1 (wn ws j)) fun s f g=>⟨decide (O6 (wn ws j) s<0),fun k b e=>?_⟩
 ·rw[show l1 (wn ws j)+((t-l1 (wn ws j)).toNat:Int)=t by omega]at this;exact this
 ·have ne:j≠k:=fun z=>by subst z;omega
  exact(de (aR hU a) (aR hU b) (bA hF a b ne) f (by omega) e).1
end
theorem fM(ws:List Wl)(k:Nat):fw ws (2*k)=wn ws k:=by unfold fw wn;rw[MF (by omega),show 2*k/2=k by omega]
theorem lx(ws:List Wl)(k:Nat):fw ws (2*k+1)=rev (wn ws k):=by unfold fw wn;rw[ME (by omega),show(2*k+1)/2=k by omega]
def N8(a b:Vc):Bool:=decide ((vl a<0/\0<vl b)\/(((vl a<0/\vl b<0)\/(0<vl a/\0<vl b))/\vc a b<0))
theorem eN{a b:Vc}:N8 a b=MC↔(vl a<0/\0<vl b)\/(((vl a<0/\vl b<0)\/(0<vl a/\0<vl b))/\vc a b<0):=by unfold N8;rw[ML]
theorem Ho(a b x:Vc):vl a*vc b x-vl b*vc a x+vl x*vc a b=0:=by unfold vl la vc Nx;grind
def sc(z:Int):_root_.Fin 3:=if z<0 then 0 else if z=0 then 1 else 2
theorem Qa{z:Int}:sc z=0↔z<0:=by
 unfold sc;split
 ·simp[*]
 ·split<;>simp[*]
theorem Pm{z:Int}:sc z=1↔z=0:=by
 unfold sc;split
 ·simp;omega
 ·split<;>simp[*]
theorem Q9{z:Int}:sc z=2↔0<z:=by
 unfold sc;split
 ·simp;omega
 ·split
  ·simp;omega
  ·simp;omega
def BH(a r:_root_.Fin 3):_root_.Fin 3:=if a=0 then 2-r else if a=1 then 1 else r
theorem xt(z:Int):sc (-z)=2-sc z:=by
 rcases Jh z 0 with h|h|h
 ·rw[Qa.mpr h,Q9.mpr (by omega)];rfl
 ·rw[Pm.mpr h,Pm.mpr (by omega)];rfl
 ·rw[Q9.mpr h,Qa.mpr (by omega)];rfl
theorem sA(a r:Int):sc (a*r)=BH (sc a) (sc r):=by
 rcases Jh a 0 with h|h|h
 ·rw[Qa.mpr h];rcases Jh r 0 with k|k|k
  ·rw[Qa.mpr k,Q9.mpr (JU h k)];rfl
  ·rw[Pm.mpr k,Pm.mpr (by rw[k,Mn])];rfl
  ·rw[Q9.mpr k,Qa.mpr (JI h k)];rfl
 ·rw[Pm.mpr h,Pm.mpr (by rw[h,Int.zero_mul])];rfl
 ·rw[Q9.mpr h];rcases Jh r 0 with k|k|k
  ·rw[Qa.mpr k,Qa.mpr (JJ h k)];rfl
  ·rw[Pm.mpr k,Pm.mpr (by rw[k,Mn])];rfl
  ·rw[Q9.mpr k,Q9.mpr (JE h k)];rfl
def XT(a b c:_root_.Fin 3):Bool:=!(a != 0&&b != 0&&c != 0&&(a==2||b==2||c==2))&&!(a != 2&&b != 2&&c != 2&&(a==0||b==0||c==0))
theorem jL(z:Int):(z<0/\sc z=0)\/(z=0/\sc z=1)\/(0<z/\sc z=2):=by
 rcases Jh z 0 with h|h|h
 ·exact .inl ⟨h,Qa.mpr h⟩
 ·exact .inr (.inl ⟨h,Pm.mpr h⟩)
 ·exact .inr (.inr ⟨h,Q9.mpr h⟩)
theorem Dd{u v w:Int}(h:u+v+w=0):XT (sc u) (sc v) (sc w)=MC:=by rcases jL u with x|x|x<;>rcases jL v with y|y|y<;>rcases jL w with z|z|z<;>rw[x.2,y.2,z.2]<;>first|rfl|(exfalso;omega)
def Hr(a b p:_root_.Fin 3):Bool:=(a==0&&b==2)||(((a==0&&b==0)||(a==2&&b==2))&&p==0)
theorem oN(a b:Vc):N8 a b=Hr (sc (vl a)) (sc (vl b)) (sc (vc a b)):=by rw[LA,eN];unfold Hr;simp[Qa,Q9]
theorem Xa(a b:Vc):sc (vc b a)=2-sc (vc a b):=by rw[d5 a b,xt]
theorem Cs(a b x:Vc):XT (BH (sc (vl a)) (sc (vc b x))) (2-BH (sc (vl b)) (sc (vc a x))) (BH (sc (vl x)) (sc (vc a b)))=MC:=by rw[<-sA,<-sA,<-sA,<-xt];exact Dd (by have:=Ho a b x;omega)
theorem jn{a b c:Vc}(d:N8 a b=MC)(e:N8 b c=MC):N8 a c=MC:=by
 rw[oN]at *;have id:=Cs a b c
 revert d e id
 generalize sc (vl a)=A;generalize sc (vl b)=B;generalize sc (vl c)=C;generalize sc (vc a b)=p;generalize sc (vc a c)=q;generalize sc (vc b c)=r
 revert A B C p q r
 decide +kernel
theorem br{a b:Vc}(c:N8 a b=MC)(d:N8 b a=MC):False:=by rw[eN]at *;have:=d5 a b;omega
theorem wI{a b:Vc}(c:vl a≠0)(d:vl b≠0)(h:Ol a b):N8 a b=MC\/N8 b a=MC:=by
 rw[eN,eN];have:=d5 a b;by_cases z:vc a b=0
 ·have:=fq (h z);omega
 ·omega
def GC(a b p:_root_.Fin 3):Bool:=p != 1||(a==0&&b==2)||(a==2&&b==0)
theorem tu{a b:Vc}(h:Ol a b):GC (sc (vl a)) (sc (vl b)) (sc (vc a b))=MC:=by
 unfold GC;by_cases z:vc a b=0
 ·rcases fq (h z)with q|q
  ·rw[Qa.mpr q.1,Q9.mpr q.2];simp
  ·rw[Q9.mpr q.1,Qa.mpr q.2];simp
 ·have:sc (vc a b)≠1:=fun e=>z (Pm.mp e);simp[this]
def Gv(p q r:_root_.Fin 3):Bool:=decide (p<q)||(p==q&&r==0)
theorem Dk{b x y:Vc}(h:PQ b x y=MC):Gv (sc (vc b x)) (sc (vc b y)) (sc (vc x y))=MC:=by rw[gL]at h;unfold Gv;rcases gg (vc b x)with t|t|t<;>rcases gg (vc b y)with u|u|u<;>rw[t.2,u.2]at h<;>rcases jL (vc b x)with p|p|p<;>rcases jL (vc b y)with q|q|q<;>rcases jL (vc x y)with r|r|r<;>rw[p.2,q.2,r.2]<;>first|rfl|(exfalso;omega)
theorem Bz{a b x:Vc}(c:vl a≠0)(d:vl b≠0)(f:vl x≠0)(g:Ol a b)(i:Ol a x)(j:Ol b x)(h:PQ a b x=MC):(N8 a b=MC/\N8 b x=MC)\/(N8 b x=MC/\N8 x a=MC)\/(N8 x a=MC/\N8 a b=MC):=by
 have h:=Dk h;have id:=Cs a b x;have g:=tu g;have i:=tu i;have j:=tu j;have c:sc (vl a)≠1:=fun e=>c (Pm.mp e);have d:sc (vl b)≠1:=fun e=>d (Pm.mp e);have f:sc (vl x)≠1:=fun e=>f (Pm.mp e);rw[oN,oN,oN,Xa a x]
 revert h id g i j c d f
 generalize sc (vl a)=A;generalize sc (vl b)=B;generalize sc (vl x)=X;generalize sc (vc a b)=p;generalize sc (vc a x)=q;generalize sc (vc b x)=r
 revert A B X p q r
 decide +kernel
def dw(w:Wl):Vc:=(w.2.2.1-w.1,w.2.2.2-w.2.1)
def ng(v:Vc):Vc:=(-v.1,-v.2)
theorem gM(ws:List Wl)(k:Nat):fd ws (2*k)=dw (wn ws k):=by unfold fd dw;rw[fM]
theorem rO(ws:List Wl)(k:Nat):fd ws (2*k+1)=ng (dw (wn ws k)):=by unfold fd dw ng;rw[lx];unfold rev;exact Prod.ext (by dsimp only;omega) (by dsimp only;omega)
theorem l5(w:Wl):vl (dw w)=l2 w-l1 w:=by unfold vl dw l1 l2 la;dsimp only;omega
theorem uq(v:Vc):vl (ng v)=-vl v:=by unfold vl ng la;dsimp only;omega
theorem FV(a b:Vc):vc (ng a) (ng b)=vc a b:=by unfold vc ng Nx;dsimp only;rw[Int.neg_mul_neg,Int.neg_mul_neg]
theorem b8(ws:List Wl)(k:Nat):la (fa ws (2*k)).1 (fa ws (2*k)).2=l1 (wn ws k):=by unfold fa;rw[fM];rfl
theorem kT(ws:List Wl)(k:Nat):la (fa ws (2*k+1)).1 (fa ws (2*k+1)).2=l2 (wn ws k):=by unfold fa;rw[lx];rfl
theorem jM{U V:Wl}(a:NO U)(c:NO V)(F:Na U V)(e:l1 U=l1 V):NT U V=decide (vc (dw U) (dw V)<0)/\vc (dw U) (dw V)≠0:=by
 have i:=a.lt;have j:=c.lt;have d:max (l1 U) (l1 V)<min (l2 U) (l2 V):=c9.mpr ⟨i,by omega,by omega,j⟩;obtain⟨f,g⟩:=gG a.b c.b (show la U.1 U.2.1=la V.1 V.2.1 from e);have k:NY U V=vc (dw U) (dw V):=by unfold NY sd vc dw Nx;rw[f,g]
 have l:NY V U=-vc (dw U) (dw V):=by unfold NY sd vc dw Nx;rw[f,g];grind
 rcases Jh (l2 U) (l2 V)with h|h|h
 ·have nz:=F.e4.nz (by omega) h;rw[ui d e h,l];refine⟨by rw[MK];omega,by omega⟩
 ·exact absurd ⟨e,h⟩ F.ne
 ·have nz:=F.e2.nz (by omega) h;rw[qR d e (by omega),k];exact⟨rfl,by omega⟩
theorem zS{U V:Wl}(a:NO U)(b:NO V)(F:Na U V)(e:l2 U=l2 V):NT U V=decide (0<vc (dw U) (dw V))/\vc (dw U) (dw V)≠0:=by
 have i:=a.lt;have j:=b.lt;have c:max (l1 U) (l1 V)<min (l2 U) (l2 V):=c9.mpr ⟨i,by omega,by omega,j⟩;obtain⟨f,g⟩:=gG a.d b.d (show la U.2.2.1 U.2.2.2=la V.2.2.1 V.2.2.2 from e);have k:NX U V=-vc (dw U) (dw V):=by unfold NX sd vc dw Nx;rw[f,g];grind
 have l:NX V U=vc (dw U) (dw V):=by unfold NX sd vc dw Nx;rw[f,g];grind
 rcases Jh (l1 U) (l1 V)with h|h|h
 ·have nz:=F.e1.nz h (by omega);rw[nv c h,k];refine⟨by rw[MK];omega,by omega⟩
 ·exact absurd ⟨h,e⟩ F.ne
 ·have nz:=F.e3.nz h (by omega);rw[qE c h,l];exact⟨rfl,by omega⟩
def Pf(ws:List Wl)(d:Nat->Int)(f:Nat):Int:=if f%2=0 then Bw ws d (f/2)+d (f/2)else Bw ws d (f/2)
theorem gW(ws:List Wl)(d:Nat->Int)(k:Nat):Pf ws d (2*k)=Bw ws d k+d k:=by unfold Pf;rw[MF (by omega),show 2*k/2=k by omega]
theorem iy(ws:List Wl)(d:Nat->Int)(k:Nat):Pf ws d (2*k+1)=Bw ws d k:=by unfold Pf;rw[ME (by omega),show(2*k+1)/2=k by omega]
def Zc(ws:List Wl)(d:Nat->Int)(t:Int):Int:=sg ws.length fun k=>if l1 (wn ws k)<t/\t<l2 (wn ws k)/\0<O6 (wn ws k) t then d k else 0
def Es(ws:List Wl)(d:Nat->Int)(t:Int)(v:Vc):Int:=sg ws.length fun k=>(if l2 (wn ws k)=t/\N8 (ng (dw (wn ws k))) v=MC then d k else 0)-(if l1 (wn ws k)=t/\N8 (dw (wn ws k)) v=MC then d k else 0)
section
variable{ws:List Wl}(hU:∀w∈ws,NO w)(hF:PF ws){d:Nat->Int}(fl:Flow ws d)
include hU hF fl
theorem Bx{j:Nat}(a:j<ws.length):Pf ws d (2*j)=Zc ws d (l1 (wn ws j))+Es ws d (l1 (wn ws j)) (dw (wn ws j)):=by
 rw[gW];have one:d j=sg ws.length (fun k=>if k=j then d k else 0):=by rw[cS,MF a]
 have f:=fl (l1 (wn ws j));have J:=aR hU a;have g:=J.lt;have i:=l5 (wn ws j);generalize b:l1 (wn ws j)=t at *;rw[one];unfold Bw Om Zc Es;rw[b,<-cg,<-cg];have z:sg ws.length (fun k=>(if l1 (wn ws k)=t then d k else 0)-(if l2 (wn ws k)=t then d k else 0))=0:=by rw[eB];omega
 refine Eq.trans (aJ (h:=fun k=>((if l1 (wn ws k)<t/\t<l2 (wn ws k)/\0<O6 (wn ws k) t then d k else 0)+((if l2 (wn ws k)=t/\N8 (ng (dw (wn ws k))) (dw (wn ws j))=MC then d k else 0)-(if l1 (wn ws k)=t/\N8 (dw (wn ws k)) (dw (wn ws j))=MC then d k else 0)))+((if l1 (wn ws k)=t then d k else 0)-(if l2 (wn ws k)=t then d k else 0))) fun k e=>?_) (by rw[cg (fun k=>(if l1 (wn ws k)<t/\t<l2 (wn ws k)/\0<O6 (wn ws k) t then d k else 0)+_),z];omega);dsimp only;show(if(sp (wn ws k) t&&NT (wn ws j) (wn ws k))=MC then d k else 0)+(if k=j then d k else 0)=_;have K:=aR hU e;have l:=K.lt;by_cases c:k=j
 ·subst c;rw[MF rfl,cV J,LX,ME (by decide),ME (by omega),ME (fun q=>by omega),b,MF rfl,ME (show ¬l2 (wn ws k)=t by omega)];have:¬(t=t/\N8 (dw (wn ws k)) (dw (wn ws k))=MC):=fun q=>br q.2 q.2;rw[ME this];omega
 ·rw[ME c];have F:=bA hF a e (fun q=>c q.symm);have m:=l5 (wn ws k);rcases Jh (l1 (wn ws k)) t with x|x|x
  ·rcases Jh (l2 (wn ws k)) t with y|y|y
   ·have s:sp (wn ws k) t=MD:=by unfold sp;rw[MG (show ¬t<l2 (wn ws k) by omega),LX]
    rw[s,K5,ME (by decide),ME (by omega),ME (by omega),ME (by omega),ME (by omega),ME (by omega)];rfl
   ·have s:sp (wn ws k) t=MD:=by unfold sp;rw[MG (show ¬t<l2 (wn ws k) by omega),LX]
    have p:N8 (ng (dw (wn ws k))) (dw (wn ws j))=MC:=eN.mpr (.inl ⟨by rw[uq];omega,by omega⟩);rw[s,K5,ME (by decide),ME (by omega),MF ⟨y,p⟩,ME (by omega),ME (by omega),MF y];omega
   ·have s:sp (wn ws k) t=MC:=aY.mpr ⟨by omega,y⟩;have T:=(de K J F.swap x y (.inl b)).2;rw[s,L6,T,ME (show ¬(l2 (wn ws k)=t/\_) by omega),ME (show ¬(l1 (wn ws k)=t/\_) by omega),ME (show ¬l1 (wn ws k)=t by omega),ME (show ¬l2 (wn ws k)=t by omega)];by_cases q:0<O6 (wn ws k) t
    ·rw[MF (by simpa using q),MF ⟨x,y,q⟩];omega
    ·rw[ME (by simpa using q),ME (fun z=>q z.2.2)];omega
  ·have s:sp (wn ws k) t=MC:=aY.mpr ⟨by omega,by omega⟩;obtain⟨A,nz⟩:=jM J K F (by omega)
   have P:N8 (dw (wn ws k)) (dw (wn ws j))=decide (0<vc (dw (wn ws j)) (dw (wn ws k))):=by
    rw[LA,eN,ML]
    have:=d5 (dw (wn ws j)) (dw (wn ws k))
    omega
   rw[s,L6,A,P,ME (show ¬(l1 (wn ws k)<t/\_) by omega),ME (show ¬(l2 (wn ws k)=t/\_) by omega),MF x,ME (show ¬l2 (wn ws k)=t by omega)];by_cases q:vc (dw (wn ws j)) (dw (wn ws k))<0
   ·rw[MF (by simpa using q),ME (fun z=>by have:=MJ z.2;omega)];omega
   ·rw[ME (by simpa using q),MF ⟨x,MI (by omega)⟩];omega
  ·have s:sp (wn ws k) t=MD:=by unfold sp;rw[MG (show ¬l1 (wn ws k)<=t by omega),K5]
   rw[s,K5,ME (by decide),ME (by omega),ME (by omega),ME (by omega),ME (by omega),ME (by omega)];rfl
theorem CS{j:Nat}(a:j<ws.length):Pf ws d (2*j+1)=Zc ws d (l2 (wn ws j))+Es ws d (l2 (wn ws j)) (ng (dw (wn ws j))):=by
 rw[iy];have J:=aR hU a;have h:=J.lt;have i:=l5 (wn ws j);have e:=uq (dw (wn ws j));rw[<-lF hU hF fl a (t:=l2 (wn ws j)-1) (aY.mpr ⟨by omega,by omega⟩)];generalize f:l2 (wn ws j)=t at *;unfold Om Zc Es;rw[<-cg];refine aJ fun k b=>?_;dsimp only;show(if(sp (wn ws k) (t-1)&&NT (wn ws j) (wn ws k))=MC then d k else 0)=_;have K:=aR hU b;have l:=K.lt;by_cases c:k=j
 ·subst c;rw[cV J,LX,ME (by decide),ME (by omega),ME (fun q=>br q.2 q.2),ME (by omega)];rfl
 ·have F:=bA hF a b (fun q=>c q.symm);have m:=l5 (wn ws k);have g:=uq (dw (wn ws k));rcases Jh (l1 (wn ws k)) t with x|x|x
  ·rcases Jh (l2 (wn ws k)) t with y|y|y
   ·have s:sp (wn ws k) (t-1)=MD:=by unfold sp;rw[MG (show ¬t-1<l2 (wn ws k) by omega),LX]
    rw[s,K5,ME (by decide),ME (by omega),ME (by omega),ME (by omega)];rfl
   ·have s:sp (wn ws k) (t-1)=MC:=aY.mpr ⟨by omega,by omega⟩;obtain⟨A,nz⟩:=zS J K F (by omega)
    have P:N8 (ng (dw (wn ws k))) (ng (dw (wn ws j)))=decide (0<vc (dw (wn ws j)) (dw (wn ws k))):=by
     rw[LA,eN,ML,FV]
     have:=d5 (dw (wn ws j)) (dw (wn ws k))
     omega
    rw[s,L6,A,P,ME (show ¬(l1 (wn ws k)<t/\_) by omega),ME (show ¬(l1 (wn ws k)=t/\_) by omega)];by_cases q:0<vc (dw (wn ws j)) (dw (wn ws k))
    ·rw[MF (by simpa using q),MF ⟨y,MI q⟩];omega
    ·rw[ME (by simpa using q),ME (fun z=>q (MJ z.2))];rfl
   ·have s:sp (wn ws k) (t-1)=MC:=aY.mpr ⟨by omega,by omega⟩;have T:=(de K J F.swap x y (.inr f)).2;rw[s,L6,T,ME (show ¬(l2 (wn ws k)=t/\_) by omega),ME (show ¬(l1 (wn ws k)=t/\_) by omega)];by_cases q:0<O6 (wn ws k) t
    ·rw[MF (by simpa using q),MF ⟨x,y,q⟩];omega
    ·rw[ME (by simpa using q),ME (fun z=>q z.2.2)];omega
  ·have s:sp (wn ws k) (t-1)=MD:=by unfold sp;rw[MG (show ¬l1 (wn ws k)<=t-1 by omega),K5]
   have p:¬(l1 (wn ws k)=t/\N8 (dw (wn ws k)) (ng (dw (wn ws j)))=MC):=fun q=>by
    have:=eN.mp q.2
    omega
   rw[s,K5,ME (by decide),ME (by omega),ME (by omega),ME p];rfl
  ·have s:sp (wn ws k) (t-1)=MD:=by unfold sp;rw[MG (show ¬l1 (wn ws k)<=t-1 by omega),K5]
   rw[s,K5,ME (by decide),ME (by omega),ME (by omega),ME (by omega)];rfl
theorem uT{g:Nat}(a:g<2*ws.length):Pf ws d g=Zc ws d (la (fa ws g).1 (fa ws g).2)+Es ws d (la (fa ws g).1 (fa ws g).2) (fd ws g):=by
 rcases K6 g with h|h
 ·obtain⟨k,rfl⟩:∃k,g=2*k:=⟨g/2,by omega⟩;rw[b8,gM];exact Bx hU hF fl (by omega)
 ·obtain⟨k,rfl⟩:∃k,g=2*k+1:=⟨g/2,by omega⟩;rw[kT,rO];exact CS hU hF fl (by omega)
end
def eF(d:Nat->Int)(g:Nat):Int:=if g%2=0 then -d (g/2)else d (g/2)
theorem EH(d:Nat->Int){n g:Nat}(a:g<2*n):eF d g=sg n fun k=>(if 2*k+1=g then d k else 0)-(if 2*k=g then d k else 0):=by
 rw[eB];unfold eF;by_cases h:g%2=0
 ·rw[MF h,show sg n (fun k=>if 2*k+1=g then d k else 0)=0 from bS fun k _=>ME (by omega),aJ (h:=fun k=>if k=g/2 then d k else 0) fun k _=>?_,cS,MF (by omega)]
  ·omega
  ·by_cases e:k=g/2
   ·rw[MF e,MF (by omega)]
   ·rw[ME e,ME (by omega)]
 ·rw[ME h,show sg n (fun k=>if 2*k=g then d k else 0)=0 from bS fun k _=>ME (by omega),aJ (h:=fun k=>if k=g/2 then d k else 0) fun k _=>?_,cS,MF (by omega)]
  ·omega
  ·by_cases e:k=g/2
   ·rw[MF e,MF (by omega)]
   ·rw[ME e,ME (by omega)]
theorem Cc(ws:List Wl)(d:Nat->Int)(f:Nat):Pf ws d f=Pf ws d (fx f)+eF d (fx f):=by
 unfold Pf eF;rw[(fL f).1,(fL f).2];by_cases h:f%2=0
 ·rw[MF h,ME (by omega),ME (by omega)]
 ·rw[ME h,MF (by omega),MF (by omega)];omega
theorem ji{A B C:Prop}[Decidable A][Decidable B][Decidable C]{x:Int}(h:A↔B\/C)(n:¬(B/\C)):(if A then x else 0)=(if B then x else 0)+(if C then x else 0):=by
 by_cases b:B
 ·rw[MF (h.mpr (.inl b)),MF b,ME fun c=>n ⟨b,c⟩];omega
 ·by_cases c:C
  ·rw[MF (h.mpr (.inr c)),ME b,MF c];omega
  ·rw[ME fun a=>(h.mp a).elim b c,ME b,ME c];rfl
section
variable{ws:List Wl}(hU:∀w∈ws,NO w)(hF:PF ws)
include hU in
theorem qf{g:Nat}(a:g<2*ws.length):vl (fd ws g)≠0:=by
 rcases K6 g with h|h
 ·obtain⟨k,rfl⟩:∃k,g=2*k:=⟨g/2,by omega⟩;have:=(aR hU (show k<ws.length by omega)).lt;rw[gM,l5];omega
 ·obtain⟨k,rfl⟩:∃k,g=2*k+1:=⟨g/2,by omega⟩;have:=(aR hU (show k<ws.length by omega)).lt;rw[rO,uq,l5];omega
include hU in
theorem GN{g:Nat}(a:g<2*ws.length):0<=(fa ws g).2/\(fa ws g).2<=20:=by
 rcases K6 g with h|h
 ·obtain⟨k,rfl⟩:∃k,g=2*k:=⟨g/2,by omega⟩;unfold fa;rw[fM];exact(aR hU (show k<ws.length by omega)).b
 ·obtain⟨k,rfl⟩:∃k,g=2*k+1:=⟨g/2,by omega⟩;unfold fa;rw[lx];exact(aR hU (show k<ws.length by omega)).d
include hU in
theorem Cu{g h:Nat}(c:g<2*ws.length)(d:h<2*ws.length)(e:la (fa ws g).1 (fa ws g).2=la (fa ws h).1 (fa ws h).2):fa ws g=fa ws h:=by obtain⟨a,b⟩:=gG (GN hU c) (GN hU d) e;exact Prod.ext a b
def tf(ws:List Wl)(g:Nat):Int:=la (fa ws g).1 (fa ws g).2
variable{d:Nat->Int}(fl:Flow ws d)
include hU hF fl in
theorem B3{f:Nat}(S:f<2*ws.length):Pf ws d (bh ws f)=Pf ws d f:=by
 have v:=f9 S;have J:=zZ hU hF S;have e1:fa ws (bh ws f)=fa ws (fx f):=by rw[gv hU hF S,cZ]
 rw[Cc ws d f,uT hU hF fl J,uT hU hF fl v,e1];have K:=fl (la (fa ws (fx f)).1 (fa ws (fx f)).2);have L:∀g,g<2*ws.length->la (fa ws g).1 (fa ws g).2=la (fa ws (fx f)).1 (fa ws (fx f)).2->fa ws g=fb ws f:=fun g M e=>by rw[Cu hU M v e,cZ]
 have N:∀k,la (fa ws (2*k)).1 (fa ws (2*k)).2=l1 (wn ws k):=b8 ws;have O:∀k,la (fa ws (2*k+1)).1 (fa ws (2*k+1)).2=l2 (wn ws k):=kT ws;have i:∀k,fd ws (2*k)=dw (wn ws k):=gM ws;have j:∀k,fd ws (2*k+1)=ng (dw (wn ws k)):=rO ws;have W:=EH d v;generalize X:la (fa ws (fx f)).1 (fa ws (fx f)).2=t at *;have P:∀k,k<ws.length->l1 (wn ws k)=t->fa ws (2*k)=fb ws f:=fun k l e=>L _ (by omega) (by rw[N];exact e);have Q:∀k,k<ws.length->l2 (wn ws k)=t->fa ws (2*k+1)=fb ws f:=fun k l e=>L _ (by omega) (by rw[O];exact e);have o:∀k,2*k=fx f->l1 (wn ws k)=t:=fun k e=>by rw[<-N,e,X]
 have s:∀k,2*k+1=fx f->l2 (wn ws k)=t:=fun k e=>by rw[<-O,e,X]
 rcases fX hU hF S with⟨c,e⟩|⟨m,all⟩
 ·-- the only one
  have only:∀g,g<2*ws.length->fa ws g=fb ws f->g=fx f:=fun g M e=>K3 fun ne=>by
   have:g∈gZ ws f:=bw.mpr ⟨M,e,ne⟩
   rw[c]at this;cases this
  rw[e]
  have z:eF d (fx f)=0:=by
   rw[W]
   have:=aJ (n:=ws.length) (g:=fun k=>(if 2*k+1=fx f then d k else 0)-(if 2*k=fx f then d k else 0)) (h:=fun k=>(if l2 (wn ws k)=t then d k else 0)-(if l1 (wn ws k)=t then d k else 0)) fun k l=>by
    have Z:(2*k+1=fx f)↔l2 (wn ws k)=t:=⟨s k,fun e=>only _ (by omega) (Q k l e)⟩
    have a2:(2*k=fx f)↔l1 (wn ws k)=t:=⟨o k,fun e=>only _ (by omega) (P k l e)⟩
    simp only[Z,a2]
   rw[this,eB,K];omega
  rw[z];omega
 ·obtain⟨m1,U,Y⟩:=bw.mp m;have T:∀g h,g<2*ws.length->h<2*ws.length->fa ws g=fb ws f->fa ws h=fb ws f->g≠h->Ol (fd ws g) (fd ws h):=fun g h M hh a b ne=>dW hU hF M hh ne (by rw[a,b]);have V:fa ws (fx f)=fb ws f:=cZ ws f;have R:∀x,x<2*ws.length->fa ws x=fb ws f->x≠fx f->x≠bh ws f->(N8 (fd ws (fx f)) (fd ws (bh ws f))=MC/\N8 (fd ws (bh ws f)) (fd ws x)=MC)\/(N8 (fd ws (bh ws f)) (fd ws x)=MC/\N8 (fd ws x) (fd ws (fx f))=MC)\/(N8 (fd ws x) (fd ws (fx f))=MC/\N8 (fd ws (fx f)) (fd ws (bh ws f))=MC):=fun x y ex u E=>Bz (qf hU v) (qf hU J) (qf hU y) (T _ _ v J V U (fun z=>Y z.symm)) (T _ _ v y V ex (fun z=>u z.symm)) (T _ _ J y U ex (fun z=>E z.symm)) ((all x (bw.mpr ⟨y,ex,u⟩)).resolve_left E);rw[Int.add_assoc]
  congr 1
  rw[W];unfold Es;rcases wI (qf hU v) (qf hU J) (T _ _ v J V U (fun z=>Y z.symm))with p|p
  ·have key:∀x,x<2*ws.length->fa ws x=fb ws f->(N8 (fd ws x) (fd ws (bh ws f))=MC↔N8 (fd ws x) (fd ws (fx f))=MC\/x=fx f):=fun x y ex=>by
    by_cases u:x=fx f
    ·subst u;exact⟨fun _=>.inr rfl,fun _=>p⟩
    ·by_cases E:x=bh ws f
     ·subst E;exact⟨fun q=>(br q q).elim,fun q=>q.elim (fun q=>(br p q).elim) (fun q=>absurd q u)⟩
     ·rcases R x y ex u E with⟨_,q⟩|⟨q,r⟩|⟨q,_⟩
      ·exact⟨fun z=>(br q z).elim,fun z=>z.elim (fun z=>(br q (jn z p)).elim) fun z=>absurd z u⟩
      ·exact(br p (jn q r)).elim
      ·exact⟨fun _=>.inl q,fun _=>jn q p⟩
   rw[<-cg];refine aJ fun k l=>?_
   have A:(l2 (wn ws k)=t/\N8 (ng (dw (wn ws k))) (fd ws (bh ws f))=MC)↔(l2 (wn ws k)=t/\N8 (ng (dw (wn ws k))) (fd ws (fx f))=MC)\/2*k+1=fx f:=by
    constructor
    ·rintro⟨a,b⟩;rw[<-j]at b;rcases(key _ (by omega) (Q k l a)).mp b with q|q
     ·rw[j]at q;exact .inl ⟨a,q⟩
     ·exact .inr q
    ·intro z;have a:l2 (wn ws k)=t:=z.elim (fun q=>q.1) (s k);refine⟨a,?_⟩;rw[<-j];exact(key _ (by omega) (Q k l a)).mpr (z.imp (fun q=>by rw[j];exact q.2) id)
   have B:(l1 (wn ws k)=t/\N8 (dw (wn ws k)) (fd ws (bh ws f))=MC)↔(l1 (wn ws k)=t/\N8 (dw (wn ws k)) (fd ws (fx f))=MC)\/2*k=fx f:=by
    constructor
    ·rintro⟨a,b⟩;rw[<-i]at b;rcases(key _ (by omega) (P k l a)).mp b with q|q
     ·rw[i]at q;exact .inl ⟨a,q⟩
     ·exact .inr q
    ·intro z;have a:l1 (wn ws k)=t:=z.elim (fun q=>q.1) (o k);refine⟨a,?_⟩;rw[<-i];exact(key _ (by omega) (P k l a)).mpr (z.imp (fun q=>by rw[i];exact q.2) id)
   have C:¬((l2 (wn ws k)=t/\N8 (ng (dw (wn ws k))) (fd ws (fx f))=MC)/\2*k+1=fx f):=fun F=>by obtain⟨⟨_,q⟩,e⟩:=F;rw[<-j,e]at q;exact br q q
   have D:¬((l1 (wn ws k)=t/\N8 (dw (wn ws k)) (fd ws (fx f))=MC)/\2*k=fx f):=fun G=>by obtain⟨⟨_,q⟩,e⟩:=G;rw[<-i,e]at q;exact br q q
   rw[ji A C,ji B D];omega
  ·have key:∀x,x<2*ws.length->fa ws x=fb ws f->N8 (fd ws x) (fd ws (bh ws f))≠MC/\(N8 (fd ws x) (fd ws (fx f))=MC\/x=fx f):=fun x y ex=>by
    by_cases u:x=fx f
    ·subst u;exact⟨fun q=>br p q,.inr rfl⟩
    ·by_cases E:x=bh ws f
     ·subst E;exact⟨fun q=>br q q,.inl p⟩
     ·rcases R x y ex u E with⟨q,_⟩|⟨q,r⟩|⟨_,q⟩
      ·exact(br p q).elim
      ·exact⟨fun z=>br q z,.inl r⟩
      ·exact(br p q).elim
   rw[bS fun k l=>by
    rw[ME fun z=>(key _ (by omega) (Q k l z.1)).1 (by rw[j];exact z.2),ME fun z=>(key _ (by omega) (P k l z.1)).1 (by rw[i];exact z.2)];rfl]
   rw[<-cg,aJ (h:=fun k=>(if l2 (wn ws k)=t then d k else 0)-(if l1 (wn ws k)=t then d k else 0)) fun k l=>?_,eB,K]
   ·omega
   have A:(l2 (wn ws k)=t)↔(l2 (wn ws k)=t/\N8 (ng (dw (wn ws k))) (fd ws (fx f))=MC)\/2*k+1=fx f:=by
    constructor
    ·intro a;rcases(key _ (by omega) (Q k l a)).2 with q|q
     ·rw[j]at q;exact .inl ⟨a,q⟩
     ·exact .inr q
    ·exact fun z=>z.elim (fun q=>q.1) (s k)
   have B:(l1 (wn ws k)=t)↔(l1 (wn ws k)=t/\N8 (dw (wn ws k)) (fd ws (fx f))=MC)\/2*k=fx f:=by
    constructor
    ·intro a;rcases(key _ (by omega) (P k l a)).2 with q|q
     ·rw[i]at q;exact .inl ⟨a,q⟩
     ·exact .inr q
    ·exact fun z=>z.elim (fun q=>q.1) (o k)
   have C:¬((l2 (wn ws k)=t/\N8 (ng (dw (wn ws k))) (fd ws (fx f))=MC)/\2*k+1=fx f):=fun H=>by obtain⟨⟨_,q⟩,e⟩:=H;rw[<-j,e]at q;exact br q q
   have D:¬((l1 (wn ws k)=t/\N8 (dw (wn ws k)) (fd ws (fx f))=MC)/\2*k=fx f):=fun I=>by obtain⟨⟨_,q⟩,e⟩:=I;rw[<-i,e]at q;exact br q q
   rw[ji A C,ji B D];omega
end
theorem yI{ws:List Wl}{f k:Nat}(h:NR ws f k):(rn ws f k).Nodup:=by unfold rn;rw[List.nodup_iff_pairwise_ne,KD];refine Lp ?_ (List.pairwise_lt_range (n:=k+1));intro a b e d c;exact h a b c (by have:=Jq.mp d;omega)
theorem eK{ws:List Wl}{f k g:Nat}:g∈rn ws f k↔∃i,i<=k/\Nf ws f i=g:=by unfold rn;rw[Jp];exact⟨fun a=>by obtain⟨i,h,e⟩:=a;exact(⟨i,by have:=Jq.mp h;omega,e⟩),fun b=>by obtain⟨i,h,e⟩:=b;exact(⟨i,Jq.mpr (by omega),e⟩)⟩
theorem iT(c:Nat->Int){n:Nat}:∀r:List Nat,r.Nodup->(∀g∈r,g<2*n)->(r.map c).sum=sg n fun k=>(if 2*k∈r then c (2*k)else 0)+(if 2*k+1∈r then c (2*k+1)else 0)
 |[],_,_=>by rw[bS fun k _=>by simp];rfl
 |g::r,nd,h=>by
  rw[Ku]at nd
  rw[J5,K7,iT c r nd.2 fun x i=>h x (Jn _ i)]
  have j:=h g Jy
  have e:c g=sg n fun k=>(if 2*k=g then c (2*k)else 0)+(if 2*k+1=g then c (2*k+1)else 0):=by
   rw[cg]
   by_cases p:g%2=0
   ·rw[show sg n (fun k=>if 2*k+1=g then c (2*k+1)else 0)=0 from bS fun k _=>ME (by omega),aJ (h:=fun k=>if k=g/2 then c (2*k)else 0) fun k _=>?_,cS (fun k=>c (2*k)),MF (by omega),show 2*(g/2)=g by omega]
    ·omega
    ·by_cases e:k=g/2
     ·rw[MF e,MF (by omega)]
     ·rw[ME e,ME (by omega)]
   ·rw[show sg n (fun k=>if 2*k=g then c (2*k)else 0)=0 from bS fun k _=>ME (by omega),aJ (h:=fun k=>if k=g/2 then c (2*k+1)else 0) fun k _=>?_,cS (fun k=>c (2*k+1)),MF (by omega),show 2*(g/2)+1=g by omega]
    ·omega
    ·by_cases e:k=g/2
     ·rw[MF e,MF (by omega)]
     ·rw[ME e,ME (by omega)]
  rw[e,<-cg]
  refine aJ fun k _=>?_
  have m:∀x:Nat,(x∈g::r)↔(x=g)\/x∈r:=fun x=>Jv
  have f:∀x:Nat,¬(x=g/\x∈r):=fun x d=>by obtain⟨a,b⟩:=d;exact(nd.1 (a▸b))
  rw[ji (m (2*k)) (f (2*k)),ji (m (2*k+1)) (f (2*k+1))]
  omega
def dR(r:List Nat)(k:Nat):Int:=(if 2*k∈r then 1 else 0)-(if 2*k+1∈r then 1 else 0)
theorem xP(r:List Nat)(k:Nat)(x:Int):(if 2*k∈r then x else 0)+(if 2*k+1∈r then -x else 0)=dR r k*x:=by unfold dR;split<;>split<;>first|(simp;done)|(simp;omega)
section
variable{ws:List Wl}(hU:∀w∈ws,NO w)(hF:PF ws){f:Nat}(hf:f<2*ws.length){r:List Nat}(R:dE ws f r)
include hU hF hf R
theorem cQ:∀g∈r,g<2*ws.length:=fun g a=>by obtain⟨k,n,e,rfl⟩:=R;obtain⟨i,_,rfl⟩:=eK.mp a;exact cE hU hF hf i
theorem pg:r.Nodup:=by obtain⟨k,n,e,rfl⟩:=R;exact yI n
theorem iQ:∀g∈r,bh ws g∈r:=fun g a=>by
 obtain⟨k,n,e,rfl⟩:=R;obtain⟨i,hi,rfl⟩:=eK.mp a;by_cases h:i=k
 ·subst h;rw[e];exact eK.mpr ⟨0,by omega,rfl⟩
 ·exact eK.mpr ⟨i+1,by omega,rfl⟩
theorem cP:f∈r:=by obtain⟨k,n,e,rfl⟩:=R;exact eK.mpr ⟨0,by omega,rfl⟩
theorem jJ(φ:Vc->Int):sg ws.length (fun k=>dR r k*(φ (fb ws (2*k))-φ (fa ws (2*k))))=0:=by
 have nd:=pg hU hF hf R;have lt:=cQ hU hF hf R;have key:=iT (fun g=>φ (fb ws g)-φ (fa ws g)) r nd lt
 have z:(r.map fun g=>φ (fb ws g)-φ (fa ws g)).sum=0:=by
  obtain⟨k,n,e,rfl⟩:=R
  have key:∀k,((rn ws f k).map fun g=>φ (fb ws g)-φ (fa ws g)).sum=φ (fb ws (Nf ws f k))-φ (fa ws f):=fun k=>by
   induction k with
   |zero=>rw[uc];simp only[J5,KA,K7,List.sum_nil,Int.add_zero];rfl
   |succ k a=>
    rw[n8,Jk,List.sum_append,a]
    simp only[J5,KA,K7,List.sum_nil]
    have:fa ws (Nf ws f (k+1))=fb ws (Nf ws f k):=gv hU hF (cE hU hF hf k)
    rw[this]
    omega
  rw[key,<-gv hU hF (cE hU hF hf k),e]
  omega
 rw[z]at key;rw[key];refine aJ fun k _=>?_;have e2:fx (2*k)=2*k+1:=by unfold fx;rw[MF (by omega)]
 rw[<-e2,cZ,nB,e2,<-xP,Int.neg_sub]
theorem sW(k:Nat):la (fb ws (2*k)).1 (fb ws (2*k)).2=l2 (wn ws k):=by unfold fb;rw[fM];rfl
theorem bU:Flow ws (dR r):=fun t=>by
 have h:=jJ hU hF hf R fun c=>if la c.1 c.2=t then 1 else 0;have e:=aJ (n:=ws.length) (g:=fun k=>dR r k*((if la (fb ws (2*k)).1 (fb ws (2*k)).2=t then 1 else 0)-(if la (fa ws (2*k)).1 (fa ws (2*k)).2=t then 1 else 0))) (h:=fun k=>(if l2 (wn ws k)=t then dR r k else 0)-(if l1 (wn ws k)=t then dR r k else 0)) fun k a=>by rw[b8,sW hU hF hf R];split<;>split<;>simp
 rw[e,eB]at h;omega
theorem dP{d:Nat->Int}(b:Flow ws d){g:Nat}(a:g∈r):Pf ws d g=Pf ws d f:=by
 obtain⟨k,n,e,rfl⟩:=R;obtain⟨i,hi,rfl⟩:=eK.mp a;clear hi a
 induction i with
 |zero=>rfl
 |succ i c=>rw[<-c];exact B3 hU hF b (cE hU hF hf i)
end
def xi(w:Wl)(t:Int):Rat:=(Nm w (2*t+1):Rat)/(lam w:Rat)
theorem bj{z:Int}(h:0<z):(0:Rat)<(z:Rat):=by exact_mod_cast h
theorem He{U V:Wl}(a:NO U)(b:NO V){t:Int}:xi U t<xi V t↔0<Gh U V (2*t+1):=by
 have c:0<lam U:=by have:=a.lt;unfold lam;omega
 have d:0<lam V:=by have:=b.lt;unfold lam;omega
 unfold xi Gh;have e1:(Nm U (2*t+1):Rat)/(lam U:Rat)=Rat.divInt (Nm U (2*t+1)) (lam U):=(Mk ..).symm;have e2:(Nm V (2*t+1):Rat)/(lam V:Rat)=Rat.divInt (Nm V (2*t+1)) (lam V):=(Mk ..).symm;rw[e1,e2,Ma.nE c d];omega
theorem dC{U V:Wl}(a:NO U)(b:NO V)(F:Na U V){t:Int}(e:sp U t=MC)(f:sp V t=MC):NT U V=MC↔xi U t<xi V t:=by
 rw[aY]at e f;have c:max (l1 U) (l1 V)<min (l2 U) (l2 V):=c9.mpr ⟨by omega,by omega,by omega,by omega⟩;have d:=c;rw[Int.max_comm,Int.min_comm]at d;rw[He a b];constructor
 ·exact qx a b F c (Rv.mpr ⟨by omega,by omega⟩) (Rw.mpr ⟨by omega,by omega⟩)
 ·intro g;cases z:NT U V with
  |true=>rfl
  |false=>
   have n:=jh a b F c
   rw[z]at n
   have h:=qx (t:=2*t+1) b a F.swap d (Rv.mpr ⟨by omega,by omega⟩) (Rw.mpr ⟨by omega,by omega⟩) n
   rw[vb]at h
   omega
theorem BZ{U V:Wl}(b:NO U)(d:NO V)(F:Na U V){t:Int}(f:sp U t=MC)(g:sp V t=MC):xi U t≠xi V t:=fun e=>by
 have a:¬NT U V=MC:=fun z=>by have:=(dC b d F f g).mp z;rw[e]at this;exact Rat.lt_irrefl this
 have c:¬NT V U=MC:=fun z=>by have:=(dC d b F.swap g f).mp z;rw[e]at this;exact Rat.lt_irrefl this
 rw[aY]at f g;rw[jh b d F (c9.mpr ⟨by omega,by omega,by omega,by omega⟩)]at c;cases z:NT U V<;>simp_all
theorem oC(q:Nat->Rat):∀l:List Nat,l≠[]->∃m∈l,∀x∈l,q x<=q m
 |[],h=>absurd rfl h
 |[a],_=>⟨a,by simp,fun x c=>by rw[JT.mp c];exact Rat.le_refl⟩
 |a::b::l,_=>by
  obtain⟨m,d,h⟩:=oC q (b::l) (by simp)
  rcases Rat.le_total (a:=q a) (b:=q m)with z|z
  ·exact⟨m,Jn _ d,fun x c=>(Jv.mp c).elim (fun e=>e▸z) (h x)⟩
  ·exact⟨a,Jy,fun x c=>(Jv.mp c).elim (fun e=>e▸Rat.le_refl) fun c=>Rat.le_trans (h x c) z⟩
theorem sL(q:Nat->Int):∀l:List Nat,l≠[]->∃m∈l,∀x∈l,q m<=q x
 |[],h=>absurd rfl h
 |[a],_=>⟨a,by simp,fun x c=>by rw[JT.mp c];exact Int.le_refl _⟩
 |a::b::l,_=>by
  obtain⟨m,d,h⟩:=sL q (b::l) (by simp)
  by_cases z:q m<=q a
  ·exact⟨m,Jn _ d,fun x c=>(Jv.mp c).elim (fun e=>e▸z) (h x)⟩
  ·exact⟨a,Jy,fun x c=>(Jv.mp c).elim (fun e=>e▸Int.le_refl _) fun c=>by have:=h x c;omega⟩
structure RA(ws:List Wl)(r:List Nat)(t:Int)(k:Nat):Prop where
 k1:k<ws.length
 e:l1 (wn ws k)=t
 m:2*k∈r\/2*k+1∈r
 ge:∀j,2*j∈r\/2*j+1∈r->t<=l1 (wn ws j)
 low:∀j,2*j∈r\/2*j+1∈r->l1 (wn ws j)=t->NT (wn ws k) (wn ws j)=MD
section
variable{ws:List Wl}(hU:∀w∈ws,NO w)(hF:PF ws){f:Nat}(hf:f<2*ws.length){r:List Nat}(R:dE ws f r)
include hU hF hf R
theorem my:∃t k,RA ws r t k/\∃g∈r,tf ws g=t/\∀h∈r,t<=tf ws h:=by
 have ne:r≠[]:=Ks (cP hU hF hf R);obtain⟨g,c,mn⟩:=sL (tf ws) r ne
 have ge:∀j,2*j∈r\/2*j+1∈r->tf ws g<=l1 (wn ws j):=fun j h=>by
  rcases h with h|h
  ·have:=mn _ h;unfold tf at this;rw[b8]at this;exact this
  ·have:=mn _ (iQ hU hF hf R _ h);unfold tf at this;rw[gv hU hF (cQ hU hF hf R _ h)]at this;have e2:fx (2*j)=2*j+1:=by unfold fx;rw[MF (by omega)]
   rw[<-e2,nB,b8]at this;exact this
 have m:((J6 ws.length).filter fun j=>decide ((2*j∈r\/2*j+1∈r)/\l1 (wn ws j)=tf ws g))≠[]:=by
  have lt:=cQ hU hF hf R g c
  refine Ks (a:=g/2) ?_
  rw[Jm,Jq,ML]
  refine⟨by omega,?_⟩
  rcases K6 g with h|h
  ·have e:2*(g/2)=g:=by omega
   refine⟨.inl (by rw[e];exact c),?_⟩;unfold tf;rw[<-b8,e]
  ·exfalso;have e:2*(g/2)+1=g:=by omega
   have q:=ge (g/2) (.inr (by rw[e];exact c));have l:=(aR hU (show g/2<ws.length by omega)).lt;have w:tf ws g=l2 (wn ws (g/2)):=by unfold tf;rw[<-kT,e]
   omega
 obtain⟨k,b,n⟩:=oC (fun j=>xi (wn ws j) (tf ws g)) _ m;rw[Jm,Jq,ML]at b;refine⟨tf ws g,k,⟨b.1,b.2.2,b.2.1,ge,fun j i o=>?_⟩,g,c,rfl,mn⟩;have d:j<ws.length:=by rcases i with h|h<;>(have:=cQ hU hF hf R _ h;omega)
 by_cases ne:k=j
 ·subst ne;exact cV (aR hU d)
 ·have K:=aR hU b.1;have J:=aR hU d;have p:=K.lt;have s:=J.lt;have q:=n j (by rw[Jm,Jq,ML];exact⟨d,i,o⟩);cases z:NT (wn ws k) (wn ws j)with
  |false=>rfl
  |true=>
   have:=(dC K J (bA hF b.1 d ne) (t:=tf ws g) (aY.mpr ⟨by omega,by omega⟩) (aY.mpr ⟨by omega,by omega⟩)).mp z
   exact absurd this (Rat.not_lt.mpr q)
theorem zo{t:Int}{k:Nat}(L:RA ws r t k):Bw ws (dR r) k=0:=by
 unfold Bw Om;refine bS fun j b=>?_;by_cases m:2*j∈r\/2*j+1∈r
 ·have ge:=L.ge j m;rw[L.e];refine ME fun q=>?_;rw[JV,aY]at q;have:=L.low j m (by omega);have a:NT (wn ws k) (wn ws j)=MC:=q.2;rw[this]at a;cases a
 ·have:dR r j=0:=by unfold dR;rw[ME fun z=>m (.inl z),ME fun z=>m (.inr z)];rfl
  rw[this];split<;>rfl
theorem ou{t:Int}{k:Nat}(L:RA ws r t k):(2*k+1∈r/\Pf ws (dR r) f=0)\/(2*k+1∉r/\2*k∈r/\Pf ws (dR r) f=1):=by
 have a:=bU hU hF hf R;have z:=zo hU hF hf R L;by_cases h:2*k+1∈r
 ·left;refine⟨h,?_⟩;rw[<-dP hU hF hf R a h,iy,z]
 ·right;have m:=L.m.resolve_right h;refine⟨h,m,?_⟩;rw[<-dP hU hF hf R a m,gW,z];unfold dR;rw[MF m,ME h];rfl
end
def sq:Nat->(Nat->Rat)->Rat
 |0,_=>0
 |n+1,g=>sq n g+g n
theorem fv{g h:Nat->Rat}:∀{n:Nat},(∀k,k<n->g k=h k)->sq n g=sq n h
 |0,_=>rfl
 |n+1,e=>by rw[sq,sq,fv fun k a=>e k (by omega),e n (by omega)]
theorem zy(g h:Nat->Rat):∀n,sq n (fun k=>g k+h k)=sq n g+sq n h
 |0=>by rw[sq,sq,sq,Rat.add_zero]
 |n+1=>by rw[sq,sq,sq,zy g h n];grind
theorem yx(c:Rat)(g:Nat->Rat):∀n,sq n (fun k=>c*g k)=c*sq n g
 |0=>by rw[sq,sq,Rat.mul_zero]
 |n+1=>by rw[sq,sq,yx c g n];grind
theorem t6:∀n,sq n (fun _=>0)=0
 |0=>rfl
 |n+1=>by rw[sq,t6 n,Rat.add_zero]
theorem u5(g:Nat->Nat->Rat)(m:Nat):∀n,sq n (fun k=>sq m (g k))=sq m fun t=>sq n fun k=>g k t
 |0=>by rw[sq];exact(t6 m).symm
 |n+1=>by
  rw[sq,u5 g m n,<-zy]
  rfl
theorem ku(g:Nat->Int):∀n,((sg n g:Int):Rat)=sq n fun k=>((g k:Int):Rat)
 |0=>rfl
 |n+1=>by rw[sg,sq,Ld,ku g n]
theorem sq_nonneg{g:Nat->Rat}:∀{n:Nat},(∀k,k<n->0<=g k)->0<=sq n g
 |0,_=>Rat.le_refl
 |n+1,h=>by
  have a:=sq_nonneg (g:=g) (n:=n) fun k c=>h k (by omega)
  have b:=h n (by omega)
  rw[sq]
  exact Rat.add_nonneg a b
theorem sq_pos{g:Nat->Rat}{j:Nat}(p:0<g j):∀{n:Nat},j<n->(∀k,k<n->0<=g k)->0<sq n g
 |0,hj,_=>absurd hj (by omega)
 |n+1,hj,h=>by
  rw[sq]
  by_cases e:j=n
  ·subst e
   have a:=sq_nonneg (g:=g) (n:=j) fun k c=>h k (by omega)
   grind
  ·have a:=sq_pos p (n:=n) (by omega) fun k c=>h k (by omega)
   have b:=h n (by omega)
   grind
theorem ki(p:Nat->Bool)(g:Nat->Rat):∀n,(((J6 n).filter p).map g).sum=sq n fun k=>if p k=MC then g k else 0
 |0=>rfl
 |n+1=>by
  rw[KW,LW,Jk,List.sum_append,ki p g n,sq]
  congr 1
  by_cases h:p n=MC
  ·rw[MF h];simp[h,Rat.add_zero]
  ·rw[ME h];simp[h]
theorem zT{l c:List Nat}(h:l.Perm c)(g:Nat->Rat):(l.map g).sum=(c.map g).sum:=by
 induction h with
 |nil=>rfl
 |cons x _ d=>rw[J5,J5,K7,K7,d]
 |swap x y l=>simp only[J5,K7];grind
 |trans _ _ a b=>rw[a,b]
theorem gP(d q:Nat->Rat)(c a:Rat):∀l:List Nat,(l.map fun x=>d x*(q x-c)).sum=(l.map fun x=>d x*(q x-a)).sum+(l.map d).sum*(a-c)
 |[]=>by simp;grind
 |x::l=>by
  simp only[J5,K7]
  rw[gP d q c a l]
  grind
theorem C0(d q:Nat->Rat):∀(m:Nat) (l:List Nat),l.length=m->l.Nodup->(∀x∈l,∀y∈l,q x=q y->x=y)->(∀x∈l,0<=(l.map fun y=>if q x<=q y then d y else 0).sum)->∀c,(∀x∈l,c<q x)->
 0<=(l.map fun x=>d x*(q x-c)).sum/\∀x∈l,0<(l.map fun y=>if q x<=q y then d y else 0).sum->0<(l.map fun x=>d x*(q x-c)).sum
 |0,l,e,_,_,_,c,_=>by
  rw[Lu.mp e]
  exact⟨Rat.le_refl,fun x b=>by cases b⟩
 |m+1,l,e,nd,inj,A,c,hc=>by
  obtain⟨a,j,p⟩:=oC (fun x=>-q x) l (fun z=>by rw[z]at e;cases e)
  have mn:∀x∈l,q a<=q x:=fun x b=>by have:=p x b;grind
  have P:=List.perm_cons_erase j
  have k:∀g:Nat->Rat,(l.map g).sum=g a+((l.erase a).map g).sum:=fun g=>by rw[zT P g,J5,K7]
  have sub:∀x∈l.erase a,x∈l/\q a<q x:=fun x b=>by
   have f:=List.mem_of_mem_erase b
   have ne:x≠a:=fun z=>by subst z;exact nd.not_mem_erase b
   have r:q a≠q x:=fun z=>ne (inj x f a j z.symm)
   have:=mn x f
   exact⟨f,by grind⟩
  have i:∀x∈l.erase a,(l.map fun y=>if q x<=q y then d y else 0).sum=((l.erase a).map fun y=>if q x<=q y then d y else 0).sum:=fun x b=>by
   rw[k,ME (Rat.not_le.mpr (sub x b).2),Rat.zero_add]
  have all:(l.map fun y=>if q a<=q y then d y else 0).sum=(l.map d).sum:=by
   congr 1
   exact La fun y n=>MF (mn y n)
  have D:=A a j
  rw[all]at D
  obtain⟨s,t⟩:=C0 d q m (l.erase a) (by rw[List.length_erase_of_mem j];omega) (nd.erase a) (fun x b y n=>inj x (sub x b).1 y (sub y n).1) (fun x b=>by rw[<-i x b];exact A x (sub x b).1) (q a) fun x b=>(sub x b).2
  have e1:(l.map fun x=>d x*(q x-c)).sum=((l.erase a).map fun x=>d x*(q x-q a)).sum+(l.map d).sum*(q a-c):=by
   rw[gP d q c (q a),k fun x=>d x*(q x-q a)]
   grind
  have o:0<q a-c:=by have:=hc a j;grind
  rw[e1]
  refine⟨Rat.add_nonneg s (Rat.mul_nonneg D (Rat.le_of_lt o)),fun x b h=>?_⟩
  by_cases ex:x=a
  ·subst ex
   rw[all]at h
   have:=LK h o
   grind
  ·have f:x∈l.erase a:=(List.mem_erase_of_ne ex).mpr b
   rw[i x f]at h
   have:=t x f h
   have:=Rat.mul_nonneg D (Rat.le_of_lt o)
   grind
theorem lH(q:Nat->Rat):∀l:List Nat,∃c,∀x∈l,c<q x
 |[]=>⟨0,fun x b=>by cases b⟩
 |a::l=>by
  obtain⟨c,h⟩:=lH q l
  refine⟨min c (q a)-1,fun x b=>?_⟩
  have d:min c (q a)<=c:=by rw[Rat.min_def];split<;>grind
  have f:min c (q a)<=q a:=by rw[Rat.min_def];split<;>grind
  rcases Jv.mp b with e|e
  ·subst e;grind
  ·have:=h x e;grind
def gj(w:Wl)(j:Int):Rat:=2*(w.1:Rat)*(j:Rat)+(j:Rat)*(j:Rat)*(((w.2.2.1-w.1:Int):Rat)/(lam w:Rat))
theorem Bp{w:Wl}(h:0<lam w){t:Int}{j:Int}(e:t=l1 w+j):gj w (j+1)=gj w j+xi w t:=by
 have d:(lam w:Rat)≠0:=by have:=bj h;grind
 have ex:xi w t=2*(w.1:Rat)+(2*(j:Rat)+1)*(((w.2.2.1-w.1:Int):Rat)/(lam w:Rat)):=by
  unfold xi Nm
  rw[e,show 2*(l1 w+j)+1-2*l1 w=2*j+1 by omega,Ld,JR,JR,JR,Ld,JR]
  have a:((2:Int):Rat)=2:=rfl
  have b:((1:Int):Rat)=1:=rfl
  rw[a,b,Rat.div_def,Rat.div_def]
  have c:(lam w:Rat)*(lam w:Rat)⁻¹=1:=Rat.mul_inv_cancel _ d
  grind
 rw[ex];unfold gj;rw[Ld];have b:((1:Int):Rat)=1:=rfl;rw[b];grind
theorem GA{w:Wl}(hw:NO w):∀m:Nat,sq m (fun t=>if sp w (t:Int)=MC then xi w (t:Int)else 0)=gj w (if(m:Int)<=l1 w then 0 else if(m:Int)<=l2 w then(m:Int)-l1 w else lam w)
 |0=>by
  have:(((0:Nat):Int)<=l1 w):=by have:=hw.a;have:=hw.b;unfold l1 la;omega
  rw[MF this,sq]
  unfold gj
  have a:((0:Int):Rat)=0:=rfl
  rw[a];grind
 |m+1=>by
  have g:=hw.lt
  have f:0<lam w:=by unfold lam;omega
  rw[sq,GA hw m]
  by_cases d:((m+1:Nat):Int)<=l1 w
  ·rw[MF (show((m:Nat):Int)<=l1 w by omega),MF d,ME (by rw[aY];omega),Rat.add_zero]
  ·by_cases e:((m+1:Nat):Int)<=l2 w
   ·have s:sp w ((m:Nat):Int)=MC:=aY.mpr ⟨by omega,by omega⟩
    rw[MF s,ME d,MF e]
    have st:=Bp f (t:=(m:Int)) (j:=(m:Int)-l1 w) (by omega)
    rw[show((m+1:Nat):Int)-l1 w=(m:Int)-l1 w+1 by omega,st]
    congr 2
    by_cases c:((m:Nat):Int)<=l1 w
    ·rw[MF c];omega
    ·rw[ME c,MF (by omega)]
   ·rw[ME (show ¬((m:Nat):Int)<=l1 w by omega),ME d,ME e,ME (show ¬sp w ((m:Nat):Int)=MC by rw[aY];omega),Rat.add_zero]
    congr 1
    by_cases c:((m:Nat):Int)<=l2 w
    ·rw[MF c];unfold lam;omega
    ·rw[ME c]
theorem za{w:Wl}(hw:NO w){N:Nat}(h:l2 w<=N):sq N (fun t=>if sp w (t:Int)=MC then xi w (t:Int)else 0)=(((w.1+w.2.2.1)*lam w:Int):Rat):=by
 have d:=hw.lt;have a:0<lam w:=by unfold lam;omega
 have b:(lam w:Rat)≠0:=by have:=bj a;grind
 rw[GA hw N,ME (by omega)]
 have e:(if(N:Int)<=l2 w then(N:Int)-l1 w else lam w)=lam w:=by
  split
  ·unfold lam;omega
  ·rfl
 rw[e];unfold gj;rw[JR,Ld,Lz,Rat.div_def];have c:(lam w:Rat)*(lam w:Rat)⁻¹=1:=Rat.mul_inv_cancel _ b;grind
section
variable{ws:List Wl}(hU:∀w∈ws,NO w)(hF:PF ws){f:Nat}(hf:f<2*ws.length){r:List Nat}(R:dE ws f r)
def lt'(ws:List Wl)(r:List Nat)(t:Int):List Nat:=(J6 ws.length).filter fun k=>sp (wn ws k) t&&decide (dR r k≠0)
theorem k6{t:Int}{k:Nat}:k∈lt' ws r t↔k<ws.length/\sp (wn ws k) t=MC/\dR r k≠0:=by unfold lt';rw[Jm,Jq,JV,ML]
include hU hF in
theorem xN{t:Int}:∀x∈lt' ws r t,∀y∈lt' ws r t,xi (wn ws x) t=xi (wn ws y) t->x=y:=fun x a y b e=>K3 fun ne=>by obtain⟨x1,c,_⟩:=k6.mp a;obtain⟨y1,d,_⟩:=k6.mp b;exact BZ (aR hU x1) (aR hU y1) (bA hF x1 y1 ne) c d e
include hU hF hf R in
theorem oy{t:Int}{x:Nat}(g:x∈lt' ws r t):((lt' ws r t).map fun y=>if xi (wn ws x) t<=xi (wn ws y) t then(dR r y:Rat)else 0).sum=((Bw ws (dR r) x+dR r x:Int):Rat):=by
 obtain⟨x1,c,h⟩:=k6.mp g;have one:dR r x=sg ws.length (fun k=>if k=x then dR r k else 0):=by rw[cS,MF x1]
 rw[<-lF hU hF (bU hU hF hf R) x1 c,one];unfold Om lt';rw[<-cg,ku,ki];refine fv fun k d=>?_;show _=(((if(sp (wn ws k) t&&NT (wn ws x) (wn ws k))=MC then dR r k else 0)+(if k=x then dR r k else 0):Int):Rat);by_cases e:k=x
 ·subst e;rw[c,MI h,cV (aR hU d),MF (show(MC&&MC)=MC from rfl),MF Rat.le_refl,MF rfl,ME (show ¬(MC&&MD)=MC by decide),Int.zero_add]
 ·rw[ME e,Int.add_zero];by_cases s:sp (wn ws k) t=MC
  ·rw[s,L6,L6];by_cases z:dR r k=0
   ·rw[MG (fun q=>q z),ME (by decide),z];split<;>rfl
   ·rw[MI z,MF rfl];have F:=bA hF x1 d (fun q=>e q.symm);have a:=dC (aR hU x1) (aR hU d) F c s;have b:=BZ (aR hU x1) (aR hU d) F c s;by_cases q:xi (wn ws x) t<=xi (wn ws k) t
    ·rw[MF q,MF (a.mpr (by grind))]
    ·rw[ME q,ME fun y=>q (Rat.le_of_lt (a.mp y))];rfl
  ·have i:sp (wn ws k) t=MD:=by simpa using s
   rw[i,K5,K5,ME (by decide),ME (by decide)];rfl
include hU hF hf R in
theorem xU(t:Int):((lt' ws r t).map fun y=>(dR r y:Rat)).sum=0:=by
 have h:=Ba hU (bU hU hF hf R) t;unfold Om at h
 have a:((sg ws.length (fun k=>if(sp (wn ws k) t&&MC)=MC then dR r k else 0):Int):Rat)=0:=by
  have h:sg ws.length (fun k=>if(sp (wn ws k) t&&MC)=MC then dR r k else 0)=0:=h
  rw[h];rfl
 rw[ku]at a;unfold lt';rw[ki];refine Eq.trans (fv fun k c=>?_) a;rw[Mr];by_cases s:sp (wn ws k) t=MC
 ·rw[s,L6,MF rfl];by_cases z:dR r k=0
  ·rw[MG (fun q=>q z),ME (by decide),z];rfl
  ·rw[MI z,MF rfl]
 ·have b:sp (wn ws k) t=MD:=by simpa using s
  rw[b,K5,ME (by decide)];rfl
include hU hF hf R in
theorem rZ:(((r.map (Nc ws)).sum:Int):Rat)=sq 3000 fun t=>((lt' ws r (t:Int)).map fun k=>(dR r k:Rat)*xi (wn ws k) (t:Int)).sum:=by
 have nd:=pg hU hF hf R;have lt:=cQ hU hF hf R
 have a:∀k,Nc ws (2*k+1)=-Nc ws (2*k):=fun k=>by
  have e2:fx (2*k)=2*k+1:=by unfold fx;rw[MF (by omega)]
  unfold Nc
  rw[<-e2,cZ,nB]
  omega
 have z:=jJ hU hF hf R fun c=>c.1*la c.1 c.2;rw[iT (Nc ws) r nd lt,aJ (h:=fun k=>dR r k*((wn ws k).1+(wn ws k).2.2.1)*lam (wn ws k)-dR r k*((fb ws (2*k)).1*la (fb ws (2*k)).1 (fb ws (2*k)).2-(fa ws (2*k)).1*la (fa ws (2*k)).1 (fa ws (2*k)).2)) fun k e=>?_,eB,z,Int.sub_zero,ku]
 ·rw[fv (h:=fun k=>sq 3000 fun t=>(dR r k:Rat)*(if sp (wn ws k) (t:Int)=MC then xi (wn ws k) (t:Int)else 0)) fun k e=>?_,u5]
  ·refine fv fun t _=>?_;unfold lt';rw[ki];refine fv fun k _=>?_;by_cases s:sp (wn ws k) (t:Int)=MC
   ·rw[s,L6,MF rfl];by_cases z:dR r k=0
    ·rw[MG (fun q=>q z),ME (by decide),z];exact Rat.zero_mul _
    ·rw[MI z,MF rfl]
   ·have g:sp (wn ws k) (t:Int)=MD:=by simpa using s
    rw[g,K5,ME (by decide),ME (by decide),Rat.mul_zero]
  ·have W:=aR hU e;have b:l2 (wn ws k)<=((3000:Nat):Int):=by have:=W.c;have:=W.d;unfold l2 la;omega
   rw[yx,za W b,Int.mul_assoc,JR]
 ·rw[a,xP];unfold Nc fa fb;rw[fM];unfold lam l1 l2 la;grind
include hU hF hf R in
theorem DR{t:Int}{x:Nat}(d:x∈lt' ws r t):(dR r x=1/\Bw ws (dR r) x+dR r x=Pf ws (dR r) f)\/(dR r x=-1/\Bw ws (dR r) x+dR r x=Pf ws (dR r) f-1):=by
 obtain⟨x1,g,b⟩:=k6.mp d;have c:=bU hU hF hf R;by_cases m:2*x∈r
 ·have a:2*x+1∉r:=fun z=>b (by unfold dR;rw[MF m,MF z];rfl);left;refine⟨by unfold dR;rw[MF m,ME a];rfl,?_⟩;rw[<-dP hU hF hf R c m,gW]
 ·have a:2*x+1∈r:=K3 fun z=>b (by unfold dR;rw[ME m,ME z];rfl);have e:dR r x=-1:=by unfold dR;rw[ME m,MF a];rfl
  right;refine⟨e,?_⟩;rw[<-dP hU hF hf R c a,iy,e];rfl
theorem CD{t:Int}:(lt' ws r t).Nodup:=by unfold lt';exact Mm _ LN
include hU hF hf R in
theorem uS{t:Int}(a:Pf ws (dR r) f=1):0<=((lt' ws r t).map fun k=>(dR r k:Rat)*xi (wn ws k) t).sum/\∀x∈lt' ws r t,dR r x=1->0<((lt' ws r t).map fun k=>(dR r k:Rat)*xi (wn ws k) t).sum:=by
 obtain⟨c,d⟩:=lH (fun k=>xi (wn ws k) t) (lt' ws r t)
 have A:∀x∈lt' ws r t,0<=((lt' ws r t).map fun y=>if xi (wn ws x) t<=xi (wn ws y) t then(dR r y:Rat)else 0).sum:=fun x b=>by
  rw[oy hU hF hf R b]
  have:=DR hU hF hf R b
  have p:0<=Bw ws (dR r) x+dR r x:=by omega
  exact_mod_cast p
 have key:=C0 (fun k=>(dR r k:Rat)) (fun k=>xi (wn ws k) t) _ (lt' ws r t) rfl CD (xN hU hF) A c d;have e:=gP (fun k=>(dR r k:Rat)) (fun k=>xi (wn ws k) t) c 0 (lt' ws r t);rw[xU hU hF hf R t,Rat.zero_mul,Rat.add_zero]at e
 have g:((lt' ws r t).map fun k=>(dR r k:Rat)*xi (wn ws k) t).sum=((lt' ws r t).map fun k=>(dR r k:Rat)*(xi (wn ws k) t-c)).sum:=by
  rw[e]
  congr 1
  exact La fun k _=>by grind
 rw[g];refine⟨key.1,fun x b h=>key.2 x b ?_⟩;rw[oy hU hF hf R b];have:=DR hU hF hf R b;have p:0<Bw ws (dR r) x+dR r x:=by omega
 exact_mod_cast p
include hU hF hf R in
theorem wx{t:Int}(a:Pf ws (dR r) f=0):((lt' ws r t).map fun k=>(dR r k:Rat)*xi (wn ws k) t).sum<=0:=by
 obtain⟨c,d⟩:=lH (fun k=>xi (wn ws k) t) (lt' ws r t)
 have neg:∀(g:Nat->Rat) (l:List Nat),(l.map fun x=>-g x).sum=-(l.map g).sum:=fun g l=>by
  induction l with
  |nil=>rfl
  |cons x l h=>simp only[J5,K7];rw[h];grind
 have A:∀x∈lt' ws r t,0<=((lt' ws r t).map fun y=>if xi (wn ws x) t<=xi (wn ws y) t then -(dR r y:Rat)else 0).sum:=fun x b=>by
  have e:((lt' ws r t).map fun y=>if xi (wn ws x) t<=xi (wn ws y) t then -(dR r y:Rat)else 0).sum=-((lt' ws r t).map fun y=>if xi (wn ws x) t<=xi (wn ws y) t then(dR r y:Rat)else 0).sum:=by
   rw[<-neg]
   congr 1
   exact La fun y _=>by split<;>grind
  rw[e,oy hU hF hf R b]
  have:=DR hU hF hf R b
  have p:Bw ws (dR r) x+dR r x<=0:=by omega
  have p:((Bw ws (dR r) x+dR r x:Int):Rat)<=0:=by exact_mod_cast p
  grind
 have key:=(C0 (fun k=>-(dR r k:Rat)) (fun k=>xi (wn ws k) t) _ (lt' ws r t) rfl CD (xN hU hF) A c d).1;have e:=gP (fun k=>-(dR r k:Rat)) (fun k=>xi (wn ws k) t) c 0 (lt' ws r t);rw[neg,xU hU hF hf R t]at e
 have i:-((lt' ws r t).map fun k=>(dR r k:Rat)*xi (wn ws k) t).sum=((lt' ws r t).map fun k=>-(dR r k:Rat)*(xi (wn ws k) t-0)).sum:=by
  rw[<-neg]
  congr 1
  exact La fun k _=>by grind
 rw[e,<-i]at key;grind
include hU hF hf R in
theorem kL:decide (0<(r.map (Nc ws)).sum)=decide (Pf ws (dR r) f=1):=by
 obtain⟨t,k,L,_⟩:=my hU hF hf R;have c:=rZ hU hF hf R;rw[MK];rcases ou hU hF hf R L with⟨_,a⟩|⟨d,m,a⟩
 ·rw[a];constructor
  ·intro h;exfalso;have h:(0:Rat)<(((r.map (Nc ws)).sum:Int):Rat):=bj h;rw[c]at h
   have n:∀n:Nat,sq n (fun t=>((lt' ws r (t:Int)).map fun k=>(dR r k:Rat)*xi (wn ws k) (t:Int)).sum)<=0:=fun n=>by
    induction n with
    |zero=>exact Rat.le_refl
    |succ n l=>
     rw[sq]
     have:=wx hU hF hf R (t:=(n:Int)) a
     grind
   exact absurd h (Rat.not_lt.mpr (n 3000))
  ·intro h;cases h
 ·rw[a];refine⟨fun _=>rfl,fun _=>?_⟩;have W:=aR hU L.k1
  have t0:0<=t/\t<3000:=by
   have:=W.a;have:=W.b;have e:=L.e
   unfold l1 la at e
   omega
  have g:k∈lt' ws r t:=k6.mpr ⟨L.k1,aY.mpr ⟨by have:=L.e;omega,by have:=L.e;have:=W.lt;omega⟩,by unfold dR;rw[MF m,ME d];decide⟩;have i:dR r k=1:=by unfold dR;rw[MF m,ME d];rfl
  have p:(0:Rat)<(((r.map (Nc ws)).sum:Int):Rat):=by rw[c];refine sq_pos (j:=t.toNat) ?_ (by omega) fun n _=>(uS hU hF hf R a).1;rw[show((t.toNat:Nat):Int)=t by omega];exact(uS hU hF hf R a).2 k g i
  exact_mod_cast p
end
theorem wM{ws:List Wl}(i:∀w∈ws,NO w)(hF:PF ws){r c:List Nat}{t t':Int}{k g:Nat}(f:∀j,2*j∈c\/2*j+1∈c->j<ws.length)(L:RA ws r t k)(d:RA ws c t' g)(le:t<=t')(bl:t=t'->k≠g/\NT (wn ws g) (wn ws k)=MC):Bw ws (dR c) k=0/\dR c k=0:=by
 have y:∀j,2*j∈c\/2*j+1∈c->sp (wn ws j) t=MC->NT (wn ws k) (wn ws j)=MC->False:=fun j m s a=>by
  rw[aY]at s
  have ge:=d.ge j m
  have l:t=t':=by omega
  obtain⟨ne,b⟩:=bl l
  have K:=aR i L.k1
  have n:=aR i d.k1
  have J:=aR i (f j m)
  have D:=K.lt
  have A:=n.lt
  have B:=L.e
  have C:=d.e
  have p:sp (wn ws k) t=MC:=aY.mpr ⟨by omega,by omega⟩
  have u:sp (wn ws g) t=MC:=aY.mpr ⟨by omega,by omega⟩
  have v:sp (wn ws j) t=MC:=aY.mpr s
  have o:k≠j:=fun z=>by subst z;rw[cV K]at a;cases a
  have x1:=(dC K J (bA hF L.k1 (f j m) o) p v).mp a
  have E:=(dC n K (bA hF d.k1 L.k1 (fun z=>ne z.symm)) u p).mp b
  have h:g≠j:=fun z=>by subst z;grind
  have x:=(dC n J (bA hF d.k1 (f j m) h) u v).mpr (by grind)
  have:=d.low j m (by omega)
  rw[this]at x;cases x
 constructor
 ·unfold Bw Om;refine bS fun j F=>?_;by_cases m:2*j∈c\/2*j+1∈c
  ·refine ME fun q=>?_;rw[JV,L.e]at q;exact y j m q.1 q.2
  ·have:dR c j=0:=by unfold dR;rw[ME fun z=>m (.inl z),ME fun z=>m (.inr z)];rfl
   rw[this];split<;>rfl
 ·have m:¬(2*k∈c\/2*k+1∈c):=fun m=>by
   have ge:=d.ge k m
   have B:=L.e
   have l:t=t':=by omega
   have:=d.low k m (by omega)
   rw[(bl l).2]at this;cases this
  unfold dR;rw[ME fun z=>m (.inl z),ME fun z=>m (.inr z)];rfl
section
variable{ws:List Wl}(hU:∀w∈ws,NO w)(hF:PF ws){f:Nat}(hf:f<2*ws.length){r:List Nat}(R:dE ws f r)
include hU hF hf R
theorem om:∀j,2*j∈r\/2*j+1∈r->j<ws.length:=fun j m=>by rcases m with m|m<;>(have:=cQ hU hF hf R _ m;omega)
theorem oQ{t:Int}{k:Nat}(L:RA ws r t k)(m:2*k+1∈r):∀j,j<ws.length->l1 (wn ws j)=t->NT (wn ws k) (wn ws j)=MD:=fun j d u=>by
 by_cases ne:k=j
 ·subst ne;exact cV (aR hU d)
 ·cases z:NT (wn ws k) (wn ws j)with
  |false=>rfl
  |true=>
   exfalso
   have K:=aR hU L.k1
   have J:=aR hU d
   have v:=L.e
   have F:=bA hF L.k1 d ne
   have x:=cQ hU hF hf R _ m
   have C:=l5 (wn ws k)
   have D:=K.lt
   have e2:fx (2*k+1)=2*k:=by unfold fx;rw[ME (by omega)];omega
   have eb:fb ws (2*k+1)=fa ws (2*k):=by have:=cZ ws (2*k+1);rw[e2]at this;exact this.symm
   have ea:fa ws (2*j)=fb ws (2*k+1):=by rw[eb];exact Cu hU (by omega) (by omega) (by rw[b8,b8,v,u])
   have c:2*j∈gZ ws (2*k+1):=bw.mpr ⟨by omega,ea,by omega⟩
   have A:=jM K J F (by omega)
   rw[A.1,ML]at z
   have b:=iQ hU hF hf R _ m
   rcases fX hU hF x with⟨q,_⟩|⟨b1,o⟩
   ·rw[q]at c;cases c
   ·obtain⟨E,a,g⟩:=bw.mp b1;rw[e2]at g
    have G:bh ws (2*k+1)%2=0:=by
     rcases K6 (bh ws (2*k+1))with h|h
     ·exact h
     ·exfalso;obtain⟨i,l⟩:∃i,bh ws (2*k+1)=2*i+1:=⟨bh ws (2*k+1)/2,by omega⟩;rw[l]at b a;have ge:=L.ge i (.inr b);have H:=(aR hU (om hU hF hf R i (.inr b))).lt;have:la (fa ws (2*i+1)).1 (fa ws (2*i+1)).2=la (fa ws (2*k)).1 (fa ws (2*k)).2:=by rw[a,eb]
      rw[kT,b8]at this;omega
    obtain⟨i,l⟩:∃i,bh ws (2*k+1)=2*i:=⟨bh ws (2*k+1)/2,by omega⟩;rw[l]at b o a g;have hi:=om hU hF hf R i (.inl b);have I:=aR hU hi
    have y:l1 (wn ws i)=t:=by
     have:la (fa ws (2*i)).1 (fa ws (2*i)).2=la (fa ws (2*k)).1 (fa ws (2*k)).2:=by rw[a,eb]
     rw[b8,b8]at this
     omega
    have n:k≠i:=fun e=>g (by rw[e]);have B:=jM K I (bA hF L.k1 hi n) (by omega);have lo:=L.low i (.inl b) y;rw[B.1]at lo;have lo:=of_decide_eq_false lo;rcases o _ c with q|q
    ·have:i=j:=by omega
     subst this;exact lo z
    ·unfold Oi at q;rw[e2,gM,gM,gM,gL]at q;rcases gg (vc (dw (wn ws k)) (dw (wn ws i)))with p|p|p<;>rcases gg (vc (dw (wn ws k)) (dw (wn ws j)))with s|s|s<;>omega
end
section
variable{ws:List Wl}(hU:∀w∈ws,NO w)(hF:PF ws)
theorem dS:∀{i:Nat} {d:List (List Nat)},OO ws i d->∀g,g<i->∃r∈d,g∈r
 |0,d,_,g,hg=>absurd hg (by omega)
 |i+1,d,⟨qs,h1,h2⟩,g,hg=>by
  by_cases e:g=i
  ·subst e
   rcases h2 with⟨m,rfl⟩|⟨_,r,⟨k,n,c,rfl⟩,rfl⟩
   ·obtain⟨r,a,b⟩:=Lj.mp m
    exact⟨r,a,b⟩
   ·exact⟨rn ws g k,by simp,eK.mpr ⟨0,by omega,rfl⟩⟩
  ·obtain⟨r,a,b⟩:=dS h1 g (by omega)
   rcases h2 with⟨_,rfl⟩|⟨_,f,_,rfl⟩
   ·exact⟨r,a,b⟩
   ·exact⟨r,List.mem_append_left _ a,b⟩
theorem ck:∀{i:Nat} {c:List (List Nat)},OO ws i c->∀r∈c,∃f,f<i/\dE ws f r
 |0,c,h,r,hr=>by rw[show c=[]from h]at hr;cases hr
 |i+1,c,⟨qs,h1,h2⟩,r,hr=>by
  rcases h2 with⟨_,rfl⟩|⟨_,d,R,rfl⟩
  ·obtain⟨f,a,b⟩:=ck h1 r hr
   exact⟨f,by omega,b⟩
  ·rcases Jo.mp hr with z|z
   ·obtain⟨f,a,b⟩:=ck h1 r z
    exact⟨f,by omega,b⟩
   ·rw[JT.mp z];exact⟨i,by omega,R⟩
theorem sF{f:Nat}{r:List Nat}(R:dE ws f r){C:Nat->Prop}(a:∀g,C g->C (bh ws g)){g:Nat}(b:g∈r)(h:C g):C f:=by
 obtain⟨k,n,e,rfl⟩:=R;obtain⟨i,hi,rfl⟩:=eK.mp b
 have go:∀j,C (Nf ws f (i+j)):=fun j=>by
  induction j with
  |zero=>exact h
  |succ j c=>exact a _ c
 rw[<-e];have:=go (k-i);rw[show i+(k-i)=k by omega]at this;exact a _ this
include hU hF in
theorem dt:∀{i:Nat} {a:List (List Nat)},i<=2*ws.length->OO ws i a->∀r∈a,∀b∈a,∀g,g∈r->g∈b->r=b
 |0,a,_,h,r,hr,_,_,_,_,_=>by rw[show a=[]from h]at hr;cases hr
 |i+1,a,hi,⟨qs,h1,h2⟩,r,hr,b,hr',g,hg,hg'=>by
  rcases h2 with⟨_,rfl⟩|⟨j,q,R,rfl⟩
  ·exact dt (by omega) h1 r hr b hr' g hg hg'
  ·have new:∀x∈qs,∀g,g∈q->g∈x->False:=fun x e g k d=>by
    obtain⟨f,n,l⟩:=ck h1 x e
    exact j (Lj.mpr ⟨x,e,sF R (C:=fun y=>y∈x) (fun y m=>iQ hU hF (by omega) l y m) k d⟩)
   rcases Jo.mp hr with z|z<;>rcases Jo.mp hr' with c|c
   ·exact dt (by omega) h1 r z b c g hg hg'
   ·rw[JT.mp c]at hg';exact(new r z g hg' hg).elim
   ·rw[JT.mp z]at hg;exact(new b c g hg hg').elim
   ·rw[JT.mp z,JT.mp c]
theorem dX:∀{i:Nat} {d:List (List Nat)},OO ws i d->d.Nodup
 |0,d,h=>by rw[show d=[]from h];exact Mw
 |i+1,d,⟨qs,h1,h2⟩=>by
  rcases h2 with⟨_,rfl⟩|⟨f,q,⟨k,n,c,rfl⟩,rfl⟩
  ·exact dX h1
  ·rw[Lv]
   refine⟨dX h1,by simp,fun a g b j e=>?_⟩
   rw[JT.mp j]at e
   subst e
   exact f (Lj.mpr ⟨_,g,eK.mpr ⟨0,by omega,rfl⟩⟩)
end
theorem uf(ws:List Wl):∀(l:List Nat) (a:Vc),(la (l.foldl (fun a g=>mn a (fa ws g)) a).1 (l.foldl (fun a g=>mn a (fa ws g)) a).2<=la a.1 a.2)/\(∀g∈l,la (l.foldl (fun a g=>mn a (fa ws g)) a).1 (l.foldl (fun a g=>mn a (fa ws g)) a).2<=tf ws g)/\(l.foldl (fun a g=>mn a (fa ws g)) a=a\/∃g∈l,l.foldl (fun a g=>mn a (fa ws g)) a=fa ws g)
 |[],a=>⟨Int.le_refl _,(fun g b=>by cases b),.inl rfl⟩
 |x::l,a=>by
  obtain⟨f,c,d⟩:=uf ws l (mn a (fa ws x))
  rw[Lx]
  generalize l.foldl (fun a g=>mn a (fa ws g)) (mn a (fa ws x))=z at *
  have m:(mn a (fa ws x)=a\/mn a (fa ws x)=fa ws x)/\la (mn a (fa ws x)).1 (mn a (fa ws x)).2<=la a.1 a.2/\la (mn a (fa ws x)).1 (mn a (fa ws x)).2<=tf ws x:=by
   unfold mn tf
   split
   ·exact⟨.inl rfl,Int.le_refl _,by omega⟩
   ·exact⟨.inr rfl,by omega,Int.le_refl _⟩
  refine⟨by omega,fun g b=>?_,?_⟩
  ·rcases Jv.mp b with e|e
   ·subst e;omega
   ·exact c g e
  ·rcases d with e|⟨g,b,e⟩
   ·rcases m.1 with q|q
    ·exact .inl (e.trans q)
    ·exact .inr ⟨x,Jy,e.trans q⟩
   ·exact .inr ⟨g,Jn _ b,e⟩
theorem nW(ws:List Wl){r:List Nat}(h:r≠[]):(∀g∈r,la (fc ws r).1 (fc ws r).2<=tf ws g)/\∃g∈r,fc ws r=fa ws g:=by
 unfold fc Qy;rw[LP];obtain⟨_,a,b⟩:=uf ws r (fa ws (r.headD 0));refine⟨a,?_⟩;rcases b with e|e
 ·cases r with
  |nil=>exact absurd rfl h
  |cons g r=>exact⟨g,Jy,e⟩
 ·exact e
theorem qV(v:Int)(x:Nat):∀(r:List Nat) (L:List Int),x<L.length->(r.foldl (fun L g=>L.set g v) L)[x]?=if x∈r then MA v else L[x]?
 |[],L,_=>by simp
 |g::r,L,h=>by
  rw[Lx,qV v x r (L.set g v) (by rw[List.length_set];exact h)]
  by_cases m:x∈r
  ·rw[MF m,MF (Jn _ m)]
  ·rw[ME m]
   by_cases e:x=g
   ·subst e;rw[MF Jy,List.getElem?_set_self h]
   ·rw[ME (fun z=>(Jv.mp z).elim e m),List.getElem?_set_ne (fun z=>e z.symm)]
theorem mB{L:List Int}{r:List Nat}{v:Int}{x:Nat}(h:x<L.length):(fill L r v)[x]?=if x∈r then MA v else L[x]?:=by unfold fill ie;rw[LP];exact qV v x r L h
theorem yT{m:Nat}{outs:List (List Nat)}(c:∀(i j:Nat) (r q:List Nat) (g:Nat),outs[i]?=MA r->outs[j]?=MA q->g∈r->g∈q->i=j){j:Nat}{r:List Nat}(a:outs[j]?=MA r){x:Nat}(b:x∈r)(d:x<m):∀i,j<i->(fO m outs i)[x]?=MA ((j+1:Nat):Int)
 |0,h=>absurd h (by omega)
 |i+1,h=>by
  rw[fO,mB (by rw[jC];exact d)]
  by_cases e:i=j
  ·subst e;rw[a];exact MF b
  ·have f:x∉(outs[i]?).getD []:=fun z=>by
    cases q:outs[i]? with
    |none=>rw[q]at z;cases z
    |some s=>rw[q]at z;exact e (c i j s r x q a z b)
   rw[ME f]
   exact yT c a b d i (by omega)
theorem kB{ws:List Wl}{ins:List (List Nat)}{L:List Int}{ps:List Vc}{x:Nat}(a:x<L.length){i:Nat}:∀n:Nat,(∀j,i<=j->j<i+n->x∉(ins[(ma ws ins ((ps[j]?).getD (0,0)) ins.length).getD 0]?).getD [])->(fS ws ins L ps (i+n))[x]?=(fS ws ins L ps i)[x]?
 |0,_=>rfl
 |n+1,h=>by
  show(fS ws ins L ps (i+n+1))[x]?=_
  rw[fS,mB (by rw[kI];exact a),ME (h (i+n) (by omega) (by omega))]
  exact kB a n fun j b c=>h j b (by omega)
theorem E1{c:Vc}(a:Nt c)(w:Wl):O6 w (la c.1 c.2)=sd w c.1 c.2:=by have b:=a.1;have d:=a.2;unfold O6;rw[show la c.1 c.2/100=c.1 by unfold la;omega,show la c.1 c.2%100=c.2 by unfold la;omega]
section
variable{ws:List Wl}(hU:∀w∈ws,NO w)(hF:PF ws)
include hU in
theorem tQ{c:Vc}(f:Nt c){j:Nat}:((j:Nat):Int)∈bK ws 1 c.1 c.2↔j<ws.length/\l1 (wn ws j)<la c.1 c.2/\la c.1 c.2<l2 (wn ws j)/\0<O6 (wn ws j) (la c.1 c.2):=by
 rw[E1 f];have g:Rc 1 (wn ws j)=wn ws j:=by unfold Rc;simp
 have key:((j:Nat):Int)∈bK ws 1 c.1 c.2↔j<ws.length/\bB ws 1 c.1 c.2 j=MC:=by
  unfold bK;rw[Jp];constructor
  ·rintro⟨i,hi,e⟩;have:i=j:=by omega
   subst this;rw[Jm,Jq]at hi;exact hi
  ·intro h;exact⟨j,Jm.mpr ⟨Jq.mpr h.1,h.2⟩,rfl⟩
 rw[key];unfold bB Rg;rw[JV,JV,ML,ML,ML,Int.one_mul,Int.one_mul,XN];show _/\(l1 (wn ws j)<=_/\_<l2 (wn ws j))/\0<sd (Rc 1 (wn ws j)) c.1 c.2↔_;rw[g];constructor
 ·rintro⟨a,⟨b,d⟩,e⟩;refine⟨a,?_,d,e⟩;by_cases z:l1 (wn ws j)=la c.1 c.2
  ·exfalso;obtain⟨x,y⟩:=gG (aR hU a).b f.2 (show la (wn ws j).1 (wn ws j).2.1=la c.1 c.2 from z);unfold sd Nx at e;rw[<-x,<-y,Int.sub_self,Int.sub_self,Mn,Mn]at e;omega
  ·omega
 ·rintro⟨a,b,d,e⟩;exact⟨a,⟨by omega,d⟩,e⟩
include hU in
theorem Fi{d:Nat->Int}{c:Vc}(a:Nt c)(h:bK ws 1 c.1 c.2=[]):Zc ws d (la c.1 c.2)=0:=by unfold Zc;refine bS fun j b=>ME fun q=>?_;have:=(tQ hU a).mpr ⟨b,q⟩;rw[h]at this;cases this
include hU hF in
theorem rL{d:Nat->Int}(H:Flow ws d){c:Vc}(B:Nt c){k:Nat}(f:k<ws.length)(C:l1 (wn ws k)=la c.1 c.2)(h:bK ws 1 c.1 c.2≠[]) :
 ∃v,v<ws.length/\(vM ws (bK ws 1 c.1 c.2)).toNat=v/\l1 (wn ws v)<la c.1 c.2/\Zc ws d (la c.1 c.2)=Pf ws d (2*v):=by
 obtain⟨D,E,I,L⟩:=sJ hU hF (show(0:Int)<1 by decide) (fun k f=>fN f) h (lX ws 1 c.1 c.2)
 have s:=fV (fN E)
 obtain⟨v,rfl⟩:∃v:Nat,D=(v:Int):=⟨D.toNat,by omega⟩
 have M:vM ws (bK ws 1 c.1 c.2)=(v:Int):=by unfold vM;rw[L];rfl
 obtain⟨g,p,r,A⟩:=(tQ hU B).mp E
 refine⟨v,g,by rw[M];omega,p,?_⟩
 generalize N:la c.1 c.2=t at *
 have V:=aR hU g
 have K:=aR hU f
 have R:=K.lt
 have u:sp (wn ws v) t=MC:=aY.mpr ⟨by omega,r⟩
 have G:sp (wn ws k) t=MC:=aY.mpr ⟨by omega,by omega⟩
 have l:v≠k:=fun z=>by subst z;omega
 have m:=(de V K (bA hF g f l) p r (.inl C)).2
 rw[MI A]at m
 have O:=(dC K V (bA hF f g (fun z=>l z.symm)) G u).mp m
 rw[gW,<-lF hU hF H g u]
 have one:d v=sg ws.length (fun j=>if j=v then d j else 0):=by rw[cS,MF g]
 rw[one]
 unfold Om Zc
 rw[<-cg]
 refine aJ fun j n=>?_
 show _=(if(sp (wn ws j) t&&NT (wn ws v) (wn ws j))=MC then d j else 0)+(if j=v then d j else 0)
 by_cases e:j=v
 ·subst e
  rw[MF ⟨p,r,A⟩,cV V,LX,ME (by decide),MF rfl,Int.zero_add]
 ·rw[ME e,Int.add_zero]
  have J:=aR hU n
  have F:=bA hF g n (fun z=>e z.symm)
  by_cases q:l1 (wn ws j)<t/\t<l2 (wn ws j)/\0<O6 (wn ws j) t
  ·have P:((j:Nat):Int)∈bK ws 1 c.1 c.2:=(tQ hU B).mpr ⟨n,by rw[N];exact q⟩
   have a:NT (wn ws v) (wn ws j)=MC:=by
    rcases I _ (Jp.mpr ⟨_,P,rfl⟩)with z|z
    ·exfalso
     have z:wn ws j=wn ws v:=z
     exact F.ne ⟨by rw[z],by rw[z]⟩
    ·exact z.1
   rw[MF q,aY.mpr ⟨by omega,q.2.1⟩,a,MF (show(MC&&MC)=MC from rfl)]
  ·rw[ME q,ME]
   intro z
   rw[JV]at z
   obtain⟨i,a⟩:=z
   have Q:=(dC V J F u i).mp a
   rw[aY]at i
   by_cases y:l1 (wn ws j)=t
   ·have b:=(de V J F p r (.inl y)).2
    rw[MI A]at b
    have:=(dC J V F.swap (aY.mpr i) u).mp b
    grind
   ·have o:j≠k:=fun z=>by subst z;omega
    have b:=(de J K (bA hF n f o) (show l1 (wn ws j)<t by omega) i.2 (.inl C)).2
    have x:=(dC K J (bA hF f n (fun z=>o z.symm)) G (aY.mpr i)).mpr (by grind)
    rw[x]at b
    exact q ⟨by omega,i.2,MJ b.symm⟩
include hU hF in
theorem yY{f:Nat}(g:f<2*ws.length){r:List Nat}(R:dE ws f r){t:Int}{k:Nat}(L:RA ws r t k)(m:2*k+1∈r){d:Nat->Int}(i:Flow ws d):Pf ws d f=Zc ws d t:=by
 rw[<-dP hU hF g R i m,iy];unfold Bw Om Zc;have K:=aR hU L.k1;have all:=oQ hU hF g R L m;have h:=L.e;rw[h];refine aJ fun j c=>?_;show(if(sp (wn ws j) t&&NT (wn ws k) (wn ws j))=MC then d j else 0)=_;have J:=aR hU c;by_cases s:sp (wn ws j) t=MC
 ·have a:=aY.mp s;rw[s,L6];by_cases y:l1 (wn ws j)=t
  ·rw[all j c y,ME (by decide),ME (by omega)]
  ·have ne:j≠k:=fun z=>by subst z;omega
   have b:=(de J K (bA hF c L.k1 ne) (show l1 (wn ws j)<t by omega) a.2 (.inl h)).2;rw[b];by_cases q:0<O6 (wn ws j) t
   ·rw[MF (by simpa using q),MF ⟨by omega,a.2,q⟩]
   ·rw[ME (by simpa using q),ME fun z=>q z.2.2]
 ·have a:sp (wn ws j) t=MD:=by simpa using s
  rw[a,K5,ME (by decide),ME];intro q;exact s (aY.mpr ⟨by omega,q.2.1⟩)
include hU hF in
theorem fJ{f:Nat}(d:f<2*ws.length){r:List Nat}(R:dE ws f r):∃k,RA ws r (la (fc ws r).1 (fc ws r).2) k/\Nt (fc ws r)/\((aL ws r=MC/\Pf ws (dR r) f=1)\/(aL ws r=MD/\2*k+1∈r)):=by
 obtain⟨t,k,L,g,h,n,mn⟩:=my hU hF d R;obtain⟨l,i,c,j⟩:=nW ws (Ks h);have a:=l g h;have b:=mn i c;have e:la (fc ws r).1 (fc ws r).2=t:=by unfold tf at b;rw[<-j]at b;omega
 rw[e];refine⟨k,L,by rw[j];exact jg hU (cQ hU hF d R i c),?_⟩;have o:=kL hU hF d R;rcases ou hU hF d R L with⟨m,z⟩|⟨_,_,z⟩
 ·right;refine⟨?_,m⟩;unfold aL;rw[o,z];rfl
 ·left;refine⟨?_,z⟩;unfold aL;rw[o,z];rfl
end
theorem m4{ws:List Wl}{ins:List (List Nat)}:∀{n i:Nat},i<n->fc ws ((ins[i]?).getD [])∈b7 ws ins n
 |0,i,h=>absurd h (by omega)
 |n+1,i,h=>by
  unfold b7
  dsimp only
  by_cases e:i=n
  ·subst e
   split
   ·assumption
   ·exact Ji _ (JT.mpr rfl)
  ·have:=m4 (ws:=ws) (ins:=ins) (n:=n) (i:=i) (by omega)
   split
   ·exact this
   ·exact List.mem_append_left _ this
section
variable{ws:List Wl}(hU:∀w∈ws,NO w)(hF:PF ws)
include hU hF in
theorem j0{i:List (List Nat)}(G:OO ws (2*ws.length) i){r c:List Nat}(p:r∈i)(g:c∈i)(o:aL ws r=MD)(o':aL ws c=MD)(e:fc ws r=fc ws c):r=c:=by
 obtain⟨f,s,R⟩:=ck G r p;obtain⟨B,h,t⟩:=ck G c g;obtain⟨k,L,_,q⟩:=fJ hU hF s R;obtain⟨j,d,_,x⟩:=fJ hU hF h t
 have m:2*k+1∈r:=by
  rcases q with⟨z,_⟩|⟨_,z⟩
  ·rw[o]at z;cases z
  ·exact z
 have u:2*j+1∈c:=by
  rcases x with⟨z,_⟩|⟨_,z⟩
  ·rw[o']at z;cases z
  ·exact z
 rw[<-e]at d;have y:=L.e;have l:=d.e;by_cases ne:k=j
 ·subst ne;exact dt hU hF (J1 _) G r p c g _ m u
 ·exfalso;have a:=oQ hU hF s R L m j d.k1 l;have b:=oQ hU hF h t d u k L.k1 y;have K:=aR hU L.k1;have v:=aR hU d.k1;have C:=K.lt;have A:=v.lt;have n:=jh K v (bA hF L.k1 d.k1 ne) (c9.mpr ⟨by omega,by omega,by omega,by omega⟩);rw[a,b]at n;cases n
include hU hF in
theorem wG{L:List Int}(il:ko ws L):∃h,OO ws (2*ws.length) h/\(∀(i:Nat) (S:List Nat),(h.filter (aL ws))[i]?=MA S->∀g∈S,L[g]?=MA ((i+1:Nat):Int))/\∀r∈h,aL ws r=MD->∀g∈r,L[g]?=MA (PX ws L (fc ws r)):=by
 obtain⟨h,ps,G,pm,up,rfl⟩:=il;refine⟨h,G,?_⟩;have Q:∀S,S∈h.filter (aL ws)↔S∈h/\aL ws S=MC:=fun S=>Jm;have mI:∀S,S∈(h.filter fun r=>!aL ws r)↔S∈h/\aL ws S=MD:=fun S=>by rw[Jm];simp
 have T:(h.filter (aL ws)).Nodup:=Mm _ (dX G);have U:=dt hU hF (J1 _) G;have lt:∀r∈h,∀g∈r,g<2*ws.length:=fun r t g s=>by obtain⟨f,J,R⟩:=ck G r t;exact cQ hU hF J R g s
 generalize eo:h.filter (aL ws)=outs at *;generalize ei:(h.filter fun r=>!aL ws r)=ins at *;have K:(fO (2*ws.length) outs outs.length).length=2*ws.length:=jC _ _ _
 have step:∀j,j<ps.length->∃q c,ps[j]?=MA c/\(ins[(ma ws ins ((ps[j]?).getD (0,0)) ins.length).getD 0]?).getD []=q/\q∈h/\aL ws q=MD/\fc ws q=c:=fun j B=>by
  have C:ps[j]?=MA ps[j]:=J0 B
  have V:ps[j]∈b7 ws ins ins.length:=pm.mem_iff.mp (JW B)
  obtain⟨i,a,b,c⟩:=gT V
  have em:ins[i]?=MA ins[i]:=J0 b
  have q:=(mI _).mp (JW b)
  rw[em]at c
  refine⟨ins[i],ps[j],C,?_,q.1,q.2,c⟩
  rw[C]
  show(ins[(ma ws ins ps[j] ins.length).getD 0]?).getD []=_
  rw[a]
  show(ins[i]?).getD []=_
  rw[em];rfl
 constructor
 ·intro i S W g s;have X:=(Q S).mp (J9 W);have D:=lt S X.1 g s
  have k1:=yT (m:=2*ws.length) (outs:=outs) (fun i j r q g er eq t hq=>by
   have a:=(Q r).mp (J9 er)
   have b:=(Q q).mp (J9 eq)
   have:=U r a.1 q b.1 g t hq
   subst this
   obtain⟨M,e1⟩:=Ja.mp er
   obtain⟨E,e2⟩:=Ja.mp eq
   exact(List.getElem_inj T).mp (e1.trans e2.symm)) W s D outs.length (Ja.mp W).1
  have F:=kB (ws:=ws) (ins:=ins) (L:=fO (2*ws.length) outs outs.length) (ps:=ps) (x:=g) (by rw[K];exact D) (i:=0) ps.length fun j _ E z=>by
   obtain⟨q,c,_,eq,N,O,_⟩:=step j (by omega)
   rw[eq]at z
   have:=U S X.1 q N g s z
   rw[<-this,X.2]at O;cases O
  rw[Nat.zero_add]at F;rw[F];exact k1
 ·intro r t o g s;have D:=lt r t g s;obtain⟨f,J,R⟩:=ck G r t;obtain⟨k,Lw,hc,_⟩:=fJ hU hF J R;obtain⟨i,hi,Y⟩:=List.mem_iff_getElem.mp ((mI r).mpr ⟨t,o⟩)
  have V:fc ws r∈ps:=by
   rw[pm.mem_iff]
   have:=m4 (ws:=ws) (ins:=ins) hi
   rw[J0 hi,Y]at this
   exact this
  obtain⟨j,B,Z⟩:=List.mem_iff_getElem.mp V;obtain⟨q,c,C,eq,N,O,q3⟩:=step j B;have H:ps[j]?=MA (fc ws r):=by rw[J0 B,Z]
  rw[H]at C;cases C;have a0:=j0 hU hF G N t O o q3;subst a0;have P:=Kq.mp up
  have n:∀d,j<=d->(hj':d<ps.length)->la (fc ws q).1 (fc ws q).2<=la ps[d].1 ps[d].2/\(ps[d]=fc ws q->d=j):=fun d M E=>by
   by_cases e:j=d
   ·subst e;rw[Z];exact⟨Int.le_refl _,fun _=>rfl⟩
   ·have:=P j d B E (by omega);rw[Z]at this;unfold OL at this;unfold la;refine⟨by omega,fun z=>?_⟩;rw[z]at this;omega
  have k1:(fS ws ins (fO (2*ws.length) outs outs.length) ps (j+1))[g]?=MA (PX ws (fS ws ins (fO (2*ws.length) outs outs.length) ps j) (fc ws q)):=by rw[fS,mB (by rw[kI,K];exact D),eq,MF s,H];rfl
  have F:=kB (ws:=ws) (ins:=ins) (L:=fO (2*ws.length) outs outs.length) (ps:=ps) (x:=g) (by rw[K];exact D) (i:=j+1) (ps.length-(j+1)) fun d M E z=>by
   obtain⟨q',c',u,y,I,b0,A⟩:=step d (by omega)
   rw[y]at z
   have:=U q N q' I g s z
   subst this
   have p:ps[d]?=MA ps[d]:=J0 (by omega)
   rw[u]at p
   have:=(n d (by omega) (by omega)).2 (by rw[<-Option.some.inj p,A])
   omega
  rw[show j+1+(ps.length-(j+1))=ps.length by omega]at F;rw[F,k1]
  congr 1
  unfold PX;by_cases b:bK ws 1 (fc ws q).1 (fc ws q).2=[]
  ·rw[MF b,MF b]
  ·rw[ME b,ME b];obtain⟨v,v1,v2,v3,_⟩:=rL hU hF (bU hU hF J R) hc Lw.k1 Lw.e b;rw[v2]
   have k3:=kB (ws:=ws) (ins:=ins) (L:=fO (2*ws.length) outs outs.length) (ps:=ps) (x:=2*v) (by rw[K];omega) (i:=j) (ps.length-j) fun d M E z=>by
    obtain⟨q',c',u,y,I,b0,A⟩:=step d (by omega)
    rw[y]at z
    have:=(nW ws (Ks z)).1 _ z
    unfold tf at this
    rw[b8,A]at this
    have p:ps[d]?=MA ps[d]:=J0 (by omega)
    rw[u]at p
    have l:=(n d M (by omega)).1
    rw[<-Option.some.inj p]at l
    omega
   rw[show j+(ps.length-j)=ps.length by omega]at k3;rw[k3]
end
section
variable{ws:List Wl}(hU:∀w∈ws,NO w)(hF:PF ws)
def Rt(ws:List Wl)(L:List Int)(outs:List (List Nat))(g:Nat):Prop:=
 (L[g]?=MA 0/\∀S∈outs,Pf ws (dR S) g=0)\/∃(i:Nat) (S:List Nat) (a:Nat),outs[i]?=MA S/\a∈S/\L[g]?=MA ((i+1:Nat):Int)/\∀T∈outs,Pf ws (dR T) g=Pf ws (dR T) a
include hU hF in
theorem lD{L:List Int}{j:List (List Nat)}(G:OO ws (2*ws.length) j)(D:∀(i:Nat) (S:List Nat),(j.filter (aL ws))[i]?=MA S->∀g∈S,L[g]?=MA ((i+1:Nat):Int))(E:∀r∈j,aL ws r=MD->∀g∈r,L[g]?=MA (PX ws L (fc ws r))) :
 ∀(N:Nat) (r:List Nat),r∈j->la (fc ws r).1 (fc ws r).2<(N:Int)->∀g∈r,Rt ws L (j.filter (aL ws)) g
 |0,r,hr,hN,g,hg=>by
  exfalso
  obtain⟨f,l,R⟩:=ck G r hr
  obtain⟨k,_,n,_⟩:=fJ hU hF l R
  have a:=n.1
  have b:=n.2
  unfold la at hN
  omega
 |N+1,r,hr,hN,g,hg=>by
  obtain⟨f,l,R⟩:=ck G r hr
  obtain⟨k,p,n,q⟩:=fJ hU hF l R
  have t:∀T∈j.filter (aL ws),Flow ws (dR T):=fun T h=>by
   obtain⟨K,u,I⟩:=ck G T (Jm.mp h).1
   exact bU hU hF u I
  rcases q with⟨o,_⟩|⟨o,m⟩
  ·right
   obtain⟨i,hi,e⟩:=List.mem_iff_getElem.mp (Jm.mpr ⟨hr,o⟩)
   have e:(j.filter (aL ws))[i]?=MA r:=by rw[J0 hi,e]
   exact⟨i,r,g,e,hg,D i r e g hg,fun _ _=>rfl⟩
  ·have x:=E r hr o g hg
   have P:∀T∈j.filter (aL ws),Pf ws (dR T) g=Zc ws (dR T) (la (fc ws r).1 (fc ws r).2):=fun T h=>by
    rw[dP hU hF l R (t T h) hg]
    exact yY hU hF l R p m (t T h)
   by_cases b:bK ws 1 (fc ws r).1 (fc ws r).2=[]
   ·left
    refine⟨by rw[x];unfold PX;rw[MF b],fun S s=>?_⟩
    rw[P S s,Fi hU n b]
   ·obtain⟨v,M,F,O,_⟩:=rL hU hF (bU hU hF l R) n p.k1 p.e b
    have Z:∀T∈j.filter (aL ws),Pf ws (dR T) g=Pf ws (dR T) (2*v):=fun T h=>by
     obtain⟨Q,_,y,_,e⟩:=rL hU hF (t T h) n p.k1 p.e b
     rw[P T h,e,<-y,F]
    obtain⟨z,A,B⟩:=dS G (2*v) (by omega)
    have C:la (fc ws z).1 (fc ws z).2<(N:Int):=by
     have:=(nW ws (Ks B)).1 _ B
     unfold tf at this
     rw[b8]at this
     omega
    have H:PX ws L (fc ws r)=(L[2*v]?).getD 0:=by unfold PX;rw[ME b,F]
    rcases lD G D E N z A C (2*v) B with⟨a,c⟩|⟨i,S,J,a,c,d,e⟩
    ·left
     refine⟨by rw[x,H,a];rfl,fun S s=>?_⟩
     rw[Z S s,c S s]
    ·right
     refine⟨i,S,J,a,c,by rw[x,H,d];rfl,fun T h=>?_⟩
     rw[Z T h,e T h]
include hU hF in
end
theorem vt{R:Nat->Nat->Bool}:∀l:List Nat,l≠[]->(∀x∈l,∀y∈l,x≠y->R x y=MC\/R y x=MC)->(∀x∈l,∀y∈l,∀z∈l,R x y=MC->R y z=MC->R x z=MC)->∃m∈l,∀x∈l,x=m\/R x m=MC
 |[],h,_,_=>absurd rfl h
 |a::l,_,tot,tr=>by
  by_cases n:l=[]
  ·subst n;exact⟨a,Jy,fun x b=>.inl (JT.mp b)⟩
  ·obtain⟨m,c,d⟩:=vt l n (fun x b y f=>tot x (.tail _ b) y (.tail _ f)) (fun x b y f z g=>tr x (.tail _ b) y (.tail _ f) z (.tail _ g))
   by_cases e:a=m
   ·subst e;exact⟨a,.head _,fun x b=>(Jv.mp b).elim .inl (d x)⟩
   ·rcases tot a (.head _) m (.tail _ c) e with h|h
    ·exact⟨m,.tail _ c,fun x b=>(Jv.mp b).elim (fun z=>.inr (z▸h)) (d x)⟩
    ·refine⟨a,.head _,fun x b=>(Jv.mp b).elim .inl fun b=>.inr ?_⟩
     rcases d x b with z|z
     ·rw[z];exact h
     ·exact tr x (.tail _ b) m (.tail _ c) a (.head _) z h
section
variable{ws:List Wl}(hU:∀w∈ws,NO w)(hF:PF ws)
include hU hF in
theorem u9{S:Nat->Prop}{v:Vc}(s:∀g,g<2*ws.length->fa ws g=v->S g->S (bh ws (fx g))){k:Nat}(t:k<2*ws.length)(u:fa ws k=v)(A:S k):∀x,x<2*ws.length->fa ws x=v->S x:=fun x p ex=>K3 fun nx=>by
 have mem:∀{g},g∈(J6 (2*ws.length)).filter (fun g=>@decide (fa ws g=v/\S g) (Classical.propDecidable _))↔g<2*ws.length/\fa ws g=v/\S g:=fun{g}=>by rw[Jm,Jq,@ML _ (Classical.propDecidable _)]
 have e:∀{g},g<2*ws.length/\fa ws g=v/\S g->g≠x:=fun h z=>nx (z▸h.2.2);have l:∀{g h},g<2*ws.length/\fa ws g=v/\S g->h<2*ws.length/\fa ws h=v/\S h->g≠h->Ol (fd ws g) (fd ws h):=fun a b n=>dW hU hF a.1 b.1 n (a.2.1.trans b.2.1.symm);have d:∀{g},g<2*ws.length/\fa ws g=v/\S g->Ol (fd ws x) (fd ws g):=fun a=>dW hU hF p a.1 (e a).symm (ex.trans a.2.1.symm);obtain⟨g,B,f⟩:=vt (R:=fun a b=>PQ (fd ws x) (fd ws a) (fd ws b)) _ (Ks (mem.mpr ⟨t,u,A⟩)) (fun a i b j n=>nR (d (mem.mp i)) (d (mem.mp j)) (l (mem.mp i) (mem.mp j) n)) (fun a i b j c C D E=>nI (d (mem.mp i)) (d (mem.mp j)) (d (mem.mp C)) D E);have G:=mem.mp B;have o:x∈gZ ws (fx g):=bw.mpr ⟨p,by rw[nB,ex,G.2.1],by rw[vy];exact(e G).symm⟩;have F:=s g G.1 G.2.1 G.2.2;rcases fX hU hF (f9 G.1)with⟨z,_⟩|⟨m,first⟩
 ·rw[z]at o;cases o
 ·obtain⟨H,q,r⟩:=bw.mp m;rw[nB]at q;have N:bh ws (fx g)<2*ws.length/\fa ws (bh ws (fx g))=v/\S (bh ws (fx g)):=⟨H,q.trans G.2.1,F⟩;rcases first x o with z|z
  ·exact e N z.symm
  ·unfold Oi at z;rw[vy]at z r;rcases f _ (mem.mpr N)with y|y
   ·exact r y
   ·exact ue (d G) y z
variable{f:Nat}(hf:f<2*ws.length){r:List Nat}(R:dE ws f r)
include hU hF hf R in
def Wt(ws:List Wl)(r:List Nat)(g:Nat):Prop:=g∈r\/Pf ws (dR r) g=-1
variable(a:Pf ws (dR r) f=0)
include hU hF hf R a in
theorem pX{g:Nat}(h:Wt ws r g):Wt ws r (fx g):=by
 by_cases m:fx g∈r
 ·exact .inl m
 ·refine .inr ?_;have e:=Cc ws (dR r) g
  have d:eF (dR r) (fx g)=if g∈r then 1 else 0:=by
   unfold eF dR;obtain⟨b,c⟩:=fL g;by_cases p:g%2=0
   ·have e1:fx g=2*(g/2)+1:=by unfold fx;rw[MF p];omega
    rw[ME (by omega),b,<-e1,ME m,show 2*(g/2)=g by omega];split<;>rfl
   ·have e1:fx g=2*(g/2):=by unfold fx;rw[ME p];omega
    rw[MF (by omega),b,<-e1,ME m,show fx g+1=g by omega];split<;>rfl
  rw[d]at e;by_cases n:g∈r
  ·rw[MF n,dP hU hF hf R (bU hU hF hf R) n,a]at e;omega
  ·rw[ME n]at e;have:=h.resolve_left n;omega
include hU hF hf R a in
theorem Hv{g:Nat}(b:g<2*ws.length)(h:Wt ws r g):Wt ws r (bh ws g):=by
 rcases h with h|h
 ·exact .inl (iQ hU hF hf R g h)
 ·exact .inr (by rw[B3 hU hF (bU hU hF hf R) b];exact h)
include hU hF hf R a in
theorem vQ{g x:Nat}(b:g<2*ws.length)(c:x<2*ws.length)(e:fa ws g=fa ws x)(h:Wt ws r g):Wt ws r x:=u9 hU hF (S:=Wt ws r) (v:=fa ws x) (fun y d _ s=>Hv hU hF hf R a (f9 d) (pX hU hF hf R a s)) b e h x c rfl
def R5(ws:List Wl)(i j:Nat):Prop:=(∃g h,g/2=i/\h/2=j/\fa ws g=fa ws h)
include hU hF hf R a in
theorem Ee{i j:Nat}(hi:i<ws.length)(d:j<ws.length)(t:R5 ws i j)(h:Wt ws r (2*i)):Wt ws r (2*j):=by
 obtain⟨g,x,rfl,rfl,e⟩:=t
 have b:∀{y:Nat},Wt ws r (2*(y/2))->Wt ws r y:=fun{y} h=>by
  by_cases p:y%2=0
  ·rw[show y=2*(y/2) by omega];exact h
  ·have:fx (2*(y/2))=y:=by unfold fx;rw[MF (by omega)];omega
   rw[<-this];exact pX hU hF hf R a h
 have c:∀{y:Nat},Wt ws r y->Wt ws r (2*(y/2)):=fun{y} h=>by
  by_cases p:y%2=0
  ·rw[show 2*(y/2)=y by omega];exact h
  ·have:fx y=2*(y/2):=by unfold fx;rw[ME p];omega
   rw[<-this];exact pX hU hF hf R a h
 exact c (vQ hU hF hf R a (by omega) (by omega) e (b h))
include hU hF hf R a in
end
inductive Cn(ws:List Wl)(i:Nat):Nat->Prop
 |refl:Cn ws i i
 |step {j k:Nat} (h:Cn ws i j) (hk:k<ws.length) (t:R5 ws j k):Cn ws i k
theorem Cn.lt{ws:List Wl}{i j:Nat}(hi:i<ws.length)(h:Cn ws i j):j<ws.length:=by
 induction h with
 |refl=>exact hi
 |step _ a _ _=>exact a
section
variable{ws:List Wl}(hU:∀w∈ws,NO w)(hF:PF ws){f:Nat}(hf:f<2*ws.length){r:List Nat}(R:dE ws f r)
include hU hF hf R
theorem pD{i g:Nat}(h:Cn ws i (f/2))(a:g∈r):Cn ws i (g/2):=by
 obtain⟨k,n,e,rfl⟩:=R;obtain⟨j,b,rfl⟩:=eK.mp a;clear a b
 induction j with
 |zero=>exact h
 |succ j c=>
  have l:=cE hU hF hf j
  have d:=cE hU hF hf (j+1)
  refine .step c (by omega) ⟨fx (Nf ws f j),Nf ws f (j+1),(fL _).1,rfl,?_⟩
  rw[cZ]
  exact(gv hU hF l).symm
theorem oA{i g:Nat}(hi:i<ws.length)(a:g∈r)(h:Cn ws i (g/2)):Cn ws i (f/2):=by
 obtain⟨k,n,e,rfl⟩:=R;obtain⟨j,b,rfl⟩:=eK.mp a;clear a b
 induction j with
 |zero=>exact h
 |succ j c=>
  refine c (.step h (by have:=cE hU hF hf j;omega) ⟨Nf ws f (j+1),fx (Nf ws f j),rfl,(fL _).1,?_⟩)
  rw[cZ]
  exact gv hU hF (cE hU hF hf j)
theorem FO(a:Pf ws (dR r) f=0){j:Nat}(h:Cn ws (f/2) j):Wt ws r (2*j):=by
 have base:Wt ws r f:=.inl (cP hU hF hf R)
 have b0:Wt ws r (2*(f/2)):=by
  by_cases p:f%2=0
  ·rw[show 2*(f/2)=f by omega];exact base
  ·have:fx f=2*(f/2):=by unfold fx;rw[ME p];omega
   rw[<-this];exact pX hU hF hf R a base
 induction h with
 |refl=>exact b0
 |step h b t c=>exact Ee hU hF hf R a (h.lt (by omega)) b t c
end
def Ng(L:Nat->Nat)(a b x:Nat):Nat:=if L x=L b then L a else L x
def N4(a b:Nat->Nat):Nat->Nat->Nat
 |0=>fun x=>x
 |k+1=>Ng (N4 a b k) (a k) (b k)
theorem xK(a b:Nat->Nat){k x y:Nat}(h:N4 a b k x=N4 a b k y):∀n,N4 a b (k+n) x=N4 a b (k+n) y
 |0=>h
 |n+1=>by
  show Ng (N4 a b (k+n)) _ _ x=Ng (N4 a b (k+n)) _ _ y
  unfold Ng
  rw[xK a b h n]
theorem n9(a b:Nat->Nat){j n:Nat}(h:j<n):N4 a b n (a j)=N4 a b n (b j):=by
 have:N4 a b (j+1) (a j)=N4 a b (j+1) (b j):=by show Ng _ _ _ _=Ng _ _ _ _;unfold Ng;rw[MF rfl];split<;>rfl
 have:=xK a b this (n-(j+1))
 rwa [show j+1+(n-(j+1))=n by omega]at this
theorem iL(a b:Nat->Nat){P:Nat->Nat->Prop}(e:∀x,P x x)(f:∀x y,P x y->P y x)(d:∀x y z,P x y->P y z->P x z):∀{n:Nat},(∀j,j<n->P (a j) (b j))->∀x y,N4 a b n x=N4 a b n y->P x y
 |0,_,x,y,h=>(show x=y from h)▸e x
 |n+1,st,x,y,h=>by
  have c:=iL a b e f d (n:=n) fun j i=>st j (by omega)
  have g:=st n (by omega)
  have h:Ng (N4 a b n) (a n) (b n) x=Ng (N4 a b n) (a n) (b n) y:=h
  unfold Ng at h
  split at h
  ·rename_i hx
   split at h
   ·rename_i hy;exact c x y (hx.trans hy.symm)
   ·exact d _ _ _ (c x _ hx) (d _ _ _ (f _ _ g) (c _ y h))
  ·split at h
   ·rename_i hy;exact d _ _ _ (c x _ h) (d _ _ _ g (c _ y hy.symm))
   ·exact c x y h
open Classical in
noncomputable def Qo(L:Nat->Nat)(N:Nat):Int:=sg N fun v=>if ∃x,x<N/\L x=v then 1 else 0
theorem Ca{L:Nat->Nat}{N:Nat}(h:∀x,x<N->L x<N){a b:Nat}(c:a<N):∀x,x<N->Ng L a b x<N:=fun x d=>by
 unfold Ng;split
 ·exact h a c
 ·exact h x d
theorem E2{L:Nat->Nat}{N:Nat}(h:∀x,x<N->L x<N){a b:Nat}(g:a<N)(f:b<N)(ne:L a≠L b):Qo (Ng L a b) N=Qo L N-1:=by
 have e:∀v,v<N->(if ∃x,x<N/\Ng L a b x=v then(1:Int)else 0)=(if ∃x,x<N/\L x=v then 1 else 0)-(if v=L b then 1 else 0):=fun v i=>by
  by_cases c:v=L b
  ·subst c;rw[MF (⟨b,f,rfl⟩:∃x,x<N/\L x=L b),MF rfl,ME]
   ·rfl
   ·rintro⟨x,d,e⟩;unfold Ng at e;split at e
    ·exact ne e
    ·rename_i q;exact q e
  ·rw[ME c]
   have:(∃x,x<N/\Ng L a b x=v)↔∃x,x<N/\L x=v:=by
    constructor
    ·rintro⟨x,d,e⟩;unfold Ng at e;split at e
     ·exact⟨a,g,e⟩
     ·exact⟨x,d,e⟩
    ·rintro⟨x,d,e⟩;refine⟨x,d,?_⟩;unfold Ng;rw[ME (by rw[e];exact c)];exact e
   simp only[this];omega
 unfold Qo;rw[aJ e,eB,cS (fun _=>1) (L b) N,MF (h b f)]
open Classical in
noncomputable def Qn(a b:Nat->Nat)(n:Nat):Int:=sg n fun k=>if N4 a b k (a k)≠N4 a b k (b k)then 1 else 0
theorem oP(a b:Nat->Nat){N:Nat}:∀n,(∀j,j<n->a j<N/\b j<N)->(∀x,x<N->N4 a b n x<N)/\Qo (N4 a b n) N+Qn a b n=N
 |0,_=>by
  refine⟨fun x h=>h,?_⟩
  have:∀N:Nat,sg N (fun _=>1)=N:=fun N=>by
   induction N with
   |zero=>rfl
   |succ N d=>rw[sg,d];omega
  unfold Qo
  rw[aJ (h:=fun _=>1) fun v g=>MF ⟨v,g,rfl⟩,this]
  show(N:Int)+0=N
  omega
 |n+1,h=>by
  obtain⟨lt,d⟩:=oP a b n fun j k=>h j (by omega)
  obtain⟨f,i⟩:=h n (by omega)
  refine⟨Ca lt f,?_⟩
  have e:Qn a b (n+1)=Qn a b n+(if N4 a b n (a n)≠N4 a b n (b n)then 1 else 0):=by
   unfold Qn;rw[sg]
  rw[e]
  show Qo (Ng (N4 a b n) (a n) (b n)) N+_=_
  by_cases c:N4 a b n (a n)=N4 a b n (b n)
  ·rw[ME (fun z=>z c)]
   have:Ng (N4 a b n) (a n) (b n)=N4 a b n:=by
    funext x
    unfold Ng
    split
    ·rename_i q;rw[q,c]
    ·rfl
   rw[this];omega
  ·rw[MF c,E2 lt f i c];omega
theorem xh{N:Nat}:∀l:List Nat,l.Nodup->(∀x∈l,x<N)->sg N (fun v=>if v∈l then 1 else 0)=l.length
 |[],_,_=>by rw[bS fun k _=>by simp];rfl
 |a::l,nd,lt=>by
  obtain⟨b,c⟩:=Ku.mp nd
  rw[aJ (h:=fun v=>(if v=a then 1 else 0)+(if v∈l then 1 else 0)) fun v _=>?_,cg,xh l c fun x d=>lt x (Jn _ d),cS (fun _=>1) a N,MF (lt a (Jy ..)),Jr]
  ·omega
  ·by_cases e:v=a
   ·subst e;rw[MF (Jy ..),MF rfl,ME b];rfl
   ·rw[ME e]
    by_cases m:v∈l
    ·rw[MF m,MF (Jn _ m)];rfl
    ·rw[ME m,ME fun z=>(Jv.mp z).elim e m];rfl
theorem qS{L:Nat->Nat}{N:Nat}(lt:∀x,x<N->L x<N){l:List Nat}(nd:l.Nodup)(h:∀v,v∈l↔∃x,x<N/\L x=v):Qo L N=l.length:=by rw[<-xh (N:=N) l nd fun x a=>by obtain⟨y,b,e⟩:=(h x).mp a;rw[<-e];exact lt y b];unfold Qo;exact aJ fun v _=>by simp only[h]
theorem qK(g:Nat->Int):∀n,sg (n+1) g=g 0+sg n fun k=>g (k+1)
 |0=>by simp[sg]
 |n+1=>by rw[sg,qK g n,sg];omega
theorem xQ(g:Nat->Int):∀n,sg n (fun k=>g (n-1-k))=sg n g
 |0=>rfl
 |n+1=>by
  rw[qK,show n+1-1-0=n by omega,sg,aJ (h:=fun k=>g (n-1-k)) fun k a=>by rw[show n+1-1-(k+1)=n-1-k by omega],xQ g n]
  omega
theorem nT(c:Int)(g:Nat->Int):∀n,sg n (fun k=>c*g k)=c*sg n g
 |0=>by rw[sg,sg,Mn]
 |n+1=>by rw[sg,sg,nT c g n,Int.mul_add]
theorem uU(g:Nat->Nat->Int)(m:Nat):∀n,sg n (fun i=>sg m fun j=>g i j)=sg m fun j=>sg n fun i=>g i j
 |0=>(pA m).symm
 |n+1=>by
  rw[sg,uU g m n,<-cg]
  rfl
open Classical in
theorem Ao{ws:List Wl}(g:∀w∈ws,NO w)(hF:PF ws){S:Nat->Prop}(d:∀j,S j->j<ws.length){i:Nat}(hi:S i):∃k,S k/\(∀j,S j->l1 (wn ws k)<=l1 (wn ws j))/\∀j,S j->l1 (wn ws j)=l1 (wn ws k)->NT (wn ws k) (wn ws j)=MD:=by
 have l:∀j,j∈((J6 ws.length).filter fun j=>decide (S j))↔S j:=fun j=>by rw[Jm,Jq,ML];exact⟨fun h=>h.2,fun h=>⟨d j h,h⟩⟩
 obtain⟨a,o,mn⟩:=sL (fun j=>l1 (wn ws j)) _ (Ks ((l i).mpr hi));have m:∀j,j∈((J6 ws.length).filter fun j=>decide (S j/\l1 (wn ws j)=l1 (wn ws a)))↔S j/\l1 (wn ws j)=l1 (wn ws a):=fun j=>by rw[Jm,Jq,ML];exact⟨fun h=>h.2,fun h=>⟨d j h.1,h⟩⟩
 obtain⟨k,p,r⟩:=oC (fun j=>xi (wn ws j) (l1 (wn ws a))) _ (Ks ((m a).mpr ⟨(l a).mp o,rfl⟩));obtain⟨n,s⟩:=(m k).mp p;refine⟨k,n,fun j f=>by rw[s];exact mn j ((l j).mpr f),fun j f v=>?_⟩;have c:=d k n;have b:=d j f;by_cases ne:k=j
 ·subst ne;exact cV (aR g b)
 ·have K:=aR g c;have J:=aR g b;have x:=K.lt;have y:=J.lt;have t:sp (wn ws k) (l1 (wn ws a))=MC:=aY.mpr ⟨by omega,by omega⟩;have u:sp (wn ws j) (l1 (wn ws a))=MC:=aY.mpr ⟨by omega,by omega⟩;have q:=r j ((m j).mpr ⟨f,by omega⟩);cases e:NT (wn ws k) (wn ws j)with
  |false=>rfl
  |true=>
   have:=(dC K J (bA hF c b ne) t u).mp e
   grind
theorem gm{ws:List Wl}{i j k:Nat}(h:Cn ws i j)(h':Cn ws j k):Cn ws i k:=by
 induction h' with
 |refl=>exact h
 |step _ a t b=>exact .step b a t
theorem uR{ws:List Wl}{i j:Nat}(hi:i<ws.length)(h:Cn ws i j):Cn ws j i:=by
 induction h with
 |refl=>exact .refl
 |step h d t c=>
  obtain⟨g,x,a,b,e⟩:=t
  exact gm (.step .refl (h.lt hi) ⟨x,g,b,a,e.symm⟩) c
section
variable{ws:List Wl}(hU:∀w∈ws,NO w)(hF:PF ws){rs:List (List Nat)}(G:OO ws (2*ws.length) rs)
include hU hF
theorem sQ{f:Nat}(b:f<2*ws.length){r:List Nat}(R:dE ws f r)(o:aL ws r=MD):Pf ws (dR r) f=0:=by
 obtain⟨t,k,L,_⟩:=my hU hF b R;have q:=kL hU hF b R;have o:decide (0<(r.map (Nc ws)).sum)=MD:=o;rw[o]at q;rcases ou hU hF b R L with⟨_,a⟩|⟨_,_,a⟩
 ·exact a
 ·rw[a]at q;cases q
include G
theorem qd{i:Nat}(hi:i<ws.length):∃r∈rs,aL ws r=MD/\∃f,f<2*ws.length/\dE ws f r/\Cn ws i (f/2):=by
 obtain⟨k,d,ge,low⟩:=Ao hU hF (S:=fun j=>Cn ws i j) (fun j h=>h.lt hi) .refl;have o:=d.lt hi;obtain⟨r,g,m⟩:=dS G (2*k+1) (by omega);obtain⟨f,b,R⟩:=ck G r g;have c:Cn ws i (f/2):=oA hU hF b R hi m (by rw[show(2*k+1)/2=k by omega];exact d)
 have l:∀j,2*j∈r\/2*j+1∈r->Cn ws i j:=fun j h=>by
  rcases h with h|h
  ·have:=pD hU hF b R c h
   rwa [show 2*j/2=j by omega]at this
  ·have:=pD hU hF b R c h
   rwa [show(2*j+1)/2=j by omega]at this
 have L:RA ws r (l1 (wn ws k)) k:=⟨o,rfl,.inr m,fun j h=>ge j (l j h),fun j h e=>low j (l j h) e⟩;refine⟨r,g,?_,f,b,R,c⟩;show decide (0<(r.map (Nc ws)).sum)=MD;rw[kL hU hF b R];rcases ou hU hF b R L with⟨_,a⟩|⟨n,_,_⟩
 ·rw[a];rfl
 ·exact absurd m n
theorem nQ{r i:List Nat}(t:r∈rs)(l:i∈rs)(o:aL ws r=MD)(o':aL ws i=MD){f e:Nat}(j:f<2*ws.length)(d:e<2*ws.length)(R:dE ws f r)(s:dE ws e i)(c:Cn ws (f/2) (e/2)):r=i:=K3 fun ne=>by
 have C:∀{v x:List Nat},v∈rs->x∈rs->v≠x->∀g,g∈v->g∈x->False:=fun D E n g F H=>n (dt hU hF (J1 _) G _ D _ E g F H)
 have key:∀{r i:List Nat} {f e:Nat},r∈rs->i∈rs->r≠i->aL ws r=MD->f<2*ws.length->e<2*ws.length->dE ws f r->dE ws e i->Cn ws (f/2) (e/2)->Pf ws (dR r) e=-1:=fun{r i f e} t l ne o j d R s c=>by
  have a:=sQ hU hF j R o
  have w:=FO hU hF j R a c
  have u:Wt ws r e:=by
   by_cases p:e%2=0
   ·rwa [show 2*(e/2)=e by omega]at w
   ·have:fx (2*(e/2))=e:=by unfold fx;rw[MF (by omega)];omega
    rw[<-this];exact pX hU hF j R a w
  rcases u with u|u
  ·exact(C t l ne _ u (cP hU hF d s)).elim
  ·exact u
 have y:=key t l ne o j d R s c;have A:=key l t (Ne.symm ne) o' d j s R (uR (by omega) c)
 have low:∀{r i:List Nat} {f e:Nat},f<2*ws.length->e<2*ws.length->dE ws f r->dE ws e i->aL ws r=MD->la (fc ws r).1 (fc ws r).2<la (fc ws i).1 (fc ws i).2->Pf ws (dR i) f=0:=fun{r i f e} j d R s o lt=>by
  obtain⟨k,L,_,q⟩:=fJ hU hF j R
  obtain⟨I,J,_,_⟩:=fJ hU hF d s
  have m:2*k+1∈r:=by
   rcases q with⟨z,_⟩|⟨_,z⟩
   ·rw[o]at z;cases z
   ·exact z
  obtain⟨b,_⟩:=wM hU hF (om hU hF d s) L J (by omega) (fun z=>by omega)
  rw[<-dP hU hF j R (bU hU hF d s) m,iy,b]
 rcases Jh (la (fc ws r).1 (fc ws r).2) (la (fc ws i).1 (fc ws i).2)with h|h|h
 ·rw[low j d R s o h]at A;cases A
 ·obtain⟨k,_,b,_⟩:=fJ hU hF j R;obtain⟨I,_,B,_⟩:=fJ hU hF d s;refine ne (j0 hU hF G t l o o' ?_);have b1:=b.1;have K:=b.2;have M:=B.1;have N:=B.2
  unfold la at h;exact Prod.ext (by omega) (by omega)
 ·rw[low d j s R o' h]at y;cases y
end
def Nd(a:List (List Nat))(g:Nat):Nat:=a.findIdx fun r=>decide (g∈r)
def PZ(ws:List Wl)(cs:List Vc)(g:Nat):Nat:=cs.findIdx fun c=>decide (c=fa ws g)
def OU(a:List (List Nat))(i:Nat):List Nat:=(a[i]?).getD []
def OV(a:List (List Nat))(i:Nat):Nat:=(OU a i).headD 0
section
variable{ws:List Wl}(hU:∀w∈ws,NO w)(hF:PF ws){rs:List (List Nat)}(G:OO ws (2*ws.length) rs){cs:List Vc}(nd:cs.Nodup)(hc:∀c,c∈cs↔∃g,g<2*ws.length/\fa ws g=c)
include G in
theorem iP{g:Nat}(a:g<2*ws.length):Nd rs g<rs.length/\g∈OU rs (Nd rs g):=by obtain⟨r,b,m⟩:=dS G g a;have lt:Nd rs g<rs.length:=List.findIdx_lt_length_of_exists ⟨r,b,MI m⟩;refine⟨lt,?_⟩;have:=List.findIdx_getElem (w:=lt);unfold OU;rw[J0 lt,Kd];exact MJ this
include G in
theorem d7{i:Nat}(hi:i<rs.length):OU rs i∈rs/\OV rs i<2*ws.length/\dE ws (OV rs i) (OU rs i):=by
 have e:OU rs i=rs[i]:=by unfold OU;rw[J0 hi,Kd]
 have m:OU rs i∈rs:=by rw[e];exact JW hi
 obtain⟨f,a,R⟩:=ck G _ m;have h:OV rs i=f:=by obtain⟨k,_,_,b⟩:=R;show(OU rs i).headD 0=f;rw[b,rn,Kt];rfl
 rw[h];exact⟨m,a,R⟩
include hU hF G in
theorem gN{g i:Nat}(hi:i<rs.length)(h:g∈OU rs i):Nd rs g=i:=by obtain⟨m,a,R⟩:=d7 G hi;have b:=cQ hU hF a R g h;obtain⟨lt,d⟩:=iP G b;obtain⟨f,_,_⟩:=d7 G lt;have e:=dt hU hF (J1 _) G _ m _ f g h d;have nd:=dX G;unfold OU at e;rw[J0 hi,J0 lt,Kd,Kd]at e;exact((List.getElem_inj nd).mp e).symm
include hc in
theorem j5{g:Nat}(a:g<2*ws.length):PZ ws cs g<cs.length/\cs[PZ ws cs g]?=MA (fa ws g):=by have lt:PZ ws cs g<cs.length:=List.findIdx_lt_length_of_exists ⟨fa ws g,(hc _).mpr ⟨g,a,rfl⟩,MI rfl⟩;refine⟨lt,?_⟩;rw[J0 lt];exact congrArg MA (MJ (List.findIdx_getElem (w:=lt)))
include hc in
theorem uI{g h:Nat}(b:g<2*ws.length)(d:h<2*ws.length):PZ ws cs g=PZ ws cs h↔fa ws g=fa ws h:=by
 constructor
 ·intro e;have a:=(j5 hc b).2;rw[e,(j5 hc d).2]at a;exact(Option.some.inj a).symm
 ·intro e;unfold PZ;rw[e]
def av(ws:List Wl)(cs:List Vc)(k:Nat):Nat:=PZ ws cs (2*k)
def bv(ws:List Wl)(cs:List Vc)(k:Nat):Nat:=PZ ws cs (2*k+1)
def au(n:Nat)(rs:List (List Nat))(m:Nat):Nat:=Nd rs (2*(n-1-m))
def bu(n:Nat)(rs:List (List Nat))(m:Nat):Nat:=Nd rs (2*(n-1-m)+1)
def Tr(ws:List Wl)(cs:List Vc)(k:Nat):Prop:=N4 (av ws cs) (bv ws cs) k (av ws cs k)≠N4 (av ws cs) (bv ws cs) k (bv ws cs k)
def Co(n:Nat)(rs:List (List Nat))(m:Nat):Prop:=N4 (au n rs) (bu n rs) m (au n rs m)≠N4 (au n rs) (bu n rs) m (bu n rs m)
theorem Ce(k:Nat):fb ws (2*k)=fa ws (2*k+1):=by
 have e:fx (2*k)=2*k+1:=by unfold fx;rw[MF (by omega)]
 rw[<-e,cZ]
open Classical in
include hU hF G hc in
theorem yf{k:Nat}(r:k<ws.length)(t:Tr ws cs k)(c:Co ws.length rs (ws.length-1-k)):False:=by
 generalize C:ws.length-1-k=m at c;generalize f:N4 (av ws cs) (bv ws cs) k=L at t;generalize l:N4 (au ws.length rs) (bu ws.length rs) m=J at c;have o:ws.length-1-m=k:=by omega
 have s:au ws.length rs m=Nd rs (2*k):=by unfold au;rw[o]
 have u:bu ws.length rs m=Nd rs (2*k+1):=by unfold bu;rw[o]
 have t:L (av ws cs k)≠L (bv ws cs k):=by rw[<-f];exact t
 have c:J (Nd rs (2*k))≠J (Nd rs (2*k+1)):=by rw[<-l,<-s,<-u];exact c
 let a:Vc->Int:=fun v=>if L (cs.findIdx fun c=>decide (c=v))=L (av ws cs k)then 1 else 0
 let q:Nat->Int:=fun i=>if J i=J (Nd rs (2*k))then 1 else 0
 have p0:sg rs.length (fun i=>q i*sg ws.length fun j=>dR (OU rs i) j*(a (fb ws (2*j))-a (fa ws (2*j))))=0:=bS fun i hi=>by obtain⟨_,b,R⟩:=d7 G hi;rw[jJ hU hF b R a,Mn]
 rw[aJ (h:=fun i=>sg ws.length fun j=>q i*(dR (OU rs i) j*(a (fb ws (2*j))-a (fa ws (2*j))))) fun i _=>(nT _ _ _).symm,uU]at p0
 have one:∀g,g<2*ws.length->sg rs.length (fun i=>q i*(if g∈OU rs i then 1 else 0))=q (Nd rs g):=fun g p=>by
  rw[aJ (h:=fun i=>if i=Nd rs g then q i else 0) fun i hi=>?_,cS,MF (iP G p).1];by_cases e:g∈OU rs i
  ·rw[MF e,MF (gN hU hF G hi e).symm,Int.mul_one]
  ·rw[ME e,ME fun z=>e (by rw[z];exact(iP G p).2),Mn]
 have d:∀j,j<ws.length->sg rs.length (fun i=>q i*(dR (OU rs i) j*(a (fb ws (2*j))-a (fa ws (2*j)))))=(q (Nd rs (2*j))-q (Nd rs (2*j+1)))*(a (fb ws (2*j))-a (fa ws (2*j))):=fun j x=>by rw[aJ (h:=fun i=>(a (fb ws (2*j))-a (fa ws (2*j)))*((q i*(if 2*j∈OU rs i then 1 else 0))-(q i*(if 2*j+1∈OU rs i then 1 else 0)))) fun i hi=>by unfold dR;grind,nT,eB,one _ (by omega),one _ (by omega),Int.mul_comm]
 rw[aJ d,aJ (h:=fun j=>if j=k then(fun _=>-1) j else 0) fun j x=>?_,cS (fun _=>-1) k ws.length,MF r]at p0
 ·cases p0
 ·rcases Nat.lt_trichotomy j k with h|h|h
  ·rw[ME (by omega)];have e:L (av ws cs j)=L (bv ws cs j):=by rw[<-f];exact n9 _ _ h
   have:a (fb ws (2*j))=a (fa ws (2*j)):=by rw[Ce];show(if L (bv ws cs j)=_ then(1:Int)else 0)=if L (av ws cs j)=_ then 1 else 0;rw[e]
   rw[this,Int.sub_self,Mn]
  ·subst h;rw[MF rfl];have y:q (Nd rs (2*j))=1:=MF rfl;have A:q (Nd rs (2*j+1))=0:=ME fun z=>c z.symm;have b:a (fb ws (2*j))=0:=by rw[Ce];exact ME fun z=>t z.symm
   have B:a (fa ws (2*j))=1:=MF rfl;rw[y,A,b,B];rfl
  ·rw[ME (by omega)]
   have e:J (Nd rs (2*j))=J (Nd rs (2*j+1)):=by
    have z:=n9 (au ws.length rs) (bu ws.length rs) (j:=ws.length-1-j) (n:=m) (by omega)
    rw[l]at z
    unfold au bu at z
    rwa [show ws.length-1-(ws.length-1-j)=j by omega]at z
   have:q (Nd rs (2*j))=q (Nd rs (2*j+1)):=by show(if _ then(1:Int)else 0)=if _ then 1 else 0;rw[e]
   rw[this,Int.sub_self,Int.zero_mul]
def Way(ws:List Wl)(cs:List Vc)(k x y:Nat):Prop:=∃d:Nat->Int,(∀j,k<=j->d j=0)/\∀a:Nat->Int,sg ws.length (fun j=>d j*(a (bv ws cs j)-a (av ws cs j)))=a y-a x
include hU hF G hc in
theorem Dw{k:Nat}(s:k<ws.length)(t:¬Tr ws cs k):Co ws.length rs (ws.length-1-k):=by
 have t:N4 (av ws cs) (bv ws cs) k (bv ws cs k)=N4 (av ws cs) (bv ws cs) k (av ws cs k):=K3 fun z=>t (Ne.symm z)
 have W:Way ws cs k (bv ws cs k) (av ws cs k):=by
  refine iL (av ws cs) (bv ws cs) (P:=Way ws cs k) (fun x=>⟨fun _=>0,fun _ _=>rfl,fun a=>?_⟩) (fun x y h=>?_) (fun x y z h l=>?_) (n:=k) (fun j b=>⟨fun i=>if i=j then 1 else 0,fun i hi=>ME (by omega),fun a=>?_⟩) _ _ t
  ·rw[bS fun j _=>Int.zero_mul _,Int.sub_self]
  ·obtain⟨d,o,p⟩:=h;refine⟨fun j=>-d j,fun j b=>by show -d j=0;rw[o j b];rfl,fun a=>?_⟩;have:=p a;rw[aJ (h:=fun j=>(-1)*(d j*(a (bv ws cs j)-a (av ws cs j)))) fun j _=>by grind,nT,this];omega
  ·obtain⟨d,o,p⟩:=h;obtain⟨e,u,v⟩:=l;refine⟨fun j=>d j+e j,fun j b=>by show d j+e j=0;rw[o j b,u j b];rfl,fun a=>?_⟩;rw[aJ (h:=fun j=>d j*(a (bv ws cs j)-a (av ws cs j))+e j*(a (bv ws cs j)-a (av ws cs j))) fun j _=>Int.add_mul ..,cg,p,v];omega
  ·rw[aJ (h:=fun i=>if i=j then(a (bv ws cs i)-a (av ws cs i))else 0) fun i _=>by split<;>grind,cS (fun i=>a (bv ws cs i)-a (av ws cs i)),MF (by omega)]
 obtain⟨f,r,A⟩:=W;generalize q:(fun j=>f j+if j=k then 1 else 0)=d;have B:d k=1:=by rw[<-q];show f k+_=1;rw[r k (J1 _),MF rfl];rfl
 have C:∀j,k<j->d j=0:=fun j b=>by rw[<-q];show f j+_=0;rw[r j (by omega),ME (by omega)];rfl
 have D:∀a:Nat->Int,sg ws.length (fun j=>d j*(a (bv ws cs j)-a (av ws cs j)))=0:=fun a=>by rw[aJ (h:=fun j=>f j*(a (bv ws cs j)-a (av ws cs j))+if j=k then(a (bv ws cs j)-a (av ws cs j))else 0) fun j _=>by rw[<-q];dsimp only;split<;>grind,cg,A,cS (fun i=>a (bv ws cs i)-a (av ws cs i)),MF s];omega
 have E:Flow ws d:=fun t=>by
  have:=D fun x=>if la ((cs[x]?).getD (0,0)).1 ((cs[x]?).getD (0,0)).2=t then 1 else 0
  have e:∀j,j<ws.length->d j*((if la ((cs[bv ws cs j]?).getD (0,0)).1 ((cs[bv ws cs j]?).getD (0,0)).2=t then 1 else 0)-(if la ((cs[av ws cs j]?).getD (0,0)).1 ((cs[av ws cs j]?).getD (0,0)).2=t then 1 else 0))=(if l2 (wn ws j)=t then d j else 0)-(if l1 (wn ws j)=t then d j else 0):=fun j b=>by unfold bv av;rw[(j5 hc (g:=2*j+1) (by omega)).2,(j5 hc (g:=2*j) (by omega)).2,Kd,Kd,kT,b8];split<;>split<;>grind
  rw[aJ e,eB]at this
  omega
 intro c;generalize J:ws.length-1-k=m at c;have pr:∀g,g<2*ws.length->Pf ws d (OV rs (Nd rs g))=Pf ws d g:=fun g F=>by obtain⟨lt,H⟩:=iP G F;obtain⟨_,I,R⟩:=d7 G lt;exact(dP hU hF I R E H).symm
 have:=iL (au ws.length rs) (bu ws.length rs) (P:=fun x y=>Pf ws d (OV rs x)=Pf ws d (OV rs y)) (fun _=>rfl) (fun _ _ h=>h.symm) (fun _ _ _ h l=>h.trans l) (n:=m) (fun j b=>by
  unfold au bu
  rw[pr _ (by omega),pr _ (by omega),gW,iy,C _ (by omega),Int.add_zero]) _ _ c
 unfold au bu at this;rw[show ws.length-1-m=k by omega,pr _ (by omega),pr _ (by omega),gW,iy,B]at this;omega
end
theorem xW{ws:List Wl}{φ:Nat->Nat}(k:∀j,j<ws.length->φ (2*j)=φ (2*j+1))(cr:∀g h,g<2*ws.length->h<2*ws.length->fa ws g=fa ws h->φ g=φ h){i j:Nat}(hi:i<ws.length)(h:Cn ws i j):∀g x,g/2=i->x/2=j->φ g=φ x:=by
 have f:∀g,g/2<ws.length->φ g=φ (2*(g/2)):=fun g l=>by
  rcases K6 g with p|p
  ·rw[show 2*(g/2)=g by omega]
  ·rw[k _ l,show 2*(g/2)+1=g by omega]
 induction h with
 |refl=>intro g x a b;rw[f g (by omega),f x (by omega),a,b]
 |step h n t m=>
  intro g x a b
  obtain⟨u,v,c,d,e⟩:=t
  have:=h.lt hi
  rw[m g u a c,cr u v (by omega) (by omega) e,f v (by omega),f x (by omega),d,b]
section
variable{ws:List Wl}(hU:∀w∈ws,NO w)(hF:PF ws){rs:List (List Nat)}(G:OO ws (2*ws.length) rs){cs:List Vc}(hc:∀c,c∈cs↔∃g,g<2*ws.length/\fa ws g=c)
include hU hF G in
theorem zY{i j:Nat}(hi:i<ws.length)(h:Cn ws i j):∀g x,g/2=i->x/2=j->N4 (au ws.length rs) (bu ws.length rs) ws.length (Nd rs g)=N4 (au ws.length rs) (bu ws.length rs) ws.length (Nd rs x):=by
 have b:∀j,j<ws.length->N4 (au ws.length rs) (bu ws.length rs) ws.length (Nd rs (2*j))=N4 (au ws.length rs) (bu ws.length rs) ws.length (Nd rs (2*j+1)):=fun j r=>by
  have z:=n9 (au ws.length rs) (bu ws.length rs) (j:=ws.length-1-j) (n:=ws.length) (by omega)
  have e:ws.length-1-(ws.length-1-j)=j:=by omega
  unfold au bu at z ⊢
  rwa [e]at z
 refine xW (φ:=fun g=>N4 (au ws.length rs) (bu ws.length rs) ws.length (Nd rs g)) b (fun g h f k e=>?_) hi h;refine(u9 hU hF (S:=fun x=>N4 (au ws.length rs) (bu ws.length rs) ws.length (Nd rs x)=N4 (au ws.length rs) (bu ws.length rs) ws.length (Nd rs g)) (v:=fa ws g) (fun x l ex o=>?_) f rfl rfl h k e.symm).symm;have d:=f9 l;have e1:Nd rs (bh ws (fx x))=Nd rs (fx x):=by obtain⟨lt,m⟩:=iP G d;obtain⟨_,q,R⟩:=d7 G lt;exact gN hU hF G lt (iQ hU hF q R _ m)
 have e2:N4 (au ws.length rs) (bu ws.length rs) ws.length (Nd rs (fx x))=N4 (au ws.length rs) (bu ws.length rs) ws.length (Nd rs x):=by
  rcases K6 x with p|p
  ·have a:=b (x/2) (by omega);rw[show 2*(x/2)=x by omega]at a;rw[show fx x=x+1 by unfold fx;rw[MF p]];exact a.symm
  ·have a:=b (x/2) (by omega);rw[show 2*(x/2)+1=x by omega]at a;rw[show fx x=2*(x/2) by unfold fx;rw[ME (by omega)];omega];exact a
 show N4 (au ws.length rs) (bu ws.length rs) ws.length (Nd rs (bh ws (fx x)))=_;rw[e1,e2];exact o
include hc in
theorem sa{i j:Nat}(hi:i<ws.length)(h:Cn ws i j):∀g x,g/2=i->x/2=j->N4 (av ws cs) (bv ws cs) ws.length (PZ ws cs g)=N4 (av ws cs) (bv ws cs) ws.length (PZ ws cs x):=xW (φ:=fun g=>N4 (av ws cs) (bv ws cs) ws.length (PZ ws cs g)) (fun j a=>n9 (av ws cs) (bv ws cs) a) (fun g h b d e=>by rw[(uI hc b d).mpr e]) hi h
def Ph(ws:List Wl)(rs:List (List Nat)):List Nat:=(J6 rs.length).filter fun i=>!aL ws (OU rs i)
theorem Aj(ws:List Wl)(rs:List (List Nat)):(Ph ws rs).length=(rs.filter fun r=>!aL ws r).length:=by
 have e:rs=(J6 rs.length).map (OU rs):=by
  apply List.ext_getElem
  ·simp
  ·intro i a b;simp[OU,a]
 conv=>rhs;rw[e,List.filter_map,IZ]
 rfl
theorem dh{i:Nat}:i∈Ph ws rs↔i<rs.length/\aL ws (OU rs i)=MD:=by unfold Ph;rw[Jm,Jq,Bool.not_eq_true']
theorem nS(f:Nat->Nat)(h:∀i j,i∈Ph ws rs->j∈Ph ws rs->f i=f j->i=j):((Ph ws rs).map f).Nodup:=by have n:(Ph ws rs).Nodup:=Mm _ LN;exact KD.mpr (Lp (fun{a b} d k ne e=>ne (h a b d k e)) n)
theorem m8(p:List Nat->Bool):∀rs:List (List Nat),rs.length=(rs.filter p).length+(rs.filter fun r=>!p r).length
 |[]=>rfl
 |r::rs=>by
  have a:=m8 p rs
  rw[L5,L5,Jr]
  cases p r<;>simp<;>omega
include hU hF G hc in
open Classical in
theorem G5(nd:cs.Nodup):(cs.length:Int)+(rs.filter (aL ws)).length=ws.length+(rs.filter fun r=>!aL ws r).length:=by
 have u:∀j,j<ws.length->av ws cs j<cs.length/\bv ws cs j<cs.length:=fun j q=>⟨(j5 hc (by omega)).1,(j5 hc (by omega)).1⟩;have A:∀j,j<ws.length->au ws.length rs j<rs.length/\bu ws.length rs j<rs.length:=fun j q=>⟨(iP G (by omega)).1,(iP G (by omega)).1⟩;obtain⟨E,Y⟩:=oP (av ws cs) (bv ws cs) ws.length u;obtain⟨F,Z⟩:=oP (au ws.length rs) (bu ws.length rs) ws.length A
 have one:∀i j,i∈Ph ws rs->j∈Ph ws rs->Cn ws (OV rs i/2) (OV rs j/2)->i=j:=fun i j hi q c=>by
  obtain⟨hi,K⟩:=dh.mp hi
  obtain⟨q,L⟩:=dh.mp q
  obtain⟨M,H,I⟩:=d7 G hi
  obtain⟨O,Q,S⟩:=d7 G q
  have e:=nQ hU hF G M O K L H Q I S c
  have a:=gN hU hF G hi (cP hU hF H I)
  have b:=gN hU hF G q (g:=OV rs i) (by rw[<-e];exact cP hU hF H I)
  exact a.symm.trans b
 have ex:∀k,k<ws.length->∃i∈Ph ws rs,Cn ws k (OV rs i/2):=fun k d=>by
  obtain⟨r,T,o,f,p,R,c⟩:=qd hU hF G d
  obtain⟨lt,m⟩:=iP G p
  obtain⟨C,B,R2⟩:=d7 G lt
  have e:=dt hU hF (J1 _) G _ C _ T f m (cP hU hF p R)
  refine⟨Nd rs f,dh.mpr ⟨lt,by rw[e];exact o⟩,?_⟩
  exact oA hU hF B R2 d m c
 have i2:Qo (N4 (au ws.length rs) (bu ws.length rs) ws.length) rs.length=(Ph ws rs).length:=by
  rw[qS F (l:=(Ph ws rs).map (N4 (au ws.length rs) (bu ws.length rs) ws.length)) (nS _ fun i j hi q e=>?_) fun v=>⟨fun h=>?_,fun h=>?_⟩,IZ]
  ·have P:=iL (au ws.length rs) (bu ws.length rs) (P:=fun x y=>∀k,k<ws.length->(Cn ws k (OV rs x/2)↔Cn ws k (OV rs y/2))) (fun _ _ _=>.rfl) (fun _ _ h k d=>(h k d).symm) (fun _ _ _ h J k d=>(h k d).trans (J k d)) (n:=ws.length) (fun m U k d=>by
    have key:∀g,g<2*ws.length->(Cn ws k (OV rs (Nd rs g)/2)↔Cn ws k (g/2)):=fun g s=>by obtain⟨lt,C⟩:=iP G s;obtain⟨_,p,R⟩:=d7 G lt;exact⟨fun h=>pD hU hF p R h C,fun h=>oA hU hF p R d C h⟩
    unfold au bu
    rw[key _ (by omega),key _ (by omega),show 2*(ws.length-1-m)/2=(2*(ws.length-1-m)+1)/2 by omega]) i j e
   obtain⟨_,p,_⟩:=d7 G (dh.mp hi).1;exact one i j hi q ((P _ (by omega)).mp .refl)
  ·obtain⟨i,hi,e⟩:=Jp.mp h;exact⟨i,(dh.mp hi).1,e⟩
  ·obtain⟨x,D,e⟩:=h;obtain⟨_,p,R⟩:=d7 G D;obtain⟨i,hi,c⟩:=ex (OV rs x/2) (by omega);obtain⟨_,B,R2⟩:=d7 G (dh.mp hi).1;refine Jp.mpr ⟨i,hi,?_⟩;have z:=zY hU hF G (by omega) c (OV rs x) (OV rs i) rfl rfl;rw[gN hU hF G D (cP hU hF p R),gN hU hF G (dh.mp hi).1 (cP hU hF B R2)]at z;rw[<-z];exact e
 have i1:Qo (N4 (av ws cs) (bv ws cs) ws.length) cs.length=(Ph ws rs).length:=by
  rw[qS E (l:=(Ph ws rs).map fun i=>N4 (av ws cs) (bv ws cs) ws.length (PZ ws cs (OV rs i))) (nS _ fun i j hi q e=>?_) fun v=>⟨fun h=>?_,fun h=>?_⟩,IZ]
  ·have P:=iL (av ws cs) (bv ws cs) (P:=fun x y=>∀k,k<ws.length->((∃g,g<2*ws.length/\PZ ws cs g=x/\Cn ws k (g/2))↔∃g,g<2*ws.length/\PZ ws cs g=y/\Cn ws k (g/2))) (fun _ _ _=>.rfl) (fun _ _ h k d=>(h k d).symm) (fun _ _ _ h J k d=>(h k d).trans (J k d)) (n:=ws.length) (fun m U k d=>by
    constructor
    ·rintro⟨g,s,e,c⟩;exact⟨2*m+1,by omega,rfl,.step c (by omega) ⟨g,2*m,rfl,by omega,(uI hc s (by omega)).mp e⟩⟩
    ·rintro⟨g,s,e,c⟩;exact⟨2*m,by omega,rfl,.step c (by omega) ⟨g,2*m+1,rfl,by omega,(uI hc s (by omega)).mp e⟩⟩) _ _ e
   obtain⟨_,p,_⟩:=d7 G (dh.mp hi).1;obtain⟨_,B,_⟩:=d7 G (dh.mp q).1;obtain⟨g,s,V,c⟩:=(P (OV rs i/2) (by omega)).mp ⟨OV rs i,p,rfl,.refl⟩;exact one i j hi q (.step c (by omega) ⟨g,OV rs j,rfl,rfl,(uI hc s B).mp V⟩)
  ·obtain⟨i,hi,e⟩:=Jp.mp h;obtain⟨_,p,_⟩:=d7 G (dh.mp hi).1;exact⟨_,(j5 hc p).1,e⟩
  ·obtain⟨x,D,e⟩:=h;obtain⟨g,s,W⟩:=(hc _).mp (JW D);obtain⟨i,hi,c⟩:=ex (g/2) (by omega);refine Jp.mpr ⟨i,hi,?_⟩
   have ex:PZ ws cs g=x:=by
    have a:=j5 hc s
    have b:=a.2
    rw[W,J0 a.1]at b
    exact(List.getElem_inj nd).mp (Option.some.inj b)
   rw[<-sa hc (by omega) c g (OV rs i) rfl rfl,ex];exact e
 have st:Qn (av ws cs) (bv ws cs) ws.length+Qn (au ws.length rs) (bu ws.length rs) ws.length=ws.length:=by
  have e2:Qn (au ws.length rs) (bu ws.length rs) ws.length=sg ws.length fun k=>if Tr ws cs k then 0 else 1:=by
   unfold Qn;rw[<-xQ];refine aJ fun k d=>?_;by_cases t:Tr ws cs k
   ·rw[MF t];exact ME fun c=>yf hU hF G hc d t c
   ·rw[ME t];exact MF (Dw hU hF G hc d t)
  have e1:Qn (av ws cs) (bv ws cs) ws.length=sg ws.length fun k=>if Tr ws cs k then 1 else 0:=by
   unfold Qn Tr;refine aJ fun k _=>?_
   congr
  have:∀N:Nat,sg N (fun _=>1)=N:=fun N=>by
   induction N with
   |zero=>rfl
   |succ N X=>rw[sg,X];omega
  rw[e1,e2,<-cg,aJ (h:=fun _=>1) fun k _=>by split<;>rfl,this]
 have fl:=m8 (aL ws) rs;have li:=Aj ws rs;omega
end
theorem AN(a b c d x y:Int):([PyData.tuple [.int a,.int b],.tuple [.int c,.int d]].any fun q=>K1 q (.tuple [.int x,.int y]))=decide ((a=x/\b=y)\/(c=x/\d=y)):=by simp only[Lm,List.any_nil,K1,Kj,gK,Bool.or_false,Mr];rw[LA];simp
def Od(V:Wl)(x y:Int):Bool:=decide ((V.1=x/\V.2.1=y)\/(V.2.2.1=x/\V.2.2.2=y))
def Oe(U V:Wl)(j:Nat):Option D:=if j=0 then(if Od V U.1 U.2.1=MC then MA (.tup [.int U.1,.int U.2.1])else MB)else(if Od V U.2.2.1 U.2.2.2=MC then MA (.tup [.int U.2.2.1,.int U.2.2.2])else MB)
def VH(U V:Wl):Bool:=Od V U.1 U.2.1||Od V U.2.2.1 U.2.2.2
theorem Gq{M:MH}{p q:Addr}{U V:Wl}{Q:DK}(c:M p=MA (.lst ((J6 2).filterMap (Oe U V))))(d:M q=MA (.lst []))(k:Q (.bl (VH U V)) M):EJ (.ref p) (.ref q) M Q:=by
 have e:(J6 2).filterMap (Oe U V)=(Oe U V 0).toList++(Oe U V 1).toList:=by show[0,1].filterMap (Oe U V)=_;simp only[List.filterMap_cons,List.filterMap_nil];cases Oe U V 0<;>cases Oe U V 1<;>rfl
 rw[e]at c;have f:Oe U V 0=if Od V U.1 U.2.1=MC then MA (.tup [.int U.1,.int U.2.1])else MB:=rfl;have g:Oe U V 1=if Od V U.2.2.1 U.2.2.2=MC then MA (.tup [.int U.2.2.1,.int U.2.2.2])else MB:=rfl;rw[f,g]at c;unfold VH at k;cases a:Od V U.1 U.2.1<;>cases b:Od V U.2.2.1 U.2.2.2<;>rw[a,b]at c k
 ·exact .mk _ _ (.lst c .nil) (.lst d .nil) rfl rfl k
 ·exact .mk _ _ (.lst c (.cons (Pd.of rfl) .nil)) (.lst d .nil) rfl rfl k
 ·exact .mk _ _ (.lst c (.cons (Pd.of rfl) .nil)) (.lst d .nil) rfl rfl k
 ·exact .mk _ _ (.lst c (.cons (Pd.of rfl) (.cons (Pd.of rfl) .nil))) (.lst d .nil) rfl rfl k
theorem Fg{ws:List Wl}{i j:Nat}:VH (wn ws j) (wn ws i)=MC↔R5 ws i j:=by
 have a:∀k,fa ws (2*k)=((wn ws k).1,(wn ws k).2.1):=fun k=>by unfold fa;rw[fM]
 have b:∀k,fa ws (2*k+1)=((wn ws k).2.2.1,(wn ws k).2.2.2):=fun k=>by unfold fa;rw[lx];rfl
 unfold VH Od;rw[Bool.or_eq_true,ML,ML];constructor
 ·rintro((h|h)|(h|h))
  ·exact⟨2*i,2*j,by omega,by omega,by rw[a,a,h.1,h.2]⟩
  ·exact⟨2*i+1,2*j,by omega,by omega,by rw[a,b,h.1,h.2]⟩
  ·exact⟨2*i,2*j+1,by omega,by omega,by rw[a,b,h.1,h.2]⟩
  ·exact⟨2*i+1,2*j+1,by omega,by omega,by rw[b,b,h.1,h.2]⟩
 ·rintro⟨g,h,rfl,rfl,e⟩;rcases K6 g with p|p<;>rcases K6 h with q|q
  ·rw[show g=2*(g/2) by omega,show h=2*(h/2) by omega,a,a]at e;exact .inl (.inl ⟨congrArg (·.1) e,congrArg (·.2) e⟩)
  ·rw[show g=2*(g/2) by omega,show h=2*(h/2)+1 by omega,a,b]at e;exact .inr (.inl ⟨congrArg (·.1) e,congrArg (·.2) e⟩)
  ·rw[show g=2*(g/2)+1 by omega,show h=2*(h/2) by omega,a,b]at e;exact .inl (.inr ⟨congrArg (·.1) e,congrArg (·.2) e⟩)
  ·rw[show g=2*(g/2)+1 by omega,show h=2*(h/2)+1 by omega,b,b]at e;exact .inr (.inr ⟨congrArg (·.1) e,congrArg (·.2) e⟩)
theorem BS(U V:Wl):(Oe U V 0).isSome=Od V U.1 U.2.1/\(Oe U V 1).isSome=Od V U.2.2.1 U.2.2.2:=by
 have a:Oe U V 0=if Od V U.1 U.2.1=MC then MA (.tup [.int U.1,.int U.2.1])else MB:=rfl;have b:Oe U V 1=if Od V U.2.2.1 U.2.2.2=MC then MA (.tup [.int U.2.2.1,.int U.2.2.2])else MB:=rfl;rw[a,b];constructor
 ·cases Od V U.1 U.2.1<;>rfl
 ·cases Od V U.2.2.1 U.2.2.2<;>rfl
theorem E9(g:Nat):Int.fdiv (g:Int) 2=((g/2:Nat):Int):=by rw[JY _ (by decide)];omega
theorem GZ{ws:List Wl}{f:Nat}{r:List Nat}(R:dE ws f r):r[0]?=MA f/\r.headD 0=f:=by obtain⟨a,_,_,rfl⟩:=R;unfold rn;rw[Kt];exact⟨rfl,rfl⟩
theorem wW:∀L:List Int,K1 (.list (L.map PyData.int)) (.list (L.map PyData.int))=MC:=fun L=>by
 rw[K1]
 induction L with
 |nil=>simp[Kj]
 |cons a L b=>rw[J5,Kj,b,K1,gK,MI rfl];rfl
def Pl(ps es:List Addr):List D:=(J6 es.length).map fun j=>.tup [if j=0 then .non else .ref ((ps[j-1]?).getD 0),.ref ((es[j]?).getD 0)]
def R0(L:List Int)(ins:List (List Nat))(qs:List Addr)(j n:Nat):List Addr:=((J6 n).filter fun i=>decide ((L[((ins[i]?).getD []).headD 0]?).getD 0=(j:Int))).map fun i=>(qs[i]?).getD 0
theorem yC(L:List Int)(ins:List (List Nat))(qs:List Addr)(j n:Nat):R0 L ins qs j (n+1)=R0 L ins qs j n++(if(L[((ins[n]?).getD []).headD 0]?).getD 0=(j:Int)then[(qs[n]?).getD 0]else[]):=by
 unfold R0;rw[KW,LW,Jk]
 congr 1
 by_cases h:(L[((ins[n]?).getD []).headD 0]?).getD 0=(j:Int)
 ·rw[MF h,L5,MF (MI h)];rfl
 ·rw[ME h,L5,ME (fun z=>h (MJ z))];rfl
theorem Bi(L:List Int)(ins:List (List Nat))(qs:List Addr)(j n:Nat):(R0 L ins qs j n).length<=n:=by unfold R0;rw[IZ];have:=Ky (fun i=>decide ((L[((ins[i]?).getD []).headD 0]?).getD 0=(j:Int))) (J6 n);rw[Mo]at this;exact this
theorem Ak(ps es:List Addr):(Pl ps es).length=es.length:=by unfold Pl;simp
theorem Ar(ps es:List Addr){j:Nat}(h:j<es.length):(Pl ps es)[j]?=MA (.tup [if j=0 then .non else .ref ((ps[j-1]?).getD 0),.ref ((es[j]?).getD 0)]):=by unfold Pl;rw[J4,List.getElem?_range h];rfl
def Qv(ps es:List Addr):List D:=(J6 es.length).map fun j=>.tup [.ref ((ps[j]?).getD 0),.ref ((es[j]?).getD 0)]
theorem zf(ps es:List Addr)(e:Addr):Qv ps (es++[e])=Qv ps es++[.tup [.ref ((ps[es.length]?).getD 0),.ref e]]:=by
 unfold Qv;rw[JX,List.length_singleton,KW,Jk]
 congr 1
 ·refine La fun j a=>?_;rw[JO (Jq.mp a)]
 ·simp
theorem zu(ps es:List Addr)(a:Addr):[D.tup [.non,.ref a]]++Qv ps es=Pl ps (a::es):=by unfold Pl Qv;rw[Jr,Kt,J5,KC];rfl
theorem Av{ws:List Wl}(b:∀w∈ws,NO w)(hF:PF ws){d:List (List Nat)}(G:OO ws (2*ws.length) d){L:List Int}(f:ko ws L){g:Nat}(h:g<2*ws.length):∃v:Nat,L[g]?=MA (v:Int)/\v<=(d.filter (aL ws)).length:=by
 obtain⟨j,k,l,n⟩:=wG b hF f;have e:=tJ k G;subst e;obtain⟨r,o,m⟩:=dS G g h;rcases lD b hF G l n ((la (fc ws r).1 (fc ws r).2).toNat+1) r o (by omega) g m with⟨a,_⟩|⟨i,S,_,a,_,c,_⟩
 ·exact⟨0,a,Kb _⟩
 ·exact⟨i+1,c,(Ja.mp a).1⟩
structure Lb(ws:List Wl)(L:Nat->Nat):Prop where
 lt:∀x,x<ws.length->L x<ws.length
 cn:∀x y,x<ws.length->y<ws.length->L x=L y->Cn ws x y
theorem Lb.id(ws:List Wl):Lb ws fun x=>x:=⟨fun _ h=>h,fun x y _ _ e=>by subst e;exact .refl⟩
theorem Lb.mg{ws:List Wl}{L:Nat->Nat}(h:Lb ws L){a b:Nat}(c:a<ws.length)(g:b<ws.length)(t:R5 ws b a):Lb ws (Ng L a b):=by
 have i:Cn ws b a:=.step .refl c t;refine⟨Ca h.lt c,fun x y d f e=>?_⟩;unfold Ng at e;split at e
 ·rename_i p;split at e
  ·rename_i q;exact h.cn x y d f (p.trans q.symm)
  ·exact gm (h.cn x b d g p) (gm i (h.cn a y c f e))
 ·split at e
  ·rename_i q;exact gm (h.cn x a d c e) (gm (uR g i) (h.cn b y g f q.symm))
  ·exact h.cn x y d f e
theorem B6{L:Nat->Nat}{a b x y:Nat}(h:L x=L y):Ng L a b x=Ng L a b y:=by unfold Ng;rw[h]
theorem F5(L:Nat->Nat)(a b:Nat):Ng L a b a=Ng L a b b:=by unfold Ng;rw[MF (rfl:L b=L b)];split<;>rfl
theorem Dg{ws:List Wl}{L:Nat->Nat}(h:∀a b,a<ws.length->b<a->R5 ws b a->L a=L b){x y:Nat}(d:x<ws.length)(c:Cn ws x y):L x=L y:=by
 induction c with
 |refl=>rfl
 |@step j k c hk t ih=>
  have f:=c.lt d
  rw[ih]
  rcases Nat.lt_trichotomy j k with z|z|z
  ·exact(h k j hk z t).symm
  ·rw[z]
  ·obtain⟨g,i,a,b,e⟩:=t;exact h j k f z ⟨i,g,b,a,e.symm⟩
def Pg(n:Nat)(L:Nat->Nat):List D:=(J6 n).map fun x=>D.int ((L x:Nat):Int)
theorem pW(n:Nat)(L:Nat->Nat):Pg n L=((J6 n).map fun x=>((L x:Nat):Int)).map D.int:=by unfold Pg;rw[KC];rfl
theorem nX(n:Nat)(L:Nat->Nat):(Pg n L).length=n:=by unfold Pg;simp
theorem ky{n x:Nat}(L:Nat->Nat)(h:x<n):(Pg n L)[x]?=MA (.int ((L x:Nat):Int)):=by unfold Pg;rw[J4,List.getElem?_range h];rfl
section
variable{ws:List Wl}(hU:∀w∈ws,NO w)(hF:PF ws){rs:List (List Nat)}(G:OO ws (2*ws.length) rs)
include hU hF G
theorem nV:rs.flatten.Nodup:=by
 have sub:∀l:List (List Nat),(∀r∈l,r∈rs)->l.Nodup->l.flatten.Nodup:=fun l=>by
  induction l with
  |nil=>intro _ _;exact Mw
  |cons r l g=>
   intro h nd
   obtain⟨i,j⟩:=Ku.mp nd
   rw[L8,Lv]
   obtain⟨f,k,R⟩:=ck G r (h r Jy)
   refine⟨pg hU hF k R,g (fun x n=>h x (Jn _ n)) j,fun a o b p e=>?_⟩
   subst e
   obtain⟨d,c,m⟩:=Lj.mp p
   have:=dt hU hF (J1 _) G r (h r Jy) d (h d (Jn _ c)) a o m
   exact i (this▸c)
 exact sub rs (fun r h=>h) (dX G)
theorem fH(g:Nat):g∈rs.flatten↔g<2*ws.length:=by
 constructor
 ·intro h;obtain⟨r,a,m⟩:=Lj.mp h;obtain⟨f,b,R⟩:=ck G r a;exact cQ hU hF b R g m
 ·intro h;obtain⟨r,a,m⟩:=dS G g h;exact Lj.mpr ⟨r,a,m⟩
theorem q0{ns:List Int}(a:ns.Perm (rs.flatten.map fun g:Nat=>(g:Int)))(up:ns.Pairwise (·<=·)):ns=(J6 (2*ws.length)).map fun g:Nat=>(g:Int):=by refine List.Perm.eq_of_pairwise (le:=(·<=·)) (fun x y _ _ b c=>by omega) up ?_ (a.trans (List.Perm.map _ ((List.perm_ext_iff_of_nodup (nV hU hF G) LN).mpr fun g=>by rw[fH hU hF G,Jq])));rw[KD];exact List.Pairwise.imp (fun h=>by omega) List.pairwise_lt_range
theorem GU(g:Nat):Nc ws (2*g)+Nc ws (2*g+1)=0:=by
 have e:fx (2*g)=2*g+1:=by unfold fx;rw[MF (by omega)]
 unfold Nc;rw[<-e,cZ,nB];omega
theorem AO:(rs.flatten.map (Nc ws)).sum=0:=by rw[iT (n:=ws.length) (Nc ws) _ (nV hU hF G) fun g a=>(fH hU hF G g).mp a];refine bS fun k b=>?_;rw[MF ((fH hU hF G _).mpr (by omega)),MF ((fH hU hF G _).mpr (by omega))];exact GU hU hF G k
end
theorem ye{ws:List Wl}(c:∀w∈ws,NO w):∀l:List Nat,(∀g∈l,g<2*ws.length)->-(400*(l.length:Int))<=(l.map (Nc ws)).sum/\(l.map (Nc ws)).sum<=400*(l.length:Int)
 |[],_=>by simp
 |g::l,h=>by
  have n:=ye c l fun x i=>h x (Jn _ i)
  have d:=h g Jy
  have a:=jg c d
  have b:=jg c (f9 d)
  rw[cZ]at b
  have pr:∀x y:Int,0<=x->x<=20->0<=y->y<=20->0<=x*y/\x*y<=400:=fun x y j k f m=>⟨Int.mul_nonneg j f,by have:=Int.mul_le_mul k m f (by decide);omega⟩
  have o:=pr _ _ a.1.1 a.1.2 b.2.1 b.2.2
  have p:=pr _ _ b.1.1 b.1.2 a.2.1 a.2.2
  rw[J5,K7,Jr]
  have e:Nc ws g=(fa ws g).1*(fb ws g).2-(fb ws g).1*(fa ws g).2:=rfl
  omega
def aq(t b S:Int):Rat:=Rat.divInt (t*t*S) (2*(b*b))
theorem ra{t b:Int}(c:0<b)(S:Int):aq t b S=((t:Rat)/b)*((t:Rat)/b)*(S:Rat)/2:=by
 have:(b:Rat)≠0:=fun z=>by
  have:b=0:=by exact_mod_cast z
  omega
 unfold aq;rw[Mk];simp only[JR];have a:((2:Int):Rat)=2:=rfl;rw[a];grind
theorem uK(t b:Int):aq t b 0=0:=by unfold aq;rw[Mn,Rat.zero_divInt]
theorem C3{t b:Int}(a:0<b)(S T:Int):aq t b S+aq t b T=aq t b (S+T):=by rw[ra a,ra a,ra a,Ld];grind
theorem Gu{ws:List Wl}(c:∀w∈ws,NO w)(hF:PF ws){r:List Nat}(h:VN ws r){t b X Y:Int}(a:0<b):(r.map (Qq t b X Y ws)).sum/2=aq t b (r.map (Nc ws)).sum:=by rw[ra a,Cp c hF h a]
theorem Ck{t b X Y:Int}(C:OE t b X Y){s:Int}(g:-1000000<=s)(h:s<=1000000):MY 200 (aq t b s):=by
 have l:=Ma.l4 (t:=t*t*s) (b:=2*(b*b)) (by have:=JE C.b0 C.b0;omega);have d:(10:Int)^26<2^90:=by decide
 have e:(10:Int)^24<2^90:=by decide
 have a:Bd 90 t:=by have:=C.t0;have:=C.t1;show t.natAbs<2^90;omega
 have c:Bd 90 b:=by have:=C.b0;have:=C.b1;show b.natAbs<2^90;omega
 have bs:Bd 20 s:=by show s.natAbs<2^20;omega
 have f:Bd 2 (2:Int):=by decide
 exact⟨((a.mul a).mul bs).of_le l.1,(((f.mul (c.mul c)).mono (by decide)).of_le l.2:Bd 200 ((aq t b s).den:Int))⟩
theorem DQ{t b:Int}(g:0<t)(f:0<b)(S:Int):0<(aq t b S).num↔0<S:=by
 have a:(0:Rat)<(t:Rat)/b:=by rw[Rat.div_def];exact LK (NA g) (Rat.inv_pos.mpr (NA f))
 have i:=LK a a;have e:aq t b S*2=((t:Rat)/b)*((t:Rat)/b)*(S:Rat):=by rw[ra f];grind
 have d:=sgn_mul i S;rw[<-e]at d;unfold NC at d;have z:=decide_eq_decide.mp (Ma.Cf 0 (aq t b S));have z:0<(aq t b S).num↔0<aq t b S:=by rw[<-z];show _↔(0:Int)*_<(aq t b S).num*((1:Nat):Int);omega
 rw[z];constructor
 ·intro h;have j:(0:Rat)<aq t b S*2:=LK h (by decide);rw[MF j]at d;exact Int.sign_eq_one_iff_pos.mp d.symm
 ·intro h;rw[K8 h]at d;by_cases c:(0:Rat)<aq t b S*2
  ·grind
  ·rw[ME c]at d;split at d<;>cases d
section
variable{ws:List Wl}(hU:∀w∈ws,NO w)(hF:PF ws){rs:List (List Nat)}(G:OO ws (2*ws.length) rs)
theorem Am{c:Vc}:c∈Nl ws ws.length↔∃g,g<2*ws.length/\fa ws g=c:=by
 have key:∀i,i<=ws.length->(c∈Nl ws i↔∃g,g<2*i/\fa ws g=c):=fun i=>by
  induction i with
  |zero=>intro _;simp[Nl]
  |succ i b=>
   intro hi
   have d:ws[i]?=MA (wn ws i):=by obtain⟨a,_,_⟩:=bo (ws:=ws) (k:=(i:Int)) (by omega) (by omega);rw[Kn]at a;exact a
   have e:Nl ws (i+1)=fg (fg (Nl ws i) (ea (wn ws i))) (eb (wn ws i)):=by
    show(match ws[i]? with|some w=>fg (fg (Nl ws i) (ea w)) (eb w)|none=>Nl ws i)=_
    rw[d]
   have e1:ea (wn ws i)=fa ws (2*i):=by unfold fa;rw[fM];rfl
   have e2:eb (wn ws i)=fa ws (2*i+1):=by unfold fa;rw[lx];rfl
   rw[e,iK,iK,b (by omega),e1,e2]
   constructor
   ·rintro((⟨g,f,q⟩|q)|q)
    ·exact⟨g,by omega,q⟩
    ·exact⟨2*i,by omega,q.symm⟩
    ·exact⟨2*i+1,by omega,q.symm⟩
   ·rintro⟨g,f,q⟩;by_cases z:g<2*i
    ·exact .inl (.inl ⟨g,z,q⟩)
    ·rcases(show g=2*i\/g=2*i+1 by omega)with rfl|rfl
     ·exact .inl (.inr q.symm)
     ·exact .inr q.symm
 exact key _ (J1 _)
include hU hF G in
theorem Al{ps:List Vc}(a:ps.Perm (Nl ws ws.length)):(ps.length:Int)-ws.length+((rs.filter (aL ws)).length+1:Nat)=1+((rs.filter fun r=>!aL ws r).length:Int):=by have:=G5 hU hF G (cs:=ps) (fun c=>by rw[a.mem_iff];exact Am) (a.nodup_iff.mpr (ot ws _));omega
def Pj(L:Nat->Nat)(ws:List Wl)(rs:List (List Nat)):List Int:=(rs.filter fun r=>!aL ws r).map fun r=>((L (r.headD 0/2):Nat):Int)
include hU hF G in
theorem wk{L:Nat->Nat}(l:∀x y,x<ws.length->y<ws.length->(L x=L y↔Cn ws x y)){ns ms:List Int}(t:ns.Perm (Pj L ws rs))(up:ns.Pairwise (·<=·))(u:∀k,k∈ms↔k∈(J6 ws.length).map fun x=>((L x:Nat):Int))(z:ms.Nodup)(A:ms.Pairwise (·<=·)):ns=ms:=by
 have hd:∀r∈rs.filter fun r=>!aL ws r,∃f,f<2*ws.length/\dE ws f r/\r.headD 0=f/\r∈rs/\aL ws r=MD:=fun r d=>by obtain⟨m,o⟩:=Jm.mp d;obtain⟨f,g,R⟩:=ck G r m;refine⟨f,g,R,?_,m,by simpa using o⟩;obtain⟨B,_,_,e⟩:=R;rw[e,rn,Kt];rfl
 have nd:(Pj L ws rs).Nodup:=by refine KD.mpr (Lp (fun{a c} C D ne e=>?_) (Mm _ (dX G)));obtain⟨f,g,R,j,m,o⟩:=hd a C;obtain⟨n,i,p,b,E,F⟩:=hd c D;rw[j,b]at e;exact ne (nQ hU hF G m E o F g i R p ((l _ _ (by omega) (by omega)).mp (by omega)))
 refine List.Perm.eq_of_pairwise (le:=(·<=·)) (fun x y _ _ H I=>by omega) up A (t.trans ((List.perm_ext_iff_of_nodup nd z).mpr fun v=>?_));rw[u];constructor
 ·intro h;obtain⟨r,d,e⟩:=Jp.mp h;obtain⟨f,g,R,j,m,o⟩:=hd r d;rw[j]at e;exact Jp.mpr ⟨f/2,Jq.mpr (by omega),e⟩
 ·intro h;obtain⟨x,q,e⟩:=Jp.mp h;rw[Jq]at q;obtain⟨r,d,o,f,g,R,c⟩:=qd hU hF G q;have s:r∈rs.filter fun r=>!aL ws r:=Jm.mpr ⟨d,by rw[o];rfl⟩;obtain⟨n,i,p,b,_,_⟩:=hd r s;have:n=f:=by obtain⟨B,_,_,e⟩:=R;rw[<-b,e,rn,Kt];rfl
  subst this;refine Jp.mpr ⟨r,s,?_⟩;rw[b,<-e,(l _ _ (by omega) (by omega)).mpr c]
end
theorem A5(X:List D)(h:0<X.length):cutD X (MA 1) MB++cutD X MB (MA 1)=X.drop 1++X.take 1:=by
 have e1:HT.sIx X.length 0 (MA 1)=1:=by rw[show(MA (1:Int))=MA ((1:Nat):Int)from rfl,HT.uH,Nat.min_eq_left (by omega)]
 have e2:HT.sIx X.length X.length (MA 1)=1:=by rw[show(MA (1:Int))=MA ((1:Nat):Int)from rfl,HT.uH,Nat.min_eq_left (by omega)]
 unfold cutD;rw[e1,e2,HT.pG,HT.pG,List.drop_zero,Nat.sub_zero,Kr (by rw[List.length_drop];omega)]
theorem zC{ws:List Wl}{f:Nat}{r:List Nat}(R:dE ws f r):r.drop 1++r.take 1=r.map (bh ws):=by
 obtain⟨k,_,e,rfl⟩:=R;have d:(rn ws f k).drop 1=(J6 k).map fun i=>Nf ws f (i+1):=by unfold rn;rw[Kt,J5,List.drop_succ_cons,List.drop_zero,KC];rfl
 have t:(rn ws f k).take 1=[f]:=by unfold rn;rw[Kt,J5];rfl
 have m:(rn ws f k).map (bh ws)=((J6 k).map fun i=>Nf ws f (i+1))++[f]:=by
  unfold rn;rw[KC,KW,Jk]
  congr 1
  show[bh ws (Nf ws f k)]=[f];rw[e]
 rw[d,t,m]
theorem AZ(L:Nat->Nat)(ws:List Wl){a:List (List Nat)}{j:Nat}{r:List Nat}(e:a[j]?=MA r):Pj L ws (a.take (j+1))=Pj L ws (a.take j)++(if aL ws r=MC then[]else[((L (r.headD 0/2):Nat):Int)]):=by
 unfold Pj;rw[KR,e,LW,Jk]
 congr 1
 cases z:aL ws r with
 |true=>rw[MF rfl,LY,L5,ME (by rw[z];decide)];rfl
 |false=>rw[ME (by decide),LY,L5,MF (by rw[z];rfl)];rfl
theorem Ac(p q:Rat):Rat.divInt (p.num*(q.den:Int)+q.num*(p.den:Int)) ((p.den:Int)*(q.den:Int))=p+q:=by have a:=p.den_nz;have b:=q.den_nz;rw[<-Rat.divInt_add_divInt _ _ (by omega) (by omega),Lh,Lh]
end SD
namespace HT
open PySem PyProof.Rows
end HT
namespace SD
open PySem PySem.Spec PyProof.Rows L2
open PySem PySem.SetTable
theorem sub_len'{b:Type}[DecidableEq b]:∀{l m:List b},l.Nodup->(∀x∈l,x∈m)->l.length<=m.length
 |[],_,_,_=>Kb _
 |a::l,m,h,s=>by
  rw[Ku]at h
  have c:=s a Jy
  have:=sub_len' (m:=m.erase a) h.2 fun x d=>(List.mem_erase_of_ne (fun e=>by subst e;exact h.1 d)).mpr (s x (Jn _ d))
  rw[List.length_erase_of_mem c]at this
  have:=List.length_pos_of_mem c
  rw[Jr];omega
def ad(t:K4):Nat->Probe->Probe
 |0,p=>p
 |n+1,p=>ad t n (t.advance p)
theorem lB(t:K4):∀(n m:Nat) (p:Probe),ad t (n+m) p=ad t m (ad t n p)
 |0,m,p=>by rw[Nat.zero_add];rfl
 |n+1,m,p=>by rw[show n+1+m=(n+m)+1 by omega];exact lB t n m (t.advance p)
theorem oS(t:K4)(n:Nat)(p:Probe):ad t (n+1) p=t.advance (ad t n p):=lB t n 1 p
theorem wm(t:K4)(p:Probe):(t.advance p).dummy=p.dummy:=by unfold SetTable.advance;split<;>rfl
theorem yL{t u:K4}(e:t.mask=u.mask)(p:Probe):t.advance p=u.advance p:=by unfold SetTable.advance;rw[e]
theorem pB{t u:K4}(e:t.mask=u.mask):∀(n:Nat) (p:Probe),ad t n p=ad u n p
 |0,_=>rfl
 |n+1,p=>by rw[ad,ad,yL e,pB e n]
theorem mh{t u:K4}(e:t.mask=u.mask)(h:Int):t.probeStart h=u.probeStart h:=by unfold SetTable.probeStart;rw[e]
def N6(m:Nat)(h:Int):Nat->Nat×Nat
 |0=>(bits h%(m+1),bits h)
 |K+1=>leap m (N6 m h K).1 (N6 m h K).2
def RM(m:Nat)(h:Int)(K:Nat):Probe:={ j:=(N6 m h K).1,more:=runEnd m (N6 m h K).1-(N6 m h K).1,i:=(N6 m h K).1,perturb:=(N6 m h K).2,dummy:=MB }
theorem tX(m i:Nat):runEnd m i-i<=9:=by unfold SetTable.runEnd;split<;>omega
theorem gV(t:K4):∀(r:Nat) (p:Probe),r<=p.more->ad t r p={ p with j:=p.j+r,more:=p.more-r }
 |0,p,_=>rfl
 |r+1,p,h=>by
  rw[oS,gV t r p (by omega)]
  unfold SetTable.advance
  rw[MF (by show p.more-r>0;omega)]
  show({ p with j:=p.j+r+1,more:=p.more-r-1 }:Probe)=_
  congr 1
theorem ug(t:K4)(h:Int):∀K,∃n,n<=10*K/\ad t n (t.probeStart h)=RM t.mask h K
 |0=>⟨0,J1 _,rfl⟩
 |K+1=>by
  obtain⟨n,a,e⟩:=ug t h K
  have b:=tX t.mask (N6 t.mask h K).1
  refine⟨n+((RM t.mask h K).more+1),by show n+(runEnd t.mask (N6 t.mask h K).1-(N6 t.mask h K).1+1)<=_;omega,?_⟩
  rw[lB,e,oS,gV t _ _ (J1 _)]
  unfold SetTable.advance
  rw[ME (by show ¬(RM t.mask h K).more-(RM t.mask h K).more>0;omega)]
  rfl
theorem uL(m:Nat)(h:Int):∀K,(N6 m h K).2=bits h/32^K
 |0=>by simp[N6]
 |K+1=>by
  show(N6 m h K).2/32=_
  rw[uL m h K,Nat.div_div_eq_div_mul,Nat.pow_succ]
theorem Au(h:Int):bits h<2^64:=by unfold SetTable.bits;have:=Int.emod_lt_of_pos h (show(0:Int)<2^64 by decide);have:=Int.emod_nonneg h (show(2^64:Int)≠0 by decide);omega
theorem Bg(m:Nat)(h:Int){K:Nat}(a:13<=K):(N6 m h K).2=0:=by rw[uL];refine Nat.div_eq_of_lt (Ju (Au h) ?_);exact Ke (show 2^64<=32^13 by decide) (Nat.pow_le_pow_right (by decide) a)
def Rh(m:Nat):Nat->Nat->Nat
 |0,x=>x
 |k+1,x=>(Rh m k x*5+1)%(m+1)
theorem rT(m:Nat)(h:Int):∀k,(N6 m h (13+k)).1=Rh m k (N6 m h 13).1
 |0=>rfl
 |k+1=>by
  show((N6 m h (13+k)).1*5+1+(N6 m h (13+k)).2/32)%(m+1)=(Rh m k (N6 m h 13).1*5+1)%(m+1)
  rw[rT m h k,Bg m h (by omega)]
theorem zA(m:Nat)(h:Int)(K:Nat):(N6 m h K).1<m+1:=by
 cases K with
 |zero=>exact Nat.mod_lt _ (by omega)
 |succ K=>exact Nat.mod_lt _ (by omega)
def Rm(m:Nat):Prop:=m=7\/m=31
theorem FK:∀x<8,∀j<8,∃k<8,Rh 7 k x=j:=by decide +kernel
theorem Cd:∀x<32,∀j<32,∃k<32,Rh 31 k x=j:=by decide +kernel
theorem Ec{t:K4}(c:Rm t.mask)(h:Int){j:Nat}(a:j<=t.mask):∃n,n<10*turns t.mask/\(ad t n (t.probeStart h)).j=j:=by
 have l:=zA t.mask h 13
 obtain⟨k,b,e⟩:∃k,k<=t.mask/\Rh t.mask k (N6 t.mask h 13).1=j:=by
  rcases c with q|q
  ·rw[q]at l a ⊢;obtain⟨k,b,e⟩:=FK _ l j (by omega);exact⟨k,by omega,e⟩
  ·rw[q]at l a ⊢;obtain⟨k,b,e⟩:=Cd _ l j (by omega);exact⟨k,by omega,e⟩
 obtain⟨n,f,d⟩:=ug t h (13+k);refine⟨n,by unfold SetTable.turns;omega,?_⟩;rw[d];show(N6 t.mask h (13+k)).1=j;rw[rT,e]
theorem ml{xs:Array Nat}{j:Nat}(up:xs.toList.Pairwise (· < ·)):∀(f lo hi:Nat),hi<=lo+f->lo<=hi->hi<=xs.size->(∀i x,i<lo->xs[i]?=MA x->x<j)->(∀i x,hi<=i->xs[i]?=MA x->j<=x)->
 below.go xs j f lo hi<=xs.size/\(∀i x,i<below.go xs j f lo hi->xs[i]?=MA x->x<j)/\∀i x,below.go xs j f lo hi<=i->xs[i]?=MA x->j<=x
 |0,lo,hi,h1,h2,h3,a,b=>by
  obtain rfl:lo=hi:=by omega
  exact⟨h3,a,b⟩
 |f+1,lo,hi,h1,h2,h3,a,b=>by
  rw[SetTable.below.go]
  by_cases l:lo<hi
  ·rw[MF l]
   have k:(lo+hi)/2<xs.size:=by omega
   have c:xs[(lo+hi)/2]?=MA xs[(lo+hi)/2]:=Jt k
   have n:xs.getD ((lo+hi)/2) j=xs[(lo+hi)/2]:=by simp[Array.getD,k]
   have mono:∀i d x g,i<d->xs[i]?=MA x->xs[d]?=MA g->x<g:=fun i d x g l e m=>by
    rw[<-JM]at e m
    obtain⟨l1,e1⟩:=Ja.mp e
    obtain⟨l2,e2⟩:=Ja.mp m
    have:=Kq.mp up i d l1 l2 l
    rw[e1,e2]at this;exact this
   dsimp only
   rw[n]
   by_cases q:xs[(lo+hi)/2]<j
   ·rw[MF q]
    refine ml up f _ _ (by omega) (by omega) h3 (fun i x h e=>?_) b
    by_cases z:i=(lo+hi)/2
    ·subst z;rw[c]at e;cases e;exact q
    ·exact Nat.lt_trans (mono i _ x _ (by omega) e c) q
   ·rw[ME q]
    refine ml up f _ _ (by omega) (by omega) (by omega) a fun i x h e=>?_
    by_cases z:i=(lo+hi)/2
    ·subst z;rw[c]at e;cases e;omega
    ·have:=mono _ i _ x (by omega) c e;omega
  ·rw[ME l]
   obtain rfl:lo=hi:=by omega
   exact⟨h3,a,b⟩
theorem below_at{xs:Array Nat}{j:Nat}(up:xs.toList.Pairwise (· < ·)):below xs j<=xs.size/\(∀i x,i<below xs j->xs[i]?=MA x->x<j)/\∀i x,below xs j<=i->xs[i]?=MA x->j<=x:=
 ml up xs.size 0 xs.size (by omega) (Kb _) (J1 _) (fun i x h=>by omega) fun i x h e=>by
  rw[LG h]at e;cases e
theorem yw{xs:Array Nat}{i j:Nat}(up:xs.toList.Pairwise (· < ·))(e:xs[i]?=MA j):below xs j=i:=by
 obtain⟨_,a,b⟩:=below_at (j:=j) up;have d:¬i<below xs j:=fun l=>by have:=a i j l e;omega
 have f:i<xs.size:=(LZ.mp e).1;by_cases l:below xs j<i
 ·have c:below xs j<xs.size:=by omega
  have:=b _ _ (J1 _) (Jt c);rw[<-JM]at e;obtain⟨l2,e2⟩:=Ja.mp e;have:=Kq.mp up (below xs j) i (by simpa using c) l2 l;rw[e2]at this;simp at this;omega
 ·omega
theorem vR{t:K4}(up:t.place.toList.Pairwise (· < ·)){i j:Nat}(e:t.place[i]?=MA j):t.slot j=.live i:=by unfold SetTable.slot;rw[yw up e];dsimp only;rw[e,MF (by simp)]
theorem lJ{t:K4}(up:t.place.toList.Pairwise (· < ·))(hd:t.dummies=#[]){j:Nat}(n:j∉t.place.toList):t.slot j=.empty:=by
 unfold SetTable.slot;dsimp only;rw[ME,ME]
 ·unfold SetTable.has;rw[hd];simp
 ·intro q;have q:t.place[below t.place j]?=MA j:=by simpa using q
  exact n (by rw[<-JM]at q;exact J9 q)
theorem Ax{t:K4}(up:t.place.toList.Pairwise (· < ·))(hd:t.dummies=#[])(j:Nat):(t.slot j=.empty/\j∉t.place.toList)\/∃i,t.slot j=.live i/\t.place[i]?=MA j:=by
 by_cases h:j∈t.place.toList
 ·obtain⟨i,hi,e⟩:=LC h;have a:t.place[i]?=MA j:=by rw[<-JM,J0 hi,e]
  exact .inr ⟨i,vR up a,a⟩
 ·exact .inl ⟨lJ up hd h,h⟩
theorem room{t:K4}(h:t.place.size<=t.mask):∃j,j<=t.mask/\j∉t.place.toList:=K3 fun n=>by have:=sub_len' (l:=J6 (t.mask+1)) (m:=t.place.toList) LN fun x a=>K3 fun q=>n ⟨x,by rw[Jq]at a;omega,q⟩;rw[Mo,Jx]at this;omega
theorem pN{t:K4}{hashAt:Nat->Int}{h:Int}:∀(n f:Nat) (p:Probe),n<f->p.dummy=MB->(∀m,m<n->∃i,t.slot (ad t m p).j=.live i/\(hashAt i==h)=MD)->t.slot (ad t n p).j=.empty->
 probe.go t hashAt h f p=MA (.empty (ad t n p).j MB)
 |0,f+1,p,_,hd,_,e=>by
  rw[SetTable.probe.go]
  have e:t.slot p.j=.empty:=e
  rw[e]
  dsimp only
  rw[hd];rfl
 |n+1,f+1,p,hf,hd,hl,e=>by
  rw[SetTable.probe.go]
  obtain⟨i,a,e1⟩:=hl 0 (by omega)
  have a:t.slot p.j=.live i:=a
  rw[a]
  dsimp only
  rw[e1,ME (by decide)]
  exact pN n f (t.advance p) (by omega) (by rw[wm];exact hd) (fun m b=>hl (m+1) (by omega)) e
structure Qr(t:K4)(es:Array (Int×I0)):Prop where
 ms:Rm t.mask
 dm:t.dummies=#[]
 sz:t.place.size=es.size
 up:t.place.toList.Pairwise (· < ·)
 le:es.size<=t.mask
 way:∀(i:Nat) (e:Int×I0) (j:Nat),es[i]?=MA e->t.place[i]?=MA j->∃n,n<10*turns t.mask/\(ad t n (t.probeStart e.1)).j=j/\∀m,m<n->(ad t m (t.probeStart e.1)).j∈t.place.toList
theorem Qr.fits{t:K4}{es:Array (Int×I0)}(T:Qr t es):t.fits es.size=MC:=by
 have:=T.sz;have:=T.le;have:=T.dm
 simp[SetTable.fits,SetTable.fill,T.sz,T.dm];omega
theorem Qr.first{t:K4}{es:Array (Int×I0)}(T:Qr t es)(h:Int):∃N,N<10*turns t.mask/\(ad t N (t.probeStart h)).j∉t.place.toList/\∀m,m<N->(ad t m (t.probeStart h)).j∈t.place.toList:=by
 obtain⟨j,g,f⟩:=room (t:=t) (by rw[T.sz];exact T.le);obtain⟨n,o,e⟩:=Ec T.ms h g;have ex:∃n,(ad t n (t.probeStart h)).j∉t.place.toList:=⟨n,by rw[e];exact f⟩
 have a:∀n,(ad t n (t.probeStart h)).j∉t.place.toList->∃N,N<=n/\(ad t N (t.probeStart h)).j∉t.place.toList/\∀m,m<N->(ad t m (t.probeStart h)).j∈t.place.toList:=fun n=>by
  induction n using Nat.strongRecOn with
  |ind n i=>
   intro k
   by_cases z:∃m,m<n/\(ad t m (t.probeStart h)).j∉t.place.toList
   ·obtain⟨m,b,q⟩:=z;obtain⟨N,l,c,d⟩:=i m b q;exact⟨N,by omega,c,d⟩
   ·exact⟨n,J1 _,k,fun m b=>K3 fun q=>z ⟨m,b,q⟩⟩
 obtain⟨N,l,c,d⟩:=a n (by rw[e];exact f);exact⟨N,by omega,c,d⟩
theorem CP{a:Type}(xs:Array a)(p:Nat)(x:a):(Ko xs p x).toList=cG xs.toList p x:=SetTable.toList_insertAt xs p x
theorem uX{b:Type}(l:List b)(p:Nat)(x:b)(e:p<=l.length)(i:Nat):(cG l p x)[i]?=if i<p then l[i]? else if i=p then MA x else l[i-1]?:=by
 unfold cG;have lt:(l.take p).length=p:=by rw[KJ];omega
 by_cases a:i<p
 ·rw[MF a,JO (by omega),List.getElem?_take_of_lt a]
 ·rw[ME a,JP (by omega),lt];by_cases c:i=p
  ·subst c;rw[MF rfl,Nat.sub_self];rfl
  ·rw[ME c];obtain⟨d,rfl⟩:∃d,i=p+d+1:=⟨i-p-1,by omega⟩;rw[show p+d+1-p=d+1 by omega,List.getElem?_cons_succ,List.getElem?_drop]
   congr 1
theorem Qr.put{t:K4}{es:Array (Int×I0)}(T:Qr t es){h:Int}(x:I0){N:Nat}(J:N<10*turns t.mask)(k:(ad t N (t.probeStart h)).j∉t.place.toList)(r:∀m,m<N->(ad t m (t.probeStart h)).j∈t.place.toList)(K:es.size+1<=t.mask) :
 Qr (t.put (ad t N (t.probeStart h)).j).1 (Ko es (t.put (ad t N (t.probeStart h)).j).2 (h,x)):=by
 generalize L:(ad t N (t.probeStart h)).j=j at k
 obtain⟨s,b1,D⟩:=below_at (j:=j) T.up
 have M:(t.put j).2=below t.place j:=rfl
 have f:(t.put j).1.place=Ko t.place (below t.place j) j:=rfl
 have g:(t.put j).1.mask=t.mask:=rfl
 have hd:(t.put j).1.dummies=#[]:=by
  show(if has t.dummies j=MC then _ else t.dummies)=#[]
  rw[T.dm]
  have:has (#[]:Array Nat) j=MD:=by unfold SetTable.has;simp
  rw[this];rfl
 generalize (t.put j).1=u at f g hd ⊢
 rw[M]
 generalize below t.place j=p at s b1 D f ⊢
 have o:u.place.toList=cG t.place.toList p j:=by rw[f];exact CP _ _ _
 have v:(Ko es p (h,x)).toList=cG es.toList p (h,x):=CP _ _ _
 have pt:p<=t.place.toList.length:=by rw[Jx];exact s
 have O:p<=es.toList.length:=by rw[Jx,<-T.sz];exact s
 have P:∀n q,ad u n q=ad t n q:=fun n q=>pB g n q
 have Q:∀q,u.probeStart q=t.probeStart q:=fun q=>mh g q
 have sub:∀z,z∈t.place.toList->z∈u.place.toList:=fun z c=>by
  rw[o];unfold cG
  rw[<-Mc p t.place.toList]at c
  rcases Jo.mp c with q|q
  ·exact Jo.mpr (.inl q)
  ·exact Jo.mpr (.inr (Jn _ q))
 have w:∀{E:Type} (l:List E) (y:E),(cG l p y).length=l.length+1:=fun l y=>by unfold cG;simp;omega
 refine⟨by rw[g];exact T.ms,hd,?_,?_,?_,fun i e F d a=>?_⟩
 ·rw[<-Jx,<-Jx,o,v,w,w,Jx,Jx,T.sz]
 ·rw[o]
  have hs:(t.place.toList.take p++t.place.toList.drop p).Pairwise (· < ·):=by rw[Mc];exact T.up
  rw[List.pairwise_append]at hs
  have R:∀z∈t.place.toList.take p,z<j:=fun z c=>by
   obtain⟨i,hi,e⟩:=LC c
   rw[KJ]at hi
   rw[List.getElem_take]at e
   exact b1 i z (by omega) (by rw[<-JM,J0 (by omega),e])
  have S:∀z∈t.place.toList.drop p,j<z:=fun z c=>by
   obtain⟨i,hi,e⟩:=LC c
   rw[List.length_drop]at hi
   rw[List.getElem_drop]at e
   have U:t.place[p+i]?=MA z:=by rw[<-JM,J0 (by omega),e]
   have:=D (p+i) z (by omega) U
   have:j≠z:=fun q=>k (by rw[q,<-e];exact JW _)
   omega
  unfold cG
  rw[List.pairwise_append,List.pairwise_cons]
  refine⟨hs.1,⟨S,hs.2.1⟩,fun y G z c=>?_⟩
  rcases Jv.mp c with q|q
  ·rw[q];exact R y G
  ·exact hs.2.2 y G z q
 ·rw[<-Jx,v,w,Jx,g];exact K
 ·rw[<-JM,v,uX _ _ _ O]at d
  rw[<-JM,o,uX _ _ _ pt]at a
  rw[g]
  simp only[P,Q]
  by_cases H:i<p
  ·rw[MF H,JM]at d a
   obtain⟨n,A,B,C⟩:=T.way i e F d a
   exact⟨n,A,B,fun m b=>sub _ (C m b)⟩
  ·rw[ME H]at d a
   by_cases I:i=p
   ·rw[MF I]at d a
    cases d;cases a
    exact⟨N,J,L,fun m b=>sub _ (r m b)⟩
   ·rw[ME I,JM]at d a
    obtain⟨n,A,B,C⟩:=T.way (i-1) e F d a
    exact⟨n,A,B,fun m b=>sub _ (C m b)⟩
def nK(m:Nat)(h:Int):Nat->Nat
 |0=>0
 |K+1=>nK m h K+(runEnd m (N6 m h K).1-(N6 m h K).1)+1
theorem zR(t:K4)(h:Int):∀K,ad t (nK t.mask h K) (t.probeStart h)=RM t.mask h K
 |0=>rfl
 |K+1=>by
  have e:=zR t h K
  show ad t (nK t.mask h K+((RM t.mask h K).more+1)) (t.probeStart h)=_
  rw[lB,e,oS,gV t _ _ (J1 _)]
  unfold SetTable.advance
  rw[ME (by show ¬(RM t.mask h K).more-(RM t.mask h K).more>0;omega)]
  rfl
theorem B4(m:Nat)(h:Int):∀K,nK m h K<=10*K
 |0=>J1 _
 |K+1=>by
  have:=B4 m h K
  have:=tX m (N6 m h K).1
  show nK m h K+(runEnd m (N6 m h K).1-(N6 m h K).1)+1<=_
  omega
theorem Cy(m:Nat)(h:Int){K:Nat}:∀d,nK m h K<nK m h (K+d+1)
 |0=>by show _<nK m h K+_+1;omega
 |d+1=>by
  have:=Cy m h (K:=K) d
  show _<nK m h (K+d+1)+_+1
  omega
theorem BP{m:Nat}(c:Rm m)(h:Int){j:Nat}(a:j<=m):∃K,K<=13+m/\(N6 m h K).1=j:=by
 have l:=zA m h 13
 obtain⟨k,b,e⟩:∃k,k<=m/\Rh m k (N6 m h 13).1=j:=by
  rcases c with q|q
  ·rw[q]at l a ⊢;obtain⟨k,b,e⟩:=FK _ l j (by omega);exact⟨k,by omega,e⟩
  ·rw[q]at l a ⊢;obtain⟨k,b,e⟩:=Cd _ l j (by omega);exact⟨k,by omega,e⟩
 exact⟨13+k,by omega,by rw[rT,e]⟩
theorem GG{m i:Nat}(h:i<=m):runEnd m i<=m/\i<=runEnd m i:=by unfold SetTable.runEnd;split<;>omega
theorem ud{u:K4}(g:Rm u.mask){owner:Array (Option Nat)}(so:owner.size=u.mask+1)(h:Int){js:Nat}(i:js<=u.mask)(o:owner[js]?=MA MB) :
 ∀f K,K+f=turns u.mask->(∀m,m<nK u.mask h K->∃k,owner[(ad u m (u.probeStart h)).j]?=MA (MA k))->
  ∃n,n<10*turns u.mask/\layClean.free u.mask owner f (N6 u.mask h K).1 (N6 u.mask h K).2=MA (ad u n (u.probeStart h)).j/\owner[(ad u n (u.probeStart h)).j]?=MA MB/\∀m,m<n->∃k,owner[(ad u m (u.probeStart h)).j]?=MA (MA k)
 |0,K,e,occ=>by
  exfalso
  obtain⟨a,B,w⟩:=BP g h i
  have lt:nK u.mask h a<nK u.mask h K:=by
   have:=Cy u.mask h (K:=a) (K-a-1)
   rw[show a+(K-a-1)+1=K by unfold SetTable.turns at e;omega]at this
   exact this
  obtain⟨k,q⟩:=occ _ lt
  rw[zR u h a]at q
  have q:owner[(N6 u.mask h a).1]?=MA (MA k):=q
  rw[w,o]at q;cases q
 |f+1,K,e,occ=>by
  rw[layClean.free]
  have C:=zA u.mask h K
  obtain⟨D,E⟩:=GG (show(N6 u.mask h K).1<=u.mask by omega)
  have at':∀r,r<=runEnd u.mask (N6 u.mask h K).1-(N6 u.mask h K).1->(ad u (nK u.mask h K+r) (u.probeStart h)).j=(N6 u.mask h K).1+r:=fun r p=>by
   rw[lB,zR u h K,gV u r _ p];rfl
  have gd:∀r,r<=runEnd u.mask (N6 u.mask h K).1-(N6 u.mask h K).1->∃v,owner[(N6 u.mask h K).1+r]?=MA v/\owner.getD ((N6 u.mask h K).1+r) (MA 0)=v:=fun r p=>by
   have l:(N6 u.mask h K).1+r<owner.size:=by omega
   exact⟨_,Jt l,by simp[Array.getD,l]⟩
  cases s:(J6 (runEnd u.mask (N6 u.mask h K).1+1-(N6 u.mask h K).1)).find? fun k=>(owner.getD ((N6 u.mask h K).1+k) (MA 0)).isNone with
  |some k=>
   obtain⟨t,x,y⟩:=List.find?_range_eq_some.mp s
   rw[Jq]at x
   have c:k<=runEnd u.mask (N6 u.mask h K).1-(N6 u.mask h K).1:=by omega
   refine⟨nK u.mask h K+k,?_,by dsimp only;rw[at' k c],?_,fun m b=>?_⟩
   ·have:=B4 u.mask h K
    have:=tX u.mask (N6 u.mask h K).1
    unfold SetTable.turns at e ⊢
    omega
   ·rw[at' k c]
    obtain⟨v,e1,e2⟩:=gd k c
    rw[e2]at t
    rw[e1]
    cases v with
    |none=>rfl
    |some _=>cases t
   ·by_cases z:m<nK u.mask h K
    ·exact occ m z
    ·obtain⟨r,rfl⟩:∃r,m=nK u.mask h K+r:=⟨m-nK u.mask h K,by omega⟩
     rw[at' r (by omega)]
     obtain⟨v,e1,e2⟩:=gd r (by omega)
     have:=y r (by omega)
     rw[e2]at this
     rw[e1]
     cases v with
     |none=>cases this
     |some d=>exact⟨d,rfl⟩
  |none=>
   have A:=List.find?_eq_none.mp s
   dsimp only
   refine ud g so h i o f (K+1) (by omega) fun m b=>?_
   have b:m<nK u.mask h K+(runEnd u.mask (N6 u.mask h K).1-(N6 u.mask h K).1)+1:=b
   by_cases z:m<nK u.mask h K
   ·exact occ m z
   ·obtain⟨r,rfl⟩:∃r,m=nK u.mask h K+r:=⟨m-nK u.mask h K,by omega⟩
    rw[at' r (by omega)]
    obtain⟨v,e1,e2⟩:=gd r (by omega)
    have:=A r (Jq.mpr (by omega))
    rw[e2]at this
    rw[e1]
    cases v with
    |none=>exact absurd rfl this
    |some d=>exact⟨d,rfl⟩
structure P6(u:K4)(owner:Array (Option Nat))(hs:List Int):Prop where
 so:owner.size=u.mask+1
 all:∀k,k<hs.length->∃j:Nat,owner[j]?=MA (MA k)
 lt:∀(j k:Nat),owner[j]?=MA (MA k)->k<hs.length
 inj:∀(j j' k:Nat),owner[j]?=MA (MA k)->owner[j']?=MA (MA k)->j=j'
 way:∀(j k:Nat) (h:Int),owner[j]?=MA (MA k)->hs[k]?=MA h->∃n,n<10*turns u.mask/\(ad u n (u.probeStart h)).j=j/\∀m,m<n->∃k',owner[(ad u m (u.probeStart h)).j]?=MA (MA k')
theorem P6.step{u:K4}(y:Rm u.mask){owner:Array (Option Nat)}{hs:List Int}(O:P6 u owner hs)(h:Int)(R:hs.length<=u.mask):∃j,layClean.free u.mask owner (turns u.mask) (bits h%(u.mask+1)) (bits h)=MA j/\P6 u (owner.setIfInBounds j (MA hs.length)) (hs++[h]):=by
 obtain⟨js,g,A⟩:∃js,js<=u.mask/\owner[js]?=MA MB:=K3 fun B=>by
  have d:∀j,j<=u.mask->∃k,owner[j]?=MA (MA k):=fun j g=>by
   have l:j<owner.size:=by rw[O.so];omega
   cases e:owner[j]with
   |none=>exact absurd ⟨j,g,by rw[Jt l,e]⟩ B
   |some k=>exact⟨k,by rw[Jt l,e]⟩
  have nd:((J6 (u.mask+1)).map fun j=>((owner[j]?).getD MB).getD 0).Nodup:=by
   refine KD.mpr (Lp (fun{a b} C D r q=>?_) LN)
   rw[Jq]at C D
   obtain⟨k,e1⟩:=d a (by omega)
   obtain⟨s,e2⟩:=d b (by omega)
   rw[e1,e2]at q
   have q:k=s:=q
   subst q
   exact r (O.inj a b k e1 e2)
  have:=sub_len' (m:=J6 hs.length) nd fun x E=>by obtain⟨j,g,rfl⟩:=Jp.mp E;rw[Jq]at g;obtain⟨k,e⟩:=d j (by omega);rw[e];exact Jq.mpr (O.lt j k e)
  rw[IZ,Mo,Mo]at this;omega
 obtain⟨n,F,G,t,H⟩:=ud y O.so h g A (turns u.mask) 0 (by omega) (fun m c=>absurd c (Nat.not_lt_zero _));refine⟨_,G,?_⟩;generalize I:(ad u n (u.probeStart h)).j=j at t;have J:j<owner.size:=(LZ.mp t).1
 have get:∀i,(owner.setIfInBounds j (MA hs.length))[i]?=if i=j then MA (MA hs.length)else owner[i]?:=fun i=>by
  rw[Array.getElem?_setIfInBounds];by_cases z:j=i
  ·subst z;rw[MF rfl,MF J,MF rfl]
  ·rw[ME z,ME (fun q=>z q.symm)]
 have o:∀(i k:Nat),owner[i]?=MA (MA k)->∃s,(owner.setIfInBounds j (MA hs.length))[i]?=MA (MA s):=fun i k e=>by
  rw[get];split
  ·exact⟨_,rfl⟩
  ·exact⟨k,e⟩
 refine⟨by rw[Array.size_setIfInBounds];exact O.so,fun k v=>?_,fun i k e=>?_,fun i K k e f=>?_,fun i k L e p=>?_⟩
 ·rw[JX]at v;have v:k<hs.length+1:=v;by_cases z:k=hs.length
  ·subst z;exact⟨j,by rw[get,MF rfl]⟩
  ·obtain⟨i,e⟩:=O.all k (by omega);refine⟨i,?_⟩;rw[get,ME (fun q=>by subst q;rw[t]at e;cases e)];exact e
 ·rw[JX];show k<hs.length+1;rw[get]at e;split at e
  ·cases e;omega
  ·have:=O.lt i k e;omega
 ·rw[get]at e f;split at e
  ·cases e;split at f
   ·rename_i a b;rw[a,b]
   ·exact absurd (O.lt _ _ f) (LI _)
  ·split at f
   ·cases f;exact absurd (O.lt _ _ e) (LI _)
   ·exact O.inj i K k e f
 ·rw[get]at e;split at e
  ·rename_i q;cases e;rw[JP (J1 _),Nat.sub_self]at p;cases p;exact⟨n,F,by rw[I,q],fun m c=>let⟨k,w⟩:=H m c;o _ k w⟩
  ·rw[JO (O.lt i k e)]at p;obtain⟨M,N,P,Q⟩:=O.way i k L e p;exact⟨M,N,P,fun m c=>let⟨k,w⟩:=Q m c;o _ k w⟩
theorem Ed{u:K4}(i:Rm u.mask){hashes:Array Int}(l:hashes.size<=u.mask):∃owner,layClean u.mask hashes=MA owner/\P6 u owner hashes.toList:=by
 have m:P6 u (Array.replicate (u.mask+1) MB) []:=by
  have b:∀(j k:Nat),(Array.replicate (u.mask+1) (MB:Option Nat))[j]?≠MA (MA k):=fun j k e=>by rw[Array.getElem?_replicate]at e;split at e<;>cases e
  exact⟨by simp,fun k n=>absurd n (Nat.not_lt_zero _),fun j k e=>absurd e (b j k),fun j q k e=>absurd e (b j k),fun j k h e=>absurd e (b j k)⟩
 have run:∀(a done:List Int) (owner:Array (Option Nat)),P6 u owner done->done.length+a.length<=u.mask+1->done.length+a.length<=u.mask->
  ∃c,a.foldl (fun(f:Option (Array (Option Nat)×Nat)) h=>do
   let __x <-f
   match __x with
    |(owner,k)=>do
     let j <-layClean.free u.mask owner (turns u.mask) (bits h%(u.mask+1)) (bits h)
     pure (owner.setIfInBounds j (MA k),k+1)) (MA (owner,done.length))=MA (c,done.length+a.length)/\P6 u c (done++a):=fun a=>by
  induction a with
  |nil=>intro done owner O _ _;exact⟨owner,rfl,by rw[Kc];exact O⟩
  |cons h a o=>
   intro done owner O l1 l2
   rw[Jr]at l1 l2
   obtain⟨j,e,p⟩:=O.step i h (by omega)
   obtain⟨c,g,d⟩:=o (done++[h]) _ p (by rw[JX];show done.length+1+_<=_;omega) (by rw[JX];show done.length+1+_<=_;omega)
   refine⟨c,?_,by rw[List.append_assoc]at d;exact d⟩
   rw[Lx]
   have:(do
    let __x <-MA (owner,done.length)
    match __x with
     |(owner,k)=>do
      let j <-layClean.free u.mask owner (turns u.mask) (bits h%(u.mask+1)) (bits h)
      pure (owner.setIfInBounds j (MA k),k+1):Option (Array (Option Nat)×Nat))=MA (owner.setIfInBounds j (MA done.length),done.length+1):=by
    show((layClean.free u.mask owner (turns u.mask) (bits h%(u.mask+1)) (bits h)).bind fun j=>MA (owner.setIfInBounds j (MA done.length),done.length+1))=_
    rw[e];rfl
   rw[this]
   rw[JX]at g
   rw[Jr,show done.length+(a.length+1)=done.length+[h].length+a.length by show _=done.length+1+a.length;omega]
   exact g
 obtain⟨c,e,O⟩:=run hashes.toList [] _ m (by simp;omega) (by simpa using l);refine⟨c,?_,by simpa using O⟩;unfold layClean;rw[<-Array.foldl_toList];have e:List.foldl _ (MA (Array.replicate (u.mask+1) MB,0)) hashes.toList=MA (c,0+hashes.toList.length):=e;rw[e];rfl
theorem xq{a:Type}(g:Nat->Option a):∀(l:List Nat),(∀k∈l,(g k).isSome=MC)->∀i:Nat,(l.filterMap g)[i]?=l[i]?.bind g
 |[],_,i=>by simp
 |k::l,h,i=>by
  obtain⟨v,e⟩:=Option.isSome_iff_exists.mp (h k Jy)
  rw[List.filterMap_cons_some e]
  cases i with
  |zero=>simp[e]
  |succ i=>simp only[List.getElem?_cons_succ];exact xq g l (fun b c=>h b (Jn _ c)) i
theorem xO{a:Type}(g:Nat->Option a):∀(l:List Nat),(∀k∈l,(g k).isSome=MC)->(l.filterMap g).length=l.length
 |[],_=>rfl
 |k::l,h=>by
  obtain⟨v,e⟩:=Option.isSome_iff_exists.mp (h k Jy)
  rw[List.filterMap_cons_some e,Jr,Jr,xO g l fun b c=>h b (Jn _ c)]
theorem AW{M:Nat}(D:Rm M)(es:Array (Int×I0))(I:es.size<=M)(t v:Nat)(led plain:Bool) :
 ∃(u:K4) (d:Array Nat),laid M t v led plain (es.map (·.1))=MA (u,d)/\u.plain=plain/\u.led=led/\u.mask=M/\Qr u (d.filterMap (es[·]?))/\d.toList.Perm (J6 es.size):=by
 obtain⟨owner,J,O⟩:=Ed (u:={ mask:=M,place:=#[],dummies:=#[],finger:=t,led:=led,moves:=v,plain:=plain }) D (hashes:=es.map (·.1)) (by simpa using I)
 have so:owner.size=M+1:=O.so
 have gd:∀(j k:Nat),owner.getD j MB=MA k↔owner[j]?=MA (MA k):=fun j k=>by
  by_cases l:j<owner.size
  ·simp[Array.getD,l]
  ·simp[Array.getD,l]
 generalize f:(J6 (M+1)).filterMap (fun j=>(owner.getD j MB).map (j,·))=c
 have mem:∀(j k:Nat),(j,k)∈c↔owner[j]?=MA (MA k):=fun j k=>by
  rw[<-f,List.mem_filterMap]
  constructor
  ·rintro⟨g,r,e⟩
   obtain⟨o,e1,e2⟩:=LH.mp e
   cases e2
   exact(gd _ _).mp e1
  ·intro e
   have l:j<M+1:=by rw[<-so];exact(LZ.mp e).1
   exact⟨j,Jq.mpr l,by rw[(gd _ _).mpr e];rfl⟩
 have up:c.Pairwise (fun p q=>p.1<q.1):=by
  rw[<-f]
  refine List.Pairwise.filterMap _ (fun a T K b L U z=>?_) (List.pairwise_lt_range (n:=M+1))
  obtain⟨_,_,rfl⟩:=LH.mp L
  obtain⟨_,_,rfl⟩:=LH.mp z
  exact K
 have hs:∀k:Nat,(es.map (·.1)).toList[k]?=es[k]?.map (·.1):=fun k=>by simp
 have w:(es.map (·.1)).toList.length=es.size:=by simp
 have lt:∀(j k:Nat),(j,k)∈c->k<es.size:=fun j k h=>by
  have:=O.lt j k ((mem j k).mp h);rw[w]at this;exact this
 have x:∀k∈c.map (·.2),(es[k]?).isSome=MC:=fun k s=>by
  obtain⟨⟨j,o⟩,h,rfl⟩:=Jp.mp s
  rw[Jt (lt _ _ h)];rfl
 refine⟨_,(c.map (·.2)).toArray,by unfold laid;rw[J];dsimp only[Option.bind_eq_bind,Option.bind_some,Option.pure_def];rw[f],rfl,rfl,rfl,?_,?_⟩
 ·have E:((c.map (·.2)).toArray.filterMap (es[·]?)).toList=(c.map (·.2)).filterMap (es[·]?):=by rw[Array.toList_filterMap]
  have sz:((c.map (·.2)).toArray.filterMap (es[·]?)).size=c.length:=by
   rw[<-Jx,E,xO _ _ x,IZ]
  have N:c.length<=M:=by
   have nd:(c.map (·.2)).Nodup:=by
    refine KD.mpr (up.imp_of_mem fun{p q} A B h e=>?_)
    obtain⟨j,k⟩:=p
    obtain⟨g,o⟩:=q
    have e:k=o:=e
    subst e
    have:=O.inj j g k ((mem j k).mp A) ((mem g k).mp B)
    have h:j<g:=h
    omega
   have:=sub_len' (m:=J6 es.size) nd fun k s=>by
    obtain⟨⟨j,o⟩,h,rfl⟩:=Jp.mp s
    exact Jq.mpr (lt _ _ h)
   rw[IZ,Mo]at this
   omega
  refine⟨D,rfl,?_,?_,?_,fun i e j y r=>?_⟩
  ·rw[sz];simp
  ·show((c.map (·.1)).toArray).toList.Pairwise _
   exact KD.mpr up
  ·rw[sz];exact N
  ·rw[<-JM,E,xq _ _ x,J4]at y
   have r:((c.map (·.1)).toArray)[i]?=MA j:=r
   rw[<-JM]at r
   have r:(c.map (·.1))[i]?=MA j:=r
   rw[J4]at r
   obtain⟨⟨g,k⟩,F,rfl⟩:=LH.mp r
   rw[F]at y
   have y:es[k]?=MA e:=y
   have own:=(mem g k).mp (J9 F)
   obtain⟨n,P,Q,R⟩:=O.way g k e.1 own (by rw[hs,y];rfl)
   have G:∀n q,ad { mask:=M,place:=(c.map (·.1)).toArray,dummies:=#[],finger:=t,led:=led,moves:=v,plain:=plain } n q=ad { mask:=M,place:=#[],dummies:=#[],finger:=t,led:=led,moves:=v,plain:=plain } n q:=fun n q=>pB (by rfl) n q
   have H:∀q,probeStart { mask:=M,place:=(c.map (·.1)).toArray,dummies:=#[],finger:=t,led:=led,moves:=v,plain:=plain } q=probeStart { mask:=M,place:=#[],dummies:=#[],finger:=t,led:=led,moves:=v,plain:=plain } q:=fun q=>mh (by rfl) q
   refine⟨n,P,by rw[G,H];exact Q,fun m C=>?_⟩
   rw[G,H]
   obtain⟨o,S⟩:=R m C
   show _∈c.map (·.1)
   exact Jp.mpr ⟨(_,o),(mem _ _).mpr S,rfl⟩
 ·show(c.map (·.2)).Perm _
  have nd:(c.map (·.2)).Nodup:=by
   refine KD.mpr (up.imp_of_mem fun{p q} A B h e=>?_)
   obtain⟨j,k⟩:=p
   obtain⟨g,o⟩:=q
   have e:k=o:=e
   subst e
   have:=O.inj j g k ((mem j k).mp A) ((mem g k).mp B)
   have h:j<g:=h
   omega
  refine(List.perm_ext_iff_of_nodup nd LN).mpr fun k=>⟨fun s=>?_,fun s=>?_⟩
  ·obtain⟨⟨j,o⟩,h,rfl⟩:=Jp.mp s
   exact Jq.mpr (lt _ _ h)
  ·rw[Jq]at s
   obtain⟨j,e⟩:=O.all k (by rw[w];exact s)
   exact Jp.mpr ⟨(j,k),(mem j k).mpr e,rfl⟩
theorem cC:Slot "set_iterator" "__next__" "set_iterator.__next__":=
 .of (owner:="set_iterator") (n:="__next__") (by rw[typeLookup_type,builtinLookup_eq_fast];kernel_rfl) (by decide +kernel) (by decide +kernel) (by decide +kernel)
  (by first|exact .inl (by decide +kernel)|exact .inr (by decide +kernel)) (by rw[isSubtype_type];kernel_rfl)
theorem iR:Slot "set_iterator" "__iter__" "set_iterator.__iter__":=
 .of (owner:="set_iterator") (n:="__iter__") (by rw[typeLookup_type,builtinLookup_eq_fast];kernel_rfl) (by decide +kernel) (by decide +kernel) (by decide +kernel)
  (by first|exact .inl (by decide +kernel)|exact .inr (by decide +kernel)) (by rw[isSubtype_type];kernel_rfl)
theorem g8:entryFor table "set_iterator.__next__"=MA Ls.«set_iterator.__next__»:=entryFor_of_tree (by kernel_rfl)
theorem qT:Manifest.owners.lookup (String.ofList ['r','o','t','a','r','e','t','i','_','t','e','s'].reverse)=MA Manifest.sig_set_iterator:=by kernel_rfl
theorem iG(a:I0):argsOk "set_iterator.__next__" ⟨[a],[]⟩:=by unfold argsOk;rw[signature?_of (id:="set_iterator.__next__") (n:=['_','_','t','x','e','n','_','_']) (o:=['r','o','t','a','r','e','t','i','_','t','e','s']) (by kernel_rfl) qT];kernel_rfl
theorem oh(a:I0):argsOk "set_iterator.__iter__" ⟨[a],[]⟩:=by unfold argsOk;rw[signature?_of (id:="set_iterator.__iter__") (n:=['_','_','r','e','t','i','_','_']) (o:=['r','o','t','a','r','e','t','i','_','t','e','s']) (by kernel_rfl) qT];kernel_rfl
theorem oo:entryFor table "set.__iter__"=MA Ls.«frozenset.__iter__»:=entryFor_alias (id':="frozenset.__iter__") (by kernel_rfl) rfl (by decide +kernel) (by kernel_rfl)
theorem vp{a:Type}:∀(l:List a) (i:Nat) (h:i<l.length),(l[i]::l.eraseIdx i).Perm l
 |x::l,0,_=>.rfl
 |x::l,i+1,h=>by
  rw[List.getElem_cons_succ,List.eraseIdx_cons_succ]
  exact(List.Perm.swap _ _ _).trans (List.Perm.cons x (vp l i (by simpa using h)))
theorem uO{a:Type}(next:Nat->Nat):∀(f k:Nat) (left:List a) (out:Array a),left.length<=f->(pickOrder.go next f k left out).toList.Perm (out.toList++left)
 |0,k,left,out,h=>by
  obtain rfl:left=[]:=Lu.mp (by omega)
  rw[Kc];exact .rfl
 |f+1,k,left,out,h=>by
  rw[pickOrder.go]
  cases e:left[next k%left.length]? with
  |none=>
   dsimp only
   have:=List.getElem?_eq_none_iff.mp e
   have:left.length=0:=by
    rcases Nat.eq_zero_or_pos left.length with z|z
    ·exact z
    ·have:=Nat.mod_lt (next k) z;omega
   obtain rfl:=Lu.mp this
   rw[Kc]
  |some x=>
   dsimp only
   obtain⟨l,b⟩:=Ja.mp e
   have:=uO next f (k+1) (left.eraseIdx (next k%left.length)) (out.push x) (by rw[List.length_eraseIdx_of_lt l];omega)
   refine this.trans ?_
   rw[Array.toList_push,List.append_assoc]
   refine List.Perm.append_left _ ?_
   have p:=vp left _ l
   rw[b]at p
   exact p
theorem AF{a:Type}(next:Nat->Nat)(xs:Array a):(pickOrder next xs).toList.Perm xs.toList:=by have:=uO next xs.size 0 xs.toList #[] (by simp);unfold pickOrder;simpa using this
def Qk(w:JL)(a ep:Nat)(es:Array (Int×I0)):Array (Int×I0):=if w.params.followText "set-order" then pickOrder (w.params.setOrder a ep) es else es
theorem vg(w:JL)(a ep:Nat)(es:Array (Int×I0)):(Qk w a ep es).toList.Perm es.toList:=by
 unfold Qk;split
 ·exact AF _ _
 ·exact .rfl
theorem kh(w:JL)(a ep:Nat)(es:Array (Int×I0)):(Qk w a ep es).size=es.size:=by have:=(vg w a ep es).length_eq;simpa using this
structure Nq(w:JL)(h:Heap)(a:Addr)(o:Obj)(es:Array (Int×I0))(ep:Nat)(t:K4):Prop where
 get:h.get? a=MA o
 ex:o.ExactSet
 data:o.data=.set es ep t
 fits:t.fits es.size=MC
 pl:t.plain=MC
 led:t.led=!w.params.followText "set-order"
 up:t.place.toList.Pairwise (· < ·)
 sz:t.place.size=es.size
def XM(t:K4):Nat->Nat
 |0=>0
 |i+1=>(t.place[i]?).getD 0+1
def Pr(w:JL)(t:K4)(i:Nat):Nat:=if w.params.followText "set-order" then 0 else XM t i
def RB(w:JL)(h:Heap)(it a:Addr)(i n ep:Nat)(t:K4):Prop:=∃o,h.get? it=MA o/\o.cls=.type "set_iterator"/\o.data=.fields #[Md (Pr w t i),Md i,.ref a,Md n,Md ep]
section
variable{prog:Jl}{w:JL}{A:JQ}{E:I0->IY->Prop}{s:IY}{a it:Addr}{o:Obj}{es:Array (Int×I0)}{ep i:Nat}{t:K4}
theorem Nq.ty(h:Nq w s.heap a o es ep t):s.TypeIs (.ref a) "set":=⟨o,h.get,h.ex.1⟩
theorem Nq.kept{h h':Heap}(q:Nq w h a o es ep t)(k:∀o,h.get? a=MA o->h'.get? a=MA o):Nq w h' a o es ep t:={ q with get:=k o q.get }
theorem Nq.lt{h:Heap}(q:Nq w h a o es ep t):a<h.objs.size:=Jc q.get
theorem RB.ty{n:Nat}(h:RB w s.heap it a i n ep t):s.TypeIs (.ref it) "set_iterator":=let⟨o,g,c,_⟩:=h;⟨o,g,c⟩
theorem RB.at{h h':Heap}{n:Nat}(q:RB w h it a i n ep t)(k:∀o,h.get? it=MA o->h'.get? it=MA o):RB w h' it a i n ep t:=let⟨o,g,r⟩:=q;⟨o,k o g,r⟩
theorem wu{Q:I0->IY->Prop}(b:Nq w s.heap a o es ep t)
 (q:Q (.ref s.heap.objs.size) { s with heap:=s.heap.push { cls:=.type "set_iterator",data:=.fields #[Md 0,Md 0,.ref a,Md es.size,Md ep] } }):J7 (Jg prog w) A (pyIter (.ref a)) Q E s:=by
 have c:=b.ty
 refine wpAny_pyIter_slot c F.slot_set_iter (Kv F.slot_set_iter c oo ?_ (F.args_set_iter_1 _))
 unfold Ls.«frozenset.__iter__» Builtin.Frozenset.slot0 slotArgs
 simp only[List.isEmpty_nil,Lo,JS,↓reduceIte,bind_assoc,Km,bne_self_eq_false]
 unfold Builtin.Frozenset.addrOf Builtin.Frozenset.sizeOf
 refine cc (IX ?_)
 try dsimp only
 refine cc (IX ?_)
 refine cc (cc (wpAny_setEntries_of b.get b.data b.fits (IX ?_)))
 unfold setDrawn
 refine cc (cc (wpAny_setState_of b.get b.data b.fits ?_))
 dsimp only
 unfold setsByText
 refine cc (cc (wpAny_askSetting (IX (IX ?_))))
 show J7 _ _ _ _ _ _
 have hd:(!t.plain&&decide (es.size>1))=MD:=by rw[b.pl];rfl
 refine wpAny_ite_split (fun d=>absurd d ?_) fun _=>cc (IX ?_)
 ·show ¬(!_&&(!t.plain&&decide (es.size>1)))=MC
  rw[hd,LX];exact Jf
 refine cc (wpAny_setEpoch_of b.get b.data b.fits ?_)
 unfold newFields
 refine cc (JG (IX ⟨_,rfl,"set_iterator",_,⟨_,J8 _ rfl,rfl⟩,cC.lookup,?_⟩))
 exact q
end
theorem yk{t:K4}(up:t.place.toList.Pairwise (· < ·)):∀i,i<=t.place.size->below t.place (XM t i)=i
 |0,_=>by
  obtain⟨b,b1,a⟩:=below_at (j:=0) up
  show below t.place 0=0
  rcases Nat.eq_zero_or_pos (below t.place 0)with z|z
  ·exact z
  ·have:=b1 0 _ z (Jt (by omega));omega
 |i+1,h=>by
  have hi:i<t.place.size:=by omega
  have e:t.place[i]?=MA t.place[i]:=Jt hi
  show below t.place ((t.place[i]?).getD 0+1)=i+1
  rw[e,Kd]
  obtain⟨b,b1,a⟩:=below_at (j:=t.place[i]+1) up
  rcases Nat.lt_trichotomy (below t.place (t.place[i]+1)) (i+1)with z|z|z
  ·have:=a i _ (by omega) e;omega
  ·exact z
  ·have l:i+1<t.place.size:=by omega
   have:=b1 (i+1) _ z (Jt l)
   have:=Kq.mp up i (i+1) (by simpa using hi) (by simpa using l) (by omega)
   simp at this
   omega
section
variable{prog:Jl}{w:JL}{A:JQ}{E:I0->IY->Prop}{s:IY}{a it:Addr}{o:Obj}{es:Array (Int×I0)}{ep i:Nat}{t:K4}
theorem kQ{Q:Option (I0×Nat)->IY->Prop}(b:Nq w s.heap a o es ep t)(hi:i<=es.size)
 (q:Q (((Qk w a ep es)[i]?).map fun e=>(e.2,Pr w t (i+1))) s):J7 (Jg prog w) A (setNext a (Pr w t i) i ep) Q E s:=by
 unfold setNext
 refine cc (wpAny_setState_of b.get b.data b.fits ?_)
 dsimp only
 unfold setsByText
 refine cc (cc (wpAny_askSetting (IX ?_)))
 show J7 _ _ (if w.params.followText "set-order"=MC then _ else _) _ _ _
 by_cases c:w.params.followText "set-order"=MC
 ·rw[MF c,ME (by simp)]
  unfold setWalk
  refine cc (cc (wpAny_setState_of b.get b.data b.fits ?_))
  dsimp only
  unfold setsByText
  refine cc (cc (wpAny_askSetting (IX ?_)))
  show J7 _ _ (if w.params.followText "set-order"=MC then _ else _) _ _ _
  rw[MF c]
  refine cc (wpAny_askSetting (IX (IX ?_)))
  unfold Qk Pr at q
  rw[MF c,MF c]at q
  unfold Pr
  rw[MF c]
  exact q
 ·rw[ME c]
  have d:w.params.followText "set-order"=MD:=by simpa using c
  show J7 _ _ (if(!t.plain&&decide (es.size>1))=MC then _ else _) _ _ _
  rw[b.pl]
  simp only[Lo,K5,JS,if_false,LM]
  show J7 _ _ ((if(!t.led&&!es.isEmpty)=MC then unsupported "set:maker-not-led" else pure ()) >>= _) _ _ _
  rw[b.led,d]
  simp only[Bool.not_false,Lo,K5,JS,if_false,LM]
  refine IX ?_
  unfold Qk Pr at q
  rw[ME c,ME c]at q
  unfold Pr
  rw[ME c,yk b.up i (by rw[b.sz];exact hi)]
  have q:Q (es[i]?.map fun e=>(e.2,(t.place[i]?).getD 0+1)) s:=q
  by_cases l:i<es.size
  ·have f:i<t.place.size:=by rw[b.sz];exact l
   rw[Jt l,Jt f]at q ⊢
   exact q
  ·rw[LG (show es.size<=i by omega),LG (show t.place.size<=i by rw[b.sz];omega)]at q ⊢
   exact q
theorem vI{Q:Option I0->IY->Prop}(b:RB w s.heap it a i es.size ep t)(c:Nq w s.heap a o es ep t){e:Int×I0}(hi:(Qk w a ep es)[i]?=MA e)
 (j:∀h':Heap,RB w h' it a (i+1) es.size ep t->Lk it s.heap h'->Q (MA e.2) { s with heap:=h' }):J7 (Jg prog w) A (Mu (.ref it)) Q E s:=by
 obtain⟨m,d,k,hd⟩:=id b
 have g:=b.ty
 have n:i<es.size:=by rw[<-kh w a ep es];exact(LZ.mp hi).1
 unfold Mu
 refine cc (wpAny_attempt (L4 (name:=KU "__next__") g cC (Kv cC g g8 ?_ (iG _))))
 unfold Ls.«set_iterator.__next__» slotArgs
 simp only[List.isEmpty_nil,Lo,JS,↓reduceIte,Km,bne_self_eq_false,LM]
 refine cc (wpAny_fieldsOf d hd ?_)
 simp only[Md]
 refine cc (wpAny_setEntries_of c.get c.data c.fits ?_)
 simp only[bne_self_eq_false,JS,if_false,LM,Kn]
 refine cc (kQ c (by omega) ?_)
 rw[hi]
 dsimp only[Option.map_some]
 refine cc (wpAny_setField d hd (by simp) ?_)
 have h:=Kx (Obj.mapFields (·.setIfInBounds 0 (Md (Pr w t (i+1))))) d (Obj.isFreed_of_fields (LV hd _))
 have f:=LV hd (·.setIfInBounds 0 (Md (Pr w t (i+1))))
 refine cc (wpAny_setField (s:={ s with heap:=s.heap.update it (Obj.mapFields (·.setIfInBounds 0 (Md (Pr w t (i+1))))) }) h f (by simp) ?_)
 have l:((s.heap.update it (Obj.mapFields (·.setIfInBounds 0 (Md (Pr w t (i+1)))))).update it (Obj.mapFields (·.setIfInBounds 1 (Md ((i:Int)+1))))).get? it=MA _:=
  Kx _ h (Obj.isFreed_of_fields (LV f _))
 refine IX ⟨_,rfl,IX (j _ ⟨_,l,?_,?_⟩ ((Kl ..).trans (Kl ..)))⟩
 ·exact(Obj.cls_mapFields ..).trans ((Obj.cls_mapFields ..).trans k)
 ·rw[LV f];simp[Md]
theorem ym{Q:Option I0->IY->Prop}(g:A.handled=MB)(c:RB w s.heap it a es.size es.size ep t)(d:Nq w s.heap a o es ep t)
 (h:∀h',Heap.ExtBut it s.heap h'->Q MB { s with heap:=h' }):J7 (Jg prog w) A (Mu (.ref it)) Q E s:=by
 obtain⟨j,e,k,hd⟩:=id c
 have f:=c.ty
 unfold Mu
 refine cc (wpAny_attempt (L4 (name:=KU "__next__") f cC (Kv cC f g8 ?_ (iG _))))
 unfold Ls.«set_iterator.__next__» slotArgs
 simp only[List.isEmpty_nil,Lo,JS,↓reduceIte,Km,bne_self_eq_false,LM]
 refine cc (wpAny_fieldsOf e hd ?_)
 simp only[Md]
 refine cc (wpAny_setEntries_of d.get d.data d.fits ?_)
 simp only[bne_self_eq_false,JS,if_false,LM,Kn]
 refine cc (kQ d (J1 _) ?_)
 rw[LG (by rw[kh];exact J1 _)]
 dsimp only[Option.map_none]
 refine cc (wpAny_setField e hd (by simp) ?_)
 refine cc ?_
 simp only[newExc,newTuple]
 refine cc (JG ?_ (by size_fits))
 refine cc (m:=firstArgMember _ _) (wpAny_of_eq (a:=LQ) (by first|rfl|(simp only[firstArgMember];rfl)) ?_)
 refine JG ?_ (by size_fits)
 simp only[raiseNew]
 refine cc (wpAny_handled ?_)
 rw[show A.in1.handled=MB from g]
 refine cc (IX (wpAny_throw ?_))
 refine cc (wpAny_isInstance (T:="StopIteration") (b:=MC) ⟨_,J8 _ rfl,rfl⟩ isSubtype_stop ?_)
 exact IX (h _ (((Kl ..).extBut.push _).push _))
end
theorem mX:entryFor table "set_iterator.__iter__"=MA Ls.«dict_keyiterator.__iter__»:=entryFor_alias (id':="dict_keyiterator.__iter__") (by kernel_rfl) rfl (by decide +kernel) (by kernel_rfl)
section
variable{prog:Jl}{w:JL}{A:JQ}{E:I0->IY->Prop}{s:IY}{a it:Addr}{o:Obj}{es:Array (Int×I0)}{ep i:Nat}{t:K4}
theorem zm{Q:Bool->IY->Prop}(e:s.TypeIs (.ref a) "set")(h:Q MD s):J7 (Jg prog w) A (Builtin.List.listLengthHint (.ref a)) Q E s:=by
 unfold Builtin.List.listLengthHint;refine cc (wpAny_specialOf e PySem.F.slot_set_len.lookup ?_);generalize d:("set.__len__":String)=f
 wp_delta
 rw[show splitId f=MA ("set","__len__")from by subst d;decide +kernel];subst d;refine cc (wpAny_isInstance (T:="set") (b:=MC) e (by rw[isSubtype_type];kernel_rfl) ?_);refine wpAny_ite_split (fun c=>absurd c (by decide)) (fun _=>?_);refine wpAny_ite_split (fun _=>?_) (fun c=>absurd (by decide +kernel) c);refine cc (wpAny_typeOf e ?_);exact IX h
theorem rV(m:A.handled=MB)(I a:Addr)(g:a≠I):Walks prog w A I [I,a] [I] es.size (fun i v=>∃e,(Qk w a ep es)[i]?=MA e/\v=e.2) (fun i h=>RB w h I a i es.size ep t/\Nq w h a o es ep t) where
 sub:=fun b c=>by simp at c;simp[c]
 frame:=fun _ _ _ st k=>⟨st.1.at fun o e=>k I (by simp) o e,st.2.kept fun o e=>k a (by simp) o e⟩
 item:=fun i s Q E hi st d=>by
  have f:i<(Qk w a ep es).size:=by rw[kh];exact hi
  exact vI st.1 st.2 (Jt f) fun j n l=>d _ j s.toks ⟨_,Jt f,rfl⟩ ⟨n,st.2.kept fun o e=>(l.2 a g).trans e⟩ fun b o c e=>l.extBut b o (fun h=>c (by simp[h])) e
 done:=fun s Q E st d=>ym m st.1 st.2 fun j p=>d j s.toks fun b o c e=>p b o (fun h=>c (by simp[h])) e
 self:=fun _ _ _ _ st d=>by
  refine wpAny_pyIter_slot st.1.ty iR (Kv iR st.1.ty mX ?_ (oh _))
  show J7 _ _ (ret (.ref I)) _ _ _
  exact IX ⟨_,rfl,"set_iterator",_,st.1.ty,cC.lookup,d⟩
theorem yZ:PySem.W.KdlSrc prog w "set" a a es.size (fun i v=>∃e,(Qk w a ep es)[i]?=MA e/\v=e.2) (fun h=>Nq w h a o es ep t) where
 type:=fun _ b=>b.ty
 there:=fun _ b=>⟨b.lt,b.lt⟩
 keep:=fun _ _ b d=>b.kept fun o e=>d a (.inl rfl) o e
 notList:=by decide
 notTuple:=by decide
 hint:=fun _ _ _ _ b c=>zm b.ty c
 iter:=fun _ _ f b=>⟨_,_,(fun _ _ c=>wu b c),rV f _ a (JK b.lt),⟨⟨_,J8 _ rfl,rfl,by unfold Pr;split<;>rfl⟩,b.kept fun o e=>J3 _ e⟩⟩
end
open PySem PySem.SetTable PyProof.Rows PySem.F
section
variable{P:Jl}{w:JL}{A:JQ}{E:I0->IY->Prop}{s:IY}
abbrev iz(w:JL):Bool:=!w.params.followText "set-order"
theorem qy(a:I0){Q₁:I0->IY->Prop}
 (h:Q₁ (.ref s.heap.objs.size) { s with heap:=s.heap.push { cls:=.type "set",dict:=MB,data:=.set #[] 0 (.fresh 0 0 (iz w)) } }) :
 Ll (Jg P w) A (.call (.builtin "set.__new__") ⟨[.type "set",a],[]⟩) (wants Q₁ E) s:=by
 refine codeAny_of_tree ?_
 show J7 _ A.in1 (do checkBuiltinCall "set.__new__" ⟨[.type "set",a],[]⟩;again (.builtin "set.__new__" ⟨[.type "set",a],[]⟩)) _ _ s
 refine cc (wpAny_of_eq (F.newCall_set_1 a) (IX ⟨plainId_quiet F.plain_set_new _,KY F.entry_set_new ?_⟩))
 rw[Lq F.plain_set_new _]
 unfold Ls.«set.__new__» Builtin.Frozenset.newClass
 have b:=sub_set_self
 obtain⟨c,g,d,e,os⟩:=s
 dsimp only
 wp_walk
 refine wpAny_askSetting (IX ?_)
 dsimp only
 simp only[newObj]
 refine cc (wpAny_alloc (IX ?_))
 exact IX h
end
section
variable{prog:Jl}{w:JL}{A:JQ}{E:I0->IY->Prop}{s:IY}{T:String}{r d:Addr}{n:Nat}{P:Nat->I0->Prop}{OK:Heap->Prop}
theorem xA{Q:List I0->IY->Prop}(K:PySem.W.KdlSrc prog w T r d n P OK)(m:A.handled=MB)(hok:OK s.heap)(p:n<=Jb)
 (h:∀h' tk (a:Array I0),(∀b o,s.heap.get? b=MA o->h'.get? b=MA o)->s.heap.objs.size<h'.objs.size->ItemsOf P a n->Q a.toList { s with heap:=h',toks:=tk }):J7 (Jg prog w) A (collect (.ref r)) Q E s:=by
 unfold collect
 refine cc (wpAny_runValue (KY entry_proto_collect' ?_))
 show J7 _ _ (do again (.builtin "list.__iadd__" ⟨[<-newList [],.ref r],[]⟩)) _ _ s
 refine cc (wpAny_newList (IX ⟨Code.quiet_builtin _ (by decide +kernel),KY entry_list_iadd' ?_⟩))
 show J7 _ _ (Builtin.List.listExtendWith (.ref s.heap.objs.size) (.ref r) (.ref s.heap.objs.size)) _ _ { s with heap:=s.heap.push (seqObj "list" #[] 0) }
 have g:=K.there _ hok
 have i:(s.heap.push (seqObj "list" #[] 0)).get? s.heap.objs.size=MA { cls:=.type "list",data:=.seq #[] 0 }:=J8 _ rfl
 rw[Around.under_plain rfl rfl]
 refine Je (PySem.W.kdl_extend (s:={ s with heap:=s.heap.push (seqObj "list" #[] 0) }) (R:=fun r j=>r=.ok (.ret (.ref s.heap.objs.size))/\J7 (Jg prog w) A (do
  let o <-load s.heap.objs.size
  match o.data with
  |.seq xs _=>pure xs.toList
  |_=>unsupported "internal:collect") Q E j) K m (K.keep _ _ hok fun b _ o e=>J3 _ e) s.heap.objs.size (Nat.ne_of_gt g.1) (Nat.ne_of_gt g.2) (.ref s.heap.objs.size) 0 i (fun h' tk a c q l it=>⟨rfl,?_⟩) p) (fun k j z=>?_) (fun e j z=>by cases z.1)
 ·exact cc (wpAny_load l (IX (h h' tk a (fun b o e=>q b o (JK (Jc e)) (J3 _ e)) (Jc l) it)))
 ·cases k with
  |done f=>
   obtain⟨t,u⟩:=z
   cases t
   exact u
  |again x=>exact⟨z.1,Mh z.2 fun r B y=>by obtain⟨y1,v⟩:=y;subst y1;exact v⟩
end
theorem mK{d i:Type}{f:d->i}{l m:List i}(p:l.Perm m):∀xs:List d,m=xs.map f->∃c:List d,c.Perm xs/\l=c.map f:=by
 induction p with
 |nil=>intro xs e;exact⟨xs,.rfl,e⟩
 |cons x _ j=>
  intro xs e
  cases xs with
  |nil=>cases e
  |cons y xs=>
   rw[J5]at e
   injection e with e1 e2
   obtain⟨c,p,e3⟩:=j xs e2
   exact⟨y::c,p.cons y,by rw[J5,e1,e3]⟩
 |swap x y l=>
  intro xs e
  match xs,e with
  |a::b::xs,e=>
   rw[J5,J5]at e
   injection e with e1 e2
   injection e2 with e2 e3
   exact⟨b::a::xs,.swap a b xs,by rw[J5,J5,e1,e2,e3]⟩
 |trans _ _ g h=>
  intro xs e
  obtain⟨c,p,e1⟩:=h xs e
  obtain⟨k,q,e2⟩:=g c e1
  exact⟨k,q.trans p,e2⟩
section
variable{P:Jl}{w:JL}{A:JQ}{E:I0->IY->Prop}{s:IY}
abbrev RE:=Int×Tok
def mN(x:RE):Int×I0:=(hashInt x.1,.int x.1 x.2)
structure R6(h:Heap)(a:Addr)(o:Obj)(es:Array (Int×I0))(ep:Nat)(t:K4)(xs:List RE):Prop where
 get:h.get? a=MA o
 ex:o.ExactSet
 data:o.data=.set es ep t
 ents:es.toList=xs.map mN
 ok:Qr t es
 pl:t.plain=MC
 nd:(xs.map (·.1)).Nodup
 lo:t.mask=7->es.size<=4
 hi:es.size<=18
theorem R6.len{h:Heap}{a:Addr}{o:Obj}{es:Array (Int×I0)}{ep:Nat}{t:K4}{xs:List RE}(S:R6 h a o es ep t xs):es.size=xs.length:=by rw[<-Jx,S.ents,IZ]
theorem VL(k:Int)(t:Tok):(Ms P w).is k (.int k t)=MC:=intKind_is _ _ _ _
theorem DY(xs:List RE):ElemsOf (Ms P w) (xs.map mN):=fun e a=>by obtain⟨x,_,rfl⟩:=Jp.mp a;exact⟨⟨x.1,VL _ _,rfl⟩,rfl⟩
theorem D2{xs:List RE}{k:Int}:((∃j,(xs.map mN).findIdx? (fun e=>(Ms P w).is k e.2)=MA j)/\k∈xs.map (·.1))\/((xs.map mN).findIdx? (fun e=>(Ms P w).is k e.2)=MB/\k∉xs.map (·.1)):=by
 have key:∀x:RE,(Ms P w).is k (mN x).2=decide (k=x.1):=fun x=>KeyKind.is_eq_decide (VL x.1 x.2) k;cases b:(xs.map mN).findIdx? (fun e=>(Ms P w).is k e.2)with
 |some j=>
  obtain⟨c,a,_⟩:=List.findIdx?_eq_some_iff_getElem.mp b
  refine .inl ⟨⟨j,rfl⟩,?_⟩
  rw[IZ]at c
  rw[List.getElem_map,key]at a
  exact Jp.mpr ⟨xs[j],JW c,(MJ a).symm⟩
 |none=>
  refine .inr ⟨rfl,fun m=>?_⟩
  obtain⟨x,d,e⟩:=Jp.mp m
  have:=List.findIdx?_eq_none_iff.mp b _ (Jp.mpr ⟨x,d,rfl⟩)
  rw[key,MI e.symm]at this
  cases this
theorem R6.store{h:Heap}{a:Addr}{o:Obj}{es es':Array (Int×I0)}{ep:Nat}{t t':K4}(get:h.get? a=MA o)(data:o.data=.set es ep t) :
 (h.update a (Obj.putSet es' t')).get? a=MA { o with data:=.set es' (ep+1) t' }:=by
 have:=Kx (Obj.putSet es' t') get (by rw[putSet_of es' t' data];rfl)
 rw[putSet_of es' t' data]at this;exact this
theorem Ep{t:K4}{es:Array (Int×I0)}(T:Qr t es)(h:Int):∃N,N<10*turns t.mask/\(ad t N (t.probeStart h)).j∉t.place.toList/\(∀m,m<N->(ad t m (t.probeStart h)).j∈t.place.toList)/\t.freeSlot h=MA ((ad t N (t.probeStart h)).j,MD):=by
 obtain⟨N,c,a,b⟩:=T.first h;refine⟨N,c,a,b,?_⟩
 have d:∀m,m<N->∃i,t.slot (ad t m (t.probeStart h)).j=.live i/\((fun _:Nat=>h+1) i==h)=MD:=fun m f=>by
  rcases Ax T.up T.dm (ad t m (t.probeStart h)).j with⟨_,q⟩|⟨i,g,_⟩
  ·exact absurd (b m f) q
  ·exact⟨i,g,beq_eq_false_iff_ne.mpr (show h+1≠h by omega)⟩
 have e:t.probe (fun _=>h+1) h (t.probeStart h)=MA (.empty (ad t N (t.probeStart h)).j MB):=pN (hashAt:=fun _=>h+1) (h:=h) N (10*turns t.mask) (t.probeStart h) c rfl d (lJ T.up T.dm a);unfold SetTable.freeSlot;rw[e];rfl
theorem add_int{a:Addr}{o:Obj}{es:Array (Int×I0)}{ep:Nat}{t:K4}{xs:List RE}(S:R6 s.heap a o es ep t xs){k:Int}{tk:Tok}(m:k∉xs.map (·.1)->xs.length+1<=18){Q:Bool->IY->Prop}
 (h:∀r h' o' es' G t' n,Lk a s.heap h'->R6 h' a o' es' G t' n->t'.led=t.led->(k∈xs.map (·.1)/\n=xs\/k∉xs.map (·.1)/\n.Perm ((k,tk)::xs))->Q r { s with heap:=h' }) :
 J7 (Jg P w) A (setAddHashed a (.int k tk) (hashInt k)) Q E s:=by
 have y:ElemsOf (Ms P w) es.toList:=by rw[S.ents];exact DY xs
 have X:es.size<scanBound:=by have:=S.hi;unfold scanBound;omega
 have L:=S.ok.fits
 unfold setAddHashed setAddHashedIn
 refine K9 (cc (wpAny_setState_of S.get S.data L ?_))
 dsimp only
 rw[byScan_of (knd:=Ms P w) (x:=.int k tk) rfl X y]
 simp only[↓reduceIte]
 unfold setAddByScan
 refine cc ?_
 refine cc (wpAny_rule ?_)
 refine cc (wpAny_setScan_of (knd:=Ms P w) (k:=k) (VL k tk) S.get S.data L y ?_)
 rw[S.ents]
 rcases D2 (P:=P) (w:=w) (xs:=xs) (k:=k)with⟨⟨j,e⟩,mem⟩|⟨e,C⟩
 ·rw[e]
  dsimp only
  refine IX (IX ?_)
  exact h _ s.heap _ _ _ _ _ (Heap.SameBut.refl a s.heap) S rfl (.inl ⟨mem,rfl⟩)
 ·rw[e]
  dsimp only
  have rm:=m C
  have Y:=S.len
  have Z:es.size+1<=t.mask:=by
   rcases S.ok.ms with q|q
   ·have:=S.lo q;omega
   ·omega
  obtain⟨N,hN,H,I,fr⟩:=Ep S.ok (hashInt k)
  have T:=S.ok.put (.int k tk) hN H I Z
  have O:layNew t es (hashInt k) (.int k tk)=(Ko es (t.put (ad t N (t.probeStart (hashInt k))).j).2 (hashInt k,.int k tk),(t.put (ad t N (t.probeStart (hashInt k))).j).1,MD,MD):=by
   unfold layNew
   rw[fr]
   dsimp only
   unfold SetTable.orStandIn
   rw[T.fits]
   rfl
  rw[O]
  clear O fr
  generalize hj:(ad t N (t.probeStart (hashInt k))).j=j at T
  have f:(t.put j).1.plain=MC:=S.pl
  have l:(t.put j).1.led=t.led:=rfl
  have g:(t.put j).1.mask=t.mask:=rfl
  generalize t.put j=tp at T f l g
  obtain⟨u,p⟩:=tp
  dsimp only at T f l g ⊢
  refine cc (IX ?_)
  rw[f,MF rfl]
  rw[hashByValue_scannable 8 rfl]
  refine cc (IX ?_)
  rw[show plainKind (Lf k tk)=MC from rfl,MF rfl]
  have D:(Ko es p (hashInt k,Lf k tk)).toList=(cG xs p (k,tk)).map mN:=by
   rw[CP,S.ents]
   unfold cG
   rw[Jk,J5,List.map_take,List.map_drop];rfl
  have F:(cG xs p (k,tk)).Perm ((k,tk)::xs):=by
   unfold cG
   have:=List.perm_middle (a:=(k,tk)) (l₁:=xs.take p) (l₂:=xs.drop p)
   rw[Mc]at this;exact this
  have sz:(Ko es p (hashInt k,Lf k tk)).size=es.size+1:=by
   rw[<-Jx,D,IZ,F.length_eq,Jr,Y]
  have nd:((cG xs p (k,tk)).map (·.1)).Nodup:=(F.map (·.1)).nodup_iff.mpr (Ku.mpr ⟨C,S.nd⟩)
  have J:=R6.store (es':=Ko es p (hashInt k,Lf k tk)) (t':=u) S.get S.data
  refine cc (wpAny_storeSet_of S.get S.data ?_ (fits_of_scanBound (by rw[sz];unfold scanBound;omega)))
  have R:=Kl s.heap a (Obj.putSet (Ko es p (hashInt k,Lf k tk)) u)
  have fill:u.fill=es.size+1:=by unfold SetTable.fill;rw[T.dm,T.sz,sz];rfl
  by_cases d:t.mask=7/\es.size=4
  ·have tf:u.tooFull=MC:=by unfold SetTable.tooFull;rw[fill,g,d.1,d.2];rfl
   rw[tf]
   simp only[Bool.not_false,Bool.and_self,if_true]
   rw[show SetTable.grown (Ko es p (hashInt k,Lf k tk)).size=20 by rw[sz,d.2];rfl]
   generalize a0:Ko es p (hashInt k,Lf k tk)=c at *
   obtain⟨v,b,e,e1,e2,e3,U,V⟩:=AW (M:=31) (.inr rfl) c (by omega) u.finger (u.movedTo 31) u.led u.plain
   have er:u.relaid (c.map (·.1)) 20=MA (v,b):=e
   have l1:c.size=(cG xs p (k,tk)).length:=by rw[<-Jx,D,IZ]
   have W:(b.filterMap (c[·]?)).toList=(b.toList.filterMap ((cG xs p (k,tk))[·]?)).map mN:=by
    rw[Array.toList_filterMap,List.map_filterMap]
    congr 1
    funext i
    rw[<-JM,D,J4]
   have K:(b.toList.filterMap ((cG xs p (k,tk))[·]?)).Perm (cG xs p (k,tk)):=by
    have:=V.filterMap ((cG xs p (k,tk))[·]?)
    rw[l1,List.filterMap_getElem?_range_length]at this
    exact this
   have B:(b.filterMap (c[·]?)).size=c.size:=by
    rw[<-Jx,W,IZ,K.length_eq,l1]
   have eR:relayAll u c 20=(b.filterMap (c[·]?),v,MD):=by
    unfold relayAll
    rw[er]
    dsimp only
    rw[show coversAll b c.size=MC from List.isPerm_iff.mpr V,U.fits]
    rfl
   rw[eR]
   dsimp only
   refine cc (IX ?_)
   have g2:=R6.store (es':=b.filterMap (c[·]?)) (t':=v) J rfl
   refine cc (wpAny_storeSet_of J rfl ?_ (fits_of_scanBound (by rw[B,sz];unfold scanBound;omega)))
   refine IX (IX (h _ _ _ _ _ _ _ (R.trans (Kl _ a _)) ⟨g2,S.ex,rfl,W,U,by rw[e1];exact f,(K.map (·.1)).nodup_iff.mpr nd,(fun q=>by rw[e3]at q;cases q),by rw[B,sz];omega⟩ (e2.trans l) (.inr ⟨C,K.trans F⟩)))
  ·have tf:u.tooFull=MD:=by
    unfold SetTable.tooFull;rw[fill,g,decide_eq_false_iff_not]
    rcases S.ok.ms with q|q
    ·have:=S.lo q
     have:es.size≠4:=fun z=>d ⟨q,z⟩
     rw[q];omega
    ·rw[q];omega
   rw[tf]
   simp only[LX,JS,if_false,LM]
   refine IX (IX (h _ _ _ _ _ _ _ R ⟨J,S.ex,rfl,D,T,f,nd,fun q=>?_,by rw[sz];omega⟩ l (.inr ⟨C,F⟩)))
   rw[g]at q
   have:=S.lo q
   have:es.size≠4:=fun z=>d ⟨q,z⟩
   rw[sz];omega
end
section
variable{P:Jl}{w:JL}
def nZ(h:Heap)(a:Addr)(ks:List Int)(i:Nat)(L:Bool):Prop:=∃o es ep t xs,R6 h a o es ep t xs/\t.led=L/\∀y,y∈xs.map (·.1)↔y∈ks.take i
theorem nZ.kept{h h':Heap}{a:Addr}{ks:List Int}{i:Nat}{L:Bool}(q:nZ h a ks i L)(k:∀o,h.get? a=MA o->h'.get? a=MA o):nZ h' a ks i L:=by obtain⟨o,es,ep,t,xs,S,r⟩:=q;exact⟨o,es,ep,t,xs,{ S with get:=k o S.get },r⟩
theorem sH{h:Heap}{a:Addr}{ks:List Int}{L:Bool}(b:h.get? a=MA { cls:=.type "set",dict:=MB,data:=.set #[] 0 (.fresh 0 0 L) }):nZ h a ks 0 L:=⟨_,_,_,_,[],⟨b,⟨rfl,rfl,rfl⟩,rfl,rfl,⟨.inl rfl,rfl,rfl,by simp[SetTable.fresh],Kb _,fun i e j c=>by simp at c⟩,rfl,Mw,fun _=>Kb _,Kb _⟩,rfl,fun y=>by simp⟩
variable{A:JQ}{R:Result->IY->Prop}{I:Addr}{fp wr:List Addr}{G:Array GenState->Array GenState->Prop}{St:Nat->IY->Prop}
theorem pR{n:Nat}{X:Nat->I0->Prop}(W:WalksS P w A.in1 I fp wr G n X St)(S:Addr)(f:S∉fp){ks:List Int}{L:Bool}(E:∀(i:Nat) v,X i v->∃k t,v=.int k t/\ks[i]?=MA k)(hn:ks.length<=18) :
 ∀(k i:Nat) (s:IY),n-i=k->i<=n->St i s->nZ s.heap S ks i L->
  (∀a,Moved (S::wr) G s a->nZ a.heap S ks n L->R (.ok (.ret .none)) a)->
  Ll (Jg P w) A (.builtin "set.update.loop" ⟨[.ref S,.ref I],[]⟩) R s:=by
 have g:S∉wr:=fun h=>f (W.sub _ h)
 have c:∀b∈wr,b∈S::wr:=fun b j=>Jn _ j
 intro k
 induction k with
 |zero=>
  intro i s hk hi d H J
  have K:i=n:=by omega
  subst K
  refine KY PyProof.Rows.F.entry_set_update_loop ?_
  rw[Lq PyProof.Rows.F.plain_set_update_loop _]
  show J7 _ A.in1 (Mu (.ref I) >>= _) _ _ s
  refine cc (W.done s _ _ d fun a p=>?_)
  show J7 _ A.in1 (ret LQ) _ _ a
  exact IX (J a (p.mono c) (H.kept fun o e=>p.heap S o g e))
 |succ k ih=>
  intro i s hk hi d H J
  have u:i<n:=by omega
  refine KY PyProof.Rows.F.entry_set_update_loop ?_
  rw[Lq PyProof.Rows.F.plain_set_update_loop _]
  show J7 _ A.in1 (Mu (.ref I) >>= _) _ _ s
  refine cc (W.item i s _ _ u d fun v a hP z p=>?_)
  obtain⟨x,t,rfl,Y⟩:=E i v hP
  have M:=H.kept (h':=a.heap) fun o e=>p.heap S o g e
  show J7 _ A.in1 (holding [Lf x t] (setAdd S (.int x t)) >>= _) _ _ a
  refine cc (K9 ?_)
  unfold setAdd
  refine K9 ?_
  refine cc ((Ms P w).pyHash (k:=x) (VL x t) ?_)
  obtain⟨o,es,ep,tt,xs,Z,l,m⟩:=M
  refine add_int (s:={ a with toks:=a.toks+1 }) Z (fun nm=>?_) fun r h' o' N O t' Q sb T l' D=>?_
  ·have:=sub_len' (m:=ks) (l:=x::xs.map (·.1)) (Ku.mpr ⟨nm,Z.nd⟩) fun y hy=>by
    rcases Jv.mp hy with q|q
    ·rw[q];exact J9 Y
    ·exact List.mem_of_mem_take ((m y).mp q)
   rw[Jr,IZ]at this
   omega
  have U:nZ h' S ks (i+1) L:=by
   refine⟨o',N,O,t',Q,T,l'.trans l,fun y=>?_⟩
   have tk:y∈ks.take (i+1)↔y∈ks.take i\/y=x:=by rw[List.take_add_one,Y,Jo];simp
   rw[tk,<-m y]
   rcases D with⟨D,rfl⟩|⟨D,px⟩
   ·exact⟨.inl,fun q=>q.elim id fun e=>by rw[e];exact D⟩
   ·rw[(px.map (·.1)).mem_iff,J5,Jv]
    exact⟨fun q=>q.elim .inr .inl,fun q=>q.elim .inr .inl⟩
  refine IX ⟨plainId_quiet PyProof.Rows.F.plain_set_update_loop _,ih (i+1) _ (by omega) u (W.frame _ a _ _ z (Nat.le_add_right _ _) fun b j o e=>?_) U fun V B C=>?_⟩
  ·rw[sb.2 b (fun h:b=S=>f (by rw[<-h];exact j))];exact e
  ·refine J V (Moved.trans W.gtrans ((p.mono c).then_heap (Nat.le_add_right _ _) fun b o j e=>?_) B) C
   rw[sb.2 b (fun h:b=S=>j (by rw[h];exact Jy))];exact e
end
section
variable{P:Jl}{w:JL}{A:JQ}{E:I0->IY->Prop}{s:IY}
theorem vP{l:Addr}{items:Array I0}{ks:List Int}{Q:I0->IY->Prop}
 (hh:A.handled=MB) (hl:s.heap.IsList l items) (H:∀(i:Nat) v,items[i]?=MA v->∃k t,v=.int k t/\ks[i]?=MA k) (hn:ks.length<=18)
 (h:∀(h':Heap) (tk:Nat),nZ h' s.heap.objs.size ks items.size (iz w)->
  (∀b o,b<s.heap.objs.size->s.heap.get? b=MA o->h'.get? b=MA o)->Q (.ref s.heap.objs.size) { s with heap:=h',toks:=tk }) :
 J7 (Jg P w) A (call (.type "set") [.ref l]) Q E s:=by
 obtain⟨c,tl,X⟩:=F.called_set.mro
 have I:=F.called_set.made
 have Y:=F.called_set.sub
 refine wpAny_call (codeAny_of_tree ?_)
 show J7 _ _ (callAny (.type "set") _) _ _ _
 refine IX ⟨Code.quiet_builtin _ (by decide +kernel),KY F.entry_type_call ?_⟩
 rw[Around.under_plain (weight_type_call_type "set" [.ref l] []) rfl]
 have h1:=F.called_set.notType
 have h2:=F.called_set.canCreate
 have d0:=F.typeCall_set_1 (.ref l)
 repeat (any_goals (first|assumption|wp_step))
 refine Mh (qy (.ref l) (E:=E) (Q₁:=fun obj f=>obj=.ref s.heap.objs.size/\f={ s with heap:=s.heap.push { cls:=.type "set",dict:=MB,data:=.set #[] 0 (.fresh 0 0 (iz w)) } }) ⟨rfl,rfl⟩) fun r f J=>?_
 cases r with
 |error e=>exact J
 |ok fl=>
  cases fl with
  |ret obj=>
   obtain⟨rfl,rfl⟩:=J
   have Z:(s.heap.push { cls:=.type "set",dict:=MB,data:=.set #[] 0 (.fresh 0 0 (iz w)) }).get? s.heap.objs.size=MA { cls:=.type "set",dict:=MB,data:=.set #[] 0 (.fresh 0 0 (iz w)) }:=J8 _ rfl
   have hT:Shared.TypeIs { s with heap:=s.heap.push { cls:=.type "set",dict:=MB,data:=.set #[] 0 (.fresh 0 0 (iz w)) } } (.ref s.heap.objs.size) "set":=⟨_,Z,rfl⟩
   have e0:=F.called_set.init.lookup
   have f0:=F.called_set.init.bind (.ref s.heap.objs.size)
   repeat (any_goals (first|assumption|wp_step))
   refine Mh (codeAny_call_builtin (R:=wants (fun r g=>r=.none/\∃h' tk,g={ s with heap:=h',toks:=tk }/\
    nZ h' s.heap.objs.size ks items.size (iz w)/\
    (∀b o,b<s.heap.objs.size->s.heap.get? b=MA o->h'.get? b=MA o)) E) F.called_set.init.plain F.entry_set_init (check_set_init_1 hT ?_)) fun p g a=>?_
   ·obtain⟨ol,q,u,nl,x⟩:=hl
    obtain⟨a0,j,K,d⟩:=ol
    simp only at u x
    subst u;subst x
    have y:(s.heap.push { cls:=.type "set",dict:=MB,data:=.set #[] 0 (.fresh 0 0 (iz w)) }).get? l=MA { cls:=.type "list",dict:=j,data:=.seq items nl,slots:=d }:=J3 _ q
    have b0:=F.sub_list_set
    have c0:=F.sub_list_frozenset
    have g0:(Value.type "list"==Value.type "dict")=MD:=by decide
    have z:(s.heap.push { cls:=.type "set",dict:=MB,data:=.set #[] 0 (.fresh 0 0 (iz w)) }).IsList l items:=⟨_,y,rfl,nl,rfl⟩
    unfold Ls.«set.__init__» noKeywords Builtin.Frozenset.updateFrom
    generalize M:pyIter=PI
    wp_walk
    subst M
    refine wpAny_pyIter_list z ?_
    refine cc (wpAny_runValue ?_)
    have B:l<s.heap.objs.size:=Jc q
    have N:A.in1.in1.in1.handled=MB:=by simp[hh]
    have C:l≠(s.heap.push { cls:=.type "set",dict:=MB,data:=.set #[] 0 (.fresh 0 0 (iz w)) }).objs.size:=by
     rw[KH];exact JK (Mj B)
    have O:s.heap.objs.size∉[(s.heap.push { cls:=.type "set",dict:=MB,data:=.set #[] 0 (.fresh 0 0 (iz w)) }).objs.size,l]:=by
     rw[KH];simp only[Jv,JT,List.not_mem_nil,or_false,not_or]
     exact⟨JK (Nat.lt_succ_self _),Nat.ne_of_gt B⟩
    refine pR (ks:=ks) (L:=iz w) ((Walks.list N _ l C items).toS) s.heap.objs.size
     O H hn (items.size-0) 0 _ (by omega) (Kb _)
     ⟨⟨_,J8 _ rfl,rfl,rfl⟩,(z.push _)⟩ ?hS0 ?hR
    case hS0=>
     have D:((s.heap.push { cls:=.type "set",dict:=MB,data:=.set #[] 0 (.fresh 0 0 (iz w)) }).push { cls:=.type "list_iterator",data:=.fields #[.ref l,.int 0 0] }).get? s.heap.objs.size
      = MA { cls:=.type "set",dict:=MB,data:=.set #[] 0 (.fresh 0 0 (iz w)) }:=J3 _ Z
     exact sH D
    case hR=>
     intro s' G m
     obtain⟨h',g',d',S,T⟩:=s'
     have eg:g'=s.gens:=G.gens
     have ed:d'=s.drawn:=G.drawn
     have eo:T=s.os:=G.os
     subst eg;subst ed;subst eo
     show J7 _ _ _ _ _ _
     refine IX ?_
     show J7 _ _ (ret LQ) _ _ _
     refine IX ⟨rfl,h',S,rfl,m,fun b o hb e=>?_⟩
     have U:b≠s.heap.objs.size:=JK hb
     have V:b≠(s.heap.push { cls:=.type "set",dict:=MB,data:=.set #[] 0 (.fresh 0 0 (iz w)) }).objs.size:=by
      rw[KH];exact JK (Mj hb)
     exact G.heap b o (by simp only[Jv,JT,List.not_mem_nil,or_false,not_or];exact⟨U,V⟩) (J3 _ (J3 _ e))
   ·cases p with
    |error e=>exact a
    |ok n=>
     cases n with
     |ret r=>
      obtain⟨rfl,h',tk,rfl,m,W⟩:=a
      repeat (any_goals (first|assumption|wp_step))
      exact h _ _ m W
     |_=>exact a.elim
  |_=>exact J.elim
end
section
variable{prog:Jl}{w:JL}{A:JQ}{E:I0->IY->Prop}{s:IY}{T:String}{r d:Addr}{n:Nat}{P:Nat->I0->Prop}{OK:Heap->Prop}
theorem y6{vs:List I0}{ns:List Int}{Q:I0->IY->Prop}(K:PySem.W.KdlSrc prog w T r d n P OK)(p:A.handled=MB)(hok:OK s.heap)(t:n<=Jb)(i:∀c,ItemsOf P c n->c.toList=vs)(u:KG vs ns)(j:vs.length<64)
 (h:∀(h':Heap) (tk:Nat) (l:Addr) (e:Nat) (out:Array I0) (a:List Int),(∀b o,s.heap.get? b=MA o->h'.get? b=MA o)->s.heap.objs.size<=l->h'.get? l=MA (seqObj "list" out e)->KG out.toList a->a.Perm ns->a.Pairwise (·<=·)->Q (.ref l) { s with heap:=h',toks:=tk }):J7 (Jg prog w) A (call (.builtin "sorted") [.ref r]) Q E s:=by
 refine Calls.call_function_entry kind_sorted plain_sorted entry_sorted (args_sorted1 _) ?_
 unfold Ls.«sorted»
 refine cc (m:=checkCount "sorted" 1 1 _) (IX (cc (xA K p hok t fun g tk c kp lt it=>?_)))
 rw[i c it]
 refine cc (wpAny_newList ?_ (by rw[sizeLine_eq];omega))
 have f:(g.push (seqObj "list" vs.toArray 0)).get? g.objs.size=MA (seqObj "list" vs.toArray 0):=J8 _ rfl
 show J7 _ _ _ _ _ { s with heap:=g.push (seqObj "list" vs.toArray 0),toks:=tk }
 refine cc (K9 (Kv PyProof.Rows.slot_list_sort ⟨_,f,rfl⟩ PyProof.Rows.entry_list_sort (list_sort_tree (s:={ s with heap:=g.push (seqObj "list" vs.toArray 0),toks:=tk }) f u j fun out a v x y=>⟨_,rfl,IX ⟨_,rfl,?_⟩⟩) (args_list_sort _)))
 obtain⟨e,z⟩:=sortedHeap_at (out:=out) f
 refine h _ tk g.objs.size e out a (fun b o q=>?_) (Nat.le_of_lt lt) z v x y
 have k:=Jc (kp b o q)
 rw[sortedHeap_old (JK k) (by rw[size_push'];exact Mj k)]
 exact J3 _ (kp b o q)
end
def uk(w:JL)(a:Addr)(ns:List Int):Heap->Prop:=fun h=>∃o es ep t,∃xs:List RE,Nq w h a o es ep t/\es.toList=xs.map mN/\xs.map (·.1)=ns
section
variable{X:Cx}
theorem sN(n:X.calm=MC):bO X (.type "set") (fun vs H Q=>∃(l:Addr) (us:List Int),vs=[.ref l]/\NZ X.K H l (us.map V.int)/\us.length<=18/\∀(a:Addr) (ns:List Int),H a=MB->ns.Nodup->(∀k,k∈ns↔k∈us)->Q (.ref a) (upd H a (.ext (uk X.w a ns)))):=by
 intro MP s σ H vs p Q I r A;obtain⟨l,us,B,C,D,q⟩:=A;subst B;obtain⟨u,rfl,E⟩:=vals1 r;cases E;obtain⟨c,j,F,M⟩:=I.list C;have G:=intsAre_of j;have d:c.length=us.length:=by rw[<-j.length,IZ]
 refine vP (items:=c.toArray) (ks:=us) (I.ok.hd n) F.isList (fun i v f=>?_) D fun m J L kp=>?_
 ·have f:c[i]?=MA v:=by simpa using f
  obtain⟨t,e⟩:=IntsAre.int_at G i v f;have N:=(Ja.mp f).1;refine⟨_,t,e,?_⟩;rw[List.getD_eq_getElem?_getD,J0 (show i<us.length by omega)];rfl
 ·obtain⟨o,es,ep,t,xs,S,g,h⟩:=L
  have h:∀x,x∈xs.map (·.1)↔x∈us:=fun x=>by
   have:=h x
   rw[show c.toArray.size=us.length by simpa using d,LP]at this
   exact this
  have R:Nq X.w m s.heap.objs.size o es ep t:=⟨S.get,S.ex,S.data,S.ok.fits,S.pl,g,S.ok.up,S.ok.sz⟩;refine⟨.ref s.heap.objs.size,_,I.laid (t':=J) (fun b o e=>kp b o (Jc e) e) (J1 _) (show bT X.prog X.w _ m _ (.ext (uk X.w s.heap.objs.size (xs.map (·.1))))from⟨⟨o,es,ep,t,xs,R,S.ents,rfl⟩,⟨o,R.get⟩,fun O P x y=>?_⟩),rfl,q _ _ (I.hok.fresh (J1 _)) S.nd h⟩;obtain⟨o,es,ep,t,xs,R,z⟩:=x;exact⟨o,es,ep,t,xs,R.kept y,z⟩
theorem pQ:∀xs:List RE,KG (xs.map fun x=>Lf x.1 x.2) (xs.map (·.1))
 |[]=>.nil
 |x::xs=>.cons _ _ (pQ xs)
theorem qg(y:X.calm=MC):bO X (.builtin "sorted") (fun vs H Q=>∃(p:Addr) (ns:List Int),vs=[.ref p]/\H p=MA (.ext (uk X.w p ns))/\ns.length<64/\∀(l:Addr) (a:List Int),H l=MB->a.Perm ns->a.Pairwise (·<=·)->Q (.ref l) (upd H l (.lst (a.map V.int)))):=by
 intro MP s σ H vs z Q I r A;obtain⟨p,d,B,C,N,q⟩:=A;subst B;obtain⟨u,rfl,D⟩:=vals1 r;cases D;obtain⟨⟨o,es,ep,t,g,R,E,F⟩,_⟩:=I.hok p _ C;obtain⟨xs,G,j⟩:=mK (f:=mN) (vg X.w p ep es) g E;have pn:(xs.map (·.1)).Perm d:=by rw[<-F];exact G.map _
 have k:es.size=xs.length:=by rw[<-kh X.w p ep es,<-Jx,j,IZ]
 have h:xs.length=d.length:=by rw[<-pn.length_eq,IZ]
 have m:xs.length<=Jb:=by rw[sizeLine_eq];omega
 refine y6 (vs:=xs.map fun x=>Lf x.1 x.2) (yZ (o:=o) (es:=es) (ep:=ep) (t:=t)) (I.ok.hd y) R (by rw[k];exact m) (fun b it=>?_) (pQ xs) (by rw[IZ];omega) fun O J l e out a kp n K L v M=>?_
 ·apply List.ext_getElem?;intro i;by_cases hi:i<es.size
  ·have c:i<b.size:=by rw[it.1];exact hi
   obtain⟨e,e1,e2⟩:=it.2 i b[i] (by simp[c]);rw[<-JM,j,J4]at e1;obtain⟨x,ex,rfl⟩:=LH.mp e1;rw[J4,ex,JM,Jt c,e2];rfl
  ·have c:¬i<b.size:=by rw[it.1];exact hi
   rw[k]at hi;rw[List.getElem?_eq_none (by rw[Jx];omega),List.getElem?_eq_none (by rw[IZ];omega)]
 ·refine⟨.ref l,_,I.laid (t':=J) kp n (show bT X.prog X.w _ _ _ (.lst _)from⟨?_,_,e,gQ L,by rw[Array.toArray_toList];exact K⟩),rfl,q _ a (I.hok.fresh n) (v.trans pn) M⟩;rw[IZ,(v.trans pn).length_eq,<-h];exact m
def E5(t:TD):TD:=fun δ M Q=>t δ M fun x a=>∃(l:Addr) (us:List Int),x=.ref l/\a l=MA (.lst (us.map D.int))/\us.length<=18/\∀(z:Addr) (ns:List Int),a z=MB->(∀k,k∈ns↔k∈us)->ns.Nodup->ns.Pairwise (·<=·)->Q (.ref z) (aC a z (.lst (ns.map D.int)))
variable{e:Expr}{t:TD}{p1 p2 MU MV:Pos}
theorem Ae:Ka "set"=MA (.type "set"):=by rfl
theorem qe(j:X.calm=MC)(p:Gl X "sorted")(s:X.mg "sorted"=MB)(u:Gl X "set")(y:X.mg "set"=MB)(he:DE X e t)(hs:Jd [e] X.env=(MD,eval e X.env)::Jd [] X.env:=by rfl)(f:Jd [.Call (.Name "set" p2) [e] [] MV] X.env=(MD,eval (.Call (.Name "set" p2) [e] [] MV) X.env)::Jd [] X.env:=by rfl) : DE X (.Call (.Name "sorted" p1) [.Call (.Name "set" p2) [e] [] MV] [] MU) (E5 t):=by
 refine a9 (qN (qg j) p s jz (kj (je (sN j) u y Ae (kj he pC hs) (he:=hs)) pC f) (he:=f)) fun σ H Q A=>?_;obtain⟨δ,M,R,B,C,D,E⟩:=A;refine⟨δ,M,_,B,C,D,fun x N v H1 F r a G=>?_⟩;obtain⟨l,us,ex,I,J,q⟩:=G;subst ex;rw[Rep]at r;subst r;obtain⟨O,h,L⟩:=a _ _ I;rw[dO L]at h;refine⟨_,us,rfl,NZ.of h,J,fun b ns m nd n=>⟨_,ns,rfl,aW,?_,fun z c d o up=>?_⟩⟩
 ·have:=sub_len' nd fun x h=>(n x).mp h;omega
 ·have i:H1 z=MB:=by
   unfold upd at d;split at d
   ·cases d
   ·exact d
  have g:NN X.K H1 (upd (upd H1 b (.ext (uk X.w b ns))) z (.lst (c.map V.int))):=(NN.new m).trans (.new d);exact E (.ref z) _ _ _ (F.trans g) (by rw[Rep]) ((a.new m).jK d (dQ c)) (q z c (a.fresh i) (fun k=>by rw[o.mem_iff];exact n k) (o.nodup_iff.mpr nd) up)
end
section
variable{P:Jl}{w:JL}{K:IW}{mg:Str->Option I0}{base:Heap}{x:Str}{st:Stmt}{N:List Str}{k:Nat}
def Pc(C:D->MH->DK->Prop):P5:=fun b M Q=>match b with
 |[a]=>C a M Q
 |_=>False
theorem fo{p:Str}{C:D->MH->DK->Prop}(T:Txt K mg x st)(S:NL N [p] (az st))
 (body:∀(f:Addr) (cdv:I0) (A:JQ) (outer:List Env) (s:IY) (H:Hp) (E:XK),N0 k (A.deeper (envOfC x (az st) s.heap.objs.size f cdv))->
  ∃t,DSs (jE PU P w K mg base N x (az st) f cdv A outer s H E).nox (bg st) t/\∀a M Q,C a M Q->t (qp Q) (gh N [a]) M)
 (e:∀(kV b d:I0) (an:Option Addr) (cdv ct a:I0),bindArgs (KS x x (cA st) (bg st) (az st) .none kV b d an cdv ct) ⟨[a],[]⟩=pure ([p].zip [a]):=by intros;rfl):Cal P w K mg base (k+1) x (Pc C):=by
 refine BM T S (fun kV b d an cdv ct us g=>?_) (fun c M Q h=>?_) fun f cdv A outer s H E i=>?_
 ·obtain⟨a,rfl⟩:=BQ g
  exact e ..
 ·rcases c with _|⟨a,_|⟨w,c⟩⟩
  all_goals first|exact JB h|rfl
 ·obtain⟨t,h,j⟩:=body f cdv A outer s H E i
  refine⟨t,h,fun c M Q h=>?_⟩
  rcases c with _|⟨a,_|⟨w,c⟩⟩
  all_goals first|exact JB h|exact j _ _ _ h
def OF(C:D->D->MH->DK->Prop):P5:=fun c M Q=>match c with
 |[a,b]=>C a b M Q
 |_=>False
theorem bP{p q:Str}{C:D->D->MH->DK->Prop}(T:Txt K mg x st)(S:NL N [p,q] (az st))
 (body:∀(f:Addr) (cdv:I0) (A:JQ) (outer:List Env) (s:IY) (H:Hp) (E:XK),N0 k (A.deeper (envOfC x (az st) s.heap.objs.size f cdv))->
  ∃t,DSs (jE PU P w K mg base N x (az st) f cdv A outer s H E).nox (bg st) t/\∀a b M Q,C a b M Q->t (qp Q) (gh N [a,b]) M)
 (g:∀(kV c e:I0) (an:Option Addr) (cdv ct a b:I0),bindArgs (KS x x (cA st) (bg st) (az st) .none kV c e an cdv ct) ⟨[a,b],[]⟩=pure ([p,q].zip [a,b]):=by intros;rfl):Cal P w K mg base (k+1) x (OF C):=by
 refine BM T S (fun kV c e an cdv ct us i=>?_) (fun d M Q h=>?_) fun f cdv A outer s H E j=>?_
 ·obtain⟨a,b,rfl⟩:=yl i
  exact g ..
 ·rcases d with _|⟨a,_|⟨b,_|⟨w,d⟩⟩⟩
  all_goals first|exact JB h|rfl
 ·obtain⟨t,h,l⟩:=body f cdv A outer s H E j
  refine⟨t,h,fun d M Q h=>?_⟩
  rcases d with _|⟨a,_|⟨b,_|⟨w,d⟩⟩⟩
  all_goals first|exact JB h|exact l _ _ _ _ h
def Rr(C:D->D->D->MH->DK->Prop):P5:=fun d M Q=>match d with
 |[a,b,c]=>C a b c M Q
 |_=>False
theorem qD{p q r:Str}{C:D->D->D->MH->DK->Prop}(T:Txt K mg x st)(S:NL N [p,q,r] (az st))
 (body:∀(f:Addr) (cdv:I0) (A:JQ) (outer:List Env) (s:IY) (H:Hp) (E:XK),N0 k (A.deeper (envOfC x (az st) s.heap.objs.size f cdv))->
  ∃t,DSs (jE PU P w K mg base N x (az st) f cdv A outer s H E).nox (bg st) t/\∀a b c M Q,C a b c M Q->t (qp Q) (gh N [a,b,c]) M)
 (i:∀(kV d g:I0) (an:Option Addr) (cdv ct a b c:I0),bindArgs (KS x x (cA st) (bg st) (az st) .none kV d g an cdv ct) ⟨[a,b,c],[]⟩=pure ([p,q,r].zip [a,b,c]):=by intros;rfl):Cal P w K mg base (k+1) x (Rr C):=by
 refine BM T S (fun kV d g an cdv ct us j=>?_) (fun e M Q h=>?_) fun f cdv A outer s H E l=>?_
 ·obtain⟨a,b,c,rfl⟩:=FN j
  exact i ..
 ·rcases e with _|⟨a,_|⟨b,_|⟨c,_|⟨w,e⟩⟩⟩⟩
  all_goals first|exact JB h|rfl
 ·obtain⟨t,h,m⟩:=body f cdv A outer s H E l
  refine⟨t,h,fun e M Q h=>?_⟩
  rcases e with _|⟨a,_|⟨b,_|⟨c,_|⟨w,e⟩⟩⟩⟩
  all_goals first|exact JB h|exact m _ _ _ _ _ h
def XO(C:D->D->D->D->MH->DK->Prop):P5:=fun e M Q=>match e with
 |[a,b,c,d]=>C a b c d M Q
 |_=>False
theorem Gx{p q r t:Str}{C:D->D->D->D->MH->DK->Prop}(T:Txt K mg x st)(S:NL N [p,q,r,t] (az st))
 (body:∀(f:Addr) (cdv:I0) (A:JQ) (outer:List Env) (s:IY) (H:Hp) (E:XK),N0 k (A.deeper (envOfC x (az st) s.heap.objs.size f cdv))->
  ∃t,DSs (jE PU P w K mg base N x (az st) f cdv A outer s H E).nox (bg st) t/\∀a b c d M Q,C a b c d M Q->t (qp Q) (gh N [a,b,c,d]) M)
 (j:∀(kV e i:I0) (an:Option Addr) (cdv ct a b c d:I0),bindArgs (KS x x (cA st) (bg st) (az st) .none kV e i an cdv ct) ⟨[a,b,c,d],[]⟩=pure ([p,q,r,t].zip [a,b,c,d]):=by intros;rfl):Cal P w K mg base (k+1) x (XO C):=by
 refine BM T S (fun kV e i an cdv ct us l=>?_) (fun g M Q h=>?_) fun f cdv A outer s H E m=>?_
 ·obtain⟨a,b,c,d,rfl⟩:=IU l
  exact j ..
 ·rcases g with _|⟨a,_|⟨b,_|⟨c,_|⟨d,_|⟨w,g⟩⟩⟩⟩⟩
  all_goals first|exact JB h|rfl
 ·obtain⟨t,h,n⟩:=body f cdv A outer s H E m
  refine⟨t,h,fun g M Q h=>?_⟩
  rcases g with _|⟨a,_|⟨b,_|⟨c,_|⟨d,_|⟨w,g⟩⟩⟩⟩⟩
  all_goals first|exact JB h|exact n _ _ _ _ _ _ h
end
theorem RK{t:Nn}{B:EndsD}{δ:DS}{M:MH}(h:∀a:EndsD,(∀δ M,B.nx δ M->a.nx δ M)->t a δ M):t B δ M:=h B fun _ _ h=>h
theorem XS{t:Nn}{B:EndsD}{δ:DS}{M:MH}(h:∀a:EndsD,(∀δ M,B.nx δ M->a.nx δ M)->(∀d M,B.rt d M->a.rt d M)->t a δ M):t B δ M:=h B (fun _ _ h=>h) fun _ _ h=>h
@[elab_as_elim] theorem Pe{P:List (Option D)->Prop}{n:Nat}{T:List (Option D)}(b:T.length=n+1)(h:∀(a:Option D) (U:List (Option D)),U.length=n->P (a::U)):P T:=by
 cases T with
 |nil=>cases b
 |cons a U=>exact h a U (Nat.succ.inj b)
theorem YE{P:List (Option D)->Prop}{T:List (Option D)}(b:T.length=0)(h:P []):P T:=by
 cases T with
 |nil=>exact h
 |cons a U=>cases b
@[elab_as_elim] theorem IT{P:List (Option D)->Prop}{T:List (Option D)}(d:T.length=3)(h:∀a b c,P [a,b,c]):P T:=Pe (P:=P) d fun a U d=>Pe (P:=fun T=>P (a::T)) d fun b U d=>Pe (P:=fun T=>P (a::b::T)) d fun c U d=>YE (P:=fun T=>P (a::b::c::T)) d (h a b c)
@[elab_as_elim] theorem HR{P:List (Option D)->Prop}{T:List (Option D)}(g:T.length=6)(h:∀a b c d e f,P [a,b,c,d,e,f]):P T:=Pe (P:=P) g fun a U g=>Pe (P:=fun T=>P (a::T)) g fun b U g=>Pe (P:=fun T=>P (a::b::T)) g fun c U g=>IT (P:=fun T=>P (a::b::c::T)) g (h a b c)
@[elab_as_elim] theorem IB{P:List (Option D)->Prop}{T:List (Option D)}(k:T.length=9)(h:∀a b c d e f g i j,P [a,b,c,d,e,f,g,i,j]):P T:=Pe (P:=P) k fun a U k=>Pe (P:=fun T=>P (a::T)) k fun b U k=>Pe (P:=fun T=>P (a::b::T)) k fun c U k=>HR (P:=fun T=>P (a::b::c::T)) k (h a b c)
inductive VT(a b c d:Prop):Prop
 |mk (_:a) (_:b) (_:c) (_:d):VT a b c d
inductive XG(a b c d e:Prop):Prop
 |mk (_:a) (_:b) (_:c) (_:d) (_:e):XG a b c d e
inductive XF(a b c d e f:Prop):Prop
 |mk (_:a) (_:b) (_:c) (_:d) (_:e) (_:f):XF a b c d e f
inductive VS(a b c d e f g:Prop):Prop
 |mk (_:a) (_:b) (_:c) (_:d) (_:e) (_:f) (_:g):VS a b c d e f g
inductive X6(a b c d e f g h:Prop):Prop
 |mk (_:a) (_:b) (_:c) (_:d) (_:e) (_:f) (_:g) (_:h):X6 a b c d e f g h
inductive X5(a b c d e f g h i:Prop):Prop
 |mk (_:a) (_:b) (_:c) (_:d) (_:e) (_:f) (_:g) (_:h) (_:i):X5 a b c d e f g h i
inductive VD(a b c d e f g h i j:Prop):Prop
 |mk (_:a) (_:b) (_:c) (_:d) (_:e) (_:f) (_:g) (_:h) (_:i) (_:j):VD a b c d e f g h i j
inductive Qu{a0 a1:Type}(p:a0->a1->Prop):Prop
 |mk (x0:a0) (x1:a1) (h:p x0 x1):Qu p
inductive Ro{a0 a1 a2:Type}(p:a0->a1->a2->Prop):Prop
 |mk (x0:a0) (x1:a1) (x2:a2) (h:p x0 x1 x2):Ro p
inductive VR{a0 a1 a2 a3:Type}(p:a0->a1->a2->a3->Prop):Prop
 |mk (x0:a0) (x1:a1) (x2:a2) (x3:a3) (h:p x0 x1 x2 x3):VR p
inductive VQ{a0 a1 a2 a3 a4:Type}(p:a0->a1->a2->a3->a4->Prop):Prop
 |mk (x0:a0) (x1:a1) (x2:a2) (x3:a3) (x4:a4) (h:p x0 x1 x2 x3 x4):VQ p
inductive VP{a0 a1 a2 a3 a4 a5 a6:Type}(p:a0->a1->a2->a3->a4->a5->a6->Prop):Prop
 |mk (x0:a0) (x1:a1) (x2:a2) (x3:a3) (x4:a4) (x5:a5) (x6:a6) (h:p x0 x1 x2 x3 x4 x5 x6):VP p
end SD
namespace QQ
open PySem PySem.Spec PyProof.Rows L2 SD
def top(i:Nat):Stmt:=JF.main.body.getD i (.Pass ⟨0,0,0,0⟩)
abbrev ib:Stmt:=top 43
abbrev md:Stmt:=top 44
abbrev jU:Stmt:=top 46
abbrev kJ:Stmt:=top 49
abbrev qr:Stmt:=top 50
abbrev kD:Stmt:=top 51
abbrev fF:Stmt:=top 52
abbrev nC:Stmt:=top 45
abbrev k8:Stmt:=top 47
abbrev k7:Stmt:=top 48
abbrev j3:Stmt:=top 21
abbrev fm:Stmt:=top 22
abbrev Cz:Stmt:=top 17
abbrev yd:Stmt:=top 18
abbrev nL:Stmt:=top 19
abbrev f7:Stmt:=top 23
abbrev ig:Stmt:=top 24
abbrev jZ:Stmt:=top 25
abbrev lQ:Stmt:=top 26
abbrev iF:Stmt:=top 54
abbrev lR:Stmt:=top 53
abbrev eD:Stmt:=top 4
abbrev gf:Stmt:=top 7
abbrev mD:Stmt:=top 8
abbrev iY:Stmt:=top 27
abbrev lE:Stmt:=top 5
abbrev jS:Stmt:=top 28
abbrev lK:Stmt:=top 15
abbrev ny:Stmt:=top 6
abbrev lM:Stmt:=top 10
abbrev ic:Stmt:=top 13
abbrev ik:Stmt:=top 14
abbrev iO:Stmt:=top 41
abbrev eU:Stmt:=top 35
abbrev iN:Stmt:=top 12
abbrev gy:Stmt:=top 36
abbrev vf:Stmt:=top 30
abbrev mz:Stmt:=top 11
abbrev kZ:Stmt:=top 31
abbrev lO:Stmt:=top 16
abbrev kS:Stmt:=top 32
abbrev hZ:Stmt:=top 33
abbrev iV:Stmt:=top 37
abbrev fB:Stmt:=top 38
abbrev kO:Stmt:=top 39
abbrev Cb:Stmt:=top 55
local macro_rules | `(tactic| walk_at "sc") => `(tactic| exact ⟨rfl, rfl, rfl, by decide, rfl, by decide, by decide⟩)
theorem _root_.SD.Cal.m{P:Jl}{w:JL}{K:IW}{mg:Str->Option I0}{base:Heap}{j k:Nat}{x:Str}{sp:P5}(h:Cal P w K mg base j x sp)(l:j<=k:=by decide):Cal P w K mg base k x sp:=h.mono l
structure Tx(K:IW)(mg:Str->Option I0):Prop where
 f_law_cell_at:Txt K mg "_law_cell_at" ib
 f_law_take:Txt K mg "_law_take" md
 f_law_scale:Txt K mg "_law_scale" jU
 f_law_turn:Txt K mg "_law_turn" kJ
 f_law_on:Txt K mg "_law_on" qr
 f_law_fair:Txt K mg "_law_fair" kD
 f_law_shuts_here:Txt K mg "_law_shuts_here" fF
 f_law_low:Txt K mg "_law_low" nC
 f_law_spot:Txt K mg "_law_spot" k8
 f_law_made:Txt K mg "_law_made" k7
 f_face_ends:Txt K mg "face_ends" j3
 f_faces_by_start:Txt K mg "faces_by_start" fm
 f_gap:Txt K mg "gap" Cz
 f_lean:Txt K mg "lean" yd
 f_side_of:Txt K mg "side_of" nL
 f_is_met_sooner:Txt K mg "is_met_sooner" f7
 f_face_behind:Txt K mg "face_behind" ig
 f_ring_from:Txt K mg "ring_from" jZ
 f_rings_of:Txt K mg "rings_of" lQ
 f_law_groups:Txt K mg "_law_groups" iF
 f_law_ends:Txt K mg "_law_ends" lR
 f_greatest_divisor:Txt K mg "greatest_divisor" eD
 f_common_bottom:Txt K mg "common_bottom" gf
 f_top_over:Txt K mg "top_over" mD
 f_twice_area:Txt K mg "twice_area" iY
 f_fraction:Txt K mg "fraction" lE
 f_ring_area:Txt K mg "ring_area" jS
 f_own_spot:Txt K mg "own_spot" lK
 f_is_less:Txt K mg "is_less" ny
 f_is_ahead:Txt K mg "is_ahead" lM
 f_place_among:Txt K mg "place_among" ic
 f_ahead_first:Txt K mg "ahead_first" ik
 f_corners_of:Txt K mg "corners_of" iO
 f_outer_and_inner:Txt K mg "outer_and_inner" eU
 f_earlier_of:Txt K mg "earlier_of" iN
 f_first_corner:Txt K mg "first_corner" gy
 f_spans:Txt K mg "spans" vf
 f_later_of:Txt K mg "later_of" mz
 f_is_above:Txt K mg "is_above" kZ
 f_own_wall:Txt K mg "own_wall" lO
 f_upper_of:Txt K mg "upper_of" kS
 f_upper_below:Txt K mg "upper_below" hZ
 f_land_about:Txt K mg "land_about" iV
 f_lands_of_faces:Txt K mg "lands_of_faces" fB
 f_lands_of:Txt K mg "lands_of" kO
 f_law:Txt K mg "law" Cb
 b_abs:mg "abs"=MB
 b_all:mg "all"=MB
 b_enumerate:mg "enumerate"=MB
 b_int:mg "int"=MB
 b_len:mg "len"=MB
 b_list:mg "list"=MB
 b_max:mg "max"=MB
 b_min:mg "min"=MB
 b_range:mg "range"=MB
 b_set:mg "set"=MB
 b_sorted:mg "sorted"=MB
 b_tuple:mg "tuple"=MB
 b_zip:mg "zip"=MB
theorem mw:NL ["_law_script","_law_k"] ["_law_script","_law_k"] (az ib):=by walk_at "sc"
inductive OR(x y:D)(M:MH)(Q:DK):Prop
 |mk (ns:_) (k:_) (_:x=.rol (KN D.int ns)) (_:y=.int k) (_:0<=k) (_:∀z,Q (.int z) M)
variable{P:Jl}{w:JL}{K:IW}{mg:Str->Option I0}{base:Heap}
theorem mL(T:Tx K mg):Cal P w K mg base 1 "_law_cell_at" (OF OR):=by
 refine bP (k:=0) T.f_law_cell_at mw fun f cdv A outer s H E a=>⟨_,(ak (bJ (aP (gx a.units) (dv 1) (aN cW rfl T.b_len cT (aa (dv 0) af))) (aw (aH (aB (dv 0) (dv 1)))) aU) (aw (aH aj))),fun _ _ M Q h=>?_⟩;obtain⟨ns,k,rfl,rfl,e,q⟩:=h;(repeat (first|refine⟨_,rfl,?_⟩|refine⟨trivial,?_⟩|refine⟨_,_,rfl,?_⟩|refine⟨rfl,?_⟩|refine⟨NS rfl,?_⟩))
 refine cD (fun b=>?_) (fun _=>?_)
 ·have c:k<(ns.length:Int):=by simpa using b
  obtain⟨j,rfl⟩:∃j:Nat,k=(j:Int):=⟨k.toNat,by omega⟩;have d:j<ns.length:=by omega
  refine⟨_,rfl,_,rfl,.int ns[j],bz (by simp[d]),N3 (q _)⟩
 ·exact N3 (q 0)
theorem eY:NL ["_law_row","_law_base","_law_rest","_law_number"] ["_law_row","_law_base"] (az md):=by walk_at "sc"
inductive Ox(y z:D)(M:MH)(Q:DK):Prop
 |mk (r:_) (b:_) (x:_) (c:_) (_:y=.ref r) (_:z=.int b) (_:M r=MA (.lst [.int x,.int c])) (_:0<=c) (_:c<1000000) (_:0<b) (_:Bd 8000 b) (_:∀x' v,0<=v->v<b->Q (.int v) (aC M r (.lst [.int x',.int (c+1)])))
theorem aQ(T:Tx K mg):Cal P w K mg base 1 "_law_take" (OF Ox):=by
 refine bP (k:=0) T.f_law_take eY fun f cdv A outer s H E p=>⟨_,(ak (cR (aD bF (aB (dv 0) aj) aj) (oq (dv 0) aj)) (ak (bJ (aP zU (aB (dv 0) aj) (aD jy aj aj)) (ak (aG 2 eY.nd (aD dZ (aB (dv 0) aj) (aD jy aj aj))) (ak (cR (aD bF (aD jy aj aj) (aD fE (dv 2) (dv 1))) (oq (dv 0) aj)) (aw (aH (aD gi (dv 2) (dv 1)))))) aU) (ak (aG 3 eY.nd (aD gi (aD bF (aD bF (aD bF (aD aO (aB (dv 0) aj) aj) (aD aO (aD aO aj (aB (dv 0) aj)) (aB (dv 0) aj))) (aD aO aj (aB (dv 0) aj))) aj) aj)) (ak (aG 3 eY.nd (aD gi (aD bF (aD bF (aD aO (dv 3) (dv 3)) (aD aO aj (dv 3))) (aB (dv 0) aj)) aj)) (aw (aH (aD gi (aD fE (dv 3) aj) (dv 1)))))))),fun _ _ M Q h=>?_⟩;obtain⟨r,b,x,c,rfl,rfl,i,l,m,j,g,q⟩:=h;have d:Bd 64 (c+1):=by show(c+1).natAbs<2^64;omega
 have a:b≠0:=by omega
 have e:∀n:Int,0<=n.fmod b/\n.fmod b<b:=fun n=>⟨Int.fmod_nonneg_of_pos _ j,Int.fmod_lt_of_pos _ j⟩;refine⟨_,rfl,_,_,i,rfl,?_⟩;refine⟨_,rfl,_,_,i,rfl,?_⟩;refine⟨_,rfl,_,_,ag,rfl,⟨by decide,by decide,by decide⟩,trivial,_,rfl,?_⟩;refine cD (fun h=>?_) (fun h=>?_)
 ·refine⟨_,rfl,_,_,ag,rfl,⟨by decide,by decide,by decide⟩,trivial,?_⟩;refine⟨⟨by decide,by decide,by decide⟩,_,rfl,_,rfl,⟨a,g⟩,_,rfl,_,_,ag,rfl,?_⟩;refine⟨_,rfl,_,rfl,a,?_⟩;rw[bL];exact N3 (q _ _ (e _).1 (e _).2)
 ·refine⟨_,rfl,_,_,ag,rfl,t9 (by decide),?_⟩;refine⟨_,rfl,_,_,ag,rfl,bE (by decide),?_⟩;refine⟨_,rfl,_,_,ag,rfl,t9 d,?_⟩;refine⟨_,rfl,_,_,ag,rfl,bE (by decide),(show(2147483399:Int)≠0 by decide),?_⟩
  have o:∀n:Int,Bd 64 (n.fmod 2147483399):=fun n=>by
   have t:=Int.fmod_nonneg_of_pos n (show(0:Int)<2147483399 by decide)
   have u:=Int.fmod_lt_of_pos n (show(0:Int)<2147483399 by decide)
   show(n.fmod 2147483399).natAbs<2^64
   omega
  refine⟨_,rfl,_,rfl,bE (o _),_,rfl,bE (by decide),_,rfl,_,_,ag,rfl,(show(2147483647:Int)≠0 by decide),?_⟩;refine⟨_,rfl,⟨by decide,cY (by decide)⟩,_,rfl,a,?_⟩;exact N3 (q _ _ (e _).1 (e _).2)
theorem dI:NL ["_law_row","_law_top","_law_bottom","_law_far"] ["_law_row"] (az jU):=by walk_at "sc"
inductive Oa(u:D)(M:MH)(Q:DK):Prop
 |mk (r:Addr) (x c:Int) (_:u=.ref r) (_:M r=MA (.lst [.int x,.int c])) (_:0<=c) (_:c<900000) (_:∀x' c' t b p q,OE t b p q->0<=c'->c'<=c+10->Q (Qw t b p q) (aC M r (.lst [.int x',.int c'])))
theorem pS(T:Tx K mg):Cal P w K mg base 2 "_law_scale" (Pc Oa):=by
 refine fo (k:=1) T.f_law_scale dI fun f cdv A outer s H E d=>⟨_,(ak (fW 1 2 rfl dI.nd (aa (aD bF aj (ay (aQ T).m d (aa (dv 0) (aa aj af)))) (aa (aD bF aj (ay (aQ T).m d (aa (dv 0) (aa aj af)))) af))) (ak (bJ (aP (ez d.units) (ay (aQ T).m d (aa (dv 0) (aa aj af))) aj) (aw (fW 1 2 rfl dI.nd (aa (aD bF aj (ay (aQ T).m d (aa (dv 0) (aa (aD jy aj aj) af)))) (aa (aD bF aj (ay (aQ T).m d (aa (dv 0) (aa (aD jy aj aj) af)))) af)))) aU) (ak (aG 3 dI.nd (aB (bR (aa aj (aa (aD jy aj aj) af))) (c8 oX rfl T.b_int nY (aa (dD (ez d.units) (ay (aQ T).m d (aa (dv 0) (aa aj af))) aj) af)))) (aw (aH (aV (aa (dv 1) (aa (dv 2) (aa (aD aO (dv 3) (aD dZ (ay (aQ T).m d (aa (dv 0) (aa aj af))) aj)) (aa (aD aO (dv 3) (aD dZ (ay (aQ T).m d (aa (dv 0) (aa aj af))) aj)) af)))))))))),fun _ M Q h=>?_⟩;obtain⟨r,x,c,rfl,S,l,U,k⟩:=h;refine⟨_,rfl,r,6,x,c,rfl,rfl,S,l,by omega,by decide,cY (by decide),fun x1 V W X=>?_⟩;refine⟨_,rfl,r,6,x1,c+1,rfl,rfl,ag,by omega,by omega,by decide,cY (by decide),fun Y Z a0 b0=>?_⟩;refine⟨_,_,rfl,?_⟩;(try dsimp only[SD.aZ])
 refine eZ (fun δ C=>∃x g t b F,0<=g/\g<=c+5/\(0<t/\t<=10^9/\0<b/\b<=10^9)/\C=aC M r (.lst [.int x,.int g])/\δ=[MA (.ref r),MA (.int t),MA (.int b),F]) ?_ (fun G=>?_);rotate_left
 ·refine⟨_,rfl,r,4,Y,c+1+1,rfl,rfl,ag,by omega,by omega,by decide,cY (by decide),fun I v3 c0 d0=>⟨_,rfl,?_⟩⟩;refine cD (fun _=>?_) (fun _=>?_)
  ·refine⟨_,rfl,⟨by decide,by decide,by decide⟩,r,10^9,I,c+1+1+1,rfl,rfl,ag,by omega,by omega,by decide,cY (by decide),fun x4 v4 e0 f0=>?_⟩;refine⟨_,rfl,⟨by decide,by decide,by decide⟩,r,10^9,x4,c+1+1+1+1,rfl,rfl,ag,by omega,by omega,by decide,cY (by decide),fun x5 v5 g0 h0=>?_⟩;refine⟨_,_,rfl,G _ _ ⟨x5,c+1+1+1+1+1,1+v4,1+v5,MB,by omega,by omega,by omega,?_,rfl⟩⟩;simp only[bL]
  ·refine G _ _ ⟨I,c+1+1+1,1+V,1+Z,MB,by omega,by omega,by omega,?_,rfl⟩;simp only[bL]
 rintro δ C ⟨x,g,t,b,F,J,L,N,rfl,rfl⟩;refine⟨⟨by decide,by decide,by decide⟩,NS rfl,fun p n=>?_⟩;have i:r≠p:=aE ag n;refine⟨_,rfl,r,6,x,g,rfl,rfl,(by rw[aA i,ag]),by omega,by omega,by decide,cY (by decide),fun x6 O i0 k0=>?_⟩
 have hf:∃f:Int,atI [D.int 1,D.int (10^15)] (if decide (O=0)=MC then 1 else 0)=MA (.int f)/\1<=f/\f<=10^15:=by
  by_cases z:O=0
  ·exact⟨10^15,by rw[MF (by simpa using z)];rfl,by decide,by decide⟩
  ·exact⟨1,by rw[ME (by simpa using z)];rfl,by decide,by decide⟩
 obtain⟨f,ef,l0,m0⟩:=hf;refine⟨_,_,(by rw[aA i.symm,ag];rfl),ef,?_⟩;have R:Bd 64 f:=by show f.natAbs<2^64;omega
 refine⟨_,rfl,_,rfl,_,rfl,_,rfl,r,41,x6,g+1,rfl,rfl,ag,by omega,by omega,by decide,cY (by decide),fun x7 v7 q u=>⟨trivial,bE R,?_⟩⟩;refine⟨_,rfl,_,rfl,r,41,x7,g+1+1,rfl,rfl,ag,by omega,by omega,by decide,cY (by decide),fun x8 v8 y B=>⟨trivial,bE R,NS rfl,?_⟩⟩
 have j:∀v:Int,0<=v->v<41->-(10^17)<=f*(v-20)/\f*(v-20)<=10^17:=fun v a b=>by
  have h1:f*(v-20)<=f*20:=Int.mul_le_mul_of_nonneg_left (by omega) (by omega)
  have h2:f*(-20)<=f*(v-20):=Int.mul_le_mul_of_nonneg_left (by omega) (by omega)
  omega
 have q7:=j v7 q u;have q8:=j v8 y B;refine⟨aC M r (.lst [.int x8,.int (g+1+1+1)]),?_,k _ _ _ _ _ _ ⟨N.1,by omega,N.2.2.1,by omega,by omega,by omega,by omega,by omega⟩ (by omega) (by omega)⟩;simp only[bL];refine .IF ?_;intro a o ne e;have:a≠p:=fun z=>by subst z;rw[aA ne]at n;rw[n]at e;cases e
 rw[aA this,aA ne];exact e
theorem eO:NL ["_law_one","_law_two","_law_three","_law_far","_law_beside","_law_found"] ["_law_one","_law_two","_law_three"] (az kJ):=by walk_at "sc"
inductive Ow(u v w:D)(M:MH)(Q:DK):Prop
 |mk (a b c d e f:Int) (_:u=.tup [.int a,.int b]) (_:v=.tup [.int c,.int d]) (_:w=.tup [.int e,.int f]) (_:Bd 10 a) (_:Bd 10 b) (_:Bd 10 c) (_:Bd 10 d) (_:Q (.int (Jw (Nx (c-a) (d-b) (e-a) (f-b)))) M)
theorem iq(T:Tx K mg):Cal P w K mg base 1 "_law_turn" (Rr Ow):=by
 refine qD (k:=0) T.f_law_turn eO fun f cdv A outer s H E g=>⟨_,(ak (aG 3 eO.nd (aV (aa (aD dZ (aB (dv 1) aj) (aB (dv 0) aj)) (aa (aD dZ (aB (dv 1) aj) (aB (dv 0) aj)) af)))) (ak (aG 4 eO.nd (aV (aa (aD dZ (aB (dv 2) aj) (aB (dv 0) aj)) (aa (aD dZ (aB (dv 2) aj) (aB (dv 0) aj)) af)))) (ak (aG 5 eO.nd (aD dZ (aD aO (aB (dv 3) aj) (aB (dv 4) aj)) (aD aO (aB (dv 3) aj) (aB (dv 4) aj)))) (aw (aH (aD dZ (c8 oX rfl T.b_int nY (aa (dD (oZ g.units) (dv 5) aj) af)) (c8 oX rfl T.b_int nY (aa (dD (gx g.units) (dv 5) aj) af)))))))),fun _ _ _ M Q h=>?_⟩;obtain⟨a,b,c,d,e,f,rfl,rfl,rfl,i,j,l,hd,k⟩:=h;refine⟨_,rfl,_,rfl,_,rfl,_,rfl,trivial,_,rfl,_,rfl,_,rfl,_,rfl,trivial,NS rfl,?_⟩;refine⟨_,rfl,_,rfl,_,rfl,_,rfl,trivial,_,rfl,_,rfl,_,rfl,_,rfl,trivial,NS rfl,?_⟩;refine⟨_,rfl,_,rfl,_,rfl,_,rfl,bE ((l.sub i).mono (by decide)),_,rfl,_,rfl,_,rfl,_,rfl,bE ((hd.sub j).mono (by decide)),trivial,?_⟩;refine⟨_,rfl,trivial,_,rfl,trivial,trivial,?_⟩
 have e1:(if decide (0<(c-a)*(f-b)-(d-b)*(e-a))=MC then(1:Int)else 0)-(if decide ((c-a)*(f-b)-(d-b)*(e-a)<0)=MC then(1:Int)else 0)=Jw (Nx (c-a) (d-b) (e-a) (f-b)):=by
  unfold Nx;generalize (c-a)*(f-b)-(d-b)*(e-a)=z;rcases Jh z 0 with h|h|h
  ·rw[JZ h,ME (by simp;omega),MF (by simpa using h)];rfl
  ·subst h;rfl
  ·rw[K8 h,MF (by simpa using h),ME (by simp;omega)];rfl
 dsimp only;rw[e1];exact N3 k
theorem vN:NL ["_law_shut","_law_spot_here"] ["_law_shut","_law_spot_here"] (az qr):=by walk_at "sc"
inductive Pq(u v:D)(M:MH)(Q:DK):Prop
 |mk (w:Wl) (x y:Int) (_:u=uw w) (_:v=.tup [.int x,.int y]) (_:NO w) (_:(0<=x/\x<=20)) (_:(0<=y/\y<=20)) (_:Q (.bl (decide (l1 w<=la x y)&&decide (la x y<=l2 w)&&decide (sd w x y=0))) M)
theorem xR(T:Tx K mg):Cal P w K mg base 2 "_law_on" (OF Pq):=by
 refine bP (k:=1) T.f_law_on vN fun f cdv A outer s H E i=>⟨_,(aw (aH (wR (zE (rS i.units) (rS i.units) (aB (dv 0) aj) (dv 1) (aB (dv 0) aj)) (tR (dD (ez i.units) (ay (iq T).m i (aa (aB (dv 0) aj) (aa (aB (dv 0) aj) (aa (dv 1) af)))) aj))))),fun _ _ M Q h=>?_⟩;obtain⟨w,x,y,rfl,rfl,W,n,l,k⟩:=h;(try dsimp only[SD.jd,SD.fG,SD.aZ,SD.jX,SD.jT,SD.fh,SD.gu,SD.tBD,SD.jV,SD.EndsD.nxt,SD.EndsD.lp])
 refine Gi (decide (l1 w<=la x y)&&decide (la x y<=l2 w)) (decide (sd w x y=0)) (fun K g=>?_) (fun _ K g=>?_) (N3 k)
 ·refine⟨_,rfl,_,rfl,_,rfl,[w.1,w.2.1],[x,y],rfl,rfl,_,rfl,?_⟩;rw[B9 W.b l];refine cD (fun h=>?_) (fun h=>?_)
  ·refine⟨_,rfl,_,rfl,[x,y],[w.2.2.1,w.2.2.2],rfl,rfl,?_⟩;rw[B9 l W.d];have j:decide (l1 w<=la x y)=MC:=h;rw[j,L6]at g;exact g
  ·have j:decide (l1 w<=la x y)=MD:=eq_false_of_ne_true h;rw[j,K5]at g;exact g
 ·refine⟨_,rfl,_,rfl,_,rfl,_,rfl,_,rfl,w.1,w.2.1,w.2.2.1,w.2.2.2,x,y,rfl,rfl,rfl,cK W.a,cK W.b,cK W.c,cK W.d,?_⟩;have e:decide (Jw (Nx (w.2.2.1-w.1) (w.2.2.2-w.2.1) (x-w.1) (y-w.2.1))=0)=decide (sd w x y=0):=by rw[MK];exact Int.sign_eq_zero_iff_zero
  try dsimp only
  show K (.bl (decide _)) _;rw[e];exact g
theorem cL:NL ["_law_one","_law_other","_law_shut","_law_beside","_law_spot_here","_law_sides","_law_others"] ["_law_one","_law_other"] (az kD):=by walk_at "sc"
inductive PB(u v:D)(M:MH)(Q:DK):Prop
 |mk (U V:Wl) (_:u=uw U) (_:v=uw V) (_:NO U) (_:NO V) (_:∀b:Bool,(b=MC->Na U V)->Q (.bl b) M)
theorem rM(T:Tx K mg):Cal P w K mg base 3 "_law_fair" (OF PB):=by
 refine bP (k:=2) T.f_law_fair cL fun f cdv A outer s H E F=>⟨_,(ak (bJ (aP (ez F.units) (dv 0) (dv 1)) (aw (aH g9)) aU) (ak (bM Js rfl (aT (aV (aa (aV (aa (dv 0) (aa (dv 1) af))) (aa (aV (aa (dv 1) (aa (dv 0) af))) af)))) (bX rfl (aI (aF 2 cL.nd) (aI (aF 3 cL.nd) bD))) (aw (bM Js rfl (aT (dv 3)) (aF 4 cL.nd) (aw (bJ (rz (kX (aP (zX (mT F)) (dv 4) (dv 2) (by with_unfolding_all rfl)) (ja (fY (ay (xR T).m F (aa (dv 2) (aa (dv 4) af))))))) (aw (aH g9)) aU))))) (ak (iH 5 cL.nd (NM.of (xs:=["_law_spot_here"]) (js:=[0]) rfl) rfl (aT (dv 1)) (fun _ _ _ _=>ff) (fun _ _ _ _=>(ay (iq T).m F (aa (aB (dv 1) aj) (aa (aB (dv 1) aj) (aa (dv 0) af)))))) (ak (iH 6 cL.nd (NM.of (xs:=["_law_spot_here"]) (js:=[1]) rfl) rfl (aT (dv 0)) (fun _ _ _ _=>ff) (fun _ _ _ _=>(ay (iq T).m F (aa (aB (dv 1) aj) (aa (aB (dv 1) aj) (aa (dv 0) af)))))) (aw (aH (FP (dD zU (aD aO (aB (dv 5) aj) (aB (dv 5) aj)) aj) (tR (dD zU (aD aO (aB (dv 6) aj) (aB (dv 6) aj)) aj))))))))),fun _ _ M Q h=>?_⟩;obtain⟨U,V,rfl,rfl,l,n,k⟩:=h;refine⟨_,rfl,_,rfl,_,_,Pd.of rfl,Pd.of rfl,rfl,rfl,_,rfl,?_⟩;refine cD (fun h=>N3 (k MD (fun z=>absurd z Jf))) (fun h=>?_);have N:¬(l1 U=l1 V/\l2 U=l2 V):=fun⟨z1,z2⟩=>by apply h;obtain⟨a1,a2⟩:=gG l.b n.b z1;obtain⟨a3,a4⟩:=gG l.d n.d z2;simp only[K1,Kj,gK,a1,a2,a3,a4];simp
 dsimp only[SD.fh];refine eZ (fun δ q=>q=M/\(Ro fun v C o=>δ=[MA (uw U),MA (uw V),v,C,o,MB,MB])/\(bG U (l1 V) (NX U V)/\bG U (l2 V) (NY U V))/\(bG V (l1 U) (NX V U)/\bG V (l2 U) (NY V U))) ?_ (fun hu=>?_);rotate_left
 ·refine⟨_,rfl,_,rfl,NS rfl,_,rfl,_,rfl,NS rfl,NS rfl,[.tup [uw U,uw V],.tup [uw V,uw U]],rfl,?_⟩;refine⟨fun i δ q=>q=M/\(Ro fun v C o=>δ=[MA (uw U),MA (uw V),v,C,o,MB,MB])/\(0<i->bG U (l1 V) (NX U V)/\bG U (l2 V) (NY U V))/\(1<i->bG V (l1 U) (NX V U)/\bG V (l2 U) (NY V U)),⟨rfl,⟨_,_,_,rfl⟩,fun z=>absurd z (by decide),fun z=>absurd z (by decide)⟩,fun _ _ _ _ _=>rfl,?_,?_⟩
  ·rintro i d δ q hi hd ⟨rfl,⟨v,C,o,rfl⟩,O,G⟩;have hi:i<2:=hi;have hd:[D.tup [uw U,uw V],.tup [uw V,uw U]][i]?=MA d:=hd
   have I:∃A B,d=.tup [uw A,uw B]/\NO A/\NO B/\((bG A (l1 B) (NX A B)/\bG A (l2 B) (NY A B))->(0<i+1->bG U (l1 V) (NX U V)/\bG U (l2 V) (NY U V))/\(1<i+1->bG V (l1 U) (NX V U)/\bG V (l2 U) (NY V U))):=by
    rcases(show i=0\/i=1 by omega)with rfl|rfl
    ·cases hd;exact⟨U,V,rfl,l,n,fun z=>⟨fun _=>z,fun y=>absurd y (by decide)⟩⟩
    ·cases hd;exact⟨V,U,rfl,n,l,fun z=>⟨fun _=>O (by decide),fun _=>z⟩⟩
   obtain⟨A,B,rfl,Z,L,nxt⟩:=I;refine⟨_,rfl,rfl,_,_,rfl,_,_,rfl,rfl,?_⟩;refine⟨_,rfl,[.tup [.int B.1,.int B.2.1],.tup [.int B.2.2.1,.int B.2.2.2]],rfl,?_⟩;refine⟨fun j δ t=>t=q/\(∃o,δ=[MA (uw U),MA (uw V),MA (uw A),MA (uw B),o,MB,MB])/\(0<j->bG A (l1 B) (NX A B))/\(1<j->bG A (l2 B) (NY A B)),⟨rfl,⟨_,rfl⟩,fun z=>absurd z (by decide),fun z=>absurd z (by decide)⟩,fun _ _ _ _ _=>rfl,?_,?_⟩
   ·rintro j d δ t r hd ⟨rfl,⟨o,rfl⟩,R,q2⟩;have r:j<2:=r;have hd:[D.tup [.int B.1,.int B.2.1],.tup [.int B.2.2.1,.int B.2.2.2]][j]?=MA d:=hd
    have pk:∃x y,d=.tup [.int x,.int y]/\(0<=x/\x<=20)/\(0<=y/\y<=20)/\(bG A (la x y) (sd A x y)->(0<j+1->bG A (l1 B) (NX A B))/\(1<j+1->bG A (l2 B) (NY A B))):=by
     rcases(show j=0\/j=1 by omega)with rfl|rfl
     ·cases hd;exact⟨_,_,rfl,L.a,L.b,fun z=>⟨fun _=>z,fun y=>absurd y (by decide)⟩⟩
     ·cases hd;exact⟨_,_,rfl,L.c,L.d,fun z=>⟨fun _=>R (by decide),fun _=>z⟩⟩
    obtain⟨x,y,rfl,hx,hy,S⟩:=pk;(try dsimp only[SD.jd,SD.fG,SD.aZ,SD.jX,SD.jT,SD.fh,SD.gu,SD.tBD,SD.jV,SD.EndsD.nxt,SD.EndsD.lp])
    refine yQ (!(decide (A.1=x/\A.2.1=y)||decide (A.2.2.1=x/\A.2.2.2=y))) (decide (l1 A<=la x y)&&decide (la x y<=l2 A)&&decide (sd A x y=0)) (fun K u=>⟨_,rfl,_,rfl,E7 _ A x y _ _ ⟨_,rfl,u⟩⟩) (fun _ K u=>⟨_,rfl,_,rfl,A,x,y,rfl,rfl,Z,hx,hy,_,rfl,u⟩) ?_;refine cD (fun _=>N3 (k MD (fun z=>absurd z Jf))) (fun h=>?_);exact⟨rfl,⟨_,rfl⟩,S (zt Z hy (eq_false_of_ne_true h))⟩
   ·rintro δ t ⟨rfl,⟨o,rfl⟩,R,q2⟩;exact⟨rfl,⟨_,_,_,rfl⟩,nxt ⟨R (show 0<2 by decide),q2 (show 1<2 by decide)⟩⟩
  ·rintro δ q ⟨rfl,⟨v,C,o,rfl⟩,O,G⟩;exact hu _ _ ⟨rfl,⟨_,_,_,rfl⟩,O (show 0<2 by decide),G (show 1<2 by decide)⟩
 rintro δ q ⟨rfl,⟨v,C,o,rfl⟩,⟨e1,e2⟩,⟨e3,e4⟩⟩;refine⟨_,rfl,[.tup [.int V.1,.int V.2.1],.tup [.int V.2.2.1,.int V.2.2.2]],rfl,comp_map (fun j=>if j=0 then .int (Jw (NX U V))else .int (Jw (NY U V))) (NS rfl) (fun _ _ _=>rfl) ?_ (fun p hp=>?_)⟩
 ·intro j W M2 r e _;have r:j<2:=r;have e:[D.tup [.int V.1,.int V.2.1],.tup [.int V.2.2.1,.int V.2.2.2]][j]?=MA W:=e;rcases(show j=0\/j=1 by omega)with rfl|rfl
  ·cases e;exact⟨_,rfl,fun X g=>⟨_,rfl,_,rfl,_,rfl,_,rfl,_,rfl,U.1,U.2.1,U.2.2.1,U.2.2.2,_,_,rfl,rfl,rfl,cK l.a,cK l.b,cK l.c,cK l.d,g _ .refl⟩⟩
  ·cases e;exact⟨_,rfl,fun X g=>⟨_,rfl,_,rfl,_,rfl,_,rfl,_,rfl,U.1,U.2.1,U.2.2.1,U.2.2.2,_,_,rfl,rfl,rfl,cK l.a,cK l.b,cK l.c,cK l.d,g _ .refl⟩⟩
 refine⟨_,rfl,[.tup [.int U.1,.int U.2.1],.tup [.int U.2.2.1,.int U.2.2.2]],rfl,comp_map (fun j=>if j=0 then .int (Jw (NX V U))else .int (Jw (NY V U))) (NS rfl) (fun _ _ _=>rfl) ?_ (fun G J=>?_)⟩
 ·intro j W M2 r e _;have r:j<2:=r;have e:[D.tup [.int U.1,.int U.2.1],.tup [.int U.2.2.1,.int U.2.2.2]][j]?=MA W:=e;rcases(show j=0\/j=1 by omega)with rfl|rfl
  ·cases e;exact⟨_,rfl,fun X g=>⟨_,rfl,_,rfl,_,rfl,_,rfl,_,rfl,V.1,V.2.1,V.2.2.1,V.2.2.2,_,_,rfl,rfl,rfl,cK n.a,cK n.b,cK n.c,cK n.d,g _ .refl⟩⟩
  ·cases e;exact⟨_,rfl,fun X g=>⟨_,rfl,_,rfl,_,rfl,_,rfl,_,rfl,V.1,V.2.1,V.2.2.1,V.2.2.2,_,_,rfl,rfl,rfl,cK n.a,cK n.b,cK n.c,cK n.d,g _ .refl⟩⟩
 have Y:p≠G:=aE ag J;have c1:(aC (aC q p (.lst [.int (Jw (NX U V)),.int (Jw (NY U V))])) G (.lst [.int (Jw (NX V U)),.int (Jw (NY V U))])) p=MA (.lst [.int (Jw (NX U V)),.int (Jw (NY U V))]):=by rw[aA Y,ag]
 (try dsimp only[SD.jd,SD.fG,SD.aZ,SD.jX,SD.jT,SD.fh,SD.gu,SD.tBD,SD.jV,SD.EndsD.nxt,SD.EndsD.lp])
 refine Xt (decide (0<=Jw (NX U V)*Jw (NY U V))) (decide (0<=Jw (NX V U)*Jw (NY V U))) (fun K u=>⟨_,rfl,_,_,c1,rfl,_,rfl,_,_,c1,rfl,bE (B5 _),trivial,u⟩) (fun _ K u=>⟨_,rfl,_,_,ag,rfl,_,rfl,_,_,ag,rfl,bE (B5 _),trivial,u⟩) ?_;refine⟨q,.new J (.new hp .refl),k _ fun z=>⟨N,e1,e2,e3,e4,?_⟩⟩;rw[Bool.or_eq_true,ML,ML]at z;exact z
theorem bc:NL ["_law_row","_law_most","_law_size","_law_shuts","_law_turn_here","_law_one","_law_other","_law_shut"] ["_law_row","_law_most","_law_size"] (az fF):=by walk_at "sc"
inductive OB(u m n:D)(M:MH)(Q:DK):Prop
 |mk (r:Addr) (x c m':Int) (_:u=.ref r) (_:m=.int m') (_:(0<=m'/\m'<=12)) (_:n=.int 5) (_:M r=MA (.lst [.int x,.int c])) (_:0<=c) (_:c<1000) (_:∀(M'':MH) (x' c':Int) (l:Addr) (ws:List Wl),r≠l->M'' r=MA (.lst [.int x',.int c'])->M'' l=MA (.lst (ws.map uw))->0<=c'->c'<=c+140->(ws.length:Int)<=m'->(∀w∈ws,NO w)->PF ws->Q (.ref l) M'')
theorem jI(T:Tx K mg):Cal P w K mg base 4 "_law_shuts_here" (Rr OB):=by
 refine qD (k:=3) T.f_law_shuts_here bc fun f cdv A outer s H E C=>⟨_,(ak (aG 3 bc.nd (bR af)) (ak (gX Js rfl rfl T.b_range (aa (ay (aQ T).m C (aa (dv 0) (aa (aD bF (dv 1) aj) af))) af) (aF 4 bc.nd) (ak (aG 5 bc.nd (aV (aa (ay (aQ T).m C (aa (dv 0) (aa (dv 2) af))) (aa (ay (aQ T).m C (aa (dv 0) (aa (dv 2) af))) af)))) (ak (aG 6 bc.nd (aV (aa (ay (aQ T).m C (aa (dv 0) (aa (dv 2) af))) (aa (ay (aQ T).m C (aa (dv 0) (aa (dv 2) af))) af)))) (ak (bJ (rz (kX (aP (fI C.units) (dv 3) (bR af)) (ja (aP (oZ C.units) (ay (aQ T).m C (aa (dv 0) (aa aj af))) aj)))) (aw (aG 5 bc.nd (aB (aB (dv 3) (ay (aQ T).m C (aa (dv 0) (aa (aN cW rfl T.b_len cT (aa (dv 3) af)) af)))) (ay (aQ T).m C (aa (dv 0) (aa aj af)))))) aU) (ak (aG 7 bc.nd (aV (aa (aN (uP rfl C.units) rfl T.b_min yS (aa (dv 5) (aa (dv 6) af))) (aa (aN (uJ rfl C.units) rfl T.b_max yO (aa (dv 5) (aa (dv 6) af))) af)))) (aw (bJ (rz (kX (aP (fI C.units) (dv 5) (dv 6)) (ja (fY (aN (EL rfl) rfl T.b_all EU (aa (iJ (NM.of (xs:=["_law_beside"]) (js:=[7]) rfl) rfl (aT (dv 3)) (fun _ _ _ _=>ff) (fun _ _ _ _=>(ay (rM T).m C (aa (dv 1) (aa (dv 0) af))))) af)))))) (aw (dM (bQ (dv 3) (aa (dv 7) af)))) aU))))))) (aw (aH (dv 3))))),fun _ _ _ M Q h=>?_⟩;obtain⟨r,x0,c0,m,rfl,rfl,hm,rfl,hM,e0,s0,k⟩:=h;refine⟨NS rfl,fun l hl=>?_⟩;have g:r≠l:=aE hM hl;refine⟨_,rfl,_,rfl,r,m+1,x0,c0,rfl,rfl,(by rw[aA g];exact hM),e0,by omega,by omega,cY (by omega),fun x1 v h0 h1=>?_⟩;refine⟨v.toNat,?_,by omega,fun i δ u=>VP fun(x c:Int) (ws:List Wl) (o4 o5 o6 o7:Option D)=>X6 (δ=[MA (.ref r),MA (.int m),MA (.int 5),MA (.ref l),o4,o5,o6,o7]) (u r=MA (.lst [.int x,.int c])) (u l=MA (.lst (ws.map uw))) (0<=c) (c<=c0+1+10*i) (ws.length<=i) (∀w∈ws,NO w) (PF ws),?_,?_,?_⟩
 ·rw[Int.toNat_of_nonneg h0]
 ·refine⟨x1,c0+1,[],_,_,_,_,rfl,ag,(by rw[aA g.symm,ag];rfl),by omega,by omega,by decide,fun w hw=>absurd hw (by simp),EY⟩
 rotate_left
 ·rintro δ u ⟨x,c,ws,o4,o5,o6,o7,rfl,N,O,g0,g1,g2,R,g4⟩;exact⟨_,rfl,N3 (k u x c l ws g N O g0 (by omega) (by omega) R g4)⟩
 rintro i δ u hi ⟨x,c,ws,o4,o5,o6,o7,rfl,N,O,g0,g1,g2,R,g4⟩;have t0:i<=12:=by omega
 (try dsimp only[SD.aZ])
 refine RK fun B hB=>?_;refine⟨_,rfl,_,rfl,r,5,x,c,rfl,rfl,N,g0,by omega,by decide,cY (by decide),fun x1 p u0 v0=>?_⟩;refine⟨_,rfl,_,rfl,r,5,x1,c+1,rfl,rfl,ag,by omega,by omega,by decide,cY (by decide),fun x2 q w0 y0=>⟨NS rfl,?_⟩⟩;refine⟨_,rfl,_,rfl,r,5,x2,c+1+1,rfl,rfl,ag,by omega,by omega,by decide,cY (by decide),fun x3 e z0 a1=>?_⟩;refine⟨_,rfl,_,rfl,r,5,x3,c+1+1+1,rfl,rfl,ag,by omega,by omega,by decide,cY (by decide),fun S f b1 c1=>⟨NS rfl,?_⟩⟩;have U:(aC (aC (aC (aC u r (.lst [.int x1,.int (c+1)])) r (.lst [.int x2,.int (c+1+1)])) r (.lst [.int x3,.int (c+1+1+1)])) r (.lst [.int S,.int (c+1+1+1+1)])) l=MA (.lst (ws.map uw)):=by rw[aA g.symm,aA g.symm,aA g.symm,aA g.symm];exact O
 have V:(aC (aC (aC (aC u r (.lst [.int x1,.int (c+1)])) r (.lst [.int x2,.int (c+1+1)])) r (.lst [.int x3,.int (c+1+1+1)])) r (.lst [.int S,.int (c+1+1+1+1)])) r=MA (.lst [.int S,.int (c+1+1+1+1)]):=ag;generalize aC (aC (aC (aC u r (.lst [.int x1,.int (c+1)])) r (.lst [.int x2,.int (c+1+1)])) r (.lst [.int x3,.int (c+1+1+1)])) r (.lst [.int S,.int (c+1+1+1+1)])=M4 at U V ⊢;(try dsimp only[SD.aZ])
 refine eZ (fun δ u=>VQ fun(x c' p q:Int) (o7:Option D)=>VS (δ=[MA (.ref r),MA (.int m),MA (.int 5),MA (.ref l),MA (.int (i:Int)),MA (.tup [.int p,.int q]),MA (.tup [.int e,.int f]),o7]) (u r=MA (.lst [.int x,.int c'])) (u l=MA (.lst (ws.map uw))) (0<=c') (c'<=c+10) (0<=p/\p<=20) (0<=q/\q<=20)) ?_ (fun hu=>?_);rotate_left
 ·refine⟨_,rfl,NS rfl,fun z hz=>?_⟩;have W:r≠z:=aE V hz;have I:l≠z:=aE U hz;have n:(aC M4 z (.lst [])) l=MA (.lst (ws.map uw)):=by rw[aA I];exact U
  have G:(aC M4 z (.lst [])) r=MA (.lst [.int S,.int (c+1+1+1+1)]):=by rw[aA W];exact V
  refine⟨_,_,.lst n (yq ws),.lst ag .nil,wt ws,rfl,_,rfl,?_⟩;rw[sS];refine cD (fun X=>?_) (fun r0=>?_)
  ·have a0:0<ws.length:=by
    cases ws with
    |nil=>simp at X
    |cons w ws=>simp
   refine⟨_,rfl,r,3,S,c+1+1+1+1,rfl,rfl,G,by omega,by omega,by decide,cY (by decide),fun L v5 d1 f1=>⟨trivial,_,rfl,?_⟩⟩;have o:(aC (aC M4 z (.lst [])) r (.lst [.int L,.int (c+1+1+1+1+1)])) l=MA (.lst (ws.map uw)):=by rw[aA g.symm];exact n
   refine cD (fun _=>?_) (fun _=>?_)
   ·refine⟨_,rfl,_,rfl,_,rfl,_,o,r,((ws.map uw).length:Int),L,c+1+1+1+1+1,rfl,rfl,ag,by omega,by omega,by simpa using a0,cY (by simp;omega),fun x6 v6 f0 i0=>?_⟩;obtain⟨w,hw,ew⟩:=Ag (ws:=ws) f0 (by simpa using i0);have l0:=R w hw;refine⟨_,_,(by rw[aA g.symm];exact o),ew,?_⟩;refine⟨_,rfl,r,2,x6,c+1+1+1+1+1+1,rfl,rfl,ag,by omega,by omega,by decide,cY (by decide),fun x7 v7 m0 n0=>?_⟩;obtain⟨a,b,ea,ha,hb⟩:=zD l0 m0 n0;refine⟨_,ea,hu _ _ ⟨x7,_,a,b,_,rfl,ag,(by rw[aA g.symm,aA g.symm];exact o),by omega,by omega,ha,hb⟩⟩
   ·exact hu _ _ ⟨L,_,p,q,_,rfl,ag,o,by omega,by omega,by omega,by omega⟩
  ·refine j9 rfl ?_;exact hu _ _ ⟨S,_,p,q,_,rfl,G,n,by omega,by omega,by omega,by omega⟩
 rintro δ M5 ⟨L,c5,p,q,o7,rfl,G,n,k0,k1,hp,hq⟩;have he:0<=e/\e<=20:=by omega
 have hf:0<=f/\f<=20:=by omega
 refine⟨_,rfl,_,rfl,[p,q],[e,f],rfl,rfl,?_⟩;refine⟨_,rfl,_,rfl,[p,q],[e,f],rfl,rfl,NS rfl,?_⟩;refine⟨_,rfl,_,rfl,_,_,Pd.of rfl,Pd.of rfl,rfl,rfl,_,rfl,?_⟩;rw[oe];refine cD (fun X=>?_) (fun _=>?_);rotate_left
 ·refine j9 rfl ?_;exact hB _ _ ⟨L,c5,ws,_,_,_,_,rfl,G,n,k0,by omega,by omega,R,g4⟩
 obtain⟨w,e1,e2,hw⟩:=we hp hq he hf (fun⟨a,b⟩=>by simp[a,b]at X);rw[e1,e2];refine⟨_,rfl,ws.map uw,n,?_⟩;refine⟨by simp;omega,fun z hz=>?_⟩;have W:r≠z:=aE G hz;have I:l≠z:=aE n hz;refine⟨fun j ys u=>∃bs:List Bool,ys=bs.map D.bl/\bs.length=j/\(∀(t:Nat) (v:Wl),bs[t]?=MA MC->ws[t]?=MA v->Na w v)/\u=aC M5 z (.lst ys),⟨[],rfl,rfl,fun t v h=>by simp at h,rfl⟩,?_,?_,?_⟩
 ·rintro j ys u _ ⟨bs,_,_,_,rfl⟩;show(aC M5 z _) l=_;rw[aA I];exact n
 ·rintro j ys d u hj hd ⟨bs,rfl,F,hf,rfl⟩;have hd:(ws.map uw)[j]?=MA d:=hd;rw[J4]at hd;cases ev:ws[j]? with
  |none=>rw[ev]at hd;cases hd
  |some v=>
   rw[ev]at hd
   cases hd
   refine⟨_,rfl,?_⟩
   dsimp only[SD.jQ]
   refine BF ?_
   refine⟨_,rfl,_,rfl,w,v,rfl,rfl,hw,R v (J9 ev),fun b hb=>?_⟩
   refine⟨_,.refl,ag,bs++[b],by simp,by simp[F],fun t v' J Y=>?_,by rw[bL]⟩
   rcases Nat.lt_trichotomy t bs.length with y|y|y
   ·rw[JO y]at J;exact hf t v' J Y
   ·subst y;rw[JP (J1 _)]at J;have o0:b=MC:=by simpa using J
    rw[F,ev]at Y;cases Y;exact hb o0
   ·rw[List.getElem?_eq_none (by simp;omega)]at J;cases J
 rintro ys u ⟨bs,rfl,F,hf,rfl⟩;have Z:bs.length=ws.length:=by rw[F];simp
 have o:(aC M5 z (.lst (bs.map D.bl))) l=MA (.lst (ws.map uw)):=by rw[aA I];exact n
 have b0:(aC M5 z (.lst (bs.map D.bl))) r=MA (.lst [.int L,.int c5]):=by rw[aA W];exact G
 refine⟨bs,ag,_,rfl,?_⟩;refine cD (fun d0=>?_) (fun _=>?_)
 ·refine⟨_,rfl,l,_,rfl,o,_,rfl,ws.map uw,_,rfl,o,by simp;omega,?_⟩;refine hB _ _ ⟨L,c5,ws++[w],_,_,_,_,rfl,by rw[aA g];exact b0,by rw[ag,Jk];rfl,k0,by omega,by simp;omega,fun v hv=>?_,wK g4 fun t v hv=>hf t v ?_ hv⟩
  ·rcases Jo.mp hv with y|y
   ·exact R v y
   ·rw[JT.mp y];exact hw
  ·have J:t<bs.length:=by rw[Z];exact(Ja.mp hv).1
   rw[J0 J];have:=Li.mp d0 _ (JW J);exact congrArg MA this
 ·exact hB _ _ ⟨L,c5,ws,_,_,_,_,rfl,b0,o,k0,by omega,by omega,R,g4⟩
theorem eC:NL ["_law_top","_law_bottom","_law_one","_law_other"] ["_law_top","_law_bottom"] (az nC):=by walk_at "sc"
inductive P8(x y:D)(M:MH)(Q:DK):Prop
 |mk (t:_) (b:_) (_:x=.int t) (_:y=.int b) (_:b≠0) (_:Bd 8000 t) (_:Bd 8000 b) (_:Q (NI (Rat.divInt t b)) M)
theorem jO(T:Tx K mg):Cal P w K mg base 1 "_law_low" (OF P8):=by
 refine bP (k:=0) T.f_law_low eC fun f cdv A outer s H E l=>⟨_,(ak (aG 2 eC.nd (aN oR rfl T.b_abs oV (aa (dv 0) af))) (ak (aG 3 eC.nd (aN oR rfl T.b_abs oV (aa (dv 1) af))) (ak (jb Js (aP (fI l.units) (dv 3) aj) (aw (fW 2 3 rfl eC.nd (aa (dv 3) (aa (aD gi (dv 2) (dv 3)) af))))) (ak (bJ (aP (gx l.units) (dv 1) aj) (aw (aG 2 eC.nd (nD gY (dv 2)))) aU) (aw (aH (aV (aa (aD fE (dv 0) (dv 2)) (aa (aD fE (dv 1) (dv 2)) af))))))))),fun _ _ M Q h=>?_⟩;obtain⟨t,b,rfl,rfl,o,r,g,q⟩:=h;refine⟨_,rfl,_,rfl,?_⟩;have u:=Ma.fu (t:=t) o;have a:Bd 8000 ((Mb t.natAbs b.natAbs:Nat):Int):=g.of_le (by simpa using Nat.gcd_le_right t.natAbs (show 0<b.natAbs by omega));refine⟨fun m δ n=>n=M/\∃x y:Nat,δ=[MA (.int t),MA (.int b),MA (.int x),MA (.int y)]/\Mb x y=Mb t.natAbs b.natAbs/\m=y,⟨_,rfl,_,_,rfl,rfl,rfl⟩,?_⟩;rintro m δ n ⟨rfl,x,y,rfl,c,p⟩;refine⟨_,rfl,_,rfl,?_⟩;refine cD (fun h=>?_) (fun h=>?_)
 ·have i:(y:Int)≠0:=by simpa using h
  refine⟨_,rfl,_,rfl,_,rfl,i,_,_,rfl,?_⟩;have j:0<y:=by omega
  refine⟨x%y,by rw[p];exact Nat.mod_lt _ j,rfl,y,x%y,?_,?_,rfl⟩
  ·rw[<-Ma.uY];rfl
  ·rw[<-c,Nat.gcd_comm x y,Nat.gcd_rec y x,Nat.gcd_comm]
 ·have i:y=0:=by simpa using h
  subst i;rw[Nat.gcd_zero_right]at c;subst c;(repeat (first|refine⟨_,rfl,?_⟩|refine⟨trivial,?_⟩|refine⟨_,_,rfl,?_⟩|refine⟨rfl,?_⟩|refine⟨NS rfl,?_⟩))
  refine cD (fun h=>?_) (fun h=>?_)
  ·have d:b<0:=by simpa using h
   obtain⟨e1,e2⟩:=Ma.vq (t:=t) d;refine⟨_,rfl,_,rfl,_,rfl,⟨by omega,a.neg⟩,_,rfl,_,rfl,⟨by omega,a.neg⟩,NS rfl,?_⟩;dsimp only;rw[e1,e2];exact N3 q
  ·have e:0<b:=by
    have:¬b<0:=by simpa using h
    omega
   obtain⟨e1,e2⟩:=Ma.uZ (t:=t) e;refine⟨_,rfl,_,rfl,⟨by omega,a⟩,_,rfl,_,rfl,⟨by omega,a⟩,NS rfl,?_⟩;dsimp only;rw[e1,e2];exact N3 q
theorem dA:NL ["_law_scale_here","_law_unit","_law_top","_law_bottom","_law_x","_law_y"] ["_law_scale_here","_law_unit"] (az k8):=by walk_at "sc"
inductive Oy(s v:D)(M:MH)(Q:DK):Prop
 |mk (t b x y p q:Int) (_:s=Qw t b x y) (_:v=.tup [.int p,.int q]) (_:OE t b x y) (_:(-(10^6)<=p/\p<=10^6)) (_:(-(10^6)<=q/\q<=10^6)) (_:Q (NH (MX t b x 1 p) (MX t b y 1 q)) M)
theorem kY(T:Tx K mg):Cal P w K mg base 2 "_law_spot" (OF Oy):=by
 refine bP (k:=1) T.f_law_spot dA fun f cdv A outer s H E d=>⟨_,(ak (cR (dv 0) (bX rfl (aI (aF 2 dA.nd) (aI (aF 3 dA.nd) (aI (aF 4 dA.nd) (aI (aF 5 dA.nd) bD)))))) (aw (aH (aV (aa (ay (jO T).m d (aa (aD bF (aD aO (aB (dv 1) aj) (dv 2)) (dv 4)) (aa (dv 3) af))) (aa (ay (jO T).m d (aa (aD bF (aD aO (aB (dv 1) aj) (dv 2)) (dv 5)) (aa (dv 3) af))) af)))))),fun _ _ M Q h=>?_⟩;obtain⟨t,b,x,y,p,q,rfl,rfl,S,e,g,k⟩:=h;have j:Bd 100 t:=by have:=S.t0;have:=S.t1;show t.natAbs<2^100;omega
 have c:∀{z:Int},(-(10^6)<=z/\z<=10^6)->Bd 64 z:=fun{z} h=>by show z.natAbs<2^64;omega
 have i:Bd 8000 b:=by have:=S.b0;have:=S.b1;exact Bd.mono (m:=100) (by show b.natAbs<2^100;omega) (by decide)
 have big:∀{z w:Int},(-(10^6)<=z/\z<=10^6)->(-(10^30)<=w/\w<=10^30)->Bd 8000 (z*t+w):=fun{z w} l n=>by
  have e1:Bd 164 (z*t):=(c l).mul j
  have e2:Bd 164 w:=by show w.natAbs<2^164;omega
  exact(e1.add e2).mono (by decide)
 have a:b≠0:=by have:=S.b0;omega
 refine⟨_,rfl,_,rfl,rfl,_,_,rfl,_,_,rfl,_,_,rfl,_,_,rfl,rfl,?_⟩;refine⟨_,rfl,_,rfl,_,rfl,bE (c e),_,rfl,_,rfl,p*t+x,b,rfl,rfl,a,big e ⟨S.x0,S.x1⟩,i,?_⟩;refine⟨_,rfl,_,rfl,_,rfl,bE (c g),_,rfl,_,rfl,q*t+y,b,rfl,rfl,a,big g ⟨S.y0,S.y1⟩,i,NS rfl,?_⟩;rw[Ma.wN,Ma.wN];exact N3 k
theorem qU:NL ["_law_scale_here","_law_shuts"] ["_law_scale_here","_law_shuts"] (az k7):=by walk_at "sc"
inductive Oz(s v:D)(M:MH)(Q:DK):Prop
 |mk (t b x y:Int) (l:Addr) (ws:List (Int×Int×Int×Int)) (_:s=Qw t b x y) (_:v=.ref l) (_:M l=MA (.lst (ws.map uw))) (_:OE t b x y) (_:ws.length<=1000) (_:(∀w∈ws,XX (10^6) w)) (_:Q (.tup (ws.map (NP t b x y))) M)
theorem rE(T:Tx K mg):Cal P w K mg base 3 "_law_made" (OF Oz):=by
 refine bP (k:=2) T.f_law_made qU fun f cdv A outer s H E n=>⟨_,(aw (aH (c8 zb rfl T.b_tuple yG (aa (xB (NM.of (xs:=["_law_first","_law_second"]) (js:=[0]) rfl) rfl (aT (dv 1)) (fun _ _ _ _=>ff) (fun _ _ _ _=>(aV (aa (ay (kY T).m n (aa (dv 2) (aa (dv 0) af))) (aa (ay (kY T).m n (aa (dv 2) (aa (dv 1) af))) af))))) af)))),fun _ _ M Q h=>?_⟩;obtain⟨t,b,x,y,l,ws,rfl,rfl,g,S,C,o,k⟩:=h;refine⟨_,rfl,ws.map uw,g,comp_map (fun i=>((ws.map (NP t b x y))[i]?).getD .non) (by simp;omega) (fun p D j=>?_) ?_ (fun p j=>⟨_,ag,?_⟩)⟩
 ·show(aC M p _) l=_;rw[aA (aE g j)];exact g
 ·intro i e q hi a _;have a:(ws.map uw)[i]?=MA e:=a;rw[J4]at a;cases d:ws[i]? with
  |none=>rw[d]at a;cases a
  |some w=>
   rw[d]at a
   cases a
   obtain⟨r,u,v,z⟩:=o w (J9 d)
   refine⟨_,⟨_,rfl,rfl,rfl⟩,fun K B=>?_⟩
   have c:=B q .refl
   rw[getD_map d]at c
   refine⟨_,rfl,_,rfl,t,b,x,y,w.1,w.2.1,rfl,rfl,S,r,u,?_⟩
   exact⟨_,rfl,_,rfl,t,b,x,y,w.2.2.1,w.2.2.2,rfl,rfl,S,v,z,NS rfl,c⟩
 ·refine⟨_,.new j .refl,?_⟩
  have e:(J6 (ws.map uw).length).map (fun i=>((ws.map (NP t b x y))[i]?).getD .non)=ws.map (NP t b x y):=by
   have:=SD.range_getD (ws.map (NP t b x y))
   rw[IZ]at this ⊢
   exact this
  dsimp only;rw[e];exact k
theorem fU:NL ["plot","face","first","second"] ["plot","face"] (az j3):=by walk_at "sc"
inductive Ob(u v:D)(M:MH)(Q:DK):Prop
 |mk (t b X Y:Int) (ws:List Wl) (f:Nat) (_:u=.tup (ws.map (NP t b X Y))) (_:v=.int (f:Int)) (_:f<2*ws.length) (_:ws.length<=1000) (_:Q (NP t b X Y (fw ws f)) M)
theorem cv(T:Tx K mg):Cal P w K mg base 1 "face_ends" (OF Ob):=by
 refine bP (k:=0) T.f_face_ends fU fun f cdv A outer s H E e=>⟨_,(ak (cR (aB (dv 0) (aD fE (dv 1) aj)) (bX rfl (aI (aF 2 fU.nd) (aI (aF 3 fU.nd) bD)))) (aw (aH (jq (aP (ez e.units) (aD gi (dv 1) aj) aj) (aV (aa (dv 2) (aa (dv 3) af))) (aV (aa (dv 3) (aa (dv 2) af))))))),fun _ _ M Q h=>?_⟩;obtain⟨t,b,X,Y,ws,f,rfl,rfl,j,c,k⟩:=h;obtain⟨d,l,m⟩:=bo (ws:=ws) (k:=((f/2:Nat):Int)) (by omega) (by omega);have g:(f:Int).fdiv 2=((f/2:Nat):Int):=by rw[JY _ (by decide)];omega
 have i:(f:Int).fmod 2=((f%2:Nat):Int):=by rw[Int.fmod_eq_emod_of_nonneg _ (by decide)];omega
 have a:atI (ws.map (NP t b X Y)) ((f:Int).fdiv 2)=MA (NP t b X Y (NV ws ((f/2:Nat):Int))):=by rw[g];refine bz ?_;rw[Kn]at d;rw[J4,d];rfl
 refine⟨_,rfl,_,rfl,⟨by decide,cY (by decide)⟩,_,a,?_⟩;refine⟨_,rfl,rfl,_,_,rfl,_,_,rfl,rfl,?_⟩;refine⟨_,rfl,(show(2:Int)≠0 by decide),_,rfl,?_⟩;dsimp only;rw[i];refine cD (fun h=>?_) (fun h=>?_)
 ·have h:f%2=0:=by have:((f%2:Nat):Int)=0:=by simpa using h
                   omega
  refine⟨_,rfl,_,rfl,NS rfl,N3 ?_⟩;unfold fw at k;rw[MF h]at k;exact k
 ·have h:¬f%2=0:=fun z=>by rw[z]at h;simp at h
  refine⟨_,rfl,_,rfl,NS rfl,N3 ?_⟩;unfold fw at k;rw[ME h]at k;exact k
theorem cU:NL ["plot","leaving","face"] ["plot"] (az fm):=by walk_at "sc"
def Ql(t b X Y:Int)(p:Vc):N5:=((MX t b X 1 p.1).num,((MX t b X 1 p.1).den:Int),(MX t b Y 1 p.2).num,((MX t b Y 1 p.2).den:Int))
theorem tZ{t b X Y:Int}(a:0<t)(c:0<b){p q:Vc}(h:Ql t b X Y p=Ql t b X Y q):p=q:=by unfold Ql at h;injection h with d h;injection h with e h;injection h with f g;have e1:MX t b X 1 p.1=MX t b X 1 q.1:=Rat.ext d (by exact_mod_cast e);have e2:MX t b Y 1 p.2=MX t b Y 1 q.2:=Rat.ext f (by exact_mod_cast g);have i:=(NF a c (by decide) (by decide)).mp e1;have j:=(NF a c (by decide) (by decide)).mp e2;exact Prod.ext (by omega) (by omega)
def ON(ws:List Wl)(i:Nat)(p:Vc):List Int:=((J6 i).filter fun g=>decide (fa ws g=p)).map fun g:Nat=>(g:Int)
theorem ql(ws:List Wl)(i:Nat)(p:Vc):ON ws (i+1) p=ON ws i p++(if fa ws i=p then[(i:Int)]else[]):=by
 unfold ON;rw[KW,LW,Jk];by_cases h:fa ws i=p
 ·simp[h]
 ·simp[h]
theorem An(ws:List Wl)(i:Nat)(p:Vc):(ON ws i p).length<=i:=by unfold ON;rw[IZ];have:=Ky (fun g=>decide (fa ws g=p)) (J6 i);simpa using this
theorem xX{kvs:Ny}{k:N5}(d:D)(h:dJ kvs k=MB)(j:N5):dJ (putD kvs k d) j=if j=k then MA d else dJ kvs j:=by
 have a:(kvs.any fun x=>decide (x.1=k))=MD:=by unfold dJ at h;rw[Option.map_eq_none_iff,List.find?_eq_none]at h;rw[List.any_eq_false];exact h
 unfold putD;rw[ME (by rw[a];decide)];unfold dJ at *;rw[List.find?_append];by_cases e:j=k
 ·subst e;rw[MF rfl];rw[Option.map_eq_none_iff]at h;rw[h];simp
 ·rw[ME e];have:¬k=j:=fun z=>e z.symm;cases kvs.find? fun x=>decide (x.1=j)<;>simp[this]
structure Ra(t b X Y:Int)(ws:List Wl)(i:Nat)(M M':MH)(ld:Addr)(kvs:Ny)(L:Vc->Addr):Prop where
 d:M' ld=MA (OH kvs)
 some:∀p,ON ws i p≠[]->dJ kvs (Ql t b X Y p)=.some (.ref (L p))/\M' (L p)=.some (.lst ((ON ws i p).map D.int))/\L p≠ld/\M (L p)=MB
 none:∀p,ON ws i p=[]->dJ kvs (Ql t b X Y p)=.none
 inj:∀p q,ON ws i p≠[]->ON ws i q≠[]->L p=L q->p=q
inductive OD(u:D)(M:MH)(Q:DK):Prop
 |mk (t b X Y:Int) (ws:List Wl) (_:u=.tup (ws.map (NP t b X Y))) (_:OE t b X Y) (_:ws.length<=40) (_:∀(M':MH) (ld:Addr) (kvs:Ny) (L:Vc->Addr),SD.Sub M M'->Ra t b X Y ws (2*ws.length) M M' ld kvs L->Q (.ref ld) M')
theorem jt(T:Tx K mg):Cal P w K mg base 2 "faces_by_start" (Pc OD):=by
 refine fo (k:=1) T.f_faces_by_start cU fun f cdv A outer s H E hr=>⟨_,(ak (aG 1 cU.nd pJ) (ak (gX Js rfl rfl T.b_range (aa (aD aO aj (aN cW rfl T.b_len cT (aa (dv 0) af))) af) (aF 2 cU.nd) (aw (dM (bQ (AG (mT hr) (dv 1) (aa (aB (ay (cv T).m hr (aa (dv 0) (aa (dv 2) af))) aj) (aa (bR af) af))) (aa (dv 2) af))))) (aw (aH (dv 1))))),fun _ M Q h=>?_⟩;obtain⟨t,b,X,Y,ws,rfl,S,a0,k⟩:=h;have R:(ws.map (NP t b X Y)).length=ws.length:=by simp
 refine fun ld J=>?_;refine⟨_,rfl,bE (cY (by decide)),2*ws.length,(by rw[R];simp),by omega,?_⟩;refine⟨fun i δ l=>Ro fun(kvs:Ny) (L:Vc->Addr) (U:Option D)=>VT (δ=[MA (.tup (ws.map (NP t b X Y))),MA (.ref ld),U]) (SD.Sub M l) (kvs.length<=i) (Ra t b X Y ws i M l ld kvs L),?_,?_,?_⟩
 ·exact⟨[],fun _=>0,_,rfl,.new J .refl,J1 _,ag,fun p h=>absurd rfl h,fun p _=>rfl,fun p q h=>absurd rfl h⟩
 ·rintro i δ l hi ⟨kvs,L,U,rfl,N,hk,V⟩;have W:∀{q:Addr} {o},l q=MB->(aC l q o) ld=MA (OH kvs):=fun u=>by rw[aA (aE V.d u)];exact V.d
  have c:∀p,fa ws i≠p->ON ws (i+1) p=ON ws i p:=fun p h=>by rw[ql,ME h,Kc]
  have r:ON ws (i+1) (fa ws i)=ON ws i (fa ws i)++[(i:Int)]:=by rw[ql,MF rfl]
  have ll:=An ws i (fa ws i);refine⟨_,rfl,ld,kvs,rfl,V.d,_,rfl,_,rfl,t,b,X,Y,ws,i,rfl,rfl,hi,by omega,_,rfl,NS rfl,fun q u=>?_⟩;refine⟨kvs,Ql t b X Y (fa ws i),.ref q,rfl,W u,by omega,fun d' hd=>?_,fun hn=>?_⟩
  ·have ne:ON ws i (fa ws i)≠[]:=fun z=>by rw[V.none _ z]at hd;cases hd
   obtain⟨v1,v2,v3,v4⟩:=V.some _ ne;rw[v1]at hd;cases hd;have Z:∀{a o},l a=MA o->(aC l q (.lst [])) a=MA o:=fun h=>by rw[aA (aE h u)];exact h
   refine⟨L (fa ws i),_,rfl,Z v2,_,rfl,_,_,rfl,Z v2,(by rw[IZ];omega),?_⟩;have C:∀{a o G},l a=MA o->a≠L (fa ws i)->(aC (aC l q (.lst [])) (L (fa ws i)) G) a=MA o:=fun h n=>by rw[aA n];exact Z h
   refine⟨kvs,L,_,rfl,fun a o h=>C (N _ _ h) (fun z=>by subst z;rw[v4]at h;cases h),by omega,C V.d v3.symm,fun p h=>?_,fun p h=>?_,fun p v h F e=>?_⟩
   ·by_cases z:fa ws i=p
    ·subst z;refine⟨v1,?_,v3,v4⟩;rw[ag,r,Jk];rfl
    ·rw[c p z]at h ⊢;obtain⟨u1,u2,O,u4⟩:=V.some p h;exact⟨u1,C u2 (fun y=>z (V.inj _ _ ne h y.symm)),O,u4⟩
   ·by_cases z:fa ws i=p
    ·subst z;rw[r]at h;simp at h
    ·rw[c p z]at h;exact V.none p h
   ·have g:∀p,ON ws (i+1) p≠[]->ON ws i p≠[]:=fun p h=>by
     by_cases z:fa ws i=p
     ·subst z;exact ne
     ·rw[c p z]at h;exact h
    exact V.inj p v (g p h) (g v F) e
  ·have em:ON ws i (fa ws i)=[]:=by
    cases z:ON ws i (fa ws i)with
    |nil=>rfl
    |cons x xs=>
     have:=(V.some _ (by rw[z];simp)).1
     rw[hn]at this;cases this
   have B:q≠ld:=(aE V.d u).symm;have cq:(aC (aC l q (.lst [])) ld (OH (putD kvs (Ql t b X Y (fa ws i)) (.ref q)))) q=MA (.lst []):=by rw[aA B,ag]
   refine⟨q,[],rfl,cq,_,rfl,_,_,rfl,cq,by decide,?_⟩;have C:∀{a o D' G},l a=MA o->a≠ld->(aC (aC (aC l q (.lst [])) ld D') q G) a=MA o:=fun h n=>by rw[aA (aE h u),aA n,aA (aE h u)];exact h
   have mq:M q=MB:=by
    cases z:M q with
    |none=>rfl
    |some o=>rw[N _ _ z]at u;cases u
   have vn:=fun j=>xX (.ref q) hn j;refine⟨putD kvs (Ql t b X Y (fa ws i)) (.ref q),fun p=>if fa ws i=p then q else L p,_,rfl,fun a o h=>C (N _ _ h) (fun z=>by subst z;rw[J]at h;cases h),?_,(by rw[aA B.symm,ag]),fun p h=>?_,fun p h=>?_,fun p v h F e=>?_⟩
   ·have:(putD kvs (Ql t b X Y (fa ws i)) (.ref q)).length<=kvs.length+1:=by
     unfold putD;split
     ·rw[IZ];omega
     ·simp
    omega
   ·by_cases z:fa ws i=p
    ·subst z;refine⟨by rw[vn,MF rfl,MF rfl],?_,by rw[MF rfl];exact B,by rw[MF rfl];exact mq⟩;rw[MF rfl,ag,r,em];rfl
    ·rw[c p z]at h ⊢;obtain⟨u1,u2,O,u4⟩:=V.some p h;rw[ME z];exact⟨by rw[vn,ME (fun y=>z (tZ S.t0 S.b0 y).symm)];exact u1,C u2 O,O,u4⟩
   ·by_cases z:fa ws i=p
    ·subst z;rw[r]at h;simp at h
    ·rw[c p z]at h;rw[vn,ME (fun y=>z (tZ S.t0 S.b0 y).symm)];exact V.none p h
   ·by_cases z:fa ws i=p<;>by_cases I:fa ws i=v
    ·rw[<-z,<-I]
    ·rw[c v I]at F;rw[MF z,ME I]at e;have:=(V.some v F).2.1;rw[<-e,u]at this;cases this
    ·rw[c p z]at h;rw[ME z,MF I]at e;have:=(V.some p h).2.1;rw[e,u]at this;cases this
    ·rw[c p z]at h;rw[c v I]at F;rw[ME z,ME I]at e;exact V.inj p v h F e
 ·rintro δ l ⟨kvs,L,U,rfl,N,hk,V⟩;exact⟨_,rfl,⟨l,.refl,k l ld kvs L N V⟩⟩
theorem Dn:NL ["one","other"] ["one","other"] (az Cz):=by walk_at "sc"
inductive Rq(x y:D)(M:MH)(Q:DK):Prop
 |mk (t1 b1 t2 b2:Int) (_:x=.tup [.int t1,.int b1]) (_:y=.tup [.int t2,.int b2]) (_:Bd 1000000 t1) (_:Bd 1000000 b1) (_:Bd 1000000 t2) (_:Bd 1000000 b2) (_:Q (.tup [.int (t1*b2-t2*b1),.int (b1*b2)]) M)
theorem qq(T:Tx K mg):Cal P w K mg base 1 "gap" (OF Rq):=by refine bP (k:=0) T.f_gap Dn fun f cdv A outer s H E e=>⟨_,(aw (aH (aV (aa (aD dZ (aD aO (aB (dv 0) aj) (aB (dv 1) aj)) (aD aO (aB (dv 1) aj) (aB (dv 0) aj))) (aa (aD aO (aB (dv 0) aj) (aB (dv 1) aj)) af))))),fun _ _ M Q h=>?_⟩;obtain⟨t1,b1,g,i,rfl,rfl,c,a,d,b,k⟩:=h;refine⟨_,rfl,_,rfl,_,rfl,_,rfl,dz c b,_,rfl,_,rfl,_,rfl,_,rfl,dz d a,trivial,?_⟩;exact⟨_,rfl,_,rfl,_,rfl,_,rfl,dz a b,NS rfl,N3 k⟩
theorem dH:NL ["wall","spot","a","b","c","d","x","y","across","up","along","high"] ["wall","spot"] (az yd):=by walk_at "sc"
inductive RG(u v:D)(M:MH)(Q:DK):Prop
 |mk (n:Nat) (a b c d x y:Rat) (_:u=MW a b c d) (_:v=NH x y) (_:MY n a) (_:MY n b) (_:MY n c) (_:MY n d) (_:MY n x) (_:MY n y) (_:n<=20000) (_:∀t e:Int,0<e->Rat.divInt t e=NB a b c d x y->Bd (8*n+3) t->Bd (8*n+3) e->Q (.tup [.int t,.int e]) M)
theorem ER(T:Tx K mg):Cal P w K mg base 2 "lean" (OF RG):=by
 refine bP (k:=1) T.f_lean dH fun f cdv A outer s H E o=>⟨_,(ak (cR (dv 0) (bX rfl (aI (bX rfl (aI (aF 2 dH.nd) (aI (aF 3 dH.nd) bD))) (aI (bX rfl (aI (aF 4 dH.nd) (aI (aF 5 dH.nd) bD))) bD)))) (ak (cR (dv 1) (bX rfl (aI (aF 6 dH.nd) (aI (aF 7 dH.nd) bD)))) (ak (fW 8 9 rfl dH.nd (aa (ay (qq T).m o (aa (dv 4) (aa (dv 2) af))) (aa (ay (qq T).m o (aa (dv 5) (aa (dv 3) af))) af))) (ak (fW 10 11 rfl dH.nd (aa (ay (qq T).m o (aa (dv 6) (aa (dv 2) af))) (aa (ay (qq T).m o (aa (dv 7) (aa (dv 3) af))) af))) (aw (aH (ay (qq T).m o (aa (aV (aa (aD aO (aB (dv 8) aj) (aB (dv 11) aj)) (aa (aD aO (aB (dv 8) aj) (aB (dv 11) aj)) af))) (aa (aV (aa (aD aO (aB (dv 9) aj) (aB (dv 10) aj)) (aa (aD aO (aB (dv 9) aj) (aB (dv 10) aj)) af))) af))))))))),fun _ _ M Q h=>?_⟩;obtain⟨n,a,b,c,d,x,y,rfl,rfl,g,j,p,hd,t,u,G,k⟩:=h;have e:∀{m:Nat} {i:Int},Bd m i->m<=1000000->Bd 1000000 i:=fun z l=>z.mono l;have B:=p.uQ g;have C:=hd.uQ j;have D:=t.uQ g;have F:=u.uQ j;have e1:=p.2.mul g.2;have e2:=hd.2.mul j.2;have e3:=t.2.mul g.2;have e4:=u.2.mul j.2;refine⟨_,rfl,_,rfl,rfl,_,_,rfl,⟨_,rfl,rfl,_,_,rfl,_,_,rfl,rfl,?_⟩⟩;refine⟨_,_,rfl,⟨_,rfl,rfl,_,_,rfl,_,_,rfl,rfl,?_⟩⟩;refine⟨rfl,_,rfl,_,rfl,rfl,_,_,rfl,_,_,rfl,rfl,?_⟩;refine⟨_,rfl,_,rfl,_,_,_,_,rfl,rfl,e p.1 (by omega),e p.2 (by omega),e g.1 (by omega),e g.2 (by omega),?_⟩;refine⟨_,rfl,_,rfl,_,_,_,_,rfl,rfl,e hd.1 (by omega),e hd.2 (by omega),e j.1 (by omega),e j.2 (by omega),?_⟩;refine⟨_,_,rfl,?_⟩;refine⟨_,rfl,_,rfl,_,_,_,_,rfl,rfl,e t.1 (by omega),e t.2 (by omega),e g.1 (by omega),e g.2 (by omega),?_⟩;refine⟨_,rfl,_,rfl,_,_,_,_,rfl,rfl,e u.1 (by omega),e u.2 (by omega),e j.1 (by omega),e j.2 (by omega),?_⟩;refine⟨_,_,rfl,?_⟩;refine⟨_,rfl,_,rfl,_,rfl,_,rfl,dz (e B (by omega)) (e F (by omega)),?_⟩;refine⟨_,rfl,_,rfl,_,rfl,_,rfl,dz (e e1 (by omega)) (e e4 (by omega)),NS rfl,?_⟩;refine⟨_,rfl,_,rfl,_,rfl,_,rfl,dz (e C (by omega)) (e D (by omega)),?_⟩;refine⟨_,rfl,_,rfl,_,rfl,_,rfl,dz (e e2 (by omega)) (e e3 (by omega)),NS rfl,?_⟩;refine⟨_,_,_,_,rfl,rfl,e (B.mul F) (by omega),e (e1.mul e4) (by omega),e (C.mul D) (by omega),e (e2.mul e3) (by omega),?_⟩;have v:∀q r:Rat,0<(q.den:Int)*(r.den:Int):=fun q r=>JE (NJ q) (NJ r);refine N3 (k _ _ (JE (JE (v c a) (v y b)) (JE (v d b) (v x a))) (Ma.A8 a b c d x y) ?_ ?_)
 ·exact((((B.mul F).mul (e2.mul e3)).mono (show _<=8*n+2 by omega)).sub (((C.mul D).mul (e1.mul e4)).mono (show _<=8*n+2 by omega)))
 ·exact((e1.mul e4).mul (e2.mul e3)).mono (by omega)
theorem lP:NL ["wall","spot","top"] ["wall","spot"] (az nL):=by walk_at "sc"
inductive P7(u v:D)(M:MH)(Q:DK):Prop
 |mk (n:Nat) (a b c d x y:Rat) (_:u=MW a b c d) (_:v=NH x y) (_:MY n a) (_:MY n b) (_:MY n c) (_:MY n d) (_:MY n x) (_:MY n y) (_:n<=1900) (_:Q (.int (NC (NB a b c d x y))) M)
theorem dU(T:Tx K mg):Cal P w K mg base 3 "side_of" (OF P7):=by
 refine bP (k:=2) T.f_side_of lP fun f cdv A outer s H E g=>⟨_,(ak (aG 2 lP.nd (aB (ay (ER T).m g (aa (dv 0) (aa (dv 1) af))) aj)) (ak (bJ (aP (oZ g.units) (dv 2) aj) (aw (aH aj)) aU) (ak (bJ (aP (gx g.units) (dv 2) aj) (aw (aH (nD gY aj))) aU) (aw (aH aj))))),fun _ _ M Q h=>?_⟩;obtain⟨n,a,b,c,d,x,y,rfl,rfl,j,l,o,hd,p,q,u,k⟩:=h;refine⟨_,rfl,_,rfl,n,a,b,c,d,x,y,rfl,rfl,j,l,o,hd,p,q,by omega,fun t e r i _ _=>⟨_,rfl,?_⟩⟩;rw[<-i,Ma.BD r]at k;refine⟨_,rfl,trivial,_,rfl,?_⟩;refine cD (fun h=>?_) (fun h=>?_)
 ·rw[MF (by simpa using h)]at k;exact N3 k
 rw[ME (by simpa using h)]at k;refine⟨_,rfl,trivial,_,rfl,?_⟩;refine cD (fun h=>?_) (fun h=>?_)
 ·rw[MF (by simpa using h)]at k;exact N3 k
 ·rw[ME (by simpa using h)]at k;exact N3 k
theorem c7:NL ["corner","came_from","one","other","turn","other_turn"] ["corner","came_from","one","other"] (az f7):=by walk_at "sc"
inductive OI(u v x y:D)(M:MH)(Q:DK):Prop
 |mk (t b X Y:Int) (c p q r:Vc) (_:u=NH (MX t b X 1 c.1) (MX t b Y 1 c.2)) (_:v=NH (MX t b X 1 p.1) (MX t b Y 1 p.2)) (_:x=NH (MX t b X 1 q.1) (MX t b Y 1 q.2)) (_:y=NH (MX t b X 1 r.1) (MX t b Y 1 r.2)) (_:OE t b X Y) (_:(0<=c.1/\c.1<=20)) (_:(0<=c.2/\c.2<=20)) (_:(0<=p.1/\p.1<=20)) (_:(0<=p.2/\p.2<=20)) (_:(0<=q.1/\q.1<=20)) (_:(0<=q.2/\q.2<=20)) (_:(0<=r.1/\r.1<=20)) (_:(0<=r.2/\r.2<=20)) (_:Q (.bl (PQ (p.1-c.1,p.2-c.2) (q.1-c.1,q.2-c.2) (r.1-c.1,r.2-c.2))) M)
theorem kf(T:Tx K mg):Cal P w K mg base 4 "is_met_sooner" (XO OI):=by
 refine Gx (k:=3) T.f_is_met_sooner c7 fun f cdv A outer s H E a=>⟨_,(ak (aG 4 c7.nd (ay (dU T).m a (aa (aV (aa (dv 0) (aa (dv 1) af))) (aa (dv 2) af)))) (ak (aG 5 c7.nd (ay (dU T).m a (aa (aV (aa (dv 0) (aa (dv 1) af))) (aa (dv 3) af)))) (ak (bJ (aP (fI a.units) (dv 4) (dv 5)) (aw (aH (dD (gx a.units) (dv 4) (dv 5)))) aU) (aw (aH (dD (ez a.units) (ay (dU T).m a (aa (aV (aa (dv 0) (aa (dv 2) af))) (aa (dv 3) af))) (nD gY aj))))))),fun _ _ _ _ M Q h=>?_⟩;obtain⟨t,b,X,Y,c,p,q,r,rfl,rfl,rfl,rfl,S,d,g,i,j,l,n,o,u,k⟩:=h;have one:(0:Int)<1/\(1:Int)<=10^6:=by decide
 have v:∀{z:Int},(0<=z/\z<=20)->(-(10^6)<=z/\z<=10^6):=fun{z} h=>by omega
 have bx:∀{z:Int},(0<=z/\z<=20)->MY 200 (MX t b X 1 z):=fun{z} h=>S.bx one (v h);have by':∀{z:Int},(0<=z/\z<=20)->MY 200 (MX t b Y 1 z):=fun{z} h=>S.by' one (v h)
 have e1:=ju (X:=X) (Y:=Y) S.t0 S.b0 (c.1,c.2,p.1,p.2) q.1 q.2;have e2:=ju (X:=X) (Y:=Y) S.t0 S.b0 (c.1,c.2,p.1,p.2) r.1 r.2;have e3:=ju (X:=X) (Y:=Y) S.t0 S.b0 (c.1,c.2,q.1,q.2) r.1 r.2;have x:sd (c.1,c.2,p.1,p.2) q.1 q.2=vc (p.1-c.1,p.2-c.2) (q.1-c.1,q.2-c.2):=rfl;have y:sd (c.1,c.2,p.1,p.2) r.1 r.2=vc (p.1-c.1,p.2-c.2) (r.1-c.1,r.2-c.2):=rfl;have B:sd (c.1,c.2,q.1,q.2) r.1 r.2=vc (q.1-c.1,q.2-c.2) (r.1-c.1,r.2-c.2):=rfl;rw[x]at e1;rw[y]at e2;rw[B]at e3;dsimp only at e1 e2 e3;refine⟨_,rfl,_,rfl,NS rfl,_,rfl,200,_,_,_,_,_,_,rfl,rfl,bx d,by' g,bx i,by' j,bx l,by' n,by decide,?_⟩;rw[e1];refine⟨_,rfl,_,rfl,NS rfl,_,rfl,200,_,_,_,_,_,_,rfl,rfl,bx d,by' g,bx i,by' j,bx o,by' u,by decide,?_⟩;rw[e2];refine⟨_,rfl,_,rfl,_,rfl,?_⟩;unfold PQ at k;refine cD (fun h=>?_) (fun h=>?_)
 ·have ne:¬Jw (vc (p.1-c.1,p.2-c.2) (q.1-c.1,q.2-c.2))=Jw (vc (p.1-c.1,p.2-c.2) (r.1-c.1,r.2-c.2)):=fun z=>by rw[z]at h;simp at h
  rw[ME ne]at k;exact⟨_,rfl,_,rfl,trivial,N3 k⟩
 ·have eq:Jw (vc (p.1-c.1,p.2-c.2) (q.1-c.1,q.2-c.2))=Jw (vc (p.1-c.1,p.2-c.2) (r.1-c.1,r.2-c.2)):=by simpa using h
  rw[MF eq]at k;refine⟨_,rfl,_,rfl,NS rfl,_,rfl,200,_,_,_,_,_,_,rfl,rfl,bx d,by' g,bx l,by' n,bx o,by' u,by decide,?_⟩;rw[e3];have e:decide (vc (q.1-c.1,q.2-c.2) (r.1-c.1,r.2-c.2)<0)=decide (Jw (vc (q.1-c.1,q.2-c.2) (r.1-c.1,r.2-c.2))=-1):=by rw[MK];rcases gg (vc (q.1-c.1,q.2-c.2) (r.1-c.1,r.2-c.2))with z|z|z<;>omega
  rw[e]at k;exact N3 k
theorem bC:NL ["plot","leaving","face","came_from","corner","back","best","rival"] ["plot","leaving","face"] (az ig):=by walk_at "sc"
def eG(ws:List Wl)(f j:Nat):Option Nat:=((((J6 (2*ws.length)).filter fun g=>decide (fa ws g=fb ws f)).take j).filter fun g=>decide (g≠fx f)).foldl (dG (Oi ws f)) MB
theorem nt(R:Nat->Nat->Bool):∀(l:List Nat) (o:Option Nat) {h:Nat},l.foldl (dG R) o=MA h->h∈l\/o=MA h
 |[],o,h,e=>.inr e
 |g::l,o,h,e=>by
  rw[Lx]at e
  rcases nt R l _ e with z|z
  ·exact .inl (by simp[z])
  ·cases o with
   |none=>cases z;exact .inl (by simp)
   |some k=>
    unfold dG at z
    dsimp only at z
    by_cases r:R g k=MC
    ·rw[MF r]at z;cases z;exact .inl (by simp)
    ·rw[ME r]at z;exact .inr z
theorem rR(ws:List Wl)(f j:Nat)(h:((J6 (2*ws.length)).filter fun g=>decide (fa ws g=fb ws f)).length<=j):eG ws f j=(gZ ws f).foldl (dG (Oi ws f)) MB:=by
 unfold eG gZ ya;rw[Kr h,List.filter_filter]
 congr 1
 apply List.filter_congr;intro x _;rw[Bool.and_comm]
theorem sO{ws:List Wl}{f j h:Nat}(e:eG ws f j=MA h):h∈gZ ws f:=by
 unfold eG at e;rcases nt _ _ _ e with z|z
 ·have a:=Jm.mp z;have b:=Jm.mp (List.mem_of_mem_take a.1);exact bw.mpr ⟨by simpa using b.1,by simpa using b.2,by simpa using a.2⟩
 ·cases z
inductive OS(u v w:D)(M:MH)(Q:DK):Prop
 |mk (t b X Y:Int) (ws:List Wl) (M0:MH) (ld:Addr) (kvs:Ny) (L:Vc->Addr) (f:Nat) (_:u=.tup (ws.map (NP t b X Y))) (_:v=.ref ld) (_:w=.int (f:Int)) (_:OE t b X Y) (_:ws.length<=40) (_:(∀w∈ws,NO w)) (_:f<2*ws.length) (_:Ra t b X Y ws (2*ws.length) M0 M ld kvs L) (_:Q (.int (bh ws f:Int)) M)
theorem ij(T:Tx K mg):Cal P w K mg base 5 "face_behind" (Rr OS):=by
 refine qD (k:=4) T.f_face_behind bC fun f cdv A outer s H E r=>⟨_,(ak (cR (ay (cv T).m r (aa (dv 0) (aa (dv 2) af))) (bX rfl (aI (aF 3 bC.nd) (aI (aF 4 bC.nd) bD)))) (ak (aG 5 bC.nd (aD Er (dv 2) aj)) (ak (aG 6 bC.nd (dv 5)) (ak (bM Js rfl (aT (pI (mT r) (dv 1) (dv 4) (by intro _ _;with_unfolding_all rfl))) (aF 7 bC.nd) (aw (bJ (rz (kX (aP (fI r.units) (dv 7) (dv 5)) (ja (rz (CC (aP (ez r.units) (dv 6) (dv 5)) (yH (fY (ay (kf T).m r (aa (dv 4) (aa (dv 3) (aa (aB (ay (cv T).m r (aa (dv 0) (aa (dv 7) af))) aj) (aa (aB (ay (cv T).m r (aa (dv 0) (aa (dv 6) af))) aj) af)))))))))))) (aw (aG 6 bC.nd (dv 7))) aU))) (aw (aH (dv 6))))))),fun _ _ _ M Q h=>?_⟩;obtain⟨t,b,X,Y,ws,M0,ld,kvs,L,f,rfl,rfl,rfl,S,J,Z,u,V,k⟩:=h;have exf:Builtin.bitXor (f:Int) 1=((fx f:Nat):Int):=EC f (by omega)
 have n:∀g:Nat,g<2*ws.length->((0<=(fa ws g).1/\(fa ws g).1<=20)/\(0<=(fa ws g).2/\(fa ws g).2<=20))/\((0<=(fb ws g).1/\(fb ws g).1<=20)/\(0<=(fb ws g).2/\(fb ws g).2<=20)):=fun g y=>by
  obtain⟨_,_,w3⟩:=bo (ws:=ws) (k:=((g/2:Nat):Int)) (by omega) (by omega)
  have W:=Z _ w3
  unfold fa fb fw
  by_cases h:g%2=0
  ·rw[MF h];exact⟨⟨W.a,W.b⟩,W.c,W.d⟩
  ·rw[ME h];exact⟨⟨W.c,W.d⟩,W.a,W.b⟩
 have ne:ON ws (2*ws.length) (fb ws f)≠[]:=by
  unfold ON
  have:fx f∈(J6 (2*ws.length)).filter fun g=>decide (fa ws g=fb ws f):=Jm.mpr ⟨Jq.mpr (f9 u),by simpa using cZ ws f⟩
  intro z
  rw[List.map_eq_nil_iff]at z
  rw[z]at this
  cases this
 obtain⟨v1,N,v3,v4⟩:=V.some _ ne;refine⟨_,rfl,_,rfl,t,b,X,Y,ws,f,rfl,rfl,u,by omega,?_⟩;refine⟨_,rfl,rfl,_,_,rfl,_,_,rfl,rfl,?_⟩;refine⟨_,rfl,trivial,?_⟩;dsimp only;rw[exf];refine⟨_,rfl,?_⟩;refine⟨_,rfl,_,rfl,ld,kvs,Ql t b X Y (fb ws f),_,rfl,rfl,V.d,v1,(ON ws (2*ws.length) (fb ws f)).map D.int,N,?_⟩;refine⟨fun j δ B=>B=M/\∃F,δ=[MA (.tup (ws.map (NP t b X Y))),MA (.ref ld),MA (.int (f:Int)),MA (NH (MX t b X 1 (fw ws f).1) (MX t b Y 1 (fw ws f).2.1)),MA (NH (MX t b X 1 (fw ws f).2.2.1) (MX t b Y 1 (fw ws f).2.2.2)),MA (.int ((fx f:Nat):Int)),MA (.int (((eG ws f j).getD (fx f):Nat):Int)),F],⟨rfl,_,rfl⟩,fun j δ B _ z=>by obtain⟨rfl,_⟩:=z;exact N,?_,?_⟩
 ·rintro j d δ B hj hd ⟨rfl,F,rfl⟩;have hd:((((J6 (2*ws.length)).filter fun g=>decide (fa ws g=fb ws f)).map fun g:Nat=>(g:Int)).map D.int)[j]?=MA d:=hd;rw[J4,J4]at hd;cases C:((J6 (2*ws.length)).filter fun g=>decide (fa ws g=fb ws f))[j]? with
  |none=>rw[C]at hd;cases hd
  |some g=>
   rw[C]at hd
   cases hd
   have v:=Jm.mp (J9 C)
   have y:g<2*ws.length:=by simpa using v.1
   have G:fa ws g=fb ws f:=by simpa using v.2
   have nx:eG ws f (j+1)=if g=fx f then eG ws f j else dG (Oi ws f) (eG ws f j) g:=by
    unfold eG;rw[KR,C,LY,LW,List.foldl_append];by_cases z:g=fx f
    ·simp[z]
    ·simp[z]
   have p:∀h,eG ws f j=MA h->h∈gZ ws f:=fun h e=>sO e
   generalize eG ws f j=o at nx p ⊢
   by_cases z:g=fx f
   ·(try dsimp only[SD.jd,SD.fG,SD.aZ,SD.jX,SD.jT,SD.fh,SD.gu,SD.tBD,SD.jV,SD.EndsD.nxt,SD.EndsD.lp])
    refine yQ MD MD (fun K l=>⟨_,rfl,_,rfl,_,rfl,?_⟩) (fun q=>absurd q (by decide)) (j9 rfl ⟨rfl,MA (.int (g:Int)),?_⟩)
    ·rw[show(!decide ((g:Int)=((fx f:Nat):Int)))=MD by rw[z];simp];exact l
    ·rw[nx,MF z];rfl
   ·rw[ME z]at nx
    have O:(!decide ((g:Int)=((fx f:Nat):Int)))=MC:=by
     have:¬((g:Int)=((fx f:Nat):Int)):=fun q=>z (by omega)
     rw[MG this];rfl
    cases o with
    |none=>
     (try dsimp only[SD.jd,SD.fG,SD.aZ,SD.jX,SD.jT,SD.fh,SD.gu,SD.tBD,SD.jV,SD.EndsD.nxt,SD.EndsD.lp])
     refine yQ MC MC (fun K l=>⟨_,rfl,_,rfl,_,rfl,by rw[O];exact l⟩) (fun _ K l=>XR MC MC (fun R i=>⟨_,rfl,_,rfl,_,rfl,?_⟩) (fun q=>absurd q (by decide)) l) (A3 rfl ⟨_,rfl,rfl,MA (.int (g:Int)),?_⟩)
     ·rw[show decide ((((MB:Option Nat).getD (fx f):Nat):Int)=((fx f:Nat):Int))=MC by simp];exact i
     ·rw[nx];rfl
    |some h=>
     have x:=bw.mp (p h rfl)
     have d1:fd ws (fx f)=((fa ws f).1-(fb ws f).1,(fa ws f).2-(fb ws f).2):=by unfold fd fa fb;rw[yX];rfl
     have U:∀g,fa ws g=fb ws f->fd ws g=((fb ws g).1-(fb ws f).1,(fb ws g).2-(fb ws f).2):=fun g e=>by rw[<-e];rfl
     have es:Oi ws f g h=PQ ((fa ws f).1-(fb ws f).1,(fa ws f).2-(fb ws f).2) ((fb ws g).1-(fb ws f).1,(fb ws g).2-(fb ws f).2) ((fb ws h).1-(fb ws f).1,(fb ws h).2-(fb ws f).2):=by unfold Oi;rw[d1,U g G,U h x.2.1]
     have I:decide ((((MA h).getD (fx f):Nat):Int)=((fx f:Nat):Int))=MD:=MG (fun q=>x.2.2 (by have q':((h:Nat):Int)=((fx f:Nat):Int):=q;omega))
     (try dsimp only[SD.jd,SD.fG,SD.aZ,SD.jX,SD.jT,SD.fh,SD.gu,SD.tBD,SD.jV,SD.EndsD.nxt,SD.EndsD.lp])
     refine yQ MC (MD||Oi ws f g h) (fun K l=>⟨_,rfl,_,rfl,_,rfl,by rw[O];exact l⟩) (fun _ K l=>XR MD (Oi ws f g h) (fun R i=>⟨_,rfl,_,rfl,_,rfl,by rw[I];exact i⟩) (fun _ R i=>?_) l) ?_
     ·refine⟨_,rfl,_,rfl,_,rfl,_,rfl,t,b,X,Y,ws,g,rfl,rfl,y,by omega,_,rfl,_,rfl,_,rfl,t,b,X,Y,ws,h,rfl,rfl,x.1,by omega,_,rfl,t,b,X,Y,fb ws f,fa ws f,fb ws g,fb ws h,rfl,rfl,rfl,rfl,S,(n f u).2.1,(n f u).2.2,(n f u).1.1,(n f u).1.2,(n g y).2.1,(n g y).2.2,(n h x.1).2.1,(n h x.1).2.2,_,rfl,?_⟩;rw[<-es];exact i
     ·refine cD (fun q=>?_) (fun q=>?_)
      ·refine⟨_,rfl,rfl,MA (.int (g:Int)),?_⟩;have q:Oi ws f g h=MC:=by simpa using q
       have e:dG (Oi ws f) (MA h) g=MA g:=by unfold dG;simp[q]
       rw[nx,e];rfl
      ·refine⟨rfl,MA (.int (g:Int)),?_⟩;have q:¬Oi ws f g h=MC:=by simpa using q
       have e:dG (Oi ws f) (MA h) g=MA h:=by unfold dG;simp[q]
       rw[nx,e];rfl
 ·rintro δ B ⟨rfl,F,rfl⟩;have e:=rR ws f ((ON ws (2*ws.length) (fb ws f)).map D.int).length (by simp[ON]);dsimp only;rw[e];exact⟨_,rfl,N3 k⟩
theorem dN:NL ["plot","leaving","face","ring","at"] ["plot","leaving","face"] (az jZ):=by walk_at "sc"
theorem vh{t b X Y:Int}{ws:List Wl}{i:Nat}{f M:MH}{ld:Addr}{kvs:Ny}{L:Vc->Addr}{p:Addr}{o:MO}(V:Ra t b X Y ws i f M ld kvs L)(j:M p=MB):Ra t b X Y ws i f (aC M p o) ld kvs L:=⟨by rw[aA (aE V.d j)];exact V.d,fun q h=>let⟨a,c,e,g⟩:=V.some q h;⟨a,by rw[aA (aE c j)];exact c,e,g⟩,V.none,V.inj⟩
inductive O8(u v w:D)(M:MH)(Q:DK):Prop
 |mk (t b X Y:Int) (ws:List Wl) (M0:MH) (ld:Addr) (kvs:Ny) (L:Vc->Addr) (f:Nat) (_:u=.tup (ws.map (NP t b X Y))) (_:v=.ref ld) (_:w=.int (f:Int)) (_:OE t b X Y) (_:ws.length<=40) (_:(∀w∈ws,NO w)) (_:PF ws) (_:f<2*ws.length) (_:Ra t b X Y ws (2*ws.length) M0 M ld kvs L) (_:∀(p:Addr) (kk:Nat),M p=MB->NR ws f kk->bh ws (Nf ws f kk)=f->Q (.ref p) (aC M p (.lst ((rn ws f kk).map fun g:Nat=>D.int (g:Int)))))
theorem qh(T:Tx K mg):Cal P w K mg base 6 "ring_from" (Rr O8):=by
 refine qD (k:=5) T.f_ring_from dN fun f cdv A outer s H E n=>⟨_,(ak (aG 3 dN.nd (bR (aa (dv 2) af))) (ak (aG 4 dN.nd (ay (ij T).m n (aa (dv 0) (aa (dv 1) (aa (dv 2) af))))) (ak (jb Js (aP (fI n.units) (dv 4) (dv 2)) (ak (dM (bQ (dv 3) (aa (dv 4) af))) (aw (aG 4 dN.nd (ay (ij T).m n (aa (dv 0) (aa (dv 1) (aa (dv 4) af)))))))) (aw (aH (dv 3)))))),fun _ _ _ M Q h=>?_⟩;obtain⟨t,b,X,Y,ws,r,ld,kvs,L,f,rfl,rfl,rfl,S,c,d,hF,i,V,k⟩:=h;refine⟨_,rfl,NS rfl,fun p o=>?_⟩;refine⟨_,rfl,_,rfl,_,rfl,t,b,X,Y,ws,r,ld,kvs,L,f,rfl,rfl,rfl,S,c,d,i,vh V o,?_⟩;refine⟨fun m δ j=>∃a,VT (δ=[MA (.tup (ws.map (NP t b X Y))),MA (.ref ld),MA (.int (f:Int)),MA (.ref p),MA (.int ((Nf ws f (a+1):Nat):Int))]) (j=aC M p (.lst ((rn ws f a).map fun g:Nat=>D.int (g:Int)))) (NR ws f a) (m=2*ws.length-a),⟨_,0,rfl,rfl,AA ws f,rfl⟩,?_⟩;rintro m δ j ⟨a,rfl,rfl,q,rfl⟩;have v:=uo d hF i q;refine⟨_,rfl,_,rfl,_,rfl,?_⟩;refine cD (fun h=>?_) (fun h=>?_)
 ·have ne:bh ws (Nf ws f a)≠f:=fun z=>by
   have:Nf ws f (a+1)=f:=z
   rw[this]at h;simp at h
  have l:=Af d hF i q ne;have u:=uo d hF i l;refine⟨_,rfl,p,_,rfl,ag,_,rfl,_,_,rfl,ag,(by rw[IZ,jP];omega),?_⟩;have e:aC (aC M p (.lst ((rn ws f a).map fun g:Nat=>D.int (g:Int)))) p (.lst (((rn ws f a).map fun g:Nat=>D.int (g:Int))++[.int ((Nf ws f (a+1):Nat):Int)]))=aC M p (.lst ((rn ws f (a+1)).map fun g:Nat=>D.int (g:Int))):=by rw[bL,n8,Jk];rfl
  rw[e];refine⟨_,rfl,_,rfl,_,rfl,t,b,X,Y,ws,r,ld,kvs,L,Nf ws f (a+1),rfl,rfl,rfl,S,c,d,cE d hF i (a+1),vh V o,?_⟩;exact⟨2*ws.length-(a+1),by omega,a+1,rfl,rfl,l,rfl⟩
 ·have eq:bh ws (Nf ws f a)=f:=by
   have:((Nf ws f (a+1):Nat):Int)=(f:Int):=by simpa using h
   have e:Nf ws f (a+1)=bh ws (Nf ws f a):=rfl
   omega
  exact⟨_,rfl,⟨_,.refl,k p a o q eq⟩⟩
theorem cy:NL ["plot","leaving","rings","gone_along","face","ring","part"] ["plot"] (az lQ):=by walk_at "sc"
theorem As{t b X Y:Int}{ws:List Wl}{i:Nat}{f M j:MH}{ld:Addr}{kvs:Ny}{L:Vc->Addr}(V:Ra t b X Y ws i f M ld kvs L)(s:SD.Sub M j):Ra t b X Y ws i f j ld kvs L:=⟨s _ _ V.d,fun q h=>let⟨a,c,e,g⟩:=V.some q h;⟨a,s _ _ c,e,g⟩,V.none,V.inj⟩
theorem lG{M a:MH}(s:SD.Sub M a){p:Addr}(h:a p=MB):M p=MB:=by
 cases z:M p with
 |none=>rfl
 |some o=>rw[s _ _ z]at h;cases h
inductive Ot(u:D)(M:MH)(Q:DK):Prop
 |mk (t b X Y:Int) (ws:List Wl) (_:u=.tup (ws.map (NP t b X Y))) (_:OE t b X Y) (_:ws.length<=40) (_:(∀w∈ws,NO w)) (_:PF ws) (_:∀(M':MH) (lr:Addr) (ps:List Addr) (rs:List (List Nat)),SD.Sub M M'->M lr=MB->M' lr=MA (.lst (ps.map D.ref))->OO ws (2*ws.length) rs->RL M' ps rs->(∀p∈ps,p≠lr/\M p=MB)->Q (.ref lr) M')
theorem mC(T:Tx K mg):Cal P w K mg base 7 "rings_of" (Pc Ot):=by
 refine fo (k:=6) T.f_rings_of cy fun f cdv A outer s H E C=>⟨_,(ak (aG 1 cy.nd (ay (jt T).m C (aa (dv 0) af))) (ak (aG 2 cy.nd (bR af)) (ak (aG 3 cy.nd zw) (ak (gX Js rfl rfl T.b_range (aa (aD aO aj (aN cW rfl T.b_len cT (aa (dv 0) af))) af) (aF 4 cy.nd) (aw (bJ (sY (mT C) (dv 4) (dv 3)) (ak (aG 5 cy.nd (ay (qh T).m C (aa (dv 0) (aa (dv 1) (aa (dv 4) af))))) (ak (dM (bQ (dv 2) (aa (dv 5) af))) (aw (bM Js rfl (aT (dv 5)) (aF 6 cy.nd) (aw (zx (mT C) (dv 3) (dv 6) g9)))))) aU))) (aw (aH (dv 2))))))),fun _ M Q h=>?_⟩;obtain⟨t,b,X,Y,ws,rfl,S,W,hU,hF,k⟩:=h;have g0:(ws.map (NP t b X Y)).length=ws.length:=by simp
 refine⟨_,rfl,t,b,X,Y,ws,rfl,S,W,fun M1 ld kvs L Z V=>?_⟩;refine⟨NS rfl,fun l a0=>fun y I=>?_⟩;have J:y≠l:=fun z=>by subst z;rw[ag]at I;cases I
 have c0:M1 y=MB:=by have h:=I;rw[aA J]at h;exact h
 refine⟨_,rfl,bE (cY (by decide)),2*ws.length,(by rw[g0];simp),by omega,?_⟩;refine⟨fun i δ r=>VP fun(ps:List Addr) (x:List (List Nat)) (n:Nat) (Sg:Int->Bool) (o4 o5 o6:Option D)=>VD (δ=[MA (.tup (ws.map (NP t b X Y))),MA (.ref ld),MA (.ref l),MA (.ref y),o4,o5,o6]) (SD.Sub M1 r) (r l=MA (.lst (ps.map D.ref))) (r y=MA (Qp n Sg)) (ps.length<=i) (n<=i*80) (∀g:Nat,Sg (g:Int)=decide (g∈x.flatten)) (OO ws i x) (RL r ps x) (∀p∈ps,p≠l/\p≠y/\M1 p=MB),?_,?_,?_⟩
 ·exact⟨[],[],0,fun _=>MD,_,_,_,rfl,.new I (.new a0 .refl),(by rw[aA J.symm,ag];rfl),ag,J1 _,Kb _,fun g=>by simp,rfl,.nil,fun p N=>by cases N⟩
 ·rintro i δ r hi ⟨ps,x,n,Sg,o4,o5,o6,rfl,sb,C,hg,h0,i0,hS,R,O,u⟩;(try dsimp only[SD.aZ])
  refine RK fun B hB=>?_;refine⟨_,rfl,_,rfl,(i:Int),y,n,Sg,rfl,rfl,hg,_,rfl,?_⟩;rw[hS];refine cD (fun h=>?_) (fun h=>hB _ _ ⟨ps,x,n,Sg,_,_,_,rfl,sb,C,hg,by omega,by omega,hS,⟨x,R,.inl ⟨by simpa using h,rfl⟩⟩,O,u⟩);have k0:i∉x.flatten:=by simpa using h
  refine⟨_,rfl,_,rfl,_,rfl,t,b,X,Y,ws,M,ld,kvs,L,i,rfl,rfl,rfl,S,W,hU,hF,hi,As V sb,fun p j N nr eq=>?_⟩;have kb:=uo hU hF hi nr;have c1:∀{a o G},r a=MA o->(aC r p G) a=MA o:=fun h=>by rw[aA (aE h N)];exact h
  have d0:p≠l:=(aE C N).symm;have b0:p≠y:=(aE hg N).symm;refine⟨_,rfl,l,_,rfl,c1 C,_,rfl,_,_,rfl,c1 C,(by simp;omega),?_⟩;have c2:∀{a o G D'},r a=MA o->a≠l->(aC (aC r p G) l D') a=MA o:=fun h n=>by rw[aA n];exact c1 h
  have e0:=c2 (G:=.lst ((rn ws i j).map fun g:Nat=>D.int (g:Int))) (D':=.lst (ps.map D.ref++[.ref p])) hg J;have U:(aC (aC r p (.lst ((rn ws i j).map fun g:Nat=>D.int (g:Int)))) l (.lst (ps.map D.ref++[.ref p]))) p=MA (.lst ((rn ws i j).map fun g:Nat=>D.int (g:Int))):=by rw[aA d0,ag]
  have f0:(aC (aC r p (.lst ((rn ws i j).map fun g:Nat=>D.int (g:Int)))) l (.lst (ps.map D.ref++[.ref p]))) l=MA (.lst (ps.map D.ref++[.ref p])):=ag;have c3:∀{a o},r a=MA o->a≠l->(aC (aC r p (.lst ((rn ws i j).map fun g:Nat=>D.int (g:Int)))) l (.lst (ps.map D.ref++[.ref p]))) a=MA o:=fun h n=>c2 h n;clear c2;generalize aC (aC r p (.lst ((rn ws i j).map fun g:Nat=>D.int (g:Int)))) l (.lst (ps.map D.ref++[.ref p]))=N2 at e0 U f0 c3 ⊢;refine⟨_,rfl,(rn ws i j).map fun g:Nat=>D.int (g:Int),U,?_⟩;refine⟨fun a δ v=>Ro fun(F:Nat) (S':Int->Bool) (o6:Option D)=>XG (δ=[MA (.tup (ws.map (NP t b X Y))),MA (.ref ld),MA (.ref l),MA (.ref y),MA (.int (i:Int)),MA (.ref p),o6]) (v y=MA (Qp F S')) (∀c,c≠y->v c=N2 c) (F<=n+a) (∀g:Nat,S' (g:Int)=(decide (g∈x.flatten)||decide (g∈(rn ws i j).take a))),⟨n,Sg,_,rfl,e0,fun _ _=>rfl,J1 _,fun g=>by rw[hS];simp⟩,fun a δ v _ z=>by obtain⟨_,_,_,_,_,z,_⟩:=z;show v p=_;rw[z p b0];exact U,?_,?_⟩
  ·rintro a d δ v ha hd ⟨F,S',o6,rfl,h1,h2,h3,h4⟩;have m0:a<j+1:=by have:a<((rn ws i j).map fun g:Nat=>D.int (g:Int)).length:=ha;simpa[jP]using this
   have hd:((rn ws i j).map fun g:Nat=>D.int (g:Int))[a]?=MA d:=hd;rw[J4]at hd;cases eg:(rn ws i j)[a]? with
   |none=>rw[eg]at hd;cases hd
   |some g=>
    rw[eg]at hd
    cases hd
    refine⟨_,rfl,_,rfl,y,(g:Int),F,S',rfl,rfl,h1,by omega,?_⟩
    refine⟨F+1,_,_,rfl,ag,fun c hc=>by rw[aA hc];exact h2 c hc,by omega,fun g'=>?_⟩
    rw[h4,KR,eg]
    have e:decide (((g':Nat):Int)=((g:Nat):Int))=decide (g'=g):=by rw[MK];omega
    rw[e]
    simp only[Jo,LY,JT,Bool.decide_or]
    cases decide (g'=g)<;>cases decide (g'∈x.flatten)<;>simp
  ·rintro δ v ⟨F,S',o6,rfl,h1,h2,h3,h4⟩;have h3:F<=n+(j+1):=by simpa[jP]using h3
   have h4:∀g:Nat,S' (g:Int)=(decide (g∈x.flatten)||decide (g∈(rn ws i j).take ((rn ws i j).map fun g:Nat=>D.int (g:Int)).length)):=h4;have et:(rn ws i j).take ((rn ws i j).map fun g:Nat=>D.int (g:Int)).length=rn ws i j:=Kr (by simp);rw[et]at h4;have c4:∀{a o},r a=MA o->a≠l->a≠y->v a=MA o:=fun h n F=>by rw[h2 _ F];exact c3 h n
   refine hB _ _ ⟨ps++[p],x++[rn ws i j],F,S',_,_,_,rfl,fun a o h=>c4 (sb _ _ h) (fun z=>by subst z;rw[a0]at h;cases h) (fun z=>by subst z;rw[c0]at h;cases h),(by rw[h2 l J.symm,Jk];exact f0),h1,by simp;omega,by omega,fun g=>?_,⟨x,R,.inr ⟨k0,_,⟨j,nr,eq,rfl⟩,rfl⟩⟩,?_,fun p' l0=>?_⟩
   ·rw[h4];simp only[List.flatten_append,Jo,L8,List.flatten_nil,Kc,Bool.decide_or]
   ·exact(O.mono fun q hq o e=>c4 e (u q hq).1 (u q hq).2.1).snoc (by rw[h2 p b0];exact U)
   ·rcases Jo.mp l0 with z|z
    ·exact u p' z
    ·have:p'=p:=by simpa using z
     subst this;exact⟨d0,b0,lG sb N⟩
 ·rintro δ r ⟨ps,x,n,Sg,o4,o5,o6,rfl,sb,C,hg,h0,i0,hS,R,O,u⟩;exact⟨_,rfl,⟨r,.refl,k r l ps x (SD.Sub.trans Z sb) (lG Z a0) C R O fun p N=>⟨(u p N).1,lG Z (u p N).2.2⟩⟩⟩
theorem bV:NL ["_law_shuts","_law_found","_law_one","_law_other","_law_old"] ["_law_shuts"] (az iF):=by walk_at "sc"
inductive OY(u:D)(M:MH)(Q:DK):Prop
 |mk (l:Addr) (ws:List Wl) (_:u=.ref l) (_:M l=MA (.lst (ws.map uw))) (_:ws.length<=40) (_:∀(M':MH) (z:Addr) (L:Nat->Nat),SD.Sub M M'->M z=MB->M' z=MA (.lst (((J6 ws.length).map fun x=>((L x:Nat):Int)).map D.int))->(∀x,x<ws.length->L x<ws.length)->(∀x y,x<ws.length->y<ws.length->(L x=L y↔Cn ws x y))->Q (.ref z) M')
theorem pj(T:Tx K mg):Cal P w K mg base 1 "_law_groups" (Pc OY):=by
 refine fo (k:=0) T.f_law_groups bV fun f cdv A outer s H E hr=>⟨_,(ak (aG 1 bV.nd (qm rfl T.b_list T.b_range (aa (aN cW rfl T.b_len cT (aa (dv 0) af)) af))) (ak (gX Js rfl rfl T.b_range (aa (aN cW rfl T.b_len cT (aa (dv 0) af)) af) (aF 2 bV.nd) (aw (gX Js rfl rfl T.b_range (aa (dv 2) af) (aF 3 bV.nd) (aw (bJ (aP (fI hr.units) (iJ (NM.of (xs:=["_law_spot_here"]) (js:=[0,3]) rfl) rfl (aT (aB (dv 0) (dv 2))) (fun _ _ _ _=>(ua (aP (F7 (mT hr)) (dv 0) (aB (dv 1) (dv 2)) (by with_unfolding_all rfl)))) (fun _ _ _ _=>(dv 0))) (bR af)) (ak (aG 4 bV.nd (aB (dv 1) (dv 3))) (aw (aG 1 bV.nd (iJ (NM.of (xs:=["_law_group"]) (js:=[1,2,4]) rfl) rfl (aT (dv 1)) (fun _ _ _ _=>ff) (fun _ _ _ _=>(aB (bR (aa (dv 0) (aa (aB (dv 1) (dv 2)) af))) (c8 oX rfl T.b_int nY (aa (dD (ez hr.units) (dv 0) (dv 3)) af)))))))) aU))))) (aw (aH (dv 1))))),fun _ M Q h=>?_⟩;obtain⟨l,ws,rfl,hl,hn,k⟩:=h;have lm:(ws.map uw).length=ws.length:=IZ ..;have ew:∀{k:Nat},k<ws.length->ws[k]?=MA (wn ws k):=fun{k} hk=>by obtain⟨w1,_,_⟩:=bo (ws:=ws) (k:=(k:Int)) (by omega) (by omega);rw[Kn]at w1;exact w1
 refine⟨_,rfl,_,hl,ws.length,(by rw[lm]),by omega,fun z hz=>?_⟩;have h1:(aC M z (.lst ((J6 ws.length).map fun i:Nat=>D.int (i:Int)))) z=MA (.lst (Pg ws.length fun x=>x)):=ag;have s1:SD.Sub M (aC M z (.lst ((J6 ws.length).map fun i:Nat=>D.int (i:Int)))):=.new hz .refl;generalize aC M z (.lst ((J6 ws.length).map fun i:Nat=>D.int (i:Int)))=M1 at h1 s1;refine⟨_,rfl,_,s1 _ _ hl,ws.length,(by rw[lm]),by omega,fun i δ n=>VQ fun(m:Addr) (L:Nat->Nat) (o2 O R:Option D)=>XF (δ=[MA (.ref l),MA (.ref m),o2,O,R]) (SD.Sub M n) (M m=MB) (n m=MA (.lst (Pg ws.length L))) (Lb ws L) (∀a b,a<i->b<a->R5 ws b a->L a=L b),⟨z,_,_,_,_,rfl,s1,hz,h1,Lb.id ws,fun a b h=>absurd h (Nat.not_lt_zero _)⟩,?_,?_⟩;rotate_left
 ·rintro δ n ⟨m,L,o2,O,R,rfl,G,N,g,F,I⟩;rw[pW]at g;exact⟨_,rfl,N3 (k n m L G N g F.lt fun x y V hy=>⟨F.cn x y V hy,Dg I V⟩)⟩
 rintro i δ n hi ⟨m,L,o2,O,R,rfl,G,N,g,F,I⟩;(try dsimp only[SD.aZ])
 refine RK fun B hB=>?_;refine⟨_,rfl,i,rfl,by omega,fun j δ n=>VR fun(m:Addr) (L:Nat->Nat) (O R:Option D)=>VS (δ=[MA (.ref l),MA (.ref m),MA (.int (i:Int)),O,R]) (SD.Sub M n) (M m=MB) (n m=MA (.lst (Pg ws.length L))) (Lb ws L) (∀a b,a<i->b<a->R5 ws b a->L a=L b) (∀b,b<j->R5 ws b i->L i=L b),⟨m,L,_,_,rfl,G,N,g,F,I,fun b h=>absurd h (Nat.not_lt_zero _)⟩,?_,?_⟩;rotate_left
 ·rintro δ n ⟨m,L,O,R,rfl,G,N,g,F,I,dj⟩;refine hB _ _ ⟨m,L,_,_,_,rfl,G,N,g,F,fun a b ha W t=>?_⟩;by_cases e:a=i
  ·subst e;exact dj b W t
  ·exact I a b (by omega) W t
 clear hB g F I G N;clear L m;rintro j δ n hj ⟨m,L,O,R,rfl,G,N,g,F,I,dj⟩;(try dsimp only[SD.aZ])
 refine RK fun B hB=>?_;have jl:j<ws.length:=by omega
 have S:=G _ _ hl;have cs:=BS (wn ws i) (wn ws j);have ax:atI (ws.map uw) (j:Int)=MA (uw (wn ws j)):=bz (by rw[J4,ew jl];rfl);have ai:atI (ws.map uw) (i:Int)=MA (.tup [.tup [.int (wn ws i).1,.int (wn ws i).2.1],.tup [.int (wn ws i).2.2.1,.int (wn ws i).2.2.2]]):=bz (by rw[J4,ew hi];rfl);refine⟨_,rfl,_,rfl,_,_,S,ai,_,rfl,uh (Oe (wn ws i) (wn ws j)) (NS rfl) (fun _ _ _=>rfl) ?_ (fun lc a0=>?_)⟩
 ·intro a d Z ha hd b0;have ha:a<2:=ha;have T:∀(X Y:Int) (K:Bool->MH->Prop),K (Od (wn ws j) X Y) Z->K ([PyData.tuple [.int (wn ws j).1,.int (wn ws j).2.1],.tuple [.int (wn ws j).2.2.1,.int (wn ws j).2.2.2]].any fun q=>K1 q (.tuple [.int X,.int Y])) Z:=fun X Y K h=>by rw[AN];exact h
  rcases(show a=0\/a=1 by omega)with rfl|rfl
  ·cases hd;refine⟨_,rfl,fun K u=>?_,fun v C K u=>?_⟩
   ·rw[cs.1]at u;exact⟨_,rfl,_,rfl,_,rfl,_,_,b0 _ _ S,ax,_,_,Pd.of rfl,.inr (Pd.of rfl),rfl,rfl,_,rfl,T _ _ K u⟩
   ·have C:(if Od (wn ws j) (wn ws i).1 (wn ws i).2.1=MC then MA (D.tup [.int (wn ws i).1,.int (wn ws i).2.1])else MB)=MA v:=C;split at C
    ·cases C;exact⟨_,rfl,u _ .refl⟩
    ·cases C
  ·cases hd;refine⟨_,rfl,fun K u=>?_,fun v C K u=>?_⟩
   ·rw[cs.2]at u;exact⟨_,rfl,_,rfl,_,rfl,_,_,b0 _ _ S,ax,_,_,Pd.of rfl,.inr (Pd.of rfl),rfl,rfl,_,rfl,T _ _ K u⟩
   ·have C:(if Od (wn ws j) (wn ws i).2.2.1 (wn ws i).2.2.2=MC then MA (D.tup [.int (wn ws i).2.2.1,.int (wn ws i).2.2.2])else MB)=MA v:=C;split at C
    ·cases C;exact⟨_,rfl,u _ .refl⟩
    ·cases C
 have s2:SD.Sub n (aC n lc (.lst ((J6 2).filterMap (Oe (wn ws i) (wn ws j))))):=.new a0 .refl;have U:(aC n lc (.lst ((J6 2).filterMap (Oe (wn ws i) (wn ws j))))) lc=MA (.lst ((J6 2).filterMap (Oe (wn ws i) (wn ws j)))):=ag;generalize d0:aC n lc (.lst ((J6 2).filterMap (Oe (wn ws i) (wn ws j))))=Z at s2 U;have sh:=Fg (ws:=ws) (i:=j) (j:=i);clear d0 a0;refine⟨NS rfl,fun e he=>Gq (by rw[aA (aE U he)];exact U) ag ⟨_,rfl,?_⟩⟩;have s3:SD.Sub Z (aC Z e (.lst [])):=.new he .refl;generalize aC Z e (.lst [])=M3 at s3 ⊢;have c0:=SD.Sub.trans s2 s3;have r:=c0 _ _ g;have J:=SD.Sub.trans G c0;refine cD (fun y=>?_) (fun y=>?_);rotate_left
 ·refine hB _ _ ⟨m,L,_,_,rfl,J,N,r,F,I,fun b W t=>?_⟩;by_cases e:b=j
  ·subst e;exact absurd (sh.mpr t) y
  ·exact dj b (by omega) t
 have t:=sh.mp y;refine⟨_,rfl,_,rfl,_,_,r,bz (ky L jl),?_⟩;refine⟨_,rfl,_,r,comp_map (fun x=>.int ((Ng L i j x:Nat):Int)) (by show(Pg ws.length L).length<=1000000;rw[nX];omega) (fun q ys hq=>by show(aC _ q _) m=_;rw[aA (aE r hq)];exact r) ?_ (fun p hp=>?_)⟩
 ·intro x d M4 V hd e0;have V:x<ws.length:=by have:x<(Pg ws.length L).length:=V;rwa [nX]at this
  have hd:(Pg ws.length L)[x]?=MA d:=hd;rw[ky L V]at hd;cases hd;refine⟨_,rfl,fun K u=>?_⟩;refine⟨_,rfl,_,rfl,_,rfl,_,_,e0 _ _ r,bz (ky L hi),NS rfl,fun q hq=>?_⟩;refine⟨_,rfl,_,rfl,_,.int ((Ng L i j x:Nat):Int),ag,?_,u _ (.new hq .refl)⟩;unfold Ng;by_cases c:L x=L j
  ·rw[MF c,c,MI rfl];rfl
  ·rw[ME c,MG (fun z=>c (by omega))];rfl
 have fp:M p=MB:=by
  cases q:M p with
  |none=>rfl
  |some o=>rw[J _ _ q]at hp;cases hp
 have e1:(J6 (Pg ws.length L).length).map (fun x=>D.int ((Ng L i j x:Nat):Int))=Pg ws.length (Ng L i j):=by rw[nX];rfl
 refine hB _ _ ⟨p,Ng L i j,_,_,rfl,fun a o h=>?_,fp,by rw[ag,e1],F.mg hi jl t,fun a b ha W t=>B6 (I a b ha W t),fun b W tb=>?_⟩
 ·rw[aA (aE (J _ _ h) hp)];exact J _ _ h
 ·by_cases e:b=j
  ·subst e;exact F5 L i b
  ·exact B6 (dj b (by omega) tb)
theorem p6:NL ["_law_plot","_law_face"] ["_law_plot","_law_face"] (az lR):=by walk_at "sc"
inductive PD(u v:D)(M:MH)(Q:DK):Prop
 |mk (t b X Y:Int) (ws:List Wl) (f:Nat) (_:u=.tup (ws.map (NP t b X Y))) (_:v=.int (f:Int)) (_:f<2*ws.length) (_:ws.length<=1000) (_:Q (NP t b X Y (fw ws f)) M)
theorem l9(T:Tx K mg):Cal P w K mg base 1 "_law_ends" (OF PD):=by
 refine bP (k:=0) T.f_law_ends p6 fun f cdv A outer s H E l=>⟨_,(aw (aH (aB (bR (aa (aB (dv 0) (aD fE (dv 1) aj)) (aa (CW (aB (dv 0) (aD fE (dv 1) aj)) (nD gY aj)) af))) (aD gi (dv 1) aj)))),fun _ _ M Q h=>?_⟩;obtain⟨t,b,X,Y,ws,f,rfl,rfl,m,c,k⟩:=h;obtain⟨d,n,o⟩:=bo (ws:=ws) (k:=((f/2:Nat):Int)) (by omega) (by omega);have e:(f:Int).fdiv 2=((f/2:Nat):Int):=by rw[JY _ (by decide)];omega
 have g:(f:Int).fmod 2=((f%2:Nat):Int):=by rw[Int.fmod_eq_emod_of_nonneg _ (by decide)];omega
 have a:atI (ws.map (NP t b X Y)) ((f:Int).fdiv 2)=MA (NP t b X Y (NV ws ((f/2:Nat):Int))):=by rw[e];refine bz ?_;rw[Kn]at d;rw[J4,d];rfl
 refine⟨_,rfl,_,rfl,⟨by decide,cY (by decide)⟩,_,a,?_⟩;refine⟨_,rfl,_,rfl,⟨by decide,cY (by decide)⟩,_,a,?_⟩;refine⟨_,rfl,rfl,_,_,rfl,?_⟩;refine⟨NS rfl,fun p i=>?_⟩;refine⟨_,rfl,(show(2:Int)≠0 by decide),_,_,ag,?_,⟨M,.new i .refl,k⟩⟩;rw[g];refine bz ?_;unfold fw;by_cases h:f%2=0
 ·rw[h,MF rfl];rfl
 ·have j:f%2=1:=by omega
  rw[j,ME (by decide)];rfl
theorem dF:NL ["one","other"] ["one","other"] (az eD):=by walk_at "sc"
inductive Nk(x y:D)(M:MH)(Q:DK):Prop
 |mk (a b:Nat) (_:x=.int (a:Int)) (_:y=.int (b:Int)) (_:Q (.int ((Mb a b:Nat):Int)) M)
theorem d4(T:Tx K mg):Cal P w K mg base 1 "greatest_divisor" (OF Nk):=by
 refine bP (k:=0) T.f_greatest_divisor dF fun f cdv A outer s H E i=>⟨_,(ak (jb Js (aP (fI i.units) (dv 1) aj) (aw (fW 0 1 rfl dF.nd (aa (dv 1) (aa (aD gi (dv 0) (dv 1)) af))))) (aw (aH (dv 0)))),fun _ _ M Q h=>?_⟩;obtain⟨a,b,rfl,rfl,q⟩:=h;refine⟨fun m δ g=>g=M/\∃x y:Nat,δ=[MA (.int x),MA (.int y)]/\Mb x y=Mb a b/\m=y,⟨_,rfl,_,_,rfl,rfl,rfl⟩,?_⟩;rintro m δ g ⟨rfl,x,y,rfl,c,j⟩;refine⟨_,rfl,_,rfl,?_⟩;refine cD (fun h=>?_) (fun h=>?_)
 ·have d:(y:Int)≠0:=by simpa using h
  refine⟨_,rfl,_,rfl,_,rfl,d,_,_,rfl,?_⟩;have e:0<y:=by omega
  refine⟨x%y,by rw[j];exact Nat.mod_lt _ e,rfl,y,x%y,?_,?_,rfl⟩
  ·rw[<-Ma.uY];rfl
  ·rw[<-c,Nat.gcd_comm x y,Nat.gcd_rec y x,Nat.gcd_comm]
 ·have d:y=0:=by simpa using h
  subst d;rw[Nat.gcd_zero_right]at c;subst c;exact⟨_,rfl,N3 q⟩
theorem cB:NL ["parts","common","part"] ["parts"] (az gf):=by walk_at "sc"
inductive OJ(u:D)(M:MH)(Q:DK):Prop
 |mk (p:Addr) (qs:List Rat) (b:Nat) (_:u=.ref p) (_:M p=MA (.lst (qs.map NI))) (_:0<b) (_:b<=10^26) (_:(∀q∈qs,q.den ∣ b)) (_:∀c:Nat,0<c->c ∣ b->(∀q∈qs,q.den ∣ c)->Q (.int (c:Int)) M)
theorem fZ(T:Tx K mg):Cal P w K mg base 2 "common_bottom" (Pc OJ):=by
 refine fo (k:=1) T.f_common_bottom cB fun f cdv A outer s H E I=>⟨_,(ak (aG 1 cB.nd aj) (ak (bM Js rfl (aT (dv 0)) (aF 2 cB.nd) (aw (aG 1 cB.nd (aD aO (aD fE (dv 1) (ay (d4 T).m I (aa (dv 1) (aa (aB (dv 2) aj) af)))) (aB (dv 2) aj))))) (aw (aH (dv 1))))),fun _ M Q h=>?_⟩;obtain⟨p,qs,b,rfl,G,a,v,o,k⟩:=h;refine⟨_,rfl,qs.map NI,G,?_⟩;refine⟨fun i δ r=>r=M/\Qu fun(c:Nat) (x:Option D)=>VT (δ=[MA (.ref p),MA (.int (c:Int)),x]) (0<c) (c ∣ b) (∀q∈qs.take i,q.den ∣ c),⟨rfl,1,_,rfl,by decide,Nat.one_dvd _,fun q o=>by simp at o⟩,fun i δ r _ z=>by obtain⟨rfl,_⟩:=z;exact G,?_,?_⟩
 ·rintro i d δ r hi hd ⟨rfl,c,x,rfl,g,t,y⟩;have hd:(qs.map NI)[i]?=MA d:=hd;rw[J4]at hd;cases u:qs[i]? with
  |none=>rw[u]at hd;cases hd
  |some q=>
   rw[u]at hd
   cases hd
   have j:=J9 u
   have O:0<Mb c q.den:=Nat.gcd_pos_of_pos_left _ g
   have J:c<=b:=Nat.le_of_dvd a t
   have L:Mb c q.den<=c:=Nat.gcd_le_left _ g
   have B:∀{n:Nat},n<=10^26->Bd 100 (n:Int):=fun{n} h=>by show(n:Int).natAbs<2^100;omega
   have C:Bd 100 ((c:Int).fdiv ((Mb c q.den:Nat):Int)):=(B (n:=c) (by omega)).of_le (by rw[JY _ (by omega)];exact Int.natAbs_ediv_le_natAbs _ _)
   have N:(c:Int).fdiv ((Mb c q.den:Nat):Int)*(q.den:Int)=((Nat.lcm c q.den:Nat):Int):=by
    rw[JY _ (by omega),<-Int.natCast_ediv,<-Int.natCast_mul]
    congr 1
    rw[Nat.lcm,Nat.mul_comm c q.den,Nat.mul_div_assoc _ (Nat.gcd_dvd_left c q.den),Nat.mul_comm]
   refine⟨_,rfl,_,rfl,_,rfl,_,rfl,c,q.den,rfl,rfl,⟨by omega,(B (by omega)).mono (by decide)⟩,_,rfl,_,rfl,dz (C.mono (by decide)) ((B (Ke (Nat.le_of_dvd a (o q j)) v)).mono (by decide)),?_⟩
   dsimp only
   rw[N]
   refine⟨rfl,Nat.lcm c q.den,_,rfl,Nat.lcm_pos g q.den_pos,Nat.lcm_dvd t (o q j),fun F l=>?_⟩
   rw[KR,u]at l
   rcases Jo.mp l with z|z
   ·exact Nat.dvd_trans (y F z) (Nat.dvd_lcm_left c q.den)
   ·have:F=q:=by simpa using z
    subst this;exact Nat.dvd_lcm_right c F.den
 ·rintro δ r ⟨rfl,c,x,rfl,g,t,y⟩;exact⟨_,rfl,N3 (k c g t (by have e:qs.take (qs.map NI).length=qs:=Kr (by simp);rw[<-e];exact y))⟩
theorem qj:NL ["part","bottom"] ["part","bottom"] (az mD):=by walk_at "sc"
inductive Oq(u v:D)(M:MH)(Q:DK):Prop
 |mk (q:Rat) (B:Int) (_:u=NI q) (_:v=.int B) (_:MY 200 q) (_:0<B) (_:B<=10^26) (_:Q (.int (q.num*B.fdiv (q.den:Int))) M)
theorem fQ(T:Tx K mg):Cal P w K mg base 1 "top_over" (OF Oq):=by
 refine bP (k:=0) T.f_top_over qj fun f cdv A outer s H E c=>⟨_,(aw (aH (aD aO (aB (dv 0) aj) (aD fE (dv 1) (aB (dv 0) aj))))),fun _ _ M Q h=>?_⟩;obtain⟨q,B,rfl,rfl,a,d,e,k⟩:=h;have bB:Bd 100 B:=by show B.natAbs<2^100;omega
 have b:(B.fdiv (q.den:Int)).natAbs<=B.natAbs:=by rw[JY _ (by omega)];exact Int.natAbs_ediv_le_natAbs _ _
 exact⟨_,rfl,_,rfl,_,rfl,_,rfl,_,rfl,⟨NK q,a.2.mono (by decide)⟩,dz (a.1.mono (by decide)) ((bB.of_le b).mono (by decide)),N3 k⟩
theorem aS:NL ["plot","ring","ways","x_bottom","y_bottom","total","x","y","next_x","next_y"] ["plot","ring"] (az iY):=by walk_at "sc"
theorem m7{I:Qt}{js:List Nat}{o:O3}{te:TD}{δ:DS}{f:MH}{Q:DK}(a b g h:Nat->D)(s:I.n<=1000)(hC:∀p c,f p=MB->I.C (aC f p (.lst c)))(m:∀i d,i<I.n->I.item i=MA d->d=.tup [a i,b i]) (hw:∀i M R,i<I.n->R ⟨2,fun j=>[a i,b i][j]?,fun M=>Em M (.tup [a i,b i]) [a i,b i]⟩ M->o (cδ [MA (.tup [a i,b i]),MB] js δ) M R) (t:∀i M (K:DK),i<I.n->K (g i) M->te (cδ [MA (.tup [a i,b i]),MA (a i)] js δ) M K) (u:∀i M (K:DK),i<I.n->K (h i) M->te (cδ [MA (.tup [a i,b i]),MA (b i)] js δ) M K) (v:∀p,f p=MB->Q (.ref p) (aC f p (.lst ((J6 I.n).flatMap fun i=>[g i,h i])))):Hd I js o te δ f Q:=by
 refine⟨s,fun p q=>⟨fun i c M=>c=(J6 i).flatMap (fun i=>[g i,h i])/\M=aC f p (.lst c),⟨rfl,rfl⟩,?_,?_,?_⟩⟩
 ·rintro i c M _ ⟨_,rfl⟩;exact hC p c q
 ·rintro i c d M hi hd ⟨rfl,rfl⟩;obtain rfl:=m i d hi hd;refine hw i _ _ hi ⟨NS rfl,fun j k M=>k=(J6 i).flatMap (fun i=>[g i,h i])++[g i,h i].take j/\M=aC f p (.lst k),⟨by simp,rfl⟩,fun _ _ _ _ _=>rfl,?_,?_⟩
  ·rintro j k e M r l ⟨rfl,rfl⟩;have r:j<2:=r;have l:[a i,b i][j]?=MA e:=l;rcases(show j=0\/j=1 by omega)with rfl|rfl
   ·cases l;exact t i _ _ hi ⟨_,.refl,ag,by simp,by rw[bL]⟩
   ·cases l;exact u i _ _ hi ⟨_,.refl,ag,by simp,by rw[bL]⟩
  ·rintro k M ⟨rfl,rfl⟩;refine⟨?_,rfl⟩;rw[KW,List.flatMap_append];simp
 ·rintro c M ⟨rfl,rfl⟩;exact v p q
inductive OX(u v:D)(M:MH)(Q:DK):Prop
 |mk (t b X Y:Int) (ws:List Wl) (p:Addr) (r:List Nat) (_:u=.tup (ws.map (NP t b X Y))) (_:v=.ref p) (_:M p=MA (.lst (r.map fun g:Nat=>D.int (g:Int)))) (_:OE t b X Y) (_:(∀w∈ws,NO w)) (_:ws.length<=40) (_:r.length<=80) (_:(∀g∈r,g<2*ws.length)) (_:∀tot B:Int,0<B->B<=10^52->Bd 1000 tot->(tot:Rat)=(r.map (Qq t b X Y ws)).sum*(B:Rat)->Q (.tup [.int tot,.int B]) M)
theorem i8(T:Tx K mg):Cal P w K mg base 3 "twice_area" (OF OX):=by
 refine bP (k:=2) T.f_twice_area aS fun f cdv A outer s H E U=>⟨_,(ak (iH 2 aS.nd (NM.of (xs:=["face"]) (js:=[0]) rfl) rfl (aT (dv 1)) (fun _ _ _ _=>ff) (fun _ _ _ _=>(ay (cv T).m U (aa (dv 1) (aa (dv 0) af))))) (ak (aG 3 aS.nd (ay (fZ T).m U (aa (ze (NM.of (xs:=["way","corner"]) (js:=[]) rfl) rfl (aT (dv 2)) (fun _ _ _ _=>(aT (dv 0))) (fun _ _ _ _=>(aB (dv 1) aj))) af))) (ak (aG 4 aS.nd (ay (fZ T).m U (aa (ze (NM.of (xs:=["way","corner"]) (js:=[]) rfl) rfl (aT (dv 2)) (fun _ _ _ _=>(aT (dv 0))) (fun _ _ _ _=>(aB (dv 1) aj))) af))) (ak (aG 5 aS.nd aj) (ak (bM Js rfl (aT (dv 2)) (bX rfl (aI (bX rfl (aI (aF 6 aS.nd) (aI (aF 7 aS.nd) bD))) (aI (bX rfl (aI (aF 8 aS.nd) (aI (aF 9 aS.nd) bD))) bD))) (ak (yy 5 aS.nd EB (aD aO (ay (fQ T).m U (aa (dv 6) (aa (dv 3) af))) (ay (fQ T).m U (aa (dv 9) (aa (dv 4) af))))) (aw (yy 5 aS.nd Dp (aD aO (ay (fQ T).m U (aa (dv 8) (aa (dv 3) af))) (ay (fQ T).m U (aa (dv 7) (aa (dv 4) af)))))))) (aw (aH (aV (aa (dv 5) (aa (aD aO (dv 3) (dv 4)) af)))))))))),fun _ _ M Q h=>?_⟩;obtain⟨t,b,X,Y,ws,p,r,rfl,rfl,hp,S,hU,d1,f1,U,k⟩:=h;refine⟨_,rfl,_,hp,comp_map (fun j=>NP t b X Y (fw ws ((r[j]?).getD 0))) (by show(r.map fun g:Nat=>D.int (g:Int)).length<=1000000;simp;omega) (fun q ys hq=>by show(aC M q _) p=_;rw[aA (aE hp hq)];exact hp) ?_ (fun N w0=>?_)⟩
 ·intro j d M6 hj hd sb;have hd:(r.map fun g:Nat=>D.int (g:Int))[j]?=MA d:=hd;rw[J4]at hd;cases C:r[j]? with
  |none=>rw[C]at hd;cases hd
  |some g=>
   rw[C]at hd
   cases hd
   exact⟨_,rfl,fun K hK=>⟨_,rfl,_,rfl,t,b,X,Y,ws,g,rfl,rfl,U g (J9 C),by omega,hK _ .refl⟩⟩
 have e1:(J6 (r.map fun g:Nat=>D.int (g:Int)).length).map (fun j=>NP t b X Y (fw ws ((r[j]?).getD 0)))=r.map fun g=>NP t b X Y (fw ws g):=by
  rw[IZ];apply List.ext_getElem
  ·simp
  ·intro i h1 h2;simp at h1;simp[h1]
 dsimp only;rw[e1];have I:(aC M N (.lst (r.map fun g=>NP t b X Y (fw ws g)))) N=MA (.lst (r.map fun g=>NP t b X Y (fw ws g))):=ag;have l0:SD.Sub M (aC M N (.lst (r.map fun g=>NP t b X Y (fw ws g)))):=.new w0 .refl;generalize aC M N (.lst (r.map fun g=>NP t b X Y (fw ws g)))=M1 at I l0 ⊢;have d0:(r.map fun g=>NP t b X Y (fw ws g)).length=r.length:=by simp
 refine⟨_,rfl,_,I,m7 (fun i=>NH (MX t b X 1 (fa ws ((r[i]?).getD 0)).1) (MX t b Y 1 (fa ws ((r[i]?).getD 0)).2)) (fun i=>NH (MX t b X 1 (fb ws ((r[i]?).getD 0)).1) (MX t b Y 1 (fb ws ((r[i]?).getD 0)).2)) (fun i=>NI (MX t b X 1 (fa ws ((r[i]?).getD 0)).1)) (fun i=>NI (MX t b X 1 (fb ws ((r[i]?).getD 0)).1)) (by show(r.map fun g=>NP t b X Y (fw ws g)).length<=1000;omega) (fun q ys hq=>by show(aC M1 q _) N=_;rw[aA (aE I hq)];exact I) (fun i d hi hd=>?_) (fun i M R hi h=>⟨_,rfl,_,rfl,h⟩) (fun i M K hi h=>⟨_,rfl,_,rfl,h⟩) (fun i M K hi h=>⟨_,rfl,_,rfl,h⟩) (fun px m0=>?_)⟩
 ·have hd:(r.map fun g=>NP t b X Y (fw ws g))[i]?=MA d:=hd;rw[J4]at hd;cases C:r[i]? with
  |none=>rw[C]at hd;cases hd
  |some g=>
   rw[C]at hd
   cases hd
   rfl
 obtain⟨l,rfl⟩:∃l:Nat,b=(l:Int):=⟨b.toNat,by have:=S.b0;omega⟩;have V:0<l:=by have:=S.b0;omega
 have dv:∀(Z x:Int),(MX t (l:Int) Z 1 x).den ∣ l:=fun Z x=>by
  have h:=Bt (n:=x*t+Z*1) (d:=(l:Int)*1) (by omega)
  rw[Int.mul_one (l:Int)]at h
  unfold MX
  rw[Int.mul_one (l:Int)]
  exact Int.ofNat_dvd.mp h
 have eX:∀(Z:Int) (F:Vc->Int) (n:Nat),((J6 n).flatMap fun i=>[NI (MX t (l:Int) Z 1 (F (fa ws ((r[i]?).getD 0)))),NI (MX t (l:Int) Z 1 (F (fb ws ((r[i]?).getD 0))))])=((J6 n).flatMap fun i=>[MX t (l:Int) Z 1 (F (fa ws ((r[i]?).getD 0))),MX t (l:Int) Z 1 (F (fb ws ((r[i]?).getD 0)))]).map NI:=fun Z F n=>by rw[List.map_flatMap];rfl
 have a0:∀(Z:Int) (F:Vc->Int) (n:Nat) (q:Rat),q∈((J6 n).flatMap fun i=>[MX t (l:Int) Z 1 (F (fa ws ((r[i]?).getD 0))),MX t (l:Int) Z 1 (F (fb ws ((r[i]?).getD 0)))])->q.den ∣ l:=fun Z F n q hq=>by
  obtain⟨i,_,hi⟩:=List.mem_flatMap.mp hq;rcases Jv.mp hi with z|z
  ·rw[z];exact dv _ _
  ·rw[show q=_ from by simpa using z];exact dv _ _
 have c0:∀(Z:Int) (F:Vc->Int) (c:Nat),(∀q∈((J6 r.length).flatMap fun i=>[MX t (l:Int) Z 1 (F (fa ws ((r[i]?).getD 0))),MX t (l:Int) Z 1 (F (fb ws ((r[i]?).getD 0)))]),q.den ∣ c)->∀(i g:Nat),r[i]?=MA g->(MX t (l:Int) Z 1 (F (fa ws g))).den ∣ c/\(MX t (l:Int) Z 1 (F (fb ws g))).den ∣ c:=fun Z F c h i g C=>by
  have hi:i<r.length:=(Ja.mp C).1
  refine⟨h _ (List.mem_flatMap.mpr ⟨i,Jq.mpr hi,?_⟩),h _ (List.mem_flatMap.mpr ⟨i,Jq.mpr hi,?_⟩)⟩
  ·rw[C];simp
  ·rw[C];simp
 have n0:l<=10^26:=by have:=S.b1;omega
 refine⟨px,_,l,rfl,(by rw[ag];dsimp only;rw[d0];exact congrArg (fun z=>MA (MO.lst z)) (eX X (fun v=>v.1) r.length)),V,n0,a0 X (fun v=>v.1) _,fun J g1 x0 y0=>?_⟩;have O:∀{o},(aC M1 px o) N=MA (.lst (r.map fun g=>NP t (l:Int) X Y (fw ws g))):=fun{o}=>by rw[aA (aE I m0)];exact I
 have z0:∀{o},SD.Sub M (aC M1 px o):=fun{o}=>.new m0 l0;refine⟨_,rfl,_,O,m7 (fun i=>NH (MX t (l:Int) X 1 (fa ws ((r[i]?).getD 0)).1) (MX t (l:Int) Y 1 (fa ws ((r[i]?).getD 0)).2)) (fun i=>NH (MX t (l:Int) X 1 (fb ws ((r[i]?).getD 0)).1) (MX t (l:Int) Y 1 (fb ws ((r[i]?).getD 0)).2)) (fun i=>NI (MX t (l:Int) Y 1 (fa ws ((r[i]?).getD 0)).2)) (fun i=>NI (MX t (l:Int) Y 1 (fb ws ((r[i]?).getD 0)).2)) (by show(r.map fun g=>NP t (l:Int) X Y (fw ws g)).length<=1000;omega) (fun q ys hq=>by show(aC _ q _) N=_;rw[aA (aE O hq)];exact O) (fun i d hi hd=>?_) (fun i M R hi h=>⟨_,rfl,_,rfl,h⟩) (fun i M K hi h=>⟨_,rfl,_,rfl,h⟩) (fun i M K hi h=>⟨_,rfl,_,rfl,h⟩) (fun py o0=>?_)⟩
 ·have hd:(r.map fun g=>NP t (l:Int) X Y (fw ws g))[i]?=MA d:=hd;rw[J4]at hd;cases C:r[i]? with
  |none=>rw[C]at hd;cases hd
  |some g=>
   rw[C]at hd
   cases hd
   rfl
 refine⟨py,_,l,rfl,(by rw[ag];dsimp only;rw[d0];exact congrArg (fun z=>MA (MO.lst z)) (eX Y (fun v=>v.2) r.length)),V,n0,a0 Y (fun v=>v.2) _,fun L i1 a1 c1=>?_⟩;have ux:=c0 X (fun v=>v.1) J y0;have uy:=c0 Y (fun v=>v.2) L c1;have r0:∀{o o'},py≠N->(aC (aC M1 px o) py o') N=MA (.lst (r.map fun g=>NP t (l:Int) X Y (fw ws g))):=fun ne=>by rw[aA ne.symm];exact O
 have s0:py≠N:=(aE O o0).symm;refine⟨_,rfl,_,r0 s0,?_⟩;have e0:=SD.Sub.new (o:=MO.lst ((J6 (r.map fun g=>NP t (l:Int) X Y (fw ws g)).length).flatMap fun i=>[NI (MX t (l:Int) Y 1 (fa ws ((r[i]?).getD 0)).2),NI (MX t (l:Int) Y 1 (fb ws ((r[i]?).getD 0)).2)])) o0 z0;dsimp only at e0 ⊢;have t0:=r0 (o:=MO.lst ((J6 (r.map fun g=>NP t (l:Int) X Y (fw ws g)).length).flatMap fun i=>[NI (MX t (l:Int) X 1 (fa ws ((r[i]?).getD 0)).1),NI (MX t (l:Int) X 1 (fb ws ((r[i]?).getD 0)).1)])) (o':=MO.lst ((J6 (r.map fun g=>NP t (l:Int) X Y (fw ws g)).length).flatMap fun i=>[NI (MX t (l:Int) Y 1 (fa ws ((r[i]?).getD 0)).2),NI (MX t (l:Int) Y 1 (fb ws ((r[i]?).getD 0)).2)])) s0;generalize aC (aC M1 px (MO.lst ((J6 (r.map fun g=>NP t (l:Int) X Y (fw ws g)).length).flatMap fun i=>[NI (MX t (l:Int) X 1 (fa ws ((r[i]?).getD 0)).1),NI (MX t (l:Int) X 1 (fb ws ((r[i]?).getD 0)).1)]))) py (MO.lst ((J6 (r.map fun g=>NP t (l:Int) X Y (fw ws g)).length).flatMap fun i=>[NI (MX t (l:Int) Y 1 (fa ws ((r[i]?).getD 0)).2),NI (MX t (l:Int) Y 1 (fb ws ((r[i]?).getD 0)).2)]))=M3 at e0 t0 ⊢;have y:(0:Int)<(J:Int)/\(J:Int)<=10^26:=by have:=Nat.le_of_dvd V x0;omega
 have u:(0:Int)<(L:Int)/\(L:Int)<=10^26:=by have:=Nat.le_of_dvd V a1;omega
 refine⟨fun i δ M'=>M'=M3/\VQ fun(G:Int) (o6 o7 o8 o9:Option D)=>δ=[MA (.tup (ws.map (NP t (l:Int) X Y))),MA (.ref p),MA (.ref N),MA (.int (J:Int)),MA (.int (L:Int)),MA (.int G),o6,o7,o8,o9]/\(G:Rat)=((r.take i).map (Qq t (l:Int) X Y ws)).sum*(((J:Int)*(L:Int):Int):Rat)/\Bd (600+2*i) G,⟨rfl,0,_,_,_,_,rfl,(by simp),(by show(0:Int).natAbs<2^(600+2*0);decide)⟩,fun i δ M' _ z=>by obtain⟨rfl,_⟩:=z;exact t0,?_,?_⟩
 ·rintro i d δ M' hi hd ⟨rfl,G,o6,o7,o8,o9,rfl,et,bt⟩;have hd:(r.map fun g=>NP t (l:Int) X Y (fw ws g))[i]?=MA d:=hd;rw[J4]at hd;cases C:r[i]? with
  |none=>rw[C]at hd;cases hd
  |some g=>
   rw[C]at hd
   cases hd
   have hg:=U g (J9 C)
   obtain⟨_,_,w3⟩:=bo (ws:=ws) (k:=((g/2:Nat):Int)) (by omega) (by omega)
   have W:=hU _ w3
   have W6:∀{z:Int},(0<=z/\z<=20)->(-(10^6)<=z/\z<=10^6):=fun{z} h=>by omega
   have one:(0:Int)<1/\(1:Int)<=10^6:=by decide
   have rg:((0<=(fa ws g).1/\(fa ws g).1<=20)/\(0<=(fa ws g).2/\(fa ws g).2<=20))/\((0<=(fb ws g).1/\(fb ws g).1<=20)/\(0<=(fb ws g).2/\(fb ws g).2<=20)):=by
    unfold fa fb fw;by_cases h:g%2=0
    ·rw[MF h];exact⟨⟨W.a,W.b⟩,W.c,W.d⟩
    ·rw[ME h];exact⟨⟨W.c,W.d⟩,W.a,W.b⟩
   have f0:MY 200 (MX t (l:Int) X 1 (fa ws g).1):=S.bx one (W6 rg.1.1)
   have g0:MY 200 (MX t (l:Int) Y 1 (fa ws g).2):=S.by' one (W6 rg.1.2)
   have i0:MY 200 (MX t (l:Int) X 1 (fb ws g).1):=S.bx one (W6 rg.2.1)
   have k0:MY 200 (MX t (l:Int) Y 1 (fb ws g).2):=S.by' one (W6 rg.2.2)
   have tb:∀{q:Rat} {B:Int},MY 200 q->0<B->B<=10^26->Bd 300 (q.num*B.fdiv (q.den:Int)):=fun{q B} h h0 h1=>by
    have bB:Bd 100 B:=by show B.natAbs<2^100;omega
    have dB:(B.fdiv (q.den:Int)).natAbs<=B.natAbs:=by rw[JY _ (by omega)];exact Int.natAbs_ediv_le_natAbs _ _
    exact h.1.mul (bB.of_le dB)
   have m6:∀{z:Int},Bd 300 z->Bd 1000000 z:=fun h=>h.mono (by decide)
   refine⟨_,rfl,rfl,_,_,rfl,_,rfl,rfl,_,_,rfl,_,_,rfl,rfl,_,_,rfl,_,rfl,rfl,_,_,rfl,_,_,rfl,rfl,rfl,?_⟩
   (try dsimp only[SD.aZ])
   refine RK fun B hB=>?_
   refine⟨G,rfl,_,rfl,_,rfl,MX t (l:Int) X 1 (fa ws g).1,(J:Int),rfl,rfl,f0,y.1,y.2,_,rfl,_,rfl,MX t (l:Int) Y 1 (fb ws g).2,(L:Int),rfl,rfl,k0,u.1,u.2,dz (m6 (tb f0 y.1 y.2)) (m6 (tb k0 u.1 u.2)),_,rfl,?_⟩
   refine⟨_,rfl,_,rfl,_,rfl,MX t (l:Int) X 1 (fb ws g).1,(J:Int),rfl,rfl,i0,y.1,y.2,_,rfl,_,rfl,MX t (l:Int) Y 1 (fa ws g).2,(L:Int),rfl,rfl,g0,u.1,u.2,dz (m6 (tb i0 y.1 y.2)) (m6 (tb g0 u.1 u.2)),_,rfl,?_⟩
   refine hB _ _ ⟨rfl,_,_,_,_,_,rfl,?_,?_⟩
   ·rw[KR,C,LY,Jk,List.sum_append];have ex:=ux i g C;have ey:=uy i g C;have t1:=uj (MX t (l:Int) X 1 (fa ws g).1) (J:Int) (Int.ofNat_dvd.mpr ex.1);have t2:=uj (MX t (l:Int) Y 1 (fb ws g).2) (L:Int) (Int.ofNat_dvd.mpr ey.2);have t3:=uj (MX t (l:Int) X 1 (fb ws g).1) (J:Int) (Int.ofNat_dvd.mpr ex.2);have t4:=uj (MX t (l:Int) Y 1 (fa ws g).2) (L:Int) (Int.ofNat_dvd.mpr ey.1);dsimp only;rw[Lz,Ld,et,JR,JR,t1,t2,JR,t3,t4];simp only[J5,KA,K7,List.sum_nil];unfold Qq;grind
   ·have p1:=((tb f0 y.1 y.2).mul (tb k0 u.1 u.2)).mono (show 300+300<=600+2*i by omega);have p2:=((tb i0 y.1 y.2).mul (tb g0 u.1 u.2)).mono (show 300+300<=600+2*i+1 by omega);exact((bt.add p1).sub p2).mono (by omega)
 ·rintro δ M' ⟨rfl,G,o6,o7,o8,o9,rfl,et,bt⟩;have e:r.take (r.map fun g=>NP t (l:Int) X Y (fw ws g)).length=r:=Kr (by simp);rw[e]at et;have u0:Bd 100 (J:Int):=by show(J:Int).natAbs<2^100;omega
  have v0:Bd 100 (L:Int):=by show(L:Int).natAbs<2^100;omega
  have pp:=JE y.1 u.1
  have pl:(J:Int)*(L:Int)<=10^52:=by
   have h1:=Int.mul_le_mul y.2 u.2 (Kg u.1) (show(0:Int)<=10^26 by decide)
   exact Int.le_trans h1 (by decide)
  exact⟨_,rfl,_,rfl,_,rfl,dz (u0.mono (by decide)) (v0.mono (by decide)),NS rfl,⟨M,e0,k G _ pp pl (bt.mono (by rw[d0];first|omega|(dsimp only;omega)|(simp only[IZ]at *;omega))) et⟩⟩
theorem gC:NL ["top","bottom","divisor"] ["top","bottom"] (az lE):=by walk_at "sc"
inductive PN(x y:D)(M:MH)(Q:DK):Prop
 |mk (t:_) (b:_) (_:x=.int t) (_:y=.int b) (_:b≠0) (_:Bd 8000 t) (_:Bd 8000 b) (_:Q (NI (Rat.divInt t b)) M)
theorem iA(T:Tx K mg):Cal P w K mg base 2 "fraction" (OF PN):=by
 refine bP (k:=1) T.f_fraction gC fun f cdv A outer s H E e=>⟨_,(ak (bJ (aP (ez e.units) (dv 1) aj) (aw xg) aU) (ak (aG 2 gC.nd (ay (d4 T).m e (aa (aN oR rfl T.b_abs oV (aa (dv 0) af)) (aa (aN oR rfl T.b_abs oV (aa (dv 1) af)) af)))) (ak (bJ (aP (gx e.units) (dv 1) aj) (aw (aG 2 gC.nd (nD gY (dv 2)))) aU) (aw (aH (aV (aa (aD fE (dv 0) (dv 2)) (aa (aD fE (dv 1) (dv 2)) af)))))))),fun _ _ M Q h=>?_⟩;obtain⟨t,b,rfl,rfl,i,j,g,q⟩:=h;have l:=Ma.fu (t:=t) i;have a:Bd 8000 ((Mb t.natAbs b.natAbs:Nat):Int):=g.of_le (by simpa using Nat.gcd_le_right t.natAbs (show 0<b.natAbs by omega));refine⟨_,rfl,_,rfl,j9 (MG i) ?_⟩;refine⟨_,rfl,_,rfl,t.natAbs,b.natAbs,rfl,rfl,?_⟩;refine⟨_,rfl,trivial,_,rfl,?_⟩;refine cD (fun h=>?_) (fun h=>?_)
 ·have c:b<0:=by simpa using h
  obtain⟨e1,e2⟩:=Ma.vq (t:=t) c;refine⟨_,rfl,_,rfl,_,rfl,⟨by omega,a.neg⟩,_,rfl,_,rfl,⟨by omega,a.neg⟩,NS rfl,?_⟩;dsimp only;rw[e1,e2];exact N3 q
 ·have d:0<b:=by
   have:¬b<0:=by simpa using h
   omega
  obtain⟨e1,e2⟩:=Ma.uZ (t:=t) d;refine⟨_,rfl,_,rfl,⟨by omega,a⟩,_,rfl,_,rfl,⟨by omega,a⟩,NS rfl,?_⟩;dsimp only;rw[e1,e2];exact N3 q
theorem fK:NL ["plot","ring","top","bottom"] ["plot","ring"] (az jS):=by walk_at "sc"
inductive O9(u v:D)(M:MH)(Q:DK):Prop
 |mk (t b X Y:Int) (ws:List Wl) (p:Addr) (r:List Nat) (_:u=.tup (ws.map (NP t b X Y))) (_:v=.ref p) (_:M p=MA (.lst (r.map fun g:Nat=>D.int (g:Int)))) (_:OE t b X Y) (_:(∀w∈ws,NO w)) (_:ws.length<=40) (_:r.length<=80) (_:(∀g∈r,g<2*ws.length)) (_:Q (NI ((r.map (Qq t b X Y ws)).sum/2)) M)
theorem qo(T:Tx K mg):Cal P w K mg base 4 "ring_area" (OF O9):=by
 refine bP (k:=3) T.f_ring_area fK fun f cdv A outer s H E d=>⟨_,(ak (cR (ay (i8 T).m d (aa (dv 0) (aa (dv 1) af))) (bX rfl (aI (aF 2 fK.nd) (aI (aF 3 fK.nd) bD)))) (aw (aH (ay (iA T).m d (aa (dv 2) (aa (aD aO aj (dv 3)) af)))))),fun _ _ M Q h=>?_⟩;obtain⟨t,b,X,Y,ws,p,r,rfl,rfl,i,S,j,a,g,d,k⟩:=h;refine⟨_,rfl,_,rfl,t,b,X,Y,ws,p,r,rfl,rfl,i,S,j,a,g,d,fun c B v l n o=>?_⟩;refine⟨_,rfl,rfl,_,_,rfl,_,_,rfl,rfl,?_⟩
 have e:Rat.divInt c (2*B)=(r.map (Qq t b X Y ws)).sum/2:=by
  have q:(B:Rat)≠0:=fun z=>by
   have:B=0:=by exact_mod_cast z
   omega
  rw[Mk,o,JR]
  have u:(((2:Int):Rat))=2:=rfl
  rw[u]
  grind
 rw[<-e]at k;exact⟨_,rfl,_,rfl,bE (cY (by decide)),c,2*B,rfl,rfl,by omega,n.mono (by decide),(show Bd 8000 (2*B)from(show Bd 200 (2*B) by show(2*B).natAbs<2^200;omega).mono (by decide)),N3 k⟩
theorem gD:NL ["spot","x","y"] ["spot"] (az lK):=by walk_at "sc"
inductive Ov(x:D)(M:MH)(Q:DK):Prop
 |mk (a b:Rat) (_:x=NH a b) (_:MY 8000 a) (_:MY 8000 b) (_:Q (NH a b) M)
theorem iD(T:Tx K mg):Cal P w K mg base 3 "own_spot" (Pc Ov):=by refine fo (k:=2) T.f_own_spot gD fun f cdv A outer s H E c=>⟨_,(ak (cR (dv 0) (bX rfl (aI (aF 1 gD.nd) (aI (aF 2 gD.nd) bD)))) (aw (aH (aV (aa (ay (iA T).m c (aa (aB (dv 1) aj) (aa (aB (dv 1) aj) af))) (aa (ay (iA T).m c (aa (aB (dv 2) aj) (aa (aB (dv 2) aj) af))) af)))))),fun _ M Q h=>?_⟩;obtain⟨a,b,rfl,d,e,k⟩:=h;refine⟨_,rfl,_,rfl,rfl,_,_,rfl,_,_,rfl,rfl,?_⟩;refine⟨_,rfl,_,rfl,_,rfl,_,rfl,a.num,(a.den:Int),rfl,rfl,NK a,d.1,d.2,?_⟩;refine⟨_,rfl,_,rfl,_,rfl,_,rfl,b.num,(b.den:Int),rfl,rfl,NK b,e.1,e.2,NS rfl,?_⟩;rw[Lh,Lh];exact N3 k
theorem tV:NL ["one","other"] ["one","other"] (az ny):=by walk_at "sc"
inductive P9(x y:D)(M:MH)(Q:DK):Prop
 |mk (q r:Rat) (_:x=NI q) (_:y=NI r) (_:MY 100000 q) (_:MY 100000 r) (_:Q (.bl (decide (q<r))) M)
theorem m9(T:Tx K mg):Cal P w K mg base 1 "is_less" (OF P9):=by refine bP (k:=0) T.f_is_less tV fun f cdv A outer s H E c=>⟨_,(aw (aH (dD (gx c.units) (aD aO (aB (dv 0) aj) (aB (dv 1) aj)) (aD aO (aB (dv 1) aj) (aB (dv 0) aj))))),fun _ _ M Q h=>?_⟩;obtain⟨q,r,rfl,rfl,a,b,k⟩:=h;refine⟨_,rfl,_,rfl,_,rfl,_,rfl,dz (a.1.mono (by decide)) (b.2.mono (by decide)),?_⟩;refine⟨_,rfl,_,rfl,_,rfl,_,rfl,dz (b.1.mono (by decide)) (a.2.mono (by decide)),trivial,?_⟩;dsimp only;rw[Ma.Cf];exact N3 k
theorem p8:NL ["one","other"] ["one","other"] (az lM):=by walk_at "sc"
inductive PK(x y:D)(M:MH)(Q:DK):Prop
 |mk (a b c d:Rat) (_:x=NH a b) (_:y=NH c d) (_:MY 100000 a) (_:MY 100000 b) (_:MY 100000 c) (_:MY 100000 d) (_:Q (.bl (decide (a<c\/a=c/\b<d))) M)
theorem df(T:Tx K mg):Cal P w K mg base 2 "is_ahead" (OF PK):=by
 refine bP (k:=1) T.f_is_ahead p8 fun f cdv A outer s H E g=>⟨_,(ak (bJ (aP (ez g.units) (aB (dv 0) aj) (aB (dv 1) aj)) (aw (aH (ay (m9 T).m g (aa (aB (dv 0) aj) (aa (aB (dv 1) aj) af))))) aU) (aw (aH (ay (m9 T).m g (aa (aB (dv 0) aj) (aa (aB (dv 1) aj) af)))))),fun _ _ M Q h=>?_⟩;obtain⟨a,b,c,d,rfl,rfl,i,j,l,n,k⟩:=h;refine⟨_,rfl,_,rfl,_,rfl,_,rfl,_,_,Pd.of rfl,Pd.of rfl,rfl,rfl,?_⟩;rw[Ma.tE];refine⟨_,rfl,?_⟩;refine cD (fun h=>?_) (fun h=>?_)
 ·have e:a=c:=by simpa using h
  subst e;refine⟨_,rfl,_,rfl,_,rfl,_,rfl,b,d,rfl,rfl,j,n,?_⟩
  have z:(a<a\/a=a/\b<d)↔b<d:=by
   have:=Rat.lt_irrefl (a:=a)
   simp[this]
  rw[decide_eq_decide.mpr z]at k;exact N3 k
 ·have e:¬a=c:=by simpa using h
  refine⟨_,rfl,_,rfl,_,rfl,_,rfl,a,c,rfl,rfl,i,l,?_⟩;have z:(a<c\/a=c/\b<d)↔a<c:=by simp[e]
  rw[decide_eq_decide.mpr z]at k;exact N3 k
theorem cx:NL ["row","spot","low","high","middle"] ["row","spot"] (az ic):=by walk_at "sc"
inductive OQ(x y:D)(M:MH)(Q:DK):Prop
 |mk (l:Addr) (t b X Y:Int) (ps:List Vc) (u:Vc) (_:x=.ref l) (_:y=OG t b X Y u) (_:M l=MA (.lst (ps.map (OG t b X Y)))) (_:OE t b X Y) (_:ps.length<=200) (_:(∀p∈ps,Nt p)) (_:Nt u) (_:ps.Pairwise OL) (_:∀j:Nat,j<=ps.length->(∀i,i<j->OL (p0 ps i) u)->(∀i,j<=i->i<ps.length->¬OL (p0 ps i) u)->Q (.int (j:Int)) M)
theorem mU(T:Tx K mg):Cal P w K mg base 3 "place_among" (OF OQ):=by
 refine bP (k:=2) T.f_place_among cx fun f cdv A outer s H E p=>⟨_,(ak (fW 2 3 rfl cx.nd (aa aj (aa (aN cW rfl T.b_len cT (aa (dv 0) af)) af))) (ak (jb Js (aP (gx p.units) (dv 2) (dv 3)) (ak (aG 4 cx.nd (aD fE (aD bF (dv 2) (dv 3)) aj)) (aw (bJ (fY (ay (df T).m p (aa (aB (dv 0) (dv 4)) (aa (dv 1) af)))) (aw (aG 2 cx.nd (aD bF (dv 4) aj))) (aw (aG 3 cx.nd (dv 4))))))) (aw (aH (dv 2))))),fun _ _ M Q h=>?_⟩;obtain⟨l,t,b,X,Y,ps,u,rfl,rfl,r,S,J,y,j,up,k⟩:=h;have B:(ps.map (OG t b X Y)).length=ps.length:=by simp
 refine⟨_,rfl,_,r,_,_,rfl,?_⟩;refine⟨fun m δ v=>v=M/\Ro fun(lo hi:Nat) (x:Option D)=>XF (δ=[MA (.ref l),MA (OG t b X Y u),MA (.int (lo:Int)),MA (.int (hi:Int)),x]) (lo<=hi) (hi<=ps.length) (∀i,i<lo->OL (p0 ps i) u) (∀i,hi<=i->i<ps.length->¬OL (p0 ps i) u) (m=hi-lo),⟨_,rfl,0,ps.length,_,by rw[B];rfl,Kb _,J1 _,fun i hi=>by omega,fun i C n=>by omega,rfl⟩,?_⟩;rintro m δ v ⟨rfl,lo,hi,x,rfl,C,n,a,c,L⟩;refine⟨_,rfl,_,rfl,trivial,_,rfl,?_⟩;refine cD (fun h=>?_) (fun h=>?_)
 ·have F:lo<hi:=by
   have:(lo:Int)<(hi:Int):=by simpa using h
   omega
  have g:Int.fdiv ((lo:Int)+(hi:Int)) 2=(((lo+hi)/2:Nat):Int):=by rw[JY _ (by decide)];omega
  have d:(lo+hi)/2<ps.length:=by omega
  refine⟨_,rfl,_,rfl,⟨by decide,cY (by decide)⟩,?_⟩;dsimp only;rw[g];generalize N:(lo+hi)/2=q at d ⊢;have G:ps[q]?=MA (p0 ps q):=by unfold p0;simp[d]
  have o:=y _ (rN d);refine⟨_,rfl,_,rfl,_,_,r,bz (by rw[J4,G];rfl),_,rfl,_,_,_,_,rfl,rfl,(o.bx S).mono (by decide),(o.by' S).mono (by decide),(j.bx S).mono (by decide),(j.by' S).mono (by decide),_,rfl,?_⟩;have ah:=zW (X:=X) (Y:=Y) S.t0 S.b0 o j;refine cD (fun h=>?_) (fun h=>?_)
  ·have z:OL (p0 ps q) u:=ah.mp (by simpa[MZ]using h);refine⟨_,rfl,hi-(q+1),by omega,rfl,q+1,hi,_,rfl,by omega,n,fun i I=>?_,c,rfl⟩;by_cases e:i=q
   ·subst e;exact z
   ·have:=Kq.mp up i q (by omega) d (by omega);have e1:p0 ps i=ps[i]:=by unfold p0;simp[show i<ps.length by omega]
    have e2:p0 ps q=ps[q]:=by unfold p0;simp[d]
    rw[e2]at z;rw[e1];unfold OL at z this ⊢;omega
  ·have z:¬OL (p0 ps q) u:=fun w=>by
    have:=ah.mpr w
    simp[MZ]at h this
    exact absurd this (by simpa using h)
   refine⟨_,rfl,q-lo,by omega,rfl,lo,q,_,rfl,by omega,by omega,a,fun i O R=>?_,rfl⟩;by_cases e:i=q
   ·subst e;exact z
   ·have:=Kq.mp up q i d (by omega) (by omega);have e1:p0 ps i=ps[i]:=by unfold p0;simp[show i<ps.length by omega]
    have e2:p0 ps q=ps[q]:=by unfold p0;simp[d]
    rw[e2]at z;rw[e1];unfold OL at z this ⊢;omega
 ·have:lo=hi:=by
   have:¬(lo:Int)<(hi:Int):=by simpa using h
   omega
  subst this;(repeat (first|refine⟨_,rfl,?_⟩|refine⟨trivial,?_⟩|refine⟨_,_,rfl,?_⟩|refine⟨rfl,?_⟩|refine⟨NS rfl,?_⟩))
  exact N3 (k lo n a c)
theorem d9:NL ["spots","row","spot"] ["spots"] (az ik):=by walk_at "sc"
inductive OT(x:D)(M:MH)(Q:DK):Prop
 |mk (l:Addr) (t b X Y:Int) (us:List Vc) (_:x=.ref l) (_:M l=MA (.lst (us.map (OG t b X Y)))) (_:OE t b X Y) (_:us.length<=200) (_:(∀p∈us,Nt p)) (_:us.Nodup) (_:∀(M':MH) (z:Addr) (ps:List Vc),SD.Sub M M'->M z=MB->M' z=MA (.lst (ps.map (OG t b X Y)))->ps.Perm us->ps.Pairwise OL->Q (.ref z) M')
theorem ia(T:Tx K mg):Cal P w K mg base 4 "ahead_first" (Pc OT):=by
 refine fo (k:=3) T.f_ahead_first d9 fun f cdv A outer s H E W=>⟨_,(ak (aG 1 d9.nd (bR af)) (ak (bM Js rfl (aT (dv 0)) (aF 2 d9.nd) (aw (dM (qI (dv 1) (aa (ay (mU T).m W (aa (dv 1) (aa (dv 2) af))) (aa (dv 2) af)))))) (aw (aH (dv 1))))),fun _ M Q h=>?_⟩;obtain⟨l,t,b,X,Y,us,rfl,G,S,hn,U,nd,k⟩:=h;refine⟨NS rfl,fun z C=>?_⟩;have I:l≠z:=aE G C;refine⟨_,rfl,us.map (OG t b X Y),(by show(aC M z _) l=_;rw[aA I];exact G),?_⟩;refine⟨fun i δ n=>Qu fun(ps:List Vc) (J:Option D)=>XG (δ=[MA (.ref l),MA (.ref z),J]) (SD.Sub M n) (n z=MA (.lst (ps.map (OG t b X Y)))) (ps.Perm (us.take i)) (ps.Pairwise OL),⟨[],_,rfl,.new C .refl,ag,by simp,List.Pairwise.nil⟩,fun i δ n _ q=>by obtain⟨_,_,_,x,_⟩:=q;exact x _ _ G,?_,?_⟩
 ·rintro i d δ n hi hd ⟨ps,J,rfl,x,g,r,up⟩;have hd:(us.map (OG t b X Y))[i]?=MA d:=hd;rw[J4]at hd;cases v:us[i]? with
  |none=>rw[v]at hd;cases hd
  |some u=>
   rw[v]at hd
   cases hd
   have Z:i<us.length:=(Ja.mp v).1
   have L:us[i]=u:=(Ja.mp v).2
   have bu:=U u (J9 v)
   have N:∀p∈ps,p∈us:=fun p y=>List.mem_of_mem_take (r.mem_iff.mp y)
   have B:∀p∈ps,Nt p:=fun p y=>U p (N p y)
   have a0:ps.length=i:=by rw[r.length_eq,KJ];omega
   have nu:u∉ps:=fun y=>by
    have:=r.mem_iff.mp y
    obtain⟨j,F,V⟩:=LC this
    have O:j<i:=by rw[KJ]at F;omega
    rw[List.getElem_take]at V
    have:=Kq.mp nd j i (by omega) Z O
    exact this (V.trans L.symm)
   refine⟨_,rfl,z,_,rfl,g,_,rfl,_,rfl,z,t,b,X,Y,ps,u,rfl,rfl,g,S,by omega,B,bu,up,fun j F a c=>?_⟩
   obtain⟨i1,i2⟩:=Ej up F a fun i h1 R=>AU (B _ (rN R)) bu (fun e=>nu (e▸rN R)) (c i h1 R)
   refine⟨_,rfl,_,_,j,rfl,g,by rw[IZ];exact F,by rw[IZ];omega,cG ps j u,_,rfl,fun a o h=>?_,by rw[ag,zL],?_,i1⟩
   ·rw[aA (aE h C)];exact x _ _ h
   ·rw[KR,v];exact i2.trans ((List.Perm.cons u r).trans (List.perm_append_singleton u (us.take i)).symm)
 ·rintro δ n ⟨ps,J,rfl,x,g,r,up⟩;have e:us.take (us.map (OG t b X Y)).length=us:=by rw[IZ,LP]
  exact⟨_,rfl,n,.refl,k n z ps x C g (by rw[<-e];exact r) up⟩
theorem dr:NL ["plot","corners","wall","end"] ["plot"] (az iO):=by walk_at "sc"
inductive O2(x:D)(M:MH)(Q:DK):Prop
 |mk (t b X Y:Int) (ws:List Wl) (_:x=.tup (ws.map (NP t b X Y))) (_:OE t b X Y) (_:ws.length<=40) (_:(∀w∈ws,NO w)) (_:∀(M':MH) (z:Addr) (ps:List Vc),SD.Sub M M'->M z=MB->M' z=MA (.lst (ps.map (OG t b X Y)))->ps.Perm (Nl ws ws.length)->ps.Pairwise OL->Q (.ref z) M')
theorem oY(T:Tx K mg):Cal P w K mg base 5 "corners_of" (Pc O2):=by
 refine fo (k:=4) T.f_corners_of dr fun f cdv A outer s H E I=>⟨_,(ak (aG 1 dr.nd pJ) (ak (bM Js rfl (aT (dv 0)) (aF 2 dr.nd) (aw (bM Js rfl (aT (dv 2)) (aF 3 dr.nd) (aw (zh (mT I) (dv 1) (ay (iD T).m I (aa (dv 3) af)) g9))))) (aw (aH (ay (ia T).m I (aa (c8 (qW rfl) rfl T.b_list oB (aa (dv 1) af)) af)))))),fun _ M Q h=>?_⟩;obtain⟨t,b,X,Y,ws,rfl,S,hn,N,k⟩:=h;intro c O;refine⟨_,rfl,ws.map (NP t b X Y),rfl,?_⟩;refine⟨fun i δ r=>Qu fun(J v:Option D)=>δ=[MA (.tup (ws.map (NP t b X Y))),MA (.ref c),J,v]/\SD.Sub M r/\r c=MA (OH (Pt t b X Y (Nl ws i))),⟨_,_,rfl,.new O .refl,ag⟩,fun i δ r _ q=>rfl,?_,?_⟩
 ·rintro i d δ r hi hd ⟨J,v,rfl,B,g⟩;have hd:(ws.map (NP t b X Y))[i]?=MA d:=hd;rw[J4]at hd;cases C:ws[i]? with
  |none=>rw[C]at hd;cases hd
  |some w=>
   rw[C]at hd
   cases hd
   have iw:i<ws.length:=(Ja.mp C).1
   have R:=N w (J9 C)
   have lc:=oI ws i
   refine⟨_,rfl,[OG t b X Y (ea w),OG t b X Y (eb w)],rfl,?_⟩
   refine⟨fun j δ n=>Qu fun(us:List Vc) (v:Option D)=>VS (δ=[MA (.tup (ws.map (NP t b X Y))),MA (.ref c),MA (NP t b X Y w),v]) (SD.Sub M n) (n c=MA (OH (Pt t b X Y us))) (us.length<=2*i+j) (j=0->us=Nl ws i) (j=1->us=fg (Nl ws i) (ea w)) (j=2->us=fg (fg (Nl ws i) (ea w)) (eb w)),⟨Nl ws i,_,rfl,B,g,by omega,fun _=>rfl,fun h=>by omega,fun h=>by omega⟩,fun i δ r _ q=>rfl,?_,?_⟩
   ·rintro j d δ n U hd ⟨us,v,rfl,l,y,lu,V,W,Z⟩;have U:j<2:=U
    obtain⟨u,rfl,bu,hu⟩:∃u,d=OG t b X Y u/\Nt u/\(j=0->u=ea w)/\(j=1->u=eb w):=by
     have hd:([OG t b X Y (ea w),OG t b X Y (eb w)]:List D)[j]?=MA d:=hd;rcases(show j=0\/j=1 by omega)with rfl|rfl
     ·cases hd;exact⟨_,rfl,R.ea,fun _=>rfl,fun h=>by omega⟩
     ·cases hd;exact⟨_,rfl,R.eb,fun h=>by omega,fun _=>rfl⟩
    refine⟨_,rfl,_,rfl,_,_,rfl,(bu.bx S).mono (by decide),(bu.by' S).mono (by decide),c,_,gk t b X Y u,rfl,sP t b X Y u,y,?_,fg us u,_,rfl,?_,by rw[ag,Bj S.t0 S.b0],by have:=lC us u;omega,fun h=>by omega,fun h=>?_,fun h=>?_⟩
    ·show(Pt t b X Y us).length<_;unfold Pt;rw[IZ];omega
    ·intro a o h;rw[aA (aE h O)];exact l _ _ h
    ·have:j=0:=by omega
     rw[V this,hu.1 this]
    ·have:j=1:=by omega
     rw[W this,hu.2 this]
   ·rintro δ n ⟨us,v,rfl,l,y,lu,V,W,Z⟩;refine⟨_,_,rfl,l,?_⟩;rw[y,Z rfl]
    congr 3
    show _=(match ws[i]? with|some w=>fg (fg (Nl ws i) (ea w)) (eb w)|none=>Nl ws i);rw[C]
 ·rintro δ r ⟨J,v,rfl,B,g⟩
  have g:r c=MA (OH (Pt t b X Y (Nl ws ws.length))):=by
   have e:(ws.map (NP t b X Y)).length=ws.length:=by simp
   rw[<-e];exact g
  refine⟨_,rfl,.inr ⟨c,_,rfl,g,fun p hp=>?_⟩⟩;have ek:(Pt t b X Y (Nl ws ws.length)).map (fun x=>Pb x.1)=(Nl ws ws.length).map (OG t b X Y):=by unfold Pt;rw[KC];rfl
  rw[ek];have lc:=oI ws ws.length;refine⟨p,t,b,X,Y,Nl ws ws.length,rfl,ag,S,by omega,Fu N,ot ws _,fun M2 z ps l G L pm up=>?_⟩;have zp:z≠p:=fun e=>by subst e;rw[ag]at G;cases G
  have F:r z=MB:=by rw[aA zp]at G;exact G
  have zM:M z=MB:=by
   cases e:M z with
   |none=>rfl
   |some o=>rw[B _ _ e]at F;cases F
  exact⟨M2,.refl,k M2 z ps (fun a o h=>l _ _ (by rw[aA (aE (B _ _ h) hp)];exact B _ _ h)) zM L pm up⟩
theorem cJ:NL ["plot","outers","inners","ring"] ["plot"] (az eU):=by walk_at "sc"
inductive Nr(u:D)(M:MH)(Q:DK):Prop
 |mk (t b X Y:Int) (ws:List Wl) (_:u=.tup (ws.map (NP t b X Y))) (_:OE t b X Y) (_:ws.length<=40) (_:(∀w∈ws,NO w)) (_:PF ws) (_:∀(M':MH) (lo li:Addr) (ps qs:List Addr) (rs:List (List Nat)),SD.Sub M M'->OO ws (2*ws.length) rs->M' lo=MA (.lst (ps.map D.ref))->M' li=MA (.lst (qs.map D.ref))->RL M' ps (rs.filter (aL ws))->RL M' qs (rs.filter fun r=>!aL ws r)->M lo=MB->M li=MB->(∀p∈ps++qs,M p=MB)->Q (.tup [.ref lo,.ref li]) M')
theorem eW(T:Tx K mg):Cal P w K mg base 8 "outer_and_inner" (Pc Nr):=by
 refine fo (k:=7) T.f_outer_and_inner cJ fun f cdv A outer s H E hr=>⟨_,(ak (fW 1 2 rfl cJ.nd (aa (bR af) (aa (bR af) af))) (ak (bM Js rfl (aT (ay (mC T).m hr (aa (dv 0) af))) (aF 3 cJ.nd) (aw (bJ (aP (oZ hr.units) (aB (ay (i8 T).m hr (aa (dv 0) (aa (dv 3) af))) aj) aj) (aw (dM (bQ (dv 1) (aa (dv 3) af)))) (aw (dM (bQ (dv 2) (aa (dv 3) af))))))) (aw (aH (aV (aa (dv 1) (aa (dv 2) af))))))),fun _ M Q h=>?_⟩;obtain⟨t,b,X,Y,ws,rfl,S,G,hU,hF,k⟩:=h;refine⟨NS rfl,fun lo J=>⟨NS rfl,fun n L=>?_⟩⟩;have q:lo≠n:=aE ag L;have I:M n=MB:=by have h:=L;rw[aA q.symm]at h;exact h
 refine⟨_,_,rfl,?_⟩;refine⟨_,rfl,t,b,X,Y,ws,rfl,S,G,hU,hF,fun x lr pr y N C a0 R c0 g0=>?_⟩;have d0:x lo=MA (.lst []):=N _ _ (by rw[aA q,ag]);have e0:x n=MA (.lst []):=N _ _ ag;have h0:SD.Sub M x:=SD.Sub.trans (.new L (.new J .refl)) N;have i0:lr≠lo:=fun z=>by subst z;rw[aA q,ag]at C;cases C
 have k0:lr≠n:=fun z=>by subst z;rw[ag]at C;cases C
 have pn:∀p∈pr,p≠lo/\p≠n/\M p=MB:=fun p g=>by
  have h:=(g0 p g).2
  have a:p≠n:=fun z=>by subst z;rw[ag]at h;cases h
  rw[aA a]at h
  have c:p≠lo:=fun z=>by subst z;rw[ag]at h;cases h
  rw[aA c]at h
  exact⟨c,a,h⟩
 have l0:=gR R;have m0:=c0.len;have f0:=gO hU hF (J1 _) R;refine⟨_,a0,?_⟩;refine⟨fun i δ F=>Ro fun(ps qs:List Addr) (o3:Option D)=>X5 (δ=[MA (.tup (ws.map (NP t b X Y))),MA (.ref lo),MA (.ref n),o3]) (∀c,c≠lo->c≠n->F c=x c) (F lo=MA (.lst (ps.map D.ref))) (F n=MA (.lst (qs.map D.ref))) (RL x ps ((y.take i).filter (aL ws))) (RL x qs ((y.take i).filter fun r=>!aL ws r)) (ps.length<=i) (qs.length<=i) (∀p∈ps++qs,p∈pr),⟨[],[],_,rfl,fun _ _ _=>rfl,d0,e0,.nil,.nil,J1 _,J1 _,fun p g=>by cases g⟩,fun i δ F _ z=>by obtain⟨_,_,_,_,z,_⟩:=z;show F lr=_;rw[z lr i0 k0];exact a0,?_,?_⟩
 ·rintro i d δ F hi hd ⟨ps,qs,o3,rfl,l,u,v,O,R2,l1,l2,j⟩;have hi:i<pr.length:=by have:i<(pr.map D.ref).length:=hi;simpa using this
  have hd:(pr.map D.ref)[i]?=MA d:=hd;rw[J4,J0 hi]at hd;cases hd;obtain⟨r,er,U⟩:=c0.get hi;have V:pr[i]∈pr:=JW hi;obtain⟨p1,p2,p3⟩:=pn _ V;have A:=f0 r (J9 er);refine⟨_,rfl,_,rfl,t,b,X,Y,ws,pr[i],r,rfl,rfl,(by rw[l _ p1 p2];exact U),S,hU,G,by have:=A.len;omega,A.lt,fun n0 B hB o0 bt et=>?_⟩;refine⟨_,rfl,trivial,_,rfl,?_⟩;have sg:=z5 hU hF A.rng S.t0 S.b0 hB et;have W:=j4 (aL ws) y er;have Z:=j4 (fun r=>!aL ws r) y er;refine cD (fun h=>?_) (fun h=>?_)
  ·have o:aL ws r=MC:=by rw[<-sg];exact h
   rw[o]at W Z;rw[MF rfl]at W;rw[ME (by decide),Kc]at Z;refine⟨_,rfl,lo,_,rfl,u,_,rfl,_,_,rfl,u,(by rw[IZ];omega),?_⟩;refine⟨ps++[pr[i]],qs,_,rfl,fun c a c2=>by rw[aA a];exact l c a c2,by rw[ag,Jk];rfl,by rw[aA q.symm];exact v,by rw[W];exact O.snoc U,by rw[Z];exact R2,by simp;omega,by omega,fun p g=>?_⟩;rcases Jo.mp g with z|z
   ·rcases Jo.mp z with z|z
    ·exact j p (Jo.mpr (.inl z))
    ·rw[show p=pr[i] by simpa using z];exact V
   ·exact j p (Jo.mpr (.inr z))
  ·have o:aL ws r=MD:=by rw[<-sg];simpa using h
   rw[o]at W Z;rw[ME (by decide),Kc]at W;rw[MF (show(!MD)=MC from rfl)]at Z;refine⟨_,rfl,n,_,rfl,v,_,rfl,_,_,rfl,v,(by rw[IZ];omega),?_⟩;refine⟨ps,qs++[pr[i]],_,rfl,fun c a c2=>by rw[aA c2];exact l c a c2,by rw[aA q];exact u,by rw[ag,Jk];rfl,by rw[W];exact O,by rw[Z];exact R2.snoc U,by omega,by simp;omega,fun p g=>?_⟩;rcases Jo.mp g with z|z
   ·exact j p (Jo.mpr (.inl z))
   ·rcases Jo.mp z with z|z
    ·exact j p (Jo.mpr (.inr z))
    ·rw[show p=pr[i] by simpa using z];exact V
 ·rintro δ F ⟨ps,qs,o3,rfl,l,u,v,O,R2,l1,l2,j⟩;have et:y.take (pr.map D.ref).length=y:=Kr (by rw[IZ];omega);have O:RL x ps ((y.take (pr.map D.ref).length).filter (aL ws)):=O;have R2:RL x qs ((y.take (pr.map D.ref).length).filter fun r=>!aL ws r):=R2;rw[et]at O R2;have kp:∀p∈ps++qs,F p=x p:=fun p g=>let z:=pn p (j p g);l p z.1 z.2.1
  refine⟨_,rfl,_,rfl,NS rfl,N3 (k F lo n ps qs y (fun a o h=>?_) R u v (O.mono fun p g o e=>by rw[kp p (Jo.mpr (.inl g))];exact e) (R2.mono fun p g o e=>by rw[kp p (Jo.mpr (.inr g))];exact e) J I fun p g=>(pn p (j p g)).2.2)⟩;rw[l a (fun z=>by subst z;rw[J]at h;cases h) (fun z=>by subst z;rw[I]at h;cases h)];exact h0 _ _ h
theorem mH:NL ["one","other"] ["one","other"] (az iN):=by walk_at "sc"
inductive O1(x y:D)(M:MH)(Q:DK):Prop
 |mk (c d g h:Rat) (_:x=NH c d) (_:y=NH g h) (_:MY 100000 c) (_:MY 100000 d) (_:MY 100000 g) (_:MY 100000 h) (_:∀s:Rat×Rat,s=(if MZ c d g h then(c,d)else(g,h))->Q (NH s.1 s.2) M)
theorem iZ(T:Tx K mg):Cal P w K mg base 3 "earlier_of" (OF O1):=by
 refine bP (k:=2) T.f_earlier_of mH fun f cdv A outer s H E b=>⟨_,(aw (aH (jq (fY (ay (df T).m b (aa (dv 0) (aa (dv 1) af)))) (dv 0) (dv 1)))),fun _ _ M Q h=>?_⟩;obtain⟨c,d,g,a,rfl,rfl,e,i,j,l,k⟩:=h;refine⟨_,rfl,_,rfl,c,d,g,a,rfl,rfl,e,i,j,l,_,rfl,?_⟩;refine cD (fun h=>?_) (fun h=>?_)
 ·have z:MZ c d g a:=by simpa[MZ]using h
  have:=k (c,d) (by rw[MF z]);exact⟨_,rfl,N3 this⟩
 ·have z:¬MZ c d g a:=by simpa[MZ]using h
  have:=k (g,a) (by rw[ME z]);exact⟨_,rfl,N3 this⟩
theorem cH:NL ["plot","ring","first","face"] ["plot","ring"] (az gy):=by walk_at "sc"
inductive OM(u v:D)(M:MH)(Q:DK):Prop
 |mk (t b X Y:Int) (ws:List Wl) (p:Addr) (r:List Nat) (_:u=.tup (ws.map (NP t b X Y))) (_:v=.ref p) (_:M p=MA (.lst (r.map fun g:Nat=>D.int (g:Int)))) (_:OE t b X Y) (_:(∀w∈ws,NO w)) (_:ws.length<=40) (_:0<r.length) (_:(∀g∈r,g<2*ws.length)) (_:Q (OG t b X Y (fc ws r)) M)
theorem lq(T:Tx K mg):Cal P w K mg base 4 "first_corner" (OF OM):=by
 refine bP (k:=3) T.f_first_corner cH fun f cdv A outer s H E j=>⟨_,(ak (aG 2 cH.nd (aB (ay (cv T).m j (aa (dv 0) (aa (aB (dv 1) aj) af))) aj)) (ak (bM Js rfl (aT (dv 1)) (aF 3 cH.nd) (aw (aG 2 cH.nd (ay (iZ T).m j (aa (dv 2) (aa (aB (ay (cv T).m j (aa (dv 0) (aa (dv 3) af))) aj) af)))))) (aw (aH (dv 2))))),fun _ _ M Q h=>?_⟩;obtain⟨t,b,X,Y,ws,p,r,rfl,rfl,u,S,B,C,c,j,k⟩:=h
 obtain⟨n,F,v⟩:∃n F,r=n::F:=by
  cases r with
  |nil=>simp at c
  |cons a l=>exact⟨a,l,rfl⟩
 have o:∀{z:Vc},Nt z->MY 100000 (MX t b X 1 z.1)/\MY 100000 (MX t b Y 1 z.2):=fun{z} h=>by
  have one:(0:Int)<1/\(1:Int)<=10^6:=by decide
  exact⟨(S.bx one (by have:=h.1;omega)).mono (by decide),(S.by' one (by have:=h.2;omega)).mono (by decide)⟩
 refine⟨_,rfl,_,rfl,_,_,u,(show atI _ ((0:Nat):Int)=MA (.int (n:Int))from bz (by rw[v];rfl)),t,b,X,Y,ws,n,rfl,rfl,j n (by rw[v];simp),by omega,_,rfl,?_⟩;refine⟨_,rfl,_,u,?_⟩;refine⟨fun i δ q=>q=M/\∃x:Option D,δ=[MA (.tup (ws.map (NP t b X Y))),MA (.ref p),MA (OG t b X Y (Qy ws r i)),x],⟨rfl,_,by rw[v];rfl⟩,fun i δ q _ z=>by obtain⟨rfl,_⟩:=z;exact u,?_,?_⟩
 ·rintro i d δ q hi hd ⟨rfl,x,rfl⟩;have hi:i<r.length:=by have:i<(r.map fun g:Nat=>D.int (g:Int)).length:=hi;simpa using this
  have hd:(r.map fun g:Nat=>D.int (g:Int))[i]?=MA d:=hd;rw[J4,J0 hi]at hd;cases hd;have G:=j r[i] (JW hi);have b1:=oW B j c i (by omega);have y:=jg B G;refine⟨_,rfl,_,rfl,_,rfl,t,b,X,Y,ws,r[i],rfl,rfl,G,by omega,_,rfl,?_⟩;refine⟨_,_,_,_,rfl,rfl,(o b1).1,(o b1).2,(o y).1,(o y).2,fun s hs=>?_⟩;have hs:=hs.trans (Gs (X:=X) (Y:=Y) S.t0 S.b0 b1 y);subst hs;exact⟨rfl,_,by rw[qw (J0 hi)];rfl⟩
 ·rintro δ q ⟨rfl,x,rfl⟩;have e:Qy ws r (r.map fun g:Nat=>D.int (g:Int)).length=fc ws r:=by rw[IZ];rfl
  refine⟨_,rfl,N3 ?_⟩;dsimp only;rw[e];exact k
theorem xf:NL ["wall","spot"] ["wall","spot"] (az vf):=by walk_at "sc"
inductive Qg(u v:D)(M:MH)(Q:DK):Prop
 |mk (n:Nat) (a b c d x y:Rat) (_:u=MW a b c d) (_:v=NH x y) (_:MY n a) (_:MY n b) (_:MY n c) (_:MY n d) (_:MY n x) (_:MY n y) (_:n<=100000) (_:Q (.bl (!decide (MZ x y a b)&&decide (MZ x y c d))) M)
theorem BA(T:Tx K mg):Cal P w K mg base 3 "spans" (OF Qg):=by
 refine bP (k:=2) T.f_spans xf fun f cdv A outer s H E i=>⟨_,(aw (aH (wR (Du (ay (df T).m i (aa (dv 1) (aa (aB (dv 0) aj) af)))) (tR (ay (df T).m i (aa (dv 1) (aa (aB (dv 0) aj) af))))))),fun _ _ M Q h=>?_⟩;obtain⟨n,a,b,c,d,x,y,rfl,rfl,o,p,r,hd,j,l,t,k⟩:=h;have e:∀{q:Rat},MY n q->MY 100000 q:=fun z=>z.mono t;(try dsimp only[SD.jd,SD.fG,SD.aZ,SD.jX,SD.jT,SD.fh,SD.gu,SD.tBD,SD.jV,SD.EndsD.nxt,SD.EndsD.lp])
 exact Gi (!decide (MZ x y a b)) (decide (MZ x y c d)) (fun K g=>⟨_,rfl,_,rfl,_,rfl,x,y,a,b,rfl,rfl,e j,e l,e o,e p,_,rfl,g⟩) (fun _ K g=>⟨_,rfl,_,rfl,_,rfl,x,y,c,d,rfl,rfl,e j,e l,e r,e hd,g⟩) (N3 k)
theorem rj:NL ["one","other"] ["one","other"] (az mz):=by walk_at "sc"
inductive PH(x y:D)(M:MH)(Q:DK):Prop
 |mk (a b e f:Rat) (_:x=NH a b) (_:y=NH e f) (_:MY 100000 a) (_:MY 100000 b) (_:MY 100000 e) (_:MY 100000 f) (_:∀s:Rat×Rat,s=(if MZ e f a b then(a,b)else(e,f))->Q (NH s.1 s.2) M)
theorem rJ(T:Tx K mg):Cal P w K mg base 3 "later_of" (OF PH):=by
 refine bP (k:=2) T.f_later_of rj fun f cdv A outer s H E c=>⟨_,(aw (aH (jq (fY (ay (df T).m c (aa (dv 1) (aa (dv 0) af)))) (dv 0) (dv 1)))),fun _ _ M Q h=>?_⟩;obtain⟨a,b,e,f,rfl,rfl,d,g,i,j,k⟩:=h;refine⟨_,rfl,_,rfl,e,f,a,b,rfl,rfl,i,j,d,g,_,rfl,?_⟩;refine cD (fun h=>?_) (fun h=>?_)
 ·have z:MZ e f a b:=by simpa[MZ]using h
  have:=k (a,b) (by rw[MF z]);exact⟨_,rfl,N3 this⟩
 ·have z:¬MZ e f a b:=by simpa[MZ]using h
  have:=k (e,f) (by rw[ME z]);exact⟨_,rfl,N3 this⟩
theorem eV:NL ["one","other","start","end","place","deciding"] ["one","other"] (az kZ):=by walk_at "sc"
inductive PM(u v:D)(M:MH)(Q:DK):Prop
 |mk (t b X Y:Int) (U V:Wl) (_:u=NP t b X Y U) (_:v=NP t b X Y V) (_:OE t b X Y) (_:NO U) (_:NO V) (_:Q (.bl (NT U V)) M)
theorem sE(T:Tx K mg):Cal P w K mg base 4 "is_above" (OF PM):=by
 refine bP (k:=3) T.f_is_above eV fun f cdv A outer s H E x=>⟨_,(ak (fW 2 3 rfl eV.nd (aa (ay (rJ T).m x (aa (aB (dv 0) aj) (aa (aB (dv 1) aj) af))) (aa (ay (iZ T).m x (aa (aB (dv 0) aj) (aa (aB (dv 1) aj) af))) af))) (ak (bJ (C5 (fY (ay (df T).m x (aa (dv 2) (aa (dv 3) af))))) (aw (aH g9)) aU) (ak (cR (jq (aP (ez x.units) (aB (dv 0) aj) (aB (dv 1) aj)) (aV (aa aj (aa (dv 3) af))) (aV (aa aj (aa (dv 2) af)))) (bX rfl (aI (aF 4 eV.nd) (aI (aF 5 eV.nd) bD)))) (ak (bJ (aP (ez x.units) (dv 5) (aB (dv 0) (dv 4))) (aw (aH (dD (ez x.units) (ay (dU T).m x (aa (dv 1) (aa (dv 5) af))) aj))) aU) (aw (aH (dD (ez x.units) (ay (dU T).m x (aa (dv 0) (aa (dv 5) af))) (nD gY aj)))))))),fun _ _ M Q h=>?_⟩;obtain⟨t,b,X,Y,U,V,rfl,rfl,S,g,i,k⟩:=h;have C:=S.t0;have F:=S.b0;have one:(0:Int)<1/\(1:Int)<=10^6:=by decide
 have W6:∀{z:Int},(0<=z/\z<=20)->(-(10^6)<=z/\z<=10^6):=fun{z} h=>by omega
 have bx:∀{z:Int},(0<=z/\z<=20)->MY 200 (MX t b X 1 z):=fun{z} h=>S.bx one (W6 h);have by':∀{z:Int},(0<=z/\z<=20)->MY 200 (MX t b Y 1 z):=fun{z} h=>S.by' one (W6 h)
 have n:∀{q:Rat},MY 200 q->MY 100000 q:=fun z=>z.mono (by decide)
 have W:∃r u:Int,(if MZ (MX t b X 1 V.1) (MX t b Y 1 V.2.1) (MX t b X 1 U.1) (MX t b Y 1 U.2.1)then(MX t b X 1 U.1,MX t b Y 1 U.2.1)else(MX t b X 1 V.1,MX t b Y 1 V.2.1))=(MX t b X 1 r,MX t b Y 1 u)/\(0<=r/\r<=20)/\(0<=u/\u<=20)/\la r u=max (l1 U) (l1 V)/\((l1 V<l1 U/\r=U.1/\u=U.2.1)\/(¬l1 V<l1 U/\r=V.1/\u=V.2.1)):=by
  have z:=nU (X:=X) (Y:=Y) (p:=V.1) (q:=V.2.1) (e:=U.1) (f:=U.2.1) C F i.b g.b
  by_cases y:la V.1 V.2.1<la U.1 U.2.1
  ·exact⟨U.1,U.2.1,by rw[MF (z.mpr y)],g.a,g.b,by unfold l1;omega,.inl ⟨y,rfl,rfl⟩⟩
  ·exact⟨V.1,V.2.1,by rw[ME (fun q=>y (z.mp q))],i.a,i.b,by unfold l1;omega,.inr ⟨y,rfl,rfl⟩⟩
 have G:∃ex v:Int,(if MZ (MX t b X 1 U.2.2.1) (MX t b Y 1 U.2.2.2) (MX t b X 1 V.2.2.1) (MX t b Y 1 V.2.2.2)then(MX t b X 1 U.2.2.1,MX t b Y 1 U.2.2.2)else(MX t b X 1 V.2.2.1,MX t b Y 1 V.2.2.2))=(MX t b X 1 ex,MX t b Y 1 v)/\(0<=ex/\ex<=20)/\(0<=v/\v<=20)/\la ex v=min (l2 U) (l2 V)/\((l2 U<l2 V/\ex=U.2.2.1/\v=U.2.2.2)\/(¬l2 U<l2 V/\ex=V.2.2.1/\v=V.2.2.2)):=by
  have z:=nU (X:=X) (Y:=Y) (p:=U.2.2.1) (q:=U.2.2.2) (e:=V.2.2.1) (f:=V.2.2.2) C F g.d i.d
  by_cases y:la U.2.2.1 U.2.2.2<la V.2.2.1 V.2.2.2
  ·exact⟨U.2.2.1,U.2.2.2,by rw[MF (z.mpr y)],g.c,g.d,by unfold l2;omega,.inl ⟨y,rfl,rfl⟩⟩
  ·exact⟨V.2.2.1,V.2.2.2,by rw[ME (fun q=>y (z.mp q))],i.c,i.d,by unfold l2;omega,.inr ⟨y,rfl,rfl⟩⟩
 obtain⟨r,u,es,Z,I,ls,cs⟩:=W;obtain⟨ex,v,ee,a0,J,le,ce⟩:=G;refine⟨_,rfl,_,rfl,_,rfl,_,rfl,_,_,_,_,rfl,rfl,n (bx g.a),n (by' g.b),n (bx i.a),n (by' i.b),fun s1 c0=>?_⟩;rw[es]at c0;subst c0;refine⟨_,rfl,_,rfl,_,rfl,_,rfl,_,_,_,_,rfl,rfl,n (bx g.c),n (by' g.d),n (bx i.c),n (by' i.d),fun s2 d0=>?_⟩;rw[ee]at d0;subst d0;refine⟨_,_,rfl,?_⟩;refine⟨_,rfl,_,rfl,MX t b X 1 r,MX t b Y 1 u,MX t b X 1 ex,MX t b Y 1 v,rfl,rfl,n (bx Z),n (by' I),n (bx a0),n (by' J),_,rfl,?_⟩;have L:=nU (X:=X) (Y:=Y) (p:=r) (q:=u) (e:=ex) (f:=v) C F I J;rw[ls,le]at L;refine cD (fun h=>?_) (fun h=>?_)
 ·have N:¬(max (l1 U) (l1 V)<min (l2 U) (l2 V)):=fun z=>by
   have z':=L.mpr z
   unfold MZ at z'
   simp[z']at h
  have e:NT U V=MD:=by unfold NT;rw[ME N]
  rw[e]at k;exact N3 k
 have N:max (l1 U) (l1 V)<min (l2 U) (l2 V):=L.mp (Decidable.byContradiction fun z=>h ((Bool.not_eq_true' _).mpr (MG z)));dsimp only[SD.fh];refine eZ (fun δ M'=>M'=M/\VP fun(pl j l O B:Int) (o2 o3:Option D)=>δ=[MA (NP t b X Y U),MA (NP t b X Y V),o2,o3,MA (.int pl),MA (NH (MX t b X 1 j) (MX t b Y 1 l))]/\atI [NH (MX t b X 1 U.1) (MX t b Y 1 U.2.1),NH (MX t b X 1 U.2.2.1) (MX t b Y 1 U.2.2.2)] pl=MA (NH (MX t b X 1 O) (MX t b Y 1 B))/\(0<=j/\j<=20)/\(0<=l/\l<=20)/\(0<=B/\B<=20)/\(la j l=la O B->decide (0<sd V j l)=NT U V)/\(la j l≠la O B->decide (sd U j l<0)=NT U V)) ?_ (fun hu=>?_);rotate_left
 ·refine⟨_,rfl,_,rfl,_,rfl,_,rfl,_,_,Pd.of rfl,Pd.of rfl,rfl,rfl,?_⟩;rw[NG];refine⟨_,rfl,?_⟩;have q1:=iS (X:=X) (Y:=Y) (p:=U.1) (q:=U.2.1) (e:=V.1) (f:=V.2.1) C F g.b i.b;refine cD (fun h=>?_) (fun h=>?_)
  ·have e1:l1 U=l1 V:=q1.mp (by simpa using h);refine⟨_,rfl,NS rfl,?_⟩;refine⟨_,rfl,rfl,_,_,rfl,_,_,rfl,rfl,?_⟩;refine hu _ _ ⟨rfl,1,ex,v,U.2.2.1,U.2.2.2,_,_,rfl,rfl,a0,J,g.d,fun z=>?_,fun z=>?_⟩
   ·rcases ce with⟨o,rfl,rfl⟩|⟨o,rfl,rfl⟩
    ·unfold NT;rw[MF N,MF e1,MF o];rfl
    ·have y1:NY U V=0:=qP g i z.symm;have y2:sd V V.2.2.1 V.2.2.2=0:=qP i i rfl;unfold NT;rw[MF N,MF e1,ME o,y1,y2]
   ·rcases ce with⟨o,rfl,rfl⟩|⟨o,rfl,rfl⟩
    ·exact absurd rfl z
    ·unfold NT;rw[MF N,MF e1,ME o];rfl
  ·have e1:¬l1 U=l1 V:=fun z=>h (by simpa using q1.mpr z);refine⟨_,rfl,NS rfl,?_⟩;refine⟨_,rfl,rfl,_,_,rfl,_,_,rfl,rfl,?_⟩;refine hu _ _ ⟨rfl,0,r,u,U.1,U.2.1,_,_,rfl,rfl,Z,I,g.b,fun z=>?_,fun z=>?_⟩
   ·rcases cs with⟨o,rfl,rfl⟩|⟨o,rfl,rfl⟩
    ·unfold NT;rw[MF N,ME e1,MF o];rfl
    ·exact absurd z.symm e1
   ·rcases cs with⟨o,rfl,rfl⟩|⟨o,rfl,rfl⟩
    ·exact absurd rfl z
    ·unfold NT;rw[MF N,ME e1,ME o];rfl
 rintro δ M' ⟨rfl,pl,j,l,O,B,o2,o3,rfl,f0,e0,R,g0,c1,c2⟩;refine⟨_,rfl,_,rfl,_,rfl,_,f0,_,_,Pd.of rfl,Pd.of rfl,rfl,rfl,?_⟩;rw[NG];have q2:=iS (X:=X) (Y:=Y) (p:=j) (q:=l) (e:=O) (f:=B) C F R g0;refine⟨_,rfl,?_⟩;refine cD (fun h=>?_) (fun h=>?_)
 ·have z:la j l=la O B:=q2.mp (by simpa using h);refine⟨_,rfl,_,rfl,200,_,_,_,_,_,_,rfl,rfl,bx i.a,by' i.b,bx i.c,by' i.d,bx e0,by' R,by decide,?_⟩;rw[ju C F];have e:decide (Jw (sd V j l)=1)=NT U V:=by rw[<-c1 z,MK];exact XN _
  show SF Q (.bl (decide _)) _;rw[e];exact N3 k
 ·have z:la j l≠la O B:=fun q=>h (by simpa using q2.mpr q);refine⟨_,rfl,_,rfl,200,_,_,_,_,_,_,rfl,rfl,bx g.a,by' g.b,bx g.c,by' g.d,bx e0,by' R,by decide,?_⟩;rw[ju C F];have e:decide (Jw (sd U j l)=-1)=NT U V:=by rw[<-c2 z,MK];exact Io _
  show SF Q (.bl (decide _)) _;rw[e];exact N3 k
theorem qt:NL ["wall"] ["wall"] (az lO):=by walk_at "sc"
inductive Ou(x:D)(M:MH)(Q:DK):Prop
 |mk (a b c d:Rat) (_:x=MW a b c d) (_:MY 8000 a) (_:MY 8000 b) (_:MY 8000 c) (_:MY 8000 d) (_:Q (MW a b c d) M)
theorem tO(T:Tx K mg):Cal P w K mg base 4 "own_wall" (Pc Ou):=by refine fo (k:=3) T.f_own_wall qt fun f cdv A outer s H E e=>⟨_,(aw (aH (aV (aa (ay (iD T).m e (aa (aB (dv 0) aj) af)) (aa (ay (iD T).m e (aa (aB (dv 0) aj) af)) af))))),fun _ M Q h=>?_⟩;obtain⟨a,b,c,d,rfl,g,i,j,l,k⟩:=h;exact⟨_,rfl,_,rfl,a,b,rfl,g,i,_,rfl,_,rfl,c,d,rfl,j,l,NS rfl,N3 k⟩
theorem e7:NL ["walls","upper","wall"] ["walls"] (az kS):=by walk_at "sc"
inductive Oo(u:D)(M:MH)(Q:DK):Prop
 |mk (a:Addr) (t b X Y:Int) (us:List Wl) (top:Wl) (_:u=.ref a) (_:M a=MA (.lst (us.map (NP t b X Y)))) (_:OE t b X Y) (_:(∀w∈us,NO w)) (_:top∈us) (_:(∀w∈us,w=top\/(NT top w=MC/\NT w top=MD))) (_:Q (NP t b X Y top) M)
theorem sV(T:Tx K mg):Cal P w K mg base 5 "upper_of" (Pc Oo):=by
 refine fo (k:=4) T.f_upper_of e7 fun f cdv A outer s H E B=>⟨_,(ak (aG 1 e7.nd (aB (dv 0) aj)) (ak (bM Js rfl (aT (dv 0)) (aF 2 e7.nd) (aw (bJ (fY (ay (sE T).m B (aa (dv 2) (aa (dv 1) af)))) (aw (aG 1 e7.nd (dv 2))) aU))) (aw (aH (ay (tO T).m B (aa (dv 1) af)))))),fun _ M Q h=>?_⟩;obtain⟨a,t,b,X,Y,us,top,rfl,r,S,u,C,D,k⟩:=h;cases us with
 |nil=>cases C
 |cons g us=>
  refine⟨_,rfl,_,_,r,bz (j:=0) (v:=NP t b X Y g) rfl,?_⟩
  refine⟨_,rfl,(g::us).map (NP t b X Y),r,?_⟩
  refine⟨fun i δ o=>o=M/\Qu fun up x=>δ=[MA (.ref a),MA (NP t b X Y up),x]/\up∈g::us/\(top∈(g::us).take i->up=top),⟨rfl,g,_,rfl,by simp,fun z=>by simp at z⟩,fun i δ o _ z=>by obtain⟨rfl,_⟩:=z;exact r,?_,?_⟩
  ·rintro i d δ o hi hd ⟨rfl,up,x,rfl,l,n⟩;have hd:((g::us).map (NP t b X Y))[i]?=MA d:=hd;rw[J4]at hd;cases p:(g::us)[i]? with
   |none=>rw[p]at hd;cases hd
   |some w=>
    rw[p]at hd
    cases hd
    have y:w∈g::us:=J9 p
    have F:∀z,z∈(g::us).take (i+1)->z∈(g::us).take i\/z=w:=fun z G=>by rw[KR,p]at G;simpa using G
    refine⟨_,rfl,_,rfl,t,b,X,Y,w,up,rfl,rfl,S,u w y,u up l,_,rfl,?_⟩
    refine cD (fun h=>?_) (fun h=>?_)
    ·refine⟨_,rfl,rfl,w,_,rfl,y,fun z=>?_⟩;rcases F _ z with z|z
     ·have:=n z;subst this;rcases D w y with q|q
      ·exact q
      ·rw[q.2]at h;cases h
     ·exact z.symm
    ·refine⟨rfl,up,_,rfl,l,fun z=>?_⟩;rcases F _ z with z|z
     ·exact n z
     ·subst z;rcases D up l with q|q
      ·exact q
      ·exact absurd q.1 h
  ·rintro δ o ⟨rfl,up,x,rfl,l,n⟩;have e:up=top:=n (by show top∈(g::us).take ((g::us).map (NP t b X Y)).length;rw[Kr (by simp)];exact C);subst e;have W:=u up l;have one:(0:Int)<1/\(1:Int)<=10^6:=by decide
   have I:∀{z:Int},(0<=z/\z<=20)->(-(10^6)<=z/\z<=10^6):=fun{z} h=>by omega
   have bx:∀{z:Int},(0<=z/\z<=20)->MY 8000 (MX t b X 1 z):=fun{z} h=>(S.bx one (I h)).mono (by decide);have by':∀{z:Int},(0<=z/\z<=20)->MY 8000 (MX t b Y 1 z):=fun{z} h=>(S.by' one (I h)).mono (by decide)
   exact⟨_,rfl,_,_,_,_,rfl,bx W.a,by' W.b,bx W.c,by' W.d,N3 k⟩
theorem gI:NL ["walls","spot","below"] ["walls","spot"] (az hZ):=by walk_at "sc"
inductive OP(u v:D)(M:MH)(Q:DK):Prop
 |mk (t b X Y p q m:Int) (ws:List Wl) (_:u=.tup (ws.map (NP t b X Y))) (_:v=NH (MX t b X m p) (MX t b Y m q)) (_:OE t b X Y) (_:(∀w∈ws,NO w)) (_:ws.length<=40) (_:(-1000<=p/\p<=1000)) (_:(-10<=q/\q<=85)) (_:(0<m/\m<=4)) (_:(bK ws m p q=[]->Q .non M)) (_:(∀tt∈bK ws m p q,(∀w∈(bK ws m p q).map (NV ws),w=NV ws tt\/(NT (NV ws tt) w=MC/\NT w (NV ws tt)=MD))->Q (NP t b X Y (NV ws tt)) M)) (_:(bK ws m p q≠[]->∃tt∈bK ws m p q,∀w∈(bK ws m p q).map (NV ws),w=NV ws tt\/(NT (NV ws tt) w=MC/\NT w (NV ws tt)=MD)))
theorem mY(T:Tx K mg):Cal P w K mg base 6 "upper_below" (OF OP):=by
 refine bP (k:=5) T.f_upper_below gI fun f cdv A outer s H E y=>⟨_,(ak (iH 2 gI.nd (NM.of (xs:=["wall"]) (js:=[1]) rfl) rfl (aT (dv 0)) (fun _ _ _ _=>(ua (rz (kX (fY (ay (BA T).m y (aa (dv 0) (aa (dv 1) af)))) (ja (aP (ez y.units) (ay (dU T).m y (aa (dv 0) (aa (dv 1) af))) aj)))))) (fun _ _ _ _=>(dv 0))) (aw (aH (jq (CQ (dv 2)) (ay (sV T).m y (aa (dv 2) af)) r9)))),fun _ _ M Q h=>?_⟩;obtain⟨t,b,X,Y,p,q,m,ws,rfl,rfl,S,L,N,hp,O,F,k0,k1,ex⟩:=h;have G:(ws.map (NP t b X Y)).length=ws.length:=by simp
 have one:(0:Int)<1/\(1:Int)<=10^6:=by decide
 have i:(0:Int)<m/\m<=10^6:=by omega
 have R:∀{z:Int},(0<=z/\z<=20)->(-(10^6)<=z/\z<=10^6):=fun{z} h=>by omega
 have bx:∀{z:Int},(0<=z/\z<=20)->MY 200 (MX t b X 1 z):=fun{z} h=>S.bx one (R h);have by':∀{z:Int},(0<=z/\z<=20)->MY 200 (MX t b Y 1 z):=fun{z} h=>S.by' one (R h)
 have U:MY 200 (MX t b X m p):=S.bx i (by omega);have V:MY 200 (MX t b Y m q):=S.by' i (by omega);refine⟨_,rfl,ws.map (NP t b X Y),rfl,uh (fun j=>if bB ws m p q j=MC then MA (NP t b X Y (NV ws (j:Int)))else MB) (by show(ws.map (NP t b X Y)).length<=1000000;rw[G];omega) (fun _ _ _=>rfl) ?_ (fun Z n=>?_)⟩
 ·intro a d M6 ha hd sb;have hd:(ws.map (NP t b X Y))[a]?=MA d:=hd;have ha:a<ws.length:=by have:a<(ws.map (NP t b X Y)).length:=ha;omega
  obtain⟨w1,w2,w3⟩:=bo (ws:=ws) (k:=(a:Int)) (by omega) (by omega);have I:ws[a]?=MA (NV ws (a:Int)):=by simpa using w1
  rw[J4,I]at hd;cases hd;have W:=L _ w3
  have s1:(!decide (MZ (MX t b X m p) (MX t b Y m q) (MX t b X 1 (NV ws (a:Int)).1) (MX t b Y 1 (NV ws (a:Int)).2.1))&&decide (MZ (MX t b X m p) (MX t b Y m q) (MX t b X 1 (NV ws (a:Int)).2.2.1) (MX t b Y 1 (NV ws (a:Int)).2.2.2)))=Rg ws m (la p q) a:=by
   unfold Rg;rw[decide_eq_decide.mpr (xH S.t0 S.b0 F O W.b),decide_eq_decide.mpr (xH S.t0 S.b0 F O W.d),<-decide_not]
   congr 1
   rw[MK];unfold l1;omega
  refine⟨_,rfl,fun K B=>?_,fun v C K B=>?_⟩
  ·have o:K (bB ws m p q a) M6:=by cases z:bB ws m p q a<;>rw[z]at B<;>exact B
   unfold bB at o;refine yQ (Rg ws m (la p q) a) (decide (Jw (sd (Rc m (NV ws (a:Int))) p q)=1)) (fun K' g=>⟨_,rfl,_,rfl,200,_,_,_,_,_,_,rfl,rfl,bx W.a,by' W.b,bx W.c,by' W.d,U,V,by decide,?_⟩) (fun _ K' g=>⟨_,rfl,_,rfl,200,_,_,_,_,_,_,rfl,rfl,bx W.a,by' W.b,bx W.c,by' W.d,U,V,by decide,_,rfl,?_⟩) o
   ·rw[s1];exact⟨_,rfl,g⟩
   ·rw[AD S.t0 S.b0 F.1];exact g
  ·cases z:bB ws m p q a with
   |false=>rw[z]at C;cases C
   |true=>
    rw[z]at C
    cases C
    exact⟨_,rfl,B _ .refl⟩
 dsimp only;rw[xw];refine⟨_,rfl,Z,_,rfl,ag,?_⟩;by_cases D:bK ws m p q=[]
 ·rw[D];exact j9 rfl ⟨_,.new n .refl,k0 D⟩
 ·obtain⟨J,r,e⟩:=ex D
  refine A3 (by
   cases z:bK ws m p q with
   |nil=>exact absurd z D
   |cons a l=>rfl) ?_
  have u:∀k∈bK ws m p q,0<=k/\k<ws.length:=fun k x=>⟨(fV (fN x)).1,(fV (fN x)).2.1⟩;refine⟨_,rfl,Z,t,b,X,Y,(bK ws m p q).map (NV ws),NV ws J,rfl,ag,S,fun w hw=>?_,Jp.mpr ⟨J,r,rfl⟩,e,⟨_,.new n .refl,k1 J r e⟩⟩;obtain⟨kk,x,rfl⟩:=Jp.mp hw;exact L _ (bo (u kk x).1 (u kk x).2).2.2
theorem h8:NL ["plot","lands","corner","wall"] ["plot","lands","corner"] (az iV):=by walk_at "sc"
inductive OZ(u v x:D)(M:MH)(Q:DK):Prop
 |mk (t b X Y:Int) (ws:List Wl) (l:Addr) (L:List Int) (c:Vc) (_:u=.tup (ws.map (NP t b X Y))) (_:v=.ref l) (_:x=OG t b X Y c) (_:M l=MA (.lst (L.map D.int))) (_:L.length=2*ws.length) (_:OE t b X Y) (_:(∀w∈ws,NO w)) (_:PF ws) (_:ws.length<=40) (_:Nt c) (_:Q (.int (PX ws L c)) M)
theorem pb(T:Tx K mg):Cal P w K mg base 7 "land_about" (Rr OZ):=by
 refine qD (k:=6) T.f_land_about h8 fun f cdv A outer s H E r=>⟨_,(ak (aG 3 h8.nd (ay (mY T).m r (aa (dv 0) (aa (dv 2) af)))) (aw (aH (jq (aP Fy (dv 3) r9) aj (aB (dv 1) (aD aO aj (sR (mT r) (dv 0) (aa (dv 3) af)))))))),fun _ _ _ M Q h=>?_⟩;obtain⟨t,b,X,Y,ws,l,L,c,rfl,rfl,rfl,z,J,S,j,hF,n,u,k⟩:=h;have ex:bK ws 1 c.1 c.2≠[]->∃a∈bK ws 1 c.1 c.2,∀w∈(bK ws 1 c.1 c.2).map (NV ws),w=NV ws a\/(NT (NV ws a) w=MC/\NT w (NV ws a)=MD):=fun B=>by obtain⟨a,C,q,_⟩:=sJ j hF (show(0:Int)<1 by decide) (fun k F=>fN F) B (lX _ _ _ _);exact⟨a,C,q⟩
 have N:=u.1;have O:=u.2;refine⟨_,rfl,_,rfl,t,b,X,Y,c.1,c.2,1,ws,rfl,rfl,S,j,n,by omega,by omega,by decide,(fun G=>?_),(fun a d o=>?_),ex⟩
 ·have k:Q (.int 0) M:=by unfold PX at k;rw[MF G]at k;exact k
  exact⟨_,rfl,_,rfl,_,rfl,A3 rfl (N3 k)⟩
 ·have sp:=fV (fN d);obtain⟨x,R,I⟩:=bo sp.1 sp.2.1;have tn:a.toNat<ws.length:=by omega
  have k:Q (.int ((L[2*a.toNat]?).getD 0)) M:=by unfold PX at k;rw[ME (Ks d),BI j hF d o]at k;exact k
  have q:2*a.toNat<L.length:=by omega
  rw[J0 q]at k;refine⟨_,rfl,_,rfl,_,rfl,j9 rfl ?_⟩;refine⟨_,rfl,_,rfl,_,rfl,_,rfl,_,RJ t b X Y (NV ws a),a.toNat,rfl,(by simp;omega),Pd.of rfl,rfl,fun i y hi p=>?_,?_⟩
  ·rw[J4]at p;cases g:ws[i]? with
   |none=>rw[g]at p;cases p
   |some U=>
    rw[g]at p
    cases p
    refine⟨RJ t b X Y U,Pd.of rfl,rfl,?_⟩
    by_cases e:i=a.toNat
    ·subst e;rw[x]at g;cases g;rw[yj,MI rfl]
    ·rw[MG e];exact De S.t0 S.b0 (j _ (J9 g)) (j _ I) (hF i a.toNat _ _ e g x).ne
  ·refine⟨bE (cY (by decide)),_,_,z,(by rw[show(2:Int)*((a.toNat:Nat):Int)=((2*a.toNat:Nat):Int) by omega];exact bz (v:=D.int L[2*a.toNat]) (by rw[J4,J0 q];rfl)),N3 k⟩
theorem aM:NL ["plot","outers","inners","lands","number","ring","face","ring_at","corner","land"] ["plot"] (az fB):=by walk_at "sc"
inductive OC(u:D)(M:MH)(Q:DK):Prop
 |mk (t b X Y:Int) (ws:List Wl) (_:u=.tup (ws.map (NP t b X Y))) (_:OE t b X Y) (_:ws.length<=40) (_:(∀w∈ws,NO w)) (_:PF ws) (_:∀(M':MH) (z:Addr) (L:List Int),SD.Sub M M'->M z=MB->M' z=MA (.lst (L.map D.int))->ko ws L->Q (.ref z) M')
theorem jk(T:Tx K mg):Cal P w K mg base 9 "lands_of_faces" (Pc OC):=by
 refine fo (k:=8) T.f_lands_of_faces aM fun f cdv A outer s H E O=>⟨_,(ak (cR (ay (eW T).m O (aa (dv 0) af)) (bX rfl (aI (aF 1 aM.nd) (aI (aF 2 aM.nd) bD)))) (ak (aG 3 aM.nd (aD Br (bR (aa aj af)) (aD aO aj (aN cW rfl T.b_len cT (aa (dv 0) af))))) (ak (bM Js rfl (yu rfl T.b_enumerate (aa (dv 1) af)) (bX rfl (aI (aF 4 aM.nd) (aI (aF 5 aM.nd) bD))) (aw (bM Js rfl (aT (dv 5)) (aF 6 aM.nd) (aw (cR (dv 4) (oq (dv 3) (dv 6))))))) (ak (wF 7 aM.nd (mT O) (NM.of (xs:=["ring"]) (js:=[0]) rfl) rfl (aT (dv 2)) (fun _ _ _ _=>ff) (fun _ _ _ _=>(ay (lq T).m O (aa (dv 1) (aa (dv 0) af)))) (fun _ _ _ _=>(dv 0))) (ak (bM Js rfl (aT (ay (ia T).m O (aa (c8 (qW rfl) rfl T.b_list oB (aa (dv 7) af)) af))) (aF 8 aM.nd) (ak (aG 9 aM.nd (ay (pb T).m O (aa (dv 0) (aa (dv 3) (aa (dv 8) af))))) (aw (bM Js rfl (aT (pI (mT O) (dv 7) (dv 8) (by intro _ _;with_unfolding_all rfl))) (aF 6 aM.nd) (aw (cR (dv 9) (oq (dv 3) (dv 6)))))))) (aw (aH (dv 3)))))))),fun _ M Q h=>?_⟩;obtain⟨t,b,X,Y,ws,rfl,S,U,hU,hF,k⟩:=h;have e0:(ws.map (NP t b X Y)).length=ws.length:=by simp
 refine⟨_,rfl,t,b,X,Y,ws,rfl,S,U,hU,hF,fun M1 lo li ps qs rs m0 R ho hi RO RI m1 n1 o1=>?_⟩;refine⟨_,rfl,rfl,_,_,rfl,_,_,rfl,rfl,?_⟩;have RO:=RO;generalize J:rs.filter (aL ws)=l at RO;generalize N:(rs.filter fun r=>!aL ws r)=ins at RI;have d0:=gO hU hF (J1 _) R;have p1:=gR R;have q1:l.length<=80:=by rw[<-J];have:=Ky (aL ws) rs;omega
 have r1:ins.length<=80:=by rw[<-N];have:=Ky (fun r=>!aL ws r) rs;omega
 have n0:∀r∈l,XB ws r:=fun r O=>d0 r (by rw[<-J]at O;exact(Jm.mp O).1);have V:∀r∈ins,XB ws r:=fun r O=>d0 r (by rw[<-N]at O;exact(Jm.mp O).1);have b1:=RO.len;have c1:=RI.len;refine⟨NS rfl,fun z0 o0=>⟨_,rfl,bE (cY (by decide)),.int 0,ag,by rw[e0];omega,by rw[e0];omega,fun z hz=>?_⟩⟩;have W:SD.Sub M1 (aC (aC M1 z0 (.lst [.int 0])) z (.lst (JA ((2:Int)*((ws.map (NP t b X Y)).length:Nat)).toNat (.int 0)))):=.new hz (.new o0 .refl);have r0:(aC (aC M1 z0 (.lst [.int 0])) z (.lst (JA ((2:Int)*((ws.map (NP t b X Y)).length:Nat)).toNat (.int 0)))) z=MA (.lst ((fO (2*ws.length) l 0).map D.int)):=by rw[ag,e0,show((2:Int)*(ws.length:Nat)).toNat=2*ws.length by omega,fO,List.map_replicate]
 have nz:∀{a o},M1 a=MA o->a≠z:=fun h e=>by
  subst e
  have h0:=SD.Sub.new (o:=.lst [.int 0]) o0 .refl _ _ h
  rw[hz]at h0;cases h0
 have fz:M z=MB:=by
  cases e:M z with
  |none=>rfl
  |some o=>exact absurd rfl (nz (m0 _ _ e))
 generalize aC (aC M1 z0 (.lst [.int 0])) z (.lst (JA ((2:Int)*((ws.map (NP t b X Y)).length:Nat)).toNat (.int 0)))=M2 at W r0 ⊢;(try dsimp only[SD.aZ])
 refine eZ (fun δ y=>∃o4 o5 I:Option D,δ=[MA (.tup (ws.map (NP t b X Y))),MA (.ref lo),MA (.ref li),MA (.ref z),o4,o5,I,MB,MB,MB]/\(∀c,c≠z->y c=M2 c)/\y z=MA (.lst ((fO (2*ws.length) l l.length).map D.int))) ?_ (fun hu=>?_);rotate_left
 ·refine⟨_,rfl,lo,ps.map D.ref,rfl,W _ _ ho,fun i δ y=>∃o4 o5 I:Option D,δ=[MA (.tup (ws.map (NP t b X Y))),MA (.ref lo),MA (.ref li),MA (.ref z),o4,o5,I,MB,MB,MB]/\(∀c,c≠z->y c=M2 c)/\y z=MA (.lst ((fO (2*ws.length) l i).map D.int)),⟨_,_,_,rfl,fun _ _=>rfl,r0⟩,fun i δ y _ q=>by obtain⟨_,_,_,_,q,_⟩:=q;show y lo=_;rw[q lo (nz ho)];exact W _ _ ho,?_,?_⟩
  ·rintro i d δ y hi hd ⟨o4,o5,I,rfl,kM,v⟩;have hi:i<ps.length:=by have:i<(ps.map D.ref).length:=hi;simpa using this
   have hd:((ps.map D.ref)[i]?).map (fun d=>D.tup [.int ((i+1:Nat):Int),d])=MA d:=hd;rw[J4,J0 hi]at hd;cases hd;obtain⟨r,er,f0⟩:=RO.get hi;have A:=n0 r (J9 er);have Z:M2 ps[i]=MA (.lst (r.map fun g:Nat=>D.int (g:Int))):=W _ _ f0;refine⟨_,rfl,rfl,_,_,rfl,_,_,rfl,rfl,?_⟩;(try dsimp only[SD.aZ])
   refine RK fun B hB=>?_;refine⟨_,rfl,r.map (fun g:Nat=>D.int (g:Int)),(by show y ps[i]=_;rw[kM _ (nz f0)];exact Z),fun j δ u=>∃I:Option D,δ=[MA (.tup (ws.map (NP t b X Y))),MA (.ref lo),MA (.ref li),MA (.ref z),MA (.int ((i+1:Nat):Int)),MA (.ref ps[i]),I,MB,MB,MB]/\(∀c,c≠z->u c=M2 c)/\u z=MA (.lst ((ie (fO (2*ws.length) l i) r ((i+1:Nat):Int) j).map D.int)),⟨_,rfl,kM,v⟩,fun j δ u _ q=>by obtain⟨_,_,q,_⟩:=q;show u ps[i]=_;rw[q _ (nz f0)];exact Z,?_,?_⟩
   ·rintro j d δ u hj hd ⟨I,rfl,L,n⟩;have hj:j<r.length:=by have:j<(r.map fun g:Nat=>D.int (g:Int)).length:=hj;simpa using this
    have hd:(r.map fun g:Nat=>D.int (g:Int))[j]?=MA d:=hd;rw[J4,J0 hj]at hd;cases hd;refine⟨_,rfl,_,rfl,_,rfl,_,r[j],n,vA (by rw[IZ,gU,jC];exact A.lt _ (JW hj)),?_⟩;exact⟨_,rfl,fun c hc=>by rw[aA hc];exact L c hc,by rw[ag,lL (J0 hj),List.map_set]⟩
   ·rintro δ u ⟨I,rfl,L,n⟩;have n:u z=MA (.lst ((ie (fO (2*ws.length) l i) r ((i+1:Nat):Int) (r.map fun g:Nat=>D.int (g:Int)).length).map D.int)):=n;rw[IZ]at n;exact hB _ _ ⟨_,_,_,rfl,L,by rw[n,fO,er];rfl⟩
  ·rintro δ y ⟨o4,o5,I,rfl,kM,v⟩;have v:y z=MA (.lst ((fO (2*ws.length) l (ps.map D.ref).length).map D.int)):=v;rw[IZ,b1]at v;exact hu _ _ ⟨_,_,_,rfl,kM,v⟩
 rintro δ M3 ⟨o4,o5,I,rfl,d1,g0⟩;have G:∀{a o},M1 a=MA o->M3 a=MA o:=fun{a o} h=>by rw[d1 a (nz h)];exact W _ _ h
 refine⟨_,rfl,qs.map D.ref,G hi,by show(qs.map D.ref).length<=900000;rw[IZ];omega,fun p hp=>?_⟩;have np:∀{a o},M3 a=MA o->a≠p:=fun h=>aE h hp;refine⟨fun i kvs y=>R7 t b X Y ws ins qs i kvs/\y=aC M3 p (OH kvs),⟨R7.nil ..,rfl⟩,fun i kvs y _ q=>by obtain⟨_,rfl⟩:=q;show(aC M3 p _) li=_;rw[aA (np (G hi))];exact G hi,?_,?_⟩
 ·rintro i kvs d y C hd ⟨RD,rfl⟩;have C:i<qs.length:=by have:i<(qs.map D.ref).length:=C;simpa using this
  have hd:(qs.map D.ref)[i]?=MA d:=hd;rw[J4,J0 C]at hd;cases hd;obtain⟨r,er,s0⟩:=RI.get C;have A:=V r (J9 er);refine⟨_,rfl,?_⟩;dsimp only[SD.jQ];refine BF ?_;refine⟨_,rfl,_,rfl,t,b,X,Y,ws,qs[i],r,rfl,rfl,(by rw[aA (np (G s0))];exact G s0),S,hU,U,A.pos,A.lt,?_⟩;refine⟨_,rfl,gk t b X Y (fc ws r),sP ..,ag,?_,RD.put S.t0 S.b0 er (J0 C),by rw[bL]⟩;have:=congrArg List.length RD.ks;rw[IZ,IZ]at this;have:=jD ws ins i;omega
 rintro kvs M4 ⟨RD,rfl⟩;have RD:R7 t b X Y ws ins qs (qs.map D.ref).length kvs:=RD;rw[IZ,c1]at RD;have a0:(aC M3 p (OH kvs)) z=MA (.lst ((fO (2*ws.length) l l.length).map D.int)):=by rw[aA (np g0)];exact g0
 have i0:∀{a o},M1 a=MA o->(aC M3 p (OH kvs)) a=MA o:=fun{a o} h=>by rw[aA (np (G h))];exact G h
 have k0:(aC M3 p (OH kvs)) p=MA (OH kvs):=ag
 have fp:M1 p=MB:=by
  cases e:M1 p with
  |none=>rfl
  |some o=>rw[G e]at hp;cases hp
 generalize aC M3 p (OH kvs)=M4 at a0 i0 k0 ⊢;refine⟨_,rfl,.inr ⟨p,kvs,rfl,k0,fun p2 Z=>?_⟩⟩
 have ek:kvs.map (fun x=>Pb x.1)=(b7 ws ins ins.length).map (OG t b X Y):=by
  have:=congrArg (KN Pb) RD.ks
  rw[KC,KC]at this
  exact this
 have kb:∀c∈b7 ws ins ins.length,Nt c:=fun c hc=>by
  obtain⟨j,_,hj,e⟩:=gT hc
  rw[J0 hj]at e
  have A:=V _ (JW hj)
  rw[<-e]
  exact oW hU A.lt A.pos _ (J1 _)
 have kl:=jD ws ins ins.length;refine⟨p2,t,b,X,Y,b7 ws ins ins.length,rfl,(by rw[ag,ek]),S,by omega,kb,jY ws ins _,fun M5 zc F e1 l0 u0 pm up=>?_⟩;have c0:∀{a o},M4 a=MA o->M5 a=MA o:=fun{a o} h=>e1 _ _ (by rw[aA (aE h Z)];exact h);have f1:=c0 a0;have g1:=c0 k0;have i1:zc≠z:=fun e=>by subst e;rw[aA (aE a0 Z)]at l0;rw[a0]at l0;cases l0
 have j1:p≠z:=fun e=>by subst e;rw[g0]at hp;cases hp
 refine⟨_,u0,?_⟩;refine⟨fun i δ y=>∃I o8 o9:Option D,δ=[MA (.tup (ws.map (NP t b X Y))),MA (.ref lo),MA (.ref li),MA (.ref z),o4,o5,I,MA (.ref p),o8,o9]/\(∀c,c≠z->y c=M5 c)/\y z=MA (.lst ((fS ws ins (fO (2*ws.length) l l.length) F i).map D.int)),⟨_,_,_,rfl,fun _ _=>rfl,f1⟩,fun i δ y _ q=>by obtain⟨_,_,_,_,q,_⟩:=q;show y zc=_;rw[q zc i1];exact u0,?_,?_⟩
 ·rintro i d δ y C hd ⟨k1,o8,o9,rfl,kM,v⟩;have C:i<F.length:=by have:i<(F.map (OG t b X Y)).length:=C;simpa using this
  have hd:(F.map (OG t b X Y))[i]?=MA d:=hd;rw[J4,J0 C]at hd;cases hd;have v0:=pm.mem_iff.mp (JW C);obtain⟨j,ej,hj,_⟩:=gT v0;have w0:j<qs.length:=by omega
  obtain⟨r,er,x0⟩:=RI.get w0;have A:=V r (J9 er);have y0:M5 qs[j]=MA (.lst (r.map fun g:Nat=>D.int (g:Int))):=c0 (i0 x0);have a1:=nz x0;have eS:fS ws ins (fO (2*ws.length) l l.length) F (i+1)=fill (fS ws ins (fO (2*ws.length) l l.length) F i) r (PX ws (fS ws ins (fO (2*ws.length) l l.length) F i) F[i]):=by rw[fS,J0 C,Kd,ej,Kd,er,Kd]
  (try dsimp only[SD.aZ])
  refine RK fun B hB=>?_;refine⟨_,rfl,_,rfl,_,rfl,t,b,X,Y,ws,z,fS ws ins (fO (2*ws.length) l l.length) F i,F[i],rfl,rfl,rfl,v,by rw[kI,jC],S,hU,hF,U,kb _ v0,?_⟩;refine⟨_,rfl,_,rfl,p,kvs,gk t b X Y F[i],.ref qs[j],rfl,sP ..,(by rw[kM p j1];exact g1),(by rw[RD.vs,ej];show(qs[j]?).map D.ref=_;rw[J0 w0];rfl),r.map (fun g:Nat=>D.int (g:Int)),(by show y qs[j]=_;rw[kM _ a1];exact y0),?_⟩;refine⟨fun a δ u=>∃I:Option D,δ=[MA (.tup (ws.map (NP t b X Y))),MA (.ref lo),MA (.ref li),MA (.ref z),o4,o5,I,MA (.ref p),MA (OG t b X Y F[i]),MA (.int (PX ws (fS ws ins (fO (2*ws.length) l l.length) F i) F[i]))]/\(∀c,c≠z->u c=M5 c)/\u z=MA (.lst ((ie (fS ws ins (fO (2*ws.length) l l.length) F i) r (PX ws (fS ws ins (fO (2*ws.length) l l.length) F i) F[i]) a).map D.int)),⟨_,rfl,kM,v⟩,fun a δ u _ q=>by obtain⟨_,_,q,_⟩:=q;show u qs[j]=_;rw[q _ a1];exact y0,?_,?_⟩
  ·rintro a d δ u ha hd ⟨I,rfl,L,n⟩;have ha:a<r.length:=by have:a<(r.map fun g:Nat=>D.int (g:Int)).length:=ha;simpa using this
   have hd:(r.map fun g:Nat=>D.int (g:Int))[a]?=MA d:=hd;rw[J4,J0 ha]at hd;cases hd;refine⟨_,rfl,_,rfl,_,rfl,_,r[a],n,vA (by rw[IZ,gU,kI,jC];exact A.lt _ (JW ha)),?_⟩;exact⟨_,rfl,fun c hc=>by rw[aA hc];exact L c hc,by rw[ag,lL (J0 ha),List.map_set]⟩
  ·rintro δ u ⟨I,rfl,L,n⟩;have n:u z=MA (.lst ((ie (fS ws ins (fO (2*ws.length) l l.length) F i) r (PX ws (fS ws ins (fO (2*ws.length) l l.length) F i) F[i]) (r.map fun g:Nat=>D.int (g:Int)).length).map D.int)):=n;rw[IZ]at n;exact hB _ _ ⟨_,_,_,rfl,L,by rw[n,eS];rfl⟩
 ·rintro δ y ⟨k1,o8,o9,rfl,kM,v⟩;have v:y z=MA (.lst ((fS ws ins (fO (2*ws.length) l l.length) F (F.map (OG t b X Y)).length).map D.int)):=v;rw[IZ]at v;refine⟨_,rfl,N3 (k y z _ (fun a o h=>?_) fz v ⟨rs,F,R,by rw[N];exact pm,up,by rw[N,J]⟩)⟩;have h1:=m0 _ _ h;rw[kM a (nz h1)];exact c0 (i0 h1)
theorem cO:NL ["plot","outers","inners","lands","numbers","ring"] ["plot"] (az kO):=by walk_at "sc"
inductive PJ(u:D)(M:MH)(Q:DK):Prop
 |mk (t b X Y:Int) (ws:List Wl) (_:u=.tup (ws.map (NP t b X Y))) (_:OE t b X Y) (_:ws.length<=40) (_:(∀w∈ws,NO w)) (_:PF ws) (_:∀(M':MH) (z:Addr) (ps qs es:List Addr) (rs:List (List Nat)) (L:List Int),SD.Sub M M'->M z=MB->OO ws (2*ws.length) rs->ko ws L->RL M' ps (rs.filter (aL ws))->RL M' qs (rs.filter fun r=>!aL ws r)->es.length=ps.length+1->M' z=MA (.lst (Pl ps es))->(∀(j:Nat) e,es[j]?=MA e->M' e=MA (.lst ((R0 L (rs.filter fun r=>!aL ws r) qs j qs.length).map D.ref)))->(∀p∈ps++qs++es,M p=MB)->Q (.ref z) M')
theorem rF(T:Tx K mg):Cal P w K mg base 10 "lands_of" (Pc PJ):=by
 refine fo (k:=9) T.f_lands_of cO fun f cdv A outer s H E hr=>⟨_,(ak (cR (ay (eW T).m hr (aa (dv 0) af)) (bX rfl (aI (aF 1 cO.nd) (aI (aF 2 cO.nd) bD)))) (ak (aG 3 cO.nd (aD bF (bR (aa (aV (aa r9 (aa (bR af) af))) af)) (iJ (NM.of (xs:=["ring"]) (js:=[]) rfl) rfl (aT (dv 1)) (fun _ _ _ _=>ff) (fun _ _ _ _=>(aV (aa (dv 0) (aa (bR af) af))))))) (ak (aG 4 cO.nd (ay (jk T).m hr (aa (dv 0) af))) (ak (bM Js rfl (aT (dv 2)) (aF 5 cO.nd) (aw (dM (bQ (aB (aB (dv 3) (aB (dv 4) (aB (dv 5) aj))) aj) (aa (dv 5) af))))) (aw (aH (dv 3))))))),fun _ M Q h=>?_⟩;obtain⟨t,b,X,Y,ws,rfl,S,V,hU,hF,k⟩:=h;refine⟨_,rfl,t,b,X,Y,ws,rfl,S,V,hU,hF,fun N lo li ps qs rs O R ho hi RO RI d1 e1 s0=>?_⟩;refine⟨_,rfl,rfl,_,_,rfl,_,_,rfl,rfl,?_⟩;generalize C:rs.filter (aL ws)=c0 at RO k;generalize I:(rs.filter fun r=>!aL ws r)=ins at RI k;have c1:=gO hU hF (J1 _) R;have g1:=gR R;have h1:c0.length<=80:=by rw[<-C];have:=Ky (aL ws) rs;omega
 have i1:ins.length<=80:=by rw[<-I];have:=Ky (fun r=>!aL ws r) rs;omega
 have j1:=RO.len;have k1:=RI.len;refine⟨NS rfl,fun u d0=>⟨NS rfl,NS rfl,fun a1 g0=>?_⟩⟩;have hE:(aC (aC N u (.lst [])) a1 (.lst [.tup [.non,.ref u]])) u=MA (.lst []):=by rw[aA (aE ag g0)];exact ag
 have hA:(aC (aC N u (.lst [])) a1 (.lst [.tup [.non,.ref u]])) a1=MA (.lst [.tup [.non,.ref u]]):=ag;have s2:SD.Sub N (aC (aC N u (.lst [])) a1 (.lst [.tup [.non,.ref u]])):=.new g0 (.new d0 .refl);generalize aC (aC N u (.lst [])) a1 (.lst [.tup [.non,.ref u]])=M2 at hE hA s2 ⊢;refine⟨_,rfl,ps.map D.ref,s2 _ _ ho,by show(ps.map D.ref).length<=1000000;rw[IZ];omega,fun z hz=>?_⟩;refine⟨fun i ys F=>∃es:List Addr,es.length=i/\ys=Qv ps es/\SD.Sub M2 F/\F z=MA (.lst ys)/\(∀e∈es,F e=MA (.lst [])/\M2 e=MB/\e≠z)/\es.Nodup,⟨[],rfl,rfl,.new hz .refl,ag,(by simp),Mw⟩,fun i ys F _ q=>by obtain⟨_,_,_,q,_⟩:=q;exact q _ _ (s2 _ _ ho),?_,?_⟩
 ·rintro i ys d F g hd ⟨es,el,rfl,sb,h0,fe,ne⟩;have hd:(ps.map D.ref)[i]?=MA d:=hd;have g:i<ps.length:=by have:i<(ps.map D.ref).length:=g;simpa using this
  rw[J4,J0 g]at hd;cases hd;refine⟨_,rfl,?_⟩;dsimp only[SD.jQ];refine BF ?_;refine⟨_,rfl,NS rfl,fun e J=>⟨NS rfl,?_⟩⟩;have Z:z≠e:=aE h0 J;have t0:(aC F e (.lst [])) z=MA (.lst (Qv ps es)):=by rw[aA Z];exact h0
  have ts:=zf ps es e;rw[el,J0 g]at ts;refine⟨_,.refl,t0,es++[e],by simp[el],ts.symm,fun a o h=>?_,ag,fun x hx=>?_,?_⟩
  ·have na:a≠z:=aE h hz;rw[aA na,aA (aE (sb _ _ h) J)];exact sb _ _ h
  ·rcases Jo.mp hx with y|y
   ·obtain⟨f1,f2,f3⟩:=fe x y;exact⟨by rw[aA f3,aA (aE f1 J)];exact f1,f2,f3⟩
   ·rw[JT.mp y];refine⟨by rw[aA Z.symm];exact ag,?_,Z.symm⟩;cases q:M2 e with
    |none=>rfl
    |some o=>rw[sb _ _ q]at J;cases J
  ·rw[Lv];exact⟨ne,by simp,fun a ha c hc e'=>by rw[JT]at hc;rw[e',hc]at ha;rw[(fe e ha).1]at J;cases J⟩
 rintro ys M3 ⟨es,el,rfl,U,u0,fe,ne⟩;have el:es.length=ps.length:=by rw[el];show(ps.map D.ref).length=_;rw[IZ]
 have tl:(Qv ps es).length=es.length:=by unfold Qv;simp
 refine⟨_,_,U _ _ hA,u0,(by have:1000<=Jb:=NS rfl;rw[tl];show 1+_<=_;omega),fun l hl=>?_⟩;rw[zu]
 have i0:N l=MB:=by
  cases q:N l with
  |none=>rfl
  |some o=>rw[U _ _ (s2 _ _ q)]at hl;cases hl
 have v0:M l=MB:=by
  cases q:M l with
  |none=>rfl
  |some o=>rw[O _ _ q]at i0;cases i0
 have s4:SD.Sub M3 (aC M3 l (.lst (Pl ps (u::es)))):=.new hl .refl;have a0:(aC M3 l (.lst (Pl ps (u::es)))) l=MA (.lst (Pl ps (u::es))):=ag;have w0:=U _ _ hE
 have n:∀e∈u::es,M3 e=MA (.lst [])/\N e=MB:=fun e J=>by
  rcases Jv.mp J with y|y
  ·subst y;exact⟨w0,d0⟩
  ·obtain⟨f1,f2,_⟩:=fe e y;refine⟨f1,?_⟩;cases q:N e with
   |none=>rfl
   |some o=>rw[s2 _ _ q]at f2;cases f2
 have k0:(u::es).Nodup:=Ku.mpr ⟨(fun m=>by have:=(fe u m).2.1;rw[hE]at this;cases this),ne⟩;generalize ea:u::es=G at n k0 a0 s4;have x0:G.length=ps.length+1:=by rw[<-ea,Jr,el]
 show SD.aZ 3 (D.ref l) _ (aC M3 l (.lst (Pl ps G))) _;generalize aC M3 l (.lst (Pl ps G))=M4 at s4 a0 ⊢;refine⟨_,rfl,t,b,X,Y,ws,rfl,S,V,hU,hF,fun M5 zn L b0 y0 z0 il=>?_⟩;have sM:∀a o,N a=MA o->M5 a=MA o:=fun a o h=>b0 _ _ (s4 _ _ (U _ _ (s2 _ _ h)));have nq:∀a o,N a=MA o->a∉G:=fun a o h m=>by rw[(n a m).2]at h;cases h
 have l0:=b0 _ _ a0;have nl:l∉G:=fun m=>by rw[(n l m).1]at hl;cases hl
 have nn:zn∉G:=fun m=>by
  have:=s4 _ _ (n zn m).1
  rw[y0]at this;cases this
 refine⟨_,rfl,qs.map D.ref,sM _ _ hi,fun i δ F=>∃(o5:Option D),δ=[MA (.tup (ws.map (NP t b X Y))),MA (.ref lo),MA (.ref li),MA (.ref l),MA (.ref zn),o5]/\(∀a o,a∉G->M5 a=MA o->F a=MA o)/\∀(j:Nat) e,G[j]?=MA e->F e=MA (.lst ((R0 L ins qs j i).map D.ref)),⟨_,rfl,fun a o _ h=>h,fun j e h=>b0 _ _ (s4 _ _ (n e (J9 h)).1)⟩,fun i δ F _ q=>by obtain⟨_,_,q,_⟩:=q;exact q _ _ (nq _ _ hi) (sM _ _ hi),?_,?_⟩
 ·rintro i d δ F g hd ⟨o5,rfl,W,kE⟩;have g:i<qs.length:=by have:i<(qs.map D.ref).length:=g;simpa using this
  have hd:(qs.map D.ref)[i]?=MA d:=hd;rw[J4,J0 g]at hd;cases hd;obtain⟨r,er,mr⟩:=RI.get g;have mi:r∈rs:=by have:=J9 er;rw[<-I]at this;exact(Jm.mp this).1
  obtain⟨f0,f1,Rf⟩:=ck R r mi;have r0:r[0]?=MA f0/\r.headD 0=f0:=by obtain⟨kk,_,_,e⟩:=Rf;rw[e,rn,Kt];exact⟨rfl,rfl⟩
  obtain⟨v,ev,vl⟩:=Av hU hF R il f1;rw[C]at vl;have va:v<G.length:=by omega
  have eA:G[v]?=MA G[v]:=J0 va;(try dsimp only[SD.aZ])
  refine RK fun B hB=>?_;refine⟨_,rfl,_,rfl,_,rfl,_,_,W _ _ (nq _ _ mr) (sM _ _ mr),bz (v:=D.int (f0:Int)) (by rw[J4,r0.1];rfl),_,_,W _ _ nn z0,bz (v:=D.int (v:Int)) (by rw[J4,ev];rfl),_,_,W _ _ nl l0,bz (Ar ps G va),_,rfl,?_⟩;rw[eA];refine⟨_,_,rfl,kE v _ eA,_,rfl,_,_,rfl,kE v _ eA,(by rw[IZ];have:=Bi L ins qs v i;omega),?_⟩;refine hB _ _ ⟨_,rfl,fun a o na h=>?_,fun j e J=>?_⟩
  ·rw[aA (fun z=>na (by rw[z];exact JW va))];exact W a o na h
  ·have m0:e=G[v]↔j=v:=by obtain⟨hj,ej⟩:=Ja.mp J;rw[<-ej];exact List.getElem_inj k0
   have eh:((ins[i]?).getD []).headD 0=f0:=by rw[er];exact r0.2
   have b1:(L[f0]?).getD 0=(v:Int):=by rw[ev];rfl
   have eq:(qs[i]?).getD 0=qs[i]:=by rw[J0 g];rfl
   rw[yC,eh,b1,eq];show(aC F G[v] (.lst ((R0 L ins qs v i).map D.ref++[D.ref qs[i]]))) e=_;by_cases c:j=v
   ·subst c;rw[m0.mpr rfl,ag,MF rfl,Jk];rfl
   ·rw[aA (fun z=>c (m0.mp z)),kE j e J,ME (fun z=>c (by omega)),Kc]
 ·rintro δ F ⟨o5,rfl,W,kE⟩
  have tf:∀{n0:List Addr} {o0:List (List Nat)},RL N n0 o0->RL F n0 o0:=fun h=>by
   induction h with
   |nil=>exact .nil
   |cons a _ ih=>exact .cons (W _ _ (nq _ _ a) (sM _ _ a)) ih
  refine⟨_,rfl,N3 (k F l ps qs G rs L (fun a o h=>W _ _ (nq _ _ (O _ _ h)) (sM _ _ (O _ _ h))) v0 R il (by rw[C];exact tf RO) (by rw[I];exact tf RI) x0 (W _ _ nl l0) (fun j e J=>?_) fun p hp=>?_)⟩
  ·have:=kE j e J;rw[I]
   rwa [show(qs.map D.ref).length=qs.length from IZ ..]at this
  ·rcases Jo.mp hp with y|y
   ·exact s0 p y
   ·cases q:M p with
    |none=>rfl
    |some o=>have:=(n p y).2;rw[O _ _ q]at this;cases this
theorem bY:NL ["_law_script","_law_k","_law_row","_law_scale_here","_law_shuts","_law_plot","_law_rings","_law_faces","_law_ring","_law_total","_law_groups_here","_law_flat","_law_one","_law_other","_law_area"] ["_law_script"] (az Cb):=by walk_at "sc"
inductive Qh(x:D)(M:MH)(Q:DK):Prop
 |mk (ns:_) (hh0:x=.rol (KN D.int ns)) (hh1:ns.length<=63) (hh2:∀M',Q (.bl MC) M'):Qh x M Q
def jv:P5:=fun a M Q=>match a with
 |[x]=>Qh x M Q
 |_=>False
theorem DJ:∀a M Q,jv a M Q->a.length=1:=fun a M Q h=>by
 unfold jv at h;split at h
 ·rfl
 ·exact h.elim
theorem GV{P:Jl}{w:JL}{K:IW}{mg:Str->Option I0}{fa:Addr}(T:Tx K mg)(j2:mg "law"=MA (.ref fa)):∃fd,(∀(s:IY) (u:I0),BindsTo s fd ⟨[u],[]⟩ [("_law_script",u)])/\∀base:Heap,OA P w K mg base PU 11 fa fd ["_law_script"] (iC K jv):=by
 refine II (k:=10) (N:=["_law_script","_law_k","_law_row","_law_scale_here","_law_shuts","_law_plot","_law_rings","_law_faces","_law_ring","_law_total","_law_groups_here","_law_flat","_law_one","_law_other","_law_area"]) T.f_law j2 bY (fun _ _ _ _ _ _ us hl=>by obtain⟨_,rfl⟩:=SD.BQ hl;rfl) DJ fun base f cdv A outer s H E I=>⟨_,(ak (gX Js rfl rfl T.b_range (aa (aN (uJ rfl I.units) rfl T.b_max yO (aa aj (aa (aN (uP rfl I.units) rfl T.b_min yS (aa aj (aa (aN cW rfl T.b_len cT (aa (dv 0) af)) af))) af))) af) (aF 1 bY.nd) (ak (aG 2 bY.nd (bR (aa (ay (mL T).m I (aa (dv 0) (aa (dv 1) af))) (aa aj af)))) (ak (aG 3 bY.nd (ay (pS T).m I (aa (dv 2) af))) (ak (aG 4 bY.nd (ay (jI T).m I (aa (dv 2) (aa aj (aa aj af))))) (ak (aG 5 bY.nd (ay (rE T).m I (aa (dv 3) (aa (dv 4) af)))) (ak (aG 6 bY.nd (ay (mC T).m I (aa (dv 5) af))) (ak (aG 7 bY.nd (bR af)) (ak (bM Js rfl (aT (dv 6)) (aF 8 bY.nd) (aw (aG 7 bY.nd (aD bF (dv 7) (dv 8))))) (ak (bJ (aP (fI I.units) (aN qC rfl T.b_sorted jz (aa (dv 7) af)) (qm rfl T.b_list T.b_range (aa (aD aO aj (aN cW rfl T.b_len cT (aa (dv 4) af))) af))) (aw (aH g9)) aU) (ak (aG 9 bY.nd (aV (aa aj (aa aj af)))) (ak (aG 10 bY.nd (ay (pj T).m I (aa (dv 4) af))) (ak (aG 11 bY.nd (bR af)) (ak (bM Js rfl (aT (dv 6)) (aF 8 bY.nd) (ak (bM Js rfl (Eg rfl T.b_zip (aa (dv 8) (aa (aD bF (pU (dv 8) (oD aj) uV) (pU (dv 8) uV (oD aj))) af))) (bX rfl (aI (aF 12 bY.nd) (aI (aF 13 bY.nd) bD))) (aw (bJ (aP (fI I.units) (aB (ay (l9 T).m I (aa (dv 5) (aa (dv 12) af))) aj) (aB (ay (l9 T).m I (aa (dv 5) (aa (dv 13) af))) aj)) (aw (aH g9)) aU))) (ak (aG 14 bY.nd (ay (qo T).m I (aa (dv 5) (aa (dv 8) af)))) (ak (aG 9 bY.nd (ay (jO T).m I (aa (aD bF (aD aO (aB (dv 9) aj) (aB (dv 14) aj)) (aD aO (aB (dv 14) aj) (aB (dv 9) aj))) (aa (aD aO (aB (dv 9) aj) (aB (dv 14) aj)) af)))) (aw (bJ (aP (rS I.units) (aB (dv 14) aj) aj) (aw (dM (bQ (dv 11) (aa (aB (dv 10) (aD fE (aB (dv 8) aj) aj)) af)))) aU)))))) (ak (bJ (rz (CC (aP (fI I.units) (dv 9) (aV (aa aj (aa aj af)))) (yH (aP (fI I.units) (aN qC rfl T.b_sorted jz (aa (dv 11) af)) (qe rfl rfl T.b_sorted rfl T.b_set (dv 10)))))) (aw (aH g9)) aU) (aw (bJ (aP (fI I.units) (aD bF (aD dZ (aN cW rfl T.b_len cT (aa (ay (oY T).m I (aa (dv 5) af)) af)) (aN cW rfl T.b_len cT (aa (dv 4) af))) (aN cW rfl T.b_len cT (aa (ay (rF T).m I (aa (dv 5) af)) af))) (aD bF aj (aN cW rfl T.b_len cT (aa (dv 11) af)))) (aw (aH g9)) aU)))))))))))))))) (aw (aH g9))),fun ds M Q h=>?r⟩
 case r=>
  unfold jv at h
  split at h
  case h_2=>exact h.elim
  obtain⟨ns,rfl,hl,k⟩:=h
  refine⟨_,rfl,(max 1 (min 3 (((KN D.int ns).length:Nat):Int))).toNat,?_,by omega,fun i δ M=>∃T:List (Option D),δ=MA (.rol (KN D.int ns))::T/\T.length=14,⟨_,rfl,rfl⟩,?_,fun _ _ _=>N3 (k _)⟩
  ·rw[Int.toNat_of_nonneg (by omega)]
  rintro i δ M hi ⟨T,rfl,hT⟩
  refine Pe hT fun o1 T hT=>?_
  refine Pe hT fun o2 T hT=>?_
  refine Pe hT fun o3 T hT=>?_
  refine Pe hT fun o4 T hT=>?_
  refine Pe hT fun o5 T hT=>?_
  refine IB hT fun o6 o7 V o9 y0 z0 n x C=>?_
  (try dsimp only[SD.aZ])
  refine XS fun B hB hR=>?_
  refine⟨_,rfl,_,rfl,ns,i,rfl,rfl,by omega,fun z=>⟨NS rfl,fun O a1=>?_⟩⟩
  refine⟨_,rfl,O,z,0,rfl,ag,by decide,by decide,fun x1 c1 t b X Y S h1 h2=>?_⟩
  refine⟨_,rfl,O,x1,c1,10,rfl,rfl,by decide,rfl,ag,h1,by omega,fun M2 x2 c2 l ws k2 r2 n0 g0 g1 g2 J Z=>?_⟩
  clear r2 k2 g0 g1 h1 h2 a1
  have hW:∀w∈ws,XX (10^6) w:=fun w hw=>by
   have h:=J w hw
   have U:∀z:Int,(0<=z/\z<=20)->(-(10^6)<=z/\z<=10^6):=fun z h=>by omega
   exact⟨U _ h.a,U _ h.b,U _ h.c,U _ h.d⟩
  have wl:ws.length<=10:=by omega
  refine⟨_,rfl,_,rfl,t,b,X,Y,l,ws,rfl,rfl,n0,S,by omega,hW,?_⟩
  refine⟨_,rfl,t,b,X,Y,ws,rfl,S,by omega,J,Z,fun M3 lr ps y d1 s2 a0 G RR t2=>?_⟩
  have i0:=gO J Z (J1 _) G
  have i1:=nV J Z G
  have j1:y.flatten.length<=20:=by have:=tq _ _ i1 fun g hg=>(fH J Z G g).mp hg;omega
  have k0:∀j,(y.take j).flatten.length<=20:=fun j=>by
   have:=congrArg (fun l=>(List.flatten l).length) (Mc j y)
   rw[List.flatten_append,JX]at this
   omega
  have k1:∀{j:Nat} {r:List Nat},y[j]?=MA r->(y.take (j+1)).flatten=(y.take j).flatten++r:=fun{j r} e=>by rw[KR,e,List.flatten_append,LY,L8,List.flatten_nil,Kc]
  have o0:=d1 _ _ n0
  have pl:=RR.len
  have sz:1000<=Jb:=NS rfl
  clear n0 d1 s2 t2
  generalize eP:D.tup (ws.map (NP t b X Y))=PL
  refine⟨NS rfl,fun r1 l0=>?_⟩
  (try dsimp only[SD.aZ])
  refine eZ (fun δ F=>Qu fun(lf:Addr) (V:Option D)=>δ=[MA (.rol (KN D.int ns)),MA (.int (i:Int)),MA (.ref O),MA (Qw t b X Y),MA (.ref l),MA PL,MA (.ref lr),MA (.ref lf),V,o9,y0,z0,n,x,C]/\SD.Sub M3 F/\F lf=MA (.lst ((y.flatten.map fun g:Nat=>(g:Int)).map D.int))) ?_ (fun hu=>?_)
  rotate_left
  ·refine⟨_,rfl,ps.map D.ref,(by show(aC M3 r1 _) lr=_;rw[aA (aE a0 l0)];exact a0),fun j δ F=>Qu fun(lf:Addr) (V:Option D)=>δ=[MA (.rol (KN D.int ns)),MA (.int (i:Int)),MA (.ref O),MA (Qw t b X Y),MA (.ref l),MA PL,MA (.ref lr),MA (.ref lf),V,o9,y0,z0,n,x,C]/\SD.Sub M3 F/\F lf=MA (.lst (((y.take j).flatten.map fun g:Nat=>(g:Int)).map D.int)),⟨r1,_,rfl,.new l0 .refl,ag⟩,fun j δ F _ q=>by obtain⟨_,_,_,q,_⟩:=q;exact q _ _ a0,?_,?_⟩
   ·rintro j d δ F hj hd ⟨lf,V,rfl,sb,hf⟩;have hd:(ps.map D.ref)[j]?=MA d:=hd;have hj:j<ps.length:=by have:j<(ps.map D.ref).length:=hj;rw[IZ]at this;exact this
    obtain⟨r,er,mr⟩:=RR.get hj;rw[J4,J0 hj]at hd;cases hd;have rl:=(i0 r (J9 er)).len;have u2:=k0 j;refine⟨_,rfl,_,rfl,_,_,hf,sb _ _ mr,(by rw[IZ,IZ,IZ];omega),fun q hq=>?_⟩;refine⟨q,_,rfl,.new hq sb,?_⟩;rw[ag,k1 er,Jk,Jk,KC (l:=r)];rfl
   ·rintro δ F ⟨lf,V,rfl,sb,hf⟩;refine hu _ _ ⟨lf,_,rfl,sb,?_⟩;rw[show y.take (ps.map D.ref).length=y by rw[IZ,pl,LP]]at hf;exact hf
  rintro δ M4 ⟨lf,V,rfl,s1,t1⟩
  refine⟨_,rfl,_,t1,(by rw[IZ];omega),fun zs w3 u1 pm up=>?_⟩
  have en:=q0 J Z G pm up
  subst en
  have s5:SD.Sub M4 (aC M4 zs (.lst (((J6 (2*ws.length)).map fun g:Nat=>(g:Int)).map D.int))):=.new u1 .refl
  have h0:(aC M4 zs (.lst (((J6 (2*ws.length)).map fun g:Nat=>(g:Int)).map D.int))) zs=MA (.lst (((J6 (2*ws.length)).map fun g:Nat=>(g:Int)).map D.int)):=ag
  generalize aC M4 zs (.lst (((J6 (2*ws.length)).map fun g:Nat=>(g:Int)).map D.int))=M5 at s5 h0 ⊢
  have s0:=SD.Sub.trans s1 s5
  have lm:(ws.map uw).length=ws.length:=IZ ..
  refine⟨_,rfl,_,s0 _ _ o0,bE (cY (by decide)),2*ws.length,(by rw[lm];simp),by omega,fun zr u0=>?_⟩
  have e6:((J6 (2*ws.length)).map fun i:Nat=>D.int (i:Int))=((J6 (2*ws.length)).map fun g:Nat=>(g:Int)).map D.int:=by rw[KC];rfl
  dsimp only
  rw[e6]
  refine⟨_,_,.lst (by rw[aA (aE h0 u0)];exact h0) (gn _),.lst ag (gn _),shaped_ints _,shaped_ints _,_,rfl,?_⟩
  rw[wW]
  refine j9 rfl ?_
  have s6:SD.Sub M3 (aC M5 zr (.lst (((J6 (2*ws.length)).map fun g:Nat=>(g:Int)).map D.int))):=.new u0 s0
  generalize aC M5 zr (.lst (((J6 (2*ws.length)).map fun g:Nat=>(g:Int)).map D.int))=M6 at s6
  clear s5 h0 s0 u0 u1 pm up e6 s1 t1 i1 j1
  clear M5 M4
  refine⟨NS rfl,?_⟩
  refine⟨_,rfl,l,ws,rfl,s6 _ _ o0,by omega,fun M7 zg L s7 x3 v1 y3 v2=>?_⟩
  refine⟨NS rfl,fun fl w2=>?_⟩
  have e0:=SD.Sub.trans s6 s7
  have nf:∀{a o},M7 a=MA o->a≠fl:=fun h=>aE h w2
  (try dsimp only[SD.aZ])
  refine eZ (fun δ F=>VR fun(V n x C:Option D)=>δ=[MA (.rol (KN D.int ns)),MA (.int (i:Int)),MA (.ref O),MA (Qw t b X Y),MA (.ref l),MA PL,MA (.ref lr),MA (.ref lf),V,MA (NI 0),MA (.ref zg),MA (.ref fl),n,x,C]/\(∀{a o},M7 a=MA o->F a=MA o)/\F fl=MA (.lst ((Pj L ws y).map D.int))) ?_ (fun hu=>?_)
  rotate_left
  ·refine⟨_,rfl,ps.map D.ref,(by show(aC M7 fl _) lr=_;rw[aA (nf (e0 _ _ a0))];exact e0 _ _ a0),fun j δ F=>VR fun(V n x C:Option D)=>δ=[MA (.rol (KN D.int ns)),MA (.int (i:Int)),MA (.ref O),MA (Qw t b X Y),MA (.ref l),MA PL,MA (.ref lr),MA (.ref lf),V,MA (NI (aq t b ((y.take j).flatten.map (Nc ws)).sum)),MA (.ref zg),MA (.ref fl),n,x,C]/\(∀{a o},M7 a=MA o->F a=MA o)/\F fl=MA (.lst ((Pj L ws (y.take j)).map D.int)),⟨V,n,x,C,?_,fun h=>by rw[aA (nf h)];exact h,ag⟩,fun j δ F _ q=>by obtain⟨_,_,_,_,_,q,_⟩:=q;exact q (e0 _ _ a0),?_,?_⟩
   ·rw[List.take_zero,List.flatten_nil,KA,List.sum_nil,uK];rfl
   ·rintro j d δ F hj hd ⟨V,n,x,C,rfl,kp,hf⟩;have hd:(ps.map D.ref)[j]?=MA d:=hd;have hj:j<ps.length:=by have:j<(ps.map D.ref).length:=hj;rw[IZ]at this;exact this
    obtain⟨r,er,mr⟩:=RR.get hj;rw[J4,J0 hj]at hd;cases hd;have mi:=J9 er;have A:=i0 r mi;obtain⟨f0,f1,R⟩:=ck G r mi;have y2:r.length<=80:=by have:=A.len;omega
    have hp:=kp (e0 _ _ mr);generalize ps[j]=p at mr hp;(try dsimp only[SD.aZ])
    refine XS fun B hB hR=>?_;refine eZ (fun δ d0=>Qu fun(n x:Option D)=>δ=[MA (.rol (KN D.int ns)),MA (.int (i:Int)),MA (.ref O),MA (Qw t b X Y),MA (.ref l),MA PL,MA (.ref lr),MA (.ref lf),MA (.ref p),MA (NI (aq t b ((y.take j).flatten.map (Nc ws)).sum)),MA (.ref zg),MA (.ref fl),n,x,C]/\SD.Sub F d0) ?_ (fun hu=>?_);rotate_left
    ·refine⟨_,rfl,_,rfl,1,rfl,_,hp,fun p1 w1=>?_⟩;have a3:(aC F p1 (.lst (cutD (r.map fun g:Nat=>D.int (g:Int)) (MA 1) MB))) p=MA (.lst (r.map fun g:Nat=>D.int (g:Int))):=by rw[aA (aE hp w1)];exact hp
     refine⟨_,rfl,1,rfl,_,a3,fun p2 y1=>?_⟩;have n2:p1≠p2:=aE ag y1;have c0:0<(r.map fun g:Nat=>D.int (g:Int)).length:=by rw[IZ];exact A.pos
     have cr:=A5 _ c0;rw[<-List.map_drop,<-List.map_take,<-Jk,zC R]at cr;have cl:(cutD (r.map fun g:Nat=>D.int (g:Int)) (MA 1) MB).length+(cutD (r.map fun g:Nat=>D.int (g:Int)) MB (MA 1)).length=r.length:=by rw[<-JX,cr,IZ,IZ]
     refine⟨_,_,(by rw[aA n2,ag]),ag,(by rw[cl];omega),fun p3 b3=>?_⟩;rw[cr];have W:SD.Sub F (aC (aC (aC F p1 (.lst (cutD (r.map fun g:Nat=>D.int (g:Int)) (MA 1) MB))) p2 (.lst (cutD (r.map fun g:Nat=>D.int (g:Int)) MB (MA 1)))) p3 (.lst ((r.map (bh ws)).map fun g:Nat=>D.int (g:Int)))):=.new b3 (.new y1 (.new w1 .refl));have h9:(aC (aC (aC F p1 (.lst (cutD (r.map fun g:Nat=>D.int (g:Int)) (MA 1) MB))) p2 (.lst (cutD (r.map fun g:Nat=>D.int (g:Int)) MB (MA 1)))) p3 (.lst ((r.map (bh ws)).map fun g:Nat=>D.int (g:Int)))) p3=MA (.lst ((r.map (bh ws)).map fun g:Nat=>D.int (g:Int))):=ag;generalize aC (aC (aC F p1 (.lst (cutD (r.map fun g:Nat=>D.int (g:Int)) (MA 1) MB))) p2 (.lst (cutD (r.map fun g:Nat=>D.int (g:Int)) MB (MA 1)))) p3 (.lst ((r.map (bh ws)).map fun g:Nat=>D.int (g:Int)))=M9 at W h9;refine⟨p,p3,_,_,rfl,W _ _ hp,h9,fun a δ d0=>d0=M9/\Qu fun(n x:Option D)=>δ=[MA (.rol (KN D.int ns)),MA (.int (i:Int)),MA (.ref O),MA (Qw t b X Y),MA (.ref l),MA PL,MA (.ref lr),MA (.ref lf),MA (.ref p),MA (NI (aq t b ((y.take j).flatten.map (Nc ws)).sum)),MA (.ref zg),MA (.ref fl),n,x,C],⟨rfl,_,_,rfl⟩,fun a δ d0 _ q=>by obtain⟨rfl,_⟩:=q;exact⟨W _ _ hp,h9⟩,?_,?_⟩
     ·rintro a d δ d0 ha hd ⟨rfl,n,x,rfl⟩;have hd:((r.map fun g:Nat=>D.int (g:Int))[a]?).bind (fun d=>(((r.map (bh ws)).map fun g:Nat=>D.int (g:Int))[a]?).map fun e=>D.tup [d,e])=MA d:=hd;rw[J4,J4,J4]at hd;cases eg:r[a]? with
      |none=>rw[eg]at hd;cases hd
      |some g=>
       rw[eg]at hd
       cases hd
       have gl:=A.lt g (J9 eg)
       have gb:=zZ J Z gl
       have ge:=gv J Z gl
       refine⟨_,rfl,rfl,_,_,rfl,_,_,rfl,rfl,?_⟩
       refine⟨_,rfl,_,rfl,t,b,X,Y,ws,g,eP.symm,rfl,gl,by omega,_,rfl,?_⟩
       refine⟨_,rfl,_,rfl,t,b,X,Y,ws,bh ws g,eP.symm,rfl,gb,by omega,_,rfl,?_⟩
       refine⟨_,_,Pd.of rfl,Pd.of rfl,rfl,rfl,_,rfl,?_⟩
       rw[NG]
       have e1:(fw ws g).2.2.1=(fw ws (bh ws g)).1:=(congrArg Prod.fst ge).symm
       have e2:(fw ws g).2.2.2=(fw ws (bh ws g)).2.1:=(congrArg Prod.snd ge).symm
       rw[e1,e2,MI ⟨rfl,rfl⟩]
       exact j9 rfl ⟨rfl,_,_,rfl⟩
     ·rintro δ d0 ⟨rfl,n,x,rfl⟩;exact hu _ _ ⟨_,_,rfl,W⟩
    rintro δ M9 ⟨s3,t3,rfl,W⟩;refine⟨_,rfl,_,rfl,t,b,X,Y,ws,p,r,eP.symm,rfl,W _ _ hp,S,J,by omega,y2,A.lt,?_⟩;rw[Gu J Z A.rng S.b0];have u2:=k0 j
    have tb:=ye J (y.take j).flatten fun g hg=>(fH J Z G g).mp (by
     obtain⟨r',c3,m⟩:=Lj.mp hg
     exact Lj.mpr ⟨r',List.mem_of_mem_take c3,m⟩)
    have rb:=ye J r A.lt;have b1:=Ck S (s:=((y.take j).flatten.map (Nc ws)).sum) (by omega) (by omega);have b2:=Ck S (s:=(r.map (Nc ws)).sum) (by omega) (by omega);have ad:=Ac (aq t b ((y.take j).flatten.map (Nc ws)).sum) (aq t b (r.map (Nc ws)).sum);rw[C3 S.b0,<-List.sum_append,<-Jk,<-k1 er]at ad;have ao:=DQ S.t0 S.b0 (r.map (Nc ws)).sum;generalize aq t b ((y.take j).flatten.map (Nc ws)).sum=q1 at b1 ad ⊢;generalize aq t b (r.map (Nc ws)).sum=q2 at b2 ad ao ⊢;have m1:=dz (b1.1.mono (show 200<=1000000 by decide)) (b2.2.mono (show 200<=1000000 by decide));have m2:=dz (b2.1.mono (show 200<=1000000 by decide)) (b1.2.mono (show 200<=1000000 by decide));have m3:=dz (b1.2.mono (show 200<=1000000 by decide)) (b2.2.mono (show 200<=1000000 by decide));refine⟨_,rfl,_,rfl,_,rfl,_,rfl,m1,_,rfl,_,rfl,_,rfl,_,rfl,m2,_,rfl,_,rfl,_,rfl,_,rfl,m3,_,_,rfl,rfl,?_,((b1.1.mul b2.2).add (b2.1.mul b1.2)).mono (by decide),(b1.2.mul b2.2).mono (by decide),?_⟩
    ·have:=NJ q1;have:=NJ q2;exact Int.ne_of_gt (JE ‹_› ‹_›)
    rw[ad];obtain⟨r0,rh⟩:=GZ R;have ft:=AZ L ws er;rw[rh]at ft;have v0:=W _ _ hf
    have fj:(Pj L ws (y.take j)).length<=80:=by
     have h1:(Pj L ws (y.take j)).length<=(y.take j).length:=by unfold Pj;rw[IZ];exact Ky _ _
     have h2:(y.take j).length<=y.length:=by rw[KJ];exact Nat.min_le_right _ _
     have:=gR G
     omega
    refine⟨_,rfl,_,rfl,trivial,_,rfl,?_⟩;refine cD (fun h=>?_) (fun h=>?_)
    ·have h:q2.num<=0:=MJ h;have o:aL ws r=MD:=MG fun z=>by have:=ao.mpr z;omega
     rw[ME (by rw[o];decide)]at ft;refine⟨_,rfl,fl,_,rfl,v0,_,rfl,_,rfl,_,_,W _ _ hp,bz (v:=D.int (f0:Int)) (by rw[J4,r0];rfl),⟨by decide,cY (by decide)⟩,_,.int ((L (f0/2):Nat):Int),W _ _ (kp v1),?_,_,_,rfl,v0,(by rw[IZ];omega),?_⟩
     ·rw[E9];refine bz ?_;rw[<-pW];exact ky L (by omega)
     ·refine hB _ _ ⟨_,_,_,_,rfl,fun h=>by rw[aA (nf h)];exact W _ _ (kp h),?_⟩;rw[ag,ft,Jk];rfl
    ·have h:¬q2.num<=0:=fun z=>h (MI z);have o:aL ws r=MC:=MI (ao.mp (by omega));rw[MF o,Kc]at ft;refine hB _ _ ⟨_,_,_,_,rfl,fun h=>W _ _ (kp h),?_⟩;rw[ft];exact v0
   ·rintro δ F ⟨V,n,x,C,rfl,kp,hf⟩;rw[show y.take (ps.map D.ref).length=y by rw[IZ,pl,LP]]at hf;refine hu _ _ ⟨V,n,x,C,?_,kp,hf⟩;rw[show y.take (ps.map D.ref).length=y by rw[IZ,pl,LP],AO J Z G,uK]
  rintro δ M8 ⟨V,n,x,C,rfl,a2,d2⟩
  have u3:(Pj L ws y).length<=y.length:=by unfold Pj;rw[IZ];exact Ky _ _
  have v3:=gR G
  have l8:=a2 (e0 _ _ o0)
  refine⟨_,rfl,NS rfl,_,_,Pd.of rfl,Pd.of rfl,rfl,rfl,_,rfl,?_⟩
  refine j9 rfl ?_
  refine⟨_,rfl,_,d2,by omega,fun z1 n1 e3 f3 h3=>?_⟩
  have W:∀{a o},M8 a=MA o->(aC M8 z1 (.lst (n1.map D.int))) a=MA o:=fun h=>by rw[aA (aE h e3)];exact h
  have w0:(aC M8 z1 (.lst (n1.map D.int))) z1=MA (.lst (n1.map D.int)):=ag
  generalize aC M8 z1 (.lst (n1.map D.int))=M9 at W w0
  refine⟨_,rfl,zg,_,rfl,W (a2 v1),(by rw[IZ,Mo];omega),fun z2 n2 f2 mm nm um=>?_⟩
  have en:=wk J Z G v2 f3 h3 mm nm um
  subst en
  refine⟨_,_,.lst (by rw[aA (aE w0 f2)];exact w0) (gn _),.lst ag (gn _),shaped_ints _,shaped_ints _,_,rfl,?_⟩
  rw[wW]
  refine j9 rfl ?_
  have x0:∀{a o},M8 a=MA o->(aC M9 z2 (.lst (n1.map D.int))) a=MA o:=fun h=>by rw[aA (aE (W h) f2)];exact W h
  generalize aC M9 z2 (.lst (n1.map D.int))=z3 at x0
  refine⟨_,rfl,t,b,X,Y,ws,eP.symm,S,by omega,J,fun a4 zc cs m0 b4 i3 k3 c4=>?_⟩
  refine⟨_,i3,_,rfl,_,m0 _ _ (x0 l8),trivial,?_⟩
  refine⟨_,rfl,t,b,X,Y,ws,eP.symm,S,by omega,J,Z,fun e4 zl n3 f4 es q3 L' i2 h4 G' il RO RI el r3 hE fr=>?_⟩
  have e:=tJ G' G
  subst e
  refine⟨_,r3,_,rfl,_,i2 _ _ (m0 _ _ (x0 d2)),_,rfl,?_⟩
  have E:=Al J Z G k3
  have ep:=RO.len
  have e9:(((cs.map (OG t b X Y)).length:Nat):Int)-(((ws.map uw).length:Nat):Int)+(((Pl n3 es).length:Nat):Int)=1+((((Pj L ws q3).map D.int).length:Nat):Int):=by rw[IZ,IZ,IZ,Ak,el,ep];unfold Pj;rw[IZ];exact E
  refine j9 (by rw[e9];simp) ?_
  exact hB _ _ ⟨_,rfl,rfl⟩
theorem C2(ns:List Int)(M:MH)(h:ns.length<=63):jv [.rol (ns.map D.int)] M (fun d _=>d=.bl MC):=⟨ns,rfl,h,fun _=>rfl⟩
def kE(P:JD)(n:String)(k:Nat)(v:I0):Kp:={ hash:=PyData.keyHash P (KU n),key:=.str (KU n) k,val:=v }
def kF(i:Nat)(n m:String)(k c:Nat):Obj:={ cls:=.type "function",data:=.func { name:=KU n,qualname:=KU n,params:=cA (top i),body:=.stmts (bg (top i)),scope:=az (top i),globals:=↑3,closure:=[],defaults:=.none,kwdefaults:=.none,pyModule:=.str (KU m) k,code:=.ref c } }
def YM(P:JD):List Kp:=[kE P "__name__" ↑165 (.str "law_spotlook_k20_whole_rings_of_a_plot" 544),kE P "__doc__" ↑166 (.none),kE P "__package__" ↑167 (.none),kE P "__loader__" ↑168 (.builtin "__main__.__loader__#opaque"),kE P "__spec__" ↑169 (.none),kE P "__annotations__" ↑170 (.ref ↑6),kE P "__builtins__" ↑171 (.ref ↑4),kE P "__file__" ↑173 (.str "/claim/cut.py" 172)]
def YL(P:JD):List Kp:=[kE P "__cached__" ↑174 (.none),kE P "SpotError" ↑206 (.ref ↑24),kE P "NoFraction" ↑222 (.ref ↑37),kE P "greatest_divisor" ↑232 (.ref ↑46),kE P "fraction" ↑241 (.ref ↑53),kE P "is_less" ↑249 (.ref ↑60),kE P "common_bottom" ↑258 (.ref ↑67),kE P "top_over" ↑266 (.ref ↑74)]
def YK(P:JD):List Kp:=[kE P "is_ahead" ↑276 (.ref ↑81),kE P "later_of" ↑284 (.ref ↑88),kE P "earlier_of" ↑292 (.ref ↑95),kE P "place_among" ↑303 (.ref ↑102),kE P "ahead_first" ↑312 (.ref ↑109),kE P "own_spot" ↑321 (.ref ↑116),kE P "own_wall" ↑328 (.ref ↑123),kE P "gap" ↑336 (.ref ↑130)]
def YJ(P:JD):List Kp:=[kE P "lean" ↑354 (.ref ↑137),kE P "side_of" ↑363 (.ref ↑144),kE P "face_ends" ↑375 (.ref ↑151),kE P "faces_by_start" ↑384 (.ref ↑158),kE P "is_met_sooner" ↑396 (.ref ↑165),kE P "face_behind" ↑410 (.ref ↑172),kE P "ring_from" ↑421 (.ref ↑179),kE P "rings_of" ↑434 (.ref ↑186)]
def YI(P:JD):List Kp:=[kE P "twice_area" ↑440 (.ref ↑191),kE P "ring_area" ↑450 (.ref ↑198),kE P "spans" ↑460 (.ref ↑205),kE P "is_above" ↑472 (.ref ↑212),kE P "upper_of" ↑481 (.ref ↑219),kE P "upper_below" ↑487 (.ref ↑224),kE P "outer_and_inner" ↑499 (.ref ↑231),kE P "first_corner" ↑509 (.ref ↑238)]
def YH(P:JD):List Kp:=[kE P "land_about" ↑519 (.ref ↑245),kE P "lands_of_faces" ↑525 (.ref ↑250),kE P "lands_of" ↑531 (.ref ↑255),kE P "corners_of" ↑543 (.ref ↑262),kE P "_law_cell_at" ↑553 (.ref ↑269),kE P "_law_take" ↑563 (.ref ↑276),kE P "_law_low" ↑573 (.ref ↑283),kE P "_law_scale" ↑583 (.ref ↑290)]
def YG(P:JD):List Kp:=[kE P "_law_spot" ↑595 (.ref ↑297),kE P "_law_made" ↑601 (.ref ↑302),kE P "_law_turn" ↑613 (.ref ↑309),kE P "_law_on" ↑621 (.ref ↑316),kE P "_law_fair" ↑627 (.ref ↑321),kE P "_law_shuts_here" ↑633 (.ref ↑326),kE P "_law_ends" ↑641 (.ref ↑333),kE P "_law_groups" ↑647 (.ref ↑338)]
def YF(P:JD):List Kp:=[kE P "law" ↑668 (.ref ↑345)]
def kG(P:JD):Obj:={ cls:=.type "dict",data:=.dict (Kh (YM P++(YL P++(YK P++(YJ P++(YI P++(YH P++(YG P++(YF P))))))))) 57 }
def Nb(n:String)(h:Nat)(i:Nat)(j:Nat)(k:Nat)(l:Nat)(m:Nat)(a:Nat)(b:Nat)(c:Nat)(d:Nat)(e:Nat)(f:Nat)(g:Nat):Obj:={ cls:=.type "code",data:=.fields #[.str (KU n) h,.str (KU n) i,.str "/claim/cut.py" j,.int (Mx k) 0,.int (Mx l) 0,.int 0 0,.int 0 0,.int 3 0,.ref m,.bool MC,.int 181 0,.ref a,.none,.ref b,.ref c,.ref d,.int (Mx e) 0,.int (Mx f) 0,.str "/claim/cut.py" g] }
def kN(l:List Obj)(i:Nat):Obj:=l.getD i { cls:=.none,data:=.dict #[] }
def O4(n q:Str)(a b c l k f r:Nat)(t:Bool)(s:Nat)(x y z:I0)(d e:Nat):Obj:={ cls:=.type "code",data:=.fields #[.str n a,.str q b,.str "/claim/cut.py" c,.int l 0,.int k 0,.int 0 0,.int 0 0,.int f 0,.ref r,.bool t,.int 181 0,.ref s,.none,x,y,z,.int d 0,.int l 0,.str "/claim/cut.py" e] }
def X7(n:Str)(s g a i j:Nat):Obj:={ cls:=.type "type",data:=.cls { name:=n,bases:=[.ref 24],mro:=[.ref s,.ref 24,.type "ValueError",.type "Exception",.type "BaseException",.type "object"],ns:=g,qualname:=n,hasDict:=MC,slotNames:=[],subclasses:=[],abstract:=MD,collection:=MB,hasDel:=MD },slots:=#[MA (.ref a),MB,MA (.str n i),MA (.str n j),MA (.builtin "ValueError.__new__"),MA (.bool MC)] }
def YS(n:Str)(s g a i j:Nat):Obj:={ cls:=.type "type",data:=.cls { name:=n,bases:=[.ref ↑24],mro:=[.ref s,.ref ↑24,.type "ValueError",.type "Exception",.type "BaseException",.type "object"],ns:=g,qualname:=n,hasDict:=MC,slotNames:=[],subclasses:=[],abstract:=MD,collection:=MB,hasDel:=MD },slots:=#[MA (.ref a),MB,MA (.str n i),MA (.str n j),MA (.builtin "ValueError.__new__"),MA (.bool MC)] }
def PV:I0:=.str "law_spotlook_k20_whole_rings_of_a_plot" 544
def Pk(i:Nat)(n:String)(c:Nat):Obj:=kF i n "law_spotlook_k20_whole_rings_of_a_plot" ↑544 c
def RZ:List Obj:=[Nb "greatest_divisor" ↑225 ↑226 ↑227 ↑7 ↑2 ↑40 ↑41 ↑42 ↑43 ↑44 ↑230 ↑7 ↑231,kF ↑4 "greatest_divisor" "spotlook.fractions" ↑223 ↑45,Nb "fraction" ↑233 ↑234 ↑235 ↑11 ↑2 ↑47 ↑48 ↑49 ↑50 ↑51 ↑239 ↑11 ↑240,kF ↑5 "fraction" "spotlook.fractions" ↑223 ↑52,Nb "is_less" ↑242 ↑243 ↑244 ↑18 ↑2 ↑54 ↑55 ↑56 ↑57 ↑58 ↑247 ↑18 ↑248,kF ↑6 "is_less" "spotlook.fractions" ↑223 ↑59,Nb "common_bottom" ↑250 ↑251 ↑252 ↑20 ↑1 ↑61 ↑62 ↑63 ↑64 ↑65 ↑256 ↑20 ↑257,kF ↑7 "common_bottom" "spotlook.fractions" ↑223 ↑66]
def RY:List Obj:=[Nb "top_over" ↑259 ↑260 ↑261 ↑25 ↑2 ↑68 ↑69 ↑70 ↑71 ↑72 ↑264 ↑25 ↑265,kF ↑8 "top_over" "spotlook.fractions" ↑223 ↑73,Nb "is_ahead" ↑269 ↑270 ↑271 ↑28 ↑2 ↑75 ↑76 ↑77 ↑78 ↑79 ↑274 ↑28 ↑275,kF ↑10 "is_ahead" "spotlook.spots" ↑267 ↑80,Nb "later_of" ↑277 ↑278 ↑279 ↑32 ↑2 ↑82 ↑83 ↑84 ↑85 ↑86 ↑282 ↑32 ↑283,kF ↑11 "later_of" "spotlook.spots" ↑267 ↑87,Nb "earlier_of" ↑285 ↑286 ↑287 ↑34 ↑2 ↑89 ↑90 ↑91 ↑92 ↑93 ↑290 ↑34 ↑291,kF ↑12 "earlier_of" "spotlook.spots" ↑267 ↑94]
def RW:List Obj:=[Nb "place_among" ↑293 ↑294 ↑295 ↑36 ↑2 ↑96 ↑97 ↑98 ↑99 ↑100 ↑301 ↑36 ↑302,kF ↑13 "place_among" "spotlook.spots" ↑267 ↑101,Nb "ahead_first" ↑304 ↑305 ↑306 ↑45 ↑1 ↑103 ↑104 ↑105 ↑106 ↑107 ↑310 ↑45 ↑311,kF ↑14 "ahead_first" "spotlook.spots" ↑267 ↑108,Nb "own_spot" ↑313 ↑314 ↑315 ↑50 ↑1 ↑110 ↑111 ↑112 ↑113 ↑114 ↑319 ↑50 ↑320,kF ↑15 "own_spot" "spotlook.spots" ↑267 ↑115,Nb "own_wall" ↑322 ↑323 ↑324 ↑53 ↑1 ↑117 ↑118 ↑119 ↑120 ↑121 ↑326 ↑53 ↑327,kF ↑16 "own_wall" "spotlook.spots" ↑267 ↑122]
def RV:List Obj:=[Nb "gap" ↑329 ↑330 ↑331 ↑55 ↑2 ↑124 ↑125 ↑126 ↑127 ↑128 ↑334 ↑55 ↑335,kF ↑17 "gap" "spotlook.spots" ↑267 ↑129,Nb "lean" ↑337 ↑338 ↑339 ↑57 ↑2 ↑131 ↑132 ↑133 ↑134 ↑135 ↑352 ↑57 ↑353,kF ↑18 "lean" "spotlook.spots" ↑267 ↑136,Nb "side_of" ↑355 ↑356 ↑357 ↑63 ↑2 ↑138 ↑139 ↑140 ↑141 ↑142 ↑361 ↑63 ↑362,kF ↑19 "side_of" "spotlook.spots" ↑267 ↑143,Nb "face_ends" ↑366 ↑367 ↑368 ↑71 ↑2 ↑145 ↑146 ↑147 ↑148 ↑149 ↑373 ↑71 ↑374,kF ↑21 "face_ends" "spotlook.rings" ↑364 ↑150]
def RU:List Obj:=[Nb "faces_by_start" ↑376 ↑377 ↑378 ↑74 ↑1 ↑152 ↑153 ↑154 ↑155 ↑156 ↑382 ↑74 ↑383,kF ↑22 "faces_by_start" "spotlook.rings" ↑364 ↑157,Nb "is_met_sooner" ↑385 ↑386 ↑387 ↑79 ↑4 ↑159 ↑160 ↑161 ↑162 ↑163 ↑394 ↑79 ↑395,kF ↑23 "is_met_sooner" "spotlook.rings" ↑364 ↑164,Nb "face_behind" ↑397 ↑398 ↑399 ↑85 ↑3 ↑166 ↑167 ↑168 ↑169 ↑170 ↑408 ↑85 ↑409,kF ↑24 "face_behind" "spotlook.rings" ↑364 ↑171,Nb "ring_from" ↑411 ↑412 ↑413 ↑93 ↑3 ↑173 ↑174 ↑175 ↑176 ↑177 ↑419 ↑93 ↑420,kF ↑25 "ring_from" "spotlook.rings" ↑364 ↑178]
def RT:List Obj:=[Nb "rings_of" ↑422 ↑423 ↑424 ↑100 ↑1 ↑180 ↑181 ↑182 ↑183 ↑184 ↑432 ↑100 ↑433,kF ↑26 "rings_of" "spotlook.rings" ↑364 ↑185,(O4 "twice_area" "twice_area" 435 436 437 111 2 3 187 MC 188 .none .none (.ref 189) 438 439),kF ↑27 "twice_area" "spotlook.rings" ↑364 ↑190,Nb "ring_area" ↑441 ↑442 ↑443 ↑120 ↑2 ↑192 ↑193 ↑194 ↑195 ↑196 ↑448 ↑120 ↑449,kF ↑28 "ring_area" "spotlook.rings" ↑364 ↑197,Nb "spans" ↑453 ↑454 ↑455 ↑124 ↑2 ↑199 ↑200 ↑201 ↑202 ↑203 ↑458 ↑124 ↑459,kF ↑30 "spans" "spotlook.above" ↑451 ↑204]
def RS:List Obj:=[Nb "is_above" ↑461 ↑462 ↑463 ↑126 ↑2 ↑206 ↑207 ↑208 ↑209 ↑210 ↑470 ↑126 ↑471,kF ↑31 "is_above" "spotlook.above" ↑451 ↑211,Nb "upper_of" ↑473 ↑474 ↑475 ↑134 ↑1 ↑213 ↑214 ↑215 ↑216 ↑217 ↑479 ↑134 ↑480,kF ↑32 "upper_of" "spotlook.above" ↑451 ↑218,(O4 "upper_below" "upper_below" 482 483 484 140 2 3 220 MC 221 .none .none (.ref 222) 485 486),kF ↑33 "upper_below" "spotlook.above" ↑451 ↑223,Nb "outer_and_inner" ↑490 ↑491 ↑492 ↑144 ↑1 ↑225 ↑226 ↑227 ↑228 ↑229 ↑497 ↑144 ↑498,kF ↑35 "outer_and_inner" "spotlook.lands" ↑488 ↑230]
def RQ:List Obj:=[Nb "first_corner" ↑500 ↑501 ↑502 ↑152 ↑2 ↑232 ↑233 ↑234 ↑235 ↑236 ↑507 ↑152 ↑508,kF ↑36 "first_corner" "spotlook.lands" ↑488 ↑237,Nb "land_about" ↑510 ↑511 ↑512 ↑157 ↑3 ↑239 ↑240 ↑241 ↑242 ↑243 ↑517 ↑157 ↑518,kF ↑37 "land_about" "spotlook.lands" ↑488 ↑244,(O4 "lands_of_faces" "lands_of_faces" 520 521 522 160 1 3 246 MC 247 .none .none (.ref 248) 523 524),kF ↑38 "lands_of_faces" "spotlook.lands" ↑488 ↑249,(O4 "lands_of" "lands_of" 526 527 528 172 1 3 251 MC 252 .none .none (.ref 253) 529 530),kF ↑39 "lands_of" "spotlook.lands" ↑488 ↑254]
def RP:List Obj:=[Nb "corners_of" ↑534 ↑535 ↑536 ↑180 ↑1 ↑256 ↑257 ↑258 ↑259 ↑260 ↑541 ↑180 ↑542,kF ↑41 "corners_of" "spotlook.plots" ↑532 ↑261,Nb "_law_cell_at" ↑546 ↑547 ↑548 ↑187 ↑2 ↑263 ↑264 ↑265 ↑266 ↑267 ↑551 ↑187 ↑552,Pk ↑43 "_law_cell_at" ↑268,Nb "_law_take" ↑554 ↑555 ↑556 ↑191 ↑2 ↑270 ↑271 ↑272 ↑273 ↑274 ↑561 ↑191 ↑562,Pk ↑44 "_law_take" ↑275,Nb "_law_low" ↑564 ↑565 ↑566 ↑200 ↑2 ↑277 ↑278 ↑279 ↑280 ↑281 ↑571 ↑200 ↑572,Pk ↑45 "_law_low" ↑282]
def RN:List Obj:=[Nb "_law_scale" ↑574 ↑575 ↑576 ↑208 ↑1 ↑284 ↑285 ↑286 ↑287 ↑288 ↑581 ↑208 ↑582,Pk ↑46 "_law_scale" ↑289,Nb "_law_spot" ↑584 ↑585 ↑586 ↑214 ↑2 ↑291 ↑292 ↑293 ↑294 ↑295 ↑593 ↑214 ↑594,Pk ↑47 "_law_spot" ↑296,(O4 "_law_made" "_law_made" 596 597 598 217 2 3 298 MC 299 .none .none (.ref 300) 599 600),Pk ↑48 "_law_made" ↑301,Nb "_law_turn" ↑602 ↑603 ↑604 ↑219 ↑3 ↑303 ↑304 ↑305 ↑306 ↑307 ↑611 ↑219 ↑612,Pk ↑49 "_law_turn" ↑308]
def Oj:List Obj:=[Nb "_law_on" ↑614 ↑615 ↑616 ↑224 ↑2 ↑310 ↑311 ↑312 ↑313 ↑314 ↑619 ↑224 ↑620,Pk ↑50 "_law_on" ↑315,(O4 "_law_fair" "_law_fair" 622 623 624 226 2 3 317 MC 318 .none .none (.ref 319) 625 626),Pk ↑51 "_law_fair" ↑320,(O4 "_law_shuts_here" "_law_shuts_here" 628 629 630 236 3 3 322 MC 323 .none .none (.ref 324) 631 632),Pk ↑52 "_law_shuts_here" ↑325,Nb "_law_ends" ↑634 ↑635 ↑636 ↑247 ↑2 ↑327 ↑328 ↑329 ↑330 ↑331 ↑639 ↑247 ↑640,Pk ↑53 "_law_ends" ↑332]
def Qx:List Obj:=[(O4 "_law_groups" "_law_groups" 642 643 644 249 1 3 334 MC 335 .none .none (.ref 336) 645 646),Pk ↑54 "_law_groups" ↑337,Nb "law" ↑648 ↑649 ↑650 ↑257 ↑1 ↑339 ↑340 ↑341 ↑342 ↑343 ↑666 ↑257 ↑667,Pk ↑55 "law" ↑344]
def kK:JD->IW:=fun P=>(↑3,kG P)::(↑45,kN RZ ↑0)::(↑46,kN RZ ↑1)::(↑52,kN RZ ↑2)::(↑53,kN RZ ↑3)::(↑59,kN RZ ↑4)::(↑60,kN RZ ↑5)::(↑66,kN RZ ↑6)::(↑67,kN RZ ↑7)::(↑73,kN RY ↑0)::(↑74,kN RY ↑1)::(↑80,kN RY ↑2)::(↑81,kN RY ↑3)::(↑87,kN RY ↑4)::(↑88,kN RY ↑5)::(↑94,kN RY ↑6)::(↑95,kN RY ↑7)::(↑101,kN RW ↑0)::(↑102,kN RW ↑1)::(↑108,kN RW ↑2)::(↑109,kN RW ↑3)::(↑115,kN RW ↑4)::(↑116,kN RW ↑5)::(↑122,kN RW ↑6)::(↑123,kN RW ↑7)::(↑129,kN RV ↑0)::(↑130,kN RV ↑1)::(↑136,kN RV ↑2)::(↑137,kN RV ↑3)::(↑143,kN RV ↑4)::(↑144,kN RV ↑5)::(↑150,kN RV ↑6)::(↑151,kN RV ↑7)::(↑157,kN RU ↑0)::(↑158,kN RU ↑1)::(↑164,kN RU ↑2)::(↑165,kN RU ↑3)::(↑171,kN RU ↑4)::(↑172,kN RU ↑5)::(↑178,kN RU ↑6)::(↑179,kN RU ↑7)::(↑185,kN RT ↑0)::(↑186,kN RT ↑1)::(↑190,kN RT ↑2)::(↑191,kN RT ↑3)::(↑197,kN RT ↑4)::(↑198,kN RT ↑5)::(↑204,kN RT ↑6)::(↑205,kN RT ↑7)::(↑211,kN RS ↑0)::(↑212,kN RS ↑1)::(↑218,kN RS ↑2)::(↑219,kN RS ↑3)::(↑223,kN RS ↑4)::(↑224,kN RS ↑5)::(↑230,kN RS ↑6)::(↑231,kN RS ↑7)::(↑237,kN RQ ↑0)::(↑238,kN RQ ↑1)::(↑244,kN RQ ↑2)::(↑245,kN RQ ↑3)::(↑249,kN RQ ↑4)::(↑250,kN RQ ↑5)::(↑254,kN RQ ↑6)::(↑255,kN RQ ↑7)::(↑261,kN RP ↑0)::(↑262,kN RP ↑1)::(↑268,kN RP ↑2)::(↑269,kN RP ↑3)::(↑275,kN RP ↑4)::(↑276,kN RP ↑5)::(↑282,kN RP ↑6)::(↑283,kN RP ↑7)::(↑289,kN RN ↑0)::(↑290,kN RN ↑1)::(↑296,kN RN ↑2)::(↑297,kN RN ↑3)::(↑301,kN RN ↑4)::(↑302,kN RN ↑5)::(↑308,kN RN ↑6)::(↑309,kN RN ↑7)::(↑315,kN Oj ↑0)::(↑316,kN Oj ↑1)::(↑320,kN Oj ↑2)::(↑321,kN Oj ↑3)::(↑325,kN Oj ↑4)::(↑326,kN Oj ↑5)::(↑332,kN Oj ↑6)::(↑333,kN Oj ↑7)::(↑337,kN Qx ↑0)::(↑338,kN Qx ↑1)::(↑344,kN Qx ↑2)::(↑345,kN Qx ↑3)::[]
end QQ
namespace QQ
open PySem L2
inductive Tg{A:Type}(a:A):Type where|mk:Tg a
noncomputable def pk{A:Type}{a:A}(_:Tg a):A:=a
noncomputable def hE(P:JD)(n:Str)(k:Nat)(v:I0):Kp:={ hash:=PyData.keyHash P n,key:=.str n k,val:=v }
noncomputable def Qj(k:Nat)(l:List Kp):Obj:={ cls:=.type "dict",data:=.dict (Kh l) k }
noncomputable def Rb:I0:=.str "spotlook.errors" 187
noncomputable def kU(s:Stmt)(n q:Str)(g:Nat)(m c:I0):My:={ name:=n,qualname:=q,params:=cA s,body:=.stmts (bg s),scope:=az s,globals:=g,closure:=[],defaults:=.none,kwdefaults:=.none,pyModule:=m,code:=c }
noncomputable def kC(s:Stmt)(i:Nat):Stmt:=match s with
 |.ClassDef (body:=b) ..=>b.getD i (.Pass ⟨0,0,0,0⟩)
 |s=>s
noncomputable def N9(l:List I0):Obj:={ cls:=.type "tuple",data:=.seq l.toArray 0 }
noncomputable def YT(l:List I0):Obj:={ cls:=.none,data:=.fields l.toArray }
local macro_rules | `(tactic| walk_at "st") => `(tactic| (intro t; (conv at t => (arg 1; whnf)); exact pk (.mk : type_of% t)))
local macro_rules | `(⇑$n:num) => `((by refine' (?_ : Tg (top $n) → Stmt) .mk; walk_at "st" : Stmt))
noncomputable def XJ:Stmt:=⇑0
noncomputable def VV:Stmt:=⇑1
noncomputable def SW:Stmt:=⇑2
noncomputable def SR:Stmt:=⇑3
noncomputable def Pa:Stmt:=⇑4
noncomputable def Oc:Stmt:=⇑5
noncomputable def SM:Stmt:=⇑6
noncomputable def Of:Stmt:=⇑7
noncomputable def SK:Stmt:=⇑8
noncomputable def XI:Stmt:=⇑9
noncomputable def Oh:Stmt:=⇑10
noncomputable def Og:Stmt:=⇑11
noncomputable def Q8:Stmt:=⇑12
noncomputable def O5:Stmt:=⇑13
noncomputable def Q7:Stmt:=⇑14
noncomputable def Q6:Stmt:=⇑15
noncomputable def Q5:Stmt:=⇑16
noncomputable def Q4:Stmt:=⇑17
noncomputable def Q3:Stmt:=⇑18
noncomputable def Q2:Stmt:=⇑19
noncomputable def SV:Stmt:=⇑20
noncomputable def Q1:Stmt:=⇑21
noncomputable def Q0:Stmt:=⇑22
noncomputable def QZ:Stmt:=⇑23
noncomputable def QY:Stmt:=⇑24
noncomputable def QX:Stmt:=⇑25
noncomputable def QW:Stmt:=⇑26
noncomputable def QV:Stmt:=⇑27
noncomputable def QU:Stmt:=⇑28
noncomputable def SU:Stmt:=⇑29
noncomputable def QT:Stmt:=⇑30
noncomputable def QS:Stmt:=⇑31
noncomputable def QR:Stmt:=⇑32
noncomputable def QP:Stmt:=⇑33
noncomputable def SQ:Stmt:=⇑34
noncomputable def QO:Stmt:=⇑35
noncomputable def QN:Stmt:=⇑36
noncomputable def QM:Stmt:=⇑37
noncomputable def QL:Stmt:=⇑38
noncomputable def QK:Stmt:=⇑39
noncomputable def SO:Stmt:=⇑40
noncomputable def QJ:Stmt:=⇑41
noncomputable def SN:Stmt:=⇑42
noncomputable def QI:Stmt:=⇑43
noncomputable def QH:Stmt:=⇑44
noncomputable def QG:Stmt:=⇑45
noncomputable def QF:Stmt:=⇑46
noncomputable def QE:Stmt:=⇑47
noncomputable def QD:Stmt:=⇑48
noncomputable def QC:Stmt:=⇑49
noncomputable def QB:Stmt:=⇑50
noncomputable def QA:Stmt:=⇑51
noncomputable def Pz:Stmt:=⇑52
noncomputable def Py:Stmt:=⇑53
noncomputable def Px:Stmt:=⇑54
noncomputable def Pw:Stmt:=⇑55
noncomputable def Xp:LR:=by refine'(?_:Tg (JF.main.scope)->LR) .mk;walk_at "st"
noncomputable def YO:Str:=by refine'(?_:Tg (JF.main.file)->Str) .mk;walk_at "st"
noncomputable def YN:Given:=by refine'(?_:Tg (JF.given)->Given) .mk;walk_at "st"
noncomputable def Xq:List Stmt:=QD::QC::QB::QA::Pz::Py::Px::Pw::[]
noncomputable def Xr:List Stmt:=QR::QP::SQ::QO::QN::QM::QL::QK::SO::QJ::SN::QI::QH::QG::QF::QE::Xq
noncomputable def Xs:List Stmt:=Q5::Q4::Q3::Q2::SV::Q1::Q0::QZ::QY::QX::QW::QV::QU::SU::QT::QS::Xr
noncomputable def pw2:Jl:={ main:={ body:=XJ::VV::SW::SR::Pa::Oc::SM::Of::SK::XI::Oh::Og::Q8::O5::Q7::Q6::Xs,scope:=Xp,futureAnnotations:=MD,file:=YO,more:=[] },modules:=[],parses:=[],absent:=[],harvested:=[],given:=YN }
noncomputable def X8:List Stmt:=QL::QK::QJ::QI::QH::QG::QF::QE::QD::QC::QB::QA::Pz::Py::Px::Pw::[]
noncomputable def X9:List Stmt:=Q2::Q1::Q0::QZ::QY::QX::QW::QV::QU::QT::QS::QR::QP::QO::QN::QM::X8
noncomputable def vw:Jl:={ pw2 with main:={ pw2.main with body:=VV::SW::Pa::Oc::SM::Of::SK::Oh::Og::Q8::O5::Q7::Q6::Q5::Q4::Q3::X9 } }
noncomputable def sx0:List Stmt:=[XJ,VV]
noncomputable def sx1:List Stmt:=[SW,SR,Pa,Oc,SM,Of,SK,XI]
noncomputable def sx2:List Stmt:=[Oh,Og,Q8,O5,Q7,Q6,Q5,Q4,Q3,Q2,SV,Q1,Q0]
noncomputable def sx3:List Stmt:=[QZ,QY,QX,QW,QV,QU,SU,QT,QS,QR,QP,SQ,QO,QN]
noncomputable def sx4:List Stmt:=[QM,QL,QK,SO,QJ,SN,QI,QH,QG,QF,QE,QD,QC,QB]
noncomputable def sx5:List Stmt:=[QA,Pz,Py,Px,Pw]
noncomputable def Uv(P:JD):List Kp:=[hE P "__doc__" 166 .none,hE P "__package__" 167 .none,hE P "__loader__" 168 (.builtin "__main__.__loader__#opaque"),hE P "__spec__" 169 .none,hE P "__annotations__" 170 (.ref 6),hE P "__builtins__" 171 (.ref 4),hE P "__file__" 173 (.str "/claim/cut.py" 172),hE P "__cached__" 174 .none]
noncomputable def Uu(P:JD):List Kp:=[hE P "SpotError" 206 (.ref 24),hE P "NoFraction" 222 (.ref 37),hE P "greatest_divisor" 232 (.ref 46),hE P "fraction" 241 (.ref 53),hE P "is_less" 249 (.ref 60),hE P "common_bottom" 258 (.ref 67),hE P "top_over" 266 (.ref 74),hE P "is_ahead" 276 (.ref 81)]
noncomputable def Ut(P:JD):List Kp:=[hE P "later_of" 284 (.ref 88),hE P "earlier_of" 292 (.ref 95),hE P "place_among" 303 (.ref 102),hE P "ahead_first" 312 (.ref 109),hE P "own_spot" 321 (.ref 116),hE P "own_wall" 328 (.ref 123),hE P "gap" 336 (.ref 130),hE P "lean" 354 (.ref 137)]
noncomputable def Us(P:JD):List Kp:=[hE P "side_of" 363 (.ref 144),hE P "face_ends" 375 (.ref 151),hE P "faces_by_start" 384 (.ref 158),hE P "is_met_sooner" 396 (.ref 165),hE P "face_behind" 410 (.ref 172),hE P "ring_from" 421 (.ref 179),hE P "rings_of" 434 (.ref 186),hE P "twice_area" 440 (.ref 191)]
noncomputable def Ur(P:JD):List Kp:=[hE P "ring_area" 450 (.ref 198),hE P "spans" 460 (.ref 205),hE P "is_above" 472 (.ref 212),hE P "upper_of" 481 (.ref 219),hE P "upper_below" 487 (.ref 224),hE P "outer_and_inner" 499 (.ref 231),hE P "first_corner" 509 (.ref 238),hE P "land_about" 519 (.ref 245)]
noncomputable def Uq(P:JD):List Kp:=[hE P "lands_of_faces" 525 (.ref 250),hE P "lands_of" 531 (.ref 255),hE P "corners_of" 543 (.ref 262),hE P "_law_cell_at" 553 (.ref 269),hE P "_law_take" 563 (.ref 276),hE P "_law_low" 573 (.ref 283),hE P "_law_scale" 583 (.ref 290),hE P "_law_spot" 595 (.ref 297)]
noncomputable def Up(P:JD):List Kp:=[hE P "_law_made" 601 (.ref 302),hE P "_law_turn" 613 (.ref 309),hE P "_law_on" 621 (.ref 316),hE P "_law_fair" 627 (.ref 321),hE P "_law_shuts_here" 633 (.ref 326),hE P "_law_ends" 641 (.ref 333),hE P "_law_groups" 647 (.ref 338),hE P "law" 668 (.ref 345)]
noncomputable def Ry(P:JD):List Kp:=Uv P++(Uu P++(Ut P++(Us P++(Ur P++(Uq P++(Up P))))))
noncomputable def PY:List I0:=[(.int 2 0),(.int 0 0),(.ref 20),(.int 4 0),(.int 0 0),(.ref 33),(.int 7 0),(.int 0 0),(.ref 45),(.int 11 0),(.int 0 0),(.ref 52),(.int 18 0),(.int 0 0),(.ref 59),(.int 20 0),(.int 0 0),(.ref 66),(.int 25 0),(.int 0 0),(.ref 73),(.int 28 0),(.int 0 0),(.ref 80),(.int 32 0),(.int 0 0),(.ref 87),(.int 34 0),(.int 0 0),(.ref 94),(.int 36 0),(.int 0 0),(.ref 101),(.int 45 0),(.int 0 0),(.ref 108),(.int 50 0),(.int 0 0),(.ref 115),(.int 53 0),(.int 0 0),(.ref 122),(.int 55 0),(.int 0 0),(.ref 129),(.int 57 0),(.int 0 0),(.ref 136),(.int 63 0),(.int 0 0),(.ref 143),(.int 71 0),(.int 0 0),(.ref 150),(.int 74 0),(.int 0 0),(.ref 157),(.int 79 0),(.int 0 0),(.ref 164),(.int 85 0),(.int 0 0),(.ref 171),(.int 93 0),(.int 0 0),(.ref 178),(.int 100 0),(.int 0 0),(.ref 185),(.int 111 0),(.int 0 0),(.ref 190),(.int 120 0),(.int 0 0),(.ref 197),(.int 124 0),(.int 0 0),(.ref 204),(.int 126 0),(.int 0 0),(.ref 211),(.int 134 0),(.int 0 0),(.ref 218),(.int 140 0),(.int 0 0),(.ref 223),(.int 144 0),(.int 0 0),(.ref 230),(.int 152 0),(.int 0 0),(.ref 237),(.int 157 0),(.int 0 0),(.ref 244),(.int 160 0),(.int 0 0),(.ref 249),(.int 172 0),(.int 0 0),(.ref 254),(.int 180 0),(.int 0 0),(.ref 261),(.int 187 0),(.int 0 0),(.ref 268),(.int 191 0),(.int 0 0),(.ref 275),(.int 200 0),(.int 0 0),(.ref 282),(.int 208 0),(.int 0 0),(.ref 289),(.int 214 0),(.int 0 0),(.ref 296),(.int 217 0),(.int 0 0),(.ref 301),(.int 219 0),(.int 0 0),(.ref 308),(.int 224 0),(.int 0 0),(.ref 315),(.int 226 0),(.int 0 0),(.ref 320),(.int 236 0),(.int 0 0),(.ref 325),(.int 247 0),(.int 0 0),(.ref 332),(.int 249 0),(.int 0 0),(.ref 337),(.int 257 0),(.int 0 0),(.ref 344)]
noncomputable def hC(n:Str)(i j k a l b c d e m o p q r f g h:Nat)(s:Bool):Obj:={ cls:=.type "code",data:=.fields #[.str n i,.str n j,.str "/claim/cut.py" k,.int (Mx m) 0,.int (Mx o) 0,.int (Mx p) 0,.int (Mx q) 0,.int (Mx r) 0,.ref l,.bool s,.int (Mx f) 0,.ref b,.none,.ref c,.ref d,.ref e,.int (Mx g) 0,.int (Mx h) 0,.str "/claim/cut.py" a] }
noncomputable def hF(t:I0)(s:Stmt)(n:Str)(g:Nat)(m c:I0):Obj:={ cls:=t,data:=.func (kU s n n g m c) }
noncomputable def N7(s:Stmt)(n:Str)(m:I0)(r:Nat):Obj:=hF (.type "function") s n 3 m (.ref r)
noncomputable def Wv:Obj:=N9 []
noncomputable def Wu:Obj:={ cls:=.none,data:=.fields (Kh (PY.take 0)) }
noncomputable def Ws:Obj:=O4 "<module>" "<module>" 182 183 184 1 0 0 11 MD 12 .none .none .none 185 186
noncomputable def Wr:Obj:={ cls:=(.type "frame"),slots:=#[(MA (.ref 13)),(MA (.ref 3)),(MA (.ref 3)),MB,(MA (.str "__main__" 164)),MB,(MA (.ref 0))] }
noncomputable def Wq(P:JD):Obj:=Qj 10 (hE P "__name__" 165 Rb::(Ry P).take 9)
noncomputable def Wo:Obj:={ cls:=.none,data:=.fields (Kh (PY.take 3)) }
noncomputable def Wn:Obj:=N9 [(.type "ValueError")]
noncomputable def Wm:Obj:={ cls:=(.type "builtin_function_or_method"),data:=(.fields #[(.builtin "type.__prepare__"),(.type "type")]) }
noncomputable def Wk(P:JD):Obj:=Qj 4 [hE P "__module__" 196 Rb,hE P "__qualname__" 198 (.str "SpotError" 197),hE P "__firstlineno__" 200 (.int 2 199),hE P "__static_attributes__" 201 (.ref 22)]
noncomputable def Wj:Obj:=O4 "SpotError" "SpotError" 191 192 193 2 0 0 18 MD 19 .none .none .none 194 195
noncomputable def Wi:Obj:={ cls:=(.type "frame"),slots:=#[(MA (.ref 20)),(MA (.ref 3)),(MA (.ref 17)),MB,(MA Rb),MB,(MA (.ref 0))] }
noncomputable def Wh(P:JD):Obj:=Qj 3 [hE P "__module__" 196 Rb,hE P "__firstlineno__" 200 (.int 2 199),hE P "__static_attributes__" 201 (.ref 22),hE P "__weakref__" 203 (.ref 25),hE P "__doc__" 204 .none]
noncomputable def Wg:Obj:={ cls:=(.type "type"),data:=(.cls { name:="SpotError",bases:=[(.type "ValueError")],mro:=[(.ref 24),(.type "ValueError"),(.type "Exception"),(.type "BaseException"),(.type "object")],ns:=23,qualname:="SpotError",hasDict:=MC,slotNames:=[],subclasses:=[],abstract:=MD,collection:=MB,hasDel:=MD }),slots:=#[(MA (.ref 15)),MB,(MA (.str "SpotError" 189)),(MA (.str "SpotError" 197)),(MA (.builtin "ValueError.__new__")),(MA (.bool MC))] }
noncomputable def Wf:Obj:={ cls:=(.type "getset_descriptor"),data:=(.fields #[(.str "__weakref__" 202),(.ref 24),(.builtin "ExceptionGroup.__weakref__"),.none]) }
noncomputable def We:Obj:={ cls:=(.type "super"),data:=(.fields #[(.ref 24),(.ref 24),(.ref 24)]) }
noncomputable def Wd:Obj:={ cls:=(.type "builtin_function_or_method"),data:=(.fields #[(.builtin "object.__init_subclass__"),(.ref 24)]) }
noncomputable def Wc(P:JD):Obj:=Qj 16 (hE P "__name__" 165 (.str "spotlook.spots" 267)::(Ry P).take 15)
noncomputable def Wb:Obj:={ cls:=.none,data:=.fields (Kh (PY.take 21)) }
noncomputable def Wa:Obj:={ cls:=(.type "type"),data:=(.cls { name:="SpotError",bases:=[(.type "ValueError")],mro:=[(.ref 24),(.type "ValueError"),(.type "Exception"),(.type "BaseException"),(.type "object")],ns:=23,qualname:="SpotError",hasDict:=MC,slotNames:=[],subclasses:=[(.ref 37)],abstract:=MD,collection:=MB,hasDel:=MD }),slots:=#[(MA (.ref 15)),MB,(MA (.str "SpotError" 189)),(MA (.str "SpotError" 197)),(MA (.builtin "ValueError.__new__")),(MA (.bool MC))] }
noncomputable def W9:Obj:=N9 [(.ref 24)]
noncomputable def W8(P:JD):Obj:=Qj 4 [hE P "__module__" 214 Rb,hE P "__qualname__" 216 (.str "NoFraction" 215),hE P "__firstlineno__" 218 (.int 4 217),hE P "__static_attributes__" 219 (.ref 35)]
noncomputable def W7:Obj:=O4 "NoFraction" "NoFraction" 209 210 211 4 0 0 31 MD 32 .none .none .none 212 213
noncomputable def W5:Obj:={ cls:=(.type "frame"),slots:=#[(MA (.ref 33)),(MA (.ref 3)),(MA (.ref 30)),MB,(MA Rb),MB,(MA (.ref 0))] }
noncomputable def W4(P:JD):Obj:=Qj 2 [hE P "__module__" 214 Rb,hE P "__firstlineno__" 218 (.int 4 217),hE P "__static_attributes__" 219 (.ref 35),hE P "__doc__" 220 .none]
noncomputable def W3:Obj:=X7 "NoFraction" 37 36 28 207 215
noncomputable def W2:Obj:={ cls:=(.type "super"),data:=(.fields #[(.ref 37),(.ref 37),(.ref 37)]) }
noncomputable def W0:Obj:={ cls:=(.type "builtin_function_or_method"),data:=(.fields #[(.builtin "object.__init_subclass__"),(.ref 37)]) }
noncomputable def WZ:Obj:=N9 [(.str "one" 228),(.str "other" 229)]
noncomputable def WY:Obj:=hF .none Pa "greatest_divisor" 0 .none .none
noncomputable def WX:Obj:=hC "greatest_divisor" 225 226 227 231 40 41 42 43 44 7 2 0 0 3 181 230 7 MC
noncomputable def WW:Obj:=N7 Pa "greatest_divisor" (.str "spotlook.fractions" 223) 45
noncomputable def WV:Obj:=N9 [(.str "top" 236),(.str "bottom" 237),(.str "divisor" 238)]
noncomputable def WU:Obj:=hF .none Oc "fraction" 0 .none .none
noncomputable def WT:Obj:=hC "fraction" 233 234 235 240 47 48 49 50 51 11 2 0 0 3 181 239 11 MC
noncomputable def WS:Obj:=N7 Oc "fraction" (.str "spotlook.fractions" 223) 52
noncomputable def WR:Obj:=N9 [(.str "one" 245),(.str "other" 246)]
noncomputable def WQ:Obj:=hF .none SM "is_less" 0 .none .none
noncomputable def WO:Obj:=hC "is_less" 242 243 244 248 54 55 56 57 58 18 2 0 0 3 181 247 18 MC
noncomputable def WN:Obj:=N7 SM "is_less" (.str "spotlook.fractions" 223) 59
noncomputable def WM:Obj:=N9 [(.str "parts" 253),(.str "common" 254),(.str "part" 255)]
noncomputable def WL:Obj:=hF .none Of "common_bottom" 0 .none .none
noncomputable def WK:Obj:=hC "common_bottom" 250 251 252 257 61 62 63 64 65 20 1 0 0 3 181 256 20 MC
noncomputable def WJ:Obj:=N7 Of "common_bottom" (.str "spotlook.fractions" 223) 66
noncomputable def WI:Obj:=N9 [(.str "part" 262),(.str "bottom" 263)]
noncomputable def WH:Obj:=hF .none SK "top_over" 0 .none .none
noncomputable def WG:Obj:=hC "top_over" 259 260 261 265 68 69 70 71 72 25 2 0 0 3 181 264 25 MC
noncomputable def WE:Obj:=N7 SK "top_over" (.str "spotlook.fractions" 223) 73
noncomputable def WD(P:JD):Obj:=Qj 28 (hE P "__name__" 165 (.str "spotlook.rings" 364)::(Ry P).take 27)
noncomputable def WC:Obj:={ cls:=.none,data:=.fields (Kh (PY.take 57)) }
noncomputable def WB:Obj:=N9 [(.str "one" 272),(.str "other" 273)]
noncomputable def WA:Obj:=hF .none Oh "is_ahead" 0 .none .none
noncomputable def Vz:Obj:=hC "is_ahead" 269 270 271 275 75 76 77 78 79 28 2 0 0 3 181 274 28 MC
noncomputable def Vy:Obj:=N7 Oh "is_ahead" (.str "spotlook.spots" 267) 80
noncomputable def Vx:Obj:=N9 [(.str "one" 280),(.str "other" 281)]
noncomputable def Vw:Obj:=hF .none Og "later_of" 0 .none .none
noncomputable def Vv:Obj:=hC "later_of" 277 278 279 283 82 83 84 85 86 32 2 0 0 3 181 282 32 MC
noncomputable def Vu:Obj:=N7 Og "later_of" (.str "spotlook.spots" 267) 87
noncomputable def Vt:Obj:=N9 [(.str "one" 288),(.str "other" 289)]
noncomputable def Vs:Obj:=hF .none Q8 "earlier_of" 0 .none .none
noncomputable def Vr:Obj:=hC "earlier_of" 285 286 287 291 89 90 91 92 93 34 2 0 0 3 181 290 34 MC
noncomputable def Vq:Obj:=N7 Q8 "earlier_of" (.str "spotlook.spots" 267) 94
noncomputable def Vp:Obj:=N9 [(.str "row" 296),(.str "spot" 297),(.str "low" 298),(.str "high" 299),(.str "middle" 300)]
noncomputable def Vo:Obj:=hF .none O5 "place_among" 0 .none .none
noncomputable def Vn:Obj:=hC "place_among" 293 294 295 302 96 97 98 99 100 36 2 0 0 3 181 301 36 MC
noncomputable def Vm:Obj:=N7 O5 "place_among" (.str "spotlook.spots" 267) 101
noncomputable def Vl:Obj:=N9 [(.str "spots" 307),(.str "row" 308),(.str "spot" 309)]
noncomputable def Vk:Obj:=hF .none Q7 "ahead_first" 0 .none .none
noncomputable def Vj:Obj:=hC "ahead_first" 304 305 306 311 103 104 105 106 107 45 1 0 0 3 181 310 45 MC
noncomputable def Vi:Obj:=N7 Q7 "ahead_first" (.str "spotlook.spots" 267) 108
noncomputable def Vh:Obj:=N9 [(.str "spot" 316),(.str "x" 317),(.str "y" 318)]
noncomputable def Vg:Obj:=hF .none Q6 "own_spot" 0 .none .none
noncomputable def Vf:Obj:=hC "own_spot" 313 314 315 320 110 111 112 113 114 50 1 0 0 3 181 319 50 MC
noncomputable def Ve:Obj:=N7 Q6 "own_spot" (.str "spotlook.spots" 267) 115
noncomputable def Vd:Obj:=N9 [(.str "wall" 325)]
noncomputable def Vb:Obj:=hF .none Q5 "own_wall" 0 .none .none
noncomputable def Va:Obj:=hC "own_wall" 322 323 324 327 117 118 119 120 121 53 1 0 0 3 181 326 53 MC
noncomputable def V9:Obj:=N7 Q5 "own_wall" (.str "spotlook.spots" 267) 122
noncomputable def V8:Obj:=N9 [(.str "one" 332),(.str "other" 333)]
noncomputable def V7:Obj:=hF .none Q4 "gap" 0 .none .none
noncomputable def V6:Obj:=hC "gap" 329 330 331 335 124 125 126 127 128 55 2 0 0 3 181 334 55 MC
noncomputable def V5:Obj:=N7 Q4 "gap" (.str "spotlook.spots" 267) 129
noncomputable def V4:Obj:=N9 [(.str "wall" 340),(.str "spot" 341),(.str "a" 342),(.str "b" 343),(.str "c" 344),(.str "d" 345),(.str "x" 346),(.str "y" 347),(.str "across" 348),(.str "up" 349),(.str "along" 350),(.str "high" 351)]
noncomputable def V3:Obj:=hF .none Q3 "lean" 0 .none .none
noncomputable def V2:Obj:=hC "lean" 337 338 339 353 131 132 133 134 135 57 2 0 0 3 181 352 57 MC
noncomputable def V1:Obj:=N7 Q3 "lean" (.str "spotlook.spots" 267) 136
noncomputable def V0:Obj:=N9 [(.str "wall" 358),(.str "spot" 359),(.str "top" 360)]
noncomputable def VZ:Obj:=hF .none Q2 "side_of" 0 .none .none
noncomputable def VY:Obj:=hC "side_of" 355 356 357 362 138 139 140 141 142 63 2 0 0 3 181 361 63 MC
noncomputable def VX:Obj:=N7 Q2 "side_of" (.str "spotlook.spots" 267) 143
noncomputable def Uo:Obj:=N9 [(.str "plot" 369),(.str "face" 370),(.str "first" 371),(.str "second" 372)]
noncomputable def Um:Obj:=hF .none Q1 "face_ends" 0 .none .none
noncomputable def Ul:Obj:=hC "face_ends" 366 367 368 374 145 146 147 148 149 71 2 0 0 3 181 373 71 MC
noncomputable def Uk:Obj:=N7 Q1 "face_ends" (.str "spotlook.rings" 364) 150
noncomputable def Uj:Obj:=N9 [(.str "plot" 379),(.str "leaving" 380),(.str "face" 381)]
noncomputable def Ui:Obj:=hF .none Q0 "faces_by_start" 0 .none .none
noncomputable def Uh:Obj:=hC "faces_by_start" 376 377 378 383 152 153 154 155 156 74 1 0 0 3 181 382 74 MC
noncomputable def Ug:Obj:=N7 Q0 "faces_by_start" (.str "spotlook.rings" 364) 157
noncomputable def Ue(P:JD):Obj:=Qj 40 (hE P "__name__" 165 (.str "spotlook.lands" 488)::(Ry P).take 39)
noncomputable def Ud:Obj:={ cls:=.none,data:=.fields (Kh (PY.take 93)) }
noncomputable def Uc:Obj:=N9 [(.str "corner" 388),(.str "came_from" 389),(.str "one" 390),(.str "other" 391),(.str "turn" 392),(.str "other_turn" 393)]
noncomputable def Ub:Obj:=hF .none QZ "is_met_sooner" 0 .none .none
noncomputable def Ua:Obj:=hC "is_met_sooner" 385 386 387 395 159 160 161 162 163 79 4 0 0 3 181 394 79 MC
noncomputable def U9:Obj:=N7 QZ "is_met_sooner" (.str "spotlook.rings" 364) 164
noncomputable def U8:Obj:=N9 [(.str "plot" 400),(.str "leaving" 401),(.str "face" 402),(.str "came_from" 403),(.str "corner" 404),(.str "back" 405),(.str "best" 406),(.str "rival" 407)]
noncomputable def U7:Obj:=hF .none QY "face_behind" 0 .none .none
noncomputable def U6:Obj:=hC "face_behind" 397 398 399 409 166 167 168 169 170 85 3 0 0 3 181 408 85 MC
noncomputable def U5:Obj:=N7 QY "face_behind" (.str "spotlook.rings" 364) 171
noncomputable def U4:Obj:=N9 [(.str "plot" 414),(.str "leaving" 415),(.str "face" 416),(.str "ring" 417),(.str "at" 418)]
noncomputable def U3:Obj:=hF .none QX "ring_from" 0 .none .none
noncomputable def U2:Obj:=hC "ring_from" 411 412 413 420 173 174 175 176 177 93 3 0 0 3 181 419 93 MC
noncomputable def U1:Obj:=N7 QX "ring_from" (.str "spotlook.rings" 364) 178
noncomputable def U0:Obj:=N9 [(.str "plot" 425),(.str "leaving" 426),(.str "rings" 427),(.str "gone_along" 428),(.str "face" 429),(.str "ring" 430),(.str "part" 431)]
noncomputable def UZ:Obj:=hF .none QW "rings_of" 0 .none .none
noncomputable def UY:Obj:=hC "rings_of" 422 423 424 433 180 181 182 183 184 100 1 0 0 3 181 432 100 MC
noncomputable def UX:Obj:=N7 QW "rings_of" (.str "spotlook.rings" 364) 185
noncomputable def UW:Obj:=hF .none QV "twice_area" 0 .none .none
noncomputable def UU:Obj:=O4 "twice_area" "twice_area" 435 436 437 111 2 3 187 MC 188 .none .none (.ref 189) 438 439
noncomputable def UT:Obj:=N7 QV "twice_area" (.str "spotlook.rings" 364) 190
noncomputable def US:Obj:=N9 [(.str "plot" 444),(.str "ring" 445),(.str "top" 446),(.str "bottom" 447)]
noncomputable def UR:Obj:=hF .none QU "ring_area" 0 .none .none
noncomputable def UQ:Obj:=hC "ring_area" 441 442 443 449 192 193 194 195 196 120 2 0 0 3 181 448 120 MC
noncomputable def UP:Obj:=N7 QU "ring_area" (.str "spotlook.rings" 364) 197
noncomputable def UO:Obj:=N9 [(.str "wall" 456),(.str "spot" 457)]
noncomputable def UN:Obj:=hF .none QT "spans" 0 .none .none
noncomputable def UM:Obj:=hC "spans" 453 454 455 459 199 200 201 202 203 124 2 0 0 3 181 458 124 MC
noncomputable def UL:Obj:=N7 QT "spans" (.str "spotlook.above" 451) 204
noncomputable def UK:Obj:=N9 [(.str "one" 464),(.str "other" 465),(.str "start" 466),(.str "end" 467),(.str "place" 468),(.str "deciding" 469)]
noncomputable def UJ:Obj:=hF .none QS "is_above" 0 .none .none
noncomputable def UI:Obj:=hC "is_above" 461 462 463 471 206 207 208 209 210 126 2 0 0 3 181 470 126 MC
noncomputable def UH:Obj:=N7 QS "is_above" (.str "spotlook.above" 451) 211
noncomputable def UG:Obj:=N9 [(.str "walls" 476),(.str "upper" 477),(.str "wall" 478)]
noncomputable def UE:Obj:=hF .none QR "upper_of" 0 .none .none
noncomputable def UD:Obj:=hC "upper_of" 473 474 475 480 213 214 215 216 217 134 1 0 0 3 181 479 134 MC
noncomputable def UC:Obj:=N7 QR "upper_of" (.str "spotlook.above" 451) 218
noncomputable def UB:Obj:=hF .none QP "upper_below" 0 .none .none
noncomputable def UA:Obj:=O4 "upper_below" "upper_below" 482 483 484 140 2 3 220 MC 221 .none .none (.ref 222) 485 486
noncomputable def Tz:Obj:=N7 QP "upper_below" (.str "spotlook.above" 451) 223
noncomputable def Tw:Obj:=N9 [(.str "plot" 493),(.str "outers" 494),(.str "inners" 495),(.str "ring" 496)]
noncomputable def Tv:Obj:=hF .none QO "outer_and_inner" 0 .none .none
noncomputable def Tu:Obj:=hC "outer_and_inner" 490 491 492 498 225 226 227 228 229 144 1 0 0 3 181 497 144 MC
noncomputable def Tt:Obj:=N7 QO "outer_and_inner" (.str "spotlook.lands" 488) 230
noncomputable def Ts:Obj:=N9 [(.str "plot" 503),(.str "ring" 504),(.str "first" 505),(.str "face" 506)]
noncomputable def Tq:Obj:=hF .none QN "first_corner" 0 .none .none
noncomputable def Tp:Obj:=hC "first_corner" 500 501 502 508 232 233 234 235 236 152 2 0 0 3 181 507 152 MC
noncomputable def To:Obj:=N7 QN "first_corner" (.str "spotlook.lands" 488) 237
noncomputable def Tn(P:JD):Obj:=Qj 52 (hE P "__name__" 165 PV::(Ry P).take 51)
noncomputable def Tj:Obj:={ cls:=.none,data:=.fields (Kh (PY.take 129)) }
noncomputable def Ti:Obj:=N9 [(.str "plot" 513),(.str "lands" 514),(.str "corner" 515),(.str "wall" 516)]
noncomputable def Th:Obj:=hF .none QM "land_about" 0 .none .none
noncomputable def Tf:Obj:=hC "land_about" 510 511 512 518 239 240 241 242 243 157 3 0 0 3 181 517 157 MC
noncomputable def Te:Obj:=N7 QM "land_about" (.str "spotlook.lands" 488) 244
noncomputable def Td:Obj:=hF .none QL "lands_of_faces" 0 .none .none
noncomputable def Tc:Obj:=O4 "lands_of_faces" "lands_of_faces" 520 521 522 160 1 3 246 MC 247 .none .none (.ref 248) 523 524
noncomputable def Tb:Obj:=N7 QL "lands_of_faces" (.str "spotlook.lands" 488) 249
noncomputable def Ta:Obj:=hF .none QK "lands_of" 0 .none .none
noncomputable def T9:Obj:=O4 "lands_of" "lands_of" 526 527 528 172 1 3 251 MC 252 .none .none (.ref 253) 529 530
noncomputable def T8:Obj:=N7 QK "lands_of" (.str "spotlook.lands" 488) 254
noncomputable def T7:Obj:=N9 [(.str "plot" 537),(.str "corners" 538),(.str "wall" 539),(.str "end" 540)]
noncomputable def T6:Obj:=hF .none QJ "corners_of" 0 .none .none
noncomputable def T5:Obj:=hC "corners_of" 534 535 536 542 256 257 258 259 260 180 1 0 0 3 181 541 180 MC
noncomputable def T4:Obj:=N7 QJ "corners_of" (.str "spotlook.plots" 532) 261
noncomputable def T3:Obj:=N9 [(.str "_law_script" 549),(.str "_law_k" 550)]
noncomputable def T1:Obj:=hF .none QI "_law_cell_at" 0 .none .none
noncomputable def TZ:Obj:=hC "_law_cell_at" 546 547 548 552 263 264 265 266 267 187 2 0 0 3 181 551 187 MC
noncomputable def TY:Obj:=N7 QI "_law_cell_at" PV 268
noncomputable def TX:Obj:=N9 [(.str "_law_row" 557),(.str "_law_base" 558),(.str "_law_rest" 559),(.str "_law_number" 560)]
noncomputable def TV:Obj:=hF .none QH "_law_take" 0 .none .none
noncomputable def TU:Obj:=hC "_law_take" 554 555 556 562 270 271 272 273 274 191 2 0 0 3 181 561 191 MC
noncomputable def TR:Obj:=N7 QH "_law_take" PV 275
noncomputable def TQ:Obj:=N9 [(.str "_law_top" 567),(.str "_law_bottom" 568),(.str "_law_one" 569),(.str "_law_other" 570)]
noncomputable def TN:Obj:=hF .none QG "_law_low" 0 .none .none
noncomputable def TM:Obj:=hC "_law_low" 564 565 566 572 277 278 279 280 281 200 2 0 0 3 181 571 200 MC
noncomputable def TL:Obj:=N7 QG "_law_low" PV 282
noncomputable def TK:Obj:=N9 [(.str "_law_row" 577),(.str "_law_top" 578),(.str "_law_bottom" 579),(.str "_law_far" 580)]
noncomputable def TJ:Obj:=hF .none QF "_law_scale" 0 .none .none
noncomputable def TH:Obj:=hC "_law_scale" 574 575 576 582 284 285 286 287 288 208 1 0 0 3 181 581 208 MC
noncomputable def TF:Obj:=N7 QF "_law_scale" PV 289
noncomputable def TC:Obj:=N9 [(.str "_law_scale_here" 587),(.str "_law_unit" 588),(.str "_law_top" 589),(.str "_law_bottom" 590),(.str "_law_x" 591),(.str "_law_y" 592)]
noncomputable def TB:Obj:=hF .none QE "_law_spot" 0 .none .none
noncomputable def Sz:Obj:=hC "_law_spot" 584 585 586 594 291 292 293 294 295 214 2 0 0 3 181 593 214 MC
noncomputable def Sy:Obj:=N7 QE "_law_spot" PV 296
noncomputable def Sx:Obj:=hF .none QD "_law_made" 0 .none .none
noncomputable def Sw:Obj:=O4 "_law_made" "_law_made" 596 597 598 217 2 3 298 MC 299 .none .none (.ref 300) 599 600
noncomputable def Sv:Obj:=N7 QD "_law_made" PV 301
noncomputable def Su:Obj:=N9 [(.str "_law_one" 605),(.str "_law_two" 606),(.str "_law_three" 607),(.str "_law_far" 608),(.str "_law_beside" 609),(.str "_law_found" 610)]
noncomputable def Ss:Obj:=hF .none QC "_law_turn" 0 .none .none
noncomputable def Sr:Obj:=hC "_law_turn" 602 603 604 612 303 304 305 306 307 219 3 0 0 3 181 611 219 MC
noncomputable def Sq:Obj:=N7 QC "_law_turn" PV 308
noncomputable def So:Obj:=N9 [(.str "_law_shut" 617),(.str "_law_spot_here" 618)]
noncomputable def Sm:Obj:=hF .none QB "_law_on" 0 .none .none
noncomputable def Sl:Obj:=hC "_law_on" 614 615 616 620 310 311 312 313 314 224 2 0 0 3 181 619 224 MC
noncomputable def Sk:Obj:=N7 QB "_law_on" PV 315
noncomputable def Sj(P:JD):Obj:=Qj 57 (hE P "__name__" 165 PV::(Ry P).take 56)
noncomputable def Si:Obj:={ cls:=.none,data:=.fields (Kh (PY.take 144)) }
noncomputable def Sh:Obj:=hF .none QA "_law_fair" 0 .none .none
noncomputable def Sf:Obj:=O4 "_law_fair" "_law_fair" 622 623 624 226 2 3 317 MC 318 .none .none (.ref 319) 625 626
noncomputable def Se:Obj:=N7 QA "_law_fair" PV 320
noncomputable def Sd:Obj:=hF .none Pz "_law_shuts_here" 0 .none .none
noncomputable def Sb:Obj:=O4 "_law_shuts_here" "_law_shuts_here" 628 629 630 236 3 3 322 MC 323 .none .none (.ref 324) 631 632
noncomputable def Sa:Obj:=N7 Pz "_law_shuts_here" PV 325
noncomputable def S9:Obj:=N9 [(.str "_law_plot" 637),(.str "_law_face" 638)]
noncomputable def S8:Obj:=hF .none Py "_law_ends" 0 .none .none
noncomputable def S7:Obj:=hC "_law_ends" 634 635 636 640 327 328 329 330 331 247 2 0 0 3 181 639 247 MC
noncomputable def S6:Obj:=N7 Py "_law_ends" PV 332
noncomputable def S5:Obj:=hF .none Px "_law_groups" 0 .none .none
noncomputable def S4:Obj:=O4 "_law_groups" "_law_groups" 642 643 644 249 1 3 334 MC 335 .none .none (.ref 336) 645 646
noncomputable def S3:Obj:=N7 Px "_law_groups" PV 337
noncomputable def S2:Obj:=N9 [(.str "_law_script" 651),(.str "_law_k" 652),(.str "_law_row" 653),(.str "_law_scale_here" 654),(.str "_law_shuts" 655),(.str "_law_plot" 656),(.str "_law_rings" 657),(.str "_law_faces" 658),(.str "_law_ring" 659),(.str "_law_total" 660),(.str "_law_groups_here" 661),(.str "_law_flat" 662),(.str "_law_one" 663),(.str "_law_other" 664),(.str "_law_area" 665)]
noncomputable def S1:Obj:=hF .none Pw "law" 0 .none .none
noncomputable def S0:Obj:=hC "law" 648 649 650 667 339 340 341 342 343 257 1 0 0 3 181 666 257 MC
noncomputable def SY:Obj:=N7 Pw "law" PV 344
noncomputable def YD(P:JD):List Obj:=[PySem.W.boot_o_0 P,PySem.W.boot_o_1 P,PySem.W.boot_o_2 P,PySem.W.boot_o_3 P,PySem.W.boot_o_4 P,PySem.W.boot_o_5 P,PySem.W.boot_o_6 P,PySem.W.boot_o_7 P,PySem.W.boot_o_8 P,PySem.W.boot_o_9 P,PySem.W.boot_o_10 P,Wv,Wu,Ws,Wr,Wq P]
noncomputable def YC(P:JD):List Obj:=[Wo,Wn,Wm,Wk P,Wj,Wi,Wh P,Wg,Wf,We,Wd,Wc P,Wb,Wa,W9,W8 P]
noncomputable def YB(P:JD):List Obj:=[W7,W5,W4 P,W3,W2,W0,WZ,WY,WX,WW,WV,WU,WT,WS,WR,WQ]
noncomputable def YA(P:JD):List Obj:=[WO,WN,WM,WL,WK,WJ,WI,WH,WG,WE,WD P,WC,WB,WA,Vz,Vy]
noncomputable def Xz(P:JD):List Obj:=[Vx,Vw,Vv,Vu,Vt,Vs,Vr,Vq,Vp,Vo,Vn,Vm,Vl,Vk,Vj,Vi]
noncomputable def Xy(P:JD):List Obj:=[Vh,Vg,Vf,Ve,Vd,Vb,Va,V9,V8,V7,V6,V5,V4,V3,V2,V1]
noncomputable def Xx(P:JD):List Obj:=[V0,VZ,VY,VX,Uo,Um,Ul,Uk,Uj,Ui,Uh,Ug,Ue P,Ud,Uc,Ub]
noncomputable def Xw(P:JD):List Obj:=[Ua,U9,U8,U7,U6,U5,U4,U3,U2,U1,U0,UZ,UY,UX,UW,UU]
noncomputable def Xv(P:JD):List Obj:=[UT,US,UR,UQ,UP,UO,UN,UM,UL,UK,UJ,UI,UH,UG,UE,UD]
noncomputable def Xu(P:JD):List Obj:=[UC,UB,UA,Tz,Tw,Tv,Tu,Tt,Ts,Tq,Tp,To,Tn P,Tj,Ti,Th]
noncomputable def Wz(P:JD):List Obj:=[Tf,Te,Td,Tc,Tb,Ta,T9,T8,T7,T6,T5,T4,T3,T1,TZ,TY]
noncomputable def Wy(P:JD):List Obj:=[TX,TV,TU,TR,TQ,TN,TM,TL,TK,TJ,TH,TF,TC,TB,Sz,Sy]
noncomputable def Wx(P:JD):List Obj:=[Sx,Sw,Sv,Su,Ss,Sr,Sq,So,Sm,Sl,Sk,Sj P,Si,Sh,Sf,Se]
noncomputable def Ww(P:JD):List Obj:=[Sd,Sb,Sa,S9,S8,S7,S6,S5,S4,S3,S2,S1,S0,SY]
noncomputable def fA(c i:Nat)(P:JD):Obj:=(([YD P,YC P,YB P,YA P,Xz P,Xy P,Xx P,Xw P,Xv P,Xu P,Wz P,Wy P,Wx P,Ww P]:List (List Obj)).getD c []).getD i { cls:=.none }
noncomputable def Xi(n:Nat->Jz->Jz->Jz)(e:Jz):Jz:=(fun m:Nat->Jz=>(n 0 (n 1 (n 3 (m 7) (m 11)) (n 5 (m 9) (m 13))) (n 2 (n 4 (m 8) (m 12)) (n 6 (m 10) (m 14))))) fun a=>n a e e
noncomputable def tX0(f:Nat->Nat->JD->Obj)(P:JD):Jz:=Xi (fun k=>.node (f (k/16) (k%16) P)) .nil
noncomputable def Xh(n:Nat->Jz->Jz->Jz)(e:Jz):Jz:=(fun m:Nat->Jz=>(n 0 (n 1 (n 15 (n 7 (m 17) (m 22)) (n 11 (m 12) (m 26))) (n 5 (n 9 (m 19) (m 24)) (n 13 (m 21) e))) (n 2 (n 4 (n 8 (m 18) (m 23)) (n 16 (m 20) e)) (n 6 (n 10 (m 11) (m 25)) (n 14 (m 11) e))))) fun a=>n a e e
noncomputable def tX1(f:Nat->Nat->JD->Obj)(P:JD):Jz:=Xh (fun k=>.node (f (k/16) (k%16) P)) .nil
noncomputable def Xg(n:Nat->Jz->Jz->Jz)(e:Jz):Jz:=(fun m:Nat->Jz=>(n 0 (n 1 (n 27 (n 7 (n 17 (n 11 (m 50) e) (m 11)) (n 22 (n 37 (m 11) e) (m 12))) (n 11 (n 12 (n 11 (m 53) e) (m 43)) (n 26 (m 11) (m 48)))) (n 5 (n 9 (n 19 (n 32 (m 51) e) (m 42)) (n 24 (n 12 (m 56) e) (m 11))) (n 13 (n 21 (n 35 (m 12) e) (m 45)) (n 18 (m 40) (m 11))))) (n 2 (n 4 (n 8 (n 18 (n 12 (m 11) e) (m 12)) (n 29 (n 11 (m 55) e) (m 46))) (n 28 (n 20 (n 34 (m 11) e) (m 44)) (n 30 (m 39) (m 49)))) (n 6 (n 10 (n 11 (n 33 (m 52) e) (m 11)) (n 25 (n 38 (m 57) e) (m 47))) (n 14 (n 11 (n 36 (m 54) e) (m 11)) (n 31 (m 41) (m 12))))))) fun a=>n a e e
noncomputable def tX2(f:Nat->Nat->JD->Obj)(P:JD):Jz:=Xg (fun k=>.node (f (k/16) (k%16) P)) .nil
noncomputable def Xf(n:Nat->Jz->Jz->Jz)(e:Jz):Jz:=(fun m:Nat->Jz=>(n 0 (n 1 (n 58 (n 7 (n 17 (n 11 (n 50 (m 11) e) (m 71)) (n 11 (n 61 (m 98) e) (m 12))) (n 22 (n 37 (n 11 (m 93) e) (m 11)) (n 12 (n 66 (m 103) e) (m 84)))) (n 11 (n 12 (n 11 (n 53 (m 11) e) (m 11)) (n 43 (n 12 (m 100) e) (m 82))) (n 26 (n 11 (n 11 (m 12) e) (m 77)) (n 48 (n 68 (m 11) e) (m 87))))) (n 5 (n 9 (n 19 (n 32 (n 51 (m 90) e) (m 12)) (n 42 (n 63 (m 11) e) (m 11))) (n 24 (n 12 (n 56 (m 95) e) (m 76)) (n 11 (n 11 (m 12) e) (m 85)))) (n 13 (n 21 (n 35 (n 12 (m 92) e) (m 74)) (n 45 (n 11 (m 101) e) (m 11))) (n 18 (n 40 (n 60 (m 11) e) (m 79)) (n 11 (n 69 (m 106) e) (m 12)))))) (n 2 (n 4 (n 8 (n 18 (n 12 (n 11 (m 89) e) (m 11)) (n 12 (n 62 (m 99) e) (m 80))) (n 29 (n 11 (n 55 (m 94) e) (m 12)) (n 46 (n 67 (m 11) e) (m 11)))) (n 59 (n 20 (n 34 (n 11 (m 12) e) (m 73)) (n 44 (n 64 (m 11) e) (m 83))) (n 30 (n 39 (n 12 (m 96) e) (m 78)) (n 49 (n 11 (m 105) e) (m 11))))) (n 6 (n 10 (n 11 (n 33 (n 52 (m 91) e) (m 72)) (n 11 (n 11 (m 12) e) (m 81))) (n 25 (n 38 (n 57 (m 11) e) (m 11)) (n 47 (n 12 (m 104) e) (m 86)))) (n 14 (n 11 (n 36 (n 54 (m 11) e) (m 75)) (n 11 (n 65 (m 102) e) (m 12))) (n 31 (n 41 (n 11 (m 97) e) (m 11)) (n 12 (n 70 (m 107) e) (m 88)))))))) fun a=>n a e e
noncomputable def tX3(f:Nat->Nat->JD->Obj)(P:JD):Jz:=Xf (fun k=>.node (f (k/16) (k%16) P)) .nil
noncomputable def Xe(n:Nat->Jz->Jz->Jz)(e:Jz):Jz:=(fun m:Nat->Jz=>(n 0 (n 1 (n 108 (n 7 (n 17 (n 11 (n 50 (m 11) (m 128)) (n 71 (m 11) (m 146))) (n 11 (n 61 (m 98) (m 12)) (n 12 (m 118) e))) (n 22 (n 37 (n 11 (m 93) (m 11)) (n 11 (m 12) (m 151))) (n 12 (n 66 (m 103) (m 141)) (n 84 (m 11) e)))) (n 11 (n 12 (n 11 (n 53 (m 11) (m 11)) (n 11 (m 111) (m 148))) (n 43 (n 12 (m 100) (m 139)) (n 82 (m 121) e))) (n 26 (n 11 (n 11 (m 12) (m 134)) (n 77 (m 116) (m 11))) (n 48 (n 68 (m 11) (m 144)) (n 87 (m 11) e))))) (n 5 (n 9 (n 19 (n 32 (n 51 (m 90) (m 12)) (n 12 (m 110) (m 11))) (n 42 (n 63 (m 11) (m 11)) (n 11 (m 119) e))) (n 24 (n 12 (n 56 (m 95) (m 133)) (n 76 (m 11) (m 12))) (n 11 (n 11 (m 12) (m 142)) (n 85 (m 124) e)))) (n 13 (n 21 (n 35 (n 12 (m 92) (m 131)) (n 74 (m 113) (m 149))) (n 45 (n 11 (m 101) (m 11)) (n 11 (m 12) e))) (n 18 (n 40 (n 60 (m 11) (m 136)) (n 79 (m 11) (m 154))) (n 11 (n 69 (m 106) (m 12)) (n 12 (m 126) e)))))) (n 2 (n 4 (n 8 (n 18 (n 12 (n 11 (m 89) (m 11)) (n 11 (m 12) (m 147))) (n 12 (n 62 (m 99) (m 137)) (n 80 (m 11) e))) (n 29 (n 11 (n 55 (m 94) (m 12)) (n 12 (m 114) (m 11))) (n 46 (n 67 (m 11) (m 11)) (n 11 (m 123) e)))) (n 109 (n 20 (n 34 (n 11 (m 12) (m 130)) (n 73 (m 112) (m 11))) (n 44 (n 64 (m 11) (m 140)) (n 83 (m 11) e))) (n 30 (n 39 (n 12 (m 96) (m 135)) (n 78 (m 117) (m 153))) (n 49 (n 11 (m 105) (m 11)) (n 11 (m 12) e))))) (n 6 (n 10 (n 11 (n 33 (n 52 (m 91) (m 129)) (n 72 (m 11) (m 12))) (n 11 (n 11 (m 12) (m 138)) (n 81 (m 120) e))) (n 25 (n 38 (n 57 (m 11) (m 11)) (n 11 (m 115) (m 152))) (n 47 (n 12 (m 104) (m 143)) (n 86 (m 125) e)))) (n 14 (n 11 (n 36 (n 54 (m 11) (m 132)) (n 75 (m 11) (m 150))) (n 11 (n 65 (m 102) (m 12)) (n 12 (m 122) e))) (n 31 (n 41 (n 11 (m 97) (m 11)) (n 11 (m 12) (m 155))) (n 12 (n 70 (m 107) (m 145)) (n 88 (m 127) e)))))))) fun a=>n a e e
noncomputable def tX4(f:Nat->Nat->JD->Obj)(P:JD):Jz:=Xe (fun k=>.node (f (k/16) (k%16) P)) .nil
noncomputable def Xd(n:Nat->Jz->Jz->Jz)(e:Jz):Jz:=(fun m:Nat->Jz=>(n 0 (n 1 (n 156 (n 7 (n 17 (n 11 (n 50 (n 11 (m 167) e) (m 128)) (n 71 (n 11 (m 11) e) (m 146))) (n 11 (n 61 (n 98 (m 12) e) (m 12)) (n 12 (n 118 (m 11) e) (m 11)))) (n 22 (n 37 (n 11 (n 93 (m 11) e) (m 11)) (n 11 (n 12 (m 189) e) (m 151))) (n 12 (n 66 (n 103 (m 180) e) (m 141)) (n 84 (n 11 (m 12) e) (m 12))))) (n 11 (n 12 (n 11 (n 53 (n 11 (m 11) e) (m 11)) (n 11 (n 111 (m 11) e) (m 148))) (n 43 (n 12 (n 100 (m 178) e) (m 139)) (n 82 (n 121 (m 196) e) (m 159)))) (n 26 (n 11 (n 11 (n 12 (m 173) e) (m 134)) (n 77 (n 116 (m 12) e) (m 11))) (n 48 (n 68 (n 11 (m 183) e) (m 144)) (n 87 (n 11 (m 201) e) (m 11)))))) (n 5 (n 9 (n 19 (n 32 (n 51 (n 90 (m 12) e) (m 12)) (n 12 (n 110 (m 186) e) (m 11))) (n 42 (n 63 (n 11 (m 11) e) (m 11)) (n 11 (n 119 (m 195) e) (m 158)))) (n 24 (n 12 (n 56 (n 95 (m 172) e) (m 133)) (n 76 (n 11 (m 191) e) (m 12))) (n 11 (n 11 (n 12 (m 181) e) (m 142)) (n 85 (n 124 (m 11) e) (m 163))))) (n 13 (n 21 (n 35 (n 12 (n 92 (m 170) e) (m 131)) (n 74 (n 113 (m 188) e) (m 149))) (n 45 (n 11 (n 101 (m 11) e) (m 11)) (n 11 (n 12 (m 198) e) (m 161)))) (n 18 (n 40 (n 60 (n 11 (m 175) e) (m 136)) (n 79 (n 11 (m 193) e) (m 154))) (n 11 (n 69 (n 106 (m 12) e) (m 12)) (n 12 (m 126) (m 165))))))) (n 2 (n 4 (n 8 (n 18 (n 12 (n 11 (n 89 (m 11) e) (m 11)) (n 11 (n 12 (m 185) e) (m 147))) (n 12 (n 62 (n 99 (m 176) e) (m 137)) (n 80 (n 11 (m 12) e) (m 12)))) (n 29 (n 11 (n 55 (n 94 (m 12) e) (m 12)) (n 12 (n 114 (m 190) e) (m 11))) (n 46 (n 67 (n 11 (m 11) e) (m 11)) (n 11 (n 123 (m 199) e) (m 162))))) (n 157 (n 20 (n 34 (n 11 (n 12 (m 169) e) (m 130)) (n 73 (n 112 (m 12) e) (m 11))) (n 44 (n 64 (n 11 (m 179) e) (m 140)) (n 83 (n 11 (m 197) e) (m 160)))) (n 30 (n 39 (n 12 (n 96 (m 174) e) (m 135)) (n 78 (n 117 (m 192) e) (m 153))) (n 49 (n 11 (n 105 (m 11) e) (m 11)) (n 11 (n 12 (m 202) e) (m 12)))))) (n 6 (n 10 (n 11 (n 33 (n 52 (n 91 (m 168) e) (m 129)) (n 72 (n 11 (m 187) e) (m 12))) (n 11 (n 11 (n 12 (m 177) e) (m 138)) (n 81 (n 120 (m 11) e) (m 11)))) (n 25 (n 38 (n 57 (n 11 (m 11) e) (m 11)) (n 11 (n 115 (m 11) e) (m 152))) (n 47 (n 12 (n 104 (m 182) e) (m 143)) (n 86 (n 125 (m 200) e) (m 164))))) (n 14 (n 11 (n 36 (n 54 (n 11 (m 171) e) (m 132)) (n 75 (n 11 (m 11) e) (m 150))) (n 11 (n 65 (n 102 (m 12) e) (m 12)) (n 12 (n 122 (m 11) e) (m 11)))) (n 31 (n 41 (n 11 (n 97 (m 11) e) (m 11)) (n 11 (n 12 (m 194) e) (m 155))) (n 12 (n 70 (n 107 (m 184) e) (m 145)) (n 88 (m 127) (m 166))))))))) fun a=>n a e e
noncomputable def tX5(f:Nat->Nat->JD->Obj)(P:JD):Jz:=Xd (fun k=>.node (f (k/16) (k%16) P)) .nil
noncomputable def Xc(n:Nat->Jz->Jz->Jz)(e:Jz):Jz:=(fun m:Nat->Jz=>(n 0 (n 1 (n 203 (n 7 (n 17 (n 11 (n 50 (n 11 (m 167) e) (n 128 (m 205) e)) (n 71 (n 11 (m 11) e) (m 146))) (n 11 (n 61 (n 98 (m 12) e) (n 12 (m 12) e)) (n 12 (n 118 (m 11) e) (m 11)))) (n 22 (n 37 (n 11 (n 93 (m 11) e) (n 11 (m 11) e)) (n 11 (n 12 (m 189) e) (m 151))) (n 12 (n 66 (n 103 (m 180) e) (n 141 (m 219) e)) (n 84 (n 11 (m 12) e) (m 12))))) (n 11 (n 12 (n 11 (n 53 (n 11 (m 11) e) (n 11 (m 12) e)) (n 11 (n 111 (m 11) e) (m 148))) (n 43 (n 12 (n 100 (m 178) e) (n 139 (m 11) e)) (n 82 (n 121 (m 196) e) (m 159)))) (n 26 (n 11 (n 11 (n 12 (m 173) e) (n 134 (m 212) e)) (n 77 (n 116 (m 12) e) (m 11))) (n 48 (n 68 (n 11 (m 183) e) (m 144)) (n 87 (n 11 (m 201) e) (m 11)))))) (n 5 (n 9 (n 19 (n 32 (n 51 (n 90 (m 12) e) (n 12 (m 207) e)) (n 12 (n 110 (m 186) e) (m 11))) (n 42 (n 63 (n 11 (m 11) e) (n 11 (m 216) e)) (n 11 (n 119 (m 195) e) (m 158)))) (n 24 (n 12 (n 56 (n 95 (m 172) e) (n 133 (m 211) e)) (n 76 (n 11 (m 191) e) (m 12))) (n 11 (n 11 (n 12 (m 181) e) (n 142 (m 221) e)) (n 85 (n 124 (m 11) e) (m 163))))) (n 13 (n 21 (n 35 (n 12 (n 92 (m 170) e) (n 131 (m 209) e)) (n 74 (n 113 (m 188) e) (m 149))) (n 45 (n 11 (n 101 (m 11) e) (n 11 (m 218) e)) (n 11 (n 12 (m 198) e) (m 161)))) (n 18 (n 40 (n 60 (n 11 (m 175) e) (n 136 (m 214) e)) (n 79 (n 11 (m 193) e) (m 154))) (n 11 (n 69 (n 106 (m 12) e) (m 12)) (n 12 (n 126 (m 11) e) (m 165))))))) (n 2 (n 4 (n 8 (n 18 (n 12 (n 11 (n 89 (m 11) e) (n 11 (m 206) e)) (n 11 (n 12 (m 185) e) (m 147))) (n 12 (n 62 (n 99 (m 176) e) (n 137 (m 215) e)) (n 80 (n 11 (m 12) e) (m 12)))) (n 29 (n 11 (n 55 (n 94 (m 12) e) (n 12 (m 12) e)) (n 12 (n 114 (m 190) e) (m 11))) (n 46 (n 67 (n 11 (m 11) e) (n 11 (m 220) e)) (n 11 (n 123 (m 199) e) (m 162))))) (n 204 (n 20 (n 34 (n 11 (n 12 (m 169) e) (n 130 (m 208) e)) (n 73 (n 112 (m 12) e) (m 11))) (n 44 (n 64 (n 11 (m 179) e) (n 140 (m 12) e)) (n 83 (n 11 (m 197) e) (m 160)))) (n 30 (n 39 (n 12 (n 96 (m 174) e) (n 135 (m 213) e)) (n 78 (n 117 (m 192) e) (m 153))) (n 49 (n 11 (n 105 (m 11) e) (m 11)) (n 11 (n 12 (m 202) e) (m 12)))))) (n 6 (n 10 (n 11 (n 33 (n 52 (n 91 (m 168) e) (n 129 (m 11) e)) (n 72 (n 11 (m 187) e) (m 12))) (n 11 (n 11 (n 12 (m 177) e) (n 138 (m 217) e)) (n 81 (n 120 (m 11) e) (m 11)))) (n 25 (n 38 (n 57 (n 11 (m 11) e) (n 11 (m 11) e)) (n 11 (n 115 (m 11) e) (m 152))) (n 47 (n 12 (n 104 (m 182) e) (m 143)) (n 86 (n 125 (m 200) e) (m 164))))) (n 14 (n 11 (n 36 (n 54 (n 11 (m 171) e) (n 132 (m 210) e)) (n 75 (n 11 (m 11) e) (m 150))) (n 11 (n 65 (n 102 (m 12) e) (n 12 (m 11) e)) (n 12 (n 122 (m 11) e) (m 11)))) (n 31 (n 41 (n 11 (n 97 (m 11) e) (n 11 (m 11) e)) (n 11 (n 12 (m 194) e) (m 155))) (n 12 (n 70 (n 107 (m 184) e) (m 145)) (n 88 (n 127 (m 12) e) (m 166))))))))) fun a=>n a e e
noncomputable def tX6(f:Nat->Nat->JD->Obj)(P:JD):Jz:=Xc (fun k=>.node (f (k/16) (k%16) P)) .nil
noncomputable def hX0(f:Nat->Nat->JD->Obj)(P:JD):Heap:=(fun g:Nat->Obj=>(⟨⟨[g 0,g 1,g 2,g 3,g 4,g 5,g 6,g 7,g 8,g 9,g 10,g 11,g 12,g 13,g 14]⟩,{}⟩:Heap)) fun k=>f (k/16) (k%16) P
noncomputable def hX1(f:Nat->Nat->JD->Obj)(P:JD):Heap:=(fun g:Nat->Obj=>(⟨⟨[g 0,g 1,g 2,g 203,g 4,g 5,g 6,g 7,g 8,g 9,g 10,g 11,g 204,g 13,g 14,g 17,g 18,g 19,g 11,g 12,g 20,g 21,g 11,g 22,g 29,g 24,g 25,g 26,g 30,g 18,g 31,g 11,g 12,g 32,g 33,g 11,g 34,g 35,g 36,g 37,g 11,g 12,g 38,g 11,g 39,g 40,g 41,g 11,g 12,g 42,g 11,g 43,g 44,g 45,g 11,g 12,g 46,g 11,g 47,g 48,g 49,g 11,g 12,g 50,g 11,g 51,g 52,g 53,g 11,g 12,g 54,g 11,g 55,g 56,g 57,g 11,g 12,g 60,g 11,g 61,g 62,g 63,g 11,g 12,g 64,g 11,g 65,g 66,g 67,g 11,g 12,g 68,g 11,g 69,g 70,g 71,g 11,g 12,g 72,g 11,g 73,g 74,g 75,g 11,g 12,g 76,g 11,g 77,g 78,g 79,g 11,g 12,g 80,g 11,g 81,g 82,g 83,g 11,g 12,g 84,g 11,g 85,g 86,g 87,g 11,g 12,g 88,g 11,g 89,g 90,g 91,g 11,g 12,g 92,g 11,g 93,g 94,g 95,g 11,g 12,g 96,g 11,g 97,g 98,g 99,g 11,g 12,g 100,g 11,g 101,g 102,g 103,g 11,g 12,g 104,g 11,g 105,g 106,g 107,g 11,g 12,g 110,g 11,g 111,g 112,g 113,g 11,g 12,g 114,g 11,g 115,g 116,g 117,g 11,g 12,g 118,g 11,g 119,g 120,g 121,g 11,g 12,g 122,g 11,g 123,g 124,g 125,g 11,g 12,g 126,g 127,g 128,g 11,g 12,g 129,g 11,g 130,g 131,g 132,g 11,g 12,g 133,g 11,g 134,g 135,g 136,g 11,g 12,g 137,g 11,g 138,g 139,g 140,g 11,g 12,g 141,g 11,g 142,g 143,g 144,g 11,g 12,g 145,g 146,g 147,g 11,g 12,g 148,g 11,g 149,g 150,g 151,g 11,g 12,g 152,g 11,g 153,g 154,g 155,g 11,g 12,g 158,g 11,g 159,g 160,g 161,g 11,g 12,g 162,g 163,g 164,g 11,g 12,g 165,g 166,g 167,g 11,g 12,g 168,g 11,g 169,g 170,g 171,g 11,g 12,g 172,g 11,g 173,g 174,g 175,g 11,g 12,g 176,g 11,g 177,g 178,g 179,g 11,g 12,g 180,g 11,g 181,g 182,g 183,g 11,g 12,g 184,g 11,g 185,g 186,g 187,g 11,g 12,g 188,g 11,g 189,g 190,g 191,g 11,g 12,g 192,g 193,g 194,g 11,g 12,g 195,g 11,g 196,g 197,g 198,g 11,g 12,g 199,g 11,g 200,g 201,g 202,g 11,g 12,g 205,g 206,g 207,g 11,g 12,g 208,g 209,g 210,g 11,g 12,g 211,g 11,g 212,g 213,g 214,g 11,g 12,g 215,g 216,g 217,g 11,g 12,g 218,g 11,g 219,g 220,g 221]⟩,{}⟩:Heap)) fun k=>f (k/16) (k%16) P
theorem laid:(fun(_:Jl) (_:Jl) (_:Nat->Nat->JD->Obj) (_:List Stmt) (_:List Stmt) (_:List Stmt) (_:List Stmt) (_:List Stmt) (_:List Stmt)=>MC) pw2 vw fA sx0 sx1 sx2 sx3 sx4 sx5=MC:=by k_qdec
end QQ
namespace PySem.W.Fast
noncomputable def tw7584988100273487613:Jl:=tw4061903402435717205
theorem te7584988100273487613:JF=tw7584988100273487613:=Eq.trans (by kernel_rfl:JF=QQ.pw2) te4061903402435717205
noncomputable def tw10817605437074373857:Jl:=tw2543460329597916322
theorem te10817605437074373857:QQ.vw=tw10817605437074373857:=te2543460329597916322
noncomputable def tw3626481181963992541:List Stmt:=tw4220349153739756805
theorem te3626481181963992541:QQ.sx0=tw3626481181963992541:=te4220349153739756805
noncomputable def tw11827417834131878156:List Stmt:=tw11397161696757032129
theorem te11827417834131878156:QQ.sx1=tw11827417834131878156:=te11397161696757032129
noncomputable def tw5560170903632425591:List Stmt:=tw10303515436491237874
theorem te5560170903632425591:QQ.sx2=tw5560170903632425591:=te10303515436491237874
noncomputable def tw4052553198813884277:List Stmt:=tw12358083906500975388
theorem te4052553198813884277:QQ.sx3=tw4052553198813884277:=te12358083906500975388
noncomputable def tw219994849341212555:List Stmt:=tw2861187580803015100
theorem te219994849341212555:QQ.sx4=tw219994849341212555:=te2861187580803015100
noncomputable def tw13854672536079076882:List Stmt:=tw9932084693255007381
theorem te13854672536079076882:QQ.sx5=tw13854672536079076882:=te9932084693255007381
noncomputable def tw10881075231399398886:JD->BT:=QQ.tX0 tw16523235828492288951
theorem te10881075231399398886:QQ.tX0 QQ.fA=tw10881075231399398886:=congrArg QQ.tX0 te16523235828492288951
noncomputable def tw14386951969871711771:JD->BT:=QQ.tX1 tw16523235828492288951
theorem te14386951969871711771:QQ.tX1 QQ.fA=tw14386951969871711771:=congrArg QQ.tX1 te16523235828492288951
noncomputable def tw3219857097006684571:JD->BT:=QQ.tX2 tw16523235828492288951
theorem te3219857097006684571:QQ.tX2 QQ.fA=tw3219857097006684571:=congrArg QQ.tX2 te16523235828492288951
noncomputable def tw6733811475460709906:JD->BT:=QQ.tX3 tw16523235828492288951
theorem te6733811475460709906:QQ.tX3 QQ.fA=tw6733811475460709906:=congrArg QQ.tX3 te16523235828492288951
noncomputable def tw8797155694497243918:JD->BT:=QQ.tX4 tw16523235828492288951
theorem te8797155694497243918:QQ.tX4 QQ.fA=tw8797155694497243918:=congrArg QQ.tX4 te16523235828492288951
noncomputable def tw7109156794469638315:JD->BT:=QQ.tX5 tw16523235828492288951
theorem te7109156794469638315:QQ.tX5 QQ.fA=tw7109156794469638315:=congrArg QQ.tX5 te16523235828492288951
noncomputable def tw3974033837543377:JD->BT:=QQ.tX6 tw16523235828492288951
theorem te3974033837543377:QQ.tX6 QQ.fA=tw3974033837543377:=congrArg QQ.tX6 te16523235828492288951
noncomputable def tw9579811639090102660:JD->PySem.Heap:=QQ.hX0 tw16523235828492288951
theorem te9579811639090102660:QQ.hX0 QQ.fA=tw9579811639090102660:=congrArg QQ.hX0 te16523235828492288951
noncomputable def tw14848401763208437232:JD->PySem.Heap:=QQ.hX1 tw16523235828492288951
theorem te14848401763208437232:QQ.hX1 QQ.fA=tw14848401763208437232:=congrArg QQ.hX1 te16523235828492288951
end PySem.W.Fast
open PySem PySem.W PyProof.Rows
set_option maxRecDepth 100000 in
set_option maxHeartbeats 0 in
theorem PySem.Challenge.cw_spotlook_k20_whole_rings_of_a_plot_holds : PySem.Challenge.rw_spotlook_k20_whole_rings_of_a_plot.Holds := by
 w_on;o_law;o_head (PySem.W.kHook QQ.kK [↑3,↑45,↑46,↑52,↑53,↑59,↑60,↑66,↑67,↑73,↑74,↑80,↑81,↑87,↑88,↑94,↑95,↑101,↑102,↑108,↑109,↑115,↑116,↑122,↑123,↑129,↑130,↑136,↑137,↑143,↑144,↑150,↑151,↑157,↑158,↑164,↑165,↑171,↑172,↑178,↑179,↑185,↑186,↑190,↑191,↑197,↑198,↑204,↑205,↑211,↑212,↑218,↑219,↑223,↑224,↑230,↑231,↑237,↑238,↑244,↑245,↑249,↑250,↑254,↑255,↑261,↑262,↑268,↑269,↑275,↑276,↑282,↑283,↑289,↑290,↑296,↑297,↑301,↑302,↑308,↑309,↑315,↑316,↑320,↑321,↑325,↑326,↑332,↑333,↑337,↑338,↑344,↑345] (fun _=>by kernel_rfl));(case hw=>w_witness2)
 k_fill
 refine SD.wZ (k:=11) (x:="_law_script") (sp:=QQ.jv) (l:=PySem.Challenge.rw_spotlook_k20_whole_rings_of_a_plot) rfl rfl ⟨rfl,by decide,by decide,rfl⟩ (fun w h Y=>PySem.W.kIn_of Y) ?F QQ.C2
 case F=>
  intro w mg fa h KX G hmg
  have T:QQ.Tx (L2.KOf KX) mg:=by
   dsimp only[L2.KOf]
   constructor
   all_goals first
    |(refine' PySem.W.mg_none_of KX G ?a;(case a=>k_is))
    |(refine' SD.Txt.mk KX G ?a ?l ?c ?k;(case a=>k_is);(case l=>k_is);(case c=>k_is);(case k=>k_is))
  exact QQ.GV T hmg
